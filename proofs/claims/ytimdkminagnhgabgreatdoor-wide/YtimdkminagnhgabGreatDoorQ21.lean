import Derived.Test.YtimdkminagnhgabGreatDoorQ04
import Derived.Test.YtimdkminagnhgabGreatDoorProg
import Derived.KernelRfl
import Derived.Test.YtimdkminagnhgabGreatDoorQ05
set_option linter.all false
namespace Go.Proofs.YtimdkminagnhgabGreatDoor
open Go.Vm Go.Proofs
set_option maxRecDepth 100000
section
variable {H:Type}
def Zh5:RL' H:=[to 2 (A'i (.const (.string { data:=#[] })))]
def Zh6:RL' H:=[mv' 9 0,to 10 (A'o false (.tmp 9) (.const (.pointer none)))]
def Zh7:RL' H:=[to 2 (A'i (.const (.string { data:=#[] })))]
def Zh8:RL' H:=[mv' 11 0,to 12 (A'e 45 [.tmp 11]),to 13 (B'4 .add (.const (.string { data:=#[97,97,103,32] })) (.tmp 12)),mv' 3 13]
def Zh9:RL' H:=[mk' 4 0]
def Zia(O:HI H):RL' H:=[mv' 14 4,mv' 15 0,nl' 16 15,fl' 0 17 16,ld' O 18 17,ia' .lss 19 14 18]
def Zib(O:HI H):RL' H:=[mv' 22 3,mv' 23 4,to 24 (A'5 .add (.const (.int .i64 1)) (.tmp 23)),to 25 (A'5 .mul (.const (.int .i64 2)) (.tmp 24)),to 26 (A'x O 1 1 #[.int .i64 0] [(0,.tmp 25)]),to 27 (A'e 46 [.tmp 26]),to 28 (B'4 .add (.tmp 22) (.tmp 27)),mv' 3 28]
def Zic:RL' H:=[mv' 20 4,ik' .add 21 20 1,mv' 4 21]
def Zid:RL' H:=[mk' 5 0]
def Zie(O:HI H):RL' H:=[mv' 29 5,mv' 30 0,nl' 31 30,fl' 1 32 31,ld' O 33 32,ln' 34 33,ia' .lss 35 29 34]
def Zif:RL' H:=[mv' 38 0,mv' 39 5,to 40 (A'e 47 [.tmp 38,.tmp 39]),mv' 6 40]
def Zig:RL' H:=[mv' 41 3,mv' 42 6,to 43 (A'e 48 [.tmp 42]),to 44 (B'4 .add (.tmp 41) (.tmp 43)),mv' 3 44]
def Zih(O:HI H):RL' H:=[mv' 45 3,mv' 46 0,nl' 47 46,fl' 1 48 47,ld' O 49 48,mv' 50 5,ix' 2 51 49 50,to 52 (B'n O 2 (.tmp 51)),mv' 53 6,to 54 (A'e 49 [.tmp 52,.tmp 53]),to 55 (B'4 .add (.const (.string { data:=#[32] })) (.tmp 54)),to 56 (B'4 .add (.tmp 45) (.tmp 55)),mv' 3 56]
def Zii:RL' H:=[mv' 36 5,ik' .add 37 36 1,mv' 5 37]
def Zij(O:HI H):RL' H:=[mv' 57 3,mv' 58 0,nl' 59 58,fl' 3 60 59,ld' O 61 60,to 62 (A'x O 1 1 #[.int .i64 0] [(0,.tmp 61)]),to 63 (A'e 46 [.tmp 62]),to 64 (B'4 .add (.tmp 57) (.tmp 63)),mv' 3 64]
def Zik:RL' H:=[mk' 7 0]
def Zil(O:HI H):RL' H:=[mv' 65 7,mv' 66 0,nl' 67 66,fl' 2 68 67,ld' O 69 68,ln' 70 69,ia' .lss 71 65 70]
def Zim:RL' H:=[mv' 74 0,mv' 75 7,to 76 (A'e 50 [.tmp 74,.tmp 75]),mv' 8 76]
def Zin(O:HI H):RL' H:=[mv' 77 3,mv' 78 8,mv' 79 0,nl' 80 79,fl' 2 81 80,ld' O 82 81,mv' 83 7,ix' 2 84 82 83,fl' 0 85 84,ld' O 86 85,mv' 87 0,nl' 88 87,fl' 2 89 88,ld' O 90 89,mv' 91 7,ix' 2 92 90 91,fl' 1 93 92,ld' O 94 93,to 95 (A'x O 1 3 #[.int .i64 0] [(0,.tmp 78),(1,.tmp 86),(2,.tmp 94)]),to 96 (A'e 46 [.tmp 95]),to 97 (B'4 .add (.tmp 77) (.tmp 96)),mv' 3 97]
def Zio:RL' H:=[mv' 72 7,ik' .add 73 72 1,mv' 7 73]
def Zip:RL' H:=[mv' 98 3,mv' 2 98]
def K'W:RC' H:=λO P ro=>A'b (A'b (A'c (Zia O)) (cIf (.tmp 19) (A'f) (A'r 0))) (A'b (A'z 1 (A'c (Zib O))) (A'c Zic))
def K'X:RC' H:=λO P ro=>A'b (A'b (A'c (Zie O)) (cIf (.tmp 35) (A'f) (A'r 2))) (A'b (A'z 3 (A'b (A'c Zif) (A'b (A'c Zig) (A'c (Zih O))))) (A'c Zii))
def K'Y:RC' H:=λO P ro=>A'b (A'b (A'c (Zil O)) (cIf (.tmp 71) (A'f) (A'r 4))) (A'b (A'z 5 (A'b (A'c Zim) (A'c (Zin O)))) (A'c Zio))
def F27:RC' H:=λO P ro=>A'b (A'c Zh5) (A'b (A'b (A'c Zh6) (cIf (.tmp 10) (A'b (A'c Zh7) (A'y)) (A'f))) (A'b (A'c Zh8) (A'b (A'b (A'c Zh9) (A'z 0 (A'1 (K'W O P ro)))) (A'b (A'b (A'c Zid) (A'z 2 (A'1 (K'X O P ro)))) (A'b (A'c (Zij O)) (A'b (A'b (A'c Zik) (A'z 4 (A'1 (K'Y O P ro)))) (A'b (A'c Zip) (A'y))))))))
theorem P'Q:FN' 27 @F27 [.tmp 2] Tryz.f27:=f'n Tryz.func27
def Ziq:RL' H:=[to 2 (A'i (.const (.string { data:=#[] })))]
def Zir:RL' H:=[mv' 9 0,to 10 (A'o false (.tmp 9) (.const (.pointer none)))]
def Zis:RL' H:=[to 2 (A'i (.const (.string { data:=#[] })))]
def Zit:RL' H:=[mv' 11 0,to 12 (A'e 45 [.tmp 11]),to 13 (B'4 .add (.const (.string { data:=#[97,105,103,32] })) (.tmp 12)),mv' 3 13]
def Ziu:RL' H:=[mk' 4 0]
def Ziv(O:HI H):RL' H:=[mv' 14 4,mv' 15 0,nl' 16 15,fl' 1 17 16,ld' O 18 17,ln' 19 18,ia' .lss 20 14 19]
def Ziw:RL' H:=[mv' 23 0,mv' 24 4,to 25 (A'e 47 [.tmp 23,.tmp 24]),mv' 5 25]
def Zix(O:HI H):RL' H:=[mv' 26 3,mv' 27 0,nl' 28 27,fl' 1 29 28,ld' O 30 29,mv' 31 4,ix' 2 32 30 31,to 33 (B'n O 2 (.tmp 32)),mv' 34 5,to 35 (A'e 49 [.tmp 33,.tmp 34]),to 36 (B'4 .add (.tmp 26) (.tmp 35)),mv' 3 36]
def Ziy:RL' H:=[mv' 21 4,ik' .add 22 21 1,mv' 4 22]
def Ziz(O:HI H):RL' H:=[mv' 37 3,mv' 38 0,nl' 39 38,fl' 3 40 39,ld' O 41 40,to 42 (A'x O 1 1 #[.int .i64 0] [(0,.tmp 41)]),to 43 (A'e 46 [.tmp 42]),to 44 (B'4 .add (.tmp 37) (.tmp 43)),mv' 3 44]
def ZiA:RL' H:=[mk' 6 0]
def ZiB(O:HI H):RL' H:=[mv' 45 6,mv' 46 0,nl' 47 46,fl' 2 48 47,ld' O 49 48,ln' 50 49,ia' .lss 51 45 50]
def ZiC:RL' H:=[mv' 54 0,mv' 55 6,to 56 (A'e 50 [.tmp 54,.tmp 55]),mv' 7 56]
def ZiD(O:HI H)(ro:Nat):RL' H:=[mv' 57 0,nl' 58 57,fl' 2 59 58,ld' O 60 59,mv' 61 6,ix' 2 62 60 61,to 63 (B'n O 2 (.tmp 62)),to 8 (B'o O [.int .i64 0,.int .i64 0]),too (aSt O ro 2 (.tmp 8) (.tmp 63))]
def ZiE(O:HI H):RL' H:=[mv' 64 3,mv' 65 7,fl' 0 66 8,ld' O 67 66,ia' .sub 68 65 67,to 69 (A'e 51 [.tmp 68]),to 70 (B'4 .add (.tmp 64) (.tmp 69)),mv' 3 70]
def ZiF(O:HI H):RL' H:=[mv' 71 3,fl' 0 72 8,ld' O 73 72,fl' 1 74 8,ld' O 75 74,ia' .sub 76 73 75,to 77 (A'e 51 [.tmp 76]),to 78 (B'4 .add (.tmp 71) (.tmp 77)),mv' 3 78]
def ZiG:RL' H:=[mv' 52 6,ik' .add 53 52 1,mv' 6 53]
def ZiH:RL' H:=[mv' 79 3,mv' 2 79]
def K'Z:RC' H:=λO P ro=>A'b (A'b (A'c (Ziv O)) (cIf (.tmp 20) (A'f) (A'r 0))) (A'b (A'z 1 (A'b (A'c Ziw) (A'c (Zix O)))) (A'c Ziy))
def K'0:RC' H:=λO P ro=>A'b (A'b (A'c (ZiB O)) (cIf (.tmp 51) (A'f) (A'r 2))) (A'b (A'z 3 (A'b (A'c ZiC) (A'b (A'c (ZiD O ro)) (A'b (A'c (ZiE O)) (A'c (ZiF O)))))) (A'c ZiG))
def F28:RC' H:=λO P ro=>A'b (A'c Ziq) (A'b (A'b (A'c Zir) (cIf (.tmp 10) (A'b (A'c Zis) (A'y)) (A'f))) (A'b (A'c Zit) (A'b (A'b (A'c Ziu) (A'z 0 (A'1 (K'Z O P ro)))) (A'b (A'c (Ziz O)) (A'b (A'b (A'c ZiA) (A'z 2 (A'1 (K'0 O P ro)))) (A'b (A'c ZiH) (A'y)))))))
theorem P'R:FN' 28 @F28 [.tmp 2] Tryz.f28:=f'n Tryz.func28
def ZiI:RL' H:=[to 2 (A'i (.const (.string { data:=#[] })))]
def ZiJ(O:HI H):RL' H:=[mv' 4 0,nl' 5 4,fl' 0 6 5,ld' O 7 6,mv' 8 0,nl' 9 8,fl' 1 10 9,ld' O 11 10,ln' 12 11,ia' .add 13 7 12,mv' 14 0,nl' 15 14,fl' 2 16 15,ld' O 17 16,ln' 18 17,ia' .add 19 13 18,mv' 3 19]
def ZiK(O:HI H):RL' H:=[mv' 20 3,mv' 21 0,nl' 22 21,fl' 0 23 22,ld' O 24 23,mv' 25 0,nl' 26 25,fl' 1 27 26,ld' O 28 27,ln' 29 28,mv' 30 0,nl' 31 30,fl' 2 32 31,ld' O 33 32,ln' 34 33,to 35 (A'x O 1 6 #[.int .i64 0] [(0,.tmp 20),(1,.tmp 24),(2,.tmp 29),(3,.const (.int .i64 0)),(4,.tmp 34),(5,.const (.int .i64 1))]),to 36 (A'e 46 [.tmp 35]),mv' 2 36]
def F45:RC' H:=λO P ro=>A'b (A'c ZiI) (A'b (A'c (ZiJ O)) (A'b (A'c (ZiK O)) (A'y)))
theorem P'S:FN' 45 @F45 [.tmp 2] Tryz.f45:=f'n Tryz.func45
def ZiL:RL' H:=[to 2 (A'i (.const (.string { data:=#[] })))]
def ZiM:RL' H:=[to 3 (A'i (.const (.string { data:=#[] })))]
def ZiN:RL' H:=[mk' 4 0]
def ZiO:RL' H:=[mv' 5 4,mv' 6 0,ln' 7 6,ia' .lss 8 5 7]
def ZiP:RL' H:=[mv' 11 4,ik' .gtr 12 11 0]
def ZiQ:RL' H:=[mv' 13 3,to 14 (B'4 .add (.tmp 13) (.const (.string { data:=#[32] }))),mv' 3 14]
def ZiR(O:HI H):RL' H:=[mv' 15 3,mv' 16 0,mv' 17 4,ix' 1 18 16 17,ld' O 19 18,to 20 (A'e 48 [.tmp 19]),to 21 (B'4 .add (.tmp 15) (.tmp 20)),mv' 3 21]
def ZiS:RL' H:=[mv' 9 4,ik' .add 10 9 1,mv' 4 10]
def ZiT:RL' H:=[mv' 22 3,to 23 (B'4 .add (.tmp 22) (.const (.string { data:=#[10] }))),mv' 2 23]
def K'1:RC' H:=λO P ro=>A'b (A'b (A'c ZiO) (cIf (.tmp 8) (A'f) (A'r 0))) (A'b (A'z 1 (A'b (A'b (A'c ZiP) (cIf (.tmp 12) (A'c ZiQ) (A'f))) (A'c (ZiR O)))) (A'c ZiS))
def F46:RC' H:=λO P ro=>A'b (A'c ZiL) (A'b (A'c ZiM) (A'b (A'b (A'c ZiN) (A'z 0 (A'1 (K'1 O P ro)))) (A'b (A'c ZiT) (A'y))))
theorem P'T:FN' 46 @F46 [.tmp 2] Tryz.f46:=f'n Tryz.func46
def ZiU:RL' H:=[mk' 4 0]
def ZiV(O:HI H):RL' H:=[mv' 5 0,nl' 6 5,fl' 0 7 6,ld' O 8 7,to 9 (A'5 .add (.const (.int .i64 1)) (.tmp 8)),mv' 10 1,ia' .add 11 9 10,to 12 (A'5 .mul (.const (.int .i64 2)) (.tmp 11)),mv' 4 12]
def F47:RC' H:=λO P ro=>A'b (A'c ZiU) (A'b (A'c (ZiV O)) (A'y))
theorem L'Y:FN' 47 @F47 [.tmp 4] Tryz.f47:=f'n Tryz.func47
def ZiW:RL' H:=[to 2 (A'i (.const (.string { data:=#[] })))]
def ZiX:RL' H:=[mv' 3 0,to 4 (A'e 90 [.tmp 3]),mv' 2 4]
def F48:RC' H:=λO P ro=>A'b (A'c ZiW) (A'b (A'c ZiX) (A'y))
theorem L'Z:FN' 48 @F48 [.tmp 2] Tryz.f48:=f'n Tryz.func48
def ZiY(O:HI H):RL' H:=[to 2 (B'r O (.tmp 0)),to 4 (A'i (.const (.string { data:=#[] })))]
def ZiZ(O:HI H):RL' H:=[fl' 0 6 2,ld' O 7 6,to 8 (A'x O 1 1 #[.int .i64 0] [(0,.tmp 7)]),mv' 5 8]
def Zi0(O:HI H):RL' H:=[fl' 1 9 2,ld' O 10 9]
def Zi1:RL' H:=[ik' .eql 12 10 1,mv' 11 12]
def Zi2(O:HI H)(ro:Nat):RL' H:=[mv' 13 5,to 14 (A'x O 1 1 #[.int .i64 0] [(0,.const (.int .i64 1))]),to 15 (B'p O ro 1 8 (.tmp 13) (.tmp 14)),mv' 5 15]
def Zi3:RL' H:=[ik' .eql 17 10 2,mv' 16 17]
def Zi4(O:HI H)(ro:Nat):RL' H:=[mv' 18 5,mv' 19 1,to 20 (A'x O 1 1 #[.int .i64 0] [(0,.tmp 19)]),to 21 (B'p O ro 1 8 (.tmp 18) (.tmp 20)),mv' 5 21]
def Zi5:RL' H:=[mv' 22 5,to 23 (A'e 46 [.tmp 22]),mv' 4 23]
def F49:RC' H:=λO P ro=>A'b (A'c (ZiY O)) (A'b (A'c (ZiZ O)) (A'b (A'b (A'c (Zi0 O)) (A'z 0 (A'b (A'c Zi1) (cIf (.tmp 11) (A'c (Zi2 O ro)) (A'b (A'c Zi3) (cIf (.tmp 16) (A'c (Zi4 O ro)) (A'f))))))) (A'b (A'c Zi5) (A'y))))
theorem J'b:FN' 49 @F49 [.tmp 4] Tryz.f49:=f'n Tryz.func49
def Zi6:RL' H:=[mk' 4 0]
def Zi7(O:HI H):RL' H:=[mv' 5 0,nl' 6 5,fl' 0 7 6,ld' O 8 7,to 9 (A'5 .add (.const (.int .i64 1)) (.tmp 8)),mv' 10 0,nl' 11 10,fl' 1 12 11,ld' O 13 12,ln' 14 13,ia' .add 15 9 14,mv' 16 1,ia' .add 17 15 16,to 18 (A'5 .mul (.const (.int .i64 2)) (.tmp 17)),mv' 4 18]
def F50:RC' H:=λO P ro=>A'b (A'c Zi6) (A'b (A'c (Zi7 O)) (A'y))
theorem L'0:FN' 50 @F50 [.tmp 4] Tryz.f50:=f'n Tryz.func50
def Zi8:RL' H:=[to 2 (A'i (.const (.string { data:=#[] })))]
def Zi9:RL' H:=[mv' 3 0,ik' .lss 4 3 128]
def Zja(O:HI H):RL' H:=[mv' 5 0,to 6 (A'2 .u8 (.tmp 5)),to 7 (A'x O 1 1 #[.int .u8 0] [(0,.tmp 6)]),to 8 (G'Y O (.tmp 7)),mv' 2 8]
def Zjb(O:HI H):RL' H:=[mv' 9 0,ik' .rem 10 9 128,ik' .add 11 10 128,to 12 (A'2 .u8 (.tmp 11)),mv' 13 0,ik' .quo 14 13 128,to 15 (A'2 .u8 (.tmp 14)),to 16 (A'x O 1 2 #[.int .u8 0] [(0,.tmp 12),(1,.tmp 15)]),to 17 (G'Y O (.tmp 16)),mv' 2 17]
def F51:RC' H:=λO P ro=>A'b (A'c Zi8) (A'b (A'b (A'c Zi9) (cIf (.tmp 4) (A'b (A'c (Zja O)) (A'y)) (A'f))) (A'b (A'c (Zjb O)) (A'y)))
theorem L'1:FN' 51 @F51 [.tmp 2] Tryz.f51:=f'n Tryz.func51
def Zjc:RL' H:=[to 2 (A'i (.const (.string { data:=#[] })))]
def Zjd:RL' H:=[mv' 3 0,to 4 (A'e 130 [.tmp 3,.const (.int .i64 10)]),mv' 2 4]
def F90:RC' H:=λO P ro=>A'b (A'c Zjc) (A'b (A'c Zjd) (A'y))
theorem L'2:FN' 90 @F90 [.tmp 2] Tryz.f90:=f'n Tryz.func90
def Zje:RL' H:=[mk' 2 0]
def Zjf:RL' H:=[mv' 3 0,to 4 (A'o false (.tmp 3) (.const (.pointer none)))]
def Zjg:RL' H:=[mk' 2 0]
def Zjh(O:HI H):RL' H:=[mv' 5 0,nl' 6 5,fl' 0 7 6,ld' O 8 7,to 9 (A'5 .add (.const (.int .i64 1)) (.tmp 8)),mv' 10 0,nl' 11 10,fl' 1 12 11,ld' O 13 12,ln' 14 13,ia' .add 15 9 14,mv' 16 0,nl' 17 16,fl' 2 18 17,ld' O 19 18,ln' 20 19,ia' .add 21 15 20,mv' 2 21]
def F98:RC' H:=λO P ro=>A'b (A'c Zje) (A'b (A'b (A'c Zjf) (cIf (.tmp 4) (A'b (A'c Zjg) (A'y)) (A'f))) (A'b (A'c (Zjh O)) (A'y)))
theorem P'U:FN' 98 @F98 [.tmp 2] Tryz.f98:=f'n Tryz.func98
def Zji:RL' H:=[to 4 (A'i (.const (.bool false)))]
def Zjj:RL' H:=[mv' 7 0,to 8 (A'o false (.tmp 7) (.const (.pointer none)))]
def Zjk:RL' H:=[to 4 (A'i (.const (.bool false)))]
def Zjl:RL' H:=[mk' 5 0]
def Zjm(O:HI H):RL' H:=[mv' 9 5,mv' 10 0,nl' 11 10,fl' 1 12 11,ld' O 13 12,ln' 14 13,ia' .lss 15 9 14]
def Zjn(O:HI H):RL' H:=[mv' 18 0,nl' 19 18,fl' 1 20 19,ld' O 21 20,mv' 22 5,ix' 2 23 21 22,fl' 1 24 23,ld' O 25 24,mv' 6 25]
def Zjo:RL' H:=[mv' 26 6,ik' .neq 27 26 2,mv' 28 27,A'a 28 true 29 (mv' 29 6),A'a 28 true 30 (mv' 30 1),A'a 28 true 31 (mv' 31 5),A'a 28 true 32 (to 32 (A'w .shr (.tmp 30) (.tmp 31))),A'a 28 true 33 (ik' .and 33 32 1),A'a 28 true 34 (ia' .neq 34 29 33),to 35 (A'q (.tmp 28) (.tmp 34) (.const (.bool false)))]
def Zjp:RL' H:=[to 4 (A'i (.const (.bool false)))]
def Zjq:RL' H:=[mv' 16 5,ik' .add 17 16 1,mv' 5 17]
def Zjr:RL' H:=[to 4 (A'i (.const (.bool true)))]
def J'c:RC' H:=λO P ro=>A'b (A'b (A'c (Zjm O)) (cIf (.tmp 15) (A'f) (A'r 0))) (A'b (A'z 1 (A'b (A'c (Zjn O)) (A'b (A'c Zjo) (cIf (.tmp 35) (A'b (A'c Zjp) (A'y)) (A'f))))) (A'c Zjq))
def F99:RC' H:=λO P ro=>A'b (A'c Zji) (A'b (A'b (A'c Zjj) (cIf (.tmp 8) (A'b (A'c Zjk) (A'y)) (A'f))) (A'b (A'b (A'c Zjl) (A'z 0 (A'1 (J'c O P ro)))) (A'b (A'c Zjr) (A'y))))
theorem P'V:FN' 99 @F99 [.tmp 4] Tryz.f99:=f'n Tryz.func99
end
end Go.Proofs.YtimdkminagnhgabGreatDoor
namespace Go.Proofs.YtimdkminagnhgabGreatDoor
open Go.Vm Go.Proofs
set_option maxRecDepth 100000
section
variable {H:Type}
def Zjs:RL' H:=[to 4 (A'i (.const (.pointer none)))]
def Zjt:RL' H:=[mv' 9 1,ik' .lss 10 9 0]
def Zju(O:HI H):RL' H:=[to 11 (A'l #[.int .i64 0,.int .i64 0] [(0,1),(1,1)] [(0,.const (.int .i64 13))]),to 12 (A'l #[.int .i64 0,.int .i64 0,.int .i64 0,.slice none 0 0,.int .i64 0,.slice none 0 0,.int .i64 0,.string ⟨#[]⟩] [(0,1),(1,2),(3,1),(4,1),(5,1),(6,1),(7,1)] [(1,.tmp 11)]),to 13 (B'r O (.tmp 12)),mv' 4 13]
def Zjv(O:HI H)(ro:Nat):RL' H:=[mv' 15 0,to 16 (A'e 25 [.tmp 15]),mv' 14 16,to 17 (B'E (.tmp 14) 0),to 18 (B'E (.tmp 14) 1),to 6 (B'o O [.int .i64 0,.int .i64 0]),mv' 5 17,too (aSt O ro 2 (.tmp 6) (.tmp 18))]
def Zjw(O:HI H):RL' H:=[fl' 0 19 6,ld' O 20 19,ik' .neq 21 20 0]
def Zjx(O:HI H):RL' H:=[to 22 (B'n O 2 (.tmp 6)),to 23 (A'l #[.int .i64 0,.int .i64 0,.int .i64 0,.slice none 0 0,.int .i64 0,.slice none 0 0,.int .i64 0,.string ⟨#[]⟩] [(0,1),(1,2),(3,1),(4,1),(5,1),(6,1),(7,1)] [(1,.tmp 22)]),to 24 (B'r O (.tmp 23)),mv' 4 24]
def Zjy:RL' H:=[mv' 25 5,mv' 26 1,to 27 (A'e 42 [.tmp 25,.tmp 26]),mv' 7 27]
def Zjz:RL' H:=[mv' 28 7,to 29 (A'e 43 [.tmp 28]),mv' 8 29]
def ZjA:RL' H:=[mv' 30 7,mv' 31 8,to 32 (A'e 44 [.tmp 30,.tmp 31]),mv' 4 32]
def F26:RC' H:=λO P ro=>A'b (A'c Zjs) (A'b (A'b (A'c Zjt) (cIf (.tmp 10) (A'b (A'c (Zju O)) (A'y)) (A'f))) (A'b (A'c (Zjv O ro)) (A'b (A'b (A'c (Zjw O)) (cIf (.tmp 21) (A'b (A'c (Zjx O)) (A'y)) (A'f))) (A'b (A'c Zjy) (A'b (A'c Zjz) (A'b (A'c ZjA) (A'y)))))))
theorem P'W:FN' 26 @F26 [.tmp 4] Tryz.f26:=f'n Tryz.func26
def ZjB:RL' H:=[to 4 (A'i (.const (.pointer none)))]
def ZjC(O:HI H):RL' H:=[mv' 7 0,mv' 8 1,to 9 (A'l #[.pointer none,.int .i64 0,.int .i64 0,.slice none 0 0,.slice none 0 0,.slice none 0 0] [(0,1),(1,1),(2,1),(3,1),(4,1),(5,1)] [(0,.tmp 7),(1,.tmp 8)]),to 10 (B'r O (.tmp 9)),mv' 5 10]
def ZjD(O:HI H)(ro:Nat):RL' H:=[mv' 11 0,to 12 (A'e 82 [.tmp 11]),to 6 (B'o O [.pointer none,.slice none 0 0]),too (aSt O ro 2 (.tmp 6) (.tmp 12))]
def ZjE:RL' H:=[mv' 13 0,to 14 (A'e 83 [.tmp 6,.tmp 13])]
def ZjF(O:HI H)(ro:Nat):RL' H:=[mv' 15 5,to 16 (B'n O 2 (.tmp 6)),to 17 (A'x O 2 1 #[.pointer none,.slice none 0 0] [(0,.tmp 16)]),nl' 18 15,fl' 3 19 18,too (aSt O ro 1 (.tmp 19) (.tmp 17))]
def ZjG:RL' H:=[mv' 20 5,mv' 4 20]
def F42:RC' H:=λO P ro=>A'b (A'c ZjB) (A'b (A'c (ZjC O)) (A'b (A'c (ZjD O ro)) (A'b (A'c ZjE) (A'b (A'c (ZjF O ro)) (A'b (A'c ZjG) (A'y))))))
theorem P'X:FN' 42 @F42 [.tmp 4] Tryz.f42:=f'n Tryz.func42
def ZjH:RL' H:=[mk' 2 0]
def ZjI:RL' H:=[mk' 3 0]
def ZjJ:RL' H:=[mv' 4 3,ik' .eql 5 4 0]
def ZjK:RL' H:=[mv' 6 0,to 7 (A'e 84 [.tmp 6]),mv' 3 7]
def ZjL:RL' H:=[mv' 8 3,ik' .eql 9 8 0]
def ZjM:RL' H:=[mv' 10 0,to 11 (A'e 85 [.tmp 10]),mv' 3 11]
def ZjN:RL' H:=[mv' 12 3,mv' 2 12]
def P'Y:RC' H:=λO P ro=>A'b (A'b (A'c ZjJ) (cIf (.tmp 5) (A'f) (A'r 0))) (A'z 1 (A'b (A'c ZjK) (A'b (A'c ZjL) (cIf (.tmp 9) (A'c ZjM) (A'f)))))
def F43:RC' H:=λO P ro=>A'b (A'c ZjH) (A'b (A'c ZjI) (A'b (A'z 0 (A'1 (P'Y O P ro))) (A'b (A'c ZjN) (A'y))))
theorem P'Z:FN' 43 @F43 [.tmp 2] Tryz.f43:=f'n Tryz.func43
def ZjO:RL' H:=[to 4 (A'i (.const (.pointer none)))]
def ZjP(O:HI H):RL' H:=[mv' 6 1,mv' 7 0,nl' 8 7,fl' 2 9 8,ld' O 10 9,to 11 (A'l #[.int .i64 0,.int .i64 0,.int .i64 0,.slice none 0 0,.int .i64 0,.slice none 0 0,.int .i64 0,.string ⟨#[]⟩] [(0,1),(1,2),(3,1),(4,1),(5,1),(6,1),(7,1)] [(0,.tmp 6),(5,.tmp 10)]),to 12 (B'r O (.tmp 11)),mv' 5 12]
def ZjQ:RL' H:=[mv' 13 1]
def ZjR:RL' H:=[ik' .eql 15 13 1,mv' 14 15]
def ZjS(O:HI H)(ro:Nat):RL' H:=[mv' 16 5,mv' 17 0,nl' 18 17,fl' 5 19 18,ld' O 20 19,nl' 21 16,fl' 3 22 21,too (aSt O ro 1 (.tmp 22) (.tmp 20))]
def ZjT(O:HI H)(ro:Nat):RL' H:=[mv' 23 5,mv' 24 0,to 25 (A'e 86 [.tmp 24]),nl' 26 23,fl' 7 27 26,too (aSt O ro 1 (.tmp 27) (.tmp 25))]
def ZjU:RL' H:=[ik' .eql 29 13 2,mv' 28 29]
def ZjV(O:HI H)(ro:Nat):RL' H:=[mv' 30 5,mv' 31 0,to 32 (A'e 87 [.tmp 31]),nl' 33 30,fl' 4 34 33,too (aSt O ro 1 (.tmp 34) (.tmp 32))]
def ZjW(O:HI H)(ro:Nat):RL' H:=[mv' 35 5,mv' 36 0,to 37 (A'e 88 [.tmp 36]),nl' 38 35,fl' 5 39 38,too (aSt O ro 1 (.tmp 39) (.tmp 37))]
def ZjX(O:HI H)(ro:Nat):RL' H:=[mv' 40 5,mv' 41 0,to 42 (A'e 89 [.tmp 41]),nl' 43 40,fl' 7 44 43,too (aSt O ro 1 (.tmp 44) (.tmp 42))]
def ZjY:RL' H:=[ik' .eql 46 13 3,mv' 45 46]
def ZjZ(O:HI H)(ro:Nat):RL' H:=[mv' 47 5,nl' 48 47,fl' 7 49 48,too (aSt O ro 1 (.tmp 49) (.const (.string { data:=#[50,10,98,48,10,46,10] })))]
def Zj0:RL' H:=[mv' 50 5,mv' 4 50]
def F44:RC' H:=λO P ro=>A'b (A'c ZjO) (A'b (A'c (ZjP O)) (A'b (A'b (A'c ZjQ) (A'z 0 (A'b (A'c ZjR) (cIf (.tmp 14) (A'b (A'c (ZjS O ro)) (A'c (ZjT O ro))) (A'b (A'c ZjU) (cIf (.tmp 28) (A'b (A'c (ZjV O ro)) (A'b (A'c (ZjW O ro)) (A'c (ZjX O ro)))) (A'b (A'c ZjY) (cIf (.tmp 45) (A'c (ZjZ O ro)) (A'f))))))))) (A'b (A'c Zj0) (A'y))))
theorem L'3:FN' 44 @F44 [.tmp 4] Tryz.f44:=f'n Tryz.func44
def Zj1(O:HI H):RL' H:=[to 2 (B'o O [.pointer none,.slice none 0 0])]
def Zj2:RL' H:=[to 8 (A'e 58 []),mv' 3 8]
def Zj3:RL' H:=[mk' 4 0]
def Zj4:RL' H:=[mv' 9 4,mv' 10 0,to 11 (A'e 98 [.tmp 10]),ia' .lss 12 9 11]
def Zj5(O:HI H):RL' H:=[mv' 15 3,mv' 16 4,mv' 17 0,nl' 18 17,fl' 0 19 18,ld' O 20 19,mv' 21 0,nl' 22 21,fl' 1 23 22,ld' O 24 23,ln' 25 24,ia' .add 26 20 25,ia' .leq 27 16 26,to 28 (A'e 105 [.tmp 15,.tmp 27])]
def Zj6:RL' H:=[mv' 13 4,ik' .add 14 13 1,mv' 4 14]
def Zj7(O:HI H):RL' H:=[mv' 29 3,to 30 (A'x O 1 1 #[.int .i64 0] [(0,.const (.int .i64 1))]),to 31 (A'e 122 [.tmp 29,.tmp 30])]
def Zj8:RL' H:=[mk' 5 0]
def Zj9(O:HI H):RL' H:=[mv' 32 5,mv' 33 0,nl' 34 33,fl' 2 35 34,ld' O 36 35,ln' 37 36,ia' .lss 38 32 37]
def Zka:RL' H:=[mv' 41 0,mv' 42 5,to 43 (A'e 50 [.tmp 41,.tmp 42]),mv' 6 43]
def Zkb(O:HI H)(ro:Nat):RL' H:=[mv' 44 0,nl' 45 44,fl' 2 46 45,ld' O 47 46,mv' 48 5,ix' 2 49 47 48,to 50 (B'n O 2 (.tmp 49)),to 7 (B'o O [.int .i64 0,.int .i64 0]),too (aSt O ro 2 (.tmp 7) (.tmp 50))]
def Zkc(O:HI H):RL' H:=[mv' 51 3,mv' 52 6,ik' .xor 53 52 1,fl' 0 54 7,ld' O 55 54,to 56 (A'x O 1 2 #[.int .i64 0] [(0,.tmp 53),(1,.tmp 55)]),to 57 (A'e 122 [.tmp 51,.tmp 56])]
def Zkd(O:HI H):RL' H:=[mv' 58 3,mv' 59 6,ik' .xor 60 59 1,fl' 1 61 7,ld' O 62 61,to 63 (A'x O 1 2 #[.int .i64 0] [(0,.tmp 60),(1,.tmp 62)]),to 64 (A'e 122 [.tmp 58,.tmp 63])]
def Zke(O:HI H):RL' H:=[mv' 65 3,mv' 66 6,fl' 0 67 7,ld' O 68 67,ik' .xor 69 68 1,fl' 1 70 7,ld' O 71 70,ik' .xor 72 71 1,to 73 (A'x O 1 3 #[.int .i64 0] [(0,.tmp 66),(1,.tmp 69),(2,.tmp 72)]),to 74 (A'e 122 [.tmp 65,.tmp 73])]
def Zkf:RL' H:=[mv' 39 5,ik' .add 40 39 1,mv' 5 40]
def Zkg(O:HI H)(ro:Nat):RL' H:=[mv' 75 3,to 76 (A'l #[.pointer none,.slice none 0 0] [(0,1),(1,1)] [(0,.tmp 75)]),too (aSt O ro 2 (.tmp 2) (.tmp 76))]
def K'2:RC' H:=λO P ro=>A'b (A'b (A'c Zj4) (cIf (.tmp 12) (A'f) (A'r 0))) (A'b (A'z 1 (A'c (Zj5 O))) (A'c Zj6))
def K'3:RC' H:=λO P ro=>A'b (A'b (A'c (Zj9 O)) (cIf (.tmp 38) (A'f) (A'r 2))) (A'b (A'z 3 (A'b (A'c Zka) (A'b (A'c (Zkb O ro)) (A'b (A'c (Zkc O)) (A'b (A'c (Zkd O)) (A'c (Zke O))))))) (A'c Zkf))
def F82:RC' H:=λO P ro=>A'b (A'c (Zj1 O)) (A'b (A'c Zj2) (A'b (A'b (A'c Zj3) (A'z 0 (A'1 (K'2 O P ro)))) (A'b (A'c (Zj7 O)) (A'b (A'b (A'c Zj8) (A'z 2 (A'1 (K'3 O P ro)))) (A'b (A'c (Zkg O ro)) (A'y))))))
theorem P'0:FN' 82 @F82 [.cell 2 135] Tryz.f82:=f'n Tryz.func82
def Zkh:RL' H:=[mk' 4 0]
def Zki(O:HI H):RL' H:=[mv' 6 4,mv' 7 1,nl' 8 7,fl' 1 9 8,ld' O 10 9,ln' 11 10,ia' .lss 12 6 11]
def Zkj:RL' H:=[mv' 15 1,mv' 16 4,to 17 (A'e 47 [.tmp 15,.tmp 16]),mv' 5 17]
def Zkk(O:HI H):RL' H:=[mv' 18 1,nl' 19 18,fl' 1 20 19,ld' O 21 20,mv' 22 4,ix' 2 23 21 22,fl' 1 24 23,ld' O 25 24]
def Zkl:RL' H:=[ik' .eql 27 25 0,mv' 26 27]
def Zkm(O:HI H):RL' H:=[mv' 28 0,nl' 29 28,fl' 0 30 29,ld' O 31 30,mv' 32 5,ik' .xor 33 32 1,to 34 (A'x O 1 1 #[.int .i64 0] [(0,.tmp 33)]),to 35 (A'e 122 [.tmp 31,.tmp 34])]
def Zkn:RL' H:=[ik' .eql 37 25 1,mv' 36 37]
def Zko(O:HI H):RL' H:=[mv' 38 0,nl' 39 38,fl' 0 40 39,ld' O 41 40,mv' 42 5,to 43 (A'x O 1 1 #[.int .i64 0] [(0,.tmp 42)]),to 44 (A'e 122 [.tmp 41,.tmp 43])]
def Zkp:RL' H:=[mv' 13 4,ik' .add 14 13 1,mv' 4 14]
def H'R:RC' H:=λO P ro=>A'b (A'b (A'c (Zki O)) (cIf (.tmp 12) (A'f) (A'r 0))) (A'b (A'z 1 (A'b (A'c Zkj) (A'b (A'c (Zkk O)) (A'z 2 (A'b (A'c Zkl) (cIf (.tmp 26) (A'c (Zkm O)) (A'b (A'c Zkn) (cIf (.tmp 36) (A'c (Zko O)) (A'f))))))))) (A'c Zkp))
def F83:RC' H:=λO P ro=>A'b (A'c Zkh) (A'z 0 (A'1 (H'R O P ro)))
theorem P'1:FN' 83 @F83 [] Tryz.f83:=f'n Tryz.func83
def Zkq:RL' H:=[mk' 2 0]
def Zkr(O:HI H):RL' H:=[mv' 6 0,nl' 7 6,fl' 3 8 7,ld' O 9 8,ln' 10 9,ik' .sub 11 10 1,mv' 3 11]
def Zks(O:HI H):RL' H:=[mv' 12 0,mv' 13 3,mv' 14 0,nl' 15 14,fl' 0 16 15,ld' O 17 16,nl' 18 17,fl' 3 19 18,ld' O 20 19,to 21 (A'x O 1 1 #[.int .i64 0] [(0,.tmp 20)]),to 22 (A'e 123 [.tmp 12,.tmp 13,.tmp 21]),mv' 4 22]
def Zkt:RL' H:=[mv' 23 4]
def Zku:RL' H:=[ik' .eql 25 23 3,mv' 24 25]
def Zkv:RL' H:=[mk' 2 3]
def Zkw:RL' H:=[ik' .eql 27 23 2,mv' 26 27]
def Zkx:RL' H:=[mk' 2 0]
def Zky:RL' H:=[mv' 28 0,mv' 29 3,to 30 (A'e 124 [.tmp 28,.tmp 29])]
def Zkz:RL' H:=[mv' 31 0,to 32 (A'e 125 [.tmp 31]),mv' 5 32]
def ZkA:RL' H:=[mv' 33 5,ik' .neq 34 33 0]
def ZkB:RL' H:=[mv' 35 5,mv' 2 35]
def P'2:RC' H:=λO P ro=>A'z 1 (A'b (A'c (Zks O)) (A'b (A'b (A'c Zkt) (A'z 2 (A'b (A'c Zku) (cIf (.tmp 24) (A'b (A'c Zkv) (A'y)) (A'b (A'c Zkw) (cIf (.tmp 26) (A'b (A'c Zkx) (A'y)) (A'f))))))) (A'b (A'c Zky) (A'b (A'c Zkz) (A'b (A'c ZkA) (cIf (.tmp 34) (A'b (A'c ZkB) (A'y)) (A'f)))))))
def F84:RC' H:=λO P ro=>A'b (A'c Zkq) (A'b (A'c (Zkr O)) (A'z 0 (A'1 (P'2 O P ro))))
theorem P'3:FN' 84 @F84 [.tmp 2] Tryz.f84:=f'n Tryz.func84
def ZkC:RL' H:=[mk' 2 0]
def ZkD(O:HI H):RL' H:=[mv' 3 0,nl' 4 3,fl' 4 5 4,ld' O 6 5,ln' 7 6,ik' .eql 8 7 0]
def ZkE:RL' H:=[mk' 2 0]
def ZkF(O:HI H):RL' H:=[mv' 9 0,nl' 10 9,fl' 4 11 10,ld' O 12 11,mv' 13 0,nl' 14 13,fl' 4 15 14,ld' O 16 15,ln' 17 16,ik' .sub 18 17 1,ix' 2 19 12 18,fl' 0 20 19,ld' O 21 20,mv' 2 21]
def F87:RC' H:=λO P ro=>A'b (A'c ZkC) (A'b (A'b (A'c (ZkD O)) (cIf (.tmp 8) (A'b (A'c ZkE) (A'y)) (A'f))) (A'b (A'c (ZkF O)) (A'y)))
theorem L'4:FN' 87 @F87 [.tmp 2] Tryz.f87:=f'n Tryz.func87
def ZkG:RL' H:=[to 2 (A'i (.const (.slice none 0 0)))]
def ZkH(O:HI H):RL' H:=[to 5 (A'x O 1 0 #[.int .i64 0] []),mv' 3 5]
def ZkI(O:HI H):RL' H:=[mv' 6 0,nl' 7 6,fl' 4 8 7,ld' O 9 8,ln' 10 9,ik' .sub 11 10 1,mv' 4 11]
def ZkJ:RL' H:=[mv' 12 4,ik' .geq 13 12 0]
def ZkK(O:HI H)(ro:Nat):RL' H:=[mv' 16 3,mv' 17 0,nl' 18 17,fl' 4 19 18,ld' O 20 19,mv' 21 4,ix' 2 22 20 21,fl' 1 23 22,ld' O 24 23,to 25 (A'x O 1 1 #[.int .i64 0] [(0,.tmp 24)]),to 26 (B'p O ro 1 8 (.tmp 16) (.tmp 25)),mv' 3 26]
def ZkL:RL' H:=[mv' 14 4,ik' .sub 15 14 1,mv' 4 15]
def ZkM:RL' H:=[mv' 27 3,mv' 2 27]
def N'P:RC' H:=λO P ro=>A'b (A'b (A'c ZkJ) (cIf (.tmp 13) (A'f) (A'r 0))) (A'b (A'z 1 (A'c (ZkK O ro))) (A'c ZkL))
def F88:RC' H:=λO P ro=>A'b (A'c ZkG) (A'b (A'c (ZkH O)) (A'b (A'b (A'c (ZkI O)) (A'z 0 (A'1 (N'P O P ro)))) (A'b (A'c ZkM) (A'y))))
theorem P'4:FN' 88 @F88 [.tmp 2] Tryz.f88:=f'n Tryz.func88
def ZkN:RL' H:=[to 2 (A'i (.const (.string { data:=#[] })))]
def ZkO:RL' H:=[mv' 7 0,to 8 (A'e 87 [.tmp 7]),mv' 3 8]
def ZkP:RL' H:=[mv' 9 0,to 10 (A'e 88 [.tmp 9]),mv' 4 10]
def ZkQ(O:HI H):RL' H:=[mv' 11 3,mv' 12 0,nl' 13 12,fl' 0 14 13,ld' O 15 14,nl' 16 15,fl' 1 17 16,ld' O 18 17,ln' 19 18,to 20 (A'e 129 [.tmp 11,.tmp 19]),to 21 (B'4 .add (.const (.string { data:=#[49,10,98,48,10] })) (.tmp 20)),mv' 5 21]
def ZkR:RL' H:=[mk' 6 0]
def ZkS:RL' H:=[mv' 22 6,mv' 23 4,ln' 24 23,ia' .lss 25 22 24]
def ZkT(O:HI H):RL' H:=[mv' 28 5,mv' 29 4,mv' 30 6,ix' 1 31 29 30,ld' O 32 31,mv' 33 0,nl' 34 33,fl' 0 35 34,ld' O 36 35,nl' 37 36,fl' 0 38 37,ld' O 39 38,to 40 (A'e 129 [.tmp 32,.tmp 39]),to 41 (B'4 .add (.tmp 28) (.tmp 40)),mv' 5 41]
def ZkU:RL' H:=[mv' 26 6,ik' .add 27 26 1,mv' 6 27]
def ZkV:RL' H:=[mv' 42 5,to 43 (B'4 .add (.tmp 42) (.const (.string { data:=#[46,10] }))),mv' 2 43]
def N'Q:RC' H:=λO P ro=>A'b (A'b (A'c ZkS) (cIf (.tmp 25) (A'f) (A'r 0))) (A'b (A'z 1 (A'c (ZkT O))) (A'c ZkU))
def F89:RC' H:=λO P ro=>A'b (A'c ZkN) (A'b (A'c ZkO) (A'b (A'c ZkP) (A'b (A'c (ZkQ O)) (A'b (A'b (A'c ZkR) (A'z 0 (A'1 (N'Q O P ro)))) (A'b (A'c ZkV) (A'y))))))
theorem P'5:FN' 89 @F89 [.tmp 2] Tryz.f89:=f'n Tryz.func89
def ZkW:RL' H:=[mk' 6 0]
def ZkX(O:HI H):RL' H:=[mv' 10 0,nl' 11 10,fl' 3 12 11,ld' O 13 12,mv' 14 1,ix' 2 15 13 14,fl' 0 16 15,ld' O 17 16,mv' 7 17]
def ZkY:RL' H:=[mv' 18 7,to 19 (A'e 111 [.tmp 18]),mv' 8 19]
def ZkZ(O:HI H):RL' H:=[mv' 20 7,mv' 21 2,mv' 22 0,nl' 23 22,fl' 1 24 23,ld' O 25 24,mv' 26 0,nl' 27 26,fl' 2 28 27,ld' O 29 28,ia' .sub 30 25 29,to 31 (A'e 151 [.tmp 20,.tmp 21,.tmp 30]),mv' 9 31]
def Zk0(O:HI H)(ro:Nat):RL' H:=[mv' 32 0,nl' 33 32,fl' 2 34 33,ld' O 35 34,mv' 36 7,to 37 (A'e 111 [.tmp 36]),mv' 38 8,ia' .sub 39 37 38,ia' .add 40 35 39,nl' 41 32,fl' 2 42 41,too (aSt O ro 1 (.tmp 42) (.tmp 40))]
def Zk1(O:HI H):RL' H:=[mv' 43 0,nl' 44 43,fl' 2 45 44,ld' O 46 45,mv' 47 0,nl' 48 47,fl' 1 49 48,ld' O 50 49,ia' .gtr 51 46 50]
def Zk2:RL' H:=[mk' 6 3]
def Zk3:RL' H:=[mv' 52 9,mv' 6 52]
def R'9:RC' H:=λO P ro=>A'b (A'c ZkW) (A'b (A'c (ZkX O)) (A'b (A'c ZkY) (A'b (A'c (ZkZ O)) (A'b (A'c (Zk0 O ro)) (A'b (A'b (A'c (Zk1 O)) (cIf (.tmp 51) (A'b (A'c Zk2) (A'y)) (A'f))) (A'b (A'c Zk3) (A'y)))))))
theorem N'R:FN' 123 @R'9 [.tmp 6] Tryz.f123:=f'n Tryz.func123
def Zk4(O:HI H)(ro:Nat):RL' H:=[mv' 5 0,nl' 6 5,fl' 3 7 6,ld' O 8 7,mv' 9 1,ix' 2 10 8 9,mv' 11 0,nl' 12 11,fl' 0 13 12,ld' O 14 13,to 15 (A'e 159 [.tmp 10,.tmp 14]),to 4 (B'o O [.int .i64 0,.int .i64 0]),too (aSt O ro 2 (.tmp 4) (.tmp 15))]
def Zk5(O:HI H)(ro:Nat):RL' H:=[mv' 16 0,mv' 17 0,nl' 18 17,fl' 4 19 18,ld' O 20 19,to 21 (B'n O 2 (.tmp 4)),to 22 (A'x O 2 1 #[.int .i64 0,.int .i64 0] [(0,.tmp 21)]),to 23 (B'p O ro 2 16 (.tmp 20) (.tmp 22)),nl' 24 16,fl' 4 25 24,too (aSt O ro 1 (.tmp 25) (.tmp 23))]
def Zk6(O:HI H)(ro:Nat):RL' H:=[mv' 26 0,nl' 27 26,fl' 2 28 27,ld' O 29 28,ik' .add 30 29 1,nl' 31 26,fl' 2 32 31,too (aSt O ro 1 (.tmp 32) (.tmp 30))]
def S'a:RC' H:=λO P ro=>A'b (A'c (Zk4 O ro)) (A'b (A'c (Zk5 O ro)) (A'c (Zk6 O ro)))
theorem N'S:FN' 124 @S'a [] Tryz.f124:=f'n Tryz.func124
def Zk7:RL' H:=[mk' 2 0]
def Zk8(O:HI H):RL' H:=[mv' 10 0,nl' 11 10,fl' 4 12 11,ld' O 13 12,ln' 14 13,ik' .gtr 15 14 0]
def Zk9(O:HI H):RL' H:=[mv' 16 0,nl' 17 16,fl' 2 18 17,ld' O 19 18,mv' 20 0,nl' 21 20,fl' 1 22 21,ld' O 23 22,ia' .gtr 24 19 23]
def Zla:RL' H:=[mk' 2 3]
def Zlb(O:HI H):RL' H:=[mv' 25 0,nl' 26 25,fl' 3 27 26,ld' O 28 27,ln' 29 28,mv' 30 0,nl' 31 30,fl' 4 32 31,ld' O 33 32,ln' 34 33,ia' .sub 35 29 34,mv' 3 35]
def Zlc(O:HI H):RL' H:=[mv' 36 0,nl' 37 36,fl' 4 38 37,ld' O 39 38,mv' 40 0,nl' 41 40,fl' 4 42 41,ld' O 43 42,ln' 44 43,ik' .sub 45 44 1,ix' 2 46 39 45,fl' 0 47 46,ld' O 48 47,mv' 4 48]
def Zld(O:HI H):RL' H:=[mv' 49 3,ik' .leq 50 49 0,mv' 51 50,A'a 51 false 52 (mv' 52 0),A'a 51 false 53 (nl' 53 52),A'a 51 false 54 (fl' 0 54 53),A'a 51 false 55 (ld' O 55 54),A'a 51 false 56 (mv' 56 4),A'a 51 false 57 (to 57 (A'e 99 [.tmp 55,.tmp 56])),to 58 (A'q (.tmp 51) (.const (.bool true)) (.tmp 57))]
def Zle:RL' H:=[mk' 2 2]
def Zlf(O:HI H):RL' H:=[mv' 59 0,nl' 60 59,fl' 0 61 60,ld' O 62 61,mv' 63 4,to 64 (A'e 160 [.tmp 62,.tmp 63]),mv' 5 64]
def Zlg(O:HI H):RL' H:=[mv' 65 0,nl' 66 65,fl' 0 67 66,ld' O 68 67,mv' 69 5,to 70 (A'e 161 [.tmp 68,.tmp 69]),mv' 6 70]
def Zlh:RL' H:=[mv' 71 0,mv' 72 3,ik' .sub 73 72 1,mv' 74 6,to 75 (A'e 123 [.tmp 71,.tmp 73,.tmp 74]),mv' 7 75]
def Zli:RL' H:=[mv' 76 7]
def Zlj:RL' H:=[ik' .eql 78 76 3,mv' 77 78]
def Zlk:RL' H:=[mk' 2 3]
def Zll:RL' H:=[ik' .eql 80 76 1,mv' 79 80]
def Zlm:RL' H:=[mv' 81 0,mv' 82 3,ik' .sub 83 82 1,to 84 (A'e 124 [.tmp 81,.tmp 83])]
def Zln:RL' H:=[ik' .eql 86 76 2,mv' 85 86]
def Zlo(O:HI H):RL' H:=[mv' 87 0,nl' 88 87,fl' 3 89 88,ld' O 90 89,mv' 91 3,ik' .sub 92 91 1,ix' 2 93 90 92,fl' 0 94 93,ld' O 95 94,to 96 (A'e 110 [.tmp 95]),mv' 8 96]
def Zlp(O:HI H):RL' H:=[mv' 97 0,nl' 98 97,fl' 0 99 98,ld' O 100 99,mv' 101 5,mv' 102 8,to 103 (A'e 162 [.tmp 100,.tmp 101,.tmp 102]),mv' 9 103]
def Zlq:RL' H:=[mv' 104 0,mv' 105 3,mv' 106 9,to 107 (A'e 163 [.tmp 104,.tmp 105,.tmp 106])]
def Zlr(O:HI H)(ro:Nat):RL' H:=[mv' 108 0,mv' 109 0,nl' 110 109,fl' 4 111 110,ld' O 112 111,mv' 113 0,nl' 114 113,fl' 4 115 114,ld' O 116 115,ln' 117 116,ik' .sub 118 117 1,to 119 (A'p 2 (.tmp 112) none (some (.tmp 118))),nl' 120 108,fl' 4 121 120,too (aSt O ro 1 (.tmp 121) (.tmp 119))]
def Zls:RL' H:=[mk' 2 0]
def J'd:RC' H:=λO P ro=>A'b (A'b (A'c (Zk8 O)) (cIf (.tmp 15) (A'f) (A'r 0))) (A'z 1 (A'b (A'b (A'c (Zk9 O)) (cIf (.tmp 24) (A'b (A'c Zla) (A'y)) (A'f))) (A'b (A'c (Zlb O)) (A'b (A'c (Zlc O)) (A'b (A'b (A'c (Zld O)) (cIf (.tmp 58) (A'b (A'c Zle) (A'y)) (A'f))) (A'b (A'c (Zlf O)) (A'b (A'c (Zlg O)) (A'b (A'c Zlh) (A'b (A'c Zli) (A'z 2 (A'b (A'c Zlj) (cIf (.tmp 77) (A'b (A'c Zlk) (A'y)) (A'b (A'c Zll) (cIf (.tmp 79) (A'c Zlm) (A'b (A'c Zln) (cIf (.tmp 85) (A'b (A'c (Zlo O)) (A'b (A'c (Zlp O)) (A'b (A'c Zlq) (A'c (Zlr O ro))))) (A'f)))))))))))))))))
def S'b:RC' H:=λO P ro=>A'b (A'c Zk7) (A'b (A'z 0 (A'1 (J'd O P ro))) (A'b (A'c Zls) (A'y)))
theorem N'T:FN' 125 @S'b [.tmp 2] Tryz.f125:=f'n Tryz.func125
def Zlt:RL' H:=[to 4 (A'i (.const (.string { data:=#[] })))]
def Zlu:RL' H:=[to 5 (A'i (.const (.string { data:=#[] })))]
def Zlv:RL' H:=[mk' 6 0]
def Zlw:RL' H:=[mv' 7 6,mv' 8 1,ia' .lss 9 7 8]
def Zlx:RL' H:=[mv' 12 5,mv' 13 0,mv' 14 6,to 15 (A'w .shr (.tmp 13) (.tmp 14)),ik' .and 16 15 1,to 17 (A'e 48 [.tmp 16]),to 18 (B'4 .add (.tmp 12) (.tmp 17)),mv' 5 18]
def Zly:RL' H:=[mv' 10 6,ik' .add 11 10 1,mv' 6 11]
def Zlz:RL' H:=[mv' 19 5,to 20 (B'4 .add (.tmp 19) (.const (.string { data:=#[10] }))),mv' 4 20]
def J'e:RC' H:=λO P ro=>A'b (A'b (A'c Zlw) (cIf (.tmp 9) (A'f) (A'r 0))) (A'b (A'z 1 (A'c Zlx)) (A'c Zly))
def S'c:RC' H:=λO P ro=>A'b (A'c Zlt) (A'b (A'c Zlu) (A'b (A'b (A'c Zlv) (A'z 0 (A'1 (J'e O P ro)))) (A'b (A'c Zlz) (A'y))))
theorem N'U:FN' 129 @S'c [.tmp 4] Tryz.f129:=f'n Tryz.func129
def ZlA(O:HI H):RL' H:=[to 4 (B'o O [.int .i64 0,.int .i64 0])]
def ZlB(O:HI H):RL' H:=[mv' 7 0,mv' 8 1,nl' 9 8,fl' 0 10 9,ld' O 11 10,to 12 (A'e 191 [.tmp 7,.const (.int .i64 1),.tmp 11]),mv' 5 12]
def ZlC(O:HI H):RL' H:=[mv' 13 0,mv' 14 1,nl' 15 14,fl' 0 16 15,ld' O 17 16,to 18 (A'5 .add (.const (.int .i64 1)) (.tmp 17)),mv' 19 1,nl' 20 19,fl' 1 21 20,ld' O 22 21,ln' 23 22,to 24 (A'e 191 [.tmp 13,.tmp 18,.tmp 23]),mv' 6 24]
def ZlD(O:HI H)(ro:Nat):RL' H:=[mv' 25 6,mv' 26 5,to 27 (A'l #[.int .i64 0,.int .i64 0] [(0,1),(1,1)] [(0,.tmp 25),(1,.tmp 26)]),too (aSt O ro 2 (.tmp 4) (.tmp 27))]
def S'd:RC' H:=λO P ro=>A'b (A'c (ZlA O)) (A'b (A'c (ZlB O)) (A'b (A'c (ZlC O)) (A'b (A'c (ZlD O ro)) (A'y))))
theorem N'V:FN' 159 @S'd [.cell 4 162] Tryz.f159:=f'n Tryz.func159
def ZlE:RL' H:=[mk' 6 0]
def ZlF:RL' H:=[mk' 7 0]
def ZlG:RL' H:=[mk' 8 0]
def ZlH:RL' H:=[mv' 11 8,mv' 12 2,ia' .lss 13 11 12]
def ZlI(O:HI H):RL' H:=[mv' 17 0,nl' 18 17,fl' 0 19 18,ld' O 20 19,mv' 21 1,mv' 22 8,ia' .add 23 21 22,to 24 (A'e 153 [.tmp 20,.tmp 23]),mv' 16 24,to 25 (B'E (.tmp 16) 0),to 26 (B'E (.tmp 16) 1),mv' 9 25,mv' 10 26]
def ZlJ:RL' H:=[mv' 27 9]
def ZlK:RL' H:=[mv' 28 7,mv' 29 8,to 30 (A'w .shl (.const (.int .i64 1)) (.tmp 29)),ia' .or 31 28 30,mv' 7 31]
def ZlL:RL' H:=[mv' 14 8,ik' .add 15 14 1,mv' 8 15]
def ZlM:RL' H:=[mv' 32 7,mv' 6 32]
def G'8:RC' H:=λO P ro=>A'b (A'b (A'c ZlH) (cIf (.tmp 13) (A'f) (A'r 0))) (A'b (A'z 1 (A'b (A'c (ZlI O)) (A'b (A'c ZlJ) (cIf (.tmp 27) (A'c ZlK) (A'f))))) (A'c ZlL))
def S'e:RC' H:=λO P ro=>A'b (A'c ZlE) (A'b (A'c ZlF) (A'b (A'b (A'c ZlG) (A'z 0 (A'1 (G'8 O P ro)))) (A'b (A'c ZlM) (A'y))))
theorem N'W:FN' 191 @S'e [.tmp 6] Tryz.f191:=f'n Tryz.func191
end
end Go.Proofs.YtimdkminagnhgabGreatDoor
