import Derived.Test.YtimdkminagnhgabGreatDoorQ04
import Derived.Test.YtimdkminagnhgabGreatDoorProg
import Derived.KernelRfl
import Derived.Test.YtimdkminagnhgabGreatDoorQ05
set_option linter.all false
namespace Go.Proofs.YtimdkminagnhgabGreatDoor
open Go.Vm Go.Proofs
set_option maxRecDepth 100000
section
variable {H:Type}
def Zn6:RL' H:=[to 6 (A'i (.const (.bool false)))]
def Zn7:RL' H:=[mv' 7 0,mv' 8 1,to 9 (A'e 11 [.tmp 7,.tmp 8]),mv' 6 9]
def F5:RC' H:=λO P ro=>A'b (A'c Zn6) (A'b (A'c Zn7) (A'y))
theorem R'y:FN' 5 @F5 [.tmp 6] Tryz.f5:=f'n Tryz.func5
def Zn8:RL' H:=[to 4 (A'i (.const (.pointer none)))]
def Zn9(O:HI H):RL' H:=[mv' 6 0,mv' 7 1,to 8 (A'l #[.int .i64 0,.int .i64 0,.slice none 0 0,.slice none 0 0,.slice none 0 0,.int .i64 0] [(0,1),(1,1),(2,1),(3,1),(4,1),(5,1)] [(0,.tmp 6),(1,.tmp 7)]),to 9 (B'r O (.tmp 8)),mv' 5 9]
def Zoa(O:HI H)(ro:Nat):RL' H:=[mv' 10 5,mv' 11 1,to 12 (B'i O 1 8 #[.int .i64 0] (.tmp 11) (.tmp 11)),nl' 13 10,fl' 3 14 13,too (aSt O ro 1 (.tmp 14) (.tmp 12))]
def Zob(O:HI H)(ro:Nat):RL' H:=[mv' 15 5,mv' 16 1,to 17 (B'i O 1 8 #[.int .i64 0] (.tmp 16) (.tmp 16)),nl' 18 15,fl' 4 19 18,too (aSt O ro 1 (.tmp 19) (.tmp 17))]
def Zoc:RL' H:=[mv' 20 5,mv' 4 20]
def F16:RC' H:=λO P ro=>A'b (A'c Zn8) (A'b (A'c (Zn9 O)) (A'b (A'c (Zoa O ro)) (A'b (A'c (Zob O ro)) (A'b (A'c Zoc) (A'y)))))
theorem Q'm:FN' 16 @F16 [.tmp 4] Tryz.f16:=f'n Tryz.func16
def Zod:RL' H:=[to 2 (A'i (.const (.string { data:=#[] })))]
def Zoe(O:HI H):RL' H:=[mv' 14 0,nl' 15 14,fl' 2 16 15,ld' O 17 16,ln' 18 17,ik' .quo 19 18 2,mv' 3 19]
def Zof(O:HI H):RL' H:=[mv' 20 0,nl' 21 20,fl' 0 22 21,ld' O 23 22,mv' 24 0,nl' 25 24,fl' 1 26 25,ld' O 27 26,ia' .add 28 23 27,mv' 29 3,ia' .add 30 28 29,mv' 31 0,nl' 32 31,fl' 0 33 32,ld' O 34 33,mv' 35 0,nl' 36 35,fl' 1 37 36,ld' O 38 37,mv' 39 3,to 40 (A'x O 1 6 #[.int .i64 0] [(0,.tmp 30),(1,.tmp 34),(2,.tmp 38),(3,.const (.int .i64 0)),(4,.tmp 39),(5,.const (.int .i64 1))]),to 41 (A'e 32 [.tmp 40]),mv' 4 41]
def Zog:RL' H:=[mv' 42 4,to 43 (B'4 .add (.const (.string { data:=#[97,97,103,32] })) (.tmp 42)),mv' 5 43]
def Zoh:RL' H:=[mk' 6 0]
def Zoi(O:HI H):RL' H:=[mv' 44 6,mv' 45 0,nl' 46 45,fl' 0 47 46,ld' O 48 47,ia' .lss 49 44 48]
def Zoj:RL' H:=[mv' 52 0,mv' 53 6,to 54 (A'e 20 [.tmp 52,.tmp 53]),mv' 7 54]
def Zok(O:HI H):RL' H:=[mv' 55 7,to 56 (A'x O 1 1 #[.int .i64 0] [(0,.tmp 55)]),to 57 (A'e 32 [.tmp 56]),mv' 8 57]
def Zol:RL' H:=[mv' 58 5,mv' 59 8,to 60 (B'4 .add (.tmp 58) (.tmp 59)),mv' 5 60]
def Zom:RL' H:=[mv' 50 6,ik' .add 51 50 1,mv' 6 51]
def Zon:RL' H:=[mk' 9 0]
def Zoo(O:HI H):RL' H:=[mv' 61 9,mv' 62 0,nl' 63 62,fl' 1 64 63,ld' O 65 64,ia' .lss 66 61 65]
def Zop:RL' H:=[mv' 69 0,mv' 70 9,to 71 (A'e 23 [.tmp 69,.tmp 70]),mv' 10 71]
def Zoq(O:HI H):RL' H:=[mv' 72 10,mv' 73 0,nl' 74 73,fl' 3 75 74,ld' O 76 75,mv' 77 9,ix' 1 78 76 77,ld' O 79 78,mv' 80 0,nl' 81 80,fl' 4 82 81,ld' O 83 82,mv' 84 9,ix' 1 85 83 84,ld' O 86 85,to 87 (A'x O 1 3 #[.int .i64 0] [(0,.tmp 72),(1,.tmp 79),(2,.tmp 86)]),to 88 (A'e 32 [.tmp 87]),mv' 11 88]
def Zor:RL' H:=[mv' 89 5,mv' 90 11,to 91 (B'4 .add (.tmp 89) (.tmp 90)),mv' 5 91]
def Zos:RL' H:=[mv' 67 9,ik' .add 68 67 1,mv' 9 68]
def Zot(O:HI H):RL' H:=[mv' 92 0,nl' 93 92,fl' 5 94 93,ld' O 95 94,to 96 (A'x O 1 1 #[.int .i64 0] [(0,.tmp 95)]),to 97 (A'e 32 [.tmp 96]),mv' 12 97]
def Zou:RL' H:=[mv' 98 5,mv' 99 12,to 100 (B'4 .add (.tmp 98) (.tmp 99)),mv' 5 100]
def Zov:RL' H:=[mv' 101 3,ik' .sub 102 101 1,mv' 13 102]
def Zow:RL' H:=[mv' 103 13,ik' .geq 104 103 0]
def Zox(O:HI H):RL' H:=[mv' 107 0,nl' 108 107,fl' 0 109 108,ld' O 110 109,to 111 (A'5 .add (.const (.int .i64 1)) (.tmp 110)),mv' 112 0,nl' 113 112,fl' 1 114 113,ld' O 115 114,ia' .add 116 111 115,mv' 117 13,ia' .add 118 116 117,to 119 (A'5 .mul (.const (.int .i64 2)) (.tmp 118)),mv' 120 0,nl' 121 120,fl' 2 122 121,ld' O 123 122,mv' 124 13,to 125 (A'5 .mul (.const (.int .i64 2)) (.tmp 124)),ix' 1 126 123 125,ld' O 127 126,mv' 128 0,nl' 129 128,fl' 2 130 129,ld' O 131 130,mv' 132 13,to 133 (A'5 .mul (.const (.int .i64 2)) (.tmp 132)),ik' .add 134 133 1,ix' 1 135 131 134,ld' O 136 135,to 137 (A'x O 1 3 #[.int .i64 0] [(0,.tmp 119),(1,.tmp 127),(2,.tmp 136)]),to 138 (A'e 32 [.tmp 137]),mv' 12 138]
def Zoy:RL' H:=[mv' 139 5,mv' 140 12,to 141 (B'4 .add (.tmp 139) (.tmp 140)),mv' 5 141]
def Zoz:RL' H:=[mv' 105 13,ik' .sub 106 105 1,mv' 13 106]
def ZoA:RL' H:=[mv' 142 5,mv' 2 142]
def O'e:RC' H:=λO P ro=>A'b (A'b (A'c (Zoi O)) (cIf (.tmp 49) (A'f) (A'r 0))) (A'b (A'z 1 (A'b (A'c Zoj) (A'b (A'c (Zok O)) (A'c Zol)))) (A'c Zom))
def O'f:RC' H:=λO P ro=>A'b (A'b (A'c (Zoo O)) (cIf (.tmp 66) (A'f) (A'r 2))) (A'b (A'z 3 (A'b (A'c Zop) (A'b (A'c (Zoq O)) (A'c Zor)))) (A'c Zos))
def O'g:RC' H:=λO P ro=>A'b (A'b (A'c Zow) (cIf (.tmp 104) (A'f) (A'r 4))) (A'b (A'z 5 (A'b (A'c (Zox O)) (A'c Zoy))) (A'c Zoz))
def F17:RC' H:=λO P ro=>A'b (A'c Zod) (A'b (A'c (Zoe O)) (A'b (A'c (Zof O)) (A'b (A'c Zog) (A'b (A'b (A'c Zoh) (A'z 0 (A'1 (O'e O P ro)))) (A'b (A'b (A'c Zon) (A'z 2 (A'1 (O'f O P ro)))) (A'b (A'c (Zot O)) (A'b (A'c Zou) (A'b (A'b (A'c Zov) (A'z 4 (A'1 (O'g O P ro)))) (A'b (A'c ZoA) (A'y))))))))))
theorem Q'n:FN' 17 @F17 [.tmp 2] Tryz.f17:=f'n Tryz.func17
def ZoB:RL' H:=[to 2 (A'i (.const (.slice none 0 0))),mk' 3 0,to 4 (A'i (.const (.bool false)))]
def ZoC:RL' H:=[mv' 8 0,to 9 (A'e 26 [.tmp 8,.const (.int .i64 1152921504606846976)]),mv' 5 9]
def ZoD:RL' H:=[mv' 10 0,to 11 (A'e 26 [.tmp 10,.const (.int .i64 0)]),mv' 6 11]
def ZoE:RL' H:=[mv' 12 5,to 13 (A'o false (.tmp 12) (.const (.pointer none))),mv' 14 13,A'a 14 false 15 (mv' 15 6),A'a 14 false 16 (to 16 (A'o false (.tmp 15) (.const (.pointer none)))),to 17 (A'q (.tmp 14) (.const (.bool true)) (.tmp 16))]
def ZoF:RL' H:=[to 2 (A'i (.const (.slice none 0 0))),mk' 3 0,to 4 (A'i (.const (.bool false)))]
def ZoG(O:HI H):RL' H:=[mv' 18 5,nl' 19 18,fl' 0 20 19,ld' O 21 20,ik' .eql 22 21 2,mv' 23 22,A'a 23 true 24 (mv' 24 6),A'a 23 true 25 (nl' 25 24),A'a 23 true 26 (fl' 0 26 25),A'a 23 true 27 (ld' O 27 26),A'a 23 true 28 (ik' .eql 28 27 2),A'a 23 true 29 (mv' 29 28),A'a 29 false 30 (mv' 30 6),A'a 29 false 31 (nl' 31 30),A'a 29 false 32 (fl' 0 32 31),A'a 29 false 33 (ld' O 33 32),A'a 29 false 34 (ik' .eql 34 33 3),A'a 23 true 35 (to 35 (A'q (.tmp 29) (.const (.bool true)) (.tmp 34))),to 36 (A'q (.tmp 23) (.tmp 35) (.const (.bool false))),mv' 7 36]
def ZoH(O:HI H):RL' H:=[mv' 37 5,nl' 38 37,fl' 5 39 38,ld' O 40 39,mv' 41 5,nl' 42 41,fl' 4 43 42,ld' O 44 43,mv' 45 7,mv' 2 40,mv' 3 44,mv' 4 45]
def F19:RC' H:=λO P ro=>A'b (A'c ZoB) (A'b (A'c ZoC) (A'b (A'c ZoD) (A'b (A'b (A'c ZoE) (cIf (.tmp 17) (A'b (A'c ZoF) (A'y)) (A'f))) (A'b (A'c (ZoG O)) (A'b (A'c (ZoH O)) (A'y))))))
theorem Q'o:FN' 19 @F19 [.tmp 2,.tmp 3,.tmp 4] Tryz.f19:=f'n Tryz.func19
def ZoI:RL' H:=[mk' 4 0]
def ZoJ:RL' H:=[mv' 5 1,to 6 (A'5 .add (.const (.int .i64 1)) (.tmp 5)),to 7 (A'5 .mul (.const (.int .i64 2)) (.tmp 6)),mv' 4 7]
def F20:RC' H:=λO P ro=>A'b (A'c ZoI) (A'b (A'c ZoJ) (A'y))
theorem Q'p:FN' 20 @F20 [.tmp 4] Tryz.f20:=f'n Tryz.func20
def ZoK:RL' H:=[mk' 6 0]
def ZoL(O:HI H)(ro:Nat):RL' H:=[mv' 7 0,mv' 8 0,nl' 9 8,fl' 2 10 9,ld' O 11 10,mv' 12 1,mv' 13 2,to 14 (A'x O 1 2 #[.int .i64 0] [(0,.tmp 12),(1,.tmp 13)]),to 15 (B'p O ro 1 8 (.tmp 11) (.tmp 14)),nl' 16 7,fl' 2 17 16,too (aSt O ro 1 (.tmp 17) (.tmp 15))]
def ZoM(O:HI H):RL' H:=[mv' 18 0,nl' 19 18,fl' 0 20 19,ld' O 21 20,mv' 22 0,nl' 23 22,fl' 1 24 23,ld' O 25 24,ia' .add 26 21 25,mv' 27 0,nl' 28 27,fl' 2 29 28,ld' O 30 29,ln' 31 30,ik' .quo 32 31 2,ia' .add 33 26 32,to 34 (A'5 .mul (.const (.int .i64 2)) (.tmp 33)),mv' 6 34]
def F21:RC' H:=λO P ro=>A'b (A'c ZoK) (A'b (A'c (ZoL O ro)) (A'b (A'c (ZoM O)) (A'y)))
theorem Q'q:FN' 21 @F21 [.tmp 6] Tryz.f21:=f'n Tryz.func21
def ZoN:RL' H:=[mk' 4 0]
def ZoO:RL' H:=[mv' 5 0,ik' .lss 6 5 0]
def ZoP:RL' H:=[mv' 7 0,ik' .add 8 7 1,to 9 (aUn .neg (.tmp 8)),mv' 0 9]
def ZoQ:RL' H:=[mv' 10 0,mv' 11 1,ia' .rem 12 10 11,mv' 4 12]
def F22:RC' H:=λO P ro=>A'b (A'c ZoN) (A'b (A'b (A'c ZoO) (cIf (.tmp 6) (A'c ZoP) (A'f))) (A'b (A'c ZoQ) (A'y)))
theorem L'9:FN' 22 @F22 [.tmp 4] Tryz.f22:=f'n Tryz.func22
def ZoR:RL' H:=[mk' 4 0]
def ZoS(O:HI H):RL' H:=[mv' 5 0,nl' 6 5,fl' 0 7 6,ld' O 8 7,to 9 (A'5 .add (.const (.int .i64 1)) (.tmp 8)),mv' 10 1,ia' .add 11 9 10,to 12 (A'5 .mul (.const (.int .i64 2)) (.tmp 11)),mv' 4 12]
def F23:RC' H:=λO P ro=>A'b (A'c ZoR) (A'b (A'c (ZoS O)) (A'y))
theorem Q'r:FN' 23 @F23 [.tmp 4] Tryz.f23:=f'n Tryz.func23
def ZoT:RL' H:=[to 2 (A'i (.const (.string { data:=#[] })))]
def ZoU:RL' H:=[to 3 (A'i (.const (.string { data:=#[] })))]
def ZoV:RL' H:=[mk' 4 0]
def ZoW:RL' H:=[mv' 6 4,mv' 7 0,ln' 8 7,ia' .lss 9 6 8]
def ZoX:RL' H:=[mv' 12 4,ik' .gtr 13 12 0]
def ZoY:RL' H:=[mv' 14 3,to 15 (B'4 .add (.tmp 14) (.const (.string { data:=#[32] }))),mv' 3 15]
def ZoZ(O:HI H):RL' H:=[mv' 16 0,mv' 17 4,ix' 1 18 16 17,ld' O 19 18,to 20 (A'e 62 [.tmp 19]),mv' 5 20]
def Zo0:RL' H:=[mv' 21 3,mv' 22 5,to 23 (B'4 .add (.tmp 21) (.tmp 22)),mv' 3 23]
def Zo1:RL' H:=[mv' 10 4,ik' .add 11 10 1,mv' 4 11]
def Zo2:RL' H:=[mv' 24 3,to 25 (B'4 .add (.tmp 24) (.const (.string { data:=#[10] }))),mv' 2 25]
def Q's:RC' H:=λO P ro=>A'b (A'b (A'c ZoW) (cIf (.tmp 9) (A'f) (A'r 0))) (A'b (A'z 1 (A'b (A'b (A'c ZoX) (cIf (.tmp 13) (A'c ZoY) (A'f))) (A'b (A'c (ZoZ O)) (A'c Zo0)))) (A'c Zo1))
def F32:RC' H:=λO P ro=>A'b (A'c ZoT) (A'b (A'c ZoU) (A'b (A'b (A'c ZoV) (A'z 0 (A'1 (Q's O P ro)))) (A'b (A'c Zo2) (A'y))))
theorem Q't:FN' 32 @F32 [.tmp 2] Tryz.f32:=f'n Tryz.func32
def Zo3:RL' H:=[to 2 (A'i (.const (.string { data:=#[] })))]
def Zo4:RL' H:=[mv' 4 0,ik' .lss 5 4 10]
def Zo5(O:HI H):RL' H:=[mv' 6 0,to 7 (A'5 .add (.const (.int .i64 48)) (.tmp 6)),to 8 (A'2 .u8 (.tmp 7)),to 9 (A'x O 1 1 #[.int .u8 0] [(0,.tmp 8)]),to 10 (G'Y O (.tmp 9)),mv' 2 10]
def Zo6:RL' H:=[mv' 11 0,ik' .quo 12 11 10,to 13 (A'e 62 [.tmp 12]),mv' 3 13]
def Zo7(O:HI H):RL' H:=[mv' 14 3,mv' 15 0,ik' .rem 16 15 10,to 17 (A'5 .add (.const (.int .i64 48)) (.tmp 16)),to 18 (A'2 .u8 (.tmp 17)),to 19 (A'x O 1 1 #[.int .u8 0] [(0,.tmp 18)]),to 20 (G'Y O (.tmp 19)),to 21 (B'4 .add (.tmp 14) (.tmp 20)),mv' 2 21]
def F62:RC' H:=λO P ro=>A'b (A'c Zo3) (A'b (A'b (A'c Zo4) (cIf (.tmp 5) (A'b (A'c (Zo5 O)) (A'y)) (A'f))) (A'b (A'c Zo6) (A'b (A'c (Zo7 O)) (A'y))))
theorem M'a:FN' 62 @F62 [.tmp 2] Tryz.f62:=f'n Tryz.func62
end
end Go.Proofs.YtimdkminagnhgabGreatDoor
