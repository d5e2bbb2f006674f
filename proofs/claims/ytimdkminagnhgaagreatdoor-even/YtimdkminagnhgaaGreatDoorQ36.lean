import Derived.Test.YtimdkminagnhgaaGreatDoorQ04
import Derived.Test.YtimdkminagnhgaaGreatDoorProg
import Derived.KernelRfl
import Derived.Test.YtimdkminagnhgaaGreatDoorQ05
set_option linter.all false
namespace Go.Proofs.YtimdkminagnhgaaGreatDoor
open Go.Vm Go.Proofs
set_option maxRecDepth 100000
section
variable {H:Type}
def Zpg:RL' H:=[to 6 (A'h (.const (.bool false)))]
def Zph:RL' H:=[mv' 7 0,mv' 8 1,to 9 (A'e 19 [.tmp 7,.tmp 8]),mv' 6 9]
def F10:RC' H:=λO P ro=>A'a (A'b Zpg) (A'a (A'b Zph) (A'B))
theorem S'8:FN' 10 @F10 [.tmp 6] Tryz.f10:=f'n Tryz.func10
def Zpi:RL' H:=[to 4 (A'h (.const (.bool false)))]
def Zpj:RL' H:=[mv' 13 0,to 14 (A'e 33 [.tmp 13,.const (.int .i64 5)]),to 15 (B'h .add (.const (.int .i64 2)) (.tmp 14)),mv' 5 15]
def Zpk:RL' H:=[mv' 16 1,mv' 17 5,to 18 (A'r .shl (.const (.int .i64 1)) (.tmp 17)),to 19 (A'e 33 [.tmp 16,.tmp 18]),ik' .or 20 19 1,mv' 6 20]
def Zpl:RL' H:=[mv' 21 5,to 22 (A'e 34 [.const (.int .i64 0),.tmp 21]),mv' 7 22]
def Zpm:RL' H:=[mk' 8 1]
def Zpn(O:HI H)(ro:Nat):RL' H:=[mv' 23 7,nl' 24 23,fl' 3 25 24,ld' O 26 25,mv' 27 7,to 28 (A'e 35 [.tmp 27,.const (.int .i64 0)]),to 29 (B'C 1 (.tmp 26) (.const (.int .i64 0))),too (aSt O ro 1 (.tmp 29) (.tmp 28))]
def Zpo:RL' H:=[mk' 9 1]
def Zpp:RL' H:=[mv' 30 9,mv' 31 5,ia' .lss 32 30 31]
def Zpq:RL' H:=[mv' 35 7,mv' 36 9,to 37 (A'e 35 [.tmp 35,.tmp 36]),mv' 10 37]
def Zpr:RL' H:=[mv' 38 7,mv' 39 10,mv' 40 8,to 41 (A'e 36 [.tmp 38,.tmp 39,.tmp 40]),mv' 11 41]
def Zps(O:HI H)(ro:Nat):RL' H:=[mv' 42 7,nl' 43 42,fl' 3 44 43,ld' O 45 44,mv' 46 9,mv' 47 11,ix' 1 48 45 46,too (aSt O ro 1 (.tmp 48) (.tmp 47))]
def Zpt:RL' H:=[mv' 49 7,mv' 50 10,mv' 51 8,to 52 (A'e 37 [.tmp 49,.tmp 50,.tmp 51]),mv' 8 52]
def Zpu:RL' H:=[mv' 33 9,ik' .add 34 33 1,mv' 9 34]
def Zpv(O:HI H)(ro:Nat):RL' H:=[mv' 53 7,mv' 54 7,mv' 55 6,to 56 (A'e 38 [.tmp 54,.tmp 55]),nl' 57 53,fl' 5 58 57,too (aSt O ro 1 (.tmp 58) (.tmp 56))]
def Zpw:RL' H:=[mv' 59 7,to 60 (A'e 39 [.tmp 59]),mv' 12 60]
def Zpx:RL' H:=[mv' 61 12,to 62 (A'e 41 [.tmp 61]),mv' 4 62]
def N'D:RC' H:=λO P ro=>A'a (A'a (A'b Zpp) (cIf (.tmp 32) (A'f) (A'n 0))) (A'a (A'w 1 (A'a (A'b Zpq) (A'a (A'b Zpr) (A'a (A'b (Zps O ro)) (A'b Zpt))))) (A'b Zpu))
def F19:RC' H:=λO P ro=>A'a (A'b Zpi) (A'a (A'b Zpj) (A'a (A'b Zpk) (A'a (A'b Zpl) (A'a (A'b Zpm) (A'a (A'b (Zpn O ro)) (A'a (A'a (A'b Zpo) (A'w 0 (A'Y (N'D O P ro)))) (A'a (A'b (Zpv O ro)) (A'a (A'b Zpw) (A'a (A'b Zpx) (A'B))))))))))
theorem S'9:FN' 19 @F19 [.tmp 4] Tryz.f19:=f'n Tryz.func19
def Zpy:RL' H:=[mk' 4 0]
def Zpz:RL' H:=[mv' 5 0,ik' .lss 6 5 0]
def ZpA:RL' H:=[mv' 7 0,ik' .add 8 7 1,to 9 (aUn .neg (.tmp 8)),mv' 0 9]
def ZpB:RL' H:=[mv' 10 0,mv' 11 1,ia' .rem 12 10 11,mv' 4 12]
def F33:RC' H:=λO P ro=>A'a (A'b Zpy) (A'a (A'a (A'b Zpz) (cIf (.tmp 6) (A'b ZpA) (A'f))) (A'a (A'b ZpB) (A'B)))
theorem O'x:FN' 33 @F33 [.tmp 4] Tryz.f33:=f'n Tryz.func33
def ZpC:RL' H:=[to 4 (A'h (.const (.pointer none)))]
def ZpD(O:HI H):RL' H:=[mv' 6 0,mv' 7 1,to 8 (A'p #[.int .i64 0,.int .i64 0,.slice none 0 0,.slice none 0 0,.slice none 0 0,.int .i64 0] [(0,1),(1,1),(2,1),(3,1),(4,1),(5,1)] [(0,.tmp 6),(1,.tmp 7)]),to 9 (B'y O (.tmp 8)),mv' 5 9]
def ZpE(O:HI H)(ro:Nat):RL' H:=[mv' 10 5,mv' 11 1,to 12 (B'd O 1 8 #[.int .i64 0] (.tmp 11) (.tmp 11)),nl' 13 10,fl' 3 14 13,too (aSt O ro 1 (.tmp 14) (.tmp 12))]
def ZpF(O:HI H)(ro:Nat):RL' H:=[mv' 15 5,mv' 16 1,to 17 (B'd O 1 8 #[.int .i64 0] (.tmp 16) (.tmp 16)),nl' 18 15,fl' 4 19 18,too (aSt O ro 1 (.tmp 19) (.tmp 17))]
def ZpG:RL' H:=[mv' 20 5,mv' 4 20]
def F34:RC' H:=λO P ro=>A'a (A'b ZpC) (A'a (A'b (ZpD O)) (A'a (A'b (ZpE O ro)) (A'a (A'b (ZpF O ro)) (A'a (A'b ZpG) (A'B)))))
theorem T'a:FN' 34 @F34 [.tmp 4] Tryz.f34:=f'n Tryz.func34
def ZpH:RL' H:=[mk' 4 0]
def ZpI(O:HI H):RL' H:=[mv' 5 0,nl' 6 5,fl' 0 7 6,ld' O 8 7,to 9 (B'h .add (.const (.int .i64 1)) (.tmp 8)),mv' 10 1,ia' .add 11 9 10,to 12 (B'h .mul (.const (.int .i64 2)) (.tmp 11)),mv' 4 12]
def F35:RC' H:=λO P ro=>A'a (A'b ZpH) (A'a (A'b (ZpI O)) (A'B))
theorem T'b:FN' 35 @F35 [.tmp 4] Tryz.f35:=f'n Tryz.func35
def ZpJ:RL' H:=[mk' 6 0]
def ZpK:RL' H:=[mv' 9 0,mv' 10 1,mv' 11 2,to 12 (A'e 37 [.tmp 9,.tmp 10,.tmp 11]),mv' 7 12]
def ZpL:RL' H:=[mv' 13 0,mv' 14 1,ik' .xor 15 14 1,mv' 16 2,ik' .xor 17 16 1,to 18 (A'e 37 [.tmp 13,.tmp 15,.tmp 17]),mv' 8 18]
def ZpM:RL' H:=[mv' 19 0,mv' 20 7,ik' .xor 21 20 1,mv' 22 8,ik' .xor 23 22 1,to 24 (A'e 37 [.tmp 19,.tmp 21,.tmp 23]),mv' 6 24]
def F36:RC' H:=λO P ro=>A'a (A'b ZpJ) (A'a (A'b ZpK) (A'a (A'b ZpL) (A'a (A'b ZpM) (A'B))))
theorem T'c:FN' 36 @F36 [.tmp 6] Tryz.f36:=f'n Tryz.func36
def ZpN:RL' H:=[mk' 6 0]
def ZpO(O:HI H)(ro:Nat):RL' H:=[mv' 7 0,mv' 8 0,nl' 9 8,fl' 2 10 9,ld' O 11 10,mv' 12 1,mv' 13 2,to 14 (A'x O 1 2 #[.int .i64 0] [(0,.tmp 12),(1,.tmp 13)]),to 15 (B'p O ro 1 8 (.tmp 11) (.tmp 14)),nl' 16 7,fl' 2 17 16,too (aSt O ro 1 (.tmp 17) (.tmp 15))]
def ZpP(O:HI H):RL' H:=[mv' 18 0,nl' 19 18,fl' 0 20 19,ld' O 21 20,mv' 22 0,nl' 23 22,fl' 1 24 23,ld' O 25 24,ia' .add 26 21 25,mv' 27 0,nl' 28 27,fl' 2 29 28,ld' O 30 29,ln' 31 30,ik' .quo 32 31 2,ia' .add 33 26 32,to 34 (B'h .mul (.const (.int .i64 2)) (.tmp 33)),mv' 6 34]
def F37:RC' H:=λO P ro=>A'a (A'b ZpN) (A'a (A'b (ZpO O ro)) (A'a (A'b (ZpP O)) (A'B)))
theorem T'd:FN' 37 @F37 [.tmp 6] Tryz.f37:=f'n Tryz.func37
def ZpQ:RL' H:=[mk' 4 0]
def ZpR:RL' H:=[mk' 5 1]
def ZpS:RL' H:=[mk' 6 0]
def ZpT(O:HI H):RL' H:=[mv' 8 6,mv' 9 0,nl' 10 9,fl' 1 11 10,ld' O 12 11,ia' .lss 13 8 12]
def ZpU:RL' H:=[mv' 16 0,mv' 17 6,to 18 (A'e 35 [.tmp 16,.tmp 17]),mv' 7 18]
def ZpV:RL' H:=[mv' 19 0,mv' 20 5,mv' 21 7,ik' .xor 22 21 1,mv' 23 1,mv' 24 6,to 25 (A'r .shr (.tmp 23) (.tmp 24)),ik' .and 26 25 1,ia' .xor 27 22 26,to 28 (A'e 37 [.tmp 19,.tmp 20,.tmp 27]),mv' 5 28]
def ZpW:RL' H:=[mv' 14 6,ik' .add 15 14 1,mv' 6 15]
def ZpX:RL' H:=[mv' 29 5,mv' 4 29]
def N'E:RC' H:=λO P ro=>A'a (A'a (A'b (ZpT O)) (cIf (.tmp 13) (A'f) (A'n 0))) (A'a (A'w 1 (A'a (A'b ZpU) (A'b ZpV))) (A'b ZpW))
def F38:RC' H:=λO P ro=>A'a (A'b ZpQ) (A'a (A'b ZpR) (A'a (A'a (A'b ZpS) (A'w 0 (A'Y (N'E O P ro)))) (A'a (A'b ZpX) (A'B))))
theorem T'e:FN' 38 @F38 [.tmp 4] Tryz.f38:=f'n Tryz.func38
def ZpY:RL' H:=[to 2 (A'h (.const (.string { data:=#[] })))]
def ZpZ(O:HI H):RL' H:=[mv' 14 0,nl' 15 14,fl' 2 16 15,ld' O 17 16,ln' 18 17,ik' .quo 19 18 2,mv' 3 19]
def Zp0(O:HI H):RL' H:=[mv' 20 0,nl' 21 20,fl' 0 22 21,ld' O 23 22,mv' 24 0,nl' 25 24,fl' 1 26 25,ld' O 27 26,ia' .add 28 23 27,mv' 29 3,ia' .add 30 28 29,mv' 31 0,nl' 32 31,fl' 0 33 32,ld' O 34 33,mv' 35 0,nl' 36 35,fl' 1 37 36,ld' O 38 37,mv' 39 3,to 40 (A'x O 1 6 #[.int .i64 0] [(0,.tmp 30),(1,.tmp 34),(2,.tmp 38),(3,.const (.int .i64 0)),(4,.tmp 39),(5,.const (.int .i64 1))]),to 41 (A'e 75 [.tmp 40]),mv' 4 41]
def Zp1:RL' H:=[mv' 42 4,to 43 (D'j .add (.const (.string { data:=#[97,97,103,32] })) (.tmp 42)),mv' 5 43]
def Zp2:RL' H:=[mk' 6 0]
def Zp3(O:HI H):RL' H:=[mv' 44 6,mv' 45 0,nl' 46 45,fl' 0 47 46,ld' O 48 47,ia' .lss 49 44 48]
def Zp4:RL' H:=[mv' 52 0,mv' 53 6,to 54 (A'e 42 [.tmp 52,.tmp 53]),mv' 7 54]
def Zp5(O:HI H):RL' H:=[mv' 55 7,to 56 (A'x O 1 1 #[.int .i64 0] [(0,.tmp 55)]),to 57 (A'e 75 [.tmp 56]),mv' 8 57]
def Zp6:RL' H:=[mv' 58 5,mv' 59 8,to 60 (D'j .add (.tmp 58) (.tmp 59)),mv' 5 60]
def Zp7:RL' H:=[mv' 50 6,ik' .add 51 50 1,mv' 6 51]
def Zp8:RL' H:=[mk' 9 0]
def Zp9(O:HI H):RL' H:=[mv' 61 9,mv' 62 0,nl' 63 62,fl' 1 64 63,ld' O 65 64,ia' .lss 66 61 65]
def Zqa:RL' H:=[mv' 69 0,mv' 70 9,to 71 (A'e 35 [.tmp 69,.tmp 70]),mv' 10 71]
def Zqb(O:HI H):RL' H:=[mv' 72 10,mv' 73 0,nl' 74 73,fl' 3 75 74,ld' O 76 75,mv' 77 9,ix' 1 78 76 77,ld' O 79 78,mv' 80 0,nl' 81 80,fl' 4 82 81,ld' O 83 82,mv' 84 9,ix' 1 85 83 84,ld' O 86 85,to 87 (A'x O 1 3 #[.int .i64 0] [(0,.tmp 72),(1,.tmp 79),(2,.tmp 86)]),to 88 (A'e 75 [.tmp 87]),mv' 11 88]
def Zqc:RL' H:=[mv' 89 5,mv' 90 11,to 91 (D'j .add (.tmp 89) (.tmp 90)),mv' 5 91]
def Zqd:RL' H:=[mv' 67 9,ik' .add 68 67 1,mv' 9 68]
def Zqe(O:HI H):RL' H:=[mv' 92 0,nl' 93 92,fl' 5 94 93,ld' O 95 94,to 96 (A'x O 1 1 #[.int .i64 0] [(0,.tmp 95)]),to 97 (A'e 75 [.tmp 96]),mv' 12 97]
def Zqf:RL' H:=[mv' 98 5,mv' 99 12,to 100 (D'j .add (.tmp 98) (.tmp 99)),mv' 5 100]
def Zqg:RL' H:=[mv' 101 3,ik' .sub 102 101 1,mv' 13 102]
def Zqh:RL' H:=[mv' 103 13,ik' .geq 104 103 0]
def Zqi(O:HI H):RL' H:=[mv' 107 0,nl' 108 107,fl' 0 109 108,ld' O 110 109,to 111 (B'h .add (.const (.int .i64 1)) (.tmp 110)),mv' 112 0,nl' 113 112,fl' 1 114 113,ld' O 115 114,ia' .add 116 111 115,mv' 117 13,ia' .add 118 116 117,to 119 (B'h .mul (.const (.int .i64 2)) (.tmp 118)),mv' 120 0,nl' 121 120,fl' 2 122 121,ld' O 123 122,mv' 124 13,to 125 (B'h .mul (.const (.int .i64 2)) (.tmp 124)),ix' 1 126 123 125,ld' O 127 126,mv' 128 0,nl' 129 128,fl' 2 130 129,ld' O 131 130,mv' 132 13,to 133 (B'h .mul (.const (.int .i64 2)) (.tmp 132)),ik' .add 134 133 1,ix' 1 135 131 134,ld' O 136 135,to 137 (A'x O 1 3 #[.int .i64 0] [(0,.tmp 119),(1,.tmp 127),(2,.tmp 136)]),to 138 (A'e 75 [.tmp 137]),mv' 12 138]
def Zqj:RL' H:=[mv' 139 5,mv' 140 12,to 141 (D'j .add (.tmp 139) (.tmp 140)),mv' 5 141]
def Zqk:RL' H:=[mv' 105 13,ik' .sub 106 105 1,mv' 13 106]
def Zql:RL' H:=[mv' 142 5,mv' 2 142]
def Q'9:RC' H:=λO P ro=>A'a (A'a (A'b (Zp3 O)) (cIf (.tmp 49) (A'f) (A'n 0))) (A'a (A'w 1 (A'a (A'b Zp4) (A'a (A'b (Zp5 O)) (A'b Zp6)))) (A'b Zp7))
def R'a:RC' H:=λO P ro=>A'a (A'a (A'b (Zp9 O)) (cIf (.tmp 66) (A'f) (A'n 2))) (A'a (A'w 3 (A'a (A'b Zqa) (A'a (A'b (Zqb O)) (A'b Zqc)))) (A'b Zqd))
def R'b:RC' H:=λO P ro=>A'a (A'a (A'b Zqh) (cIf (.tmp 104) (A'f) (A'n 4))) (A'a (A'w 5 (A'a (A'b (Zqi O)) (A'b Zqj))) (A'b Zqk))
def F39:RC' H:=λO P ro=>A'a (A'b ZpY) (A'a (A'b (ZpZ O)) (A'a (A'b (Zp0 O)) (A'a (A'b Zp1) (A'a (A'a (A'b Zp2) (A'w 0 (A'Y (Q'9 O P ro)))) (A'a (A'a (A'b Zp8) (A'w 2 (A'Y (R'a O P ro)))) (A'a (A'b (Zqe O)) (A'a (A'b Zqf) (A'a (A'a (A'b Zqg) (A'w 4 (A'Y (R'b O P ro)))) (A'a (A'b Zql) (A'B))))))))))
theorem T'f:FN' 39 @F39 [.tmp 2] Tryz.f39:=f'n Tryz.func39
def Zqm:RL' H:=[to 2 (A'h (.const (.bool false)))]
def Zqn:RL' H:=[mv' 6 0,to 7 (A'e 16 [.tmp 6,.const (.int .i64 1152921504606846976)]),mv' 3 7]
def Zqo:RL' H:=[mv' 8 0,to 9 (A'e 16 [.tmp 8,.const (.int .i64 0)]),mv' 4 9]
def Zqp:RL' H:=[mv' 10 3,to 11 (A's false (.tmp 10) (.const (.pointer none))),mv' 12 11,A'd 12 false 13 (mv' 13 4),A'd 12 false 14 (to 14 (A's false (.tmp 13) (.const (.pointer none)))),to 15 (A'y (.tmp 12) (.const (.bool true)) (.tmp 14))]
def Zqq:RL' H:=[to 2 (A'h (.const (.bool false)))]
def Zqr(O:HI H):RL' H:=[mv' 16 3,nl' 17 16,fl' 1 18 17,to 19 (B'r O 2 (.tmp 18)),to 20 (A'p #[.int .i64 0,.int .i64 0] [(0,1),(1,1)] []),to 21 (D'I false 2 (.tmp 19) (.tmp 20)),mv' 5 21]
def Zqs(O:HI H):RL' H:=[mv' 22 5,mv' 23 22,A'd 23 true 24 (mv' 24 3),A'd 23 true 25 (nl' 25 24),A'd 23 true 26 (fl' 0 26 25),A'd 23 true 27 (ld' O 27 26),A'd 23 true 28 (ik' .eql 28 27 1),to 29 (A'y (.tmp 23) (.tmp 28) (.const (.bool false))),mv' 30 29,A'd 30 true 31 (mv' 31 4),A'd 30 true 32 (nl' 32 31),A'd 30 true 33 (fl' 0 33 32),A'd 30 true 34 (ld' O 34 33),A'd 30 true 35 (ik' .eql 35 34 1),A'd 30 true 36 (mv' 36 35),A'd 36 false 37 (mv' 37 4),A'd 36 false 38 (nl' 38 37),A'd 36 false 39 (fl' 0 39 38),A'd 36 false 40 (ld' O 40 39),A'd 36 false 41 (ik' .eql 41 40 3),A'd 30 true 42 (to 42 (A'y (.tmp 36) (.const (.bool true)) (.tmp 41))),to 43 (A'y (.tmp 30) (.tmp 42) (.const (.bool false))),mv' 2 43]
def F41:RC' H:=λO P ro=>A'a (A'b Zqm) (A'a (A'b Zqn) (A'a (A'b Zqo) (A'a (A'a (A'b Zqp) (cIf (.tmp 15) (A'a (A'b Zqq) (A'B)) (A'f))) (A'a (A'b (Zqr O)) (A'a (A'b (Zqs O)) (A'B))))))
theorem T'g:FN' 41 @F41 [.tmp 2] Tryz.f41:=f'n Tryz.func41
def Zqt:RL' H:=[mk' 4 0]
def Zqu:RL' H:=[mv' 5 1,to 6 (B'h .add (.const (.int .i64 1)) (.tmp 5)),to 7 (B'h .mul (.const (.int .i64 2)) (.tmp 6)),mv' 4 7]
def F42:RC' H:=λO P ro=>A'a (A'b Zqt) (A'a (A'b Zqu) (A'B))
theorem T'h:FN' 42 @F42 [.tmp 4] Tryz.f42:=f'n Tryz.func42
def Zqv:RL' H:=[to 2 (A'h (.const (.string { data:=#[] })))]
def Zqw:RL' H:=[to 3 (A'h (.const (.string { data:=#[] })))]
def Zqx:RL' H:=[mk' 4 0]
def Zqy:RL' H:=[mv' 6 4,mv' 7 0,ln' 8 7,ia' .lss 9 6 8]
def Zqz:RL' H:=[mv' 12 4,ik' .gtr 13 12 0]
def ZqA:RL' H:=[mv' 14 3,to 15 (D'j .add (.tmp 14) (.const (.string { data:=#[32] }))),mv' 3 15]
def ZqB(O:HI H):RL' H:=[mv' 16 0,mv' 17 4,ix' 1 18 16 17,ld' O 19 18,to 20 (A'e 130 [.tmp 19]),mv' 5 20]
def ZqC:RL' H:=[mv' 21 3,mv' 22 5,to 23 (D'j .add (.tmp 21) (.tmp 22)),mv' 3 23]
def ZqD:RL' H:=[mv' 10 4,ik' .add 11 10 1,mv' 4 11]
def ZqE:RL' H:=[mv' 24 3,to 25 (D'j .add (.tmp 24) (.const (.string { data:=#[10] }))),mv' 2 25]
def T'i:RC' H:=λO P ro=>A'a (A'a (A'b Zqy) (cIf (.tmp 9) (A'f) (A'n 0))) (A'a (A'w 1 (A'a (A'a (A'b Zqz) (cIf (.tmp 13) (A'b ZqA) (A'f))) (A'a (A'b (ZqB O)) (A'b ZqC)))) (A'b ZqD))
def F75:RC' H:=λO P ro=>A'a (A'b Zqv) (A'a (A'b Zqw) (A'a (A'a (A'b Zqx) (A'w 0 (A'Y (T'i O P ro)))) (A'a (A'b ZqE) (A'B))))
theorem T'j:FN' 75 @F75 [.tmp 2] Tryz.f75:=f'n Tryz.func75
def ZqF:RL' H:=[to 2 (A'h (.const (.string { data:=#[] })))]
def ZqG:RL' H:=[mv' 4 0,ik' .lss 5 4 10]
def ZqH(O:HI H):RL' H:=[mv' 6 0,to 7 (B'h .add (.const (.int .i64 48)) (.tmp 6)),to 8 (A'4 .u8 (.tmp 7)),to 9 (A'x O 1 1 #[.int .u8 0] [(0,.tmp 8)]),to 10 (J'K O (.tmp 9)),mv' 2 10]
def ZqI:RL' H:=[mv' 11 0,ik' .quo 12 11 10,to 13 (A'e 130 [.tmp 12]),mv' 3 13]
def ZqJ(O:HI H):RL' H:=[mv' 14 3,mv' 15 0,ik' .rem 16 15 10,to 17 (B'h .add (.const (.int .i64 48)) (.tmp 16)),to 18 (A'4 .u8 (.tmp 17)),to 19 (A'x O 1 1 #[.int .u8 0] [(0,.tmp 18)]),to 20 (J'K O (.tmp 19)),to 21 (D'j .add (.tmp 14) (.tmp 20)),mv' 2 21]
def U'n:RC' H:=λO P ro=>A'a (A'b ZqF) (A'a (A'a (A'b ZqG) (cIf (.tmp 5) (A'a (A'b (ZqH O)) (A'B)) (A'f))) (A'a (A'b ZqI) (A'a (A'b (ZqJ O)) (A'B))))
theorem L'h:FN' 130 @U'n [.tmp 2] Tryz.f130:=f'n Tryz.func130
end
end Go.Proofs.YtimdkminagnhgaaGreatDoor
