import Derived.Test.YtimdkminagnhgaaGreatDoorQ04
import Derived.Test.YtimdkminagnhgaaGreatDoorProg
import Derived.KernelRfl
import Derived.Test.YtimdkminagnhgaaGreatDoorQ05
set_option linter.all false
namespace Go.Proofs.YtimdkminagnhgaaGreatDoor
open Go.Vm Go.Proofs
set_option maxRecDepth 100000
section
variable {H:Type}
def Zpg:RL' H:=[to 6 (A'h (.const (.bool false)))]
def Zph:RL' H:=[mv' 7 0,mv' 8 1,to 9 (A'e 18 [.tmp 7,.tmp 8]),mv' 6 9]
def F9:RC' H:=λO P ro=>A'a (A'b Zpg) (A'a (A'b Zph) (A'B))
theorem U's:FN' 9 @F9 [.tmp 6] Tryz.f9:=f'n Tryz.func9
def Zpi:RL' H:=[to 4 (A'h (.const (.bool false)))]
def Zpj:RL' H:=[mv' 17 0,to 18 (A'e 33 [.tmp 17,.const (.int .i64 6)]),to 19 (B'h .add (.const (.int .i64 1)) (.tmp 18)),mv' 5 19]
def Zpk:RL' H:=[mv' 20 1,mv' 21 5,to 22 (A's .shl (.const (.int .i64 1)) (.tmp 21)),to 23 (A'e 33 [.tmp 20,.tmp 22]),mv' 6 23]
def Zpl:RL' H:=[mv' 24 5,to 25 (A'e 34 [.const (.int .i64 0),.tmp 24]),mv' 7 25]
def Zpm:RL' H:=[mk' 8 1]
def Zpn:RL' H:=[mk' 9 0]
def Zpo:RL' H:=[mv' 26 9,mv' 27 5,ia' .lss 28 26 27]
def Zpp:RL' H:=[mv' 31 7,mv' 32 9,to 33 (A'e 35 [.tmp 31,.tmp 32]),mv' 10 33]
def Zpq:RL' H:=[mv' 34 7,mv' 35 10,mv' 36 8,to 37 (A'e 36 [.tmp 34,.tmp 35,.tmp 36]),mv' 11 37]
def Zpr(O:HI H)(ro:Nat):RL' H:=[mv' 38 7,nl' 39 38,fl' 3 40 39,ld' O 41 40,mv' 42 9,mv' 43 11,ix' 1 44 41 42,too (aSt O ro 1 (.tmp 44) (.tmp 43))]
def Zps:RL' H:=[mv' 45 7,mv' 46 10,mv' 47 8,to 48 (A'e 37 [.tmp 45,.tmp 46,.tmp 47]),mv' 8 48]
def Zpt:RL' H:=[mv' 29 9,ik' .add 30 29 1,mv' 9 30]
def Zpu(O:HI H)(ro:Nat):RL' H:=[mv' 49 7,mv' 50 7,mv' 51 6,to 52 (A'e 38 [.tmp 50,.tmp 51]),nl' 53 49,fl' 5 54 53,too (aSt O ro 1 (.tmp 54) (.tmp 52))]
def Zpv:RL' H:=[mv' 55 7,to 56 (A'e 39 [.tmp 55]),mv' 12 56]
def Zpw:RL' H:=[mv' 58 12,to 59 (A'e 40 [.tmp 58]),mv' 57 59,to 60 (B'O (.tmp 57) 0),to 61 (B'O (.tmp 57) 1),to 62 (B'O (.tmp 57) 2),mv' 13 60,mv' 14 61,mv' 15 62]
def Zpx:RL' H:=[mv' 63 15,to 64 (aUn .not (.tmp 63)),mv' 65 64,A'd 65 false 66 (mv' 66 14),A'd 65 false 67 (ik' .neq 67 66 0),to 68 (A'w (.tmp 65) (.const (.bool true)) (.tmp 67)),mv' 69 68,A'd 69 false 70 (mv' 70 13),A'd 69 false 71 (ln' 71 70),A'd 69 false 72 (ik' .eql 72 71 0),to 73 (A'w (.tmp 69) (.const (.bool true)) (.tmp 72)),mv' 74 73,A'd 74 false 75 (mv' 75 13),A'd 74 false 76 (ln' 76 75),A'd 74 false 77 (ik' .sub 77 76 1),A'd 74 false 78 (mv' 78 5),A'd 74 false 79 (to 79 (A's .shl (.const (.int .i64 1)) (.tmp 78))),A'd 74 false 80 (ia' .rem 80 77 79),A'd 74 false 81 (mv' 81 6),A'd 74 false 82 (ia' .neq 82 80 81),to 83 (A'w (.tmp 74) (.const (.bool true)) (.tmp 82))]
def Zpy:RL' H:=[to 4 (A'h (.const (.bool false)))]
def Zpz:RL' H:=[mk' 16 0]
def ZpA:RL' H:=[mv' 84 16,mv' 85 13,ln' 86 85,ia' .lss 87 84 86]
def ZpB(O:HI H):RL' H:=[mv' 90 13,mv' 91 16,ix' 1 92 90 91,ld' O 93 92,ik' .neq 94 93 0]
def ZpC:RL' H:=[to 4 (A'h (.const (.bool false)))]
def ZpD:RL' H:=[mv' 88 16,ik' .add 89 88 1,mv' 16 89]
def ZpE:RL' H:=[to 4 (A'h (.const (.bool true)))]
def N'G:RC' H:=λO P ro=>A'a (A'a (A'b Zpo) (cIf (.tmp 28) (A'f) (A'n 0))) (A'a (A'x 1 (A'a (A'b Zpp) (A'a (A'b Zpq) (A'a (A'b (Zpr O ro)) (A'b Zps))))) (A'b Zpt))
def N'H:RC' H:=λO P ro=>A'a (A'a (A'b ZpA) (cIf (.tmp 87) (A'f) (A'n 2))) (A'a (A'x 3 (A'a (A'b (ZpB O)) (cIf (.tmp 94) (A'a (A'b ZpC) (A'B)) (A'f)))) (A'b ZpD))
def F18:RC' H:=λO P ro=>A'a (A'b Zpi) (A'a (A'b Zpj) (A'a (A'b Zpk) (A'a (A'b Zpl) (A'a (A'b Zpm) (A'a (A'a (A'b Zpn) (A'x 0 (A'Y (N'G O P ro)))) (A'a (A'b (Zpu O ro)) (A'a (A'b Zpv) (A'a (A'b Zpw) (A'a (A'a (A'b Zpx) (cIf (.tmp 83) (A'a (A'b Zpy) (A'B)) (A'f))) (A'a (A'a (A'b Zpz) (A'x 2 (A'Y (N'H O P ro)))) (A'a (A'b ZpE) (A'B))))))))))))
theorem T'h:FN' 18 @F18 [.tmp 4] Tryz.f18:=f'n Tryz.func18
def ZpF:RL' H:=[mk' 4 0]
def ZpG:RL' H:=[mv' 5 0,ik' .lss 6 5 0]
def ZpH:RL' H:=[mv' 7 0,ik' .add 8 7 1,to 9 (aUn .neg (.tmp 8)),mv' 0 9]
def ZpI:RL' H:=[mv' 10 0,mv' 11 1,ia' .rem 12 10 11,mv' 4 12]
def F33:RC' H:=λO P ro=>A'a (A'b ZpF) (A'a (A'a (A'b ZpG) (cIf (.tmp 6) (A'b ZpH) (A'f))) (A'a (A'b ZpI) (A'B)))
theorem O'C:FN' 33 @F33 [.tmp 4] Tryz.f33:=f'n Tryz.func33
def ZpJ:RL' H:=[to 4 (A'h (.const (.pointer none)))]
def ZpK(O:HI H):RL' H:=[mv' 6 0,mv' 7 1,to 8 (A'p #[.int .i64 0,.int .i64 0,.slice none 0 0,.slice none 0 0,.slice none 0 0,.int .i64 0] [(0,1),(1,1),(2,1),(3,1),(4,1),(5,1)] [(0,.tmp 6),(1,.tmp 7)]),to 9 (B'y O (.tmp 8)),mv' 5 9]
def ZpL(O:HI H)(ro:Nat):RL' H:=[mv' 10 5,mv' 11 1,to 12 (B'd O 1 8 #[.int .i64 0] (.tmp 11) (.tmp 11)),nl' 13 10,fl' 3 14 13,too (aSt O ro 1 (.tmp 14) (.tmp 12))]
def ZpM(O:HI H)(ro:Nat):RL' H:=[mv' 15 5,mv' 16 1,to 17 (B'd O 1 8 #[.int .i64 0] (.tmp 16) (.tmp 16)),nl' 18 15,fl' 4 19 18,too (aSt O ro 1 (.tmp 19) (.tmp 17))]
def ZpN:RL' H:=[mv' 20 5,mv' 4 20]
def F34:RC' H:=λO P ro=>A'a (A'b ZpJ) (A'a (A'b (ZpK O)) (A'a (A'b (ZpL O ro)) (A'a (A'b (ZpM O ro)) (A'a (A'b ZpN) (A'B)))))
theorem T'i:FN' 34 @F34 [.tmp 4] Tryz.f34:=f'n Tryz.func34
def ZpO:RL' H:=[mk' 4 0]
def ZpP(O:HI H):RL' H:=[mv' 5 0,nl' 6 5,fl' 0 7 6,ld' O 8 7,to 9 (B'h .add (.const (.int .i64 1)) (.tmp 8)),mv' 10 1,ia' .add 11 9 10,to 12 (B'h .mul (.const (.int .i64 2)) (.tmp 11)),mv' 4 12]
def F35:RC' H:=λO P ro=>A'a (A'b ZpO) (A'a (A'b (ZpP O)) (A'B))
theorem T'j:FN' 35 @F35 [.tmp 4] Tryz.f35:=f'n Tryz.func35
def ZpQ:RL' H:=[mk' 6 0]
def ZpR:RL' H:=[mv' 9 0,mv' 10 1,mv' 11 2,to 12 (A'e 37 [.tmp 9,.tmp 10,.tmp 11]),mv' 7 12]
def ZpS:RL' H:=[mv' 13 0,mv' 14 1,ik' .xor 15 14 1,mv' 16 2,ik' .xor 17 16 1,to 18 (A'e 37 [.tmp 13,.tmp 15,.tmp 17]),mv' 8 18]
def ZpT:RL' H:=[mv' 19 0,mv' 20 7,ik' .xor 21 20 1,mv' 22 8,ik' .xor 23 22 1,to 24 (A'e 37 [.tmp 19,.tmp 21,.tmp 23]),mv' 6 24]
def F36:RC' H:=λO P ro=>A'a (A'b ZpQ) (A'a (A'b ZpR) (A'a (A'b ZpS) (A'a (A'b ZpT) (A'B))))
theorem T'k:FN' 36 @F36 [.tmp 6] Tryz.f36:=f'n Tryz.func36
def ZpU:RL' H:=[mk' 6 0]
def ZpV(O:HI H)(ro:Nat):RL' H:=[mv' 7 0,mv' 8 0,nl' 9 8,fl' 2 10 9,ld' O 11 10,mv' 12 1,mv' 13 2,to 14 (A'y O 1 2 #[.int .i64 0] [(0,.tmp 12),(1,.tmp 13)]),to 15 (B'p O ro 1 8 (.tmp 11) (.tmp 14)),nl' 16 7,fl' 2 17 16,too (aSt O ro 1 (.tmp 17) (.tmp 15))]
def ZpW(O:HI H):RL' H:=[mv' 18 0,nl' 19 18,fl' 0 20 19,ld' O 21 20,mv' 22 0,nl' 23 22,fl' 1 24 23,ld' O 25 24,ia' .add 26 21 25,mv' 27 0,nl' 28 27,fl' 2 29 28,ld' O 30 29,ln' 31 30,ik' .quo 32 31 2,ia' .add 33 26 32,to 34 (B'h .mul (.const (.int .i64 2)) (.tmp 33)),mv' 6 34]
def F37:RC' H:=λO P ro=>A'a (A'b ZpU) (A'a (A'b (ZpV O ro)) (A'a (A'b (ZpW O)) (A'B)))
theorem T'l:FN' 37 @F37 [.tmp 6] Tryz.f37:=f'n Tryz.func37
def ZpX:RL' H:=[mk' 4 0]
def ZpY:RL' H:=[mk' 5 1]
def ZpZ:RL' H:=[mk' 6 0]
def Zp0(O:HI H):RL' H:=[mv' 8 6,mv' 9 0,nl' 10 9,fl' 1 11 10,ld' O 12 11,ia' .lss 13 8 12]
def Zp1:RL' H:=[mv' 16 0,mv' 17 6,to 18 (A'e 35 [.tmp 16,.tmp 17]),mv' 7 18]
def Zp2:RL' H:=[mv' 19 0,mv' 20 5,mv' 21 7,ik' .xor 22 21 1,mv' 23 1,mv' 24 6,to 25 (A's .shr (.tmp 23) (.tmp 24)),ik' .and 26 25 1,ia' .xor 27 22 26,to 28 (A'e 37 [.tmp 19,.tmp 20,.tmp 27]),mv' 5 28]
def Zp3:RL' H:=[mv' 14 6,ik' .add 15 14 1,mv' 6 15]
def Zp4:RL' H:=[mv' 29 5,mv' 4 29]
def N'I:RC' H:=λO P ro=>A'a (A'a (A'b (Zp0 O)) (cIf (.tmp 13) (A'f) (A'n 0))) (A'a (A'x 1 (A'a (A'b Zp1) (A'b Zp2))) (A'b Zp3))
def F38:RC' H:=λO P ro=>A'a (A'b ZpX) (A'a (A'b ZpY) (A'a (A'a (A'b ZpZ) (A'x 0 (A'Y (N'I O P ro)))) (A'a (A'b Zp4) (A'B))))
theorem T'm:FN' 38 @F38 [.tmp 4] Tryz.f38:=f'n Tryz.func38
def Zp5:RL' H:=[to 2 (A'h (.const (.string { data:=#[] })))]
def Zp6(O:HI H):RL' H:=[mv' 14 0,nl' 15 14,fl' 2 16 15,ld' O 17 16,ln' 18 17,ik' .quo 19 18 2,mv' 3 19]
def Zp7(O:HI H):RL' H:=[mv' 20 0,nl' 21 20,fl' 0 22 21,ld' O 23 22,mv' 24 0,nl' 25 24,fl' 1 26 25,ld' O 27 26,ia' .add 28 23 27,mv' 29 3,ia' .add 30 28 29,mv' 31 0,nl' 32 31,fl' 0 33 32,ld' O 34 33,mv' 35 0,nl' 36 35,fl' 1 37 36,ld' O 38 37,mv' 39 3,to 40 (A'y O 1 6 #[.int .i64 0] [(0,.tmp 30),(1,.tmp 34),(2,.tmp 38),(3,.const (.int .i64 0)),(4,.tmp 39),(5,.const (.int .i64 1))]),to 41 (A'e 75 [.tmp 40]),mv' 4 41]
def Zp8:RL' H:=[mv' 42 4,to 43 (D'j .add (.const (.string { data:=#[97,97,103,32] })) (.tmp 42)),mv' 5 43]
def Zp9:RL' H:=[mk' 6 0]
def Zqa(O:HI H):RL' H:=[mv' 44 6,mv' 45 0,nl' 46 45,fl' 0 47 46,ld' O 48 47,ia' .lss 49 44 48]
def Zqb:RL' H:=[mv' 52 0,mv' 53 6,to 54 (A'e 42 [.tmp 52,.tmp 53]),mv' 7 54]
def Zqc(O:HI H):RL' H:=[mv' 55 7,to 56 (A'y O 1 1 #[.int .i64 0] [(0,.tmp 55)]),to 57 (A'e 75 [.tmp 56]),mv' 8 57]
def Zqd:RL' H:=[mv' 58 5,mv' 59 8,to 60 (D'j .add (.tmp 58) (.tmp 59)),mv' 5 60]
def Zqe:RL' H:=[mv' 50 6,ik' .add 51 50 1,mv' 6 51]
def Zqf:RL' H:=[mk' 9 0]
def Zqg(O:HI H):RL' H:=[mv' 61 9,mv' 62 0,nl' 63 62,fl' 1 64 63,ld' O 65 64,ia' .lss 66 61 65]
def Zqh:RL' H:=[mv' 69 0,mv' 70 9,to 71 (A'e 35 [.tmp 69,.tmp 70]),mv' 10 71]
def Zqi(O:HI H):RL' H:=[mv' 72 10,mv' 73 0,nl' 74 73,fl' 3 75 74,ld' O 76 75,mv' 77 9,ix' 1 78 76 77,ld' O 79 78,mv' 80 0,nl' 81 80,fl' 4 82 81,ld' O 83 82,mv' 84 9,ix' 1 85 83 84,ld' O 86 85,to 87 (A'y O 1 3 #[.int .i64 0] [(0,.tmp 72),(1,.tmp 79),(2,.tmp 86)]),to 88 (A'e 75 [.tmp 87]),mv' 11 88]
def Zqj:RL' H:=[mv' 89 5,mv' 90 11,to 91 (D'j .add (.tmp 89) (.tmp 90)),mv' 5 91]
def Zqk:RL' H:=[mv' 67 9,ik' .add 68 67 1,mv' 9 68]
def Zql(O:HI H):RL' H:=[mv' 92 0,nl' 93 92,fl' 5 94 93,ld' O 95 94,to 96 (A'y O 1 1 #[.int .i64 0] [(0,.tmp 95)]),to 97 (A'e 75 [.tmp 96]),mv' 12 97]
def Zqm:RL' H:=[mv' 98 5,mv' 99 12,to 100 (D'j .add (.tmp 98) (.tmp 99)),mv' 5 100]
def Zqn:RL' H:=[mv' 101 3,ik' .sub 102 101 1,mv' 13 102]
def Zqo:RL' H:=[mv' 103 13,ik' .geq 104 103 0]
def Zqp(O:HI H):RL' H:=[mv' 107 0,nl' 108 107,fl' 0 109 108,ld' O 110 109,to 111 (B'h .add (.const (.int .i64 1)) (.tmp 110)),mv' 112 0,nl' 113 112,fl' 1 114 113,ld' O 115 114,ia' .add 116 111 115,mv' 117 13,ia' .add 118 116 117,to 119 (B'h .mul (.const (.int .i64 2)) (.tmp 118)),mv' 120 0,nl' 121 120,fl' 2 122 121,ld' O 123 122,mv' 124 13,to 125 (B'h .mul (.const (.int .i64 2)) (.tmp 124)),ix' 1 126 123 125,ld' O 127 126,mv' 128 0,nl' 129 128,fl' 2 130 129,ld' O 131 130,mv' 132 13,to 133 (B'h .mul (.const (.int .i64 2)) (.tmp 132)),ik' .add 134 133 1,ix' 1 135 131 134,ld' O 136 135,to 137 (A'y O 1 3 #[.int .i64 0] [(0,.tmp 119),(1,.tmp 127),(2,.tmp 136)]),to 138 (A'e 75 [.tmp 137]),mv' 12 138]
def Zqq:RL' H:=[mv' 139 5,mv' 140 12,to 141 (D'j .add (.tmp 139) (.tmp 140)),mv' 5 141]
def Zqr:RL' H:=[mv' 105 13,ik' .sub 106 105 1,mv' 13 106]
def Zqs:RL' H:=[mv' 142 5,mv' 2 142]
def R'h:RC' H:=λO P ro=>A'a (A'a (A'b (Zqa O)) (cIf (.tmp 49) (A'f) (A'n 0))) (A'a (A'x 1 (A'a (A'b Zqb) (A'a (A'b (Zqc O)) (A'b Zqd)))) (A'b Zqe))
def R'i:RC' H:=λO P ro=>A'a (A'a (A'b (Zqg O)) (cIf (.tmp 66) (A'f) (A'n 2))) (A'a (A'x 3 (A'a (A'b Zqh) (A'a (A'b (Zqi O)) (A'b Zqj)))) (A'b Zqk))
def R'j:RC' H:=λO P ro=>A'a (A'a (A'b Zqo) (cIf (.tmp 104) (A'f) (A'n 4))) (A'a (A'x 5 (A'a (A'b (Zqp O)) (A'b Zqq))) (A'b Zqr))
def F39:RC' H:=λO P ro=>A'a (A'b Zp5) (A'a (A'b (Zp6 O)) (A'a (A'b (Zp7 O)) (A'a (A'b Zp8) (A'a (A'a (A'b Zp9) (A'x 0 (A'Y (R'h O P ro)))) (A'a (A'a (A'b Zqf) (A'x 2 (A'Y (R'i O P ro)))) (A'a (A'b (Zql O)) (A'a (A'b Zqm) (A'a (A'a (A'b Zqn) (A'x 4 (A'Y (R'j O P ro)))) (A'a (A'b Zqs) (A'B))))))))))
theorem T'n:FN' 39 @F39 [.tmp 2] Tryz.f39:=f'n Tryz.func39
def Zqt:RL' H:=[to 2 (A'h (.const (.slice none 0 0))),mk' 3 0,to 4 (A'h (.const (.bool false)))]
def Zqu:RL' H:=[mv' 8 0,to 9 (A'e 16 [.tmp 8,.const (.int .i64 1152921504606846976)]),mv' 5 9]
def Zqv:RL' H:=[mv' 10 0,to 11 (A'e 16 [.tmp 10,.const (.int .i64 0)]),mv' 6 11]
def Zqw:RL' H:=[mv' 12 5,to 13 (A'r false (.tmp 12) (.const (.pointer none))),mv' 14 13,A'd 14 false 15 (mv' 15 6),A'd 14 false 16 (to 16 (A'r false (.tmp 15) (.const (.pointer none)))),to 17 (A'w (.tmp 14) (.const (.bool true)) (.tmp 16))]
def Zqx:RL' H:=[to 2 (A'h (.const (.slice none 0 0))),mk' 3 0,to 4 (A'h (.const (.bool false)))]
def Zqy(O:HI H):RL' H:=[mv' 18 5,nl' 19 18,fl' 0 20 19,ld' O 21 20,ik' .eql 22 21 2,mv' 23 22,A'd 23 true 24 (mv' 24 6),A'd 23 true 25 (nl' 25 24),A'd 23 true 26 (fl' 0 26 25),A'd 23 true 27 (ld' O 27 26),A'd 23 true 28 (ik' .eql 28 27 2),A'd 23 true 29 (mv' 29 28),A'd 29 false 30 (mv' 30 6),A'd 29 false 31 (nl' 31 30),A'd 29 false 32 (fl' 0 32 31),A'd 29 false 33 (ld' O 33 32),A'd 29 false 34 (ik' .eql 34 33 3),A'd 23 true 35 (to 35 (A'w (.tmp 29) (.const (.bool true)) (.tmp 34))),to 36 (A'w (.tmp 23) (.tmp 35) (.const (.bool false))),mv' 7 36]
def Zqz(O:HI H):RL' H:=[mv' 37 5,nl' 38 37,fl' 5 39 38,ld' O 40 39,mv' 41 5,nl' 42 41,fl' 4 43 42,ld' O 44 43,mv' 45 7,mv' 2 40,mv' 3 44,mv' 4 45]
def F40:RC' H:=λO P ro=>A'a (A'b Zqt) (A'a (A'b Zqu) (A'a (A'b Zqv) (A'a (A'a (A'b Zqw) (cIf (.tmp 17) (A'a (A'b Zqx) (A'B)) (A'f))) (A'a (A'b (Zqy O)) (A'a (A'b (Zqz O)) (A'B))))))
theorem T'o:FN' 40 @F40 [.tmp 2,.tmp 3,.tmp 4] Tryz.f40:=f'n Tryz.func40
def ZqA:RL' H:=[to 2 (A'h (.const (.bool false)))]
def ZqB:RL' H:=[mv' 6 0,to 7 (A'e 16 [.tmp 6,.const (.int .i64 1152921504606846976)]),mv' 3 7]
def ZqC:RL' H:=[mv' 8 0,to 9 (A'e 16 [.tmp 8,.const (.int .i64 0)]),mv' 4 9]
def ZqD:RL' H:=[mv' 10 3,to 11 (A'r false (.tmp 10) (.const (.pointer none))),mv' 12 11,A'd 12 false 13 (mv' 13 4),A'd 12 false 14 (to 14 (A'r false (.tmp 13) (.const (.pointer none)))),to 15 (A'w (.tmp 12) (.const (.bool true)) (.tmp 14))]
def ZqE:RL' H:=[to 2 (A'h (.const (.bool false)))]
def ZqF(O:HI H):RL' H:=[mv' 16 3,nl' 17 16,fl' 1 18 17,to 19 (B's O 2 (.tmp 18)),to 20 (A'p #[.int .i64 0,.int .i64 0] [(0,1),(1,1)] []),to 21 (D'I false 2 (.tmp 19) (.tmp 20)),mv' 5 21]
def ZqG(O:HI H):RL' H:=[mv' 22 5,mv' 23 22,A'd 23 true 24 (mv' 24 3),A'd 23 true 25 (nl' 25 24),A'd 23 true 26 (fl' 0 26 25),A'd 23 true 27 (ld' O 27 26),A'd 23 true 28 (ik' .eql 28 27 1),to 29 (A'w (.tmp 23) (.tmp 28) (.const (.bool false))),mv' 30 29,A'd 30 true 31 (mv' 31 4),A'd 30 true 32 (nl' 32 31),A'd 30 true 33 (fl' 0 33 32),A'd 30 true 34 (ld' O 34 33),A'd 30 true 35 (ik' .eql 35 34 1),A'd 30 true 36 (mv' 36 35),A'd 36 false 37 (mv' 37 4),A'd 36 false 38 (nl' 38 37),A'd 36 false 39 (fl' 0 39 38),A'd 36 false 40 (ld' O 40 39),A'd 36 false 41 (ik' .eql 41 40 3),A'd 30 true 42 (to 42 (A'w (.tmp 36) (.const (.bool true)) (.tmp 41))),to 43 (A'w (.tmp 30) (.tmp 42) (.const (.bool false))),mv' 2 43]
def F41:RC' H:=λO P ro=>A'a (A'b ZqA) (A'a (A'b ZqB) (A'a (A'b ZqC) (A'a (A'a (A'b ZqD) (cIf (.tmp 15) (A'a (A'b ZqE) (A'B)) (A'f))) (A'a (A'b (ZqF O)) (A'a (A'b (ZqG O)) (A'B))))))
theorem T'p:FN' 41 @F41 [.tmp 2] Tryz.f41:=f'n Tryz.func41
def ZqH:RL' H:=[mk' 4 0]
def ZqI:RL' H:=[mv' 5 1,to 6 (B'h .add (.const (.int .i64 1)) (.tmp 5)),to 7 (B'h .mul (.const (.int .i64 2)) (.tmp 6)),mv' 4 7]
def F42:RC' H:=λO P ro=>A'a (A'b ZqH) (A'a (A'b ZqI) (A'B))
theorem T'q:FN' 42 @F42 [.tmp 4] Tryz.f42:=f'n Tryz.func42
def ZqJ:RL' H:=[to 2 (A'h (.const (.string { data:=#[] })))]
def ZqK:RL' H:=[to 3 (A'h (.const (.string { data:=#[] })))]
def ZqL:RL' H:=[mk' 4 0]
def ZqM:RL' H:=[mv' 6 4,mv' 7 0,ln' 8 7,ia' .lss 9 6 8]
def ZqN:RL' H:=[mv' 12 4,ik' .gtr 13 12 0]
def ZqO:RL' H:=[mv' 14 3,to 15 (D'j .add (.tmp 14) (.const (.string { data:=#[32] }))),mv' 3 15]
def ZqP(O:HI H):RL' H:=[mv' 16 0,mv' 17 4,ix' 1 18 16 17,ld' O 19 18,to 20 (A'e 130 [.tmp 19]),mv' 5 20]
def ZqQ:RL' H:=[mv' 21 3,mv' 22 5,to 23 (D'j .add (.tmp 21) (.tmp 22)),mv' 3 23]
def ZqR:RL' H:=[mv' 10 4,ik' .add 11 10 1,mv' 4 11]
def ZqS:RL' H:=[mv' 24 3,to 25 (D'j .add (.tmp 24) (.const (.string { data:=#[10] }))),mv' 2 25]
def T'r:RC' H:=λO P ro=>A'a (A'a (A'b ZqM) (cIf (.tmp 9) (A'f) (A'n 0))) (A'a (A'x 1 (A'a (A'a (A'b ZqN) (cIf (.tmp 13) (A'b ZqO) (A'f))) (A'a (A'b (ZqP O)) (A'b ZqQ)))) (A'b ZqR))
def F75:RC' H:=λO P ro=>A'a (A'b ZqJ) (A'a (A'b ZqK) (A'a (A'a (A'b ZqL) (A'x 0 (A'Y (T'r O P ro)))) (A'a (A'b ZqS) (A'B))))
theorem T's:FN' 75 @F75 [.tmp 2] Tryz.f75:=f'n Tryz.func75
def ZqT:RL' H:=[to 2 (A'h (.const (.string { data:=#[] })))]
def ZqU:RL' H:=[mv' 4 0,ik' .lss 5 4 10]
def ZqV(O:HI H):RL' H:=[mv' 6 0,to 7 (B'h .add (.const (.int .i64 48)) (.tmp 6)),to 8 (A'4 .u8 (.tmp 7)),to 9 (A'y O 1 1 #[.int .u8 0] [(0,.tmp 8)]),to 10 (J'K O (.tmp 9)),mv' 2 10]
def ZqW:RL' H:=[mv' 11 0,ik' .quo 12 11 10,to 13 (A'e 130 [.tmp 12]),mv' 3 13]
def ZqX(O:HI H):RL' H:=[mv' 14 3,mv' 15 0,ik' .rem 16 15 10,to 17 (B'h .add (.const (.int .i64 48)) (.tmp 16)),to 18 (A'4 .u8 (.tmp 17)),to 19 (A'y O 1 1 #[.int .u8 0] [(0,.tmp 18)]),to 20 (J'K O (.tmp 19)),to 21 (D'j .add (.tmp 14) (.tmp 20)),mv' 2 21]
def U't:RC' H:=λO P ro=>A'a (A'b ZqT) (A'a (A'a (A'b ZqU) (cIf (.tmp 5) (A'a (A'b (ZqV O)) (A'B)) (A'f))) (A'a (A'b ZqW) (A'a (A'b (ZqX O)) (A'B))))
theorem L'h:FN' 130 @U't [.tmp 2] Tryz.f130:=f'n Tryz.func130
end
end Go.Proofs.YtimdkminagnhgaaGreatDoor
