import Derived.Test.YtimdkminagnhgaaGreatDoorQ04
import Derived.Test.YtimdkminagnhgaaGreatDoorProg
import Derived.KernelRfl
import Derived.Test.YtimdkminagnhgaaGreatDoorQ05
set_option linter.all false
namespace Go.Proofs.YtimdkminagnhgaaGreatDoor
open Go.Vm Go.Proofs
set_option maxRecDepth 100000
section
variable {H:Type}
def Zpg:RL' H:=[to 6 (A'h (.const (.bool false)))]
def Zph:RL' H:=[mv' 7 0,mv' 8 1,to 9 (A'e 21 [.tmp 7,.tmp 8]),mv' 6 9]
def F12:RC' H:=λO P ro=>A'a (A'b Zpg) (A'a (A'b Zph) (A'B))
theorem T'i:FN' 12 @F12 [.tmp 6] Tryz.f12:=f'n Tryz.func12
def Zpi:RL' H:=[to 4 (A'h (.const (.bool false)))]
def Zpj:RL' H:=[mv' 16 0,to 17 (A'e 33 [.tmp 16,.const (.int .i64 6)]),to 18 (B'h .add (.const (.int .i64 1)) (.tmp 17)),mv' 5 18]
def Zpk:RL' H:=[mv' 19 5,to 20 (A'e 34 [.const (.int .i64 1),.tmp 19]),mv' 6 20]
def Zpl:RL' H:=[mk' 7 1]
def Zpm:RL' H:=[mk' 8 0]
def Zpn:RL' H:=[mv' 21 8,mv' 22 5,ia' .lss 23 21 22]
def Zpo:RL' H:=[mv' 26 6,to 27 (A'e 42 [.tmp 26,.const (.int .i64 0)]),mv' 9 27]
def Zpp:RL' H:=[mv' 28 6,mv' 29 7,mv' 30 9,ik' .xor 31 30 1,mv' 32 1,mv' 33 8,to 34 (A's .shr (.tmp 32) (.tmp 33)),ik' .and 35 34 1,ia' .xor 36 31 35,to 37 (A'e 37 [.tmp 28,.tmp 29,.tmp 36]),mv' 10 37]
def Zpq(O:HI H)(ro:Nat):RL' H:=[mv' 38 6,nl' 39 38,fl' 3 40 39,ld' O 41 40,mv' 42 8,mv' 43 10,ix' 1 44 41 42,too (aSt O ro 1 (.tmp 44) (.tmp 43))]
def Zpr:RL' H:=[mv' 45 6,mv' 46 8,to 47 (A'e 35 [.tmp 45,.tmp 46]),mv' 7 47]
def Zps:RL' H:=[mv' 24 8,ik' .add 25 24 1,mv' 8 25]
def Zpt(O:HI H)(ro:Nat):RL' H:=[mv' 48 6,mv' 49 7,nl' 50 48,fl' 5 51 50,too (aSt O ro 1 (.tmp 51) (.tmp 49))]
def Zpu:RL' H:=[mv' 52 6,to 53 (A'e 39 [.tmp 52]),mv' 11 53]
def Zpv:RL' H:=[mv' 55 11,to 56 (A'e 40 [.tmp 55]),mv' 54 56,to 57 (B'T (.tmp 54) 0),to 58 (B'T (.tmp 54) 1),to 59 (B'T (.tmp 54) 2),mv' 12 57,mv' 13 58,mv' 14 59]
def Zpw:RL' H:=[mv' 60 14,to 61 (aUn .not (.tmp 60)),mv' 62 61,A'd 62 false 63 (mv' 63 13),A'd 62 false 64 (ik' .neq 64 63 0),to 65 (A'w (.tmp 62) (.const (.bool true)) (.tmp 64)),mv' 66 65,A'd 66 false 67 (mv' 67 12),A'd 66 false 68 (ln' 68 67),A'd 66 false 69 (mv' 69 5),A'd 66 false 70 (ia' .leq 70 68 69),to 71 (A'w (.tmp 66) (.const (.bool true)) (.tmp 70))]
def Zpx:RL' H:=[to 4 (A'h (.const (.bool false)))]
def Zpy:RL' H:=[mk' 15 0]
def Zpz:RL' H:=[mv' 72 15,mv' 73 5,ia' .lss 74 72 73]
def ZpA(O:HI H):RL' H:=[mv' 77 12,mv' 78 12,ln' 79 78,ik' .sub 80 79 1,mv' 81 5,ia' .sub 82 80 81,mv' 83 15,ia' .add 84 82 83,ix' 1 85 77 84,ld' O 86 85,ik' .and 87 86 1,mv' 88 1,mv' 89 15,to 90 (A's .shr (.tmp 88) (.tmp 89)),ik' .and 91 90 1,ia' .neq 92 87 91]
def ZpB:RL' H:=[to 4 (A'h (.const (.bool false)))]
def ZpC:RL' H:=[mv' 75 15,ik' .add 76 75 1,mv' 15 76]
def ZpD:RL' H:=[to 4 (A'h (.const (.bool true)))]
def N'P:RC' H:=λO P ro=>A'a (A'a (A'b Zpn) (cIf (.tmp 23) (A'f) (A'n 0))) (A'a (A'x 1 (A'a (A'b Zpo) (A'a (A'b Zpp) (A'a (A'b (Zpq O ro)) (A'b Zpr))))) (A'b Zps))
def N'Q:RC' H:=λO P ro=>A'a (A'a (A'b Zpz) (cIf (.tmp 74) (A'f) (A'n 2))) (A'a (A'x 3 (A'a (A'b (ZpA O)) (cIf (.tmp 92) (A'a (A'b ZpB) (A'B)) (A'f)))) (A'b ZpC))
def F21:RC' H:=λO P ro=>A'a (A'b Zpi) (A'a (A'b Zpj) (A'a (A'b Zpk) (A'a (A'b Zpl) (A'a (A'a (A'b Zpm) (A'x 0 (A'Y (N'P O P ro)))) (A'a (A'b (Zpt O ro)) (A'a (A'b Zpu) (A'a (A'b Zpv) (A'a (A'a (A'b Zpw) (cIf (.tmp 71) (A'a (A'b Zpx) (A'B)) (A'f))) (A'a (A'a (A'b Zpy) (A'x 2 (A'Y (N'Q O P ro)))) (A'a (A'b ZpD) (A'B)))))))))))
theorem T'j:FN' 21 @F21 [.tmp 4] Tryz.f21:=f'n Tryz.func21
def ZpE:RL' H:=[mk' 4 0]
def ZpF:RL' H:=[mv' 5 0,ik' .lss 6 5 0]
def ZpG:RL' H:=[mv' 7 0,ik' .add 8 7 1,to 9 (aUn .neg (.tmp 8)),mv' 0 9]
def ZpH:RL' H:=[mv' 10 0,mv' 11 1,ia' .rem 12 10 11,mv' 4 12]
def F33:RC' H:=λO P ro=>A'a (A'b ZpE) (A'a (A'a (A'b ZpF) (cIf (.tmp 6) (A'b ZpG) (A'f))) (A'a (A'b ZpH) (A'B)))
theorem O'K:FN' 33 @F33 [.tmp 4] Tryz.f33:=f'n Tryz.func33
def ZpI:RL' H:=[to 4 (A'h (.const (.pointer none)))]
def ZpJ(O:HI H):RL' H:=[mv' 6 0,mv' 7 1,to 8 (A'p #[.int .i64 0,.int .i64 0,.slice none 0 0,.slice none 0 0,.slice none 0 0,.int .i64 0] [(0,1),(1,1),(2,1),(3,1),(4,1),(5,1)] [(0,.tmp 6),(1,.tmp 7)]),to 9 (B'y O (.tmp 8)),mv' 5 9]
def ZpK(O:HI H)(ro:Nat):RL' H:=[mv' 10 5,mv' 11 1,to 12 (B'd O 1 8 #[.int .i64 0] (.tmp 11) (.tmp 11)),nl' 13 10,fl' 3 14 13,too (aSt O ro 1 (.tmp 14) (.tmp 12))]
def ZpL(O:HI H)(ro:Nat):RL' H:=[mv' 15 5,mv' 16 1,to 17 (B'd O 1 8 #[.int .i64 0] (.tmp 16) (.tmp 16)),nl' 18 15,fl' 4 19 18,too (aSt O ro 1 (.tmp 19) (.tmp 17))]
def ZpM:RL' H:=[mv' 20 5,mv' 4 20]
def F34:RC' H:=λO P ro=>A'a (A'b ZpI) (A'a (A'b (ZpJ O)) (A'a (A'b (ZpK O ro)) (A'a (A'b (ZpL O ro)) (A'a (A'b ZpM) (A'B)))))
theorem T'k:FN' 34 @F34 [.tmp 4] Tryz.f34:=f'n Tryz.func34
def ZpN:RL' H:=[mk' 4 0]
def ZpO(O:HI H):RL' H:=[mv' 5 0,nl' 6 5,fl' 0 7 6,ld' O 8 7,to 9 (B'h .add (.const (.int .i64 1)) (.tmp 8)),mv' 10 1,ia' .add 11 9 10,to 12 (B'h .mul (.const (.int .i64 2)) (.tmp 11)),mv' 4 12]
def F35:RC' H:=λO P ro=>A'a (A'b ZpN) (A'a (A'b (ZpO O)) (A'B))
theorem T'l:FN' 35 @F35 [.tmp 4] Tryz.f35:=f'n Tryz.func35
def ZpP:RL' H:=[mk' 6 0]
def ZpQ(O:HI H)(ro:Nat):RL' H:=[mv' 7 0,mv' 8 0,nl' 9 8,fl' 2 10 9,ld' O 11 10,mv' 12 1,mv' 13 2,to 14 (A'y O 1 2 #[.int .i64 0] [(0,.tmp 12),(1,.tmp 13)]),to 15 (B'q O ro 1 8 (.tmp 11) (.tmp 14)),nl' 16 7,fl' 2 17 16,too (aSt O ro 1 (.tmp 17) (.tmp 15))]
def ZpR(O:HI H):RL' H:=[mv' 18 0,nl' 19 18,fl' 0 20 19,ld' O 21 20,mv' 22 0,nl' 23 22,fl' 1 24 23,ld' O 25 24,ia' .add 26 21 25,mv' 27 0,nl' 28 27,fl' 2 29 28,ld' O 30 29,ln' 31 30,ik' .quo 32 31 2,ia' .add 33 26 32,to 34 (B'h .mul (.const (.int .i64 2)) (.tmp 33)),mv' 6 34]
def F37:RC' H:=λO P ro=>A'a (A'b ZpP) (A'a (A'b (ZpQ O ro)) (A'a (A'b (ZpR O)) (A'B)))
theorem T'm:FN' 37 @F37 [.tmp 6] Tryz.f37:=f'n Tryz.func37
def ZpS:RL' H:=[to 2 (A'h (.const (.string { data:=#[] })))]
def ZpT(O:HI H):RL' H:=[mv' 14 0,nl' 15 14,fl' 2 16 15,ld' O 17 16,ln' 18 17,ik' .quo 19 18 2,mv' 3 19]
def ZpU(O:HI H):RL' H:=[mv' 20 0,nl' 21 20,fl' 0 22 21,ld' O 23 22,mv' 24 0,nl' 25 24,fl' 1 26 25,ld' O 27 26,ia' .add 28 23 27,mv' 29 3,ia' .add 30 28 29,mv' 31 0,nl' 32 31,fl' 0 33 32,ld' O 34 33,mv' 35 0,nl' 36 35,fl' 1 37 36,ld' O 38 37,mv' 39 3,to 40 (A'y O 1 6 #[.int .i64 0] [(0,.tmp 30),(1,.tmp 34),(2,.tmp 38),(3,.const (.int .i64 0)),(4,.tmp 39),(5,.const (.int .i64 1))]),to 41 (A'e 75 [.tmp 40]),mv' 4 41]
def ZpV:RL' H:=[mv' 42 4,to 43 (D'h .add (.const (.string { data:=#[97,97,103,32] })) (.tmp 42)),mv' 5 43]
def ZpW:RL' H:=[mk' 6 0]
def ZpX(O:HI H):RL' H:=[mv' 44 6,mv' 45 0,nl' 46 45,fl' 0 47 46,ld' O 48 47,ia' .lss 49 44 48]
def ZpY:RL' H:=[mv' 52 0,mv' 53 6,to 54 (A'e 42 [.tmp 52,.tmp 53]),mv' 7 54]
def ZpZ(O:HI H):RL' H:=[mv' 55 7,to 56 (A'y O 1 1 #[.int .i64 0] [(0,.tmp 55)]),to 57 (A'e 75 [.tmp 56]),mv' 8 57]
def Zp0:RL' H:=[mv' 58 5,mv' 59 8,to 60 (D'h .add (.tmp 58) (.tmp 59)),mv' 5 60]
def Zp1:RL' H:=[mv' 50 6,ik' .add 51 50 1,mv' 6 51]
def Zp2:RL' H:=[mk' 9 0]
def Zp3(O:HI H):RL' H:=[mv' 61 9,mv' 62 0,nl' 63 62,fl' 1 64 63,ld' O 65 64,ia' .lss 66 61 65]
def Zp4:RL' H:=[mv' 69 0,mv' 70 9,to 71 (A'e 35 [.tmp 69,.tmp 70]),mv' 10 71]
def Zp5(O:HI H):RL' H:=[mv' 72 10,mv' 73 0,nl' 74 73,fl' 3 75 74,ld' O 76 75,mv' 77 9,ix' 1 78 76 77,ld' O 79 78,mv' 80 0,nl' 81 80,fl' 4 82 81,ld' O 83 82,mv' 84 9,ix' 1 85 83 84,ld' O 86 85,to 87 (A'y O 1 3 #[.int .i64 0] [(0,.tmp 72),(1,.tmp 79),(2,.tmp 86)]),to 88 (A'e 75 [.tmp 87]),mv' 11 88]
def Zp6:RL' H:=[mv' 89 5,mv' 90 11,to 91 (D'h .add (.tmp 89) (.tmp 90)),mv' 5 91]
def Zp7:RL' H:=[mv' 67 9,ik' .add 68 67 1,mv' 9 68]
def Zp8(O:HI H):RL' H:=[mv' 92 0,nl' 93 92,fl' 5 94 93,ld' O 95 94,to 96 (A'y O 1 1 #[.int .i64 0] [(0,.tmp 95)]),to 97 (A'e 75 [.tmp 96]),mv' 12 97]
def Zp9:RL' H:=[mv' 98 5,mv' 99 12,to 100 (D'h .add (.tmp 98) (.tmp 99)),mv' 5 100]
def Zqa:RL' H:=[mv' 101 3,ik' .sub 102 101 1,mv' 13 102]
def Zqb:RL' H:=[mv' 103 13,ik' .geq 104 103 0]
def Zqc(O:HI H):RL' H:=[mv' 107 0,nl' 108 107,fl' 0 109 108,ld' O 110 109,to 111 (B'h .add (.const (.int .i64 1)) (.tmp 110)),mv' 112 0,nl' 113 112,fl' 1 114 113,ld' O 115 114,ia' .add 116 111 115,mv' 117 13,ia' .add 118 116 117,to 119 (B'h .mul (.const (.int .i64 2)) (.tmp 118)),mv' 120 0,nl' 121 120,fl' 2 122 121,ld' O 123 122,mv' 124 13,to 125 (B'h .mul (.const (.int .i64 2)) (.tmp 124)),ix' 1 126 123 125,ld' O 127 126,mv' 128 0,nl' 129 128,fl' 2 130 129,ld' O 131 130,mv' 132 13,to 133 (B'h .mul (.const (.int .i64 2)) (.tmp 132)),ik' .add 134 133 1,ix' 1 135 131 134,ld' O 136 135,to 137 (A'y O 1 3 #[.int .i64 0] [(0,.tmp 119),(1,.tmp 127),(2,.tmp 136)]),to 138 (A'e 75 [.tmp 137]),mv' 12 138]
def Zqd:RL' H:=[mv' 139 5,mv' 140 12,to 141 (D'h .add (.tmp 139) (.tmp 140)),mv' 5 141]
def Zqe:RL' H:=[mv' 105 13,ik' .sub 106 105 1,mv' 13 106]
def Zqf:RL' H:=[mv' 142 5,mv' 2 142]
def R'm:RC' H:=λO P ro=>A'a (A'a (A'b (ZpX O)) (cIf (.tmp 49) (A'f) (A'n 0))) (A'a (A'x 1 (A'a (A'b ZpY) (A'a (A'b (ZpZ O)) (A'b Zp0)))) (A'b Zp1))
def R'n:RC' H:=λO P ro=>A'a (A'a (A'b (Zp3 O)) (cIf (.tmp 66) (A'f) (A'n 2))) (A'a (A'x 3 (A'a (A'b Zp4) (A'a (A'b (Zp5 O)) (A'b Zp6)))) (A'b Zp7))
def R'o:RC' H:=λO P ro=>A'a (A'a (A'b Zqb) (cIf (.tmp 104) (A'f) (A'n 4))) (A'a (A'x 5 (A'a (A'b (Zqc O)) (A'b Zqd))) (A'b Zqe))
def F39:RC' H:=λO P ro=>A'a (A'b ZpS) (A'a (A'b (ZpT O)) (A'a (A'b (ZpU O)) (A'a (A'b ZpV) (A'a (A'a (A'b ZpW) (A'x 0 (A'Y (R'm O P ro)))) (A'a (A'a (A'b Zp2) (A'x 2 (A'Y (R'n O P ro)))) (A'a (A'b (Zp8 O)) (A'a (A'b Zp9) (A'a (A'a (A'b Zqa) (A'x 4 (A'Y (R'o O P ro)))) (A'a (A'b Zqf) (A'B))))))))))
theorem T'n:FN' 39 @F39 [.tmp 2] Tryz.f39:=f'n Tryz.func39
def Zqg:RL' H:=[to 2 (A'h (.const (.slice none 0 0))),mk' 3 0,to 4 (A'h (.const (.bool false)))]
def Zqh:RL' H:=[mv' 8 0,to 9 (A'e 16 [.tmp 8,.const (.int .i64 1152921504606846976)]),mv' 5 9]
def Zqi:RL' H:=[mv' 10 0,to 11 (A'e 16 [.tmp 10,.const (.int .i64 0)]),mv' 6 11]
def Zqj:RL' H:=[mv' 12 5,to 13 (A'r false (.tmp 12) (.const (.pointer none))),mv' 14 13,A'd 14 false 15 (mv' 15 6),A'd 14 false 16 (to 16 (A'r false (.tmp 15) (.const (.pointer none)))),to 17 (A'w (.tmp 14) (.const (.bool true)) (.tmp 16))]
def Zqk:RL' H:=[to 2 (A'h (.const (.slice none 0 0))),mk' 3 0,to 4 (A'h (.const (.bool false)))]
def Zql(O:HI H):RL' H:=[mv' 18 5,nl' 19 18,fl' 0 20 19,ld' O 21 20,ik' .eql 22 21 2,mv' 23 22,A'd 23 true 24 (mv' 24 6),A'd 23 true 25 (nl' 25 24),A'd 23 true 26 (fl' 0 26 25),A'd 23 true 27 (ld' O 27 26),A'd 23 true 28 (ik' .eql 28 27 2),A'd 23 true 29 (mv' 29 28),A'd 29 false 30 (mv' 30 6),A'd 29 false 31 (nl' 31 30),A'd 29 false 32 (fl' 0 32 31),A'd 29 false 33 (ld' O 33 32),A'd 29 false 34 (ik' .eql 34 33 3),A'd 23 true 35 (to 35 (A'w (.tmp 29) (.const (.bool true)) (.tmp 34))),to 36 (A'w (.tmp 23) (.tmp 35) (.const (.bool false))),mv' 7 36]
def Zqm(O:HI H):RL' H:=[mv' 37 5,nl' 38 37,fl' 5 39 38,ld' O 40 39,mv' 41 5,nl' 42 41,fl' 4 43 42,ld' O 44 43,mv' 45 7,mv' 2 40,mv' 3 44,mv' 4 45]
def F40:RC' H:=λO P ro=>A'a (A'b Zqg) (A'a (A'b Zqh) (A'a (A'b Zqi) (A'a (A'a (A'b Zqj) (cIf (.tmp 17) (A'a (A'b Zqk) (A'B)) (A'f))) (A'a (A'b (Zql O)) (A'a (A'b (Zqm O)) (A'B))))))
theorem T'o:FN' 40 @F40 [.tmp 2,.tmp 3,.tmp 4] Tryz.f40:=f'n Tryz.func40
def Zqn:RL' H:=[to 2 (A'h (.const (.bool false)))]
def Zqo:RL' H:=[mv' 6 0,to 7 (A'e 16 [.tmp 6,.const (.int .i64 1152921504606846976)]),mv' 3 7]
def Zqp:RL' H:=[mv' 8 0,to 9 (A'e 16 [.tmp 8,.const (.int .i64 0)]),mv' 4 9]
def Zqq:RL' H:=[mv' 10 3,to 11 (A'r false (.tmp 10) (.const (.pointer none))),mv' 12 11,A'd 12 false 13 (mv' 13 4),A'd 12 false 14 (to 14 (A'r false (.tmp 13) (.const (.pointer none)))),to 15 (A'w (.tmp 12) (.const (.bool true)) (.tmp 14))]
def Zqr:RL' H:=[to 2 (A'h (.const (.bool false)))]
def Zqs(O:HI H):RL' H:=[mv' 16 3,nl' 17 16,fl' 1 18 17,to 19 (B'u O 2 (.tmp 18)),to 20 (A'p #[.int .i64 0,.int .i64 0] [(0,1),(1,1)] []),to 21 (D'n false 2 (.tmp 19) (.tmp 20)),mv' 5 21]
def Zqt(O:HI H):RL' H:=[mv' 22 5,mv' 23 22,A'd 23 true 24 (mv' 24 3),A'd 23 true 25 (nl' 25 24),A'd 23 true 26 (fl' 0 26 25),A'd 23 true 27 (ld' O 27 26),A'd 23 true 28 (ik' .eql 28 27 1),to 29 (A'w (.tmp 23) (.tmp 28) (.const (.bool false))),mv' 30 29,A'd 30 true 31 (mv' 31 4),A'd 30 true 32 (nl' 32 31),A'd 30 true 33 (fl' 0 33 32),A'd 30 true 34 (ld' O 34 33),A'd 30 true 35 (ik' .eql 35 34 1),A'd 30 true 36 (mv' 36 35),A'd 36 false 37 (mv' 37 4),A'd 36 false 38 (nl' 38 37),A'd 36 false 39 (fl' 0 39 38),A'd 36 false 40 (ld' O 40 39),A'd 36 false 41 (ik' .eql 41 40 3),A'd 30 true 42 (to 42 (A'w (.tmp 36) (.const (.bool true)) (.tmp 41))),to 43 (A'w (.tmp 30) (.tmp 42) (.const (.bool false))),mv' 2 43]
def F41:RC' H:=λO P ro=>A'a (A'b Zqn) (A'a (A'b Zqo) (A'a (A'b Zqp) (A'a (A'a (A'b Zqq) (cIf (.tmp 15) (A'a (A'b Zqr) (A'B)) (A'f))) (A'a (A'b (Zqs O)) (A'a (A'b (Zqt O)) (A'B))))))
theorem T'p:FN' 41 @F41 [.tmp 2] Tryz.f41:=f'n Tryz.func41
def Zqu:RL' H:=[mk' 4 0]
def Zqv:RL' H:=[mv' 5 1,to 6 (B'h .add (.const (.int .i64 1)) (.tmp 5)),to 7 (B'h .mul (.const (.int .i64 2)) (.tmp 6)),mv' 4 7]
def F42:RC' H:=λO P ro=>A'a (A'b Zqu) (A'a (A'b Zqv) (A'B))
theorem T'q:FN' 42 @F42 [.tmp 4] Tryz.f42:=f'n Tryz.func42
def Zqw:RL' H:=[to 2 (A'h (.const (.string { data:=#[] })))]
def Zqx:RL' H:=[to 3 (A'h (.const (.string { data:=#[] })))]
def Zqy:RL' H:=[mk' 4 0]
def Zqz:RL' H:=[mv' 6 4,mv' 7 0,ln' 8 7,ia' .lss 9 6 8]
def ZqA:RL' H:=[mv' 12 4,ik' .gtr 13 12 0]
def ZqB:RL' H:=[mv' 14 3,to 15 (D'h .add (.tmp 14) (.const (.string { data:=#[32] }))),mv' 3 15]
def ZqC(O:HI H):RL' H:=[mv' 16 0,mv' 17 4,ix' 1 18 16 17,ld' O 19 18,to 20 (A'e 130 [.tmp 19]),mv' 5 20]
def ZqD:RL' H:=[mv' 21 3,mv' 22 5,to 23 (D'h .add (.tmp 21) (.tmp 22)),mv' 3 23]
def ZqE:RL' H:=[mv' 10 4,ik' .add 11 10 1,mv' 4 11]
def ZqF:RL' H:=[mv' 24 3,to 25 (D'h .add (.tmp 24) (.const (.string { data:=#[10] }))),mv' 2 25]
def T'r:RC' H:=λO P ro=>A'a (A'a (A'b Zqz) (cIf (.tmp 9) (A'f) (A'n 0))) (A'a (A'x 1 (A'a (A'a (A'b ZqA) (cIf (.tmp 13) (A'b ZqB) (A'f))) (A'a (A'b (ZqC O)) (A'b ZqD)))) (A'b ZqE))
def F75:RC' H:=λO P ro=>A'a (A'b Zqw) (A'a (A'b Zqx) (A'a (A'a (A'b Zqy) (A'x 0 (A'Y (T'r O P ro)))) (A'a (A'b ZqF) (A'B))))
theorem T's:FN' 75 @F75 [.tmp 2] Tryz.f75:=f'n Tryz.func75
def ZqG:RL' H:=[to 2 (A'h (.const (.string { data:=#[] })))]
def ZqH:RL' H:=[mv' 4 0,ik' .lss 5 4 10]
def ZqI(O:HI H):RL' H:=[mv' 6 0,to 7 (B'h .add (.const (.int .i64 48)) (.tmp 6)),to 8 (A'4 .u8 (.tmp 7)),to 9 (A'y O 1 1 #[.int .u8 0] [(0,.tmp 8)]),to 10 (J'd O (.tmp 9)),mv' 2 10]
def ZqJ:RL' H:=[mv' 11 0,ik' .quo 12 11 10,to 13 (A'e 130 [.tmp 12]),mv' 3 13]
def ZqK(O:HI H):RL' H:=[mv' 14 3,mv' 15 0,ik' .rem 16 15 10,to 17 (B'h .add (.const (.int .i64 48)) (.tmp 16)),to 18 (A'4 .u8 (.tmp 17)),to 19 (A'y O 1 1 #[.int .u8 0] [(0,.tmp 18)]),to 20 (J'd O (.tmp 19)),to 21 (D'h .add (.tmp 14) (.tmp 20)),mv' 2 21]
def U'B:RC' H:=λO P ro=>A'a (A'b ZqG) (A'a (A'a (A'b ZqH) (cIf (.tmp 5) (A'a (A'b (ZqI O)) (A'B)) (A'f))) (A'a (A'b ZqJ) (A'a (A'b (ZqK O)) (A'B))))
theorem L'n:FN' 130 @U'B [.tmp 2] Tryz.f130:=f'n Tryz.func130
end
end Go.Proofs.YtimdkminagnhgaaGreatDoor
