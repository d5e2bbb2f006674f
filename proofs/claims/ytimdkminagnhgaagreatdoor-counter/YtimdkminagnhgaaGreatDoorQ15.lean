import Derived.Test.YtimdkminagnhgaaGreatDoorQ04
import Derived.Test.YtimdkminagnhgaaGreatDoorProg
import Derived.KernelRfl
import Derived.Test.YtimdkminagnhgaaGreatDoorQ05
set_option linter.all false
namespace Go.Proofs.YtimdkminagnhgaaGreatDoor
open Go.Vm Go.Proofs
set_option maxRecDepth 100000
section
variable {H:Type}
def Zef:RL' H:=[to 0 (A'h (.const (.pointer none)))]
def Zeg(O:HI H):RL' H:=[to 1 (A'p #[.slice none 0 0,.slice none 0 0,.slice none 0 0,.slice none 0 0,.int .i64 0] [(0,1),(1,1),(2,1),(3,1),(4,1)] []),to 2 (B'y O (.tmp 1)),mv' 0 2]
def F81:RC' H:=λO P ro=>A'a (A'b Zef) (A'a (A'b (Zeg O)) (A'B))
theorem S'H:FN' 81 @F81 [.tmp 0] Tryz.f81:=f'n Tryz.func81
def Zeh:RL' H:=[mk' 4 0,mk' 5 0]
def Zei(O:HI H):RL' H:=[mv' 6 0,to 7 (A'r false (.tmp 6) (.const (.pointer none))),mv' 8 7,A'd 8 false 9 (mv' 9 0),A'd 8 false 10 (nl' 10 9),A'd 8 false 11 (fl' 0 11 10),A'd 8 false 12 (ld' O 12 11),A'd 8 false 13 (ln' 13 12),A'd 8 false 14 (ik' .geq 14 13 192),to 15 (A'w (.tmp 8) (.const (.bool true)) (.tmp 14))]
def Zej:RL' H:=[mk' 4 0,mk' 5 14]
def Zek(O:HI H)(ro:Nat):RL' H:=[mv' 16 0,mv' 17 0,nl' 18 17,fl' 0 19 18,ld' O 20 19,mv' 21 1,to 22 (A'y O 1 1 #[.bool false] [(0,.tmp 21)]),to 23 (B'p O ro 1 1 (.tmp 20) (.tmp 22)),nl' 24 16,fl' 0 25 24,too (aSt O ro 1 (.tmp 25) (.tmp 23))]
def Zel(O:HI H):RL' H:=[mv' 26 0,nl' 27 26,fl' 0 28 27,ld' O 29 28,ln' 30 29,ik' .sub 31 30 1,mv' 4 31,mk' 5 0]
def U'S:RC' H:=λO P ro=>A'a (A'b Zeh) (A'a (A'a (A'b (Zei O)) (cIf (.tmp 15) (A'a (A'b Zej) (A'B)) (A'f))) (A'a (A'b (Zek O ro)) (A'a (A'b (Zel O)) (A'B))))
theorem P'B:FN' 104 @U'S [.tmp 4,.tmp 5] Tryz.f104:=f'n Tryz.func104
def Zem:RL' H:=[mk' 4 0]
def Zen:RL' H:=[mv' 6 0,to 7 (A'r false (.tmp 6) (.const (.pointer none))),mv' 8 7,A'd 8 false 9 (mv' 9 0),A'd 8 false 10 (mv' 10 1),A'd 8 false 11 (to 11 (A'e 157 [.tmp 9,.tmp 10])),A'd 8 false 12 (to 12 (aUn .not (.tmp 11))),to 13 (A'w (.tmp 8) (.const (.bool true)) (.tmp 12))]
def Zeo:RL' H:=[mk' 4 13]
def Zep:RL' H:=[mv' 14 0,mv' 15 1,to 16 (A'e 158 [.tmp 14,.tmp 15]),mv' 5 16]
def Zeq:RL' H:=[mv' 17 5,to 18 (A'e 159 [.tmp 17]),to 19 (aUn .not (.tmp 18))]
def Zer(O:HI H)(ro:Nat):RL' H:=[mv' 20 0,mv' 21 0,nl' 22 21,fl' 1 23 22,ld' O 24 23,mv' 25 5,to 26 (A'y O 1 1 #[.slice none 0 0] [(0,.tmp 25)]),to 27 (B'p O ro 1 24 (.tmp 24) (.tmp 26)),nl' 28 20,fl' 1 29 28,too (aSt O ro 1 (.tmp 29) (.tmp 27))]
def Zes:RL' H:=[mk' 4 0]
def U'j:RC' H:=λO P ro=>A'a (A'b Zem) (A'a (A'a (A'b Zen) (cIf (.tmp 13) (A'a (A'b Zeo) (A'B)) (A'f))) (A'a (A'b Zep) (A'a (A'a (A'b Zeq) (cIf (.tmp 19) (A'b (Zer O ro)) (A'f))) (A'a (A'b Zes) (A'B)))))
theorem K'p:FN' 105 @U'j [.tmp 4] Tryz.f105:=f'n Tryz.func105
def Zet:RL' H:=[to 2 (A'h (.const (.slice none 0 0)))]
def Zeu:RL' H:=[mv' 3 0,to 4 (A'r false (.tmp 3) (.const (.pointer none)))]
def Zev:RL' H:=[to 2 (A'h (.const (.slice none 0 0)))]
def Zew(O:HI H)(ro:Nat):RL' H:=[mv' 5 0,nl' 6 5,fl' 3 7 6,ld' O 8 7,to 9 (B'p O ro 1 8 (.const (.slice none 0 0)) (.tmp 8)),mv' 2 9]
def U'T:RC' H:=λO P ro=>A'a (A'b Zet) (A'a (A'a (A'b Zeu) (cIf (.tmp 4) (A'a (A'b Zev) (A'B)) (A'f))) (A'a (A'b (Zew O ro)) (A'B)))
theorem P'C:FN' 145 @U'T [.tmp 2] Tryz.f145:=f'n Tryz.func145
def Zex:RL' H:=[mk' 2 0]
def Zey:RL' H:=[mv' 3 0,to 4 (A'r false (.tmp 3) (.const (.pointer none)))]
def Zez:RL' H:=[mk' 2 0]
def ZeA(O:HI H):RL' H:=[mv' 5 0,nl' 6 5,fl' 4 7 6,ld' O 8 7,mv' 2 8]
def U'U:RC' H:=λO P ro=>A'a (A'b Zex) (A'a (A'a (A'b Zey) (cIf (.tmp 4) (A'a (A'b Zez) (A'B)) (A'f))) (A'a (A'b (ZeA O)) (A'B)))
theorem P'D:FN' 146 @U'U [.tmp 2] Tryz.f146:=f'n Tryz.func146
def ZeB:RL' H:=[to 4 (A'h (.const (.bool false)))]
def ZeC:RL' H:=[mk' 5 0]
def ZeD:RL' H:=[mv' 6 5,mv' 7 1,ln' 8 7,ia' .lss 9 6 8]
def ZeE(O:HI H):RL' H:=[mv' 12 1,mv' 13 5,ix' 1 14 12 13,ld' O 15 14,ik' .lss 16 15 0,mv' 17 16,A'd 17 false 18 (mv' 18 1),A'd 17 false 19 (mv' 19 5),A'd 17 false 20 (ix' 1 20 18 19),A'd 17 false 21 (ld' O 21 20),A'd 17 false 22 (mv' 22 0),A'd 17 false 23 (nl' 23 22),A'd 17 false 24 (fl' 0 24 23),A'd 17 false 25 (ld' O 25 24),A'd 17 false 26 (ln' 26 25),A'd 17 false 27 (to 27 (B'h .mul (.const (.int .i64 2)) (.tmp 26))),A'd 17 false 28 (ia' .geq 28 21 27),to 29 (A'w (.tmp 17) (.const (.bool true)) (.tmp 28))]
def ZeF:RL' H:=[to 4 (A'h (.const (.bool false)))]
def ZeG:RL' H:=[mv' 10 5,ik' .add 11 10 1,mv' 5 11]
def ZeH:RL' H:=[to 4 (A'h (.const (.bool true)))]
def K'q:RC' H:=λO P ro=>A'a (A'a (A'b ZeD) (cIf (.tmp 9) (A'f) (A'n 0))) (A'a (A'x 1 (A'a (A'b (ZeE O)) (cIf (.tmp 29) (A'a (A'b ZeF) (A'B)) (A'f)))) (A'b ZeG))
def U'V:RC' H:=λO P ro=>A'a (A'b ZeB) (A'a (A'a (A'b ZeC) (A'x 0 (A'Y (K'q O P ro)))) (A'a (A'b ZeH) (A'B)))
theorem P'E:FN' 157 @U'V [.tmp 4] Tryz.f157:=f'n Tryz.func157
def ZeI:RL' H:=[to 4 (A'h (.const (.slice none 0 0)))]
def ZeJ(O:HI H):RL' H:=[mv' 8 0,nl' 9 8,fl' 0 10 9,ld' O 11 10,ln' 12 11,to 13 (B'h .mul (.const (.int .i64 2)) (.tmp 12)),to 14 (B'd O 1 1 #[.bool false] (.tmp 13) (.tmp 13)),mv' 5 14]
def ZeK(O:HI H):RL' H:=[to 15 (A'y O 1 0 #[.int .i64 0] []),mv' 6 15]
def ZeL:RL' H:=[mk' 7 0]
def ZeM:RL' H:=[mv' 16 7,mv' 17 1,ln' 18 17,ia' .lss 19 16 18]
def ZeN(O:HI H):RL' H:=[mv' 22 5,mv' 23 1,mv' 24 7,ix' 1 25 23 24,ld' O 26 25,ix' 1 27 22 26,ld' O 28 27,to 29 (aUn .not (.tmp 28))]
def ZeO(O:HI H)(ro:Nat):RL' H:=[mv' 30 5,mv' 31 1,mv' 32 7,ix' 1 33 31 32,ld' O 34 33,ix' 1 35 30 34,too (aSt O ro 1 (.tmp 35) (.const (.bool true)))]
def ZeP(O:HI H)(ro:Nat):RL' H:=[mv' 36 6,mv' 37 1,mv' 38 7,ix' 1 39 37 38,ld' O 40 39,to 41 (A'y O 1 1 #[.int .i64 0] [(0,.tmp 40)]),to 42 (B'p O ro 1 8 (.tmp 36) (.tmp 41)),mv' 6 42]
def ZeQ:RL' H:=[mv' 20 7,ik' .add 21 20 1,mv' 7 21]
def ZeR:RL' H:=[mv' 43 6,mv' 4 43]
def G'J:RC' H:=λO P ro=>A'a (A'a (A'b ZeM) (cIf (.tmp 19) (A'f) (A'n 0))) (A'a (A'x 1 (A'a (A'b (ZeN O)) (cIf (.tmp 29) (A'a (A'b (ZeO O ro)) (A'b (ZeP O ro))) (A'f)))) (A'b ZeQ))
def U'W:RC' H:=λO P ro=>A'a (A'b ZeI) (A'a (A'b (ZeJ O)) (A'a (A'b (ZeK O)) (A'a (A'a (A'b ZeL) (A'x 0 (A'Y (G'J O P ro)))) (A'a (A'b ZeR) (A'B)))))
theorem P'F:FN' 158 @U'W [.tmp 4] Tryz.f158:=f'n Tryz.func158
def ZeS:RL' H:=[to 2 (A'h (.const (.bool false)))]
def ZeT:RL' H:=[mk' 3 0]
def ZeU:RL' H:=[mv' 5 3,mv' 6 0,ln' 7 6,ia' .lss 8 5 7]
def ZeV:RL' H:=[mk' 4 0]
def ZeW:RL' H:=[mv' 11 4,mv' 12 3,ia' .lss 13 11 12]
def ZeX(O:HI H):RL' H:=[mv' 16 0,mv' 17 4,ix' 1 18 16 17,ld' O 19 18,mv' 20 0,mv' 21 3,ix' 1 22 20 21,ld' O 23 22,ik' .xor 24 23 1,ia' .eql 25 19 24]
def ZeY:RL' H:=[to 2 (A'h (.const (.bool true)))]
def ZeZ:RL' H:=[mv' 14 4,ik' .add 15 14 1,mv' 4 15]
def Ze0:RL' H:=[mv' 9 3,ik' .add 10 9 1,mv' 3 10]
def Ze1:RL' H:=[to 2 (A'h (.const (.bool false)))]
def G'K:RC' H:=λO P ro=>A'a (A'a (A'b ZeW) (cIf (.tmp 13) (A'f) (A'n 2))) (A'a (A'x 3 (A'a (A'b (ZeX O)) (cIf (.tmp 25) (A'a (A'b ZeY) (A'B)) (A'f)))) (A'b ZeZ))
def K'r:RC' H:=λO P ro=>A'a (A'a (A'b ZeU) (cIf (.tmp 8) (A'f) (A'n 0))) (A'a (A'x 1 (A'a (A'b ZeV) (A'x 2 (A'Y (G'K O P ro))))) (A'b Ze0))
def U'X:RC' H:=λO P ro=>A'a (A'b ZeS) (A'a (A'a (A'b ZeT) (A'x 0 (A'Y (K'r O P ro)))) (A'a (A'b Ze1) (A'B)))
theorem P'G:FN' 159 @U'X [.tmp 2] Tryz.f159:=f'n Tryz.func159
def Ze2:RL' H:=[mk' 6 0]
def Ze3:RL' H:=[mv' 10 0,to 11 (A'r false (.tmp 10) (.const (.pointer none))),mv' 12 11,A'd 12 false 13 (mv' 13 2),A'd 12 false 14 (ik' .lss 14 13 0),to 15 (A'w (.tmp 12) (.const (.bool true)) (.tmp 14)),mv' 16 15,A'd 16 false 17 (mv' 17 0),A'd 16 false 18 (mv' 18 1),A'd 16 false 19 (to 19 (A'e 157 [.tmp 17,.tmp 18])),A'd 16 false 20 (to 20 (aUn .not (.tmp 19))),to 21 (A'w (.tmp 16) (.const (.bool true)) (.tmp 20))]
def Ze4:RL' H:=[mk' 6 0]
def Ze5:RL' H:=[mv' 22 0,mv' 23 1,to 24 (A'e 158 [.tmp 22,.tmp 23]),mv' 7 24]
def Ze6(O:HI H):RL' H:=[mv' 25 0,nl' 26 25,fl' 0 27 26,ld' O 28 27,mv' 29 7,to 30 (A'e 186 [.tmp 28,.tmp 29]),mv' 8 30]
def Ze7(O:HI H):RL' H:=[mv' 31 8,mv' 32 0,nl' 33 32,fl' 1 34 33,ld' O 35 34,mv' 36 2,to 37 (A'e 187 [.tmp 31,.tmp 35,.tmp 36]),mv' 9 37]
def Ze8(O:HI H)(ro:Nat):RL' H:=[mv' 38 0,nl' 39 38,fl' 4 40 39,ld' O 41 40,mv' 42 8,nl' 43 42,fl' 11 44 43,ld' O 45 44,ia' .add 46 41 45,nl' 47 38,fl' 4 48 47,too (aSt O ro 1 (.tmp 48) (.tmp 46))]
def Ze9(O:HI H)(ro:Nat):RL' H:=[mv' 49 0,nl' 50 49,fl' 2 51 50,too (aSt O ro 1 (.tmp 51) (.const (.slice none 0 0)))]
def Zfa(O:HI H)(ro:Nat):RL' H:=[mv' 52 0,nl' 53 52,fl' 3 54 53,too (aSt O ro 1 (.tmp 54) (.const (.slice none 0 0)))]
def Zfb:RL' H:=[mv' 55 9]
def Zfc:RL' H:=[ik' .eql 57 55 1,mv' 56 57]
def Zfd(O:HI H)(ro:Nat):RL' H:=[mv' 58 0,mv' 59 8,to 60 (A'e 188 [.tmp 59]),nl' 61 58,fl' 2 62 61,too (aSt O ro 1 (.tmp 62) (.tmp 60))]
def Zfe:RL' H:=[ik' .eql 64 55 2,mv' 63 64]
def Zff(O:HI H)(ro:Nat):RL' H:=[mv' 65 0,mv' 66 8,nl' 67 66,fl' 12 68 67,ld' O 69 68,nl' 70 65,fl' 3 71 70,too (aSt O ro 1 (.tmp 71) (.tmp 69))]
def Zfg:RL' H:=[mv' 72 9,mv' 6 72]
def U'Y:RC' H:=λO P ro=>A'a (A'b Ze2) (A'a (A'a (A'b Ze3) (cIf (.tmp 21) (A'a (A'b Ze4) (A'B)) (A'f))) (A'a (A'b Ze5) (A'a (A'b (Ze6 O)) (A'a (A'b (Ze7 O)) (A'a (A'b (Ze8 O ro)) (A'a (A'b (Ze9 O ro)) (A'a (A'b (Zfa O ro)) (A'a (A'a (A'b Zfb) (A'x 0 (A'a (A'b Zfc) (cIf (.tmp 56) (A'b (Zfd O ro)) (A'a (A'b Zfe) (cIf (.tmp 63) (A'b (Zff O ro)) (A'f))))))) (A'a (A'b Zfg) (A'B))))))))))
theorem P'H:FN' 160 @U'Y [.tmp 6] Tryz.f160:=f'n Tryz.func160
def Zfh:RL' H:=[to 4 (A'h (.const (.bool false))),mk' 5 0]
def Zfi(O:HI H):RL' H:=[mv' 6 0,to 7 (A'r false (.tmp 6) (.const (.pointer none))),mv' 8 7,A'd 8 false 9 (mv' 9 1),A'd 8 false 10 (ik' .lss 10 9 0),to 11 (A'w (.tmp 8) (.const (.bool true)) (.tmp 10)),mv' 12 11,A'd 12 false 13 (mv' 13 1),A'd 12 false 14 (mv' 14 0),A'd 12 false 15 (nl' 15 14),A'd 12 false 16 (fl' 2 16 15),A'd 12 false 17 (ld' O 17 16),A'd 12 false 18 (ln' 18 17),A'd 12 false 19 (ia' .geq 19 13 18),to 20 (A'w (.tmp 12) (.const (.bool true)) (.tmp 19))]
def Zfj:RL' H:=[to 4 (A'h (.const (.bool false))),mk' 5 13]
def Zfk(O:HI H):RL' H:=[mv' 21 0,nl' 22 21,fl' 2 23 22,ld' O 24 23,mv' 25 1,ix' 1 26 24 25,ld' O 27 26,mv' 4 27,mk' 5 0]
def U'Z:RC' H:=λO P ro=>A'a (A'b Zfh) (A'a (A'a (A'b (Zfi O)) (cIf (.tmp 20) (A'a (A'b Zfj) (A'B)) (A'f))) (A'a (A'b (Zfk O)) (A'B)))
theorem P'I:FN' 183 @U'Z [.tmp 4,.tmp 5] Tryz.f183:=f'n Tryz.func183
def Zfl:RL' H:=[to 4 (A'h (.const (.pointer none)))]
def Zfm(O:HI H):RL' H:=[mv' 7 1,to 8 (A'p #[.slice none 0 0,.slice none 0 0,.int .i64 0,.int .i64 0,.slice none 0 0,.slice none 0 0,.slice none 0 0,.slice none 0 0,.slice none 0 0,.int .i64 0,.int .i64 0,.int .i64 0,.slice none 0 0] [(0,1),(1,1),(2,1),(3,1),(4,1),(5,1),(6,1),(7,1),(8,1),(9,1),(10,1),(11,1),(12,1)] [(0,.tmp 7),(3,.const (.int .i64 4000)),(10,.const (.int .i64 16))]),to 9 (B'y O (.tmp 8)),mv' 5 9]
def Zfn(O:HI H)(ro:Nat):RL' H:=[mv' 10 5,mv' 11 0,ln' 12 11,to 13 (B'h .mul (.const (.int .i64 2)) (.tmp 12)),to 14 (B'd O 1 24 #[.slice none 0 0] (.tmp 13) (.tmp 13)),nl' 15 10,fl' 4 16 15,too (aSt O ro 1 (.tmp 16) (.tmp 14))]
def Zfo(O:HI H)(ro:Nat):RL' H:=[mv' 17 5,mv' 18 0,ln' 19 18,to 20 (B'h .mul (.const (.int .i64 2)) (.tmp 19)),to 21 (B'd O 1 1 #[.bool false] (.tmp 20) (.tmp 20)),nl' 22 17,fl' 5 23 22,too (aSt O ro 1 (.tmp 23) (.tmp 21))]
def Zfp(O:HI H)(ro:Nat):RL' H:=[mv' 24 5,mv' 25 0,ln' 26 25,to 27 (B'd O 5 40 #[.int .i64 0,.int .i64 0,.bool false,.int .i64 0,.bool false] (.tmp 26) (.tmp 26)),nl' 28 24,fl' 6 29 28,too (aSt O ro 1 (.tmp 29) (.tmp 27))]
def Zfq:RL' H:=[mk' 6 0]
def Zfr:RL' H:=[mv' 30 6,mv' 31 0,ln' 32 31,ia' .lss 33 30 32]
def Zfs(O:HI H):RL' H:=[mv' 36 0,mv' 37 6,ix' 1 38 36 37,ld' O 39 38]
def Zft(O:HI H)(ro:Nat):RL' H:=[mv' 40 5,nl' 41 40,fl' 6 42 41,ld' O 43 42,mv' 44 6,ix' 5 45 43 44,fl' 3 46 45,too (aSt O ro 1 (.tmp 46) (.const (.int .i64 1)))]
def Zfu:RL' H:=[mv' 34 6,ik' .add 35 34 1,mv' 6 35]
def Zfv:RL' H:=[mv' 47 5,mv' 4 47]
def G'L:RC' H:=λO P ro=>A'a (A'a (A'b Zfr) (cIf (.tmp 33) (A'f) (A'n 0))) (A'a (A'x 1 (A'a (A'b (Zfs O)) (cIf (.tmp 39) (A'b (Zft O ro)) (A'f)))) (A'b Zfu))
def U'0:RC' H:=λO P ro=>A'a (A'b Zfl) (A'a (A'b (Zfm O)) (A'a (A'b (Zfn O ro)) (A'a (A'b (Zfo O ro)) (A'a (A'b (Zfp O ro)) (A'a (A'a (A'b Zfq) (A'x 0 (A'Y (G'L O P ro)))) (A'a (A'b Zfv) (A'B)))))))
theorem P'J:FN' 186 @U'0 [.tmp 4] Tryz.f186:=f'n Tryz.func186
def Zfw:RL' H:=[mk' 6 0]
def Zfx:RL' H:=[mv' 9 0,mv' 10 1,to 11 (A'e 199 [.tmp 9,.tmp 10]),mv' 7 11]
def Zfy:RL' H:=[mk' 8 0]
def Zfz:RL' H:=[mv' 12 8,ik' .eql 13 12 0]
def ZfA:RL' H:=[mv' 14 7,to 15 (B'h .eql (.tmp 14) (.const (.int .i64 (-1))))]
def ZfB:RL' H:=[mv' 16 0,to 17 (A'e 200 [.tmp 16]),mv' 7 17]
def ZfC:RL' H:=[mv' 18 7,to 19 (B'h .eql (.tmp 18) (.const (.int .i64 (-1))))]
def ZfD:RL' H:=[mv' 20 0,to 21 (A'e 201 [.tmp 20]),mv' 8 21]
def ZfE:RL' H:=[mv' 22 0,mv' 23 7,mv' 24 2,to 25 (A'e 202 [.tmp 22,.tmp 23,.tmp 24]),mv' 8 25]
def ZfF:RL' H:=[to 7 (A'h (.const (.int .i64 (-1))))]
def ZfG:RL' H:=[mv' 26 8,mv' 6 26]
def D'U:RC' H:=λO P ro=>A'a (A'a (A'b Zfz) (cIf (.tmp 13) (A'f) (A'n 0))) (A'x 1 (A'a (A'a (A'b ZfA) (cIf (.tmp 15) (A'b ZfB) (A'f))) (A'a (A'b ZfC) (cIf (.tmp 19) (A'b ZfD) (A'a (A'b ZfE) (A'b ZfF))))))
def U'1:RC' H:=λO P ro=>A'a (A'b Zfw) (A'a (A'b Zfx) (A'a (A'b Zfy) (A'a (A'x 0 (A'Y (D'U O P ro))) (A'a (A'b ZfG) (A'B)))))
theorem P'K:FN' 187 @U'1 [.tmp 6] Tryz.f187:=f'n Tryz.func187
def ZfH:RL' H:=[to 2 (A'h (.const (.slice none 0 0)))]
def ZfI(O:HI H):RL' H:=[to 5 (A'y O 1 0 #[.bool false] []),mv' 3 5]
def ZfJ:RL' H:=[mk' 4 0]
def ZfK(O:HI H):RL' H:=[mv' 6 4,mv' 7 0,nl' 8 7,fl' 6 9 8,ld' O 10 9,ln' 11 10,ia' .lss 12 6 11]
def ZfL(O:HI H)(ro:Nat):RL' H:=[mv' 15 3,mv' 16 0,nl' 17 16,fl' 5 18 17,ld' O 19 18,mv' 20 4,to 21 (B'h .mul (.const (.int .i64 2)) (.tmp 20)),ix' 1 22 19 21,ld' O 23 22,to 24 (A'y O 1 1 #[.bool false] [(0,.tmp 23)]),to 25 (B'p O ro 1 1 (.tmp 15) (.tmp 24)),mv' 3 25]
def ZfM:RL' H:=[mv' 13 4,ik' .add 14 13 1,mv' 4 14]
def ZfN:RL' H:=[mv' 26 3,mv' 2 26]
def I'k:RC' H:=λO P ro=>A'a (A'a (A'b (ZfK O)) (cIf (.tmp 12) (A'f) (A'n 0))) (A'a (A'x 1 (A'b (ZfL O ro))) (A'b ZfM))
def U'2:RC' H:=λO P ro=>A'a (A'b ZfH) (A'a (A'b (ZfI O)) (A'a (A'a (A'b ZfJ) (A'x 0 (A'Y (I'k O P ro)))) (A'a (A'b ZfN) (A'B))))
theorem P'L:FN' 188 @U'2 [.tmp 2] Tryz.f188:=f'n Tryz.func188
def ZfO:RL' H:=[mk' 4 0]
def ZfP:RL' H:=[to 5 (A'h (.const (.int .i64 (-1))))]
def ZfQ:RL' H:=[mk' 6 0]
def ZfR:RL' H:=[mv' 8 6,mv' 9 1,ln' 10 9,ia' .lss 11 8 10]
def ZfS(O:HI H):RL' H:=[mv' 14 1,mv' 15 6,ix' 1 16 14 15,ld' O 17 16,mv' 7 17]
def ZfT:RL' H:=[mv' 18 7,ln' 19 18,ik' .gtr 20 19 1]
def ZfU(O:HI H):RL' H:=[mv' 21 0,mv' 22 7,mv' 23 7,to 24 (B'C 1 (.tmp 23) (.const (.int .i64 0))),ld' O 25 24,mv' 26 7,to 27 (B'C 1 (.tmp 26) (.const (.int .i64 1))),ld' O 28 27,to 29 (A'p #[.slice none 0 0,.int .i64 0,.int .i64 0,.int .i64 0] [(0,1),(1,1),(2,1),(3,1)] [(0,.tmp 22),(1,.tmp 25),(2,.tmp 28)]),to 30 (A'e 207 [.tmp 21,.tmp 29])]
def ZfV(O:HI H)(ro:Nat):RL' H:=[mv' 31 0,mv' 32 0,nl' 33 32,fl' 1 34 33,ld' O 35 34,mv' 36 7,to 37 (A'p #[.slice none 0 0,.int .i64 0,.int .i64 0,.int .i64 0] [(0,1),(1,1),(2,1),(3,1)] [(0,.tmp 36)]),to 38 (A'y O 4 1 #[.slice none 0 0,.int .i64 0,.int .i64 0,.int .i64 0] [(0,.tmp 37)]),to 39 (B'p O ro 4 48 (.tmp 35) (.tmp 38)),nl' 40 31,fl' 1 41 40,too (aSt O ro 1 (.tmp 41) (.tmp 39))]
def ZfW(O:HI H):RL' H:=[mv' 42 7,ln' 43 42,ik' .eql 44 43 0,mv' 45 44,A'd 45 false 46 (mv' 46 0),A'd 45 false 47 (nl' 47 46),A'd 45 false 48 (fl' 5 48 47),A'd 45 false 49 (ld' O 49 48),A'd 45 false 50 (mv' 50 7),A'd 45 false 51 (to 51 (B'C 1 (.tmp 50) (.const (.int .i64 0)))),A'd 45 false 52 (ld' O 52 51),A'd 45 false 53 (ik' .xor 53 52 1),A'd 45 false 54 (ix' 1 54 49 53),A'd 45 false 55 (ld' O 55 54),to 56 (A'w (.tmp 45) (.const (.bool true)) (.tmp 55))]
def ZfX:RL' H:=[mv' 57 6,mv' 5 57]
def ZfY(O:HI H):RL' H:=[mv' 58 0,nl' 59 58,fl' 5 60 59,ld' O 61 60,mv' 62 7,to 63 (B'C 1 (.tmp 62) (.const (.int .i64 0))),ld' O 64 63,ix' 1 65 61 64,ld' O 66 65,to 67 (aUn .not (.tmp 66))]
def ZfZ(O:HI H):RL' H:=[mv' 68 0,mv' 69 7,to 70 (B'C 1 (.tmp 69) (.const (.int .i64 0))),ld' O 71 70,mv' 72 6,to 73 (A'e 208 [.tmp 68,.tmp 71,.tmp 72])]
def Zf0:RL' H:=[mv' 12 6,ik' .add 13 12 1,mv' 6 13]
def Zf1(O:HI H)(ro:Nat):RL' H:=[mv' 74 0,mv' 75 1,ln' 76 75,nl' 77 74,fl' 2 78 77,too (aSt O ro 1 (.tmp 78) (.tmp 76))]
def Zf2:RL' H:=[mv' 79 5,mv' 4 79]
def E'n:RC' H:=λO P ro=>A'a (A'a (A'b ZfR) (cIf (.tmp 11) (A'f) (A'n 0))) (A'a (A'x 1 (A'a (A'b (ZfS O)) (A'a (A'a (A'b ZfT) (cIf (.tmp 20) (A'a (A'b (ZfU O)) (A'n 1)) (A'f))) (A'a (A'b (ZfV O ro)) (A'a (A'b (ZfW O)) (cIf (.tmp 56) (A'b ZfX) (A'a (A'b (ZfY O)) (cIf (.tmp 67) (A'b (ZfZ O)) (A'f))))))))) (A'b Zf0))
def U'3:RC' H:=λO P ro=>A'a (A'b ZfO) (A'a (A'b ZfP) (A'a (A'a (A'b ZfQ) (A'x 0 (A'Y (E'n O P ro)))) (A'a (A'b (Zf1 O ro)) (A'a (A'b Zf2) (A'B)))))
theorem P'M:FN' 199 @U'3 [.tmp 4] Tryz.f199:=f'n Tryz.func199
def Zf3:RL' H:=[mk' 2 0]
def Zf4:RL' H:=[to 3 (A'h (.const (.int .i64 (-1))))]
def Zf5(O:HI H):RL' H:=[mv' 5 3,to 6 (B'h .eql (.tmp 5) (.const (.int .i64 (-1)))),mv' 7 6,A'd 7 true 8 (mv' 8 0),A'd 7 true 9 (nl' 9 8),A'd 7 true 10 (fl' 9 10 9),A'd 7 true 11 (ld' O 11 10),A'd 7 true 12 (mv' 12 0),A'd 7 true 13 (nl' 13 12),A'd 7 true 14 (fl' 7 14 13),A'd 7 true 15 (ld' O 15 14),A'd 7 true 16 (ln' 16 15),A'd 7 true 17 (ia' .lss 17 11 16),to 18 (A'w (.tmp 7) (.tmp 17) (.const (.bool false)))]
def Zf6(O:HI H):RL' H:=[mv' 19 0,nl' 20 19,fl' 7 21 20,ld' O 22 21,mv' 23 0,nl' 24 23,fl' 9 25 24,ld' O 26 25,ix' 1 27 22 26,ld' O 28 27,ik' .xor 29 28 1,mv' 4 29]
def Zf7(O:HI H)(ro:Nat):RL' H:=[mv' 30 0,nl' 31 30,fl' 9 32 31,ld' O 33 32,ik' .add 34 33 1,nl' 35 30,fl' 9 36 35,too (aSt O ro 1 (.tmp 36) (.tmp 34))]
def Zf8:RL' H:=[mv' 37 0,mv' 38 4,to 39 (A'e 209 [.tmp 37,.tmp 38]),mv' 3 39]
def Zf9:RL' H:=[mv' 40 3,mv' 2 40]
def F'F:RC' H:=λO P ro=>A'a (A'a (A'b (Zf5 O)) (cIf (.tmp 18) (A'f) (A'n 0))) (A'x 1 (A'a (A'b (Zf6 O)) (A'a (A'b (Zf7 O ro)) (A'b Zf8))))
def U'4:RC' H:=λO P ro=>A'a (A'b Zf3) (A'a (A'b Zf4) (A'a (A'x 0 (A'Y (F'F O P ro))) (A'a (A'b Zf9) (A'B))))
theorem P'N:FN' 200 @U'4 [.tmp 2] Tryz.f200:=f'n Tryz.func200
def Zga:RL' H:=[mk' 2 0]
def Zgb(O:HI H):RL' H:=[mv' 6 0,nl' 7 6,fl' 8 8 7,ld' O 9 8,ln' 10 9,mv' 3 10]
def Zgc(O:HI H):RL' H:=[mv' 11 3,mv' 12 0,nl' 13 12,fl' 0 14 13,ld' O 15 14,ln' 16 15,ia' .lss 17 11 16]
def Zgd(O:HI H):RL' H:=[mv' 18 0,mv' 19 0,nl' 20 19,fl' 0 21 20,ld' O 22 21,mv' 23 3,ix' 1 24 22 23,ld' O 25 24,to 26 (A'e 210 [.tmp 18,.tmp 25]),mv' 2 26]
def Zge:RL' H:=[mv' 27 0,to 28 (A'e 211 [.tmp 27]),mv' 4 28]
def Zgf:RL' H:=[mv' 29 4,to 30 (B'h .eql (.tmp 29) (.const (.int .i64 (-1))))]
def Zgg:RL' H:=[mk' 2 1]
def Zgh:RL' H:=[mv' 31 4,to 32 (B'h .mul (.const (.int .i64 2)) (.tmp 31)),mv' 5 32]
def Zgi(O:HI H):RL' H:=[mv' 33 0,nl' 34 33,fl' 6 35 34,ld' O 36 35,mv' 37 4,ix' 5 38 36 37,fl' 4 39 38,ld' O 40 39,to 41 (aUn .not (.tmp 40))]
def Zgj:RL' H:=[mv' 42 5,ik' .add 43 42 1,mv' 5 43]
def Zgk(O:HI H)(ro:Nat):RL' H:=[mv' 44 0,mv' 45 0,nl' 46 45,fl' 8 47 46,ld' O 48 47,mv' 49 0,nl' 50 49,fl' 7 51 50,ld' O 52 51,ln' 53 52,to 54 (A'y O 1 1 #[.int .i64 0] [(0,.tmp 53)]),to 55 (B'p O ro 1 8 (.tmp 48) (.tmp 54)),nl' 56 44,fl' 8 57 56,too (aSt O ro 1 (.tmp 57) (.tmp 55))]
def Zgl:RL' H:=[mv' 58 0,mv' 59 5,to 60 (A'e 208 [.tmp 58,.tmp 59,.const (.int .i64 (-1))])]
def Zgm:RL' H:=[mk' 2 0]
def U'5:RC' H:=λO P ro=>A'a (A'b Zga) (A'a (A'b (Zgb O)) (A'a (A'a (A'b (Zgc O)) (cIf (.tmp 17) (A'a (A'b (Zgd O)) (A'B)) (A'f))) (A'a (A'b Zge) (A'a (A'a (A'b Zgf) (cIf (.tmp 30) (A'a (A'b Zgg) (A'B)) (A'f))) (A'a (A'b Zgh) (A'a (A'a (A'b (Zgi O)) (cIf (.tmp 41) (A'b Zgj) (A'f))) (A'a (A'b (Zgk O ro)) (A'a (A'b Zgl) (A'a (A'b Zgm) (A'B))))))))))
theorem P'O:FN' 201 @U'5 [.tmp 2] Tryz.f201:=f'n Tryz.func201
def Zgn:RL' H:=[mk' 6 0]
def Zgo(O:HI H)(ro:Nat):RL' H:=[mv' 8 0,nl' 9 8,fl' 11 10 9,ld' O 11 10,ik' .add 12 11 1,nl' 13 8,fl' 11 14 13,too (aSt O ro 1 (.tmp 14) (.tmp 12))]
def Zgp(O:HI H):RL' H:=[mv' 15 0,nl' 16 15,fl' 8 17 16,ld' O 18 17,ln' 19 18,mv' 20 0,nl' 21 20,fl' 0 22 21,ld' O 23 22,ln' 24 23,ia' .leq 25 19 24,mv' 7 25]
def Zgq:RL' H:=[mv' 26 7]
def Zgr(O:HI H):RL' H:=[mv' 27 0,mv' 28 0,nl' 29 28,fl' 1 30 29,ld' O 31 30,mv' 32 1,ix' 4 33 31 32,fl' 0 34 33,ld' O 35 34,to 36 (A'e 212 [.tmp 27,.tmp 35])]
def Zgs:RL' H:=[mk' 6 2]
def Zgt(O:HI H):RL' H:=[mv' 37 0,nl' 38 37,fl' 11 39 38,ld' O 40 39,mv' 41 2,ia' .gtr 42 40 41]
def Zgu:RL' H:=[mk' 6 3]
def Zgv:RL' H:=[mv' 43 0,mv' 44 1,to 45 (A'e 213 [.tmp 43,.tmp 44])]
def Zgw:RL' H:=[mk' 6 0]
def U'6:RC' H:=λO P ro=>A'a (A'b Zgn) (A'a (A'b (Zgo O ro)) (A'a (A'b (Zgp O)) (A'a (A'a (A'b Zgq) (cIf (.tmp 26) (A'a (A'b (Zgr O)) (A'a (A'b Zgs) (A'B))) (A'f))) (A'a (A'a (A'b (Zgt O)) (cIf (.tmp 42) (A'a (A'b Zgu) (A'B)) (A'f))) (A'a (A'b Zgv) (A'a (A'b Zgw) (A'B)))))))
theorem P'P:FN' 202 @U'6 [.tmp 6] Tryz.f202:=f'n Tryz.func202
def Zgx(O:HI H):RL' H:=[to 3 (B'y O (.tmp 1))]
def Zgy(O:HI H)(ro:Nat):RL' H:=[mv' 4 0,mv' 5 0,nl' 6 5,fl' 1 7 6,ld' O 8 7,to 9 (B's O 4 (.tmp 3)),to 10 (A'y O 4 1 #[.slice none 0 0,.int .i64 0,.int .i64 0,.int .i64 0] [(0,.tmp 9)]),to 11 (B'p O ro 4 48 (.tmp 8) (.tmp 10)),nl' 12 4,fl' 1 13 12,too (aSt O ro 1 (.tmp 13) (.tmp 11))]
def Zgz(O:HI H):RL' H:=[mv' 14 0,mv' 15 0,nl' 16 15,fl' 1 17 16,ld' O 18 17,ln' 19 18,ik' .sub 20 19 1,to 21 (A'e 219 [.tmp 14,.tmp 20])]
def U'7:RC' H:=λO P ro=>A'a (A'b (Zgx O)) (A'a (A'b (Zgy O ro)) (A'b (Zgz O)))
theorem P'Q:FN' 207 @U'7 [] Tryz.f207:=f'n Tryz.func207
def ZgA:RL' H:=[mv' 7 1,to 8 (A's .shr (.tmp 7) (.const (.int .u64 1))),mv' 6 8]
def ZgB(O:HI H)(ro:Nat):RL' H:=[mv' 9 0,nl' 10 9,fl' 5 11 10,ld' O 12 11,mv' 13 1,ix' 1 14 12 13,too (aSt O ro 1 (.tmp 14) (.const (.bool true)))]
def ZgC(O:HI H)(ro:Nat):RL' H:=[mv' 15 0,nl' 16 15,fl' 6 17 16,ld' O 18 17,mv' 19 6,mv' 20 0,nl' 21 20,fl' 8 22 21,ld' O 23 22,ln' 24 23,ix' 5 25 18 19,fl' 0 26 25,too (aSt O ro 1 (.tmp 26) (.tmp 24))]
def ZgD(O:HI H)(ro:Nat):RL' H:=[mv' 27 0,nl' 28 27,fl' 6 29 28,ld' O 30 29,mv' 31 6,mv' 32 2,ix' 5 33 30 31,fl' 1 34 33,too (aSt O ro 1 (.tmp 34) (.tmp 32))]
def ZgE(O:HI H)(ro:Nat):RL' H:=[mv' 35 0,nl' 36 35,fl' 6 37 36,ld' O 38 37,mv' 39 6,mv' 40 1,ik' .and 41 40 1,ik' .eql 42 41 0,ix' 5 43 38 39,fl' 4 44 43,too (aSt O ro 1 (.tmp 44) (.tmp 42))]
def ZgF(O:HI H)(ro:Nat):RL' H:=[mv' 45 0,mv' 46 0,nl' 47 46,fl' 7 48 47,ld' O 49 48,mv' 50 1,to 51 (A'y O 1 1 #[.int .i64 0] [(0,.tmp 50)]),to 52 (B'p O ro 1 8 (.tmp 49) (.tmp 51)),nl' 53 45,fl' 7 54 53,too (aSt O ro 1 (.tmp 54) (.tmp 52))]
def U'8:RC' H:=λO P ro=>A'a (A'b ZgA) (A'a (A'b (ZgB O ro)) (A'a (A'b (ZgC O ro)) (A'a (A'b (ZgD O ro)) (A'a (A'b (ZgE O ro)) (A'b (ZgF O ro))))))
theorem P'R:FN' 208 @U'8 [] Tryz.f208:=f'n Tryz.func208
def ZgG:RL' H:=[mk' 4 0]
def ZgH(O:HI H):RL' H:=[mv' 12 0,nl' 13 12,fl' 4 14 13,ld' O 15 14,mv' 16 1,ix' 1 17 15 16,ld' O 18 17,mv' 5 18]
def ZgI:RL' H:=[to 6 (A'h (.const (.int .i64 (-1))))]
def ZgJ:RL' H:=[mk' 7 0]
def ZgK:RL' H:=[mk' 8 0]
def ZgL:RL' H:=[mv' 19 8,mv' 20 5,ln' 21 20,ia' .lss 22 19 21]
def ZgM(O:HI H):RL' H:=[mv' 25 5,mv' 26 8,ix' 1 27 25 26,ld' O 28 27,mv' 9 28]
def ZgN:RL' H:=[mv' 29 0,mv' 30 9,mv' 31 1,to 32 (A'e 220 [.tmp 29,.tmp 30,.tmp 31]),mv' 10 32]
def ZgO:RL' H:=[mv' 33 10]
def ZgP(O:HI H)(ro:Nat):RL' H:=[mv' 34 5,mv' 35 7,mv' 36 9,ix' 1 37 34 35,too (aSt O ro 1 (.tmp 37) (.tmp 36))]
def ZgQ:RL' H:=[mv' 38 7,ik' .add 39 38 1,mv' 7 39]
def ZgR(O:HI H):RL' H:=[mv' 40 0,nl' 41 40,fl' 1 42 41,ld' O 43 42,mv' 44 9,ix' 4 45 43 44,fl' 1 46 45,ld' O 47 46,mv' 11 47]
def ZgS(O:HI H):RL' H:=[mv' 48 0,nl' 49 48,fl' 5 50 49,ld' O 51 50,mv' 52 11,ik' .xor 53 52 1,ix' 1 54 51 53,ld' O 55 54]
def ZgT:RL' H:=[mv' 56 9,mv' 6 56]
def ZgU(O:HI H):RL' H:=[mv' 57 0,nl' 58 57,fl' 5 59 58,ld' O 60 59,mv' 61 11,ix' 1 62 60 61,ld' O 63 62,to 64 (aUn .not (.tmp 63))]
def ZgV:RL' H:=[mv' 65 0,mv' 66 11,mv' 67 9,to 68 (A'e 208 [.tmp 65,.tmp 66,.tmp 67])]
def ZgW:RL' H:=[mv' 23 8,ik' .add 24 23 1,mv' 8 24]
def ZgX(O:HI H)(ro:Nat):RL' H:=[mv' 69 0,nl' 70 69,fl' 4 71 70,ld' O 72 71,mv' 73 1,mv' 74 5,mv' 75 7,to 76 (A'm 1 (.tmp 74) none (some (.tmp 75))),ix' 1 77 72 73,too (aSt O ro 1 (.tmp 77) (.tmp 76))]
def ZgY:RL' H:=[mv' 78 6,mv' 4 78]
def E'o:RC' H:=λO P ro=>A'a (A'a (A'b ZgL) (cIf (.tmp 22) (A'f) (A'n 0))) (A'a (A'x 1 (A'a (A'b (ZgM O)) (A'a (A'b ZgN) (A'a (A'a (A'b ZgO) (cIf (.tmp 33) (A'n 1) (A'f))) (A'a (A'b (ZgP O ro)) (A'a (A'b ZgQ) (A'a (A'b (ZgR O)) (A'a (A'b (ZgS O)) (cIf (.tmp 55) (A'b ZgT) (A'a (A'b (ZgU O)) (cIf (.tmp 64) (A'b ZgV) (A'f)))))))))))) (A'b ZgW))
def U'9:RC' H:=λO P ro=>A'a (A'b ZgG) (A'a (A'b (ZgH O)) (A'a (A'b ZgI) (A'a (A'b ZgJ) (A'a (A'a (A'b ZgK) (A'x 0 (A'Y (E'o O P ro)))) (A'a (A'b (ZgX O ro)) (A'a (A'b ZgY) (A'B)))))))
theorem P'S:FN' 209 @U'9 [.tmp 4] Tryz.f209:=f'n Tryz.func209
def ZgZ:RL' H:=[mk' 4 0]
def Zg0(O:HI H):RL' H:=[mv' 5 0,nl' 6 5,fl' 5 7 6,ld' O 8 7,mv' 9 1,ik' .xor 10 9 1,ix' 1 11 8 10,ld' O 12 11]
def Zg1(O:HI H):RL' H:=[mv' 13 0,mv' 14 1,to 15 (A'y O 1 1 #[.int .i64 0] [(0,.tmp 14)]),to 16 (A'e 212 [.tmp 13,.tmp 15])]
def Zg2(O:HI H)(ro:Nat):RL' H:=[mv' 17 0,mv' 18 0,nl' 19 18,fl' 12 20 19,ld' O 21 20,mv' 22 1,to 23 (A'y O 1 1 #[.int .i64 0] [(0,.tmp 22)]),to 24 (B'p O ro 1 8 (.tmp 21) (.tmp 23)),nl' 25 17,fl' 12 26 25,too (aSt O ro 1 (.tmp 26) (.tmp 24))]
def Zg3:RL' H:=[mk' 4 2]
def Zg4(O:HI H)(ro:Nat):RL' H:=[mv' 27 0,mv' 28 0,nl' 29 28,fl' 8 30 29,ld' O 31 30,mv' 32 0,nl' 33 32,fl' 7 34 33,ld' O 35 34,ln' 36 35,to 37 (A'y O 1 1 #[.int .i64 0] [(0,.tmp 36)]),to 38 (B'p O ro 1 8 (.tmp 31) (.tmp 37)),nl' 39 27,fl' 8 40 39,too (aSt O ro 1 (.tmp 40) (.tmp 38))]
def Zg5(O:HI H):RL' H:=[mv' 41 0,nl' 42 41,fl' 5 43 42,ld' O 44 43,mv' 45 1,ix' 1 46 44 45,ld' O 47 46,to 48 (aUn .not (.tmp 47))]
def Zg6:RL' H:=[mv' 49 0,mv' 50 1,to 51 (A'e 208 [.tmp 49,.tmp 50,.const (.int .i64 (-1))])]
def Zg7:RL' H:=[mk' 4 0]
def V'a:RC' H:=λO P ro=>A'a (A'b ZgZ) (A'a (A'a (A'b (Zg0 O)) (cIf (.tmp 12) (A'a (A'b (Zg1 O)) (A'a (A'b (Zg2 O ro)) (A'a (A'b Zg3) (A'B)))) (A'f))) (A'a (A'b (Zg4 O ro)) (A'a (A'a (A'b (Zg5 O)) (cIf (.tmp 48) (A'b Zg6) (A'f))) (A'a (A'b Zg7) (A'B)))))
theorem P'T:FN' 210 @V'a [.tmp 4] Tryz.f210:=f'n Tryz.func210
def Zg8:RL' H:=[mk' 2 0]
def Zg9:RL' H:=[to 3 (A'h (.const (.int .i64 (-1))))]
def Zha:RL' H:=[mk' 4 0]
def Zhb(O:HI H):RL' H:=[mv' 5 4,mv' 6 0,nl' 7 6,fl' 6 8 7,ld' O 9 8,ln' 10 9,ia' .lss 11 5 10]
def Zhc(O:HI H):RL' H:=[mv' 14 0,nl' 15 14,fl' 5 16 15,ld' O 17 16,mv' 18 4,to 19 (B'h .mul (.const (.int .i64 2)) (.tmp 18)),ix' 1 20 17 19,ld' O 21 20,mv' 22 21,A'd 22 false 23 (mv' 23 0),A'd 22 false 24 (nl' 24 23),A'd 22 false 25 (fl' 5 25 24),A'd 22 false 26 (ld' O 26 25),A'd 22 false 27 (mv' 27 4),A'd 22 false 28 (to 28 (B'h .mul (.const (.int .i64 2)) (.tmp 27))),A'd 22 false 29 (ik' .add 29 28 1),A'd 22 false 30 (ix' 1 30 26 29),A'd 22 false 31 (ld' O 31 30),to 32 (A'w (.tmp 22) (.const (.bool true)) (.tmp 31))]
def Zhd(O:HI H):RL' H:=[mv' 33 3,to 34 (B'h .eql (.tmp 33) (.const (.int .i64 (-1)))),mv' 35 34,A'd 35 false 36 (mv' 36 0),A'd 35 false 37 (nl' 37 36),A'd 35 false 38 (fl' 6 38 37),A'd 35 false 39 (ld' O 39 38),A'd 35 false 40 (mv' 40 4),A'd 35 false 41 (ix' 5 41 39 40),A'd 35 false 42 (fl' 3 42 41),A'd 35 false 43 (ld' O 43 42),A'd 35 false 44 (mv' 44 0),A'd 35 false 45 (nl' 45 44),A'd 35 false 46 (fl' 6 46 45),A'd 35 false 47 (ld' O 47 46),A'd 35 false 48 (mv' 48 3),A'd 35 false 49 (ix' 5 49 47 48),A'd 35 false 50 (fl' 3 50 49),A'd 35 false 51 (ld' O 51 50),A'd 35 false 52 (ia' .gtr 52 43 51),to 53 (A'w (.tmp 35) (.const (.bool true)) (.tmp 52))]
def Zhe:RL' H:=[mv' 54 4,mv' 3 54]
def Zhf:RL' H:=[mv' 12 4,ik' .add 13 12 1,mv' 4 13]
def Zhg:RL' H:=[mv' 55 3,mv' 2 55]
def E'p:RC' H:=λO P ro=>A'a (A'a (A'b (Zhb O)) (cIf (.tmp 11) (A'f) (A'n 0))) (A'a (A'x 1 (A'a (A'a (A'b (Zhc O)) (cIf (.tmp 32) (A'n 1) (A'f))) (A'a (A'b (Zhd O)) (cIf (.tmp 53) (A'b Zhe) (A'f))))) (A'b Zhf))
def V'b:RC' H:=λO P ro=>A'a (A'b Zg8) (A'a (A'b Zg9) (A'a (A'a (A'b Zha) (A'x 0 (A'Y (E'p O P ro)))) (A'a (A'b Zhg) (A'B))))
theorem P'U:FN' 211 @V'b [.tmp 2] Tryz.f211:=f'n Tryz.func211
def Zhh:RL' H:=[mv' 7 0,mv' 8 1,to 9 (A'e 221 [.tmp 7,.tmp 8])]
def Zhi(O:HI H):RL' H:=[mv' 10 0,nl' 11 10,fl' 7 12 11,ld' O 13 12,ln' 14 13,ik' .sub 15 14 1,mv' 4 15]
def Zhj:RL' H:=[mv' 16 4,ik' .geq 17 16 0]
def Zhk(O:HI H):RL' H:=[mv' 20 0,nl' 21 20,fl' 7 22 21,ld' O 23 22,mv' 24 4,ix' 1 25 23 24,ld' O 26 25,to 27 (A's .shr (.tmp 26) (.const (.int .u64 1))),mv' 5 27]
def Zhl(O:HI H):RL' H:=[mv' 28 0,nl' 29 28,fl' 6 30 29,ld' O 31 30,mv' 32 5,ix' 5 33 31 32,fl' 2 34 33,ld' O 35 34,to 36 (aUn .not (.tmp 35))]
def Zhm(O:HI H):RL' H:=[mv' 37 0,nl' 38 37,fl' 6 39 38,ld' O 40 39,mv' 41 5,ix' 5 42 40 41,fl' 1 43 42,ld' O 44 43,mv' 6 44]
def Zhn:RL' H:=[mv' 45 6,to 46 (B'h .eql (.tmp 45) (.const (.int .i64 (-1))))]
def Zho(O:HI H)(ro:Nat):RL' H:=[mv' 47 0,mv' 48 0,nl' 49 48,fl' 12 50 49,ld' O 51 50,mv' 52 0,nl' 53 52,fl' 7 54 53,ld' O 55 54,mv' 56 4,ix' 1 57 55 56,ld' O 58 57,to 59 (A'y O 1 1 #[.int .i64 0] [(0,.tmp 58)]),to 60 (B'p O ro 1 8 (.tmp 51) (.tmp 59)),nl' 61 47,fl' 12 62 61,too (aSt O ro 1 (.tmp 62) (.tmp 60))]
def Zhp(O:HI H):RL' H:=[mv' 63 0,mv' 64 0,nl' 65 64,fl' 1 66 65,ld' O 67 66,mv' 68 6,ix' 4 69 67 68,fl' 0 70 69,ld' O 71 70,to 72 (A'e 221 [.tmp 63,.tmp 71])]
def Zhq:RL' H:=[mv' 18 4,ik' .sub 19 18 1,mv' 4 19]
def F'G:RC' H:=λO P ro=>A'a (A'a (A'b Zhj) (cIf (.tmp 17) (A'f) (A'n 0))) (A'a (A'x 1 (A'a (A'b (Zhk O)) (A'a (A'a (A'b (Zhl O)) (cIf (.tmp 36) (A'n 1) (A'f))) (A'a (A'b (Zhm O)) (A'a (A'b Zhn) (cIf (.tmp 46) (A'b (Zho O ro)) (A'b (Zhp O)))))))) (A'b Zhq))
def V'c:RC' H:=λO P ro=>A'a (A'b Zhh) (A'a (A'b (Zhi O)) (A'x 0 (A'Y (F'G O P ro))))
theorem P'V:FN' 212 @V'c [] Tryz.f212:=f'n Tryz.func212
def Zhr:RL' H:=[mv' 9 0,mv' 10 1,to 11 (A'e 222 [.tmp 9,.tmp 10]),mv' 4 11]
def Zhs:RL' H:=[mv' 12 0,mv' 13 4,to 14 (A'e 223 [.tmp 12,.tmp 13]),mv' 5 14]
def Zht:RL' H:=[mv' 15 0,mv' 16 5,to 17 (A'e 224 [.tmp 15,.tmp 16]),mv' 6 17]
def Zhu:RL' H:=[mv' 18 0,to 19 (A'e 225 [.tmp 18])]
def Zhv:RL' H:=[mv' 20 0,to 21 (A'e 226 [.tmp 20])]
def Zhw:RL' H:=[mv' 22 5,ln' 23 22,ik' .eql 24 23 1]
def Zhx:RL' H:=[mv' 25 0,to 26 (A'e 227 [.tmp 25,.const (.int .i64 0)])]
def Zhy(O:HI H):RL' H:=[mv' 27 0,mv' 28 5,to 29 (B'C 1 (.tmp 28) (.const (.int .i64 0))),ld' O 30 29,to 31 (A'e 208 [.tmp 27,.tmp 30,.const (.int .i64 (-1))])]
def Zhz(O:HI H):RL' H:=[mv' 32 5,mv' 33 5,ln' 34 33,ik' .sub 35 34 1,ix' 1 36 32 35,ld' O 37 36,mv' 7 37]
def ZhA(O:HI H):RL' H:=[mv' 38 0,nl' 39 38,fl' 6 40 39,ld' O 41 40,mv' 42 7,to 43 (A's .shr (.tmp 42) (.const (.int .u64 1))),ix' 5 44 41 43,fl' 0 45 44,ld' O 46 45,mv' 8 46]
def ZhB:RL' H:=[mv' 47 0,mv' 48 8,to 49 (A'e 227 [.tmp 47,.tmp 48])]
def ZhC:RL' H:=[mv' 50 0,to 51 (A'e 228 [.tmp 50])]
def ZhD(O:HI H):RL' H:=[mv' 52 0,mv' 53 5,mv' 54 5,to 55 (B'C 1 (.tmp 54) (.const (.int .i64 0))),ld' O 56 55,mv' 57 7,mv' 58 6,to 59 (A'p #[.slice none 0 0,.int .i64 0,.int .i64 0,.int .i64 0] [(0,1),(1,1),(2,1),(3,1)] [(0,.tmp 53),(1,.tmp 56),(2,.tmp 57),(3,.tmp 58)]),to 60 (A'e 207 [.tmp 52,.tmp 59])]
def ZhE(O:HI H):RL' H:=[mv' 61 0,mv' 62 5,to 63 (B'C 1 (.tmp 62) (.const (.int .i64 0))),ld' O 64 63,mv' 65 0,nl' 66 65,fl' 1 67 66,ld' O 68 67,ln' 69 68,ik' .sub 70 69 1,to 71 (A'e 208 [.tmp 61,.tmp 64,.tmp 70])]
def V'd:RC' H:=λO P ro=>A'a (A'b Zhr) (A'a (A'b Zhs) (A'a (A'b Zht) (A'a (A'b Zhu) (A'a (A'b Zhv) (A'a (A'a (A'b Zhw) (cIf (.tmp 24) (A'a (A'b Zhx) (A'a (A'b (Zhy O)) (A'B))) (A'f))) (A'a (A'b (Zhz O)) (A'a (A'b (ZhA O)) (A'a (A'b ZhB) (A'a (A'b ZhC) (A'a (A'b (ZhD O)) (A'b (ZhE O))))))))))))
theorem P'W:FN' 213 @V'd [] Tryz.f213:=f'n Tryz.func213
def ZhF(O:HI H):RL' H:=[mv' 6 0,nl' 7 6,fl' 1 8 7,ld' O 9 8,mv' 10 1,ix' 4 11 9 10,fl' 1 12 11,ld' O 13 12,mv' 4 13]
def ZhG(O:HI H):RL' H:=[mv' 14 0,nl' 15 14,fl' 1 16 15,ld' O 17 16,mv' 18 1,ix' 4 19 17 18,fl' 2 20 19,ld' O 21 20,mv' 5 21]
def ZhH(O:HI H)(ro:Nat):RL' H:=[mv' 22 0,nl' 23 22,fl' 4 24 23,ld' O 25 24,mv' 26 4,mv' 27 0,nl' 28 27,fl' 4 29 28,ld' O 30 29,mv' 31 4,ix' 1 32 30 31,ld' O 33 32,mv' 34 1,to 35 (A'y O 1 1 #[.int .i64 0] [(0,.tmp 34)]),to 36 (B'p O ro 1 8 (.tmp 33) (.tmp 35)),ix' 1 37 25 26,too (aSt O ro 1 (.tmp 37) (.tmp 36)),chk (.tmp 24) (.tmp 33)]
def ZhI(O:HI H)(ro:Nat):RL' H:=[mv' 38 0,nl' 39 38,fl' 4 40 39,ld' O 41 40,mv' 42 5,mv' 43 0,nl' 44 43,fl' 4 45 44,ld' O 46 45,mv' 47 5,ix' 1 48 46 47,ld' O 49 48,mv' 50 1,to 51 (A'y O 1 1 #[.int .i64 0] [(0,.tmp 50)]),to 52 (B'p O ro 1 8 (.tmp 49) (.tmp 51)),ix' 1 53 41 42,too (aSt O ro 1 (.tmp 53) (.tmp 52)),chk (.tmp 40) (.tmp 49)]
def V'e:RC' H:=λO P ro=>A'a (A'b (ZhF O)) (A'a (A'b (ZhG O)) (A'a (A'b (ZhH O ro)) (A'b (ZhI O ro))))
theorem P'X:FN' 219 @V'e [] Tryz.f219:=f'n Tryz.func219
def ZhJ:RL' H:=[to 6 (A'h (.const (.bool false)))]
def ZhK(O:HI H):RL' H:=[mv' 11 0,nl' 12 11,fl' 1 13 12,ld' O 14 13,mv' 15 1,ix' 4 16 14 15,fl' 1 17 16,ld' O 18 17,mv' 19 2,ia' .eql 20 18 19]
def ZhL(O:HI H)(ro:Nat):RL' H:=[mv' 21 0,nl' 22 21,fl' 1 23 22,ld' O 24 23,mv' 25 1,mv' 26 0,nl' 27 26,fl' 1 28 27,ld' O 29 28,mv' 30 1,ix' 4 31 29 30,fl' 2 32 31,ld' O 33 32,ix' 4 34 24 25,fl' 1 35 34,too (aSt O ro 1 (.tmp 35) (.tmp 33))]
def ZhM(O:HI H)(ro:Nat):RL' H:=[mv' 36 0,nl' 37 36,fl' 1 38 37,ld' O 39 38,mv' 40 1,mv' 41 2,ix' 4 42 39 40,fl' 2 43 42,too (aSt O ro 1 (.tmp 43) (.tmp 41))]
def ZhN(O:HI H):RL' H:=[mv' 44 0,nl' 45 44,fl' 1 46 45,ld' O 47 46,mv' 48 1,ix' 4 49 47 48,fl' 1 50 49,ld' O 51 50,mv' 7 51]
def ZhO(O:HI H):RL' H:=[mv' 52 0,nl' 53 52,fl' 5 54 53,ld' O 55 54,mv' 56 7,ix' 1 57 55 56,ld' O 58 57]
def ZhP:RL' H:=[to 6 (A'h (.const (.bool false)))]
def ZhQ(O:HI H):RL' H:=[mv' 59 0,nl' 60 59,fl' 1 61 60,ld' O 62 61,mv' 63 1,ix' 4 64 62 63,fl' 0 65 64,ld' O 66 65,mv' 8 66]
def ZhR:RL' H:=[mk' 9 0]
def ZhS:RL' H:=[mv' 67 9,mv' 68 8,ln' 69 68,ia' .lss 70 67 69]
def ZhT(O:HI H):RL' H:=[mv' 73 8,mv' 74 9,ix' 1 75 73 74,ld' O 76 75,mv' 10 76]
def ZhU(O:HI H):RL' H:=[mv' 77 10,mv' 78 7,ia' .neq 79 77 78,mv' 80 79,A'd 80 true 81 (mv' 81 0),A'd 80 true 82 (nl' 82 81),A'd 80 true 83 (fl' 5 83 82),A'd 80 true 84 (ld' O 84 83),A'd 80 true 85 (mv' 85 10),A'd 80 true 86 (ik' .xor 86 85 1),A'd 80 true 87 (ix' 1 87 84 86),A'd 80 true 88 (ld' O 88 87),A'd 80 true 89 (to 89 (aUn .not (.tmp 88))),to 90 (A'w (.tmp 80) (.tmp 89) (.const (.bool false)))]
def ZhV(O:HI H)(ro:Nat):RL' H:=[mv' 91 0,nl' 92 91,fl' 1 93 92,ld' O 94 93,mv' 95 1,mv' 96 10,ix' 4 97 94 95,fl' 2 98 97,too (aSt O ro 1 (.tmp 98) (.tmp 96))]
def ZhW(O:HI H)(ro:Nat):RL' H:=[mv' 99 0,nl' 100 99,fl' 4 101 100,ld' O 102 101,mv' 103 10,mv' 104 0,nl' 105 104,fl' 4 106 105,ld' O 107 106,mv' 108 10,ix' 1 109 107 108,ld' O 110 109,mv' 111 1,to 112 (A'y O 1 1 #[.int .i64 0] [(0,.tmp 111)]),to 113 (B'p O ro 1 8 (.tmp 110) (.tmp 112)),ix' 1 114 102 103,too (aSt O ro 1 (.tmp 114) (.tmp 113)),chk (.tmp 101) (.tmp 110)]
def ZhX:RL' H:=[to 6 (A'h (.const (.bool true)))]
def ZhY:RL' H:=[mv' 71 9,ik' .add 72 71 1,mv' 9 72]
def ZhZ:RL' H:=[to 6 (A'h (.const (.bool false)))]
def E'q:RC' H:=λO P ro=>A'a (A'a (A'b ZhS) (cIf (.tmp 70) (A'f) (A'n 0))) (A'a (A'x 1 (A'a (A'b (ZhT O)) (A'a (A'b (ZhU O)) (cIf (.tmp 90) (A'a (A'b (ZhV O ro)) (A'a (A'b (ZhW O ro)) (A'a (A'b ZhX) (A'B)))) (A'f))))) (A'b ZhY))
def V'f:RC' H:=λO P ro=>A'a (A'b ZhJ) (A'a (A'a (A'b (ZhK O)) (cIf (.tmp 20) (A'a (A'b (ZhL O ro)) (A'b (ZhM O ro))) (A'f))) (A'a (A'b (ZhN O)) (A'a (A'a (A'b (ZhO O)) (cIf (.tmp 58) (A'a (A'b ZhP) (A'B)) (A'f))) (A'a (A'b (ZhQ O)) (A'a (A'a (A'b ZhR) (A'x 0 (A'Y (E'q O P ro)))) (A'a (A'b ZhZ) (A'B)))))))
theorem P'Y:FN' 220 @V'f [.tmp 6] Tryz.f220:=f'n Tryz.func220
def Zh0:RL' H:=[mk' 4 0]
def Zh1:RL' H:=[mk' 5 0]
def Zh2:RL' H:=[mk' 6 0]
def Zh3:RL' H:=[mv' 8 6,mv' 9 1,ln' 10 9,ia' .lss 11 8 10]
def Zh4(O:HI H):RL' H:=[mv' 14 1,mv' 15 6,ix' 1 16 14 15,ld' O 17 16,to 18 (A's .shr (.tmp 17) (.const (.int .u64 1))),mv' 7 18]
def Zh5(O:HI H):RL' H:=[mv' 19 0,nl' 20 19,fl' 6 21 20,ld' O 22 21,mv' 23 7,ix' 5 24 22 23,fl' 2 25 24,ld' O 26 25,mv' 27 26,A'd 27 false 28 (mv' 28 0),A'd 27 false 29 (nl' 29 28),A'd 27 false 30 (fl' 6 30 29),A'd 27 false 31 (ld' O 31 30),A'd 27 false 32 (mv' 32 7),A'd 27 false 33 (ix' 5 33 31 32),A'd 27 false 34 (fl' 0 34 33),A'd 27 false 35 (ld' O 35 34),A'd 27 false 36 (ik' .eql 36 35 0),to 37 (A'w (.tmp 27) (.const (.bool true)) (.tmp 36))]
def Zh6(O:HI H)(ro:Nat):RL' H:=[mv' 38 0,nl' 39 38,fl' 6 40 39,ld' O 41 40,mv' 42 7,ix' 5 43 41 42,fl' 2 44 43,too (aSt O ro 1 (.tmp 44) (.const (.bool true)))]
def Zh7(O:HI H)(ro:Nat):RL' H:=[mv' 45 0,nl' 46 45,fl' 6 47 46,ld' O 48 47,mv' 49 7,ix' 5 50 48 49,fl' 3 51 50,ld' O 52 51,mv' 53 0,nl' 54 53,fl' 10 55 54,ld' O 56 55,ia' .add 57 52 56,ix' 5 58 48 49,fl' 3 59 58,too (aSt O ro 1 (.tmp 59) (.tmp 57))]
def Zh8(O:HI H):RL' H:=[mv' 60 0,nl' 61 60,fl' 6 62 61,ld' O 63 62,mv' 64 7,ix' 5 65 63 64,fl' 0 66 65,ld' O 67 66,mv' 68 0,nl' 69 68,fl' 8 70 69,ld' O 71 70,ln' 72 71,ia' .eql 73 67 72]
def Zh9:RL' H:=[mv' 74 5,ik' .add 75 74 1,mv' 5 75]
def Zia:RL' H:=[mv' 12 6,ik' .add 13 12 1,mv' 6 13]
def Zib:RL' H:=[mv' 76 5,mv' 4 76]
def E'0:RC' H:=λO P ro=>A'a (A'a (A'b Zh3) (cIf (.tmp 11) (A'f) (A'n 0))) (A'a (A'x 1 (A'a (A'b (Zh4 O)) (A'a (A'a (A'b (Zh5 O)) (cIf (.tmp 37) (A'n 1) (A'f))) (A'a (A'b (Zh6 O ro)) (A'a (A'b (Zh7 O ro)) (A'a (A'b (Zh8 O)) (cIf (.tmp 73) (A'b Zh9) (A'f)))))))) (A'b Zia))
def V'g:RC' H:=λO P ro=>A'a (A'b Zh0) (A'a (A'b Zh1) (A'a (A'a (A'b Zh2) (A'x 0 (A'Y (E'0 O P ro)))) (A'a (A'b Zib) (A'B))))
theorem P'Z:FN' 221 @V'g [.tmp 4] Tryz.f221:=f'n Tryz.func221
def Zic:RL' H:=[mk' 4 0]
def Zid(O:HI H):RL' H:=[mv' 10 0,mv' 11 0,nl' 12 11,fl' 1 13 12,ld' O 14 13,mv' 15 1,ix' 4 16 14 15,fl' 0 17 16,ld' O 18 17,to 19 (A'e 221 [.tmp 10,.tmp 18]),mv' 5 19]
def Zie(O:HI H):RL' H:=[mv' 20 0,nl' 21 20,fl' 7 22 21,ld' O 23 22,ln' 24 23,ik' .sub 25 24 1,mv' 6 25]
def Zif:RL' H:=[mv' 26 6,ik' .gtr 27 26 0]
def Zig(O:HI H):RL' H:=[mv' 28 0,nl' 29 28,fl' 7 30 29,ld' O 31 30,mv' 32 6,ix' 1 33 31 32,ld' O 34 33,to 35 (A's .shr (.tmp 34) (.const (.int .u64 1))),mv' 7 35]
def Zih(O:HI H):RL' H:=[mv' 36 0,nl' 37 36,fl' 6 38 37,ld' O 39 38,mv' 40 7,ix' 5 41 39 40,fl' 1 42 41,ld' O 43 42,mv' 8 43]
def Zii(O:HI H):RL' H:=[mv' 44 0,nl' 45 44,fl' 6 46 45,ld' O 47 46,mv' 48 7,ix' 5 49 47 48,fl' 2 50 49,ld' O 51 50]
def Zij:RL' H:=[mv' 52 5,ik' .eql 53 52 1,mv' 54 53,A'd 54 false 55 (mv' 55 8),A'd 54 false 56 (to 56 (B'h .eql (.tmp 55) (.const (.int .i64 (-1))))),to 57 (A'w (.tmp 54) (.const (.bool true)) (.tmp 56))]
def Zik:RL' H:=[mv' 58 6,mv' 4 58]
def Zil(O:HI H):RL' H:=[mv' 59 0,mv' 60 0,nl' 61 60,fl' 1 62 61,ld' O 63 62,mv' 64 8,ix' 4 65 63 64,fl' 0 66 65,ld' O 67 66,to 68 (A'e 221 [.tmp 59,.tmp 67]),mv' 9 68]
def Zim:RL' H:=[mv' 69 5,mv' 70 9,ik' .sub 71 70 1,ia' .add 72 69 71,mv' 5 72]
def Zin:RL' H:=[mv' 73 6,ik' .sub 74 73 1,mv' 6 74]
def Zio:RL' H:=[mv' 75 6,mv' 4 75]
def E'1:RC' H:=λO P ro=>A'a (A'a (A'b Zif) (cIf (.tmp 27) (A'f) (A'n 0))) (A'x 1 (A'a (A'b (Zig O)) (A'a (A'b (Zih O)) (A'a (A'a (A'b (Zii O)) (cIf (.tmp 51) (A'a (A'a (A'b Zij) (cIf (.tmp 57) (A'a (A'b Zik) (A'B)) (A'f))) (A'a (A'b (Zil O)) (A'b Zim))) (A'f))) (A'b Zin)))))
def V'h:RC' H:=λO P ro=>A'a (A'b Zic) (A'a (A'b (Zid O)) (A'a (A'b (Zie O)) (A'a (A'x 0 (A'Y (E'1 O P ro))) (A'a (A'b Zio) (A'B)))))
theorem P'0:FN' 222 @V'h [.tmp 4] Tryz.f222:=f'n Tryz.func222
def Zip:RL' H:=[to 4 (A'h (.const (.slice none 0 0)))]
def Ziq(O:HI H):RL' H:=[mv' 8 0,nl' 9 8,fl' 7 10 9,ld' O 11 10,mv' 12 1,ix' 1 13 11 12,ld' O 14 13,ik' .xor 15 14 1,to 16 (A'y O 1 1 #[.int .i64 0] [(0,.tmp 15)]),mv' 5 16]
def Zir:RL' H:=[mk' 6 0]
def Zis:RL' H:=[mv' 17 6,mv' 18 1,ia' .lss 19 17 18]
def Zit(O:HI H):RL' H:=[mv' 22 0,nl' 23 22,fl' 7 24 23,ld' O 25 24,mv' 26 6,ix' 1 27 25 26,ld' O 28 27,to 29 (A's .shr (.tmp 28) (.const (.int .u64 1))),mv' 7 29]
def Ziu(O:HI H):RL' H:=[mv' 30 0,nl' 31 30,fl' 6 32 31,ld' O 33 32,mv' 34 7,ix' 5 35 33 34,fl' 2 36 35,ld' O 37 36,mv' 38 37,A'd 38 true 39 (mv' 39 0),A'd 38 true 40 (mv' 40 7),A'd 38 true 41 (to 41 (A'e 234 [.tmp 39,.tmp 40])),A'd 38 true 42 (to 42 (aUn .not (.tmp 41))),to 43 (A'w (.tmp 38) (.tmp 42) (.const (.bool false)))]
def Ziv(O:HI H)(ro:Nat):RL' H:=[mv' 44 5,mv' 45 0,nl' 46 45,fl' 7 47 46,ld' O 48 47,mv' 49 6,ix' 1 50 48 49,ld' O 51 50,ik' .xor 52 51 1,to 53 (A'y O 1 1 #[.int .i64 0] [(0,.tmp 52)]),to 54 (B'p O ro 1 8 (.tmp 44) (.tmp 53)),mv' 5 54]
def Ziw:RL' H:=[mv' 20 6,ik' .add 21 20 1,mv' 6 21]
def Zix:RL' H:=[mv' 55 5,mv' 4 55]
def F'H:RC' H:=λO P ro=>A'a (A'a (A'b Zis) (cIf (.tmp 19) (A'f) (A'n 0))) (A'a (A'x 1 (A'a (A'b (Zit O)) (A'a (A'b (Ziu O)) (cIf (.tmp 43) (A'b (Ziv O ro)) (A'f))))) (A'b Ziw))
def V'i:RC' H:=λO P ro=>A'a (A'b Zip) (A'a (A'b (Ziq O)) (A'a (A'a (A'b Zir) (A'x 0 (A'Y (F'H O P ro)))) (A'a (A'b Zix) (A'B))))
theorem P'1:FN' 223 @V'i [.tmp 4] Tryz.f223:=f'n Tryz.func223
def Ziy:RL' H:=[mk' 4 0]
def Ziz:RL' H:=[mk' 5 1]
def ZiA:RL' H:=[mk' 6 0]
def ZiB:RL' H:=[mk' 7 1]
def ZiC:RL' H:=[mv' 9 7,mv' 10 1,ln' 11 10,ia' .lss 12 9 11]
def ZiD(O:HI H):RL' H:=[mv' 15 0,nl' 16 15,fl' 6 17 16,ld' O 18 17,mv' 19 1,mv' 20 7,ix' 1 21 19 20,ld' O 22 21,to 23 (A's .shr (.tmp 22) (.const (.int .u64 1))),ix' 5 24 18 23,fl' 0 25 24,ld' O 26 25,mv' 8 26]
def ZiE:RL' H:=[mv' 27 8,mv' 28 6,ia' .neq 29 27 28]
def ZiF:RL' H:=[mv' 30 5,ik' .add 31 30 1,mv' 5 31]
def ZiG:RL' H:=[mv' 32 8,mv' 6 32]
def ZiH:RL' H:=[mv' 13 7,ik' .add 14 13 1,mv' 7 14]
def ZiI:RL' H:=[mv' 33 5,mv' 4 33]
def I'l:RC' H:=λO P ro=>A'a (A'a (A'b ZiC) (cIf (.tmp 12) (A'f) (A'n 0))) (A'a (A'x 1 (A'a (A'b (ZiD O)) (A'a (A'a (A'b ZiE) (cIf (.tmp 29) (A'b ZiF) (A'f))) (A'b ZiG)))) (A'b ZiH))
def V'j:RC' H:=λO P ro=>A'a (A'b Ziy) (A'a (A'b Ziz) (A'a (A'b ZiA) (A'a (A'a (A'b ZiB) (A'x 0 (A'Y (I'l O P ro)))) (A'a (A'b ZiI) (A'B)))))
theorem P'2:FN' 224 @V'j [.tmp 4] Tryz.f224:=f'n Tryz.func224
def ZiJ:RL' H:=[mk' 2 0]
def ZiK(O:HI H):RL' H:=[mv' 3 2,mv' 4 0,nl' 5 4,fl' 6 6 5,ld' O 7 6,ln' 8 7,ia' .lss 9 3 8]
def ZiL(O:HI H)(ro:Nat):RL' H:=[mv' 12 0,nl' 13 12,fl' 6 14 13,ld' O 15 14,mv' 16 2,ix' 5 17 15 16,fl' 2 18 17,too (aSt O ro 1 (.tmp 18) (.const (.bool false)))]
def ZiM:RL' H:=[mv' 10 2,ik' .add 11 10 1,mv' 2 11]
def K's:RC' H:=λO P ro=>A'a (A'a (A'b (ZiK O)) (cIf (.tmp 9) (A'f) (A'n 0))) (A'a (A'x 1 (A'b (ZiL O ro))) (A'b ZiM))
def V'k:RC' H:=λO P ro=>A'a (A'b ZiJ) (A'x 0 (A'Y (K's O P ro)))
theorem P'3:FN' 225 @V'k [] Tryz.f225:=f'n Tryz.func225
def ZiN(O:HI H)(ro:Nat):RL' H:=[mv' 3 0,nl' 4 3,fl' 10 5 4,ld' O 6 5,mv' 7 0,nl' 8 7,fl' 10 9 8,ld' O 10 9,ik' .quo 11 10 16,ia' .add 12 6 11,nl' 13 3,fl' 10 14 13,too (aSt O ro 1 (.tmp 14) (.tmp 12))]
def ZiO(O:HI H):RL' H:=[mv' 15 0,nl' 16 15,fl' 10 17 16,ld' O 18 17,ik' .leq 19 18 1099511627776]
def ZiP(O:HI H)(ro:Nat):RL' H:=[mv' 20 0,nl' 21 20,fl' 10 22 21,ld' O 23 22,ik' .quo 24 23 68719476736,nl' 25 20,fl' 10 26 25,too (aSt O ro 1 (.tmp 26) (.tmp 24))]
def ZiQ:RL' H:=[mk' 2 0]
def ZiR(O:HI H):RL' H:=[mv' 27 2,mv' 28 0,nl' 29 28,fl' 6 30 29,ld' O 31 30,ln' 32 31,ia' .lss 33 27 32]
def ZiS(O:HI H)(ro:Nat):RL' H:=[mv' 36 0,nl' 37 36,fl' 6 38 37,ld' O 39 38,mv' 40 2,ix' 5 41 39 40,fl' 3 42 41,ld' O 43 42,ik' .quo 44 43 68719476736,ix' 5 45 39 40,fl' 3 46 45,too (aSt O ro 1 (.tmp 46) (.tmp 44))]
def ZiT:RL' H:=[mv' 34 2,ik' .add 35 34 1,mv' 2 35]
def I'm:RC' H:=λO P ro=>A'a (A'a (A'b (ZiR O)) (cIf (.tmp 33) (A'f) (A'n 0))) (A'a (A'x 1 (A'b (ZiS O ro))) (A'b ZiT))
def U'k:RC' H:=λO P ro=>A'a (A'b (ZiN O ro)) (A'a (A'a (A'b (ZiO O)) (cIf (.tmp 19) (A'B) (A'f))) (A'a (A'b (ZiP O ro)) (A'a (A'b ZiQ) (A'x 0 (A'Y (I'm O P ro))))))
theorem K't:FN' 226 @U'k [] Tryz.f226:=f'n Tryz.func226
def ZiU(O:HI H):RL' H:=[mv' 6 1,mv' 7 0,nl' 8 7,fl' 8 9 8,ld' O 10 9,ln' 11 10,ia' .geq 12 6 11]
def ZiV(O:HI H):RL' H:=[mv' 13 0,nl' 14 13,fl' 8 15 14,ld' O 16 15,mv' 17 1,ix' 1 18 16 17,ld' O 19 18,mv' 4 19]
def ZiW:RL' H:=[mv' 20 4,mv' 5 20]
def ZiX(O:HI H):RL' H:=[mv' 21 5,mv' 22 0,nl' 23 22,fl' 7 24 23,ld' O 25 24,ln' 26 25,ia' .lss 27 21 26]
def ZiY(O:HI H)(ro:Nat):RL' H:=[mv' 30 0,nl' 31 30,fl' 5 32 31,ld' O 33 32,mv' 34 0,nl' 35 34,fl' 7 36 35,ld' O 37 36,mv' 38 5,ix' 1 39 37 38,ld' O 40 39,ix' 1 41 33 40,too (aSt O ro 1 (.tmp 41) (.const (.bool false)))]
def ZiZ:RL' H:=[mv' 28 5,ik' .add 29 28 1,mv' 5 29]
def Zi0(O:HI H)(ro:Nat):RL' H:=[mv' 42 0,mv' 43 0,nl' 44 43,fl' 7 45 44,ld' O 46 45,mv' 47 4,to 48 (A'm 1 (.tmp 46) none (some (.tmp 47))),nl' 49 42,fl' 7 50 49,too (aSt O ro 1 (.tmp 50) (.tmp 48))]
def Zi1(O:HI H)(ro:Nat):RL' H:=[mv' 51 0,mv' 52 0,nl' 53 52,fl' 8 54 53,ld' O 55 54,mv' 56 1,to 57 (A'm 1 (.tmp 55) none (some (.tmp 56))),nl' 58 51,fl' 8 59 58,too (aSt O ro 1 (.tmp 59) (.tmp 57))]
def Zi2(O:HI H)(ro:Nat):RL' H:=[mv' 60 0,mv' 61 4,nl' 62 60,fl' 9 63 62,too (aSt O ro 1 (.tmp 63) (.tmp 61))]
def I'n:RC' H:=λO P ro=>A'a (A'a (A'b (ZiX O)) (cIf (.tmp 27) (A'f) (A'n 0))) (A'a (A'x 1 (A'b (ZiY O ro))) (A'b ZiZ))
def U'l:RC' H:=λO P ro=>A'a (A'a (A'b (ZiU O)) (cIf (.tmp 12) (A'B) (A'f))) (A'a (A'b (ZiV O)) (A'a (A'a (A'b ZiW) (A'x 0 (A'Y (I'n O P ro)))) (A'a (A'b (Zi0 O ro)) (A'a (A'b (Zi1 O ro)) (A'b (Zi2 O ro))))))
theorem K'u:FN' 227 @U'l [] Tryz.f227:=f'n Tryz.func227
def Zi3(O:HI H):RL' H:=[mv' 8 0,nl' 9 8,fl' 1 10 9,ld' O 11 10,ln' 12 11,mv' 13 0,nl' 14 13,fl' 2 15 14,ld' O 16 15,ia' .sub 17 12 16,mv' 18 0,nl' 19 18,fl' 3 20 19,ld' O 21 20,ia' .lss 22 17 21]
def Zi4:RL' H:=[mv' 23 0,to 24 (A'e 235 [.tmp 23]),mv' 2 24]
def Zi5(O:HI H):RL' H:=[mv' 25 0,nl' 26 25,fl' 1 27 26,ld' O 28 27,ln' 29 28,to 30 (B'd O 1 8 #[.int .i64 0] (.tmp 29) (.tmp 29)),mv' 3 30]
def Zi6:RL' H:=[mk' 4 0]
def Zi7:RL' H:=[mk' 5 0]
def Zi8(O:HI H):RL' H:=[mv' 31 5,mv' 32 0,nl' 33 32,fl' 1 34 33,ld' O 35 34,ln' 36 35,ia' .lss 37 31 36]
def Zi9(O:HI H):RL' H:=[mv' 40 2,mv' 41 5,ix' 1 42 40 41,ld' O 43 42]
def Zja(O:HI H)(ro:Nat):RL' H:=[mv' 44 0,nl' 45 44,fl' 1 46 45,ld' O 47 46,mv' 48 4,mv' 49 0,nl' 50 49,fl' 1 51 50,ld' O 52 51,mv' 53 5,ix' 4 54 52 53,to 55 (B's O 4 (.tmp 54)),ix' 4 56 47 48,too (aSt O ro 4 (.tmp 56) (.tmp 55))]
def Zjb(O:HI H)(ro:Nat):RL' H:=[mv' 57 3,mv' 58 5,mv' 59 4,ix' 1 60 57 58,too (aSt O ro 1 (.tmp 60) (.tmp 59))]
def Zjc:RL' H:=[mv' 61 4,ik' .add 62 61 1,mv' 4 62]
def Zjd:RL' H:=[mv' 38 5,ik' .add 39 38 1,mv' 5 39]
def Zje(O:HI H)(ro:Nat):RL' H:=[mv' 63 0,mv' 64 0,nl' 65 64,fl' 1 66 65,ld' O 67 66,mv' 68 4,to 69 (A'm 4 (.tmp 67) none (some (.tmp 68))),nl' 70 63,fl' 1 71 70,too (aSt O ro 1 (.tmp 71) (.tmp 69))]
def Zjf:RL' H:=[mk' 6 0]
def Zjg(O:HI H):RL' H:=[mv' 72 6,mv' 73 0,nl' 74 73,fl' 7 75 74,ld' O 76 75,ln' 77 76,ia' .lss 78 72 77]
def Zjh(O:HI H):RL' H:=[mv' 81 0,nl' 82 81,fl' 7 83 82,ld' O 84 83,mv' 85 6,ix' 1 86 84 85,ld' O 87 86,to 88 (A's .shr (.tmp 87) (.const (.int .u64 1))),mv' 7 88]
def Zji(O:HI H):RL' H:=[mv' 89 0,nl' 90 89,fl' 6 91 90,ld' O 92 91,mv' 93 7,ix' 5 94 92 93,fl' 1 95 94,ld' O 96 95,to 97 (B'h .neq (.tmp 96) (.const (.int .i64 (-1))))]
def Zjj(O:HI H)(ro:Nat):RL' H:=[mv' 98 0,nl' 99 98,fl' 6 100 99,ld' O 101 100,mv' 102 7,mv' 103 3,mv' 104 0,nl' 105 104,fl' 6 106 105,ld' O 107 106,mv' 108 7,ix' 5 109 107 108,fl' 1 110 109,ld' O 111 110,ix' 1 112 103 111,ld' O 113 112,ix' 5 114 101 102,fl' 1 115 114,too (aSt O ro 1 (.tmp 115) (.tmp 113))]
def Zjk:RL' H:=[mv' 79 6,ik' .add 80 79 1,mv' 6 80]
def Zjl:RL' H:=[mv' 116 0,to 117 (A'e 236 [.tmp 116])]
def G'M:RC' H:=λO P ro=>A'a (A'a (A'b (Zi8 O)) (cIf (.tmp 37) (A'f) (A'n 0))) (A'a (A'x 1 (A'a (A'b (Zi9 O)) (cIf (.tmp 43) (A'a (A'b (Zja O ro)) (A'a (A'b (Zjb O ro)) (A'b Zjc))) (A'f)))) (A'b Zjd))
def G'N:RC' H:=λO P ro=>A'a (A'a (A'b (Zjg O)) (cIf (.tmp 78) (A'f) (A'n 2))) (A'a (A'x 3 (A'a (A'b (Zjh O)) (A'a (A'b (Zji O)) (cIf (.tmp 97) (A'b (Zjj O ro)) (A'f))))) (A'b Zjk))
def U'm:RC' H:=λO P ro=>A'a (A'a (A'b (Zi3 O)) (cIf (.tmp 22) (A'B) (A'f))) (A'a (A'b Zi4) (A'a (A'b (Zi5 O)) (A'a (A'b Zi6) (A'a (A'a (A'b Zi7) (A'x 0 (A'Y (G'M O P ro)))) (A'a (A'b (Zje O ro)) (A'a (A'a (A'b Zjf) (A'x 2 (A'Y (G'N O P ro)))) (A'b Zjl)))))))
theorem K'v:FN' 228 @U'm [] Tryz.f228:=f'n Tryz.func228
def Zjm:RL' H:=[to 4 (A'h (.const (.bool false)))]
def Zjn(O:HI H):RL' H:=[mv' 8 0,nl' 9 8,fl' 6 10 9,ld' O 11 10,mv' 12 1,ix' 5 13 11 12,fl' 1 14 13,ld' O 15 14,to 16 (B'h .eql (.tmp 15) (.const (.int .i64 (-1))))]
def Zjo:RL' H:=[to 4 (A'h (.const (.bool false)))]
def Zjp(O:HI H):RL' H:=[mv' 17 0,nl' 18 17,fl' 1 19 18,ld' O 20 19,mv' 21 0,nl' 22 21,fl' 6 23 22,ld' O 24 23,mv' 25 1,ix' 5 26 24 25,fl' 1 27 26,ld' O 28 27,ix' 4 29 20 28,fl' 0 30 29,ld' O 31 30,mv' 5 31]
def Zjq:RL' H:=[mk' 6 0]
def Zjr:RL' H:=[mv' 32 6,mv' 33 5,ln' 34 33,ia' .lss 35 32 34]
def Zjs(O:HI H)(ro:Nat):RL' H:=[mv' 38 0,nl' 39 38,fl' 6 40 39,ld' O 41 40,mv' 42 5,mv' 43 6,ix' 1 44 42 43,ld' O 45 44,to 46 (A's .shr (.tmp 45) (.const (.int .u64 1))),ix' 5 47 41 46,to 48 (B's O 5 (.tmp 47)),to 7 (B'o O [.int .i64 0,.int .i64 0,.bool false,.int .i64 0,.bool false]),too (aSt O ro 5 (.tmp 7) (.tmp 48))]
def Zjt(O:HI H):RL' H:=[fl' 2 49 7,ld' O 50 49,to 51 (aUn .not (.tmp 50)),mv' 52 51,A'd 52 true 53 (fl' 0 53 7),A'd 52 true 54 (ld' O 54 53),A'd 52 true 55 (ik' .gtr 55 54 0),to 56 (A'w (.tmp 52) (.tmp 55) (.const (.bool false)))]
def Zju:RL' H:=[to 4 (A'h (.const (.bool false)))]
def Zjv:RL' H:=[mv' 36 6,ik' .add 37 36 1,mv' 6 37]
def Zjw:RL' H:=[to 4 (A'h (.const (.bool true)))]
def F'I:RC' H:=λO P ro=>A'a (A'a (A'b Zjr) (cIf (.tmp 35) (A'f) (A'n 0))) (A'a (A'x 1 (A'a (A'b (Zjs O ro)) (A'a (A'b (Zjt O)) (cIf (.tmp 56) (A'a (A'b Zju) (A'B)) (A'f))))) (A'b Zjv))
def V'l:RC' H:=λO P ro=>A'a (A'b Zjm) (A'a (A'a (A'b (Zjn O)) (cIf (.tmp 16) (A'a (A'b Zjo) (A'B)) (A'f))) (A'a (A'b (Zjp O)) (A'a (A'a (A'b Zjq) (A'x 0 (A'Y (F'I O P ro)))) (A'a (A'b Zjw) (A'B)))))
theorem P'4:FN' 234 @V'l [.tmp 4] Tryz.f234:=f'n Tryz.func234
end
end Go.Proofs.YtimdkminagnhgaaGreatDoor
