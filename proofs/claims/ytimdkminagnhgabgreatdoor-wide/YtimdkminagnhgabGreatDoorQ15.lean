import Derived.Test.YtimdkminagnhgabGreatDoorQ04
import Derived.Test.YtimdkminagnhgabGreatDoorProg
import Derived.KernelRfl
import Derived.Test.YtimdkminagnhgabGreatDoorQ05
set_option linter.all false
namespace Go.Proofs.YtimdkminagnhgabGreatDoor
open Go.Vm Go.Proofs
set_option maxRecDepth 100000
section
variable {H:Type}
def ZeW:RL' H:=[to 0 (A'i (.const (.pointer none)))]
def ZeX(O:HI H):RL' H:=[to 1 (A'l #[.slice none 0 0,.slice none 0 0,.slice none 0 0,.slice none 0 0,.int .i64 0] [(0,1),(1,1),(2,1),(3,1),(4,1)] []),to 2 (B'r O (.tmp 1)),mv' 0 2]
def F58:RC' H:=λO P ro=>A'b (A'c ZeW) (A'b (A'c (ZeX O)) (A'y))
theorem P'H:FN' 58 @F58 [.tmp 0] Tryz.f58:=f'n Tryz.func58
def ZeY:RL' H:=[mk' 4 0,mk' 5 0]
def ZeZ(O:HI H):RL' H:=[mv' 6 0,to 7 (A'o false (.tmp 6) (.const (.pointer none))),mv' 8 7,A'a 8 false 9 (mv' 9 0),A'a 8 false 10 (nl' 10 9),A'a 8 false 11 (fl' 0 11 10),A'a 8 false 12 (ld' O 12 11),A'a 8 false 13 (ln' 13 12),A'a 8 false 14 (ik' .geq 14 13 192),to 15 (A'q (.tmp 8) (.const (.bool true)) (.tmp 14))]
def Ze0:RL' H:=[mk' 4 0,mk' 5 14]
def Ze1(O:HI H)(ro:Nat):RL' H:=[mv' 16 0,mv' 17 0,nl' 18 17,fl' 0 19 18,ld' O 20 19,mv' 21 1,to 22 (A'x O 1 1 #[.bool false] [(0,.tmp 21)]),to 23 (B'p O ro 1 1 (.tmp 20) (.tmp 22)),nl' 24 16,fl' 0 25 24,too (aSt O ro 1 (.tmp 25) (.tmp 23))]
def Ze2(O:HI H):RL' H:=[mv' 26 0,nl' 27 26,fl' 0 28 27,ld' O 29 28,ln' 30 29,ik' .sub 31 30 1,mv' 4 31,mk' 5 0]
def R'P:RC' H:=λO P ro=>A'b (A'c ZeY) (A'b (A'b (A'c (ZeZ O)) (cIf (.tmp 15) (A'b (A'c Ze0) (A'y)) (A'f))) (A'b (A'c (Ze1 O ro)) (A'b (A'c (Ze2 O)) (A'y))))
theorem N'g:FN' 105 @R'P [.tmp 4,.tmp 5] Tryz.f105:=f'n Tryz.func105
def Ze3:RL' H:=[mk' 2 0]
def Ze4:RL' H:=[mv' 3 0,to 4 (A'o false (.tmp 3) (.const (.pointer none)))]
def Ze5:RL' H:=[mk' 2 0]
def Ze6(O:HI H):RL' H:=[mv' 5 0,nl' 6 5,fl' 4 7 6,ld' O 8 7,mv' 2 8]
def R'Q:RC' H:=λO P ro=>A'b (A'c Ze3) (A'b (A'b (A'c Ze4) (cIf (.tmp 4) (A'b (A'c Ze5) (A'y)) (A'f))) (A'b (A'c (Ze6 O)) (A'y)))
theorem N'h:FN' 111 @R'Q [.tmp 2] Tryz.f111:=f'n Tryz.func111
def Ze7:RL' H:=[mk' 4 0]
def Ze8:RL' H:=[mv' 6 0,to 7 (A'o false (.tmp 6) (.const (.pointer none))),mv' 8 7,A'a 8 false 9 (mv' 9 0),A'a 8 false 10 (mv' 10 1),A'a 8 false 11 (to 11 (A'e 156 [.tmp 9,.tmp 10])),A'a 8 false 12 (to 12 (aUn .not (.tmp 11))),to 13 (A'q (.tmp 8) (.const (.bool true)) (.tmp 12))]
def Ze9:RL' H:=[mk' 4 13]
def Zfa:RL' H:=[mv' 14 0,mv' 15 1,to 16 (A'e 157 [.tmp 14,.tmp 15]),mv' 5 16]
def Zfb:RL' H:=[mv' 17 5,to 18 (A'e 158 [.tmp 17]),to 19 (aUn .not (.tmp 18))]
def Zfc(O:HI H)(ro:Nat):RL' H:=[mv' 20 0,mv' 21 0,nl' 22 21,fl' 1 23 22,ld' O 24 23,mv' 25 5,to 26 (A'x O 1 1 #[.slice none 0 0] [(0,.tmp 25)]),to 27 (B'p O ro 1 24 (.tmp 24) (.tmp 26)),nl' 28 20,fl' 1 29 28,too (aSt O ro 1 (.tmp 29) (.tmp 27))]
def Zfd:RL' H:=[mk' 4 0]
def R'k:RC' H:=λO P ro=>A'b (A'c Ze7) (A'b (A'b (A'c Ze8) (cIf (.tmp 13) (A'b (A'c Ze9) (A'y)) (A'f))) (A'b (A'c Zfa) (A'b (A'b (A'c Zfb) (cIf (.tmp 19) (A'c (Zfc O ro)) (A'f))) (A'b (A'c Zfd) (A'y)))))
theorem I'X:FN' 122 @R'k [.tmp 4] Tryz.f122:=f'n Tryz.func122
def Zfe:RL' H:=[mk' 6 0]
def Zff:RL' H:=[mv' 10 0,to 11 (A'o false (.tmp 10) (.const (.pointer none))),mv' 12 11,A'a 12 false 13 (mv' 13 2),A'a 12 false 14 (ik' .lss 14 13 0),to 15 (A'q (.tmp 12) (.const (.bool true)) (.tmp 14)),mv' 16 15,A'a 16 false 17 (mv' 17 0),A'a 16 false 18 (mv' 18 1),A'a 16 false 19 (to 19 (A'e 156 [.tmp 17,.tmp 18])),A'a 16 false 20 (to 20 (aUn .not (.tmp 19))),to 21 (A'q (.tmp 16) (.const (.bool true)) (.tmp 20))]
def Zfg:RL' H:=[mk' 6 0]
def Zfh:RL' H:=[mv' 22 0,mv' 23 1,to 24 (A'e 157 [.tmp 22,.tmp 23]),mv' 7 24]
def Zfi(O:HI H):RL' H:=[mv' 25 0,nl' 26 25,fl' 0 27 26,ld' O 28 27,mv' 29 7,to 30 (A'e 186 [.tmp 28,.tmp 29]),mv' 8 30]
def Zfj(O:HI H):RL' H:=[mv' 31 8,mv' 32 0,nl' 33 32,fl' 1 34 33,ld' O 35 34,mv' 36 2,to 37 (A'e 187 [.tmp 31,.tmp 35,.tmp 36]),mv' 9 37]
def Zfk(O:HI H)(ro:Nat):RL' H:=[mv' 38 0,nl' 39 38,fl' 4 40 39,ld' O 41 40,mv' 42 8,nl' 43 42,fl' 11 44 43,ld' O 45 44,ia' .add 46 41 45,nl' 47 38,fl' 4 48 47,too (aSt O ro 1 (.tmp 48) (.tmp 46))]
def Zfl(O:HI H)(ro:Nat):RL' H:=[mv' 49 0,nl' 50 49,fl' 2 51 50,too (aSt O ro 1 (.tmp 51) (.const (.slice none 0 0)))]
def Zfm(O:HI H)(ro:Nat):RL' H:=[mv' 52 0,nl' 53 52,fl' 3 54 53,too (aSt O ro 1 (.tmp 54) (.const (.slice none 0 0)))]
def Zfn:RL' H:=[mv' 55 9]
def Zfo:RL' H:=[ik' .eql 57 55 1,mv' 56 57]
def Zfp(O:HI H)(ro:Nat):RL' H:=[mv' 58 0,mv' 59 8,to 60 (A'e 188 [.tmp 59]),nl' 61 58,fl' 2 62 61,too (aSt O ro 1 (.tmp 62) (.tmp 60))]
def Zfq:RL' H:=[ik' .eql 64 55 2,mv' 63 64]
def Zfr(O:HI H)(ro:Nat):RL' H:=[mv' 65 0,mv' 66 8,nl' 67 66,fl' 12 68 67,ld' O 69 68,nl' 70 65,fl' 3 71 70,too (aSt O ro 1 (.tmp 71) (.tmp 69))]
def Zfs:RL' H:=[mv' 72 9,mv' 6 72]
def R'R:RC' H:=λO P ro=>A'b (A'c Zfe) (A'b (A'b (A'c Zff) (cIf (.tmp 21) (A'b (A'c Zfg) (A'y)) (A'f))) (A'b (A'c Zfh) (A'b (A'c (Zfi O)) (A'b (A'c (Zfj O)) (A'b (A'c (Zfk O ro)) (A'b (A'c (Zfl O ro)) (A'b (A'c (Zfm O ro)) (A'b (A'b (A'c Zfn) (A'z 0 (A'b (A'c Zfo) (cIf (.tmp 56) (A'c (Zfp O ro)) (A'b (A'c Zfq) (cIf (.tmp 63) (A'c (Zfr O ro)) (A'f))))))) (A'b (A'c Zfs) (A'y))))))))))
theorem N'i:FN' 151 @R'R [.tmp 6] Tryz.f151:=f'n Tryz.func151
def Zft:RL' H:=[to 4 (A'i (.const (.bool false))),mk' 5 0]
def Zfu(O:HI H):RL' H:=[mv' 6 0,to 7 (A'o false (.tmp 6) (.const (.pointer none))),mv' 8 7,A'a 8 false 9 (mv' 9 1),A'a 8 false 10 (ik' .lss 10 9 0),to 11 (A'q (.tmp 8) (.const (.bool true)) (.tmp 10)),mv' 12 11,A'a 12 false 13 (mv' 13 1),A'a 12 false 14 (mv' 14 0),A'a 12 false 15 (nl' 15 14),A'a 12 false 16 (fl' 2 16 15),A'a 12 false 17 (ld' O 17 16),A'a 12 false 18 (ln' 18 17),A'a 12 false 19 (ia' .geq 19 13 18),to 20 (A'q (.tmp 12) (.const (.bool true)) (.tmp 19))]
def Zfv:RL' H:=[to 4 (A'i (.const (.bool false))),mk' 5 13]
def Zfw(O:HI H):RL' H:=[mv' 21 0,nl' 22 21,fl' 2 23 22,ld' O 24 23,mv' 25 1,ix' 1 26 24 25,ld' O 27 26,mv' 4 27,mk' 5 0]
def R'S:RC' H:=λO P ro=>A'b (A'c Zft) (A'b (A'b (A'c (Zfu O)) (cIf (.tmp 20) (A'b (A'c Zfv) (A'y)) (A'f))) (A'b (A'c (Zfw O)) (A'y)))
theorem N'j:FN' 153 @R'S [.tmp 4,.tmp 5] Tryz.f153:=f'n Tryz.func153
def Zfx:RL' H:=[to 4 (A'i (.const (.bool false)))]
def Zfy:RL' H:=[mk' 5 0]
def Zfz:RL' H:=[mv' 6 5,mv' 7 1,ln' 8 7,ia' .lss 9 6 8]
def ZfA(O:HI H):RL' H:=[mv' 12 1,mv' 13 5,ix' 1 14 12 13,ld' O 15 14,ik' .lss 16 15 0,mv' 17 16,A'a 17 false 18 (mv' 18 1),A'a 17 false 19 (mv' 19 5),A'a 17 false 20 (ix' 1 20 18 19),A'a 17 false 21 (ld' O 21 20),A'a 17 false 22 (mv' 22 0),A'a 17 false 23 (nl' 23 22),A'a 17 false 24 (fl' 0 24 23),A'a 17 false 25 (ld' O 25 24),A'a 17 false 26 (ln' 26 25),A'a 17 false 27 (to 27 (A'5 .mul (.const (.int .i64 2)) (.tmp 26))),A'a 17 false 28 (ia' .geq 28 21 27),to 29 (A'q (.tmp 17) (.const (.bool true)) (.tmp 28))]
def ZfB:RL' H:=[to 4 (A'i (.const (.bool false)))]
def ZfC:RL' H:=[mv' 10 5,ik' .add 11 10 1,mv' 5 11]
def ZfD:RL' H:=[to 4 (A'i (.const (.bool true)))]
def I'Y:RC' H:=λO P ro=>A'b (A'b (A'c Zfz) (cIf (.tmp 9) (A'f) (A'r 0))) (A'b (A'z 1 (A'b (A'c (ZfA O)) (cIf (.tmp 29) (A'b (A'c ZfB) (A'y)) (A'f)))) (A'c ZfC))
def R'T:RC' H:=λO P ro=>A'b (A'c Zfx) (A'b (A'b (A'c Zfy) (A'z 0 (A'1 (I'Y O P ro)))) (A'b (A'c ZfD) (A'y)))
theorem N'k:FN' 156 @R'T [.tmp 4] Tryz.f156:=f'n Tryz.func156
def ZfE:RL' H:=[to 4 (A'i (.const (.slice none 0 0)))]
def ZfF(O:HI H):RL' H:=[mv' 8 0,nl' 9 8,fl' 0 10 9,ld' O 11 10,ln' 12 11,to 13 (A'5 .mul (.const (.int .i64 2)) (.tmp 12)),to 14 (B'i O 1 1 #[.bool false] (.tmp 13) (.tmp 13)),mv' 5 14]
def ZfG(O:HI H):RL' H:=[to 15 (A'x O 1 0 #[.int .i64 0] []),mv' 6 15]
def ZfH:RL' H:=[mk' 7 0]
def ZfI:RL' H:=[mv' 16 7,mv' 17 1,ln' 18 17,ia' .lss 19 16 18]
def ZfJ(O:HI H):RL' H:=[mv' 22 5,mv' 23 1,mv' 24 7,ix' 1 25 23 24,ld' O 26 25,ix' 1 27 22 26,ld' O 28 27,to 29 (aUn .not (.tmp 28))]
def ZfK(O:HI H)(ro:Nat):RL' H:=[mv' 30 5,mv' 31 1,mv' 32 7,ix' 1 33 31 32,ld' O 34 33,ix' 1 35 30 34,too (aSt O ro 1 (.tmp 35) (.const (.bool true)))]
def ZfL(O:HI H)(ro:Nat):RL' H:=[mv' 36 6,mv' 37 1,mv' 38 7,ix' 1 39 37 38,ld' O 40 39,to 41 (A'x O 1 1 #[.int .i64 0] [(0,.tmp 40)]),to 42 (B'p O ro 1 8 (.tmp 36) (.tmp 41)),mv' 6 42]
def ZfM:RL' H:=[mv' 20 7,ik' .add 21 20 1,mv' 7 21]
def ZfN:RL' H:=[mv' 43 6,mv' 4 43]
def F'O:RC' H:=λO P ro=>A'b (A'b (A'c ZfI) (cIf (.tmp 19) (A'f) (A'r 0))) (A'b (A'z 1 (A'b (A'c (ZfJ O)) (cIf (.tmp 29) (A'b (A'c (ZfK O ro)) (A'c (ZfL O ro))) (A'f)))) (A'c ZfM))
def R'U:RC' H:=λO P ro=>A'b (A'c ZfE) (A'b (A'c (ZfF O)) (A'b (A'c (ZfG O)) (A'b (A'b (A'c ZfH) (A'z 0 (A'1 (F'O O P ro)))) (A'b (A'c ZfN) (A'y)))))
theorem N'l:FN' 157 @R'U [.tmp 4] Tryz.f157:=f'n Tryz.func157
def ZfO:RL' H:=[to 2 (A'i (.const (.bool false)))]
def ZfP:RL' H:=[mk' 3 0]
def ZfQ:RL' H:=[mv' 5 3,mv' 6 0,ln' 7 6,ia' .lss 8 5 7]
def ZfR:RL' H:=[mk' 4 0]
def ZfS:RL' H:=[mv' 11 4,mv' 12 3,ia' .lss 13 11 12]
def ZfT(O:HI H):RL' H:=[mv' 16 0,mv' 17 4,ix' 1 18 16 17,ld' O 19 18,mv' 20 0,mv' 21 3,ix' 1 22 20 21,ld' O 23 22,ik' .xor 24 23 1,ia' .eql 25 19 24]
def ZfU:RL' H:=[to 2 (A'i (.const (.bool true)))]
def ZfV:RL' H:=[mv' 14 4,ik' .add 15 14 1,mv' 4 15]
def ZfW:RL' H:=[mv' 9 3,ik' .add 10 9 1,mv' 3 10]
def ZfX:RL' H:=[to 2 (A'i (.const (.bool false)))]
def F'P:RC' H:=λO P ro=>A'b (A'b (A'c ZfS) (cIf (.tmp 13) (A'f) (A'r 2))) (A'b (A'z 3 (A'b (A'c (ZfT O)) (cIf (.tmp 25) (A'b (A'c ZfU) (A'y)) (A'f)))) (A'c ZfV))
def I'Z:RC' H:=λO P ro=>A'b (A'b (A'c ZfQ) (cIf (.tmp 8) (A'f) (A'r 0))) (A'b (A'z 1 (A'b (A'c ZfR) (A'z 2 (A'1 (F'P O P ro))))) (A'c ZfW))
def R'V:RC' H:=λO P ro=>A'b (A'c ZfO) (A'b (A'b (A'c ZfP) (A'z 0 (A'1 (I'Z O P ro)))) (A'b (A'c ZfX) (A'y)))
theorem N'm:FN' 158 @R'V [.tmp 2] Tryz.f158:=f'n Tryz.func158
def ZfY:RL' H:=[to 4 (A'i (.const (.pointer none)))]
def ZfZ(O:HI H):RL' H:=[mv' 7 1,to 8 (A'l #[.slice none 0 0,.slice none 0 0,.int .i64 0,.int .i64 0,.slice none 0 0,.slice none 0 0,.slice none 0 0,.slice none 0 0,.slice none 0 0,.int .i64 0,.int .i64 0,.int .i64 0,.slice none 0 0] [(0,1),(1,1),(2,1),(3,1),(4,1),(5,1),(6,1),(7,1),(8,1),(9,1),(10,1),(11,1),(12,1)] [(0,.tmp 7),(3,.const (.int .i64 4000)),(10,.const (.int .i64 16))]),to 9 (B'r O (.tmp 8)),mv' 5 9]
def Zf0(O:HI H)(ro:Nat):RL' H:=[mv' 10 5,mv' 11 0,ln' 12 11,to 13 (A'5 .mul (.const (.int .i64 2)) (.tmp 12)),to 14 (B'i O 1 24 #[.slice none 0 0] (.tmp 13) (.tmp 13)),nl' 15 10,fl' 4 16 15,too (aSt O ro 1 (.tmp 16) (.tmp 14))]
def Zf1(O:HI H)(ro:Nat):RL' H:=[mv' 17 5,mv' 18 0,ln' 19 18,to 20 (A'5 .mul (.const (.int .i64 2)) (.tmp 19)),to 21 (B'i O 1 1 #[.bool false] (.tmp 20) (.tmp 20)),nl' 22 17,fl' 5 23 22,too (aSt O ro 1 (.tmp 23) (.tmp 21))]
def Zf2(O:HI H)(ro:Nat):RL' H:=[mv' 24 5,mv' 25 0,ln' 26 25,to 27 (B'i O 5 40 #[.int .i64 0,.int .i64 0,.bool false,.int .i64 0,.bool false] (.tmp 26) (.tmp 26)),nl' 28 24,fl' 6 29 28,too (aSt O ro 1 (.tmp 29) (.tmp 27))]
def Zf3:RL' H:=[mk' 6 0]
def Zf4:RL' H:=[mv' 30 6,mv' 31 0,ln' 32 31,ia' .lss 33 30 32]
def Zf5(O:HI H):RL' H:=[mv' 36 0,mv' 37 6,ix' 1 38 36 37,ld' O 39 38]
def Zf6(O:HI H)(ro:Nat):RL' H:=[mv' 40 5,nl' 41 40,fl' 6 42 41,ld' O 43 42,mv' 44 6,ix' 5 45 43 44,fl' 3 46 45,too (aSt O ro 1 (.tmp 46) (.const (.int .i64 1)))]
def Zf7:RL' H:=[mv' 34 6,ik' .add 35 34 1,mv' 6 35]
def Zf8:RL' H:=[mv' 47 5,mv' 4 47]
def F'Q:RC' H:=λO P ro=>A'b (A'b (A'c Zf4) (cIf (.tmp 33) (A'f) (A'r 0))) (A'b (A'z 1 (A'b (A'c (Zf5 O)) (cIf (.tmp 39) (A'c (Zf6 O ro)) (A'f)))) (A'c Zf7))
def R'W:RC' H:=λO P ro=>A'b (A'c ZfY) (A'b (A'c (ZfZ O)) (A'b (A'c (Zf0 O ro)) (A'b (A'c (Zf1 O ro)) (A'b (A'c (Zf2 O ro)) (A'b (A'b (A'c Zf3) (A'z 0 (A'1 (F'Q O P ro)))) (A'b (A'c Zf8) (A'y)))))))
theorem N'n:FN' 186 @R'W [.tmp 4] Tryz.f186:=f'n Tryz.func186
def Zf9:RL' H:=[mk' 6 0]
def Zga:RL' H:=[mv' 9 0,mv' 10 1,to 11 (A'e 202 [.tmp 9,.tmp 10]),mv' 7 11]
def Zgb:RL' H:=[mk' 8 0]
def Zgc:RL' H:=[mv' 12 8,ik' .eql 13 12 0]
def Zgd:RL' H:=[mv' 14 7,to 15 (A'5 .eql (.tmp 14) (.const (.int .i64 (-1))))]
def Zge:RL' H:=[mv' 16 0,to 17 (A'e 203 [.tmp 16]),mv' 7 17]
def Zgf:RL' H:=[mv' 18 7,to 19 (A'5 .eql (.tmp 18) (.const (.int .i64 (-1))))]
def Zgg:RL' H:=[mv' 20 0,to 21 (A'e 204 [.tmp 20]),mv' 8 21]
def Zgh:RL' H:=[mv' 22 0,mv' 23 7,mv' 24 2,to 25 (A'e 205 [.tmp 22,.tmp 23,.tmp 24]),mv' 8 25]
def Zgi:RL' H:=[to 7 (A'i (.const (.int .i64 (-1))))]
def Zgj:RL' H:=[mv' 26 8,mv' 6 26]
def D'y:RC' H:=λO P ro=>A'b (A'b (A'c Zgc) (cIf (.tmp 13) (A'f) (A'r 0))) (A'z 1 (A'b (A'b (A'c Zgd) (cIf (.tmp 15) (A'c Zge) (A'f))) (A'b (A'c Zgf) (cIf (.tmp 19) (A'c Zgg) (A'b (A'c Zgh) (A'c Zgi))))))
def R'X:RC' H:=λO P ro=>A'b (A'c Zf9) (A'b (A'c Zga) (A'b (A'c Zgb) (A'b (A'z 0 (A'1 (D'y O P ro))) (A'b (A'c Zgj) (A'y)))))
theorem N'o:FN' 187 @R'X [.tmp 6] Tryz.f187:=f'n Tryz.func187
def Zgk:RL' H:=[to 2 (A'i (.const (.slice none 0 0)))]
def Zgl(O:HI H):RL' H:=[to 5 (A'x O 1 0 #[.bool false] []),mv' 3 5]
def Zgm:RL' H:=[mk' 4 0]
def Zgn(O:HI H):RL' H:=[mv' 6 4,mv' 7 0,nl' 8 7,fl' 6 9 8,ld' O 10 9,ln' 11 10,ia' .lss 12 6 11]
def Zgo(O:HI H)(ro:Nat):RL' H:=[mv' 15 3,mv' 16 0,nl' 17 16,fl' 5 18 17,ld' O 19 18,mv' 20 4,to 21 (A'5 .mul (.const (.int .i64 2)) (.tmp 20)),ix' 1 22 19 21,ld' O 23 22,to 24 (A'x O 1 1 #[.bool false] [(0,.tmp 23)]),to 25 (B'p O ro 1 1 (.tmp 15) (.tmp 24)),mv' 3 25]
def Zgp:RL' H:=[mv' 13 4,ik' .add 14 13 1,mv' 4 14]
def Zgq:RL' H:=[mv' 26 3,mv' 2 26]
def G'3:RC' H:=λO P ro=>A'b (A'b (A'c (Zgn O)) (cIf (.tmp 12) (A'f) (A'r 0))) (A'b (A'z 1 (A'c (Zgo O ro))) (A'c Zgp))
def R'Y:RC' H:=λO P ro=>A'b (A'c Zgk) (A'b (A'c (Zgl O)) (A'b (A'b (A'c Zgm) (A'z 0 (A'1 (G'3 O P ro)))) (A'b (A'c Zgq) (A'y))))
theorem N'p:FN' 188 @R'Y [.tmp 2] Tryz.f188:=f'n Tryz.func188
def Zgr:RL' H:=[mk' 4 0]
def Zgs:RL' H:=[to 5 (A'i (.const (.int .i64 (-1))))]
def Zgt:RL' H:=[mk' 6 0]
def Zgu:RL' H:=[mv' 8 6,mv' 9 1,ln' 10 9,ia' .lss 11 8 10]
def Zgv(O:HI H):RL' H:=[mv' 14 1,mv' 15 6,ix' 1 16 14 15,ld' O 17 16,mv' 7 17]
def Zgw:RL' H:=[mv' 18 7,ln' 19 18,ik' .gtr 20 19 1]
def Zgx(O:HI H):RL' H:=[mv' 21 0,mv' 22 7,mv' 23 7,to 24 (B'A 1 (.tmp 23) (.const (.int .i64 0))),ld' O 25 24,mv' 26 7,to 27 (B'A 1 (.tmp 26) (.const (.int .i64 1))),ld' O 28 27,to 29 (A'l #[.slice none 0 0,.int .i64 0,.int .i64 0,.int .i64 0] [(0,1),(1,1),(2,1),(3,1)] [(0,.tmp 22),(1,.tmp 25),(2,.tmp 28)]),to 30 (A'e 212 [.tmp 21,.tmp 29])]
def Zgy(O:HI H)(ro:Nat):RL' H:=[mv' 31 0,mv' 32 0,nl' 33 32,fl' 1 34 33,ld' O 35 34,mv' 36 7,to 37 (A'l #[.slice none 0 0,.int .i64 0,.int .i64 0,.int .i64 0] [(0,1),(1,1),(2,1),(3,1)] [(0,.tmp 36)]),to 38 (A'x O 4 1 #[.slice none 0 0,.int .i64 0,.int .i64 0,.int .i64 0] [(0,.tmp 37)]),to 39 (B'p O ro 4 48 (.tmp 35) (.tmp 38)),nl' 40 31,fl' 1 41 40,too (aSt O ro 1 (.tmp 41) (.tmp 39))]
def Zgz(O:HI H):RL' H:=[mv' 42 7,ln' 43 42,ik' .eql 44 43 0,mv' 45 44,A'a 45 false 46 (mv' 46 0),A'a 45 false 47 (nl' 47 46),A'a 45 false 48 (fl' 5 48 47),A'a 45 false 49 (ld' O 49 48),A'a 45 false 50 (mv' 50 7),A'a 45 false 51 (to 51 (B'A 1 (.tmp 50) (.const (.int .i64 0)))),A'a 45 false 52 (ld' O 52 51),A'a 45 false 53 (ik' .xor 53 52 1),A'a 45 false 54 (ix' 1 54 49 53),A'a 45 false 55 (ld' O 55 54),to 56 (A'q (.tmp 45) (.const (.bool true)) (.tmp 55))]
def ZgA:RL' H:=[mv' 57 6,mv' 5 57]
def ZgB(O:HI H):RL' H:=[mv' 58 0,nl' 59 58,fl' 5 60 59,ld' O 61 60,mv' 62 7,to 63 (B'A 1 (.tmp 62) (.const (.int .i64 0))),ld' O 64 63,ix' 1 65 61 64,ld' O 66 65,to 67 (aUn .not (.tmp 66))]
def ZgC(O:HI H):RL' H:=[mv' 68 0,mv' 69 7,to 70 (B'A 1 (.tmp 69) (.const (.int .i64 0))),ld' O 71 70,mv' 72 6,to 73 (A'e 213 [.tmp 68,.tmp 71,.tmp 72])]
def ZgD:RL' H:=[mv' 12 6,ik' .add 13 12 1,mv' 6 13]
def ZgE(O:HI H)(ro:Nat):RL' H:=[mv' 74 0,mv' 75 1,ln' 76 75,nl' 77 74,fl' 2 78 77,too (aSt O ro 1 (.tmp 78) (.tmp 76))]
def ZgF:RL' H:=[mv' 79 5,mv' 4 79]
def D'R:RC' H:=λO P ro=>A'b (A'b (A'c Zgu) (cIf (.tmp 11) (A'f) (A'r 0))) (A'b (A'z 1 (A'b (A'c (Zgv O)) (A'b (A'b (A'c Zgw) (cIf (.tmp 20) (A'b (A'c (Zgx O)) (A'r 1)) (A'f))) (A'b (A'c (Zgy O ro)) (A'b (A'c (Zgz O)) (cIf (.tmp 56) (A'c ZgA) (A'b (A'c (ZgB O)) (cIf (.tmp 67) (A'c (ZgC O)) (A'f))))))))) (A'c ZgD))
def R'Z:RC' H:=λO P ro=>A'b (A'c Zgr) (A'b (A'c Zgs) (A'b (A'b (A'c Zgt) (A'z 0 (A'1 (D'R O P ro)))) (A'b (A'c (ZgE O ro)) (A'b (A'c ZgF) (A'y)))))
theorem N'q:FN' 202 @R'Z [.tmp 4] Tryz.f202:=f'n Tryz.func202
def ZgG:RL' H:=[mk' 2 0]
def ZgH:RL' H:=[to 3 (A'i (.const (.int .i64 (-1))))]
def ZgI(O:HI H):RL' H:=[mv' 5 3,to 6 (A'5 .eql (.tmp 5) (.const (.int .i64 (-1)))),mv' 7 6,A'a 7 true 8 (mv' 8 0),A'a 7 true 9 (nl' 9 8),A'a 7 true 10 (fl' 9 10 9),A'a 7 true 11 (ld' O 11 10),A'a 7 true 12 (mv' 12 0),A'a 7 true 13 (nl' 13 12),A'a 7 true 14 (fl' 7 14 13),A'a 7 true 15 (ld' O 15 14),A'a 7 true 16 (ln' 16 15),A'a 7 true 17 (ia' .lss 17 11 16),to 18 (A'q (.tmp 7) (.tmp 17) (.const (.bool false)))]
def ZgJ(O:HI H):RL' H:=[mv' 19 0,nl' 20 19,fl' 7 21 20,ld' O 22 21,mv' 23 0,nl' 24 23,fl' 9 25 24,ld' O 26 25,ix' 1 27 22 26,ld' O 28 27,ik' .xor 29 28 1,mv' 4 29]
def ZgK(O:HI H)(ro:Nat):RL' H:=[mv' 30 0,nl' 31 30,fl' 9 32 31,ld' O 33 32,ik' .add 34 33 1,nl' 35 30,fl' 9 36 35,too (aSt O ro 1 (.tmp 36) (.tmp 34))]
def ZgL:RL' H:=[mv' 37 0,mv' 38 4,to 39 (A'e 214 [.tmp 37,.tmp 38]),mv' 3 39]
def ZgM:RL' H:=[mv' 40 3,mv' 2 40]
def E'Y:RC' H:=λO P ro=>A'b (A'b (A'c (ZgI O)) (cIf (.tmp 18) (A'f) (A'r 0))) (A'z 1 (A'b (A'c (ZgJ O)) (A'b (A'c (ZgK O ro)) (A'c ZgL))))
def R'0:RC' H:=λO P ro=>A'b (A'c ZgG) (A'b (A'c ZgH) (A'b (A'z 0 (A'1 (E'Y O P ro))) (A'b (A'c ZgM) (A'y))))
theorem N'r:FN' 203 @R'0 [.tmp 2] Tryz.f203:=f'n Tryz.func203
def ZgN:RL' H:=[mk' 2 0]
def ZgO(O:HI H):RL' H:=[mv' 6 0,nl' 7 6,fl' 8 8 7,ld' O 9 8,ln' 10 9,mv' 3 10]
def ZgP(O:HI H):RL' H:=[mv' 11 3,mv' 12 0,nl' 13 12,fl' 0 14 13,ld' O 15 14,ln' 16 15,ia' .lss 17 11 16]
def ZgQ(O:HI H):RL' H:=[mv' 18 0,mv' 19 0,nl' 20 19,fl' 0 21 20,ld' O 22 21,mv' 23 3,ix' 1 24 22 23,ld' O 25 24,to 26 (A'e 215 [.tmp 18,.tmp 25]),mv' 2 26]
def ZgR:RL' H:=[mv' 27 0,to 28 (A'e 216 [.tmp 27]),mv' 4 28]
def ZgS:RL' H:=[mv' 29 4,to 30 (A'5 .eql (.tmp 29) (.const (.int .i64 (-1))))]
def ZgT:RL' H:=[mk' 2 1]
def ZgU:RL' H:=[mv' 31 4,to 32 (A'5 .mul (.const (.int .i64 2)) (.tmp 31)),mv' 5 32]
def ZgV(O:HI H):RL' H:=[mv' 33 0,nl' 34 33,fl' 6 35 34,ld' O 36 35,mv' 37 4,ix' 5 38 36 37,fl' 4 39 38,ld' O 40 39,to 41 (aUn .not (.tmp 40))]
def ZgW:RL' H:=[mv' 42 5,ik' .add 43 42 1,mv' 5 43]
def ZgX(O:HI H)(ro:Nat):RL' H:=[mv' 44 0,mv' 45 0,nl' 46 45,fl' 8 47 46,ld' O 48 47,mv' 49 0,nl' 50 49,fl' 7 51 50,ld' O 52 51,ln' 53 52,to 54 (A'x O 1 1 #[.int .i64 0] [(0,.tmp 53)]),to 55 (B'p O ro 1 8 (.tmp 48) (.tmp 54)),nl' 56 44,fl' 8 57 56,too (aSt O ro 1 (.tmp 57) (.tmp 55))]
def ZgY:RL' H:=[mv' 58 0,mv' 59 5,to 60 (A'e 213 [.tmp 58,.tmp 59,.const (.int .i64 (-1))])]
def ZgZ:RL' H:=[mk' 2 0]
def R'1:RC' H:=λO P ro=>A'b (A'c ZgN) (A'b (A'c (ZgO O)) (A'b (A'b (A'c (ZgP O)) (cIf (.tmp 17) (A'b (A'c (ZgQ O)) (A'y)) (A'f))) (A'b (A'c ZgR) (A'b (A'b (A'c ZgS) (cIf (.tmp 30) (A'b (A'c ZgT) (A'y)) (A'f))) (A'b (A'c ZgU) (A'b (A'b (A'c (ZgV O)) (cIf (.tmp 41) (A'c ZgW) (A'f))) (A'b (A'c (ZgX O ro)) (A'b (A'c ZgY) (A'b (A'c ZgZ) (A'y))))))))))
theorem N's:FN' 204 @R'1 [.tmp 2] Tryz.f204:=f'n Tryz.func204
def Zg0(O:HI H):RL' H:=[to 3 (B'r O (.tmp 1))]
def Zg1(O:HI H)(ro:Nat):RL' H:=[mv' 4 0,mv' 5 0,nl' 6 5,fl' 1 7 6,ld' O 8 7,to 9 (B'n O 4 (.tmp 3)),to 10 (A'x O 4 1 #[.slice none 0 0,.int .i64 0,.int .i64 0,.int .i64 0] [(0,.tmp 9)]),to 11 (B'p O ro 4 48 (.tmp 8) (.tmp 10)),nl' 12 4,fl' 1 13 12,too (aSt O ro 1 (.tmp 13) (.tmp 11))]
def Zg2(O:HI H):RL' H:=[mv' 14 0,mv' 15 0,nl' 16 15,fl' 1 17 16,ld' O 18 17,ln' 19 18,ik' .sub 20 19 1,to 21 (A'e 220 [.tmp 14,.tmp 20])]
def R'2:RC' H:=λO P ro=>A'b (A'c (Zg0 O)) (A'b (A'c (Zg1 O ro)) (A'c (Zg2 O)))
theorem N't:FN' 212 @R'2 [] Tryz.f212:=f'n Tryz.func212
def Zg3:RL' H:=[mv' 7 1,to 8 (A'w .shr (.tmp 7) (.const (.int .u64 1))),mv' 6 8]
def Zg4(O:HI H)(ro:Nat):RL' H:=[mv' 9 0,nl' 10 9,fl' 5 11 10,ld' O 12 11,mv' 13 1,ix' 1 14 12 13,too (aSt O ro 1 (.tmp 14) (.const (.bool true)))]
def Zg5(O:HI H)(ro:Nat):RL' H:=[mv' 15 0,nl' 16 15,fl' 6 17 16,ld' O 18 17,mv' 19 6,mv' 20 0,nl' 21 20,fl' 8 22 21,ld' O 23 22,ln' 24 23,ix' 5 25 18 19,fl' 0 26 25,too (aSt O ro 1 (.tmp 26) (.tmp 24))]
def Zg6(O:HI H)(ro:Nat):RL' H:=[mv' 27 0,nl' 28 27,fl' 6 29 28,ld' O 30 29,mv' 31 6,mv' 32 2,ix' 5 33 30 31,fl' 1 34 33,too (aSt O ro 1 (.tmp 34) (.tmp 32))]
def Zg7(O:HI H)(ro:Nat):RL' H:=[mv' 35 0,nl' 36 35,fl' 6 37 36,ld' O 38 37,mv' 39 6,mv' 40 1,ik' .and 41 40 1,ik' .eql 42 41 0,ix' 5 43 38 39,fl' 4 44 43,too (aSt O ro 1 (.tmp 44) (.tmp 42))]
def Zg8(O:HI H)(ro:Nat):RL' H:=[mv' 45 0,mv' 46 0,nl' 47 46,fl' 7 48 47,ld' O 49 48,mv' 50 1,to 51 (A'x O 1 1 #[.int .i64 0] [(0,.tmp 50)]),to 52 (B'p O ro 1 8 (.tmp 49) (.tmp 51)),nl' 53 45,fl' 7 54 53,too (aSt O ro 1 (.tmp 54) (.tmp 52))]
def R'3:RC' H:=λO P ro=>A'b (A'c Zg3) (A'b (A'c (Zg4 O ro)) (A'b (A'c (Zg5 O ro)) (A'b (A'c (Zg6 O ro)) (A'b (A'c (Zg7 O ro)) (A'c (Zg8 O ro))))))
theorem N'u:FN' 213 @R'3 [] Tryz.f213:=f'n Tryz.func213
def Zg9:RL' H:=[mk' 4 0]
def Zha(O:HI H):RL' H:=[mv' 12 0,nl' 13 12,fl' 4 14 13,ld' O 15 14,mv' 16 1,ix' 1 17 15 16,ld' O 18 17,mv' 5 18]
def Zhb:RL' H:=[to 6 (A'i (.const (.int .i64 (-1))))]
def Zhc:RL' H:=[mk' 7 0]
def Zhd:RL' H:=[mk' 8 0]
def Zhe:RL' H:=[mv' 19 8,mv' 20 5,ln' 21 20,ia' .lss 22 19 21]
def Zhf(O:HI H):RL' H:=[mv' 25 5,mv' 26 8,ix' 1 27 25 26,ld' O 28 27,mv' 9 28]
def Zhg:RL' H:=[mv' 29 0,mv' 30 9,mv' 31 1,to 32 (A'e 221 [.tmp 29,.tmp 30,.tmp 31]),mv' 10 32]
def Zhh:RL' H:=[mv' 33 10]
def Zhi(O:HI H)(ro:Nat):RL' H:=[mv' 34 5,mv' 35 7,mv' 36 9,ix' 1 37 34 35,too (aSt O ro 1 (.tmp 37) (.tmp 36))]
def Zhj:RL' H:=[mv' 38 7,ik' .add 39 38 1,mv' 7 39]
def Zhk(O:HI H):RL' H:=[mv' 40 0,nl' 41 40,fl' 1 42 41,ld' O 43 42,mv' 44 9,ix' 4 45 43 44,fl' 1 46 45,ld' O 47 46,mv' 11 47]
def Zhl(O:HI H):RL' H:=[mv' 48 0,nl' 49 48,fl' 5 50 49,ld' O 51 50,mv' 52 11,ik' .xor 53 52 1,ix' 1 54 51 53,ld' O 55 54]
def Zhm:RL' H:=[mv' 56 9,mv' 6 56]
def Zhn(O:HI H):RL' H:=[mv' 57 0,nl' 58 57,fl' 5 59 58,ld' O 60 59,mv' 61 11,ix' 1 62 60 61,ld' O 63 62,to 64 (aUn .not (.tmp 63))]
def Zho:RL' H:=[mv' 65 0,mv' 66 11,mv' 67 9,to 68 (A'e 213 [.tmp 65,.tmp 66,.tmp 67])]
def Zhp:RL' H:=[mv' 23 8,ik' .add 24 23 1,mv' 8 24]
def Zhq(O:HI H)(ro:Nat):RL' H:=[mv' 69 0,nl' 70 69,fl' 4 71 70,ld' O 72 71,mv' 73 1,mv' 74 5,mv' 75 7,to 76 (A'p 1 (.tmp 74) none (some (.tmp 75))),ix' 1 77 72 73,too (aSt O ro 1 (.tmp 77) (.tmp 76))]
def Zhr:RL' H:=[mv' 78 6,mv' 4 78]
def D'S:RC' H:=λO P ro=>A'b (A'b (A'c Zhe) (cIf (.tmp 22) (A'f) (A'r 0))) (A'b (A'z 1 (A'b (A'c (Zhf O)) (A'b (A'c Zhg) (A'b (A'b (A'c Zhh) (cIf (.tmp 33) (A'r 1) (A'f))) (A'b (A'c (Zhi O ro)) (A'b (A'c Zhj) (A'b (A'c (Zhk O)) (A'b (A'c (Zhl O)) (cIf (.tmp 55) (A'c Zhm) (A'b (A'c (Zhn O)) (cIf (.tmp 64) (A'c Zho) (A'f)))))))))))) (A'c Zhp))
def R'4:RC' H:=λO P ro=>A'b (A'c Zg9) (A'b (A'c (Zha O)) (A'b (A'c Zhb) (A'b (A'c Zhc) (A'b (A'b (A'c Zhd) (A'z 0 (A'1 (D'S O P ro)))) (A'b (A'c (Zhq O ro)) (A'b (A'c Zhr) (A'y)))))))
theorem N'v:FN' 214 @R'4 [.tmp 4] Tryz.f214:=f'n Tryz.func214
def Zhs:RL' H:=[mk' 4 0]
def Zht(O:HI H):RL' H:=[mv' 5 0,nl' 6 5,fl' 5 7 6,ld' O 8 7,mv' 9 1,ik' .xor 10 9 1,ix' 1 11 8 10,ld' O 12 11]
def Zhu(O:HI H):RL' H:=[mv' 13 0,mv' 14 1,to 15 (A'x O 1 1 #[.int .i64 0] [(0,.tmp 14)]),to 16 (A'e 217 [.tmp 13,.tmp 15])]
def Zhv(O:HI H)(ro:Nat):RL' H:=[mv' 17 0,mv' 18 0,nl' 19 18,fl' 12 20 19,ld' O 21 20,mv' 22 1,to 23 (A'x O 1 1 #[.int .i64 0] [(0,.tmp 22)]),to 24 (B'p O ro 1 8 (.tmp 21) (.tmp 23)),nl' 25 17,fl' 12 26 25,too (aSt O ro 1 (.tmp 26) (.tmp 24))]
def Zhw:RL' H:=[mk' 4 2]
def Zhx(O:HI H)(ro:Nat):RL' H:=[mv' 27 0,mv' 28 0,nl' 29 28,fl' 8 30 29,ld' O 31 30,mv' 32 0,nl' 33 32,fl' 7 34 33,ld' O 35 34,ln' 36 35,to 37 (A'x O 1 1 #[.int .i64 0] [(0,.tmp 36)]),to 38 (B'p O ro 1 8 (.tmp 31) (.tmp 37)),nl' 39 27,fl' 8 40 39,too (aSt O ro 1 (.tmp 40) (.tmp 38))]
def Zhy(O:HI H):RL' H:=[mv' 41 0,nl' 42 41,fl' 5 43 42,ld' O 44 43,mv' 45 1,ix' 1 46 44 45,ld' O 47 46,to 48 (aUn .not (.tmp 47))]
def Zhz:RL' H:=[mv' 49 0,mv' 50 1,to 51 (A'e 213 [.tmp 49,.tmp 50,.const (.int .i64 (-1))])]
def ZhA:RL' H:=[mk' 4 0]
def R'5:RC' H:=λO P ro=>A'b (A'c Zhs) (A'b (A'b (A'c (Zht O)) (cIf (.tmp 12) (A'b (A'c (Zhu O)) (A'b (A'c (Zhv O ro)) (A'b (A'c Zhw) (A'y)))) (A'f))) (A'b (A'c (Zhx O ro)) (A'b (A'b (A'c (Zhy O)) (cIf (.tmp 48) (A'c Zhz) (A'f))) (A'b (A'c ZhA) (A'y)))))
theorem N'w:FN' 215 @R'5 [.tmp 4] Tryz.f215:=f'n Tryz.func215
def ZhB:RL' H:=[mk' 2 0]
def ZhC:RL' H:=[to 3 (A'i (.const (.int .i64 (-1))))]
def ZhD:RL' H:=[mk' 4 0]
def ZhE(O:HI H):RL' H:=[mv' 5 4,mv' 6 0,nl' 7 6,fl' 6 8 7,ld' O 9 8,ln' 10 9,ia' .lss 11 5 10]
def ZhF(O:HI H):RL' H:=[mv' 14 0,nl' 15 14,fl' 5 16 15,ld' O 17 16,mv' 18 4,to 19 (A'5 .mul (.const (.int .i64 2)) (.tmp 18)),ix' 1 20 17 19,ld' O 21 20,mv' 22 21,A'a 22 false 23 (mv' 23 0),A'a 22 false 24 (nl' 24 23),A'a 22 false 25 (fl' 5 25 24),A'a 22 false 26 (ld' O 26 25),A'a 22 false 27 (mv' 27 4),A'a 22 false 28 (to 28 (A'5 .mul (.const (.int .i64 2)) (.tmp 27))),A'a 22 false 29 (ik' .add 29 28 1),A'a 22 false 30 (ix' 1 30 26 29),A'a 22 false 31 (ld' O 31 30),to 32 (A'q (.tmp 22) (.const (.bool true)) (.tmp 31))]
def ZhG(O:HI H):RL' H:=[mv' 33 3,to 34 (A'5 .eql (.tmp 33) (.const (.int .i64 (-1)))),mv' 35 34,A'a 35 false 36 (mv' 36 0),A'a 35 false 37 (nl' 37 36),A'a 35 false 38 (fl' 6 38 37),A'a 35 false 39 (ld' O 39 38),A'a 35 false 40 (mv' 40 4),A'a 35 false 41 (ix' 5 41 39 40),A'a 35 false 42 (fl' 3 42 41),A'a 35 false 43 (ld' O 43 42),A'a 35 false 44 (mv' 44 0),A'a 35 false 45 (nl' 45 44),A'a 35 false 46 (fl' 6 46 45),A'a 35 false 47 (ld' O 47 46),A'a 35 false 48 (mv' 48 3),A'a 35 false 49 (ix' 5 49 47 48),A'a 35 false 50 (fl' 3 50 49),A'a 35 false 51 (ld' O 51 50),A'a 35 false 52 (ia' .gtr 52 43 51),to 53 (A'q (.tmp 35) (.const (.bool true)) (.tmp 52))]
def ZhH:RL' H:=[mv' 54 4,mv' 3 54]
def ZhI:RL' H:=[mv' 12 4,ik' .add 13 12 1,mv' 4 13]
def ZhJ:RL' H:=[mv' 55 3,mv' 2 55]
def D'T:RC' H:=λO P ro=>A'b (A'b (A'c (ZhE O)) (cIf (.tmp 11) (A'f) (A'r 0))) (A'b (A'z 1 (A'b (A'b (A'c (ZhF O)) (cIf (.tmp 32) (A'r 1) (A'f))) (A'b (A'c (ZhG O)) (cIf (.tmp 53) (A'c ZhH) (A'f))))) (A'c ZhI))
def R'6:RC' H:=λO P ro=>A'b (A'c ZhB) (A'b (A'c ZhC) (A'b (A'b (A'c ZhD) (A'z 0 (A'1 (D'T O P ro)))) (A'b (A'c ZhJ) (A'y))))
theorem N'x:FN' 216 @R'6 [.tmp 2] Tryz.f216:=f'n Tryz.func216
def ZhK(O:HI H):RL' H:=[mv' 6 0,nl' 7 6,fl' 1 8 7,ld' O 9 8,mv' 10 1,ix' 4 11 9 10,fl' 1 12 11,ld' O 13 12,mv' 4 13]
def ZhL(O:HI H):RL' H:=[mv' 14 0,nl' 15 14,fl' 1 16 15,ld' O 17 16,mv' 18 1,ix' 4 19 17 18,fl' 2 20 19,ld' O 21 20,mv' 5 21]
def ZhM(O:HI H)(ro:Nat):RL' H:=[mv' 22 0,nl' 23 22,fl' 4 24 23,ld' O 25 24,mv' 26 4,mv' 27 0,nl' 28 27,fl' 4 29 28,ld' O 30 29,mv' 31 4,ix' 1 32 30 31,ld' O 33 32,mv' 34 1,to 35 (A'x O 1 1 #[.int .i64 0] [(0,.tmp 34)]),to 36 (B'p O ro 1 8 (.tmp 33) (.tmp 35)),ix' 1 37 25 26,too (aSt O ro 1 (.tmp 37) (.tmp 36)),chk (.tmp 24) (.tmp 33)]
def ZhN(O:HI H)(ro:Nat):RL' H:=[mv' 38 0,nl' 39 38,fl' 4 40 39,ld' O 41 40,mv' 42 5,mv' 43 0,nl' 44 43,fl' 4 45 44,ld' O 46 45,mv' 47 5,ix' 1 48 46 47,ld' O 49 48,mv' 50 1,to 51 (A'x O 1 1 #[.int .i64 0] [(0,.tmp 50)]),to 52 (B'p O ro 1 8 (.tmp 49) (.tmp 51)),ix' 1 53 41 42,too (aSt O ro 1 (.tmp 53) (.tmp 52)),chk (.tmp 40) (.tmp 49)]
def R'7:RC' H:=λO P ro=>A'b (A'c (ZhK O)) (A'b (A'c (ZhL O)) (A'b (A'c (ZhM O ro)) (A'c (ZhN O ro))))
theorem N'y:FN' 220 @R'7 [] Tryz.f220:=f'n Tryz.func220
def ZhO:RL' H:=[to 6 (A'i (.const (.bool false)))]
def ZhP(O:HI H):RL' H:=[mv' 11 0,nl' 12 11,fl' 1 13 12,ld' O 14 13,mv' 15 1,ix' 4 16 14 15,fl' 1 17 16,ld' O 18 17,mv' 19 2,ia' .eql 20 18 19]
def ZhQ(O:HI H)(ro:Nat):RL' H:=[mv' 21 0,nl' 22 21,fl' 1 23 22,ld' O 24 23,mv' 25 1,mv' 26 0,nl' 27 26,fl' 1 28 27,ld' O 29 28,mv' 30 1,ix' 4 31 29 30,fl' 2 32 31,ld' O 33 32,ix' 4 34 24 25,fl' 1 35 34,too (aSt O ro 1 (.tmp 35) (.tmp 33))]
def ZhR(O:HI H)(ro:Nat):RL' H:=[mv' 36 0,nl' 37 36,fl' 1 38 37,ld' O 39 38,mv' 40 1,mv' 41 2,ix' 4 42 39 40,fl' 2 43 42,too (aSt O ro 1 (.tmp 43) (.tmp 41))]
def ZhS(O:HI H):RL' H:=[mv' 44 0,nl' 45 44,fl' 1 46 45,ld' O 47 46,mv' 48 1,ix' 4 49 47 48,fl' 1 50 49,ld' O 51 50,mv' 7 51]
def ZhT(O:HI H):RL' H:=[mv' 52 0,nl' 53 52,fl' 5 54 53,ld' O 55 54,mv' 56 7,ix' 1 57 55 56,ld' O 58 57]
def ZhU:RL' H:=[to 6 (A'i (.const (.bool false)))]
def ZhV(O:HI H):RL' H:=[mv' 59 0,nl' 60 59,fl' 1 61 60,ld' O 62 61,mv' 63 1,ix' 4 64 62 63,fl' 0 65 64,ld' O 66 65,mv' 8 66]
def ZhW:RL' H:=[mk' 9 0]
def ZhX:RL' H:=[mv' 67 9,mv' 68 8,ln' 69 68,ia' .lss 70 67 69]
def ZhY(O:HI H):RL' H:=[mv' 73 8,mv' 74 9,ix' 1 75 73 74,ld' O 76 75,mv' 10 76]
def ZhZ(O:HI H):RL' H:=[mv' 77 10,mv' 78 7,ia' .neq 79 77 78,mv' 80 79,A'a 80 true 81 (mv' 81 0),A'a 80 true 82 (nl' 82 81),A'a 80 true 83 (fl' 5 83 82),A'a 80 true 84 (ld' O 84 83),A'a 80 true 85 (mv' 85 10),A'a 80 true 86 (ik' .xor 86 85 1),A'a 80 true 87 (ix' 1 87 84 86),A'a 80 true 88 (ld' O 88 87),A'a 80 true 89 (to 89 (aUn .not (.tmp 88))),to 90 (A'q (.tmp 80) (.tmp 89) (.const (.bool false)))]
def Zh0(O:HI H)(ro:Nat):RL' H:=[mv' 91 0,nl' 92 91,fl' 1 93 92,ld' O 94 93,mv' 95 1,mv' 96 10,ix' 4 97 94 95,fl' 2 98 97,too (aSt O ro 1 (.tmp 98) (.tmp 96))]
def Zh1(O:HI H)(ro:Nat):RL' H:=[mv' 99 0,nl' 100 99,fl' 4 101 100,ld' O 102 101,mv' 103 10,mv' 104 0,nl' 105 104,fl' 4 106 105,ld' O 107 106,mv' 108 10,ix' 1 109 107 108,ld' O 110 109,mv' 111 1,to 112 (A'x O 1 1 #[.int .i64 0] [(0,.tmp 111)]),to 113 (B'p O ro 1 8 (.tmp 110) (.tmp 112)),ix' 1 114 102 103,too (aSt O ro 1 (.tmp 114) (.tmp 113)),chk (.tmp 101) (.tmp 110)]
def Zh2:RL' H:=[to 6 (A'i (.const (.bool true)))]
def Zh3:RL' H:=[mv' 71 9,ik' .add 72 71 1,mv' 9 72]
def Zh4:RL' H:=[to 6 (A'i (.const (.bool false)))]
def D'U:RC' H:=λO P ro=>A'b (A'b (A'c ZhX) (cIf (.tmp 70) (A'f) (A'r 0))) (A'b (A'z 1 (A'b (A'c (ZhY O)) (A'b (A'c (ZhZ O)) (cIf (.tmp 90) (A'b (A'c (Zh0 O ro)) (A'b (A'c (Zh1 O ro)) (A'b (A'c Zh2) (A'y)))) (A'f))))) (A'c Zh3))
def R'8:RC' H:=λO P ro=>A'b (A'c ZhO) (A'b (A'b (A'c (ZhP O)) (cIf (.tmp 20) (A'b (A'c (ZhQ O ro)) (A'c (ZhR O ro))) (A'f))) (A'b (A'c (ZhS O)) (A'b (A'b (A'c (ZhT O)) (cIf (.tmp 58) (A'b (A'c ZhU) (A'y)) (A'f))) (A'b (A'c (ZhV O)) (A'b (A'b (A'c ZhW) (A'z 0 (A'1 (D'U O P ro)))) (A'b (A'c Zh4) (A'y)))))))
theorem N'z:FN' 221 @R'8 [.tmp 6] Tryz.f221:=f'n Tryz.func221
end
end Go.Proofs.YtimdkminagnhgabGreatDoor
