import Derived.Test.YtimdkminagnhgaaGreatDoorQ04
import Derived.Test.YtimdkminagnhgaaGreatDoorProg
import Derived.KernelRfl
import Derived.Test.YtimdkminagnhgaaGreatDoorQ05
set_option linter.all false
namespace Go.Proofs.YtimdkminagnhgaaGreatDoor
open Go.Vm Go.Proofs
set_option maxRecDepth 100000
section
variable {H:Type}
def Zjx:RL' H:=[to 2 (A'h (.const (.slice none 0 0)))]
def Zjy(O:HI H):RL' H:=[mv' 9 0,nl' 10 9,fl' 1 11 10,ld' O 12 11,ln' 13 12,to 14 (B'd O 1 1 #[.bool false] (.tmp 13) (.tmp 13)),mv' 3 14]
def Zjz(O:HI H)(ro:Nat):RL' H:=[mv' 15 0,to 16 (A'e 239 [.tmp 15]),to 4 (B'o O (List.replicate 193 (.int .i64 0))),too (aSt O ro 193 (.tmp 4) (.tmp 16))]
def ZjA(O:HI H):RL' H:=[mv' 17 0,nl' 18 17,fl' 1 19 18,ld' O 20 19,ln' 21 20,ik' .sub 22 21 1,mv' 5 22]
def ZjB:RL' H:=[mv' 23 5,ik' .geq 24 23 0]
def ZjC(O:HI H):RL' H:=[mv' 27 0,nl' 28 27,fl' 1 29 28,ld' O 30 29,mv' 31 5,ix' 4 32 30 31,fl' 3 33 32,ld' O 34 33,mv' 6 34]
def ZjD(O:HI H)(ro:Nat):RL' H:=[mv' 35 3,mv' 36 5,mv' 37 5,mv' 38 0,nl' 39 38,fl' 2 40 39,ld' O 41 40,ia' .lss 42 37 41,mv' 43 42,A'd 43 false 44 (mv' 44 6),A'd 43 false 45 (to 45 (A'k 193 1 (.tmp 4) (.tmp 44))),A'd 43 false 46 (ld' O 46 45),A'd 43 false 47 (ik' .gtr 47 46 0),to 48 (A'w (.tmp 43) (.const (.bool true)) (.tmp 47)),ix' 1 49 35 36,too (aSt O ro 1 (.tmp 49) (.tmp 48))]
def ZjE(O:HI H)(ro:Nat):RL' H:=[mv' 50 6,to 51 (A'k 193 1 (.tmp 4) (.tmp 50)),ld' O 52 51,ik' .sub 53 52 1,to 54 (A'k 193 1 (.tmp 4) (.tmp 50)),too (aSt O ro 1 (.tmp 54) (.tmp 53))]
def ZjF:RL' H:=[mv' 25 5,ik' .sub 26 25 1,mv' 5 26]
def ZjG:RL' H:=[mk' 7 0]
def ZjH(O:HI H):RL' H:=[mv' 55 7,mv' 56 0,nl' 57 56,fl' 7 58 57,ld' O 59 58,ln' 60 59,ia' .lss 61 55 60]
def ZjI(O:HI H):RL' H:=[mv' 64 0,nl' 65 64,fl' 6 66 65,ld' O 67 66,mv' 68 0,nl' 69 68,fl' 7 70 69,ld' O 71 70,mv' 72 7,ix' 1 73 71 72,ld' O 74 73,to 75 (A's .shr (.tmp 74) (.const (.int .u64 1))),ix' 5 76 67 75,fl' 1 77 76,ld' O 78 77,mv' 8 78]
def ZjJ:RL' H:=[mv' 79 8,to 80 (B'h .neq (.tmp 79) (.const (.int .i64 (-1))))]
def ZjK(O:HI H)(ro:Nat):RL' H:=[mv' 81 3,mv' 82 8,ix' 1 83 81 82,too (aSt O ro 1 (.tmp 83) (.const (.bool true)))]
def ZjL:RL' H:=[mv' 62 7,ik' .add 63 62 1,mv' 7 63]
def ZjM:RL' H:=[mv' 84 3,mv' 2 84]
def G'R:RC' H:=λO P ro=>A'a (A'a (A'b ZjB) (cIf (.tmp 24) (A'f) (A'n 0))) (A'a (A'x 1 (A'a (A'b (ZjC O)) (A'a (A'b (ZjD O ro)) (A'b (ZjE O ro))))) (A'b ZjF))
def G'S:RC' H:=λO P ro=>A'a (A'a (A'b (ZjH O)) (cIf (.tmp 61) (A'f) (A'n 2))) (A'a (A'x 3 (A'a (A'b (ZjI O)) (A'a (A'b ZjJ) (cIf (.tmp 80) (A'b (ZjK O ro)) (A'f))))) (A'b ZjL))
def V'm:RC' H:=λO P ro=>A'a (A'b Zjx) (A'a (A'b (Zjy O)) (A'a (A'b (Zjz O ro)) (A'a (A'a (A'b (ZjA O)) (A'x 0 (A'Y (G'R O P ro)))) (A'a (A'a (A'b ZjG) (A'x 2 (A'Y (G'S O P ro)))) (A'a (A'b ZjM) (A'B))))))
theorem Q'e:FN' 235 @V'm [.tmp 2] Tryz.f235:=f'n Tryz.func235
def ZjN:RL' H:=[mk' 2 0]
def ZjO(O:HI H):RL' H:=[mv' 4 2,mv' 5 0,nl' 6 5,fl' 4 7 6,ld' O 8 7,ln' 9 8,ia' .lss 10 4 9]
def ZjP(O:HI H)(ro:Nat):RL' H:=[mv' 13 0,nl' 14 13,fl' 4 15 14,ld' O 16 15,mv' 17 2,mv' 18 0,nl' 19 18,fl' 4 20 19,ld' O 21 20,mv' 22 2,ix' 1 23 21 22,ld' O 24 23,to 25 (A'm 1 (.tmp 24) none (some (.const (.int .i64 0)))),ix' 1 26 16 17,too (aSt O ro 1 (.tmp 26) (.tmp 25))]
def ZjQ:RL' H:=[mv' 11 2,ik' .add 12 11 1,mv' 2 12]
def ZjR:RL' H:=[mk' 3 0]
def ZjS(O:HI H):RL' H:=[mv' 27 3,mv' 28 0,nl' 29 28,fl' 1 30 29,ld' O 31 30,ln' 32 31,ia' .lss 33 27 32]
def ZjT(O:HI H):RL' H:=[mv' 36 0,nl' 37 36,fl' 1 38 37,ld' O 39 38,mv' 40 3,ix' 4 41 39 40,fl' 0 42 41,ld' O 43 42,ln' 44 43,ik' .gtr 45 44 1]
def ZjU:RL' H:=[mv' 46 0,mv' 47 3,to 48 (A'e 219 [.tmp 46,.tmp 47])]
def ZjV:RL' H:=[mv' 34 3,ik' .add 35 34 1,mv' 3 35]
def G'T:RC' H:=λO P ro=>A'a (A'a (A'b (ZjO O)) (cIf (.tmp 10) (A'f) (A'n 0))) (A'a (A'x 1 (A'b (ZjP O ro))) (A'b ZjQ))
def G'U:RC' H:=λO P ro=>A'a (A'a (A'b (ZjS O)) (cIf (.tmp 33) (A'f) (A'n 2))) (A'a (A'x 3 (A'a (A'b (ZjT O)) (cIf (.tmp 45) (A'b ZjU) (A'f)))) (A'b ZjV))
def V'n:RC' H:=λO P ro=>A'a (A'a (A'b ZjN) (A'x 0 (A'Y (G'T O P ro)))) (A'a (A'b ZjR) (A'x 2 (A'Y (G'U O P ro))))
theorem Q'f:FN' 236 @V'n [] Tryz.f236:=f'n Tryz.func236
def ZjW(O:HI H):RL' H:=[to 2 (B'o O (List.replicate 193 (.int .i64 0)))]
def ZjX(O:HI H):RL' H:=[to 3 (B'o O (List.replicate 193 (.int .i64 0)))]
def ZjY(O:HI H):RL' H:=[mv' 7 0,nl' 8 7,fl' 2 9 8,ld' O 10 9,mv' 4 10]
def ZjZ(O:HI H):RL' H:=[mv' 11 4,mv' 12 0,nl' 13 12,fl' 1 14 13,ld' O 15 14,ln' 16 15,ia' .lss 17 11 16]
def Zj0(O:HI H)(ro:Nat):RL' H:=[mv' 20 0,nl' 21 20,fl' 1 22 21,ld' O 23 22,mv' 24 4,ix' 4 25 23 24,fl' 3 26 25,ld' O 27 26,to 28 (A'k 193 1 (.tmp 3) (.tmp 27)),ld' O 29 28,ik' .add 30 29 1,to 31 (A'k 193 1 (.tmp 3) (.tmp 27)),too (aSt O ro 1 (.tmp 31) (.tmp 30))]
def Zj1:RL' H:=[mv' 18 4,ik' .add 19 18 1,mv' 4 19]
def Zj2(O:HI H):RL' H:=[mv' 32 0,nl' 33 32,fl' 3 34 33,ld' O 35 34,ik' .quo 36 35 2,mv' 5 36]
def Zj3:RL' H:=[mk' 6 0]
def Zj4:RL' H:=[mv' 37 6,ik' .lss 38 37 193]
def Zj5(O:HI H):RL' H:=[mv' 41 6,to 42 (A'k 193 1 (.tmp 3) (.tmp 41)),ld' O 43 42,mv' 44 5,ia' .gtr 45 43 44]
def Zj6(O:HI H)(ro:Nat):RL' H:=[mv' 46 6,mv' 47 5,to 48 (A'k 193 1 (.tmp 3) (.tmp 46)),too (aSt O ro 1 (.tmp 48) (.tmp 47))]
def Zj7(O:HI H):RL' H:=[mv' 49 5,mv' 50 6,to 51 (A'k 193 1 (.tmp 3) (.tmp 50)),ld' O 52 51,ia' .sub 53 49 52,mv' 5 53]
def Zj8:RL' H:=[mv' 39 6,ik' .add 40 39 1,mv' 6 40]
def Zj9(O:HI H)(ro:Nat):RL' H:=[to 54 (B's O 193 (.tmp 3)),too (aSt O ro 193 (.tmp 2) (.tmp 54))]
def I's:RC' H:=λO P ro=>A'a (A'a (A'b (ZjZ O)) (cIf (.tmp 17) (A'f) (A'n 0))) (A'a (A'x 1 (A'b (Zj0 O ro))) (A'b Zj1))
def G'V:RC' H:=λO P ro=>A'a (A'a (A'b Zj4) (cIf (.tmp 38) (A'f) (A'n 2))) (A'a (A'x 3 (A'a (A'a (A'b (Zj5 O)) (cIf (.tmp 45) (A'b (Zj6 O ro)) (A'f))) (A'b (Zj7 O)))) (A'b Zj8))
def V'o:RC' H:=λO P ro=>A'a (A'b (ZjW O)) (A'a (A'b (ZjX O)) (A'a (A'a (A'b (ZjY O)) (A'x 0 (A'Y (I's O P ro)))) (A'a (A'b (Zj2 O)) (A'a (A'a (A'b Zj3) (A'x 2 (A'Y (G'V O P ro)))) (A'a (A'b (Zj9 O ro)) (A'B))))))
theorem Q'g:FN' 239 @V'o [.cell 2 233] Tryz.f239:=f'n Tryz.func239
end
end Go.Proofs.YtimdkminagnhgaaGreatDoor
