import Derived.Test.YtimdkminagnhgaaGreatDoorQ04
import Derived.Test.YtimdkminagnhgaaGreatDoorProg
import Derived.KernelRfl
import Derived.Test.YtimdkminagnhgaaGreatDoorQ05
set_option linter.all false
namespace Go.Proofs.YtimdkminagnhgaaGreatDoor
open Go.Vm Go.Proofs
set_option maxRecDepth 100000
section
variable {H:Type}
def Zka:RL' H:=[mk' 2 0]
def Zkb:RL' H:=[mv' 3 0,to 4 (A'r false (.tmp 3) (.const (.pointer none)))]
def Zkc:RL' H:=[mk' 2 0]
def Zkd(O:HI H):RL' H:=[mv' 5 0,nl' 6 5,fl' 0 7 6,ld' O 8 7,to 9 (B'h .add (.const (.int .i64 1)) (.tmp 8)),mv' 10 0,nl' 11 10,fl' 1 12 11,ld' O 13 12,ln' 14 13,ia' .add 15 9 14,mv' 16 0,nl' 17 16,fl' 2 18 17,ld' O 19 18,ln' 20 19,ia' .add 21 15 20,mv' 2 21]
def V'p:RC' H:=λO P ro=>A'a (A'b Zka) (A'a (A'a (A'b Zkb) (cIf (.tmp 4) (A'a (A'b Zkc) (A'B)) (A'f))) (A'a (A'b (Zkd O)) (A'B)))
theorem Q'C:FN' 103 @V'p [.tmp 2] Tryz.f103:=f'n Tryz.func103
def Zke:RL' H:=[mk' 4 0]
def Zkf(O:HI H):RL' H:=[mv' 5 0,nl' 6 5,fl' 0 7 6,ld' O 8 7,to 9 (B'h .add (.const (.int .i64 1)) (.tmp 8)),mv' 10 0,nl' 11 10,fl' 1 12 11,ld' O 13 12,ln' 14 13,ia' .add 15 9 14,mv' 16 1,ia' .add 17 15 16,to 18 (B'h .mul (.const (.int .i64 2)) (.tmp 17)),mv' 4 18]
def V'q:RC' H:=λO P ro=>A'a (A'b Zke) (A'a (A'b (Zkf O)) (A'B))
theorem Q'D:FN' 106 @V'q [.tmp 4] Tryz.f106:=f'n Tryz.func106
def Zkg:RL' H:=[mk' 4 0]
def Zkh(O:HI H):RL' H:=[mv' 5 0,nl' 6 5,fl' 0 7 6,ld' O 8 7,to 9 (B'h .add (.const (.int .i64 1)) (.tmp 8)),mv' 10 1,ia' .add 11 9 10,to 12 (B'h .mul (.const (.int .i64 2)) (.tmp 11)),mv' 4 12]
def V'r:RC' H:=λO P ro=>A'a (A'b Zkg) (A'a (A'b (Zkh O)) (A'B))
theorem Q'E:FN' 107 @V'r [.tmp 4] Tryz.f107:=f'n Tryz.func107
def Zki:RL' H:=[to 4 (A'h (.const (.bool false)))]
def Zkj:RL' H:=[mv' 7 0,to 8 (A'r false (.tmp 7) (.const (.pointer none)))]
def Zkk:RL' H:=[to 4 (A'h (.const (.bool false)))]
def Zkl:RL' H:=[mk' 5 0]
def Zkm(O:HI H):RL' H:=[mv' 9 5,mv' 10 0,nl' 11 10,fl' 1 12 11,ld' O 13 12,ln' 14 13,ia' .lss 15 9 14]
def Zkn(O:HI H):RL' H:=[mv' 18 0,nl' 19 18,fl' 1 20 19,ld' O 21 20,mv' 22 5,ix' 2 23 21 22,fl' 1 24 23,ld' O 25 24,mv' 6 25]
def Zko:RL' H:=[mv' 26 6,ik' .neq 27 26 2,mv' 28 27,A'd 28 true 29 (mv' 29 6),A'd 28 true 30 (mv' 30 1),A'd 28 true 31 (mv' 31 5),A'd 28 true 32 (to 32 (A's .shr (.tmp 30) (.tmp 31))),A'd 28 true 33 (ik' .and 33 32 1),A'd 28 true 34 (ia' .neq 34 29 33),to 35 (A'w (.tmp 28) (.tmp 34) (.const (.bool false)))]
def Zkp:RL' H:=[to 4 (A'h (.const (.bool false)))]
def Zkq:RL' H:=[mv' 16 5,ik' .add 17 16 1,mv' 5 17]
def Zkr:RL' H:=[to 4 (A'h (.const (.bool true)))]
def G'Y:RC' H:=λO P ro=>A'a (A'a (A'b (Zkm O)) (cIf (.tmp 15) (A'f) (A'n 0))) (A'a (A'x 1 (A'a (A'b (Zkn O)) (A'a (A'b Zko) (cIf (.tmp 35) (A'a (A'b Zkp) (A'B)) (A'f))))) (A'b Zkq))
def V's:RC' H:=λO P ro=>A'a (A'b Zki) (A'a (A'a (A'b Zkj) (cIf (.tmp 8) (A'a (A'b Zkk) (A'B)) (A'f))) (A'a (A'a (A'b Zkl) (A'x 0 (A'Y (G'Y O P ro)))) (A'a (A'b Zkr) (A'B))))
theorem Q'F:FN' 139 @V's [.tmp 4] Tryz.f139:=f'n Tryz.func139
def Zks:RL' H:=[to 2 (A'h (.const (.string { data:=#[] })))]
def Zkt:RL' H:=[mv' 3 0,to 4 (A'e 194 [.tmp 3]),mv' 2 4]
def V't:RC' H:=λO P ro=>A'a (A'b Zks) (A'a (A'b Zkt) (A'B))
theorem Q'G:FN' 166 @V't [.tmp 2] Tryz.f166:=f'n Tryz.func166
def Zku:RL' H:=[to 2 (A'h (.const (.string { data:=#[] })))]
def Zkv:RL' H:=[mv' 3 0,to 4 (A'e 204 [.tmp 3,.const (.int .i64 10)]),mv' 2 4]
def V'u:RC' H:=λO P ro=>A'a (A'b Zku) (A'a (A'b Zkv) (A'B))
theorem Q'H:FN' 194 @V'u [.tmp 2] Tryz.f194:=f'n Tryz.func194
end
end Go.Proofs.YtimdkminagnhgaaGreatDoor
namespace Go.Proofs.YtimdkminagnhgaaGreatDoor
open Go.Vm Go.Proofs
set_option maxRecDepth 100000
section
variable {H:Type}
def Zkw:RL' H:=[to 4 (A'h (.const (.pointer none)))]
def Zkx:RL' H:=[mv' 9 1,ik' .lss 10 9 0]
def Zky(O:HI H):RL' H:=[to 11 (A'p #[.int .i64 0,.int .i64 0] [(0,1),(1,1)] [(0,.const (.int .i64 13))]),to 12 (A'p #[.int .i64 0,.int .i64 0,.int .i64 0,.slice none 0 0,.int .i64 0,.slice none 0 0,.int .i64 0,.string ⟨#[]⟩] [(0,1),(1,2),(3,1),(4,1),(5,1),(6,1),(7,1)] [(1,.tmp 11)]),to 13 (B'y O (.tmp 12)),mv' 4 13]
def Zkz(O:HI H)(ro:Nat):RL' H:=[mv' 15 0,to 16 (A'e 25 [.tmp 15]),mv' 14 16,to 17 (B'O (.tmp 14) 0),to 18 (B'O (.tmp 14) 1),to 6 (B'o O [.int .i64 0,.int .i64 0]),mv' 5 17,too (aSt O ro 2 (.tmp 6) (.tmp 18))]
def ZkA(O:HI H):RL' H:=[fl' 0 19 6,ld' O 20 19,ik' .neq 21 20 0]
def ZkB(O:HI H):RL' H:=[to 22 (B's O 2 (.tmp 6)),to 23 (A'p #[.int .i64 0,.int .i64 0,.int .i64 0,.slice none 0 0,.int .i64 0,.slice none 0 0,.int .i64 0,.string ⟨#[]⟩] [(0,1),(1,2),(3,1),(4,1),(5,1),(6,1),(7,1)] [(1,.tmp 22)]),to 24 (B'y O (.tmp 23)),mv' 4 24]
def ZkC:RL' H:=[mv' 25 5,mv' 26 1,to 27 (A'e 26 [.tmp 25,.tmp 26]),mv' 7 27]
def ZkD:RL' H:=[mv' 28 7,to 29 (A'e 27 [.tmp 28]),mv' 8 29]
def ZkE:RL' H:=[mv' 30 7,mv' 31 8,to 32 (A'e 28 [.tmp 30,.tmp 31]),mv' 4 32]
def F16:RC' H:=λO P ro=>A'a (A'b Zkw) (A'a (A'a (A'b Zkx) (cIf (.tmp 10) (A'a (A'b (Zky O)) (A'B)) (A'f))) (A'a (A'b (Zkz O ro)) (A'a (A'a (A'b (ZkA O)) (cIf (.tmp 21) (A'a (A'b (ZkB O)) (A'B)) (A'f))) (A'a (A'b ZkC) (A'a (A'b ZkD) (A'a (A'b ZkE) (A'B)))))))
theorem S'V:FN' 16 @F16 [.tmp 4] Tryz.f16:=f'n Tryz.func16
def ZkF:RL' H:=[to 4 (A'h (.const (.pointer none)))]
def ZkG(O:HI H):RL' H:=[mv' 7 0,mv' 8 1,to 9 (A'p #[.pointer none,.int .i64 0,.int .i64 0,.slice none 0 0,.slice none 0 0,.slice none 0 0] [(0,1),(1,1),(2,1),(3,1),(4,1),(5,1)] [(0,.tmp 7),(1,.tmp 8)]),to 10 (B'y O (.tmp 9)),mv' 5 10]
def ZkH(O:HI H)(ro:Nat):RL' H:=[mv' 11 0,to 12 (A'e 54 [.tmp 11]),to 6 (B'o O [.pointer none,.slice none 0 0]),too (aSt O ro 2 (.tmp 6) (.tmp 12))]
def ZkI:RL' H:=[mv' 13 0,to 14 (A'e 55 [.tmp 6,.tmp 13])]
def ZkJ(O:HI H)(ro:Nat):RL' H:=[mv' 15 5,to 16 (B's O 2 (.tmp 6)),to 17 (A'y O 2 1 #[.pointer none,.slice none 0 0] [(0,.tmp 16)]),nl' 18 15,fl' 3 19 18,too (aSt O ro 1 (.tmp 19) (.tmp 17))]
def ZkK:RL' H:=[mv' 20 5,mv' 4 20]
def F26:RC' H:=λO P ro=>A'a (A'b ZkF) (A'a (A'b (ZkG O)) (A'a (A'b (ZkH O ro)) (A'a (A'b ZkI) (A'a (A'b (ZkJ O ro)) (A'a (A'b ZkK) (A'B))))))
theorem S'W:FN' 26 @F26 [.tmp 4] Tryz.f26:=f'n Tryz.func26
def ZkL:RL' H:=[mk' 2 0]
def ZkM:RL' H:=[mk' 3 0]
def ZkN:RL' H:=[mv' 4 3,ik' .eql 5 4 0]
def ZkO:RL' H:=[mv' 6 0,to 7 (A'e 56 [.tmp 6]),mv' 3 7]
def ZkP:RL' H:=[mv' 8 3,ik' .eql 9 8 0]
def ZkQ:RL' H:=[mv' 10 0,to 11 (A'e 57 [.tmp 10]),mv' 3 11]
def ZkR:RL' H:=[mv' 12 3,mv' 2 12]
def S'X:RC' H:=λO P ro=>A'a (A'a (A'b ZkN) (cIf (.tmp 5) (A'f) (A'n 0))) (A'x 1 (A'a (A'b ZkO) (A'a (A'b ZkP) (cIf (.tmp 9) (A'b ZkQ) (A'f)))))
def F27:RC' H:=λO P ro=>A'a (A'b ZkL) (A'a (A'b ZkM) (A'a (A'x 0 (A'Y (S'X O P ro))) (A'a (A'b ZkR) (A'B))))
theorem S'Y:FN' 27 @F27 [.tmp 2] Tryz.f27:=f'n Tryz.func27
def ZkS:RL' H:=[to 4 (A'h (.const (.pointer none)))]
def ZkT(O:HI H):RL' H:=[mv' 6 1,mv' 7 0,nl' 8 7,fl' 2 9 8,ld' O 10 9,to 11 (A'p #[.int .i64 0,.int .i64 0,.int .i64 0,.slice none 0 0,.int .i64 0,.slice none 0 0,.int .i64 0,.string ⟨#[]⟩] [(0,1),(1,2),(3,1),(4,1),(5,1),(6,1),(7,1)] [(0,.tmp 6),(5,.tmp 10)]),to 12 (B'y O (.tmp 11)),mv' 5 12]
def ZkU:RL' H:=[mv' 13 1]
def ZkV:RL' H:=[ik' .eql 15 13 1,mv' 14 15]
def ZkW(O:HI H)(ro:Nat):RL' H:=[mv' 16 5,mv' 17 0,nl' 18 17,fl' 5 19 18,ld' O 20 19,nl' 21 16,fl' 3 22 21,too (aSt O ro 1 (.tmp 22) (.tmp 20))]
def ZkX(O:HI H)(ro:Nat):RL' H:=[mv' 23 5,mv' 24 0,to 25 (A'e 58 [.tmp 24]),nl' 26 23,fl' 7 27 26,too (aSt O ro 1 (.tmp 27) (.tmp 25))]
def ZkY:RL' H:=[ik' .eql 29 13 2,mv' 28 29]
def ZkZ(O:HI H)(ro:Nat):RL' H:=[mv' 30 5,mv' 31 0,to 32 (A'e 59 [.tmp 31]),nl' 33 30,fl' 4 34 33,too (aSt O ro 1 (.tmp 34) (.tmp 32))]
def Zk0(O:HI H)(ro:Nat):RL' H:=[mv' 35 5,mv' 36 0,to 37 (A'e 60 [.tmp 36]),nl' 38 35,fl' 5 39 38,too (aSt O ro 1 (.tmp 39) (.tmp 37))]
def Zk1(O:HI H)(ro:Nat):RL' H:=[mv' 40 5,mv' 41 0,to 42 (A'e 61 [.tmp 41]),nl' 43 40,fl' 7 44 43,too (aSt O ro 1 (.tmp 44) (.tmp 42))]
def Zk2:RL' H:=[ik' .eql 46 13 3,mv' 45 46]
def Zk3(O:HI H)(ro:Nat):RL' H:=[mv' 47 5,nl' 48 47,fl' 7 49 48,too (aSt O ro 1 (.tmp 49) (.const (.string { data:=#[50,10,98,48,10,46,10] })))]
def Zk4:RL' H:=[mv' 50 5,mv' 4 50]
def F28:RC' H:=λO P ro=>A'a (A'b ZkS) (A'a (A'b (ZkT O)) (A'a (A'a (A'b ZkU) (A'x 0 (A'a (A'b ZkV) (cIf (.tmp 14) (A'a (A'b (ZkW O ro)) (A'b (ZkX O ro))) (A'a (A'b ZkY) (cIf (.tmp 28) (A'a (A'b (ZkZ O ro)) (A'a (A'b (Zk0 O ro)) (A'b (Zk1 O ro)))) (A'a (A'b Zk2) (cIf (.tmp 45) (A'b (Zk3 O ro)) (A'f))))))))) (A'a (A'b Zk4) (A'B))))
theorem K'T:FN' 28 @F28 [.tmp 4] Tryz.f28:=f'n Tryz.func28
def Zk5(O:HI H):RL' H:=[to 2 (B'o O [.pointer none,.slice none 0 0])]
def Zk6:RL' H:=[to 8 (A'e 81 []),mv' 3 8]
def Zk7:RL' H:=[mk' 4 0]
def Zk8:RL' H:=[mv' 9 4,mv' 10 0,to 11 (A'e 103 [.tmp 10]),ia' .lss 12 9 11]
def Zk9(O:HI H):RL' H:=[mv' 15 3,mv' 16 4,mv' 17 0,nl' 18 17,fl' 0 19 18,ld' O 20 19,mv' 21 0,nl' 22 21,fl' 1 23 22,ld' O 24 23,ln' 25 24,ia' .add 26 20 25,ia' .leq 27 16 26,to 28 (A'e 104 [.tmp 15,.tmp 27])]
def Zla:RL' H:=[mv' 13 4,ik' .add 14 13 1,mv' 4 14]
def Zlb(O:HI H):RL' H:=[mv' 29 3,to 30 (A'y O 1 1 #[.int .i64 0] [(0,.const (.int .i64 1))]),to 31 (A'e 105 [.tmp 29,.tmp 30])]
def Zlc:RL' H:=[mk' 5 0]
def Zld(O:HI H):RL' H:=[mv' 32 5,mv' 33 0,nl' 34 33,fl' 2 35 34,ld' O 36 35,ln' 37 36,ia' .lss 38 32 37]
def Zle:RL' H:=[mv' 41 0,mv' 42 5,to 43 (A'e 106 [.tmp 41,.tmp 42]),mv' 6 43]
def Zlf(O:HI H)(ro:Nat):RL' H:=[mv' 44 0,nl' 45 44,fl' 2 46 45,ld' O 47 46,mv' 48 5,ix' 2 49 47 48,to 50 (B's O 2 (.tmp 49)),to 7 (B'o O [.int .i64 0,.int .i64 0]),too (aSt O ro 2 (.tmp 7) (.tmp 50))]
def Zlg(O:HI H):RL' H:=[mv' 51 3,mv' 52 6,ik' .xor 53 52 1,fl' 0 54 7,ld' O 55 54,to 56 (A'y O 1 2 #[.int .i64 0] [(0,.tmp 53),(1,.tmp 55)]),to 57 (A'e 105 [.tmp 51,.tmp 56])]
def Zlh(O:HI H):RL' H:=[mv' 58 3,mv' 59 6,ik' .xor 60 59 1,fl' 1 61 7,ld' O 62 61,to 63 (A'y O 1 2 #[.int .i64 0] [(0,.tmp 60),(1,.tmp 62)]),to 64 (A'e 105 [.tmp 58,.tmp 63])]
def Zli(O:HI H):RL' H:=[mv' 65 3,mv' 66 6,fl' 0 67 7,ld' O 68 67,ik' .xor 69 68 1,fl' 1 70 7,ld' O 71 70,ik' .xor 72 71 1,to 73 (A'y O 1 3 #[.int .i64 0] [(0,.tmp 66),(1,.tmp 69),(2,.tmp 72)]),to 74 (A'e 105 [.tmp 65,.tmp 73])]
def Zlj:RL' H:=[mv' 39 5,ik' .add 40 39 1,mv' 5 40]
def Zlk(O:HI H)(ro:Nat):RL' H:=[mv' 75 3,to 76 (A'p #[.pointer none,.slice none 0 0] [(0,1),(1,1)] [(0,.tmp 75)]),too (aSt O ro 2 (.tmp 2) (.tmp 76))]
def N'j:RC' H:=λO P ro=>A'a (A'a (A'b Zk8) (cIf (.tmp 12) (A'f) (A'n 0))) (A'a (A'x 1 (A'b (Zk9 O))) (A'b Zla))
def N'k:RC' H:=λO P ro=>A'a (A'a (A'b (Zld O)) (cIf (.tmp 38) (A'f) (A'n 2))) (A'a (A'x 3 (A'a (A'b Zle) (A'a (A'b (Zlf O ro)) (A'a (A'b (Zlg O)) (A'a (A'b (Zlh O)) (A'b (Zli O))))))) (A'b Zlj))
def F54:RC' H:=λO P ro=>A'a (A'b (Zk5 O)) (A'a (A'b Zk6) (A'a (A'a (A'b Zk7) (A'x 0 (A'Y (N'j O P ro)))) (A'a (A'b (Zlb O)) (A'a (A'a (A'b Zlc) (A'x 2 (A'Y (N'k O P ro)))) (A'a (A'b (Zlk O ro)) (A'B))))))
theorem S'Z:FN' 54 @F54 [.cell 2 92] Tryz.f54:=f'n Tryz.func54
def Zll:RL' H:=[mk' 4 0]
def Zlm(O:HI H):RL' H:=[mv' 6 4,mv' 7 1,nl' 8 7,fl' 1 9 8,ld' O 10 9,ln' 11 10,ia' .lss 12 6 11]
def Zln:RL' H:=[mv' 15 1,mv' 16 4,to 17 (A'e 107 [.tmp 15,.tmp 16]),mv' 5 17]
def Zlo(O:HI H):RL' H:=[mv' 18 1,nl' 19 18,fl' 1 20 19,ld' O 21 20,mv' 22 4,ix' 2 23 21 22,fl' 1 24 23,ld' O 25 24]
def Zlp:RL' H:=[ik' .eql 27 25 0,mv' 26 27]
def Zlq(O:HI H):RL' H:=[mv' 28 0,nl' 29 28,fl' 0 30 29,ld' O 31 30,mv' 32 5,ik' .xor 33 32 1,to 34 (A'y O 1 1 #[.int .i64 0] [(0,.tmp 33)]),to 35 (A'e 105 [.tmp 31,.tmp 34])]
def Zlr:RL' H:=[ik' .eql 37 25 1,mv' 36 37]
def Zls(O:HI H):RL' H:=[mv' 38 0,nl' 39 38,fl' 0 40 39,ld' O 41 40,mv' 42 5,to 43 (A'y O 1 1 #[.int .i64 0] [(0,.tmp 42)]),to 44 (A'e 105 [.tmp 41,.tmp 43])]
def Zlt:RL' H:=[mv' 13 4,ik' .add 14 13 1,mv' 4 14]
def J'i:RC' H:=λO P ro=>A'a (A'a (A'b (Zlm O)) (cIf (.tmp 12) (A'f) (A'n 0))) (A'a (A'x 1 (A'a (A'b Zln) (A'a (A'b (Zlo O)) (A'x 2 (A'a (A'b Zlp) (cIf (.tmp 26) (A'b (Zlq O)) (A'a (A'b Zlr) (cIf (.tmp 36) (A'b (Zls O)) (A'f))))))))) (A'b Zlt))
def F55:RC' H:=λO P ro=>A'a (A'b Zll) (A'x 0 (A'Y (J'i O P ro)))
theorem S'0:FN' 55 @F55 [] Tryz.f55:=f'n Tryz.func55
def Zlu:RL' H:=[mk' 2 0]
def Zlv(O:HI H):RL' H:=[mv' 6 0,nl' 7 6,fl' 3 8 7,ld' O 9 8,ln' 10 9,ik' .sub 11 10 1,mv' 3 11]
def Zlw(O:HI H):RL' H:=[mv' 12 0,mv' 13 3,mv' 14 0,nl' 15 14,fl' 0 16 15,ld' O 17 16,nl' 18 17,fl' 3 19 18,ld' O 20 19,to 21 (A'y O 1 1 #[.int .i64 0] [(0,.tmp 20)]),to 22 (A'e 108 [.tmp 12,.tmp 13,.tmp 21]),mv' 4 22]
def Zlx:RL' H:=[mv' 23 4]
def Zly:RL' H:=[ik' .eql 25 23 3,mv' 24 25]
def Zlz:RL' H:=[mk' 2 3]
def ZlA:RL' H:=[ik' .eql 27 23 2,mv' 26 27]
def ZlB:RL' H:=[mk' 2 0]
def ZlC:RL' H:=[mv' 28 0,mv' 29 3,to 30 (A'e 109 [.tmp 28,.tmp 29])]
def ZlD:RL' H:=[mv' 31 0,to 32 (A'e 110 [.tmp 31]),mv' 5 32]
def ZlE:RL' H:=[mv' 33 5,ik' .neq 34 33 0]
def ZlF:RL' H:=[mv' 35 5,mv' 2 35]
def S'1:RC' H:=λO P ro=>A'x 1 (A'a (A'b (Zlw O)) (A'a (A'a (A'b Zlx) (A'x 2 (A'a (A'b Zly) (cIf (.tmp 24) (A'a (A'b Zlz) (A'B)) (A'a (A'b ZlA) (cIf (.tmp 26) (A'a (A'b ZlB) (A'B)) (A'f))))))) (A'a (A'b ZlC) (A'a (A'b ZlD) (A'a (A'b ZlE) (cIf (.tmp 34) (A'a (A'b ZlF) (A'B)) (A'f)))))))
def F56:RC' H:=λO P ro=>A'a (A'b Zlu) (A'a (A'b (Zlv O)) (A'x 0 (A'Y (S'1 O P ro))))
theorem S'2:FN' 56 @F56 [.tmp 2] Tryz.f56:=f'n Tryz.func56
def ZlG:RL' H:=[mk' 2 0]
def ZlH(O:HI H)(ro:Nat):RL' H:=[mv' 6 0,nl' 7 6,fl' 0 8 7,ld' O 9 8,to 10 (A'e 54 [.tmp 9]),to 3 (B'o O [.pointer none,.slice none 0 0]),too (aSt O ro 2 (.tmp 3) (.tmp 10))]
def ZlI(O:HI H)(ro:Nat):RL' H:=[mv' 11 0,mv' 12 0,nl' 13 12,fl' 3 14 13,ld' O 15 14,to 16 (B's O 2 (.tmp 3)),to 17 (A'y O 2 1 #[.pointer none,.slice none 0 0] [(0,.tmp 16)]),to 18 (B'p O ro 2 32 (.tmp 15) (.tmp 17)),nl' 19 11,fl' 3 20 19,too (aSt O ro 1 (.tmp 20) (.tmp 18))]
def ZlJ:RL' H:=[mk' 4 1]
def ZlK(O:HI H):RL' H:=[mv' 21 4,mv' 22 0,nl' 23 22,fl' 3 24 23,ld' O 25 24,ln' 26 25,ik' .sub 27 26 1,ia' .lss 28 21 27]
def ZlL:RL' H:=[mv' 31 0,mv' 32 4,to 33 (A'e 111 [.tmp 31,.tmp 32]),mv' 5 33]
def ZlM:RL' H:=[mv' 34 5]
def ZlN:RL' H:=[ik' .eql 36 34 3,mv' 35 36]
def ZlO:RL' H:=[mk' 2 3]
def ZlP:RL' H:=[ik' .eql 38 34 2,mv' 37 38]
def ZlQ(O:HI H)(ro:Nat):RL' H:=[mv' 39 0,mv' 40 0,mv' 41 4,to 42 (A'e 112 [.tmp 40,.tmp 41]),nl' 43 39,fl' 5 44 43,too (aSt O ro 1 (.tmp 44) (.tmp 42))]
def ZlR:RL' H:=[mk' 2 1]
def ZlS:RL' H:=[mv' 29 4,ik' .add 30 29 1,mv' 4 30]
def ZlT:RL' H:=[mk' 2 0]
def Q'I:RC' H:=λO P ro=>A'a (A'a (A'b (ZlK O)) (cIf (.tmp 28) (A'f) (A'n 0))) (A'a (A'x 1 (A'a (A'b ZlL) (A'a (A'b ZlM) (A'x 2 (A'a (A'b ZlN) (cIf (.tmp 35) (A'a (A'b ZlO) (A'B)) (A'a (A'b ZlP) (cIf (.tmp 37) (A'a (A'b (ZlQ O ro)) (A'a (A'b ZlR) (A'B))) (A'f))))))))) (A'b ZlS))
def F57:RC' H:=λO P ro=>A'a (A'b ZlG) (A'a (A'b (ZlH O ro)) (A'a (A'b (ZlI O ro)) (A'a (A'a (A'b ZlJ) (A'x 0 (A'Y (Q'I O P ro)))) (A'a (A'b ZlT) (A'B)))))
theorem S'3:FN' 57 @F57 [.tmp 2] Tryz.f57:=f'n Tryz.func57
def ZlU:RL' H:=[to 2 (A'h (.const (.string { data:=#[] })))]
def ZlV:RL' H:=[to 3 (A'h (.const (.string { data:=#[48,10,98,48,10] })))]
def ZlW:RL' H:=[mk' 4 0]
def ZlX(O:HI H):RL' H:=[mv' 5 4,mv' 6 0,nl' 7 6,fl' 5 8 7,ld' O 9 8,ln' 10 9,ia' .lss 11 5 10]
def ZlY(O:HI H):RL' H:=[mv' 14 3,mv' 15 0,nl' 16 15,fl' 5 17 16,ld' O 18 17,mv' 19 4,ix' 1 20 18 19,ld' O 21 20,to 22 (A'e 113 [.tmp 21]),to 23 (D'j .add (.tmp 14) (.tmp 22)),mv' 3 23]
def ZlZ:RL' H:=[mv' 12 4,ik' .add 13 12 1,mv' 4 13]
def Zl0:RL' H:=[mv' 24 3,to 25 (D'j .add (.tmp 24) (.const (.string { data:=#[46,10] }))),mv' 2 25]
def Q'J:RC' H:=λO P ro=>A'a (A'a (A'b (ZlX O)) (cIf (.tmp 11) (A'f) (A'n 0))) (A'a (A'x 1 (A'b (ZlY O))) (A'b ZlZ))
def F58:RC' H:=λO P ro=>A'a (A'b ZlU) (A'a (A'b ZlV) (A'a (A'a (A'b ZlW) (A'x 0 (A'Y (Q'J O P ro)))) (A'a (A'b Zl0) (A'B))))
theorem S'4:FN' 58 @F58 [.tmp 2] Tryz.f58:=f'n Tryz.func58
def Zl1:RL' H:=[mk' 2 0]
def Zl2(O:HI H):RL' H:=[mv' 3 0,nl' 4 3,fl' 4 5 4,ld' O 6 5,ln' 7 6,ik' .eql 8 7 0]
def Zl3:RL' H:=[mk' 2 0]
def Zl4(O:HI H):RL' H:=[mv' 9 0,nl' 10 9,fl' 4 11 10,ld' O 12 11,mv' 13 0,nl' 14 13,fl' 4 15 14,ld' O 16 15,ln' 17 16,ik' .sub 18 17 1,ix' 2 19 12 18,fl' 0 20 19,ld' O 21 20,mv' 2 21]
def F59:RC' H:=λO P ro=>A'a (A'b Zl1) (A'a (A'a (A'b (Zl2 O)) (cIf (.tmp 8) (A'a (A'b Zl3) (A'B)) (A'f))) (A'a (A'b (Zl4 O)) (A'B)))
theorem O'v:FN' 59 @F59 [.tmp 2] Tryz.f59:=f'n Tryz.func59
def Zl5:RL' H:=[to 2 (A'h (.const (.slice none 0 0)))]
def Zl6(O:HI H):RL' H:=[to 5 (A'y O 1 0 #[.int .i64 0] []),mv' 3 5]
def Zl7(O:HI H):RL' H:=[mv' 6 0,nl' 7 6,fl' 4 8 7,ld' O 9 8,ln' 10 9,ik' .sub 11 10 1,mv' 4 11]
def Zl8:RL' H:=[mv' 12 4,ik' .geq 13 12 0]
def Zl9(O:HI H)(ro:Nat):RL' H:=[mv' 16 3,mv' 17 0,nl' 18 17,fl' 4 19 18,ld' O 20 19,mv' 21 4,ix' 2 22 20 21,fl' 1 23 22,ld' O 24 23,to 25 (A'y O 1 1 #[.int .i64 0] [(0,.tmp 24)]),to 26 (B'p O ro 1 8 (.tmp 16) (.tmp 25)),mv' 3 26]
def Zma:RL' H:=[mv' 14 4,ik' .sub 15 14 1,mv' 4 15]
def Zmb:RL' H:=[mv' 27 3,mv' 2 27]
def Q'K:RC' H:=λO P ro=>A'a (A'a (A'b Zl8) (cIf (.tmp 13) (A'f) (A'n 0))) (A'a (A'x 1 (A'b (Zl9 O ro))) (A'b Zma))
def F60:RC' H:=λO P ro=>A'a (A'b Zl5) (A'a (A'b (Zl6 O)) (A'a (A'a (A'b (Zl7 O)) (A'x 0 (A'Y (Q'K O P ro)))) (A'a (A'b Zmb) (A'B))))
theorem S'5:FN' 60 @F60 [.tmp 2] Tryz.f60:=f'n Tryz.func60
def Zmc:RL' H:=[to 2 (A'h (.const (.string { data:=#[] })))]
def Zmd:RL' H:=[mv' 7 0,to 8 (A'e 59 [.tmp 7]),mv' 3 8]
def Zme:RL' H:=[mv' 9 0,to 10 (A'e 60 [.tmp 9]),mv' 4 10]
def Zmf(O:HI H):RL' H:=[mv' 11 3,mv' 12 0,nl' 13 12,fl' 0 14 13,ld' O 15 14,nl' 16 15,fl' 1 17 16,ld' O 18 17,ln' 19 18,to 20 (A'e 114 [.tmp 11,.tmp 19]),to 21 (D'j .add (.const (.string { data:=#[49,10,98,48,10] })) (.tmp 20)),mv' 5 21]
def Zmg:RL' H:=[mk' 6 0]
def Zmh:RL' H:=[mv' 22 6,mv' 23 4,ln' 24 23,ia' .lss 25 22 24]
def Zmi(O:HI H):RL' H:=[mv' 28 5,mv' 29 4,mv' 30 6,ix' 1 31 29 30,ld' O 32 31,mv' 33 0,nl' 34 33,fl' 0 35 34,ld' O 36 35,nl' 37 36,fl' 0 38 37,ld' O 39 38,to 40 (A'e 114 [.tmp 32,.tmp 39]),to 41 (D'j .add (.tmp 28) (.tmp 40)),mv' 5 41]
def Zmj:RL' H:=[mv' 26 6,ik' .add 27 26 1,mv' 6 27]
def Zmk:RL' H:=[mv' 42 5,to 43 (D'j .add (.tmp 42) (.const (.string { data:=#[46,10] }))),mv' 2 43]
def Q'L:RC' H:=λO P ro=>A'a (A'a (A'b Zmh) (cIf (.tmp 25) (A'f) (A'n 0))) (A'a (A'x 1 (A'b (Zmi O))) (A'b Zmj))
def F61:RC' H:=λO P ro=>A'a (A'b Zmc) (A'a (A'b Zmd) (A'a (A'b Zme) (A'a (A'b (Zmf O)) (A'a (A'a (A'b Zmg) (A'x 0 (A'Y (Q'L O P ro)))) (A'a (A'b Zmk) (A'B))))))
theorem S'6:FN' 61 @F61 [.tmp 2] Tryz.f61:=f'n Tryz.func61
def Zml:RL' H:=[mk' 6 0]
def Zmm(O:HI H):RL' H:=[mv' 10 0,nl' 11 10,fl' 3 12 11,ld' O 13 12,mv' 14 1,ix' 2 15 13 14,fl' 0 16 15,ld' O 17 16,mv' 7 17]
def Zmn:RL' H:=[mv' 18 7,to 19 (A'e 146 [.tmp 18]),mv' 8 19]
def Zmo(O:HI H):RL' H:=[mv' 20 7,mv' 21 2,mv' 22 0,nl' 23 22,fl' 1 24 23,ld' O 25 24,mv' 26 0,nl' 27 26,fl' 2 28 27,ld' O 29 28,ia' .sub 30 25 29,to 31 (A'e 160 [.tmp 20,.tmp 21,.tmp 30]),mv' 9 31]
def Zmp(O:HI H)(ro:Nat):RL' H:=[mv' 32 0,nl' 33 32,fl' 2 34 33,ld' O 35 34,mv' 36 7,to 37 (A'e 146 [.tmp 36]),mv' 38 8,ia' .sub 39 37 38,ia' .add 40 35 39,nl' 41 32,fl' 2 42 41,too (aSt O ro 1 (.tmp 42) (.tmp 40))]
def Zmq(O:HI H):RL' H:=[mv' 43 0,nl' 44 43,fl' 2 45 44,ld' O 46 45,mv' 47 0,nl' 48 47,fl' 1 49 48,ld' O 50 49,ia' .gtr 51 46 50]
def Zmr:RL' H:=[mk' 6 3]
def Zms:RL' H:=[mv' 52 9,mv' 6 52]
def V'v:RC' H:=λO P ro=>A'a (A'b Zml) (A'a (A'b (Zmm O)) (A'a (A'b Zmn) (A'a (A'b (Zmo O)) (A'a (A'b (Zmp O ro)) (A'a (A'a (A'b (Zmq O)) (cIf (.tmp 51) (A'a (A'b Zmr) (A'B)) (A'f))) (A'a (A'b Zms) (A'B)))))))
theorem Q'M:FN' 108 @V'v [.tmp 6] Tryz.f108:=f'n Tryz.func108
def Zmt(O:HI H)(ro:Nat):RL' H:=[mv' 5 0,nl' 6 5,fl' 3 7 6,ld' O 8 7,mv' 9 1,ix' 2 10 8 9,mv' 11 0,nl' 12 11,fl' 0 13 12,ld' O 14 13,to 15 (A'e 161 [.tmp 10,.tmp 14]),to 4 (B'o O [.int .i64 0,.int .i64 0]),too (aSt O ro 2 (.tmp 4) (.tmp 15))]
def Zmu(O:HI H)(ro:Nat):RL' H:=[mv' 16 0,mv' 17 0,nl' 18 17,fl' 4 19 18,ld' O 20 19,to 21 (B's O 2 (.tmp 4)),to 22 (A'y O 2 1 #[.int .i64 0,.int .i64 0] [(0,.tmp 21)]),to 23 (B'p O ro 2 16 (.tmp 20) (.tmp 22)),nl' 24 16,fl' 4 25 24,too (aSt O ro 1 (.tmp 25) (.tmp 23))]
def Zmv(O:HI H)(ro:Nat):RL' H:=[mv' 26 0,nl' 27 26,fl' 2 28 27,ld' O 29 28,ik' .add 30 29 1,nl' 31 26,fl' 2 32 31,too (aSt O ro 1 (.tmp 32) (.tmp 30))]
def V'w:RC' H:=λO P ro=>A'a (A'b (Zmt O ro)) (A'a (A'b (Zmu O ro)) (A'b (Zmv O ro)))
theorem Q'N:FN' 109 @V'w [] Tryz.f109:=f'n Tryz.func109
def Zmw:RL' H:=[mk' 2 0]
def Zmx(O:HI H):RL' H:=[mv' 10 0,nl' 11 10,fl' 4 12 11,ld' O 13 12,ln' 14 13,ik' .gtr 15 14 0]
def Zmy(O:HI H):RL' H:=[mv' 16 0,nl' 17 16,fl' 2 18 17,ld' O 19 18,mv' 20 0,nl' 21 20,fl' 1 22 21,ld' O 23 22,ia' .gtr 24 19 23]
def Zmz:RL' H:=[mk' 2 3]
def ZmA(O:HI H):RL' H:=[mv' 25 0,nl' 26 25,fl' 3 27 26,ld' O 28 27,ln' 29 28,mv' 30 0,nl' 31 30,fl' 4 32 31,ld' O 33 32,ln' 34 33,ia' .sub 35 29 34,mv' 3 35]
def ZmB(O:HI H):RL' H:=[mv' 36 0,nl' 37 36,fl' 4 38 37,ld' O 39 38,mv' 40 0,nl' 41 40,fl' 4 42 41,ld' O 43 42,ln' 44 43,ik' .sub 45 44 1,ix' 2 46 39 45,fl' 0 47 46,ld' O 48 47,mv' 4 48]
def ZmC(O:HI H):RL' H:=[mv' 49 3,ik' .leq 50 49 0,mv' 51 50,A'd 51 false 52 (mv' 52 0),A'd 51 false 53 (nl' 53 52),A'd 51 false 54 (fl' 0 54 53),A'd 51 false 55 (ld' O 55 54),A'd 51 false 56 (mv' 56 4),A'd 51 false 57 (to 57 (A'e 139 [.tmp 55,.tmp 56])),to 58 (A'w (.tmp 51) (.const (.bool true)) (.tmp 57))]
def ZmD:RL' H:=[mk' 2 2]
def ZmE(O:HI H):RL' H:=[mv' 59 0,nl' 60 59,fl' 0 61 60,ld' O 62 61,mv' 63 4,to 64 (A'e 162 [.tmp 62,.tmp 63]),mv' 5 64]
def ZmF(O:HI H):RL' H:=[mv' 65 0,nl' 66 65,fl' 0 67 66,ld' O 68 67,mv' 69 5,to 70 (A'e 163 [.tmp 68,.tmp 69]),mv' 6 70]
def ZmG:RL' H:=[mv' 71 0,mv' 72 3,ik' .sub 73 72 1,mv' 74 6,to 75 (A'e 108 [.tmp 71,.tmp 73,.tmp 74]),mv' 7 75]
def ZmH:RL' H:=[mv' 76 7]
def ZmI:RL' H:=[ik' .eql 78 76 3,mv' 77 78]
def ZmJ:RL' H:=[mk' 2 3]
def ZmK:RL' H:=[ik' .eql 80 76 1,mv' 79 80]
def ZmL:RL' H:=[mv' 81 0,mv' 82 3,ik' .sub 83 82 1,to 84 (A'e 109 [.tmp 81,.tmp 83])]
def ZmM:RL' H:=[ik' .eql 86 76 2,mv' 85 86]
def ZmN(O:HI H):RL' H:=[mv' 87 0,nl' 88 87,fl' 3 89 88,ld' O 90 89,mv' 91 3,ik' .sub 92 91 1,ix' 2 93 90 92,fl' 0 94 93,ld' O 95 94,to 96 (A'e 145 [.tmp 95]),mv' 8 96]
def ZmO(O:HI H):RL' H:=[mv' 97 0,nl' 98 97,fl' 0 99 98,ld' O 100 99,mv' 101 5,mv' 102 8,to 103 (A'e 164 [.tmp 100,.tmp 101,.tmp 102]),mv' 9 103]
def ZmP:RL' H:=[mv' 104 0,mv' 105 3,mv' 106 9,to 107 (A'e 165 [.tmp 104,.tmp 105,.tmp 106])]
def ZmQ(O:HI H)(ro:Nat):RL' H:=[mv' 108 0,mv' 109 0,nl' 110 109,fl' 4 111 110,ld' O 112 111,mv' 113 0,nl' 114 113,fl' 4 115 114,ld' O 116 115,ln' 117 116,ik' .sub 118 117 1,to 119 (A'm 2 (.tmp 112) none (some (.tmp 118))),nl' 120 108,fl' 4 121 120,too (aSt O ro 1 (.tmp 121) (.tmp 119))]
def ZmR:RL' H:=[mk' 2 0]
def K'U:RC' H:=λO P ro=>A'a (A'a (A'b (Zmx O)) (cIf (.tmp 15) (A'f) (A'n 0))) (A'x 1 (A'a (A'a (A'b (Zmy O)) (cIf (.tmp 24) (A'a (A'b Zmz) (A'B)) (A'f))) (A'a (A'b (ZmA O)) (A'a (A'b (ZmB O)) (A'a (A'a (A'b (ZmC O)) (cIf (.tmp 58) (A'a (A'b ZmD) (A'B)) (A'f))) (A'a (A'b (ZmE O)) (A'a (A'b (ZmF O)) (A'a (A'b ZmG) (A'a (A'b ZmH) (A'x 2 (A'a (A'b ZmI) (cIf (.tmp 77) (A'a (A'b ZmJ) (A'B)) (A'a (A'b ZmK) (cIf (.tmp 79) (A'b ZmL) (A'a (A'b ZmM) (cIf (.tmp 85) (A'a (A'b (ZmN O)) (A'a (A'b (ZmO O)) (A'a (A'b ZmP) (A'b (ZmQ O ro))))) (A'f)))))))))))))))))
def V'x:RC' H:=λO P ro=>A'a (A'b Zmw) (A'a (A'x 0 (A'Y (K'U O P ro))) (A'a (A'b ZmR) (A'B)))
theorem Q'O:FN' 110 @V'x [.tmp 2] Tryz.f110:=f'n Tryz.func110
def ZmS:RL' H:=[mk' 4 0]
def ZmT(O:HI H):RL' H:=[mv' 8 0,nl' 9 8,fl' 3 10 9,ld' O 11 10,mv' 12 1,ix' 2 13 11 12,fl' 1 14 13,ld' O 15 14,ln' 16 15,ik' .gtr 17 16 0]
def ZmU(O:HI H):RL' H:=[mv' 18 0,nl' 19 18,fl' 3 20 19,ld' O 21 20,mv' 22 1,ix' 2 23 21 22,fl' 1 24 23,ld' O 25 24,to 26 (B'C 1 (.tmp 25) (.const (.int .i64 0))),ld' O 27 26,mv' 5 27]
def ZmV(O:HI H):RL' H:=[mv' 28 0,nl' 29 28,fl' 0 30 29,ld' O 31 30,mv' 32 5,to 33 (A'e 163 [.tmp 31,.tmp 32]),mv' 6 33]
def ZmW:RL' H:=[mv' 34 0,mv' 35 1,mv' 36 6,to 37 (A'e 108 [.tmp 34,.tmp 35,.tmp 36]),mv' 7 37]
def ZmX:RL' H:=[mv' 38 7,ik' .neq 39 38 2]
def ZmY:RL' H:=[mv' 40 7,mv' 4 40]
def ZmZ:RL' H:=[mv' 41 0,mv' 42 1,ik' .add 43 42 1,mv' 44 5,to 45 (A'e 165 [.tmp 41,.tmp 43,.tmp 44])]
def Zm0:RL' H:=[mk' 4 2]
def K'V:RC' H:=λO P ro=>A'a (A'a (A'b (ZmT O)) (cIf (.tmp 17) (A'f) (A'n 0))) (A'x 1 (A'a (A'b (ZmU O)) (A'a (A'b (ZmV O)) (A'a (A'b ZmW) (A'a (A'a (A'b ZmX) (cIf (.tmp 39) (A'a (A'b ZmY) (A'B)) (A'f))) (A'b ZmZ))))))
def V'y:RC' H:=λO P ro=>A'a (A'b ZmS) (A'a (A'x 0 (A'Y (K'V O P ro))) (A'a (A'b Zm0) (A'B)))
theorem Q'P:FN' 111 @V'y [.tmp 4] Tryz.f111:=f'n Tryz.func111
def Zm1:RL' H:=[to 4 (A'h (.const (.slice none 0 0)))]
def Zm2(O:HI H):RL' H:=[to 7 (A'y O 1 0 #[.slice none 0 0] []),mv' 5 7]
def Zm3:RL' H:=[mv' 8 1,ik' .add 9 8 1,mv' 6 9]
def Zm4(O:HI H):RL' H:=[mv' 10 6,mv' 11 0,nl' 12 11,fl' 3 13 12,ld' O 14 13,ln' 15 14,ia' .lss 16 10 15]
def Zm5(O:HI H)(ro:Nat):RL' H:=[mv' 19 5,mv' 20 0,nl' 21 20,fl' 3 22 21,ld' O 23 22,mv' 24 6,ix' 2 25 23 24,fl' 1 26 25,ld' O 27 26,to 28 (B'p O ro 1 24 (.tmp 19) (.tmp 27)),mv' 5 28]
def Zm6:RL' H:=[mv' 17 6,ik' .add 18 17 1,mv' 6 18]
def Zm7:RL' H:=[mv' 29 5,mv' 4 29]
def K'W:RC' H:=λO P ro=>A'a (A'a (A'b (Zm4 O)) (cIf (.tmp 16) (A'f) (A'n 0))) (A'a (A'x 1 (A'b (Zm5 O ro))) (A'b Zm6))
def V'z:RC' H:=λO P ro=>A'a (A'b Zm1) (A'a (A'b (Zm2 O)) (A'a (A'a (A'b Zm3) (A'x 0 (A'Y (K'W O P ro)))) (A'a (A'b Zm7) (A'B))))
theorem Q'Q:FN' 112 @V'z [.tmp 4] Tryz.f112:=f'n Tryz.func112
def Zm8:RL' H:=[to 2 (A'h (.const (.string { data:=#[] })))]
def Zm9:RL' H:=[to 3 (A'h (.const (.string { data:=#[] })))]
def Zna:RL' H:=[mk' 4 0]
def Znb:RL' H:=[mv' 5 4,mv' 6 0,ln' 7 6,ia' .lss 8 5 7]
def Znc:RL' H:=[mv' 11 4,ik' .gtr 12 11 0]
def Znd:RL' H:=[mv' 13 3,to 14 (D'j .add (.tmp 13) (.const (.string { data:=#[32] }))),mv' 3 14]
def Zne(O:HI H):RL' H:=[mv' 15 0,mv' 16 4,ix' 1 17 15 16,ld' O 18 17,ik' .and 19 18 1,ik' .eql 20 19 1]
def Znf:RL' H:=[mv' 21 3,to 22 (D'j .add (.tmp 21) (.const (.string { data:=#[45] }))),mv' 3 22]
def Zng(O:HI H):RL' H:=[mv' 23 3,mv' 24 0,mv' 25 4,ix' 1 26 24 25,ld' O 27 26,to 28 (A's .shr (.tmp 27) (.const (.int .u64 1))),to 29 (A'e 166 [.tmp 28]),to 30 (D'j .add (.const (.string { data:=#[108] })) (.tmp 29)),to 31 (D'j .add (.tmp 23) (.tmp 30)),mv' 3 31]
def Znh:RL' H:=[mv' 9 4,ik' .add 10 9 1,mv' 4 10]
def Zni:RL' H:=[mv' 32 3,to 33 (D'j .add (.tmp 32) (.const (.string { data:=#[10] }))),mv' 2 33]
def O'w:RC' H:=λO P ro=>A'a (A'a (A'b Znb) (cIf (.tmp 8) (A'f) (A'n 0))) (A'a (A'x 1 (A'a (A'a (A'b Znc) (cIf (.tmp 12) (A'b Znd) (A'f))) (A'a (A'a (A'b (Zne O)) (cIf (.tmp 20) (A'b Znf) (A'f))) (A'b (Zng O))))) (A'b Znh))
def V'A:RC' H:=λO P ro=>A'a (A'b Zm8) (A'a (A'b Zm9) (A'a (A'a (A'b Zna) (A'x 0 (A'Y (O'w O P ro)))) (A'a (A'b Zni) (A'B))))
theorem Q'R:FN' 113 @V'A [.tmp 2] Tryz.f113:=f'n Tryz.func113
def Znj:RL' H:=[to 4 (A'h (.const (.string { data:=#[] })))]
def Znk:RL' H:=[to 5 (A'h (.const (.string { data:=#[] })))]
def Znl:RL' H:=[mk' 6 0]
def Znm:RL' H:=[mv' 7 6,mv' 8 1,ia' .lss 9 7 8]
def Znn:RL' H:=[mv' 12 5,mv' 13 0,mv' 14 6,to 15 (A's .shr (.tmp 13) (.tmp 14)),ik' .and 16 15 1,to 17 (A'e 166 [.tmp 16]),to 18 (D'j .add (.tmp 12) (.tmp 17)),mv' 5 18]
def Zno:RL' H:=[mv' 10 6,ik' .add 11 10 1,mv' 6 11]
def Znp:RL' H:=[mv' 19 5,to 20 (D'j .add (.tmp 19) (.const (.string { data:=#[10] }))),mv' 4 20]
def K'X:RC' H:=λO P ro=>A'a (A'a (A'b Znm) (cIf (.tmp 9) (A'f) (A'n 0))) (A'a (A'x 1 (A'b Znn)) (A'b Zno))
def V'B:RC' H:=λO P ro=>A'a (A'b Znj) (A'a (A'b Znk) (A'a (A'a (A'b Znl) (A'x 0 (A'Y (K'X O P ro)))) (A'a (A'b Znp) (A'B))))
theorem Q'S:FN' 114 @V'B [.tmp 4] Tryz.f114:=f'n Tryz.func114
def Znq(O:HI H):RL' H:=[to 4 (B'o O [.int .i64 0,.int .i64 0])]
def Znr(O:HI H):RL' H:=[mv' 7 0,mv' 8 1,nl' 9 8,fl' 0 10 9,ld' O 11 10,to 12 (A'e 189 [.tmp 7,.const (.int .i64 1),.tmp 11]),mv' 5 12]
def Zns(O:HI H):RL' H:=[mv' 13 0,mv' 14 1,nl' 15 14,fl' 0 16 15,ld' O 17 16,to 18 (B'h .add (.const (.int .i64 1)) (.tmp 17)),mv' 19 1,nl' 20 19,fl' 1 21 20,ld' O 22 21,ln' 23 22,to 24 (A'e 189 [.tmp 13,.tmp 18,.tmp 23]),mv' 6 24]
def Znt(O:HI H)(ro:Nat):RL' H:=[mv' 25 6,mv' 26 5,to 27 (A'p #[.int .i64 0,.int .i64 0] [(0,1),(1,1)] [(0,.tmp 25),(1,.tmp 26)]),too (aSt O ro 2 (.tmp 4) (.tmp 27))]
def V'C:RC' H:=λO P ro=>A'a (A'b (Znq O)) (A'a (A'b (Znr O)) (A'a (A'b (Zns O)) (A'a (A'b (Znt O ro)) (A'B))))
theorem Q'T:FN' 161 @V'C [.cell 4 159] Tryz.f161:=f'n Tryz.func161
def Znu:RL' H:=[to 4 (A'h (.const (.slice none 0 0)))]
def Znv(O:HI H):RL' H:=[to 7 (A'y O 1 0 #[.int .i64 0] []),mv' 5 7]
def Znw:RL' H:=[mk' 6 0]
def Znx(O:HI H):RL' H:=[mv' 8 6,mv' 9 0,nl' 10 9,fl' 1 11 10,ld' O 12 11,ln' 13 12,ia' .lss 14 8 13]
def Zny(O:HI H)(ro:Nat):RL' H:=[mv' 17 5,mv' 18 6,to 19 (B'h .mul (.const (.int .i64 2)) (.tmp 18)),mv' 20 1,mv' 21 6,to 22 (A's .shr (.tmp 20) (.tmp 21)),ik' .and 23 22 1,ia' .add 24 19 23,to 25 (A'y O 1 1 #[.int .i64 0] [(0,.tmp 24)]),to 26 (B'p O ro 1 8 (.tmp 17) (.tmp 25)),mv' 5 26]
def Znz:RL' H:=[mv' 15 6,ik' .add 16 15 1,mv' 6 16]
def ZnA:RL' H:=[mv' 27 5,mv' 4 27]
def K'Y:RC' H:=λO P ro=>A'a (A'a (A'b (Znx O)) (cIf (.tmp 14) (A'f) (A'n 0))) (A'a (A'x 1 (A'b (Zny O ro))) (A'b Znz))
def V'D:RC' H:=λO P ro=>A'a (A'b Znu) (A'a (A'b (Znv O)) (A'a (A'a (A'b Znw) (A'x 0 (A'Y (K'Y O P ro)))) (A'a (A'b ZnA) (A'B))))
theorem Q'U:FN' 162 @V'D [.tmp 4] Tryz.f162:=f'n Tryz.func162
def ZnB:RL' H:=[to 4 (A'h (.const (.slice none 0 0)))]
def ZnC(O:HI H):RL' H:=[to 8 (A'y O 1 0 #[.int .i64 0] []),mv' 5 8]
def ZnD:RL' H:=[mk' 6 0]
def ZnE:RL' H:=[mv' 9 6,mv' 10 1,ln' 11 10,ia' .lss 12 9 11]
def ZnF(O:HI H):RL' H:=[mv' 15 0,nl' 16 15,fl' 1 17 16,ld' O 18 17,mv' 19 1,mv' 20 6,ix' 1 21 19 20,ld' O 22 21,to 23 (A's .shr (.tmp 22) (.const (.int .u64 1))),ix' 2 24 18 23,fl' 0 25 24,ld' O 26 25,mv' 7 26]
def ZnG(O:HI H)(ro:Nat):RL' H:=[mv' 27 5,mv' 28 7,ik' .xor 29 28 1,mv' 30 1,mv' 31 6,ix' 1 32 30 31,ld' O 33 32,ik' .and 34 33 1,ia' .xor 35 29 34,to 36 (A'y O 1 1 #[.int .i64 0] [(0,.tmp 35)]),to 37 (B'p O ro 1 8 (.tmp 27) (.tmp 36)),mv' 5 37]
def ZnH:RL' H:=[mv' 13 6,ik' .add 14 13 1,mv' 6 14]
def ZnI:RL' H:=[mv' 38 5,mv' 4 38]
def K'Z:RC' H:=λO P ro=>A'a (A'a (A'b ZnE) (cIf (.tmp 12) (A'f) (A'n 0))) (A'a (A'x 1 (A'a (A'b (ZnF O)) (A'b (ZnG O ro)))) (A'b ZnH))
def V'E:RC' H:=λO P ro=>A'a (A'b ZnB) (A'a (A'b (ZnC O)) (A'a (A'a (A'b ZnD) (A'x 0 (A'Y (K'Z O P ro)))) (A'a (A'b ZnI) (A'B))))
theorem Q'V:FN' 163 @V'E [.tmp 4] Tryz.f163:=f'n Tryz.func163
def ZnJ:RL' H:=[to 6 (A'h (.const (.slice none 0 0)))]
def ZnK:RL' H:=[mv' 13 0,mv' 14 1,to 15 (A'e 163 [.tmp 13,.tmp 14]),mv' 7 15]
def ZnL:RL' H:=[mv' 16 7,mv' 17 2,to 18 (A'e 190 [.tmp 16,.tmp 17]),mv' 8 18]
def ZnM:RL' H:=[to 9 (A'h (.const (.bool true)))]
def ZnN:RL' H:=[mk' 10 0]
def ZnO:RL' H:=[mv' 19 10,mv' 20 1,ln' 21 20,ia' .lss 22 19 21]
def ZnP(O:HI H):RL' H:=[mv' 25 8,mv' 26 10,ix' 1 27 25 26,ld' O 28 27,mv' 29 28,A'd 29 true 30 (mv' 30 0),A'd 29 true 31 (mv' 31 1),A'd 29 true 32 (mv' 32 10),A'd 29 true 33 (ix' 1 33 31 32),A'd 29 true 34 (ld' O 34 33),A'd 29 true 35 (to 35 (A'e 191 [.tmp 30,.tmp 34])),to 36 (A'w (.tmp 29) (.tmp 35) (.const (.bool false)))]
def ZnQ:RL' H:=[to 9 (A'h (.const (.bool false)))]
def ZnR:RL' H:=[mv' 23 10,ik' .add 24 23 1,mv' 10 24]
def ZnS(O:HI H):RL' H:=[to 37 (A'y O 1 0 #[.int .i64 0] []),mv' 11 37]
def ZnT:RL' H:=[mk' 12 0]
def ZnU:RL' H:=[mv' 38 12,mv' 39 1,ln' 40 39,ia' .lss 41 38 40]
def ZnV(O:HI H):RL' H:=[mv' 44 8,mv' 45 12,ix' 1 46 44 45,ld' O 47 46,to 48 (aUn .not (.tmp 47)),mv' 49 48,A'd 49 true 50 (mv' 50 9),to 51 (A'w (.tmp 49) (.tmp 50) (.const (.bool false))),mv' 52 51,A'd 52 true 53 (mv' 53 0),A'd 52 true 54 (mv' 54 1),A'd 52 true 55 (mv' 55 12),A'd 52 true 56 (ix' 1 56 54 55),A'd 52 true 57 (ld' O 57 56),A'd 52 true 58 (to 58 (A'e 191 [.tmp 53,.tmp 57])),to 59 (A'w (.tmp 52) (.tmp 58) (.const (.bool false)))]
def ZnW(O:HI H)(ro:Nat):RL' H:=[mv' 60 8,mv' 61 12,ix' 1 62 60 61,too (aSt O ro 1 (.tmp 62) (.const (.bool true)))]
def ZnX:RL' H:=[to 9 (A'h (.const (.bool false)))]
def ZnY(O:HI H):RL' H:=[mv' 63 8,mv' 64 12,ix' 1 65 63 64,ld' O 66 65]
def ZnZ(O:HI H)(ro:Nat):RL' H:=[mv' 67 11,mv' 68 1,mv' 69 12,ix' 1 70 68 69,ld' O 71 70,to 72 (A'y O 1 1 #[.int .i64 0] [(0,.tmp 71)]),to 73 (B'p O ro 1 8 (.tmp 67) (.tmp 72)),mv' 11 73]
def Zn0:RL' H:=[mv' 42 12,ik' .add 43 42 1,mv' 12 43]
def Zn1:RL' H:=[mv' 74 11,mv' 6 74]
def F'N:RC' H:=λO P ro=>A'a (A'a (A'b ZnO) (cIf (.tmp 22) (A'f) (A'n 0))) (A'a (A'x 1 (A'a (A'b (ZnP O)) (cIf (.tmp 36) (A'b ZnQ) (A'f)))) (A'b ZnR))
def F'd:RC' H:=λO P ro=>A'a (A'a (A'b ZnU) (cIf (.tmp 41) (A'f) (A'n 2))) (A'a (A'x 3 (A'a (A'a (A'b (ZnV O)) (cIf (.tmp 59) (A'a (A'b (ZnW O ro)) (A'b ZnX)) (A'f))) (A'a (A'b (ZnY O)) (cIf (.tmp 66) (A'b (ZnZ O ro)) (A'f))))) (A'b Zn0))
def V'F:RC' H:=λO P ro=>A'a (A'b ZnJ) (A'a (A'b ZnK) (A'a (A'b ZnL) (A'a (A'b ZnM) (A'a (A'a (A'b ZnN) (A'x 0 (A'Y (F'N O P ro)))) (A'a (A'b (ZnS O)) (A'a (A'a (A'b ZnT) (A'x 2 (A'Y (F'd O P ro)))) (A'a (A'b Zn1) (A'B))))))))
theorem Q'W:FN' 164 @V'F [.tmp 6] Tryz.f164:=f'n Tryz.func164
def Zn2:RL' H:=[mv' 8 1,mv' 6 8]
def Zn3:RL' H:=[mv' 9 6,ik' .gtr 10 9 0]
def Zn4(O:HI H):RL' H:=[mv' 13 0,nl' 14 13,fl' 3 15 14,ld' O 16 15,mv' 17 6,ix' 2 18 16 17,mv' 19 2,to 20 (A'e 192 [.tmp 18,.tmp 19]),mv' 7 20]
def Zn5:RL' H:=[mv' 21 7]
def Zn6(O:HI H):RL' H:=[mv' 22 0,nl' 23 22,fl' 3 24 23,ld' O 25 24,mv' 26 6,ix' 2 27 25 26,mv' 28 0,nl' 29 28,fl' 0 30 29,ld' O 31 30,mv' 32 2,to 33 (A'e 193 [.tmp 27,.tmp 31,.tmp 32])]
def Zn7:RL' H:=[mv' 11 6,ik' .sub 12 11 1,mv' 6 12]
def Zn8(O:HI H)(ro:Nat):RL' H:=[mv' 34 0,nl' 35 34,fl' 3 36 35,ld' O 37 36,mv' 38 1,mv' 39 0,nl' 40 39,fl' 3 41 40,ld' O 42 41,mv' 43 1,ix' 2 44 42 43,fl' 1 45 44,ld' O 46 45,mv' 47 2,to 48 (A'y O 1 1 #[.slice none 0 0] [(0,.tmp 47)]),to 49 (B'p O ro 1 24 (.tmp 46) (.tmp 48)),ix' 2 50 37 38,fl' 1 51 50,too (aSt O ro 1 (.tmp 51) (.tmp 49)),chk (.tmp 36) (.tmp 46)]
def K'0:RC' H:=λO P ro=>A'a (A'a (A'b Zn3) (cIf (.tmp 10) (A'f) (A'n 0))) (A'a (A'x 1 (A'a (A'b (Zn4 O)) (A'a (A'a (A'b Zn5) (cIf (.tmp 21) (A'n 0) (A'f))) (A'b (Zn6 O))))) (A'b Zn7))
def V'G:RC' H:=λO P ro=>A'a (A'a (A'b Zn2) (A'x 0 (A'Y (K'0 O P ro)))) (A'b (Zn8 O ro))
theorem Q'X:FN' 165 @V'G [] Tryz.f165:=f'n Tryz.func165
def Zn9:RL' H:=[mk' 6 0]
def Zoa:RL' H:=[mk' 7 0]
def Zob:RL' H:=[mk' 8 0]
def Zoc:RL' H:=[mv' 11 8,mv' 12 2,ia' .lss 13 11 12]
def Zod(O:HI H):RL' H:=[mv' 17 0,nl' 18 17,fl' 0 19 18,ld' O 20 19,mv' 21 1,mv' 22 8,ia' .add 23 21 22,to 24 (A'e 183 [.tmp 20,.tmp 23]),mv' 16 24,to 25 (B'O (.tmp 16) 0),to 26 (B'O (.tmp 16) 1),mv' 9 25,mv' 10 26]
def Zoe:RL' H:=[mv' 27 9]
def Zof:RL' H:=[mv' 28 7,mv' 29 8,to 30 (A's .shl (.const (.int .i64 1)) (.tmp 29)),ia' .or 31 28 30,mv' 7 31]
def Zog:RL' H:=[mv' 14 8,ik' .add 15 14 1,mv' 8 15]
def Zoh:RL' H:=[mv' 32 7,mv' 6 32]
def I'w:RC' H:=λO P ro=>A'a (A'a (A'b Zoc) (cIf (.tmp 13) (A'f) (A'n 0))) (A'a (A'x 1 (A'a (A'b (Zod O)) (A'a (A'b Zoe) (cIf (.tmp 27) (A'b Zof) (A'f))))) (A'b Zog))
def V'H:RC' H:=λO P ro=>A'a (A'b Zn9) (A'a (A'b Zoa) (A'a (A'a (A'b Zob) (A'x 0 (A'Y (I'w O P ro)))) (A'a (A'b Zoh) (A'B))))
theorem Q'Y:FN' 189 @V'H [.tmp 6] Tryz.f189:=f'n Tryz.func189
def Zoi:RL' H:=[to 4 (A'h (.const (.slice none 0 0)))]
def Zoj(O:HI H):RL' H:=[mv' 8 0,ln' 9 8,to 10 (B'd O 1 1 #[.bool false] (.tmp 9) (.tmp 9)),mv' 5 10]
def Zok:RL' H:=[mk' 6 0]
def Zol:RL' H:=[mv' 11 6,mv' 12 1,ln' 13 12,ia' .lss 14 11 13]
def Zom:RL' H:=[mk' 7 0]
def Zon:RL' H:=[mv' 17 7,mv' 18 0,ln' 19 18,ia' .lss 20 17 19]
def Zoo(O:HI H):RL' H:=[mv' 23 0,mv' 24 7,ix' 1 25 23 24,ld' O 26 25,mv' 27 1,mv' 28 6,ix' 1 29 27 28,ld' O 30 29,ia' .eql 31 26 30]
def Zop(O:HI H)(ro:Nat):RL' H:=[mv' 32 5,mv' 33 7,ix' 1 34 32 33,too (aSt O ro 1 (.tmp 34) (.const (.bool true)))]
def Zoq:RL' H:=[mv' 21 7,ik' .add 22 21 1,mv' 7 22]
def Zor:RL' H:=[mv' 15 6,ik' .add 16 15 1,mv' 6 16]
def Zos:RL' H:=[mv' 35 5,mv' 4 35]
def G'Z:RC' H:=λO P ro=>A'a (A'a (A'b Zon) (cIf (.tmp 20) (A'f) (A'n 2))) (A'a (A'x 3 (A'a (A'b (Zoo O)) (cIf (.tmp 31) (A'a (A'b (Zop O ro)) (A'n 2)) (A'f)))) (A'b Zoq))
def K'1:RC' H:=λO P ro=>A'a (A'a (A'b Zol) (cIf (.tmp 14) (A'f) (A'n 0))) (A'a (A'x 1 (A'a (A'b Zom) (A'x 2 (A'Y (G'Z O P ro))))) (A'b Zor))
def V'I:RC' H:=λO P ro=>A'a (A'b Zoi) (A'a (A'b (Zoj O)) (A'a (A'a (A'b Zok) (A'x 0 (A'Y (K'1 O P ro)))) (A'a (A'b Zos) (A'B))))
theorem Q'Z:FN' 190 @V'I [.tmp 4] Tryz.f190:=f'n Tryz.func190
def Zot:RL' H:=[to 4 (A'h (.const (.bool false)))]
def Zou(O:HI H):RL' H:=[mv' 6 0,nl' 7 6,fl' 1 8 7,ld' O 9 8,mv' 10 1,to 11 (A's .shr (.tmp 10) (.const (.int .u64 1))),ix' 2 12 9 11,fl' 1 13 12,ld' O 14 13,mv' 5 14]
def Zov:RL' H:=[mv' 15 5,ik' .neq 16 15 2,mv' 17 16,A'd 17 true 18 (mv' 18 5),A'd 17 true 19 (mv' 19 1),A'd 17 true 20 (ik' .and 20 19 1),A'd 17 true 21 (ia' .neq 21 18 20),to 22 (A'w (.tmp 17) (.tmp 21) (.const (.bool false))),mv' 4 22]
def V'J:RC' H:=λO P ro=>A'a (A'b Zot) (A'a (A'b (Zou O)) (A'a (A'b Zov) (A'B)))
theorem Q'0:FN' 191 @V'J [.tmp 4] Tryz.f191:=f'n Tryz.func191
def Zow:RL' H:=[to 4 (A'h (.const (.bool false)))]
def Zox(O:HI H):RL' H:=[to 8 (A'y O 1 0 #[.slice none 0 0] []),mv' 5 8]
def Zoy:RL' H:=[mk' 6 0]
def Zoz(O:HI H):RL' H:=[mv' 9 6,mv' 10 0,nl' 11 10,fl' 1 12 11,ld' O 13 12,ln' 14 13,ia' .lss 15 9 14]
def ZoA(O:HI H):RL' H:=[mv' 18 0,nl' 19 18,fl' 1 20 19,ld' O 21 20,mv' 22 6,ix' 1 23 21 22,ld' O 24 23,mv' 25 1,to 26 (A'e 203 [.tmp 24,.tmp 25]),to 27 (aUn .not (.tmp 26))]
def ZoB(O:HI H)(ro:Nat):RL' H:=[mv' 28 5,mv' 29 0,nl' 30 29,fl' 1 31 30,ld' O 32 31,mv' 33 6,ix' 1 34 32 33,ld' O 35 34,to 36 (A'y O 1 1 #[.slice none 0 0] [(0,.tmp 35)]),to 37 (B'p O ro 1 24 (.tmp 28) (.tmp 36)),mv' 5 37]
def ZoC:RL' H:=[mv' 16 6,ik' .add 17 16 1,mv' 6 17]
def ZoD(O:HI H):RL' H:=[mv' 38 5,ln' 39 38,mv' 40 0,nl' 41 40,fl' 1 42 41,ld' O 43 42,ln' 44 43,ia' .lss 45 39 44,mv' 7 45]
def ZoE(O:HI H)(ro:Nat):RL' H:=[mv' 46 0,mv' 47 5,nl' 48 46,fl' 1 49 48,too (aSt O ro 1 (.tmp 49) (.tmp 47))]
def ZoF:RL' H:=[mv' 50 7,mv' 4 50]
def I'x:RC' H:=λO P ro=>A'a (A'a (A'b (Zoz O)) (cIf (.tmp 15) (A'f) (A'n 0))) (A'a (A'x 1 (A'a (A'b (ZoA O)) (cIf (.tmp 27) (A'b (ZoB O ro)) (A'f)))) (A'b ZoC))
def V'K:RC' H:=λO P ro=>A'a (A'b Zow) (A'a (A'b (Zox O)) (A'a (A'a (A'b Zoy) (A'x 0 (A'Y (I'x O P ro)))) (A'a (A'b (ZoD O)) (A'a (A'b (ZoE O ro)) (A'a (A'b ZoF) (A'B))))))
theorem Q'1:FN' 192 @V'K [.tmp 4] Tryz.f192:=f'n Tryz.func192
def ZoG(O:HI H):RL' H:=[to 9 (A'y O 1 0 #[.int .i64 0] []),mv' 6 9]
def ZoH:RL' H:=[mk' 7 0]
def ZoI:RL' H:=[mv' 10 7,mv' 11 2,ln' 12 11,ia' .lss 13 10 12]
def ZoJ(O:HI H):RL' H:=[mv' 16 1,mv' 17 2,mv' 18 7,ix' 1 19 17 18,ld' O 20 19,to 21 (A's .shr (.tmp 20) (.const (.int .u64 1))),to 22 (A'e 107 [.tmp 16,.tmp 21]),mv' 8 22]
def ZoK(O:HI H)(ro:Nat):RL' H:=[mv' 23 6,mv' 24 8,mv' 25 2,mv' 26 7,ix' 1 27 25 26,ld' O 28 27,ik' .and 29 28 1,ia' .xor 30 24 29,to 31 (A'y O 1 1 #[.int .i64 0] [(0,.tmp 30)]),to 32 (B'p O ro 1 8 (.tmp 23) (.tmp 31)),mv' 6 32]
def ZoL:RL' H:=[mv' 14 7,ik' .add 15 14 1,mv' 7 15]
def ZoM(O:HI H):RL' H:=[mv' 33 0,nl' 34 33,fl' 0 35 34,ld' O 36 35,mv' 37 6,to 38 (A'e 105 [.tmp 36,.tmp 37])]
def K'2:RC' H:=λO P ro=>A'a (A'a (A'b ZoI) (cIf (.tmp 13) (A'f) (A'n 0))) (A'a (A'x 1 (A'a (A'b (ZoJ O)) (A'b (ZoK O ro)))) (A'b ZoL))
def V'L:RC' H:=λO P ro=>A'a (A'b (ZoG O)) (A'a (A'a (A'b ZoH) (A'x 0 (A'Y (K'2 O P ro)))) (A'b (ZoM O)))
theorem Q'2:FN' 193 @V'L [] Tryz.f193:=f'n Tryz.func193
def ZoN:RL' H:=[to 4 (A'h (.const (.bool false)))]
def ZoO:RL' H:=[mv' 6 0,ln' 7 6,mv' 8 1,ln' 9 8,ia' .neq 10 7 9]
def ZoP:RL' H:=[to 4 (A'h (.const (.bool false)))]
def ZoQ:RL' H:=[mk' 5 0]
def ZoR:RL' H:=[mv' 11 5,mv' 12 0,ln' 13 12,ia' .lss 14 11 13]
def ZoS(O:HI H):RL' H:=[mv' 17 0,mv' 18 5,ix' 1 19 17 18,ld' O 20 19,mv' 21 1,mv' 22 5,ix' 1 23 21 22,ld' O 24 23,ia' .neq 25 20 24]
def ZoT:RL' H:=[to 4 (A'h (.const (.bool false)))]
def ZoU:RL' H:=[mv' 15 5,ik' .add 16 15 1,mv' 5 16]
def ZoV:RL' H:=[to 4 (A'h (.const (.bool true)))]
def I'y:RC' H:=λO P ro=>A'a (A'a (A'b ZoR) (cIf (.tmp 14) (A'f) (A'n 0))) (A'a (A'x 1 (A'a (A'b (ZoS O)) (cIf (.tmp 25) (A'a (A'b ZoT) (A'B)) (A'f)))) (A'b ZoU))
def V'M:RC' H:=λO P ro=>A'a (A'b ZoN) (A'a (A'a (A'b ZoO) (cIf (.tmp 10) (A'a (A'b ZoP) (A'B)) (A'f))) (A'a (A'a (A'b ZoQ) (A'x 0 (A'Y (I'y O P ro)))) (A'a (A'b ZoV) (A'B))))
theorem Q'3:FN' 203 @V'M [.tmp 4] Tryz.f203:=f'n Tryz.func203
end
end Go.Proofs.YtimdkminagnhgaaGreatDoor
