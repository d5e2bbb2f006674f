import Derived.Test.YtimdkminagnhgabGreatDoorQ04
import Derived.Test.YtimdkminagnhgabGreatDoorProg
import Derived.KernelRfl
set_option linter.all false
namespace Go.Proofs.YtimdkminagnhgabGreatDoor
open Go.Vm Go.Proofs
set_option maxRecDepth 100000
section
variable {H:Type}
abbrev FN' (f:FuncId)(F:∀{H:Type},HI H->Program->Nat->B'L H)(rs:List ResultVar)(fn:Func):Prop:=∀{H:Type}(O:HI H)(ro:Nat),Vm.Fn Tryz.prog O ro f (F O Tryz.prog ro) rs fn
theorem f'n {f:FuncId}{F:∀{H:Type},HI H->Program->Nat->B'L H}{rs:List ResultVar}{fn:Func}(h:Tryz.prog.funcs[f]?=some fn)(a:∀{H:Type}(O:HI H)(ro:Nat),I'B O Tryz.prog ro fn=F O Tryz.prog ro:=by intros;kernel_rfl)(b:fn.body.isSome=true:=by kernel_rfl)(d:(match fn.body with|some c=>C'E fn.ntmps c|none=>false)=true:=by kernel_rfl)(e:fn.results.toList=rs:=by kernel_rfl)(g:rs.all (O'O fn.ntmps)=true:=by kernel_rfl):FN' f @F rs fn:=λO ro=>⟨h,a O ro,b,d,e,g⟩
def Zaa(O:HI H):RL' H:=[to 2 (A'i (.const (.pointer none))),to 3 (B'o O [.int .i64 0,.int .i64 0])]
def Zab:RL' H:=[mv' 7 0,to 8 (A'7 (.tmp 7)),ik' .gtr 9 8 1000]
def Zac(O:HI H)(ro:Nat):RL' H:=[to 10 (A'l #[.int .i64 0,.int .i64 0] [(0,1),(1,1)] [(0,.const (.int .i64 1))]),to 2 (A'i (.const (.pointer none))),too (aSt O ro 2 (.tmp 3) (.tmp 10))]
def Zad(O:HI H):RL' H:=[mv' 11 0,to 12 (A'l #[.string ⟨#[]⟩,.int .i64 0,.int .i64 0,.int .i64 0] [(0,1),(1,1),(2,2)] [(0,.tmp 11)]),to 13 (B'r O (.tmp 12)),mv' 4 13]
def Zae(O:HI H)(ro:Nat):RL' H:=[mv' 14 4,to 15 (A'e 33 [.tmp 14]),to 5 (B'o O [.bool false,.int .i64 0,.int .i64 0,.int .i64 0,.int .i64 0,.int .i64 0,.int .i64 0,.int .i64 0]),too (aSt O ro 8 (.tmp 5) (.tmp 15))]
def Zaf(O:HI H):RL' H:=[to 16 (B'n O 8 (.tmp 5)),mv' 17 4,to 18 (A'e 34 [.tmp 16,.tmp 17])]
def Zag:RL' H:=[mv' 19 4,to 20 (A'e 35 [.tmp 19])]
def Zah(O:HI H)(ro:Nat):RL' H:=[mv' 21 4,nl' 22 21,fl' 2 23 22,to 24 (B'n O 2 (.tmp 23)),to 2 (A'i (.const (.pointer none))),too (aSt O ro 2 (.tmp 3) (.tmp 24))]
def Zai(O:HI H):RL' H:=[fl' 1 25 5,ld' O 26 25,to 27 (A'e 36 [.tmp 26]),mv' 6 27]
def Zaj(O:HI H):RL' H:=[fl' 0 28 5,ld' O 29 28]
def Zak(O:HI H):RL' H:=[mv' 30 6,mv' 31 4,to 32 (B'n O 8 (.tmp 5)),to 33 (A'e 37 [.tmp 30,.tmp 31,.tmp 32])]
def Zal(O:HI H):RL' H:=[mv' 34 6,mv' 35 4,to 36 (B'n O 8 (.tmp 5)),to 37 (A'e 38 [.tmp 34,.tmp 35,.tmp 36])]
def Zam(O:HI H):RL' H:=[mv' 38 4,to 39 (B'n O 8 (.tmp 5)),to 40 (A'e 39 [.tmp 38,.tmp 39])]
def Zan:RL' H:=[mv' 41 6,mv' 42 4,to 43 (A'e 40 [.tmp 41,.tmp 42])]
def Zao:RL' H:=[mv' 44 4,to 45 (A'e 35 [.tmp 44])]
def Zap(O:HI H)(ro:Nat):RL' H:=[mv' 46 4,nl' 47 46,fl' 2 48 47,to 49 (B'n O 2 (.tmp 48)),to 2 (A'i (.const (.pointer none))),too (aSt O ro 2 (.tmp 3) (.tmp 49))]
def Zaq(O:HI H)(ro:Nat):RL' H:=[mv' 50 6,to 51 (A'e 41 [.tmp 50]),to 52 (B'E (.tmp 51) 0),to 53 (B'E (.tmp 51) 1),mv' 2 52,too (aSt O ro 2 (.tmp 3) (.tmp 53))]
def F25:RC' H:=λO P ro=>A'b (A'c (Zaa O)) (A'b (A'b (A'c Zab) (cIf (.tmp 9) (A'b (A'c (Zac O ro)) (A'y)) (A'f))) (A'b (A'c (Zad O)) (A'b (A'c (Zae O ro)) (A'b (A'c (Zaf O)) (A'b (A'b (A'c Zag) (cIf (.tmp 20) (A'b (A'c (Zah O ro)) (A'y)) (A'f))) (A'b (A'c (Zai O)) (A'b (A'b (A'c (Zaj O)) (cIf (.tmp 29) (A'c (Zak O)) (A'c (Zal O)))) (A'b (A'c (Zam O)) (A'b (A'c Zan) (A'b (A'b (A'c Zao) (cIf (.tmp 45) (A'b (A'c (Zap O ro)) (A'y)) (A'f))) (A'b (A'c (Zaq O ro)) (A'y))))))))))))
theorem L'N:FN' 25 @F25 [.tmp 2,.cell 3 49] Tryz.f25:=f'n Tryz.func25
def Zar(O:HI H):RL' H:=[to 2 (B'o O [.bool false,.int .i64 0,.int .i64 0,.int .i64 0,.int .i64 0,.int .i64 0,.int .i64 0,.int .i64 0])]
def Zas:RL' H:=[mv' 6 0,to 7 (A'e 63 [.tmp 6,.const (.int .i64 97)])]
def Zat:RL' H:=[mv' 8 0,to 9 (A'e 64 [.tmp 8,.const (.int .i64 105)]),mv' 3 9]
def Zau:RL' H:=[mv' 10 3,to 11 (aUn .not (.tmp 10))]
def Zav:RL' H:=[mv' 12 0,to 13 (A'e 63 [.tmp 12,.const (.int .i64 97)])]
def Zaw:RL' H:=[mv' 14 0,to 15 (A'e 63 [.tmp 14,.const (.int .i64 103)])]
def Zax(O:HI H):RL' H:=[to 4 (B'o O [.int .i64 0,.int .i64 0,.int .i64 0,.int .i64 0,.int .i64 0,.int .i64 0,.int .i64 0,.int .i64 0,.int .i64 0])]
def Zay:RL' H:=[mk' 5 0]
def Zaz:RL' H:=[mv' 16 5,ik' .lss 17 16 9]
def ZaA:RL' H:=[mv' 20 5,ik' .geq 21 20 5,mv' 22 21,A'a 22 true 23 (mv' 23 0),A'a 22 true 24 (to 24 (A'e 65 [.tmp 23])),A'a 22 true 25 (ik' .neq 25 24 32),to 26 (A'q (.tmp 22) (.tmp 25) (.const (.bool false)))]
def ZaB:RL' H:=[mv' 27 0,to 28 (A'e 63 [.tmp 27,.const (.int .i64 32)])]
def ZaC(O:HI H)(ro:Nat):RL' H:=[mv' 29 5,mv' 30 0,to 31 (A'e 66 [.tmp 30]),to 32 (A'j 9 1 (.tmp 4) (.tmp 29)),too (aSt O ro 1 (.tmp 32) (.tmp 31))]
def ZaD:RL' H:=[mv' 18 5,ik' .add 19 18 1,mv' 5 19]
def ZaE:RL' H:=[mv' 33 0,to 34 (A'e 63 [.tmp 33,.const (.int .i64 10)])]
def ZaF(O:HI H)(ro:Nat):RL' H:=[mv' 35 3,to 36 (A'j 9 1 (.tmp 4) (.const (.int .i64 0))),ld' O 37 36,to 38 (A'j 9 1 (.tmp 4) (.const (.int .i64 1))),ld' O 39 38,to 40 (A'j 9 1 (.tmp 4) (.const (.int .i64 2))),ld' O 41 40,to 42 (A'j 9 1 (.tmp 4) (.const (.int .i64 3))),ld' O 43 42,to 44 (A'j 9 1 (.tmp 4) (.const (.int .i64 4))),ld' O 45 44,to 46 (A'j 9 1 (.tmp 4) (.const (.int .i64 5))),ld' O 47 46,to 48 (A'j 9 1 (.tmp 4) (.const (.int .i64 6))),ld' O 49 48,to 50 (A'j 9 1 (.tmp 4) (.const (.int .i64 7))),ld' O 51 50,ia' .add 52 49 51,to 53 (A'j 9 1 (.tmp 4) (.const (.int .i64 8))),ld' O 54 53,ia' .add 55 52 54,to 56 (A'l #[.bool false,.int .i64 0,.int .i64 0,.int .i64 0,.int .i64 0,.int .i64 0,.int .i64 0,.int .i64 0] [(0,1),(1,1),(2,1),(3,1),(4,1),(5,1),(6,1),(7,1)] [(0,.tmp 35),(1,.tmp 37),(2,.tmp 39),(3,.tmp 41),(4,.tmp 43),(5,.tmp 45),(6,.tmp 47),(7,.tmp 55)]),too (aSt O ro 8 (.tmp 2) (.tmp 56))]
def G'r:RC' H:=λO P ro=>A'b (A'b (A'c Zaz) (cIf (.tmp 17) (A'f) (A'r 0))) (A'b (A'z 1 (A'b (A'b (A'c ZaA) (cIf (.tmp 26) (A'r 0) (A'f))) (A'b (A'c ZaB) (A'c (ZaC O ro))))) (A'c ZaD))
def F33:RC' H:=λO P ro=>A'b (A'c (Zar O)) (A'b (A'c Zas) (A'b (A'c Zat) (A'b (A'b (A'c Zau) (cIf (.tmp 11) (A'c Zav) (A'f))) (A'b (A'c Zaw) (A'b (A'c (Zax O)) (A'b (A'b (A'c Zay) (A'z 0 (A'1 (G'r O P ro)))) (A'b (A'c ZaE) (A'b (A'c (ZaF O ro)) (A'y)))))))))
theorem O'P:FN' 33 @F33 [.cell 2 73] Tryz.f33:=f'n Tryz.func33
def ZaG(O:HI H):RL' H:=[to 2 (B'r O (.tmp 0))]
def ZaH(O:HI H):RL' H:=[fl' 1 5 2,ld' O 6 5,ik' .gtr 7 6 80,mv' 8 7,A'a 8 false 9 (fl' 2 9 2),A'a 8 false 10 (ld' O 10 9),A'a 8 false 11 (ik' .gtr 11 10 4),to 12 (A'q (.tmp 8) (.const (.bool true)) (.tmp 11)),mv' 13 12,A'a 13 false 14 (fl' 3 14 2),A'a 13 false 15 (ld' O 15 14),A'a 13 false 16 (ik' .gtr 16 15 6),to 17 (A'q (.tmp 13) (.const (.bool true)) (.tmp 16)),mv' 18 17,A'a 18 false 19 (fl' 4 19 2),A'a 18 false 20 (ld' O 20 19),A'a 18 false 21 (ik' .gtr 21 20 4),to 22 (A'q (.tmp 18) (.const (.bool true)) (.tmp 21)),mv' 23 22,A'a 23 false 24 (fl' 5 24 2),A'a 23 false 25 (ld' O 25 24),A'a 23 false 26 (ik' .gtr 26 25 60),to 27 (A'q (.tmp 23) (.const (.bool true)) (.tmp 26))]
def ZaI:RL' H:=[mv' 28 1,to 29 (A'e 67 [.tmp 28,.const (.int .i64 3),.const (.int .i64 0)])]
def ZaJ(O:HI H):RL' H:=[fl' 2 30 2,ld' O 31 30,fl' 3 32 2,ld' O 33 32,ia' .add 34 31 33,fl' 5 35 2,ld' O 36 35,ia' .add 37 34 36,mv' 4 37]
def ZaK(O:HI H):RL' H:=[mv' 38 4,fl' 1 39 2,ld' O 40 39,ia' .gtr 41 38 40,mv' 42 41,A'a 42 false 43 (fl' 0 43 2),A'a 42 false 44 (ld' O 44 43),A'a 42 false 45 (mv' 45 44),A'a 45 true 46 (mv' 46 4),A'a 45 true 47 (fl' 1 47 2),A'a 45 true 48 (ld' O 48 47),A'a 45 true 49 (ia' .neq 49 46 48),A'a 42 false 50 (to 50 (A'q (.tmp 45) (.tmp 49) (.const (.bool false)))),to 51 (A'q (.tmp 42) (.const (.bool true)) (.tmp 50))]
def ZaL:RL' H:=[mv' 52 1,to 53 (A'e 67 [.tmp 52,.const (.int .i64 4),.const (.int .i64 0)])]
def ZaM(O:HI H):RL' H:=[fl' 7 54 2,ld' O 55 54,ik' .neq 56 55 0]
def ZaN:RL' H:=[mv' 57 1,to 58 (A'e 67 [.tmp 57,.const (.int .i64 5),.const (.int .i64 0)])]
def ZaO(O:HI H):RL' H:=[fl' 6 59 2,ld' O 60 59,ik' .gtr 61 60 1,mv' 62 61,A'a 62 false 63 (fl' 6 63 2),A'a 62 false 64 (ld' O 64 63),A'a 62 false 65 (ik' .eql 65 64 0),A'a 62 false 66 (mv' 66 65),A'a 66 true 67 (fl' 4 67 2),A'a 66 true 68 (ld' O 68 67),A'a 66 true 69 (ik' .neq 69 68 1),A'a 62 false 70 (to 70 (A'q (.tmp 66) (.tmp 69) (.const (.bool false)))),to 71 (A'q (.tmp 62) (.const (.bool true)) (.tmp 70))]
def ZaP:RL' H:=[mv' 72 1,to 73 (A'e 67 [.tmp 72,.const (.int .i64 6),.const (.int .i64 0)])]
def F34:RC' H:=λO P ro=>A'b (A'c (ZaG O)) (A'b (A'b (A'c (ZaH O)) (cIf (.tmp 27) (A'c ZaI) (A'f))) (A'b (A'c (ZaJ O)) (A'b (A'b (A'c (ZaK O)) (cIf (.tmp 51) (A'c ZaL) (A'f))) (A'b (A'b (A'c (ZaM O)) (cIf (.tmp 56) (A'c ZaN) (A'f))) (A'b (A'c (ZaO O)) (cIf (.tmp 71) (A'c ZaP) (A'f)))))))
theorem O'Q:FN' 34 @F34 [] Tryz.f34:=f'n Tryz.func34
def ZaQ:RL' H:=[to 2 (A'i (.const (.bool false)))]
def ZaR(O:HI H):RL' H:=[mv' 3 0,nl' 4 3,fl' 2 5 4,fl' 0 6 5,ld' O 7 6,ik' .neq 8 7 0,mv' 2 8]
def F35:RC' H:=λO P ro=>A'b (A'c ZaQ) (A'b (A'c (ZaR O)) (A'y))
theorem O'R:FN' 35 @F35 [.tmp 2] Tryz.f35:=f'n Tryz.func35
def ZaS:RL' H:=[to 2 (A'i (.const (.pointer none)))]
def ZaT(O:HI H):RL' H:=[to 5 (A'l #[.slice none 0 0,.slice none 0 0,.slice none 0 0,.slice none 0 0,.slice none 0 0,.slice none 0 0] [(0,1),(1,1),(2,1),(3,1),(4,1),(5,1)] []),to 6 (B'r O (.tmp 5)),mv' 3 6]
def ZaU:RL' H:=[mk' 4 0]
def ZaV:RL' H:=[mv' 7 4,mv' 8 0,ia' .leq 9 7 8]
def ZaW(O:HI H)(ro:Nat):RL' H:=[mv' 12 3,mv' 13 3,nl' 14 13,fl' 0 15 14,ld' O 16 15,mv' 17 4,ik' .eql 18 17 0,to 19 (A'x O 1 1 #[.bool false] [(0,.tmp 18)]),to 20 (B'p O ro 1 1 (.tmp 16) (.tmp 19)),nl' 21 12,fl' 0 22 21,too (aSt O ro 1 (.tmp 22) (.tmp 20))]
def ZaX:RL' H:=[mv' 10 4,ik' .add 11 10 1,mv' 4 11]
def ZaY:RL' H:=[mv' 23 3,mv' 2 23]
def M'O:RC' H:=λO P ro=>A'b (A'b (A'c ZaV) (cIf (.tmp 9) (A'f) (A'r 0))) (A'b (A'z 1 (A'c (ZaW O ro))) (A'c ZaX))
def F36:RC' H:=λO P ro=>A'b (A'c ZaS) (A'b (A'c (ZaT O)) (A'b (A'b (A'c ZaU) (A'z 0 (A'1 (M'O O P ro)))) (A'b (A'c ZaY) (A'y))))
theorem O'S:FN' 36 @F36 [.tmp 2] Tryz.f36:=f'n Tryz.func36
def ZaZ(O:HI H):RL' H:=[to 5 (B'r O (.tmp 2))]
def Za0:RL' H:=[mk' 6 0]
def Za1(O:HI H):RL' H:=[mv' 11 6,fl' 2 12 5,ld' O 13 12,ia' .lss 14 11 13]
def Za2:RL' H:=[mv' 17 6,to 18 (A'5 .add (.const (.int .i64 1)) (.tmp 17)),to 19 (A'5 .mul (.const (.int .i64 2)) (.tmp 18)),mv' 7 19]
def Za3:RL' H:=[mv' 20 0,mv' 21 7,to 22 (A'e 68 [.tmp 20,.tmp 21])]
def Za4(O:HI H)(ro:Nat):RL' H:=[mv' 23 0,mv' 24 0,nl' 25 24,fl' 1 26 25,ld' O 27 26,mv' 28 7,to 29 (A'x O 1 1 #[.int .i64 0] [(0,.tmp 28)]),to 30 (B'p O ro 1 8 (.tmp 27) (.tmp 29)),nl' 31 23,fl' 1 32 31,too (aSt O ro 1 (.tmp 32) (.tmp 30))]
def Za5:RL' H:=[mv' 15 6,ik' .add 16 15 1,mv' 6 16]
def Za6:RL' H:=[mk' 8 0]
def Za7(O:HI H):RL' H:=[mv' 33 8,fl' 3 34 5,ld' O 35 34,ia' .lss 36 33 35]
def Za8(O:HI H):RL' H:=[fl' 2 39 5,ld' O 40 39,to 41 (A'5 .add (.const (.int .i64 1)) (.tmp 40)),mv' 42 8,ia' .add 43 41 42,to 44 (A'5 .mul (.const (.int .i64 2)) (.tmp 43)),mv' 9 44]
def Za9:RL' H:=[mv' 45 0,mv' 46 9,to 47 (A'e 68 [.tmp 45,.tmp 46])]
def Zba:RL' H:=[mv' 48 0,mv' 49 1,mv' 50 9,to 51 (A'e 69 [.tmp 48,.tmp 49,.tmp 50])]
def Zbb:RL' H:=[mv' 37 8,ik' .add 38 37 1,mv' 8 38]
def Zbc(O:HI H)(ro:Nat):RL' H:=[mv' 52 0,mv' 53 0,mv' 54 1,fl' 4 55 5,ld' O 56 55,to 57 (A'e 70 [.tmp 53,.tmp 54,.tmp 56]),nl' 58 52,fl' 3 59 58,too (aSt O ro 1 (.tmp 59) (.tmp 57))]
def Zbd(O:HI H)(ro:Nat):RL' H:=[mv' 60 0,mv' 61 0,mv' 62 1,fl' 6 63 5,ld' O 64 63,to 65 (A'e 70 [.tmp 61,.tmp 62,.tmp 64]),nl' 66 60,fl' 4 67 66,too (aSt O ro 1 (.tmp 67) (.tmp 65))]
def Zbe:RL' H:=[mk' 10 0]
def Zbf(O:HI H):RL' H:=[mv' 68 10,fl' 5 69 5,ld' O 70 69,ia' .lss 71 68 70]
def Zbg(O:HI H):RL' H:=[mv' 74 0,mv' 75 1,fl' 2 76 5,ld' O 77 76,to 78 (A'5 .add (.const (.int .i64 1)) (.tmp 77)),fl' 3 79 5,ld' O 80 79,ia' .add 81 78 80,mv' 82 10,ia' .add 83 81 82,to 84 (A'5 .mul (.const (.int .i64 2)) (.tmp 83)),to 85 (A'e 71 [.tmp 74,.tmp 75,.tmp 84])]
def Zbh:RL' H:=[mv' 72 10,ik' .add 73 72 1,mv' 10 73]
def J'9:RC' H:=λO P ro=>A'b (A'b (A'c (Za1 O)) (cIf (.tmp 14) (A'f) (A'r 0))) (A'b (A'z 1 (A'b (A'c Za2) (A'b (A'c Za3) (A'c (Za4 O ro))))) (A'c Za5))
def K'a:RC' H:=λO P ro=>A'b (A'b (A'c (Za7 O)) (cIf (.tmp 36) (A'f) (A'r 2))) (A'b (A'z 3 (A'b (A'c (Za8 O)) (A'b (A'c Za9) (A'c Zba)))) (A'c Zbb))
def K'b:RC' H:=λO P ro=>A'b (A'b (A'c (Zbf O)) (cIf (.tmp 71) (A'f) (A'r 4))) (A'b (A'z 5 (A'c (Zbg O))) (A'c Zbh))
def F37:RC' H:=λO P ro=>A'b (A'c (ZaZ O)) (A'b (A'b (A'c Za0) (A'z 0 (A'1 (J'9 O P ro)))) (A'b (A'b (A'c Za6) (A'z 2 (A'1 (K'a O P ro)))) (A'b (A'c (Zbc O ro)) (A'b (A'c (Zbd O ro)) (A'b (A'c Zbe) (A'z 4 (A'1 (K'b O P ro))))))))
theorem O'T:FN' 37 @F37 [] Tryz.f37:=f'n Tryz.func37
def Zbi(O:HI H):RL' H:=[to 5 (B'r O (.tmp 2))]
def Zbj:RL' H:=[mk' 6 0]
def Zbk(O:HI H):RL' H:=[mv' 11 6,fl' 2 12 5,ld' O 13 12,ia' .lss 14 11 13]
def Zbl(O:HI H)(ro:Nat):RL' H:=[mv' 17 0,mv' 18 1,to 19 (A'e 72 [.tmp 17,.tmp 18]),to 7 (B'o O [.int .i64 0,.int .i64 0]),too (aSt O ro 2 (.tmp 7) (.tmp 19))]
def Zbm:RL' H:=[mv' 20 1,to 21 (A'e 63 [.tmp 20,.const (.int .i64 10)])]
def Zbn(O:HI H)(ro:Nat):RL' H:=[mv' 22 0,mv' 23 0,nl' 24 23,fl' 1 25 24,ld' O 26 25,fl' 0 27 7,ld' O 28 27,to 29 (A'x O 1 1 #[.int .i64 0] [(0,.tmp 28)]),to 30 (B'p O ro 1 8 (.tmp 26) (.tmp 29)),nl' 31 22,fl' 1 32 31,too (aSt O ro 1 (.tmp 32) (.tmp 30))]
def Zbo:RL' H:=[mv' 15 6,ik' .add 16 15 1,mv' 6 16]
def Zbp:RL' H:=[mk' 8 0]
def Zbq(O:HI H):RL' H:=[mv' 33 8,fl' 3 34 5,ld' O 35 34,ia' .lss 36 33 35]
def Zbr(O:HI H)(ro:Nat):RL' H:=[mv' 39 0,mv' 40 1,to 41 (A'e 72 [.tmp 39,.tmp 40]),to 9 (B'o O [.int .i64 0,.int .i64 0]),too (aSt O ro 2 (.tmp 9) (.tmp 41))]
def Zbs:RL' H:=[mv' 42 1,to 43 (A'e 63 [.tmp 42,.const (.int .i64 32)])]
def Zbt(O:HI H):RL' H:=[mv' 44 0,mv' 45 1,fl' 0 46 9,ld' O 47 46,to 48 (A'e 69 [.tmp 44,.tmp 45,.tmp 47])]
def Zbu:RL' H:=[mv' 37 8,ik' .add 38 37 1,mv' 8 38]
def Zbv(O:HI H)(ro:Nat):RL' H:=[mv' 49 0,mv' 50 0,mv' 51 1,fl' 4 52 5,ld' O 53 52,to 54 (A'e 70 [.tmp 50,.tmp 51,.tmp 53]),nl' 55 49,fl' 3 56 55,too (aSt O ro 1 (.tmp 56) (.tmp 54))]
def Zbw(O:HI H)(ro:Nat):RL' H:=[mv' 57 0,mv' 58 0,mv' 59 1,fl' 6 60 5,ld' O 61 60,to 62 (A'e 70 [.tmp 58,.tmp 59,.tmp 61]),nl' 63 57,fl' 4 64 63,too (aSt O ro 1 (.tmp 64) (.tmp 62))]
def Zbx:RL' H:=[mk' 10 0]
def Zby(O:HI H):RL' H:=[mv' 65 10,fl' 5 66 5,ld' O 67 66,ia' .lss 68 65 67]
def Zbz:RL' H:=[mv' 71 0,mv' 72 1,to 73 (A'e 73 [.tmp 71,.tmp 72])]
def ZbA:RL' H:=[mv' 69 10,ik' .add 70 69 1,mv' 10 70]
def K'c:RC' H:=λO P ro=>A'b (A'b (A'c (Zbk O)) (cIf (.tmp 14) (A'f) (A'r 0))) (A'b (A'z 1 (A'b (A'c (Zbl O ro)) (A'b (A'c Zbm) (A'c (Zbn O ro))))) (A'c Zbo))
def K'd:RC' H:=λO P ro=>A'b (A'b (A'c (Zbq O)) (cIf (.tmp 36) (A'f) (A'r 2))) (A'b (A'z 3 (A'b (A'c (Zbr O ro)) (A'b (A'c Zbs) (A'c (Zbt O))))) (A'c Zbu))
def K'e:RC' H:=λO P ro=>A'b (A'b (A'c (Zby O)) (cIf (.tmp 68) (A'f) (A'r 4))) (A'b (A'z 5 (A'c Zbz)) (A'c ZbA))
def F38:RC' H:=λO P ro=>A'b (A'c (Zbi O)) (A'b (A'b (A'c Zbj) (A'z 0 (A'1 (K'c O P ro)))) (A'b (A'b (A'c Zbp) (A'z 2 (A'1 (K'd O P ro)))) (A'b (A'c (Zbv O ro)) (A'b (A'c (Zbw O ro)) (A'b (A'c Zbx) (A'z 4 (A'1 (K'e O P ro))))))))
theorem O'U:FN' 38 @F38 [] Tryz.f38:=f'n Tryz.func38
def ZbB(O:HI H):RL' H:=[to 3 (B'r O (.tmp 1))]
def ZbC(O:HI H):RL' H:=[mv' 4 0,nl' 5 4,fl' 1 6 5,ld' O 7 6,mv' 8 0,nl' 9 8,fl' 0 10 9,ld' O 11 10,to 12 (A'7 (.tmp 11)),ia' .lss 13 7 12,mv' 14 13,A'a 14 true 15 (mv' 15 0),A'a 14 true 16 (to 16 (A'e 35 [.tmp 15])),A'a 14 true 17 (to 17 (aUn .not (.tmp 16))),to 18 (A'q (.tmp 14) (.tmp 17) (.const (.bool false)))]
def ZbD:RL' H:=[mv' 19 0,to 20 (A'e 64 [.tmp 19,.const (.int .i64 99)])]
def ZbE:RL' H:=[mv' 21 0,to 22 (A'e 63 [.tmp 21,.const (.int .i64 10)])]
def ZbF(O:HI H):RL' H:=[mv' 23 0,to 24 (B'n O 8 (.tmp 3)),to 25 (A'e 74 [.tmp 23,.tmp 24])]
def M'P:RC' H:=λO P ro=>A'b (A'b (A'c (ZbC O)) (cIf (.tmp 18) (A'f) (A'r 0))) (A'z 1 (A'b (A'b (A'c ZbD) (cIf (.tmp 20) (A'b (A'c ZbE) (A'y)) (A'f))) (A'c (ZbF O))))
def F39:RC' H:=λO P ro=>A'b (A'c (ZbB O)) (A'z 0 (A'1 (M'P O P ro)))
theorem O'V:FN' 39 @F39 [] Tryz.f39:=f'n Tryz.func39
def ZbG:RL' H:=[mk' 4 0]
def ZbH(O:HI H):RL' H:=[mv' 8 4,mv' 9 0,nl' 10 9,fl' 2 11 10,ld' O 12 11,ln' 13 12,ia' .lss 14 8 13]
def ZbI(O:HI H):RL' H:=[mv' 17 0,mv' 18 1,mv' 19 0,nl' 20 19,fl' 2 21 20,ld' O 22 21,mv' 23 4,ix' 4 24 22 23,fl' 1 25 24,to 26 (B'n O 2 (.tmp 25)),to 27 (A'e 75 [.tmp 17,.tmp 18,.tmp 26])]
def ZbJ:RL' H:=[mv' 15 4,ik' .add 16 15 1,mv' 4 16]
def ZbK:RL' H:=[mk' 5 0]
def ZbL(O:HI H):RL' H:=[mv' 28 5,mv' 29 0,nl' 30 29,fl' 3 31 30,ld' O 32 31,ln' 33 32,ia' .lss 34 28 33]
def ZbM(O:HI H):RL' H:=[mv' 37 0,mv' 38 1,mv' 39 0,nl' 40 39,fl' 3 41 40,ld' O 42 41,mv' 43 5,ix' 2 44 42 43,to 45 (B'n O 2 (.tmp 44)),to 46 (A'e 75 [.tmp 37,.tmp 38,.tmp 45])]
def ZbN:RL' H:=[mv' 35 5,ik' .add 36 35 1,mv' 5 36]
def ZbO:RL' H:=[mk' 6 0]
def ZbP(O:HI H):RL' H:=[mv' 47 6,mv' 48 0,nl' 49 48,fl' 4 50 49,ld' O 51 50,ln' 52 51,ia' .lss 53 47 52]
def ZbQ(O:HI H):RL' H:=[mv' 56 0,mv' 57 1,mv' 58 0,nl' 59 58,fl' 4 60 59,ld' O 61 60,mv' 62 6,ix' 2 63 61 62,to 64 (B'n O 2 (.tmp 63)),to 65 (A'e 75 [.tmp 56,.tmp 57,.tmp 64])]
def ZbR:RL' H:=[mv' 54 6,ik' .add 55 54 1,mv' 6 55]
def ZbS:RL' H:=[mk' 7 0]
def ZbT(O:HI H):RL' H:=[mv' 66 7,mv' 67 0,nl' 68 67,fl' 5 69 68,ld' O 70 69,ln' 71 70,ia' .lss 72 66 71]
def ZbU(O:HI H):RL' H:=[mv' 75 0,mv' 76 1,mv' 77 0,nl' 78 77,fl' 5 79 78,ld' O 80 79,mv' 81 7,ix' 6 82 80 81,fl' 2 83 82,to 84 (B'n O 2 (.tmp 83)),to 85 (A'e 75 [.tmp 75,.tmp 76,.tmp 84])]
def ZbV(O:HI H):RL' H:=[mv' 86 0,mv' 87 1,mv' 88 0,nl' 89 88,fl' 5 90 89,ld' O 91 90,mv' 92 7,ix' 6 93 91 92,fl' 4 94 93,to 95 (B'n O 2 (.tmp 94)),to 96 (A'e 75 [.tmp 86,.tmp 87,.tmp 95])]
def ZbW:RL' H:=[mv' 73 7,ik' .add 74 73 1,mv' 7 74]
def K'f:RC' H:=λO P ro=>A'b (A'b (A'c (ZbH O)) (cIf (.tmp 14) (A'f) (A'r 0))) (A'b (A'z 1 (A'c (ZbI O))) (A'c ZbJ))
def K'g:RC' H:=λO P ro=>A'b (A'b (A'c (ZbL O)) (cIf (.tmp 34) (A'f) (A'r 2))) (A'b (A'z 3 (A'c (ZbM O))) (A'c ZbN))
def K'h:RC' H:=λO P ro=>A'b (A'b (A'c (ZbP O)) (cIf (.tmp 53) (A'f) (A'r 4))) (A'b (A'z 5 (A'c (ZbQ O))) (A'c ZbR))
def K'i:RC' H:=λO P ro=>A'b (A'b (A'c (ZbT O)) (cIf (.tmp 72) (A'f) (A'r 6))) (A'b (A'z 7 (A'b (A'c (ZbU O)) (A'c (ZbV O)))) (A'c ZbW))
def F40:RC' H:=λO P ro=>A'b (A'b (A'c ZbG) (A'z 0 (A'1 (K'f O P ro)))) (A'b (A'b (A'c ZbK) (A'z 2 (A'1 (K'g O P ro)))) (A'b (A'b (A'c ZbO) (A'z 4 (A'1 (K'h O P ro)))) (A'b (A'c ZbS) (A'z 6 (A'1 (K'i O P ro))))))
theorem O'W:FN' 40 @F40 [] Tryz.f40:=f'n Tryz.func40
def ZbX(O:HI H):RL' H:=[to 2 (A'i (.const (.pointer none))),to 3 (B'o O [.int .i64 0,.int .i64 0])]
def ZbY:RL' H:=[mv' 11 0,to 12 (A'e 76 [.tmp 11]),mv' 4 12]
def ZbZ(O:HI H):RL' H:=[mv' 13 0,nl' 14 13,fl' 1 15 14,ld' O 16 15,ln' 17 16,to 18 (A'l #[.int .i64 0,.slice none 0 0,.slice none 0 0,.int .i64 0] [(0,1),(1,1),(2,1),(3,1)] [(0,.tmp 17)]),to 19 (B'r O (.tmp 18)),mv' 5 19]
def Zb0:RL' H:=[mk' 6 0]
def Zb1(O:HI H):RL' H:=[mv' 20 6,mv' 21 0,nl' 22 21,fl' 5 23 22,ld' O 24 23,ln' 25 24,ia' .lss 26 20 25]
def Zb2(O:HI H):RL' H:=[mv' 29 4,mv' 30 0,nl' 31 30,fl' 5 32 31,ld' O 33 32,to 34 (A'e 77 [.tmp 29,.tmp 33]),mv' 7 34]
def Zb3:RL' H:=[mv' 35 7,to 36 (A'5 .eql (.tmp 35) (.const (.int .i64 (-1))))]
def Zb4(O:HI H)(ro:Nat):RL' H:=[mv' 37 4,mv' 38 0,nl' 39 38,fl' 5 40 39,ld' O 41 40,to 42 (A'e 78 [.tmp 37,.tmp 41]),to 43 (A'l #[.int .i64 0,.int .i64 0] [(0,1),(1,1)] [(0,.const (.int .i64 12)),(1,.tmp 42)]),to 2 (A'i (.const (.pointer none))),too (aSt O ro 2 (.tmp 3) (.tmp 43))]
def Zb5(O:HI H):RL' H:=[mv' 44 4,mv' 45 5,mv' 46 0,nl' 47 46,fl' 5 48 47,ld' O 49 48,mv' 50 7,ix' 6 51 49 50,to 52 (B'n O 6 (.tmp 51)),to 53 (A'e 79 [.tmp 44,.tmp 45,.tmp 52])]
def Zb6:RL' H:=[mv' 27 6,ik' .add 28 27 1,mv' 6 28]
def Zb7:RL' H:=[mk' 8 0]
def Zb8(O:HI H):RL' H:=[mv' 54 8,mv' 55 0,nl' 56 55,fl' 2 57 56,ld' O 58 57,ln' 59 58,ia' .lss 60 54 59]
def Zb9(O:HI H):RL' H:=[mv' 63 4,mv' 64 0,nl' 65 64,fl' 2 66 65,ld' O 67 66,mv' 68 8,ix' 4 69 67 68,fl' 1 70 69,fl' 0 71 70,ld' O 72 71,to 73 (A'e 80 [.tmp 63,.tmp 72]),mv' 9 73]
def Zca(O:HI H)(ro:Nat):RL' H:=[mv' 74 5,mv' 75 5,nl' 76 75,fl' 1 77 76,ld' O 78 77,mv' 79 9,mv' 80 0,nl' 81 80,fl' 2 82 81,ld' O 83 82,mv' 84 8,ix' 4 85 83 84,fl' 3 86 85,ld' O 87 86,to 88 (A'l #[.int .i64 0,.int .i64 0] [(0,1),(1,1)] [(0,.tmp 79),(1,.tmp 87)]),to 89 (A'x O 2 1 #[.int .i64 0,.int .i64 0] [(0,.tmp 88)]),to 90 (B'p O ro 2 16 (.tmp 78) (.tmp 89)),nl' 91 74,fl' 1 92 91,too (aSt O ro 1 (.tmp 92) (.tmp 90))]
def Zcb:RL' H:=[mv' 61 8,ik' .add 62 61 1,mv' 8 62]
def Zcc:RL' H:=[mv' 93 0,to 94 (A'e 81 [.tmp 93]),mv' 10 94]
def Zcd(O:HI H)(ro:Nat):RL' H:=[mv' 95 5,mv' 96 4,mv' 97 10,to 98 (A'e 80 [.tmp 96,.tmp 97]),nl' 99 95,fl' 3 100 99,too (aSt O ro 1 (.tmp 100) (.tmp 98))]
def Zce(O:HI H)(ro:Nat):RL' H:=[mv' 101 5,to 102 (A'l #[.int .i64 0,.int .i64 0] [(0,1),(1,1)] []),mv' 2 101,too (aSt O ro 2 (.tmp 3) (.tmp 102))]
def I'G:RC' H:=λO P ro=>A'b (A'b (A'c (Zb1 O)) (cIf (.tmp 26) (A'f) (A'r 0))) (A'b (A'z 1 (A'b (A'c (Zb2 O)) (A'b (A'b (A'c Zb3) (cIf (.tmp 36) (A'b (A'c (Zb4 O ro)) (A'y)) (A'f))) (A'c (Zb5 O))))) (A'c Zb6))
def K'j:RC' H:=λO P ro=>A'b (A'b (A'c (Zb8 O)) (cIf (.tmp 60) (A'f) (A'r 2))) (A'b (A'z 3 (A'b (A'c (Zb9 O)) (A'c (Zca O ro)))) (A'c Zcb))
def F41:RC' H:=λO P ro=>A'b (A'c (ZbX O)) (A'b (A'c ZbY) (A'b (A'c (ZbZ O)) (A'b (A'b (A'c Zb0) (A'z 0 (A'1 (I'G O P ro)))) (A'b (A'b (A'c Zb7) (A'z 2 (A'1 (K'j O P ro)))) (A'b (A'c Zcc) (A'b (A'c (Zcd O ro)) (A'b (A'c (Zce O ro)) (A'y))))))))
theorem O'X:FN' 41 @F41 [.tmp 2,.cell 3 49] Tryz.f41:=f'n Tryz.func41
def Zcf:RL' H:=[mv' 4 0,mv' 5 1,to 6 (A'e 64 [.tmp 4,.tmp 5]),to 7 (aUn .not (.tmp 6))]
def Zcg(O:HI H):RL' H:=[mv' 8 0,mv' 9 0,nl' 10 9,fl' 1 11 10,ld' O 12 11,to 13 (A'e 67 [.tmp 8,.const (.int .i64 2),.tmp 12])]
def F63:RC' H:=λO P ro=>A'b (A'c Zcf) (cIf (.tmp 7) (A'c (Zcg O)) (A'f))
theorem L'O:FN' 63 @F63 [] Tryz.f63:=f'n Tryz.func63
def Zch:RL' H:=[to 4 (A'i (.const (.bool false)))]
def Zci:RL' H:=[mv' 5 0,to 6 (A'e 65 [.tmp 5]),mv' 7 1,ia' .neq 8 6 7]
def Zcj:RL' H:=[to 4 (A'i (.const (.bool false)))]
def Zck(O:HI H)(ro:Nat):RL' H:=[mv' 9 0,nl' 10 9,fl' 1 11 10,ld' O 12 11,ik' .add 13 12 1,nl' 14 9,fl' 1 15 14,too (aSt O ro 1 (.tmp 15) (.tmp 13))]
def Zcl:RL' H:=[to 4 (A'i (.const (.bool true)))]
def F64:RC' H:=λO P ro=>A'b (A'c Zch) (A'b (A'b (A'c Zci) (cIf (.tmp 8) (A'b (A'c Zcj) (A'y)) (A'f))) (A'b (A'c (Zck O ro)) (A'b (A'c Zcl) (A'y))))
theorem L'P:FN' 64 @F64 [.tmp 4] Tryz.f64:=f'n Tryz.func64
def Zcm:RL' H:=[mk' 2 0]
def Zcn(O:HI H):RL' H:=[mv' 3 0,nl' 4 3,fl' 2 5 4,fl' 0 6 5,ld' O 7 6,ik' .neq 8 7 0,mv' 9 8,A'a 9 false 10 (mv' 10 0),A'a 9 false 11 (nl' 11 10),A'a 9 false 12 (fl' 1 12 11),A'a 9 false 13 (ld' O 13 12),A'a 9 false 14 (ik' .lss 14 13 0),to 15 (A'q (.tmp 9) (.const (.bool true)) (.tmp 14)),mv' 16 15,A'a 16 false 17 (mv' 17 0),A'a 16 false 18 (nl' 18 17),A'a 16 false 19 (fl' 1 19 18),A'a 16 false 20 (ld' O 20 19),A'a 16 false 21 (mv' 21 0),A'a 16 false 22 (nl' 22 21),A'a 16 false 23 (fl' 0 23 22),A'a 16 false 24 (ld' O 24 23),A'a 16 false 25 (to 25 (A'7 (.tmp 24))),A'a 16 false 26 (ia' .geq 26 20 25),to 27 (A'q (.tmp 16) (.const (.bool true)) (.tmp 26))]
def Zco:RL' H:=[to 2 (A'i (.const (.int .i64 (-1))))]
def Zcp(O:HI H):RL' H:=[mv' 28 0,nl' 29 28,fl' 0 30 29,ld' O 31 30,mv' 32 0,nl' 33 32,fl' 1 34 33,ld' O 35 34,to 36 (A'3 (.tmp 31) (.tmp 35)),to 37 (A'2 .i64 (.tmp 36)),mv' 2 37]
def F65:RC' H:=λO P ro=>A'b (A'c Zcm) (A'b (A'b (A'c (Zcn O)) (cIf (.tmp 27) (A'b (A'c Zco) (A'y)) (A'f))) (A'b (A'c (Zcp O)) (A'y)))
theorem O'Y:FN' 65 @F65 [.tmp 2] Tryz.f65:=f'n Tryz.func65
def Zcq:RL' H:=[mk' 2 0]
def Zcr(O:HI H):RL' H:=[mv' 7 0,nl' 8 7,fl' 1 9 8,ld' O 10 9,mv' 3 10]
def Zcs:RL' H:=[mk' 4 0]
def Zct:RL' H:=[mv' 11 0,to 12 (A'e 65 [.tmp 11]),mv' 5 12]
def Zcu:RL' H:=[mv' 13 5,to 14 (A'e 113 [.tmp 13])]
def Zcv(O:HI H):RL' H:=[mv' 17 0,nl' 18 17,fl' 1 19 18,ld' O 20 19,mv' 21 3,ia' .sub 22 20 21,mv' 6 22]
def Zcw:RL' H:=[mv' 23 6,ik' .eql 24 23 4,mv' 25 24,A'a 25 false 26 (mv' 26 6),A'a 25 false 27 (ik' .gtr 27 26 0),A'a 25 false 28 (mv' 28 27),A'a 28 true 29 (mv' 29 4),A'a 28 true 30 (ik' .eql 30 29 0),A'a 25 false 31 (to 31 (A'q (.tmp 28) (.tmp 30) (.const (.bool false)))),to 32 (A'q (.tmp 25) (.const (.bool true)) (.tmp 31))]
def Zcx(O:HI H):RL' H:=[mv' 33 0,mv' 34 0,nl' 35 34,fl' 1 36 35,ld' O 37 36,to 38 (A'e 67 [.tmp 33,.const (.int .i64 2),.tmp 37])]
def Zcy:RL' H:=[mk' 2 0]
def Zcz:RL' H:=[mv' 39 4,to 40 (A'5 .mul (.const (.int .i64 10)) (.tmp 39)),mv' 41 5,ia' .add 42 40 41,ik' .sub 43 42 48,mv' 4 43]
def ZcA(O:HI H)(ro:Nat):RL' H:=[mv' 44 0,nl' 45 44,fl' 1 46 45,ld' O 47 46,ik' .add 48 47 1,nl' 49 44,fl' 1 50 49,too (aSt O ro 1 (.tmp 50) (.tmp 48))]
def ZcB:RL' H:=[mv' 15 0,to 16 (A'e 65 [.tmp 15]),mv' 5 16]
def ZcC(O:HI H):RL' H:=[mv' 51 0,nl' 52 51,fl' 1 53 52,ld' O 54 53,mv' 55 3,ia' .eql 56 54 55]
def ZcD(O:HI H):RL' H:=[mv' 57 0,mv' 58 0,nl' 59 58,fl' 1 60 59,ld' O 61 60,to 62 (A'e 67 [.tmp 57,.const (.int .i64 2),.tmp 61])]
def ZcE:RL' H:=[mv' 63 4,mv' 2 63]
def H'J:RC' H:=λO P ro=>A'b (A'b (A'c Zcu) (cIf (.tmp 14) (A'f) (A'r 0))) (A'b (A'z 1 (A'b (A'c (Zcv O)) (A'b (A'b (A'c Zcw) (cIf (.tmp 32) (A'b (A'c (Zcx O)) (A'b (A'c Zcy) (A'y))) (A'f))) (A'b (A'c Zcz) (A'c (ZcA O ro)))))) (A'c ZcB))
def F66:RC' H:=λO P ro=>A'b (A'c Zcq) (A'b (A'c (Zcr O)) (A'b (A'c Zcs) (A'b (A'b (A'c Zct) (A'z 0 (A'1 (H'J O P ro)))) (A'b (A'b (A'c (ZcC O)) (cIf (.tmp 56) (A'c (ZcD O)) (A'f))) (A'b (A'c ZcE) (A'y))))))
theorem O'Z:FN' 66 @F66 [.tmp 2] Tryz.f66:=f'n Tryz.func66
def ZcF(O:HI H):RL' H:=[mv' 6 0,nl' 7 6,fl' 2 8 7,fl' 0 9 8,ld' O 10 9,ik' .eql 11 10 0]
def ZcG(O:HI H)(ro:Nat):RL' H:=[mv' 12 0,mv' 13 1,mv' 14 2,to 15 (A'l #[.int .i64 0,.int .i64 0] [(0,1),(1,1)] [(0,.tmp 13),(1,.tmp 14)]),nl' 16 12,fl' 2 17 16,too (aSt O ro 2 (.tmp 17) (.tmp 15))]
def F67:RC' H:=λO P ro=>A'b (A'c (ZcF O)) (cIf (.tmp 11) (A'c (ZcG O ro)) (A'f))
theorem L'Q:FN' 67 @F67 [] Tryz.f67:=f'n Tryz.func67
def ZcH:RL' H:=[mv' 4 0,mv' 5 1,to 6 (A'e 114 [.tmp 4,.tmp 5])]
def ZcI(O:HI H)(ro:Nat):RL' H:=[mv' 7 0,nl' 8 7,fl' 0 9 8,ld' O 10 9,mv' 11 1,to 12 (A'w .shr (.tmp 11) (.const (.int .u64 1))),ix' 1 13 10 12,too (aSt O ro 1 (.tmp 13) (.const (.bool true)))]
def F68:RC' H:=λO P ro=>A'b (A'c ZcH) (cIf (.tmp 6) (A'c (ZcI O ro)) (A'f))
theorem L'R:FN' 68 @F68 [] Tryz.f68:=f'n Tryz.func68
def ZcJ(O:HI H)(ro:Nat):RL' H:=[mv' 8 0,mv' 9 1,to 10 (A'e 115 [.tmp 8,.tmp 9]),to 6 (B'o O [.int .i64 0,.int .i64 0]),too (aSt O ro 2 (.tmp 6) (.tmp 10))]
def ZcK:RL' H:=[mk' 7 0]
def ZcL:RL' H:=[mv' 11 1,to 12 (A'e 64 [.tmp 11,.const (.int .i64 32)])]
def ZcM:RL' H:=[mv' 13 1,mv' 14 2,to 15 (A'e 116 [.tmp 13,.tmp 14]),mv' 7 15]
def ZcN:RL' H:=[mv' 16 1,to 17 (A'e 63 [.tmp 16,.const (.int .i64 10)])]
def ZcO(O:HI H)(ro:Nat):RL' H:=[mv' 18 0,mv' 19 0,nl' 20 19,fl' 2 21 20,ld' O 22 21,mv' 23 2,to 24 (B'n O 2 (.tmp 6)),mv' 25 7,to 26 (A'l #[.int .i64 0,.int .i64 0,.int .i64 0,.int .i64 0] [(0,1),(1,2),(3,1)] [(0,.tmp 23),(1,.tmp 24),(2,.tmp 25)]),to 27 (A'x O 4 1 #[.int .i64 0,.int .i64 0,.int .i64 0,.int .i64 0] [(0,.tmp 26)]),to 28 (B'p O ro 4 32 (.tmp 22) (.tmp 27)),nl' 29 18,fl' 2 30 29,too (aSt O ro 1 (.tmp 30) (.tmp 28))]
def F69:RC' H:=λO P ro=>A'b (A'c (ZcJ O ro)) (A'b (A'c ZcK) (A'b (A'b (A'c ZcL) (cIf (.tmp 12) (A'c ZcM) (A'f))) (A'b (A'c ZcN) (A'c (ZcO O ro)))))
theorem O'0:FN' 69 @F69 [] Tryz.f69:=f'n Tryz.func69
def ZcP:RL' H:=[to 6 (A'i (.const (.slice none 0 0)))]
def ZcQ:RL' H:=[to 7 (A'i (.const (.slice none 0 0)))]
def ZcR:RL' H:=[mk' 8 0]
def ZcS:RL' H:=[mv' 10 8,mv' 11 2,ia' .lss 12 10 11]
def ZcT(O:HI H)(ro:Nat):RL' H:=[mv' 15 0,mv' 16 1,to 17 (A'e 115 [.tmp 15,.tmp 16]),to 9 (B'o O [.int .i64 0,.int .i64 0]),too (aSt O ro 2 (.tmp 9) (.tmp 17))]
def ZcU:RL' H:=[mv' 18 1,to 19 (A'e 63 [.tmp 18,.const (.int .i64 10)])]
def ZcV(O:HI H)(ro:Nat):RL' H:=[mv' 20 7,to 21 (B'n O 2 (.tmp 9)),to 22 (A'x O 2 1 #[.int .i64 0,.int .i64 0] [(0,.tmp 21)]),to 23 (B'p O ro 2 16 (.tmp 20) (.tmp 22)),mv' 7 23]
def ZcW:RL' H:=[mv' 13 8,ik' .add 14 13 1,mv' 8 14]
def ZcX:RL' H:=[mv' 24 7,mv' 6 24]
def M'Q:RC' H:=λO P ro=>A'b (A'b (A'c ZcS) (cIf (.tmp 12) (A'f) (A'r 0))) (A'b (A'z 1 (A'b (A'c (ZcT O ro)) (A'b (A'c ZcU) (A'c (ZcV O ro))))) (A'c ZcW))
def F70:RC' H:=λO P ro=>A'b (A'c ZcP) (A'b (A'c ZcQ) (A'b (A'b (A'c ZcR) (A'z 0 (A'1 (M'Q O P ro)))) (A'b (A'c ZcX) (A'y))))
theorem O'1:FN' 70 @F70 [.tmp 6] Tryz.f70:=f'n Tryz.func70
def ZcY(O:HI H):RL' H:=[mv' 10 1,nl' 11 10,fl' 1 12 11,ld' O 13 12,mv' 6 13]
def ZcZ:RL' H:=[mv' 14 1,to 15 (A'e 117 [.tmp 14]),mv' 7 15]
def Zc0:RL' H:=[mv' 16 7,ik' .eql 17 16 0,mv' 18 17,A'a 18 false 19 (mv' 19 7),A'a 18 false 20 (mv' 20 2),A'a 18 false 21 (ia' .gtr 21 19 20),to 22 (A'q (.tmp 18) (.const (.bool true)) (.tmp 21))]
def Zc1:RL' H:=[mv' 23 1,mv' 24 6,to 25 (A'e 67 [.tmp 23,.const (.int .i64 10),.tmp 24])]
def Zc2:RL' H:=[mv' 26 2,mv' 27 7,ia' .sub 28 26 27,mv' 8 28]
def Zc3(O:HI H):RL' H:=[mv' 29 1,nl' 30 29,fl' 1 31 30,ld' O 32 31,mv' 9 32]
def Zc4:RL' H:=[mv' 33 1,to 34 (A'e 117 [.tmp 33]),mv' 7 34]
def Zc5:RL' H:=[mv' 35 7,mv' 36 8,ia' .gtr 37 35 36]
def Zc6:RL' H:=[mv' 38 1,mv' 39 9,to 40 (A'e 67 [.tmp 38,.const (.int .i64 10),.tmp 39])]
def Zc7:RL' H:=[mv' 41 0,mv' 42 2,to 43 (A'e 68 [.tmp 41,.tmp 42])]
def Zc8(O:HI H)(ro:Nat):RL' H:=[mv' 44 0,mv' 45 0,nl' 46 45,fl' 5 47 46,ld' O 48 47,mv' 49 2,mv' 50 6,to 51 (A'l #[.int .i64 0,.int .i64 0] [(0,1),(1,1)] [(0,.tmp 49),(1,.tmp 50)]),mv' 52 8,mv' 53 6,to 54 (A'l #[.int .i64 0,.int .i64 0] [(0,1),(1,1)] [(0,.tmp 52),(1,.tmp 53)]),mv' 55 8,mv' 56 7,ia' .sub 57 55 56,mv' 58 9,to 59 (A'l #[.int .i64 0,.int .i64 0] [(0,1),(1,1)] [(0,.tmp 57),(1,.tmp 58)]),to 60 (A'l #[.int .i64 0,.int .i64 0,.int .i64 0,.int .i64 0,.int .i64 0,.int .i64 0] [(0,2),(2,2),(4,2)] [(0,.tmp 51),(1,.tmp 54),(2,.tmp 59)]),to 61 (A'x O 6 1 #[.int .i64 0,.int .i64 0,.int .i64 0,.int .i64 0,.int .i64 0,.int .i64 0] [(0,.tmp 60)]),to 62 (B'p O ro 6 48 (.tmp 48) (.tmp 61)),nl' 63 44,fl' 5 64 63,too (aSt O ro 1 (.tmp 64) (.tmp 62))]
def F71:RC' H:=λO P ro=>A'b (A'c (ZcY O)) (A'b (A'c ZcZ) (A'b (A'b (A'c Zc0) (cIf (.tmp 22) (A'c Zc1) (A'f))) (A'b (A'c Zc2) (A'b (A'c (Zc3 O)) (A'b (A'c Zc4) (A'b (A'b (A'c Zc5) (cIf (.tmp 37) (A'c Zc6) (A'f))) (A'b (A'c Zc7) (A'c (Zc8 O ro)))))))))
theorem O'2:FN' 71 @F71 [] Tryz.f71:=f'n Tryz.func71
def Zc9(O:HI H):RL' H:=[to 4 (B'o O [.int .i64 0,.int .i64 0])]
def Zda(O:HI H)(ro:Nat):RL' H:=[mv' 6 0,mv' 7 1,to 8 (A'e 115 [.tmp 6,.tmp 7]),to 5 (B'o O [.int .i64 0,.int .i64 0]),too (aSt O ro 2 (.tmp 5) (.tmp 8))]
def Zdb(O:HI H):RL' H:=[fl' 0 9 5,ld' O 10 9,ik' .and 11 10 1,ik' .eql 12 11 1,mv' 13 12,A'a 13 false 14 (mv' 14 0),A'a 13 false 15 (fl' 0 15 5),A'a 13 false 16 (ld' O 16 15),A'a 13 false 17 (to 17 (A'e 118 [.tmp 14,.tmp 16])),to 18 (A'q (.tmp 13) (.const (.bool true)) (.tmp 17))]
def Zdc(O:HI H):RL' H:=[mv' 19 1,fl' 1 20 5,ld' O 21 20,to 22 (A'e 67 [.tmp 19,.const (.int .i64 8),.tmp 21])]
def Zdd(O:HI H):RL' H:=[mv' 23 0,fl' 0 24 5,ld' O 25 24,to 26 (A'e 68 [.tmp 23,.tmp 25])]
def Zde(O:HI H)(ro:Nat):RL' H:=[to 27 (B'n O 2 (.tmp 5)),too (aSt O ro 2 (.tmp 4) (.tmp 27))]
def F72:RC' H:=λO P ro=>A'b (A'c (Zc9 O)) (A'b (A'c (Zda O ro)) (A'b (A'b (A'c (Zdb O)) (cIf (.tmp 18) (A'c (Zdc O)) (A'f))) (A'b (A'c (Zdd O)) (A'b (A'c (Zde O ro)) (A'y)))))
theorem O'3:FN' 72 @F72 [.cell 4 119] Tryz.f72:=f'n Tryz.func72
def Zdf(O:HI H)(ro:Nat):RL' H:=[mv' 7 0,mv' 8 1,to 9 (A'e 72 [.tmp 7,.tmp 8]),to 4 (B'o O [.int .i64 0,.int .i64 0]),too (aSt O ro 2 (.tmp 4) (.tmp 9))]
def Zdg:RL' H:=[mv' 10 1,to 11 (A'e 63 [.tmp 10,.const (.int .i64 32)])]
def Zdh(O:HI H)(ro:Nat):RL' H:=[mv' 12 0,mv' 13 1,to 14 (A'e 115 [.tmp 12,.tmp 13]),to 5 (B'o O [.int .i64 0,.int .i64 0]),too (aSt O ro 2 (.tmp 5) (.tmp 14))]
def Zdi:RL' H:=[mv' 15 1,to 16 (A'e 63 [.tmp 15,.const (.int .i64 32)])]
def Zdj(O:HI H)(ro:Nat):RL' H:=[mv' 17 0,mv' 18 1,to 19 (A'e 115 [.tmp 17,.tmp 18]),to 6 (B'o O [.int .i64 0,.int .i64 0]),too (aSt O ro 2 (.tmp 6) (.tmp 19))]
def Zdk:RL' H:=[mv' 20 1,to 21 (A'e 63 [.tmp 20,.const (.int .i64 10)])]
def Zdl(O:HI H)(ro:Nat):RL' H:=[mv' 22 0,mv' 23 0,nl' 24 23,fl' 5 25 24,ld' O 26 25,to 27 (B'n O 2 (.tmp 4)),to 28 (B'n O 2 (.tmp 5)),to 29 (B'n O 2 (.tmp 6)),to 30 (A'l #[.int .i64 0,.int .i64 0,.int .i64 0,.int .i64 0,.int .i64 0,.int .i64 0] [(0,2),(2,2),(4,2)] [(0,.tmp 27),(1,.tmp 28),(2,.tmp 29)]),to 31 (A'x O 6 1 #[.int .i64 0,.int .i64 0,.int .i64 0,.int .i64 0,.int .i64 0,.int .i64 0] [(0,.tmp 30)]),to 32 (B'p O ro 6 48 (.tmp 26) (.tmp 31)),nl' 33 22,fl' 5 34 33,too (aSt O ro 1 (.tmp 34) (.tmp 32))]
def F73:RC' H:=λO P ro=>A'b (A'c (Zdf O ro)) (A'b (A'c Zdg) (A'b (A'c (Zdh O ro)) (A'b (A'c Zdi) (A'b (A'c (Zdj O ro)) (A'b (A'c Zdk) (A'c (Zdl O ro)))))))
theorem O'4:FN' 73 @F73 [] Tryz.f73:=f'n Tryz.func73
def Zdm(O:HI H):RL' H:=[to 5 (B'r O (.tmp 2))]
def Zdn(O:HI H):RL' H:=[mv' 6 0,fl' 0 7 5,ld' O 8 7,to 9 (A'e 118 [.tmp 6,.tmp 8]),to 10 (aUn .not (.tmp 9))]
def Zdo(O:HI H):RL' H:=[mv' 11 1,fl' 1 12 5,ld' O 13 12,to 14 (A'e 67 [.tmp 11,.const (.int .i64 11),.tmp 13])]
def F75:RC' H:=λO P ro=>A'b (A'c (Zdm O)) (A'b (A'c (Zdn O)) (cIf (.tmp 10) (A'c (Zdo O)) (A'f)))
theorem L'S:FN' 75 @F75 [] Tryz.f75:=f'n Tryz.func75
def Zdp:RL' H:=[to 2 (A'i (.const (.pointer none)))]
def Zdq(O:HI H):RL' H:=[to 7 (A'l #[.slice none 0 0,.int .i64 0] [(0,1),(1,1)] []),to 8 (B'r O (.tmp 7)),mv' 3 8]
def Zdr:RL' H:=[mk' 4 0]
def Zds(O:HI H):RL' H:=[mv' 9 4,mv' 10 0,nl' 11 10,fl' 0 12 11,ld' O 13 12,ln' 14 13,ia' .lss 15 9 14]
def Zdt(O:HI H)(ro:Nat):RL' H:=[mv' 18 3,mv' 19 3,nl' 20 19,fl' 0 21 20,ld' O 22 21,to 23 (A'x O 1 1 #[.int .i64 0] [(0,.const (.int .i64 (-1)))]),to 24 (B'p O ro 1 8 (.tmp 22) (.tmp 23)),nl' 25 18,fl' 0 26 25,too (aSt O ro 1 (.tmp 26) (.tmp 24))]
def Zdu:RL' H:=[mv' 16 4,ik' .add 17 16 1,mv' 4 17]
def Zdv:RL' H:=[mv' 27 3,to 28 (A'e 120 [.tmp 27,.const (.int .i64 0)])]
def Zdw:RL' H:=[mk' 5 0]
def Zdx(O:HI H):RL' H:=[mv' 29 5,mv' 30 0,nl' 31 30,fl' 1 32 31,ld' O 33 32,ln' 34 33,ia' .lss 35 29 34]
def Zdy(O:HI H):RL' H:=[mv' 38 3,mv' 39 0,nl' 40 39,fl' 1 41 40,ld' O 42 41,mv' 43 5,ix' 1 44 42 43,ld' O 45 44,to 46 (A'e 120 [.tmp 38,.tmp 45])]
def Zdz:RL' H:=[mv' 36 5,ik' .add 37 36 1,mv' 5 37]
def ZdA:RL' H:=[mk' 6 0]
def ZdB(O:HI H):RL' H:=[mv' 47 6,mv' 48 0,nl' 49 48,fl' 2 50 49,ld' O 51 50,ln' 52 51,ia' .lss 53 47 52]
def ZdC(O:HI H):RL' H:=[mv' 56 3,mv' 57 0,nl' 58 57,fl' 2 59 58,ld' O 60 59,mv' 61 6,ix' 4 62 60 61,fl' 0 63 62,ld' O 64 63,to 65 (A'e 120 [.tmp 56,.tmp 64])]
def ZdD:RL' H:=[mv' 54 6,ik' .add 55 54 1,mv' 6 55]
def ZdE:RL' H:=[mv' 66 3,mv' 2 66]
def K'k:RC' H:=λO P ro=>A'b (A'b (A'c (Zds O)) (cIf (.tmp 15) (A'f) (A'r 0))) (A'b (A'z 1 (A'c (Zdt O ro))) (A'c Zdu))
def K'l:RC' H:=λO P ro=>A'b (A'b (A'c (Zdx O)) (cIf (.tmp 35) (A'f) (A'r 2))) (A'b (A'z 3 (A'c (Zdy O))) (A'c Zdz))
def K'm:RC' H:=λO P ro=>A'b (A'b (A'c (ZdB O)) (cIf (.tmp 53) (A'f) (A'r 4))) (A'b (A'z 5 (A'c (ZdC O))) (A'c ZdD))
def F76:RC' H:=λO P ro=>A'b (A'c Zdp) (A'b (A'c (Zdq O)) (A'b (A'b (A'c Zdr) (A'z 0 (A'1 (K'k O P ro)))) (A'b (A'c Zdv) (A'b (A'b (A'c Zdw) (A'z 2 (A'1 (K'l O P ro)))) (A'b (A'b (A'c ZdA) (A'z 4 (A'1 (K'm O P ro)))) (A'b (A'c ZdE) (A'y)))))))
theorem O'5:FN' 76 @F76 [.tmp 2] Tryz.f76:=f'n Tryz.func76
def ZdF:RL' H:=[mk' 4 0]
def ZdG:RL' H:=[mk' 5 0]
def ZdH:RL' H:=[mv' 9 5,mv' 10 1,ln' 11 10,ia' .lss 12 9 11]
def ZdI(O:HI H):RL' H:=[mv' 15 0,mv' 16 1,mv' 17 5,ix' 6 18 16 17,fl' 0 19 18,fl' 0 20 19,ld' O 21 20,to 22 (A'e 121 [.tmp 15,.tmp 21]),mv' 6 22]
def ZdJ(O:HI H):RL' H:=[mv' 23 0,mv' 24 1,mv' 25 5,ix' 6 26 24 25,fl' 2 27 26,fl' 0 28 27,ld' O 29 28,to 30 (A'e 121 [.tmp 23,.tmp 29]),mv' 7 30]
def ZdK(O:HI H):RL' H:=[mv' 31 0,mv' 32 1,mv' 33 5,ix' 6 34 32 33,fl' 4 35 34,fl' 0 36 35,ld' O 37 36,to 38 (A'e 121 [.tmp 31,.tmp 37]),mv' 8 38]
def ZdL:RL' H:=[mv' 39 6,to 40 (A'5 .eql (.tmp 39) (.const (.int .i64 (-1)))),mv' 41 40,A'a 41 true 42 (mv' 42 7),A'a 41 true 43 (to 43 (A'5 .neq (.tmp 42) (.const (.int .i64 (-1))))),to 44 (A'q (.tmp 41) (.tmp 43) (.const (.bool false))),mv' 45 44,A'a 45 true 46 (mv' 46 8),A'a 45 true 47 (to 47 (A'5 .neq (.tmp 46) (.const (.int .i64 (-1))))),to 48 (A'q (.tmp 45) (.tmp 47) (.const (.bool false)))]
def ZdM:RL' H:=[mv' 49 5,mv' 4 49]
def ZdN:RL' H:=[mv' 13 5,ik' .add 14 13 1,mv' 5 14]
def ZdO:RL' H:=[to 4 (A'i (.const (.int .i64 (-1))))]
def H'K:RC' H:=λO P ro=>A'b (A'b (A'c ZdH) (cIf (.tmp 12) (A'f) (A'r 0))) (A'b (A'z 1 (A'b (A'c (ZdI O)) (A'b (A'c (ZdJ O)) (A'b (A'c (ZdK O)) (A'b (A'c ZdL) (cIf (.tmp 48) (A'b (A'c ZdM) (A'y)) (A'f))))))) (A'c ZdN))
def F77:RC' H:=λO P ro=>A'b (A'c ZdF) (A'b (A'b (A'c ZdG) (A'z 0 (A'1 (H'K O P ro)))) (A'b (A'c ZdO) (A'y)))
theorem O'6:FN' 77 @F77 [.tmp 4] Tryz.f77:=f'n Tryz.func77
def ZdP:RL' H:=[mk' 4 0]
def ZdQ:RL' H:=[mk' 5 0]
def ZdR:RL' H:=[mv' 7 5,mv' 8 1,ln' 9 8,ia' .lss 10 7 9]
def ZdS(O:HI H):RL' H:=[mv' 13 0,mv' 14 1,mv' 15 5,ix' 6 16 14 15,fl' 0 17 16,fl' 0 18 17,ld' O 19 18,to 20 (A'e 121 [.tmp 13,.tmp 19]),mv' 6 20]
def ZdT:RL' H:=[mv' 21 6,to 22 (A'5 .eql (.tmp 21) (.const (.int .i64 (-1))))]
def ZdU(O:HI H):RL' H:=[mv' 23 1,mv' 24 5,ix' 6 25 23 24,fl' 0 26 25,fl' 1 27 26,ld' O 28 27,mv' 4 28]
def ZdV:RL' H:=[mv' 11 5,ik' .add 12 11 1,mv' 5 12]
def ZdW:RL' H:=[mk' 4 0]
def K'n:RC' H:=λO P ro=>A'b (A'b (A'c ZdR) (cIf (.tmp 10) (A'f) (A'r 0))) (A'b (A'z 1 (A'b (A'c (ZdS O)) (A'b (A'c ZdT) (cIf (.tmp 22) (A'b (A'c (ZdU O)) (A'y)) (A'f))))) (A'c ZdV))
def F78:RC' H:=λO P ro=>A'b (A'c ZdP) (A'b (A'b (A'c ZdQ) (A'z 0 (A'1 (K'n O P ro)))) (A'b (A'c ZdW) (A'y)))
theorem O'7:FN' 78 @F78 [.tmp 4] Tryz.f78:=f'n Tryz.func78
def ZdX(O:HI H):RL' H:=[to 5 (B'r O (.tmp 2))]
def ZdY(O:HI H):RL' H:=[mv' 8 0,fl' 2 9 5,fl' 0 10 9,ld' O 11 10,to 12 (A'e 80 [.tmp 8,.tmp 11]),mv' 6 12]
def ZdZ(O:HI H):RL' H:=[mv' 13 0,fl' 4 14 5,fl' 0 15 14,ld' O 16 15,to 17 (A'e 80 [.tmp 13,.tmp 16]),mv' 7 17]
def Zd0:RL' H:=[mv' 18 6,mv' 19 7,ia' .lss 20 18 19]
def Zd1:RL' H:=[mv' 21 7,mv' 22 6,mv' 6 21,mv' 7 22]
def Zd2(O:HI H)(ro:Nat):RL' H:=[mv' 23 1,mv' 24 1,nl' 25 24,fl' 2 26 25,ld' O 27 26,mv' 28 6,mv' 29 7,to 30 (A'l #[.int .i64 0,.int .i64 0] [(0,1),(1,1)] [(0,.tmp 28),(1,.tmp 29)]),to 31 (A'x O 2 1 #[.int .i64 0,.int .i64 0] [(0,.tmp 30)]),to 32 (B'p O ro 2 16 (.tmp 27) (.tmp 31)),nl' 33 23,fl' 2 34 33,too (aSt O ro 1 (.tmp 34) (.tmp 32))]
def Zd3(O:HI H):RL' H:=[mv' 35 0,fl' 0 36 5,fl' 0 37 36,ld' O 38 37,to 39 (A'e 120 [.tmp 35,.tmp 38])]
def F79:RC' H:=λO P ro=>A'b (A'c (ZdX O)) (A'b (A'c (ZdY O)) (A'b (A'c (ZdZ O)) (A'b (A'b (A'c Zd0) (cIf (.tmp 20) (A'c Zd1) (A'f))) (A'b (A'c (Zd2 O ro)) (A'c (Zd3 O))))))
theorem O'8:FN' 79 @F79 [] Tryz.f79:=f'n Tryz.func79
def Zd4:RL' H:=[mk' 4 0]
def Zd5:RL' H:=[mv' 6 0,mv' 7 1,to 8 (A'e 121 [.tmp 6,.tmp 7]),mv' 5 8]
def Zd6:RL' H:=[mv' 9 5,to 10 (A'5 .mul (.const (.int .i64 2)) (.tmp 9)),mv' 11 1,ik' .and 12 11 1,ia' .add 13 10 12,mv' 4 13]
def F80:RC' H:=λO P ro=>A'b (A'c Zd4) (A'b (A'c Zd5) (A'b (A'c Zd6) (A'y)))
theorem O'9:FN' 80 @F80 [.tmp 4] Tryz.f80:=f'n Tryz.func80
def Zd7:RL' H:=[mk' 2 0]
def Zd8(O:HI H):RL' H:=[mv' 3 0,nl' 4 3,fl' 4 5 4,ld' O 6 5,ln' 7 6,ik' .gtr 8 7 0]
def Zd9(O:HI H):RL' H:=[mv' 9 0,nl' 10 9,fl' 4 11 10,ld' O 12 11,to 13 (B'A 2 (.tmp 12) (.const (.int .i64 0))),fl' 0 14 13,ld' O 15 14,mv' 2 15]
def Zea(O:HI H):RL' H:=[mv' 16 0,nl' 17 16,fl' 3 18 17,ld' O 19 18,ln' 20 19,ik' .gtr 21 20 0]
def Zeb(O:HI H):RL' H:=[mv' 22 0,nl' 23 22,fl' 3 24 23,ld' O 25 24,to 26 (B'A 2 (.tmp 25) (.const (.int .i64 0))),fl' 0 27 26,ld' O 28 27,mv' 2 28]
def Zec:RL' H:=[mk' 2 0]
def F81:RC' H:=λO P ro=>A'b (A'c Zd7) (A'b (A'b (A'c (Zd8 O)) (cIf (.tmp 8) (A'b (A'c (Zd9 O)) (A'y)) (A'f))) (A'b (A'b (A'c (Zea O)) (cIf (.tmp 21) (A'b (A'c (Zeb O)) (A'y)) (A'f))) (A'b (A'c Zec) (A'y))))
theorem P'a:FN' 81 @F81 [.tmp 2] Tryz.f81:=f'n Tryz.func81
def Zed:RL' H:=[to 2 (A'i (.const (.bool false)))]
def Zee:RL' H:=[mv' 3 0,ik' .geq 4 3 48,mv' 5 4,A'a 5 true 6 (mv' 6 0),A'a 5 true 7 (ik' .leq 7 6 57),to 8 (A'q (.tmp 5) (.tmp 7) (.const (.bool false))),mv' 2 8]
def R'J:RC' H:=λO P ro=>A'b (A'c Zed) (A'b (A'c Zee) (A'y))
theorem M'R:FN' 113 @R'J [.tmp 2] Tryz.f113:=f'n Tryz.func113
def Zef:RL' H:=[to 4 (A'i (.const (.bool false)))]
def Zeg(O:HI H):RL' H:=[mv' 5 1,ik' .geq 6 5 0,mv' 7 6,A'a 7 true 8 (mv' 8 1),A'a 7 true 9 (to 9 (A'w .shr (.tmp 8) (.const (.int .u64 1)))),A'a 7 true 10 (mv' 10 0),A'a 7 true 11 (nl' 11 10),A'a 7 true 12 (fl' 0 12 11),A'a 7 true 13 (ld' O 13 12),A'a 7 true 14 (ln' 14 13),A'a 7 true 15 (ia' .lss 15 9 14),to 16 (A'q (.tmp 7) (.tmp 15) (.const (.bool false))),mv' 4 16]
def Q'1:RC' H:=λO P ro=>A'b (A'c Zef) (A'b (A'c (Zeg O)) (A'y))
theorem M'S:FN' 114 @Q'1 [.tmp 4] Tryz.f114:=f'n Tryz.func114
def Zeh(O:HI H):RL' H:=[to 4 (B'o O [.int .i64 0,.int .i64 0])]
def Zei(O:HI H):RL' H:=[mv' 7 1,nl' 8 7,fl' 1 9 8,ld' O 10 9,mv' 5 10]
def Zej:RL' H:=[mv' 11 1,to 12 (A'e 66 [.tmp 11]),mv' 6 12]
def Zek:RL' H:=[mv' 13 0,mv' 14 6,to 15 (A'e 114 [.tmp 13,.tmp 14]),to 16 (aUn .not (.tmp 15))]
def Zel:RL' H:=[mv' 17 1,mv' 18 5,to 19 (A'e 67 [.tmp 17,.const (.int .i64 7),.tmp 18])]
def Zem(O:HI H)(ro:Nat):RL' H:=[mv' 20 6,mv' 21 5,to 22 (A'l #[.int .i64 0,.int .i64 0] [(0,1),(1,1)] [(0,.tmp 20),(1,.tmp 21)]),too (aSt O ro 2 (.tmp 4) (.tmp 22))]
def Q'7:RC' H:=λO P ro=>A'b (A'c (Zeh O)) (A'b (A'c (Zei O)) (A'b (A'c Zej) (A'b (A'b (A'c Zek) (cIf (.tmp 16) (A'c Zel) (A'f))) (A'b (A'c (Zem O ro)) (A'y)))))
theorem I'H:FN' 115 @Q'7 [.cell 4 119] Tryz.f115:=f'n Tryz.func115
def Zen:RL' H:=[mk' 4 0]
def Zeo(O:HI H):RL' H:=[mv' 6 0,nl' 7 6,fl' 1 8 7,ld' O 9 8,mv' 5 9]
def Zep:RL' H:=[mv' 10 0,to 11 (A'e 66 [.tmp 10])]
def Zeq:RL' H:=[ik' .eql 13 11 0,mv' 12 13]
def Zer:RL' H:=[mk' 4 0]
def Zes:RL' H:=[ik' .eql 15 11 1,mv' 14 15]
def Zet:RL' H:=[mk' 4 1]
def Zeu:RL' H:=[mv' 17 1,ia' .eql 18 11 17,mv' 16 18]
def Zev:RL' H:=[mk' 4 2]
def Zew:RL' H:=[mv' 19 0,mv' 20 5,to 21 (A'e 67 [.tmp 19,.const (.int .i64 9),.tmp 20])]
def Zex:RL' H:=[mk' 4 0]
def P'b:RC' H:=λO P ro=>A'b (A'c Zen) (A'b (A'c (Zeo O)) (A'b (A'b (A'c Zep) (A'z 0 (A'b (A'c Zeq) (cIf (.tmp 12) (A'b (A'c Zer) (A'y)) (A'b (A'c Zes) (cIf (.tmp 14) (A'b (A'c Zet) (A'y)) (A'b (A'c Zeu) (cIf (.tmp 16) (A'b (A'c Zev) (A'y)) (A'f))))))))) (A'b (A'c Zew) (A'b (A'c Zex) (A'y)))))
theorem F'd:FN' 116 @P'b [.tmp 4] Tryz.f116:=f'n Tryz.func116
def Zey:RL' H:=[mk' 2 0]
def Zez:RL' H:=[mv' 5 0,to 6 (A'e 155 [.tmp 5,.const (.int .i64 256)]),mv' 3 6]
def ZeA:RL' H:=[mv' 7 3,ik' .lss 8 7 128]
def ZeB:RL' H:=[mv' 9 3,mv' 2 9]
def ZeC:RL' H:=[mv' 10 0,to 11 (A'e 155 [.tmp 10,.const (.int .i64 128)]),mv' 4 11]
def ZeD:RL' H:=[mv' 12 3,ik' .sub 13 12 128,mv' 14 4,to 15 (A'5 .mul (.const (.int .i64 128)) (.tmp 14)),ia' .add 16 13 15,mv' 2 16]
def Q'8:RC' H:=λO P ro=>A'b (A'c Zey) (A'b (A'c Zez) (A'b (A'b (A'c ZeA) (cIf (.tmp 8) (A'b (A'c ZeB) (A'y)) (A'f))) (A'b (A'c ZeC) (A'b (A'c ZeD) (A'y)))))
theorem I'I:FN' 117 @Q'8 [.tmp 2] Tryz.f117:=f'n Tryz.func117
def ZeE:RL' H:=[to 4 (A'i (.const (.bool false)))]
def ZeF(O:HI H):RL' H:=[mv' 5 0,mv' 6 1,to 7 (A'e 114 [.tmp 5,.tmp 6]),mv' 8 7,A'a 8 true 9 (mv' 9 0),A'a 8 true 10 (nl' 10 9),A'a 8 true 11 (fl' 0 11 10),A'a 8 true 12 (ld' O 12 11),A'a 8 true 13 (mv' 13 1),A'a 8 true 14 (to 14 (A'w .shr (.tmp 13) (.const (.int .u64 1)))),A'a 8 true 15 (ix' 1 15 12 14),A'a 8 true 16 (ld' O 16 15),to 17 (A'q (.tmp 8) (.tmp 16) (.const (.bool false))),mv' 4 17]
def Q'9:RC' H:=λO P ro=>A'b (A'c ZeE) (A'b (A'c (ZeF O)) (A'y))
theorem M'T:FN' 118 @Q'9 [.tmp 4] Tryz.f118:=f'n Tryz.func118
def ZeG:RL' H:=[mv' 5 1,to 6 (A'w .shr (.tmp 5) (.const (.int .u64 1))),mv' 4 6]
def ZeH(O:HI H):RL' H:=[mv' 7 4,ik' .lss 8 7 0,mv' 9 8,A'a 9 false 10 (mv' 10 4),A'a 9 false 11 (mv' 11 0),A'a 9 false 12 (nl' 12 11),A'a 9 false 13 (fl' 0 13 12),A'a 9 false 14 (ld' O 14 13),A'a 9 false 15 (ln' 15 14),A'a 9 false 16 (ia' .geq 16 10 15),to 17 (A'q (.tmp 9) (.const (.bool true)) (.tmp 16))]
def ZeI(O:HI H)(ro:Nat):RL' H:=[mv' 18 0,nl' 19 18,fl' 0 20 19,ld' O 21 20,mv' 22 4,mv' 23 0,nl' 24 23,fl' 1 25 24,ld' O 26 25,ix' 1 27 21 22,too (aSt O ro 1 (.tmp 27) (.tmp 26))]
def ZeJ(O:HI H)(ro:Nat):RL' H:=[mv' 28 0,nl' 29 28,fl' 1 30 29,ld' O 31 30,ik' .add 32 31 1,nl' 33 28,fl' 1 34 33,too (aSt O ro 1 (.tmp 34) (.tmp 32))]
def Q'2:RC' H:=λO P ro=>A'b (A'c ZeG) (A'b (A'b (A'c (ZeH O)) (cIf (.tmp 17) (A'y) (A'f))) (A'b (A'c (ZeI O ro)) (A'c (ZeJ O ro))))
theorem G's:FN' 120 @Q'2 [] Tryz.f120:=f'n Tryz.func120
def ZeK:RL' H:=[mk' 4 0]
def ZeL:RL' H:=[mv' 6 1,to 7 (A'w .shr (.tmp 6) (.const (.int .u64 1))),mv' 5 7]
def ZeM(O:HI H):RL' H:=[mv' 8 5,ik' .lss 9 8 0,mv' 10 9,A'a 10 false 11 (mv' 11 5),A'a 10 false 12 (mv' 12 0),A'a 10 false 13 (nl' 13 12),A'a 10 false 14 (fl' 0 14 13),A'a 10 false 15 (ld' O 15 14),A'a 10 false 16 (ln' 16 15),A'a 10 false 17 (ia' .geq 17 11 16),to 18 (A'q (.tmp 10) (.const (.bool true)) (.tmp 17))]
def ZeN:RL' H:=[to 4 (A'i (.const (.int .i64 (-1))))]
def ZeO(O:HI H):RL' H:=[mv' 19 0,nl' 20 19,fl' 0 21 20,ld' O 22 21,mv' 23 5,ix' 1 24 22 23,ld' O 25 24,mv' 4 25]
def Q'3:RC' H:=λO P ro=>A'b (A'c ZeK) (A'b (A'c ZeL) (A'b (A'b (A'c (ZeM O)) (cIf (.tmp 18) (A'b (A'c ZeN) (A'y)) (A'f))) (A'b (A'c (ZeO O)) (A'y))))
theorem M'U:FN' 121 @Q'3 [.tmp 4] Tryz.f121:=f'n Tryz.func121
def ZeP:RL' H:=[mk' 4 0]
def ZeQ:RL' H:=[mv' 6 0,to 7 (A'e 65 [.tmp 6]),mv' 5 7]
def ZeR:RL' H:=[mv' 8 5,to 9 (A'5 .eql (.tmp 8) (.const (.int .i64 (-1)))),mv' 10 9,A'a 10 false 11 (mv' 11 5),A'a 10 false 12 (mv' 12 1),A'a 10 false 13 (ia' .geq 13 11 12),to 14 (A'q (.tmp 10) (.const (.bool true)) (.tmp 13))]
def ZeS(O:HI H):RL' H:=[mv' 15 0,mv' 16 0,nl' 17 16,fl' 1 18 17,ld' O 19 18,to 20 (A'e 67 [.tmp 15,.const (.int .i64 2),.tmp 19])]
def ZeT:RL' H:=[mk' 4 0]
def ZeU(O:HI H)(ro:Nat):RL' H:=[mv' 21 0,nl' 22 21,fl' 1 23 22,ld' O 24 23,ik' .add 25 24 1,nl' 26 21,fl' 1 27 26,too (aSt O ro 1 (.tmp 27) (.tmp 25))]
def ZeV:RL' H:=[mv' 28 5,mv' 4 28]
def Q'4:RC' H:=λO P ro=>A'b (A'c ZeP) (A'b (A'c ZeQ) (A'b (A'b (A'c ZeR) (cIf (.tmp 14) (A'b (A'c (ZeS O)) (A'b (A'c ZeT) (A'y))) (A'f))) (A'b (A'c (ZeU O ro)) (A'b (A'c ZeV) (A'y)))))
theorem G't:FN' 155 @Q'4 [.tmp 4] Tryz.f155:=f'n Tryz.func155
end
end Go.Proofs.YtimdkminagnhgabGreatDoor
