import Derived.Test.YtimdkminagnhgaaGreatDoorQ04
import Derived.Test.YtimdkminagnhgaaGreatDoorProg
import Derived.KernelRfl
set_option linter.all false
namespace Go.Proofs.YtimdkminagnhgaaGreatDoor
open Go.Vm Go.Proofs
set_option maxRecDepth 100000
section
variable {H:Type}
abbrev FN' (f:FuncId)(F:∀{H:Type},HI H->Program->Nat->B'2 H)(rs:List ResultVar)(fn:Func):Prop:=∀{H:Type}(O:HI H)(ro:Nat),Vm.Fn Tryz.prog O ro f (F O Tryz.prog ro) rs fn
theorem f'n {f:FuncId}{F:∀{H:Type},HI H->Program->Nat->B'2 H}{rs:List ResultVar}{fn:Func}(h:Tryz.prog.funcs[f]?=some fn)(a:∀{H:Type}(O:HI H)(ro:Nat),K'b O Tryz.prog ro fn=F O Tryz.prog ro:=by intros;kernel_rfl)(b:fn.body.isSome=true:=by kernel_rfl)(d:(match fn.body with|some c=>C'R fn.ntmps c|none=>false)=true:=by kernel_rfl)(e:fn.results.toList=rs:=by kernel_rfl)(g:rs.all (R'W fn.ntmps)=true:=by kernel_rfl):FN' f @F rs fn:=λO ro=>⟨h,a O ro,b,d,e,g⟩
def Zaa(O:HI H):RL' H:=[to 2 (A'h (.const (.pointer none))),to 3 (B'o O [.int .i64 0,.int .i64 0])]
def Zab:RL' H:=[mv' 7 0,to 8 (B'c (.tmp 7)),ik' .gtr 9 8 1000]
def Zac(O:HI H)(ro:Nat):RL' H:=[to 10 (A'p #[.int .i64 0,.int .i64 0] [(0,1),(1,1)] [(0,.const (.int .i64 1))]),to 2 (A'h (.const (.pointer none))),too (aSt O ro 2 (.tmp 3) (.tmp 10))]
def Zad(O:HI H):RL' H:=[mv' 11 0,to 12 (A'p #[.string ⟨#[]⟩,.int .i64 0,.int .i64 0,.int .i64 0] [(0,1),(1,1),(2,2)] [(0,.tmp 11)]),to 13 (B'y O (.tmp 12)),mv' 4 13]
def Zae(O:HI H)(ro:Nat):RL' H:=[mv' 14 4,to 15 (A'e 45 [.tmp 14]),to 5 (B'o O [.bool false,.int .i64 0,.int .i64 0,.int .i64 0,.int .i64 0,.int .i64 0,.int .i64 0,.int .i64 0]),too (aSt O ro 8 (.tmp 5) (.tmp 15))]
def Zaf(O:HI H):RL' H:=[to 16 (B's O 8 (.tmp 5)),mv' 17 4,to 18 (A'e 46 [.tmp 16,.tmp 17])]
def Zag:RL' H:=[mv' 19 4,to 20 (A'e 47 [.tmp 19])]
def Zah(O:HI H)(ro:Nat):RL' H:=[mv' 21 4,nl' 22 21,fl' 2 23 22,to 24 (B's O 2 (.tmp 23)),to 2 (A'h (.const (.pointer none))),too (aSt O ro 2 (.tmp 3) (.tmp 24))]
def Zai(O:HI H):RL' H:=[fl' 1 25 5,ld' O 26 25,to 27 (A'e 48 [.tmp 26]),mv' 6 27]
def Zaj(O:HI H):RL' H:=[fl' 0 28 5,ld' O 29 28]
def Zak(O:HI H):RL' H:=[mv' 30 6,mv' 31 4,to 32 (B's O 8 (.tmp 5)),to 33 (A'e 49 [.tmp 30,.tmp 31,.tmp 32])]
def Zal(O:HI H):RL' H:=[mv' 34 6,mv' 35 4,to 36 (B's O 8 (.tmp 5)),to 37 (A'e 50 [.tmp 34,.tmp 35,.tmp 36])]
def Zam(O:HI H):RL' H:=[mv' 38 4,to 39 (B's O 8 (.tmp 5)),to 40 (A'e 51 [.tmp 38,.tmp 39])]
def Zan:RL' H:=[mv' 41 6,mv' 42 4,to 43 (A'e 52 [.tmp 41,.tmp 42])]
def Zao:RL' H:=[mv' 44 4,to 45 (A'e 47 [.tmp 44])]
def Zap(O:HI H)(ro:Nat):RL' H:=[mv' 46 4,nl' 47 46,fl' 2 48 47,to 49 (B's O 2 (.tmp 48)),to 2 (A'h (.const (.pointer none))),too (aSt O ro 2 (.tmp 3) (.tmp 49))]
def Zaq(O:HI H)(ro:Nat):RL' H:=[mv' 50 6,to 51 (A'e 53 [.tmp 50]),to 52 (B'O (.tmp 51) 0),to 53 (B'O (.tmp 51) 1),mv' 2 52,too (aSt O ro 2 (.tmp 3) (.tmp 53))]
def F25:RC' H:=λO P ro=>A'a (A'b (Zaa O)) (A'a (A'a (A'b Zab) (cIf (.tmp 9) (A'a (A'b (Zac O ro)) (A'B)) (A'f))) (A'a (A'b (Zad O)) (A'a (A'b (Zae O ro)) (A'a (A'b (Zaf O)) (A'a (A'a (A'b Zag) (cIf (.tmp 20) (A'a (A'b (Zah O ro)) (A'B)) (A'f))) (A'a (A'b (Zai O)) (A'a (A'a (A'b (Zaj O)) (cIf (.tmp 29) (A'b (Zak O)) (A'b (Zal O)))) (A'a (A'b (Zam O)) (A'a (A'b Zan) (A'a (A'a (A'b Zao) (cIf (.tmp 45) (A'a (A'b (Zap O ro)) (A'B)) (A'f))) (A'a (A'b (Zaq O ro)) (A'B))))))))))))
theorem O'l:FN' 25 @F25 [.tmp 2,.cell 3 37] Tryz.f25:=f'n Tryz.func25
def Zar(O:HI H):RL' H:=[to 2 (B'o O [.bool false,.int .i64 0,.int .i64 0,.int .i64 0,.int .i64 0,.int .i64 0,.int .i64 0,.int .i64 0])]
def Zas:RL' H:=[mv' 6 0,to 7 (A'e 84 [.tmp 6,.const (.int .i64 97)])]
def Zat:RL' H:=[mv' 8 0,to 9 (A'e 85 [.tmp 8,.const (.int .i64 105)]),mv' 3 9]
def Zau:RL' H:=[mv' 10 3,to 11 (aUn .not (.tmp 10))]
def Zav:RL' H:=[mv' 12 0,to 13 (A'e 84 [.tmp 12,.const (.int .i64 97)])]
def Zaw:RL' H:=[mv' 14 0,to 15 (A'e 84 [.tmp 14,.const (.int .i64 103)])]
def Zax(O:HI H):RL' H:=[to 4 (B'o O [.int .i64 0,.int .i64 0,.int .i64 0,.int .i64 0,.int .i64 0,.int .i64 0,.int .i64 0,.int .i64 0,.int .i64 0])]
def Zay:RL' H:=[mk' 5 0]
def Zaz:RL' H:=[mv' 16 5,ik' .lss 17 16 9]
def ZaA:RL' H:=[mv' 20 5,ik' .geq 21 20 5,mv' 22 21,A'd 22 true 23 (mv' 23 0),A'd 22 true 24 (to 24 (A'e 86 [.tmp 23])),A'd 22 true 25 (ik' .neq 25 24 32),to 26 (A'w (.tmp 22) (.tmp 25) (.const (.bool false)))]
def ZaB:RL' H:=[mv' 27 0,to 28 (A'e 84 [.tmp 27,.const (.int .i64 32)])]
def ZaC(O:HI H)(ro:Nat):RL' H:=[mv' 29 5,mv' 30 0,to 31 (A'e 87 [.tmp 30]),to 32 (A'k 9 1 (.tmp 4) (.tmp 29)),too (aSt O ro 1 (.tmp 32) (.tmp 31))]
def ZaD:RL' H:=[mv' 18 5,ik' .add 19 18 1,mv' 5 19]
def ZaE:RL' H:=[mv' 33 0,to 34 (A'e 84 [.tmp 33,.const (.int .i64 10)])]
def ZaF(O:HI H)(ro:Nat):RL' H:=[mv' 35 3,to 36 (A'k 9 1 (.tmp 4) (.const (.int .i64 0))),ld' O 37 36,to 38 (A'k 9 1 (.tmp 4) (.const (.int .i64 1))),ld' O 39 38,to 40 (A'k 9 1 (.tmp 4) (.const (.int .i64 2))),ld' O 41 40,to 42 (A'k 9 1 (.tmp 4) (.const (.int .i64 3))),ld' O 43 42,to 44 (A'k 9 1 (.tmp 4) (.const (.int .i64 4))),ld' O 45 44,to 46 (A'k 9 1 (.tmp 4) (.const (.int .i64 5))),ld' O 47 46,to 48 (A'k 9 1 (.tmp 4) (.const (.int .i64 6))),ld' O 49 48,to 50 (A'k 9 1 (.tmp 4) (.const (.int .i64 7))),ld' O 51 50,ia' .add 52 49 51,to 53 (A'k 9 1 (.tmp 4) (.const (.int .i64 8))),ld' O 54 53,ia' .add 55 52 54,to 56 (A'p #[.bool false,.int .i64 0,.int .i64 0,.int .i64 0,.int .i64 0,.int .i64 0,.int .i64 0,.int .i64 0] [(0,1),(1,1),(2,1),(3,1),(4,1),(5,1),(6,1),(7,1)] [(0,.tmp 35),(1,.tmp 37),(2,.tmp 39),(3,.tmp 41),(4,.tmp 43),(5,.tmp 45),(6,.tmp 47),(7,.tmp 55)]),too (aSt O ro 8 (.tmp 2) (.tmp 56))]
def H'z:RC' H:=λO P ro=>A'a (A'a (A'b Zaz) (cIf (.tmp 17) (A'f) (A'n 0))) (A'a (A'x 1 (A'a (A'a (A'b ZaA) (cIf (.tmp 26) (A'n 0) (A'f))) (A'a (A'b ZaB) (A'b (ZaC O ro))))) (A'b ZaD))
def F45:RC' H:=λO P ro=>A'a (A'b (Zar O)) (A'a (A'b Zas) (A'a (A'b Zat) (A'a (A'a (A'b Zau) (cIf (.tmp 11) (A'b Zav) (A'f))) (A'a (A'b Zaw) (A'a (A'b (Zax O)) (A'a (A'a (A'b Zay) (A'x 0 (A'Y (H'z O P ro)))) (A'a (A'b ZaE) (A'a (A'b (ZaF O ro)) (A'B)))))))))
theorem R'X:FN' 45 @F45 [.cell 2 78] Tryz.f45:=f'n Tryz.func45
def ZaG(O:HI H):RL' H:=[to 2 (B'y O (.tmp 0))]
def ZaH(O:HI H):RL' H:=[fl' 1 5 2,ld' O 6 5,ik' .gtr 7 6 80,mv' 8 7,A'd 8 false 9 (fl' 2 9 2),A'd 8 false 10 (ld' O 10 9),A'd 8 false 11 (ik' .gtr 11 10 4),to 12 (A'w (.tmp 8) (.const (.bool true)) (.tmp 11)),mv' 13 12,A'd 13 false 14 (fl' 3 14 2),A'd 13 false 15 (ld' O 15 14),A'd 13 false 16 (ik' .gtr 16 15 6),to 17 (A'w (.tmp 13) (.const (.bool true)) (.tmp 16)),mv' 18 17,A'd 18 false 19 (fl' 4 19 2),A'd 18 false 20 (ld' O 20 19),A'd 18 false 21 (ik' .gtr 21 20 4),to 22 (A'w (.tmp 18) (.const (.bool true)) (.tmp 21)),mv' 23 22,A'd 23 false 24 (fl' 5 24 2),A'd 23 false 25 (ld' O 25 24),A'd 23 false 26 (ik' .gtr 26 25 60),to 27 (A'w (.tmp 23) (.const (.bool true)) (.tmp 26))]
def ZaI:RL' H:=[mv' 28 1,to 29 (A'e 88 [.tmp 28,.const (.int .i64 3),.const (.int .i64 0)])]
def ZaJ(O:HI H):RL' H:=[fl' 2 30 2,ld' O 31 30,fl' 3 32 2,ld' O 33 32,ia' .add 34 31 33,fl' 5 35 2,ld' O 36 35,ia' .add 37 34 36,mv' 4 37]
def ZaK(O:HI H):RL' H:=[mv' 38 4,fl' 1 39 2,ld' O 40 39,ia' .gtr 41 38 40,mv' 42 41,A'd 42 false 43 (fl' 0 43 2),A'd 42 false 44 (ld' O 44 43),A'd 42 false 45 (mv' 45 44),A'd 45 true 46 (mv' 46 4),A'd 45 true 47 (fl' 1 47 2),A'd 45 true 48 (ld' O 48 47),A'd 45 true 49 (ia' .neq 49 46 48),A'd 42 false 50 (to 50 (A'w (.tmp 45) (.tmp 49) (.const (.bool false)))),to 51 (A'w (.tmp 42) (.const (.bool true)) (.tmp 50))]
def ZaL:RL' H:=[mv' 52 1,to 53 (A'e 88 [.tmp 52,.const (.int .i64 4),.const (.int .i64 0)])]
def ZaM(O:HI H):RL' H:=[fl' 7 54 2,ld' O 55 54,ik' .neq 56 55 0]
def ZaN:RL' H:=[mv' 57 1,to 58 (A'e 88 [.tmp 57,.const (.int .i64 5),.const (.int .i64 0)])]
def ZaO(O:HI H):RL' H:=[fl' 6 59 2,ld' O 60 59,ik' .gtr 61 60 1,mv' 62 61,A'd 62 false 63 (fl' 6 63 2),A'd 62 false 64 (ld' O 64 63),A'd 62 false 65 (ik' .eql 65 64 0),A'd 62 false 66 (mv' 66 65),A'd 66 true 67 (fl' 4 67 2),A'd 66 true 68 (ld' O 68 67),A'd 66 true 69 (ik' .neq 69 68 1),A'd 62 false 70 (to 70 (A'w (.tmp 66) (.tmp 69) (.const (.bool false)))),to 71 (A'w (.tmp 62) (.const (.bool true)) (.tmp 70))]
def ZaP:RL' H:=[mv' 72 1,to 73 (A'e 88 [.tmp 72,.const (.int .i64 6),.const (.int .i64 0)])]
def F46:RC' H:=λO P ro=>A'a (A'b (ZaG O)) (A'a (A'a (A'b (ZaH O)) (cIf (.tmp 27) (A'b ZaI) (A'f))) (A'a (A'b (ZaJ O)) (A'a (A'a (A'b (ZaK O)) (cIf (.tmp 51) (A'b ZaL) (A'f))) (A'a (A'a (A'b (ZaM O)) (cIf (.tmp 56) (A'b ZaN) (A'f))) (A'a (A'b (ZaO O)) (cIf (.tmp 71) (A'b ZaP) (A'f)))))))
theorem R'Y:FN' 46 @F46 [] Tryz.f46:=f'n Tryz.func46
def ZaQ:RL' H:=[to 2 (A'h (.const (.bool false)))]
def ZaR(O:HI H):RL' H:=[mv' 3 0,nl' 4 3,fl' 2 5 4,fl' 0 6 5,ld' O 7 6,ik' .neq 8 7 0,mv' 2 8]
def F47:RC' H:=λO P ro=>A'a (A'b ZaQ) (A'a (A'b (ZaR O)) (A'B))
theorem R'Z:FN' 47 @F47 [.tmp 2] Tryz.f47:=f'n Tryz.func47
def ZaS:RL' H:=[to 2 (A'h (.const (.pointer none)))]
def ZaT(O:HI H):RL' H:=[to 5 (A'p #[.slice none 0 0,.slice none 0 0,.slice none 0 0,.slice none 0 0,.slice none 0 0,.slice none 0 0] [(0,1),(1,1),(2,1),(3,1),(4,1),(5,1)] []),to 6 (B'y O (.tmp 5)),mv' 3 6]
def ZaU:RL' H:=[mk' 4 0]
def ZaV:RL' H:=[mv' 7 4,mv' 8 0,ia' .leq 9 7 8]
def ZaW(O:HI H)(ro:Nat):RL' H:=[mv' 12 3,mv' 13 3,nl' 14 13,fl' 0 15 14,ld' O 16 15,mv' 17 4,ik' .eql 18 17 0,to 19 (A'y O 1 1 #[.bool false] [(0,.tmp 18)]),to 20 (B'p O ro 1 1 (.tmp 16) (.tmp 19)),nl' 21 12,fl' 0 22 21,too (aSt O ro 1 (.tmp 22) (.tmp 20))]
def ZaX:RL' H:=[mv' 10 4,ik' .add 11 10 1,mv' 4 11]
def ZaY:RL' H:=[mv' 23 3,mv' 2 23]
def O'7:RC' H:=λO P ro=>A'a (A'a (A'b ZaV) (cIf (.tmp 9) (A'f) (A'n 0))) (A'a (A'x 1 (A'b (ZaW O ro))) (A'b ZaX))
def F48:RC' H:=λO P ro=>A'a (A'b ZaS) (A'a (A'b (ZaT O)) (A'a (A'a (A'b ZaU) (A'x 0 (A'Y (O'7 O P ro)))) (A'a (A'b ZaY) (A'B))))
theorem R'0:FN' 48 @F48 [.tmp 2] Tryz.f48:=f'n Tryz.func48
def ZaZ(O:HI H):RL' H:=[to 5 (B'y O (.tmp 2))]
def Za0:RL' H:=[mk' 6 0]
def Za1(O:HI H):RL' H:=[mv' 11 6,fl' 2 12 5,ld' O 13 12,ia' .lss 14 11 13]
def Za2(O:HI H)(ro:Nat):RL' H:=[mv' 17 0,mv' 18 1,to 19 (A'e 93 [.tmp 17,.tmp 18]),to 7 (B'o O [.int .i64 0,.int .i64 0]),too (aSt O ro 2 (.tmp 7) (.tmp 19))]
def Za3:RL' H:=[mv' 20 1,to 21 (A'e 84 [.tmp 20,.const (.int .i64 10)])]
def Za4(O:HI H)(ro:Nat):RL' H:=[mv' 22 0,mv' 23 0,nl' 24 23,fl' 1 25 24,ld' O 26 25,fl' 0 27 7,ld' O 28 27,to 29 (A'y O 1 1 #[.int .i64 0] [(0,.tmp 28)]),to 30 (B'p O ro 1 8 (.tmp 26) (.tmp 29)),nl' 31 22,fl' 1 32 31,too (aSt O ro 1 (.tmp 32) (.tmp 30))]
def Za5:RL' H:=[mv' 15 6,ik' .add 16 15 1,mv' 6 16]
def Za6:RL' H:=[mk' 8 0]
def Za7(O:HI H):RL' H:=[mv' 33 8,fl' 3 34 5,ld' O 35 34,ia' .lss 36 33 35]
def Za8(O:HI H)(ro:Nat):RL' H:=[mv' 39 0,mv' 40 1,to 41 (A'e 93 [.tmp 39,.tmp 40]),to 9 (B'o O [.int .i64 0,.int .i64 0]),too (aSt O ro 2 (.tmp 9) (.tmp 41))]
def Za9:RL' H:=[mv' 42 1,to 43 (A'e 84 [.tmp 42,.const (.int .i64 32)])]
def Zba(O:HI H):RL' H:=[mv' 44 0,mv' 45 1,fl' 0 46 9,ld' O 47 46,to 48 (A'e 90 [.tmp 44,.tmp 45,.tmp 47])]
def Zbb:RL' H:=[mv' 37 8,ik' .add 38 37 1,mv' 8 38]
def Zbc(O:HI H)(ro:Nat):RL' H:=[mv' 49 0,mv' 50 0,mv' 51 1,fl' 4 52 5,ld' O 53 52,to 54 (A'e 91 [.tmp 50,.tmp 51,.tmp 53]),nl' 55 49,fl' 3 56 55,too (aSt O ro 1 (.tmp 56) (.tmp 54))]
def Zbd(O:HI H)(ro:Nat):RL' H:=[mv' 57 0,mv' 58 0,mv' 59 1,fl' 6 60 5,ld' O 61 60,to 62 (A'e 91 [.tmp 58,.tmp 59,.tmp 61]),nl' 63 57,fl' 4 64 63,too (aSt O ro 1 (.tmp 64) (.tmp 62))]
def Zbe:RL' H:=[mk' 10 0]
def Zbf(O:HI H):RL' H:=[mv' 65 10,fl' 5 66 5,ld' O 67 66,ia' .lss 68 65 67]
def Zbg:RL' H:=[mv' 71 0,mv' 72 1,to 73 (A'e 94 [.tmp 71,.tmp 72])]
def Zbh:RL' H:=[mv' 69 10,ik' .add 70 69 1,mv' 10 70]
def M'r:RC' H:=λO P ro=>A'a (A'a (A'b (Za1 O)) (cIf (.tmp 14) (A'f) (A'n 0))) (A'a (A'x 1 (A'a (A'b (Za2 O ro)) (A'a (A'b Za3) (A'b (Za4 O ro))))) (A'b Za5))
def M's:RC' H:=λO P ro=>A'a (A'a (A'b (Za7 O)) (cIf (.tmp 36) (A'f) (A'n 2))) (A'a (A'x 3 (A'a (A'b (Za8 O ro)) (A'a (A'b Za9) (A'b (Zba O))))) (A'b Zbb))
def M't:RC' H:=λO P ro=>A'a (A'a (A'b (Zbf O)) (cIf (.tmp 68) (A'f) (A'n 4))) (A'a (A'x 5 (A'b Zbg)) (A'b Zbh))
def F50:RC' H:=λO P ro=>A'a (A'b (ZaZ O)) (A'a (A'a (A'b Za0) (A'x 0 (A'Y (M'r O P ro)))) (A'a (A'a (A'b Za6) (A'x 2 (A'Y (M's O P ro)))) (A'a (A'b (Zbc O ro)) (A'a (A'b (Zbd O ro)) (A'a (A'b Zbe) (A'x 4 (A'Y (M't O P ro))))))))
theorem R'1:FN' 50 @F50 [] Tryz.f50:=f'n Tryz.func50
def Zbi(O:HI H):RL' H:=[to 3 (B'y O (.tmp 1))]
def Zbj(O:HI H):RL' H:=[mv' 4 0,nl' 5 4,fl' 1 6 5,ld' O 7 6,mv' 8 0,nl' 9 8,fl' 0 10 9,ld' O 11 10,to 12 (B'c (.tmp 11)),ia' .lss 13 7 12,mv' 14 13,A'd 14 true 15 (mv' 15 0),A'd 14 true 16 (to 16 (A'e 47 [.tmp 15])),A'd 14 true 17 (to 17 (aUn .not (.tmp 16))),to 18 (A'w (.tmp 14) (.tmp 17) (.const (.bool false)))]
def Zbk:RL' H:=[mv' 19 0,to 20 (A'e 85 [.tmp 19,.const (.int .i64 99)])]
def Zbl:RL' H:=[mv' 21 0,to 22 (A'e 84 [.tmp 21,.const (.int .i64 10)])]
def Zbm(O:HI H):RL' H:=[mv' 23 0,to 24 (B's O 8 (.tmp 3)),to 25 (A'e 95 [.tmp 23,.tmp 24])]
def O'8:RC' H:=λO P ro=>A'a (A'a (A'b (Zbj O)) (cIf (.tmp 18) (A'f) (A'n 0))) (A'x 1 (A'a (A'a (A'b Zbk) (cIf (.tmp 20) (A'a (A'b Zbl) (A'B)) (A'f))) (A'b (Zbm O))))
def F51:RC' H:=λO P ro=>A'a (A'b (Zbi O)) (A'x 0 (A'Y (O'8 O P ro)))
theorem R'2:FN' 51 @F51 [] Tryz.f51:=f'n Tryz.func51
def Zbn:RL' H:=[mk' 4 0]
def Zbo(O:HI H):RL' H:=[mv' 8 4,mv' 9 0,nl' 10 9,fl' 2 11 10,ld' O 12 11,ln' 13 12,ia' .lss 14 8 13]
def Zbp(O:HI H):RL' H:=[mv' 17 0,mv' 18 1,mv' 19 0,nl' 20 19,fl' 2 21 20,ld' O 22 21,mv' 23 4,ix' 4 24 22 23,fl' 1 25 24,to 26 (B's O 2 (.tmp 25)),to 27 (A'e 96 [.tmp 17,.tmp 18,.tmp 26])]
def Zbq:RL' H:=[mv' 15 4,ik' .add 16 15 1,mv' 4 16]
def Zbr:RL' H:=[mk' 5 0]
def Zbs(O:HI H):RL' H:=[mv' 28 5,mv' 29 0,nl' 30 29,fl' 3 31 30,ld' O 32 31,ln' 33 32,ia' .lss 34 28 33]
def Zbt(O:HI H):RL' H:=[mv' 37 0,mv' 38 1,mv' 39 0,nl' 40 39,fl' 3 41 40,ld' O 42 41,mv' 43 5,ix' 2 44 42 43,to 45 (B's O 2 (.tmp 44)),to 46 (A'e 96 [.tmp 37,.tmp 38,.tmp 45])]
def Zbu:RL' H:=[mv' 35 5,ik' .add 36 35 1,mv' 5 36]
def Zbv:RL' H:=[mk' 6 0]
def Zbw(O:HI H):RL' H:=[mv' 47 6,mv' 48 0,nl' 49 48,fl' 4 50 49,ld' O 51 50,ln' 52 51,ia' .lss 53 47 52]
def Zbx(O:HI H):RL' H:=[mv' 56 0,mv' 57 1,mv' 58 0,nl' 59 58,fl' 4 60 59,ld' O 61 60,mv' 62 6,ix' 2 63 61 62,to 64 (B's O 2 (.tmp 63)),to 65 (A'e 96 [.tmp 56,.tmp 57,.tmp 64])]
def Zby:RL' H:=[mv' 54 6,ik' .add 55 54 1,mv' 6 55]
def Zbz:RL' H:=[mk' 7 0]
def ZbA(O:HI H):RL' H:=[mv' 66 7,mv' 67 0,nl' 68 67,fl' 5 69 68,ld' O 70 69,ln' 71 70,ia' .lss 72 66 71]
def ZbB(O:HI H):RL' H:=[mv' 75 0,mv' 76 1,mv' 77 0,nl' 78 77,fl' 5 79 78,ld' O 80 79,mv' 81 7,ix' 6 82 80 81,fl' 2 83 82,to 84 (B's O 2 (.tmp 83)),to 85 (A'e 96 [.tmp 75,.tmp 76,.tmp 84])]
def ZbC(O:HI H):RL' H:=[mv' 86 0,mv' 87 1,mv' 88 0,nl' 89 88,fl' 5 90 89,ld' O 91 90,mv' 92 7,ix' 6 93 91 92,fl' 4 94 93,to 95 (B's O 2 (.tmp 94)),to 96 (A'e 96 [.tmp 86,.tmp 87,.tmp 95])]
def ZbD:RL' H:=[mv' 73 7,ik' .add 74 73 1,mv' 7 74]
def M'u:RC' H:=λO P ro=>A'a (A'a (A'b (Zbo O)) (cIf (.tmp 14) (A'f) (A'n 0))) (A'a (A'x 1 (A'b (Zbp O))) (A'b Zbq))
def M'v:RC' H:=λO P ro=>A'a (A'a (A'b (Zbs O)) (cIf (.tmp 34) (A'f) (A'n 2))) (A'a (A'x 3 (A'b (Zbt O))) (A'b Zbu))
def M'w:RC' H:=λO P ro=>A'a (A'a (A'b (Zbw O)) (cIf (.tmp 53) (A'f) (A'n 4))) (A'a (A'x 5 (A'b (Zbx O))) (A'b Zby))
def M'x:RC' H:=λO P ro=>A'a (A'a (A'b (ZbA O)) (cIf (.tmp 72) (A'f) (A'n 6))) (A'a (A'x 7 (A'a (A'b (ZbB O)) (A'b (ZbC O)))) (A'b ZbD))
def F52:RC' H:=λO P ro=>A'a (A'a (A'b Zbn) (A'x 0 (A'Y (M'u O P ro)))) (A'a (A'a (A'b Zbr) (A'x 2 (A'Y (M'v O P ro)))) (A'a (A'a (A'b Zbv) (A'x 4 (A'Y (M'w O P ro)))) (A'a (A'b Zbz) (A'x 6 (A'Y (M'x O P ro))))))
theorem R'3:FN' 52 @F52 [] Tryz.f52:=f'n Tryz.func52
def ZbE(O:HI H):RL' H:=[to 2 (A'h (.const (.pointer none))),to 3 (B'o O [.int .i64 0,.int .i64 0])]
def ZbF:RL' H:=[mv' 11 0,to 12 (A'e 97 [.tmp 11]),mv' 4 12]
def ZbG(O:HI H):RL' H:=[mv' 13 0,nl' 14 13,fl' 1 15 14,ld' O 16 15,ln' 17 16,to 18 (A'p #[.int .i64 0,.slice none 0 0,.slice none 0 0,.int .i64 0] [(0,1),(1,1),(2,1),(3,1)] [(0,.tmp 17)]),to 19 (B'y O (.tmp 18)),mv' 5 19]
def ZbH:RL' H:=[mk' 6 0]
def ZbI(O:HI H):RL' H:=[mv' 20 6,mv' 21 0,nl' 22 21,fl' 5 23 22,ld' O 24 23,ln' 25 24,ia' .lss 26 20 25]
def ZbJ(O:HI H):RL' H:=[mv' 29 4,mv' 30 0,nl' 31 30,fl' 5 32 31,ld' O 33 32,to 34 (A'e 98 [.tmp 29,.tmp 33]),mv' 7 34]
def ZbK:RL' H:=[mv' 35 7,to 36 (B'h .eql (.tmp 35) (.const (.int .i64 (-1))))]
def ZbL(O:HI H)(ro:Nat):RL' H:=[mv' 37 4,mv' 38 0,nl' 39 38,fl' 5 40 39,ld' O 41 40,to 42 (A'e 99 [.tmp 37,.tmp 41]),to 43 (A'p #[.int .i64 0,.int .i64 0] [(0,1),(1,1)] [(0,.const (.int .i64 12)),(1,.tmp 42)]),to 2 (A'h (.const (.pointer none))),too (aSt O ro 2 (.tmp 3) (.tmp 43))]
def ZbM(O:HI H):RL' H:=[mv' 44 4,mv' 45 5,mv' 46 0,nl' 47 46,fl' 5 48 47,ld' O 49 48,mv' 50 7,ix' 6 51 49 50,to 52 (B's O 6 (.tmp 51)),to 53 (A'e 100 [.tmp 44,.tmp 45,.tmp 52])]
def ZbN:RL' H:=[mv' 27 6,ik' .add 28 27 1,mv' 6 28]
def ZbO:RL' H:=[mk' 8 0]
def ZbP(O:HI H):RL' H:=[mv' 54 8,mv' 55 0,nl' 56 55,fl' 2 57 56,ld' O 58 57,ln' 59 58,ia' .lss 60 54 59]
def ZbQ(O:HI H):RL' H:=[mv' 63 4,mv' 64 0,nl' 65 64,fl' 2 66 65,ld' O 67 66,mv' 68 8,ix' 4 69 67 68,fl' 1 70 69,fl' 0 71 70,ld' O 72 71,to 73 (A'e 101 [.tmp 63,.tmp 72]),mv' 9 73]
def ZbR(O:HI H)(ro:Nat):RL' H:=[mv' 74 5,mv' 75 5,nl' 76 75,fl' 1 77 76,ld' O 78 77,mv' 79 9,mv' 80 0,nl' 81 80,fl' 2 82 81,ld' O 83 82,mv' 84 8,ix' 4 85 83 84,fl' 3 86 85,ld' O 87 86,to 88 (A'p #[.int .i64 0,.int .i64 0] [(0,1),(1,1)] [(0,.tmp 79),(1,.tmp 87)]),to 89 (A'y O 2 1 #[.int .i64 0,.int .i64 0] [(0,.tmp 88)]),to 90 (B'p O ro 2 16 (.tmp 78) (.tmp 89)),nl' 91 74,fl' 1 92 91,too (aSt O ro 1 (.tmp 92) (.tmp 90))]
def ZbS:RL' H:=[mv' 61 8,ik' .add 62 61 1,mv' 8 62]
def ZbT:RL' H:=[mv' 93 0,to 94 (A'e 102 [.tmp 93]),mv' 10 94]
def ZbU(O:HI H)(ro:Nat):RL' H:=[mv' 95 5,mv' 96 4,mv' 97 10,to 98 (A'e 101 [.tmp 96,.tmp 97]),nl' 99 95,fl' 3 100 99,too (aSt O ro 1 (.tmp 100) (.tmp 98))]
def ZbV(O:HI H)(ro:Nat):RL' H:=[mv' 101 5,to 102 (A'p #[.int .i64 0,.int .i64 0] [(0,1),(1,1)] []),mv' 2 101,too (aSt O ro 2 (.tmp 3) (.tmp 102))]
def K'g:RC' H:=λO P ro=>A'a (A'a (A'b (ZbI O)) (cIf (.tmp 26) (A'f) (A'n 0))) (A'a (A'x 1 (A'a (A'b (ZbJ O)) (A'a (A'a (A'b ZbK) (cIf (.tmp 36) (A'a (A'b (ZbL O ro)) (A'B)) (A'f))) (A'b (ZbM O))))) (A'b ZbN))
def M'y:RC' H:=λO P ro=>A'a (A'a (A'b (ZbP O)) (cIf (.tmp 60) (A'f) (A'n 2))) (A'a (A'x 3 (A'a (A'b (ZbQ O)) (A'b (ZbR O ro)))) (A'b ZbS))
def F53:RC' H:=λO P ro=>A'a (A'b (ZbE O)) (A'a (A'b ZbF) (A'a (A'b (ZbG O)) (A'a (A'a (A'b ZbH) (A'x 0 (A'Y (K'g O P ro)))) (A'a (A'a (A'b ZbO) (A'x 2 (A'Y (M'y O P ro)))) (A'a (A'b ZbT) (A'a (A'b (ZbU O ro)) (A'a (A'b (ZbV O ro)) (A'B))))))))
theorem R'4:FN' 53 @F53 [.tmp 2,.cell 3 37] Tryz.f53:=f'n Tryz.func53
def ZbW:RL' H:=[mv' 4 0,mv' 5 1,to 6 (A'e 85 [.tmp 4,.tmp 5]),to 7 (aUn .not (.tmp 6))]
def ZbX(O:HI H):RL' H:=[mv' 8 0,mv' 9 0,nl' 10 9,fl' 1 11 10,ld' O 12 11,to 13 (A'e 88 [.tmp 8,.const (.int .i64 2),.tmp 12])]
def F84:RC' H:=λO P ro=>A'a (A'b ZbW) (cIf (.tmp 7) (A'b (ZbX O)) (A'f))
theorem O'm:FN' 84 @F84 [] Tryz.f84:=f'n Tryz.func84
def ZbY:RL' H:=[to 4 (A'h (.const (.bool false)))]
def ZbZ:RL' H:=[mv' 5 0,to 6 (A'e 86 [.tmp 5]),mv' 7 1,ia' .neq 8 6 7]
def Zb0:RL' H:=[to 4 (A'h (.const (.bool false)))]
def Zb1(O:HI H)(ro:Nat):RL' H:=[mv' 9 0,nl' 10 9,fl' 1 11 10,ld' O 12 11,ik' .add 13 12 1,nl' 14 9,fl' 1 15 14,too (aSt O ro 1 (.tmp 15) (.tmp 13))]
def Zb2:RL' H:=[to 4 (A'h (.const (.bool true)))]
def F85:RC' H:=λO P ro=>A'a (A'b ZbY) (A'a (A'a (A'b ZbZ) (cIf (.tmp 8) (A'a (A'b Zb0) (A'B)) (A'f))) (A'a (A'b (Zb1 O ro)) (A'a (A'b Zb2) (A'B))))
theorem O'n:FN' 85 @F85 [.tmp 4] Tryz.f85:=f'n Tryz.func85
def Zb3:RL' H:=[mk' 2 0]
def Zb4(O:HI H):RL' H:=[mv' 3 0,nl' 4 3,fl' 2 5 4,fl' 0 6 5,ld' O 7 6,ik' .neq 8 7 0,mv' 9 8,A'd 9 false 10 (mv' 10 0),A'd 9 false 11 (nl' 11 10),A'd 9 false 12 (fl' 1 12 11),A'd 9 false 13 (ld' O 13 12),A'd 9 false 14 (ik' .lss 14 13 0),to 15 (A'w (.tmp 9) (.const (.bool true)) (.tmp 14)),mv' 16 15,A'd 16 false 17 (mv' 17 0),A'd 16 false 18 (nl' 18 17),A'd 16 false 19 (fl' 1 19 18),A'd 16 false 20 (ld' O 20 19),A'd 16 false 21 (mv' 21 0),A'd 16 false 22 (nl' 22 21),A'd 16 false 23 (fl' 0 23 22),A'd 16 false 24 (ld' O 24 23),A'd 16 false 25 (to 25 (B'c (.tmp 24))),A'd 16 false 26 (ia' .geq 26 20 25),to 27 (A'w (.tmp 16) (.const (.bool true)) (.tmp 26))]
def Zb5:RL' H:=[to 2 (A'h (.const (.int .i64 (-1))))]
def Zb6(O:HI H):RL' H:=[mv' 28 0,nl' 29 28,fl' 0 30 29,ld' O 31 30,mv' 32 0,nl' 33 32,fl' 1 34 33,ld' O 35 34,to 36 (B'x (.tmp 31) (.tmp 35)),to 37 (A'4 .i64 (.tmp 36)),mv' 2 37]
def F86:RC' H:=λO P ro=>A'a (A'b Zb3) (A'a (A'a (A'b (Zb4 O)) (cIf (.tmp 27) (A'a (A'b Zb5) (A'B)) (A'f))) (A'a (A'b (Zb6 O)) (A'B)))
theorem R'5:FN' 86 @F86 [.tmp 2] Tryz.f86:=f'n Tryz.func86
def Zb7:RL' H:=[mk' 2 0]
def Zb8(O:HI H):RL' H:=[mv' 7 0,nl' 8 7,fl' 1 9 8,ld' O 10 9,mv' 3 10]
def Zb9:RL' H:=[mk' 4 0]
def Zca:RL' H:=[mv' 11 0,to 12 (A'e 86 [.tmp 11]),mv' 5 12]
def Zcb:RL' H:=[mv' 13 5,to 14 (A'e 148 [.tmp 13])]
def Zcc(O:HI H):RL' H:=[mv' 17 0,nl' 18 17,fl' 1 19 18,ld' O 20 19,mv' 21 3,ia' .sub 22 20 21,mv' 6 22]
def Zcd:RL' H:=[mv' 23 6,ik' .eql 24 23 4,mv' 25 24,A'd 25 false 26 (mv' 26 6),A'd 25 false 27 (ik' .gtr 27 26 0),A'd 25 false 28 (mv' 28 27),A'd 28 true 29 (mv' 29 4),A'd 28 true 30 (ik' .eql 30 29 0),A'd 25 false 31 (to 31 (A'w (.tmp 28) (.tmp 30) (.const (.bool false)))),to 32 (A'w (.tmp 25) (.const (.bool true)) (.tmp 31))]
def Zce(O:HI H):RL' H:=[mv' 33 0,mv' 34 0,nl' 35 34,fl' 1 36 35,ld' O 37 36,to 38 (A'e 88 [.tmp 33,.const (.int .i64 2),.tmp 37])]
def Zcf:RL' H:=[mk' 2 0]
def Zcg:RL' H:=[mv' 39 4,to 40 (B'h .mul (.const (.int .i64 10)) (.tmp 39)),mv' 41 5,ia' .add 42 40 41,ik' .sub 43 42 48,mv' 4 43]
def Zch(O:HI H)(ro:Nat):RL' H:=[mv' 44 0,nl' 45 44,fl' 1 46 45,ld' O 47 46,ik' .add 48 47 1,nl' 49 44,fl' 1 50 49,too (aSt O ro 1 (.tmp 50) (.tmp 48))]
def Zci:RL' H:=[mv' 15 0,to 16 (A'e 86 [.tmp 15]),mv' 5 16]
def Zcj(O:HI H):RL' H:=[mv' 51 0,nl' 52 51,fl' 1 53 52,ld' O 54 53,mv' 55 3,ia' .eql 56 54 55]
def Zck(O:HI H):RL' H:=[mv' 57 0,mv' 58 0,nl' 59 58,fl' 1 60 59,ld' O 61 60,to 62 (A'e 88 [.tmp 57,.const (.int .i64 2),.tmp 61])]
def Zcl:RL' H:=[mv' 63 4,mv' 2 63]
def I'8:RC' H:=λO P ro=>A'a (A'a (A'b Zcb) (cIf (.tmp 14) (A'f) (A'n 0))) (A'a (A'x 1 (A'a (A'b (Zcc O)) (A'a (A'a (A'b Zcd) (cIf (.tmp 32) (A'a (A'b (Zce O)) (A'a (A'b Zcf) (A'B))) (A'f))) (A'a (A'b Zcg) (A'b (Zch O ro)))))) (A'b Zci))
def F87:RC' H:=λO P ro=>A'a (A'b Zb7) (A'a (A'b (Zb8 O)) (A'a (A'b Zb9) (A'a (A'a (A'b Zca) (A'x 0 (A'Y (I'8 O P ro)))) (A'a (A'a (A'b (Zcj O)) (cIf (.tmp 56) (A'b (Zck O)) (A'f))) (A'a (A'b Zcl) (A'B))))))
theorem R'6:FN' 87 @F87 [.tmp 2] Tryz.f87:=f'n Tryz.func87
def Zcm(O:HI H):RL' H:=[mv' 6 0,nl' 7 6,fl' 2 8 7,fl' 0 9 8,ld' O 10 9,ik' .eql 11 10 0]
def Zcn(O:HI H)(ro:Nat):RL' H:=[mv' 12 0,mv' 13 1,mv' 14 2,to 15 (A'p #[.int .i64 0,.int .i64 0] [(0,1),(1,1)] [(0,.tmp 13),(1,.tmp 14)]),nl' 16 12,fl' 2 17 16,too (aSt O ro 2 (.tmp 17) (.tmp 15))]
def F88:RC' H:=λO P ro=>A'a (A'b (Zcm O)) (cIf (.tmp 11) (A'b (Zcn O ro)) (A'f))
theorem O'o:FN' 88 @F88 [] Tryz.f88:=f'n Tryz.func88
def Zco:RL' H:=[mv' 4 0,mv' 5 1,to 6 (A'e 149 [.tmp 4,.tmp 5])]
def Zcp(O:HI H)(ro:Nat):RL' H:=[mv' 7 0,nl' 8 7,fl' 0 9 8,ld' O 10 9,mv' 11 1,to 12 (A's .shr (.tmp 11) (.const (.int .u64 1))),ix' 1 13 10 12,too (aSt O ro 1 (.tmp 13) (.const (.bool true)))]
def F89:RC' H:=λO P ro=>A'a (A'b Zco) (cIf (.tmp 6) (A'b (Zcp O ro)) (A'f))
theorem O'p:FN' 89 @F89 [] Tryz.f89:=f'n Tryz.func89
def Zcq(O:HI H)(ro:Nat):RL' H:=[mv' 8 0,mv' 9 1,to 10 (A'e 150 [.tmp 8,.tmp 9]),to 6 (B'o O [.int .i64 0,.int .i64 0]),too (aSt O ro 2 (.tmp 6) (.tmp 10))]
def Zcr:RL' H:=[mk' 7 0]
def Zcs:RL' H:=[mv' 11 1,to 12 (A'e 85 [.tmp 11,.const (.int .i64 32)])]
def Zct:RL' H:=[mv' 13 1,mv' 14 2,to 15 (A'e 151 [.tmp 13,.tmp 14]),mv' 7 15]
def Zcu:RL' H:=[mv' 16 1,to 17 (A'e 84 [.tmp 16,.const (.int .i64 10)])]
def Zcv(O:HI H)(ro:Nat):RL' H:=[mv' 18 0,mv' 19 0,nl' 20 19,fl' 2 21 20,ld' O 22 21,mv' 23 2,to 24 (B's O 2 (.tmp 6)),mv' 25 7,to 26 (A'p #[.int .i64 0,.int .i64 0,.int .i64 0,.int .i64 0] [(0,1),(1,2),(3,1)] [(0,.tmp 23),(1,.tmp 24),(2,.tmp 25)]),to 27 (A'y O 4 1 #[.int .i64 0,.int .i64 0,.int .i64 0,.int .i64 0] [(0,.tmp 26)]),to 28 (B'p O ro 4 32 (.tmp 22) (.tmp 27)),nl' 29 18,fl' 2 30 29,too (aSt O ro 1 (.tmp 30) (.tmp 28))]
def F90:RC' H:=λO P ro=>A'a (A'b (Zcq O ro)) (A'a (A'b Zcr) (A'a (A'a (A'b Zcs) (cIf (.tmp 12) (A'b Zct) (A'f))) (A'a (A'b Zcu) (A'b (Zcv O ro)))))
theorem R'7:FN' 90 @F90 [] Tryz.f90:=f'n Tryz.func90
def Zcw:RL' H:=[to 6 (A'h (.const (.slice none 0 0)))]
def Zcx:RL' H:=[to 7 (A'h (.const (.slice none 0 0)))]
def Zcy:RL' H:=[mk' 8 0]
def Zcz:RL' H:=[mv' 10 8,mv' 11 2,ia' .lss 12 10 11]
def ZcA(O:HI H)(ro:Nat):RL' H:=[mv' 15 0,mv' 16 1,to 17 (A'e 150 [.tmp 15,.tmp 16]),to 9 (B'o O [.int .i64 0,.int .i64 0]),too (aSt O ro 2 (.tmp 9) (.tmp 17))]
def ZcB:RL' H:=[mv' 18 1,to 19 (A'e 84 [.tmp 18,.const (.int .i64 10)])]
def ZcC(O:HI H)(ro:Nat):RL' H:=[mv' 20 7,to 21 (B's O 2 (.tmp 9)),to 22 (A'y O 2 1 #[.int .i64 0,.int .i64 0] [(0,.tmp 21)]),to 23 (B'p O ro 2 16 (.tmp 20) (.tmp 22)),mv' 7 23]
def ZcD:RL' H:=[mv' 13 8,ik' .add 14 13 1,mv' 8 14]
def ZcE:RL' H:=[mv' 24 7,mv' 6 24]
def O'9:RC' H:=λO P ro=>A'a (A'a (A'b Zcz) (cIf (.tmp 12) (A'f) (A'n 0))) (A'a (A'x 1 (A'a (A'b (ZcA O ro)) (A'a (A'b ZcB) (A'b (ZcC O ro))))) (A'b ZcD))
def F91:RC' H:=λO P ro=>A'a (A'b Zcw) (A'a (A'b Zcx) (A'a (A'a (A'b Zcy) (A'x 0 (A'Y (O'9 O P ro)))) (A'a (A'b ZcE) (A'B))))
theorem R'8:FN' 91 @F91 [.tmp 6] Tryz.f91:=f'n Tryz.func91
def ZcF(O:HI H):RL' H:=[to 4 (B'o O [.int .i64 0,.int .i64 0])]
def ZcG(O:HI H)(ro:Nat):RL' H:=[mv' 6 0,mv' 7 1,to 8 (A'e 150 [.tmp 6,.tmp 7]),to 5 (B'o O [.int .i64 0,.int .i64 0]),too (aSt O ro 2 (.tmp 5) (.tmp 8))]
def ZcH(O:HI H):RL' H:=[fl' 0 9 5,ld' O 10 9,ik' .and 11 10 1,ik' .eql 12 11 1,mv' 13 12,A'd 13 false 14 (mv' 14 0),A'd 13 false 15 (fl' 0 15 5),A'd 13 false 16 (ld' O 16 15),A'd 13 false 17 (to 17 (A'e 153 [.tmp 14,.tmp 16])),to 18 (A'w (.tmp 13) (.const (.bool true)) (.tmp 17))]
def ZcI(O:HI H):RL' H:=[mv' 19 1,fl' 1 20 5,ld' O 21 20,to 22 (A'e 88 [.tmp 19,.const (.int .i64 8),.tmp 21])]
def ZcJ(O:HI H):RL' H:=[mv' 23 0,fl' 0 24 5,ld' O 25 24,to 26 (A'e 89 [.tmp 23,.tmp 25])]
def ZcK(O:HI H)(ro:Nat):RL' H:=[to 27 (B's O 2 (.tmp 5)),too (aSt O ro 2 (.tmp 4) (.tmp 27))]
def F93:RC' H:=λO P ro=>A'a (A'b (ZcF O)) (A'a (A'b (ZcG O ro)) (A'a (A'a (A'b (ZcH O)) (cIf (.tmp 18) (A'b (ZcI O)) (A'f))) (A'a (A'b (ZcJ O)) (A'a (A'b (ZcK O ro)) (A'B)))))
theorem R'9:FN' 93 @F93 [.cell 4 132] Tryz.f93:=f'n Tryz.func93
def ZcL(O:HI H)(ro:Nat):RL' H:=[mv' 7 0,mv' 8 1,to 9 (A'e 93 [.tmp 7,.tmp 8]),to 4 (B'o O [.int .i64 0,.int .i64 0]),too (aSt O ro 2 (.tmp 4) (.tmp 9))]
def ZcM:RL' H:=[mv' 10 1,to 11 (A'e 84 [.tmp 10,.const (.int .i64 32)])]
def ZcN(O:HI H)(ro:Nat):RL' H:=[mv' 12 0,mv' 13 1,to 14 (A'e 150 [.tmp 12,.tmp 13]),to 5 (B'o O [.int .i64 0,.int .i64 0]),too (aSt O ro 2 (.tmp 5) (.tmp 14))]
def ZcO:RL' H:=[mv' 15 1,to 16 (A'e 84 [.tmp 15,.const (.int .i64 32)])]
def ZcP(O:HI H)(ro:Nat):RL' H:=[mv' 17 0,mv' 18 1,to 19 (A'e 150 [.tmp 17,.tmp 18]),to 6 (B'o O [.int .i64 0,.int .i64 0]),too (aSt O ro 2 (.tmp 6) (.tmp 19))]
def ZcQ:RL' H:=[mv' 20 1,to 21 (A'e 84 [.tmp 20,.const (.int .i64 10)])]
def ZcR(O:HI H)(ro:Nat):RL' H:=[mv' 22 0,mv' 23 0,nl' 24 23,fl' 5 25 24,ld' O 26 25,to 27 (B's O 2 (.tmp 4)),to 28 (B's O 2 (.tmp 5)),to 29 (B's O 2 (.tmp 6)),to 30 (A'p #[.int .i64 0,.int .i64 0,.int .i64 0,.int .i64 0,.int .i64 0,.int .i64 0] [(0,2),(2,2),(4,2)] [(0,.tmp 27),(1,.tmp 28),(2,.tmp 29)]),to 31 (A'y O 6 1 #[.int .i64 0,.int .i64 0,.int .i64 0,.int .i64 0,.int .i64 0,.int .i64 0] [(0,.tmp 30)]),to 32 (B'p O ro 6 48 (.tmp 26) (.tmp 31)),nl' 33 22,fl' 5 34 33,too (aSt O ro 1 (.tmp 34) (.tmp 32))]
def F94:RC' H:=λO P ro=>A'a (A'b (ZcL O ro)) (A'a (A'b ZcM) (A'a (A'b (ZcN O ro)) (A'a (A'b ZcO) (A'a (A'b (ZcP O ro)) (A'a (A'b ZcQ) (A'b (ZcR O ro)))))))
theorem S'a:FN' 94 @F94 [] Tryz.f94:=f'n Tryz.func94
def ZcS(O:HI H):RL' H:=[to 5 (B'y O (.tmp 2))]
def ZcT(O:HI H):RL' H:=[mv' 6 0,fl' 0 7 5,ld' O 8 7,to 9 (A'e 153 [.tmp 6,.tmp 8]),to 10 (aUn .not (.tmp 9))]
def ZcU(O:HI H):RL' H:=[mv' 11 1,fl' 1 12 5,ld' O 13 12,to 14 (A'e 88 [.tmp 11,.const (.int .i64 11),.tmp 13])]
def F96:RC' H:=λO P ro=>A'a (A'b (ZcS O)) (A'a (A'b (ZcT O)) (cIf (.tmp 10) (A'b (ZcU O)) (A'f)))
theorem O'q:FN' 96 @F96 [] Tryz.f96:=f'n Tryz.func96
def ZcV:RL' H:=[to 2 (A'h (.const (.pointer none)))]
def ZcW(O:HI H):RL' H:=[to 7 (A'p #[.slice none 0 0,.int .i64 0] [(0,1),(1,1)] []),to 8 (B'y O (.tmp 7)),mv' 3 8]
def ZcX:RL' H:=[mk' 4 0]
def ZcY(O:HI H):RL' H:=[mv' 9 4,mv' 10 0,nl' 11 10,fl' 0 12 11,ld' O 13 12,ln' 14 13,ia' .lss 15 9 14]
def ZcZ(O:HI H)(ro:Nat):RL' H:=[mv' 18 3,mv' 19 3,nl' 20 19,fl' 0 21 20,ld' O 22 21,to 23 (A'y O 1 1 #[.int .i64 0] [(0,.const (.int .i64 (-1)))]),to 24 (B'p O ro 1 8 (.tmp 22) (.tmp 23)),nl' 25 18,fl' 0 26 25,too (aSt O ro 1 (.tmp 26) (.tmp 24))]
def Zc0:RL' H:=[mv' 16 4,ik' .add 17 16 1,mv' 4 17]
def Zc1:RL' H:=[mv' 27 3,to 28 (A'e 155 [.tmp 27,.const (.int .i64 0)])]
def Zc2:RL' H:=[mk' 5 0]
def Zc3(O:HI H):RL' H:=[mv' 29 5,mv' 30 0,nl' 31 30,fl' 1 32 31,ld' O 33 32,ln' 34 33,ia' .lss 35 29 34]
def Zc4(O:HI H):RL' H:=[mv' 38 3,mv' 39 0,nl' 40 39,fl' 1 41 40,ld' O 42 41,mv' 43 5,ix' 1 44 42 43,ld' O 45 44,to 46 (A'e 155 [.tmp 38,.tmp 45])]
def Zc5:RL' H:=[mv' 36 5,ik' .add 37 36 1,mv' 5 37]
def Zc6:RL' H:=[mk' 6 0]
def Zc7(O:HI H):RL' H:=[mv' 47 6,mv' 48 0,nl' 49 48,fl' 2 50 49,ld' O 51 50,ln' 52 51,ia' .lss 53 47 52]
def Zc8(O:HI H):RL' H:=[mv' 56 3,mv' 57 0,nl' 58 57,fl' 2 59 58,ld' O 60 59,mv' 61 6,ix' 4 62 60 61,fl' 0 63 62,ld' O 64 63,to 65 (A'e 155 [.tmp 56,.tmp 64])]
def Zc9:RL' H:=[mv' 54 6,ik' .add 55 54 1,mv' 6 55]
def Zda:RL' H:=[mv' 66 3,mv' 2 66]
def M'z:RC' H:=λO P ro=>A'a (A'a (A'b (ZcY O)) (cIf (.tmp 15) (A'f) (A'n 0))) (A'a (A'x 1 (A'b (ZcZ O ro))) (A'b Zc0))
def M'A:RC' H:=λO P ro=>A'a (A'a (A'b (Zc3 O)) (cIf (.tmp 35) (A'f) (A'n 2))) (A'a (A'x 3 (A'b (Zc4 O))) (A'b Zc5))
def M'B:RC' H:=λO P ro=>A'a (A'a (A'b (Zc7 O)) (cIf (.tmp 53) (A'f) (A'n 4))) (A'a (A'x 5 (A'b (Zc8 O))) (A'b Zc9))
def F97:RC' H:=λO P ro=>A'a (A'b ZcV) (A'a (A'b (ZcW O)) (A'a (A'a (A'b ZcX) (A'x 0 (A'Y (M'z O P ro)))) (A'a (A'b Zc1) (A'a (A'a (A'b Zc2) (A'x 2 (A'Y (M'A O P ro)))) (A'a (A'a (A'b Zc6) (A'x 4 (A'Y (M'B O P ro)))) (A'a (A'b Zda) (A'B)))))))
theorem S'b:FN' 97 @F97 [.tmp 2] Tryz.f97:=f'n Tryz.func97
def Zdb:RL' H:=[mk' 4 0]
def Zdc:RL' H:=[mk' 5 0]
def Zdd:RL' H:=[mv' 9 5,mv' 10 1,ln' 11 10,ia' .lss 12 9 11]
def Zde(O:HI H):RL' H:=[mv' 15 0,mv' 16 1,mv' 17 5,ix' 6 18 16 17,fl' 0 19 18,fl' 0 20 19,ld' O 21 20,to 22 (A'e 156 [.tmp 15,.tmp 21]),mv' 6 22]
def Zdf(O:HI H):RL' H:=[mv' 23 0,mv' 24 1,mv' 25 5,ix' 6 26 24 25,fl' 2 27 26,fl' 0 28 27,ld' O 29 28,to 30 (A'e 156 [.tmp 23,.tmp 29]),mv' 7 30]
def Zdg(O:HI H):RL' H:=[mv' 31 0,mv' 32 1,mv' 33 5,ix' 6 34 32 33,fl' 4 35 34,fl' 0 36 35,ld' O 37 36,to 38 (A'e 156 [.tmp 31,.tmp 37]),mv' 8 38]
def Zdh:RL' H:=[mv' 39 6,to 40 (B'h .eql (.tmp 39) (.const (.int .i64 (-1)))),mv' 41 40,A'd 41 true 42 (mv' 42 7),A'd 41 true 43 (to 43 (B'h .neq (.tmp 42) (.const (.int .i64 (-1))))),to 44 (A'w (.tmp 41) (.tmp 43) (.const (.bool false))),mv' 45 44,A'd 45 true 46 (mv' 46 8),A'd 45 true 47 (to 47 (B'h .neq (.tmp 46) (.const (.int .i64 (-1))))),to 48 (A'w (.tmp 45) (.tmp 47) (.const (.bool false)))]
def Zdi:RL' H:=[mv' 49 5,mv' 4 49]
def Zdj:RL' H:=[mv' 13 5,ik' .add 14 13 1,mv' 5 14]
def Zdk:RL' H:=[to 4 (A'h (.const (.int .i64 (-1))))]
def I'9:RC' H:=λO P ro=>A'a (A'a (A'b Zdd) (cIf (.tmp 12) (A'f) (A'n 0))) (A'a (A'x 1 (A'a (A'b (Zde O)) (A'a (A'b (Zdf O)) (A'a (A'b (Zdg O)) (A'a (A'b Zdh) (cIf (.tmp 48) (A'a (A'b Zdi) (A'B)) (A'f))))))) (A'b Zdj))
def F98:RC' H:=λO P ro=>A'a (A'b Zdb) (A'a (A'a (A'b Zdc) (A'x 0 (A'Y (I'9 O P ro)))) (A'a (A'b Zdk) (A'B)))
theorem S'c:FN' 98 @F98 [.tmp 4] Tryz.f98:=f'n Tryz.func98
def Zdl:RL' H:=[mk' 4 0]
def Zdm:RL' H:=[mk' 5 0]
def Zdn:RL' H:=[mv' 7 5,mv' 8 1,ln' 9 8,ia' .lss 10 7 9]
def Zdo(O:HI H):RL' H:=[mv' 13 0,mv' 14 1,mv' 15 5,ix' 6 16 14 15,fl' 0 17 16,fl' 0 18 17,ld' O 19 18,to 20 (A'e 156 [.tmp 13,.tmp 19]),mv' 6 20]
def Zdp:RL' H:=[mv' 21 6,to 22 (B'h .eql (.tmp 21) (.const (.int .i64 (-1))))]
def Zdq(O:HI H):RL' H:=[mv' 23 1,mv' 24 5,ix' 6 25 23 24,fl' 0 26 25,fl' 1 27 26,ld' O 28 27,mv' 4 28]
def Zdr:RL' H:=[mv' 11 5,ik' .add 12 11 1,mv' 5 12]
def Zds:RL' H:=[mk' 4 0]
def M'C:RC' H:=λO P ro=>A'a (A'a (A'b Zdn) (cIf (.tmp 10) (A'f) (A'n 0))) (A'a (A'x 1 (A'a (A'b (Zdo O)) (A'a (A'b Zdp) (cIf (.tmp 22) (A'a (A'b (Zdq O)) (A'B)) (A'f))))) (A'b Zdr))
def F99:RC' H:=λO P ro=>A'a (A'b Zdl) (A'a (A'a (A'b Zdm) (A'x 0 (A'Y (M'C O P ro)))) (A'a (A'b Zds) (A'B)))
theorem S'd:FN' 99 @F99 [.tmp 4] Tryz.f99:=f'n Tryz.func99
def Zdt(O:HI H):RL' H:=[to 5 (B'y O (.tmp 2))]
def Zdu(O:HI H):RL' H:=[mv' 8 0,fl' 2 9 5,fl' 0 10 9,ld' O 11 10,to 12 (A'e 101 [.tmp 8,.tmp 11]),mv' 6 12]
def Zdv(O:HI H):RL' H:=[mv' 13 0,fl' 4 14 5,fl' 0 15 14,ld' O 16 15,to 17 (A'e 101 [.tmp 13,.tmp 16]),mv' 7 17]
def Zdw:RL' H:=[mv' 18 6,mv' 19 7,ia' .lss 20 18 19]
def Zdx:RL' H:=[mv' 21 7,mv' 22 6,mv' 6 21,mv' 7 22]
def Zdy(O:HI H)(ro:Nat):RL' H:=[mv' 23 1,mv' 24 1,nl' 25 24,fl' 2 26 25,ld' O 27 26,mv' 28 6,mv' 29 7,to 30 (A'p #[.int .i64 0,.int .i64 0] [(0,1),(1,1)] [(0,.tmp 28),(1,.tmp 29)]),to 31 (A'y O 2 1 #[.int .i64 0,.int .i64 0] [(0,.tmp 30)]),to 32 (B'p O ro 2 16 (.tmp 27) (.tmp 31)),nl' 33 23,fl' 2 34 33,too (aSt O ro 1 (.tmp 34) (.tmp 32))]
def Zdz(O:HI H):RL' H:=[mv' 35 0,fl' 0 36 5,fl' 0 37 36,ld' O 38 37,to 39 (A'e 155 [.tmp 35,.tmp 38])]
def T'5:RC' H:=λO P ro=>A'a (A'b (Zdt O)) (A'a (A'b (Zdu O)) (A'a (A'b (Zdv O)) (A'a (A'a (A'b Zdw) (cIf (.tmp 20) (A'b Zdx) (A'f))) (A'a (A'b (Zdy O ro)) (A'b (Zdz O))))))
theorem P'a:FN' 100 @T'5 [] Tryz.f100:=f'n Tryz.func100
def ZdA:RL' H:=[mk' 4 0]
def ZdB:RL' H:=[mv' 6 0,mv' 7 1,to 8 (A'e 156 [.tmp 6,.tmp 7]),mv' 5 8]
def ZdC:RL' H:=[mv' 9 5,to 10 (B'h .mul (.const (.int .i64 2)) (.tmp 9)),mv' 11 1,ik' .and 12 11 1,ia' .add 13 10 12,mv' 4 13]
def U'N:RC' H:=λO P ro=>A'a (A'b ZdA) (A'a (A'b ZdB) (A'a (A'b ZdC) (A'B)))
theorem P'b:FN' 101 @U'N [.tmp 4] Tryz.f101:=f'n Tryz.func101
def ZdD:RL' H:=[mk' 2 0]
def ZdE(O:HI H):RL' H:=[mv' 3 0,nl' 4 3,fl' 4 5 4,ld' O 6 5,ln' 7 6,ik' .gtr 8 7 0]
def ZdF(O:HI H):RL' H:=[mv' 9 0,nl' 10 9,fl' 4 11 10,ld' O 12 11,to 13 (B'C 2 (.tmp 12) (.const (.int .i64 0))),fl' 0 14 13,ld' O 15 14,mv' 2 15]
def ZdG(O:HI H):RL' H:=[mv' 16 0,nl' 17 16,fl' 3 18 17,ld' O 19 18,ln' 20 19,ik' .gtr 21 20 0]
def ZdH(O:HI H):RL' H:=[mv' 22 0,nl' 23 22,fl' 3 24 23,ld' O 25 24,to 26 (B'C 2 (.tmp 25) (.const (.int .i64 0))),fl' 0 27 26,ld' O 28 27,mv' 2 28]
def ZdI:RL' H:=[mk' 2 0]
def T'W:RC' H:=λO P ro=>A'a (A'b ZdD) (A'a (A'a (A'b (ZdE O)) (cIf (.tmp 8) (A'a (A'b (ZdF O)) (A'B)) (A'f))) (A'a (A'a (A'b (ZdG O)) (cIf (.tmp 21) (A'a (A'b (ZdH O)) (A'B)) (A'f))) (A'a (A'b ZdI) (A'B))))
theorem P'c:FN' 102 @T'W [.tmp 2] Tryz.f102:=f'n Tryz.func102
def ZdJ:RL' H:=[to 2 (A'h (.const (.bool false)))]
def ZdK:RL' H:=[mv' 3 0,ik' .geq 4 3 48,mv' 5 4,A'd 5 true 6 (mv' 6 0),A'd 5 true 7 (ik' .leq 7 6 57),to 8 (A'w (.tmp 5) (.tmp 7) (.const (.bool false))),mv' 2 8]
def U'O:RC' H:=λO P ro=>A'a (A'b ZdJ) (A'a (A'b ZdK) (A'B))
theorem P'd:FN' 148 @U'O [.tmp 2] Tryz.f148:=f'n Tryz.func148
def ZdL:RL' H:=[to 4 (A'h (.const (.bool false)))]
def ZdM(O:HI H):RL' H:=[mv' 5 1,ik' .geq 6 5 0,mv' 7 6,A'd 7 true 8 (mv' 8 1),A'd 7 true 9 (to 9 (A's .shr (.tmp 8) (.const (.int .u64 1)))),A'd 7 true 10 (mv' 10 0),A'd 7 true 11 (nl' 11 10),A'd 7 true 12 (fl' 0 12 11),A'd 7 true 13 (ld' O 13 12),A'd 7 true 14 (ln' 14 13),A'd 7 true 15 (ia' .lss 15 9 14),to 16 (A'w (.tmp 7) (.tmp 15) (.const (.bool false))),mv' 4 16]
def T'X:RC' H:=λO P ro=>A'a (A'b ZdL) (A'a (A'b (ZdM O)) (A'B))
theorem P'e:FN' 149 @T'X [.tmp 4] Tryz.f149:=f'n Tryz.func149
def ZdN(O:HI H):RL' H:=[to 4 (B'o O [.int .i64 0,.int .i64 0])]
def ZdO(O:HI H):RL' H:=[mv' 7 1,nl' 8 7,fl' 1 9 8,ld' O 10 9,mv' 5 10]
def ZdP:RL' H:=[mv' 11 1,to 12 (A'e 87 [.tmp 11]),mv' 6 12]
def ZdQ:RL' H:=[mv' 13 0,mv' 14 6,to 15 (A'e 149 [.tmp 13,.tmp 14]),to 16 (aUn .not (.tmp 15))]
def ZdR:RL' H:=[mv' 17 1,mv' 18 5,to 19 (A'e 88 [.tmp 17,.const (.int .i64 7),.tmp 18])]
def ZdS(O:HI H)(ro:Nat):RL' H:=[mv' 20 6,mv' 21 5,to 22 (A'p #[.int .i64 0,.int .i64 0] [(0,1),(1,1)] [(0,.tmp 20),(1,.tmp 21)]),too (aSt O ro 2 (.tmp 4) (.tmp 22))]
def T'6:RC' H:=λO P ro=>A'a (A'b (ZdN O)) (A'a (A'b (ZdO O)) (A'a (A'b ZdP) (A'a (A'a (A'b ZdQ) (cIf (.tmp 16) (A'b ZdR) (A'f))) (A'a (A'b (ZdS O ro)) (A'B)))))
theorem K'h:FN' 150 @T'6 [.cell 4 132] Tryz.f150:=f'n Tryz.func150
def ZdT:RL' H:=[mk' 4 0]
def ZdU(O:HI H):RL' H:=[mv' 6 0,nl' 7 6,fl' 1 8 7,ld' O 9 8,mv' 5 9]
def ZdV:RL' H:=[mv' 10 0,to 11 (A'e 87 [.tmp 10])]
def ZdW:RL' H:=[ik' .eql 13 11 0,mv' 12 13]
def ZdX:RL' H:=[mk' 4 0]
def ZdY:RL' H:=[ik' .eql 15 11 1,mv' 14 15]
def ZdZ:RL' H:=[mk' 4 1]
def Zd0:RL' H:=[mv' 17 1,ia' .eql 18 11 17,mv' 16 18]
def Zd1:RL' H:=[mk' 4 2]
def Zd2:RL' H:=[mv' 19 0,mv' 20 5,to 21 (A'e 88 [.tmp 19,.const (.int .i64 9),.tmp 20])]
def Zd3:RL' H:=[mk' 4 0]
def S'e:RC' H:=λO P ro=>A'a (A'b ZdT) (A'a (A'b (ZdU O)) (A'a (A'a (A'b ZdV) (A'x 0 (A'a (A'b ZdW) (cIf (.tmp 12) (A'a (A'b ZdX) (A'B)) (A'a (A'b ZdY) (cIf (.tmp 14) (A'a (A'b ZdZ) (A'B)) (A'a (A'b Zd0) (cIf (.tmp 16) (A'a (A'b Zd1) (A'B)) (A'f))))))))) (A'a (A'b Zd2) (A'a (A'b Zd3) (A'B)))))
theorem F'6:FN' 151 @S'e [.tmp 4] Tryz.f151:=f'n Tryz.func151
def Zd4:RL' H:=[to 4 (A'h (.const (.bool false)))]
def Zd5(O:HI H):RL' H:=[mv' 5 0,mv' 6 1,to 7 (A'e 149 [.tmp 5,.tmp 6]),mv' 8 7,A'd 8 true 9 (mv' 9 0),A'd 8 true 10 (nl' 10 9),A'd 8 true 11 (fl' 0 11 10),A'd 8 true 12 (ld' O 12 11),A'd 8 true 13 (mv' 13 1),A'd 8 true 14 (to 14 (A's .shr (.tmp 13) (.const (.int .u64 1)))),A'd 8 true 15 (ix' 1 15 12 14),A'd 8 true 16 (ld' O 16 15),to 17 (A'w (.tmp 8) (.tmp 16) (.const (.bool false))),mv' 4 17]
def T'7:RC' H:=λO P ro=>A'a (A'b Zd4) (A'a (A'b (Zd5 O)) (A'B))
theorem P'f:FN' 153 @T'7 [.tmp 4] Tryz.f153:=f'n Tryz.func153
def Zd6:RL' H:=[mv' 5 1,to 6 (A's .shr (.tmp 5) (.const (.int .u64 1))),mv' 4 6]
def Zd7(O:HI H):RL' H:=[mv' 7 4,ik' .lss 8 7 0,mv' 9 8,A'd 9 false 10 (mv' 10 4),A'd 9 false 11 (mv' 11 0),A'd 9 false 12 (nl' 12 11),A'd 9 false 13 (fl' 0 13 12),A'd 9 false 14 (ld' O 14 13),A'd 9 false 15 (ln' 15 14),A'd 9 false 16 (ia' .geq 16 10 15),to 17 (A'w (.tmp 9) (.const (.bool true)) (.tmp 16))]
def Zd8(O:HI H)(ro:Nat):RL' H:=[mv' 18 0,nl' 19 18,fl' 0 20 19,ld' O 21 20,mv' 22 4,mv' 23 0,nl' 24 23,fl' 1 25 24,ld' O 26 25,ix' 1 27 21 22,too (aSt O ro 1 (.tmp 27) (.tmp 26))]
def Zd9(O:HI H)(ro:Nat):RL' H:=[mv' 28 0,nl' 29 28,fl' 1 30 29,ld' O 31 30,ik' .add 32 31 1,nl' 33 28,fl' 1 34 33,too (aSt O ro 1 (.tmp 34) (.tmp 32))]
def T'Y:RC' H:=λO P ro=>A'a (A'b Zd6) (A'a (A'a (A'b (Zd7 O)) (cIf (.tmp 17) (A'B) (A'f))) (A'a (A'b (Zd8 O ro)) (A'b (Zd9 O ro))))
theorem H'A:FN' 155 @T'Y [] Tryz.f155:=f'n Tryz.func155
def Zea:RL' H:=[mk' 4 0]
def Zeb:RL' H:=[mv' 6 1,to 7 (A's .shr (.tmp 6) (.const (.int .u64 1))),mv' 5 7]
def Zec(O:HI H):RL' H:=[mv' 8 5,ik' .lss 9 8 0,mv' 10 9,A'd 10 false 11 (mv' 11 5),A'd 10 false 12 (mv' 12 0),A'd 10 false 13 (nl' 13 12),A'd 10 false 14 (fl' 0 14 13),A'd 10 false 15 (ld' O 15 14),A'd 10 false 16 (ln' 16 15),A'd 10 false 17 (ia' .geq 17 11 16),to 18 (A'w (.tmp 10) (.const (.bool true)) (.tmp 17))]
def Zed:RL' H:=[to 4 (A'h (.const (.int .i64 (-1))))]
def Zee(O:HI H):RL' H:=[mv' 19 0,nl' 20 19,fl' 0 21 20,ld' O 22 21,mv' 23 5,ix' 1 24 22 23,ld' O 25 24,mv' 4 25]
def T'Z:RC' H:=λO P ro=>A'a (A'b Zea) (A'a (A'b Zeb) (A'a (A'a (A'b (Zec O)) (cIf (.tmp 18) (A'a (A'b Zed) (A'B)) (A'f))) (A'a (A'b (Zee O)) (A'B))))
theorem P'g:FN' 156 @T'Z [.tmp 4] Tryz.f156:=f'n Tryz.func156
end
end Go.Proofs.YtimdkminagnhgaaGreatDoor
