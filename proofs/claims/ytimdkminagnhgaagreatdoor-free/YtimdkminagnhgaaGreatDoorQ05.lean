import Derived.Test.YtimdkminagnhgaaGreatDoorQ04
import Derived.Test.YtimdkminagnhgaaGreatDoorProg
import Derived.KernelRfl
set_option linter.all false
namespace Go.Proofs.YtimdkminagnhgaaGreatDoor
open Go.Vm Go.Proofs
set_option maxRecDepth 100000
section
variable {H:Type}
abbrev FN' (f:FuncId)(F:∀{H:Type},HI H->Program->Nat->CodeT H)(rs:List ResultVar)(fn:Func):Prop:=∀{H:Type}(O:HI H)(ro:Nat),Vm.Fn Tryz.prog O ro f (F O Tryz.prog ro) rs fn
theorem f'n {f:FuncId}{F:∀{H:Type},HI H->Program->Nat->CodeT H}{rs:List ResultVar}{fn:Func}(h:Tryz.prog.funcs[f]?=some fn)(a:∀{H:Type}(O:HI H)(ro:Nat),bodyOf O Tryz.prog ro fn=F O Tryz.prog ro:=by intros;kernel_rfl)(b:fn.body.isSome=true:=by kernel_rfl)(d:(match fn.body with|some c=>tmpsOk fn.ntmps c|none=>false)=true:=by kernel_rfl)(e:fn.results.toList=rs:=by kernel_rfl)(g:rs.all (rvIn fn.ntmps)=true:=by kernel_rfl):FN' f @F rs fn:=λO ro=>⟨h,a O ro,b,d,e,g⟩
def Zaa(O:HI H):RL' H:=[to 2 (aMove (.const (.pointer none))),to 3 (aNew O [.int .i64 0,.int .i64 0])]
def Zab:RL' H:=[mv' 7 0,to 8 (aLenStr (.tmp 7)),ik' .gtr 9 8 1000]
def Zac(O:HI H)(ro:Nat):RL' H:=[to 10 (aBuild #[.int .i64 0,.int .i64 0] [(0,1),(1,1)] [(0,.const (.int .i64 1))]),to 2 (aMove (.const (.pointer none))),too (aSt O ro 2 (.tmp 3) (.tmp 10))]
def Zad(O:HI H):RL' H:=[mv' 11 0,to 12 (aBuild #[.string ⟨#[]⟩,.int .i64 0,.int .i64 0,.int .i64 0] [(0,1),(1,1),(2,2)] [(0,.tmp 11)]),to 13 (aBox O (.tmp 12)),mv' 4 13]
def Zae(O:HI H)(ro:Nat):RL' H:=[mv' 14 4,to 15 (aCall 45 [.tmp 14]),to 5 (aNew O [.bool false,.int .i64 0,.int .i64 0,.int .i64 0,.int .i64 0,.int .i64 0,.int .i64 0,.int .i64 0]),too (aSt O ro 8 (.tmp 5) (.tmp 15))]
def Zaf(O:HI H):RL' H:=[to 16 (aLdN O 8 (.tmp 5)),mv' 17 4,to 18 (aCall 46 [.tmp 16,.tmp 17])]
def Zag:RL' H:=[mv' 19 4,to 20 (aCall 47 [.tmp 19])]
def Zah(O:HI H)(ro:Nat):RL' H:=[mv' 21 4,nl' 22 21,fl' 2 23 22,to 24 (aLdN O 2 (.tmp 23)),to 2 (aMove (.const (.pointer none))),too (aSt O ro 2 (.tmp 3) (.tmp 24))]
def Zai(O:HI H):RL' H:=[fl' 1 25 5,ld' O 26 25,to 27 (aCall 48 [.tmp 26]),mv' 6 27]
def Zaj(O:HI H):RL' H:=[fl' 0 28 5,ld' O 29 28]
def Zak(O:HI H):RL' H:=[mv' 30 6,mv' 31 4,to 32 (aLdN O 8 (.tmp 5)),to 33 (aCall 49 [.tmp 30,.tmp 31,.tmp 32])]
def Zal(O:HI H):RL' H:=[mv' 34 6,mv' 35 4,to 36 (aLdN O 8 (.tmp 5)),to 37 (aCall 50 [.tmp 34,.tmp 35,.tmp 36])]
def Zam(O:HI H):RL' H:=[mv' 38 4,to 39 (aLdN O 8 (.tmp 5)),to 40 (aCall 51 [.tmp 38,.tmp 39])]
def Zan:RL' H:=[mv' 41 6,mv' 42 4,to 43 (aCall 52 [.tmp 41,.tmp 42])]
def Zao:RL' H:=[mv' 44 4,to 45 (aCall 47 [.tmp 44])]
def Zap(O:HI H)(ro:Nat):RL' H:=[mv' 46 4,nl' 47 46,fl' 2 48 47,to 49 (aLdN O 2 (.tmp 48)),to 2 (aMove (.const (.pointer none))),too (aSt O ro 2 (.tmp 3) (.tmp 49))]
def Zaq(O:HI H)(ro:Nat):RL' H:=[mv' 50 6,to 51 (aCall 53 [.tmp 50]),to 52 (aExt (.tmp 51) 0),to 53 (aExt (.tmp 51) 1),mv' 2 52,too (aSt O ro 2 (.tmp 3) (.tmp 53))]
def F25:RC' H:=λO P ro=>cSeq (cReg (Zaa O)) (cSeq (cSeq (cReg Zab) (cIf (.tmp 9) (cSeq (cReg (Zac O ro)) (cRet)) (cSkip))) (cSeq (cReg (Zad O)) (cSeq (cReg (Zae O ro)) (cSeq (cReg (Zaf O)) (cSeq (cSeq (cReg Zag) (cIf (.tmp 20) (cSeq (cReg (Zah O ro)) (cRet)) (cSkip))) (cSeq (cReg (Zai O)) (cSeq (cSeq (cReg (Zaj O)) (cIf (.tmp 29) (cReg (Zak O)) (cReg (Zal O)))) (cSeq (cReg (Zam O)) (cSeq (cReg Zan) (cSeq (cSeq (cReg Zao) (cIf (.tmp 45) (cSeq (cReg (Zap O ro)) (cRet)) (cSkip))) (cSeq (cReg (Zaq O ro)) (cRet))))))))))))
theorem F25_fn:FN' 25 @F25 [.tmp 2,.cell 3 37] Tryz.f25:=f'n Tryz.func25
def Zar(O:HI H):RL' H:=[to 2 (aNew O [.bool false,.int .i64 0,.int .i64 0,.int .i64 0,.int .i64 0,.int .i64 0,.int .i64 0,.int .i64 0])]
def Zas:RL' H:=[mv' 6 0,to 7 (aCall 84 [.tmp 6,.const (.int .i64 97)])]
def Zat:RL' H:=[mv' 8 0,to 9 (aCall 85 [.tmp 8,.const (.int .i64 105)]),mv' 3 9]
def Zau:RL' H:=[mv' 10 3,to 11 (aUn .not (.tmp 10))]
def Zav:RL' H:=[mv' 12 0,to 13 (aCall 84 [.tmp 12,.const (.int .i64 97)])]
def Zaw:RL' H:=[mv' 14 0,to 15 (aCall 84 [.tmp 14,.const (.int .i64 103)])]
def Zax(O:HI H):RL' H:=[to 4 (aNew O [.int .i64 0,.int .i64 0,.int .i64 0,.int .i64 0,.int .i64 0,.int .i64 0,.int .i64 0,.int .i64 0,.int .i64 0])]
def Zay:RL' H:=[mk' 5 0]
def Zaz:RL' H:=[mv' 16 5,ik' .lss 17 16 9]
def ZaA:RL' H:=[mv' 20 5,ik' .geq 21 20 5,mv' 22 21,onlyIf 22 true 23 (mv' 23 0),onlyIf 22 true 24 (to 24 (aCall 86 [.tmp 23])),onlyIf 22 true 25 (ik' .neq 25 24 32),to 26 (aPick (.tmp 22) (.tmp 25) (.const (.bool false)))]
def ZaB:RL' H:=[mv' 27 0,to 28 (aCall 84 [.tmp 27,.const (.int .i64 32)])]
def ZaC(O:HI H)(ro:Nat):RL' H:=[mv' 29 5,mv' 30 0,to 31 (aCall 87 [.tmp 30]),to 32 (aIdxArr 9 1 (.tmp 4) (.tmp 29)),too (aSt O ro 1 (.tmp 32) (.tmp 31))]
def ZaD:RL' H:=[mv' 18 5,ik' .add 19 18 1,mv' 5 19]
def ZaE:RL' H:=[mv' 33 0,to 34 (aCall 84 [.tmp 33,.const (.int .i64 10)])]
def ZaF(O:HI H)(ro:Nat):RL' H:=[mv' 35 3,to 36 (aIdxArr 9 1 (.tmp 4) (.const (.int .i64 0))),ld' O 37 36,to 38 (aIdxArr 9 1 (.tmp 4) (.const (.int .i64 1))),ld' O 39 38,to 40 (aIdxArr 9 1 (.tmp 4) (.const (.int .i64 2))),ld' O 41 40,to 42 (aIdxArr 9 1 (.tmp 4) (.const (.int .i64 3))),ld' O 43 42,to 44 (aIdxArr 9 1 (.tmp 4) (.const (.int .i64 4))),ld' O 45 44,to 46 (aIdxArr 9 1 (.tmp 4) (.const (.int .i64 5))),ld' O 47 46,to 48 (aIdxArr 9 1 (.tmp 4) (.const (.int .i64 6))),ld' O 49 48,to 50 (aIdxArr 9 1 (.tmp 4) (.const (.int .i64 7))),ld' O 51 50,ia' .add 52 49 51,to 53 (aIdxArr 9 1 (.tmp 4) (.const (.int .i64 8))),ld' O 54 53,ia' .add 55 52 54,to 56 (aBuild #[.bool false,.int .i64 0,.int .i64 0,.int .i64 0,.int .i64 0,.int .i64 0,.int .i64 0,.int .i64 0] [(0,1),(1,1),(2,1),(3,1),(4,1),(5,1),(6,1),(7,1)] [(0,.tmp 35),(1,.tmp 37),(2,.tmp 39),(3,.tmp 41),(4,.tmp 43),(5,.tmp 45),(6,.tmp 47),(7,.tmp 55)]),too (aSt O ro 8 (.tmp 2) (.tmp 56))]
def W45_0:RC' H:=λO P ro=>cSeq (cSeq (cReg Zaz) (cIf (.tmp 17) (cSkip) (cExit 0))) (cSeq (cBlk 1 (cSeq (cSeq (cReg ZaA) (cIf (.tmp 26) (cExit 0) (cSkip))) (cSeq (cReg ZaB) (cReg (ZaC O ro))))) (cReg ZaD))
def F45:RC' H:=λO P ro=>cSeq (cReg (Zar O)) (cSeq (cReg Zas) (cSeq (cReg Zat) (cSeq (cSeq (cReg Zau) (cIf (.tmp 11) (cReg Zav) (cSkip))) (cSeq (cReg Zaw) (cSeq (cReg (Zax O)) (cSeq (cSeq (cReg Zay) (cBlk 0 (cLoop (W45_0 O P ro)))) (cSeq (cReg ZaE) (cSeq (cReg (ZaF O ro)) (cRet)))))))))
theorem F45_fn:FN' 45 @F45 [.cell 2 78] Tryz.f45:=f'n Tryz.func45
def ZaG(O:HI H):RL' H:=[to 2 (aBox O (.tmp 0))]
def ZaH(O:HI H):RL' H:=[fl' 1 5 2,ld' O 6 5,ik' .gtr 7 6 80,mv' 8 7,onlyIf 8 false 9 (fl' 2 9 2),onlyIf 8 false 10 (ld' O 10 9),onlyIf 8 false 11 (ik' .gtr 11 10 4),to 12 (aPick (.tmp 8) (.const (.bool true)) (.tmp 11)),mv' 13 12,onlyIf 13 false 14 (fl' 3 14 2),onlyIf 13 false 15 (ld' O 15 14),onlyIf 13 false 16 (ik' .gtr 16 15 6),to 17 (aPick (.tmp 13) (.const (.bool true)) (.tmp 16)),mv' 18 17,onlyIf 18 false 19 (fl' 4 19 2),onlyIf 18 false 20 (ld' O 20 19),onlyIf 18 false 21 (ik' .gtr 21 20 4),to 22 (aPick (.tmp 18) (.const (.bool true)) (.tmp 21)),mv' 23 22,onlyIf 23 false 24 (fl' 5 24 2),onlyIf 23 false 25 (ld' O 25 24),onlyIf 23 false 26 (ik' .gtr 26 25 60),to 27 (aPick (.tmp 23) (.const (.bool true)) (.tmp 26))]
def ZaI:RL' H:=[mv' 28 1,to 29 (aCall 88 [.tmp 28,.const (.int .i64 3),.const (.int .i64 0)])]
def ZaJ(O:HI H):RL' H:=[fl' 2 30 2,ld' O 31 30,fl' 3 32 2,ld' O 33 32,ia' .add 34 31 33,fl' 5 35 2,ld' O 36 35,ia' .add 37 34 36,mv' 4 37]
def ZaK(O:HI H):RL' H:=[mv' 38 4,fl' 1 39 2,ld' O 40 39,ia' .gtr 41 38 40,mv' 42 41,onlyIf 42 false 43 (fl' 0 43 2),onlyIf 42 false 44 (ld' O 44 43),onlyIf 42 false 45 (mv' 45 44),onlyIf 45 true 46 (mv' 46 4),onlyIf 45 true 47 (fl' 1 47 2),onlyIf 45 true 48 (ld' O 48 47),onlyIf 45 true 49 (ia' .neq 49 46 48),onlyIf 42 false 50 (to 50 (aPick (.tmp 45) (.tmp 49) (.const (.bool false)))),to 51 (aPick (.tmp 42) (.const (.bool true)) (.tmp 50))]
def ZaL:RL' H:=[mv' 52 1,to 53 (aCall 88 [.tmp 52,.const (.int .i64 4),.const (.int .i64 0)])]
def ZaM(O:HI H):RL' H:=[fl' 7 54 2,ld' O 55 54,ik' .neq 56 55 0]
def ZaN:RL' H:=[mv' 57 1,to 58 (aCall 88 [.tmp 57,.const (.int .i64 5),.const (.int .i64 0)])]
def ZaO(O:HI H):RL' H:=[fl' 6 59 2,ld' O 60 59,ik' .gtr 61 60 1,mv' 62 61,onlyIf 62 false 63 (fl' 6 63 2),onlyIf 62 false 64 (ld' O 64 63),onlyIf 62 false 65 (ik' .eql 65 64 0),onlyIf 62 false 66 (mv' 66 65),onlyIf 66 true 67 (fl' 4 67 2),onlyIf 66 true 68 (ld' O 68 67),onlyIf 66 true 69 (ik' .neq 69 68 1),onlyIf 62 false 70 (to 70 (aPick (.tmp 66) (.tmp 69) (.const (.bool false)))),to 71 (aPick (.tmp 62) (.const (.bool true)) (.tmp 70))]
def ZaP:RL' H:=[mv' 72 1,to 73 (aCall 88 [.tmp 72,.const (.int .i64 6),.const (.int .i64 0)])]
def F46:RC' H:=λO P ro=>cSeq (cReg (ZaG O)) (cSeq (cSeq (cReg (ZaH O)) (cIf (.tmp 27) (cReg ZaI) (cSkip))) (cSeq (cReg (ZaJ O)) (cSeq (cSeq (cReg (ZaK O)) (cIf (.tmp 51) (cReg ZaL) (cSkip))) (cSeq (cSeq (cReg (ZaM O)) (cIf (.tmp 56) (cReg ZaN) (cSkip))) (cSeq (cReg (ZaO O)) (cIf (.tmp 71) (cReg ZaP) (cSkip)))))))
theorem F46_fn:FN' 46 @F46 [] Tryz.f46:=f'n Tryz.func46
def ZaQ:RL' H:=[to 2 (aMove (.const (.bool false)))]
def ZaR(O:HI H):RL' H:=[mv' 3 0,nl' 4 3,fl' 2 5 4,fl' 0 6 5,ld' O 7 6,ik' .neq 8 7 0,mv' 2 8]
def F47:RC' H:=λO P ro=>cSeq (cReg ZaQ) (cSeq (cReg (ZaR O)) (cRet))
theorem F47_fn:FN' 47 @F47 [.tmp 2] Tryz.f47:=f'n Tryz.func47
def ZaS:RL' H:=[to 2 (aMove (.const (.pointer none)))]
def ZaT(O:HI H):RL' H:=[to 5 (aBuild #[.slice none 0 0,.slice none 0 0,.slice none 0 0,.slice none 0 0,.slice none 0 0,.slice none 0 0] [(0,1),(1,1),(2,1),(3,1),(4,1),(5,1)] []),to 6 (aBox O (.tmp 5)),mv' 3 6]
def ZaU:RL' H:=[mk' 4 0]
def ZaV:RL' H:=[mv' 7 4,mv' 8 0,ia' .leq 9 7 8]
def ZaW(O:HI H)(ro:Nat):RL' H:=[mv' 12 3,mv' 13 3,nl' 14 13,fl' 0 15 14,ld' O 16 15,mv' 17 4,ik' .eql 18 17 0,to 19 (aMkSl O 1 1 #[.bool false] [(0,.tmp 18)]),to 20 (aApp O ro 1 1 (.tmp 16) (.tmp 19)),nl' 21 12,fl' 0 22 21,too (aSt O ro 1 (.tmp 22) (.tmp 20))]
def ZaX:RL' H:=[mv' 10 4,ik' .add 11 10 1,mv' 4 11]
def ZaY:RL' H:=[mv' 23 3,mv' 2 23]
def W48_0:RC' H:=λO P ro=>cSeq (cSeq (cReg ZaV) (cIf (.tmp 9) (cSkip) (cExit 0))) (cSeq (cBlk 1 (cReg (ZaW O ro))) (cReg ZaX))
def F48:RC' H:=λO P ro=>cSeq (cReg ZaS) (cSeq (cReg (ZaT O)) (cSeq (cSeq (cReg ZaU) (cBlk 0 (cLoop (W48_0 O P ro)))) (cSeq (cReg ZaY) (cRet))))
theorem F48_fn:FN' 48 @F48 [.tmp 2] Tryz.f48:=f'n Tryz.func48
def ZaZ(O:HI H):RL' H:=[to 5 (aBox O (.tmp 2))]
def Za0:RL' H:=[mk' 6 0]
def Za1(O:HI H):RL' H:=[mv' 11 6,fl' 2 12 5,ld' O 13 12,ia' .lss 14 11 13]
def Za2:RL' H:=[mv' 17 6,to 18 (aInt .add (.const (.int .i64 1)) (.tmp 17)),to 19 (aInt .mul (.const (.int .i64 2)) (.tmp 18)),mv' 7 19]
def Za3:RL' H:=[mv' 20 0,mv' 21 7,to 22 (aCall 89 [.tmp 20,.tmp 21])]
def Za4(O:HI H)(ro:Nat):RL' H:=[mv' 23 0,mv' 24 0,nl' 25 24,fl' 1 26 25,ld' O 27 26,mv' 28 7,to 29 (aMkSl O 1 1 #[.int .i64 0] [(0,.tmp 28)]),to 30 (aApp O ro 1 8 (.tmp 27) (.tmp 29)),nl' 31 23,fl' 1 32 31,too (aSt O ro 1 (.tmp 32) (.tmp 30))]
def Za5:RL' H:=[mv' 15 6,ik' .add 16 15 1,mv' 6 16]
def Za6:RL' H:=[mk' 8 0]
def Za7(O:HI H):RL' H:=[mv' 33 8,fl' 3 34 5,ld' O 35 34,ia' .lss 36 33 35]
def Za8(O:HI H):RL' H:=[fl' 2 39 5,ld' O 40 39,to 41 (aInt .add (.const (.int .i64 1)) (.tmp 40)),mv' 42 8,ia' .add 43 41 42,to 44 (aInt .mul (.const (.int .i64 2)) (.tmp 43)),mv' 9 44]
def Za9:RL' H:=[mv' 45 0,mv' 46 9,to 47 (aCall 89 [.tmp 45,.tmp 46])]
def Zba:RL' H:=[mv' 48 0,mv' 49 1,mv' 50 9,to 51 (aCall 90 [.tmp 48,.tmp 49,.tmp 50])]
def Zbb:RL' H:=[mv' 37 8,ik' .add 38 37 1,mv' 8 38]
def Zbc(O:HI H)(ro:Nat):RL' H:=[mv' 52 0,mv' 53 0,mv' 54 1,fl' 4 55 5,ld' O 56 55,to 57 (aCall 91 [.tmp 53,.tmp 54,.tmp 56]),nl' 58 52,fl' 3 59 58,too (aSt O ro 1 (.tmp 59) (.tmp 57))]
def Zbd(O:HI H)(ro:Nat):RL' H:=[mv' 60 0,mv' 61 0,mv' 62 1,fl' 6 63 5,ld' O 64 63,to 65 (aCall 91 [.tmp 61,.tmp 62,.tmp 64]),nl' 66 60,fl' 4 67 66,too (aSt O ro 1 (.tmp 67) (.tmp 65))]
def Zbe:RL' H:=[mk' 10 0]
def Zbf(O:HI H):RL' H:=[mv' 68 10,fl' 5 69 5,ld' O 70 69,ia' .lss 71 68 70]
def Zbg(O:HI H):RL' H:=[mv' 74 0,mv' 75 1,fl' 2 76 5,ld' O 77 76,to 78 (aInt .add (.const (.int .i64 1)) (.tmp 77)),fl' 3 79 5,ld' O 80 79,ia' .add 81 78 80,mv' 82 10,ia' .add 83 81 82,to 84 (aInt .mul (.const (.int .i64 2)) (.tmp 83)),to 85 (aCall 92 [.tmp 74,.tmp 75,.tmp 84])]
def Zbh:RL' H:=[mv' 72 10,ik' .add 73 72 1,mv' 10 73]
def W49_0:RC' H:=λO P ro=>cSeq (cSeq (cReg (Za1 O)) (cIf (.tmp 14) (cSkip) (cExit 0))) (cSeq (cBlk 1 (cSeq (cReg Za2) (cSeq (cReg Za3) (cReg (Za4 O ro))))) (cReg Za5))
def W49_1:RC' H:=λO P ro=>cSeq (cSeq (cReg (Za7 O)) (cIf (.tmp 36) (cSkip) (cExit 2))) (cSeq (cBlk 3 (cSeq (cReg (Za8 O)) (cSeq (cReg Za9) (cReg Zba)))) (cReg Zbb))
def W49_2:RC' H:=λO P ro=>cSeq (cSeq (cReg (Zbf O)) (cIf (.tmp 71) (cSkip) (cExit 4))) (cSeq (cBlk 5 (cReg (Zbg O))) (cReg Zbh))
def F49:RC' H:=λO P ro=>cSeq (cReg (ZaZ O)) (cSeq (cSeq (cReg Za0) (cBlk 0 (cLoop (W49_0 O P ro)))) (cSeq (cSeq (cReg Za6) (cBlk 2 (cLoop (W49_1 O P ro)))) (cSeq (cReg (Zbc O ro)) (cSeq (cReg (Zbd O ro)) (cSeq (cReg Zbe) (cBlk 4 (cLoop (W49_2 O P ro))))))))
theorem F49_fn:FN' 49 @F49 [] Tryz.f49:=f'n Tryz.func49
def Zbi(O:HI H):RL' H:=[to 5 (aBox O (.tmp 2))]
def Zbj:RL' H:=[mk' 6 0]
def Zbk(O:HI H):RL' H:=[mv' 11 6,fl' 2 12 5,ld' O 13 12,ia' .lss 14 11 13]
def Zbl(O:HI H)(ro:Nat):RL' H:=[mv' 17 0,mv' 18 1,to 19 (aCall 93 [.tmp 17,.tmp 18]),to 7 (aNew O [.int .i64 0,.int .i64 0]),too (aSt O ro 2 (.tmp 7) (.tmp 19))]
def Zbm:RL' H:=[mv' 20 1,to 21 (aCall 84 [.tmp 20,.const (.int .i64 10)])]
def Zbn(O:HI H)(ro:Nat):RL' H:=[mv' 22 0,mv' 23 0,nl' 24 23,fl' 1 25 24,ld' O 26 25,fl' 0 27 7,ld' O 28 27,to 29 (aMkSl O 1 1 #[.int .i64 0] [(0,.tmp 28)]),to 30 (aApp O ro 1 8 (.tmp 26) (.tmp 29)),nl' 31 22,fl' 1 32 31,too (aSt O ro 1 (.tmp 32) (.tmp 30))]
def Zbo:RL' H:=[mv' 15 6,ik' .add 16 15 1,mv' 6 16]
def Zbp:RL' H:=[mk' 8 0]
def Zbq(O:HI H):RL' H:=[mv' 33 8,fl' 3 34 5,ld' O 35 34,ia' .lss 36 33 35]
def Zbr(O:HI H)(ro:Nat):RL' H:=[mv' 39 0,mv' 40 1,to 41 (aCall 93 [.tmp 39,.tmp 40]),to 9 (aNew O [.int .i64 0,.int .i64 0]),too (aSt O ro 2 (.tmp 9) (.tmp 41))]
def Zbs:RL' H:=[mv' 42 1,to 43 (aCall 84 [.tmp 42,.const (.int .i64 32)])]
def Zbt(O:HI H):RL' H:=[mv' 44 0,mv' 45 1,fl' 0 46 9,ld' O 47 46,to 48 (aCall 90 [.tmp 44,.tmp 45,.tmp 47])]
def Zbu:RL' H:=[mv' 37 8,ik' .add 38 37 1,mv' 8 38]
def Zbv(O:HI H)(ro:Nat):RL' H:=[mv' 49 0,mv' 50 0,mv' 51 1,fl' 4 52 5,ld' O 53 52,to 54 (aCall 91 [.tmp 50,.tmp 51,.tmp 53]),nl' 55 49,fl' 3 56 55,too (aSt O ro 1 (.tmp 56) (.tmp 54))]
def Zbw(O:HI H)(ro:Nat):RL' H:=[mv' 57 0,mv' 58 0,mv' 59 1,fl' 6 60 5,ld' O 61 60,to 62 (aCall 91 [.tmp 58,.tmp 59,.tmp 61]),nl' 63 57,fl' 4 64 63,too (aSt O ro 1 (.tmp 64) (.tmp 62))]
def Zbx:RL' H:=[mk' 10 0]
def Zby(O:HI H):RL' H:=[mv' 65 10,fl' 5 66 5,ld' O 67 66,ia' .lss 68 65 67]
def Zbz:RL' H:=[mv' 71 0,mv' 72 1,to 73 (aCall 94 [.tmp 71,.tmp 72])]
def ZbA:RL' H:=[mv' 69 10,ik' .add 70 69 1,mv' 10 70]
def W50_0:RC' H:=λO P ro=>cSeq (cSeq (cReg (Zbk O)) (cIf (.tmp 14) (cSkip) (cExit 0))) (cSeq (cBlk 1 (cSeq (cReg (Zbl O ro)) (cSeq (cReg Zbm) (cReg (Zbn O ro))))) (cReg Zbo))
def W50_1:RC' H:=λO P ro=>cSeq (cSeq (cReg (Zbq O)) (cIf (.tmp 36) (cSkip) (cExit 2))) (cSeq (cBlk 3 (cSeq (cReg (Zbr O ro)) (cSeq (cReg Zbs) (cReg (Zbt O))))) (cReg Zbu))
def W50_2:RC' H:=λO P ro=>cSeq (cSeq (cReg (Zby O)) (cIf (.tmp 68) (cSkip) (cExit 4))) (cSeq (cBlk 5 (cReg Zbz)) (cReg ZbA))
def F50:RC' H:=λO P ro=>cSeq (cReg (Zbi O)) (cSeq (cSeq (cReg Zbj) (cBlk 0 (cLoop (W50_0 O P ro)))) (cSeq (cSeq (cReg Zbp) (cBlk 2 (cLoop (W50_1 O P ro)))) (cSeq (cReg (Zbv O ro)) (cSeq (cReg (Zbw O ro)) (cSeq (cReg Zbx) (cBlk 4 (cLoop (W50_2 O P ro))))))))
theorem F50_fn:FN' 50 @F50 [] Tryz.f50:=f'n Tryz.func50
def ZbB(O:HI H):RL' H:=[to 3 (aBox O (.tmp 1))]
def ZbC(O:HI H):RL' H:=[mv' 4 0,nl' 5 4,fl' 1 6 5,ld' O 7 6,mv' 8 0,nl' 9 8,fl' 0 10 9,ld' O 11 10,to 12 (aLenStr (.tmp 11)),ia' .lss 13 7 12,mv' 14 13,onlyIf 14 true 15 (mv' 15 0),onlyIf 14 true 16 (to 16 (aCall 47 [.tmp 15])),onlyIf 14 true 17 (to 17 (aUn .not (.tmp 16))),to 18 (aPick (.tmp 14) (.tmp 17) (.const (.bool false)))]
def ZbD:RL' H:=[mv' 19 0,to 20 (aCall 85 [.tmp 19,.const (.int .i64 99)])]
def ZbE:RL' H:=[mv' 21 0,to 22 (aCall 84 [.tmp 21,.const (.int .i64 10)])]
def ZbF(O:HI H):RL' H:=[mv' 23 0,to 24 (aLdN O 8 (.tmp 3)),to 25 (aCall 95 [.tmp 23,.tmp 24])]
def W51_0:RC' H:=λO P ro=>cSeq (cSeq (cReg (ZbC O)) (cIf (.tmp 18) (cSkip) (cExit 0))) (cBlk 1 (cSeq (cSeq (cReg ZbD) (cIf (.tmp 20) (cSeq (cReg ZbE) (cRet)) (cSkip))) (cReg (ZbF O))))
def F51:RC' H:=λO P ro=>cSeq (cReg (ZbB O)) (cBlk 0 (cLoop (W51_0 O P ro)))
theorem F51_fn:FN' 51 @F51 [] Tryz.f51:=f'n Tryz.func51
def ZbG:RL' H:=[mk' 4 0]
def ZbH(O:HI H):RL' H:=[mv' 8 4,mv' 9 0,nl' 10 9,fl' 2 11 10,ld' O 12 11,ln' 13 12,ia' .lss 14 8 13]
def ZbI(O:HI H):RL' H:=[mv' 17 0,mv' 18 1,mv' 19 0,nl' 20 19,fl' 2 21 20,ld' O 22 21,mv' 23 4,ix' 4 24 22 23,fl' 1 25 24,to 26 (aLdN O 2 (.tmp 25)),to 27 (aCall 96 [.tmp 17,.tmp 18,.tmp 26])]
def ZbJ:RL' H:=[mv' 15 4,ik' .add 16 15 1,mv' 4 16]
def ZbK:RL' H:=[mk' 5 0]
def ZbL(O:HI H):RL' H:=[mv' 28 5,mv' 29 0,nl' 30 29,fl' 3 31 30,ld' O 32 31,ln' 33 32,ia' .lss 34 28 33]
def ZbM(O:HI H):RL' H:=[mv' 37 0,mv' 38 1,mv' 39 0,nl' 40 39,fl' 3 41 40,ld' O 42 41,mv' 43 5,ix' 2 44 42 43,to 45 (aLdN O 2 (.tmp 44)),to 46 (aCall 96 [.tmp 37,.tmp 38,.tmp 45])]
def ZbN:RL' H:=[mv' 35 5,ik' .add 36 35 1,mv' 5 36]
def ZbO:RL' H:=[mk' 6 0]
def ZbP(O:HI H):RL' H:=[mv' 47 6,mv' 48 0,nl' 49 48,fl' 4 50 49,ld' O 51 50,ln' 52 51,ia' .lss 53 47 52]
def ZbQ(O:HI H):RL' H:=[mv' 56 0,mv' 57 1,mv' 58 0,nl' 59 58,fl' 4 60 59,ld' O 61 60,mv' 62 6,ix' 2 63 61 62,to 64 (aLdN O 2 (.tmp 63)),to 65 (aCall 96 [.tmp 56,.tmp 57,.tmp 64])]
def ZbR:RL' H:=[mv' 54 6,ik' .add 55 54 1,mv' 6 55]
def ZbS:RL' H:=[mk' 7 0]
def ZbT(O:HI H):RL' H:=[mv' 66 7,mv' 67 0,nl' 68 67,fl' 5 69 68,ld' O 70 69,ln' 71 70,ia' .lss 72 66 71]
def ZbU(O:HI H):RL' H:=[mv' 75 0,mv' 76 1,mv' 77 0,nl' 78 77,fl' 5 79 78,ld' O 80 79,mv' 81 7,ix' 6 82 80 81,fl' 2 83 82,to 84 (aLdN O 2 (.tmp 83)),to 85 (aCall 96 [.tmp 75,.tmp 76,.tmp 84])]
def ZbV(O:HI H):RL' H:=[mv' 86 0,mv' 87 1,mv' 88 0,nl' 89 88,fl' 5 90 89,ld' O 91 90,mv' 92 7,ix' 6 93 91 92,fl' 4 94 93,to 95 (aLdN O 2 (.tmp 94)),to 96 (aCall 96 [.tmp 86,.tmp 87,.tmp 95])]
def ZbW:RL' H:=[mv' 73 7,ik' .add 74 73 1,mv' 7 74]
def W52_0:RC' H:=λO P ro=>cSeq (cSeq (cReg (ZbH O)) (cIf (.tmp 14) (cSkip) (cExit 0))) (cSeq (cBlk 1 (cReg (ZbI O))) (cReg ZbJ))
def W52_1:RC' H:=λO P ro=>cSeq (cSeq (cReg (ZbL O)) (cIf (.tmp 34) (cSkip) (cExit 2))) (cSeq (cBlk 3 (cReg (ZbM O))) (cReg ZbN))
def W52_2:RC' H:=λO P ro=>cSeq (cSeq (cReg (ZbP O)) (cIf (.tmp 53) (cSkip) (cExit 4))) (cSeq (cBlk 5 (cReg (ZbQ O))) (cReg ZbR))
def W52_3:RC' H:=λO P ro=>cSeq (cSeq (cReg (ZbT O)) (cIf (.tmp 72) (cSkip) (cExit 6))) (cSeq (cBlk 7 (cSeq (cReg (ZbU O)) (cReg (ZbV O)))) (cReg ZbW))
def F52:RC' H:=λO P ro=>cSeq (cSeq (cReg ZbG) (cBlk 0 (cLoop (W52_0 O P ro)))) (cSeq (cSeq (cReg ZbK) (cBlk 2 (cLoop (W52_1 O P ro)))) (cSeq (cSeq (cReg ZbO) (cBlk 4 (cLoop (W52_2 O P ro)))) (cSeq (cReg ZbS) (cBlk 6 (cLoop (W52_3 O P ro))))))
theorem F52_fn:FN' 52 @F52 [] Tryz.f52:=f'n Tryz.func52
def ZbX(O:HI H):RL' H:=[to 2 (aMove (.const (.pointer none))),to 3 (aNew O [.int .i64 0,.int .i64 0])]
def ZbY:RL' H:=[mv' 11 0,to 12 (aCall 97 [.tmp 11]),mv' 4 12]
def ZbZ(O:HI H):RL' H:=[mv' 13 0,nl' 14 13,fl' 1 15 14,ld' O 16 15,ln' 17 16,to 18 (aBuild #[.int .i64 0,.slice none 0 0,.slice none 0 0,.int .i64 0] [(0,1),(1,1),(2,1),(3,1)] [(0,.tmp 17)]),to 19 (aBox O (.tmp 18)),mv' 5 19]
def Zb0:RL' H:=[mk' 6 0]
def Zb1(O:HI H):RL' H:=[mv' 20 6,mv' 21 0,nl' 22 21,fl' 5 23 22,ld' O 24 23,ln' 25 24,ia' .lss 26 20 25]
def Zb2(O:HI H):RL' H:=[mv' 29 4,mv' 30 0,nl' 31 30,fl' 5 32 31,ld' O 33 32,to 34 (aCall 98 [.tmp 29,.tmp 33]),mv' 7 34]
def Zb3:RL' H:=[mv' 35 7,to 36 (aInt .eql (.tmp 35) (.const (.int .i64 (-1))))]
def Zb4(O:HI H)(ro:Nat):RL' H:=[mv' 37 4,mv' 38 0,nl' 39 38,fl' 5 40 39,ld' O 41 40,to 42 (aCall 99 [.tmp 37,.tmp 41]),to 43 (aBuild #[.int .i64 0,.int .i64 0] [(0,1),(1,1)] [(0,.const (.int .i64 12)),(1,.tmp 42)]),to 2 (aMove (.const (.pointer none))),too (aSt O ro 2 (.tmp 3) (.tmp 43))]
def Zb5(O:HI H):RL' H:=[mv' 44 4,mv' 45 5,mv' 46 0,nl' 47 46,fl' 5 48 47,ld' O 49 48,mv' 50 7,ix' 6 51 49 50,to 52 (aLdN O 6 (.tmp 51)),to 53 (aCall 100 [.tmp 44,.tmp 45,.tmp 52])]
def Zb6:RL' H:=[mv' 27 6,ik' .add 28 27 1,mv' 6 28]
def Zb7:RL' H:=[mk' 8 0]
def Zb8(O:HI H):RL' H:=[mv' 54 8,mv' 55 0,nl' 56 55,fl' 2 57 56,ld' O 58 57,ln' 59 58,ia' .lss 60 54 59]
def Zb9(O:HI H):RL' H:=[mv' 63 4,mv' 64 0,nl' 65 64,fl' 2 66 65,ld' O 67 66,mv' 68 8,ix' 4 69 67 68,fl' 1 70 69,fl' 0 71 70,ld' O 72 71,to 73 (aCall 101 [.tmp 63,.tmp 72]),mv' 9 73]
def Zca(O:HI H)(ro:Nat):RL' H:=[mv' 74 5,mv' 75 5,nl' 76 75,fl' 1 77 76,ld' O 78 77,mv' 79 9,mv' 80 0,nl' 81 80,fl' 2 82 81,ld' O 83 82,mv' 84 8,ix' 4 85 83 84,fl' 3 86 85,ld' O 87 86,to 88 (aBuild #[.int .i64 0,.int .i64 0] [(0,1),(1,1)] [(0,.tmp 79),(1,.tmp 87)]),to 89 (aMkSl O 2 1 #[.int .i64 0,.int .i64 0] [(0,.tmp 88)]),to 90 (aApp O ro 2 16 (.tmp 78) (.tmp 89)),nl' 91 74,fl' 1 92 91,too (aSt O ro 1 (.tmp 92) (.tmp 90))]
def Zcb:RL' H:=[mv' 61 8,ik' .add 62 61 1,mv' 8 62]
def Zcc:RL' H:=[mv' 93 0,to 94 (aCall 102 [.tmp 93]),mv' 10 94]
def Zcd(O:HI H)(ro:Nat):RL' H:=[mv' 95 5,mv' 96 4,mv' 97 10,to 98 (aCall 101 [.tmp 96,.tmp 97]),nl' 99 95,fl' 3 100 99,too (aSt O ro 1 (.tmp 100) (.tmp 98))]
def Zce(O:HI H)(ro:Nat):RL' H:=[mv' 101 5,to 102 (aBuild #[.int .i64 0,.int .i64 0] [(0,1),(1,1)] []),mv' 2 101,too (aSt O ro 2 (.tmp 3) (.tmp 102))]
def W53_0:RC' H:=λO P ro=>cSeq (cSeq (cReg (Zb1 O)) (cIf (.tmp 26) (cSkip) (cExit 0))) (cSeq (cBlk 1 (cSeq (cReg (Zb2 O)) (cSeq (cSeq (cReg Zb3) (cIf (.tmp 36) (cSeq (cReg (Zb4 O ro)) (cRet)) (cSkip))) (cReg (Zb5 O))))) (cReg Zb6))
def W53_1:RC' H:=λO P ro=>cSeq (cSeq (cReg (Zb8 O)) (cIf (.tmp 60) (cSkip) (cExit 2))) (cSeq (cBlk 3 (cSeq (cReg (Zb9 O)) (cReg (Zca O ro)))) (cReg Zcb))
def F53:RC' H:=λO P ro=>cSeq (cReg (ZbX O)) (cSeq (cReg ZbY) (cSeq (cReg (ZbZ O)) (cSeq (cSeq (cReg Zb0) (cBlk 0 (cLoop (W53_0 O P ro)))) (cSeq (cSeq (cReg Zb7) (cBlk 2 (cLoop (W53_1 O P ro)))) (cSeq (cReg Zcc) (cSeq (cReg (Zcd O ro)) (cSeq (cReg (Zce O ro)) (cRet))))))))
theorem F53_fn:FN' 53 @F53 [.tmp 2,.cell 3 37] Tryz.f53:=f'n Tryz.func53
def Zcf:RL' H:=[mv' 4 0,mv' 5 1,to 6 (aCall 85 [.tmp 4,.tmp 5]),to 7 (aUn .not (.tmp 6))]
def Zcg(O:HI H):RL' H:=[mv' 8 0,mv' 9 0,nl' 10 9,fl' 1 11 10,ld' O 12 11,to 13 (aCall 88 [.tmp 8,.const (.int .i64 2),.tmp 12])]
def F84:RC' H:=λO P ro=>cSeq (cReg Zcf) (cIf (.tmp 7) (cReg (Zcg O)) (cSkip))
theorem F84_fn:FN' 84 @F84 [] Tryz.f84:=f'n Tryz.func84
def Zch:RL' H:=[to 4 (aMove (.const (.bool false)))]
def Zci:RL' H:=[mv' 5 0,to 6 (aCall 86 [.tmp 5]),mv' 7 1,ia' .neq 8 6 7]
def Zcj:RL' H:=[to 4 (aMove (.const (.bool false)))]
def Zck(O:HI H)(ro:Nat):RL' H:=[mv' 9 0,nl' 10 9,fl' 1 11 10,ld' O 12 11,ik' .add 13 12 1,nl' 14 9,fl' 1 15 14,too (aSt O ro 1 (.tmp 15) (.tmp 13))]
def Zcl:RL' H:=[to 4 (aMove (.const (.bool true)))]
def F85:RC' H:=λO P ro=>cSeq (cReg Zch) (cSeq (cSeq (cReg Zci) (cIf (.tmp 8) (cSeq (cReg Zcj) (cRet)) (cSkip))) (cSeq (cReg (Zck O ro)) (cSeq (cReg Zcl) (cRet))))
theorem F85_fn:FN' 85 @F85 [.tmp 4] Tryz.f85:=f'n Tryz.func85
def Zcm:RL' H:=[mk' 2 0]
def Zcn(O:HI H):RL' H:=[mv' 3 0,nl' 4 3,fl' 2 5 4,fl' 0 6 5,ld' O 7 6,ik' .neq 8 7 0,mv' 9 8,onlyIf 9 false 10 (mv' 10 0),onlyIf 9 false 11 (nl' 11 10),onlyIf 9 false 12 (fl' 1 12 11),onlyIf 9 false 13 (ld' O 13 12),onlyIf 9 false 14 (ik' .lss 14 13 0),to 15 (aPick (.tmp 9) (.const (.bool true)) (.tmp 14)),mv' 16 15,onlyIf 16 false 17 (mv' 17 0),onlyIf 16 false 18 (nl' 18 17),onlyIf 16 false 19 (fl' 1 19 18),onlyIf 16 false 20 (ld' O 20 19),onlyIf 16 false 21 (mv' 21 0),onlyIf 16 false 22 (nl' 22 21),onlyIf 16 false 23 (fl' 0 23 22),onlyIf 16 false 24 (ld' O 24 23),onlyIf 16 false 25 (to 25 (aLenStr (.tmp 24))),onlyIf 16 false 26 (ia' .geq 26 20 25),to 27 (aPick (.tmp 16) (.const (.bool true)) (.tmp 26))]
def Zco:RL' H:=[to 2 (aMove (.const (.int .i64 (-1))))]
def Zcp(O:HI H):RL' H:=[mv' 28 0,nl' 29 28,fl' 0 30 29,ld' O 31 30,mv' 32 0,nl' 33 32,fl' 1 34 33,ld' O 35 34,to 36 (aIdxStr (.tmp 31) (.tmp 35)),to 37 (aConv .i64 (.tmp 36)),mv' 2 37]
def F86:RC' H:=λO P ro=>cSeq (cReg Zcm) (cSeq (cSeq (cReg (Zcn O)) (cIf (.tmp 27) (cSeq (cReg Zco) (cRet)) (cSkip))) (cSeq (cReg (Zcp O)) (cRet)))
theorem F86_fn:FN' 86 @F86 [.tmp 2] Tryz.f86:=f'n Tryz.func86
def Zcq:RL' H:=[mk' 2 0]
def Zcr(O:HI H):RL' H:=[mv' 7 0,nl' 8 7,fl' 1 9 8,ld' O 10 9,mv' 3 10]
def Zcs:RL' H:=[mk' 4 0]
def Zct:RL' H:=[mv' 11 0,to 12 (aCall 86 [.tmp 11]),mv' 5 12]
def Zcu:RL' H:=[mv' 13 5,to 14 (aCall 148 [.tmp 13])]
def Zcv(O:HI H):RL' H:=[mv' 17 0,nl' 18 17,fl' 1 19 18,ld' O 20 19,mv' 21 3,ia' .sub 22 20 21,mv' 6 22]
def Zcw:RL' H:=[mv' 23 6,ik' .eql 24 23 4,mv' 25 24,onlyIf 25 false 26 (mv' 26 6),onlyIf 25 false 27 (ik' .gtr 27 26 0),onlyIf 25 false 28 (mv' 28 27),onlyIf 28 true 29 (mv' 29 4),onlyIf 28 true 30 (ik' .eql 30 29 0),onlyIf 25 false 31 (to 31 (aPick (.tmp 28) (.tmp 30) (.const (.bool false)))),to 32 (aPick (.tmp 25) (.const (.bool true)) (.tmp 31))]
def Zcx(O:HI H):RL' H:=[mv' 33 0,mv' 34 0,nl' 35 34,fl' 1 36 35,ld' O 37 36,to 38 (aCall 88 [.tmp 33,.const (.int .i64 2),.tmp 37])]
def Zcy:RL' H:=[mk' 2 0]
def Zcz:RL' H:=[mv' 39 4,to 40 (aInt .mul (.const (.int .i64 10)) (.tmp 39)),mv' 41 5,ia' .add 42 40 41,ik' .sub 43 42 48,mv' 4 43]
def ZcA(O:HI H)(ro:Nat):RL' H:=[mv' 44 0,nl' 45 44,fl' 1 46 45,ld' O 47 46,ik' .add 48 47 1,nl' 49 44,fl' 1 50 49,too (aSt O ro 1 (.tmp 50) (.tmp 48))]
def ZcB:RL' H:=[mv' 15 0,to 16 (aCall 86 [.tmp 15]),mv' 5 16]
def ZcC(O:HI H):RL' H:=[mv' 51 0,nl' 52 51,fl' 1 53 52,ld' O 54 53,mv' 55 3,ia' .eql 56 54 55]
def ZcD(O:HI H):RL' H:=[mv' 57 0,mv' 58 0,nl' 59 58,fl' 1 60 59,ld' O 61 60,to 62 (aCall 88 [.tmp 57,.const (.int .i64 2),.tmp 61])]
def ZcE:RL' H:=[mv' 63 4,mv' 2 63]
def W87_0:RC' H:=λO P ro=>cSeq (cSeq (cReg Zcu) (cIf (.tmp 14) (cSkip) (cExit 0))) (cSeq (cBlk 1 (cSeq (cReg (Zcv O)) (cSeq (cSeq (cReg Zcw) (cIf (.tmp 32) (cSeq (cReg (Zcx O)) (cSeq (cReg Zcy) (cRet))) (cSkip))) (cSeq (cReg Zcz) (cReg (ZcA O ro)))))) (cReg ZcB))
def F87:RC' H:=λO P ro=>cSeq (cReg Zcq) (cSeq (cReg (Zcr O)) (cSeq (cReg Zcs) (cSeq (cSeq (cReg Zct) (cBlk 0 (cLoop (W87_0 O P ro)))) (cSeq (cSeq (cReg (ZcC O)) (cIf (.tmp 56) (cReg (ZcD O)) (cSkip))) (cSeq (cReg ZcE) (cRet))))))
theorem F87_fn:FN' 87 @F87 [.tmp 2] Tryz.f87:=f'n Tryz.func87
def ZcF(O:HI H):RL' H:=[mv' 6 0,nl' 7 6,fl' 2 8 7,fl' 0 9 8,ld' O 10 9,ik' .eql 11 10 0]
def ZcG(O:HI H)(ro:Nat):RL' H:=[mv' 12 0,mv' 13 1,mv' 14 2,to 15 (aBuild #[.int .i64 0,.int .i64 0] [(0,1),(1,1)] [(0,.tmp 13),(1,.tmp 14)]),nl' 16 12,fl' 2 17 16,too (aSt O ro 2 (.tmp 17) (.tmp 15))]
def F88:RC' H:=λO P ro=>cSeq (cReg (ZcF O)) (cIf (.tmp 11) (cReg (ZcG O ro)) (cSkip))
theorem F88_fn:FN' 88 @F88 [] Tryz.f88:=f'n Tryz.func88
def ZcH:RL' H:=[mv' 4 0,mv' 5 1,to 6 (aCall 149 [.tmp 4,.tmp 5])]
def ZcI(O:HI H)(ro:Nat):RL' H:=[mv' 7 0,nl' 8 7,fl' 0 9 8,ld' O 10 9,mv' 11 1,to 12 (aShift .shr (.tmp 11) (.const (.int .u64 1))),ix' 1 13 10 12,too (aSt O ro 1 (.tmp 13) (.const (.bool true)))]
def F89:RC' H:=λO P ro=>cSeq (cReg ZcH) (cIf (.tmp 6) (cReg (ZcI O ro)) (cSkip))
theorem F89_fn:FN' 89 @F89 [] Tryz.f89:=f'n Tryz.func89
def ZcJ(O:HI H)(ro:Nat):RL' H:=[mv' 8 0,mv' 9 1,to 10 (aCall 150 [.tmp 8,.tmp 9]),to 6 (aNew O [.int .i64 0,.int .i64 0]),too (aSt O ro 2 (.tmp 6) (.tmp 10))]
def ZcK:RL' H:=[mk' 7 0]
def ZcL:RL' H:=[mv' 11 1,to 12 (aCall 85 [.tmp 11,.const (.int .i64 32)])]
def ZcM:RL' H:=[mv' 13 1,mv' 14 2,to 15 (aCall 151 [.tmp 13,.tmp 14]),mv' 7 15]
def ZcN:RL' H:=[mv' 16 1,to 17 (aCall 84 [.tmp 16,.const (.int .i64 10)])]
def ZcO(O:HI H)(ro:Nat):RL' H:=[mv' 18 0,mv' 19 0,nl' 20 19,fl' 2 21 20,ld' O 22 21,mv' 23 2,to 24 (aLdN O 2 (.tmp 6)),mv' 25 7,to 26 (aBuild #[.int .i64 0,.int .i64 0,.int .i64 0,.int .i64 0] [(0,1),(1,2),(3,1)] [(0,.tmp 23),(1,.tmp 24),(2,.tmp 25)]),to 27 (aMkSl O 4 1 #[.int .i64 0,.int .i64 0,.int .i64 0,.int .i64 0] [(0,.tmp 26)]),to 28 (aApp O ro 4 32 (.tmp 22) (.tmp 27)),nl' 29 18,fl' 2 30 29,too (aSt O ro 1 (.tmp 30) (.tmp 28))]
def F90:RC' H:=λO P ro=>cSeq (cReg (ZcJ O ro)) (cSeq (cReg ZcK) (cSeq (cSeq (cReg ZcL) (cIf (.tmp 12) (cReg ZcM) (cSkip))) (cSeq (cReg ZcN) (cReg (ZcO O ro)))))
theorem F90_fn:FN' 90 @F90 [] Tryz.f90:=f'n Tryz.func90
def ZcP:RL' H:=[to 6 (aMove (.const (.slice none 0 0)))]
def ZcQ:RL' H:=[to 7 (aMove (.const (.slice none 0 0)))]
def ZcR:RL' H:=[mk' 8 0]
def ZcS:RL' H:=[mv' 10 8,mv' 11 2,ia' .lss 12 10 11]
def ZcT(O:HI H)(ro:Nat):RL' H:=[mv' 15 0,mv' 16 1,to 17 (aCall 150 [.tmp 15,.tmp 16]),to 9 (aNew O [.int .i64 0,.int .i64 0]),too (aSt O ro 2 (.tmp 9) (.tmp 17))]
def ZcU:RL' H:=[mv' 18 1,to 19 (aCall 84 [.tmp 18,.const (.int .i64 10)])]
def ZcV(O:HI H)(ro:Nat):RL' H:=[mv' 20 7,to 21 (aLdN O 2 (.tmp 9)),to 22 (aMkSl O 2 1 #[.int .i64 0,.int .i64 0] [(0,.tmp 21)]),to 23 (aApp O ro 2 16 (.tmp 20) (.tmp 22)),mv' 7 23]
def ZcW:RL' H:=[mv' 13 8,ik' .add 14 13 1,mv' 8 14]
def ZcX:RL' H:=[mv' 24 7,mv' 6 24]
def W91_0:RC' H:=λO P ro=>cSeq (cSeq (cReg ZcS) (cIf (.tmp 12) (cSkip) (cExit 0))) (cSeq (cBlk 1 (cSeq (cReg (ZcT O ro)) (cSeq (cReg ZcU) (cReg (ZcV O ro))))) (cReg ZcW))
def F91:RC' H:=λO P ro=>cSeq (cReg ZcP) (cSeq (cReg ZcQ) (cSeq (cSeq (cReg ZcR) (cBlk 0 (cLoop (W91_0 O P ro)))) (cSeq (cReg ZcX) (cRet))))
theorem F91_fn:FN' 91 @F91 [.tmp 6] Tryz.f91:=f'n Tryz.func91
def ZcY(O:HI H):RL' H:=[mv' 10 1,nl' 11 10,fl' 1 12 11,ld' O 13 12,mv' 6 13]
def ZcZ:RL' H:=[mv' 14 1,to 15 (aCall 152 [.tmp 14]),mv' 7 15]
def Zc0:RL' H:=[mv' 16 7,ik' .eql 17 16 0,mv' 18 17,onlyIf 18 false 19 (mv' 19 7),onlyIf 18 false 20 (mv' 20 2),onlyIf 18 false 21 (ia' .gtr 21 19 20),to 22 (aPick (.tmp 18) (.const (.bool true)) (.tmp 21))]
def Zc1:RL' H:=[mv' 23 1,mv' 24 6,to 25 (aCall 88 [.tmp 23,.const (.int .i64 10),.tmp 24])]
def Zc2:RL' H:=[mv' 26 2,mv' 27 7,ia' .sub 28 26 27,mv' 8 28]
def Zc3(O:HI H):RL' H:=[mv' 29 1,nl' 30 29,fl' 1 31 30,ld' O 32 31,mv' 9 32]
def Zc4:RL' H:=[mv' 33 1,to 34 (aCall 152 [.tmp 33]),mv' 7 34]
def Zc5:RL' H:=[mv' 35 7,mv' 36 8,ia' .gtr 37 35 36]
def Zc6:RL' H:=[mv' 38 1,mv' 39 9,to 40 (aCall 88 [.tmp 38,.const (.int .i64 10),.tmp 39])]
def Zc7:RL' H:=[mv' 41 0,mv' 42 2,to 43 (aCall 89 [.tmp 41,.tmp 42])]
def Zc8(O:HI H)(ro:Nat):RL' H:=[mv' 44 0,mv' 45 0,nl' 46 45,fl' 5 47 46,ld' O 48 47,mv' 49 2,mv' 50 6,to 51 (aBuild #[.int .i64 0,.int .i64 0] [(0,1),(1,1)] [(0,.tmp 49),(1,.tmp 50)]),mv' 52 8,mv' 53 6,to 54 (aBuild #[.int .i64 0,.int .i64 0] [(0,1),(1,1)] [(0,.tmp 52),(1,.tmp 53)]),mv' 55 8,mv' 56 7,ia' .sub 57 55 56,mv' 58 9,to 59 (aBuild #[.int .i64 0,.int .i64 0] [(0,1),(1,1)] [(0,.tmp 57),(1,.tmp 58)]),to 60 (aBuild #[.int .i64 0,.int .i64 0,.int .i64 0,.int .i64 0,.int .i64 0,.int .i64 0] [(0,2),(2,2),(4,2)] [(0,.tmp 51),(1,.tmp 54),(2,.tmp 59)]),to 61 (aMkSl O 6 1 #[.int .i64 0,.int .i64 0,.int .i64 0,.int .i64 0,.int .i64 0,.int .i64 0] [(0,.tmp 60)]),to 62 (aApp O ro 6 48 (.tmp 48) (.tmp 61)),nl' 63 44,fl' 5 64 63,too (aSt O ro 1 (.tmp 64) (.tmp 62))]
def F92:RC' H:=λO P ro=>cSeq (cReg (ZcY O)) (cSeq (cReg ZcZ) (cSeq (cSeq (cReg Zc0) (cIf (.tmp 22) (cReg Zc1) (cSkip))) (cSeq (cReg Zc2) (cSeq (cReg (Zc3 O)) (cSeq (cReg Zc4) (cSeq (cSeq (cReg Zc5) (cIf (.tmp 37) (cReg Zc6) (cSkip))) (cSeq (cReg Zc7) (cReg (Zc8 O ro)))))))))
theorem F92_fn:FN' 92 @F92 [] Tryz.f92:=f'n Tryz.func92
def Zc9(O:HI H):RL' H:=[to 4 (aNew O [.int .i64 0,.int .i64 0])]
def Zda(O:HI H)(ro:Nat):RL' H:=[mv' 6 0,mv' 7 1,to 8 (aCall 150 [.tmp 6,.tmp 7]),to 5 (aNew O [.int .i64 0,.int .i64 0]),too (aSt O ro 2 (.tmp 5) (.tmp 8))]
def Zdb(O:HI H):RL' H:=[fl' 0 9 5,ld' O 10 9,ik' .and 11 10 1,ik' .eql 12 11 1,mv' 13 12,onlyIf 13 false 14 (mv' 14 0),onlyIf 13 false 15 (fl' 0 15 5),onlyIf 13 false 16 (ld' O 16 15),onlyIf 13 false 17 (to 17 (aCall 153 [.tmp 14,.tmp 16])),to 18 (aPick (.tmp 13) (.const (.bool true)) (.tmp 17))]
def Zdc(O:HI H):RL' H:=[mv' 19 1,fl' 1 20 5,ld' O 21 20,to 22 (aCall 88 [.tmp 19,.const (.int .i64 8),.tmp 21])]
def Zdd(O:HI H):RL' H:=[mv' 23 0,fl' 0 24 5,ld' O 25 24,to 26 (aCall 89 [.tmp 23,.tmp 25])]
def Zde(O:HI H)(ro:Nat):RL' H:=[to 27 (aLdN O 2 (.tmp 5)),too (aSt O ro 2 (.tmp 4) (.tmp 27))]
def F93:RC' H:=λO P ro=>cSeq (cReg (Zc9 O)) (cSeq (cReg (Zda O ro)) (cSeq (cSeq (cReg (Zdb O)) (cIf (.tmp 18) (cReg (Zdc O)) (cSkip))) (cSeq (cReg (Zdd O)) (cSeq (cReg (Zde O ro)) (cRet)))))
theorem F93_fn:FN' 93 @F93 [.cell 4 132] Tryz.f93:=f'n Tryz.func93
def Zdf(O:HI H)(ro:Nat):RL' H:=[mv' 7 0,mv' 8 1,to 9 (aCall 93 [.tmp 7,.tmp 8]),to 4 (aNew O [.int .i64 0,.int .i64 0]),too (aSt O ro 2 (.tmp 4) (.tmp 9))]
def Zdg:RL' H:=[mv' 10 1,to 11 (aCall 84 [.tmp 10,.const (.int .i64 32)])]
def Zdh(O:HI H)(ro:Nat):RL' H:=[mv' 12 0,mv' 13 1,to 14 (aCall 150 [.tmp 12,.tmp 13]),to 5 (aNew O [.int .i64 0,.int .i64 0]),too (aSt O ro 2 (.tmp 5) (.tmp 14))]
def Zdi:RL' H:=[mv' 15 1,to 16 (aCall 84 [.tmp 15,.const (.int .i64 32)])]
def Zdj(O:HI H)(ro:Nat):RL' H:=[mv' 17 0,mv' 18 1,to 19 (aCall 150 [.tmp 17,.tmp 18]),to 6 (aNew O [.int .i64 0,.int .i64 0]),too (aSt O ro 2 (.tmp 6) (.tmp 19))]
def Zdk:RL' H:=[mv' 20 1,to 21 (aCall 84 [.tmp 20,.const (.int .i64 10)])]
def Zdl(O:HI H)(ro:Nat):RL' H:=[mv' 22 0,mv' 23 0,nl' 24 23,fl' 5 25 24,ld' O 26 25,to 27 (aLdN O 2 (.tmp 4)),to 28 (aLdN O 2 (.tmp 5)),to 29 (aLdN O 2 (.tmp 6)),to 30 (aBuild #[.int .i64 0,.int .i64 0,.int .i64 0,.int .i64 0,.int .i64 0,.int .i64 0] [(0,2),(2,2),(4,2)] [(0,.tmp 27),(1,.tmp 28),(2,.tmp 29)]),to 31 (aMkSl O 6 1 #[.int .i64 0,.int .i64 0,.int .i64 0,.int .i64 0,.int .i64 0,.int .i64 0] [(0,.tmp 30)]),to 32 (aApp O ro 6 48 (.tmp 26) (.tmp 31)),nl' 33 22,fl' 5 34 33,too (aSt O ro 1 (.tmp 34) (.tmp 32))]
def F94:RC' H:=λO P ro=>cSeq (cReg (Zdf O ro)) (cSeq (cReg Zdg) (cSeq (cReg (Zdh O ro)) (cSeq (cReg Zdi) (cSeq (cReg (Zdj O ro)) (cSeq (cReg Zdk) (cReg (Zdl O ro)))))))
theorem F94_fn:FN' 94 @F94 [] Tryz.f94:=f'n Tryz.func94
def Zdm(O:HI H):RL' H:=[to 3 (aBox O (.tmp 1))]
def Zdn:RL' H:=[mk' 4 0]
def Zdo:RL' H:=[mv' 7 0,to 8 (aCall 86 [.tmp 7])]
def Zdp:RL' H:=[ik' .eql 16 8 105,mv' 15 16]
def Zdq(O:HI H):RL' H:=[fl' 2 17 3,ld' O 18 17,mv' 4 18]
def Zdr:RL' H:=[ik' .eql 20 8 108,mv' 19 20]
def Zds(O:HI H):RL' H:=[fl' 3 21 3,ld' O 22 21,mv' 4 22]
def Zdt:RL' H:=[ik' .eql 24 8 111,mv' 23 24]
def Zdu(O:HI H):RL' H:=[fl' 4 25 3,ld' O 26 25,mv' 4 26]
def Zdv:RL' H:=[ik' .eql 28 8 98,mv' 27 28]
def Zdw(O:HI H):RL' H:=[fl' 6 29 3,ld' O 30 29,mv' 4 30]
def Zdx(O:HI H):RL' H:=[mv' 9 0,mv' 10 0,nl' 11 10,fl' 1 12 11,ld' O 13 12,to 14 (aCall 88 [.tmp 9,.const (.int .i64 2),.tmp 13])]
def Zdy(O:HI H)(ro:Nat):RL' H:=[mv' 31 0,nl' 32 31,fl' 1 33 32,ld' O 34 33,ik' .add 35 34 1,nl' 36 31,fl' 1 37 36,too (aSt O ro 1 (.tmp 37) (.tmp 35))]
def Zdz(O:HI H):RL' H:=[mv' 38 0,nl' 39 38,fl' 1 40 39,ld' O 41 40,mv' 5 41]
def ZdA:RL' H:=[mv' 42 0,to 43 (aCall 87 [.tmp 42]),mv' 6 43]
def ZdB:RL' H:=[mv' 44 6,mv' 45 4,ia' .geq 46 44 45]
def ZdC:RL' H:=[mv' 47 0,mv' 48 5,to 49 (aCall 88 [.tmp 47,.const (.int .i64 2),.tmp 48])]
def ZdD:RL' H:=[mv' 50 0,to 51 (aCall 84 [.tmp 50,.const (.int .i64 32)])]
def ZdE:RL' H:=[mv' 52 0,to 53 (aCall 154 [.tmp 52])]
def F95:RC' H:=λO P ro=>cSeq (cReg (Zdm O)) (cSeq (cReg Zdn) (cSeq (cSeq (cReg Zdo) (cBlk 0 (cSeq (cReg Zdp) (cIf (.tmp 15) (cReg (Zdq O)) (cSeq (cReg Zdr) (cIf (.tmp 19) (cReg (Zds O)) (cSeq (cReg Zdt) (cIf (.tmp 23) (cReg (Zdu O)) (cSeq (cReg Zdv) (cIf (.tmp 27) (cReg (Zdw O)) (cSeq (cReg (Zdx O)) (cRet)))))))))))) (cSeq (cReg (Zdy O ro)) (cSeq (cReg (Zdz O)) (cSeq (cReg ZdA) (cSeq (cSeq (cReg ZdB) (cIf (.tmp 46) (cReg ZdC) (cSkip))) (cSeq (cReg ZdD) (cReg ZdE))))))))
theorem F95_fn:FN' 95 @F95 [] Tryz.f95:=f'n Tryz.func95
def ZdF(O:HI H):RL' H:=[to 5 (aBox O (.tmp 2))]
def ZdG(O:HI H):RL' H:=[mv' 6 0,fl' 0 7 5,ld' O 8 7,to 9 (aCall 153 [.tmp 6,.tmp 8]),to 10 (aUn .not (.tmp 9))]
def ZdH(O:HI H):RL' H:=[mv' 11 1,fl' 1 12 5,ld' O 13 12,to 14 (aCall 88 [.tmp 11,.const (.int .i64 11),.tmp 13])]
def F96:RC' H:=λO P ro=>cSeq (cReg (ZdF O)) (cSeq (cReg (ZdG O)) (cIf (.tmp 10) (cReg (ZdH O)) (cSkip)))
theorem F96_fn:FN' 96 @F96 [] Tryz.f96:=f'n Tryz.func96
def ZdI:RL' H:=[to 2 (aMove (.const (.pointer none)))]
def ZdJ(O:HI H):RL' H:=[to 7 (aBuild #[.slice none 0 0,.int .i64 0] [(0,1),(1,1)] []),to 8 (aBox O (.tmp 7)),mv' 3 8]
def ZdK:RL' H:=[mk' 4 0]
def ZdL(O:HI H):RL' H:=[mv' 9 4,mv' 10 0,nl' 11 10,fl' 0 12 11,ld' O 13 12,ln' 14 13,ia' .lss 15 9 14]
def ZdM(O:HI H)(ro:Nat):RL' H:=[mv' 18 3,mv' 19 3,nl' 20 19,fl' 0 21 20,ld' O 22 21,to 23 (aMkSl O 1 1 #[.int .i64 0] [(0,.const (.int .i64 (-1)))]),to 24 (aApp O ro 1 8 (.tmp 22) (.tmp 23)),nl' 25 18,fl' 0 26 25,too (aSt O ro 1 (.tmp 26) (.tmp 24))]
def ZdN:RL' H:=[mv' 16 4,ik' .add 17 16 1,mv' 4 17]
def ZdO:RL' H:=[mv' 27 3,to 28 (aCall 155 [.tmp 27,.const (.int .i64 0)])]
def ZdP:RL' H:=[mk' 5 0]
def ZdQ(O:HI H):RL' H:=[mv' 29 5,mv' 30 0,nl' 31 30,fl' 1 32 31,ld' O 33 32,ln' 34 33,ia' .lss 35 29 34]
def ZdR(O:HI H):RL' H:=[mv' 38 3,mv' 39 0,nl' 40 39,fl' 1 41 40,ld' O 42 41,mv' 43 5,ix' 1 44 42 43,ld' O 45 44,to 46 (aCall 155 [.tmp 38,.tmp 45])]
def ZdS:RL' H:=[mv' 36 5,ik' .add 37 36 1,mv' 5 37]
def ZdT:RL' H:=[mk' 6 0]
def ZdU(O:HI H):RL' H:=[mv' 47 6,mv' 48 0,nl' 49 48,fl' 2 50 49,ld' O 51 50,ln' 52 51,ia' .lss 53 47 52]
def ZdV(O:HI H):RL' H:=[mv' 56 3,mv' 57 0,nl' 58 57,fl' 2 59 58,ld' O 60 59,mv' 61 6,ix' 4 62 60 61,fl' 0 63 62,ld' O 64 63,to 65 (aCall 155 [.tmp 56,.tmp 64])]
def ZdW:RL' H:=[mv' 54 6,ik' .add 55 54 1,mv' 6 55]
def ZdX:RL' H:=[mv' 66 3,mv' 2 66]
def W97_0:RC' H:=λO P ro=>cSeq (cSeq (cReg (ZdL O)) (cIf (.tmp 15) (cSkip) (cExit 0))) (cSeq (cBlk 1 (cReg (ZdM O ro))) (cReg ZdN))
def W97_1:RC' H:=λO P ro=>cSeq (cSeq (cReg (ZdQ O)) (cIf (.tmp 35) (cSkip) (cExit 2))) (cSeq (cBlk 3 (cReg (ZdR O))) (cReg ZdS))
def W97_2:RC' H:=λO P ro=>cSeq (cSeq (cReg (ZdU O)) (cIf (.tmp 53) (cSkip) (cExit 4))) (cSeq (cBlk 5 (cReg (ZdV O))) (cReg ZdW))
def F97:RC' H:=λO P ro=>cSeq (cReg ZdI) (cSeq (cReg (ZdJ O)) (cSeq (cSeq (cReg ZdK) (cBlk 0 (cLoop (W97_0 O P ro)))) (cSeq (cReg ZdO) (cSeq (cSeq (cReg ZdP) (cBlk 2 (cLoop (W97_1 O P ro)))) (cSeq (cSeq (cReg ZdT) (cBlk 4 (cLoop (W97_2 O P ro)))) (cSeq (cReg ZdX) (cRet)))))))
theorem F97_fn:FN' 97 @F97 [.tmp 2] Tryz.f97:=f'n Tryz.func97
def ZdY:RL' H:=[mk' 4 0]
def ZdZ:RL' H:=[mk' 5 0]
def Zd0:RL' H:=[mv' 9 5,mv' 10 1,ln' 11 10,ia' .lss 12 9 11]
def Zd1(O:HI H):RL' H:=[mv' 15 0,mv' 16 1,mv' 17 5,ix' 6 18 16 17,fl' 0 19 18,fl' 0 20 19,ld' O 21 20,to 22 (aCall 156 [.tmp 15,.tmp 21]),mv' 6 22]
def Zd2(O:HI H):RL' H:=[mv' 23 0,mv' 24 1,mv' 25 5,ix' 6 26 24 25,fl' 2 27 26,fl' 0 28 27,ld' O 29 28,to 30 (aCall 156 [.tmp 23,.tmp 29]),mv' 7 30]
def Zd3(O:HI H):RL' H:=[mv' 31 0,mv' 32 1,mv' 33 5,ix' 6 34 32 33,fl' 4 35 34,fl' 0 36 35,ld' O 37 36,to 38 (aCall 156 [.tmp 31,.tmp 37]),mv' 8 38]
def Zd4:RL' H:=[mv' 39 6,to 40 (aInt .eql (.tmp 39) (.const (.int .i64 (-1)))),mv' 41 40,onlyIf 41 true 42 (mv' 42 7),onlyIf 41 true 43 (to 43 (aInt .neq (.tmp 42) (.const (.int .i64 (-1))))),to 44 (aPick (.tmp 41) (.tmp 43) (.const (.bool false))),mv' 45 44,onlyIf 45 true 46 (mv' 46 8),onlyIf 45 true 47 (to 47 (aInt .neq (.tmp 46) (.const (.int .i64 (-1))))),to 48 (aPick (.tmp 45) (.tmp 47) (.const (.bool false)))]
def Zd5:RL' H:=[mv' 49 5,mv' 4 49]
def Zd6:RL' H:=[mv' 13 5,ik' .add 14 13 1,mv' 5 14]
def Zd7:RL' H:=[to 4 (aMove (.const (.int .i64 (-1))))]
def W98_0:RC' H:=λO P ro=>cSeq (cSeq (cReg Zd0) (cIf (.tmp 12) (cSkip) (cExit 0))) (cSeq (cBlk 1 (cSeq (cReg (Zd1 O)) (cSeq (cReg (Zd2 O)) (cSeq (cReg (Zd3 O)) (cSeq (cReg Zd4) (cIf (.tmp 48) (cSeq (cReg Zd5) (cRet)) (cSkip))))))) (cReg Zd6))
def F98:RC' H:=λO P ro=>cSeq (cReg ZdY) (cSeq (cSeq (cReg ZdZ) (cBlk 0 (cLoop (W98_0 O P ro)))) (cSeq (cReg Zd7) (cRet)))
theorem F98_fn:FN' 98 @F98 [.tmp 4] Tryz.f98:=f'n Tryz.func98
def Zd8:RL' H:=[mk' 4 0]
def Zd9:RL' H:=[mk' 5 0]
def Zea:RL' H:=[mv' 7 5,mv' 8 1,ln' 9 8,ia' .lss 10 7 9]
def Zeb(O:HI H):RL' H:=[mv' 13 0,mv' 14 1,mv' 15 5,ix' 6 16 14 15,fl' 0 17 16,fl' 0 18 17,ld' O 19 18,to 20 (aCall 156 [.tmp 13,.tmp 19]),mv' 6 20]
def Zec:RL' H:=[mv' 21 6,to 22 (aInt .eql (.tmp 21) (.const (.int .i64 (-1))))]
def Zed(O:HI H):RL' H:=[mv' 23 1,mv' 24 5,ix' 6 25 23 24,fl' 0 26 25,fl' 1 27 26,ld' O 28 27,mv' 4 28]
def Zee:RL' H:=[mv' 11 5,ik' .add 12 11 1,mv' 5 12]
def Zef:RL' H:=[mk' 4 0]
def W99_0:RC' H:=λO P ro=>cSeq (cSeq (cReg Zea) (cIf (.tmp 10) (cSkip) (cExit 0))) (cSeq (cBlk 1 (cSeq (cReg (Zeb O)) (cSeq (cReg Zec) (cIf (.tmp 22) (cSeq (cReg (Zed O)) (cRet)) (cSkip))))) (cReg Zee))
def F99:RC' H:=λO P ro=>cSeq (cReg Zd8) (cSeq (cSeq (cReg Zd9) (cBlk 0 (cLoop (W99_0 O P ro)))) (cSeq (cReg Zef) (cRet)))
theorem F99_fn:FN' 99 @F99 [.tmp 4] Tryz.f99:=f'n Tryz.func99
def Zeg(O:HI H):RL' H:=[to 5 (aBox O (.tmp 2))]
def Zeh(O:HI H):RL' H:=[mv' 8 0,fl' 2 9 5,fl' 0 10 9,ld' O 11 10,to 12 (aCall 101 [.tmp 8,.tmp 11]),mv' 6 12]
def Zei(O:HI H):RL' H:=[mv' 13 0,fl' 4 14 5,fl' 0 15 14,ld' O 16 15,to 17 (aCall 101 [.tmp 13,.tmp 16]),mv' 7 17]
def Zej:RL' H:=[mv' 18 6,mv' 19 7,ia' .lss 20 18 19]
def Zek:RL' H:=[mv' 21 7,mv' 22 6,mv' 6 21,mv' 7 22]
def Zel(O:HI H)(ro:Nat):RL' H:=[mv' 23 1,mv' 24 1,nl' 25 24,fl' 2 26 25,ld' O 27 26,mv' 28 6,mv' 29 7,to 30 (aBuild #[.int .i64 0,.int .i64 0] [(0,1),(1,1)] [(0,.tmp 28),(1,.tmp 29)]),to 31 (aMkSl O 2 1 #[.int .i64 0,.int .i64 0] [(0,.tmp 30)]),to 32 (aApp O ro 2 16 (.tmp 27) (.tmp 31)),nl' 33 23,fl' 2 34 33,too (aSt O ro 1 (.tmp 34) (.tmp 32))]
def Zem(O:HI H):RL' H:=[mv' 35 0,fl' 0 36 5,fl' 0 37 36,ld' O 38 37,to 39 (aCall 155 [.tmp 35,.tmp 38])]
def F100:RC' H:=λO P ro=>cSeq (cReg (Zeg O)) (cSeq (cReg (Zeh O)) (cSeq (cReg (Zei O)) (cSeq (cSeq (cReg Zej) (cIf (.tmp 20) (cReg Zek) (cSkip))) (cSeq (cReg (Zel O ro)) (cReg (Zem O))))))
theorem F100_fn:FN' 100 @F100 [] Tryz.f100:=f'n Tryz.func100
def Zen:RL' H:=[mk' 4 0]
def Zeo:RL' H:=[mv' 6 0,mv' 7 1,to 8 (aCall 156 [.tmp 6,.tmp 7]),mv' 5 8]
def Zep:RL' H:=[mv' 9 5,to 10 (aInt .mul (.const (.int .i64 2)) (.tmp 9)),mv' 11 1,ik' .and 12 11 1,ia' .add 13 10 12,mv' 4 13]
def F101:RC' H:=λO P ro=>cSeq (cReg Zen) (cSeq (cReg Zeo) (cSeq (cReg Zep) (cRet)))
theorem F101_fn:FN' 101 @F101 [.tmp 4] Tryz.f101:=f'n Tryz.func101
def Zeq:RL' H:=[mk' 2 0]
def Zer(O:HI H):RL' H:=[mv' 3 0,nl' 4 3,fl' 4 5 4,ld' O 6 5,ln' 7 6,ik' .gtr 8 7 0]
def Zes(O:HI H):RL' H:=[mv' 9 0,nl' 10 9,fl' 4 11 10,ld' O 12 11,to 13 (aIdx 2 (.tmp 12) (.const (.int .i64 0))),fl' 0 14 13,ld' O 15 14,mv' 2 15]
def Zet(O:HI H):RL' H:=[mv' 16 0,nl' 17 16,fl' 3 18 17,ld' O 19 18,ln' 20 19,ik' .gtr 21 20 0]
def Zeu(O:HI H):RL' H:=[mv' 22 0,nl' 23 22,fl' 3 24 23,ld' O 25 24,to 26 (aIdx 2 (.tmp 25) (.const (.int .i64 0))),fl' 0 27 26,ld' O 28 27,mv' 2 28]
def Zev:RL' H:=[mk' 2 0]
def F102:RC' H:=λO P ro=>cSeq (cReg Zeq) (cSeq (cSeq (cReg (Zer O)) (cIf (.tmp 8) (cSeq (cReg (Zes O)) (cRet)) (cSkip))) (cSeq (cSeq (cReg (Zet O)) (cIf (.tmp 21) (cSeq (cReg (Zeu O)) (cRet)) (cSkip))) (cSeq (cReg Zev) (cRet))))
theorem F102_fn:FN' 102 @F102 [.tmp 2] Tryz.f102:=f'n Tryz.func102
def Zew:RL' H:=[to 2 (aMove (.const (.bool false)))]
def Zex:RL' H:=[mv' 3 0,ik' .geq 4 3 48,mv' 5 4,onlyIf 5 true 6 (mv' 6 0),onlyIf 5 true 7 (ik' .leq 7 6 57),to 8 (aPick (.tmp 5) (.tmp 7) (.const (.bool false))),mv' 2 8]
def F148:RC' H:=λO P ro=>cSeq (cReg Zew) (cSeq (cReg Zex) (cRet))
theorem F148_fn:FN' 148 @F148 [.tmp 2] Tryz.f148:=f'n Tryz.func148
def Zey:RL' H:=[to 4 (aMove (.const (.bool false)))]
def Zez(O:HI H):RL' H:=[mv' 5 1,ik' .geq 6 5 0,mv' 7 6,onlyIf 7 true 8 (mv' 8 1),onlyIf 7 true 9 (to 9 (aShift .shr (.tmp 8) (.const (.int .u64 1)))),onlyIf 7 true 10 (mv' 10 0),onlyIf 7 true 11 (nl' 11 10),onlyIf 7 true 12 (fl' 0 12 11),onlyIf 7 true 13 (ld' O 13 12),onlyIf 7 true 14 (ln' 14 13),onlyIf 7 true 15 (ia' .lss 15 9 14),to 16 (aPick (.tmp 7) (.tmp 15) (.const (.bool false))),mv' 4 16]
def F149:RC' H:=λO P ro=>cSeq (cReg Zey) (cSeq (cReg (Zez O)) (cRet))
theorem F149_fn:FN' 149 @F149 [.tmp 4] Tryz.f149:=f'n Tryz.func149
def ZeA(O:HI H):RL' H:=[to 4 (aNew O [.int .i64 0,.int .i64 0])]
def ZeB(O:HI H):RL' H:=[mv' 7 1,nl' 8 7,fl' 1 9 8,ld' O 10 9,mv' 5 10]
def ZeC:RL' H:=[mv' 11 1,to 12 (aCall 87 [.tmp 11]),mv' 6 12]
def ZeD:RL' H:=[mv' 13 0,mv' 14 6,to 15 (aCall 149 [.tmp 13,.tmp 14]),to 16 (aUn .not (.tmp 15))]
def ZeE:RL' H:=[mv' 17 1,mv' 18 5,to 19 (aCall 88 [.tmp 17,.const (.int .i64 7),.tmp 18])]
def ZeF(O:HI H)(ro:Nat):RL' H:=[mv' 20 6,mv' 21 5,to 22 (aBuild #[.int .i64 0,.int .i64 0] [(0,1),(1,1)] [(0,.tmp 20),(1,.tmp 21)]),too (aSt O ro 2 (.tmp 4) (.tmp 22))]
def F150:RC' H:=λO P ro=>cSeq (cReg (ZeA O)) (cSeq (cReg (ZeB O)) (cSeq (cReg ZeC) (cSeq (cSeq (cReg ZeD) (cIf (.tmp 16) (cReg ZeE) (cSkip))) (cSeq (cReg (ZeF O ro)) (cRet)))))
theorem F150_fn:FN' 150 @F150 [.cell 4 132] Tryz.f150:=f'n Tryz.func150
def ZeG:RL' H:=[mk' 4 0]
def ZeH(O:HI H):RL' H:=[mv' 6 0,nl' 7 6,fl' 1 8 7,ld' O 9 8,mv' 5 9]
def ZeI:RL' H:=[mv' 10 0,to 11 (aCall 87 [.tmp 10])]
def ZeJ:RL' H:=[ik' .eql 13 11 0,mv' 12 13]
def ZeK:RL' H:=[mk' 4 0]
def ZeL:RL' H:=[ik' .eql 15 11 1,mv' 14 15]
def ZeM:RL' H:=[mk' 4 1]
def ZeN:RL' H:=[mv' 17 1,ia' .eql 18 11 17,mv' 16 18]
def ZeO:RL' H:=[mk' 4 2]
def ZeP:RL' H:=[mv' 19 0,mv' 20 5,to 21 (aCall 88 [.tmp 19,.const (.int .i64 9),.tmp 20])]
def ZeQ:RL' H:=[mk' 4 0]
def F151:RC' H:=λO P ro=>cSeq (cReg ZeG) (cSeq (cReg (ZeH O)) (cSeq (cSeq (cReg ZeI) (cBlk 0 (cSeq (cReg ZeJ) (cIf (.tmp 12) (cSeq (cReg ZeK) (cRet)) (cSeq (cReg ZeL) (cIf (.tmp 14) (cSeq (cReg ZeM) (cRet)) (cSeq (cReg ZeN) (cIf (.tmp 16) (cSeq (cReg ZeO) (cRet)) (cSkip))))))))) (cSeq (cReg ZeP) (cSeq (cReg ZeQ) (cRet)))))
theorem F151_fn:FN' 151 @F151 [.tmp 4] Tryz.f151:=f'n Tryz.func151
def ZeR:RL' H:=[mk' 2 0]
def ZeS:RL' H:=[mv' 5 0,to 6 (aCall 185 [.tmp 5,.const (.int .i64 256)]),mv' 3 6]
def ZeT:RL' H:=[mv' 7 3,ik' .lss 8 7 128]
def ZeU:RL' H:=[mv' 9 3,mv' 2 9]
def ZeV:RL' H:=[mv' 10 0,to 11 (aCall 185 [.tmp 10,.const (.int .i64 128)]),mv' 4 11]
def ZeW:RL' H:=[mv' 12 3,ik' .sub 13 12 128,mv' 14 4,to 15 (aInt .mul (.const (.int .i64 128)) (.tmp 14)),ia' .add 16 13 15,mv' 2 16]
def F152:RC' H:=λO P ro=>cSeq (cReg ZeR) (cSeq (cReg ZeS) (cSeq (cSeq (cReg ZeT) (cIf (.tmp 8) (cSeq (cReg ZeU) (cRet)) (cSkip))) (cSeq (cReg ZeV) (cSeq (cReg ZeW) (cRet)))))
theorem F152_fn:FN' 152 @F152 [.tmp 2] Tryz.f152:=f'n Tryz.func152
def ZeX:RL' H:=[to 4 (aMove (.const (.bool false)))]
def ZeY(O:HI H):RL' H:=[mv' 5 0,mv' 6 1,to 7 (aCall 149 [.tmp 5,.tmp 6]),mv' 8 7,onlyIf 8 true 9 (mv' 9 0),onlyIf 8 true 10 (nl' 10 9),onlyIf 8 true 11 (fl' 0 11 10),onlyIf 8 true 12 (ld' O 12 11),onlyIf 8 true 13 (mv' 13 1),onlyIf 8 true 14 (to 14 (aShift .shr (.tmp 13) (.const (.int .u64 1)))),onlyIf 8 true 15 (ix' 1 15 12 14),onlyIf 8 true 16 (ld' O 16 15),to 17 (aPick (.tmp 8) (.tmp 16) (.const (.bool false))),mv' 4 17]
def F153:RC' H:=λO P ro=>cSeq (cReg ZeX) (cSeq (cReg (ZeY O)) (cRet))
theorem F153_fn:FN' 153 @F153 [.tmp 4] Tryz.f153:=f'n Tryz.func153
def ZeZ(O:HI H):RL' H:=[mv' 4 0,nl' 5 4,fl' 1 6 5,ld' O 7 6,mv' 2 7]
def Ze0:RL' H:=[mv' 8 0,to 9 (aCall 86 [.tmp 8]),mv' 3 9]
def Ze1:RL' H:=[mv' 10 3,to 11 (aInt .neq (.tmp 10) (.const (.int .i64 (-1)))),mv' 12 11,onlyIf 12 true 13 (mv' 13 3),onlyIf 12 true 14 (ik' .neq 14 13 10),to 15 (aPick (.tmp 12) (.tmp 14) (.const (.bool false)))]
def Ze2(O:HI H)(ro:Nat):RL' H:=[mv' 18 0,nl' 19 18,fl' 1 20 19,ld' O 21 20,ik' .add 22 21 1,nl' 23 18,fl' 1 24 23,too (aSt O ro 1 (.tmp 24) (.tmp 22))]
def Ze3:RL' H:=[mv' 16 0,to 17 (aCall 86 [.tmp 16]),mv' 3 17]
def Ze4(O:HI H):RL' H:=[mv' 25 0,nl' 26 25,fl' 1 27 26,ld' O 28 27,mv' 29 2,ia' .eql 30 28 29]
def Ze5(O:HI H):RL' H:=[mv' 31 0,mv' 32 0,nl' 33 32,fl' 1 34 33,ld' O 35 34,to 36 (aCall 88 [.tmp 31,.const (.int .i64 2),.tmp 35])]
def Ze6:RL' H:=[mv' 37 0,to 38 (aCall 84 [.tmp 37,.const (.int .i64 10)])]
def W154_0:RC' H:=λO P ro=>cSeq (cSeq (cReg Ze1) (cIf (.tmp 15) (cSkip) (cExit 0))) (cSeq (cBlk 1 (cReg (Ze2 O ro))) (cReg Ze3))
def F154:RC' H:=λO P ro=>cSeq (cReg (ZeZ O)) (cSeq (cSeq (cReg Ze0) (cBlk 0 (cLoop (W154_0 O P ro)))) (cSeq (cSeq (cReg (Ze4 O)) (cIf (.tmp 30) (cReg (Ze5 O)) (cSkip))) (cReg Ze6)))
theorem F154_fn:FN' 154 @F154 [] Tryz.f154:=f'n Tryz.func154
def Ze7:RL' H:=[mv' 5 1,to 6 (aShift .shr (.tmp 5) (.const (.int .u64 1))),mv' 4 6]
def Ze8(O:HI H):RL' H:=[mv' 7 4,ik' .lss 8 7 0,mv' 9 8,onlyIf 9 false 10 (mv' 10 4),onlyIf 9 false 11 (mv' 11 0),onlyIf 9 false 12 (nl' 12 11),onlyIf 9 false 13 (fl' 0 13 12),onlyIf 9 false 14 (ld' O 14 13),onlyIf 9 false 15 (ln' 15 14),onlyIf 9 false 16 (ia' .geq 16 10 15),to 17 (aPick (.tmp 9) (.const (.bool true)) (.tmp 16))]
def Ze9(O:HI H)(ro:Nat):RL' H:=[mv' 18 0,nl' 19 18,fl' 0 20 19,ld' O 21 20,mv' 22 4,mv' 23 0,nl' 24 23,fl' 1 25 24,ld' O 26 25,ix' 1 27 21 22,too (aSt O ro 1 (.tmp 27) (.tmp 26))]
def Zfa(O:HI H)(ro:Nat):RL' H:=[mv' 28 0,nl' 29 28,fl' 1 30 29,ld' O 31 30,ik' .add 32 31 1,nl' 33 28,fl' 1 34 33,too (aSt O ro 1 (.tmp 34) (.tmp 32))]
def F155:RC' H:=λO P ro=>cSeq (cReg Ze7) (cSeq (cSeq (cReg (Ze8 O)) (cIf (.tmp 17) (cRet) (cSkip))) (cSeq (cReg (Ze9 O ro)) (cReg (Zfa O ro))))
theorem F155_fn:FN' 155 @F155 [] Tryz.f155:=f'n Tryz.func155
def Zfb:RL' H:=[mk' 4 0]
def Zfc:RL' H:=[mv' 6 1,to 7 (aShift .shr (.tmp 6) (.const (.int .u64 1))),mv' 5 7]
def Zfd(O:HI H):RL' H:=[mv' 8 5,ik' .lss 9 8 0,mv' 10 9,onlyIf 10 false 11 (mv' 11 5),onlyIf 10 false 12 (mv' 12 0),onlyIf 10 false 13 (nl' 13 12),onlyIf 10 false 14 (fl' 0 14 13),onlyIf 10 false 15 (ld' O 15 14),onlyIf 10 false 16 (ln' 16 15),onlyIf 10 false 17 (ia' .geq 17 11 16),to 18 (aPick (.tmp 10) (.const (.bool true)) (.tmp 17))]
def Zfe:RL' H:=[to 4 (aMove (.const (.int .i64 (-1))))]
def Zff(O:HI H):RL' H:=[mv' 19 0,nl' 20 19,fl' 0 21 20,ld' O 22 21,mv' 23 5,ix' 1 24 22 23,ld' O 25 24,mv' 4 25]
def F156:RC' H:=λO P ro=>cSeq (cReg Zfb) (cSeq (cReg Zfc) (cSeq (cSeq (cReg (Zfd O)) (cIf (.tmp 18) (cSeq (cReg Zfe) (cRet)) (cSkip))) (cSeq (cReg (Zff O)) (cRet))))
theorem F156_fn:FN' 156 @F156 [.tmp 4] Tryz.f156:=f'n Tryz.func156
def Zfg:RL' H:=[mk' 4 0]
def Zfh:RL' H:=[mv' 6 0,to 7 (aCall 86 [.tmp 6]),mv' 5 7]
def Zfi:RL' H:=[mv' 8 5,to 9 (aInt .eql (.tmp 8) (.const (.int .i64 (-1)))),mv' 10 9,onlyIf 10 false 11 (mv' 11 5),onlyIf 10 false 12 (mv' 12 1),onlyIf 10 false 13 (ia' .geq 13 11 12),to 14 (aPick (.tmp 10) (.const (.bool true)) (.tmp 13))]
def Zfj(O:HI H):RL' H:=[mv' 15 0,mv' 16 0,nl' 17 16,fl' 1 18 17,ld' O 19 18,to 20 (aCall 88 [.tmp 15,.const (.int .i64 2),.tmp 19])]
def Zfk:RL' H:=[mk' 4 0]
def Zfl(O:HI H)(ro:Nat):RL' H:=[mv' 21 0,nl' 22 21,fl' 1 23 22,ld' O 24 23,ik' .add 25 24 1,nl' 26 21,fl' 1 27 26,too (aSt O ro 1 (.tmp 27) (.tmp 25))]
def Zfm:RL' H:=[mv' 28 5,mv' 4 28]
def F185:RC' H:=λO P ro=>cSeq (cReg Zfg) (cSeq (cReg Zfh) (cSeq (cSeq (cReg Zfi) (cIf (.tmp 14) (cSeq (cReg (Zfj O)) (cSeq (cReg Zfk) (cRet))) (cSkip))) (cSeq (cReg (Zfl O ro)) (cSeq (cReg Zfm) (cRet)))))
theorem F185_fn:FN' 185 @F185 [.tmp 4] Tryz.f185:=f'n Tryz.func185
end
end Go.Proofs.YtimdkminagnhgaaGreatDoor
