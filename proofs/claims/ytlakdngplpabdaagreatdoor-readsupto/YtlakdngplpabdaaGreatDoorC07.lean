/- Own work. -/
import Derived.Test.YtlakdngplpabdaaGreatDoorC06
import Derived.Test.YtlakdngplpabdaaGreatDoorProg
import Derived.KernelRfl
namespace Go.Proofs.YtlakdngplpabdaaGreatDoor
open Go.Vm Go.Proofs
set_option linter.unusedVariables false
set_option maxRecDepth 100000
section
variable {H : Type}
def R20_0 : Rg H := fun O P ro => [to 2 (aMove (.const (.pointer none))), to 3 (aNew O [.int .i64 0, .int .i64 0])]
def R20_1 : Rg H := fun O P ro => [mv 7 0, to 8 (aLenStr (.tmp 7)), to 9 (aInt .gtr (.tmp 8) (.const (.int .i64 1000)))]
def R20_2 : Rg H := fun O P ro => [to 10 (aBuild #[.int .i64 0, .int .i64 0] [(0, 1), (1, 1)] [(0, .const (.int .i64 1))]), to 2 (aMove (.const (.pointer none))), too (aSt O ro 2 (.tmp 3) (.tmp 10))]
def R20_3 : Rg H := fun O P ro => [mv 11 0, to 12 (aBuild #[.string ⟨#[]⟩, .int .i64 0, .int .i64 0, .int .i64 0] [(0, 1), (1, 1), (2, 2)] [(0, .tmp 11)]), to 13 (aBox O (.tmp 12)), mv 4 13]
def R20_4 : Rg H := fun O P ro => [mv 14 4, to 15 (aCall 45 [.tmp 14]), to 5 (aNew O [.bool false, .int .i64 0, .int .i64 0, .int .i64 0, .int .i64 0, .int .i64 0, .int .i64 0, .int .i64 0]), too (aSt O ro 8 (.tmp 5) (.tmp 15))]
def R20_5 : Rg H := fun O P ro => [to 16 (aLdN O 8 (.tmp 5)), mv 17 4, to 18 (aCall 46 [.tmp 16, .tmp 17])]
def R20_6 : Rg H := fun O P ro => [mv 19 4, to 20 (aCall 47 [.tmp 19])]
def R20_7 : Rg H := fun O P ro => [mv 21 4, to 22 (aNil (.tmp 21)), to 23 (aFld 2 (.tmp 22)), to 24 (aLdN O 2 (.tmp 23)), to 2 (aMove (.const (.pointer none))), too (aSt O ro 2 (.tmp 3) (.tmp 24))]
def R20_8 : Rg H := fun O P ro => [to 25 (aFld 1 (.tmp 5)), to 26 (aLd O (.tmp 25)), to 27 (aCall 48 [.tmp 26]), mv 6 27]
def R20_9 : Rg H := fun O P ro => [to 28 (aFld 0 (.tmp 5)), to 29 (aLd O (.tmp 28))]
def R20_10 : Rg H := fun O P ro => [mv 30 6, mv 31 4, to 32 (aLdN O 8 (.tmp 5)), to 33 (aCall 49 [.tmp 30, .tmp 31, .tmp 32])]
def R20_11 : Rg H := fun O P ro => [mv 34 6, mv 35 4, to 36 (aLdN O 8 (.tmp 5)), to 37 (aCall 50 [.tmp 34, .tmp 35, .tmp 36])]
def R20_12 : Rg H := fun O P ro => [mv 38 4, to 39 (aLdN O 8 (.tmp 5)), to 40 (aCall 51 [.tmp 38, .tmp 39])]
def R20_13 : Rg H := fun O P ro => [mv 41 6, mv 42 4, to 43 (aCall 52 [.tmp 41, .tmp 42])]
def R20_14 : Rg H := fun O P ro => [mv 44 4, to 45 (aCall 47 [.tmp 44])]
def R20_15 : Rg H := fun O P ro => [mv 46 4, to 47 (aNil (.tmp 46)), to 48 (aFld 2 (.tmp 47)), to 49 (aLdN O 2 (.tmp 48)), to 2 (aMove (.const (.pointer none))), too (aSt O ro 2 (.tmp 3) (.tmp 49))]
def R20_16 : Rg H := fun O P ro => [mv 50 6, to 51 (aCall 53 [.tmp 50]), to 52 (aExt (.tmp 51) 0), to 53 (aExt (.tmp 51) 1), mv 2 52, too (aSt O ro 2 (.tmp 3) (.tmp 53))]
def F20 (O : HI H) (P : Program) (ro : Nat) : CodeT H := cSeq (cReg (R20_0 O P ro)) (cSeq (cSeq (cReg (R20_1 O P ro)) (cIf (.tmp 9) (cSeq (cReg (R20_2 O P ro)) cRet) cSkip)) (cSeq (cReg (R20_3 O P ro)) (cSeq (cReg (R20_4 O P ro)) (cSeq (cReg (R20_5 O P ro)) (cSeq (cSeq (cReg (R20_6 O P ro)) (cIf (.tmp 20) (cSeq (cReg (R20_7 O P ro)) cRet) cSkip)) (cSeq (cReg (R20_8 O P ro)) (cSeq (cSeq (cReg (R20_9 O P ro)) (cIf (.tmp 29) (cReg (R20_10 O P ro)) (cReg (R20_11 O P ro)))) (cSeq (cReg (R20_12 O P ro)) (cSeq (cReg (R20_13 O P ro)) (cSeq (cSeq (cReg (R20_14 O P ro)) (cIf (.tmp 45) (cSeq (cReg (R20_15 O P ro)) cRet) cSkip)) (cSeq (cReg (R20_16 O P ro)) cRet)))))))))))
theorem F20_fn (O : HI H) (ro : Nat) : Vm.Fn Tryz.prog O ro 20 (F20 O Tryz.prog ro) [ResultVar.tmp 2, ResultVar.cell 3 58] Tryz.f20 := ⟨Tryz.func20, by kernel_rfl, by kernel_rfl, by kernel_rfl, by kernel_rfl, by kernel_rfl⟩
def R45_0 : Rg H := fun O P ro => [to 2 (aNew O [.bool false, .int .i64 0, .int .i64 0, .int .i64 0, .int .i64 0, .int .i64 0, .int .i64 0, .int .i64 0])]
def R45_1 : Rg H := fun O P ro => [mv 6 0, to 7 (aCall 86 [.tmp 6, .const (.int .i64 97)])]
def R45_2 : Rg H := fun O P ro => [mv 8 0, to 9 (aCall 87 [.tmp 8, .const (.int .i64 105)]), mv 3 9]
def R45_3 : Rg H := fun O P ro => [mv 10 3, to 11 (aUn .not (.tmp 10))]
def R45_4 : Rg H := fun O P ro => [mv 12 0, to 13 (aCall 86 [.tmp 12, .const (.int .i64 97)])]
def R45_5 : Rg H := fun O P ro => [mv 14 0, to 15 (aCall 86 [.tmp 14, .const (.int .i64 103)])]
def R45_6 : Rg H := fun O P ro => [to 4 (aNew O [.int .i64 0, .int .i64 0, .int .i64 0, .int .i64 0, .int .i64 0, .int .i64 0, .int .i64 0, .int .i64 0, .int .i64 0])]
def R45_7 : Rg H := fun O P ro => [to 5 (aMove (.const (.int .i64 0)))]
def R45_8 : Rg H := fun O P ro => [mv 16 5, to 17 (aInt .lss (.tmp 16) (.const (.int .i64 9)))]
def R45_10 : Rg H := fun O P ro => [mv 20 5, to 21 (aInt .geq (.tmp 20) (.const (.int .i64 5))), mv 22 21, onlyIf 22 true 23 (mv 23 0), onlyIf 22 true 24 (to 24 (aCall 88 [.tmp 23])), onlyIf 22 true 25 (to 25 (aInt .neq (.tmp 24) (.const (.int .i64 32)))), to 26 (aPick (.tmp 22) (.tmp 25) (.const (.bool false)))]
def R45_11 : Rg H := fun O P ro => [mv 27 0, to 28 (aCall 86 [.tmp 27, .const (.int .i64 32)])]
def R45_12 : Rg H := fun O P ro => [mv 29 5, mv 30 0, to 31 (aCall 89 [.tmp 30]), to 32 (aIdxArr 9 1 (.tmp 4) (.tmp 29)), too (aSt O ro 1 (.tmp 32) (.tmp 31))]
def R45_9 : Rg H := fun O P ro => [mv 18 5, to 19 (aInt .add (.tmp 18) (.const (.int .i64 1))), mv 5 19]
def R45_13 : Rg H := fun O P ro => [mv 33 0, to 34 (aCall 86 [.tmp 33, .const (.int .i64 10)])]
def R45_14 : Rg H := fun O P ro => [mv 35 3, to 36 (aIdxArr 9 1 (.tmp 4) (.const (.int .i64 0))), to 37 (aLd O (.tmp 36)), to 38 (aIdxArr 9 1 (.tmp 4) (.const (.int .i64 1))), to 39 (aLd O (.tmp 38)), to 40 (aIdxArr 9 1 (.tmp 4) (.const (.int .i64 2))), to 41 (aLd O (.tmp 40)), to 42 (aIdxArr 9 1 (.tmp 4) (.const (.int .i64 3))), to 43 (aLd O (.tmp 42)), to 44 (aIdxArr 9 1 (.tmp 4) (.const (.int .i64 4))), to 45 (aLd O (.tmp 44)), to 46 (aIdxArr 9 1 (.tmp 4) (.const (.int .i64 5))), to 47 (aLd O (.tmp 46)), to 48 (aIdxArr 9 1 (.tmp 4) (.const (.int .i64 6))), to 49 (aLd O (.tmp 48)), to 50 (aIdxArr 9 1 (.tmp 4) (.const (.int .i64 7))), to 51 (aLd O (.tmp 50)), to 52 (aInt .add (.tmp 49) (.tmp 51)), to 53 (aIdxArr 9 1 (.tmp 4) (.const (.int .i64 8))), to 54 (aLd O (.tmp 53)), to 55 (aInt .add (.tmp 52) (.tmp 54)), to 56 (aBuild #[.bool false, .int .i64 0, .int .i64 0, .int .i64 0, .int .i64 0, .int .i64 0, .int .i64 0, .int .i64 0] [(0, 1), (1, 1), (2, 1), (3, 1), (4, 1), (5, 1), (6, 1), (7, 1)] [(0, .tmp 35), (1, .tmp 37), (2, .tmp 39), (3, .tmp 41), (4, .tmp 43), (5, .tmp 45), (6, .tmp 47), (7, .tmp 55)]), too (aSt O ro 8 (.tmp 2) (.tmp 56))]
def W45_0 (O : HI H) (P : Program) (ro : Nat) : CodeT H := cSeq (cSeq (cReg (R45_8 O P ro)) (cIf (.tmp 17) cSkip (cExit 0))) (cSeq (cBlk 1 (cSeq (cSeq (cReg (R45_10 O P ro)) (cIf (.tmp 26) (cExit 0) cSkip)) (cSeq (cReg (R45_11 O P ro)) (cReg (R45_12 O P ro))))) (cReg (R45_9 O P ro)))
def F45 (O : HI H) (P : Program) (ro : Nat) : CodeT H := cSeq (cReg (R45_0 O P ro)) (cSeq (cReg (R45_1 O P ro)) (cSeq (cReg (R45_2 O P ro)) (cSeq (cSeq (cReg (R45_3 O P ro)) (cIf (.tmp 11) (cReg (R45_4 O P ro)) cSkip)) (cSeq (cReg (R45_5 O P ro)) (cSeq (cReg (R45_6 O P ro)) (cSeq (cSeq (cReg (R45_7 O P ro)) (cBlk 0 (cLoop (W45_0 O P ro)))) (cSeq (cReg (R45_13 O P ro)) (cSeq (cReg (R45_14 O P ro)) cRet))))))))
theorem F45_fn (O : HI H) (ro : Nat) : Vm.Fn Tryz.prog O ro 45 (F45 O Tryz.prog ro) [ResultVar.cell 2 86] Tryz.f45 := ⟨Tryz.func45, by kernel_rfl, by kernel_rfl, by kernel_rfl, by kernel_rfl, by kernel_rfl⟩
def R46_0 : Rg H := fun O P ro => [to 2 (aBox O (.tmp 0))]
def R46_1 : Rg H := fun O P ro => [to 5 (aFld 1 (.tmp 2)), to 6 (aLd O (.tmp 5)), to 7 (aInt .gtr (.tmp 6) (.const (.int .i64 80))), mv 8 7, onlyIf 8 false 9 (to 9 (aFld 2 (.tmp 2))), onlyIf 8 false 10 (to 10 (aLd O (.tmp 9))), onlyIf 8 false 11 (to 11 (aInt .gtr (.tmp 10) (.const (.int .i64 4)))), to 12 (aPick (.tmp 8) (.const (.bool true)) (.tmp 11)), mv 13 12, onlyIf 13 false 14 (to 14 (aFld 3 (.tmp 2))), onlyIf 13 false 15 (to 15 (aLd O (.tmp 14))), onlyIf 13 false 16 (to 16 (aInt .gtr (.tmp 15) (.const (.int .i64 6)))), to 17 (aPick (.tmp 13) (.const (.bool true)) (.tmp 16)), mv 18 17, onlyIf 18 false 19 (to 19 (aFld 4 (.tmp 2))), onlyIf 18 false 20 (to 20 (aLd O (.tmp 19))), onlyIf 18 false 21 (to 21 (aInt .gtr (.tmp 20) (.const (.int .i64 4)))), to 22 (aPick (.tmp 18) (.const (.bool true)) (.tmp 21)), mv 23 22, onlyIf 23 false 24 (to 24 (aFld 5 (.tmp 2))), onlyIf 23 false 25 (to 25 (aLd O (.tmp 24))), onlyIf 23 false 26 (to 26 (aInt .gtr (.tmp 25) (.const (.int .i64 60)))), to 27 (aPick (.tmp 23) (.const (.bool true)) (.tmp 26))]
def R46_2 : Rg H := fun O P ro => [mv 28 1, to 29 (aCall 90 [.tmp 28, .const (.int .i64 3), .const (.int .i64 0)])]
def R46_3 : Rg H := fun O P ro => [to 30 (aFld 2 (.tmp 2)), to 31 (aLd O (.tmp 30)), to 32 (aFld 3 (.tmp 2)), to 33 (aLd O (.tmp 32)), to 34 (aInt .add (.tmp 31) (.tmp 33)), to 35 (aFld 5 (.tmp 2)), to 36 (aLd O (.tmp 35)), to 37 (aInt .add (.tmp 34) (.tmp 36)), mv 4 37]
def R46_4 : Rg H := fun O P ro => [mv 38 4, to 39 (aFld 1 (.tmp 2)), to 40 (aLd O (.tmp 39)), to 41 (aInt .gtr (.tmp 38) (.tmp 40)), mv 42 41, onlyIf 42 false 43 (to 43 (aFld 0 (.tmp 2))), onlyIf 42 false 44 (to 44 (aLd O (.tmp 43))), onlyIf 42 false 45 (mv 45 44), onlyIf 45 true 46 (mv 46 4), onlyIf 45 true 47 (to 47 (aFld 1 (.tmp 2))), onlyIf 45 true 48 (to 48 (aLd O (.tmp 47))), onlyIf 45 true 49 (to 49 (aInt .neq (.tmp 46) (.tmp 48))), onlyIf 42 false 50 (to 50 (aPick (.tmp 45) (.tmp 49) (.const (.bool false)))), to 51 (aPick (.tmp 42) (.const (.bool true)) (.tmp 50))]
def R46_5 : Rg H := fun O P ro => [mv 52 1, to 53 (aCall 90 [.tmp 52, .const (.int .i64 4), .const (.int .i64 0)])]
def R46_6 : Rg H := fun O P ro => [to 54 (aFld 7 (.tmp 2)), to 55 (aLd O (.tmp 54)), to 56 (aInt .neq (.tmp 55) (.const (.int .i64 0)))]
def R46_7 : Rg H := fun O P ro => [mv 57 1, to 58 (aCall 90 [.tmp 57, .const (.int .i64 5), .const (.int .i64 0)])]
def R46_8 : Rg H := fun O P ro => [to 59 (aFld 6 (.tmp 2)), to 60 (aLd O (.tmp 59)), to 61 (aInt .gtr (.tmp 60) (.const (.int .i64 1))), mv 62 61, onlyIf 62 false 63 (to 63 (aFld 6 (.tmp 2))), onlyIf 62 false 64 (to 64 (aLd O (.tmp 63))), onlyIf 62 false 65 (to 65 (aInt .eql (.tmp 64) (.const (.int .i64 0)))), onlyIf 62 false 66 (mv 66 65), onlyIf 66 true 67 (to 67 (aFld 4 (.tmp 2))), onlyIf 66 true 68 (to 68 (aLd O (.tmp 67))), onlyIf 66 true 69 (to 69 (aInt .neq (.tmp 68) (.const (.int .i64 1)))), onlyIf 62 false 70 (to 70 (aPick (.tmp 66) (.tmp 69) (.const (.bool false)))), to 71 (aPick (.tmp 62) (.const (.bool true)) (.tmp 70))]
def R46_9 : Rg H := fun O P ro => [mv 72 1, to 73 (aCall 90 [.tmp 72, .const (.int .i64 6), .const (.int .i64 0)])]
def F46 (O : HI H) (P : Program) (ro : Nat) : CodeT H := cSeq (cReg (R46_0 O P ro)) (cSeq (cSeq (cReg (R46_1 O P ro)) (cIf (.tmp 27) (cReg (R46_2 O P ro)) cSkip)) (cSeq (cReg (R46_3 O P ro)) (cSeq (cSeq (cReg (R46_4 O P ro)) (cIf (.tmp 51) (cReg (R46_5 O P ro)) cSkip)) (cSeq (cSeq (cReg (R46_6 O P ro)) (cIf (.tmp 56) (cReg (R46_7 O P ro)) cSkip)) (cSeq (cReg (R46_8 O P ro)) (cIf (.tmp 71) (cReg (R46_9 O P ro)) cSkip))))))
theorem F46_fn (O : HI H) (ro : Nat) : Vm.Fn Tryz.prog O ro 46 (F46 O Tryz.prog ro) [] Tryz.f46 := ⟨Tryz.func46, by kernel_rfl, by kernel_rfl, by kernel_rfl, by kernel_rfl, by kernel_rfl⟩
def R47_0 : Rg H := fun O P ro => [to 2 (aMove (.const (.bool false)))]
def R47_1 : Rg H := fun O P ro => [mv 3 0, to 4 (aNil (.tmp 3)), to 5 (aFld 2 (.tmp 4)), to 6 (aFld 0 (.tmp 5)), to 7 (aLd O (.tmp 6)), to 8 (aInt .neq (.tmp 7) (.const (.int .i64 0))), mv 2 8]
def F47 (O : HI H) (P : Program) (ro : Nat) : CodeT H := cSeq (cReg (R47_0 O P ro)) (cSeq (cReg (R47_1 O P ro)) cRet)
theorem F47_fn (O : HI H) (ro : Nat) : Vm.Fn Tryz.prog O ro 47 (F47 O Tryz.prog ro) [ResultVar.tmp 2] Tryz.f47 := ⟨Tryz.func47, by kernel_rfl, by kernel_rfl, by kernel_rfl, by kernel_rfl, by kernel_rfl⟩
def R48_0 : Rg H := fun O P ro => [to 2 (aMove (.const (.pointer none)))]
def R48_1 : Rg H := fun O P ro => [to 5 (aBuild #[.slice none 0 0, .slice none 0 0, .slice none 0 0, .slice none 0 0, .slice none 0 0, .slice none 0 0] [(0, 1), (1, 1), (2, 1), (3, 1), (4, 1), (5, 1)] []), to 6 (aBox O (.tmp 5)), mv 3 6]
def R48_2 : Rg H := fun O P ro => [to 4 (aMove (.const (.int .i64 0)))]
def R48_3 : Rg H := fun O P ro => [mv 7 4, mv 8 0, to 9 (aInt .leq (.tmp 7) (.tmp 8))]
def R48_5 : Rg H := fun O P ro => [mv 12 3, mv 13 3, to 14 (aNil (.tmp 13)), to 15 (aFld 0 (.tmp 14)), to 16 (aLd O (.tmp 15)), mv 17 4, to 18 (aInt .eql (.tmp 17) (.const (.int .i64 0))), to 19 (aMkSl O 1 1 #[.bool false] [(0, .tmp 18)]), to 20 (aApp O ro 1 1 (.tmp 16) (.tmp 19)), to 21 (aNil (.tmp 12)), to 22 (aFld 0 (.tmp 21)), too (aSt O ro 1 (.tmp 22) (.tmp 20))]
def R48_4 : Rg H := fun O P ro => [mv 10 4, to 11 (aInt .add (.tmp 10) (.const (.int .i64 1))), mv 4 11]
def R48_6 : Rg H := fun O P ro => [mv 23 3, mv 2 23]
def W48_0 (O : HI H) (P : Program) (ro : Nat) : CodeT H := cSeq (cSeq (cReg (R48_3 O P ro)) (cIf (.tmp 9) cSkip (cExit 0))) (cSeq (cBlk 1 (cReg (R48_5 O P ro))) (cReg (R48_4 O P ro)))
def F48 (O : HI H) (P : Program) (ro : Nat) : CodeT H := cSeq (cReg (R48_0 O P ro)) (cSeq (cReg (R48_1 O P ro)) (cSeq (cSeq (cReg (R48_2 O P ro)) (cBlk 0 (cLoop (W48_0 O P ro)))) (cSeq (cReg (R48_6 O P ro)) cRet)))
theorem F48_fn (O : HI H) (ro : Nat) : Vm.Fn Tryz.prog O ro 48 (F48 O Tryz.prog ro) [ResultVar.tmp 2] Tryz.f48 := ⟨Tryz.func48, by kernel_rfl, by kernel_rfl, by kernel_rfl, by kernel_rfl, by kernel_rfl⟩
def R49_0 : Rg H := fun O P ro => [to 5 (aBox O (.tmp 2))]
def R49_1 : Rg H := fun O P ro => [to 6 (aMove (.const (.int .i64 0)))]
def R49_2 : Rg H := fun O P ro => [mv 11 6, to 12 (aFld 2 (.tmp 5)), to 13 (aLd O (.tmp 12)), to 14 (aInt .lss (.tmp 11) (.tmp 13))]
def R49_4 : Rg H := fun O P ro => [mv 17 6, to 18 (aInt .add (.const (.int .i64 1)) (.tmp 17)), to 19 (aInt .mul (.const (.int .i64 2)) (.tmp 18)), mv 7 19]
def R49_5 : Rg H := fun O P ro => [mv 20 0, mv 21 7, to 22 (aCall 91 [.tmp 20, .tmp 21])]
def R49_6 : Rg H := fun O P ro => [mv 23 0, mv 24 0, to 25 (aNil (.tmp 24)), to 26 (aFld 1 (.tmp 25)), to 27 (aLd O (.tmp 26)), mv 28 7, to 29 (aMkSl O 1 1 #[.int .i64 0] [(0, .tmp 28)]), to 30 (aApp O ro 1 8 (.tmp 27) (.tmp 29)), to 31 (aNil (.tmp 23)), to 32 (aFld 1 (.tmp 31)), too (aSt O ro 1 (.tmp 32) (.tmp 30))]
def R49_3 : Rg H := fun O P ro => [mv 15 6, to 16 (aInt .add (.tmp 15) (.const (.int .i64 1))), mv 6 16]
def R49_7 : Rg H := fun O P ro => [to 8 (aMove (.const (.int .i64 0)))]
def R49_8 : Rg H := fun O P ro => [mv 33 8, to 34 (aFld 3 (.tmp 5)), to 35 (aLd O (.tmp 34)), to 36 (aInt .lss (.tmp 33) (.tmp 35))]
def R49_10 : Rg H := fun O P ro => [to 39 (aFld 2 (.tmp 5)), to 40 (aLd O (.tmp 39)), to 41 (aInt .add (.const (.int .i64 1)) (.tmp 40)), mv 42 8, to 43 (aInt .add (.tmp 41) (.tmp 42)), to 44 (aInt .mul (.const (.int .i64 2)) (.tmp 43)), mv 9 44]
def R49_11 : Rg H := fun O P ro => [mv 45 0, mv 46 9, to 47 (aCall 91 [.tmp 45, .tmp 46])]
def R49_12 : Rg H := fun O P ro => [mv 48 0, mv 49 1, mv 50 9, to 51 (aCall 92 [.tmp 48, .tmp 49, .tmp 50])]
def R49_9 : Rg H := fun O P ro => [mv 37 8, to 38 (aInt .add (.tmp 37) (.const (.int .i64 1))), mv 8 38]
def R49_13 : Rg H := fun O P ro => [mv 52 0, mv 53 0, mv 54 1, to 55 (aFld 4 (.tmp 5)), to 56 (aLd O (.tmp 55)), to 57 (aCall 93 [.tmp 53, .tmp 54, .tmp 56]), to 58 (aNil (.tmp 52)), to 59 (aFld 3 (.tmp 58)), too (aSt O ro 1 (.tmp 59) (.tmp 57))]
def R49_14 : Rg H := fun O P ro => [mv 60 0, mv 61 0, mv 62 1, to 63 (aFld 6 (.tmp 5)), to 64 (aLd O (.tmp 63)), to 65 (aCall 93 [.tmp 61, .tmp 62, .tmp 64]), to 66 (aNil (.tmp 60)), to 67 (aFld 4 (.tmp 66)), too (aSt O ro 1 (.tmp 67) (.tmp 65))]
def R49_15 : Rg H := fun O P ro => [to 10 (aMove (.const (.int .i64 0)))]
def R49_16 : Rg H := fun O P ro => [mv 68 10, to 69 (aFld 5 (.tmp 5)), to 70 (aLd O (.tmp 69)), to 71 (aInt .lss (.tmp 68) (.tmp 70))]
def R49_18 : Rg H := fun O P ro => [mv 74 0, mv 75 1, to 76 (aFld 2 (.tmp 5)), to 77 (aLd O (.tmp 76)), to 78 (aInt .add (.const (.int .i64 1)) (.tmp 77)), to 79 (aFld 3 (.tmp 5)), to 80 (aLd O (.tmp 79)), to 81 (aInt .add (.tmp 78) (.tmp 80)), mv 82 10, to 83 (aInt .add (.tmp 81) (.tmp 82)), to 84 (aInt .mul (.const (.int .i64 2)) (.tmp 83)), to 85 (aCall 94 [.tmp 74, .tmp 75, .tmp 84])]
def R49_17 : Rg H := fun O P ro => [mv 72 10, to 73 (aInt .add (.tmp 72) (.const (.int .i64 1))), mv 10 73]
def W49_0 (O : HI H) (P : Program) (ro : Nat) : CodeT H := cSeq (cSeq (cReg (R49_2 O P ro)) (cIf (.tmp 14) cSkip (cExit 0))) (cSeq (cBlk 1 (cSeq (cReg (R49_4 O P ro)) (cSeq (cReg (R49_5 O P ro)) (cReg (R49_6 O P ro))))) (cReg (R49_3 O P ro)))
def W49_1 (O : HI H) (P : Program) (ro : Nat) : CodeT H := cSeq (cSeq (cReg (R49_8 O P ro)) (cIf (.tmp 36) cSkip (cExit 2))) (cSeq (cBlk 3 (cSeq (cReg (R49_10 O P ro)) (cSeq (cReg (R49_11 O P ro)) (cReg (R49_12 O P ro))))) (cReg (R49_9 O P ro)))
def W49_2 (O : HI H) (P : Program) (ro : Nat) : CodeT H := cSeq (cSeq (cReg (R49_16 O P ro)) (cIf (.tmp 71) cSkip (cExit 4))) (cSeq (cBlk 5 (cReg (R49_18 O P ro))) (cReg (R49_17 O P ro)))
def F49 (O : HI H) (P : Program) (ro : Nat) : CodeT H := cSeq (cReg (R49_0 O P ro)) (cSeq (cSeq (cReg (R49_1 O P ro)) (cBlk 0 (cLoop (W49_0 O P ro)))) (cSeq (cSeq (cReg (R49_7 O P ro)) (cBlk 2 (cLoop (W49_1 O P ro)))) (cSeq (cReg (R49_13 O P ro)) (cSeq (cReg (R49_14 O P ro)) (cSeq (cReg (R49_15 O P ro)) (cBlk 4 (cLoop (W49_2 O P ro))))))))
theorem F49_fn (O : HI H) (ro : Nat) : Vm.Fn Tryz.prog O ro 49 (F49 O Tryz.prog ro) [] Tryz.f49 := ⟨Tryz.func49, by kernel_rfl, by kernel_rfl, by kernel_rfl, by kernel_rfl, by kernel_rfl⟩
def R50_0 : Rg H := fun O P ro => [to 5 (aBox O (.tmp 2))]
def R50_1 : Rg H := fun O P ro => [to 6 (aMove (.const (.int .i64 0)))]
def R50_2 : Rg H := fun O P ro => [mv 11 6, to 12 (aFld 2 (.tmp 5)), to 13 (aLd O (.tmp 12)), to 14 (aInt .lss (.tmp 11) (.tmp 13))]
def R50_4 : Rg H := fun O P ro => [mv 17 0, mv 18 1, to 19 (aCall 95 [.tmp 17, .tmp 18]), to 7 (aNew O [.int .i64 0, .int .i64 0]), too (aSt O ro 2 (.tmp 7) (.tmp 19))]
def R50_5 : Rg H := fun O P ro => [mv 20 1, to 21 (aCall 86 [.tmp 20, .const (.int .i64 10)])]
def R50_6 : Rg H := fun O P ro => [mv 22 0, mv 23 0, to 24 (aNil (.tmp 23)), to 25 (aFld 1 (.tmp 24)), to 26 (aLd O (.tmp 25)), to 27 (aFld 0 (.tmp 7)), to 28 (aLd O (.tmp 27)), to 29 (aMkSl O 1 1 #[.int .i64 0] [(0, .tmp 28)]), to 30 (aApp O ro 1 8 (.tmp 26) (.tmp 29)), to 31 (aNil (.tmp 22)), to 32 (aFld 1 (.tmp 31)), too (aSt O ro 1 (.tmp 32) (.tmp 30))]
def R50_3 : Rg H := fun O P ro => [mv 15 6, to 16 (aInt .add (.tmp 15) (.const (.int .i64 1))), mv 6 16]
def R50_7 : Rg H := fun O P ro => [to 8 (aMove (.const (.int .i64 0)))]
def R50_8 : Rg H := fun O P ro => [mv 33 8, to 34 (aFld 3 (.tmp 5)), to 35 (aLd O (.tmp 34)), to 36 (aInt .lss (.tmp 33) (.tmp 35))]
def R50_10 : Rg H := fun O P ro => [mv 39 0, mv 40 1, to 41 (aCall 95 [.tmp 39, .tmp 40]), to 9 (aNew O [.int .i64 0, .int .i64 0]), too (aSt O ro 2 (.tmp 9) (.tmp 41))]
def R50_11 : Rg H := fun O P ro => [mv 42 1, to 43 (aCall 86 [.tmp 42, .const (.int .i64 32)])]
def R50_12 : Rg H := fun O P ro => [mv 44 0, mv 45 1, to 46 (aFld 0 (.tmp 9)), to 47 (aLd O (.tmp 46)), to 48 (aCall 92 [.tmp 44, .tmp 45, .tmp 47])]
def R50_9 : Rg H := fun O P ro => [mv 37 8, to 38 (aInt .add (.tmp 37) (.const (.int .i64 1))), mv 8 38]
def R50_13 : Rg H := fun O P ro => [mv 49 0, mv 50 0, mv 51 1, to 52 (aFld 4 (.tmp 5)), to 53 (aLd O (.tmp 52)), to 54 (aCall 93 [.tmp 50, .tmp 51, .tmp 53]), to 55 (aNil (.tmp 49)), to 56 (aFld 3 (.tmp 55)), too (aSt O ro 1 (.tmp 56) (.tmp 54))]
def R50_14 : Rg H := fun O P ro => [mv 57 0, mv 58 0, mv 59 1, to 60 (aFld 6 (.tmp 5)), to 61 (aLd O (.tmp 60)), to 62 (aCall 93 [.tmp 58, .tmp 59, .tmp 61]), to 63 (aNil (.tmp 57)), to 64 (aFld 4 (.tmp 63)), too (aSt O ro 1 (.tmp 64) (.tmp 62))]
def R50_15 : Rg H := fun O P ro => [to 10 (aMove (.const (.int .i64 0)))]
def R50_16 : Rg H := fun O P ro => [mv 65 10, to 66 (aFld 5 (.tmp 5)), to 67 (aLd O (.tmp 66)), to 68 (aInt .lss (.tmp 65) (.tmp 67))]
def R50_18 : Rg H := fun O P ro => [mv 71 0, mv 72 1, to 73 (aCall 96 [.tmp 71, .tmp 72])]
def R50_17 : Rg H := fun O P ro => [mv 69 10, to 70 (aInt .add (.tmp 69) (.const (.int .i64 1))), mv 10 70]
def W50_0 (O : HI H) (P : Program) (ro : Nat) : CodeT H := cSeq (cSeq (cReg (R50_2 O P ro)) (cIf (.tmp 14) cSkip (cExit 0))) (cSeq (cBlk 1 (cSeq (cReg (R50_4 O P ro)) (cSeq (cReg (R50_5 O P ro)) (cReg (R50_6 O P ro))))) (cReg (R50_3 O P ro)))
def W50_1 (O : HI H) (P : Program) (ro : Nat) : CodeT H := cSeq (cSeq (cReg (R50_8 O P ro)) (cIf (.tmp 36) cSkip (cExit 2))) (cSeq (cBlk 3 (cSeq (cReg (R50_10 O P ro)) (cSeq (cReg (R50_11 O P ro)) (cReg (R50_12 O P ro))))) (cReg (R50_9 O P ro)))
def W50_2 (O : HI H) (P : Program) (ro : Nat) : CodeT H := cSeq (cSeq (cReg (R50_16 O P ro)) (cIf (.tmp 68) cSkip (cExit 4))) (cSeq (cBlk 5 (cReg (R50_18 O P ro))) (cReg (R50_17 O P ro)))
def F50 (O : HI H) (P : Program) (ro : Nat) : CodeT H := cSeq (cReg (R50_0 O P ro)) (cSeq (cSeq (cReg (R50_1 O P ro)) (cBlk 0 (cLoop (W50_0 O P ro)))) (cSeq (cSeq (cReg (R50_7 O P ro)) (cBlk 2 (cLoop (W50_1 O P ro)))) (cSeq (cReg (R50_13 O P ro)) (cSeq (cReg (R50_14 O P ro)) (cSeq (cReg (R50_15 O P ro)) (cBlk 4 (cLoop (W50_2 O P ro))))))))
theorem F50_fn (O : HI H) (ro : Nat) : Vm.Fn Tryz.prog O ro 50 (F50 O Tryz.prog ro) [] Tryz.f50 := ⟨Tryz.func50, by kernel_rfl, by kernel_rfl, by kernel_rfl, by kernel_rfl, by kernel_rfl⟩
def R51_0 : Rg H := fun O P ro => [to 3 (aBox O (.tmp 1))]
def R51_1 : Rg H := fun O P ro => [mv 4 0, to 5 (aNil (.tmp 4)), to 6 (aFld 1 (.tmp 5)), to 7 (aLd O (.tmp 6)), mv 8 0, to 9 (aNil (.tmp 8)), to 10 (aFld 0 (.tmp 9)), to 11 (aLd O (.tmp 10)), to 12 (aLenStr (.tmp 11)), to 13 (aInt .lss (.tmp 7) (.tmp 12)), mv 14 13, onlyIf 14 true 15 (mv 15 0), onlyIf 14 true 16 (to 16 (aCall 47 [.tmp 15])), onlyIf 14 true 17 (to 17 (aUn .not (.tmp 16))), to 18 (aPick (.tmp 14) (.tmp 17) (.const (.bool false)))]
def R51_2 : Rg H := fun O P ro => [mv 19 0, to 20 (aCall 87 [.tmp 19, .const (.int .i64 99)])]
def R51_3 : Rg H := fun O P ro => [mv 21 0, to 22 (aCall 86 [.tmp 21, .const (.int .i64 10)])]
def R51_4 : Rg H := fun O P ro => [mv 23 0, to 24 (aLdN O 8 (.tmp 3)), to 25 (aCall 97 [.tmp 23, .tmp 24])]
def W51_0 (O : HI H) (P : Program) (ro : Nat) : CodeT H := cSeq (cSeq (cReg (R51_1 O P ro)) (cIf (.tmp 18) cSkip (cExit 0))) (cBlk 1 (cSeq (cSeq (cReg (R51_2 O P ro)) (cIf (.tmp 20) (cSeq (cReg (R51_3 O P ro)) cRet) cSkip)) (cReg (R51_4 O P ro))))
def F51 (O : HI H) (P : Program) (ro : Nat) : CodeT H := cSeq (cReg (R51_0 O P ro)) (cBlk 0 (cLoop (W51_0 O P ro)))
theorem F51_fn (O : HI H) (ro : Nat) : Vm.Fn Tryz.prog O ro 51 (F51 O Tryz.prog ro) [] Tryz.f51 := ⟨Tryz.func51, by kernel_rfl, by kernel_rfl, by kernel_rfl, by kernel_rfl, by kernel_rfl⟩
def R52_0 : Rg H := fun O P ro => [to 4 (aMove (.const (.int .i64 0)))]
def R52_1 : Rg H := fun O P ro => [mv 8 4, mv 9 0, to 10 (aNil (.tmp 9)), to 11 (aFld 2 (.tmp 10)), to 12 (aLd O (.tmp 11)), to 13 (aLenSl (.tmp 12)), to 14 (aInt .lss (.tmp 8) (.tmp 13))]
def R52_3 : Rg H := fun O P ro => [mv 17 0, mv 18 1, mv 19 0, to 20 (aNil (.tmp 19)), to 21 (aFld 2 (.tmp 20)), to 22 (aLd O (.tmp 21)), mv 23 4, to 24 (aIdx 4 (.tmp 22) (.tmp 23)), to 25 (aFld 1 (.tmp 24)), to 26 (aLdN O 2 (.tmp 25)), to 27 (aCall 98 [.tmp 17, .tmp 18, .tmp 26])]
def R52_2 : Rg H := fun O P ro => [mv 15 4, to 16 (aInt .add (.tmp 15) (.const (.int .i64 1))), mv 4 16]
def R52_4 : Rg H := fun O P ro => [to 5 (aMove (.const (.int .i64 0)))]
def R52_5 : Rg H := fun O P ro => [mv 28 5, mv 29 0, to 30 (aNil (.tmp 29)), to 31 (aFld 3 (.tmp 30)), to 32 (aLd O (.tmp 31)), to 33 (aLenSl (.tmp 32)), to 34 (aInt .lss (.tmp 28) (.tmp 33))]
def R52_7 : Rg H := fun O P ro => [mv 37 0, mv 38 1, mv 39 0, to 40 (aNil (.tmp 39)), to 41 (aFld 3 (.tmp 40)), to 42 (aLd O (.tmp 41)), mv 43 5, to 44 (aIdx 2 (.tmp 42) (.tmp 43)), to 45 (aLdN O 2 (.tmp 44)), to 46 (aCall 98 [.tmp 37, .tmp 38, .tmp 45])]
def R52_6 : Rg H := fun O P ro => [mv 35 5, to 36 (aInt .add (.tmp 35) (.const (.int .i64 1))), mv 5 36]
def R52_8 : Rg H := fun O P ro => [to 6 (aMove (.const (.int .i64 0)))]
def R52_9 : Rg H := fun O P ro => [mv 47 6, mv 48 0, to 49 (aNil (.tmp 48)), to 50 (aFld 4 (.tmp 49)), to 51 (aLd O (.tmp 50)), to 52 (aLenSl (.tmp 51)), to 53 (aInt .lss (.tmp 47) (.tmp 52))]
def R52_11 : Rg H := fun O P ro => [mv 56 0, mv 57 1, mv 58 0, to 59 (aNil (.tmp 58)), to 60 (aFld 4 (.tmp 59)), to 61 (aLd O (.tmp 60)), mv 62 6, to 63 (aIdx 2 (.tmp 61) (.tmp 62)), to 64 (aLdN O 2 (.tmp 63)), to 65 (aCall 98 [.tmp 56, .tmp 57, .tmp 64])]
def R52_10 : Rg H := fun O P ro => [mv 54 6, to 55 (aInt .add (.tmp 54) (.const (.int .i64 1))), mv 6 55]
def R52_12 : Rg H := fun O P ro => [to 7 (aMove (.const (.int .i64 0)))]
def R52_13 : Rg H := fun O P ro => [mv 66 7, mv 67 0, to 68 (aNil (.tmp 67)), to 69 (aFld 5 (.tmp 68)), to 70 (aLd O (.tmp 69)), to 71 (aLenSl (.tmp 70)), to 72 (aInt .lss (.tmp 66) (.tmp 71))]
def R52_15 : Rg H := fun O P ro => [mv 75 0, mv 76 1, mv 77 0, to 78 (aNil (.tmp 77)), to 79 (aFld 5 (.tmp 78)), to 80 (aLd O (.tmp 79)), mv 81 7, to 82 (aIdx 6 (.tmp 80) (.tmp 81)), to 83 (aFld 2 (.tmp 82)), to 84 (aLdN O 2 (.tmp 83)), to 85 (aCall 98 [.tmp 75, .tmp 76, .tmp 84])]
def R52_16 : Rg H := fun O P ro => [mv 86 0, mv 87 1, mv 88 0, to 89 (aNil (.tmp 88)), to 90 (aFld 5 (.tmp 89)), to 91 (aLd O (.tmp 90)), mv 92 7, to 93 (aIdx 6 (.tmp 91) (.tmp 92)), to 94 (aFld 4 (.tmp 93)), to 95 (aLdN O 2 (.tmp 94)), to 96 (aCall 98 [.tmp 86, .tmp 87, .tmp 95])]
def R52_14 : Rg H := fun O P ro => [mv 73 7, to 74 (aInt .add (.tmp 73) (.const (.int .i64 1))), mv 7 74]
def W52_0 (O : HI H) (P : Program) (ro : Nat) : CodeT H := cSeq (cSeq (cReg (R52_1 O P ro)) (cIf (.tmp 14) cSkip (cExit 0))) (cSeq (cBlk 1 (cReg (R52_3 O P ro))) (cReg (R52_2 O P ro)))
def W52_1 (O : HI H) (P : Program) (ro : Nat) : CodeT H := cSeq (cSeq (cReg (R52_5 O P ro)) (cIf (.tmp 34) cSkip (cExit 2))) (cSeq (cBlk 3 (cReg (R52_7 O P ro))) (cReg (R52_6 O P ro)))
def W52_2 (O : HI H) (P : Program) (ro : Nat) : CodeT H := cSeq (cSeq (cReg (R52_9 O P ro)) (cIf (.tmp 53) cSkip (cExit 4))) (cSeq (cBlk 5 (cReg (R52_11 O P ro))) (cReg (R52_10 O P ro)))
def W52_3 (O : HI H) (P : Program) (ro : Nat) : CodeT H := cSeq (cSeq (cReg (R52_13 O P ro)) (cIf (.tmp 72) cSkip (cExit 6))) (cSeq (cBlk 7 (cSeq (cReg (R52_15 O P ro)) (cReg (R52_16 O P ro)))) (cReg (R52_14 O P ro)))
def F52 (O : HI H) (P : Program) (ro : Nat) : CodeT H := cSeq (cSeq (cReg (R52_0 O P ro)) (cBlk 0 (cLoop (W52_0 O P ro)))) (cSeq (cSeq (cReg (R52_4 O P ro)) (cBlk 2 (cLoop (W52_1 O P ro)))) (cSeq (cSeq (cReg (R52_8 O P ro)) (cBlk 4 (cLoop (W52_2 O P ro)))) (cSeq (cReg (R52_12 O P ro)) (cBlk 6 (cLoop (W52_3 O P ro))))))
theorem F52_fn (O : HI H) (ro : Nat) : Vm.Fn Tryz.prog O ro 52 (F52 O Tryz.prog ro) [] Tryz.f52 := ⟨Tryz.func52, by kernel_rfl, by kernel_rfl, by kernel_rfl, by kernel_rfl, by kernel_rfl⟩
def R53_0 : Rg H := fun O P ro => [to 2 (aMove (.const (.pointer none))), to 3 (aNew O [.int .i64 0, .int .i64 0])]
def R53_1 : Rg H := fun O P ro => [mv 11 0, to 12 (aCall 99 [.tmp 11]), mv 4 12]
def R53_2 : Rg H := fun O P ro => [mv 13 0, to 14 (aNil (.tmp 13)), to 15 (aFld 1 (.tmp 14)), to 16 (aLd O (.tmp 15)), to 17 (aLenSl (.tmp 16)), to 18 (aBuild #[.int .i64 0, .slice none 0 0, .slice none 0 0, .int .i64 0] [(0, 1), (1, 1), (2, 1), (3, 1)] [(0, .tmp 17)]), to 19 (aBox O (.tmp 18)), mv 5 19]
def R53_3 : Rg H := fun O P ro => [to 6 (aMove (.const (.int .i64 0)))]
def R53_4 : Rg H := fun O P ro => [mv 20 6, mv 21 0, to 22 (aNil (.tmp 21)), to 23 (aFld 5 (.tmp 22)), to 24 (aLd O (.tmp 23)), to 25 (aLenSl (.tmp 24)), to 26 (aInt .lss (.tmp 20) (.tmp 25))]
def R53_6 : Rg H := fun O P ro => [mv 29 4, mv 30 0, to 31 (aNil (.tmp 30)), to 32 (aFld 5 (.tmp 31)), to 33 (aLd O (.tmp 32)), to 34 (aCall 100 [.tmp 29, .tmp 33]), mv 7 34]
def R53_7 : Rg H := fun O P ro => [mv 35 7, to 36 (aInt .eql (.tmp 35) (.const (.int .i64 (-1))))]
def R53_8 : Rg H := fun O P ro => [mv 37 4, mv 38 0, to 39 (aNil (.tmp 38)), to 40 (aFld 5 (.tmp 39)), to 41 (aLd O (.tmp 40)), to 42 (aCall 101 [.tmp 37, .tmp 41]), to 43 (aBuild #[.int .i64 0, .int .i64 0] [(0, 1), (1, 1)] [(0, .const (.int .i64 12)), (1, .tmp 42)]), to 2 (aMove (.const (.pointer none))), too (aSt O ro 2 (.tmp 3) (.tmp 43))]
def R53_9 : Rg H := fun O P ro => [mv 44 4, mv 45 5, mv 46 0, to 47 (aNil (.tmp 46)), to 48 (aFld 5 (.tmp 47)), to 49 (aLd O (.tmp 48)), mv 50 7, to 51 (aIdx 6 (.tmp 49) (.tmp 50)), to 52 (aLdN O 6 (.tmp 51)), to 53 (aCall 102 [.tmp 44, .tmp 45, .tmp 52])]
def R53_5 : Rg H := fun O P ro => [mv 27 6, to 28 (aInt .add (.tmp 27) (.const (.int .i64 1))), mv 6 28]
def R53_10 : Rg H := fun O P ro => [to 8 (aMove (.const (.int .i64 0)))]
def R53_11 : Rg H := fun O P ro => [mv 54 8, mv 55 0, to 56 (aNil (.tmp 55)), to 57 (aFld 2 (.tmp 56)), to 58 (aLd O (.tmp 57)), to 59 (aLenSl (.tmp 58)), to 60 (aInt .lss (.tmp 54) (.tmp 59))]
def R53_13 : Rg H := fun O P ro => [mv 63 4, mv 64 0, to 65 (aNil (.tmp 64)), to 66 (aFld 2 (.tmp 65)), to 67 (aLd O (.tmp 66)), mv 68 8, to 69 (aIdx 4 (.tmp 67) (.tmp 68)), to 70 (aFld 1 (.tmp 69)), to 71 (aFld 0 (.tmp 70)), to 72 (aLd O (.tmp 71)), to 73 (aCall 103 [.tmp 63, .tmp 72]), mv 9 73]
def R53_14 : Rg H := fun O P ro => [mv 74 5, mv 75 5, to 76 (aNil (.tmp 75)), to 77 (aFld 1 (.tmp 76)), to 78 (aLd O (.tmp 77)), mv 79 9, mv 80 0, to 81 (aNil (.tmp 80)), to 82 (aFld 2 (.tmp 81)), to 83 (aLd O (.tmp 82)), mv 84 8, to 85 (aIdx 4 (.tmp 83) (.tmp 84)), to 86 (aFld 3 (.tmp 85)), to 87 (aLd O (.tmp 86)), to 88 (aBuild #[.int .i64 0, .int .i64 0] [(0, 1), (1, 1)] [(0, .tmp 79), (1, .tmp 87)]), to 89 (aMkSl O 2 1 #[.int .i64 0, .int .i64 0] [(0, .tmp 88)]), to 90 (aApp O ro 2 16 (.tmp 78) (.tmp 89)), to 91 (aNil (.tmp 74)), to 92 (aFld 1 (.tmp 91)), too (aSt O ro 1 (.tmp 92) (.tmp 90))]
def R53_12 : Rg H := fun O P ro => [mv 61 8, to 62 (aInt .add (.tmp 61) (.const (.int .i64 1))), mv 8 62]
def R53_15 : Rg H := fun O P ro => [mv 93 0, to 94 (aCall 104 [.tmp 93]), mv 10 94]
def R53_16 : Rg H := fun O P ro => [mv 95 5, mv 96 4, mv 97 10, to 98 (aCall 103 [.tmp 96, .tmp 97]), to 99 (aNil (.tmp 95)), to 100 (aFld 3 (.tmp 99)), too (aSt O ro 1 (.tmp 100) (.tmp 98))]
def R53_17 : Rg H := fun O P ro => [mv 101 5, to 102 (aBuild #[.int .i64 0, .int .i64 0] [(0, 1), (1, 1)] []), mv 2 101, too (aSt O ro 2 (.tmp 3) (.tmp 102))]
def W53_0 (O : HI H) (P : Program) (ro : Nat) : CodeT H := cSeq (cSeq (cReg (R53_4 O P ro)) (cIf (.tmp 26) cSkip (cExit 0))) (cSeq (cBlk 1 (cSeq (cReg (R53_6 O P ro)) (cSeq (cSeq (cReg (R53_7 O P ro)) (cIf (.tmp 36) (cSeq (cReg (R53_8 O P ro)) cRet) cSkip)) (cReg (R53_9 O P ro))))) (cReg (R53_5 O P ro)))
def W53_1 (O : HI H) (P : Program) (ro : Nat) : CodeT H := cSeq (cSeq (cReg (R53_11 O P ro)) (cIf (.tmp 60) cSkip (cExit 2))) (cSeq (cBlk 3 (cSeq (cReg (R53_13 O P ro)) (cReg (R53_14 O P ro)))) (cReg (R53_12 O P ro)))
def F53 (O : HI H) (P : Program) (ro : Nat) : CodeT H := cSeq (cReg (R53_0 O P ro)) (cSeq (cReg (R53_1 O P ro)) (cSeq (cReg (R53_2 O P ro)) (cSeq (cSeq (cReg (R53_3 O P ro)) (cBlk 0 (cLoop (W53_0 O P ro)))) (cSeq (cSeq (cReg (R53_10 O P ro)) (cBlk 2 (cLoop (W53_1 O P ro)))) (cSeq (cReg (R53_15 O P ro)) (cSeq (cReg (R53_16 O P ro)) (cSeq (cReg (R53_17 O P ro)) cRet)))))))
theorem F53_fn (O : HI H) (ro : Nat) : Vm.Fn Tryz.prog O ro 53 (F53 O Tryz.prog ro) [ResultVar.tmp 2, ResultVar.cell 3 58] Tryz.f53 := ⟨Tryz.func53, by kernel_rfl, by kernel_rfl, by kernel_rfl, by kernel_rfl, by kernel_rfl⟩
def R86_0 : Rg H := fun O P ro => [mv 4 0, mv 5 1, to 6 (aCall 87 [.tmp 4, .tmp 5]), to 7 (aUn .not (.tmp 6))]
def R86_1 : Rg H := fun O P ro => [mv 8 0, mv 9 0, to 10 (aNil (.tmp 9)), to 11 (aFld 1 (.tmp 10)), to 12 (aLd O (.tmp 11)), to 13 (aCall 90 [.tmp 8, .const (.int .i64 2), .tmp 12])]
def F86 (O : HI H) (P : Program) (ro : Nat) : CodeT H := cSeq (cReg (R86_0 O P ro)) (cIf (.tmp 7) (cReg (R86_1 O P ro)) cSkip)
theorem F86_fn (O : HI H) (ro : Nat) : Vm.Fn Tryz.prog O ro 86 (F86 O Tryz.prog ro) [] Tryz.f86 := ⟨Tryz.func86, by kernel_rfl, by kernel_rfl, by kernel_rfl, by kernel_rfl, by kernel_rfl⟩
def R87_0 : Rg H := fun O P ro => [to 4 (aMove (.const (.bool false)))]
def R87_1 : Rg H := fun O P ro => [mv 5 0, to 6 (aCall 88 [.tmp 5]), mv 7 1, to 8 (aInt .neq (.tmp 6) (.tmp 7))]
def R87_2 : Rg H := fun O P ro => [to 4 (aMove (.const (.bool false)))]
def R87_3 : Rg H := fun O P ro => [mv 9 0, to 10 (aNil (.tmp 9)), to 11 (aFld 1 (.tmp 10)), to 12 (aLd O (.tmp 11)), to 13 (aInt .add (.tmp 12) (.const (.int .i64 1))), to 14 (aNil (.tmp 9)), to 15 (aFld 1 (.tmp 14)), too (aSt O ro 1 (.tmp 15) (.tmp 13))]
def R87_4 : Rg H := fun O P ro => [to 4 (aMove (.const (.bool true)))]
def F87 (O : HI H) (P : Program) (ro : Nat) : CodeT H := cSeq (cReg (R87_0 O P ro)) (cSeq (cSeq (cReg (R87_1 O P ro)) (cIf (.tmp 8) (cSeq (cReg (R87_2 O P ro)) cRet) cSkip)) (cSeq (cReg (R87_3 O P ro)) (cSeq (cReg (R87_4 O P ro)) cRet)))
theorem F87_fn (O : HI H) (ro : Nat) : Vm.Fn Tryz.prog O ro 87 (F87 O Tryz.prog ro) [ResultVar.tmp 4] Tryz.f87 := ⟨Tryz.func87, by kernel_rfl, by kernel_rfl, by kernel_rfl, by kernel_rfl, by kernel_rfl⟩
def R88_0 : Rg H := fun O P ro => [to 2 (aMove (.const (.int .i64 0)))]
def R88_1 : Rg H := fun O P ro => [mv 3 0, to 4 (aNil (.tmp 3)), to 5 (aFld 2 (.tmp 4)), to 6 (aFld 0 (.tmp 5)), to 7 (aLd O (.tmp 6)), to 8 (aInt .neq (.tmp 7) (.const (.int .i64 0))), mv 9 8, onlyIf 9 false 10 (mv 10 0), onlyIf 9 false 11 (to 11 (aNil (.tmp 10))), onlyIf 9 false 12 (to 12 (aFld 1 (.tmp 11))), onlyIf 9 false 13 (to 13 (aLd O (.tmp 12))), onlyIf 9 false 14 (to 14 (aInt .lss (.tmp 13) (.const (.int .i64 0)))), to 15 (aPick (.tmp 9) (.const (.bool true)) (.tmp 14)), mv 16 15, onlyIf 16 false 17 (mv 17 0), onlyIf 16 false 18 (to 18 (aNil (.tmp 17))), onlyIf 16 false 19 (to 19 (aFld 1 (.tmp 18))), onlyIf 16 false 20 (to 20 (aLd O (.tmp 19))), onlyIf 16 false 21 (mv 21 0), onlyIf 16 false 22 (to 22 (aNil (.tmp 21))), onlyIf 16 false 23 (to 23 (aFld 0 (.tmp 22))), onlyIf 16 false 24 (to 24 (aLd O (.tmp 23))), onlyIf 16 false 25 (to 25 (aLenStr (.tmp 24))), onlyIf 16 false 26 (to 26 (aInt .geq (.tmp 20) (.tmp 25))), to 27 (aPick (.tmp 16) (.const (.bool true)) (.tmp 26))]
def R88_2 : Rg H := fun O P ro => [to 2 (aMove (.const (.int .i64 (-1))))]
def R88_3 : Rg H := fun O P ro => [mv 28 0, to 29 (aNil (.tmp 28)), to 30 (aFld 0 (.tmp 29)), to 31 (aLd O (.tmp 30)), mv 32 0, to 33 (aNil (.tmp 32)), to 34 (aFld 1 (.tmp 33)), to 35 (aLd O (.tmp 34)), to 36 (aIdxStr (.tmp 31) (.tmp 35)), to 37 (aConv .i64 (.tmp 36)), mv 2 37]
def F88 (O : HI H) (P : Program) (ro : Nat) : CodeT H := cSeq (cReg (R88_0 O P ro)) (cSeq (cSeq (cReg (R88_1 O P ro)) (cIf (.tmp 27) (cSeq (cReg (R88_2 O P ro)) cRet) cSkip)) (cSeq (cReg (R88_3 O P ro)) cRet))
theorem F88_fn (O : HI H) (ro : Nat) : Vm.Fn Tryz.prog O ro 88 (F88 O Tryz.prog ro) [ResultVar.tmp 2] Tryz.f88 := ⟨Tryz.func88, by kernel_rfl, by kernel_rfl, by kernel_rfl, by kernel_rfl, by kernel_rfl⟩
def R89_0 : Rg H := fun O P ro => [to 2 (aMove (.const (.int .i64 0)))]
def R89_1 : Rg H := fun O P ro => [mv 7 0, to 8 (aNil (.tmp 7)), to 9 (aFld 1 (.tmp 8)), to 10 (aLd O (.tmp 9)), mv 3 10]
def R89_2 : Rg H := fun O P ro => [to 4 (aMove (.const (.int .i64 0)))]
def R89_3 : Rg H := fun O P ro => [mv 11 0, to 12 (aCall 88 [.tmp 11]), mv 5 12]
def R89_4 : Rg H := fun O P ro => [mv 13 5, to 14 (aCall 126 [.tmp 13])]
def R89_6 : Rg H := fun O P ro => [mv 17 0, to 18 (aNil (.tmp 17)), to 19 (aFld 1 (.tmp 18)), to 20 (aLd O (.tmp 19)), mv 21 3, to 22 (aInt .sub (.tmp 20) (.tmp 21)), mv 6 22]
def R89_7 : Rg H := fun O P ro => [mv 23 6, to 24 (aInt .eql (.tmp 23) (.const (.int .i64 4))), mv 25 24, onlyIf 25 false 26 (mv 26 6), onlyIf 25 false 27 (to 27 (aInt .gtr (.tmp 26) (.const (.int .i64 0)))), onlyIf 25 false 28 (mv 28 27), onlyIf 28 true 29 (mv 29 4), onlyIf 28 true 30 (to 30 (aInt .eql (.tmp 29) (.const (.int .i64 0)))), onlyIf 25 false 31 (to 31 (aPick (.tmp 28) (.tmp 30) (.const (.bool false)))), to 32 (aPick (.tmp 25) (.const (.bool true)) (.tmp 31))]
def R89_8 : Rg H := fun O P ro => [mv 33 0, mv 34 0, to 35 (aNil (.tmp 34)), to 36 (aFld 1 (.tmp 35)), to 37 (aLd O (.tmp 36)), to 38 (aCall 90 [.tmp 33, .const (.int .i64 2), .tmp 37])]
def R89_9 : Rg H := fun O P ro => [to 2 (aMove (.const (.int .i64 0)))]
def R89_10 : Rg H := fun O P ro => [mv 39 4, to 40 (aInt .mul (.const (.int .i64 10)) (.tmp 39)), mv 41 5, to 42 (aInt .add (.tmp 40) (.tmp 41)), to 43 (aInt .sub (.tmp 42) (.const (.int .i64 48))), mv 4 43]
def R89_11 : Rg H := fun O P ro => [mv 44 0, to 45 (aNil (.tmp 44)), to 46 (aFld 1 (.tmp 45)), to 47 (aLd O (.tmp 46)), to 48 (aInt .add (.tmp 47) (.const (.int .i64 1))), to 49 (aNil (.tmp 44)), to 50 (aFld 1 (.tmp 49)), too (aSt O ro 1 (.tmp 50) (.tmp 48))]
def R89_5 : Rg H := fun O P ro => [mv 15 0, to 16 (aCall 88 [.tmp 15]), mv 5 16]
def R89_12 : Rg H := fun O P ro => [mv 51 0, to 52 (aNil (.tmp 51)), to 53 (aFld 1 (.tmp 52)), to 54 (aLd O (.tmp 53)), mv 55 3, to 56 (aInt .eql (.tmp 54) (.tmp 55))]
def R89_13 : Rg H := fun O P ro => [mv 57 0, mv 58 0, to 59 (aNil (.tmp 58)), to 60 (aFld 1 (.tmp 59)), to 61 (aLd O (.tmp 60)), to 62 (aCall 90 [.tmp 57, .const (.int .i64 2), .tmp 61])]
def R89_14 : Rg H := fun O P ro => [mv 63 4, mv 2 63]
def W89_0 (O : HI H) (P : Program) (ro : Nat) : CodeT H := cSeq (cSeq (cReg (R89_4 O P ro)) (cIf (.tmp 14) cSkip (cExit 0))) (cSeq (cBlk 1 (cSeq (cReg (R89_6 O P ro)) (cSeq (cSeq (cReg (R89_7 O P ro)) (cIf (.tmp 32) (cSeq (cReg (R89_8 O P ro)) (cSeq (cReg (R89_9 O P ro)) cRet)) cSkip)) (cSeq (cReg (R89_10 O P ro)) (cReg (R89_11 O P ro)))))) (cReg (R89_5 O P ro)))
def F89 (O : HI H) (P : Program) (ro : Nat) : CodeT H := cSeq (cReg (R89_0 O P ro)) (cSeq (cReg (R89_1 O P ro)) (cSeq (cReg (R89_2 O P ro)) (cSeq (cSeq (cReg (R89_3 O P ro)) (cBlk 0 (cLoop (W89_0 O P ro)))) (cSeq (cSeq (cReg (R89_12 O P ro)) (cIf (.tmp 56) (cReg (R89_13 O P ro)) cSkip)) (cSeq (cReg (R89_14 O P ro)) cRet)))))
theorem F89_fn (O : HI H) (ro : Nat) : Vm.Fn Tryz.prog O ro 89 (F89 O Tryz.prog ro) [ResultVar.tmp 2] Tryz.f89 := ⟨Tryz.func89, by kernel_rfl, by kernel_rfl, by kernel_rfl, by kernel_rfl, by kernel_rfl⟩
def R90_0 : Rg H := fun O P ro => [mv 6 0, to 7 (aNil (.tmp 6)), to 8 (aFld 2 (.tmp 7)), to 9 (aFld 0 (.tmp 8)), to 10 (aLd O (.tmp 9)), to 11 (aInt .eql (.tmp 10) (.const (.int .i64 0)))]
def R90_1 : Rg H := fun O P ro => [mv 12 0, mv 13 1, mv 14 2, to 15 (aBuild #[.int .i64 0, .int .i64 0] [(0, 1), (1, 1)] [(0, .tmp 13), (1, .tmp 14)]), to 16 (aNil (.tmp 12)), to 17 (aFld 2 (.tmp 16)), too (aSt O ro 2 (.tmp 17) (.tmp 15))]
def F90 (O : HI H) (P : Program) (ro : Nat) : CodeT H := cSeq (cReg (R90_0 O P ro)) (cIf (.tmp 11) (cReg (R90_1 O P ro)) cSkip)
theorem F90_fn (O : HI H) (ro : Nat) : Vm.Fn Tryz.prog O ro 90 (F90 O Tryz.prog ro) [] Tryz.f90 := ⟨Tryz.func90, by kernel_rfl, by kernel_rfl, by kernel_rfl, by kernel_rfl, by kernel_rfl⟩
def R91_0 : Rg H := fun O P ro => [mv 4 0, mv 5 1, to 6 (aCall 127 [.tmp 4, .tmp 5])]
def R91_1 : Rg H := fun O P ro => [mv 7 0, to 8 (aNil (.tmp 7)), to 9 (aFld 0 (.tmp 8)), to 10 (aLd O (.tmp 9)), mv 11 1, to 12 (aShift .shr (.tmp 11) (.const (.int .u64 1))), to 13 (aIdx 1 (.tmp 10) (.tmp 12)), too (aSt O ro 1 (.tmp 13) (.const (.bool true)))]
def F91 (O : HI H) (P : Program) (ro : Nat) : CodeT H := cSeq (cReg (R91_0 O P ro)) (cIf (.tmp 6) (cReg (R91_1 O P ro)) cSkip)
theorem F91_fn (O : HI H) (ro : Nat) : Vm.Fn Tryz.prog O ro 91 (F91 O Tryz.prog ro) [] Tryz.f91 := ⟨Tryz.func91, by kernel_rfl, by kernel_rfl, by kernel_rfl, by kernel_rfl, by kernel_rfl⟩
def R92_0 : Rg H := fun O P ro => [mv 8 0, mv 9 1, to 10 (aCall 128 [.tmp 8, .tmp 9]), to 6 (aNew O [.int .i64 0, .int .i64 0]), too (aSt O ro 2 (.tmp 6) (.tmp 10))]
def R92_1 : Rg H := fun O P ro => [to 7 (aMove (.const (.int .i64 0)))]
def R92_2 : Rg H := fun O P ro => [mv 11 1, to 12 (aCall 87 [.tmp 11, .const (.int .i64 32)])]
def R92_3 : Rg H := fun O P ro => [mv 13 1, mv 14 2, to 15 (aCall 129 [.tmp 13, .tmp 14]), mv 7 15]
def R92_4 : Rg H := fun O P ro => [mv 16 1, to 17 (aCall 86 [.tmp 16, .const (.int .i64 10)])]
def R92_5 : Rg H := fun O P ro => [mv 18 0, mv 19 0, to 20 (aNil (.tmp 19)), to 21 (aFld 2 (.tmp 20)), to 22 (aLd O (.tmp 21)), mv 23 2, to 24 (aLdN O 2 (.tmp 6)), mv 25 7, to 26 (aBuild #[.int .i64 0, .int .i64 0, .int .i64 0, .int .i64 0] [(0, 1), (1, 2), (3, 1)] [(0, .tmp 23), (1, .tmp 24), (2, .tmp 25)]), to 27 (aMkSl O 4 1 #[.int .i64 0, .int .i64 0, .int .i64 0, .int .i64 0] [(0, .tmp 26)]), to 28 (aApp O ro 4 32 (.tmp 22) (.tmp 27)), to 29 (aNil (.tmp 18)), to 30 (aFld 2 (.tmp 29)), too (aSt O ro 1 (.tmp 30) (.tmp 28))]
def F92 (O : HI H) (P : Program) (ro : Nat) : CodeT H := cSeq (cReg (R92_0 O P ro)) (cSeq (cReg (R92_1 O P ro)) (cSeq (cSeq (cReg (R92_2 O P ro)) (cIf (.tmp 12) (cReg (R92_3 O P ro)) cSkip)) (cSeq (cReg (R92_4 O P ro)) (cReg (R92_5 O P ro)))))
theorem F92_fn (O : HI H) (ro : Nat) : Vm.Fn Tryz.prog O ro 92 (F92 O Tryz.prog ro) [] Tryz.f92 := ⟨Tryz.func92, by kernel_rfl, by kernel_rfl, by kernel_rfl, by kernel_rfl, by kernel_rfl⟩
def R93_0 : Rg H := fun O P ro => [to 6 (aMove (.const (.slice none 0 0)))]
def R93_1 : Rg H := fun O P ro => [to 7 (aMove (.const (.slice none 0 0)))]
def R93_2 : Rg H := fun O P ro => [to 8 (aMove (.const (.int .i64 0)))]
def R93_3 : Rg H := fun O P ro => [mv 10 8, mv 11 2, to 12 (aInt .lss (.tmp 10) (.tmp 11))]
def R93_5 : Rg H := fun O P ro => [mv 15 0, mv 16 1, to 17 (aCall 128 [.tmp 15, .tmp 16]), to 9 (aNew O [.int .i64 0, .int .i64 0]), too (aSt O ro 2 (.tmp 9) (.tmp 17))]
def R93_6 : Rg H := fun O P ro => [mv 18 1, to 19 (aCall 86 [.tmp 18, .const (.int .i64 10)])]
def R93_7 : Rg H := fun O P ro => [mv 20 7, to 21 (aLdN O 2 (.tmp 9)), to 22 (aMkSl O 2 1 #[.int .i64 0, .int .i64 0] [(0, .tmp 21)]), to 23 (aApp O ro 2 16 (.tmp 20) (.tmp 22)), mv 7 23]
def R93_4 : Rg H := fun O P ro => [mv 13 8, to 14 (aInt .add (.tmp 13) (.const (.int .i64 1))), mv 8 14]
def R93_8 : Rg H := fun O P ro => [mv 24 7, mv 6 24]
def W93_0 (O : HI H) (P : Program) (ro : Nat) : CodeT H := cSeq (cSeq (cReg (R93_3 O P ro)) (cIf (.tmp 12) cSkip (cExit 0))) (cSeq (cBlk 1 (cSeq (cReg (R93_5 O P ro)) (cSeq (cReg (R93_6 O P ro)) (cReg (R93_7 O P ro))))) (cReg (R93_4 O P ro)))
def F93 (O : HI H) (P : Program) (ro : Nat) : CodeT H := cSeq (cReg (R93_0 O P ro)) (cSeq (cReg (R93_1 O P ro)) (cSeq (cSeq (cReg (R93_2 O P ro)) (cBlk 0 (cLoop (W93_0 O P ro)))) (cSeq (cReg (R93_8 O P ro)) cRet)))
theorem F93_fn (O : HI H) (ro : Nat) : Vm.Fn Tryz.prog O ro 93 (F93 O Tryz.prog ro) [ResultVar.tmp 6] Tryz.f93 := ⟨Tryz.func93, by kernel_rfl, by kernel_rfl, by kernel_rfl, by kernel_rfl, by kernel_rfl⟩
def R94_0 : Rg H := fun O P ro => [mv 10 1, to 11 (aNil (.tmp 10)), to 12 (aFld 1 (.tmp 11)), to 13 (aLd O (.tmp 12)), mv 6 13]
def R94_1 : Rg H := fun O P ro => [mv 14 1, to 15 (aCall 130 [.tmp 14]), mv 7 15]
def R94_2 : Rg H := fun O P ro => [mv 16 7, to 17 (aInt .eql (.tmp 16) (.const (.int .i64 0))), mv 18 17, onlyIf 18 false 19 (mv 19 7), onlyIf 18 false 20 (mv 20 2), onlyIf 18 false 21 (to 21 (aInt .gtr (.tmp 19) (.tmp 20))), to 22 (aPick (.tmp 18) (.const (.bool true)) (.tmp 21))]
def R94_3 : Rg H := fun O P ro => [mv 23 1, mv 24 6, to 25 (aCall 90 [.tmp 23, .const (.int .i64 10), .tmp 24])]
def R94_4 : Rg H := fun O P ro => [mv 26 2, mv 27 7, to 28 (aInt .sub (.tmp 26) (.tmp 27)), mv 8 28]
def R94_5 : Rg H := fun O P ro => [mv 29 1, to 30 (aNil (.tmp 29)), to 31 (aFld 1 (.tmp 30)), to 32 (aLd O (.tmp 31)), mv 9 32]
def R94_6 : Rg H := fun O P ro => [mv 33 1, to 34 (aCall 130 [.tmp 33]), mv 7 34]
def R94_7 : Rg H := fun O P ro => [mv 35 7, mv 36 8, to 37 (aInt .gtr (.tmp 35) (.tmp 36))]
def R94_8 : Rg H := fun O P ro => [mv 38 1, mv 39 9, to 40 (aCall 90 [.tmp 38, .const (.int .i64 10), .tmp 39])]
def R94_9 : Rg H := fun O P ro => [mv 41 0, mv 42 2, to 43 (aCall 91 [.tmp 41, .tmp 42])]
def R94_10 : Rg H := fun O P ro => [mv 44 0, mv 45 0, to 46 (aNil (.tmp 45)), to 47 (aFld 5 (.tmp 46)), to 48 (aLd O (.tmp 47)), mv 49 2, mv 50 6, to 51 (aBuild #[.int .i64 0, .int .i64 0] [(0, 1), (1, 1)] [(0, .tmp 49), (1, .tmp 50)]), mv 52 8, mv 53 6, to 54 (aBuild #[.int .i64 0, .int .i64 0] [(0, 1), (1, 1)] [(0, .tmp 52), (1, .tmp 53)]), mv 55 8, mv 56 7, to 57 (aInt .sub (.tmp 55) (.tmp 56)), mv 58 9, to 59 (aBuild #[.int .i64 0, .int .i64 0] [(0, 1), (1, 1)] [(0, .tmp 57), (1, .tmp 58)]), to 60 (aBuild #[.int .i64 0, .int .i64 0, .int .i64 0, .int .i64 0, .int .i64 0, .int .i64 0] [(0, 2), (2, 2), (4, 2)] [(0, .tmp 51), (1, .tmp 54), (2, .tmp 59)]), to 61 (aMkSl O 6 1 #[.int .i64 0, .int .i64 0, .int .i64 0, .int .i64 0, .int .i64 0, .int .i64 0] [(0, .tmp 60)]), to 62 (aApp O ro 6 48 (.tmp 48) (.tmp 61)), to 63 (aNil (.tmp 44)), to 64 (aFld 5 (.tmp 63)), too (aSt O ro 1 (.tmp 64) (.tmp 62))]
def F94 (O : HI H) (P : Program) (ro : Nat) : CodeT H := cSeq (cReg (R94_0 O P ro)) (cSeq (cReg (R94_1 O P ro)) (cSeq (cSeq (cReg (R94_2 O P ro)) (cIf (.tmp 22) (cReg (R94_3 O P ro)) cSkip)) (cSeq (cReg (R94_4 O P ro)) (cSeq (cReg (R94_5 O P ro)) (cSeq (cReg (R94_6 O P ro)) (cSeq (cSeq (cReg (R94_7 O P ro)) (cIf (.tmp 37) (cReg (R94_8 O P ro)) cSkip)) (cSeq (cReg (R94_9 O P ro)) (cReg (R94_10 O P ro)))))))))
theorem F94_fn (O : HI H) (ro : Nat) : Vm.Fn Tryz.prog O ro 94 (F94 O Tryz.prog ro) [] Tryz.f94 := ⟨Tryz.func94, by kernel_rfl, by kernel_rfl, by kernel_rfl, by kernel_rfl, by kernel_rfl⟩
def R95_0 : Rg H := fun O P ro => [to 4 (aNew O [.int .i64 0, .int .i64 0])]
def R95_1 : Rg H := fun O P ro => [mv 6 0, mv 7 1, to 8 (aCall 128 [.tmp 6, .tmp 7]), to 5 (aNew O [.int .i64 0, .int .i64 0]), too (aSt O ro 2 (.tmp 5) (.tmp 8))]
def R95_2 : Rg H := fun O P ro => [to 9 (aFld 0 (.tmp 5)), to 10 (aLd O (.tmp 9)), to 11 (aInt .and (.tmp 10) (.const (.int .i64 1))), to 12 (aInt .eql (.tmp 11) (.const (.int .i64 1))), mv 13 12, onlyIf 13 false 14 (mv 14 0), onlyIf 13 false 15 (to 15 (aFld 0 (.tmp 5))), onlyIf 13 false 16 (to 16 (aLd O (.tmp 15))), onlyIf 13 false 17 (to 17 (aCall 131 [.tmp 14, .tmp 16])), to 18 (aPick (.tmp 13) (.const (.bool true)) (.tmp 17))]
def R95_3 : Rg H := fun O P ro => [mv 19 1, to 20 (aFld 1 (.tmp 5)), to 21 (aLd O (.tmp 20)), to 22 (aCall 90 [.tmp 19, .const (.int .i64 8), .tmp 21])]
def R95_4 : Rg H := fun O P ro => [mv 23 0, to 24 (aFld 0 (.tmp 5)), to 25 (aLd O (.tmp 24)), to 26 (aCall 91 [.tmp 23, .tmp 25])]
def R95_5 : Rg H := fun O P ro => [to 27 (aLdN O 2 (.tmp 5)), too (aSt O ro 2 (.tmp 4) (.tmp 27))]
def F95 (O : HI H) (P : Program) (ro : Nat) : CodeT H := cSeq (cReg (R95_0 O P ro)) (cSeq (cReg (R95_1 O P ro)) (cSeq (cSeq (cReg (R95_2 O P ro)) (cIf (.tmp 18) (cReg (R95_3 O P ro)) cSkip)) (cSeq (cReg (R95_4 O P ro)) (cSeq (cReg (R95_5 O P ro)) cRet))))
theorem F95_fn (O : HI H) (ro : Nat) : Vm.Fn Tryz.prog O ro 95 (F95 O Tryz.prog ro) [ResultVar.cell 4 137] Tryz.f95 := ⟨Tryz.func95, by kernel_rfl, by kernel_rfl, by kernel_rfl, by kernel_rfl, by kernel_rfl⟩
def R96_0 : Rg H := fun O P ro => [mv 7 0, mv 8 1, to 9 (aCall 95 [.tmp 7, .tmp 8]), to 4 (aNew O [.int .i64 0, .int .i64 0]), too (aSt O ro 2 (.tmp 4) (.tmp 9))]
def R96_1 : Rg H := fun O P ro => [mv 10 1, to 11 (aCall 86 [.tmp 10, .const (.int .i64 32)])]
def R96_2 : Rg H := fun O P ro => [mv 12 0, mv 13 1, to 14 (aCall 128 [.tmp 12, .tmp 13]), to 5 (aNew O [.int .i64 0, .int .i64 0]), too (aSt O ro 2 (.tmp 5) (.tmp 14))]
def R96_3 : Rg H := fun O P ro => [mv 15 1, to 16 (aCall 86 [.tmp 15, .const (.int .i64 32)])]
def R96_4 : Rg H := fun O P ro => [mv 17 0, mv 18 1, to 19 (aCall 128 [.tmp 17, .tmp 18]), to 6 (aNew O [.int .i64 0, .int .i64 0]), too (aSt O ro 2 (.tmp 6) (.tmp 19))]
def R96_5 : Rg H := fun O P ro => [mv 20 1, to 21 (aCall 86 [.tmp 20, .const (.int .i64 10)])]
def R96_6 : Rg H := fun O P ro => [mv 22 0, mv 23 0, to 24 (aNil (.tmp 23)), to 25 (aFld 5 (.tmp 24)), to 26 (aLd O (.tmp 25)), to 27 (aLdN O 2 (.tmp 4)), to 28 (aLdN O 2 (.tmp 5)), to 29 (aLdN O 2 (.tmp 6)), to 30 (aBuild #[.int .i64 0, .int .i64 0, .int .i64 0, .int .i64 0, .int .i64 0, .int .i64 0] [(0, 2), (2, 2), (4, 2)] [(0, .tmp 27), (1, .tmp 28), (2, .tmp 29)]), to 31 (aMkSl O 6 1 #[.int .i64 0, .int .i64 0, .int .i64 0, .int .i64 0, .int .i64 0, .int .i64 0] [(0, .tmp 30)]), to 32 (aApp O ro 6 48 (.tmp 26) (.tmp 31)), to 33 (aNil (.tmp 22)), to 34 (aFld 5 (.tmp 33)), too (aSt O ro 1 (.tmp 34) (.tmp 32))]
def F96 (O : HI H) (P : Program) (ro : Nat) : CodeT H := cSeq (cReg (R96_0 O P ro)) (cSeq (cReg (R96_1 O P ro)) (cSeq (cReg (R96_2 O P ro)) (cSeq (cReg (R96_3 O P ro)) (cSeq (cReg (R96_4 O P ro)) (cSeq (cReg (R96_5 O P ro)) (cReg (R96_6 O P ro)))))))
theorem F96_fn (O : HI H) (ro : Nat) : Vm.Fn Tryz.prog O ro 96 (F96 O Tryz.prog ro) [] Tryz.f96 := ⟨Tryz.func96, by kernel_rfl, by kernel_rfl, by kernel_rfl, by kernel_rfl, by kernel_rfl⟩
def R97_0 : Rg H := fun O P ro => [to 3 (aBox O (.tmp 1))]
def R97_1 : Rg H := fun O P ro => [to 4 (aMove (.const (.int .i64 0)))]
def R97_2 : Rg H := fun O P ro => [mv 7 0, to 8 (aCall 88 [.tmp 7])]
def R97_4 : Rg H := fun O P ro => [to 16 (aInt .eql (.tmp 8) (.const (.int .i64 105))), mv 15 16]
def R97_5 : Rg H := fun O P ro => [to 17 (aFld 2 (.tmp 3)), to 18 (aLd O (.tmp 17)), mv 4 18]
def R97_6 : Rg H := fun O P ro => [to 20 (aInt .eql (.tmp 8) (.const (.int .i64 108))), mv 19 20]
def R97_7 : Rg H := fun O P ro => [to 21 (aFld 3 (.tmp 3)), to 22 (aLd O (.tmp 21)), mv 4 22]
def R97_8 : Rg H := fun O P ro => [to 24 (aInt .eql (.tmp 8) (.const (.int .i64 111))), mv 23 24]
def R97_9 : Rg H := fun O P ro => [to 25 (aFld 4 (.tmp 3)), to 26 (aLd O (.tmp 25)), mv 4 26]
def R97_10 : Rg H := fun O P ro => [to 28 (aInt .eql (.tmp 8) (.const (.int .i64 98))), mv 27 28]
def R97_11 : Rg H := fun O P ro => [to 29 (aFld 6 (.tmp 3)), to 30 (aLd O (.tmp 29)), mv 4 30]
def R97_3 : Rg H := fun O P ro => [mv 9 0, mv 10 0, to 11 (aNil (.tmp 10)), to 12 (aFld 1 (.tmp 11)), to 13 (aLd O (.tmp 12)), to 14 (aCall 90 [.tmp 9, .const (.int .i64 2), .tmp 13])]
def R97_12 : Rg H := fun O P ro => [mv 31 0, to 32 (aNil (.tmp 31)), to 33 (aFld 1 (.tmp 32)), to 34 (aLd O (.tmp 33)), to 35 (aInt .add (.tmp 34) (.const (.int .i64 1))), to 36 (aNil (.tmp 31)), to 37 (aFld 1 (.tmp 36)), too (aSt O ro 1 (.tmp 37) (.tmp 35))]
def R97_13 : Rg H := fun O P ro => [mv 38 0, to 39 (aNil (.tmp 38)), to 40 (aFld 1 (.tmp 39)), to 41 (aLd O (.tmp 40)), mv 5 41]
def R97_14 : Rg H := fun O P ro => [mv 42 0, to 43 (aCall 89 [.tmp 42]), mv 6 43]
def R97_15 : Rg H := fun O P ro => [mv 44 6, mv 45 4, to 46 (aInt .geq (.tmp 44) (.tmp 45))]
def R97_16 : Rg H := fun O P ro => [mv 47 0, mv 48 5, to 49 (aCall 90 [.tmp 47, .const (.int .i64 2), .tmp 48])]
def R97_17 : Rg H := fun O P ro => [mv 50 0, to 51 (aCall 86 [.tmp 50, .const (.int .i64 32)])]
def R97_18 : Rg H := fun O P ro => [mv 52 0, to 53 (aCall 132 [.tmp 52])]
def F97 (O : HI H) (P : Program) (ro : Nat) : CodeT H := cSeq (cReg (R97_0 O P ro)) (cSeq (cReg (R97_1 O P ro)) (cSeq (cSeq (cReg (R97_2 O P ro)) (cBlk 0 (cSeq (cReg (R97_4 O P ro)) (cIf (.tmp 15) (cReg (R97_5 O P ro)) (cSeq (cReg (R97_6 O P ro)) (cIf (.tmp 19) (cReg (R97_7 O P ro)) (cSeq (cReg (R97_8 O P ro)) (cIf (.tmp 23) (cReg (R97_9 O P ro)) (cSeq (cReg (R97_10 O P ro)) (cIf (.tmp 27) (cReg (R97_11 O P ro)) (cSeq (cReg (R97_3 O P ro)) cRet))))))))))) (cSeq (cReg (R97_12 O P ro)) (cSeq (cReg (R97_13 O P ro)) (cSeq (cReg (R97_14 O P ro)) (cSeq (cSeq (cReg (R97_15 O P ro)) (cIf (.tmp 46) (cReg (R97_16 O P ro)) cSkip)) (cSeq (cReg (R97_17 O P ro)) (cReg (R97_18 O P ro)))))))))
theorem F97_fn (O : HI H) (ro : Nat) : Vm.Fn Tryz.prog O ro 97 (F97 O Tryz.prog ro) [] Tryz.f97 := ⟨Tryz.func97, by kernel_rfl, by kernel_rfl, by kernel_rfl, by kernel_rfl, by kernel_rfl⟩
def R98_0 : Rg H := fun O P ro => [to 5 (aBox O (.tmp 2))]
def R98_1 : Rg H := fun O P ro => [mv 6 0, to 7 (aFld 0 (.tmp 5)), to 8 (aLd O (.tmp 7)), to 9 (aCall 131 [.tmp 6, .tmp 8]), to 10 (aUn .not (.tmp 9))]
def R98_2 : Rg H := fun O P ro => [mv 11 1, to 12 (aFld 1 (.tmp 5)), to 13 (aLd O (.tmp 12)), to 14 (aCall 90 [.tmp 11, .const (.int .i64 11), .tmp 13])]
def F98 (O : HI H) (P : Program) (ro : Nat) : CodeT H := cSeq (cReg (R98_0 O P ro)) (cSeq (cReg (R98_1 O P ro)) (cIf (.tmp 10) (cReg (R98_2 O P ro)) cSkip))
theorem F98_fn (O : HI H) (ro : Nat) : Vm.Fn Tryz.prog O ro 98 (F98 O Tryz.prog ro) [] Tryz.f98 := ⟨Tryz.func98, by kernel_rfl, by kernel_rfl, by kernel_rfl, by kernel_rfl, by kernel_rfl⟩
def R99_0 : Rg H := fun O P ro => [to 2 (aMove (.const (.pointer none)))]
def R99_1 : Rg H := fun O P ro => [to 7 (aBuild #[.slice none 0 0, .int .i64 0] [(0, 1), (1, 1)] []), to 8 (aBox O (.tmp 7)), mv 3 8]
def R99_2 : Rg H := fun O P ro => [to 4 (aMove (.const (.int .i64 0)))]
def R99_3 : Rg H := fun O P ro => [mv 9 4, mv 10 0, to 11 (aNil (.tmp 10)), to 12 (aFld 0 (.tmp 11)), to 13 (aLd O (.tmp 12)), to 14 (aLenSl (.tmp 13)), to 15 (aInt .lss (.tmp 9) (.tmp 14))]
def R99_5 : Rg H := fun O P ro => [mv 18 3, mv 19 3, to 20 (aNil (.tmp 19)), to 21 (aFld 0 (.tmp 20)), to 22 (aLd O (.tmp 21)), to 23 (aMkSl O 1 1 #[.int .i64 0] [(0, .const (.int .i64 (-1)))]), to 24 (aApp O ro 1 8 (.tmp 22) (.tmp 23)), to 25 (aNil (.tmp 18)), to 26 (aFld 0 (.tmp 25)), too (aSt O ro 1 (.tmp 26) (.tmp 24))]
def R99_4 : Rg H := fun O P ro => [mv 16 4, to 17 (aInt .add (.tmp 16) (.const (.int .i64 1))), mv 4 17]
def R99_6 : Rg H := fun O P ro => [mv 27 3, to 28 (aCall 133 [.tmp 27, .const (.int .i64 0)])]
def R99_7 : Rg H := fun O P ro => [to 5 (aMove (.const (.int .i64 0)))]
def R99_8 : Rg H := fun O P ro => [mv 29 5, mv 30 0, to 31 (aNil (.tmp 30)), to 32 (aFld 1 (.tmp 31)), to 33 (aLd O (.tmp 32)), to 34 (aLenSl (.tmp 33)), to 35 (aInt .lss (.tmp 29) (.tmp 34))]
def R99_10 : Rg H := fun O P ro => [mv 38 3, mv 39 0, to 40 (aNil (.tmp 39)), to 41 (aFld 1 (.tmp 40)), to 42 (aLd O (.tmp 41)), mv 43 5, to 44 (aIdx 1 (.tmp 42) (.tmp 43)), to 45 (aLd O (.tmp 44)), to 46 (aCall 133 [.tmp 38, .tmp 45])]
def R99_9 : Rg H := fun O P ro => [mv 36 5, to 37 (aInt .add (.tmp 36) (.const (.int .i64 1))), mv 5 37]
def R99_11 : Rg H := fun O P ro => [to 6 (aMove (.const (.int .i64 0)))]
def R99_12 : Rg H := fun O P ro => [mv 47 6, mv 48 0, to 49 (aNil (.tmp 48)), to 50 (aFld 2 (.tmp 49)), to 51 (aLd O (.tmp 50)), to 52 (aLenSl (.tmp 51)), to 53 (aInt .lss (.tmp 47) (.tmp 52))]
def R99_14 : Rg H := fun O P ro => [mv 56 3, mv 57 0, to 58 (aNil (.tmp 57)), to 59 (aFld 2 (.tmp 58)), to 60 (aLd O (.tmp 59)), mv 61 6, to 62 (aIdx 4 (.tmp 60) (.tmp 61)), to 63 (aFld 0 (.tmp 62)), to 64 (aLd O (.tmp 63)), to 65 (aCall 133 [.tmp 56, .tmp 64])]
def R99_13 : Rg H := fun O P ro => [mv 54 6, to 55 (aInt .add (.tmp 54) (.const (.int .i64 1))), mv 6 55]
def R99_15 : Rg H := fun O P ro => [mv 66 3, mv 2 66]
def W99_0 (O : HI H) (P : Program) (ro : Nat) : CodeT H := cSeq (cSeq (cReg (R99_3 O P ro)) (cIf (.tmp 15) cSkip (cExit 0))) (cSeq (cBlk 1 (cReg (R99_5 O P ro))) (cReg (R99_4 O P ro)))
def W99_1 (O : HI H) (P : Program) (ro : Nat) : CodeT H := cSeq (cSeq (cReg (R99_8 O P ro)) (cIf (.tmp 35) cSkip (cExit 2))) (cSeq (cBlk 3 (cReg (R99_10 O P ro))) (cReg (R99_9 O P ro)))
def W99_2 (O : HI H) (P : Program) (ro : Nat) : CodeT H := cSeq (cSeq (cReg (R99_12 O P ro)) (cIf (.tmp 53) cSkip (cExit 4))) (cSeq (cBlk 5 (cReg (R99_14 O P ro))) (cReg (R99_13 O P ro)))
def F99 (O : HI H) (P : Program) (ro : Nat) : CodeT H := cSeq (cReg (R99_0 O P ro)) (cSeq (cReg (R99_1 O P ro)) (cSeq (cSeq (cReg (R99_2 O P ro)) (cBlk 0 (cLoop (W99_0 O P ro)))) (cSeq (cReg (R99_6 O P ro)) (cSeq (cSeq (cReg (R99_7 O P ro)) (cBlk 2 (cLoop (W99_1 O P ro)))) (cSeq (cSeq (cReg (R99_11 O P ro)) (cBlk 4 (cLoop (W99_2 O P ro)))) (cSeq (cReg (R99_15 O P ro)) cRet))))))
theorem F99_fn (O : HI H) (ro : Nat) : Vm.Fn Tryz.prog O ro 99 (F99 O Tryz.prog ro) [ResultVar.tmp 2] Tryz.f99 := ⟨Tryz.func99, by kernel_rfl, by kernel_rfl, by kernel_rfl, by kernel_rfl, by kernel_rfl⟩
def R100_0 : Rg H := fun O P ro => [to 4 (aMove (.const (.int .i64 0)))]
def R100_1 : Rg H := fun O P ro => [to 5 (aMove (.const (.int .i64 0)))]
def R100_2 : Rg H := fun O P ro => [mv 9 5, mv 10 1, to 11 (aLenSl (.tmp 10)), to 12 (aInt .lss (.tmp 9) (.tmp 11))]
def R100_4 : Rg H := fun O P ro => [mv 15 0, mv 16 1, mv 17 5, to 18 (aIdx 6 (.tmp 16) (.tmp 17)), to 19 (aFld 0 (.tmp 18)), to 20 (aFld 0 (.tmp 19)), to 21 (aLd O (.tmp 20)), to 22 (aCall 134 [.tmp 15, .tmp 21]), mv 6 22]
def R100_5 : Rg H := fun O P ro => [mv 23 0, mv 24 1, mv 25 5, to 26 (aIdx 6 (.tmp 24) (.tmp 25)), to 27 (aFld 2 (.tmp 26)), to 28 (aFld 0 (.tmp 27)), to 29 (aLd O (.tmp 28)), to 30 (aCall 134 [.tmp 23, .tmp 29]), mv 7 30]
def R100_6 : Rg H := fun O P ro => [mv 31 0, mv 32 1, mv 33 5, to 34 (aIdx 6 (.tmp 32) (.tmp 33)), to 35 (aFld 4 (.tmp 34)), to 36 (aFld 0 (.tmp 35)), to 37 (aLd O (.tmp 36)), to 38 (aCall 134 [.tmp 31, .tmp 37]), mv 8 38]
def R100_7 : Rg H := fun O P ro => [mv 39 6, to 40 (aInt .eql (.tmp 39) (.const (.int .i64 (-1)))), mv 41 40, onlyIf 41 true 42 (mv 42 7), onlyIf 41 true 43 (to 43 (aInt .neq (.tmp 42) (.const (.int .i64 (-1))))), to 44 (aPick (.tmp 41) (.tmp 43) (.const (.bool false))), mv 45 44, onlyIf 45 true 46 (mv 46 8), onlyIf 45 true 47 (to 47 (aInt .neq (.tmp 46) (.const (.int .i64 (-1))))), to 48 (aPick (.tmp 45) (.tmp 47) (.const (.bool false)))]
def R100_8 : Rg H := fun O P ro => [mv 49 5, mv 4 49]
def R100_3 : Rg H := fun O P ro => [mv 13 5, to 14 (aInt .add (.tmp 13) (.const (.int .i64 1))), mv 5 14]
def R100_9 : Rg H := fun O P ro => [to 4 (aMove (.const (.int .i64 (-1))))]
def W100_0 (O : HI H) (P : Program) (ro : Nat) : CodeT H := cSeq (cSeq (cReg (R100_2 O P ro)) (cIf (.tmp 12) cSkip (cExit 0))) (cSeq (cBlk 1 (cSeq (cReg (R100_4 O P ro)) (cSeq (cReg (R100_5 O P ro)) (cSeq (cReg (R100_6 O P ro)) (cSeq (cReg (R100_7 O P ro)) (cIf (.tmp 48) (cSeq (cReg (R100_8 O P ro)) cRet) cSkip)))))) (cReg (R100_3 O P ro)))
def F100 (O : HI H) (P : Program) (ro : Nat) : CodeT H := cSeq (cReg (R100_0 O P ro)) (cSeq (cSeq (cReg (R100_1 O P ro)) (cBlk 0 (cLoop (W100_0 O P ro)))) (cSeq (cReg (R100_9 O P ro)) cRet))
theorem F100_fn (O : HI H) (ro : Nat) : Vm.Fn Tryz.prog O ro 100 (F100 O Tryz.prog ro) [ResultVar.tmp 4] Tryz.f100 := ⟨Tryz.func100, by kernel_rfl, by kernel_rfl, by kernel_rfl, by kernel_rfl, by kernel_rfl⟩
def R101_0 : Rg H := fun O P ro => [to 4 (aMove (.const (.int .i64 0)))]
def R101_1 : Rg H := fun O P ro => [to 5 (aMove (.const (.int .i64 0)))]
def R101_2 : Rg H := fun O P ro => [mv 7 5, mv 8 1, to 9 (aLenSl (.tmp 8)), to 10 (aInt .lss (.tmp 7) (.tmp 9))]
def R101_4 : Rg H := fun O P ro => [mv 13 0, mv 14 1, mv 15 5, to 16 (aIdx 6 (.tmp 14) (.tmp 15)), to 17 (aFld 0 (.tmp 16)), to 18 (aFld 0 (.tmp 17)), to 19 (aLd O (.tmp 18)), to 20 (aCall 134 [.tmp 13, .tmp 19]), mv 6 20]
def R101_5 : Rg H := fun O P ro => [mv 21 6, to 22 (aInt .eql (.tmp 21) (.const (.int .i64 (-1))))]
def R101_6 : Rg H := fun O P ro => [mv 23 1, mv 24 5, to 25 (aIdx 6 (.tmp 23) (.tmp 24)), to 26 (aFld 0 (.tmp 25)), to 27 (aFld 1 (.tmp 26)), to 28 (aLd O (.tmp 27)), mv 4 28]
def R101_3 : Rg H := fun O P ro => [mv 11 5, to 12 (aInt .add (.tmp 11) (.const (.int .i64 1))), mv 5 12]
def R101_7 : Rg H := fun O P ro => [to 4 (aMove (.const (.int .i64 0)))]
def W101_0 (O : HI H) (P : Program) (ro : Nat) : CodeT H := cSeq (cSeq (cReg (R101_2 O P ro)) (cIf (.tmp 10) cSkip (cExit 0))) (cSeq (cBlk 1 (cSeq (cReg (R101_4 O P ro)) (cSeq (cReg (R101_5 O P ro)) (cIf (.tmp 22) (cSeq (cReg (R101_6 O P ro)) cRet) cSkip)))) (cReg (R101_3 O P ro)))
def F101 (O : HI H) (P : Program) (ro : Nat) : CodeT H := cSeq (cReg (R101_0 O P ro)) (cSeq (cSeq (cReg (R101_1 O P ro)) (cBlk 0 (cLoop (W101_0 O P ro)))) (cSeq (cReg (R101_7 O P ro)) cRet))
theorem F101_fn (O : HI H) (ro : Nat) : Vm.Fn Tryz.prog O ro 101 (F101 O Tryz.prog ro) [ResultVar.tmp 4] Tryz.f101 := ⟨Tryz.func101, by kernel_rfl, by kernel_rfl, by kernel_rfl, by kernel_rfl, by kernel_rfl⟩
def R102_0 : Rg H := fun O P ro => [to 5 (aBox O (.tmp 2))]
def R102_1 : Rg H := fun O P ro => [mv 8 0, to 9 (aFld 2 (.tmp 5)), to 10 (aFld 0 (.tmp 9)), to 11 (aLd O (.tmp 10)), to 12 (aCall 103 [.tmp 8, .tmp 11]), mv 6 12]
def R102_2 : Rg H := fun O P ro => [mv 13 0, to 14 (aFld 4 (.tmp 5)), to 15 (aFld 0 (.tmp 14)), to 16 (aLd O (.tmp 15)), to 17 (aCall 103 [.tmp 13, .tmp 16]), mv 7 17]
def R102_3 : Rg H := fun O P ro => [mv 18 6, mv 19 7, to 20 (aInt .lss (.tmp 18) (.tmp 19))]
def R102_4 : Rg H := fun O P ro => [mv 21 7, mv 22 6, mv 6 21, mv 7 22]
def R102_5 : Rg H := fun O P ro => [mv 23 1, mv 24 1, to 25 (aNil (.tmp 24)), to 26 (aFld 2 (.tmp 25)), to 27 (aLd O (.tmp 26)), mv 28 6, mv 29 7, to 30 (aBuild #[.int .i64 0, .int .i64 0] [(0, 1), (1, 1)] [(0, .tmp 28), (1, .tmp 29)]), to 31 (aMkSl O 2 1 #[.int .i64 0, .int .i64 0] [(0, .tmp 30)]), to 32 (aApp O ro 2 16 (.tmp 27) (.tmp 31)), to 33 (aNil (.tmp 23)), to 34 (aFld 2 (.tmp 33)), too (aSt O ro 1 (.tmp 34) (.tmp 32))]
def R102_6 : Rg H := fun O P ro => [mv 35 0, to 36 (aFld 0 (.tmp 5)), to 37 (aFld 0 (.tmp 36)), to 38 (aLd O (.tmp 37)), to 39 (aCall 133 [.tmp 35, .tmp 38])]
def F102 (O : HI H) (P : Program) (ro : Nat) : CodeT H := cSeq (cReg (R102_0 O P ro)) (cSeq (cReg (R102_1 O P ro)) (cSeq (cReg (R102_2 O P ro)) (cSeq (cSeq (cReg (R102_3 O P ro)) (cIf (.tmp 20) (cReg (R102_4 O P ro)) cSkip)) (cSeq (cReg (R102_5 O P ro)) (cReg (R102_6 O P ro))))))
theorem F102_fn (O : HI H) (ro : Nat) : Vm.Fn Tryz.prog O ro 102 (F102 O Tryz.prog ro) [] Tryz.f102 := ⟨Tryz.func102, by kernel_rfl, by kernel_rfl, by kernel_rfl, by kernel_rfl, by kernel_rfl⟩
def R103_0 : Rg H := fun O P ro => [to 4 (aMove (.const (.int .i64 0)))]
def R103_1 : Rg H := fun O P ro => [mv 6 0, mv 7 1, to 8 (aCall 134 [.tmp 6, .tmp 7]), mv 5 8]
def R103_2 : Rg H := fun O P ro => [mv 9 5, to 10 (aInt .mul (.const (.int .i64 2)) (.tmp 9)), mv 11 1, to 12 (aInt .and (.tmp 11) (.const (.int .i64 1))), to 13 (aInt .add (.tmp 10) (.tmp 12)), mv 4 13]
def F103 (O : HI H) (P : Program) (ro : Nat) : CodeT H := cSeq (cReg (R103_0 O P ro)) (cSeq (cReg (R103_1 O P ro)) (cSeq (cReg (R103_2 O P ro)) cRet))
theorem F103_fn (O : HI H) (ro : Nat) : Vm.Fn Tryz.prog O ro 103 (F103 O Tryz.prog ro) [ResultVar.tmp 4] Tryz.f103 := ⟨Tryz.func103, by kernel_rfl, by kernel_rfl, by kernel_rfl, by kernel_rfl, by kernel_rfl⟩
def R104_0 : Rg H := fun O P ro => [to 2 (aMove (.const (.int .i64 0)))]
def R104_1 : Rg H := fun O P ro => [mv 3 0, to 4 (aNil (.tmp 3)), to 5 (aFld 4 (.tmp 4)), to 6 (aLd O (.tmp 5)), to 7 (aLenSl (.tmp 6)), to 8 (aInt .gtr (.tmp 7) (.const (.int .i64 0)))]
def R104_2 : Rg H := fun O P ro => [mv 9 0, to 10 (aNil (.tmp 9)), to 11 (aFld 4 (.tmp 10)), to 12 (aLd O (.tmp 11)), to 13 (aIdx 2 (.tmp 12) (.const (.int .i64 0))), to 14 (aFld 0 (.tmp 13)), to 15 (aLd O (.tmp 14)), mv 2 15]
def R104_3 : Rg H := fun O P ro => [mv 16 0, to 17 (aNil (.tmp 16)), to 18 (aFld 3 (.tmp 17)), to 19 (aLd O (.tmp 18)), to 20 (aLenSl (.tmp 19)), to 21 (aInt .gtr (.tmp 20) (.const (.int .i64 0)))]
def R104_4 : Rg H := fun O P ro => [mv 22 0, to 23 (aNil (.tmp 22)), to 24 (aFld 3 (.tmp 23)), to 25 (aLd O (.tmp 24)), to 26 (aIdx 2 (.tmp 25) (.const (.int .i64 0))), to 27 (aFld 0 (.tmp 26)), to 28 (aLd O (.tmp 27)), mv 2 28]
def R104_5 : Rg H := fun O P ro => [to 2 (aMove (.const (.int .i64 0)))]
def F104 (O : HI H) (P : Program) (ro : Nat) : CodeT H := cSeq (cReg (R104_0 O P ro)) (cSeq (cSeq (cReg (R104_1 O P ro)) (cIf (.tmp 8) (cSeq (cReg (R104_2 O P ro)) cRet) cSkip)) (cSeq (cSeq (cReg (R104_3 O P ro)) (cIf (.tmp 21) (cSeq (cReg (R104_4 O P ro)) cRet) cSkip)) (cSeq (cReg (R104_5 O P ro)) cRet)))
theorem F104_fn (O : HI H) (ro : Nat) : Vm.Fn Tryz.prog O ro 104 (F104 O Tryz.prog ro) [ResultVar.tmp 2] Tryz.f104 := ⟨Tryz.func104, by kernel_rfl, by kernel_rfl, by kernel_rfl, by kernel_rfl, by kernel_rfl⟩
def R126_0 : Rg H := fun O P ro => [to 2 (aMove (.const (.bool false)))]
def R126_1 : Rg H := fun O P ro => [mv 3 0, to 4 (aInt .geq (.tmp 3) (.const (.int .i64 48))), mv 5 4, onlyIf 5 true 6 (mv 6 0), onlyIf 5 true 7 (to 7 (aInt .leq (.tmp 6) (.const (.int .i64 57)))), to 8 (aPick (.tmp 5) (.tmp 7) (.const (.bool false))), mv 2 8]
def F126 (O : HI H) (P : Program) (ro : Nat) : CodeT H := cSeq (cReg (R126_0 O P ro)) (cSeq (cReg (R126_1 O P ro)) cRet)
theorem F126_fn (O : HI H) (ro : Nat) : Vm.Fn Tryz.prog O ro 126 (F126 O Tryz.prog ro) [ResultVar.tmp 2] Tryz.f126 := ⟨Tryz.func126, by kernel_rfl, by kernel_rfl, by kernel_rfl, by kernel_rfl, by kernel_rfl⟩
def R127_0 : Rg H := fun O P ro => [to 4 (aMove (.const (.bool false)))]
def R127_1 : Rg H := fun O P ro => [mv 5 1, to 6 (aInt .geq (.tmp 5) (.const (.int .i64 0))), mv 7 6, onlyIf 7 true 8 (mv 8 1), onlyIf 7 true 9 (to 9 (aShift .shr (.tmp 8) (.const (.int .u64 1)))), onlyIf 7 true 10 (mv 10 0), onlyIf 7 true 11 (to 11 (aNil (.tmp 10))), onlyIf 7 true 12 (to 12 (aFld 0 (.tmp 11))), onlyIf 7 true 13 (to 13 (aLd O (.tmp 12))), onlyIf 7 true 14 (to 14 (aLenSl (.tmp 13))), onlyIf 7 true 15 (to 15 (aInt .lss (.tmp 9) (.tmp 14))), to 16 (aPick (.tmp 7) (.tmp 15) (.const (.bool false))), mv 4 16]
def F127 (O : HI H) (P : Program) (ro : Nat) : CodeT H := cSeq (cReg (R127_0 O P ro)) (cSeq (cReg (R127_1 O P ro)) cRet)
theorem F127_fn (O : HI H) (ro : Nat) : Vm.Fn Tryz.prog O ro 127 (F127 O Tryz.prog ro) [ResultVar.tmp 4] Tryz.f127 := ⟨Tryz.func127, by kernel_rfl, by kernel_rfl, by kernel_rfl, by kernel_rfl, by kernel_rfl⟩
def R128_0 : Rg H := fun O P ro => [to 4 (aNew O [.int .i64 0, .int .i64 0])]
def R128_1 : Rg H := fun O P ro => [mv 7 1, to 8 (aNil (.tmp 7)), to 9 (aFld 1 (.tmp 8)), to 10 (aLd O (.tmp 9)), mv 5 10]
def R128_2 : Rg H := fun O P ro => [mv 11 1, to 12 (aCall 89 [.tmp 11]), mv 6 12]
def R128_3 : Rg H := fun O P ro => [mv 13 0, mv 14 6, to 15 (aCall 127 [.tmp 13, .tmp 14]), to 16 (aUn .not (.tmp 15))]
def R128_4 : Rg H := fun O P ro => [mv 17 1, mv 18 5, to 19 (aCall 90 [.tmp 17, .const (.int .i64 7), .tmp 18])]
def R128_5 : Rg H := fun O P ro => [mv 20 6, mv 21 5, to 22 (aBuild #[.int .i64 0, .int .i64 0] [(0, 1), (1, 1)] [(0, .tmp 20), (1, .tmp 21)]), too (aSt O ro 2 (.tmp 4) (.tmp 22))]
def F128 (O : HI H) (P : Program) (ro : Nat) : CodeT H := cSeq (cReg (R128_0 O P ro)) (cSeq (cReg (R128_1 O P ro)) (cSeq (cReg (R128_2 O P ro)) (cSeq (cSeq (cReg (R128_3 O P ro)) (cIf (.tmp 16) (cReg (R128_4 O P ro)) cSkip)) (cSeq (cReg (R128_5 O P ro)) cRet))))
theorem F128_fn (O : HI H) (ro : Nat) : Vm.Fn Tryz.prog O ro 128 (F128 O Tryz.prog ro) [ResultVar.cell 4 137] Tryz.f128 := ⟨Tryz.func128, by kernel_rfl, by kernel_rfl, by kernel_rfl, by kernel_rfl, by kernel_rfl⟩
def R129_0 : Rg H := fun O P ro => [to 4 (aMove (.const (.int .i64 0)))]
def R129_1 : Rg H := fun O P ro => [mv 6 0, to 7 (aNil (.tmp 6)), to 8 (aFld 1 (.tmp 7)), to 9 (aLd O (.tmp 8)), mv 5 9]
def R129_2 : Rg H := fun O P ro => [mv 10 0, to 11 (aCall 89 [.tmp 10])]
def R129_3 : Rg H := fun O P ro => [to 13 (aInt .eql (.tmp 11) (.const (.int .i64 0))), mv 12 13]
def R129_4 : Rg H := fun O P ro => [to 4 (aMove (.const (.int .i64 0)))]
def R129_5 : Rg H := fun O P ro => [to 15 (aInt .eql (.tmp 11) (.const (.int .i64 1))), mv 14 15]
def R129_6 : Rg H := fun O P ro => [to 4 (aMove (.const (.int .i64 1)))]
def R129_7 : Rg H := fun O P ro => [mv 17 1, to 18 (aInt .eql (.tmp 11) (.tmp 17)), mv 16 18]
def R129_8 : Rg H := fun O P ro => [to 4 (aMove (.const (.int .i64 2)))]
def R129_9 : Rg H := fun O P ro => [mv 19 0, mv 20 5, to 21 (aCall 90 [.tmp 19, .const (.int .i64 9), .tmp 20])]
def R129_10 : Rg H := fun O P ro => [to 4 (aMove (.const (.int .i64 0)))]
def F129 (O : HI H) (P : Program) (ro : Nat) : CodeT H := cSeq (cReg (R129_0 O P ro)) (cSeq (cReg (R129_1 O P ro)) (cSeq (cSeq (cReg (R129_2 O P ro)) (cBlk 0 (cSeq (cReg (R129_3 O P ro)) (cIf (.tmp 12) (cSeq (cReg (R129_4 O P ro)) cRet) (cSeq (cReg (R129_5 O P ro)) (cIf (.tmp 14) (cSeq (cReg (R129_6 O P ro)) cRet) (cSeq (cReg (R129_7 O P ro)) (cIf (.tmp 16) (cSeq (cReg (R129_8 O P ro)) cRet) cSkip)))))))) (cSeq (cReg (R129_9 O P ro)) (cSeq (cReg (R129_10 O P ro)) cRet))))
theorem F129_fn (O : HI H) (ro : Nat) : Vm.Fn Tryz.prog O ro 129 (F129 O Tryz.prog ro) [ResultVar.tmp 4] Tryz.f129 := ⟨Tryz.func129, by kernel_rfl, by kernel_rfl, by kernel_rfl, by kernel_rfl, by kernel_rfl⟩
def R130_0 : Rg H := fun O P ro => [to 2 (aMove (.const (.int .i64 0)))]
def R130_1 : Rg H := fun O P ro => [mv 5 0, to 6 (aCall 139 [.tmp 5, .const (.int .i64 256)]), mv 3 6]
def R130_2 : Rg H := fun O P ro => [mv 7 3, to 8 (aInt .lss (.tmp 7) (.const (.int .i64 128)))]
def R130_3 : Rg H := fun O P ro => [mv 9 3, mv 2 9]
def R130_4 : Rg H := fun O P ro => [mv 10 0, to 11 (aCall 139 [.tmp 10, .const (.int .i64 128)]), mv 4 11]
def R130_5 : Rg H := fun O P ro => [mv 12 3, to 13 (aInt .sub (.tmp 12) (.const (.int .i64 128))), mv 14 4, to 15 (aInt .mul (.const (.int .i64 128)) (.tmp 14)), to 16 (aInt .add (.tmp 13) (.tmp 15)), mv 2 16]
def F130 (O : HI H) (P : Program) (ro : Nat) : CodeT H := cSeq (cReg (R130_0 O P ro)) (cSeq (cReg (R130_1 O P ro)) (cSeq (cSeq (cReg (R130_2 O P ro)) (cIf (.tmp 8) (cSeq (cReg (R130_3 O P ro)) cRet) cSkip)) (cSeq (cReg (R130_4 O P ro)) (cSeq (cReg (R130_5 O P ro)) cRet))))
theorem F130_fn (O : HI H) (ro : Nat) : Vm.Fn Tryz.prog O ro 130 (F130 O Tryz.prog ro) [ResultVar.tmp 2] Tryz.f130 := ⟨Tryz.func130, by kernel_rfl, by kernel_rfl, by kernel_rfl, by kernel_rfl, by kernel_rfl⟩
def R131_0 : Rg H := fun O P ro => [to 4 (aMove (.const (.bool false)))]
def R131_1 : Rg H := fun O P ro => [mv 5 0, mv 6 1, to 7 (aCall 127 [.tmp 5, .tmp 6]), mv 8 7, onlyIf 8 true 9 (mv 9 0), onlyIf 8 true 10 (to 10 (aNil (.tmp 9))), onlyIf 8 true 11 (to 11 (aFld 0 (.tmp 10))), onlyIf 8 true 12 (to 12 (aLd O (.tmp 11))), onlyIf 8 true 13 (mv 13 1), onlyIf 8 true 14 (to 14 (aShift .shr (.tmp 13) (.const (.int .u64 1)))), onlyIf 8 true 15 (to 15 (aIdx 1 (.tmp 12) (.tmp 14))), onlyIf 8 true 16 (to 16 (aLd O (.tmp 15))), to 17 (aPick (.tmp 8) (.tmp 16) (.const (.bool false))), mv 4 17]
def F131 (O : HI H) (P : Program) (ro : Nat) : CodeT H := cSeq (cReg (R131_0 O P ro)) (cSeq (cReg (R131_1 O P ro)) cRet)
theorem F131_fn (O : HI H) (ro : Nat) : Vm.Fn Tryz.prog O ro 131 (F131 O Tryz.prog ro) [ResultVar.tmp 4] Tryz.f131 := ⟨Tryz.func131, by kernel_rfl, by kernel_rfl, by kernel_rfl, by kernel_rfl, by kernel_rfl⟩
def R132_0 : Rg H := fun O P ro => [mv 4 0, to 5 (aNil (.tmp 4)), to 6 (aFld 1 (.tmp 5)), to 7 (aLd O (.tmp 6)), mv 2 7]
def R132_1 : Rg H := fun O P ro => [mv 8 0, to 9 (aCall 88 [.tmp 8]), mv 3 9]
def R132_2 : Rg H := fun O P ro => [mv 10 3, to 11 (aInt .neq (.tmp 10) (.const (.int .i64 (-1)))), mv 12 11, onlyIf 12 true 13 (mv 13 3), onlyIf 12 true 14 (to 14 (aInt .neq (.tmp 13) (.const (.int .i64 10)))), to 15 (aPick (.tmp 12) (.tmp 14) (.const (.bool false)))]
def R132_4 : Rg H := fun O P ro => [mv 18 0, to 19 (aNil (.tmp 18)), to 20 (aFld 1 (.tmp 19)), to 21 (aLd O (.tmp 20)), to 22 (aInt .add (.tmp 21) (.const (.int .i64 1))), to 23 (aNil (.tmp 18)), to 24 (aFld 1 (.tmp 23)), too (aSt O ro 1 (.tmp 24) (.tmp 22))]
def R132_3 : Rg H := fun O P ro => [mv 16 0, to 17 (aCall 88 [.tmp 16]), mv 3 17]
def R132_5 : Rg H := fun O P ro => [mv 25 0, to 26 (aNil (.tmp 25)), to 27 (aFld 1 (.tmp 26)), to 28 (aLd O (.tmp 27)), mv 29 2, to 30 (aInt .eql (.tmp 28) (.tmp 29))]
def R132_6 : Rg H := fun O P ro => [mv 31 0, mv 32 0, to 33 (aNil (.tmp 32)), to 34 (aFld 1 (.tmp 33)), to 35 (aLd O (.tmp 34)), to 36 (aCall 90 [.tmp 31, .const (.int .i64 2), .tmp 35])]
def R132_7 : Rg H := fun O P ro => [mv 37 0, to 38 (aCall 86 [.tmp 37, .const (.int .i64 10)])]
def W132_0 (O : HI H) (P : Program) (ro : Nat) : CodeT H := cSeq (cSeq (cReg (R132_2 O P ro)) (cIf (.tmp 15) cSkip (cExit 0))) (cSeq (cBlk 1 (cReg (R132_4 O P ro))) (cReg (R132_3 O P ro)))
def F132 (O : HI H) (P : Program) (ro : Nat) : CodeT H := cSeq (cReg (R132_0 O P ro)) (cSeq (cSeq (cReg (R132_1 O P ro)) (cBlk 0 (cLoop (W132_0 O P ro)))) (cSeq (cSeq (cReg (R132_5 O P ro)) (cIf (.tmp 30) (cReg (R132_6 O P ro)) cSkip)) (cReg (R132_7 O P ro))))
theorem F132_fn (O : HI H) (ro : Nat) : Vm.Fn Tryz.prog O ro 132 (F132 O Tryz.prog ro) [] Tryz.f132 := ⟨Tryz.func132, by kernel_rfl, by kernel_rfl, by kernel_rfl, by kernel_rfl, by kernel_rfl⟩
def R133_0 : Rg H := fun O P ro => [mv 5 1, to 6 (aShift .shr (.tmp 5) (.const (.int .u64 1))), mv 4 6]
def R133_1 : Rg H := fun O P ro => [mv 7 4, to 8 (aInt .lss (.tmp 7) (.const (.int .i64 0))), mv 9 8, onlyIf 9 false 10 (mv 10 4), onlyIf 9 false 11 (mv 11 0), onlyIf 9 false 12 (to 12 (aNil (.tmp 11))), onlyIf 9 false 13 (to 13 (aFld 0 (.tmp 12))), onlyIf 9 false 14 (to 14 (aLd O (.tmp 13))), onlyIf 9 false 15 (to 15 (aLenSl (.tmp 14))), onlyIf 9 false 16 (to 16 (aInt .geq (.tmp 10) (.tmp 15))), to 17 (aPick (.tmp 9) (.const (.bool true)) (.tmp 16))]
def R133_2 : Rg H := fun O P ro => [mv 18 0, to 19 (aNil (.tmp 18)), to 20 (aFld 0 (.tmp 19)), to 21 (aLd O (.tmp 20)), mv 22 4, mv 23 0, to 24 (aNil (.tmp 23)), to 25 (aFld 1 (.tmp 24)), to 26 (aLd O (.tmp 25)), to 27 (aIdx 1 (.tmp 21) (.tmp 22)), too (aSt O ro 1 (.tmp 27) (.tmp 26))]
def R133_3 : Rg H := fun O P ro => [mv 28 0, to 29 (aNil (.tmp 28)), to 30 (aFld 1 (.tmp 29)), to 31 (aLd O (.tmp 30)), to 32 (aInt .add (.tmp 31) (.const (.int .i64 1))), to 33 (aNil (.tmp 28)), to 34 (aFld 1 (.tmp 33)), too (aSt O ro 1 (.tmp 34) (.tmp 32))]
def F133 (O : HI H) (P : Program) (ro : Nat) : CodeT H := cSeq (cReg (R133_0 O P ro)) (cSeq (cSeq (cReg (R133_1 O P ro)) (cIf (.tmp 17) cRet cSkip)) (cSeq (cReg (R133_2 O P ro)) (cReg (R133_3 O P ro))))
theorem F133_fn (O : HI H) (ro : Nat) : Vm.Fn Tryz.prog O ro 133 (F133 O Tryz.prog ro) [] Tryz.f133 := ⟨Tryz.func133, by kernel_rfl, by kernel_rfl, by kernel_rfl, by kernel_rfl, by kernel_rfl⟩
def R134_0 : Rg H := fun O P ro => [to 4 (aMove (.const (.int .i64 0)))]
def R134_1 : Rg H := fun O P ro => [mv 6 1, to 7 (aShift .shr (.tmp 6) (.const (.int .u64 1))), mv 5 7]
def R134_2 : Rg H := fun O P ro => [mv 8 5, to 9 (aInt .lss (.tmp 8) (.const (.int .i64 0))), mv 10 9, onlyIf 10 false 11 (mv 11 5), onlyIf 10 false 12 (mv 12 0), onlyIf 10 false 13 (to 13 (aNil (.tmp 12))), onlyIf 10 false 14 (to 14 (aFld 0 (.tmp 13))), onlyIf 10 false 15 (to 15 (aLd O (.tmp 14))), onlyIf 10 false 16 (to 16 (aLenSl (.tmp 15))), onlyIf 10 false 17 (to 17 (aInt .geq (.tmp 11) (.tmp 16))), to 18 (aPick (.tmp 10) (.const (.bool true)) (.tmp 17))]
def R134_3 : Rg H := fun O P ro => [to 4 (aMove (.const (.int .i64 (-1))))]
def R134_4 : Rg H := fun O P ro => [mv 19 0, to 20 (aNil (.tmp 19)), to 21 (aFld 0 (.tmp 20)), to 22 (aLd O (.tmp 21)), mv 23 5, to 24 (aIdx 1 (.tmp 22) (.tmp 23)), to 25 (aLd O (.tmp 24)), mv 4 25]
def F134 (O : HI H) (P : Program) (ro : Nat) : CodeT H := cSeq (cReg (R134_0 O P ro)) (cSeq (cReg (R134_1 O P ro)) (cSeq (cSeq (cReg (R134_2 O P ro)) (cIf (.tmp 18) (cSeq (cReg (R134_3 O P ro)) cRet) cSkip)) (cSeq (cReg (R134_4 O P ro)) cRet)))
theorem F134_fn (O : HI H) (ro : Nat) : Vm.Fn Tryz.prog O ro 134 (F134 O Tryz.prog ro) [ResultVar.tmp 4] Tryz.f134 := ⟨Tryz.func134, by kernel_rfl, by kernel_rfl, by kernel_rfl, by kernel_rfl, by kernel_rfl⟩
def R139_0 : Rg H := fun O P ro => [to 4 (aMove (.const (.int .i64 0)))]
def R139_1 : Rg H := fun O P ro => [mv 6 0, to 7 (aCall 88 [.tmp 6]), mv 5 7]
def R139_2 : Rg H := fun O P ro => [mv 8 5, to 9 (aInt .eql (.tmp 8) (.const (.int .i64 (-1)))), mv 10 9, onlyIf 10 false 11 (mv 11 5), onlyIf 10 false 12 (mv 12 1), onlyIf 10 false 13 (to 13 (aInt .geq (.tmp 11) (.tmp 12))), to 14 (aPick (.tmp 10) (.const (.bool true)) (.tmp 13))]
def R139_3 : Rg H := fun O P ro => [mv 15 0, mv 16 0, to 17 (aNil (.tmp 16)), to 18 (aFld 1 (.tmp 17)), to 19 (aLd O (.tmp 18)), to 20 (aCall 90 [.tmp 15, .const (.int .i64 2), .tmp 19])]
def R139_4 : Rg H := fun O P ro => [to 4 (aMove (.const (.int .i64 0)))]
def R139_5 : Rg H := fun O P ro => [mv 21 0, to 22 (aNil (.tmp 21)), to 23 (aFld 1 (.tmp 22)), to 24 (aLd O (.tmp 23)), to 25 (aInt .add (.tmp 24) (.const (.int .i64 1))), to 26 (aNil (.tmp 21)), to 27 (aFld 1 (.tmp 26)), too (aSt O ro 1 (.tmp 27) (.tmp 25))]
def R139_6 : Rg H := fun O P ro => [mv 28 5, mv 4 28]
def F139 (O : HI H) (P : Program) (ro : Nat) : CodeT H := cSeq (cReg (R139_0 O P ro)) (cSeq (cReg (R139_1 O P ro)) (cSeq (cSeq (cReg (R139_2 O P ro)) (cIf (.tmp 14) (cSeq (cReg (R139_3 O P ro)) (cSeq (cReg (R139_4 O P ro)) cRet)) cSkip)) (cSeq (cReg (R139_5 O P ro)) (cSeq (cReg (R139_6 O P ro)) cRet))))
theorem F139_fn (O : HI H) (ro : Nat) : Vm.Fn Tryz.prog O ro 139 (F139 O Tryz.prog ro) [ResultVar.tmp 4] Tryz.f139 := ⟨Tryz.func139, by kernel_rfl, by kernel_rfl, by kernel_rfl, by kernel_rfl, by kernel_rfl⟩
end
end Go.Proofs.YtlakdngplpabdaaGreatDoor
