/- Own work. -/
import Derived.Test.YtlakdngplpabdaaGreatDoorC09
import Derived.Test.YtlakdngplpabdaaGreatDoorProg
import Derived.KernelRfl
namespace Go.Proofs.YtlakdngplpabdaaGreatDoor
open Go.Vm Go.Proofs
set_option linter.unusedVariables false
set_option maxRecDepth 100000
section
variable {H : Type}
def R22_0 : Rg H := fun O P ro => [to 2 (aMove (.const (.string { data := #[] })))]
def R22_1 : Rg H := fun O P ro => [mv 9 0, to 10 (aPtrNil false (.tmp 9) (.const (.pointer none)))]
def R22_2 : Rg H := fun O P ro => [to 2 (aMove (.const (.string { data := #[] })))]
def R22_3 : Rg H := fun O P ro => [mv 11 0, to 12 (aCall 61 [.tmp 11]), to 13 (aStr .add (.const (.string { data := #[97, 97, 103, 32] })) (.tmp 12)), mv 3 13]
def R22_4 : Rg H := fun O P ro => [to 4 (aMove (.const (.int .i64 0)))]
def R22_5 : Rg H := fun O P ro => [mv 14 4, mv 15 0, to 16 (aNil (.tmp 15)), to 17 (aFld 0 (.tmp 16)), to 18 (aLd O (.tmp 17)), to 19 (aInt .lss (.tmp 14) (.tmp 18))]
def R22_7 : Rg H := fun O P ro => [mv 22 3, mv 23 4, to 24 (aInt .add (.const (.int .i64 1)) (.tmp 23)), to 25 (aInt .mul (.const (.int .i64 2)) (.tmp 24)), to 26 (aMkSl O 1 1 #[.int .i64 0] [(0, .tmp 25)]), to 27 (aCall 62 [.tmp 26]), to 28 (aStr .add (.tmp 22) (.tmp 27)), mv 3 28]
def R22_6 : Rg H := fun O P ro => [mv 20 4, to 21 (aInt .add (.tmp 20) (.const (.int .i64 1))), mv 4 21]
def R22_8 : Rg H := fun O P ro => [to 5 (aMove (.const (.int .i64 0)))]
def R22_9 : Rg H := fun O P ro => [mv 29 5, mv 30 0, to 31 (aNil (.tmp 30)), to 32 (aFld 1 (.tmp 31)), to 33 (aLd O (.tmp 32)), to 34 (aLenSl (.tmp 33)), to 35 (aInt .lss (.tmp 29) (.tmp 34))]
def R22_11 : Rg H := fun O P ro => [mv 38 0, mv 39 5, to 40 (aCall 63 [.tmp 38, .tmp 39]), mv 6 40]
def R22_12 : Rg H := fun O P ro => [mv 41 3, mv 42 6, to 43 (aCall 64 [.tmp 42]), to 44 (aStr .add (.tmp 41) (.tmp 43)), mv 3 44]
def R22_13 : Rg H := fun O P ro => [mv 45 3, mv 46 0, to 47 (aNil (.tmp 46)), to 48 (aFld 1 (.tmp 47)), to 49 (aLd O (.tmp 48)), mv 50 5, to 51 (aIdx 2 (.tmp 49) (.tmp 50)), to 52 (aLdN O 2 (.tmp 51)), mv 53 6, to 54 (aCall 65 [.tmp 52, .tmp 53]), to 55 (aStr .add (.const (.string { data := #[32] })) (.tmp 54)), to 56 (aStr .add (.tmp 45) (.tmp 55)), mv 3 56]
def R22_10 : Rg H := fun O P ro => [mv 36 5, to 37 (aInt .add (.tmp 36) (.const (.int .i64 1))), mv 5 37]
def R22_14 : Rg H := fun O P ro => [mv 57 3, mv 58 0, to 59 (aNil (.tmp 58)), to 60 (aFld 3 (.tmp 59)), to 61 (aLd O (.tmp 60)), to 62 (aMkSl O 1 1 #[.int .i64 0] [(0, .tmp 61)]), to 63 (aCall 62 [.tmp 62]), to 64 (aStr .add (.tmp 57) (.tmp 63)), mv 3 64]
def R22_15 : Rg H := fun O P ro => [to 7 (aMove (.const (.int .i64 0)))]
def R22_16 : Rg H := fun O P ro => [mv 65 7, mv 66 0, to 67 (aNil (.tmp 66)), to 68 (aFld 2 (.tmp 67)), to 69 (aLd O (.tmp 68)), to 70 (aLenSl (.tmp 69)), to 71 (aInt .lss (.tmp 65) (.tmp 70))]
def R22_18 : Rg H := fun O P ro => [mv 74 0, mv 75 7, to 76 (aCall 66 [.tmp 74, .tmp 75]), mv 8 76]
def R22_19 : Rg H := fun O P ro => [mv 77 3, mv 78 8, mv 79 0, to 80 (aNil (.tmp 79)), to 81 (aFld 2 (.tmp 80)), to 82 (aLd O (.tmp 81)), mv 83 7, to 84 (aIdx 2 (.tmp 82) (.tmp 83)), to 85 (aFld 0 (.tmp 84)), to 86 (aLd O (.tmp 85)), mv 87 0, to 88 (aNil (.tmp 87)), to 89 (aFld 2 (.tmp 88)), to 90 (aLd O (.tmp 89)), mv 91 7, to 92 (aIdx 2 (.tmp 90) (.tmp 91)), to 93 (aFld 1 (.tmp 92)), to 94 (aLd O (.tmp 93)), to 95 (aMkSl O 1 3 #[.int .i64 0] [(0, .tmp 78), (1, .tmp 86), (2, .tmp 94)]), to 96 (aCall 62 [.tmp 95]), to 97 (aStr .add (.tmp 77) (.tmp 96)), mv 3 97]
def R22_17 : Rg H := fun O P ro => [mv 72 7, to 73 (aInt .add (.tmp 72) (.const (.int .i64 1))), mv 7 73]
def R22_20 : Rg H := fun O P ro => [mv 98 3, mv 2 98]
def W22_0 (O : HI H) (P : Program) (ro : Nat) : CodeT H := cSeq (cSeq (cReg (R22_5 O P ro)) (cIf (.tmp 19) cSkip (cExit 0))) (cSeq (cBlk 1 (cReg (R22_7 O P ro))) (cReg (R22_6 O P ro)))
def W22_1 (O : HI H) (P : Program) (ro : Nat) : CodeT H := cSeq (cSeq (cReg (R22_9 O P ro)) (cIf (.tmp 35) cSkip (cExit 2))) (cSeq (cBlk 3 (cSeq (cReg (R22_11 O P ro)) (cSeq (cReg (R22_12 O P ro)) (cReg (R22_13 O P ro))))) (cReg (R22_10 O P ro)))
def W22_2 (O : HI H) (P : Program) (ro : Nat) : CodeT H := cSeq (cSeq (cReg (R22_16 O P ro)) (cIf (.tmp 71) cSkip (cExit 4))) (cSeq (cBlk 5 (cSeq (cReg (R22_18 O P ro)) (cReg (R22_19 O P ro)))) (cReg (R22_17 O P ro)))
def F22 (O : HI H) (P : Program) (ro : Nat) : CodeT H := cSeq (cReg (R22_0 O P ro)) (cSeq (cSeq (cReg (R22_1 O P ro)) (cIf (.tmp 10) (cSeq (cReg (R22_2 O P ro)) cRet) cSkip)) (cSeq (cReg (R22_3 O P ro)) (cSeq (cSeq (cReg (R22_4 O P ro)) (cBlk 0 (cLoop (W22_0 O P ro)))) (cSeq (cSeq (cReg (R22_8 O P ro)) (cBlk 2 (cLoop (W22_1 O P ro)))) (cSeq (cReg (R22_14 O P ro)) (cSeq (cSeq (cReg (R22_15 O P ro)) (cBlk 4 (cLoop (W22_2 O P ro)))) (cSeq (cReg (R22_20 O P ro)) cRet)))))))
theorem F22_fn (O : HI H) (ro : Nat) : Vm.Fn Tryz.prog O ro 22 (F22 O Tryz.prog ro) [ResultVar.tmp 2] Tryz.f22 := ⟨Tryz.func22, by kernel_rfl, by kernel_rfl, by kernel_rfl, by kernel_rfl, by kernel_rfl⟩
def R23_0 : Rg H := fun O P ro => [to 2 (aMove (.const (.string { data := #[] })))]
def R23_1 : Rg H := fun O P ro => [mv 9 0, to 10 (aNil (.tmp 9)), to 11 (aFld 4 (.tmp 10)), to 12 (aLd O (.tmp 11)), to 13 (aLenSl (.tmp 12)), to 14 (aInt .quo (.tmp 13) (.const (.int .i64 2))), mv 3 14]
def R23_2 : Rg H := fun O P ro => [mv 15 0, to 16 (aNil (.tmp 15)), to 17 (aFld 0 (.tmp 16)), to 18 (aLd O (.tmp 17)), mv 19 0, to 20 (aNil (.tmp 19)), to 21 (aFld 1 (.tmp 20)), to 22 (aLd O (.tmp 21)), to 23 (aInt .add (.tmp 18) (.tmp 22)), mv 24 3, to 25 (aInt .add (.tmp 23) (.tmp 24)), mv 26 0, to 27 (aNil (.tmp 26)), to 28 (aFld 0 (.tmp 27)), to 29 (aLd O (.tmp 28)), mv 30 0, to 31 (aNil (.tmp 30)), to 32 (aFld 1 (.tmp 31)), to 33 (aLd O (.tmp 32)), mv 34 3, to 35 (aMkSl O 1 6 #[.int .i64 0] [(0, .tmp 25), (1, .tmp 29), (2, .tmp 33), (3, .const (.int .i64 0)), (4, .tmp 34), (5, .const (.int .i64 1))]), to 36 (aCall 67 [.tmp 35]), to 37 (aStr .add (.const (.string { data := #[97, 97, 103, 32] })) (.tmp 36)), mv 4 37]
def R23_3 : Rg H := fun O P ro => [to 5 (aMove (.const (.int .i64 0)))]
def R23_4 : Rg H := fun O P ro => [mv 38 5, mv 39 0, to 40 (aNil (.tmp 39)), to 41 (aFld 0 (.tmp 40)), to 42 (aLd O (.tmp 41)), to 43 (aInt .lss (.tmp 38) (.tmp 42))]
def R23_6 : Rg H := fun O P ro => [mv 46 4, mv 47 5, to 48 (aInt .add (.const (.int .i64 1)) (.tmp 47)), to 49 (aInt .mul (.const (.int .i64 2)) (.tmp 48)), to 50 (aMkSl O 1 1 #[.int .i64 0] [(0, .tmp 49)]), to 51 (aCall 67 [.tmp 50]), to 52 (aStr .add (.tmp 46) (.tmp 51)), mv 4 52]
def R23_5 : Rg H := fun O P ro => [mv 44 5, to 45 (aInt .add (.tmp 44) (.const (.int .i64 1))), mv 5 45]
def R23_7 : Rg H := fun O P ro => [to 6 (aMove (.const (.int .i64 0)))]
def R23_8 : Rg H := fun O P ro => [mv 53 6, mv 54 0, to 55 (aNil (.tmp 54)), to 56 (aFld 1 (.tmp 55)), to 57 (aLd O (.tmp 56)), to 58 (aInt .lss (.tmp 53) (.tmp 57))]
def R23_10 : Rg H := fun O P ro => [mv 61 0, mv 62 6, mv 63 0, to 64 (aNil (.tmp 63)), to 65 (aFld 0 (.tmp 64)), to 66 (aLd O (.tmp 65)), to 67 (aInt .add (.const (.int .i64 1)) (.tmp 66)), mv 68 6, to 69 (aInt .add (.tmp 67) (.tmp 68)), to 70 (aInt .mul (.const (.int .i64 2)) (.tmp 69)), mv 71 0, to 72 (aNil (.tmp 71)), to 73 (aFld 2 (.tmp 72)), to 74 (aLd O (.tmp 73)), mv 75 6, to 76 (aIdx 1 (.tmp 74) (.tmp 75)), to 77 (aLd O (.tmp 76)), to 78 (aMkSl O 1 2 #[.int .i64 0] [(0, .tmp 70), (1, .tmp 77)]), to 79 (aCall 68 [.tmp 61, .tmp 62, .tmp 78]), mv 7 79]
def R23_11 : Rg H := fun O P ro => [mv 80 4, mv 81 7, to 82 (aCall 67 [.tmp 81]), to 83 (aStr .add (.tmp 80) (.tmp 82)), mv 4 83]
def R23_9 : Rg H := fun O P ro => [mv 59 6, to 60 (aInt .add (.tmp 59) (.const (.int .i64 1))), mv 6 60]
def R23_12 : Rg H := fun O P ro => [mv 84 4, mv 85 0, to 86 (aNil (.tmp 85)), to 87 (aFld 5 (.tmp 86)), to 88 (aLd O (.tmp 87)), to 89 (aMkSl O 1 1 #[.int .i64 0] [(0, .tmp 88)]), to 90 (aCall 67 [.tmp 89]), to 91 (aStr .add (.tmp 84) (.tmp 90)), mv 4 91]
def R23_13 : Rg H := fun O P ro => [to 8 (aMove (.const (.int .i64 0)))]
def R23_14 : Rg H := fun O P ro => [mv 92 8, mv 93 3, to 94 (aInt .lss (.tmp 92) (.tmp 93))]
def R23_16 : Rg H := fun O P ro => [mv 97 4, mv 98 0, to 99 (aNil (.tmp 98)), to 100 (aFld 0 (.tmp 99)), to 101 (aLd O (.tmp 100)), to 102 (aInt .add (.const (.int .i64 1)) (.tmp 101)), mv 103 0, to 104 (aNil (.tmp 103)), to 105 (aFld 1 (.tmp 104)), to 106 (aLd O (.tmp 105)), to 107 (aInt .add (.tmp 102) (.tmp 106)), mv 108 8, to 109 (aInt .add (.tmp 107) (.tmp 108)), to 110 (aInt .mul (.const (.int .i64 2)) (.tmp 109)), mv 111 0, to 112 (aNil (.tmp 111)), to 113 (aFld 4 (.tmp 112)), to 114 (aLd O (.tmp 113)), mv 115 8, to 116 (aInt .mul (.const (.int .i64 2)) (.tmp 115)), to 117 (aIdx 1 (.tmp 114) (.tmp 116)), to 118 (aLd O (.tmp 117)), mv 119 0, to 120 (aNil (.tmp 119)), to 121 (aFld 4 (.tmp 120)), to 122 (aLd O (.tmp 121)), mv 123 8, to 124 (aInt .mul (.const (.int .i64 2)) (.tmp 123)), to 125 (aInt .add (.tmp 124) (.const (.int .i64 1))), to 126 (aIdx 1 (.tmp 122) (.tmp 125)), to 127 (aLd O (.tmp 126)), to 128 (aMkSl O 1 3 #[.int .i64 0] [(0, .tmp 110), (1, .tmp 118), (2, .tmp 127)]), to 129 (aCall 67 [.tmp 128]), to 130 (aStr .add (.tmp 97) (.tmp 129)), mv 4 130]
def R23_15 : Rg H := fun O P ro => [mv 95 8, to 96 (aInt .add (.tmp 95) (.const (.int .i64 1))), mv 8 96]
def R23_17 : Rg H := fun O P ro => [mv 131 4, mv 2 131]
def W23_0 (O : HI H) (P : Program) (ro : Nat) : CodeT H := cSeq (cSeq (cReg (R23_4 O P ro)) (cIf (.tmp 43) cSkip (cExit 0))) (cSeq (cBlk 1 (cReg (R23_6 O P ro))) (cReg (R23_5 O P ro)))
def W23_1 (O : HI H) (P : Program) (ro : Nat) : CodeT H := cSeq (cSeq (cReg (R23_8 O P ro)) (cIf (.tmp 58) cSkip (cExit 2))) (cSeq (cBlk 3 (cSeq (cReg (R23_10 O P ro)) (cReg (R23_11 O P ro)))) (cReg (R23_9 O P ro)))
def W23_2 (O : HI H) (P : Program) (ro : Nat) : CodeT H := cSeq (cSeq (cReg (R23_14 O P ro)) (cIf (.tmp 94) cSkip (cExit 4))) (cSeq (cBlk 5 (cReg (R23_16 O P ro))) (cReg (R23_15 O P ro)))
def F23 (O : HI H) (P : Program) (ro : Nat) : CodeT H := cSeq (cReg (R23_0 O P ro)) (cSeq (cReg (R23_1 O P ro)) (cSeq (cReg (R23_2 O P ro)) (cSeq (cSeq (cReg (R23_3 O P ro)) (cBlk 0 (cLoop (W23_0 O P ro)))) (cSeq (cSeq (cReg (R23_7 O P ro)) (cBlk 2 (cLoop (W23_1 O P ro)))) (cSeq (cReg (R23_12 O P ro)) (cSeq (cSeq (cReg (R23_13 O P ro)) (cBlk 4 (cLoop (W23_2 O P ro)))) (cSeq (cReg (R23_17 O P ro)) cRet)))))))
theorem F23_fn (O : HI H) (ro : Nat) : Vm.Fn Tryz.prog O ro 23 (F23 O Tryz.prog ro) [ResultVar.tmp 2] Tryz.f23 := ⟨Tryz.func23, by kernel_rfl, by kernel_rfl, by kernel_rfl, by kernel_rfl, by kernel_rfl⟩
def R24_0 : Rg H := fun O P ro => [to 2 (aMove (.const (.string { data := #[] })))]
def R24_1 : Rg H := fun O P ro => [mv 9 0, to 10 (aPtrNil false (.tmp 9) (.const (.pointer none)))]
def R24_2 : Rg H := fun O P ro => [to 2 (aMove (.const (.string { data := #[] })))]
def R24_3 : Rg H := fun O P ro => [mv 11 0, to 12 (aCall 61 [.tmp 11]), to 13 (aStr .add (.const (.string { data := #[97, 105, 103, 32] })) (.tmp 12)), mv 3 13]
def R24_4 : Rg H := fun O P ro => [to 4 (aMove (.const (.int .i64 0)))]
def R24_5 : Rg H := fun O P ro => [mv 14 4, mv 15 0, to 16 (aNil (.tmp 15)), to 17 (aFld 1 (.tmp 16)), to 18 (aLd O (.tmp 17)), to 19 (aLenSl (.tmp 18)), to 20 (aInt .lss (.tmp 14) (.tmp 19))]
def R24_7 : Rg H := fun O P ro => [mv 23 0, mv 24 4, to 25 (aCall 63 [.tmp 23, .tmp 24]), mv 5 25]
def R24_8 : Rg H := fun O P ro => [mv 26 3, mv 27 0, to 28 (aNil (.tmp 27)), to 29 (aFld 1 (.tmp 28)), to 30 (aLd O (.tmp 29)), mv 31 4, to 32 (aIdx 2 (.tmp 30) (.tmp 31)), to 33 (aLdN O 2 (.tmp 32)), mv 34 5, to 35 (aCall 65 [.tmp 33, .tmp 34]), to 36 (aStr .add (.tmp 26) (.tmp 35)), mv 3 36]
def R24_6 : Rg H := fun O P ro => [mv 21 4, to 22 (aInt .add (.tmp 21) (.const (.int .i64 1))), mv 4 22]
def R24_9 : Rg H := fun O P ro => [mv 37 3, mv 38 0, to 39 (aNil (.tmp 38)), to 40 (aFld 3 (.tmp 39)), to 41 (aLd O (.tmp 40)), to 42 (aMkSl O 1 1 #[.int .i64 0] [(0, .tmp 41)]), to 43 (aCall 62 [.tmp 42]), to 44 (aStr .add (.tmp 37) (.tmp 43)), mv 3 44]
def R24_10 : Rg H := fun O P ro => [to 6 (aMove (.const (.int .i64 0)))]
def R24_11 : Rg H := fun O P ro => [mv 45 6, mv 46 0, to 47 (aNil (.tmp 46)), to 48 (aFld 2 (.tmp 47)), to 49 (aLd O (.tmp 48)), to 50 (aLenSl (.tmp 49)), to 51 (aInt .lss (.tmp 45) (.tmp 50))]
def R24_13 : Rg H := fun O P ro => [mv 54 0, mv 55 6, to 56 (aCall 66 [.tmp 54, .tmp 55]), mv 7 56]
def R24_14 : Rg H := fun O P ro => [mv 57 0, to 58 (aNil (.tmp 57)), to 59 (aFld 2 (.tmp 58)), to 60 (aLd O (.tmp 59)), mv 61 6, to 62 (aIdx 2 (.tmp 60) (.tmp 61)), to 63 (aLdN O 2 (.tmp 62)), to 8 (aNew O [.int .i64 0, .int .i64 0]), too (aSt O ro 2 (.tmp 8) (.tmp 63))]
def R24_15 : Rg H := fun O P ro => [mv 64 3, mv 65 7, to 66 (aFld 0 (.tmp 8)), to 67 (aLd O (.tmp 66)), to 68 (aInt .sub (.tmp 65) (.tmp 67)), to 69 (aCall 69 [.tmp 68]), to 70 (aStr .add (.tmp 64) (.tmp 69)), mv 3 70]
def R24_16 : Rg H := fun O P ro => [mv 71 3, to 72 (aFld 0 (.tmp 8)), to 73 (aLd O (.tmp 72)), to 74 (aFld 1 (.tmp 8)), to 75 (aLd O (.tmp 74)), to 76 (aInt .sub (.tmp 73) (.tmp 75)), to 77 (aCall 69 [.tmp 76]), to 78 (aStr .add (.tmp 71) (.tmp 77)), mv 3 78]
def R24_12 : Rg H := fun O P ro => [mv 52 6, to 53 (aInt .add (.tmp 52) (.const (.int .i64 1))), mv 6 53]
def R24_17 : Rg H := fun O P ro => [mv 79 3, mv 2 79]
def W24_0 (O : HI H) (P : Program) (ro : Nat) : CodeT H := cSeq (cSeq (cReg (R24_5 O P ro)) (cIf (.tmp 20) cSkip (cExit 0))) (cSeq (cBlk 1 (cSeq (cReg (R24_7 O P ro)) (cReg (R24_8 O P ro)))) (cReg (R24_6 O P ro)))
def W24_1 (O : HI H) (P : Program) (ro : Nat) : CodeT H := cSeq (cSeq (cReg (R24_11 O P ro)) (cIf (.tmp 51) cSkip (cExit 2))) (cSeq (cBlk 3 (cSeq (cReg (R24_13 O P ro)) (cSeq (cReg (R24_14 O P ro)) (cSeq (cReg (R24_15 O P ro)) (cReg (R24_16 O P ro)))))) (cReg (R24_12 O P ro)))
def F24 (O : HI H) (P : Program) (ro : Nat) : CodeT H := cSeq (cReg (R24_0 O P ro)) (cSeq (cSeq (cReg (R24_1 O P ro)) (cIf (.tmp 10) (cSeq (cReg (R24_2 O P ro)) cRet) cSkip)) (cSeq (cReg (R24_3 O P ro)) (cSeq (cSeq (cReg (R24_4 O P ro)) (cBlk 0 (cLoop (W24_0 O P ro)))) (cSeq (cReg (R24_9 O P ro)) (cSeq (cSeq (cReg (R24_10 O P ro)) (cBlk 2 (cLoop (W24_1 O P ro)))) (cSeq (cReg (R24_17 O P ro)) cRet))))))
theorem F24_fn (O : HI H) (ro : Nat) : Vm.Fn Tryz.prog O ro 24 (F24 O Tryz.prog ro) [ResultVar.tmp 2] Tryz.f24 := ⟨Tryz.func24, by kernel_rfl, by kernel_rfl, by kernel_rfl, by kernel_rfl, by kernel_rfl⟩
def R25_0 : Rg H := fun O P ro => [to 2 (aMove (.const (.string { data := #[] })))]
def R25_1 : Rg H := fun O P ro => [mv 12 0, to 13 (aNil (.tmp 12)), to 14 (aFld 4 (.tmp 13)), to 15 (aLd O (.tmp 14)), to 16 (aLenSl (.tmp 15)), to 17 (aInt .quo (.tmp 16) (.const (.int .i64 2))), mv 3 17]
def R25_2 : Rg H := fun O P ro => [mv 18 0, to 19 (aNil (.tmp 18)), to 20 (aFld 0 (.tmp 19)), to 21 (aLd O (.tmp 20)), mv 22 0, to 23 (aNil (.tmp 22)), to 24 (aFld 1 (.tmp 23)), to 25 (aLd O (.tmp 24)), to 26 (aInt .add (.tmp 21) (.tmp 25)), mv 27 3, to 28 (aInt .add (.tmp 26) (.tmp 27)), mv 29 0, to 30 (aNil (.tmp 29)), to 31 (aFld 0 (.tmp 30)), to 32 (aLd O (.tmp 31)), mv 33 0, to 34 (aNil (.tmp 33)), to 35 (aFld 1 (.tmp 34)), to 36 (aLd O (.tmp 35)), mv 37 3, to 38 (aMkSl O 1 6 #[.int .i64 0] [(0, .tmp 28), (1, .tmp 32), (2, .tmp 36), (3, .const (.int .i64 0)), (4, .tmp 37), (5, .const (.int .i64 1))]), to 39 (aCall 67 [.tmp 38]), to 40 (aStr .add (.const (.string { data := #[97, 105, 103, 32] })) (.tmp 39)), mv 4 40]
def R25_3 : Rg H := fun O P ro => [to 5 (aMove (.const (.int .i64 0)))]
def R25_4 : Rg H := fun O P ro => [mv 41 5, mv 42 0, to 43 (aNil (.tmp 42)), to 44 (aFld 1 (.tmp 43)), to 45 (aLd O (.tmp 44)), to 46 (aInt .lss (.tmp 41) (.tmp 45))]
def R25_6 : Rg H := fun O P ro => [mv 49 0, mv 50 5, mv 51 0, to 52 (aNil (.tmp 51)), to 53 (aFld 2 (.tmp 52)), to 54 (aLd O (.tmp 53)), mv 55 5, to 56 (aIdx 1 (.tmp 54) (.tmp 55)), to 57 (aLd O (.tmp 56)), to 58 (aMkSl O 1 1 #[.int .i64 0] [(0, .tmp 57)]), to 59 (aCall 68 [.tmp 49, .tmp 50, .tmp 58]), mv 6 59]
def R25_7 : Rg H := fun O P ro => [mv 60 4, mv 61 6, to 62 (aCall 67 [.tmp 61]), to 63 (aStr .add (.tmp 60) (.tmp 62)), mv 4 63]
def R25_5 : Rg H := fun O P ro => [mv 47 5, to 48 (aInt .add (.tmp 47) (.const (.int .i64 1))), mv 5 48]
def R25_8 : Rg H := fun O P ro => [mv 64 4, mv 65 0, to 66 (aNil (.tmp 65)), to 67 (aFld 5 (.tmp 66)), to 68 (aLd O (.tmp 67)), to 69 (aMkSl O 1 1 #[.int .i64 0] [(0, .tmp 68)]), to 70 (aCall 67 [.tmp 69]), to 71 (aStr .add (.tmp 64) (.tmp 70)), mv 4 71]
def R25_9 : Rg H := fun O P ro => [to 7 (aMove (.const (.int .i64 0)))]
def R25_10 : Rg H := fun O P ro => [mv 72 7, mv 73 3, to 74 (aInt .lss (.tmp 72) (.tmp 73))]
def R25_12 : Rg H := fun O P ro => [mv 77 0, to 78 (aNil (.tmp 77)), to 79 (aFld 0 (.tmp 78)), to 80 (aLd O (.tmp 79)), to 81 (aInt .add (.const (.int .i64 1)) (.tmp 80)), mv 82 0, to 83 (aNil (.tmp 82)), to 84 (aFld 1 (.tmp 83)), to 85 (aLd O (.tmp 84)), to 86 (aInt .add (.tmp 81) (.tmp 85)), mv 87 7, to 88 (aInt .add (.tmp 86) (.tmp 87)), to 89 (aInt .mul (.const (.int .i64 2)) (.tmp 88)), mv 90 0, to 91 (aNil (.tmp 90)), to 92 (aFld 4 (.tmp 91)), to 93 (aLd O (.tmp 92)), mv 94 7, to 95 (aInt .mul (.const (.int .i64 2)) (.tmp 94)), to 96 (aIdx 1 (.tmp 93) (.tmp 95)), to 97 (aLd O (.tmp 96)), to 98 (aInt .sub (.tmp 89) (.tmp 97)), mv 8 98]
def R25_13 : Rg H := fun O P ro => [mv 99 0, to 100 (aNil (.tmp 99)), to 101 (aFld 4 (.tmp 100)), to 102 (aLd O (.tmp 101)), mv 103 7, to 104 (aInt .mul (.const (.int .i64 2)) (.tmp 103)), to 105 (aIdx 1 (.tmp 102) (.tmp 104)), to 106 (aLd O (.tmp 105)), mv 107 0, to 108 (aNil (.tmp 107)), to 109 (aFld 4 (.tmp 108)), to 110 (aLd O (.tmp 109)), mv 111 7, to 112 (aInt .mul (.const (.int .i64 2)) (.tmp 111)), to 113 (aInt .add (.tmp 112) (.const (.int .i64 1))), to 114 (aIdx 1 (.tmp 110) (.tmp 113)), to 115 (aLd O (.tmp 114)), to 116 (aInt .sub (.tmp 106) (.tmp 115)), mv 9 116]
def R25_14 : Rg H := fun O P ro => [mv 117 8, to 118 (aCall 70 [.tmp 117]), mv 10 118]
def R25_15 : Rg H := fun O P ro => [mv 119 9, to 120 (aCall 70 [.tmp 119]), mv 11 120]
def R25_16 : Rg H := fun O P ro => [mv 121 4, mv 122 10, to 123 (aStr .add (.tmp 121) (.tmp 122)), mv 124 11, to 125 (aStr .add (.tmp 123) (.tmp 124)), mv 4 125]
def R25_11 : Rg H := fun O P ro => [mv 75 7, to 76 (aInt .add (.tmp 75) (.const (.int .i64 1))), mv 7 76]
def R25_17 : Rg H := fun O P ro => [mv 126 4, mv 2 126]
def W25_0 (O : HI H) (P : Program) (ro : Nat) : CodeT H := cSeq (cSeq (cReg (R25_4 O P ro)) (cIf (.tmp 46) cSkip (cExit 0))) (cSeq (cBlk 1 (cSeq (cReg (R25_6 O P ro)) (cReg (R25_7 O P ro)))) (cReg (R25_5 O P ro)))
def W25_1 (O : HI H) (P : Program) (ro : Nat) : CodeT H := cSeq (cSeq (cReg (R25_10 O P ro)) (cIf (.tmp 74) cSkip (cExit 2))) (cSeq (cBlk 3 (cSeq (cReg (R25_12 O P ro)) (cSeq (cReg (R25_13 O P ro)) (cSeq (cReg (R25_14 O P ro)) (cSeq (cReg (R25_15 O P ro)) (cReg (R25_16 O P ro))))))) (cReg (R25_11 O P ro)))
def F25 (O : HI H) (P : Program) (ro : Nat) : CodeT H := cSeq (cReg (R25_0 O P ro)) (cSeq (cReg (R25_1 O P ro)) (cSeq (cReg (R25_2 O P ro)) (cSeq (cSeq (cReg (R25_3 O P ro)) (cBlk 0 (cLoop (W25_0 O P ro)))) (cSeq (cReg (R25_8 O P ro)) (cSeq (cSeq (cReg (R25_9 O P ro)) (cBlk 2 (cLoop (W25_1 O P ro)))) (cSeq (cReg (R25_17 O P ro)) cRet))))))
theorem F25_fn (O : HI H) (ro : Nat) : Vm.Fn Tryz.prog O ro 25 (F25 O Tryz.prog ro) [ResultVar.tmp 2] Tryz.f25 := ⟨Tryz.func25, by kernel_rfl, by kernel_rfl, by kernel_rfl, by kernel_rfl, by kernel_rfl⟩
def R26_0 : Rg H := fun O P ro => [to 2 (aMove (.const (.int .i64 0)))]
def R26_1 : Rg H := fun O P ro => [mv 3 0, to 4 (aPtrNil false (.tmp 3) (.const (.pointer none)))]
def R26_2 : Rg H := fun O P ro => [to 2 (aMove (.const (.int .i64 0)))]
def R26_3 : Rg H := fun O P ro => [mv 5 0, to 6 (aNil (.tmp 5)), to 7 (aFld 0 (.tmp 6)), to 8 (aLd O (.tmp 7)), mv 2 8]
def F26 (O : HI H) (P : Program) (ro : Nat) : CodeT H := cSeq (cReg (R26_0 O P ro)) (cSeq (cSeq (cReg (R26_1 O P ro)) (cIf (.tmp 4) (cSeq (cReg (R26_2 O P ro)) cRet) cSkip)) (cSeq (cReg (R26_3 O P ro)) cRet))
theorem F26_fn (O : HI H) (ro : Nat) : Vm.Fn Tryz.prog O ro 26 (F26 O Tryz.prog ro) [ResultVar.tmp 2] Tryz.f26 := ⟨Tryz.func26, by kernel_rfl, by kernel_rfl, by kernel_rfl, by kernel_rfl, by kernel_rfl⟩
def R27_0 : Rg H := fun O P ro => [to 2 (aMove (.const (.int .i64 0)))]
def R27_1 : Rg H := fun O P ro => [mv 3 0, to 4 (aPtrNil false (.tmp 3) (.const (.pointer none)))]
def R27_2 : Rg H := fun O P ro => [to 2 (aMove (.const (.int .i64 0)))]
def R27_3 : Rg H := fun O P ro => [mv 5 0, to 6 (aNil (.tmp 5)), to 7 (aFld 1 (.tmp 6)), to 8 (aLd O (.tmp 7)), to 9 (aLenSl (.tmp 8)), mv 2 9]
def F27 (O : HI H) (P : Program) (ro : Nat) : CodeT H := cSeq (cReg (R27_0 O P ro)) (cSeq (cSeq (cReg (R27_1 O P ro)) (cIf (.tmp 4) (cSeq (cReg (R27_2 O P ro)) cRet) cSkip)) (cSeq (cReg (R27_3 O P ro)) cRet))
theorem F27_fn (O : HI H) (ro : Nat) : Vm.Fn Tryz.prog O ro 27 (F27 O Tryz.prog ro) [ResultVar.tmp 2] Tryz.f27 := ⟨Tryz.func27, by kernel_rfl, by kernel_rfl, by kernel_rfl, by kernel_rfl, by kernel_rfl⟩
def R28_0 : Rg H := fun O P ro => [to 2 (aMove (.const (.int .i64 0)))]
def R28_1 : Rg H := fun O P ro => [mv 3 0, to 4 (aPtrNil false (.tmp 3) (.const (.pointer none)))]
def R28_2 : Rg H := fun O P ro => [to 2 (aMove (.const (.int .i64 0)))]
def R28_3 : Rg H := fun O P ro => [mv 5 0, to 6 (aNil (.tmp 5)), to 7 (aFld 2 (.tmp 6)), to 8 (aLd O (.tmp 7)), to 9 (aLenSl (.tmp 8)), mv 2 9]
def F28 (O : HI H) (P : Program) (ro : Nat) : CodeT H := cSeq (cReg (R28_0 O P ro)) (cSeq (cSeq (cReg (R28_1 O P ro)) (cIf (.tmp 4) (cSeq (cReg (R28_2 O P ro)) cRet) cSkip)) (cSeq (cReg (R28_3 O P ro)) cRet))
theorem F28_fn (O : HI H) (ro : Nat) : Vm.Fn Tryz.prog O ro 28 (F28 O Tryz.prog ro) [ResultVar.tmp 2] Tryz.f28 := ⟨Tryz.func28, by kernel_rfl, by kernel_rfl, by kernel_rfl, by kernel_rfl, by kernel_rfl⟩
def R29_0 : Rg H := fun O P ro => [to 2 (aMove (.const (.int .i64 0)))]
def R29_1 : Rg H := fun O P ro => [mv 3 0, to 4 (aPtrNil false (.tmp 3) (.const (.pointer none)))]
def R29_2 : Rg H := fun O P ro => [to 2 (aMove (.const (.int .i64 0)))]
def R29_3 : Rg H := fun O P ro => [mv 5 0, to 6 (aNil (.tmp 5)), to 7 (aFld 0 (.tmp 6)), to 8 (aLd O (.tmp 7)), to 9 (aInt .add (.const (.int .i64 1)) (.tmp 8)), mv 10 0, to 11 (aNil (.tmp 10)), to 12 (aFld 1 (.tmp 11)), to 13 (aLd O (.tmp 12)), to 14 (aLenSl (.tmp 13)), to 15 (aInt .add (.tmp 9) (.tmp 14)), mv 16 0, to 17 (aNil (.tmp 16)), to 18 (aFld 2 (.tmp 17)), to 19 (aLd O (.tmp 18)), to 20 (aLenSl (.tmp 19)), to 21 (aInt .add (.tmp 15) (.tmp 20)), mv 2 21]
def F29 (O : HI H) (P : Program) (ro : Nat) : CodeT H := cSeq (cReg (R29_0 O P ro)) (cSeq (cSeq (cReg (R29_1 O P ro)) (cIf (.tmp 4) (cSeq (cReg (R29_2 O P ro)) cRet) cSkip)) (cSeq (cReg (R29_3 O P ro)) cRet))
theorem F29_fn (O : HI H) (ro : Nat) : Vm.Fn Tryz.prog O ro 29 (F29 O Tryz.prog ro) [ResultVar.tmp 2] Tryz.f29 := ⟨Tryz.func29, by kernel_rfl, by kernel_rfl, by kernel_rfl, by kernel_rfl, by kernel_rfl⟩
def R30_0 : Rg H := fun O P ro => [to 4 (aMove (.const (.bool false)))]
def R30_1 : Rg H := fun O P ro => [mv 7 0, to 8 (aPtrNil false (.tmp 7) (.const (.pointer none)))]
def R30_2 : Rg H := fun O P ro => [to 4 (aMove (.const (.bool false)))]
def R30_3 : Rg H := fun O P ro => [to 5 (aMove (.const (.int .i64 0)))]
def R30_4 : Rg H := fun O P ro => [mv 9 5, mv 10 0, to 11 (aNil (.tmp 10)), to 12 (aFld 1 (.tmp 11)), to 13 (aLd O (.tmp 12)), to 14 (aLenSl (.tmp 13)), to 15 (aInt .lss (.tmp 9) (.tmp 14))]
def R30_6 : Rg H := fun O P ro => [mv 18 0, to 19 (aNil (.tmp 18)), to 20 (aFld 1 (.tmp 19)), to 21 (aLd O (.tmp 20)), mv 22 5, to 23 (aIdx 2 (.tmp 21) (.tmp 22)), to 24 (aFld 1 (.tmp 23)), to 25 (aLd O (.tmp 24)), mv 6 25]
def R30_7 : Rg H := fun O P ro => [mv 26 6, to 27 (aInt .neq (.tmp 26) (.const (.int .i64 2))), mv 28 27, onlyIf 28 true 29 (mv 29 6), onlyIf 28 true 30 (mv 30 1), onlyIf 28 true 31 (mv 31 5), onlyIf 28 true 32 (to 32 (aShift .shr (.tmp 30) (.tmp 31))), onlyIf 28 true 33 (to 33 (aInt .and (.tmp 32) (.const (.int .i64 1)))), onlyIf 28 true 34 (to 34 (aInt .neq (.tmp 29) (.tmp 33))), to 35 (aPick (.tmp 28) (.tmp 34) (.const (.bool false)))]
def R30_8 : Rg H := fun O P ro => [to 4 (aMove (.const (.bool false)))]
def R30_5 : Rg H := fun O P ro => [mv 16 5, to 17 (aInt .add (.tmp 16) (.const (.int .i64 1))), mv 5 17]
def R30_9 : Rg H := fun O P ro => [to 4 (aMove (.const (.bool true)))]
def W30_0 (O : HI H) (P : Program) (ro : Nat) : CodeT H := cSeq (cSeq (cReg (R30_4 O P ro)) (cIf (.tmp 15) cSkip (cExit 0))) (cSeq (cBlk 1 (cSeq (cReg (R30_6 O P ro)) (cSeq (cReg (R30_7 O P ro)) (cIf (.tmp 35) (cSeq (cReg (R30_8 O P ro)) cRet) cSkip)))) (cReg (R30_5 O P ro)))
def F30 (O : HI H) (P : Program) (ro : Nat) : CodeT H := cSeq (cReg (R30_0 O P ro)) (cSeq (cSeq (cReg (R30_1 O P ro)) (cIf (.tmp 8) (cSeq (cReg (R30_2 O P ro)) cRet) cSkip)) (cSeq (cSeq (cReg (R30_3 O P ro)) (cBlk 0 (cLoop (W30_0 O P ro)))) (cSeq (cReg (R30_9 O P ro)) cRet)))
theorem F30_fn (O : HI H) (ro : Nat) : Vm.Fn Tryz.prog O ro 30 (F30 O Tryz.prog ro) [ResultVar.tmp 4] Tryz.f30 := ⟨Tryz.func30, by kernel_rfl, by kernel_rfl, by kernel_rfl, by kernel_rfl, by kernel_rfl⟩
def R31_0 : Rg H := fun O P ro => [to 4 (aMove (.const (.bool false)))]
def R31_1 : Rg H := fun O P ro => [to 5 (aMove (.const (.int .i64 0)))]
def R31_2 : Rg H := fun O P ro => [mv 6 5, mv 7 0, to 8 (aNil (.tmp 7)), to 9 (aFld 1 (.tmp 8)), to 10 (aLd O (.tmp 9)), to 11 (aInt .lss (.tmp 6) (.tmp 10))]
def R31_4 : Rg H := fun O P ro => [mv 14 0, to 15 (aNil (.tmp 14)), to 16 (aFld 3 (.tmp 15)), to 17 (aLd O (.tmp 16)), mv 18 5, to 19 (aIdx 1 (.tmp 17) (.tmp 18)), to 20 (aLd O (.tmp 19)), to 21 (aInt .neq (.tmp 20) (.const (.int .i64 2))), mv 22 21, onlyIf 22 true 23 (mv 23 0), onlyIf 22 true 24 (to 24 (aNil (.tmp 23))), onlyIf 22 true 25 (to 25 (aFld 3 (.tmp 24))), onlyIf 22 true 26 (to 26 (aLd O (.tmp 25))), onlyIf 22 true 27 (mv 27 5), onlyIf 22 true 28 (to 28 (aIdx 1 (.tmp 26) (.tmp 27))), onlyIf 22 true 29 (to 29 (aLd O (.tmp 28))), onlyIf 22 true 30 (mv 30 1), onlyIf 22 true 31 (mv 31 5), onlyIf 22 true 32 (to 32 (aShift .shr (.tmp 30) (.tmp 31))), onlyIf 22 true 33 (to 33 (aInt .and (.tmp 32) (.const (.int .i64 1)))), onlyIf 22 true 34 (to 34 (aInt .neq (.tmp 29) (.tmp 33))), to 35 (aPick (.tmp 22) (.tmp 34) (.const (.bool false)))]
def R31_5 : Rg H := fun O P ro => [to 4 (aMove (.const (.bool false)))]
def R31_3 : Rg H := fun O P ro => [mv 12 5, to 13 (aInt .add (.tmp 12) (.const (.int .i64 1))), mv 5 13]
def R31_6 : Rg H := fun O P ro => [to 4 (aMove (.const (.bool true)))]
def W31_0 (O : HI H) (P : Program) (ro : Nat) : CodeT H := cSeq (cSeq (cReg (R31_2 O P ro)) (cIf (.tmp 11) cSkip (cExit 0))) (cSeq (cBlk 1 (cSeq (cReg (R31_4 O P ro)) (cIf (.tmp 35) (cSeq (cReg (R31_5 O P ro)) cRet) cSkip))) (cReg (R31_3 O P ro)))
def F31 (O : HI H) (P : Program) (ro : Nat) : CodeT H := cSeq (cReg (R31_0 O P ro)) (cSeq (cSeq (cReg (R31_1 O P ro)) (cBlk 0 (cLoop (W31_0 O P ro)))) (cSeq (cReg (R31_6 O P ro)) cRet))
theorem F31_fn (O : HI H) (ro : Nat) : Vm.Fn Tryz.prog O ro 31 (F31 O Tryz.prog ro) [ResultVar.tmp 4] Tryz.f31 := ⟨Tryz.func31, by kernel_rfl, by kernel_rfl, by kernel_rfl, by kernel_rfl, by kernel_rfl⟩
def R32_0 : Rg H := fun O P ro => [to 6 (aMove (.const (.int .i64 0))), to 7 (aMove (.const (.bool false)))]
def R32_1 : Rg H := fun O P ro => [mv 11 0, to 12 (aPtrNil false (.tmp 11) (.const (.pointer none)))]
def R32_2 : Rg H := fun O P ro => [to 6 (aMove (.const (.int .i64 0))), to 7 (aMove (.const (.bool false)))]
def R32_3 : Rg H := fun O P ro => [mv 13 0, mv 14 1, mv 15 2, to 16 (aCall 71 [.tmp 13, .tmp 14, .tmp 15]), mv 8 16]
def R32_4 : Rg H := fun O P ro => [to 9 (aMove (.const (.int .i64 0)))]
def R32_5 : Rg H := fun O P ro => [to 10 (aMove (.const (.int .i64 0)))]
def R32_6 : Rg H := fun O P ro => [mv 17 10, mv 18 0, to 19 (aNil (.tmp 18)), to 20 (aFld 1 (.tmp 19)), to 21 (aLd O (.tmp 20)), to 22 (aLenSl (.tmp 21)), to 23 (aInt .lss (.tmp 17) (.tmp 22))]
def R32_8 : Rg H := fun O P ro => [mv 26 8, mv 27 0, to 28 (aNil (.tmp 27)), to 29 (aFld 1 (.tmp 28)), to 30 (aLd O (.tmp 29)), mv 31 10, to 32 (aIdx 2 (.tmp 30) (.tmp 31)), to 33 (aFld 0 (.tmp 32)), to 34 (aLd O (.tmp 33)), to 35 (aCall 72 [.tmp 26, .tmp 34])]
def R32_9 : Rg H := fun O P ro => [mv 36 9, mv 37 10, to 38 (aShift .shl (.const (.int .i64 1)) (.tmp 37)), to 39 (aInt .or (.tmp 36) (.tmp 38)), mv 9 39]
def R32_7 : Rg H := fun O P ro => [mv 24 10, to 25 (aInt .add (.tmp 24) (.const (.int .i64 1))), mv 10 25]
def R32_10 : Rg H := fun O P ro => [mv 40 9, mv 41 8, mv 42 0, to 43 (aNil (.tmp 42)), to 44 (aFld 3 (.tmp 43)), to 45 (aLd O (.tmp 44)), to 46 (aCall 72 [.tmp 41, .tmp 45]), mv 6 40, mv 7 46]
def W32_0 (O : HI H) (P : Program) (ro : Nat) : CodeT H := cSeq (cSeq (cReg (R32_6 O P ro)) (cIf (.tmp 23) cSkip (cExit 0))) (cSeq (cBlk 1 (cSeq (cReg (R32_8 O P ro)) (cIf (.tmp 35) (cReg (R32_9 O P ro)) cSkip))) (cReg (R32_7 O P ro)))
def F32 (O : HI H) (P : Program) (ro : Nat) : CodeT H := cSeq (cReg (R32_0 O P ro)) (cSeq (cSeq (cReg (R32_1 O P ro)) (cIf (.tmp 12) (cSeq (cReg (R32_2 O P ro)) cRet) cSkip)) (cSeq (cReg (R32_3 O P ro)) (cSeq (cReg (R32_4 O P ro)) (cSeq (cSeq (cReg (R32_5 O P ro)) (cBlk 0 (cLoop (W32_0 O P ro)))) (cSeq (cReg (R32_10 O P ro)) cRet)))))
theorem F32_fn (O : HI H) (ro : Nat) : Vm.Fn Tryz.prog O ro 32 (F32 O Tryz.prog ro) [ResultVar.tmp 6, ResultVar.tmp 7] Tryz.f32 := ⟨Tryz.func32, by kernel_rfl, by kernel_rfl, by kernel_rfl, by kernel_rfl, by kernel_rfl⟩
def R33_0 : Rg H := fun O P ro => [to 6 (aMove (.const (.int .i64 0)))]
def R33_1 : Rg H := fun O P ro => [to 7 (aMove (.const (.int .i64 0)))]
def R33_2 : Rg H := fun O P ro => [mv 11 0, mv 12 1, mv 13 2, to 14 (aCall 73 [.tmp 11, .tmp 12, .tmp 13]), mv 8 14]
def R33_3 : Rg H := fun O P ro => [to 9 (aMove (.const (.int .i64 0)))]
def R33_4 : Rg H := fun O P ro => [mv 15 9, mv 16 0, to 17 (aNil (.tmp 16)), to 18 (aFld 1 (.tmp 17)), to 19 (aLd O (.tmp 18)), to 20 (aInt .lss (.tmp 15) (.tmp 19))]
def R33_6 : Rg H := fun O P ro => [mv 23 8, mv 24 0, to 25 (aNil (.tmp 24)), to 26 (aFld 2 (.tmp 25)), to 27 (aLd O (.tmp 26)), mv 28 9, to 29 (aIdx 1 (.tmp 27) (.tmp 28)), to 30 (aLd O (.tmp 29)), to 31 (aCall 74 [.tmp 23, .tmp 30]), mv 10 31]
def R33_7 : Rg H := fun O P ro => [mv 32 10]
def R33_8 : Rg H := fun O P ro => [mv 33 7, mv 34 9, to 35 (aShift .shl (.const (.int .i64 1)) (.tmp 34)), to 36 (aInt .add (.tmp 33) (.tmp 35)), mv 7 36]
def R33_5 : Rg H := fun O P ro => [mv 21 9, to 22 (aInt .add (.tmp 21) (.const (.int .i64 1))), mv 9 22]
def R33_9 : Rg H := fun O P ro => [mv 37 7, mv 6 37]
def W33_0 (O : HI H) (P : Program) (ro : Nat) : CodeT H := cSeq (cSeq (cReg (R33_4 O P ro)) (cIf (.tmp 20) cSkip (cExit 0))) (cSeq (cBlk 1 (cSeq (cReg (R33_6 O P ro)) (cSeq (cReg (R33_7 O P ro)) (cIf (.tmp 32) (cReg (R33_8 O P ro)) cSkip)))) (cReg (R33_5 O P ro)))
def F33 (O : HI H) (P : Program) (ro : Nat) : CodeT H := cSeq (cReg (R33_0 O P ro)) (cSeq (cReg (R33_1 O P ro)) (cSeq (cReg (R33_2 O P ro)) (cSeq (cSeq (cReg (R33_3 O P ro)) (cBlk 0 (cLoop (W33_0 O P ro)))) (cSeq (cReg (R33_9 O P ro)) cRet))))
theorem F33_fn (O : HI H) (ro : Nat) : Vm.Fn Tryz.prog O ro 33 (F33 O Tryz.prog ro) [ResultVar.tmp 6] Tryz.f33 := ⟨Tryz.func33, by kernel_rfl, by kernel_rfl, by kernel_rfl, by kernel_rfl, by kernel_rfl⟩
def R34_0 : Rg H := fun O P ro => [to 8 (aMove (.const (.bool false)))]
def R34_1 : Rg H := fun O P ro => [mv 10 0, mv 11 2, mv 12 3, to 13 (aCall 73 [.tmp 10, .tmp 11, .tmp 12]), mv 9 13]
def R34_2 : Rg H := fun O P ro => [mv 14 9, mv 15 1, to 16 (aCall 74 [.tmp 14, .tmp 15]), mv 8 16]
def F34 (O : HI H) (P : Program) (ro : Nat) : CodeT H := cSeq (cReg (R34_0 O P ro)) (cSeq (cReg (R34_1 O P ro)) (cSeq (cReg (R34_2 O P ro)) cRet))
theorem F34_fn (O : HI H) (ro : Nat) : Vm.Fn Tryz.prog O ro 34 (F34 O Tryz.prog ro) [ResultVar.tmp 8] Tryz.f34 := ⟨Tryz.func34, by kernel_rfl, by kernel_rfl, by kernel_rfl, by kernel_rfl, by kernel_rfl⟩
def R61_0 : Rg H := fun O P ro => [to 2 (aMove (.const (.string { data := #[] })))]
def R61_1 : Rg H := fun O P ro => [mv 4 0, to 5 (aNil (.tmp 4)), to 6 (aFld 0 (.tmp 5)), to 7 (aLd O (.tmp 6)), mv 8 0, to 9 (aNil (.tmp 8)), to 10 (aFld 1 (.tmp 9)), to 11 (aLd O (.tmp 10)), to 12 (aLenSl (.tmp 11)), to 13 (aInt .add (.tmp 7) (.tmp 12)), mv 14 0, to 15 (aNil (.tmp 14)), to 16 (aFld 2 (.tmp 15)), to 17 (aLd O (.tmp 16)), to 18 (aLenSl (.tmp 17)), to 19 (aInt .add (.tmp 13) (.tmp 18)), mv 3 19]
def R61_2 : Rg H := fun O P ro => [mv 20 3, mv 21 0, to 22 (aNil (.tmp 21)), to 23 (aFld 0 (.tmp 22)), to 24 (aLd O (.tmp 23)), mv 25 0, to 26 (aNil (.tmp 25)), to 27 (aFld 1 (.tmp 26)), to 28 (aLd O (.tmp 27)), to 29 (aLenSl (.tmp 28)), mv 30 0, to 31 (aNil (.tmp 30)), to 32 (aFld 2 (.tmp 31)), to 33 (aLd O (.tmp 32)), to 34 (aLenSl (.tmp 33)), to 35 (aMkSl O 1 6 #[.int .i64 0] [(0, .tmp 20), (1, .tmp 24), (2, .tmp 29), (3, .const (.int .i64 0)), (4, .tmp 34), (5, .const (.int .i64 1))]), to 36 (aCall 62 [.tmp 35]), mv 2 36]
def F61 (O : HI H) (P : Program) (ro : Nat) : CodeT H := cSeq (cReg (R61_0 O P ro)) (cSeq (cReg (R61_1 O P ro)) (cSeq (cReg (R61_2 O P ro)) cRet))
theorem F61_fn (O : HI H) (ro : Nat) : Vm.Fn Tryz.prog O ro 61 (F61 O Tryz.prog ro) [ResultVar.tmp 2] Tryz.f61 := ⟨Tryz.func61, by kernel_rfl, by kernel_rfl, by kernel_rfl, by kernel_rfl, by kernel_rfl⟩
def R62_0 : Rg H := fun O P ro => [to 2 (aMove (.const (.string { data := #[] })))]
def R62_1 : Rg H := fun O P ro => [to 3 (aMove (.const (.string { data := #[] })))]
def R62_2 : Rg H := fun O P ro => [to 4 (aMove (.const (.int .i64 0)))]
def R62_3 : Rg H := fun O P ro => [mv 5 4, mv 6 0, to 7 (aLenSl (.tmp 6)), to 8 (aInt .lss (.tmp 5) (.tmp 7))]
def R62_5 : Rg H := fun O P ro => [mv 11 4, to 12 (aInt .gtr (.tmp 11) (.const (.int .i64 0)))]
def R62_6 : Rg H := fun O P ro => [mv 13 3, to 14 (aStr .add (.tmp 13) (.const (.string { data := #[32] }))), mv 3 14]
def R62_7 : Rg H := fun O P ro => [mv 15 3, mv 16 0, mv 17 4, to 18 (aIdx 1 (.tmp 16) (.tmp 17)), to 19 (aLd O (.tmp 18)), to 20 (aCall 64 [.tmp 19]), to 21 (aStr .add (.tmp 15) (.tmp 20)), mv 3 21]
def R62_4 : Rg H := fun O P ro => [mv 9 4, to 10 (aInt .add (.tmp 9) (.const (.int .i64 1))), mv 4 10]
def R62_8 : Rg H := fun O P ro => [mv 22 3, to 23 (aStr .add (.tmp 22) (.const (.string { data := #[10] }))), mv 2 23]
def W62_0 (O : HI H) (P : Program) (ro : Nat) : CodeT H := cSeq (cSeq (cReg (R62_3 O P ro)) (cIf (.tmp 8) cSkip (cExit 0))) (cSeq (cBlk 1 (cSeq (cSeq (cReg (R62_5 O P ro)) (cIf (.tmp 12) (cReg (R62_6 O P ro)) cSkip)) (cReg (R62_7 O P ro)))) (cReg (R62_4 O P ro)))
def F62 (O : HI H) (P : Program) (ro : Nat) : CodeT H := cSeq (cReg (R62_0 O P ro)) (cSeq (cReg (R62_1 O P ro)) (cSeq (cSeq (cReg (R62_2 O P ro)) (cBlk 0 (cLoop (W62_0 O P ro)))) (cSeq (cReg (R62_8 O P ro)) cRet)))
theorem F62_fn (O : HI H) (ro : Nat) : Vm.Fn Tryz.prog O ro 62 (F62 O Tryz.prog ro) [ResultVar.tmp 2] Tryz.f62 := ⟨Tryz.func62, by kernel_rfl, by kernel_rfl, by kernel_rfl, by kernel_rfl, by kernel_rfl⟩
def R63_0 : Rg H := fun O P ro => [to 4 (aMove (.const (.int .i64 0)))]
def R63_1 : Rg H := fun O P ro => [mv 5 0, to 6 (aNil (.tmp 5)), to 7 (aFld 0 (.tmp 6)), to 8 (aLd O (.tmp 7)), to 9 (aInt .add (.const (.int .i64 1)) (.tmp 8)), mv 10 1, to 11 (aInt .add (.tmp 9) (.tmp 10)), to 12 (aInt .mul (.const (.int .i64 2)) (.tmp 11)), mv 4 12]
def F63 (O : HI H) (P : Program) (ro : Nat) : CodeT H := cSeq (cReg (R63_0 O P ro)) (cSeq (cReg (R63_1 O P ro)) cRet)
theorem F63_fn (O : HI H) (ro : Nat) : Vm.Fn Tryz.prog O ro 63 (F63 O Tryz.prog ro) [ResultVar.tmp 4] Tryz.f63 := ⟨Tryz.func63, by kernel_rfl, by kernel_rfl, by kernel_rfl, by kernel_rfl, by kernel_rfl⟩
def R64_0 : Rg H := fun O P ro => [to 2 (aMove (.const (.string { data := #[] })))]
def R64_1 : Rg H := fun O P ro => [mv 3 0, to 4 (aCall 116 [.tmp 3]), mv 2 4]
def F64 (O : HI H) (P : Program) (ro : Nat) : CodeT H := cSeq (cReg (R64_0 O P ro)) (cSeq (cReg (R64_1 O P ro)) cRet)
theorem F64_fn (O : HI H) (ro : Nat) : Vm.Fn Tryz.prog O ro 64 (F64 O Tryz.prog ro) [ResultVar.tmp 2] Tryz.f64 := ⟨Tryz.func64, by kernel_rfl, by kernel_rfl, by kernel_rfl, by kernel_rfl, by kernel_rfl⟩
def R65_0 : Rg H := fun O P ro => [to 2 (aBox O (.tmp 0)), to 4 (aMove (.const (.string { data := #[] })))]
def R65_1 : Rg H := fun O P ro => [to 6 (aFld 0 (.tmp 2)), to 7 (aLd O (.tmp 6)), to 8 (aMkSl O 1 1 #[.int .i64 0] [(0, .tmp 7)]), mv 5 8]
def R65_2 : Rg H := fun O P ro => [to 9 (aFld 1 (.tmp 2)), to 10 (aLd O (.tmp 9))]
def R65_3 : Rg H := fun O P ro => [to 12 (aInt .eql (.tmp 10) (.const (.int .i64 1))), mv 11 12]
def R65_4 : Rg H := fun O P ro => [mv 13 5, to 14 (aMkSl O 1 1 #[.int .i64 0] [(0, .const (.int .i64 1))]), to 15 (aApp O ro 1 8 (.tmp 13) (.tmp 14)), mv 5 15]
def R65_5 : Rg H := fun O P ro => [to 17 (aInt .eql (.tmp 10) (.const (.int .i64 2))), mv 16 17]
def R65_6 : Rg H := fun O P ro => [mv 18 5, mv 19 1, to 20 (aMkSl O 1 1 #[.int .i64 0] [(0, .tmp 19)]), to 21 (aApp O ro 1 8 (.tmp 18) (.tmp 20)), mv 5 21]
def R65_7 : Rg H := fun O P ro => [mv 22 5, to 23 (aCall 62 [.tmp 22]), mv 4 23]
def F65 (O : HI H) (P : Program) (ro : Nat) : CodeT H := cSeq (cReg (R65_0 O P ro)) (cSeq (cReg (R65_1 O P ro)) (cSeq (cSeq (cReg (R65_2 O P ro)) (cBlk 0 (cSeq (cReg (R65_3 O P ro)) (cIf (.tmp 11) (cReg (R65_4 O P ro)) (cSeq (cReg (R65_5 O P ro)) (cIf (.tmp 16) (cReg (R65_6 O P ro)) cSkip)))))) (cSeq (cReg (R65_7 O P ro)) cRet)))
theorem F65_fn (O : HI H) (ro : Nat) : Vm.Fn Tryz.prog O ro 65 (F65 O Tryz.prog ro) [ResultVar.tmp 4] Tryz.f65 := ⟨Tryz.func65, by kernel_rfl, by kernel_rfl, by kernel_rfl, by kernel_rfl, by kernel_rfl⟩
def R66_0 : Rg H := fun O P ro => [to 4 (aMove (.const (.int .i64 0)))]
def R66_1 : Rg H := fun O P ro => [mv 5 0, to 6 (aNil (.tmp 5)), to 7 (aFld 0 (.tmp 6)), to 8 (aLd O (.tmp 7)), to 9 (aInt .add (.const (.int .i64 1)) (.tmp 8)), mv 10 0, to 11 (aNil (.tmp 10)), to 12 (aFld 1 (.tmp 11)), to 13 (aLd O (.tmp 12)), to 14 (aLenSl (.tmp 13)), to 15 (aInt .add (.tmp 9) (.tmp 14)), mv 16 1, to 17 (aInt .add (.tmp 15) (.tmp 16)), to 18 (aInt .mul (.const (.int .i64 2)) (.tmp 17)), mv 4 18]
def F66 (O : HI H) (P : Program) (ro : Nat) : CodeT H := cSeq (cReg (R66_0 O P ro)) (cSeq (cReg (R66_1 O P ro)) cRet)
theorem F66_fn (O : HI H) (ro : Nat) : Vm.Fn Tryz.prog O ro 66 (F66 O Tryz.prog ro) [ResultVar.tmp 4] Tryz.f66 := ⟨Tryz.func66, by kernel_rfl, by kernel_rfl, by kernel_rfl, by kernel_rfl, by kernel_rfl⟩
def R67_0 : Rg H := fun O P ro => [to 2 (aMove (.const (.string { data := #[] })))]
def R67_1 : Rg H := fun O P ro => [to 3 (aMove (.const (.string { data := #[] })))]
def R67_2 : Rg H := fun O P ro => [to 4 (aMove (.const (.int .i64 0)))]
def R67_3 : Rg H := fun O P ro => [mv 6 4, mv 7 0, to 8 (aLenSl (.tmp 7)), to 9 (aInt .lss (.tmp 6) (.tmp 8))]
def R67_5 : Rg H := fun O P ro => [mv 12 0, mv 13 4, to 14 (aIdx 1 (.tmp 12) (.tmp 13)), to 15 (aLd O (.tmp 14)), to 16 (aCall 117 [.tmp 15]), mv 5 16]
def R67_6 : Rg H := fun O P ro => [mv 17 4, to 18 (aInt .gtr (.tmp 17) (.const (.int .i64 0)))]
def R67_7 : Rg H := fun O P ro => [mv 19 3, to 20 (aStr .add (.tmp 19) (.const (.string { data := #[32] }))), mv 3 20]
def R67_8 : Rg H := fun O P ro => [mv 21 3, mv 22 5, to 23 (aStr .add (.tmp 21) (.tmp 22)), mv 3 23]
def R67_4 : Rg H := fun O P ro => [mv 10 4, to 11 (aInt .add (.tmp 10) (.const (.int .i64 1))), mv 4 11]
def R67_9 : Rg H := fun O P ro => [mv 24 3, to 25 (aStr .add (.tmp 24) (.const (.string { data := #[10] }))), mv 2 25]
def W67_0 (O : HI H) (P : Program) (ro : Nat) : CodeT H := cSeq (cSeq (cReg (R67_3 O P ro)) (cIf (.tmp 9) cSkip (cExit 0))) (cSeq (cBlk 1 (cSeq (cReg (R67_5 O P ro)) (cSeq (cSeq (cReg (R67_6 O P ro)) (cIf (.tmp 18) (cReg (R67_7 O P ro)) cSkip)) (cReg (R67_8 O P ro))))) (cReg (R67_4 O P ro)))
def F67 (O : HI H) (P : Program) (ro : Nat) : CodeT H := cSeq (cReg (R67_0 O P ro)) (cSeq (cReg (R67_1 O P ro)) (cSeq (cSeq (cReg (R67_2 O P ro)) (cBlk 0 (cLoop (W67_0 O P ro)))) (cSeq (cReg (R67_9 O P ro)) cRet)))
theorem F67_fn (O : HI H) (ro : Nat) : Vm.Fn Tryz.prog O ro 67 (F67 O Tryz.prog ro) [ResultVar.tmp 2] Tryz.f67 := ⟨Tryz.func67, by kernel_rfl, by kernel_rfl, by kernel_rfl, by kernel_rfl, by kernel_rfl⟩
def R68_0 : Rg H := fun O P ro => [to 6 (aMove (.const (.slice none 0 0)))]
def R68_1 : Rg H := fun O P ro => [mv 7 0, to 8 (aNil (.tmp 7)), to 9 (aFld 3 (.tmp 8)), to 10 (aLd O (.tmp 9)), mv 11 1, to 12 (aIdx 1 (.tmp 10) (.tmp 11)), to 13 (aLd O (.tmp 12))]
def R68_2 : Rg H := fun O P ro => [to 15 (aInt .eql (.tmp 13) (.const (.int .i64 1))), mv 14 15]
def R68_3 : Rg H := fun O P ro => [mv 16 2, to 17 (aMkSl O 1 1 #[.int .i64 0] [(0, .const (.int .i64 1))]), to 18 (aApp O ro 1 8 (.tmp 16) (.tmp 17)), mv 6 18]
def R68_4 : Rg H := fun O P ro => [to 20 (aInt .eql (.tmp 13) (.const (.int .i64 2))), mv 19 20]
def R68_5 : Rg H := fun O P ro => [mv 21 2, mv 22 0, to 23 (aNil (.tmp 22)), to 24 (aFld 0 (.tmp 23)), to 25 (aLd O (.tmp 24)), to 26 (aInt .add (.const (.int .i64 1)) (.tmp 25)), mv 27 1, to 28 (aInt .add (.tmp 26) (.tmp 27)), to 29 (aInt .mul (.const (.int .i64 2)) (.tmp 28)), to 30 (aMkSl O 1 1 #[.int .i64 0] [(0, .tmp 29)]), to 31 (aApp O ro 1 8 (.tmp 21) (.tmp 30)), mv 6 31]
def R68_6 : Rg H := fun O P ro => [mv 32 2, mv 6 32]
def F68 (O : HI H) (P : Program) (ro : Nat) : CodeT H := cSeq (cReg (R68_0 O P ro)) (cSeq (cSeq (cReg (R68_1 O P ro)) (cBlk 0 (cSeq (cReg (R68_2 O P ro)) (cIf (.tmp 14) (cSeq (cReg (R68_3 O P ro)) cRet) (cSeq (cReg (R68_4 O P ro)) (cIf (.tmp 19) (cSeq (cReg (R68_5 O P ro)) cRet) cSkip)))))) (cSeq (cReg (R68_6 O P ro)) cRet))
theorem F68_fn (O : HI H) (ro : Nat) : Vm.Fn Tryz.prog O ro 68 (F68 O Tryz.prog ro) [ResultVar.tmp 6] Tryz.f68 := ⟨Tryz.func68, by kernel_rfl, by kernel_rfl, by kernel_rfl, by kernel_rfl, by kernel_rfl⟩
def R69_0 : Rg H := fun O P ro => [to 2 (aMove (.const (.string { data := #[] })))]
def R69_1 : Rg H := fun O P ro => [mv 3 0, to 4 (aInt .lss (.tmp 3) (.const (.int .i64 128)))]
def R69_2 : Rg H := fun O P ro => [mv 5 0, to 6 (aConv .u8 (.tmp 5)), to 7 (aMkSl O 1 1 #[.int .u8 0] [(0, .tmp 6)]), to 8 (aB2S O (.tmp 7)), mv 2 8]
def R69_3 : Rg H := fun O P ro => [mv 9 0, to 10 (aInt .rem (.tmp 9) (.const (.int .i64 128))), to 11 (aInt .add (.tmp 10) (.const (.int .i64 128))), to 12 (aConv .u8 (.tmp 11)), mv 13 0, to 14 (aInt .quo (.tmp 13) (.const (.int .i64 128))), to 15 (aConv .u8 (.tmp 14)), to 16 (aMkSl O 1 2 #[.int .u8 0] [(0, .tmp 12), (1, .tmp 15)]), to 17 (aB2S O (.tmp 16)), mv 2 17]
def F69 (O : HI H) (P : Program) (ro : Nat) : CodeT H := cSeq (cReg (R69_0 O P ro)) (cSeq (cSeq (cReg (R69_1 O P ro)) (cIf (.tmp 4) (cSeq (cReg (R69_2 O P ro)) cRet) cSkip)) (cSeq (cReg (R69_3 O P ro)) cRet))
theorem F69_fn (O : HI H) (ro : Nat) : Vm.Fn Tryz.prog O ro 69 (F69 O Tryz.prog ro) [ResultVar.tmp 2] Tryz.f69 := ⟨Tryz.func69, by kernel_rfl, by kernel_rfl, by kernel_rfl, by kernel_rfl, by kernel_rfl⟩
def R70_0 : Rg H := fun O P ro => [to 2 (aMove (.const (.string { data := #[] })))]
def R70_1 : Rg H := fun O P ro => [mv 3 0, to 4 (aInt .lss (.tmp 3) (.const (.int .i64 128)))]
def R70_2 : Rg H := fun O P ro => [mv 5 0, to 6 (aConv .u8 (.tmp 5)), to 7 (aMkSl O 1 1 #[.int .u8 0] [(0, .tmp 6)]), to 8 (aB2S O (.tmp 7)), mv 2 8]
def R70_3 : Rg H := fun O P ro => [mv 9 0, to 10 (aInt .rem (.tmp 9) (.const (.int .i64 128))), to 11 (aInt .add (.const (.int .i64 128)) (.tmp 10)), to 12 (aConv .u8 (.tmp 11)), mv 13 0, to 14 (aInt .quo (.tmp 13) (.const (.int .i64 128))), to 15 (aConv .u8 (.tmp 14)), to 16 (aMkSl O 1 2 #[.int .u8 0] [(0, .tmp 12), (1, .tmp 15)]), to 17 (aB2S O (.tmp 16)), mv 2 17]
def F70 (O : HI H) (P : Program) (ro : Nat) : CodeT H := cSeq (cReg (R70_0 O P ro)) (cSeq (cSeq (cReg (R70_1 O P ro)) (cIf (.tmp 4) (cSeq (cReg (R70_2 O P ro)) cRet) cSkip)) (cSeq (cReg (R70_3 O P ro)) cRet))
theorem F70_fn (O : HI H) (ro : Nat) : Vm.Fn Tryz.prog O ro 70 (F70 O Tryz.prog ro) [ResultVar.tmp 2] Tryz.f70 := ⟨Tryz.func70, by kernel_rfl, by kernel_rfl, by kernel_rfl, by kernel_rfl, by kernel_rfl⟩
def R71_0 : Rg H := fun O P ro => [to 6 (aMove (.const (.slice none 0 0)))]
def R71_1 : Rg H := fun O P ro => [to 13 (aMkSl O 1 1 #[.bool false] [(0, .const (.bool false))]), mv 7 13]
def R71_2 : Rg H := fun O P ro => [to 8 (aMove (.const (.int .i64 0)))]
def R71_3 : Rg H := fun O P ro => [mv 14 8, mv 15 0, to 16 (aNil (.tmp 15)), to 17 (aFld 0 (.tmp 16)), to 18 (aLd O (.tmp 17)), to 19 (aInt .lss (.tmp 14) (.tmp 18))]
def R71_5 : Rg H := fun O P ro => [mv 22 7, mv 23 2, mv 24 8, to 25 (aShift .shr (.tmp 23) (.tmp 24)), to 26 (aInt .and (.tmp 25) (.const (.int .i64 1))), to 27 (aInt .eql (.tmp 26) (.const (.int .i64 1))), to 28 (aMkSl O 1 1 #[.bool false] [(0, .tmp 27)]), to 29 (aApp O ro 1 1 (.tmp 22) (.tmp 28)), mv 7 29]
def R71_4 : Rg H := fun O P ro => [mv 20 8, to 21 (aInt .add (.tmp 20) (.const (.int .i64 1))), mv 8 21]
def R71_6 : Rg H := fun O P ro => [to 9 (aMove (.const (.int .i64 0)))]
def R71_7 : Rg H := fun O P ro => [mv 30 9, mv 31 0, to 32 (aNil (.tmp 31)), to 33 (aFld 1 (.tmp 32)), to 34 (aLd O (.tmp 33)), to 35 (aLenSl (.tmp 34)), to 36 (aInt .lss (.tmp 30) (.tmp 35))]
def R71_9 : Rg H := fun O P ro => [mv 39 7, mv 40 1, mv 41 9, to 42 (aShift .shr (.tmp 40) (.tmp 41)), to 43 (aInt .and (.tmp 42) (.const (.int .i64 1))), to 44 (aInt .eql (.tmp 43) (.const (.int .i64 1))), to 45 (aMkSl O 1 1 #[.bool false] [(0, .tmp 44)]), to 46 (aApp O ro 1 1 (.tmp 39) (.tmp 45)), mv 7 46]
def R71_8 : Rg H := fun O P ro => [mv 37 9, to 38 (aInt .add (.tmp 37) (.const (.int .i64 1))), mv 9 38]
def R71_10 : Rg H := fun O P ro => [to 10 (aMove (.const (.int .i64 0)))]
def R71_11 : Rg H := fun O P ro => [mv 47 10, mv 48 0, to 49 (aNil (.tmp 48)), to 50 (aFld 2 (.tmp 49)), to 51 (aLd O (.tmp 50)), to 52 (aLenSl (.tmp 51)), to 53 (aInt .lss (.tmp 47) (.tmp 52))]
def R71_13 : Rg H := fun O P ro => [mv 56 7, mv 57 0, to 58 (aNil (.tmp 57)), to 59 (aFld 2 (.tmp 58)), to 60 (aLd O (.tmp 59)), mv 61 10, to 62 (aIdx 2 (.tmp 60) (.tmp 61)), to 63 (aFld 0 (.tmp 62)), to 64 (aLd O (.tmp 63)), to 65 (aCall 72 [.tmp 56, .tmp 64]), mv 11 65]
def R71_14 : Rg H := fun O P ro => [mv 66 7, mv 67 0, to 68 (aNil (.tmp 67)), to 69 (aFld 2 (.tmp 68)), to 70 (aLd O (.tmp 69)), mv 71 10, to 72 (aIdx 2 (.tmp 70) (.tmp 71)), to 73 (aFld 1 (.tmp 72)), to 74 (aLd O (.tmp 73)), to 75 (aCall 72 [.tmp 66, .tmp 74]), mv 12 75]
def R71_15 : Rg H := fun O P ro => [mv 76 7, mv 77 11, mv 78 77, onlyIf 78 true 79 (mv 79 12), to 80 (aPick (.tmp 78) (.tmp 79) (.const (.bool false))), to 81 (aMkSl O 1 1 #[.bool false] [(0, .tmp 80)]), to 82 (aApp O ro 1 1 (.tmp 76) (.tmp 81)), mv 7 82]
def R71_12 : Rg H := fun O P ro => [mv 54 10, to 55 (aInt .add (.tmp 54) (.const (.int .i64 1))), mv 10 55]
def R71_16 : Rg H := fun O P ro => [mv 83 7, mv 6 83]
def W71_0 (O : HI H) (P : Program) (ro : Nat) : CodeT H := cSeq (cSeq (cReg (R71_3 O P ro)) (cIf (.tmp 19) cSkip (cExit 0))) (cSeq (cBlk 1 (cReg (R71_5 O P ro))) (cReg (R71_4 O P ro)))
def W71_1 (O : HI H) (P : Program) (ro : Nat) : CodeT H := cSeq (cSeq (cReg (R71_7 O P ro)) (cIf (.tmp 36) cSkip (cExit 2))) (cSeq (cBlk 3 (cReg (R71_9 O P ro))) (cReg (R71_8 O P ro)))
def W71_2 (O : HI H) (P : Program) (ro : Nat) : CodeT H := cSeq (cSeq (cReg (R71_11 O P ro)) (cIf (.tmp 53) cSkip (cExit 4))) (cSeq (cBlk 5 (cSeq (cReg (R71_13 O P ro)) (cSeq (cReg (R71_14 O P ro)) (cReg (R71_15 O P ro))))) (cReg (R71_12 O P ro)))
def F71 (O : HI H) (P : Program) (ro : Nat) : CodeT H := cSeq (cReg (R71_0 O P ro)) (cSeq (cReg (R71_1 O P ro)) (cSeq (cSeq (cReg (R71_2 O P ro)) (cBlk 0 (cLoop (W71_0 O P ro)))) (cSeq (cSeq (cReg (R71_6 O P ro)) (cBlk 2 (cLoop (W71_1 O P ro)))) (cSeq (cSeq (cReg (R71_10 O P ro)) (cBlk 4 (cLoop (W71_2 O P ro)))) (cSeq (cReg (R71_16 O P ro)) cRet)))))
theorem F71_fn (O : HI H) (ro : Nat) : Vm.Fn Tryz.prog O ro 71 (F71 O Tryz.prog ro) [ResultVar.tmp 6] Tryz.f71 := ⟨Tryz.func71, by kernel_rfl, by kernel_rfl, by kernel_rfl, by kernel_rfl, by kernel_rfl⟩
def R72_0 : Rg H := fun O P ro => [to 4 (aMove (.const (.bool false)))]
def R72_1 : Rg H := fun O P ro => [mv 6 1, to 7 (aShift .shr (.tmp 6) (.const (.int .u64 1))), mv 5 7]
def R72_2 : Rg H := fun O P ro => [mv 8 5, to 9 (aInt .lss (.tmp 8) (.const (.int .i64 0))), mv 10 9, onlyIf 10 false 11 (mv 11 5), onlyIf 10 false 12 (mv 12 0), onlyIf 10 false 13 (to 13 (aLenSl (.tmp 12))), onlyIf 10 false 14 (to 14 (aInt .geq (.tmp 11) (.tmp 13))), to 15 (aPick (.tmp 10) (.const (.bool true)) (.tmp 14))]
def R72_3 : Rg H := fun O P ro => [to 4 (aMove (.const (.bool false)))]
def R72_4 : Rg H := fun O P ro => [mv 16 0, mv 17 5, to 18 (aIdx 1 (.tmp 16) (.tmp 17)), to 19 (aLd O (.tmp 18)), mv 20 1, to 21 (aInt .and (.tmp 20) (.const (.int .i64 1))), to 22 (aInt .eql (.tmp 21) (.const (.int .i64 1))), to 23 (aBoolEq true (.tmp 19) (.tmp 22)), mv 4 23]
def F72 (O : HI H) (P : Program) (ro : Nat) : CodeT H := cSeq (cReg (R72_0 O P ro)) (cSeq (cReg (R72_1 O P ro)) (cSeq (cSeq (cReg (R72_2 O P ro)) (cIf (.tmp 15) (cSeq (cReg (R72_3 O P ro)) cRet) cSkip)) (cSeq (cReg (R72_4 O P ro)) cRet)))
theorem F72_fn (O : HI H) (ro : Nat) : Vm.Fn Tryz.prog O ro 72 (F72 O Tryz.prog ro) [ResultVar.tmp 4] Tryz.f72 := ⟨Tryz.func72, by kernel_rfl, by kernel_rfl, by kernel_rfl, by kernel_rfl, by kernel_rfl⟩
def R73_0 : Rg H := fun O P ro => [to 6 (aMove (.const (.slice none 0 0)))]
def R73_1 : Rg H := fun O P ro => [mv 13 0, to 14 (aNil (.tmp 13)), to 15 (aFld 0 (.tmp 14)), to 16 (aLd O (.tmp 15)), to 17 (aInt .add (.const (.int .i64 1)) (.tmp 16)), mv 18 0, to 19 (aNil (.tmp 18)), to 20 (aFld 1 (.tmp 19)), to 21 (aLd O (.tmp 20)), to 22 (aInt .add (.tmp 17) (.tmp 21)), to 23 (aMake O 1 1 #[.bool false] (.tmp 22) (.tmp 22)), mv 7 23]
def R73_2 : Rg H := fun O P ro => [to 8 (aMove (.const (.int .i64 0)))]
def R73_3 : Rg H := fun O P ro => [mv 24 8, mv 25 0, to 26 (aNil (.tmp 25)), to 27 (aFld 0 (.tmp 26)), to 28 (aLd O (.tmp 27)), to 29 (aInt .lss (.tmp 24) (.tmp 28))]
def R73_5 : Rg H := fun O P ro => [mv 32 7, mv 33 8, to 34 (aInt .add (.const (.int .i64 1)) (.tmp 33)), mv 35 2, mv 36 8, to 37 (aShift .shr (.tmp 35) (.tmp 36)), to 38 (aInt .and (.tmp 37) (.const (.int .i64 1))), to 39 (aInt .eql (.tmp 38) (.const (.int .i64 1))), to 40 (aIdx 1 (.tmp 32) (.tmp 34)), too (aSt O ro 1 (.tmp 40) (.tmp 39))]
def R73_4 : Rg H := fun O P ro => [mv 30 8, to 31 (aInt .add (.tmp 30) (.const (.int .i64 1))), mv 8 31]
def R73_6 : Rg H := fun O P ro => [to 9 (aMove (.const (.int .i64 0)))]
def R73_7 : Rg H := fun O P ro => [mv 41 9, mv 42 0, to 43 (aNil (.tmp 42)), to 44 (aFld 1 (.tmp 43)), to 45 (aLd O (.tmp 44)), to 46 (aInt .lss (.tmp 41) (.tmp 45))]
def R73_9 : Rg H := fun O P ro => [mv 49 7, mv 50 0, to 51 (aNil (.tmp 50)), to 52 (aFld 0 (.tmp 51)), to 53 (aLd O (.tmp 52)), to 54 (aInt .add (.const (.int .i64 1)) (.tmp 53)), mv 55 9, to 56 (aInt .add (.tmp 54) (.tmp 55)), mv 57 1, mv 58 9, to 59 (aShift .shr (.tmp 57) (.tmp 58)), to 60 (aInt .and (.tmp 59) (.const (.int .i64 1))), to 61 (aInt .eql (.tmp 60) (.const (.int .i64 1))), to 62 (aIdx 1 (.tmp 49) (.tmp 56)), too (aSt O ro 1 (.tmp 62) (.tmp 61))]
def R73_8 : Rg H := fun O P ro => [mv 47 9, to 48 (aInt .add (.tmp 47) (.const (.int .i64 1))), mv 9 48]
def R73_10 : Rg H := fun O P ro => [to 10 (aMove (.const (.int .i64 0)))]
def R73_11 : Rg H := fun O P ro => [mv 63 10, mv 64 0, to 65 (aNil (.tmp 64)), to 66 (aFld 4 (.tmp 65)), to 67 (aLd O (.tmp 66)), to 68 (aLenSl (.tmp 67)), to 69 (aInt .lss (.tmp 63) (.tmp 68))]
def R73_13 : Rg H := fun O P ro => [mv 72 7, mv 73 0, to 74 (aNil (.tmp 73)), to 75 (aFld 4 (.tmp 74)), to 76 (aLd O (.tmp 75)), mv 77 10, to 78 (aIdx 1 (.tmp 76) (.tmp 77)), to 79 (aLd O (.tmp 78)), to 80 (aCall 74 [.tmp 72, .tmp 79]), mv 11 80]
def R73_14 : Rg H := fun O P ro => [mv 81 7, mv 82 0, to 83 (aNil (.tmp 82)), to 84 (aFld 4 (.tmp 83)), to 85 (aLd O (.tmp 84)), mv 86 10, to 87 (aInt .add (.tmp 86) (.const (.int .i64 1))), to 88 (aIdx 1 (.tmp 85) (.tmp 87)), to 89 (aLd O (.tmp 88)), to 90 (aCall 74 [.tmp 81, .tmp 89]), mv 12 90]
def R73_15 : Rg H := fun O P ro => [mv 91 7, mv 92 11, mv 93 92, onlyIf 93 true 94 (mv 94 12), to 95 (aPick (.tmp 93) (.tmp 94) (.const (.bool false))), to 96 (aMkSl O 1 1 #[.bool false] [(0, .tmp 95)]), to 97 (aApp O ro 1 1 (.tmp 91) (.tmp 96)), mv 7 97]
def R73_12 : Rg H := fun O P ro => [mv 70 10, to 71 (aInt .add (.tmp 70) (.const (.int .i64 2))), mv 10 71]
def R73_16 : Rg H := fun O P ro => [mv 98 7, mv 6 98]
def W73_0 (O : HI H) (P : Program) (ro : Nat) : CodeT H := cSeq (cSeq (cReg (R73_3 O P ro)) (cIf (.tmp 29) cSkip (cExit 0))) (cSeq (cBlk 1 (cReg (R73_5 O P ro))) (cReg (R73_4 O P ro)))
def W73_1 (O : HI H) (P : Program) (ro : Nat) : CodeT H := cSeq (cSeq (cReg (R73_7 O P ro)) (cIf (.tmp 46) cSkip (cExit 2))) (cSeq (cBlk 3 (cReg (R73_9 O P ro))) (cReg (R73_8 O P ro)))
def W73_2 (O : HI H) (P : Program) (ro : Nat) : CodeT H := cSeq (cSeq (cReg (R73_11 O P ro)) (cIf (.tmp 69) cSkip (cExit 4))) (cSeq (cBlk 5 (cSeq (cReg (R73_13 O P ro)) (cSeq (cReg (R73_14 O P ro)) (cReg (R73_15 O P ro))))) (cReg (R73_12 O P ro)))
def F73 (O : HI H) (P : Program) (ro : Nat) : CodeT H := cSeq (cReg (R73_0 O P ro)) (cSeq (cReg (R73_1 O P ro)) (cSeq (cSeq (cReg (R73_2 O P ro)) (cBlk 0 (cLoop (W73_0 O P ro)))) (cSeq (cSeq (cReg (R73_6 O P ro)) (cBlk 2 (cLoop (W73_1 O P ro)))) (cSeq (cSeq (cReg (R73_10 O P ro)) (cBlk 4 (cLoop (W73_2 O P ro)))) (cSeq (cReg (R73_16 O P ro)) cRet)))))
theorem F73_fn (O : HI H) (ro : Nat) : Vm.Fn Tryz.prog O ro 73 (F73 O Tryz.prog ro) [ResultVar.tmp 6] Tryz.f73 := ⟨Tryz.func73, by kernel_rfl, by kernel_rfl, by kernel_rfl, by kernel_rfl, by kernel_rfl⟩
def R74_0 : Rg H := fun O P ro => [to 4 (aMove (.const (.bool false)))]
def R74_1 : Rg H := fun O P ro => [mv 5 0, mv 6 1, to 7 (aInt .quo (.tmp 6) (.const (.int .i64 2))), to 8 (aIdx 1 (.tmp 5) (.tmp 7)), to 9 (aLd O (.tmp 8)), mv 10 1, to 11 (aInt .rem (.tmp 10) (.const (.int .i64 2))), to 12 (aInt .eql (.tmp 11) (.const (.int .i64 1))), to 13 (aBoolEq true (.tmp 9) (.tmp 12)), mv 4 13]
def F74 (O : HI H) (P : Program) (ro : Nat) : CodeT H := cSeq (cReg (R74_0 O P ro)) (cSeq (cReg (R74_1 O P ro)) cRet)
theorem F74_fn (O : HI H) (ro : Nat) : Vm.Fn Tryz.prog O ro 74 (F74 O Tryz.prog ro) [ResultVar.tmp 4] Tryz.f74 := ⟨Tryz.func74, by kernel_rfl, by kernel_rfl, by kernel_rfl, by kernel_rfl, by kernel_rfl⟩
def R116_0 : Rg H := fun O P ro => [to 2 (aMove (.const (.string { data := #[] })))]
def R116_1 : Rg H := fun O P ro => [mv 3 0, to 4 (aCall 135 [.tmp 3, .const (.int .i64 10)]), mv 2 4]
def F116 (O : HI H) (P : Program) (ro : Nat) : CodeT H := cSeq (cReg (R116_0 O P ro)) (cSeq (cReg (R116_1 O P ro)) cRet)
theorem F116_fn (O : HI H) (ro : Nat) : Vm.Fn Tryz.prog O ro 116 (F116 O Tryz.prog ro) [ResultVar.tmp 2] Tryz.f116 := ⟨Tryz.func116, by kernel_rfl, by kernel_rfl, by kernel_rfl, by kernel_rfl, by kernel_rfl⟩
def R117_0 : Rg H := fun O P ro => [to 2 (aMove (.const (.string { data := #[] })))]
def R117_1 : Rg H := fun O P ro => [mv 4 0, to 5 (aInt .lss (.tmp 4) (.const (.int .i64 10)))]
def R117_2 : Rg H := fun O P ro => [mv 6 0, to 7 (aInt .add (.const (.int .i64 48)) (.tmp 6)), to 8 (aConv .u8 (.tmp 7)), to 9 (aMkSl O 1 1 #[.int .u8 0] [(0, .tmp 8)]), to 10 (aB2S O (.tmp 9)), mv 2 10]
def R117_3 : Rg H := fun O P ro => [mv 11 0, to 12 (aInt .quo (.tmp 11) (.const (.int .i64 10))), to 13 (aCall 117 [.tmp 12]), mv 3 13]
def R117_4 : Rg H := fun O P ro => [mv 14 3, mv 15 0, to 16 (aInt .rem (.tmp 15) (.const (.int .i64 10))), to 17 (aInt .add (.const (.int .i64 48)) (.tmp 16)), to 18 (aConv .u8 (.tmp 17)), to 19 (aMkSl O 1 1 #[.int .u8 0] [(0, .tmp 18)]), to 20 (aB2S O (.tmp 19)), to 21 (aStr .add (.tmp 14) (.tmp 20)), mv 2 21]
def F117 (O : HI H) (P : Program) (ro : Nat) : CodeT H := cSeq (cReg (R117_0 O P ro)) (cSeq (cSeq (cReg (R117_1 O P ro)) (cIf (.tmp 5) (cSeq (cReg (R117_2 O P ro)) cRet) cSkip)) (cSeq (cReg (R117_3 O P ro)) (cSeq (cReg (R117_4 O P ro)) cRet)))
theorem F117_fn (O : HI H) (ro : Nat) : Vm.Fn Tryz.prog O ro 117 (F117 O Tryz.prog ro) [ResultVar.tmp 2] Tryz.f117 := ⟨Tryz.func117, by kernel_rfl, by kernel_rfl, by kernel_rfl, by kernel_rfl, by kernel_rfl⟩
end
section
variable {H : Type}
def strC200 : ByteArray := ⟨#[48, 48, 48, 49, 48, 50, 48, 51, 48, 52, 48, 53, 48, 54, 48, 55, 48, 56, 48, 57, 49, 48, 49, 49, 49, 50, 49, 51, 49, 52, 49, 53, 49, 54, 49, 55, 49, 56, 49, 57, 50, 48, 50, 49, 50, 50, 50, 51, 50, 52, 50, 53, 50, 54, 50, 55, 50, 56, 50, 57, 51, 48, 51, 49, 51, 50, 51, 51, 51, 52, 51, 53, 51, 54, 51, 55, 51, 56, 51, 57, 52, 48, 52, 49, 52, 50, 52, 51, 52, 52, 52, 53, 52, 54, 52, 55, 52, 56, 52, 57, 53, 48, 53, 49, 53, 50, 53, 51, 53, 52, 53, 53, 53, 54, 53, 55, 53, 56, 53, 57, 54, 48, 54, 49, 54, 50, 54, 51, 54, 52, 54, 53, 54, 54, 54, 55, 54, 56, 54, 57, 55, 48, 55, 49, 55, 50, 55, 51, 55, 52, 55, 53, 55, 54, 55, 55, 55, 56, 55, 57, 56, 48, 56, 49, 56, 50, 56, 51, 56, 52, 56, 53, 56, 54, 56, 55, 56, 56, 56, 57, 57, 48, 57, 49, 57, 50, 57, 51, 57, 52, 57, 53, 57, 54, 57, 55, 57, 56, 57, 57]⟩
def strC256 : ByteArray := ⟨#[0, 1, 2, 2, 3, 3, 3, 3, 4, 4, 4, 4, 4, 4, 4, 4, 5, 5, 5, 5, 5, 5, 5, 5, 5, 5, 5, 5, 5, 5, 5, 5, 6, 6, 6, 6, 6, 6, 6, 6, 6, 6, 6, 6, 6, 6, 6, 6, 6, 6, 6, 6, 6, 6, 6, 6, 6, 6, 6, 6, 6, 6, 6, 6, 7, 7, 7, 7, 7, 7, 7, 7, 7, 7, 7, 7, 7, 7, 7, 7, 7, 7, 7, 7, 7, 7, 7, 7, 7, 7, 7, 7, 7, 7, 7, 7, 7, 7, 7, 7, 7, 7, 7, 7, 7, 7, 7, 7, 7, 7, 7, 7, 7, 7, 7, 7, 7, 7, 7, 7, 7, 7, 7, 7, 7, 7, 7, 7, 8, 8, 8, 8, 8, 8, 8, 8, 8, 8, 8, 8, 8, 8, 8, 8, 8, 8, 8, 8, 8, 8, 8, 8, 8, 8, 8, 8, 8, 8, 8, 8, 8, 8, 8, 8, 8, 8, 8, 8, 8, 8, 8, 8, 8, 8, 8, 8, 8, 8, 8, 8, 8, 8, 8, 8, 8, 8, 8, 8, 8, 8, 8, 8, 8, 8, 8, 8, 8, 8, 8, 8, 8, 8, 8, 8, 8, 8, 8, 8, 8, 8, 8, 8, 8, 8, 8, 8, 8, 8, 8, 8, 8, 8, 8, 8, 8, 8, 8, 8, 8, 8, 8, 8, 8, 8, 8, 8, 8, 8, 8, 8, 8, 8, 8, 8, 8, 8, 8, 8, 8, 8, 8, 8, 8, 8, 8, 8]⟩
def R135_0 : Rg H := fun O P ro => [to 4 (aMove (.const (.string { data := #[] })))]
def R135_1 : Rg H := fun O P ro => [mv 10 1, to 11 (aInt .eql (.tmp 10) (.const (.int .i64 10)))]
def R135_2 : Rg H := fun O P ro => [mv 12 0, to 13 (aInt .leq (.const (.int .i64 0)) (.tmp 12)), mv 14 13, onlyIf 14 true 15 (mv 15 0), onlyIf 14 true 16 (to 16 (aInt .lss (.tmp 15) (.const (.int .i64 100)))), to 17 (aPick (.tmp 14) (.tmp 16) (.const (.bool false)))]
def R135_3 : Rg H := fun O P ro => [mv 18 0, to 19 (aCall 140 [.tmp 18]), mv 4 19]
def R135_4 : Rg H := fun O P ro => [to 5 (aNew O [.int .u8 0, .int .u8 0, .int .u8 0, .int .u8 0, .int .u8 0, .int .u8 0, .int .u8 0, .int .u8 0, .int .u8 0, .int .u8 0, .int .u8 0, .int .u8 0, .int .u8 0, .int .u8 0, .int .u8 0, .int .u8 0, .int .u8 0, .int .u8 0, .int .u8 0, .int .u8 0, .int .u8 0, .int .u8 0, .int .u8 0, .int .u8 0])]
def R135_5 : Rg H := fun O P ro => [mv 20 0, to 21 (aConv .u64 (.tmp 20)), mv 6 21]
def R135_6 : Rg H := fun O P ro => [mv 22 0, to 23 (aInt .lss (.tmp 22) (.const (.int .i64 0)))]
def R135_7 : Rg H := fun O P ro => [mv 24 6, to 25 (aUn .neg (.tmp 24)), mv 6 25]
def R135_8 : Rg H := fun O P ro => [mv 26 6, to 27 (aCall 141 [.tmp 26]), mv 7 27]
def R135_9 : Rg H := fun O P ro => [mv 28 7, to 29 (aInt .add (.const (.int .i64 1)) (.tmp 28)), to 30 (aSliceArr O 24 1 (.tmp 5) (some (.const (.int .i64 1))) (some (.tmp 29))), mv 31 6, to 32 (aCall 142 [.tmp 30, .tmp 31])]
def R135_10 : Rg H := fun O P ro => [mv 33 0, to 34 (aInt .lss (.tmp 33) (.const (.int .i64 0)))]
def R135_11 : Rg H := fun O P ro => [to 35 (aIdxArr 24 1 (.tmp 5) (.const (.int .i64 0))), too (aSt O ro 1 (.tmp 35) (.const (.int .u8 45)))]
def R135_12 : Rg H := fun O P ro => [mv 36 7, to 37 (aInt .add (.const (.int .i64 1)) (.tmp 36)), to 38 (aSliceArr O 24 1 (.tmp 5) none (some (.tmp 37))), to 39 (aB2S O (.tmp 38)), mv 4 39]
def R135_13 : Rg H := fun O P ro => [mv 40 7, to 41 (aInt .add (.const (.int .i64 1)) (.tmp 40)), to 42 (aSliceArr O 24 1 (.tmp 5) (some (.const (.int .i64 1))) (some (.tmp 41))), to 43 (aB2S O (.tmp 42)), mv 4 43]
def R135_14 : Rg H := fun O P ro => [mv 45 0, to 46 (aConv .u64 (.tmp 45)), mv 47 1, mv 48 0, to 49 (aInt .lss (.tmp 48) (.const (.int .i64 0))), to 50 (aCall 143 [.const (.slice none 0 0), .tmp 46, .tmp 47, .tmp 49, .const (.bool false)]), mv 44 50, to 51 (aExt (.tmp 44) 0), to 52 (aExt (.tmp 44) 1), mv 8 51, mv 9 52]
def R135_15 : Rg H := fun O P ro => [mv 53 9, mv 4 53]
def F135 (O : HI H) (P : Program) (ro : Nat) : CodeT H := cSeq (cReg (R135_0 O P ro)) (cSeq (cSeq (cReg (R135_1 O P ro)) (cIf (.tmp 11) (cSeq (cSeq (cReg (R135_2 O P ro)) (cIf (.tmp 17) (cSeq (cReg (R135_3 O P ro)) cRet) cSkip)) (cSeq (cReg (R135_4 O P ro)) (cSeq (cReg (R135_5 O P ro)) (cSeq (cSeq (cReg (R135_6 O P ro)) (cIf (.tmp 23) (cReg (R135_7 O P ro)) cSkip)) (cSeq (cReg (R135_8 O P ro)) (cSeq (cReg (R135_9 O P ro)) (cSeq (cSeq (cReg (R135_10 O P ro)) (cIf (.tmp 34) (cSeq (cReg (R135_11 O P ro)) (cSeq (cReg (R135_12 O P ro)) cRet)) cSkip)) (cSeq (cReg (R135_13 O P ro)) cRet)))))))) cSkip)) (cSeq (cReg (R135_14 O P ro)) (cSeq (cReg (R135_15 O P ro)) cRet)))
theorem F135_fn (O : HI H) (ro : Nat) : Vm.Fn Tryz.prog O ro 135 (F135 O Tryz.prog ro) [ResultVar.tmp 4] Tryz.f135 := ⟨Tryz.func135, by kernel_rfl, by kernel_rfl, by kernel_rfl, by kernel_rfl, by kernel_rfl⟩
def R140_0 : Rg H := fun O P ro => [to 2 (aMove (.const (.string { data := #[] })))]
def R140_1 : Rg H := fun O P ro => [mv 3 0, to 4 (aInt .lss (.tmp 3) (.const (.int .i64 10)))]
def R140_2 : Rg H := fun O P ro => [mv 5 0, mv 6 0, to 7 (aInt .add (.tmp 6) (.const (.int .i64 1))), to 8 (aSliceStr (.const (.string { data := #[48, 49, 50, 51, 52, 53, 54, 55, 56, 57, 97, 98, 99, 100, 101, 102, 103, 104, 105, 106, 107, 108, 109, 110, 111, 112, 113, 114, 115, 116, 117, 118, 119, 120, 121, 122] })) (some (.tmp 5)) (some (.tmp 7))), mv 2 8]
def R140_3 : Rg H := fun O P ro => [mv 9 0, to 10 (aInt .mul (.tmp 9) (.const (.int .i64 2))), mv 11 0, to 12 (aInt .mul (.tmp 11) (.const (.int .i64 2))), to 13 (aInt .add (.tmp 12) (.const (.int .i64 2))), to 14 (aSliceStr (.const (.string strC200)) (some (.tmp 10)) (some (.tmp 13))), mv 2 14]
def F140 (O : HI H) (P : Program) (ro : Nat) : CodeT H := cSeq (cReg (R140_0 O P ro)) (cSeq (cSeq (cReg (R140_1 O P ro)) (cIf (.tmp 4) (cSeq (cReg (R140_2 O P ro)) cRet) cSkip)) (cSeq (cReg (R140_3 O P ro)) cRet))
theorem F140_fn (O : HI H) (ro : Nat) : Vm.Fn Tryz.prog O ro 140 (F140 O Tryz.prog ro) [ResultVar.tmp 2] Tryz.f140 := ⟨Tryz.func140, by kernel_rfl, by kernel_rfl, by kernel_rfl, by kernel_rfl, by kernel_rfl⟩
def R141_0 : Rg H := fun O P ro => [to 2 (aMove (.const (.int .i64 0)))]
def R141_1 : Rg H := fun O P ro => [mv 4 0, to 5 (aCall 147 [.tmp 4]), to 6 (aCall 146 [.tmp 5]), mv 3 6]
def R141_2 : Rg H := fun O P ro => [mv 7 3, mv 8 0, mv 9 3, to 10 (aIdxArr 20 1 (.global 0) (.tmp 9)), to 11 (aLd O (.tmp 10)), to 12 (aInt .geq (.tmp 8) (.tmp 11)), to 13 (aCall 148 [.tmp 12]), to 14 (aInt .add (.tmp 7) (.tmp 13)), mv 2 14]
def F141 (O : HI H) (P : Program) (ro : Nat) : CodeT H := cSeq (cReg (R141_0 O P ro)) (cSeq (cReg (R141_1 O P ro)) (cSeq (cReg (R141_2 O P ro)) cRet))
theorem F141_fn (O : HI H) (ro : Nat) : Vm.Fn Tryz.prog O ro 141 (F141 O Tryz.prog ro) [ResultVar.tmp 2] Tryz.f141 := ⟨Tryz.func141, by kernel_rfl, by kernel_rfl, by kernel_rfl, by kernel_rfl, by kernel_rfl⟩
def R142_0 : Rg H := fun O P ro => [mv 17 0, to 18 (aLenSl (.tmp 17)), mv 4 18]
def R142_1 : Rg H := fun O P ro => [mv 19 4, to 20 (aInt .geq (.tmp 19) (.const (.int .i64 8)))]
def R142_2 : Rg H := fun O P ro => [mv 21 1, to 22 (aInt .rem (.tmp 21) (.const (.int .u64 100000000))), to 23 (aConv .u32 (.tmp 22)), mv 5 23]
def R142_3 : Rg H := fun O P ro => [mv 24 1, to 25 (aInt .quo (.tmp 24) (.const (.int .u64 100000000))), mv 1 25]
def R142_4 : Rg H := fun O P ro => [mv 26 5, to 27 (aInt .quo (.tmp 26) (.const (.int .u32 10000))), mv 28 5, to 29 (aInt .rem (.tmp 28) (.const (.int .u32 10000))), mv 6 27, mv 7 29]
def R142_5 : Rg H := fun O P ro => [mv 30 7, to 31 (aInt .quo (.tmp 30) (.const (.int .u32 100))), to 32 (aInt .mul (.tmp 31) (.const (.int .u32 2))), mv 33 7, to 34 (aInt .rem (.tmp 33) (.const (.int .u32 100))), to 35 (aInt .mul (.tmp 34) (.const (.int .u32 2))), mv 8 32, mv 9 35]
def R142_6 : Rg H := fun O P ro => [mv 36 6, to 37 (aInt .quo (.tmp 36) (.const (.int .u32 100))), to 38 (aInt .mul (.tmp 37) (.const (.int .u32 2))), mv 39 6, to 40 (aInt .rem (.tmp 39) (.const (.int .u32 100))), to 41 (aInt .mul (.tmp 40) (.const (.int .u32 2))), mv 10 38, mv 11 41]
def R142_7 : Rg H := fun O P ro => [mv 42 0, mv 43 4, to 44 (aInt .sub (.tmp 43) (.const (.int .i64 1))), mv 45 0, mv 46 4, to 47 (aInt .sub (.tmp 46) (.const (.int .i64 2))), mv 48 9, to 49 (aInt .add (.tmp 48) (.const (.int .u32 1))), to 50 (aIdxStr (.const (.string strC200)) (.tmp 49)), mv 51 9, to 52 (aIdxStr (.const (.string strC200)) (.tmp 51)), to 53 (aIdx 1 (.tmp 42) (.tmp 44)), too (aSt O ro 1 (.tmp 53) (.tmp 50)), to 54 (aIdx 1 (.tmp 45) (.tmp 47)), too (aSt O ro 1 (.tmp 54) (.tmp 52))]
def R142_8 : Rg H := fun O P ro => [mv 55 0, mv 56 4, to 57 (aInt .sub (.tmp 56) (.const (.int .i64 3))), mv 58 0, mv 59 4, to 60 (aInt .sub (.tmp 59) (.const (.int .i64 4))), mv 61 8, to 62 (aInt .add (.tmp 61) (.const (.int .u32 1))), to 63 (aIdxStr (.const (.string strC200)) (.tmp 62)), mv 64 8, to 65 (aIdxStr (.const (.string strC200)) (.tmp 64)), to 66 (aIdx 1 (.tmp 55) (.tmp 57)), too (aSt O ro 1 (.tmp 66) (.tmp 63)), to 67 (aIdx 1 (.tmp 58) (.tmp 60)), too (aSt O ro 1 (.tmp 67) (.tmp 65))]
def R142_9 : Rg H := fun O P ro => [mv 68 0, mv 69 4, to 70 (aInt .sub (.tmp 69) (.const (.int .i64 5))), mv 71 0, mv 72 4, to 73 (aInt .sub (.tmp 72) (.const (.int .i64 6))), mv 74 11, to 75 (aInt .add (.tmp 74) (.const (.int .u32 1))), to 76 (aIdxStr (.const (.string strC200)) (.tmp 75)), mv 77 11, to 78 (aIdxStr (.const (.string strC200)) (.tmp 77)), to 79 (aIdx 1 (.tmp 68) (.tmp 70)), too (aSt O ro 1 (.tmp 79) (.tmp 76)), to 80 (aIdx 1 (.tmp 71) (.tmp 73)), too (aSt O ro 1 (.tmp 80) (.tmp 78))]
def R142_10 : Rg H := fun O P ro => [mv 81 0, mv 82 4, to 83 (aInt .sub (.tmp 82) (.const (.int .i64 7))), mv 84 0, mv 85 4, to 86 (aInt .sub (.tmp 85) (.const (.int .i64 8))), mv 87 10, to 88 (aInt .add (.tmp 87) (.const (.int .u32 1))), to 89 (aIdxStr (.const (.string strC200)) (.tmp 88)), mv 90 10, to 91 (aIdxStr (.const (.string strC200)) (.tmp 90)), to 92 (aIdx 1 (.tmp 81) (.tmp 83)), too (aSt O ro 1 (.tmp 92) (.tmp 89)), to 93 (aIdx 1 (.tmp 84) (.tmp 86)), too (aSt O ro 1 (.tmp 93) (.tmp 91))]
def R142_11 : Rg H := fun O P ro => [mv 94 4, to 95 (aInt .sub (.tmp 94) (.const (.int .i64 8))), mv 4 95]
def R142_12 : Rg H := fun O P ro => [mv 96 1, to 97 (aConv .u32 (.tmp 96)), mv 12 97]
def R142_13 : Rg H := fun O P ro => [mv 98 4, to 99 (aInt .geq (.tmp 98) (.const (.int .i64 4)))]
def R142_14 : Rg H := fun O P ro => [mv 100 12, to 101 (aInt .rem (.tmp 100) (.const (.int .u32 10000))), mv 13 101]
def R142_15 : Rg H := fun O P ro => [mv 102 12, to 103 (aInt .quo (.tmp 102) (.const (.int .u32 10000))), mv 12 103]
def R142_16 : Rg H := fun O P ro => [mv 104 13, to 105 (aInt .quo (.tmp 104) (.const (.int .u32 100))), to 106 (aInt .mul (.tmp 105) (.const (.int .u32 2))), mv 107 13, to 108 (aInt .rem (.tmp 107) (.const (.int .u32 100))), to 109 (aInt .mul (.tmp 108) (.const (.int .u32 2))), mv 14 106, mv 15 109]
def R142_17 : Rg H := fun O P ro => [mv 110 0, mv 111 4, to 112 (aInt .sub (.tmp 111) (.const (.int .i64 1))), mv 113 0, mv 114 4, to 115 (aInt .sub (.tmp 114) (.const (.int .i64 2))), mv 116 15, to 117 (aInt .add (.tmp 116) (.const (.int .u32 1))), to 118 (aIdxStr (.const (.string strC200)) (.tmp 117)), mv 119 15, to 120 (aIdxStr (.const (.string strC200)) (.tmp 119)), to 121 (aIdx 1 (.tmp 110) (.tmp 112)), too (aSt O ro 1 (.tmp 121) (.tmp 118)), to 122 (aIdx 1 (.tmp 113) (.tmp 115)), too (aSt O ro 1 (.tmp 122) (.tmp 120))]
def R142_18 : Rg H := fun O P ro => [mv 123 0, mv 124 4, to 125 (aInt .sub (.tmp 124) (.const (.int .i64 3))), mv 126 0, mv 127 4, to 128 (aInt .sub (.tmp 127) (.const (.int .i64 4))), mv 129 14, to 130 (aInt .add (.tmp 129) (.const (.int .u32 1))), to 131 (aIdxStr (.const (.string strC200)) (.tmp 130)), mv 132 14, to 133 (aIdxStr (.const (.string strC200)) (.tmp 132)), to 134 (aIdx 1 (.tmp 123) (.tmp 125)), too (aSt O ro 1 (.tmp 134) (.tmp 131)), to 135 (aIdx 1 (.tmp 126) (.tmp 128)), too (aSt O ro 1 (.tmp 135) (.tmp 133))]
def R142_19 : Rg H := fun O P ro => [mv 136 4, to 137 (aInt .sub (.tmp 136) (.const (.int .i64 4))), mv 4 137]
def R142_20 : Rg H := fun O P ro => [mv 138 4, to 139 (aInt .geq (.tmp 138) (.const (.int .i64 2)))]
def R142_21 : Rg H := fun O P ro => [mv 140 12, to 141 (aInt .rem (.tmp 140) (.const (.int .u32 100))), to 142 (aInt .mul (.tmp 141) (.const (.int .u32 2))), mv 16 142]
def R142_22 : Rg H := fun O P ro => [mv 143 12, to 144 (aInt .quo (.tmp 143) (.const (.int .u32 100))), mv 12 144]
def R142_23 : Rg H := fun O P ro => [mv 145 0, mv 146 4, to 147 (aInt .sub (.tmp 146) (.const (.int .i64 1))), mv 148 0, mv 149 4, to 150 (aInt .sub (.tmp 149) (.const (.int .i64 2))), mv 151 16, to 152 (aInt .add (.tmp 151) (.const (.int .u32 1))), to 153 (aIdxStr (.const (.string strC200)) (.tmp 152)), mv 154 16, to 155 (aIdxStr (.const (.string strC200)) (.tmp 154)), to 156 (aIdx 1 (.tmp 145) (.tmp 147)), too (aSt O ro 1 (.tmp 156) (.tmp 153)), to 157 (aIdx 1 (.tmp 148) (.tmp 150)), too (aSt O ro 1 (.tmp 157) (.tmp 155))]
def R142_24 : Rg H := fun O P ro => [mv 158 4, to 159 (aInt .sub (.tmp 158) (.const (.int .i64 2))), mv 4 159]
def R142_25 : Rg H := fun O P ro => [mv 160 4, to 161 (aInt .gtr (.tmp 160) (.const (.int .i64 0)))]
def R142_26 : Rg H := fun O P ro => [mv 162 0, mv 163 12, to 164 (aInt .add (.const (.int .u32 48)) (.tmp 163)), to 165 (aConv .u8 (.tmp 164)), to 166 (aIdx 1 (.tmp 162) (.const (.int .i64 0))), too (aSt O ro 1 (.tmp 166) (.tmp 165))]
def W142_0 (O : HI H) (P : Program) (ro : Nat) : CodeT H := cSeq (cSeq (cReg (R142_1 O P ro)) (cIf (.tmp 20) cSkip (cExit 0))) (cBlk 1 (cSeq (cReg (R142_2 O P ro)) (cSeq (cReg (R142_3 O P ro)) (cSeq (cReg (R142_4 O P ro)) (cSeq (cReg (R142_5 O P ro)) (cSeq (cReg (R142_6 O P ro)) (cSeq (cReg (R142_7 O P ro)) (cSeq (cReg (R142_8 O P ro)) (cSeq (cReg (R142_9 O P ro)) (cSeq (cReg (R142_10 O P ro)) (cReg (R142_11 O P ro))))))))))))
def F142 (O : HI H) (P : Program) (ro : Nat) : CodeT H := cSeq (cReg (R142_0 O P ro)) (cSeq (cBlk 0 (cLoop (W142_0 O P ro))) (cSeq (cReg (R142_12 O P ro)) (cSeq (cSeq (cReg (R142_13 O P ro)) (cIf (.tmp 99) (cSeq (cReg (R142_14 O P ro)) (cSeq (cReg (R142_15 O P ro)) (cSeq (cReg (R142_16 O P ro)) (cSeq (cReg (R142_17 O P ro)) (cSeq (cReg (R142_18 O P ro)) (cReg (R142_19 O P ro))))))) cSkip)) (cSeq (cSeq (cReg (R142_20 O P ro)) (cIf (.tmp 139) (cSeq (cReg (R142_21 O P ro)) (cSeq (cReg (R142_22 O P ro)) (cSeq (cReg (R142_23 O P ro)) (cReg (R142_24 O P ro))))) cSkip)) (cSeq (cReg (R142_25 O P ro)) (cIf (.tmp 161) (cReg (R142_26 O P ro)) cSkip))))))
theorem F142_fn (O : HI H) (ro : Nat) : Vm.Fn Tryz.prog O ro 142 (F142 O Tryz.prog ro) [] Tryz.f142 := ⟨Tryz.func142, by kernel_rfl, by kernel_rfl, by kernel_rfl, by kernel_rfl, by kernel_rfl⟩
def R146_0 : Rg H := fun O P ro => [to 2 (aMove (.const (.int .i64 0)))]
def R146_1 : Rg H := fun O P ro => [mv 3 0, to 4 (aInt .mul (.tmp 3) (.const (.int .i64 78913))), to 5 (aShift .shr (.tmp 4) (.const (.int .u64 18))), mv 2 5]
def F146 (O : HI H) (P : Program) (ro : Nat) : CodeT H := cSeq (cReg (R146_0 O P ro)) (cSeq (cReg (R146_1 O P ro)) cRet)
theorem F146_fn (O : HI H) (ro : Nat) : Vm.Fn Tryz.prog O ro 146 (F146 O Tryz.prog ro) [ResultVar.tmp 2] Tryz.f146 := ⟨Tryz.func146, by kernel_rfl, by kernel_rfl, by kernel_rfl, by kernel_rfl, by kernel_rfl⟩
def R147_0 : Rg H := fun O P ro => [to 2 (aMove (.const (.int .i64 0)))]
def R147_1 : Rg H := fun O P ro => [mv 3 0, to 4 (aInt .geq (.tmp 3) (.const (.int .u64 4294967296)))]
def R147_2 : Rg H := fun O P ro => [mv 5 0, to 6 (aShift .shr (.tmp 5) (.const (.int .u64 32))), mv 0 6]
def R147_3 : Rg H := fun O P ro => [to 2 (aMove (.const (.int .i64 32)))]
def R147_4 : Rg H := fun O P ro => [mv 7 0, to 8 (aInt .geq (.tmp 7) (.const (.int .u64 65536)))]
def R147_5 : Rg H := fun O P ro => [mv 9 0, to 10 (aShift .shr (.tmp 9) (.const (.int .u64 16))), mv 0 10]
def R147_6 : Rg H := fun O P ro => [mv 11 2, to 12 (aInt .add (.tmp 11) (.const (.int .i64 16))), mv 2 12]
def R147_7 : Rg H := fun O P ro => [mv 13 0, to 14 (aInt .geq (.tmp 13) (.const (.int .u64 256)))]
def R147_8 : Rg H := fun O P ro => [mv 15 0, to 16 (aShift .shr (.tmp 15) (.const (.int .u64 8))), mv 0 16]
def R147_9 : Rg H := fun O P ro => [mv 17 2, to 18 (aInt .add (.tmp 17) (.const (.int .i64 8))), mv 2 18]
def R147_10 : Rg H := fun O P ro => [mv 19 2, mv 20 0, to 21 (aConv .u8 (.tmp 20)), to 22 (aIdxStr (.const (.string strC256)) (.tmp 21)), to 23 (aConv .i64 (.tmp 22)), to 24 (aInt .add (.tmp 19) (.tmp 23)), mv 2 24]
def F147 (O : HI H) (P : Program) (ro : Nat) : CodeT H := cSeq (cReg (R147_0 O P ro)) (cSeq (cSeq (cReg (R147_1 O P ro)) (cIf (.tmp 4) (cSeq (cReg (R147_2 O P ro)) (cReg (R147_3 O P ro))) cSkip)) (cSeq (cSeq (cReg (R147_4 O P ro)) (cIf (.tmp 8) (cSeq (cReg (R147_5 O P ro)) (cReg (R147_6 O P ro))) cSkip)) (cSeq (cSeq (cReg (R147_7 O P ro)) (cIf (.tmp 14) (cSeq (cReg (R147_8 O P ro)) (cReg (R147_9 O P ro))) cSkip)) (cSeq (cReg (R147_10 O P ro)) cRet))))
theorem F147_fn (O : HI H) (ro : Nat) : Vm.Fn Tryz.prog O ro 147 (F147 O Tryz.prog ro) [ResultVar.tmp 2] Tryz.f147 := ⟨Tryz.func147, by kernel_rfl, by kernel_rfl, by kernel_rfl, by kernel_rfl, by kernel_rfl⟩
def R148_0 : Rg H := fun O P ro => [to 2 (aMove (.const (.int .i64 0)))]
def R148_1 : Rg H := fun O P ro => [mv 3 0]
def R148_2 : Rg H := fun O P ro => [to 2 (aMove (.const (.int .i64 1)))]
def R148_3 : Rg H := fun O P ro => [to 2 (aMove (.const (.int .i64 0)))]
def F148 (O : HI H) (P : Program) (ro : Nat) : CodeT H := cSeq (cReg (R148_0 O P ro)) (cSeq (cSeq (cReg (R148_1 O P ro)) (cIf (.tmp 3) (cSeq (cReg (R148_2 O P ro)) cRet) cSkip)) (cSeq (cReg (R148_3 O P ro)) cRet))
theorem F148_fn (O : HI H) (ro : Nat) : Vm.Fn Tryz.prog O ro 148 (F148 O Tryz.prog ro) [ResultVar.tmp 2] Tryz.f148 := ⟨Tryz.func148, by kernel_rfl, by kernel_rfl, by kernel_rfl, by kernel_rfl, by kernel_rfl⟩
end
end Go.Proofs.YtlakdngplpabdaaGreatDoor
