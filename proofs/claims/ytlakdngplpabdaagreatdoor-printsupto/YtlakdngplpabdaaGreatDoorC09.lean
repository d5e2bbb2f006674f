/- Own work. -/
import Derived.Test.YtlakdngplpabdaaGreatDoorC08
import Derived.Test.YtlakdngplpabdaaGreatDoorProg
import Derived.KernelRfl
namespace Go.Proofs.YtlakdngplpabdaaGreatDoor
open Go.Vm Go.Proofs
set_option linter.unusedVariables false
set_option maxRecDepth 100000
section
variable {H : Type}
def R3_0 : Rg H := fun O P ro => [to 2 (aMove (.const (.bool false)))]
def R3_1 : Rg H := fun O P ro => [mv 3 0, to 4 (aCall 6 [.tmp 3, .const (.int .i64 1), .const (.int .i64 2)]), mv 2 4]
def F3 (O : HI H) (P : Program) (ro : Nat) : CodeT H := cSeq (cReg (R3_0 O P ro)) (cSeq (cReg (R3_1 O P ro)) cRet)
theorem F3_fn (O : HI H) (ro : Nat) : Vm.Fn Tryz.prog O ro 3 (F3 O Tryz.prog ro) [ResultVar.tmp 2] Tryz.f3 := ⟨Tryz.func3, by kernel_rfl, by kernel_rfl, by kernel_rfl, by kernel_rfl, by kernel_rfl⟩
def R4_0 : Rg H := fun O P ro => [to 2 (aMove (.const (.bool false)))]
def R4_1 : Rg H := fun O P ro => [mv 3 0, to 4 (aCall 6 [.tmp 3, .const (.int .i64 3), .const (.int .i64 4)]), mv 2 4]
def F4 (O : HI H) (P : Program) (ro : Nat) : CodeT H := cSeq (cReg (R4_0 O P ro)) (cSeq (cReg (R4_1 O P ro)) cRet)
theorem F4_fn (O : HI H) (ro : Nat) : Vm.Fn Tryz.prog O ro 4 (F4 O Tryz.prog ro) [ResultVar.tmp 2] Tryz.f4 := ⟨Tryz.func4, by kernel_rfl, by kernel_rfl, by kernel_rfl, by kernel_rfl, by kernel_rfl⟩
def R5_0 : Rg H := fun O P ro => [to 2 (aMove (.const (.bool false)))]
def R5_1 : Rg H := fun O P ro => [mv 3 0, to 4 (aCall 6 [.tmp 3, .const (.int .i64 5), .const (.int .i64 7)]), mv 2 4]
def F5 (O : HI H) (P : Program) (ro : Nat) : CodeT H := cSeq (cReg (R5_0 O P ro)) (cSeq (cReg (R5_1 O P ro)) cRet)
theorem F5_fn (O : HI H) (ro : Nat) : Vm.Fn Tryz.prog O ro 5 (F5 O Tryz.prog ro) [ResultVar.tmp 2] Tryz.f5 := ⟨Tryz.func5, by kernel_rfl, by kernel_rfl, by kernel_rfl, by kernel_rfl, by kernel_rfl⟩
def R6_0 : Rg H := fun O P ro => [to 6 (aMove (.const (.bool false)))]
def R6_1 : Rg H := fun O P ro => [mv 9 0, to 10 (aCall 7 [.tmp 9]), mv 7 10]
def R6_2 : Rg H := fun O P ro => [mv 11 7, to 12 (aInt .lss (.tmp 11) (.const (.int .i64 0)))]
def R6_3 : Rg H := fun O P ro => [to 6 (aMove (.const (.bool true)))]
def R6_4 : Rg H := fun O P ro => [mv 13 0, mv 14 7, to 15 (aIdx 5 (.tmp 13) (.tmp 14)), to 16 (aFld 0 (.tmp 15)), to 17 (aLd O (.tmp 16)), mv 8 17]
def R6_5 : Rg H := fun O P ro => [mv 18 8, to 19 (aInt .neq (.tmp 18) (.const (.int .i64 1))), mv 20 19, onlyIf 20 true 21 (mv 21 8), onlyIf 20 true 22 (to 22 (aInt .neq (.tmp 21) (.const (.int .i64 2)))), to 23 (aPick (.tmp 20) (.tmp 22) (.const (.bool false))), mv 24 23, onlyIf 24 true 25 (mv 25 8), onlyIf 24 true 26 (mv 26 1), onlyIf 24 true 27 (to 27 (aInt .lss (.tmp 25) (.tmp 26))), onlyIf 24 true 28 (mv 28 27), onlyIf 28 false 29 (mv 29 8), onlyIf 28 false 30 (mv 30 2), onlyIf 28 false 31 (to 31 (aInt .gtr (.tmp 29) (.tmp 30))), onlyIf 24 true 32 (to 32 (aPick (.tmp 28) (.const (.bool true)) (.tmp 31))), to 33 (aPick (.tmp 24) (.tmp 32) (.const (.bool false))), mv 6 33]
def F6 (O : HI H) (P : Program) (ro : Nat) : CodeT H := cSeq (cReg (R6_0 O P ro)) (cSeq (cReg (R6_1 O P ro)) (cSeq (cSeq (cReg (R6_2 O P ro)) (cIf (.tmp 12) (cSeq (cReg (R6_3 O P ro)) cRet) cSkip)) (cSeq (cReg (R6_4 O P ro)) (cSeq (cReg (R6_5 O P ro)) cRet))))
theorem F6_fn (O : HI H) (ro : Nat) : Vm.Fn Tryz.prog O ro 6 (F6 O Tryz.prog ro) [ResultVar.tmp 6] Tryz.f6 := ⟨Tryz.func6, by kernel_rfl, by kernel_rfl, by kernel_rfl, by kernel_rfl, by kernel_rfl⟩
def R7_0 : Rg H := fun O P ro => [to 2 (aMove (.const (.int .i64 0)))]
def R7_1 : Rg H := fun O P ro => [to 6 (aBuild #[.slice none 0 0, .slice none 0 0, .slice none 0 0, .slice none 0 0, .slice none 0 0, .int .i64 0, .int .i64 0, .int .i64 0] [(0, 1), (1, 1), (2, 1), (3, 1), (4, 1), (5, 1), (6, 1), (7, 1)] []), to 7 (aBox O (.tmp 6)), mv 3 7]
def R7_2 : Rg H := fun O P ro => [to 4 (aMove (.const (.int .i64 0)))]
def R7_3 : Rg H := fun O P ro => [mv 8 4, mv 9 0, to 10 (aLenSl (.tmp 9)), to 11 (aInt .lss (.tmp 8) (.tmp 10)), mv 12 11, onlyIf 12 true 13 (mv 13 4), onlyIf 12 true 14 (to 14 (aInt .lss (.tmp 13) (.const (.int .i64 1073741824)))), to 15 (aPick (.tmp 12) (.tmp 14) (.const (.bool false)))]
def R7_5 : Rg H := fun O P ro => [mv 18 3, mv 19 0, mv 20 4, to 21 (aIdx 5 (.tmp 19) (.tmp 20)), to 22 (aLdN O 5 (.tmp 21)), to 23 (aCall 8 [.tmp 18, .tmp 22]), mv 5 23]
def R7_6 : Rg H := fun O P ro => [mv 24 5, to 25 (aUn .not (.tmp 24))]
def R7_7 : Rg H := fun O P ro => [mv 26 4, mv 2 26]
def R7_8 : Rg H := fun O P ro => [mv 27 3, to 28 (aCall 9 [.tmp 27]), mv 5 28]
def R7_9 : Rg H := fun O P ro => [mv 29 5, to 30 (aUn .not (.tmp 29))]
def R7_10 : Rg H := fun O P ro => [mv 31 4, mv 2 31]
def R7_4 : Rg H := fun O P ro => [mv 16 4, to 17 (aInt .add (.tmp 16) (.const (.int .i64 1))), mv 4 17]
def R7_11 : Rg H := fun O P ro => [to 2 (aMove (.const (.int .i64 (-1))))]
def W7_0 (O : HI H) (P : Program) (ro : Nat) : CodeT H := cSeq (cSeq (cReg (R7_3 O P ro)) (cIf (.tmp 15) cSkip (cExit 0))) (cSeq (cBlk 1 (cSeq (cReg (R7_5 O P ro)) (cSeq (cSeq (cReg (R7_6 O P ro)) (cIf (.tmp 25) (cSeq (cReg (R7_7 O P ro)) cRet) cSkip)) (cSeq (cReg (R7_8 O P ro)) (cSeq (cReg (R7_9 O P ro)) (cIf (.tmp 30) (cSeq (cReg (R7_10 O P ro)) cRet) cSkip)))))) (cReg (R7_4 O P ro)))
def F7 (O : HI H) (P : Program) (ro : Nat) : CodeT H := cSeq (cReg (R7_0 O P ro)) (cSeq (cReg (R7_1 O P ro)) (cSeq (cSeq (cReg (R7_2 O P ro)) (cBlk 0 (cLoop (W7_0 O P ro)))) (cSeq (cReg (R7_11 O P ro)) cRet)))
theorem F7_fn (O : HI H) (ro : Nat) : Vm.Fn Tryz.prog O ro 7 (F7 O Tryz.prog ro) [ResultVar.tmp 2] Tryz.f7 := ⟨Tryz.func7, by kernel_rfl, by kernel_rfl, by kernel_rfl, by kernel_rfl, by kernel_rfl⟩
def R8_0 : Rg H := fun O P ro => [to 3 (aBox O (.tmp 1)), to 4 (aMove (.const (.bool false)))]
def R8_1 : Rg H := fun O P ro => [mv 11 0, to 12 (aLdN O 5 (.tmp 3)), to 13 (aCall 10 [.tmp 11, .tmp 12]), mv 5 13]
def R8_2 : Rg H := fun O P ro => [mv 14 5]
def R8_3 : Rg H := fun O P ro => [to 4 (aMove (.const (.bool true)))]
def R8_4 : Rg H := fun O P ro => [to 15 (aFld 0 (.tmp 3)), to 16 (aLd O (.tmp 15))]
def R8_5 : Rg H := fun O P ro => [to 18 (aInt .eql (.tmp 16) (.const (.int .i64 1))), mv 17 18]
def R8_6 : Rg H := fun O P ro => [mv 19 0, to 20 (aFld 4 (.tmp 3)), to 21 (aLd O (.tmp 20)), to 22 (aCall 11 [.tmp 19, .tmp 21]), mv 4 22]
def R8_7 : Rg H := fun O P ro => [to 24 (aInt .eql (.tmp 16) (.const (.int .i64 2))), mv 23 24]
def R8_8 : Rg H := fun O P ro => [mv 25 0, to 26 (aNil (.tmp 25)), to 27 (aFld 1 (.tmp 26)), to 28 (aLd O (.tmp 27)), to 29 (aLenSl (.tmp 28)), to 30 (aInt .gtr (.tmp 29) (.const (.int .i64 0)))]
def R8_9 : Rg H := fun O P ro => [to 31 (aFld 1 (.tmp 3)), to 32 (aLd O (.tmp 31)), mv 33 0, to 34 (aNil (.tmp 33)), to 35 (aFld 1 (.tmp 34)), to 36 (aLd O (.tmp 35)), to 37 (aLenSl (.tmp 36)), to 38 (aCall 12 [.tmp 32, .tmp 37]), mv 6 38]
def R8_10 : Rg H := fun O P ro => [mv 39 0, mv 40 0, to 41 (aNil (.tmp 40)), to 42 (aFld 1 (.tmp 41)), to 43 (aLd O (.tmp 42)), mv 44 6, to 45 (aIdx 1 (.tmp 43) (.tmp 44)), to 46 (aLd O (.tmp 45)), to 47 (aCall 11 [.tmp 39, .tmp 46]), mv 4 47]
def R8_11 : Rg H := fun O P ro => [to 49 (aInt .eql (.tmp 16) (.const (.int .i64 3))), mv 48 49]
def R8_12 : Rg H := fun O P ro => [to 50 (aInt .eql (.tmp 16) (.const (.int .i64 4))), mv 48 50]
def R8_13 : Rg H := fun O P ro => [to 51 (aInt .eql (.tmp 16) (.const (.int .i64 5))), mv 48 51]
def R8_14 : Rg H := fun O P ro => [to 52 (aInt .eql (.tmp 16) (.const (.int .i64 6))), mv 48 52]
def R8_15 : Rg H := fun O P ro => [to 53 (aInt .eql (.tmp 16) (.const (.int .i64 7))), mv 48 53]
def R8_16 : Rg H := fun O P ro => [mv 54 0, to 55 (aNil (.tmp 54)), to 56 (aFld 0 (.tmp 55)), to 57 (aLd O (.tmp 56)), to 58 (aLenSl (.tmp 57)), to 59 (aInt .gtr (.tmp 58) (.const (.int .i64 0)))]
def R8_17 : Rg H := fun O P ro => [to 60 (aFld 1 (.tmp 3)), to 61 (aLd O (.tmp 60)), mv 62 0, to 63 (aNil (.tmp 62)), to 64 (aFld 0 (.tmp 63)), to 65 (aLd O (.tmp 64)), to 66 (aLenSl (.tmp 65)), to 67 (aCall 12 [.tmp 61, .tmp 66]), mv 7 67]
def R8_18 : Rg H := fun O P ro => [mv 68 0, mv 69 0, to 70 (aNil (.tmp 69)), to 71 (aFld 0 (.tmp 70)), to 72 (aLd O (.tmp 71)), mv 73 7, to 74 (aIdx 2 (.tmp 72) (.tmp 73)), to 75 (aLdN O 2 (.tmp 74)), to 76 (aLdN O 5 (.tmp 3)), to 77 (aCall 13 [.tmp 68, .tmp 75, .tmp 76]), mv 4 77]
def R8_19 : Rg H := fun O P ro => [to 79 (aInt .eql (.tmp 16) (.const (.int .i64 8))), mv 78 79]
def R8_20 : Rg H := fun O P ro => [mv 80 0, to 81 (aFld 4 (.tmp 3)), to 82 (aLd O (.tmp 81)), to 83 (aFld 1 (.tmp 3)), to 84 (aLd O (.tmp 83)), to 85 (aCall 14 [.tmp 80, .tmp 82, .tmp 84]), mv 4 85]
def R8_21 : Rg H := fun O P ro => [to 87 (aInt .eql (.tmp 16) (.const (.int .i64 9))), mv 86 87]
def R8_22 : Rg H := fun O P ro => [mv 88 0, to 89 (aNil (.tmp 88)), to 90 (aFld 1 (.tmp 89)), to 91 (aLd O (.tmp 90)), to 92 (aLenSl (.tmp 91)), to 93 (aInt .gtr (.tmp 92) (.const (.int .i64 0)))]
def R8_23 : Rg H := fun O P ro => [to 94 (aFld 2 (.tmp 3)), to 95 (aLd O (.tmp 94)), mv 96 0, to 97 (aNil (.tmp 96)), to 98 (aFld 1 (.tmp 97)), to 99 (aLd O (.tmp 98)), to 100 (aLenSl (.tmp 99)), to 101 (aCall 12 [.tmp 95, .tmp 100]), mv 8 101]
def R8_24 : Rg H := fun O P ro => [mv 102 0, mv 103 0, to 104 (aNil (.tmp 103)), to 105 (aFld 1 (.tmp 104)), to 106 (aLd O (.tmp 105)), mv 107 8, to 108 (aIdx 1 (.tmp 106) (.tmp 107)), to 109 (aLd O (.tmp 108)), to 110 (aFld 1 (.tmp 3)), to 111 (aLd O (.tmp 110)), to 112 (aCall 14 [.tmp 102, .tmp 109, .tmp 111]), mv 4 112]
def R8_25 : Rg H := fun O P ro => [to 114 (aInt .eql (.tmp 16) (.const (.int .i64 10))), mv 113 114]
def R8_26 : Rg H := fun O P ro => [to 115 (aCall 15 []), mv 9 115]
def R8_27 : Rg H := fun O P ro => [mv 116 9, to 117 (aPtrNil false (.tmp 116) (.const (.pointer none)))]
def R8_28 : Rg H := fun O P ro => [to 4 (aMove (.const (.bool false)))]
def R8_29 : Rg H := fun O P ro => [mv 118 0, mv 119 0, to 120 (aNil (.tmp 119)), to 121 (aFld 2 (.tmp 120)), to 122 (aLd O (.tmp 121)), mv 123 9, to 124 (aBuild #[.pointer none, .slice none 0 0, .int .i64 0, .slice none 0 0, .slice none 0 0, .bool false, .int .i64 0, .slice none 0 0, .int .i64 0, .int .i64 0] [(0, 1), (1, 1), (2, 1), (3, 1), (4, 1), (5, 1), (6, 1), (7, 1), (8, 1), (9, 1)] [(0, .tmp 123)]), to 125 (aMkSl O 10 1 #[.pointer none, .slice none 0 0, .int .i64 0, .slice none 0 0, .slice none 0 0, .bool false, .int .i64 0, .slice none 0 0, .int .i64 0, .int .i64 0] [(0, .tmp 124)]), to 126 (aApp O ro 10 144 (.tmp 122) (.tmp 125)), to 127 (aNil (.tmp 118)), to 128 (aFld 2 (.tmp 127)), too (aSt O ro 1 (.tmp 128) (.tmp 126))]
def R8_30 : Rg H := fun O P ro => [to 130 (aInt .eql (.tmp 16) (.const (.int .i64 11))), mv 129 130]
def R8_31 : Rg H := fun O P ro => [to 131 (aInt .eql (.tmp 16) (.const (.int .i64 12))), mv 129 131]
def R8_32 : Rg H := fun O P ro => [to 132 (aInt .eql (.tmp 16) (.const (.int .i64 13))), mv 129 132]
def R8_33 : Rg H := fun O P ro => [to 133 (aInt .eql (.tmp 16) (.const (.int .i64 14))), mv 129 133]
def R8_34 : Rg H := fun O P ro => [to 134 (aInt .eql (.tmp 16) (.const (.int .i64 15))), mv 129 134]
def R8_35 : Rg H := fun O P ro => [to 135 (aInt .eql (.tmp 16) (.const (.int .i64 21))), mv 129 135]
def R8_36 : Rg H := fun O P ro => [to 136 (aInt .eql (.tmp 16) (.const (.int .i64 22))), mv 129 136]
def R8_37 : Rg H := fun O P ro => [mv 137 0, to 138 (aNil (.tmp 137)), to 139 (aFld 2 (.tmp 138)), to 140 (aLd O (.tmp 139)), to 141 (aLenSl (.tmp 140)), to 142 (aInt .gtr (.tmp 141) (.const (.int .i64 0)))]
def R8_38 : Rg H := fun O P ro => [to 143 (aFld 1 (.tmp 3)), to 144 (aLd O (.tmp 143)), mv 145 0, to 146 (aNil (.tmp 145)), to 147 (aFld 2 (.tmp 146)), to 148 (aLd O (.tmp 147)), to 149 (aLenSl (.tmp 148)), to 150 (aCall 12 [.tmp 144, .tmp 149]), mv 10 150]
def R8_39 : Rg H := fun O P ro => [mv 151 0, mv 152 0, to 153 (aNil (.tmp 152)), to 154 (aFld 2 (.tmp 153)), to 155 (aLd O (.tmp 154)), mv 156 10, to 157 (aIdx 10 (.tmp 155) (.tmp 156)), to 158 (aLdN O 5 (.tmp 3)), to 159 (aCall 16 [.tmp 151, .tmp 157, .tmp 158]), mv 4 159]
def R8_40 : Rg H := fun O P ro => [to 161 (aInt .eql (.tmp 16) (.const (.int .i64 16))), mv 160 161]
def R8_41 : Rg H := fun O P ro => [to 162 (aCall 17 []), mv 4 162]
def R8_42 : Rg H := fun O P ro => [to 4 (aMove (.const (.bool true)))]
def F8 (O : HI H) (P : Program) (ro : Nat) : CodeT H := cSeq (cReg (R8_0 O P ro)) (cSeq (cReg (R8_1 O P ro)) (cSeq (cSeq (cReg (R8_2 O P ro)) (cIf (.tmp 14) (cSeq (cReg (R8_3 O P ro)) cRet) cSkip)) (cSeq (cSeq (cReg (R8_4 O P ro)) (cBlk 0 (cSeq (cReg (R8_5 O P ro)) (cIf (.tmp 17) (cSeq (cReg (R8_6 O P ro)) cRet) (cSeq (cReg (R8_7 O P ro)) (cIf (.tmp 23) (cSeq (cReg (R8_8 O P ro)) (cIf (.tmp 30) (cSeq (cReg (R8_9 O P ro)) (cSeq (cReg (R8_10 O P ro)) cRet)) cSkip)) (cSeq (cSeq (cReg (R8_11 O P ro)) (cIf (.tmp 48) cSkip (cSeq (cReg (R8_12 O P ro)) (cIf (.tmp 48) cSkip (cSeq (cReg (R8_13 O P ro)) (cIf (.tmp 48) cSkip (cSeq (cReg (R8_14 O P ro)) (cIf (.tmp 48) cSkip (cReg (R8_15 O P ro)))))))))) (cIf (.tmp 48) (cSeq (cReg (R8_16 O P ro)) (cIf (.tmp 59) (cSeq (cReg (R8_17 O P ro)) (cSeq (cReg (R8_18 O P ro)) cRet)) cSkip)) (cSeq (cReg (R8_19 O P ro)) (cIf (.tmp 78) (cSeq (cReg (R8_20 O P ro)) cRet) (cSeq (cReg (R8_21 O P ro)) (cIf (.tmp 86) (cSeq (cReg (R8_22 O P ro)) (cIf (.tmp 93) (cSeq (cReg (R8_23 O P ro)) (cSeq (cReg (R8_24 O P ro)) cRet)) cSkip)) (cSeq (cReg (R8_25 O P ro)) (cIf (.tmp 113) (cSeq (cReg (R8_26 O P ro)) (cSeq (cSeq (cReg (R8_27 O P ro)) (cIf (.tmp 117) (cSeq (cReg (R8_28 O P ro)) cRet) cSkip)) (cReg (R8_29 O P ro)))) (cSeq (cSeq (cReg (R8_30 O P ro)) (cIf (.tmp 129) cSkip (cSeq (cReg (R8_31 O P ro)) (cIf (.tmp 129) cSkip (cSeq (cReg (R8_32 O P ro)) (cIf (.tmp 129) cSkip (cSeq (cReg (R8_33 O P ro)) (cIf (.tmp 129) cSkip (cSeq (cReg (R8_34 O P ro)) (cIf (.tmp 129) cSkip (cSeq (cReg (R8_35 O P ro)) (cIf (.tmp 129) cSkip (cReg (R8_36 O P ro)))))))))))))) (cIf (.tmp 129) (cSeq (cReg (R8_37 O P ro)) (cIf (.tmp 142) (cSeq (cReg (R8_38 O P ro)) (cSeq (cReg (R8_39 O P ro)) cRet)) cSkip)) (cSeq (cReg (R8_40 O P ro)) (cIf (.tmp 160) (cSeq (cReg (R8_41 O P ro)) cRet) cSkip)))))))))))))))))) (cSeq (cReg (R8_42 O P ro)) cRet))))
theorem F8_fn (O : HI H) (ro : Nat) : Vm.Fn Tryz.prog O ro 8 (F8 O Tryz.prog ro) [ResultVar.tmp 4] Tryz.f8 := ⟨Tryz.func8, by kernel_rfl, by kernel_rfl, by kernel_rfl, by kernel_rfl, by kernel_rfl⟩
def R9_0 : Rg H := fun O P ro => [to 2 (aMove (.const (.bool false)))]
def R9_1 : Rg H := fun O P ro => [to 3 (aMove (.const (.int .i64 0)))]
def R9_2 : Rg H := fun O P ro => [mv 5 3, mv 6 0, to 7 (aNil (.tmp 6)), to 8 (aFld 3 (.tmp 7)), to 9 (aLd O (.tmp 8)), to 10 (aLenSl (.tmp 9)), to 11 (aInt .lss (.tmp 5) (.tmp 10))]
def R9_4 : Rg H := fun O P ro => [mv 14 0, to 15 (aNil (.tmp 14)), to 16 (aFld 3 (.tmp 15)), to 17 (aLd O (.tmp 16)), mv 18 3, to 19 (aIdx 1 (.tmp 17) (.tmp 18)), to 20 (aLd O (.tmp 19)), mv 21 0, to 22 (aNil (.tmp 21)), to 23 (aFld 4 (.tmp 22)), to 24 (aLd O (.tmp 23)), mv 25 3, to 26 (aIdx 1 (.tmp 24) (.tmp 25)), to 27 (aLd O (.tmp 26)), to 28 (aCall 18 [.tmp 20, .tmp 27]), mv 4 28]
def R9_5 : Rg H := fun O P ro => [mv 29 4, to 30 (aUn .not (.tmp 29))]
def R9_6 : Rg H := fun O P ro => [to 2 (aMove (.const (.bool false)))]
def R9_3 : Rg H := fun O P ro => [mv 12 3, to 13 (aInt .add (.tmp 12) (.const (.int .i64 1))), mv 3 13]
def R9_7 : Rg H := fun O P ro => [to 2 (aMove (.const (.bool true)))]
def W9_0 (O : HI H) (P : Program) (ro : Nat) : CodeT H := cSeq (cSeq (cReg (R9_2 O P ro)) (cIf (.tmp 11) cSkip (cExit 0))) (cSeq (cBlk 1 (cSeq (cReg (R9_4 O P ro)) (cSeq (cReg (R9_5 O P ro)) (cIf (.tmp 30) (cSeq (cReg (R9_6 O P ro)) cRet) cSkip)))) (cReg (R9_3 O P ro)))
def F9 (O : HI H) (P : Program) (ro : Nat) : CodeT H := cSeq (cReg (R9_0 O P ro)) (cSeq (cSeq (cReg (R9_1 O P ro)) (cBlk 0 (cLoop (W9_0 O P ro)))) (cSeq (cReg (R9_7 O P ro)) cRet))
theorem F9_fn (O : HI H) (ro : Nat) : Vm.Fn Tryz.prog O ro 9 (F9 O Tryz.prog ro) [ResultVar.tmp 2] Tryz.f9 := ⟨Tryz.func9, by kernel_rfl, by kernel_rfl, by kernel_rfl, by kernel_rfl, by kernel_rfl⟩
def R10_0 : Rg H := fun O P ro => [to 3 (aBox O (.tmp 1)), to 4 (aMove (.const (.bool false)))]
def R10_1 : Rg H := fun O P ro => [to 11 (aFld 0 (.tmp 3)), to 12 (aLd O (.tmp 11))]
def R10_3 : Rg H := fun O P ro => [to 14 (aInt .eql (.tmp 12) (.const (.int .i64 17))), mv 13 14]
def R10_4 : Rg H := fun O P ro => [to 15 (aFld 4 (.tmp 3)), to 16 (aLd O (.tmp 15)), to 17 (aLenStr (.tmp 16)), to 18 (aMake O 1 8 #[.int .i64 0] (.tmp 17) (.tmp 17)), mv 5 18]
def R10_5 : Rg H := fun O P ro => [to 6 (aMove (.const (.int .i64 0)))]
def R10_6 : Rg H := fun O P ro => [mv 19 6, to 20 (aFld 4 (.tmp 3)), to 21 (aLd O (.tmp 20)), to 22 (aLenStr (.tmp 21)), to 23 (aInt .lss (.tmp 19) (.tmp 22))]
def R10_8 : Rg H := fun O P ro => [mv 26 5, mv 27 6, to 28 (aFld 4 (.tmp 3)), to 29 (aLd O (.tmp 28)), mv 30 6, to 31 (aIdxStr (.tmp 29) (.tmp 30)), to 32 (aConv .i64 (.tmp 31)), to 33 (aIdx 1 (.tmp 26) (.tmp 27)), too (aSt O ro 1 (.tmp 33) (.tmp 32))]
def R10_7 : Rg H := fun O P ro => [mv 24 6, to 25 (aInt .add (.tmp 24) (.const (.int .i64 1))), mv 6 25]
def R10_9 : Rg H := fun O P ro => [mv 34 0, mv 35 5, to 36 (aCall 19 [.tmp 34, .tmp 35])]
def R10_10 : Rg H := fun O P ro => [to 38 (aInt .eql (.tmp 12) (.const (.int .i64 18))), mv 37 38]
def R10_11 : Rg H := fun O P ro => [mv 39 0, to 40 (aNil (.tmp 39)), to 41 (aFld 3 (.tmp 40)), to 42 (aLd O (.tmp 41)), to 43 (aLenSl (.tmp 42)), to 44 (aInt .gtr (.tmp 43) (.const (.int .i64 0)))]
def R10_12 : Rg H := fun O P ro => [to 45 (aFld 1 (.tmp 3)), to 46 (aLd O (.tmp 45)), mv 47 0, to 48 (aNil (.tmp 47)), to 49 (aFld 3 (.tmp 48)), to 50 (aLd O (.tmp 49)), to 51 (aLenSl (.tmp 50)), to 52 (aCall 12 [.tmp 46, .tmp 51]), mv 7 52]
def R10_13 : Rg H := fun O P ro => [mv 53 0, to 54 (aNil (.tmp 53)), to 55 (aFld 3 (.tmp 54)), to 56 (aLd O (.tmp 55)), mv 57 7, to 58 (aIdx 1 (.tmp 56) (.tmp 57)), to 59 (aLd O (.tmp 58)), to 60 (aLenSl (.tmp 59)), to 61 (aInt .gtr (.tmp 60) (.const (.int .i64 0)))]
def R10_14 : Rg H := fun O P ro => [to 62 (aFld 2 (.tmp 3)), to 63 (aLd O (.tmp 62)), mv 64 0, to 65 (aNil (.tmp 64)), to 66 (aFld 3 (.tmp 65)), to 67 (aLd O (.tmp 66)), mv 68 7, to 69 (aIdx 1 (.tmp 67) (.tmp 68)), to 70 (aLd O (.tmp 69)), to 71 (aLenSl (.tmp 70)), to 72 (aCall 12 [.tmp 63, .tmp 71]), mv 8 72]
def R10_15 : Rg H := fun O P ro => [mv 73 0, to 74 (aNil (.tmp 73)), to 75 (aFld 3 (.tmp 74)), to 76 (aLd O (.tmp 75)), mv 77 7, to 78 (aIdx 1 (.tmp 76) (.tmp 77)), to 79 (aLd O (.tmp 78)), mv 80 8, to 81 (aFld 3 (.tmp 3)), to 82 (aLd O (.tmp 81)), to 83 (aIdx 1 (.tmp 79) (.tmp 80)), too (aSt O ro 1 (.tmp 83) (.tmp 82))]
def R10_16 : Rg H := fun O P ro => [mv 84 0, to 85 (aNil (.tmp 84)), to 86 (aFld 4 (.tmp 85)), to 87 (aLd O (.tmp 86)), mv 88 7, to 89 (aIdx 1 (.tmp 87) (.tmp 88)), to 90 (aLd O (.tmp 89)), mv 91 8, to 92 (aFld 3 (.tmp 3)), to 93 (aLd O (.tmp 92)), to 94 (aIdx 1 (.tmp 90) (.tmp 91)), too (aSt O ro 1 (.tmp 94) (.tmp 93))]
def R10_17 : Rg H := fun O P ro => [to 96 (aInt .eql (.tmp 12) (.const (.int .i64 19))), mv 95 96]
def R10_18 : Rg H := fun O P ro => [mv 97 0, to 98 (aFld 1 (.tmp 3)), to 99 (aLd O (.tmp 98)), to 100 (aNil (.tmp 97)), to 101 (aFld 5 (.tmp 100)), too (aSt O ro 1 (.tmp 101) (.tmp 99))]
def R10_19 : Rg H := fun O P ro => [mv 102 0, to 103 (aFld 2 (.tmp 3)), to 104 (aLd O (.tmp 103)), to 105 (aNil (.tmp 102)), to 106 (aFld 6 (.tmp 105)), too (aSt O ro 1 (.tmp 106) (.tmp 104))]
def R10_20 : Rg H := fun O P ro => [mv 107 0, to 108 (aFld 3 (.tmp 3)), to 109 (aLd O (.tmp 108)), to 110 (aNil (.tmp 107)), to 111 (aFld 7 (.tmp 110)), too (aSt O ro 1 (.tmp 111) (.tmp 109))]
def R10_21 : Rg H := fun O P ro => [to 113 (aInt .eql (.tmp 12) (.const (.int .i64 20))), mv 112 113]
def R10_22 : Rg H := fun O P ro => [mv 114 0, to 115 (aNil (.tmp 114)), to 116 (aFld 3 (.tmp 115)), to 117 (aLd O (.tmp 116)), to 118 (aMkSl O 1 1 #[.slice none 0 0] [(0, .const (.slice none 0 0))]), to 119 (aApp O ro 1 24 (.tmp 117) (.tmp 118)), mv 9 119]
def R10_23 : Rg H := fun O P ro => [mv 120 0, mv 121 9, to 122 (aNil (.tmp 120)), to 123 (aFld 3 (.tmp 122)), too (aSt O ro 1 (.tmp 123) (.tmp 121))]
def R10_24 : Rg H := fun O P ro => [mv 124 0, to 125 (aNil (.tmp 124)), to 126 (aFld 4 (.tmp 125)), to 127 (aLd O (.tmp 126)), to 128 (aMkSl O 1 1 #[.slice none 0 0] [(0, .const (.slice none 0 0))]), to 129 (aApp O ro 1 24 (.tmp 127) (.tmp 128)), mv 10 129]
def R10_25 : Rg H := fun O P ro => [mv 130 0, mv 131 10, to 132 (aNil (.tmp 130)), to 133 (aFld 4 (.tmp 132)), too (aSt O ro 1 (.tmp 133) (.tmp 131))]
def R10_2 : Rg H := fun O P ro => [to 4 (aMove (.const (.bool false)))]
def R10_26 : Rg H := fun O P ro => [to 4 (aMove (.const (.bool true)))]
def W10_0 (O : HI H) (P : Program) (ro : Nat) : CodeT H := cSeq (cSeq (cReg (R10_6 O P ro)) (cIf (.tmp 23) cSkip (cExit 1))) (cSeq (cBlk 2 (cReg (R10_8 O P ro))) (cReg (R10_7 O P ro)))
def F10 (O : HI H) (P : Program) (ro : Nat) : CodeT H := cSeq (cReg (R10_0 O P ro)) (cSeq (cSeq (cReg (R10_1 O P ro)) (cBlk 0 (cSeq (cReg (R10_3 O P ro)) (cIf (.tmp 13) (cSeq (cReg (R10_4 O P ro)) (cSeq (cSeq (cReg (R10_5 O P ro)) (cBlk 1 (cLoop (W10_0 O P ro)))) (cReg (R10_9 O P ro)))) (cSeq (cReg (R10_10 O P ro)) (cIf (.tmp 37) (cSeq (cReg (R10_11 O P ro)) (cIf (.tmp 44) (cSeq (cReg (R10_12 O P ro)) (cSeq (cReg (R10_13 O P ro)) (cIf (.tmp 61) (cSeq (cReg (R10_14 O P ro)) (cSeq (cReg (R10_15 O P ro)) (cReg (R10_16 O P ro)))) cSkip))) cSkip)) (cSeq (cReg (R10_17 O P ro)) (cIf (.tmp 95) (cSeq (cReg (R10_18 O P ro)) (cSeq (cReg (R10_19 O P ro)) (cReg (R10_20 O P ro)))) (cSeq (cReg (R10_21 O P ro)) (cIf (.tmp 112) (cSeq (cReg (R10_22 O P ro)) (cSeq (cReg (R10_23 O P ro)) (cSeq (cReg (R10_24 O P ro)) (cReg (R10_25 O P ro))))) (cSeq (cReg (R10_2 O P ro)) cRet))))))))))) (cSeq (cReg (R10_26 O P ro)) cRet))
theorem F10_fn (O : HI H) (ro : Nat) : Vm.Fn Tryz.prog O ro 10 (F10 O Tryz.prog ro) [ResultVar.tmp 4] Tryz.f10 := ⟨Tryz.func10, by kernel_rfl, by kernel_rfl, by kernel_rfl, by kernel_rfl, by kernel_rfl⟩
def R11_0 : Rg H := fun O P ro => [to 4 (aMove (.const (.bool false)))]
def R11_1 : Rg H := fun O P ro => [mv 10 1, to 11 (aCall 20 [.tmp 10]), mv 9 11, to 12 (aExt (.tmp 9) 0), to 13 (aExt (.tmp 9) 1), to 6 (aNew O [.int .i64 0, .int .i64 0]), mv 5 12, too (aSt O ro 2 (.tmp 6) (.tmp 13))]
def R11_2 : Rg H := fun O P ro => [mv 15 1, to 16 (aCall 21 [.tmp 15]), mv 14 16, to 17 (aExt (.tmp 14) 0), to 18 (aExt (.tmp 14) 1), to 8 (aNew O [.int .i64 0, .int .i64 0]), mv 7 17, too (aSt O ro 2 (.tmp 8) (.tmp 18))]
def R11_3 : Rg H := fun O P ro => [to 19 (aLdN O 2 (.tmp 6)), to 20 (aLdN O 2 (.tmp 8)), to 21 (aAggEq true 2 (.tmp 19) (.tmp 20))]
def R11_4 : Rg H := fun O P ro => [to 4 (aMove (.const (.bool false)))]
def R11_5 : Rg H := fun O P ro => [to 22 (aFld 0 (.tmp 6)), to 23 (aLd O (.tmp 22)), to 24 (aInt .neq (.tmp 23) (.const (.int .i64 0)))]
def R11_6 : Rg H := fun O P ro => [mv 25 5, to 26 (aPtrNil false (.tmp 25) (.const (.pointer none))), mv 4 26]
def R11_7 : Rg H := fun O P ro => [mv 27 5, to 28 (aPtrNil false (.tmp 27) (.const (.pointer none)))]
def R11_8 : Rg H := fun O P ro => [to 4 (aMove (.const (.bool false)))]
def R11_9 : Rg H := fun O P ro => [mv 29 0, mv 30 0, to 31 (aNil (.tmp 30)), to 32 (aFld 0 (.tmp 31)), to 33 (aLd O (.tmp 32)), mv 34 5, mv 35 7, to 36 (aBuild #[.pointer none, .pointer none] [(0, 1), (1, 1)] [(0, .tmp 34), (1, .tmp 35)]), to 37 (aMkSl O 2 1 #[.pointer none, .pointer none] [(0, .tmp 36)]), to 38 (aApp O ro 2 16 (.tmp 33) (.tmp 37)), to 39 (aNil (.tmp 29)), to 40 (aFld 0 (.tmp 39)), too (aSt O ro 1 (.tmp 40) (.tmp 38))]
def R11_10 : Rg H := fun O P ro => [to 4 (aMove (.const (.bool true)))]
def F11 (O : HI H) (P : Program) (ro : Nat) : CodeT H := cSeq (cReg (R11_0 O P ro)) (cSeq (cReg (R11_1 O P ro)) (cSeq (cReg (R11_2 O P ro)) (cSeq (cSeq (cReg (R11_3 O P ro)) (cIf (.tmp 21) (cSeq (cReg (R11_4 O P ro)) cRet) cSkip)) (cSeq (cSeq (cReg (R11_5 O P ro)) (cIf (.tmp 24) (cSeq (cReg (R11_6 O P ro)) cRet) cSkip)) (cSeq (cSeq (cReg (R11_7 O P ro)) (cIf (.tmp 28) (cSeq (cReg (R11_8 O P ro)) cRet) cSkip)) (cSeq (cReg (R11_9 O P ro)) (cSeq (cReg (R11_10 O P ro)) cRet)))))))
theorem F11_fn (O : HI H) (ro : Nat) : Vm.Fn Tryz.prog O ro 11 (F11 O Tryz.prog ro) [ResultVar.tmp 4] Tryz.f11 := ⟨Tryz.func11, by kernel_rfl, by kernel_rfl, by kernel_rfl, by kernel_rfl, by kernel_rfl⟩
def R12_0 : Rg H := fun O P ro => [to 4 (aMove (.const (.int .i64 0)))]
def R12_1 : Rg H := fun O P ro => [mv 5 0, to 6 (aInt .lss (.tmp 5) (.const (.int .i64 0)))]
def R12_2 : Rg H := fun O P ro => [mv 7 0, to 8 (aInt .add (.tmp 7) (.const (.int .i64 1))), to 9 (aUn .neg (.tmp 8)), mv 0 9]
def R12_3 : Rg H := fun O P ro => [mv 10 0, mv 11 1, to 12 (aInt .rem (.tmp 10) (.tmp 11)), mv 4 12]
def F12 (O : HI H) (P : Program) (ro : Nat) : CodeT H := cSeq (cReg (R12_0 O P ro)) (cSeq (cSeq (cReg (R12_1 O P ro)) (cIf (.tmp 6) (cReg (R12_2 O P ro)) cSkip)) (cSeq (cReg (R12_3 O P ro)) cRet))
theorem F12_fn (O : HI H) (ro : Nat) : Vm.Fn Tryz.prog O ro 12 (F12 O Tryz.prog ro) [ResultVar.tmp 4] Tryz.f12 := ⟨Tryz.func12, by kernel_rfl, by kernel_rfl, by kernel_rfl, by kernel_rfl, by kernel_rfl⟩
def R13_0 : Rg H := fun O P ro => [to 4 (aBox O (.tmp 1)), to 5 (aBox O (.tmp 2)), to 6 (aMove (.const (.bool false)))]
def R13_1 : Rg H := fun O P ro => [to 21 (aFld 0 (.tmp 5)), to 22 (aLd O (.tmp 21))]
def R13_2 : Rg H := fun O P ro => [to 24 (aInt .eql (.tmp 22) (.const (.int .i64 3))), mv 23 24]
def R13_3 : Rg H := fun O P ro => [to 25 (aFld 0 (.tmp 4)), to 26 (aLd O (.tmp 25)), to 27 (aCall 22 [.tmp 26]), mv 7 27]
def R13_4 : Rg H := fun O P ro => [to 28 (aFld 1 (.tmp 4)), to 29 (aLd O (.tmp 28)), to 30 (aCall 23 [.tmp 29]), mv 8 30]
def R13_5 : Rg H := fun O P ro => [mv 31 0, mv 32 0, to 33 (aNil (.tmp 32)), to 34 (aFld 1 (.tmp 33)), to 35 (aLd O (.tmp 34)), mv 36 7, to 37 (aMkSl O 1 1 #[.string ⟨#[]⟩] [(0, .tmp 36)]), to 38 (aApp O ro 1 16 (.tmp 35) (.tmp 37)), to 39 (aNil (.tmp 31)), to 40 (aFld 1 (.tmp 39)), too (aSt O ro 1 (.tmp 40) (.tmp 38))]
def R13_6 : Rg H := fun O P ro => [mv 41 7, mv 42 8, to 43 (aStr .eql (.tmp 41) (.tmp 42)), mv 6 43]
def R13_7 : Rg H := fun O P ro => [to 45 (aInt .eql (.tmp 22) (.const (.int .i64 4))), mv 44 45]
def R13_8 : Rg H := fun O P ro => [to 46 (aFld 0 (.tmp 4)), to 47 (aLd O (.tmp 46)), to 48 (aCall 24 [.tmp 47]), mv 9 48]
def R13_9 : Rg H := fun O P ro => [to 49 (aFld 1 (.tmp 4)), to 50 (aLd O (.tmp 49)), to 51 (aCall 25 [.tmp 50]), mv 10 51]
def R13_10 : Rg H := fun O P ro => [mv 52 0, mv 53 0, to 54 (aNil (.tmp 53)), to 55 (aFld 1 (.tmp 54)), to 56 (aLd O (.tmp 55)), mv 57 9, to 58 (aMkSl O 1 1 #[.string ⟨#[]⟩] [(0, .tmp 57)]), to 59 (aApp O ro 1 16 (.tmp 56) (.tmp 58)), to 60 (aNil (.tmp 52)), to 61 (aFld 1 (.tmp 60)), too (aSt O ro 1 (.tmp 61) (.tmp 59))]
def R13_11 : Rg H := fun O P ro => [mv 62 9, mv 63 10, to 64 (aStr .eql (.tmp 62) (.tmp 63)), mv 6 64]
def R13_12 : Rg H := fun O P ro => [to 66 (aInt .eql (.tmp 22) (.const (.int .i64 5))), mv 65 66]
def R13_13 : Rg H := fun O P ro => [to 67 (aFld 0 (.tmp 4)), to 68 (aLd O (.tmp 67)), to 69 (aCall 26 [.tmp 68]), mv 11 69]
def R13_14 : Rg H := fun O P ro => [to 70 (aFld 0 (.tmp 4)), to 71 (aLd O (.tmp 70)), to 72 (aCall 27 [.tmp 71]), mv 12 72]
def R13_15 : Rg H := fun O P ro => [to 73 (aFld 0 (.tmp 4)), to 74 (aLd O (.tmp 73)), to 75 (aCall 28 [.tmp 74]), mv 13 75]
def R13_16 : Rg H := fun O P ro => [to 76 (aFld 0 (.tmp 4)), to 77 (aLd O (.tmp 76)), to 78 (aCall 29 [.tmp 77]), mv 14 78]
def R13_17 : Rg H := fun O P ro => [mv 79 11, to 80 (aFld 1 (.tmp 4)), to 81 (aLd O (.tmp 80)), to 82 (aNil (.tmp 81)), to 83 (aFld 0 (.tmp 82)), to 84 (aLd O (.tmp 83)), to 85 (aInt .eql (.tmp 79) (.tmp 84)), mv 86 85, onlyIf 86 true 87 (mv 87 12), onlyIf 86 true 88 (to 88 (aFld 1 (.tmp 4))), onlyIf 86 true 89 (to 89 (aLd O (.tmp 88))), onlyIf 86 true 90 (to 90 (aNil (.tmp 89))), onlyIf 86 true 91 (to 91 (aFld 1 (.tmp 90))), onlyIf 86 true 92 (to 92 (aLd O (.tmp 91))), onlyIf 86 true 93 (to 93 (aInt .eql (.tmp 87) (.tmp 92))), to 94 (aPick (.tmp 86) (.tmp 93) (.const (.bool false))), mv 95 94, onlyIf 95 true 96 (mv 96 13), onlyIf 95 true 97 (to 97 (aInt .mul (.const (.int .i64 2)) (.tmp 96))), onlyIf 95 true 98 (to 98 (aFld 1 (.tmp 4))), onlyIf 95 true 99 (to 99 (aLd O (.tmp 98))), onlyIf 95 true 100 (to 100 (aNil (.tmp 99))), onlyIf 95 true 101 (to 101 (aFld 4 (.tmp 100))), onlyIf 95 true 102 (to 102 (aLd O (.tmp 101))), onlyIf 95 true 103 (to 103 (aLenSl (.tmp 102))), onlyIf 95 true 104 (to 104 (aInt .eql (.tmp 97) (.tmp 103))), to 105 (aPick (.tmp 95) (.tmp 104) (.const (.bool false))), mv 106 105, onlyIf 106 true 107 (mv 107 14), onlyIf 106 true 108 (mv 108 11), onlyIf 106 true 109 (to 109 (aInt .add (.const (.int .i64 1)) (.tmp 108))), onlyIf 106 true 110 (mv 110 12), onlyIf 106 true 111 (to 111 (aInt .add (.tmp 109) (.tmp 110))), onlyIf 106 true 112 (mv 112 13), onlyIf 106 true 113 (to 113 (aInt .add (.tmp 111) (.tmp 112))), onlyIf 106 true 114 (to 114 (aInt .eql (.tmp 107) (.tmp 113))), to 115 (aPick (.tmp 106) (.tmp 114) (.const (.bool false))), mv 6 115]
def R13_18 : Rg H := fun O P ro => [to 117 (aInt .eql (.tmp 22) (.const (.int .i64 7))), mv 116 117]
def R13_19 : Rg H := fun O P ro => [to 118 (aFld 0 (.tmp 4)), to 119 (aLd O (.tmp 118)), to 120 (aFld 2 (.tmp 5)), to 121 (aLd O (.tmp 120)), to 122 (aCall 30 [.tmp 119, .tmp 121]), mv 15 122]
def R13_20 : Rg H := fun O P ro => [to 123 (aFld 1 (.tmp 4)), to 124 (aLd O (.tmp 123)), to 125 (aFld 2 (.tmp 5)), to 126 (aLd O (.tmp 125)), to 127 (aCall 31 [.tmp 124, .tmp 126]), mv 16 127]
def R13_21 : Rg H := fun O P ro => [mv 128 15, mv 129 16, to 130 (aBoolEq false (.tmp 128) (.tmp 129)), mv 6 130]
def R13_22 : Rg H := fun O P ro => [to 132 (aFld 0 (.tmp 4)), to 133 (aLd O (.tmp 132)), to 134 (aFld 2 (.tmp 5)), to 135 (aLd O (.tmp 134)), to 136 (aFld 3 (.tmp 5)), to 137 (aLd O (.tmp 136)), to 138 (aCall 32 [.tmp 133, .tmp 135, .tmp 137]), mv 131 138, to 139 (aExt (.tmp 131) 0), to 140 (aExt (.tmp 131) 1), mv 17 139, mv 18 140]
def R13_23 : Rg H := fun O P ro => [to 141 (aFld 1 (.tmp 4)), to 142 (aLd O (.tmp 141)), to 143 (aFld 2 (.tmp 5)), to 144 (aLd O (.tmp 143)), to 145 (aFld 3 (.tmp 5)), to 146 (aLd O (.tmp 145)), to 147 (aCall 33 [.tmp 142, .tmp 144, .tmp 146]), mv 19 147]
def R13_24 : Rg H := fun O P ro => [to 148 (aFld 1 (.tmp 4)), to 149 (aLd O (.tmp 148)), to 150 (aFld 1 (.tmp 4)), to 151 (aLd O (.tmp 150)), to 152 (aNil (.tmp 151)), to 153 (aFld 5 (.tmp 152)), to 154 (aLd O (.tmp 153)), to 155 (aFld 2 (.tmp 5)), to 156 (aLd O (.tmp 155)), to 157 (aFld 3 (.tmp 5)), to 158 (aLd O (.tmp 157)), to 159 (aCall 34 [.tmp 149, .tmp 154, .tmp 156, .tmp 158]), mv 20 159]
def R13_25 : Rg H := fun O P ro => [mv 160 17, mv 161 19, to 162 (aInt .eql (.tmp 160) (.tmp 161)), mv 163 162, onlyIf 163 true 164 (mv 164 18), onlyIf 163 true 165 (mv 165 20), onlyIf 163 true 166 (to 166 (aBoolEq false (.tmp 164) (.tmp 165))), to 167 (aPick (.tmp 163) (.tmp 166) (.const (.bool false))), mv 6 167]
def F13 (O : HI H) (P : Program) (ro : Nat) : CodeT H := cSeq (cReg (R13_0 O P ro)) (cSeq (cSeq (cReg (R13_1 O P ro)) (cBlk 0 (cSeq (cReg (R13_2 O P ro)) (cIf (.tmp 23) (cSeq (cReg (R13_3 O P ro)) (cSeq (cReg (R13_4 O P ro)) (cSeq (cReg (R13_5 O P ro)) (cSeq (cReg (R13_6 O P ro)) cRet)))) (cSeq (cReg (R13_7 O P ro)) (cIf (.tmp 44) (cSeq (cReg (R13_8 O P ro)) (cSeq (cReg (R13_9 O P ro)) (cSeq (cReg (R13_10 O P ro)) (cSeq (cReg (R13_11 O P ro)) cRet)))) (cSeq (cReg (R13_12 O P ro)) (cIf (.tmp 65) (cSeq (cReg (R13_13 O P ro)) (cSeq (cReg (R13_14 O P ro)) (cSeq (cReg (R13_15 O P ro)) (cSeq (cReg (R13_16 O P ro)) (cSeq (cReg (R13_17 O P ro)) cRet))))) (cSeq (cReg (R13_18 O P ro)) (cIf (.tmp 116) (cSeq (cReg (R13_19 O P ro)) (cSeq (cReg (R13_20 O P ro)) (cSeq (cReg (R13_21 O P ro)) cRet))) cSkip)))))))))) (cSeq (cReg (R13_22 O P ro)) (cSeq (cReg (R13_23 O P ro)) (cSeq (cReg (R13_24 O P ro)) (cSeq (cReg (R13_25 O P ro)) cRet)))))
theorem F13_fn (O : HI H) (ro : Nat) : Vm.Fn Tryz.prog O ro 13 (F13 O Tryz.prog ro) [ResultVar.tmp 6] Tryz.f13 := ⟨Tryz.func13, by kernel_rfl, by kernel_rfl, by kernel_rfl, by kernel_rfl, by kernel_rfl⟩
def R14_0 : Rg H := fun O P ro => [to 6 (aMove (.const (.bool false)))]
def R14_1 : Rg H := fun O P ro => [mv 10 1, mv 11 2, to 12 (aCall 35 [.tmp 10, .tmp 11]), mv 7 12]
def R14_2 : Rg H := fun O P ro => [mv 13 7, to 14 (aPtrNil false (.tmp 13) (.const (.pointer none)))]
def R14_3 : Rg H := fun O P ro => [to 6 (aMove (.const (.bool false)))]
def R14_4 : Rg H := fun O P ro => [mv 15 1, mv 16 2, mv 17 7, to 18 (aCall 36 [.tmp 15, .tmp 16, .tmp 17]), mv 8 18]
def R14_5 : Rg H := fun O P ro => [to 9 (aMove (.const (.int .i64 0)))]
def R14_6 : Rg H := fun O P ro => [mv 19 9, mv 20 7, to 21 (aNil (.tmp 20)), to 22 (aFld 3 (.tmp 21)), to 23 (aLd O (.tmp 22)), to 24 (aLenSl (.tmp 23)), to 25 (aInt .lss (.tmp 19) (.tmp 24))]
def R14_8 : Rg H := fun O P ro => [mv 28 0, mv 29 7, to 30 (aNil (.tmp 29)), to 31 (aFld 3 (.tmp 30)), to 32 (aLd O (.tmp 31)), mv 33 9, to 34 (aIdx 1 (.tmp 32) (.tmp 33)), to 35 (aLd O (.tmp 34)), to 36 (aCall 19 [.tmp 28, .tmp 35])]
def R14_7 : Rg H := fun O P ro => [mv 26 9, to 27 (aInt .add (.tmp 26) (.const (.int .i64 1))), mv 9 27]
def R14_9 : Rg H := fun O P ro => [mv 37 0, mv 38 7, to 39 (aNil (.tmp 38)), to 40 (aFld 5 (.tmp 39)), to 41 (aLd O (.tmp 40)), to 42 (aCall 19 [.tmp 37, .tmp 41])]
def R14_10 : Rg H := fun O P ro => [mv 43 8, mv 6 43]
def W14_0 (O : HI H) (P : Program) (ro : Nat) : CodeT H := cSeq (cSeq (cReg (R14_6 O P ro)) (cIf (.tmp 25) cSkip (cExit 0))) (cSeq (cBlk 1 (cReg (R14_8 O P ro))) (cReg (R14_7 O P ro)))
def F14 (O : HI H) (P : Program) (ro : Nat) : CodeT H := cSeq (cReg (R14_0 O P ro)) (cSeq (cReg (R14_1 O P ro)) (cSeq (cSeq (cReg (R14_2 O P ro)) (cIf (.tmp 14) (cSeq (cReg (R14_3 O P ro)) cRet) cSkip)) (cSeq (cReg (R14_4 O P ro)) (cSeq (cSeq (cReg (R14_5 O P ro)) (cBlk 0 (cLoop (W14_0 O P ro)))) (cSeq (cReg (R14_9 O P ro)) (cSeq (cReg (R14_10 O P ro)) cRet))))))
theorem F14_fn (O : HI H) (ro : Nat) : Vm.Fn Tryz.prog O ro 14 (F14 O Tryz.prog ro) [ResultVar.tmp 6] Tryz.f14 := ⟨Tryz.func14, by kernel_rfl, by kernel_rfl, by kernel_rfl, by kernel_rfl, by kernel_rfl⟩
def R15_0 : Rg H := fun O P ro => [to 0 (aMove (.const (.pointer none)))]
def R15_1 : Rg H := fun O P ro => [to 0 (aMove (.const (.pointer none)))]
def F15 (O : HI H) (P : Program) (ro : Nat) : CodeT H := cSeq (cReg (R15_0 O P ro)) (cSeq (cReg (R15_1 O P ro)) cRet)
theorem F15_fn (O : HI H) (ro : Nat) : Vm.Fn Tryz.prog O ro 15 (F15 O Tryz.prog ro) [ResultVar.tmp 0] Tryz.f15 := ⟨Tryz.func15, by kernel_rfl, by kernel_rfl, by kernel_rfl, by kernel_rfl, by kernel_rfl⟩
def R17_0 : Rg H := fun O P ro => [to 0 (aMove (.const (.bool false)))]
def R17_1 : Rg H := fun O P ro => [to 8 (aCall 15 []), mv 1 8]
def R17_2 : Rg H := fun O P ro => [mv 9 1, to 10 (aPtrNil false (.tmp 9) (.const (.pointer none)))]
def R17_3 : Rg H := fun O P ro => [to 0 (aMove (.const (.bool false)))]
def R17_4 : Rg H := fun O P ro => [to 2 (aMove (.const (.int .i64 0)))]
def R17_5 : Rg H := fun O P ro => [mv 11 2, to 12 (aInt .lss (.tmp 11) (.const (.int .i64 192)))]
def R17_7 : Rg H := fun O P ro => [mv 16 1, mv 17 2, to 18 (aInt .rem (.tmp 17) (.const (.int .i64 3))), to 19 (aInt .eql (.tmp 18) (.const (.int .i64 0))), to 20 (aCall 37 [.tmp 16, .tmp 19]), mv 15 20, to 21 (aExt (.tmp 15) 0), to 22 (aExt (.tmp 15) 1), mv 3 21, mv 4 22]
def R17_8 : Rg H := fun O P ro => [mv 23 3, mv 24 2, to 25 (aInt .neq (.tmp 23) (.tmp 24)), mv 26 25, onlyIf 26 false 27 (mv 27 4), onlyIf 26 false 28 (to 28 (aInt .neq (.tmp 27) (.const (.int .i64 0)))), to 29 (aPick (.tmp 26) (.const (.bool true)) (.tmp 28))]
def R17_9 : Rg H := fun O P ro => [to 0 (aMove (.const (.bool false)))]
def R17_6 : Rg H := fun O P ro => [mv 13 2, to 14 (aInt .add (.tmp 13) (.const (.int .i64 1))), mv 2 14]
def R17_10 : Rg H := fun O P ro => [mv 31 1, to 32 (aCall 37 [.tmp 31, .const (.bool true)]), mv 30 32, to 33 (aExt (.tmp 30) 0), to 34 (aExt (.tmp 30) 1), mv 5 33, mv 6 34]
def R17_11 : Rg H := fun O P ro => [mv 35 1, to 36 (aCall 44 [.tmp 35]), mv 7 36]
def R17_12 : Rg H := fun O P ro => [mv 37 5, to 38 (aInt .eql (.tmp 37) (.const (.int .i64 0))), mv 39 38, onlyIf 39 true 40 (mv 40 6), onlyIf 39 true 41 (to 41 (aInt .eql (.tmp 40) (.const (.int .i64 14)))), to 42 (aPick (.tmp 39) (.tmp 41) (.const (.bool false))), mv 43 42, onlyIf 43 true 44 (mv 44 7), onlyIf 43 true 45 (to 45 (aInt .eql (.tmp 44) (.const (.int .i64 192)))), to 46 (aPick (.tmp 43) (.tmp 45) (.const (.bool false))), mv 0 46]
def W17_0 (O : HI H) (P : Program) (ro : Nat) : CodeT H := cSeq (cSeq (cReg (R17_5 O P ro)) (cIf (.tmp 12) cSkip (cExit 0))) (cSeq (cBlk 1 (cSeq (cReg (R17_7 O P ro)) (cSeq (cReg (R17_8 O P ro)) (cIf (.tmp 29) (cSeq (cReg (R17_9 O P ro)) cRet) cSkip)))) (cReg (R17_6 O P ro)))
def F17 (O : HI H) (P : Program) (ro : Nat) : CodeT H := cSeq (cReg (R17_0 O P ro)) (cSeq (cReg (R17_1 O P ro)) (cSeq (cSeq (cReg (R17_2 O P ro)) (cIf (.tmp 10) (cSeq (cReg (R17_3 O P ro)) cRet) cSkip)) (cSeq (cSeq (cReg (R17_4 O P ro)) (cBlk 0 (cLoop (W17_0 O P ro)))) (cSeq (cReg (R17_10 O P ro)) (cSeq (cReg (R17_11 O P ro)) (cSeq (cReg (R17_12 O P ro)) cRet))))))
theorem F17_fn (O : HI H) (ro : Nat) : Vm.Fn Tryz.prog O ro 17 (F17 O Tryz.prog ro) [ResultVar.tmp 0] Tryz.f17 := ⟨Tryz.func17, by kernel_rfl, by kernel_rfl, by kernel_rfl, by kernel_rfl, by kernel_rfl⟩
def R18_0 : Rg H := fun O P ro => [to 4 (aMove (.const (.bool false)))]
def R18_1 : Rg H := fun O P ro => [mv 6 0, to 7 (aLenSl (.tmp 6)), mv 8 1, to 9 (aLenSl (.tmp 8)), to 10 (aInt .neq (.tmp 7) (.tmp 9))]
def R18_2 : Rg H := fun O P ro => [to 4 (aMove (.const (.bool false)))]
def R18_3 : Rg H := fun O P ro => [to 5 (aMove (.const (.int .i64 0)))]
def R18_4 : Rg H := fun O P ro => [mv 11 5, mv 12 0, to 13 (aLenSl (.tmp 12)), to 14 (aInt .lss (.tmp 11) (.tmp 13))]
def R18_6 : Rg H := fun O P ro => [mv 17 0, mv 18 5, to 19 (aIdx 1 (.tmp 17) (.tmp 18)), to 20 (aLd O (.tmp 19)), mv 21 1, mv 22 5, to 23 (aIdx 1 (.tmp 21) (.tmp 22)), to 24 (aLd O (.tmp 23)), to 25 (aInt .neq (.tmp 20) (.tmp 24))]
def R18_7 : Rg H := fun O P ro => [to 4 (aMove (.const (.bool false)))]
def R18_5 : Rg H := fun O P ro => [mv 15 5, to 16 (aInt .add (.tmp 15) (.const (.int .i64 1))), mv 5 16]
def R18_8 : Rg H := fun O P ro => [to 4 (aMove (.const (.bool true)))]
def W18_0 (O : HI H) (P : Program) (ro : Nat) : CodeT H := cSeq (cSeq (cReg (R18_4 O P ro)) (cIf (.tmp 14) cSkip (cExit 0))) (cSeq (cBlk 1 (cSeq (cReg (R18_6 O P ro)) (cIf (.tmp 25) (cSeq (cReg (R18_7 O P ro)) cRet) cSkip))) (cReg (R18_5 O P ro)))
def F18 (O : HI H) (P : Program) (ro : Nat) : CodeT H := cSeq (cReg (R18_0 O P ro)) (cSeq (cSeq (cReg (R18_1 O P ro)) (cIf (.tmp 10) (cSeq (cReg (R18_2 O P ro)) cRet) cSkip)) (cSeq (cSeq (cReg (R18_3 O P ro)) (cBlk 0 (cLoop (W18_0 O P ro)))) (cSeq (cReg (R18_8 O P ro)) cRet)))
theorem F18_fn (O : HI H) (ro : Nat) : Vm.Fn Tryz.prog O ro 18 (F18 O Tryz.prog ro) [ResultVar.tmp 4] Tryz.f18 := ⟨Tryz.func18, by kernel_rfl, by kernel_rfl, by kernel_rfl, by kernel_rfl, by kernel_rfl⟩
def R19_0 : Rg H := fun O P ro => [mv 8 1, to 9 (aSlNil true (.tmp 8) (.const (.slice none 0 0)))]
def R19_1 : Rg H := fun O P ro => [mv 10 1, mv 11 1, to 12 (aAny O P ro (.call { callee := .builtin .cap, args := #[.tmp 11], argTypes := #[48] })), to 13 (aSliceSl 1 (.tmp 10) none (some (.tmp 12))), mv 4 13]
def R19_2 : Rg H := fun O P ro => [mv 14 4, to 15 (aLenSl (.tmp 14)), to 16 (aMake O 1 8 #[.int .i64 0] (.tmp 15) (.tmp 15)), mv 5 16]
def R19_3 : Rg H := fun O P ro => [mv 17 5, mv 18 4, to 19 (aAny O P ro (.call { callee := .builtin .copy, args := #[.tmp 17, .tmp 18], argTypes := #[48, 48] }))]
def R19_4 : Rg H := fun O P ro => [mv 20 0, to 21 (aNil (.tmp 20)), to 22 (aFld 3 (.tmp 21)), to 23 (aLd O (.tmp 22)), mv 24 4, to 25 (aMkSl O 1 1 #[.slice none 0 0] [(0, .tmp 24)]), to 26 (aApp O ro 1 24 (.tmp 23) (.tmp 25)), mv 6 26]
def R19_5 : Rg H := fun O P ro => [mv 27 0, mv 28 6, to 29 (aNil (.tmp 27)), to 30 (aFld 3 (.tmp 29)), too (aSt O ro 1 (.tmp 30) (.tmp 28))]
def R19_6 : Rg H := fun O P ro => [mv 31 0, to 32 (aNil (.tmp 31)), to 33 (aFld 4 (.tmp 32)), to 34 (aLd O (.tmp 33)), mv 35 5, to 36 (aMkSl O 1 1 #[.slice none 0 0] [(0, .tmp 35)]), to 37 (aApp O ro 1 24 (.tmp 34) (.tmp 36)), mv 7 37]
def R19_7 : Rg H := fun O P ro => [mv 38 0, mv 39 7, to 40 (aNil (.tmp 38)), to 41 (aFld 4 (.tmp 40)), too (aSt O ro 1 (.tmp 41) (.tmp 39))]
def F19 (O : HI H) (P : Program) (ro : Nat) : CodeT H := cSeq (cReg (R19_0 O P ro)) (cIf (.tmp 9) (cSeq (cReg (R19_1 O P ro)) (cSeq (cReg (R19_2 O P ro)) (cSeq (cReg (R19_3 O P ro)) (cSeq (cReg (R19_4 O P ro)) (cSeq (cReg (R19_5 O P ro)) (cSeq (cReg (R19_6 O P ro)) (cReg (R19_7 O P ro)))))))) cSkip)
theorem F19_fn (O : HI H) (ro : Nat) : Vm.Fn Tryz.prog O ro 19 (F19 O Tryz.prog ro) [] Tryz.f19 := ⟨Tryz.func19, by kernel_rfl, by kernel_rfl, by kernel_rfl, by kernel_rfl, by kernel_rfl⟩
def R35_0 : Rg H := fun O P ro => [to 4 (aMove (.const (.pointer none)))]
def R35_1 : Rg H := fun O P ro => [to 4 (aMove (.const (.pointer none)))]
def F35 (O : HI H) (P : Program) (ro : Nat) : CodeT H := cSeq (cReg (R35_0 O P ro)) (cSeq (cReg (R35_1 O P ro)) cRet)
theorem F35_fn (O : HI H) (ro : Nat) : Vm.Fn Tryz.prog O ro 35 (F35 O Tryz.prog ro) [ResultVar.tmp 4] Tryz.f35 := ⟨Tryz.func35, by kernel_rfl, by kernel_rfl, by kernel_rfl, by kernel_rfl, by kernel_rfl⟩
end
end Go.Proofs.YtlakdngplpabdaaGreatDoor
