import Derived.Test.YtimdkminagnhgabGreatDoorQ04
import Derived.Test.YtimdkminagnhgabGreatDoorProg
import Derived.KernelRfl
import Derived.Test.YtimdkminagnhgabGreatDoorQ05
set_option linter.all false
namespace Go.Proofs.YtimdkminagnhgabGreatDoor
open Go.Vm Go.Proofs
set_option maxRecDepth 100000
section
variable {H:Type}
def strC200:ByteArray:=⟨#[48,48,48,49,48,50,48,51,48,52,48,53,48,54,48,55,48,56,48,57,49,48,49,49,49,50,49,51,49,52,49,53,49,54,49,55,49,56,49,57,50,48,50,49,50,50,50,51,50,52,50,53,50,54,50,55,50,56,50,57,51,48,51,49,51,50,51,51,51,52,51,53,51,54,51,55,51,56,51,57,52,48,52,49,52,50,52,51,52,52,52,53,52,54,52,55,52,56,52,57,53,48,53,49,53,50,53,51,53,52,53,53,53,54,53,55,53,56,53,57,54,48,54,49,54,50,54,51,54,52,54,53,54,54,54,55,54,56,54,57,55,48,55,49,55,50,55,51,55,52,55,53,55,54,55,55,55,56,55,57,56,48,56,49,56,50,56,51,56,52,56,53,56,54,56,55,56,56,56,57,57,48,57,49,57,50,57,51,57,52,57,53,57,54,57,55,57,56,57,57]⟩
def J'j:ByteArray:=⟨#[0,1,2,2,3,3,3,3,4,4,4,4,4,4,4,4,5,5,5,5,5,5,5,5,5,5,5,5,5,5,5,5,6,6,6,6,6,6,6,6,6,6,6,6,6,6,6,6,6,6,6,6,6,6,6,6,6,6,6,6,6,6,6,6,7,7,7,7,7,7,7,7,7,7,7,7,7,7,7,7,7,7,7,7,7,7,7,7,7,7,7,7,7,7,7,7,7,7,7,7,7,7,7,7,7,7,7,7,7,7,7,7,7,7,7,7,7,7,7,7,7,7,7,7,7,7,7,7,8,8,8,8,8,8,8,8,8,8,8,8,8,8,8,8,8,8,8,8,8,8,8,8,8,8,8,8,8,8,8,8,8,8,8,8,8,8,8,8,8,8,8,8,8,8,8,8,8,8,8,8,8,8,8,8,8,8,8,8,8,8,8,8,8,8,8,8,8,8,8,8,8,8,8,8,8,8,8,8,8,8,8,8,8,8,8,8,8,8,8,8,8,8,8,8,8,8,8,8,8,8,8,8,8,8,8,8,8,8,8,8,8,8,8,8,8,8,8,8,8,8,8,8,8,8,8,8]⟩
def ZlN:RL' H:=[to 4 (A'i (.const (.string { data:=#[] })))]
def ZlO:RL' H:=[mv' 10 1,ik' .eql 11 10 10]
def ZlP:RL' H:=[mv' 12 0,to 13 (A'5 .leq (.const (.int .i64 0)) (.tmp 12)),mv' 14 13,A'a 14 true 15 (mv' 15 0),A'a 14 true 16 (ik' .lss 16 15 100),to 17 (A'q (.tmp 14) (.tmp 16) (.const (.bool false)))]
def ZlQ:RL' H:=[mv' 18 0,to 19 (A'e 164 [.tmp 18]),mv' 4 19]
def ZlR(O:HI H):RL' H:=[to 5 (B'o O [.int .u8 0,.int .u8 0,.int .u8 0,.int .u8 0,.int .u8 0,.int .u8 0,.int .u8 0,.int .u8 0,.int .u8 0,.int .u8 0,.int .u8 0,.int .u8 0,.int .u8 0,.int .u8 0,.int .u8 0,.int .u8 0,.int .u8 0,.int .u8 0,.int .u8 0,.int .u8 0,.int .u8 0,.int .u8 0,.int .u8 0,.int .u8 0])]
def ZlS:RL' H:=[mv' 20 0,to 21 (A'2 .u64 (.tmp 20)),mv' 6 21]
def ZlT:RL' H:=[mv' 22 0,ik' .lss 23 22 0]
def ZlU:RL' H:=[mv' 24 6,to 25 (aUn .neg (.tmp 24)),mv' 6 25]
def ZlV:RL' H:=[mv' 26 6,to 27 (A'e 165 [.tmp 26]),mv' 7 27]
def ZlW(O:HI H):RL' H:=[mv' 28 7,to 29 (A'5 .add (.const (.int .i64 1)) (.tmp 28)),to 30 (C'j O 24 1 (.tmp 5) (some (.const (.int .i64 1))) (some (.tmp 29))),mv' 31 6,to 32 (A'e 166 [.tmp 30,.tmp 31])]
def ZlX:RL' H:=[mv' 33 0,ik' .lss 34 33 0]
def ZlY(O:HI H)(ro:Nat):RL' H:=[to 35 (A'j 24 1 (.tmp 5) (.const (.int .i64 0))),too (aSt O ro 1 (.tmp 35) (.const (.int .u8 45)))]
def ZlZ(O:HI H):RL' H:=[mv' 36 7,to 37 (A'5 .add (.const (.int .i64 1)) (.tmp 36)),to 38 (C'j O 24 1 (.tmp 5) none (some (.tmp 37))),to 39 (G'Y O (.tmp 38)),mv' 4 39]
def Zl0(O:HI H):RL' H:=[mv' 40 7,to 41 (A'5 .add (.const (.int .i64 1)) (.tmp 40)),to 42 (C'j O 24 1 (.tmp 5) (some (.const (.int .i64 1))) (some (.tmp 41))),to 43 (G'Y O (.tmp 42)),mv' 4 43]
def Zl1:RL' H:=[mv' 45 0,to 46 (A'2 .u64 (.tmp 45)),mv' 47 1,mv' 48 0,ik' .lss 49 48 0,to 50 (A'e 167 [.const (.slice none 0 0),.tmp 46,.tmp 47,.tmp 49,.const (.bool false)]),mv' 44 50,to 51 (B'E (.tmp 44) 0),to 52 (B'E (.tmp 44) 1),mv' 8 51,mv' 9 52]
def Zl2:RL' H:=[mv' 53 9,mv' 4 53]
def Q'5:RC' H:=λO P ro=>A'b (A'c ZlN) (A'b (A'b (A'c ZlO) (cIf (.tmp 11) (A'b (A'b (A'c ZlP) (cIf (.tmp 17) (A'b (A'c ZlQ) (A'y)) (A'f))) (A'b (A'c (ZlR O)) (A'b (A'c ZlS) (A'b (A'b (A'c ZlT) (cIf (.tmp 23) (A'c ZlU) (A'f))) (A'b (A'c ZlV) (A'b (A'c (ZlW O)) (A'b (A'b (A'c ZlX) (cIf (.tmp 34) (A'b (A'c (ZlY O ro)) (A'b (A'c (ZlZ O)) (A'y))) (A'f))) (A'b (A'c (Zl0 O)) (A'y))))))))) (A'f))) (A'b (A'c Zl1) (A'b (A'c Zl2) (A'y))))
theorem G'F:FN' 130 @Q'5 [.tmp 4] Tryz.f130:=f'n Tryz.func130
def Zl3:RL' H:=[to 2 (A'i (.const (.string { data:=#[] })))]
def Zl4:RL' H:=[mv' 3 0,ik' .lss 4 3 10]
def Zl5:RL' H:=[mv' 5 0,mv' 6 0,ik' .add 7 6 1,to 8 (B'P (.const (.string { data:=#[48,49,50,51,52,53,54,55,56,57,97,98,99,100,101,102,103,104,105,106,107,108,109,110,111,112,113,114,115,116,117,118,119,120,121,122] })) (some (.tmp 5)) (some (.tmp 7))),mv' 2 8]
def Zl6:RL' H:=[mv' 9 0,ik' .mul 10 9 2,mv' 11 0,ik' .mul 12 11 2,ik' .add 13 12 2,to 14 (B'P (.const (.string strC200)) (some (.tmp 10)) (some (.tmp 13))),mv' 2 14]
def R'r:RC' H:=λO P ro=>A'b (A'c Zl3) (A'b (A'b (A'c Zl4) (cIf (.tmp 4) (A'b (A'c Zl5) (A'y)) (A'f))) (A'b (A'c Zl6) (A'y)))
theorem N'4:FN' 164 @R'r [.tmp 2] Tryz.f164:=f'n Tryz.func164
def Zl7:RL' H:=[mk' 2 0]
def Zl8:RL' H:=[mv' 4 0,to 5 (A'e 197 [.tmp 4]),to 6 (A'e 196 [.tmp 5]),mv' 3 6]
def Zl9(O:HI H):RL' H:=[mv' 7 3,mv' 8 0,mv' 9 3,to 10 (A'j 20 1 (.global 0) (.tmp 9)),ld' O 11 10,ia' .geq 12 8 11,to 13 (A'e 198 [.tmp 12]),ia' .add 14 7 13,mv' 2 14]
def S'f:RC' H:=λO P ro=>A'b (A'c Zl7) (A'b (A'c Zl8) (A'b (A'c (Zl9 O)) (A'y)))
theorem N'5:FN' 165 @S'f [.tmp 2] Tryz.f165:=f'n Tryz.func165
def Zma:RL' H:=[mv' 17 0,ln' 18 17,mv' 4 18]
def Zmb:RL' H:=[mv' 19 4,ik' .geq 20 19 8]
def Zmc:RL' H:=[mv' 21 1,to 22 (A'5 .rem (.tmp 21) (.const (.int .u64 100000000))),to 23 (A'2 .u32 (.tmp 22)),mv' 5 23]
def Zmd:RL' H:=[mv' 24 1,to 25 (A'5 .quo (.tmp 24) (.const (.int .u64 100000000))),mv' 1 25]
def Zme:RL' H:=[mv' 26 5,to 27 (A'5 .quo (.tmp 26) (.const (.int .u32 10000))),mv' 28 5,to 29 (A'5 .rem (.tmp 28) (.const (.int .u32 10000))),mv' 6 27,mv' 7 29]
def Zmf:RL' H:=[mv' 30 7,to 31 (A'5 .quo (.tmp 30) (.const (.int .u32 100))),to 32 (A'5 .mul (.tmp 31) (.const (.int .u32 2))),mv' 33 7,to 34 (A'5 .rem (.tmp 33) (.const (.int .u32 100))),to 35 (A'5 .mul (.tmp 34) (.const (.int .u32 2))),mv' 8 32,mv' 9 35]
def Zmg:RL' H:=[mv' 36 6,to 37 (A'5 .quo (.tmp 36) (.const (.int .u32 100))),to 38 (A'5 .mul (.tmp 37) (.const (.int .u32 2))),mv' 39 6,to 40 (A'5 .rem (.tmp 39) (.const (.int .u32 100))),to 41 (A'5 .mul (.tmp 40) (.const (.int .u32 2))),mv' 10 38,mv' 11 41]
def Zmh(O:HI H)(ro:Nat):RL' H:=[mv' 42 0,mv' 43 4,ik' .sub 44 43 1,mv' 45 0,mv' 46 4,ik' .sub 47 46 2,mv' 48 9,to 49 (A'5 .add (.tmp 48) (.const (.int .u32 1))),to 50 (A'3 (.const (.string strC200)) (.tmp 49)),mv' 51 9,to 52 (A'3 (.const (.string strC200)) (.tmp 51)),ix' 1 53 42 44,too (aSt O ro 1 (.tmp 53) (.tmp 50)),ix' 1 54 45 47,too (aSt O ro 1 (.tmp 54) (.tmp 52))]
def Zmi(O:HI H)(ro:Nat):RL' H:=[mv' 55 0,mv' 56 4,ik' .sub 57 56 3,mv' 58 0,mv' 59 4,ik' .sub 60 59 4,mv' 61 8,to 62 (A'5 .add (.tmp 61) (.const (.int .u32 1))),to 63 (A'3 (.const (.string strC200)) (.tmp 62)),mv' 64 8,to 65 (A'3 (.const (.string strC200)) (.tmp 64)),ix' 1 66 55 57,too (aSt O ro 1 (.tmp 66) (.tmp 63)),ix' 1 67 58 60,too (aSt O ro 1 (.tmp 67) (.tmp 65))]
def Zmj(O:HI H)(ro:Nat):RL' H:=[mv' 68 0,mv' 69 4,ik' .sub 70 69 5,mv' 71 0,mv' 72 4,ik' .sub 73 72 6,mv' 74 11,to 75 (A'5 .add (.tmp 74) (.const (.int .u32 1))),to 76 (A'3 (.const (.string strC200)) (.tmp 75)),mv' 77 11,to 78 (A'3 (.const (.string strC200)) (.tmp 77)),ix' 1 79 68 70,too (aSt O ro 1 (.tmp 79) (.tmp 76)),ix' 1 80 71 73,too (aSt O ro 1 (.tmp 80) (.tmp 78))]
def Zmk(O:HI H)(ro:Nat):RL' H:=[mv' 81 0,mv' 82 4,ik' .sub 83 82 7,mv' 84 0,mv' 85 4,ik' .sub 86 85 8,mv' 87 10,to 88 (A'5 .add (.tmp 87) (.const (.int .u32 1))),to 89 (A'3 (.const (.string strC200)) (.tmp 88)),mv' 90 10,to 91 (A'3 (.const (.string strC200)) (.tmp 90)),ix' 1 92 81 83,too (aSt O ro 1 (.tmp 92) (.tmp 89)),ix' 1 93 84 86,too (aSt O ro 1 (.tmp 93) (.tmp 91))]
def Zml:RL' H:=[mv' 94 4,ik' .sub 95 94 8,mv' 4 95]
def Zmm:RL' H:=[mv' 96 1,to 97 (A'2 .u32 (.tmp 96)),mv' 12 97]
def Zmn:RL' H:=[mv' 98 4,ik' .geq 99 98 4]
def Zmo:RL' H:=[mv' 100 12,to 101 (A'5 .rem (.tmp 100) (.const (.int .u32 10000))),mv' 13 101]
def Zmp:RL' H:=[mv' 102 12,to 103 (A'5 .quo (.tmp 102) (.const (.int .u32 10000))),mv' 12 103]
def Zmq:RL' H:=[mv' 104 13,to 105 (A'5 .quo (.tmp 104) (.const (.int .u32 100))),to 106 (A'5 .mul (.tmp 105) (.const (.int .u32 2))),mv' 107 13,to 108 (A'5 .rem (.tmp 107) (.const (.int .u32 100))),to 109 (A'5 .mul (.tmp 108) (.const (.int .u32 2))),mv' 14 106,mv' 15 109]
def Zmr(O:HI H)(ro:Nat):RL' H:=[mv' 110 0,mv' 111 4,ik' .sub 112 111 1,mv' 113 0,mv' 114 4,ik' .sub 115 114 2,mv' 116 15,to 117 (A'5 .add (.tmp 116) (.const (.int .u32 1))),to 118 (A'3 (.const (.string strC200)) (.tmp 117)),mv' 119 15,to 120 (A'3 (.const (.string strC200)) (.tmp 119)),ix' 1 121 110 112,too (aSt O ro 1 (.tmp 121) (.tmp 118)),ix' 1 122 113 115,too (aSt O ro 1 (.tmp 122) (.tmp 120))]
def Zms(O:HI H)(ro:Nat):RL' H:=[mv' 123 0,mv' 124 4,ik' .sub 125 124 3,mv' 126 0,mv' 127 4,ik' .sub 128 127 4,mv' 129 14,to 130 (A'5 .add (.tmp 129) (.const (.int .u32 1))),to 131 (A'3 (.const (.string strC200)) (.tmp 130)),mv' 132 14,to 133 (A'3 (.const (.string strC200)) (.tmp 132)),ix' 1 134 123 125,too (aSt O ro 1 (.tmp 134) (.tmp 131)),ix' 1 135 126 128,too (aSt O ro 1 (.tmp 135) (.tmp 133))]
def Zmt:RL' H:=[mv' 136 4,ik' .sub 137 136 4,mv' 4 137]
def Zmu:RL' H:=[mv' 138 4,ik' .geq 139 138 2]
def Zmv:RL' H:=[mv' 140 12,to 141 (A'5 .rem (.tmp 140) (.const (.int .u32 100))),to 142 (A'5 .mul (.tmp 141) (.const (.int .u32 2))),mv' 16 142]
def Zmw:RL' H:=[mv' 143 12,to 144 (A'5 .quo (.tmp 143) (.const (.int .u32 100))),mv' 12 144]
def Zmx(O:HI H)(ro:Nat):RL' H:=[mv' 145 0,mv' 146 4,ik' .sub 147 146 1,mv' 148 0,mv' 149 4,ik' .sub 150 149 2,mv' 151 16,to 152 (A'5 .add (.tmp 151) (.const (.int .u32 1))),to 153 (A'3 (.const (.string strC200)) (.tmp 152)),mv' 154 16,to 155 (A'3 (.const (.string strC200)) (.tmp 154)),ix' 1 156 145 147,too (aSt O ro 1 (.tmp 156) (.tmp 153)),ix' 1 157 148 150,too (aSt O ro 1 (.tmp 157) (.tmp 155))]
def Zmy:RL' H:=[mv' 158 4,ik' .sub 159 158 2,mv' 4 159]
def Zmz:RL' H:=[mv' 160 4,ik' .gtr 161 160 0]
def ZmA(O:HI H)(ro:Nat):RL' H:=[mv' 162 0,mv' 163 12,to 164 (A'5 .add (.const (.int .u32 48)) (.tmp 163)),to 165 (A'2 .u8 (.tmp 164)),to 166 (B'A 1 (.tmp 162) (.const (.int .i64 0))),too (aSt O ro 1 (.tmp 166) (.tmp 165))]
def L'7:RC' H:=λO P ro=>A'b (A'b (A'c Zmb) (cIf (.tmp 20) (A'f) (A'r 0))) (A'z 1 (A'b (A'c Zmc) (A'b (A'c Zmd) (A'b (A'c Zme) (A'b (A'c Zmf) (A'b (A'c Zmg) (A'b (A'c (Zmh O ro)) (A'b (A'c (Zmi O ro)) (A'b (A'c (Zmj O ro)) (A'b (A'c (Zmk O ro)) (A'c Zml)))))))))))
def S'g:RC' H:=λO P ro=>A'b (A'c Zma) (A'b (A'z 0 (A'1 (L'7 O P ro))) (A'b (A'c Zmm) (A'b (A'b (A'c Zmn) (cIf (.tmp 99) (A'b (A'c Zmo) (A'b (A'c Zmp) (A'b (A'c Zmq) (A'b (A'c (Zmr O ro)) (A'b (A'c (Zms O ro)) (A'c Zmt)))))) (A'f))) (A'b (A'b (A'c Zmu) (cIf (.tmp 139) (A'b (A'c Zmv) (A'b (A'c Zmw) (A'b (A'c (Zmx O ro)) (A'c Zmy)))) (A'f))) (A'b (A'c Zmz) (cIf (.tmp 161) (A'c (ZmA O ro)) (A'f)))))))
theorem N'6:FN' 166 @S'g [] Tryz.f166:=f'n Tryz.func166
def ZmB:RL' H:=[mk' 2 0]
def ZmC:RL' H:=[mv' 3 0,ik' .mul 4 3 78913,to 5 (A'w .shr (.tmp 4) (.const (.int .u64 18))),mv' 2 5]
def R's:RC' H:=λO P ro=>A'b (A'c ZmB) (A'b (A'c ZmC) (A'y))
theorem N'7:FN' 196 @R's [.tmp 2] Tryz.f196:=f'n Tryz.func196
def ZmD:RL' H:=[mk' 2 0]
def ZmE:RL' H:=[mv' 3 0,to 4 (A'5 .geq (.tmp 3) (.const (.int .u64 4294967296)))]
def ZmF:RL' H:=[mv' 5 0,to 6 (A'w .shr (.tmp 5) (.const (.int .u64 32))),mv' 0 6]
def ZmG:RL' H:=[mk' 2 32]
def ZmH:RL' H:=[mv' 7 0,to 8 (A'5 .geq (.tmp 7) (.const (.int .u64 65536)))]
def ZmI:RL' H:=[mv' 9 0,to 10 (A'w .shr (.tmp 9) (.const (.int .u64 16))),mv' 0 10]
def ZmJ:RL' H:=[mv' 11 2,ik' .add 12 11 16,mv' 2 12]
def ZmK:RL' H:=[mv' 13 0,to 14 (A'5 .geq (.tmp 13) (.const (.int .u64 256)))]
def ZmL:RL' H:=[mv' 15 0,to 16 (A'w .shr (.tmp 15) (.const (.int .u64 8))),mv' 0 16]
def ZmM:RL' H:=[mv' 17 2,ik' .add 18 17 8,mv' 2 18]
def ZmN:RL' H:=[mv' 19 2,mv' 20 0,to 21 (A'2 .u8 (.tmp 20)),to 22 (A'3 (.const (.string J'j)) (.tmp 21)),to 23 (A'2 .i64 (.tmp 22)),ia' .add 24 19 23,mv' 2 24]
def R't:RC' H:=λO P ro=>A'b (A'c ZmD) (A'b (A'b (A'c ZmE) (cIf (.tmp 4) (A'b (A'c ZmF) (A'c ZmG)) (A'f))) (A'b (A'b (A'c ZmH) (cIf (.tmp 8) (A'b (A'c ZmI) (A'c ZmJ)) (A'f))) (A'b (A'b (A'c ZmK) (cIf (.tmp 14) (A'b (A'c ZmL) (A'c ZmM)) (A'f))) (A'b (A'c ZmN) (A'y)))))
theorem N'8:FN' 197 @R't [.tmp 2] Tryz.f197:=f'n Tryz.func197
def ZmO:RL' H:=[mk' 2 0]
def ZmP:RL' H:=[mv' 3 0]
def ZmQ:RL' H:=[mk' 2 1]
def ZmR:RL' H:=[mk' 2 0]
def R'u:RC' H:=λO P ro=>A'b (A'c ZmO) (A'b (A'b (A'c ZmP) (cIf (.tmp 3) (A'b (A'c ZmQ) (A'y)) (A'f))) (A'b (A'c ZmR) (A'y)))
theorem N'9:FN' 198 @R'u [.tmp 2] Tryz.f198:=f'n Tryz.func198
end
end Go.Proofs.YtimdkminagnhgabGreatDoor
