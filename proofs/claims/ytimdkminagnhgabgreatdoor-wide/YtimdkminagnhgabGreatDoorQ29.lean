import Derived.Test.YtimdkminagnhgabGreatDoorQ04
import Derived.Test.YtimdkminagnhgabGreatDoorProg
import Derived.KernelRfl
import Derived.Test.YtimdkminagnhgabGreatDoorQ05
set_option linter.all false
namespace Go.Proofs.YtimdkminagnhgabGreatDoor
open Go.Vm Go.Proofs
set_option maxRecDepth 100000
section
variable {H:Type}
def ZmS:RL' H:=[to 4 (A'i (.const (.bool false)))]
def ZmT:RL' H:=[to 18 (A'e 16 [.const (.int .i64 4),.const (.int .i64 6)]),mv' 5 18]
def ZmU:RL' H:=[mv' 19 0,to 20 (A'e 22 [.tmp 19,.const (.int .i64 59)]),to 21 (A'5 .add (.const (.int .i64 1)) (.tmp 20)),mv' 6 21]
def ZmV:RL' H:=[mk' 7 1]
def ZmW:RL' H:=[mk' 8 0]
def ZmX:RL' H:=[mv' 22 8,mv' 23 6,ia' .lss 24 22 23]
def ZmY:RL' H:=[mv' 27 1,mv' 28 8,ia' .add 29 27 28,to 30 (A'e 22 [.tmp 29,.const (.int .i64 4)]),mv' 9 30]
def ZmZ:RL' H:=[mv' 31 5,mv' 32 9,to 33 (A'e 20 [.tmp 31,.tmp 32]),mv' 10 33]
def Zm0:RL' H:=[mv' 34 5,mv' 35 7,mv' 36 10,to 37 (A'e 21 [.tmp 34,.tmp 35,.tmp 36]),mv' 7 37]
def Zm1:RL' H:=[mv' 25 8,ik' .add 26 25 1,mv' 8 26]
def Zm2:RL' H:=[mv' 38 5,to 39 (A'e 20 [.tmp 38,.const (.int .i64 0)]),mv' 11 39]
def Zm3(O:HI H)(ro:Nat):RL' H:=[mv' 40 5,mv' 41 5,mv' 42 7,mv' 43 11,to 44 (A'e 21 [.tmp 41,.tmp 42,.tmp 43]),nl' 45 40,fl' 5 46 45,too (aSt O ro 1 (.tmp 46) (.tmp 44))]
def Zm4:RL' H:=[mv' 47 5,to 48 (A'e 17 [.tmp 47]),mv' 12 48]
def Zm5:RL' H:=[mv' 50 12,to 51 (A'e 19 [.tmp 50]),mv' 49 51,to 52 (B'E (.tmp 49) 0),to 53 (B'E (.tmp 49) 1),to 54 (B'E (.tmp 49) 2),mv' 13 52,mv' 14 53,mv' 15 54]
def Zm6(O:HI H):RL' H:=[mv' 55 15,to 56 (aUn .not (.tmp 55)),mv' 57 56,A'a 57 false 58 (mv' 58 14),A'a 57 false 59 (ik' .neq 59 58 0),to 60 (A'q (.tmp 57) (.const (.bool true)) (.tmp 59)),mv' 61 60,A'a 61 false 62 (mv' 62 13),A'a 61 false 63 (ln' 63 62),A'a 61 false 64 (ik' .eql 64 63 0),to 65 (A'q (.tmp 61) (.const (.bool true)) (.tmp 64)),mv' 66 65,A'a 66 false 67 (mv' 67 13),A'a 66 false 68 (mv' 68 13),A'a 66 false 69 (ln' 69 68),A'a 66 false 70 (ik' .sub 70 69 1),A'a 66 false 71 (ix' 1 71 67 70),A'a 66 false 72 (ld' O 72 71),A'a 66 false 73 (ik' .and 73 72 1),A'a 66 false 74 (ik' .neq 74 73 1),to 75 (A'q (.tmp 66) (.const (.bool true)) (.tmp 74))]
def Zm7:RL' H:=[to 4 (A'i (.const (.bool false)))]
def Zm8:RL' H:=[mk' 16 0]
def Zm9:RL' H:=[mv' 76 16,mv' 77 6,ia' .lss 78 76 77]
def Zna:RL' H:=[mv' 81 1,mv' 82 16,ia' .add 83 81 82,to 84 (A'e 22 [.tmp 83,.const (.int .i64 4)]),mv' 17 84]
def Znb(O:HI H):RL' H:=[mv' 85 13,mv' 86 13,ln' 87 86,ik' .sub 88 87 1,ix' 1 89 85 88,ld' O 90 89,mv' 91 17,to 92 (A'w .shr (.tmp 90) (.tmp 91)),ik' .and 93 92 1,ik' .neq 94 93 1]
def Znc:RL' H:=[to 4 (A'i (.const (.bool false)))]
def Znd:RL' H:=[mv' 79 16,ik' .add 80 79 1,mv' 16 80]
def Zne:RL' H:=[mv' 95 12,mv' 96 1,to 97 (A'e 14 [.tmp 95,.tmp 96]),mv' 4 97]
def L'l:RC' H:=λO P ro=>A'b (A'b (A'c ZmX) (cIf (.tmp 24) (A'f) (A'r 0))) (A'b (A'z 1 (A'b (A'c ZmY) (A'b (A'c ZmZ) (A'c Zm0)))) (A'c Zm1))
def L'm:RC' H:=λO P ro=>A'b (A'b (A'c Zm9) (cIf (.tmp 78) (A'f) (A'r 2))) (A'b (A'z 3 (A'b (A'c Zna) (A'b (A'c (Znb O)) (cIf (.tmp 94) (A'b (A'c Znc) (A'y)) (A'f))))) (A'c Znd))
def F11:RC' H:=λO P ro=>A'b (A'c ZmS) (A'b (A'c ZmT) (A'b (A'c ZmU) (A'b (A'c ZmV) (A'b (A'b (A'c ZmW) (A'z 0 (A'1 (L'l O P ro)))) (A'b (A'c Zm2) (A'b (A'c (Zm3 O ro)) (A'b (A'c Zm4) (A'b (A'c Zm5) (A'b (A'b (A'c (Zm6 O)) (cIf (.tmp 75) (A'b (A'c Zm7) (A'y)) (A'f))) (A'b (A'b (A'c Zm8) (A'z 2 (A'1 (L'm O P ro)))) (A'b (A'c Zne) (A'y))))))))))))
theorem Q'g:FN' 11 @F11 [.tmp 4] Tryz.f11:=f'n Tryz.func11
def Znf:RL' H:=[to 4 (A'i (.const (.bool false)))]
def Zng(O:HI H)(ro:Nat):RL' H:=[mv' 27 0,to 28 (A'e 25 [.tmp 27]),mv' 26 28,to 29 (B'E (.tmp 26) 0),to 30 (B'E (.tmp 26) 1),to 6 (B'o O [.int .i64 0,.int .i64 0]),mv' 5 29,too (aSt O ro 2 (.tmp 6) (.tmp 30))]
def Znh(O:HI H):RL' H:=[fl' 0 31 6,ld' O 32 31,ik' .neq 33 32 0]
def Zni:RL' H:=[mv' 34 0,to 35 (A'e 26 [.tmp 34,.const (.int .i64 7)]),mv' 7 35]
def Znj(O:HI H):RL' H:=[mv' 36 5,to 37 (A'o false (.tmp 36) (.const (.pointer none))),mv' 38 37,A'a 38 true 39 (mv' 39 7),A'a 38 true 40 (to 40 (A'o true (.tmp 39) (.const (.pointer none)))),to 41 (A'q (.tmp 38) (.tmp 40) (.const (.bool false))),mv' 42 41,A'a 42 true 43 (mv' 43 7),A'a 42 true 44 (nl' 44 43),A'a 42 true 45 (fl' 0 45 44),A'a 42 true 46 (ld' O 46 45),A'a 42 true 47 (ik' .eql 47 46 0),to 48 (A'q (.tmp 42) (.tmp 47) (.const (.bool false))),mv' 49 48,A'a 49 true 50 (mv' 50 7),A'a 49 true 51 (nl' 51 50),A'a 49 true 52 (fl' 1 52 51),A'a 49 true 53 (to 53 (B'n O 2 (.tmp 52))),A'a 49 true 54 (to 54 (B'n O 2 (.tmp 6))),A'a 49 true 55 (to 55 (E'f false 2 (.tmp 53) (.tmp 54))),to 56 (A'q (.tmp 49) (.tmp 55) (.const (.bool false))),mv' 57 56,A'a 57 true 58 (mv' 58 7),A'a 57 true 59 (nl' 59 58),A'a 57 true 60 (fl' 7 60 59),A'a 57 true 61 (ld' O 61 60),A'a 57 true 62 (to 62 (B'4 .eql (.tmp 61) (.const (.string { data:=#[] })))),to 63 (A'q (.tmp 57) (.tmp 62) (.const (.bool false))),mv' 64 63,A'a 64 true 65 (mv' 65 7),A'a 64 true 66 (nl' 66 65),A'a 64 true 67 (fl' 6 67 66),A'a 64 true 68 (ld' O 68 67),A'a 64 true 69 (ik' .eql 69 68 0),to 70 (A'q (.tmp 64) (.tmp 69) (.const (.bool false))),mv' 4 70]
def Znk:RL' H:=[mv' 71 5,to 72 (A'e 27 [.tmp 71]),mv' 8 72]
def Znl:RL' H:=[mv' 73 5,to 74 (A'e 28 [.tmp 73]),mv' 9 74]
def Znm(O:HI H)(ro:Nat):RL' H:=[mv' 76 8,to 77 (A'e 25 [.tmp 76]),mv' 75 77,to 78 (B'E (.tmp 75) 0),to 79 (B'E (.tmp 75) 1),to 11 (B'o O [.int .i64 0,.int .i64 0]),mv' 10 78,too (aSt O ro 2 (.tmp 11) (.tmp 79))]
def Znn(O:HI H)(ro:Nat):RL' H:=[mv' 81 9,to 82 (A'e 25 [.tmp 81]),mv' 80 82,to 83 (B'E (.tmp 80) 0),to 84 (B'E (.tmp 80) 1),to 13 (B'o O [.int .i64 0,.int .i64 0]),mv' 12 83,too (aSt O ro 2 (.tmp 13) (.tmp 84))]
def Zno(O:HI H):RL' H:=[fl' 0 85 11,ld' O 86 85,ik' .neq 87 86 0,mv' 88 87,A'a 88 false 89 (fl' 0 89 13),A'a 88 false 90 (ld' O 90 89),A'a 88 false 91 (ik' .neq 91 90 0),to 92 (A'q (.tmp 88) (.const (.bool true)) (.tmp 91))]
def Znp:RL' H:=[to 4 (A'i (.const (.bool false)))]
def Znq:RL' H:=[mv' 93 10,to 94 (A'e 27 [.tmp 93]),mv' 14 94]
def Znr:RL' H:=[mv' 95 12,to 96 (A'e 27 [.tmp 95]),mv' 15 96]
def Zns:RL' H:=[mv' 97 10,to 98 (A'e 28 [.tmp 97]),mv' 16 98]
def Znt:RL' H:=[mv' 99 12,to 100 (A'e 28 [.tmp 99]),mv' 17 100]
def Znu:RL' H:=[mv' 101 14,mv' 102 8,to 103 (B'4 .neq (.tmp 101) (.tmp 102)),mv' 104 103,A'a 104 false 105 (mv' 105 15),A'a 104 false 106 (mv' 106 8),A'a 104 false 107 (to 107 (B'4 .neq (.tmp 105) (.tmp 106))),to 108 (A'q (.tmp 104) (.const (.bool true)) (.tmp 107)),mv' 109 108,A'a 109 false 110 (mv' 110 16),A'a 109 false 111 (mv' 111 9),A'a 109 false 112 (to 112 (B'4 .neq (.tmp 110) (.tmp 111))),to 113 (A'q (.tmp 109) (.const (.bool true)) (.tmp 112)),mv' 114 113,A'a 114 false 115 (mv' 115 17),A'a 114 false 116 (mv' 116 9),A'a 114 false 117 (to 117 (B'4 .neq (.tmp 115) (.tmp 116))),to 118 (A'q (.tmp 114) (.const (.bool true)) (.tmp 117))]
def Znv:RL' H:=[to 4 (A'i (.const (.bool false)))]
def Znw:RL' H:=[mv' 119 0,to 120 (A'e 26 [.tmp 119,.const (.int .i64 1152921504606846976)]),mv' 18 120]
def Znx:RL' H:=[mv' 121 8,to 122 (A'e 26 [.tmp 121,.const (.int .i64 1152921504606846976)]),mv' 19 122]
def Zny:RL' H:=[mv' 123 9,to 124 (A'e 26 [.tmp 123,.const (.int .i64 1152921504606846976)]),mv' 20 124]
def Znz:RL' H:=[mv' 125 18,to 126 (A'o false (.tmp 125) (.const (.pointer none))),mv' 127 126,A'a 127 false 128 (mv' 128 19),A'a 127 false 129 (to 129 (A'o false (.tmp 128) (.const (.pointer none)))),to 130 (A'q (.tmp 127) (.const (.bool true)) (.tmp 129)),mv' 131 130,A'a 131 false 132 (mv' 132 20),A'a 131 false 133 (to 133 (A'o false (.tmp 132) (.const (.pointer none)))),to 134 (A'q (.tmp 131) (.const (.bool true)) (.tmp 133))]
def ZnA:RL' H:=[to 4 (A'i (.const (.bool false)))]
def ZnB:RL' H:=[mv' 135 18,mv' 136 19,to 137 (A'e 29 [.tmp 135,.tmp 136]),mv' 21 137]
def ZnC:RL' H:=[mv' 138 18,mv' 139 20,to 140 (A'e 29 [.tmp 138,.tmp 139]),mv' 22 140]
def ZnD(O:HI H):RL' H:=[mv' 141 21,to 142 (aUn .not (.tmp 141)),mv' 143 142,A'a 143 false 144 (mv' 144 22),A'a 143 false 145 (to 145 (aUn .not (.tmp 144))),to 146 (A'q (.tmp 143) (.const (.bool true)) (.tmp 145)),mv' 147 146,A'a 147 false 148 (mv' 148 18),A'a 147 false 149 (nl' 149 148),A'a 147 false 150 (fl' 0 150 149),A'a 147 false 151 (ld' O 151 150),A'a 147 false 152 (ik' .eql 152 151 3),to 153 (A'q (.tmp 147) (.const (.bool true)) (.tmp 152)),mv' 154 153,A'a 154 false 155 (mv' 155 18),A'a 154 false 156 (nl' 156 155),A'a 154 false 157 (fl' 0 157 156),A'a 154 false 158 (ld' O 158 157),A'a 154 false 159 (ik' .eql 159 158 0),to 160 (A'q (.tmp 154) (.const (.bool true)) (.tmp 159))]
def ZnE:RL' H:=[to 4 (A'i (.const (.bool false)))]
def ZnF:RL' H:=[mv' 161 1,to 162 (A'e 22 [.tmp 161,.const (.int .i64 1099511627776)]),mv' 23 162]
def ZnG:RL' H:=[mv' 163 0,mv' 164 23,to 165 (A'e 26 [.tmp 163,.tmp 164]),mv' 24 165]
def ZnH:RL' H:=[mv' 166 24,to 167 (A'o false (.tmp 166) (.const (.pointer none)))]
def ZnI:RL' H:=[to 4 (A'i (.const (.bool false)))]
def ZnJ(O:HI H):RL' H:=[mv' 168 24,nl' 169 168,fl' 0 170 169,ld' O 171 170,ik' .neq 172 171 3]
def ZnK:RL' H:=[mv' 173 24,mv' 174 18,to 175 (A'e 29 [.tmp 173,.tmp 174]),mv' 4 175]
def ZnL:RL' H:=[mv' 176 0,mv' 177 23,ik' .quo 178 177 2,to 179 (A'e 26 [.tmp 176,.tmp 178]),mv' 25 179]
def ZnM(O:HI H):RL' H:=[mv' 180 25,to 181 (A'o true (.tmp 180) (.const (.pointer none))),mv' 182 181,A'a 182 true 183 (mv' 183 25),A'a 182 true 184 (nl' 184 183),A'a 182 true 185 (fl' 0 185 184),A'a 182 true 186 (ld' O 186 185),A'a 182 true 187 (ik' .eql 187 186 3),to 188 (A'q (.tmp 182) (.tmp 187) (.const (.bool false))),mv' 4 188]
def F14:RC' H:=λO P ro=>A'b (A'c Znf) (A'b (A'c (Zng O ro)) (A'b (A'b (A'c (Znh O)) (cIf (.tmp 33) (A'b (A'c Zni) (A'b (A'c (Znj O)) (A'y))) (A'f))) (A'b (A'c Znk) (A'b (A'c Znl) (A'b (A'c (Znm O ro)) (A'b (A'c (Znn O ro)) (A'b (A'b (A'c (Zno O)) (cIf (.tmp 92) (A'b (A'c Znp) (A'y)) (A'f))) (A'b (A'c Znq) (A'b (A'c Znr) (A'b (A'c Zns) (A'b (A'c Znt) (A'b (A'b (A'c Znu) (cIf (.tmp 118) (A'b (A'c Znv) (A'y)) (A'f))) (A'b (A'c Znw) (A'b (A'c Znx) (A'b (A'c Zny) (A'b (A'b (A'c Znz) (cIf (.tmp 134) (A'b (A'c ZnA) (A'y)) (A'f))) (A'b (A'c ZnB) (A'b (A'c ZnC) (A'b (A'b (A'c (ZnD O)) (cIf (.tmp 160) (A'b (A'c ZnE) (A'y)) (A'f))) (A'b (A'c ZnF) (A'b (A'c ZnG) (A'b (A'b (A'c ZnH) (cIf (.tmp 167) (A'b (A'c ZnI) (A'y)) (A'f))) (A'b (A'b (A'c (ZnJ O)) (cIf (.tmp 172) (A'b (A'c ZnK) (A'y)) (A'f))) (A'b (A'c ZnL) (A'b (A'c (ZnM O)) (A'y))))))))))))))))))))))))))
theorem Q'h:FN' 14 @F14 [.tmp 4] Tryz.f14:=f'n Tryz.func14
def ZnN:RL' H:=[to 4 (A'i (.const (.bool false)))]
def ZnO(O:HI H):RL' H:=[mv' 7 0,nl' 8 7,fl' 0 9 8,ld' O 10 9,mv' 11 1,nl' 12 11,fl' 0 13 12,ld' O 14 13,ia' .neq 15 10 14,mv' 16 15,A'a 16 false 17 (mv' 17 0),A'a 16 false 18 (nl' 18 17),A'a 16 false 19 (fl' 7 19 18),A'a 16 false 20 (ld' O 20 19),A'a 16 false 21 (mv' 21 1),A'a 16 false 22 (nl' 22 21),A'a 16 false 23 (fl' 7 23 22),A'a 16 false 24 (ld' O 24 23),A'a 16 false 25 (to 25 (B'4 .neq (.tmp 20) (.tmp 24))),to 26 (A'q (.tmp 16) (.const (.bool true)) (.tmp 25)),mv' 27 26,A'a 27 false 28 (mv' 28 0),A'a 27 false 29 (nl' 29 28),A'a 27 false 30 (fl' 4 30 29),A'a 27 false 31 (ld' O 31 30),A'a 27 false 32 (mv' 32 1),A'a 27 false 33 (nl' 33 32),A'a 27 false 34 (fl' 4 34 33),A'a 27 false 35 (ld' O 35 34),A'a 27 false 36 (ia' .neq 36 31 35),to 37 (A'q (.tmp 27) (.const (.bool true)) (.tmp 36)),mv' 38 37,A'a 38 false 39 (mv' 39 0),A'a 38 false 40 (nl' 40 39),A'a 38 false 41 (fl' 6 41 40),A'a 38 false 42 (ld' O 42 41),A'a 38 false 43 (mv' 43 1),A'a 38 false 44 (nl' 44 43),A'a 38 false 45 (fl' 6 45 44),A'a 38 false 46 (ld' O 46 45),A'a 38 false 47 (ia' .neq 47 42 46),to 48 (A'q (.tmp 38) (.const (.bool true)) (.tmp 47)),mv' 49 48,A'a 49 false 50 (mv' 50 0),A'a 49 false 51 (nl' 51 50),A'a 49 false 52 (fl' 3 52 51),A'a 49 false 53 (ld' O 53 52),A'a 49 false 54 (ln' 54 53),A'a 49 false 55 (mv' 55 1),A'a 49 false 56 (nl' 56 55),A'a 49 false 57 (fl' 3 57 56),A'a 49 false 58 (ld' O 58 57),A'a 49 false 59 (ln' 59 58),A'a 49 false 60 (ia' .neq 60 54 59),to 61 (A'q (.tmp 49) (.const (.bool true)) (.tmp 60))]
def ZnP:RL' H:=[to 4 (A'i (.const (.bool false)))]
def ZnQ:RL' H:=[mk' 5 0]
def ZnR(O:HI H):RL' H:=[mv' 62 5,mv' 63 0,nl' 64 63,fl' 3 65 64,ld' O 66 65,ln' 67 66,ia' .lss 68 62 67]
def ZnS(O:HI H):RL' H:=[mv' 71 0,nl' 72 71,fl' 3 73 72,ld' O 74 73,mv' 75 5,ix' 1 76 74 75,ld' O 77 76,mv' 78 1,nl' 79 78,fl' 3 80 79,ld' O 81 80,mv' 82 5,ix' 1 83 81 82,ld' O 84 83,to 85 (A'e 52 [.tmp 77,.tmp 84]),mv' 6 85]
def ZnT:RL' H:=[mv' 86 6,to 87 (aUn .not (.tmp 86))]
def ZnU:RL' H:=[to 4 (A'i (.const (.bool false)))]
def ZnV:RL' H:=[mv' 69 5,ik' .add 70 69 1,mv' 5 70]
def ZnW(O:HI H):RL' H:=[mv' 88 0,nl' 89 88,fl' 5 90 89,ld' O 91 90,mv' 92 1,nl' 93 92,fl' 5 94 93,ld' O 95 94,to 96 (A'e 52 [.tmp 91,.tmp 95]),mv' 4 96]
def Q'i:RC' H:=λO P ro=>A'b (A'b (A'c (ZnR O)) (cIf (.tmp 68) (A'f) (A'r 0))) (A'b (A'z 1 (A'b (A'c (ZnS O)) (A'b (A'c ZnT) (cIf (.tmp 87) (A'b (A'c ZnU) (A'y)) (A'f))))) (A'c ZnV))
def F29:RC' H:=λO P ro=>A'b (A'c ZnN) (A'b (A'b (A'c (ZnO O)) (cIf (.tmp 61) (A'b (A'c ZnP) (A'y)) (A'f))) (A'b (A'b (A'c ZnQ) (A'z 0 (A'1 (Q'i O P ro)))) (A'b (A'c (ZnW O)) (A'y))))
theorem Q'j:FN' 29 @F29 [.tmp 4] Tryz.f29:=f'n Tryz.func29
def ZnX:RL' H:=[to 4 (A'i (.const (.bool false)))]
def ZnY:RL' H:=[mv' 6 0,ln' 7 6,mv' 8 1,ln' 9 8,ia' .neq 10 7 9]
def ZnZ:RL' H:=[to 4 (A'i (.const (.bool false)))]
def Zn0:RL' H:=[mk' 5 0]
def Zn1:RL' H:=[mv' 11 5,mv' 12 0,ln' 13 12,ia' .lss 14 11 13]
def Zn2(O:HI H):RL' H:=[mv' 17 0,mv' 18 5,ix' 1 19 17 18,ld' O 20 19,mv' 21 1,mv' 22 5,ix' 1 23 21 22,ld' O 24 23,ia' .neq 25 20 24]
def Zn3:RL' H:=[to 4 (A'i (.const (.bool false)))]
def Zn4:RL' H:=[mv' 15 5,ik' .add 16 15 1,mv' 5 16]
def Zn5:RL' H:=[to 4 (A'i (.const (.bool true)))]
def L'n:RC' H:=λO P ro=>A'b (A'b (A'c Zn1) (cIf (.tmp 14) (A'f) (A'r 0))) (A'b (A'z 1 (A'b (A'c (Zn2 O)) (cIf (.tmp 25) (A'b (A'c Zn3) (A'y)) (A'f)))) (A'c Zn4))
def F52:RC' H:=λO P ro=>A'b (A'c ZnX) (A'b (A'b (A'c ZnY) (cIf (.tmp 10) (A'b (A'c ZnZ) (A'y)) (A'f))) (A'b (A'b (A'c Zn0) (A'z 0 (A'1 (L'n O P ro)))) (A'b (A'c Zn5) (A'y))))
theorem Q'k:FN' 52 @F52 [.tmp 4] Tryz.f52:=f'n Tryz.func52
end
end Go.Proofs.YtimdkminagnhgabGreatDoor
