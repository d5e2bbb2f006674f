import Derived.Test.YtimdkminagnhgaaGreatDoorQ04
import Derived.Test.YtimdkminagnhgaaGreatDoorProg
import Derived.KernelRfl
import Derived.Test.YtimdkminagnhgaaGreatDoorQ05
set_option linter.all false
namespace Go.Proofs.YtimdkminagnhgaaGreatDoor
open Go.Vm Go.Proofs
set_option maxRecDepth 100000
section
variable {H:Type}
def strC200:ByteArray:=⟨#[48,48,48,49,48,50,48,51,48,52,48,53,48,54,48,55,48,56,48,57,49,48,49,49,49,50,49,51,49,52,49,53,49,54,49,55,49,56,49,57,50,48,50,49,50,50,50,51,50,52,50,53,50,54,50,55,50,56,50,57,51,48,51,49,51,50,51,51,51,52,51,53,51,54,51,55,51,56,51,57,52,48,52,49,52,50,52,51,52,52,52,53,52,54,52,55,52,56,52,57,53,48,53,49,53,50,53,51,53,52,53,53,53,54,53,55,53,56,53,57,54,48,54,49,54,50,54,51,54,52,54,53,54,54,54,55,54,56,54,57,55,48,55,49,55,50,55,51,55,52,55,53,55,54,55,55,55,56,55,57,56,48,56,49,56,50,56,51,56,52,56,53,56,54,56,55,56,56,56,57,57,48,57,49,57,50,57,51,57,52,57,53,57,54,57,55,57,56,57,57]⟩
def ZoW:RL' H:=[to 4 (A'h (.const (.string { data:=#[] })))]
def ZoX:RL' H:=[mv' 10 1,ik' .eql 11 10 10]
def ZoY:RL' H:=[mv' 12 0,to 13 (B'h .leq (.const (.int .i64 0)) (.tmp 12)),mv' 14 13,A'd 14 true 15 (mv' 15 0),A'd 14 true 16 (ik' .lss 16 15 100),to 17 (A'w (.tmp 14) (.tmp 16) (.const (.bool false)))]
def ZoZ:RL' H:=[mv' 18 0,to 19 (A'e 214 [.tmp 18]),mv' 4 19]
def Zo0(O:HI H):RL' H:=[to 5 (B'o O [.int .u8 0,.int .u8 0,.int .u8 0,.int .u8 0,.int .u8 0,.int .u8 0,.int .u8 0,.int .u8 0,.int .u8 0,.int .u8 0,.int .u8 0,.int .u8 0,.int .u8 0,.int .u8 0,.int .u8 0,.int .u8 0,.int .u8 0,.int .u8 0,.int .u8 0,.int .u8 0,.int .u8 0,.int .u8 0,.int .u8 0,.int .u8 0])]
def Zo1:RL' H:=[mv' 20 0,to 21 (A'4 .u64 (.tmp 20)),mv' 6 21]
def Zo2:RL' H:=[mv' 22 0,ik' .lss 23 22 0]
def Zo3:RL' H:=[mv' 24 6,to 25 (aUn .neg (.tmp 24)),mv' 6 25]
def Zo4:RL' H:=[mv' 26 6,to 27 (A'e 215 [.tmp 26]),mv' 7 27]
def Zo5(O:HI H):RL' H:=[mv' 28 7,to 29 (B'h .add (.const (.int .i64 1)) (.tmp 28)),to 30 (D'k O 24 1 (.tmp 5) (some (.const (.int .i64 1))) (some (.tmp 29))),mv' 31 6,to 32 (A'e 216 [.tmp 30,.tmp 31])]
def Zo6:RL' H:=[mv' 33 0,ik' .lss 34 33 0]
def Zo7(O:HI H)(ro:Nat):RL' H:=[to 35 (A'k 24 1 (.tmp 5) (.const (.int .i64 0))),too (aSt O ro 1 (.tmp 35) (.const (.int .u8 45)))]
def Zo8(O:HI H):RL' H:=[mv' 36 7,to 37 (B'h .add (.const (.int .i64 1)) (.tmp 36)),to 38 (D'k O 24 1 (.tmp 5) none (some (.tmp 37))),to 39 (J'K O (.tmp 38)),mv' 4 39]
def Zo9(O:HI H):RL' H:=[mv' 40 7,to 41 (B'h .add (.const (.int .i64 1)) (.tmp 40)),to 42 (D'k O 24 1 (.tmp 5) (some (.const (.int .i64 1))) (some (.tmp 41))),to 43 (J'K O (.tmp 42)),mv' 4 43]
def Zpa:RL' H:=[mv' 45 0,to 46 (A'4 .u64 (.tmp 45)),mv' 47 1,mv' 48 0,ik' .lss 49 48 0,to 50 (A'e 217 [.const (.slice none 0 0),.tmp 46,.tmp 47,.tmp 49,.const (.bool false)]),mv' 44 50,to 51 (B'O (.tmp 44) 0),to 52 (B'O (.tmp 44) 1),mv' 8 51,mv' 9 52]
def Zpb:RL' H:=[mv' 53 9,mv' 4 53]
def V'N:RC' H:=λO P ro=>A'a (A'b ZoW) (A'a (A'a (A'b ZoX) (cIf (.tmp 11) (A'a (A'a (A'b ZoY) (cIf (.tmp 17) (A'a (A'b ZoZ) (A'B)) (A'f))) (A'a (A'b (Zo0 O)) (A'a (A'b Zo1) (A'a (A'a (A'b Zo2) (cIf (.tmp 23) (A'b Zo3) (A'f))) (A'a (A'b Zo4) (A'a (A'b (Zo5 O)) (A'a (A'a (A'b Zo6) (cIf (.tmp 34) (A'a (A'b (Zo7 O ro)) (A'a (A'b (Zo8 O)) (A'B))) (A'f))) (A'a (A'b (Zo9 O)) (A'B))))))))) (A'f))) (A'a (A'b Zpa) (A'a (A'b Zpb) (A'B))))
theorem R'd:FN' 204 @V'N [.tmp 4] Tryz.f204:=f'n Tryz.func204
def Zpc:RL' H:=[to 2 (A'h (.const (.string { data:=#[] })))]
def Zpd:RL' H:=[mv' 3 0,ik' .lss 4 3 10]
def Zpe:RL' H:=[mv' 5 0,mv' 6 0,ik' .add 7 6 1,to 8 (C'P (.const (.string { data:=#[48,49,50,51,52,53,54,55,56,57,97,98,99,100,101,102,103,104,105,106,107,108,109,110,111,112,113,114,115,116,117,118,119,120,121,122] })) (some (.tmp 5)) (some (.tmp 7))),mv' 2 8]
def Zpf:RL' H:=[mv' 9 0,ik' .mul 10 9 2,mv' 11 0,ik' .mul 12 11 2,ik' .add 13 12 2,to 14 (C'P (.const (.string strC200)) (some (.tmp 10)) (some (.tmp 13))),mv' 2 14]
def U'q:RC' H:=λO P ro=>A'a (A'b Zpc) (A'a (A'a (A'b Zpd) (cIf (.tmp 4) (A'a (A'b Zpe) (A'B)) (A'f))) (A'a (A'b Zpf) (A'B)))
theorem R'e:FN' 214 @U'q [.tmp 2] Tryz.f214:=f'n Tryz.func214
end
end Go.Proofs.YtimdkminagnhgaaGreatDoor
