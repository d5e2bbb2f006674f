import Derived.Test.YtimdkminagnhgaaGreatDoorQ14
import Derived.Test.YtimdkminagnhgaaGreatDoorQ31
set_option linter.all false
namespace Go.Proofs.YtimdkminagnhgaaGreatDoor
open Go.Vm Go.Proofs
set_option maxHeartbeats 1000000
structure HR where
 bin:Bool
 m:Nat
 nin:Nat
 nla:Nat
 nou:Nat
 nan:Nat
 nbs:Nat
 cs:Nat
 js:Nat
 fs:Nat
structure FD where
 hd:HR
 R:RS
 defs:List Us
 next:List Us
 outs:List Us
 bads:List Us
 resets:List Nat
 left:List Us
 right:List Us
def O'A (s:ByteArray)(D:HR)(R:RS)(v0 v1 v2 v3 v4 v5 v6:Value): List Value:=
 [.bool D.bin,.int .i64 D.m,.int .i64 D.nin,.int .i64 D.nla,.int .i64 D.nou,.int .i64 D.nan,.int .i64 D.nbs,.int .i64 D.cs,.int .i64 D.js,.int .i64 D.fs,v0,v1,v2,v3,v4,v5,v6,.int .i64 R.e,.int .i64 R.ep,.int .i64 R.pos,.string s]
section
variable {H:Type}{O:HI H}{ro:Nat}{c:A'Z H}
structure FB (O:HI H) (ro:Nat)(w:Own)(h:H) (f:Nat)(s:ByteArray)(F:FD)(v0 v1 v2 v3 v4 v5 v6:Value):Prop where
 m:Bx O ro w h (1,1000) f (O'A s F.hd F.R v0 v1 v2 v3 v4 v5 v6)
 s0:Sl O ro w h (1,10) 2 v0 (F.defs.flatMap Us.cells)
 s1:Sl O ro w h (1,11) 2 v1 (F.next.flatMap Us.cells)
 s2:Sl O ro w h (1,12) 2 v2 (F.outs.flatMap Us.cells)
 s3:Sl O ro w h (1,13) 2 v3 (F.bads.flatMap Us.cells)
 s4:Sl O ro w h (1,14) 1 v4 (F.resets.map λn=>Value.int .i64 (n:Nat))
 s5:Sl O ro w h (1,15) 2 v5 (F.left.flatMap Us.cells)
 s6:Sl O ro w h (1,16) 2 v6 (F.right.flatMap Us.cells)
theorem FB.own (L:O.Law){w:Own}{h h':H}{f:Nat}{s:ByteArray}{F:FD}{v0 v1 v2 v3 v4 v5 v6:Value}(x:FB O ro w h f s F v0 v1 v2 v3 v4 v5 v6)(a:Ch O (λu=>u=(1,1000)) w h w h')(D:HR)(R:RS)(m:Bx O ro w h' (1,1000) f (O'A s D R v0 v1 v2 v3 v4 v5 v6)): FB O ro w h' f s { F with hd:=D,R:=R } v0 v1 v2 v3 v4 v5 v6:=
 ⟨m,x.s0.ch L a,x.s1.ch L a,x.s2.ch L a,x.s3.ch L a,x.s4.ch L a,x.s5.ch L a,x.s6.ch L a⟩
attribute [local simp] A'a A'b reg to too A'd A'q A'h mv' nl' fl' ld' ln' mk' ia' ik' ix' B'F B'G aLd B'h A'w B'c B'x A'4 aUn unA ev A'l isB A'0 A'E A'F A'G A'H A'I A'J A'K A'L A'M cIf A'B A'f A'g A'1 A'i rvE aSt A'N A't A'O A'P A'Q A'9 A'R A'u A'S A'T B'a A'U A'v A'V A'W A'X B'b A'p Instr.fill A'e A'n A'x A'j ptr undef B'o B'y A'k B's A's B'T A'D B'C A'y B'p rangeA B'O
end
end Go.Proofs.YtimdkminagnhgaaGreatDoor
namespace Go.Proofs.YtimdkminagnhgaaGreatDoor
open Go.Vm Go.Proofs
set_option maxHeartbeats 1000000
section
variable {H:Type}{O:HI H}{ro:Nat}{c:A'Z H}
attribute [local simp] A'a A'b reg to too A'd A'q A'h mv' nl' fl' ld' ln' mk' ia' ik' ix' B'F B'G aLd B'h A'w B'c B'x A'4 aUn unA ev A'l isB A'0 A'E A'F A'G A'H A'I A'J A'K A'L A'M cIf A'B A'f A'g A'1 A'i rvE aSt A'N A't A'O A'P A'Q A'9 A'R A'u A'S A'T B'a A'U A'v A'V A'W A'X B'b A'p Instr.fill A'e A'n A'x A'j ptr undef B'o B'y A'k B's A's B'T A'D B'C A'y B'p rangeA B'O C'P D'j H'7 A'o
end
end Go.Proofs.YtimdkminagnhgaaGreatDoor
