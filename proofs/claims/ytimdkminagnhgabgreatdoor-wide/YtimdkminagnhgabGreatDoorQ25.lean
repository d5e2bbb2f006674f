import Derived.Test.YtimdkminagnhgabGreatDoorQ14
import Derived.Test.YtimdkminagnhgabGreatDoorQ24
set_option linter.all false
namespace Go.Proofs.YtimdkminagnhgabGreatDoor
open Go.Vm Go.Proofs
set_option maxHeartbeats 1000000
structure HR where
 bin:Bool
 m:Nat
 nin:Nat
 nla:Nat
 nou:Nat
 nan:Nat
 nbs:Nat
 cs:Nat
 js:Nat
 fs:Nat
structure FD where
 hd:HR
 R:RS
 defs:List Us
 next:List Us
 outs:List Us
 bads:List Us
 resets:List Nat
 left:List Us
 right:List Us
def L'6 (s:ByteArray)(D:HR)(R:RS)(v0 v1 v2 v3 v4 v5 v6:Value): List Value:=
 [.bool D.bin,.int .i64 D.m,.int .i64 D.nin,.int .i64 D.nla,.int .i64 D.nou,.int .i64 D.nan,.int .i64 D.nbs,.int .i64 D.cs,.int .i64 D.js,.int .i64 D.fs,v0,v1,v2,v3,v4,v5,v6,.int .i64 R.e,.int .i64 R.ep,.int .i64 R.pos,.string s]
section
variable {H:Type}{O:HI H}{ro:Nat}{c:A'X H}
structure FB (O:HI H) (ro:Nat)(w:Own)(h:H) (f:Nat)(s:ByteArray)(F:FD)(v0 v1 v2 v3 v4 v5 v6:Value):Prop where
 m:Bx O ro w h (1,1000) f (L'6 s F.hd F.R v0 v1 v2 v3 v4 v5 v6)
 s0:Sl O ro w h (1,10) 2 v0 (F.defs.flatMap Us.cells)
 s1:Sl O ro w h (1,11) 2 v1 (F.next.flatMap Us.cells)
 s2:Sl O ro w h (1,12) 2 v2 (F.outs.flatMap Us.cells)
 s3:Sl O ro w h (1,13) 2 v3 (F.bads.flatMap Us.cells)
 s4:Sl O ro w h (1,14) 1 v4 (F.resets.map λn=>Value.int .i64 (n:Nat))
 s5:Sl O ro w h (1,15) 2 v5 (F.left.flatMap Us.cells)
 s6:Sl O ro w h (1,16) 2 v6 (F.right.flatMap Us.cells)
theorem FB.own (L:O.Law){w:Own}{h h':H}{f:Nat}{s:ByteArray}{F:FD}{v0 v1 v2 v3 v4 v5 v6:Value}(x:FB O ro w h f s F v0 v1 v2 v3 v4 v5 v6)(a:Ch O (λu=>u=(1,1000)) w h w h')(D:HR)(R:RS)(m:Bx O ro w h' (1,1000) f (L'6 s D R v0 v1 v2 v3 v4 v5 v6)): FB O ro w h' f s { F with hd:=D,R:=R } v0 v1 v2 v3 v4 v5 v6:=
 ⟨m,x.s0.ch L a,x.s1.ch L a,x.s2.ch L a,x.s3.ch L a,x.s4.ch L a,x.s5.ch L a,x.s6.ch L a⟩
attribute [local simp] A'b A'c reg to too A'a A'n A'i mv' nl' fl' ld' ln' mk' ia' ik' ix' B'C B'D aLd A'5 A'q A'7 A'3 A'2 aUn unA ev A'k isB A'Z A'C A'D A'E A'F A'G A'H A'I A'J A'K cIf A'y A'f A'g A'L A'h rvE aSt A'M A't A'N A'O A'P B'c A'Q A'u A'R A'S B'd A'T A'v A'U A'V A'W B'e A'l Instr.fill A'e A'r A'z A's ptr undef B'o B'r A'j B'n A'w B'w A'B B'A A'x B'p rangeA B'E
end
end Go.Proofs.YtimdkminagnhgabGreatDoor
namespace Go.Proofs.YtimdkminagnhgabGreatDoor
open Go.Vm Go.Proofs
set_option maxHeartbeats 1000000
def wdS (s:ByteArray)(R:RS): Us×RS:=
 let q:=E'i s R
 (⟨q.1,R.pos⟩,if q.2.e=0 then q.2 else ⟨R.pos,q.2.e,q.2.ep⟩)
section
variable {H:Type}{O:HI H}{ro:Nat}{c:A'X H}
attribute [local simp] A'b A'c reg to too A'a A'n A'i mv' nl' fl' ld' ln' mk' ia' ik' ix' B'C B'D aLd A'5 A'q A'7 A'3 A'2 aUn unA ev A'k isB A'Z A'C A'D A'E A'F A'G A'H A'I A'J A'K cIf A'y A'f A'g A'L A'h rvE aSt A'M A't A'N A'O A'P B'c A'Q A'u A'R A'S B'd A'T A'v A'U A'V A'W B'e A'l Instr.fill A'e A'r A'z A's ptr undef B'o B'r A'j B'n A'w B'w A'B B'A A'x B'p rangeA B'E B'P B'4 F'y A'm
end
end Go.Proofs.YtimdkminagnhgabGreatDoor
