import Derived.Test.YtimdkminagnhgaaGreatDoorQ44
set_option linter.all false
namespace Go.Proofs.YtimdkminagnhgaaGreatDoor
open Go.Vm Go.Proofs Go.Ta
set_option maxHeartbeats 4000000
section
variable {H:Type}{O:HI H}{ro:Nat}{c:A'Z H}
attribute [local simp] A'a A'b reg to too A'd A'q A'h mv' nl' fl' ld' ln' mk' ia' ik' ix' B'F B'G aLd B'h A'w A'4 aUn unA ev A'l isB A'0 A'E A'F A'G A'H A'I A'J A'K A'L A'M cIf A'B A'f A'g aSt A'N A't A'O A'P A'Q A'9 A'R A'u A'S A'T B'a A'U A'v A'V A'W A'X B'b A'p Instr.fill A'e A'n A'x A'j ptr undef B'o B'y A'k B's A's A'D B'C A'y B'p rangeA B'O A'r A'2 A'z B'd A'm A'o chk
variable {w w':Own}{h h':H}{p:Nat}{X:Nt}{vg vn vr:Value}
def L'7 (X:Nt)(a b:Nat): List Nat:=[a,b,a ^^^ 1,b ^^^ 1,(2*(X.inn+X.la+(X.gates.length+2)/2)) ^^^ 1,(2*(X.inn+X.la+(X.gates.length+4)/2)) ^^^ 1]
theorem U'B (C:LP' O ro c)(L:O.Law)(x:NT O ro w h p X vg vn vr)(hi:X.inn<=100)(hl:X.la<=100)(hg:X.gates.length<=900){a b:Nat}(ha:a<1000000)(hb:b<1000000):
  ∃vg' h' w',c 36 [ptr p,ni a,ni b] h=some (ni (2*(X.inn+X.la+(X.gates.length+6)/2)),h')∧NT O ro w' h' p { X with gates:=X.gates++L'7 X a b } vg' vn vr:=by
 obtain⟨vg1,g1,w1,e1,x1,-⟩:=L'j C L x hi hl (by omega) a b;obtain⟨vg2,g2,w2,e2,x2,-⟩:=L'j C L x1 hi hl (by simp;omega) (a ^^^ 1) (b ^^^ 1);obtain⟨z1,hz1⟩:=e' (2*(X.inn+X.la+(X.gates.length+2)/2));obtain⟨z2,hz2⟩:=e' (2*(X.inn+X.la+(X.gates.length+4)/2));obtain⟨vg3,g3,w3,e3,x3,-⟩:=L'j C L x2 hi hl (by simp;omega) (z1 ^^^ 1) (z2 ^^^ 1);simp only[l'p,l'n,l'o,l'F]at e2 e3;rw[show X.gates.length+(1+1)+2=X.gates.length+4 by omega,<-hz2]at e2;rw[show X.gates.length+(1+1)+(1+1)+2=X.gates.length+6 by omega]at e3;rw[<-hz1]at e1;have q1:=B'P a (by omega);have q2:=B'P b (by omega);have q3:=B'P z1 (by omega);have q4:=B'P z2 (by omega);have x4:NT O ro w3 g3 p { X with gates:=X.gates++L'7 X a b } vg3 vn vr:=by
  have:X.gates++L'7 X a b=X.gates++[a,b]++[a ^^^ 1,b ^^^ 1]++[z1 ^^^ 1,z2 ^^^ 1]:=by simp[L'7,hz1,hz2]
  rw[this];exact x3
 refine⟨vg3,g3,w3,?_,x4⟩;generalize 2*(X.inn+X.la+(X.gates.length+6)/2)=zr at e3 ⊢;generalize a ^^^ 1=a' at *;generalize b ^^^ 1=b' at *;generalize z1 ^^^ 1=z1' at *;generalize z2 ^^^ 1=z2' at *;unfold ptr at e1 e2 e3;refine C.eq (T'k O ro) rfl rfl (f'f ?_);simp[F36,ZpQ,ZpR,ZpS,ZpT,e1,e2,e3,q1,q2,q3,q4,A'1,A'i,rvE]
end
end Go.Proofs.YtimdkminagnhgaaGreatDoor
