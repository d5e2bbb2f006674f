import Derived.Test.YtimdkminagnhgaaGreatDoorQ37
import Derived.Test.YtimdkminagnhgaaGreatDoorQ42
set_option linter.all false
namespace Go.Proofs.YtimdkminagnhgaaGreatDoor
open Go.Vm Go.Proofs Go.Ta
set_option maxHeartbeats 4000000
section
variable {H:Type}{O:HI H}{ro:Nat}{c:A'Z H}
attribute [local simp] A'a A'b reg to too A'd A'q A'h mv' nl' fl' ld' ln' mk' ia' ik' ix' B'F B'G aLd B'h A'w A'4 aUn unA ev A'l isB A'0 A'E A'F A'G A'H A'I A'J A'K A'L A'M cIf A'B A'f A'g aSt A'N A't A'O A'P A'Q A'9 A'R A'u A'S A'T B'a A'U A'v A'V A'W A'X B'b A'p Instr.fill A'e A'n A'x A'j ptr undef B'o B'y A'k B's A's A'D B'C A'y B'p rangeA B'O A'r A'2 A'z B'd A'm A'o chk
variable {w w':Own}{h h':H}{q:Nat}{S:Srch}{bW bH bV:Nat}{vA vC vT vS vK:Value}{lv wv:List Value}
attribute [local simp] D'j H'7 B'c J'K C'l D'I C'f
structure CkS (N:Ck):Prop where
 k:CkK N
 w:CkW N
 n:N.nv<=37
 l:N.las.length<=6
theorem safe_law (C:LP' O ro c)(L:O.Law)(lo:ro<=O.next h){s:ByteArray}{N:Ck}(hN:CkS N)(hr:rdS s = .ok (ckT N))(hasc:Asc s)(hno:∀st ins,¬R'R N st ins): ∃h',c 41 [.string s] h=some (.bool true,h'):=by
 obtain⟨f,n,m,R0,R,v,a1,a2,a3,a4,a5,a6⟩:=E'L hN.w hN.n hN.l (bud:=1152921504606846976) (by omega) (by omega);obtain⟨f',n',m',R0',R',v',b1,b2,b3,b4,b5,b6⟩:=E'L hN.w hN.n hN.l (bud:=0) (by omega) (by omega);have hv:v=1:=by
  rcases a3 with h|h|h
  ·exact h
  ·exact absurd (a5 h).1 (hno _ _)
  ·exact absurd h (a6 (by omega))
 have hv':v'=1∨v'=3:=by
  rcases b3 with h|h|h
  ·exact .inl h
  ·exact absurd (b5 h).1 (hno _ _)
  ·exact .inr h
 subst hv;obtain⟨w,-⟩:∃w:Own,True:=⟨λ_=>(0,0),trivial⟩;obtain⟨p,vC,vI,us,h1,w1,e1,q1,c1,lo1⟩:=N'F (w:=w) C L lo hN.k hr hasc (bud:=1152921504606846976) (by omega) (by omega) a3 ⟨R0,a1,a2⟩;obtain⟨p',vC',vI',us',h2,w2,e2,q2,c2,lo2⟩:=N'F (w:=w1) C L lo1 hN.k hr hasc (bud:=0) (by omega) (by omega) b3 ⟨R0',b1,b2⟩;have q1':=q1.ch L c2;have k0:=q1'.m.get 0 _ rfl;have k1:=q1'.m.get 1 _ rfl;have k2:=q1'.m.get 2 _ rfl;have j0:=q2.m.get 0 _ rfl;have kk:cellsA O h2 p 1 2=some [.int .i64 0,.int .i64 0]:=by
  refine B'4 2 1 _ rfl λi hi=>?_;rcases (show i=0∨i=1 by omega) with rfl|rfl
  ·exact k1
  ·exact k2
 unfold ptr at e1 e2;refine⟨h2,C.eq (T'p O ro) rfl rfl ?_⟩;unfold F41;refine s'f ?_;simp[ZqA,A'c];refine s'f ?_;simp[ZqB,A'c,e1];refine s'f ?_;simp[ZqC,A'c,e2];refine s'f ?_;simp[ZqD,A'c];refine s'f ?_;simp[ZqF,A'c,kk];refine f'f ?_;rcases hv' with rfl|rfl
 ·simp[ZqG,k0,j0,A'1,A'i,rvE]
 ·simp[ZqG,k0,j0,A'1,A'i,rvE]
theorem O'd (C:LP' O ro c)(L:O.Law)(lo:ro<=O.next h){s:ByteArray}{N:Ck}(hN:CkS N)(hr:rdS s = .ok (ckT N))(hasc:Asc s)(hno:¬L'Y N): ∃vI init ins h' w',c 40 [.string s] h=some (.tuple #[vI,ni init,.bool true],h')∧R'R N init ins∧(ins.length<=1000∧∀x∈ins,x<2^N.ni)∧Sm O ro w' h' (6,1) 1 vI (ins.map ni)∧Ch O (λ_=>False) w h w' h'∧ro<=O.next h':=by
 obtain⟨f,n,m,R0,R,v,a1,a2,a3,a4,a5,a6⟩:=E'L hN.w hN.n hN.l (bud:=1152921504606846976) (by omega) (by omega);obtain⟨f',n',m',R0',R',v',b1,b2,b3,b4,b5,b6⟩:=E'L hN.w hN.n hN.l (bud:=0) (by omega) (by omega);have hv:v=2:=by
  rcases a3 with h|h|h
  ·exact absurd (a4 h) hno
  ·exact h
  ·exact absurd h (a6 (by omega))
 have hv':v'=2∨v'=3:=by
  rcases b3 with h|h|h
  ·exact absurd (b4 h) hno
  ·exact .inl h
  ·exact .inr h
 subst hv;obtain⟨p,vC,vI,us,h1,w1,e1,q1,c1,lo1⟩:=N'F (w:=w) C L lo hN.k hr hasc (bud:=1152921504606846976) (by omega) (by omega) a3 ⟨R0,a1,a2⟩;obtain⟨p',vC',vI',us',h2,w2,e2,q2,c2,lo2⟩:=N'F (w:=w1) C L lo1 hN.k hr hasc (bud:=0) (by omega) (by omega) b3 ⟨R0',b1,b2⟩;have q1':=q1.ch L c2;have hi:=q1'.i;simp only[if_true]at hi;refine⟨vI,B'M R,B'r R,h2,w2,?_,(a5 rfl).1,⟨by simpa [B'r]using (a5 rfl).2.1,(a5 rfl).2.2⟩,hi,c1.trans c2,lo2⟩;have k0:=q1'.m.get 0 _ rfl;have k4:=q1'.m.get 4 _ rfl;have k5:=q1'.m.get 5 _ rfl;simp only[if_true]at k4;have j0:=q2.m.get 0 _ rfl;have tv:=hi.flat.2.2;unfold ptr at e1 e2;generalize B'M R=fp at *;refine C.eq (T'o O ro) rfl rfl ?_;unfold F40;refine s'f ?_;simp[Zqt,A'c];refine s'f ?_;simp[Zqu,A'c,e1];refine s'f ?_;simp[Zqv,A'c,e2];refine s'f ?_;simp[Zqw,A'c];rcases hv' with rfl|rfl
 ·refine s'f ?_;simp[Zqy,A'c,k0,j0];refine f'f ?_;simp[Zqz,k4,k5,tv,A'1,A'i,rvE]
 ·refine s'f ?_;simp[Zqy,A'c,k0,j0];refine f'f ?_;simp[Zqz,k4,k5,tv,A'1,A'i,rvE]
end
end Go.Proofs.YtimdkminagnhgaaGreatDoor
