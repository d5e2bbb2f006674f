import Derived.Test.YtimdkminagnhgabGreatDoorQ28
import Derived.Test.YtimdkminagnhgabGreatDoorQ29
set_option linter.all false
namespace Go.Proofs.YtimdkminagnhgabGreatDoor
open Go.Vm Go.Proofs Go.Ta
set_option maxHeartbeats 4000000
section
variable {H:Type}{O:HI H}{ro:Nat}{c:A'X H}
attribute [local simp] A'b A'c reg to too A'a A'n A'i mv' nl' fl' ld' ln' mk' ia' ik' ix' B'C B'D aLd A'5 A'q A'2 aUn unA ev A'k isB A'Z A'C A'D A'E A'F A'G A'H A'I A'J A'K cIf A'y A'f A'g aSt A'M A't A'N A'O A'P B'c A'Q A'u A'R A'S B'd A'T A'v A'U A'V A'W B'e A'l Instr.fill A'e A'r A'z A's ptr undef B'o B'r A'j B'n A'w A'B B'A A'x B'p rangeA B'E A'o A'4 A'A B'i A'p A'm chk
attribute [local simp] B'4 F'y A'7
variable {w w':Own}{h h':H}{p:Nat}
def SiI (v1 v2:Value)(ln:Nat)(h:H)(n:Nat)(t:Env)(g:H): Prop:=
 t 0=v1∧t 1=v2∧g=h∧∃j,t 5=ni j∧j+n=ln
theorem O'd {n ln b1 c1 b2 c2:Nat}{l:List Nat}{t1 t2:Tag}(hln:l.length=ln)(hl2:ln<=1000)(x:0<ln->Bx O ro w h t1 b1 (l.map ni))(y:0<ln->Bx O ro w h t2 b2 (l.map ni)){v1 v2:Value}(e1:0<ln->v1 = .slice (some ⟨b1,0,some 1⟩) ln c1)(e2:0<ln->v2 = .slice (some ⟨b2,0,some 1⟩) ln c2)(z1:∃a cp,v1 = .slice a ln cp){t:Env}{g:H}(I:SiI v1 v2 ln h n t g):
  okE c (L'n O Tryz.prog ro) (t,g) (λe t' g'=>(e = .normal∧∃n',n'<n∧SiI v1 v2 ln h n' t' g')∨(e≠.normal∧(A's 0 e = .normal∧g'=h))):=by
 obtain⟨d0,d1,hg,j,d5,hjn⟩:=I;subst hg
 cases n with
 | zero=>
  obtain rfl:j=ln:=by omega
  obtain⟨a,cp,z1⟩:=z1;rw[z1]at d0;refine f'f ?_;simp[L'n,Zn1,d0,d5]
 | succ n=>
  have hj:j<ln:=by omega
  have hj':(j:Int)<ln:=by omega
  have e1:=e1 (by omega);have e2:=e2 (by omega);have x:=x (by omega);have y:=y (by omega);obtain⟨av,hav⟩:∃av,l[j]?=some av:=⟨_,l'c (by omega)⟩;have k1:=x.get j (ni av) (by rw[List.getElem?_map,hav];rfl);have k2:=y.get j (ni av) (by rw[List.getElem?_map,hav];rfl);have hwi:=w'1 j;obtain⟨j',hj2⟩:=e' (j+1);rw[<-hj2]at hwi;have d0':=d0;have d1':=d1;rw[e1]at d0';rw[e2]at d1';refine f'f ?_;simp[L'n,Zn1,Zn2,Zn4,d0',d1',d5,hj,hj',k1,k2,hwi];exact⟨n,by omega,by simp[d0',e1],by simp[d1',e2],rfl,j',by simp,by omega⟩
theorem Q'l (C:LP' O ro c){l:List Nat}{t1 t2:Tag}{v1 v2:Value}(x:Sm O ro w h t1 1 v1 (l.map ni))(y:Sm O ro w h t2 1 v2 (l.map ni))(hl:l.length<=1000): c 52 [v1,v2] h=some (.bool true,h):=by
 have z1:=x.len (by omega) l.length (by simp);have z2:=y.len (by omega) l.length (by simp);have bx:∃b1 c1,(0<l.length->v1 = .slice (some ⟨b1,0,some 1⟩) l.length c1)∧(0<l.length->Bx O ro w h t1 b1 (l.map ni)):=by
  by_cases h0:0<l.length
  ·obtain⟨b,cp,e,-,k⟩:=x.blk (by omega) l.length (by simp) h0;exact⟨b,cp,λ_=>e,λ_=>k⟩
  ·exact⟨0,0,λh=>absurd h h0,λh=>absurd h h0⟩
 have bY:∃b1 c1,(0<l.length->v2 = .slice (some ⟨b1,0,some 1⟩) l.length c1)∧(0<l.length->Bx O ro w h t2 b1 (l.map ni)):=by
  by_cases h0:0<l.length
  ·obtain⟨b,cp,e,-,k⟩:=y.blk (by omega) l.length (by simp) h0;exact⟨b,cp,λ_=>e,λ_=>k⟩
  ·exact⟨0,0,λh=>absurd h h0,λh=>absurd h h0⟩
 obtain⟨b1,c1,e1,x1⟩:=bx;obtain⟨b2,c2,e2,x2⟩:=bY;have key:∃u h',c 52 [v1,v2] h=some (u,h')∧(u = .bool true∧h'=h):=by
  refine C.fn (Q'k O ro) rfl rfl ?_;unfold F52;obtain⟨a1,q1,s1⟩:=id z1;obtain⟨a2,q2,s2⟩:=id z2;refine s'f ?_;simp[ZnX,A'd];refine okE.seq (s'f ?_);simp[ZnY,A'd,s1,s2];refine okE.cond false (by simp) ?_;simp only[l'y,if_false];refine f'f ?_;simp only[A'f,A'g,A'd];refine okE.seq (s'f ?_);simp[Zn0,A'd];refine okE.blk ?_;refine okE.mono (okE.loop (Q:=λe t' g'=>A's 0 e = .normal∧g'=h) (SiI v1 v2 l.length h) (λn t g I=>O'd rfl hl x1 x2 e1 e2 z1 I) l.length _ _ ⟨by simp[s1],by simp[s2],rfl,0,by simp,by omega⟩) ?_;rintro e t' g' ⟨hr,rfl⟩;rw[hr];simp only[A'd];refine f'f ?_;simp[Zn5,A'L,A'h,rvE]
 obtain⟨u,h',e,rfl,rfl⟩:=key;exact e
variable {N:Ck}{R:Rn}{v:Nat}{vC vI vC' vI':Value}{us us':List Value}{p':Nat}
theorem J'p (C:LP' O ro c)(x:RQ O ro w h p N R v vC vI us)(y:RQ O ro w h p' N R v vC' vI' us')(hv:v≠1)(hl:(B'g R).length<=1000): c 29 [ptr p,ptr p'] h=some (.bool true,h):=by
 have i1:=x.i;have i2:=y.i;obtain⟨l,hll⟩:=e' ((if v=2 then B'g R else []));rw[<-hll]at i1 i2;have e9:=Q'l C i1 i2 (by rw[hll];split;exact hl;simp);have k1:=x.c;have k2:=y.c;rw[if_neg hv]at k1 k2;have u1:us=[]:=List.eq_nil_of_length_eq_zero (by have:=k1.l;simpa using this);have u2:us'=[]:=List.eq_nil_of_length_eq_zero (by have:=k2.l;simpa using this);have s1:=k1.s;have s2:=k2.s;rw[u1]at s1;rw[u2]at s2;obtain⟨a1,q1,z1⟩:=s1.len (by omega) 0 (by simp);obtain⟨a2,q2,z2⟩:=s2.len (by omega) 0 (by simp);have m0:=x.m.get 0 _ rfl;have m3:=x.m.get 3 _ rfl;have m4:=x.m.get 4 _ rfl;have m5:=x.m.get 5 _ rfl;have m6:=x.m.get 6 _ rfl;have m7:=x.m.get 7 _ rfl;have n0:=y.m.get 0 _ rfl;have n3:=y.m.get 3 _ rfl;have n4:=y.m.get 4 _ rfl;have n5:=y.m.get 5 _ rfl;have n6:=y.m.get 6 _ rfl;have n7:=y.m.get 7 _ rfl;rw[z1]at m3;rw[z2]at n3;generalize L'i N R v=tx at *;generalize (if v=2 then B'y R else 0)=fi at *;have f1:=i1.flat;have f2:=i2.flat;have key:∃u h',c 29 [ptr p,ptr p'] h=some (u,h')∧(u = .bool true∧h'=h):=by
  refine C.fn (Q'j O ro) rfl rfl ?_;unfold F29;refine s'f ?_;simp[ZnN,A'd];refine okE.seq (s'f ?_);simp[ZnO,A'd,m0,m3,m4,m6,m7,n0,n3,n4,n6,n7];refine okE.cond false (by simp) ?_;simp only[l'y,if_false];refine f'f ?_;simp only[A'f,A'g,A'd];refine okE.seq (s'f ?_);simp[ZnQ,A'd];refine okE.blk ?_;refine okE.mono (okE.loop (Q:=λe t' g'=>A's 0 e = .normal∧t' 0 = .pointer (some ⟨p,0,none⟩)∧t' 1 = .pointer (some ⟨p',0,none⟩)∧g'=h) (λn t g=>t 0 = .pointer (some ⟨p,0,none⟩)∧t 1 = .pointer (some ⟨p',0,none⟩)∧t 5 = .int .i64 0∧g=h) (λn t g I=>?_) 0 _ _ ⟨by simp,by simp,by simp,rfl⟩) ?_
  ·obtain⟨d0,d1,d5,rfl⟩:=I;refine f'f ?_;simp[Q'i,ZnR,d0,d1,d5,m3]
  ·rintro e t' g' ⟨hr,d0,d1,rfl⟩;rw[hr];simp only[A'd];refine f'f ?_;simp[ZnW,d0,d1,m5,n5,e9,A'L,A'h,rvE]
 obtain⟨u,h',e,rfl,rfl⟩:=key;exact e
end
end Go.Proofs.YtimdkminagnhgabGreatDoor
