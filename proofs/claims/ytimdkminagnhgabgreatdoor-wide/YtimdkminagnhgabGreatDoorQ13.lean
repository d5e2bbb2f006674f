import Derived.Test.YtimdkminagnhgabGreatDoorQ12
set_option linter.all false
namespace Go.Proofs.YtimdkminagnhgabGreatDoor
open Go.Vm Go.Proofs
set_option maxHeartbeats 4000000
attribute [local simp] A'b A'c reg to too A'a A'n A'i mv' nl' fl' ld' ln' mk' ia' ik' ix' B'C B'D aLd A'5 A'q A'7 A'3 A'2 aUn unA ev A'k isB A'Z A'C A'D A'E A'F A'G A'H A'I A'J A'K cIf A'y A'f A'g A'L A'h rvE aSt A'M A't A'N A'O A'P B'c A'Q A'u A'R A'S B'd A'T A'v A'U A'V A'W B'e A'l Instr.fill A'e A'r A'z A's ptr undef B'o B'r A'j B'n A'w B'w A'B B'A A'x B'p rangeA
def itK {α:Type}(f:Nat->α->α): Nat->Nat->α->α
 | _,0,x=>x
 | j,m+1,x=>itK f (j+1) m (f j x)
section
variable {H:Type}{O:HI H}{ro:Nat}{c:A'X H}
def E'n (s:ByteArray)(_:Nat)(x:Net×RS): Net×RS:=
 let d:=C'U x.1 s x.2
 ({ d.2.1 with ins:=d.2.1.ins++[d.1.l] },exS s d.2.2 10)
def D'Y (s:ByteArray)(_:Nat)(x:Net×RS): Net×RS:=
 let d:=C'U x.1 s x.2
 laS d.2.1 s (exS s d.2.2 32) d.1.l
def F'x (s:ByteArray)(_:Nat)(x:Net×RS): Net×RS:=pgS x.1 s x.2
def prF (s:ByteArray)(D:HD)(x:Net×RS): Net×RS:=
 let a:=prL D.nou x.1 s x.2 []
 let N:={ x.1 with outs:=a.1 }
 let b:=prL D.nbs N s a.2 []
 ({ N with bads:=b.1 },b.2)
def rpS (D:HD)(s:ByteArray)(x:Net×RS): Net×RS:=
 itK (F'x s) 0 D.nan (prF s D (itK (D'Y s) 0 D.nla (itK (E'n s) 0 D.nin x)))
theorem K'z (N:Net)(l:Int): (N.give l).given.length=N.given.length:=by unfold Net.give;split <;> simp
theorem G'1 (N:Net)(s:ByteArray)(R:RS): (C'U N s R).2.1.ins=N.ins:=D'1 _ _
theorem F'g (N:Net)(s:ByteArray)(R:RS): (C'U N s R).2.1.las=N.las:=D'v _ _
theorem D'F (N:Net)(s:ByteArray)(R:RS): (C'U N s R).2.1.gates=N.gates:=B'Z _ _
theorem F'L (N:Net)(s:ByteArray)(R:RS): (C'U N s R).2.1.outs=N.outs:=D'w _ _
theorem F'M (N:Net)(s:ByteArray)(R:RS): (C'U N s R).2.1.bads=N.bads:=D'x _ _
def hdc (D:HD): List Value:=D.val.cells.toList
theorem P'o (C:LP' O ro c)(L:O.Law){w0:Own}{h0:H}{r n b:Nat}{s:ByteArray}{D:HD}(hs:s.size<=1000)(hD:D.nin<=100)(x0:Net×RS)(w:Own)(h:H)(t:Env)
  (x:ST O ro w h r s x0.2 n x0.1)(y:Bx O ro w h (103,0) b (hdc D))(cc:Ch O (KN 4) w0 h0 w h)(hp:x0.2.pos<=s.size)(hl:x0.1.ins=[])(ho:x0.1.outs=[]∧x0.1.bads=[]∧x0.1.las=[]∧x0.1.gates=[])
  (t0 : t 0 = ptr n)(t1 : t 1 = ptr r)(t5 : t 5 = ptr b)(t6 : t 6 = .int .i64 0):
  okE c (A'z 0 (A'1 (K'c O Tryz.prog ro))) (t,h) (λe t' h'=>e = .normal∧t' 0=ptr n∧t' 1=ptr r∧t' 5=ptr b∧∃w',ST O ro w' h' r s (itK (E'n s) 0 D.nin x0).2 n (itK (E'n s) 0 D.nin x0).1∧Bx O ro w' h' (103,0) b (hdc D)∧Ch O (KN 4) w0 h0 w' h'∧(itK (E'n s) 0 D.nin x0).2.pos<=s.size∧(itK (E'n s) 0 D.nin x0).1.outs=[]∧(itK (E'n s) 0 D.nin x0).1.bads=[]∧(itK (E'n s) 0 D.nin x0).1.las=[]∧(itK (E'n s) 0 D.nin x0).1.gates=[]):=by
 refine okE.blk ?_;refine okE.loop (λm t g=>∃j z w',ST O ro w' g r s z.2 n z.1∧Bx O ro w' g (103,0) b (hdc D)∧Ch O (KN 4) w0 h0 w' g∧t 0=ptr n∧t 1=ptr r∧t 5=ptr b∧t 6 = .int .i64 (j:Nat)∧z.2.pos<=s.size∧j+m=D.nin+1∧0<m∧z.1.ins.length=j∧(z.1.outs=[]∧z.1.bads=[]∧z.1.las=[]∧z.1.gates=[])∧itK (E'n s) j (m-1) z=itK (E'n s) 0 D.nin x0) ?_ (D.nin+1) _ _ ⟨0,x0,w,x,y,cc,t0,t1,t5,t6,hp,by omega,by omega,by rw[hl];rfl,ho,rfl⟩;intro m t g hI;obtain⟨j,z,w',x',y',c',t0,t1,t5,t6,hp',hj,hm,hl',ho',hfin⟩:=hI;have y2:=y'.get 2 _ rfl;unfold ptr at t0 t1 t5
 by_cases hlt:j<D.nin
 ·obtain⟨m',rfl⟩:∃m',m=m'+2:=⟨m-2,by omega⟩;have hfin2:itK (E'n s) (j+1) m' (E'n s j z)=itK (E'n s) 0 D.nin x0:=hfin;obtain⟨w2,h2,hc2,x2,c2⟩:=M'2 C L x' hs hp';have p2:=D'0 (N:=z.1) (s:=s) (R:=z.2) hp';have yy2:=y'.ch L c2 (by simp[Kc]);obtain⟨h3,e3,z3,c3,lo3⟩:=D'u L w2 h2 x2.lo (.int .i64 0) (.int .i64 0) (.int .i64 (C'U z.1 s z.2).1.l) (.int .i64 (C'U z.1 s z.2).1.p) (103,1);obtain⟨b3,hb3⟩:=e' (O.next h2);obtain⟨w3,hw3⟩:=e' (w2.set b3 (103,1));rw[<-hb3,<-hw3]at z3;rw[<-hb3]at e3;have c3':∀K,Ch O K w2 h2 w3 h3:=λK=>by rw[hw3,hb3];exact c3 K
  have x3:=x2.ch L (c3' λ_=>False) (by simp) (by simp);have y3:=yy2.ch L (c3' λ_=>False) (by simp);have hro3:¬b3<ro:=by have:=z3.lo;omega
  obtain⟨h4,hc4,rb4,c4⟩:=C'L C L x3.rb hs 10;have x4:=x3.rd L rb4 c4;have z4:=(z3.ch L c4).get 0 _ rfl;have y4:=y3.ch L c4;obtain⟨v,v',hB,wB,eB,eC,⟨f1,f2,f3⟩,eD,hron,xB,cB⟩:=ST.app1 L x4 (C'U z.1 s z.2).1.l (by rw[G'1];omega);have yB:=y4.ch L cB (by simp[Kc]);have ccB:=((((c'.trans (Kc.mono c2 (by decide) (by omega))).trans (c3' _)).trans (chR c4 _)).trans (Kc.mono cB (by decide) (by omega)));obtain⟨q,hq⟩:=e' (j+1);have hw:IntKind.i64.wrap ((j:Int)+1)=(q:Int):=w'i;have hlt':(j:Int)<D.nin:=by omega
  unfold ptr at hc2 hc4;have hc4':c 63 [Value.pointer (some ⟨r,0,none⟩),.int .i64 10] h3=some (.tuple #[],h4):=hc4;simp only[Us.val]at hc2;refine f'f ?_;simp[K'c,Zbk,Zbl,Zbm,Zbn,Zbo,t0,t1,t5,t6,y2,hlt,hlt',hc2,<-hb3,e3,hro3,hc4',z4,List.zipIdx,l'B,eB,eC,f1,f2,f3,eD,hron,A'6,hw];refine⟨m'+1,by omega,q,(E'n s j z).1,(E'n s j z).2,wB,xB,yB,ccB,rfl,B'M _ p2,by omega,by omega,?_,?_,by rw[hq];exact hfin2⟩
  ·show (_++[_]).length=q;rw[l'p,G'1];simp;omega
  ·show (C'U z.1 s z.2).2.1.outs=[]∧(C'U z.1 s z.2).2.1.bads=[]∧(C'U z.1 s z.2).2.1.las=[]∧(C'U z.1 s z.2).2.1.gates=[];rw[F'L,F'M,F'g,D'F];exact ho'
 ·have hm1:m=1:=by omega
  subst hm1;have hfin2:z=itK (E'n s) 0 D.nin x0:=hfin;rw[<-hfin2];have hlt':¬(j:Int)<D.nin:=by omega
  refine f'f ?_;simp[K'c,Zbk,t0,t1,t5,t6,y2,hlt,hlt'];exact⟨w',x',y',c',hp',ho'⟩
theorem P'p (C:LP' O ro c)(L:O.Law){w0:Own}{h0:H}{r n b:Nat}{s:ByteArray}{D:HD}(hs:s.size<=1000)(hD:D.nla<=100)(x0:Net×RS)(w:Own)(h:H)(t:Env)
  (x:ST O ro w h r s x0.2 n x0.1)(y:Bx O ro w h (103,0) b (hdc D))(cc:Ch O (KN 4) w0 h0 w h)(hp:x0.2.pos<=s.size)(hl:x0.1.las=[])(ho:x0.1.outs=[]∧x0.1.bads=[]∧x0.1.gates=[])
  (t0 : t 0 = ptr n)(t1 : t 1 = ptr r)(t5 : t 5 = ptr b)(t8 : t 8 = .int .i64 0):
  okE c (A'z 2 (A'1 (K'd O Tryz.prog ro))) (t,h) (λe t' h'=>e = .normal∧t' 0=ptr n∧t' 1=ptr r∧t' 5=ptr b∧∃w',ST O ro w' h' r s (itK (D'Y s) 0 D.nla x0).2 n (itK (D'Y s) 0 D.nla x0).1∧Bx O ro w' h' (103,0) b (hdc D)∧Ch O (KN 4) w0 h0 w' h'∧(itK (D'Y s) 0 D.nla x0).2.pos<=s.size∧(itK (D'Y s) 0 D.nla x0).1.outs=[]∧(itK (D'Y s) 0 D.nla x0).1.bads=[]∧(itK (D'Y s) 0 D.nla x0).1.gates=[]):=by
 refine okE.blk ?_;refine okE.loop (λm t g=>∃j z w',ST O ro w' g r s z.2 n z.1∧Bx O ro w' g (103,0) b (hdc D)∧Ch O (KN 4) w0 h0 w' g∧t 0=ptr n∧t 1=ptr r∧t 5=ptr b∧t 8 = .int .i64 (j:Nat)∧z.2.pos<=s.size∧j+m=D.nla+1∧0<m∧z.1.las.length=j∧(z.1.outs=[]∧z.1.bads=[]∧z.1.gates=[])∧itK (D'Y s) j (m-1) z=itK (D'Y s) 0 D.nla x0) ?_ (D.nla+1) _ _ ⟨0,x0,w,x,y,cc,t0,t1,t5,t8,hp,by omega,by omega,by rw[hl];rfl,ho,rfl⟩;intro m t g hI;obtain⟨j,z,w',x',y',c',t0,t1,t5,t8,hp',hj,hm,hl',ho',hfin⟩:=hI;have y2:=y'.get 3 _ rfl;unfold ptr at t0 t1 t5
 by_cases hlt:j<D.nla
 ·obtain⟨m',rfl⟩:∃m',m=m'+2:=⟨m-2,by omega⟩;have hfin2:itK (D'Y s) (j+1) m' (D'Y s j z)=itK (D'Y s) 0 D.nla x0:=hfin;obtain⟨w2,h2,hc2,x2,c2⟩:=M'2 C L x' hs hp';have p2:=D'0 (N:=z.1) (s:=s) (R:=z.2) hp';have yy2:=y'.ch L c2 (by simp[Kc]);obtain⟨h3,e3,z3,c3,lo3⟩:=D'u L w2 h2 x2.lo (.int .i64 0) (.int .i64 0) (.int .i64 (C'U z.1 s z.2).1.l) (.int .i64 (C'U z.1 s z.2).1.p) (103,1);obtain⟨b3,hb3⟩:=e' (O.next h2);obtain⟨w3,hw3⟩:=e' (w2.set b3 (103,1));rw[<-hb3,<-hw3]at z3;rw[<-hb3]at e3;have c3':∀K,Ch O K w2 h2 w3 h3:=λK=>by rw[hw3,hb3];exact c3 K
  have x3:=x2.ch L (c3' λ_=>False) (by simp) (by simp);have y3:=yy2.ch L (c3' λ_=>False) (by simp);have hro3:¬b3<ro:=by have:=z3.lo;omega
  obtain⟨h4,hc4,rb4,c4⟩:=C'L C L x3.rb hs 32;have x4:=x3.rd L rb4 c4;have z4:=(z3.ch L c4).get 0 _ rfl;have y4:=y3.ch L c4;have p4:=B'M (s:=s) (R:=(C'U z.1 s z.2).2.2) 32 p2;obtain⟨wB,hB,hcB,xB,cB⟩:=R'N C L x4 hs p4 (C'U z.1 s z.2).1.l (by rw[F'g];omega);have yB:=y4.ch L cB (by simp[Kc]);have ccB:=((((c'.trans (Kc.mono c2 (by decide) (by omega))).trans (c3' _)).trans (chR c4 _)).trans (Kc.mono cB (by decide) (by omega)));obtain⟨q,hq⟩:=e' (j+1);have hw:IntKind.i64.wrap ((j:Int)+1)=(q:Int):=w'i;have hlt':(j:Int)<D.nla:=by omega
  unfold ptr at hc2 hc4 hcB;have hc4':c 63 [Value.pointer (some ⟨r,0,none⟩),.int .i64 32] h3=some (.tuple #[],h4):=hc4;simp only[Us.val]at hc2;refine f'f ?_;simp[K'd,Zbq,Zbr,Zbs,Zbt,Zbu,t0,t1,t5,t8,y2,hlt,hlt',hc2,<-hb3,e3,hro3,hc4',z4,List.zipIdx,hcB,hw];refine⟨m'+1,by omega,q,(D'Y s j z).1,(D'Y s j z).2,wB,xB,yB,ccB,rfl,I'O p4,by omega,by omega,?_,?_,by rw[hq];exact hfin2⟩
  ·show (_++[_]).length=q;rw[l'p,F'g];simp;omega
  ·show (C'U z.1 s z.2).2.1.outs=[]∧(C'U z.1 s z.2).2.1.bads=[]∧(C'U z.1 s z.2).2.1.gates=[];rw[F'L,F'M,D'F];exact ho'
 ·have hm1:m=1:=by omega
  subst hm1;have hfin2:z=itK (D'Y s) 0 D.nla x0:=hfin;rw[<-hfin2];have hlt':¬(j:Int)<D.nla:=by omega
  refine f'f ?_;simp[K'd,Zbq,t0,t1,t5,t8,y2,hlt,hlt'];exact⟨w',x',y',c',hp',ho'⟩
theorem P'q (C:LP' O ro c)(L:O.Law){w0:Own}{h0:H}{r n b:Nat}{s:ByteArray}{D:HD}(hs:s.size<=1000)(hD:D.nan<=100)(x0:Net×RS)(w:Own)(h:H)(t:Env)
  (x:ST O ro w h r s x0.2 n x0.1)(y:Bx O ro w h (103,0) b (hdc D))(cc:Ch O (KN 4) w0 h0 w h)(hp:x0.2.pos<=s.size)(hl:x0.1.gates=[])
  (t0 : t 0 = ptr n)(t1 : t 1 = ptr r)(t5 : t 5 = ptr b)(t8 : t 10 = .int .i64 0):
  okE c (A'z 4 (A'1 (K'e O Tryz.prog ro))) (t,h) (λe t' h'=>e = .normal∧∃w',ST O ro w' h' r s (itK (F'x s) 0 D.nan x0).2 n (itK (F'x s) 0 D.nan x0).1∧Ch O (KN 4) w0 h0 w' h'∧(itK (F'x s) 0 D.nan x0).2.pos<=s.size):=by
 refine okE.blk ?_;refine okE.loop (λm t g=>∃j z w',ST O ro w' g r s z.2 n z.1∧Bx O ro w' g (103,0) b (hdc D)∧Ch O (KN 4) w0 h0 w' g∧t 0=ptr n∧t 1=ptr r∧t 5=ptr b∧t 10 = .int .i64 (j:Nat)∧z.2.pos<=s.size∧j+m=D.nan+1∧0<m∧z.1.gates.length=j∧itK (F'x s) j (m-1) z=itK (F'x s) 0 D.nan x0) ?_ (D.nan+1) _ _ ⟨0,x0,w,x,y,cc,t0,t1,t5,t8,hp,by omega,by omega,by rw[hl];rfl,rfl⟩;intro m t g hI;obtain⟨j,z,w',x',y',c',t0,t1,t5,t8,hp',hj,hm,hl',hfin⟩:=hI;have y2:=y'.get 5 _ rfl;unfold ptr at t0 t1 t5
 by_cases hlt:j<D.nan
 ·obtain⟨m',rfl⟩:∃m',m=m'+2:=⟨m-2,by omega⟩;have hfin2:itK (F'x s) (j+1) m' (F'x s j z)=itK (F'x s) 0 D.nan x0:=hfin;obtain⟨wB,hB,hcB,xB,cB⟩:=S't C L x' hs hp' (by omega);have yB:=y'.ch L cB (by simp[Kc]);have ccB:=c'.trans (Kc.mono cB (by decide) (by omega));obtain⟨q,hq⟩:=e' (j+1);have hw:IntKind.i64.wrap ((j:Int)+1)=(q:Int):=w'i;have hlt':(j:Int)<D.nan:=by omega
  unfold ptr at hcB;refine f'f ?_;simp[K'e,Zby,ZbA,Zbz,t0,t1,t5,t8,y2,hlt,hlt',hcB,hw];refine⟨m'+1,by omega,q,(F'x s j z).1,(F'x s j z).2,wB,xB,yB,ccB,rfl,M'5 hp',by omega,by omega,?_,by rw[hq];exact hfin2⟩;show (_++[_]).length=q;rw[l'p,D'F];simp;omega
 ·have hm1:m=1:=by omega
  subst hm1;have hfin2:z=itK (F'x s) 0 D.nan x0:=hfin;rw[<-hfin2];have hlt':¬(j:Int)<D.nan:=by omega
  refine f'f ?_;simp[K'e,Zby,t0,t1,t5,t8,y2,hlt,hlt'];exact⟨w',x',c',hp'⟩
theorem ST.set3 (L:O.Law){w:Own}{h:H}{r n:Nat}{s:ByteArray}{R:RS}{N:Net}(x:ST O ro w h r s R n N)(v:Value)(us:List Us)(hv:Sl O ro w h (2,3) 2 v (us.flatMap Us.cells)):
  (∃ v0, O.cell h n 3 = some v0) ∧ ¬ n < ro ∧ ST O ro w (O.put h n 3 v) r s R n { N with outs := us } ∧ Ch O (KN 0) w h w (O.put h n 3 v) := by
 obtain⟨rb,⟨v0,v1,v2,v3,v4,v5,⟨m,s0,s1,s2,s3,s4,s5⟩⟩,lo⟩:=x;have m2:=m.put L 3 (by simp) v;have c2:=Ch.put L (K:=λu=>u=(2,1000)) m 3 (by simp) v rfl;exact⟨⟨v3,m.get 3 _ rfl⟩,by have:=m.lo;omega,⟨rb.ch L c2,⟨v0,v1,v2,v,v4,v5,⟨by simpa using m2,s0.ch L c2,s1.ch L c2,s2.ch L c2,hv.ch L c2,s4.ch L c2,s5.ch L c2⟩⟩,by rw[L.next_put];exact lo⟩,chN c2 0⟩
theorem ST.set4 (L:O.Law){w:Own}{h:H}{r n:Nat}{s:ByteArray}{R:RS}{N:Net}(x:ST O ro w h r s R n N)(v:Value)(us:List Us)(hv:Sl O ro w h (2,4) 2 v (us.flatMap Us.cells)):
  (∃ v0, O.cell h n 4 = some v0) ∧ ¬ n < ro ∧ ST O ro w (O.put h n 4 v) r s R n { N with bads := us } ∧ Ch O (KN 0) w h w (O.put h n 4 v) := by
 obtain⟨rb,⟨v0,v1,v2,v3,v4,v5,⟨m,s0,s1,s2,s3,s4,s5⟩⟩,lo⟩:=x;have m2:=m.put L 4 (by simp) v;have c2:=Ch.put L (K:=λu=>u=(2,1000)) m 4 (by simp) v rfl;exact⟨⟨v4,m.get 4 _ rfl⟩,by have:=m.lo;omega,⟨rb.ch L c2,⟨v0,v1,v2,v3,v,v5,⟨by simpa using m2,s0.ch L c2,s1.ch L c2,s2.ch L c2,s3.ch L c2,hv.ch L c2,s5.ch L c2⟩⟩,by rw[L.next_put];exact lo⟩,chN c2 0⟩
theorem I'T (C:LP' O ro c)(L:O.Law){r n:Nat}{s:ByteArray}{D:HD}(hs:s.size<=1000)(hD:D.nou<=100∧D.nbs<=100)(x0:Net×RS)(w:Own)(h:H)
  (x : ST O ro w h r s x0.2 n x0.1)(hp : x0.2.pos ≤ s.size)(ho : x0.1.outs = [] ∧ x0.1.bads = []):
  ∃v1 h1 h2 v2 h3 w3,c 70 [ptr n,ptr r,.int .i64 D.nou] h=some (v1,h1)∧(v1.cells = #[v1]∧B'f v1=true∧B'j v1=false)∧(∃u,O.cell h1 n 3=some u)∧h2=O.put h1 n 3 v1 ∧
   c 70 [ptr n,ptr r,.int .i64 D.nbs] h2=some (v2,h3)∧(v2.cells = #[v2]∧B'f v2=true∧B'j v2=false)∧(∃u,O.cell h3 n 4=some u)∧¬n<ro ∧
   ST O ro w3 (O.put h3 n 4 v2) r s (prF s D x0).2 n (prF s D x0).1∧Ch O (KN 2) w h w3 (O.put h3 n 4 v2)∧(prF s D x0).2.pos<=s.size∧(∃w2,Ch O (KN 2) w h w2 h2):=by
 obtain⟨v1,w1,h1,e1,sl1,x1,c1⟩:=R'O C L x hs hp D.nou (by omega) 3 (.inl ⟨rfl,ho.1⟩);obtain⟨k1,hron,x2,c2⟩:=x1.set3 L v1 _ sl1;have p1:=I'P (N:=x0.1) (s:=s) D.nou x0.2 [] hp;obtain⟨v2,w3,h3,e3,sl3,x3,c3⟩:=R'O C L x2 hs p1 D.nbs (by omega) 4 (.inr ⟨rfl,ho.2⟩);obtain⟨k3,_,x4,c4⟩:=x3.set4 L v2 _ sl3;have p3:=I'P (N:={ x0.1 with outs:=(prL D.nou x0.1 s x0.2 []).1 }) (s:=s) D.nbs (prL D.nou x0.1 s x0.2 []).2 [] p1;exact⟨v1,h1,_,v2,h3,w3,e1,sl1.flat,k1,rfl,e3,sl3.flat,k3,hron,x4,((c1.trans (Kc.mono c2 (by decide) (by omega))).trans c3).trans (Kc.mono c4 (by decide) (by omega)),p3,⟨w1,c1.trans (Kc.mono c2 (by decide) (by omega))⟩⟩
theorem S'v (C:LP' O ro c)(L:O.Law){w:Own}{h:H}{r n:Nat}{s:ByteArray}{D:HD}(hs:s.size<=1000)(hD:D.nin<=100∧D.nla<=100∧D.nou<=100∧D.nbs<=100∧D.nan<=100)(x0:Net×RS)
  (x : ST O ro w h r s x0.2 n x0.1)(hp : x0.2.pos ≤ s.size)(ho : x0.1.ins = [] ∧ x0.1.outs = [] ∧ x0.1.bads = [] ∧ x0.1.las = [] ∧ x0.1.gates = []):
  ∃w' h',c 38 [ptr n,ptr r,D.val] h=some (.tuple #[],h')∧ST O ro w' h' r s (rpS D s x0).2 n (rpS D s x0).1∧Ch O (KN 4) w h w' h'∧(rpS D s x0).2.pos<=s.size:=by
 have htv:B'j D.val=false:=rfl;obtain⟨b,hb⟩:=e' (O.next h);obtain⟨h1,hh1⟩:=e' (O.new h D.val.cells.toList);obtain⟨w1,hw1⟩:=e' (w.set b (103,0));have c1:∀K,Ch O K w h w1 h1:=λK=>by rw[hh1,hw1,hb];exact Ch.new L _ _ _ _ _
 have y1:Bx O ro w1 h1 (103,0) b (hdc D):=by rw[hh1,hw1,hb];exact Bx.new L _ _ x.lo _ _
 have x1:=x.ch L (c1 λ_=>False) (by simp) (by simp);have key:∃v h',c 38 [ptr n,ptr r,D.val] h=some (v,h')∧(v = .tuple #[]∧∃w',ST O ro w' h' r s (rpS D s x0).2 n (rpS D s x0).1∧Ch O (KN 4) w h w' h'∧(rpS D s x0).2.pos<=s.size):=by
  refine C.fn (O'U O ro) rfl rfl ?_;obtain⟨e0,he0⟩:=e' (A'Z [ptr n,ptr r,D.val]);have a0:e0 0=ptr n:=by subst he0;rfl
  have a1:e0 1=ptr r:=by subst he0;rfl
  have a2:e0 2=D.val:=by subst he0;rfl
  rw[<-he0];unfold F38;refine s'f ?_;simp[Zbi,a2,htv,<-hb,<-hh1,A'd,-A'L,-A'h,-rvE];refine okE.seq (s'f ?_);simp[Zbj,A'd,-A'L,-A'h,-rvE];refine okE.mono (P'o C L hs hD.1 x0 w1 h1 _ x1 y1 (c1 _) hp ho.1 ho.2 (by simp[a0]) (by simp[a1]) (by simp) (by simp)) ?_;rintro e t g ⟨rfl,t0,t1,t5,w2,x2,y2,cc2,p2,o1,o2,o3,o4⟩;simp only[A'd];refine okE.seq (s'f ?_);simp[Zbp,A'd,-A'L,-A'h,-rvE];refine okE.mono (P'p C L hs hD.2.1 _ w2 g _ x2 y2 cc2 p2 o3 ⟨o1,o2,o4⟩ (by simp[t0]) (by simp[t1]) (by simp[t5]) (by simp)) ?_;rintro e t' g' ⟨rfl,t0',t1',t5',w3,x3,y3,cc3,p3,q1,q2,q4⟩;simp only[A'd];have y34:=y3.get 4 _ rfl;obtain⟨v1,g1,g2,v2,g3,w4,k1,⟨f1,f2,f3⟩,⟨u1,k2⟩,k3,k4,⟨f4,f5,f6⟩,⟨u2,k5⟩,hron,x4,c4,p4,w5,c5⟩:=I'T C L (D:=D) hs ⟨hD.2.2.1,hD.2.2.2.1⟩ _ w3 g' x3 p3 ⟨q1,q2⟩;have y5:=(y3.ch L c5 (by simp[Kc])).get 6 _ rfl;have y4:=y3.ch L c4 (by simp[Kc]);unfold ptr at t0' t1' t5' k1 k4;refine s'f ?_;simp[Zbv,t0',t1',t5',y34,k1,hron,f1,f2,k2,A'6,<-k3,A'd,-A'L,-A'h,-rvE];refine s'f ?_;simp[Zbw,t0',t1',t5',y5,k4,hron,f4,f5,k5,A'6,A'd,-A'L,-A'h,-rvE];refine s'f ?_;simp[Zbx,A'd,-A'L,-A'h,-rvE];have hgt:(prF s D (itK (D'Y s) 0 D.nla (itK (E'n s) 0 D.nin x0))).1.gates=[]:=q4;refine okE.mono (P'q C L hs hD.2.2.2.2 _ w4 _ _ x4 y4 (cc3.trans (Kc.mono c4 (by decide) (by omega))) p4 hgt (by simp[t0']) (by simp[t1']) (by simp[t5']) (by simp)) ?_;rintro e t' g' ⟨rfl,w6,x6,cc6,p6⟩;simp;exact⟨w6,x6,cc6,p6⟩
 obtain⟨v,h',e1,rfl,w',e2⟩:=key;exact⟨w',h',e1,e2⟩
def E'o (k:Nat)(x:Net×RS): Net×RS:=
 ({ x.1.give ((2*(1+k):Nat):Int) with ins:=(x.1.give ((2*(1+k):Nat):Int)).ins++[((2*(1+k):Nat):Int)] },x.2)
def E'p (D:HD)(s:ByteArray)(k:Nat)(x:Net×RS): Net×RS:=laS (x.1.give ((2*(1+D.nin+k):Nat):Int)) s x.2 ((2*(1+D.nin+k):Nat):Int)
def F'h (D:HD)(s:ByteArray)(k:Nat)(x:Net×RS): Net×RS:=bgS x.1 s x.2 (2*(1+D.nin+D.nla+k))
def rbS (D:HD)(s:ByteArray)(x:Net×RS): Net×RS:=
 itK (F'h D s) 0 D.nan (prF s D (itK (E'p D s) 0 D.nla (itK E'o 0 D.nin x)))
theorem P'r (C:LP' O ro c)(L:O.Law){w0:Own}{h0:H}{r n b:Nat}{s:ByteArray}{D:HD}(hs:s.size<=1000)(hD:D.nin<=100)(x0:Net×RS)(w:Own)(h:H)(t:Env)
  (x:ST O ro w h r s x0.2 n x0.1)(y:Bx O ro w h (103,0) b (hdc D))(cc:Ch O (KN 4) w0 h0 w h)(hp:x0.2.pos<=s.size)(hl:x0.1.ins=[])(ho:x0.1.outs=[]∧x0.1.bads=[]∧x0.1.las=[]∧x0.1.gates=[])
  (t0 : t 0 = ptr n)(t1 : t 1 = ptr r)(t5 : t 5 = ptr b)(t6 : t 6 = .int .i64 0):
  okE c (A'z 0 (A'1 (J'9 O Tryz.prog ro))) (t,h) (λe t' h'=>e = .normal∧t' 0=ptr n∧t' 1=ptr r∧t' 5=ptr b∧∃w',ST O ro w' h' r s (itK E'o 0 D.nin x0).2 n (itK E'o 0 D.nin x0).1∧Bx O ro w' h' (103,0) b (hdc D)∧Ch O (KN 4) w0 h0 w' h'∧(itK E'o 0 D.nin x0).2.pos<=s.size∧(itK E'o 0 D.nin x0).1.outs=[]∧(itK E'o 0 D.nin x0).1.bads=[]∧(itK E'o 0 D.nin x0).1.las=[]∧(itK E'o 0 D.nin x0).1.gates=[]):=by
 refine okE.blk ?_;refine okE.loop (λm t g=>∃j z w',ST O ro w' g r s z.2 n z.1∧Bx O ro w' g (103,0) b (hdc D)∧Ch O (KN 4) w0 h0 w' g∧t 0=ptr n∧t 1=ptr r∧t 5=ptr b∧t 6 = .int .i64 (j:Nat)∧z.2.pos<=s.size∧j+m=D.nin+1∧0<m∧z.1.ins.length=j∧(z.1.outs=[]∧z.1.bads=[]∧z.1.las=[]∧z.1.gates=[])∧itK E'o j (m-1) z=itK E'o 0 D.nin x0) ?_ (D.nin+1) _ _ ⟨0,x0,w,x,y,cc,t0,t1,t5,t6,hp,by omega,by omega,by rw[hl];rfl,ho,rfl⟩;intro m t g hI;obtain⟨j,z,w',x',y',c',t0,t1,t5,t6,hp',hj,hm,hl',ho',hfin⟩:=hI;have y2:=y'.get 2 _ rfl;unfold ptr at t0 t1 t5
 by_cases hlt:j<D.nin
 ·obtain⟨m',rfl⟩:∃m',m=m'+2:=⟨m-2,by omega⟩;have hfin2:itK E'o (j+1) m' (E'o j z)=itK E'o 0 D.nin x0:=hfin;obtain⟨l,hl2⟩:∃l:Nat,l=2*(1+j):=⟨_,rfl⟩;obtain⟨h2,hc2,x2,c2⟩:=G'0 C L x' l;have yy2:=y'.ch L c2 (by simp[Kc]);obtain⟨v,v',hB,wB,eB,eC,⟨f1,f2,f3⟩,eD,hron,xB,cB⟩:=ST.app1 L x2 l (by rw[D'1];omega);have yB:=yy2.ch L cB (by simp[Kc]);have ccB:=(c'.trans (Kc.mono c2 (by decide) (by omega))).trans (Kc.mono cB (by decide) (by omega));obtain⟨q,hq⟩:=e' (j+1);have hw:IntKind.i64.wrap ((j:Int)+1)=(q:Int):=w'i;have hw1:IntKind.i64.wrap (1+(j:Int))=1+(j:Int):=w'j;have hw2:IntKind.i64.wrap (2*(1+(j:Int)))=(l:Int):=w'i;have hlt':(j:Int)<D.nin:=by omega
  unfold ptr at hc2;have hz:E'o j z=({ z.1.give (l:Int) with ins:=(z.1.give (l:Int)).ins++[(l:Int)] },z.2):=by unfold E'o;rw[<-hl2]
  refine f'f ?_;simp[J'9,Za1,Za2,Za3,Za4,Za5,t0,t1,t5,t6,y2,hlt,hlt',hw1,hw2,hc2,List.zipIdx,l'B,eB,eC,f1,f2,f3,eD,hron,A'6,hw];refine⟨m'+1,by omega,q,(E'o j z).1,(E'o j z).2,wB,by rw[hz];exact xB,yB,ccB,rfl,hp',by omega,by omega,?_,?_,by rw[hq];exact hfin2⟩
  ·rw[hz];show (_++[_]).length=q;rw[l'p,D'1];simp;omega
  ·rw[hz];show (z.1.give l).outs=[]∧(z.1.give l).bads=[]∧(z.1.give l).las=[]∧(z.1.give l).gates=[];rw[D'w,D'x,D'v,B'Z];exact ho'
 ·have hm1:m=1:=by omega
  subst hm1;have hfin2:z=itK E'o 0 D.nin x0:=hfin;rw[<-hfin2];have hlt':¬(j:Int)<D.nin:=by omega
  refine f'f ?_;simp[J'9,Za1,t0,t1,t5,t6,y2,hlt,hlt'];exact⟨w',x',y',c',hp',ho'⟩
theorem P's (C:LP' O ro c)(L:O.Law){w0:Own}{h0:H}{r n b:Nat}{s:ByteArray}{D:HD}(hs:s.size<=1000)(hD:D.nla<=100)(hD2:D.nin<=100)(x0:Net×RS)(w:Own)(h:H)(t:Env)
  (x:ST O ro w h r s x0.2 n x0.1)(y:Bx O ro w h (103,0) b (hdc D))(cc:Ch O (KN 4) w0 h0 w h)(hp:x0.2.pos<=s.size)(hl:x0.1.las=[])(ho:x0.1.outs=[]∧x0.1.bads=[]∧x0.1.gates=[])
  (t0 : t 0 = ptr n)(t1 : t 1 = ptr r)(t5 : t 5 = ptr b)(t8 : t 8 = .int .i64 0):
  okE c (A'z 2 (A'1 (K'a O Tryz.prog ro))) (t,h) (λe t' h'=>e = .normal∧t' 0=ptr n∧t' 1=ptr r∧t' 5=ptr b∧∃w',ST O ro w' h' r s (itK (E'p D s) 0 D.nla x0).2 n (itK (E'p D s) 0 D.nla x0).1∧Bx O ro w' h' (103,0) b (hdc D)∧Ch O (KN 4) w0 h0 w' h'∧(itK (E'p D s) 0 D.nla x0).2.pos<=s.size∧(itK (E'p D s) 0 D.nla x0).1.outs=[]∧(itK (E'p D s) 0 D.nla x0).1.bads=[]∧(itK (E'p D s) 0 D.nla x0).1.gates=[]):=by
 refine okE.blk ?_;refine okE.loop (λm t g=>∃j z w',ST O ro w' g r s z.2 n z.1∧Bx O ro w' g (103,0) b (hdc D)∧Ch O (KN 4) w0 h0 w' g∧t 0=ptr n∧t 1=ptr r∧t 5=ptr b∧t 8 = .int .i64 (j:Nat)∧z.2.pos<=s.size∧j+m=D.nla+1∧0<m∧z.1.las.length=j∧(z.1.outs=[]∧z.1.bads=[]∧z.1.gates=[])∧itK (E'p D s) j (m-1) z=itK (E'p D s) 0 D.nla x0) ?_ (D.nla+1) _ _ ⟨0,x0,w,x,y,cc,t0,t1,t5,t8,hp,by omega,by omega,by rw[hl];rfl,ho,rfl⟩;intro m t g hI;obtain⟨j,z,w',x',y',c',t0,t1,t5,t8,hp',hj,hm,hl',ho',hfin⟩:=hI;have y2:=y'.get 3 _ rfl;have y1:=y'.get 2 _ rfl;unfold ptr at t0 t1 t5
 by_cases hlt:j<D.nla
 ·obtain⟨m',rfl⟩:∃m',m=m'+2:=⟨m-2,by omega⟩;have hfin2:itK (E'p D s) (j+1) m' (E'p D s j z)=itK (E'p D s) 0 D.nla x0:=hfin;obtain⟨l,hl2⟩:∃l:Nat,l=2*(1+D.nin+j):=⟨_,rfl⟩;obtain⟨h2,hc2,x2,c2⟩:=G'0 C L x' l;have yy2:=y'.ch L c2 (by simp[Kc]);obtain⟨wB,hB,hcB,xB,cB⟩:=R'N C L x2 hs hp' l (by rw[D'v];omega);have yB:=yy2.ch L cB (by simp[Kc]);have ccB:=(c'.trans (Kc.mono c2 (by decide) (by omega))).trans (Kc.mono cB (by decide) (by omega));obtain⟨q,hq⟩:=e' (j+1);have hw:IntKind.i64.wrap ((j:Int)+1)=(q:Int):=w'i;have hw1:IntKind.i64.wrap (1+(D.nin:Int))=1+(D.nin:Int):=w'j;have hw2:IntKind.i64.wrap (1+(D.nin:Int)+(j:Int))=1+(D.nin:Int)+(j:Int):=w'j;have hw3:IntKind.i64.wrap (2*(1+(D.nin:Int)+(j:Int)))=(l:Int):=w'i;have hlt':(j:Int)<D.nla:=by omega
  unfold ptr at hc2 hcB;have hz:E'p D s j z=laS (z.1.give (l:Int)) s z.2 (l:Int):=by unfold E'p;rw[<-hl2]
  refine f'f ?_;simp[K'a,Za7,Za8,Za9,Zba,Zbb,t0,t1,t5,t8,y2,y1,hlt,hlt',hw1,hw2,hw3,hc2,hcB,hw];refine⟨m'+1,by omega,q,(E'p D s j z).1,(E'p D s j z).2,wB,by rw[hz];exact xB,yB,ccB,rfl,by rw[hz];exact I'O hp',by omega,by omega,?_,?_,by rw[hq];exact hfin2⟩
  ·rw[hz];show (_++[_]).length=q;rw[l'p,D'v];simp;omega
  ·rw[hz];show (z.1.give l).outs=[]∧(z.1.give l).bads=[]∧(z.1.give l).gates=[];rw[D'w,D'x,B'Z];exact ho'
 ·have hm1:m=1:=by omega
  subst hm1;have hfin2:z=itK (E'p D s) 0 D.nla x0:=hfin;rw[<-hfin2];have hlt':¬(j:Int)<D.nla:=by omega
  refine f'f ?_;simp[K'a,Za7,t0,t1,t5,t8,y2,hlt,hlt'];exact⟨w',x',y',c',hp',ho'⟩
theorem P't (C:LP' O ro c)(L:O.Law){w0:Own}{h0:H}{r n b:Nat}{s:ByteArray}{D:HD}(hs:s.size<=1000)(hD:D.nan<=100)(hD2:D.nin<=100∧D.nla<=100)(x0:Net×RS)(w:Own)(h:H)(t:Env)
  (x:ST O ro w h r s x0.2 n x0.1)(y:Bx O ro w h (103,0) b (hdc D))(cc:Ch O (KN 4) w0 h0 w h)(hp:x0.2.pos<=s.size)(hl:x0.1.gates=[])
  (t0 : t 0 = ptr n)(t1 : t 1 = ptr r)(t5 : t 5 = ptr b)(t8 : t 10 = .int .i64 0):
  okE c (A'z 4 (A'1 (K'b O Tryz.prog ro))) (t,h) (λe t' h'=>e = .normal∧∃w',ST O ro w' h' r s (itK (F'h D s) 0 D.nan x0).2 n (itK (F'h D s) 0 D.nan x0).1∧Ch O (KN 4) w0 h0 w' h'∧(itK (F'h D s) 0 D.nan x0).2.pos<=s.size):=by
 refine okE.blk ?_;refine okE.loop (λm t g=>∃j z w',ST O ro w' g r s z.2 n z.1∧Bx O ro w' g (103,0) b (hdc D)∧Ch O (KN 4) w0 h0 w' g∧t 0=ptr n∧t 1=ptr r∧t 5=ptr b∧t 10 = .int .i64 (j:Nat)∧z.2.pos<=s.size∧j+m=D.nan+1∧0<m∧z.1.gates.length=j∧itK (F'h D s) j (m-1) z=itK (F'h D s) 0 D.nan x0) ?_ (D.nan+1) _ _ ⟨0,x0,w,x,y,cc,t0,t1,t5,t8,hp,by omega,by omega,by rw[hl];rfl,rfl⟩;intro m t g hI;obtain⟨j,z,w',x',y',c',t0,t1,t5,t8,hp',hj,hm,hl',hfin⟩:=hI;have y2:=y'.get 5 _ rfl;have y1:=y'.get 2 _ rfl;have y3:=y'.get 3 _ rfl;unfold ptr at t0 t1 t5
 by_cases hlt:j<D.nan
 ·obtain⟨m',rfl⟩:∃m',m=m'+2:=⟨m-2,by omega⟩;have hfin2:itK (F'h D s) (j+1) m' (F'h D s j z)=itK (F'h D s) 0 D.nan x0:=hfin;obtain⟨l,hl2⟩:∃l:Nat,l=2*(1+D.nin+D.nla+j):=⟨_,rfl⟩;obtain⟨wB,hB,hcB,xB,cB⟩:=S'u C L x' hs l (by omega) (by omega);have yB:=y'.ch L cB (by simp[Kc]);have ccB:=c'.trans (Kc.mono cB (by decide) (by omega));obtain⟨q,hq⟩:=e' (j+1);have hw:IntKind.i64.wrap ((j:Int)+1)=(q:Int):=w'i;have hw1:IntKind.i64.wrap (1+(D.nin:Int))=1+(D.nin:Int):=w'j;have hw2:IntKind.i64.wrap (1+(D.nin:Int)+(D.nla:Int))=1+(D.nin:Int)+(D.nla:Int):=w'j;have hw4:IntKind.i64.wrap (1+(D.nin:Int)+(D.nla:Int)+(j:Int))=1+(D.nin:Int)+(D.nla:Int)+(j:Int):=w'j;have hw3:IntKind.i64.wrap (2*(1+(D.nin:Int)+(D.nla:Int)+(j:Int)))=(l:Int):=w'i;have hlt':(j:Int)<D.nan:=by omega
  unfold ptr at hcB;have hz:F'h D s j z=bgS z.1 s z.2 l:=by unfold F'h;rw[<-hl2]
  refine f'f ?_;simp[K'b,Zbf,Zbh,Zbg,t0,t1,t5,t8,y2,y1,y3,hlt,hlt',hw1,hw2,hw3,hw4,hcB,hw];refine⟨m'+1,by omega,q,(F'h D s j z).1,(F'h D s j z).2,wB,by rw[hz];exact xB,yB,ccB,rfl,by rw[hz];exact M'8 hp',by omega,by omega,?_,by rw[hq];exact hfin2⟩;rw[hz];show (_++[_]).length=q;rw[l'p,B'Z];simp;omega
 ·have hm1:m=1:=by omega
  subst hm1;have hfin2:z=itK (F'h D s) 0 D.nan x0:=hfin;rw[<-hfin2];have hlt':¬(j:Int)<D.nan:=by omega
  refine f'f ?_;simp[K'b,Zbf,t0,t1,t5,t8,y2,hlt,hlt'];exact⟨w',x',c',hp'⟩
theorem S'w (C:LP' O ro c)(L:O.Law){w:Own}{h:H}{r n:Nat}{s:ByteArray}{D:HD}(hs:s.size<=1000)(hD:D.nin<=100∧D.nla<=100∧D.nou<=100∧D.nbs<=100∧D.nan<=100)(x0:Net×RS)
  (x : ST O ro w h r s x0.2 n x0.1)(hp : x0.2.pos ≤ s.size)(ho : x0.1.ins = [] ∧ x0.1.outs = [] ∧ x0.1.bads = [] ∧ x0.1.las = [] ∧ x0.1.gates = []):
  ∃w' h',c 37 [ptr n,ptr r,D.val] h=some (.tuple #[],h')∧ST O ro w' h' r s (rbS D s x0).2 n (rbS D s x0).1∧Ch O (KN 4) w h w' h'∧(rbS D s x0).2.pos<=s.size:=by
 have htv:B'j D.val=false:=rfl;obtain⟨b,hb⟩:=e' (O.next h);obtain⟨h1,hh1⟩:=e' (O.new h D.val.cells.toList);obtain⟨w1,hw1⟩:=e' (w.set b (103,0));have c1:∀K,Ch O K w h w1 h1:=λK=>by rw[hh1,hw1,hb];exact Ch.new L _ _ _ _ _
 have y1:Bx O ro w1 h1 (103,0) b (hdc D):=by rw[hh1,hw1,hb];exact Bx.new L _ _ x.lo _ _
 have x1:=x.ch L (c1 λ_=>False) (by simp) (by simp);have key:∃v h',c 37 [ptr n,ptr r,D.val] h=some (v,h')∧(v = .tuple #[]∧∃w',ST O ro w' h' r s (rbS D s x0).2 n (rbS D s x0).1∧Ch O (KN 4) w h w' h'∧(rbS D s x0).2.pos<=s.size):=by
  refine C.fn (O'T O ro) rfl rfl ?_;obtain⟨e0,he0⟩:=e' (A'Z [ptr n,ptr r,D.val]);have a0:e0 0=ptr n:=by subst he0;rfl
  have a1:e0 1=ptr r:=by subst he0;rfl
  have a2:e0 2=D.val:=by subst he0;rfl
  rw[<-he0];unfold F37;refine s'f ?_;simp[ZaZ,a2,htv,<-hb,<-hh1,A'd,-A'L,-A'h,-rvE];refine okE.seq (s'f ?_);simp[Za0,A'd,-A'L,-A'h,-rvE];refine okE.mono (P'r C L hs hD.1 x0 w1 h1 _ x1 y1 (c1 _) hp ho.1 ho.2 (by simp[a0]) (by simp[a1]) (by simp) (by simp)) ?_;rintro e t g ⟨rfl,t0,t1,t5,w2,x2,y2,cc2,p2,o1,o2,o3,o4⟩;simp only[A'd];refine okE.seq (s'f ?_);simp[Za6,A'd,-A'L,-A'h,-rvE];refine okE.mono (P's C L hs hD.2.1 hD.1 _ w2 g _ x2 y2 cc2 p2 o3 ⟨o1,o2,o4⟩ (by simp[t0]) (by simp[t1]) (by simp[t5]) (by simp)) ?_;rintro e t' g' ⟨rfl,t0',t1',t5',w3,x3,y3,cc3,p3,q1,q2,q4⟩;simp only[A'd];have y34:=y3.get 4 _ rfl;obtain⟨v1,g1,g2,v2,g3,w4,k1,⟨f1,f2,f3⟩,⟨u1,k2⟩,k3,k4,⟨f4,f5,f6⟩,⟨u2,k5⟩,hron,x4,c4,p4,w5,c5⟩:=I'T C L (D:=D) hs ⟨hD.2.2.1,hD.2.2.2.1⟩ _ w3 g' x3 p3 ⟨q1,q2⟩;have y5:=(y3.ch L c5 (by simp[Kc])).get 6 _ rfl;have y4:=y3.ch L c4 (by simp[Kc]);unfold ptr at t0' t1' t5' k1 k4;refine s'f ?_;simp[Zbc,t0',t1',t5',y34,k1,hron,f1,f2,k2,A'6,<-k3,A'd,-A'L,-A'h,-rvE];refine s'f ?_;simp[Zbd,t0',t1',t5',y5,k4,hron,f4,f5,k5,A'6,A'd,-A'L,-A'h,-rvE];refine s'f ?_;simp[Zbe,A'd,-A'L,-A'h,-rvE];have hgt:(prF s D (itK (E'p D s) 0 D.nla (itK E'o 0 D.nin x0))).1.gates=[]:=q4;refine okE.mono (P't C L hs hD.2.2.2.2 ⟨hD.1,hD.2.1⟩ _ w4 _ _ x4 y4 (cc3.trans (Kc.mono c4 (by decide) (by omega))) p4 hgt (by simp[t0']) (by simp[t1']) (by simp[t5']) (by simp)) ?_;rintro e t' g' ⟨rfl,w6,x6,cc6,p6⟩;simp;exact⟨w6,x6,cc6,p6⟩
 obtain⟨v,h',e1,rfl,w',e2⟩:=key;exact⟨w',h',e1,e2⟩
theorem B'z {α:Type}(f:α->List Value)(k:Nat)(hf:∀x,(f x).length=k): ∀(l:List α) (j:Nat)(hj:j<l.length) (i:Nat),i<k->(l.flatMap f)[j*k+i]?=(f l[j])[i]?:=by
 intro l
 induction l with
 | nil=>intro j hj;simp at hj
 | cons x l ih=>
  intro j hj i hi;rw[List.flatMap_cons]
  cases j with
  | zero=>
   rw[Nat.zero_mul,l'F,l'e (by rw[hf];exact hi)];rfl
  | succ j=>
   rw[l'z (by rw[hf,Nat.add_mul];omega),hf];have:(j+1)*k+i-k=j*k+i:=by rw[Nat.add_mul];omega
   rw[this,ih j (by simpa using hj) i hi];simp
theorem Bx.at {w:Own}{h:H}{t:Tag}{b:Nat}{l:List Value}(x:Bx O ro w h t b l)(o:Nat)(new:List Value)(hn:∀i,i<new.length->l[o+i]?=new[i]?): cellsA O h b o new.length=some new:=by
 refine C'G _ o new rfl λi hi=>?_;have:=hn i hi;rw[l'c hi]at this ⊢;exact x.get _ _ this
def E'X (top:Nat): Net:=⟨(List.range (top+1)).map (· == 0),[],[],[],[],[]⟩
theorem R'g (C:LP' O ro c)(L:O.Law){w:Own}{h:H}(hro:ro<=O.next h)(top:Nat)(ht:top<=10000):
  ∃n w' h',c 36 [.int .i64 top] h=some (ptr n,h')∧(∃v0 v1 v2 v3 v4 v5,NL O ro w' h' n (E'X top) v0 v1 v2 v3 v4 v5)∧Ch O (Kc [2] 0) w h w' h'∧ro<=O.next h':=by
 obtain⟨n,hn⟩:=e' (O.next h);obtain⟨h1,hh1⟩:=e' (O.new h [.slice none 0 0,.slice none 0 0,.slice none 0 0,.slice none 0 0,.slice none 0 0,.slice none 0 0]);obtain⟨w1,hw1⟩:=e' (w.set n (2,1000));have c1:∀K,Ch O K w h w1 h1:=λK=>by rw[hh1,hw1,hn];exact Ch.new L _ _ _ _ _
 have y1:Bx O ro w1 h1 (2,1000) n [.slice none 0 0,.slice none 0 0,.slice none 0 0,.slice none 0 0,.slice none 0 0,.slice none 0 0]:=by rw[hh1,hw1,hn];exact Bx.new L _ _ hro _ _
 have lo1:ro<=O.next h1:=l'G hro (c1 λ_=>True).nx
 have key:∃v h',c 36 [.int .i64 top] h=some (v,h')∧(v=ptr n∧∃w',(∃v0 v1 v2 v3 v4 v5,NL O ro w' h' n (E'X top) v0 v1 v2 v3 v4 v5)∧Ch O (Kc [2] 0) w h w' h'∧ro<=O.next h'):=by
  refine C.fn (O'S O ro) rfl rfl ?_;unfold F36;refine s'f ?_;simp[ZaS,A'd,-A'L,-A'h,-rvE];refine s'f ?_;simp[ZaT,A'd,<-hn,<-hh1,-A'L,-A'h,-rvE];refine okE.seq (s'f ?_);simp[ZaU,A'd,-A'L,-A'h,-rvE];refine okE.blk ?_;refine okE.loop (λm t g=>∃j v0 w',Bx O ro w' g (2,1000) n [v0,.slice none 0 0,.slice none 0 0,.slice none 0 0,.slice none 0 0,.slice none 0 0]∧Sl O ro w' g (2,0) 1 v0 (((List.range j).map (· == 0)).map Value.bool)∧Ch O (Kc [2] 0) w h w' g∧ro<=O.next g∧t 0 = .int .i64 (top:Nat)∧t 3=ptr n∧t 4 = .int .i64 (j:Nat)∧j+m=top+2∧0<m) ?_ (top+2) _ _ ⟨0,.slice none 0 0,w1,y1,Sl.nil _ _ _ _,c1 _,lo1,by simp,by simp,by simp,by omega,by omega⟩;intro m t g hI;obtain⟨j,v0,w',y',sl',c',lo',t0,t3,t4,hj,hm⟩:=hI;unfold ptr at t3
  by_cases hle:j<=top
  ·obtain⟨v',h2,w2,e2,sl2,c2,lo2⟩:=C'd L (bytes:=1) lo' sl' (new:=[.bool (j==0)]) (by omega) rfl (by simp;omega) (by simp;omega);have y2:=y'.ch L c2;have y3:=y2.put L 0 (by simp) v';have c3:=Ch.put L (K:=λu=>u=(2,1000)) y2 0 (by simp) v' rfl;have sl3:=sl2.ch L c3;have y20:=y2.get 0 _ rfl;have y0:=y'.get 0 _ rfl;have hron:¬n<ro:=by have:=y2.lo;omega
   obtain⟨f1,f2,f3⟩:=sl2.flat;obtain⟨q,hq⟩:=e' (j+1);have hw:IntKind.i64.wrap ((j:Int)+1)=(q:Int):=w'i;have hle':(j:Int)<=top:=by omega
   have hj0:((j:Int)==0)=(j==0):=by rw[Bool.eq_iff_iff];simp only[beq_iff_eq];omega
   refine f'f ?_;simp[M'O,ZaV,ZaW,ZaX,t0,t3,t4,hle,hle',hj0,y0,List.zipIdx,l'B,e2,f1,f2,f3,y20,hron,A'6,hw];refine⟨m-1,by omega,q,v',w2,y3,?_,(c'.trans (Kc.one c2 (.inl (l'm.2 rfl)))).trans (Kc.one c3 (.inl (l'm.2 rfl))),by rw[L.next_put];exact lo2,rfl,by omega,by omega⟩;rw[hq,l'B];simpa using sl3
  ·have hle':¬(j:Int)<=top:=by omega
   have hjt:j=top+1:=by omega
   refine f'f ?_;simp[M'O,ZaV,t0,t3,t4,hle,hle',A'd];refine f'f ?_;simp[ZaY,t3];rw[hjt]at sl';exact⟨w',⟨v0,_,_,_,_,_,⟨y',sl',Sl.nil _ _ _ _,Sl.nil _ _ _ _,Sl.nil _ _ _ _,Sl.nil _ _ _ _,Sl.nil _ _ _ _⟩⟩,c',lo'⟩
 obtain⟨v,h',e1,rfl,w',e2⟩:=key;exact⟨n,w',h',e1,e2⟩
def ju1 (N:Net)(R:RS)(u:Us): RS:=if N.isGiven u.l=true then R else fl R 11 u.p
theorem P'u (C:LP' O ro c)(L:O.Law){w:Own}{h:H}{r n:Nat}{s:ByteArray}{R:RS}{N:Net}(x:ST O ro w h r s R n N)(u:Us):
  ∃w' h',c 75 [ptr n,ptr r,u.val] h=some (.tuple #[],h')∧ST O ro w' h' r s (ju1 N R u) n N∧Ch O (Kc [1] 1) w h w' h':=by
 obtain⟨b,hb⟩:=e' (O.next h);obtain⟨h1,hh1⟩:=e' (O.new h u.cells);obtain⟨w1,hw1⟩:=e' (w.set b (100,0));have c1:∀K,Ch O K w h w1 h1:=λK=>by rw[hh1,hw1,hb];exact Ch.new L _ _ _ _ _
 have y1:Bx O ro w1 h1 (100,0) b u.cells:=by rw[hh1,hw1,hb];exact Bx.new L _ _ x.lo _ _
 have x1:=x.ch L (c1 λ_=>False) (by simp) (by simp);obtain⟨v0,v1,v2,v3,v4,v5,nl1⟩:=x1.nl;have hg:=F'K C nl1 u.l;have z0:=y1.get 0 _ rfl;have z1:=y1.get 1 _ rfl;unfold ptr at hg;simp only[Us.cells]at hh1;unfold ju1
 by_cases hq:N.isGiven u.l=true
 ·rw[if_pos hq];refine⟨w1,h1,?_,x1,c1 _⟩;refine C.eq (L'S O ro) rfl rfl (f'f ?_);simp[F75,Zdm,Zdn,Zdo,Us.val,<-hb,<-hh1,z0,z1,hg,hq]
 ·rw[if_neg hq];obtain⟨h2,hc2,rb2,c2⟩:=E'W C L x1.rb 11 u.p;refine⟨w1,h2,?_,x1.rd L rb2 c2,(c1 _).trans (chR c2 _)⟩;refine C.eq (L'S O ro) rfl rfl (f'f ?_);have hc2':c 67 [Value.pointer (some ⟨r,0,none⟩),.int .i64 11,.int .i64 u.p] h1=some (.tuple #[],h2):=hc2;simp[F75,Zdm,Zdn,Zdo,Us.val,<-hb,<-hh1,z0,z1,hg,hq,hc2']
theorem C'7 {α β:Type}(f:β->α->β)(l:List α)(j:Nat)(hj:j<l.length)(x:β): (l.drop j).foldl f x=(l.drop (j+1)).foldl f (f x l[j]):=by
 rw[l's hj];rfl
theorem P'v (C:LP' O ro c)(L:O.Law){w0:Own}{h0:H}{r n:Nat}{s:ByteArray}{N:Net}(hl:N.las.length<=10000)(R:RS)(w:Own)(h:H)(t:Env)(x:ST O ro w h r s R n N)(cc:Ch O (Kc [1] 1) w0 h0 w h)(t0:t 0=ptr n)(t1:t 1=ptr r)(t4:t 4 = .int .i64 0):
  okE c (A'z 0 (A'1 (K'f O Tryz.prog ro))) (t,h) (λe t' h'=>e = .normal∧t' 0=ptr n∧t' 1=ptr r∧∃w',ST O ro w' h' r s (N.las.foldl (λR x=>ju1 N R x.n) R) n N∧Ch O (Kc [1] 1) w0 h0 w' h'):=by
 refine okE.blk ?_;refine okE.loop (λm t g=>∃j R' w',ST O ro w' g r s R' n N∧Ch O (Kc [1] 1) w0 h0 w' g∧t 0=ptr n∧t 1=ptr r∧t 4 = .int .i64 (j:Nat)∧j+m=N.las.length+1∧0<m∧(N.las.drop j).foldl (λR x=>ju1 N R x.n) R'=N.las.foldl (λR x=>ju1 N R x.n) R) ?_ (N.las.length+1) _ _ ⟨0,R,w,x,cc,t0,t1,t4,by omega,by omega,rfl⟩;intro m t g hI;obtain⟨j,R',w',x',c',t0,t1,t4,hj,hm,hfin⟩:=hI;unfold ptr at t0 t1;obtain⟨v0,v1,v2,v3,v4,v5,nl⟩:=x'.nl;have hlen:=A'0 LaL.cells 4 (λ_=>rfl) N.las;have m2:=nl.m.get 2 _ rfl
 by_cases hlt:j<N.las.length
 ·obtain⟨b,cp,rfl,y⟩:=nl.s2.blk (by omega) N.las.length hlen (by omega);rw[C'7 _ _ _ hlt]at hfin;have hc:cellsA O g b (j*4+1) 2=some N.las[j].n.cells:=y.at (j*4+1) N.las[j].n.cells (λi hi=>by
   have hi2:i<2:=hi;rw[Nat.add_assoc,B'z LaL.cells 4 (λ_=>rfl) N.las j hlt (1+i) (by omega)]
   match i,hi2 with
   | 0,_=>rfl
   | 1,_=>rfl)
  obtain⟨w2,h2,hc2,x2,c2⟩:=P'u C L x' N.las[j].n;unfold ptr at hc2;obtain⟨q,hq⟩:=e' (j+1);have hw:IntKind.i64.wrap ((j:Int)+1)=(q:Int):=w'i;have hlt':(j:Int)<N.las.length:=by omega
  have hv:Value.agg N.las[j].n.cells.toArray=N.las[j].n.val:=rfl;refine f'f ?_;simp[K'f,ZbH,ZbI,ZbJ,t0,t1,t4,m2,hlt,hlt',hc,hv,hc2,hw];exact⟨m-1,by omega,q,_,w2,x2,c'.trans c2,rfl,by omega,by omega,by rw[hq];exact hfin⟩
 ·obtain⟨a,cp,rfl⟩:=nl.s2.len (by omega) N.las.length hlen;have hlt':¬(j:Int)<N.las.length:=by omega
  rw[List.drop_eq_nil_of_le (by omega)]at hfin;rw[<-hfin];refine f'f ?_;simp[K'f,ZbH,t0,t1,t4,m2,hlt,hlt'];exact⟨w',x',c'⟩
theorem M'9 (C:LP' O ro c)(L:O.Law){w0:Own}{h0:H}{r n:Nat}{s:ByteArray}{N:Net}(hl:N.outs.length<=10000)(R:RS)(w:Own)(h:H)(t:Env)(x:ST O ro w h r s R n N)(cc:Ch O (Kc [1] 1) w0 h0 w h)(t0:t 0=ptr n)(t1:t 1=ptr r)(t4:t 5 = .int .i64 0):
  okE c (A'z 2 (A'1 (K'g O Tryz.prog ro))) (t,h) (λe t' h'=>e = .normal∧t' 0=ptr n∧t' 1=ptr r∧∃w',ST O ro w' h' r s (N.outs.foldl (ju1 N) R) n N∧Ch O (Kc [1] 1) w0 h0 w' h'):=by
 refine okE.blk ?_;refine okE.loop (λm t g=>∃j R' w',ST O ro w' g r s R' n N∧Ch O (Kc [1] 1) w0 h0 w' g∧t 0=ptr n∧t 1=ptr r∧t 5 = .int .i64 (j:Nat)∧j+m=N.outs.length+1∧0<m∧(N.outs.drop j).foldl (ju1 N) R'=N.outs.foldl (ju1 N) R) ?_ (N.outs.length+1) _ _ ⟨0,R,w,x,cc,t0,t1,t4,by omega,by omega,rfl⟩;intro m t g hI;obtain⟨j,R',w',x',c',t0,t1,t4,hj,hm,hfin⟩:=hI;unfold ptr at t0 t1;obtain⟨v0,v1,v2,v3,v4,v5,nl⟩:=x'.nl;have hlen:=A'0 Us.cells 2 (λ_=>rfl) N.outs;have m2:=nl.m.get 3 _ rfl
 by_cases hlt:j<N.outs.length
 ·obtain⟨b,cp,rfl,y⟩:=nl.s3.blk (by omega) N.outs.length hlen (by omega);rw[C'7 _ _ _ hlt]at hfin;have hc:cellsA O g b (j*2) 2=some N.outs[j].cells:=y.at (j*2) N.outs[j].cells (λi hi=>by
   have hi2:i<2:=hi;rw[B'z Us.cells 2 (λ_=>rfl) N.outs j hlt i (by omega)])
  obtain⟨w2,h2,hc2,x2,c2⟩:=P'u C L x' N.outs[j];unfold ptr at hc2;obtain⟨q,hq⟩:=e' (j+1);have hw:IntKind.i64.wrap ((j:Int)+1)=(q:Int):=w'i;have hlt':(j:Int)<N.outs.length:=by omega
  have hv:Value.agg N.outs[j].cells.toArray=N.outs[j].val:=rfl;refine f'f ?_;simp[K'g,ZbL,ZbM,ZbN,t0,t1,t4,m2,hlt,hlt',hc,hv,hc2,hw];exact⟨m-1,by omega,q,_,w2,x2,c'.trans c2,rfl,by omega,by omega,by rw[hq];exact hfin⟩
 ·obtain⟨a,cp,rfl⟩:=nl.s3.len (by omega) N.outs.length hlen;have hlt':¬(j:Int)<N.outs.length:=by omega
  rw[List.drop_eq_nil_of_le (by omega)]at hfin;rw[<-hfin];refine f'f ?_;simp[K'g,ZbL,t0,t1,t4,m2,hlt,hlt'];exact⟨w',x',c'⟩
theorem N'a (C:LP' O ro c)(L:O.Law){w0:Own}{h0:H}{r n:Nat}{s:ByteArray}{N:Net}(hl:N.bads.length<=10000)(R:RS)(w:Own)(h:H)(t:Env)(x:ST O ro w h r s R n N)(cc:Ch O (Kc [1] 1) w0 h0 w h)(t0:t 0=ptr n)(t1:t 1=ptr r)(t4:t 6 = .int .i64 0):
  okE c (A'z 4 (A'1 (K'h O Tryz.prog ro))) (t,h) (λe t' h'=>e = .normal∧t' 0=ptr n∧t' 1=ptr r∧∃w',ST O ro w' h' r s (N.bads.foldl (ju1 N) R) n N∧Ch O (Kc [1] 1) w0 h0 w' h'):=by
 refine okE.blk ?_;refine okE.loop (λm t g=>∃j R' w',ST O ro w' g r s R' n N∧Ch O (Kc [1] 1) w0 h0 w' g∧t 0=ptr n∧t 1=ptr r∧t 6 = .int .i64 (j:Nat)∧j+m=N.bads.length+1∧0<m∧(N.bads.drop j).foldl (ju1 N) R'=N.bads.foldl (ju1 N) R) ?_ (N.bads.length+1) _ _ ⟨0,R,w,x,cc,t0,t1,t4,by omega,by omega,rfl⟩;intro m t g hI;obtain⟨j,R',w',x',c',t0,t1,t4,hj,hm,hfin⟩:=hI;unfold ptr at t0 t1;obtain⟨v0,v1,v2,v3,v4,v5,nl⟩:=x'.nl;have hlen:=A'0 Us.cells 2 (λ_=>rfl) N.bads;have m2:=nl.m.get 4 _ rfl
 by_cases hlt:j<N.bads.length
 ·obtain⟨b,cp,rfl,y⟩:=nl.s4.blk (by omega) N.bads.length hlen (by omega);rw[C'7 _ _ _ hlt]at hfin;have hc:cellsA O g b (j*2) 2=some N.bads[j].cells:=y.at (j*2) N.bads[j].cells (λi hi=>by
   have hi2:i<2:=hi;rw[B'z Us.cells 2 (λ_=>rfl) N.bads j hlt i (by omega)])
  obtain⟨w2,h2,hc2,x2,c2⟩:=P'u C L x' N.bads[j];unfold ptr at hc2;obtain⟨q,hq⟩:=e' (j+1);have hw:IntKind.i64.wrap ((j:Int)+1)=(q:Int):=w'i;have hlt':(j:Int)<N.bads.length:=by omega
  have hv:Value.agg N.bads[j].cells.toArray=N.bads[j].val:=rfl;refine f'f ?_;simp[K'h,ZbP,ZbQ,ZbR,t0,t1,t4,m2,hlt,hlt',hc,hv,hc2,hw];exact⟨m-1,by omega,q,_,w2,x2,c'.trans c2,rfl,by omega,by omega,by rw[hq];exact hfin⟩
 ·obtain⟨a,cp,rfl⟩:=nl.s4.len (by omega) N.bads.length hlen;have hlt':¬(j:Int)<N.bads.length:=by omega
  rw[List.drop_eq_nil_of_le (by omega)]at hfin;rw[<-hfin];refine f'f ?_;simp[K'h,ZbP,t0,t1,t4,m2,hlt,hlt'];exact⟨w',x',c'⟩
theorem K'A (C:LP' O ro c)(L:O.Law){w0:Own}{h0:H}{r n:Nat}{s:ByteArray}{N:Net}(hl:N.gates.length<=10000)(R:RS)(w:Own)(h:H)(t:Env)(x:ST O ro w h r s R n N)(cc:Ch O (Kc [1] 1) w0 h0 w h)(t0:t 0=ptr n)(t1:t 1=ptr r)(t4:t 7 = .int .i64 0):
  okE c (A'z 6 (A'1 (K'i O Tryz.prog ro))) (t,h) (λe t' h'=>e = .normal∧∃w',ST O ro w' h' r s (N.gates.foldl (λR x=>ju1 N (ju1 N R x.a) x.b) R) n N∧Ch O (Kc [1] 1) w0 h0 w' h'):=by
 refine okE.blk ?_;refine okE.loop (λm t g=>∃j R' w',ST O ro w' g r s R' n N∧Ch O (Kc [1] 1) w0 h0 w' g∧t 0=ptr n∧t 1=ptr r∧t 7 = .int .i64 (j:Nat)∧j+m=N.gates.length+1∧0<m∧(N.gates.drop j).foldl (λR x=>ju1 N (ju1 N R x.a) x.b) R'=N.gates.foldl (λR x=>ju1 N (ju1 N R x.a) x.b) R) ?_ (N.gates.length+1) _ _ ⟨0,R,w,x,cc,t0,t1,t4,by omega,by omega,rfl⟩;intro m t g hI;obtain⟨j,R',w',x',c',t0,t1,t4,hj,hm,hfin⟩:=hI;unfold ptr at t0 t1;obtain⟨v0,v1,v2,v3,v4,v5,nl⟩:=x'.nl;have hlen:=A'0 GaL.cells 6 (λ_=>rfl) N.gates;have m2:=nl.m.get 5 _ rfl
 by_cases hlt:j<N.gates.length
 ·obtain⟨b,cp,rfl,y⟩:=nl.s5.blk (by omega) N.gates.length hlen (by omega);rw[C'7 _ _ _ hlt]at hfin;have hc:cellsA O g b (j*6+2) 2=some N.gates[j].a.cells:=y.at (j*6+2) N.gates[j].a.cells (λi hi=>by
   have hi2:i<2:=hi;rw[Nat.add_assoc,B'z GaL.cells 6 (λ_=>rfl) N.gates j hlt (2+i) (by omega)]
   match i,hi2 with
   | 0,_=>rfl
   | 1,_=>rfl)
  obtain⟨w2,h2,hc2,x2,c2⟩:=P'u C L x' N.gates[j].a;have m22:=(nl.m.ch L c2 (by simp[Kc])).get 5 _ rfl;have yb:=y.ch L c2 (by simp[Kc]);have hcb:cellsA O h2 b (j*6+4) 2=some N.gates[j].b.cells:=yb.at (j*6+4) N.gates[j].b.cells (λi hi=>by
   have hi2:i<2:=hi;rw[Nat.add_assoc,B'z GaL.cells 6 (λ_=>rfl) N.gates j hlt (4+i) (by omega)]
   match i,hi2 with
   | 0,_=>rfl
   | 1,_=>rfl)
  obtain⟨w3,h3,hc3,x3,c3⟩:=P'u C L x2 N.gates[j].b;unfold ptr at hc2 hc3;obtain⟨q,hq⟩:=e' (j+1);have hw:IntKind.i64.wrap ((j:Int)+1)=(q:Int):=w'i;have hlt':(j:Int)<N.gates.length:=by omega
  have hv:Value.agg N.gates[j].a.cells.toArray=N.gates[j].a.val:=rfl;have hv2:Value.agg N.gates[j].b.cells.toArray=N.gates[j].b.val:=rfl;refine f'f ?_;simp[K'i,ZbT,ZbU,ZbV,ZbW,t0,t1,t4,m2,m22,hlt,hlt',hc,hcb,hv,hv2,hc2,hc3,hw];exact⟨m-1,by omega,q,_,w3,x3,(c'.trans c2).trans c3,rfl,by omega,by omega,by rw[hq];exact hfin⟩
 ·obtain⟨a,cp,rfl⟩:=nl.s5.len (by omega) N.gates.length hlen;have hlt':¬(j:Int)<N.gates.length:=by omega
  rw[List.drop_eq_nil_of_le (by omega)]at hfin;rw[<-hfin];refine f'f ?_;simp[K'i,ZbT,t0,t1,t4,m2,hlt,hlt'];exact⟨w',x',c'⟩
def juS (N:Net)(R:RS): RS:=N.gates.foldl (λR x=>ju1 N (ju1 N R x.a) x.b) (N.bads.foldl (ju1 N) (N.outs.foldl (ju1 N) (N.las.foldl (λR x=>ju1 N R x.n) R)))
theorem R'h (C:LP' O ro c)(L:O.Law){w:Own}{h:H}{r n:Nat}{s:ByteArray}{R:RS}{N:Net}(x:ST O ro w h r s R n N)(hl:N.las.length<=10000∧N.outs.length<=10000∧N.bads.length<=10000∧N.gates.length<=10000):
  ∃w' h',c 40 [ptr n,ptr r] h=some (.tuple #[],h')∧ST O ro w' h' r s (juS N R) n N∧Ch O (Kc [1] 1) w h w' h':=by
 have key:∃v h',c 40 [ptr n,ptr r] h=some (v,h')∧(v = .tuple #[]∧∃w',ST O ro w' h' r s (juS N R) n N∧Ch O (Kc [1] 1) w h w' h'):=by
  refine C.fn (O'W O ro) rfl rfl ?_;unfold F40;refine okE.seq (s'f ?_);simp[ZbG,A'd,-A'L,-A'h,-rvE];refine okE.mono (P'v C L hl.1 R w h _ x (Ch.refl _ _ _) (by simp) (by simp) (by simp)) ?_;rintro e t g ⟨rfl,t0,t1,w2,x2,c2⟩;simp only[A'd];refine okE.seq (s'f ?_);simp[ZbK,A'd,-A'L,-A'h,-rvE];refine okE.mono (M'9 C L hl.2.1 _ w2 g _ x2 c2 (by simp[t0]) (by simp[t1]) (by simp)) ?_;rintro e t g ⟨rfl,t0,t1,w3,x3,c3⟩;simp only[A'd];refine okE.seq (s'f ?_);simp[ZbO,A'd,-A'L,-A'h,-rvE];refine okE.mono (N'a C L hl.2.2.1 _ w3 g _ x3 c3 (by simp[t0]) (by simp[t1]) (by simp)) ?_;rintro e t g ⟨rfl,t0,t1,w4,x4,c4⟩;simp only[A'd];refine s'f ?_;simp[ZbS,A'd,-A'L,-A'h,-rvE];refine okE.mono (K'A C L hl.2.2.2 _ w4 g _ x4 c4 (by simp[t0]) (by simp[t1]) (by simp)) ?_;rintro e t g ⟨rfl,w5,x5,c5⟩;simp;exact⟨w5,x5,c5⟩
 obtain⟨v,h',e1,rfl,w',e2⟩:=key;exact⟨w',h',e1,e2⟩
end
structure Ord where
 place:List Int
 count:Nat
def Ord.at (P:Ord)(l:Int): Int:=if l/2<0∨(P.place.length:Int)<=l/2 then -1 else (P.place[(l/2).toNat]?).getD (-1)
def Ord.lay (P:Ord)(l:Int): Ord:=if l/2<0∨(P.place.length:Int)<=l/2 then P else ⟨P.place.set (l/2).toNat P.count,P.count+1⟩
def Ord.lit (P:Ord)(l:Int): Int:=2*P.at l+l%2
structure Ord.Ok (P:Ord) (B:Nat):Prop where
 c:P.count<=B
 p:∀q∈P.place,-1<=q∧q<=B
theorem Ord.Ok.at {P:Ord}{B:Nat}(h:P.Ok B)(l:Int): -1<=P.at l∧P.at l<=B:=by
 unfold Ord.at;split
 ·omega
 ·cases hx:P.place[(l/2).toNat]? with
  | none=>simp
  | some v=>exact h.p v (l'f hx)
theorem Ord.Ok.lay {P:Ord}{B:Nat}(h:P.Ok B)(l:Int): (P.lay l).Ok (B+1):=by
 unfold Ord.lay;split
 ·exact⟨by have:=h.c;omega,λq hq=>by have:=h.p q hq;omega⟩
 ·refine⟨by have:=h.c;simp only;omega,λq hq=>?_⟩;rcases List.mem_or_eq_of_mem_set hq with hq|hq
  ·have:=h.p q hq;omega
  ·have:=h.c;omega
theorem Ord.Ok.mono {P:Ord}{B B':Nat}(h:P.Ok B)(hb:B<=B'): P.Ok B':=⟨l'G h.c hb,λq hq=>by have:=h.p q hq;omega⟩
section
variable {H:Type}{O:HI H}{ro:Nat}{c:A'X H}
structure OB (O:HI H) (ro:Nat)(w:Own)(h:H) (o:Nat)(P:Ord):Prop where
 ex:∃v0,Bx O ro w h (3,1000) o [v0,.int .i64 P.count]∧Sl O ro w h (3,0) 1 v0 (P.place.map iv)
theorem OB.ch (L:O.Law){K:Tag->Prop}{w w':Own}{h h':H}{o:Nat}{P:Ord}(x:OB O ro w h o P)(a:Ch O K w h w' h')(hk:∀o,¬K (3,o):=by simp): OB O ro w' h' o P:=by
 obtain⟨v0,m,s⟩:=x.ex;exact⟨v0,m.ch L a (hk _),s.ch L a (hk _)⟩
theorem P'w (C:LP' O ro c){w:Own}{h:H}{o:Nat}{P:Ord}(x:OB O ro w h o P)(l:Int): c 121 [ptr o,.int .i64 l] h=some (.int .i64 (P.at l),h):=by
 refine C.eq (M'U O ro) rfl rfl (f'f ?_);obtain⟨v0,m,s⟩:=x.ex;have m0:=m.get 0 _ rfl;have e1:l.fdiv 2=l/2:=Int.fdiv_eq_ediv_of_nonneg l (by omega);unfold Ord.at
 by_cases h1:l/2<0
 ·simp[Q'3,ZeK,ZeL,ZeM,ZeN,IntKind.bits,e1,h1]
 ·by_cases h2:(P.place.length:Int)<=l/2
  ·obtain⟨a,cp,rfl⟩:=s.len (by omega) P.place.length (by simp);simp[Q'3,ZeK,ZeL,ZeM,ZeN,IntKind.bits,e1,h1,h2,m0]
  ·obtain⟨b,cp,rfl,y⟩:=s.blk (by omega) P.place.length (by simp) (by omega);have hq:(l/2).toNat<P.place.length:=by omega
   have hc:=y.get (l/2).toNat (iv P.place[(l/2).toNat]) (by simp[hq]);have k0:0<=l/2:=by omega
   have k1:l/2<(P.place.length:Int):=by omega
   simp[Q'3,ZeK,ZeL,ZeM,ZeN,ZeO,IntKind.bits,e1,h1,h2,m0,k0,k1,hc,hq,iv]
theorem K'B (C:LP' O ro c)(L:O.Law){w:Own}{h:H}{o:Nat}{P:Ord}(x:OB O ro w h o P)(hP:P.count<=100000)(l:Int):
  ∃h',c 120 [ptr o,.int .i64 l] h=some (.tuple #[],h')∧OB O ro w h' o (P.lay l)∧Ch O (Kc [3] 0) w h w h':=by
 obtain⟨v0,m,s⟩:=x.ex;have m0:=m.get 0 _ rfl;have m1:=m.get 1 _ rfl;have e1:l.fdiv 2=l/2:=Int.fdiv_eq_ediv_of_nonneg l (by omega);unfold Ord.lay
 by_cases h1:l/2<0
 ·rw[if_pos (.inl h1)];refine⟨h,?_,x,Ch.refl _ _ _⟩;refine C.eq (G's O ro) rfl rfl (f'f ?_);simp[Q'2,ZeG,ZeH,IntKind.bits,e1,h1]
 ·by_cases h2:(P.place.length:Int)<=l/2
  ·rw[if_pos (.inr h2)];obtain⟨a,cp,rfl⟩:=s.len (by omega) P.place.length (by simp);refine⟨h,?_,x,Ch.refl _ _ _⟩;refine C.eq (G's O ro) rfl rfl (f'f ?_);simp[Q'2,ZeG,ZeH,IntKind.bits,e1,h1,h2,m0]
  ·rw[if_neg (by omega)];have hs:=s;obtain⟨b,cp,rfl,y⟩:=s.blk (by omega) P.place.length (by simp) (by omega);have hq:(l/2).toNat<P.place.length:=by omega
   have hc:=y.get (l/2).toNat (iv P.place[(l/2).toNat]) (by simp[hq]);have k0:0<=l/2:=by omega
   have k1:l/2<(P.place.length:Int):=by omega
   have y2:=y.put L (l/2).toNat (by simpa using hq) (.int .i64 P.count);have c2:=Ch.put L (K:=λu=>u=(3,0)) y (l/2).toNat (by simpa using hq) (.int .i64 P.count) rfl;have mm:=m.ch L c2;have mm1:=mm.get 1 _ rfl;obtain⟨q,hq2⟩:=e' (P.count+1);have hw:IntKind.i64.wrap ((P.count:Int)+1)=(q:Int):=w'i;have m3:=mm.put L 1 (by simp) (.int .i64 q);have c3:=Ch.put L (K:=λu=>u=(3,1000)) mm 1 (by simp) (.int .i64 q) rfl;have hro1:¬b<ro:=by have:=y.lo;omega
   have hro2:¬o<ro:=by have:=m.lo;omega
   have hcount:(⟨P.place.set (l/2).toNat (P.count:Int),P.count+1⟩:Ord).count=q:=hq2.symm;refine⟨_,?_,⟨_,by rw[hcount];exact m3,?_⟩,(Kc.one c2 (.inl (l'm.2 rfl))).trans (Kc.one c3 (.inl (l'm.2 rfl)))⟩
   ·refine C.eq (G's O ro) rfl rfl (f'f ?_);simp[Q'2,ZeG,ZeH,ZeI,ZeJ,IntKind.bits,e1,h1,h2,m0,m1,k0,k1,hc,hq,hro1,hro2,A'6,mm1,hw]
   ·have hlen:(P.place.set (l/2).toNat (P.count:Int)).length=P.place.length:=by simp
    rcases hs with ⟨e,_⟩|⟨b',m',cp',e,ec,el,en,y'⟩
    ·simp at e
    ·simp only[Value.slice.injEq,l'a,Addr.mk.injEq]at e;obtain⟨⟨rfl,_⟩,rfl,rfl⟩:=e;refine .inr ⟨b,P.place.length,cp,rfl,ec,by simp,?_,?_⟩
     ·intro q;have:=congrArg List.length q;simp only[List.length_map,List.length_set,l'o]at this;omega
     ·have:=y2.ch L c3;simpa [List.map_set,iv]using this
theorem K'C (C:LP' O ro c){w:Own}{h:H}{o:Nat}{P:Ord}(x:OB O ro w h o P)(hP:P.Ok 100000)(l:Int)(h0:0<=l)(h1:l<1000000): c 80 [ptr o,.int .i64 l] h=some (.int .i64 (P.lit l),h):=by
 refine C.eq (O'9 O ro) rfl rfl (f'f ?_);have ha:=P'w C x l;have hb:=hP.at l;unfold Ord.lit;obtain⟨k,rfl⟩:∃k:Nat,l=k:=⟨l.toNat,by omega⟩;have hand:=E'k k (by omega);generalize P.at (k:Int)=a at ha hb;have w1:IntKind.i64.wrap (2*a)=2*a:=w'j;have w2:IntKind.i64.wrap (2*a+((k%2:Nat):Int))=2*a+(k:Int)%2:=w'i;unfold ptr at ha;simp only[Int.natCast_emod,Int.cast_ofNat_Int]at hand w2;simp[F80,Zd4,Zd5,Zd6,ha,w1,hand,w2]
def D'l (N:Net): Int:=match N.bads with
 | u :: _=>u.l
 | []=>match N.outs with
  | u :: _=>u.l
  | []=>0
theorem P'x (C:LP' O ro c){w:Own}{h:H}{n:Nat}{N:Net}{v0 v1 v2 v3 v4 v5:Value}(x:NL O ro w h n N v0 v1 v2 v3 v4 v5): c 81 [ptr n] h=some (.int .i64 (D'l N),h):=by
 refine C.eq (P'a O ro) rfl rfl (f'f ?_);have m4:=x.m.get 4 _ rfl;have m3:=x.m.get 3 _ rfl;unfold D'l
 cases hb:N.bads with
 | cons u us=>
  have hl4:=A'0 Us.cells 2 (λ_=>rfl) N.bads;obtain⟨b,cp,rfl,y⟩:=x.s4.blk (by omega) N.bads.length hl4 (by rw[hb];simp);have y0:O.cell h b 0=some (.int .i64 u.l):=y.get 0 _ (by rw[hb];rfl);have k0:(0:Int)<N.bads.length:=by rw[hb];simp
  have k1:0<N.bads.length:=by rw[hb];simp
  simp[F81,Zd7,Zd8,Zd9,m4,k0,k1,y0]
 | nil=>
  have e4:v4 = .slice none 0 0:=by have:=x.s4;rw[hb]at this;exact this.of_nil
  subst e4
  cases ho:N.outs with
  | cons u us=>
   have hl3:=A'0 Us.cells 2 (λ_=>rfl) N.outs;obtain⟨b,cp,rfl,y⟩:=x.s3.blk (by omega) N.outs.length hl3 (by rw[ho];simp);have y0:O.cell h b 0=some (.int .i64 u.l):=y.get 0 _ (by rw[ho];rfl);have k0:(0:Int)<N.outs.length:=by rw[ho];simp
   have k1:0<N.outs.length:=by rw[ho];simp
   simp[F81,Zd7,Zd8,Zea,Zeb,m4,m3,k0,k1,y0]
  | nil=>
   have e3:v3 = .slice none 0 0:=by have:=x.s3;rw[ho]at this;exact this.of_nil
   subst e3;simp[F81,Zd7,Zd8,Zea,Zec,m4,m3]
def frL (P:Ord): List GaL->Nat->Int
 | [],_=>-1
 | g :: gs,k=>if P.at g.g.l = -1∧P.at g.a.l≠-1∧P.at g.b.l≠-1 then (k:Int) else frL P gs (k+1)
def fuL (P:Ord): List GaL->Nat
 | []=>0
 | g :: gs=>if P.at g.g.l = -1 then g.g.p else fuL P gs
theorem G'x {w:Own}{h:H}{t:Tag}{b:Nat}{gs:List GaL}(y:Bx O ro w h t b (gs.flatMap GaL.cells))(j:Nat)(hj:j<gs.length):
  O.cell h b (j*6)=some (.int .i64 gs[j].g.l)∧O.cell h b (j*6+1)=some (.int .i64 gs[j].g.p)∧O.cell h b (j*6+2)=some (.int .i64 gs[j].a.l)∧O.cell h b (j*6+4)=some (.int .i64 gs[j].b.l)∧cellsA O h b (j*6) 6=some gs[j].cells:=by
 have k:=λi (hi:i<6)=>B'z GaL.cells 6 (λ_=>rfl) gs j hj i hi;refine⟨y.get _ _ (k 0 (by omega)),y.get _ _ (k 1 (by omega)),y.get _ _ (k 2 (by omega)),y.get _ _ (k 4 (by omega)),y.at (j*6) gs[j].cells λi hi=>k i hi⟩
theorem S'x (C:LP' O ro c){w:Own}{h:H}{o:Nat}{P:Ord}{v:Value}{t5:Tag}{gs:List GaL}(x:OB O ro w h o P)(sl:Sl O ro w h t5 6 v (gs.flatMap GaL.cells))(hl:gs.length<=10000): c 77 [ptr o,v] h=some (.int .i64 (frL P gs 0),h):=by
 have hlen:=A'0 GaL.cells 6 (λ_=>rfl) gs;refine C.eq (O'6 O ro) rfl rfl ?_;unfold F77;refine s'f ?_;simp[ZdF,A'd,-A'L,-A'h,-rvE];refine okE.seq (s'f ?_);simp[ZdG,A'd,-A'L,-A'h,-rvE];refine okE.blk ?_;refine okE.loop (λm t g=>∃j,g=h∧t 0=ptr o∧t 1=v∧t 5 = .int .i64 (j:Nat)∧j+m=gs.length+1∧0<m∧frL P (gs.drop j) j=frL P gs 0) ?_ (gs.length+1) _ _ ⟨0,rfl,by simp,by simp,by simp,by omega,by omega,rfl⟩;intro m t g hI;obtain⟨j,rfl,t0,t1,t5',hj,hm,hfin⟩:=hI;unfold ptr at t0
 by_cases hlt:j<gs.length
 ·obtain⟨b,cp,rfl,y⟩:=sl.blk (by omega) gs.length hlen (by omega);obtain⟨g0,_,g2,g4,_⟩:=G'x y j hlt;rw[l's hlt]at hfin;simp only[frL]at hfin;have a1:=P'w C x gs[j].g.l;have a2:=P'w C x gs[j].a.l;have a3:=P'w C x gs[j].b.l;unfold ptr at a1 a2 a3;obtain⟨q,hq⟩:=e' (j+1);have hw:IntKind.i64.wrap ((j:Int)+1)=(q:Int):=w'i;have hlt':(j:Int)<gs.length:=by omega
  generalize P.at gs[j].g.l=r1 at a1 hfin;generalize P.at gs[j].a.l=r2 at a2 hfin;generalize P.at gs[j].b.l=r3 at a3 hfin;rw[<-hq]at hfin;refine f'f ?_
  by_cases k1:r1 = -1
  ·by_cases k2:r2 = -1
   ·rw[if_neg (by omega)]at hfin;have e1:(r1 == -1)=true:=by simpa using k1
    have e2:(r2 != -1)=false:=by simpa using k2
    simp[H'K,ZdH,ZdI,ZdJ,ZdK,ZdL,ZdN,t0,t1,t5',hlt,hlt',g0,g2,g4,a1,a2,a3,e1,e2,hw];exact⟨m-1,by omega,q,rfl,by omega,by omega,hfin⟩
   ·have e1:(r1 == -1)=true:=by simpa using k1
    have e2:(r2 != -1)=true:=by simpa using k2
    by_cases k3:r3 = -1
    ·rw[if_neg (by omega)]at hfin;have e3:(r3 != -1)=false:=by simpa using k3
     simp[H'K,ZdH,ZdI,ZdJ,ZdK,ZdL,ZdN,t0,t1,t5',hlt,hlt',g0,g2,g4,a1,a2,a3,e1,e2,e3,hw];exact⟨m-1,by omega,q,rfl,by omega,by omega,hfin⟩
    ·rw[if_pos ⟨k1,k2,k3⟩]at hfin;have e3:(r3 != -1)=true:=by simpa using k3
     simp[H'K,ZdH,ZdI,ZdJ,ZdK,ZdL,ZdM,t0,t1,t5',hlt,hlt',g0,g2,g4,a1,a2,a3,e1,e2,e3,<-hfin,A'd]
  ·rw[if_neg (by omega)]at hfin;have e1:(r1 == -1)=false:=by simpa using k1
   simp[H'K,ZdH,ZdI,ZdJ,ZdK,ZdL,ZdN,t0,t1,t5',hlt,hlt',g0,g2,g4,a1,a2,a3,e1,hw];exact⟨m-1,by omega,q,rfl,by omega,by omega,hfin⟩
 ·obtain⟨a,cp,rfl⟩:=sl.len (by omega) gs.length hlen;rw[List.drop_eq_nil_of_le (by omega)]at hfin;have hfin2:-1=frL P gs 0:=hfin;have hlt':¬(j:Int)<gs.length:=by omega
  refine f'f ?_;simp[H'K,ZdH,t0,t1,t5',hlt,hlt',A'd];refine f'f ?_;simp[ZdO,<-hfin2]
theorem S'y (C:LP' O ro c){w:Own}{h:H}{o:Nat}{P:Ord}{v:Value}{t5:Tag}{gs:List GaL}(x:OB O ro w h o P)(sl:Sl O ro w h t5 6 v (gs.flatMap GaL.cells))(hl:gs.length<=10000): c 78 [ptr o,v] h=some (.int .i64 (fuL P gs),h):=by
 have hlen:=A'0 GaL.cells 6 (λ_=>rfl) gs;refine C.eq (O'7 O ro) rfl rfl ?_;unfold F78;refine s'f ?_;simp[ZdP,A'd,-A'L,-A'h,-rvE];refine okE.seq (s'f ?_);simp[ZdQ,A'd,-A'L,-A'h,-rvE];refine okE.blk ?_;refine okE.loop (λm t g=>∃j,g=h∧t 0=ptr o∧t 1=v∧t 5 = .int .i64 (j:Nat)∧j+m=gs.length+1∧0<m∧fuL P (gs.drop j)=fuL P gs) ?_ (gs.length+1) _ _ ⟨0,rfl,by simp,by simp,by simp,by omega,by omega,rfl⟩;intro m t g hI;obtain⟨j,rfl,t0,t1,t5',hj,hm,hfin⟩:=hI;unfold ptr at t0
 by_cases hlt:j<gs.length
 ·obtain⟨b,cp,rfl,y⟩:=sl.blk (by omega) gs.length hlen (by omega);obtain⟨g0,g1,g2,g4,_⟩:=G'x y j hlt;rw[l's hlt]at hfin;simp only[fuL]at hfin;have a1:=P'w C x gs[j].g.l;unfold ptr at a1;obtain⟨q,hq⟩:=e' (j+1);have hw:IntKind.i64.wrap ((j:Int)+1)=(q:Int):=w'i;have hlt':(j:Int)<gs.length:=by omega
  generalize P.at gs[j].g.l=r1 at a1 hfin;rw[<-hq]at hfin;refine f'f ?_
  by_cases k1:r1 = -1
  ·rw[if_pos k1]at hfin;have e1:(r1 == -1)=true:=by simpa using k1
   simp[K'n,ZdR,ZdS,ZdT,ZdU,t0,t1,t5',hlt,hlt',g0,g1,a1,e1,hfin,A'd]
  ·rw[if_neg k1]at hfin;have e1:(r1 == -1)=false:=by simpa using k1
   simp[K'n,ZdR,ZdS,ZdT,ZdV,t0,t1,t5',hlt,hlt',g0,g1,a1,e1,hw];exact⟨m-1,by omega,q,rfl,by omega,by omega,hfin⟩
 ·obtain⟨a,cp,rfl⟩:=sl.len (by omega) gs.length hlen;rw[List.drop_eq_nil_of_le (by omega)]at hfin;have hfin2:0=fuL P gs:=hfin;have hlt':¬(j:Int)<gs.length:=by omega
  refine f'f ?_;simp[K'n,ZdR,t0,t1,t5',hlt,hlt',A'd];refine f'f ?_;simp[ZdW,<-hfin2]
end
end Go.Proofs.YtimdkminagnhgabGreatDoor
