import Derived.Test.YtimdkminagnhgabGreatDoorQ27
set_option linter.all false
namespace Go.Ta
theorem O'c: ∀(l:List (List Nat))(Z Z':Solv),C'm l Z=some Z'->ZOk Z->ZOk Z'∧Z'.early=Z.early:=by
 intro l
 induction l with
 | nil=>intro Z Z' h z;simp only[C'm,l'a]at h;subst h;exact⟨z,rfl⟩
 | cons a r ih=>
  intro Z Z' h z;unfold C'm at h;split at h
  ·simp at h
  ·rename_i Z1 h1
   obtain⟨z1,e1,-⟩:=G'B h1 z;obtain⟨z2,e2⟩:=ih _ _ h z1;exact⟨z2,by rw[e2,e1]⟩
end Go.Ta
namespace Go.Proofs.YtimdkminagnhgabGreatDoor
open Go.Vm Go.Proofs Go.Ta
set_option maxHeartbeats 4000000
attribute [local simp] A'b A'c reg to too A'a A'n A'i mv' nl' fl' ld' ln' mk' ia' ik' ix' B'C B'D aLd A'5 A'q A'2 aUn unA ev A'k isB A'Z A'C A'D A'E A'F A'G A'H A'I A'J A'K cIf A'y A'f A'g aSt A'M A't A'N A'O A'P B'c A'Q A'u A'R A'S B'd A'T A'v A'U A'V A'W B'e A'l Instr.fill A'e A'r A'z A's ptr undef B'o B'r A'j B'n A'w A'B B'A A'x B'p rangeA B'E A'o A'4 A'A B'i A'p A'm chk
section
variable {H:Type}{O:HI H}{ro:Nat}{c:A'X H}
variable {w w':Own}{h h':H}{q:Nat}{S:Srch}{bW bH bV:Nat}{vA vC vT vS vK:Value}{lv wv:List Value}
variable {cp:Nat}{N:Ck}{v1 v2:Value}
attribute [local simp] B'4 F'y A'7
def L'i (N:Ck)(R:Rn)(v:Nat): ByteArray:=if v=1 then S'H R.kept else if v=2 then L'h N R else ⟨#[50,10,98,48,10,46,10]⟩
structure RQ (O:HI H) (ro:Nat)(w:Own)(h:H) (p:Nat)(N:Ck)(R:Rn) (v:Nat)(vC vI:Value)(us:List Value):Prop where
 m:Bx O ro w h (6,0) p [ni v,ni 0,ni 0,vC,ni (if v=2 then B'y R else 0),vI,.int .i64 R.spent,.string (L'i N R v)]
 c:Cs O ro w h (6,2) vC us (if v=1 then R.kept else [])
 i:Sm O ro w h (6,1) 1 vI ((if v=2 then B'g R else []).map ni)
theorem RN.keep6 (L:O.Law){r:Nat}{R:Rn}{bud:Int}{vF vW vP:Value}{fs:List (Nat×Value)}(x:RN O ro w h r R bud cp N v1 v2 vF vW vP fs)(a:Ch O (λu=>u=((6,0):Tag)) w h w' h'): RN O ro w' h' r R bud cp N v1 v2 vF vW vP fs:=
 ⟨x.m.ch L a,x.X.ch L a,x.sF.ch L a,x.lF,λi F y h1 h2=>(x.fr i F y h1 h2).ch L a (by simp) (λj=>by simp <;> omega) (λj=>by simp <;> omega),x.sW.ch L a,l'G x.lo a.nx⟩
def Old (O:HI H)(w:Own)(h:H)(w':Own)(h':H): Prop:=
 O.next h<=O.next h'∧∀b,b<O.next h->w b=(16,0)->w' b=(16,0)∧(∀o,O.cell h' b o=O.cell h b o)∧O.alive h' b=O.alive h b
theorem Old.of {K:Tag->Prop}(a:Ch O K w h w' h')(hK:¬K (16,0)): Old O w h w' h':=
 ⟨a.nx,λb hb e=>by
  have h1:=a.fr b hb (by rw[e];exact hK);exact⟨by rw[a.ow b hb,e],h1⟩⟩
theorem Old.trans {w2:Own}{h2:H}(a:Old O w h w' h')(b:Old O w' h' w2 h2): Old O w h w2 h2:=
 ⟨l'G a.1 b.1,λi hi e=>by
  obtain⟨a1,a2,a3⟩:=a.2 i hi e;obtain⟨b1,b2,b3⟩:=b.2 i (Nat.lt_of_lt_of_le hi a.1) a1;exact⟨b1,λo=>by rw[b2,a2],by rw[b3,a3]⟩⟩
theorem L'j (C:LP' O ro c)(L:O.Law){r:Nat}{R:Rn}{bud:Int}{vF vW vP:Value}{fs:List (Nat×Value)}(x:RN O ro w h r R bud cp N v1 v2 vF vW vP fs)(k:RnK N R)(hni:N.ni<=60)(hla:N.las.length<=60){v:Nat}(hv:v=2∨v=3)(hkp:v=1->(∃us,Cs O ro w h (5,3) vP us R.kept)∧(∀l∈R.kept,ClK N l)∧R.kept.length<=1000000000000):
  ∃p vC vI us h' w',c 44 [ptr r,ni v] h=some (ptr p,h')∧RQ O ro w' h' p N R v vC vI us∧ro<=O.next h'∧Old O w h w' h':=by
 have m2:=x.m.get 2 _ rfl;have y1:=Bx.new L (ro:=ro) w h x.lo (6,0) [ni v,ni 0,ni 0,.slice none 0 0,ni 0,.slice none 0 0,.int .i64 R.spent,.string ⟨#[]⟩];have c1:=Ch.new L (λ_=>False) w h (6,0) [ni v,ni 0,ni 0,.slice none 0 0,ni 0,.slice none 0 0,.int .i64 R.spent,.string ⟨#[]⟩];have x1:=x.keep L c1;have rp:¬O.next h<ro:=by have:=x.lo;omega
 have k6:¬Kb ((6,0):Tag):=Kb.no (by simp) (by simp);obtain⟨p,hp⟩:=e' (O.next h);obtain⟨w1,hw1⟩:=e' (w.set (O.next h) (6,0));obtain⟨h1,hh1⟩:=e' (O.new h [ni v,ni 0,ni 0,.slice none 0 0,ni 0,.slice none 0 0,.int .i64 R.spent,.string ⟨#[]⟩]);rw[<-hw1,<-hh1,<-hp]at y1;rw[<-hw1,<-hh1]at c1 x1;rw[<-hp]at rp;rcases hv with rfl|rfl
 ·have e2:=J'o C L x1 k;have c3:=Ch.put L (K:=λu=>u=((6,0):Tag)) y1 4 (by simp) (ni (B'y R)) rfl;have y3:=y1.put L 4 (by simp) (ni (B'y R));have p3:=A'8 (O:=O) (v:=ni (B'y R)) (y1.get 4 _ rfl);obtain⟨h3,hh3⟩:=e' (O.put h1 p 4 (ni (B'y R)));rw[<-hh3]at c3 y3 p3;have x3:=x1.keep6 L c3;obtain⟨vI,h4,w4,e4,s4,c4,lo4⟩:=H'b C L x3 k (6,1);have y4:=y3.ch L c4;have x4:=x3.keep L c4;have c5:=Ch.put L (K:=λu=>u=((6,0):Tag)) y4 5 (by simp) vI rfl;have y5:=y4.put L 5 (by simp) vI;have p5:=A'8 (O:=O) (v:=vI) (y4.get 5 _ rfl);obtain⟨h5,hh5⟩:=e' (O.put h4 p 5 vI);rw[<-hh5]at c5 y5 p5;have x5:=x4.keep6 L c5;have s5:=s4.ch L c5;obtain⟨h6,w6,e6,c6,lo6⟩:=Q'f C L x5 k hni hla;have y6:=y5.ch L c6;have s6:=s5.ch L c6;have c7:=Ch.put L (K:=λu=>u=((6,0):Tag)) y6 7 (by simp) (.string (L'h N R)) rfl;have y7:=y6.put L 7 (by simp) (.string (L'h N R));have p7:=A'8 (O:=O) (v:=.string (L'h N R)) (y6.get 7 _ rfl);obtain⟨h7,hh7⟩:=e' (O.put h6 p 7 (.string (L'h N R)));rw[<-hh7]at c7 y7 p7;have s7:=s6.ch L c7;refine⟨p,.slice none 0 0,vI,[],h7,w6,?_,⟨by simpa [L'i]using y7,⟨.inl ⟨rfl,rfl⟩,by simp,by simp⟩,by simpa using s7⟩,l'G lo6 c7.nx,?_⟩
  ·obtain⟨f1,f2,f3⟩:=s4.flat;have hp':O.next h=p:=hp.symm
   have hh1':O.new h [Value.int .i64 2,.int .i64 0,.int .i64 0,.slice none 0 0,.int .i64 0,.slice none 0 0,.int .i64 R.spent,.string ⟨#[]⟩]=h1:=by rw[hh1];rfl
   unfold ptr at e2 e4 e6;generalize L'h N R=st at *;generalize B'y R=fp at *;refine C.eq (L'3 O ro) rfl rfl ?_;unfold F44;refine s'f ?_;simp[ZjO,A'd];refine s'f ?_;simp[ZjP,A'd,m2];rw[hp',hh1'];refine okE.seq (s'f ?_);simp[ZjQ,A'd];refine okE.blk ?_;refine s'f ?_;simp[ZjR,A'd];refine okE.cond false (by simp) ?_;simp only[l'y,if_false];refine s'f ?_;simp[ZjU,A'd];refine okE.cond true (by simp) ?_;simp only[if_true];refine s'f ?_;simp[ZjV,A'd,e2,rp,p3];refine s'f ?_;simp[ZjW,A'd,e4,rp,p5,f1,f2,f3];refine f'f ?_;simp[ZjX,e6,rp,p7];refine f'f ?_;simp[Zj0,A'L,A'h,rvE]
  ·exact (Old.of c1 (by simp)).trans ((Old.of c3 (by simp)).trans ((Old.of c4 (by simp)).trans ((Old.of c5 (by simp)).trans ((Old.of c6 (by simp)).trans (Old.of c7 (by simp))))))
 ·have c7:=Ch.put L (K:=λu=>u=((6,0):Tag)) y1 7 (by simp) (.string ⟨#[50,10,98,48,10,46,10]⟩) rfl;have y7:=y1.put L 7 (by simp) (.string ⟨#[50,10,98,48,10,46,10]⟩);have p7:=A'8 (O:=O) (v:=.string ⟨#[50,10,98,48,10,46,10]⟩) (y1.get 7 _ rfl);obtain⟨h7,hh7⟩:=e' (O.put h1 p 7 (.string ⟨#[50,10,98,48,10,46,10]⟩));rw[<-hh7]at c7 y7 p7;refine⟨p,.slice none 0 0,.slice none 0 0,[],h7,w1,?_,⟨by simpa [L'i]using y7,⟨.inl ⟨rfl,rfl⟩,by simp,by simp⟩,.inl ⟨rfl,by simp⟩⟩,l'G x1.lo c7.nx,?_⟩
  ·have hp':O.next h=p:=hp.symm
   have hh1':O.new h [Value.int .i64 3,.int .i64 0,.int .i64 0,.slice none 0 0,.int .i64 0,.slice none 0 0,.int .i64 R.spent,.string ⟨#[]⟩]=h1:=by rw[hh1];rfl
   refine C.eq (L'3 O ro) rfl rfl ?_;unfold F44;refine s'f ?_;simp[ZjO,A'd];refine s'f ?_;simp[ZjP,A'd,m2];rw[hp',hh1'];refine okE.seq (s'f ?_);simp[ZjQ,A'd];refine okE.blk ?_;refine s'f ?_;simp[ZjR,A'd];refine okE.cond false (by simp) ?_;simp only[l'y,if_false];refine s'f ?_;simp[ZjU,A'd];refine okE.cond false (by simp) ?_;simp only[l'y,if_false];refine f'f ?_;simp[ZjY,ZjZ,rp,p7];refine f'f ?_;simp[Zj0,A'L,A'h,rvE]
  ·exact (Old.of c1 (by simp)).trans (Old.of c7 (by simp))
theorem L'k (C:LP' O ro c)(L:O.Law)(lo:ro<=O.next h)(X:CN O ro w h cp N v1 v2){bud:Int}{R:Rn}(hs:E'0 N=some R):
  ∃r fs vF h' w',c 42 [ptr cp,.int .i64 bud] h=some (ptr r,h')∧RN O ro w' h' r R bud cp N v1 v2 vF (.slice none 0 0) (.slice none 0 0) fs∧RnK N R∧R.frames.length=1∧Old O w h w' h':=by
 have hm:most=1000000:=rfl;unfold E'0 at hs;split at hs
 ·simp at hs
 rename_i F hF
 split at hs
 ·simp at hs
 rename_i Z hZ
 simp only[l'a]at hs;have hnv:=X.nv;obtain⟨kF,hown⟩:=L'c hF hnv;obtain⟨zk,ze⟩:=O'c _ _ _ hZ kF.1;have y1:=Bx.new L (ro:=ro) w h lo (5,0) [ptr cp,.int .i64 bud,.int .i64 0,.slice none 0 0,.slice none 0 0,.slice none 0 0];have c1:=Ch.new L (λ_=>False) w h (5,0) [ptr cp,.int .i64 bud,.int .i64 0,.slice none 0 0,.slice none 0 0,.slice none 0 0];obtain⟨r,hr⟩:=e' (O.next h);obtain⟨w1,hw1⟩:=e' (w.set (O.next h) (5,0));obtain⟨h1,hh1⟩:=e' (O.new h [ptr cp,.int .i64 bud,.int .i64 0,.slice none 0 0,.slice none 0 0,.slice none 0 0]);rw[<-hw1,<-hh1,<-hr]at y1;rw[<-hw1,<-hh1]at c1;have X1:=X.ch L c1;have lo1:=l'G lo c1.nx;obtain⟨u2,h2,e2,s,vE,vcl,vM,vK,vs,w2,rfl,z2,S2,c2⟩:=N'Y C L lo1 (p:=1000) (by omega) X1 hF;have kk:∀t:Tag,t.1<1000->¬Ks 1000 t:=λt ht=>by unfold Ks;omega
 have lo2:=l'G lo1 c2.nx;have y3:=Bx.new L (ro:=ro) w2 h2 lo2 (7,1) [.pointer none,.slice none 0 0];have c3:=Ch.new L (λ_=>False) w2 h2 (7,1) [.pointer none,.slice none 0 0];obtain⟨h4,p4,y4,c4⟩:=Bx.over L (K:=λu=>u=((7,1):Tag)) rfl y3 (show [ptr s,.slice none 0 0].length = _ from rfl);have c34:Ch O (λu=>u=((7,1):Tag)) w2 h2 _ h4:=(c3.mono (by simp)).trans c4;have X4:=(X1.ch L c2 (λi=>kk _ (by simp))).ch L c34;have S4:=S2.ch L c34;obtain⟨h5,e5,vE5,vcl5,vM5,vK5,vs5,w5,z5,S5,c5⟩:=K'7 C L (p:=1000) (by omega) X4 (o:=0) y4 (kk _ (by simp)) rfl S4 z2 hZ;have y5:=y4.ch L c5 (kk _ (by simp));have lo5:ro<=O.next h5:=S5.lo
 have y6:=Bx.new L (ro:=ro) w5 h5 lo5 (5,1) [ptr s,.slice none 0 0];have c6:=Ch.new L (λ_=>False) w5 h5 (5,1) [ptr s,.slice none 0 0];have y16:=((((y1.ch L c2 (kk _ (by simp))).ch L c34).ch L c5 (kk _ (by simp))).ch L c6);have c7:=Ch.put L (K:=λu=>u=((5,0):Tag)) y16 3 (by simp) (.slice (some ⟨O.next h5,0,some 2⟩) 1 2) rfl;have y7:=y16.put L 3 (by simp) (.slice (some ⟨O.next h5,0,some 2⟩) 1 2);have p7:=A'8 (O:=O) (v:=.slice (some ⟨O.next h5,0,some 2⟩) 1 2) (y16.get 3 _ rfl);obtain⟨h7,hh7⟩:=e' (O.put (O.new h5 [ptr s,.slice none 0 0]) r 3 (.slice (some ⟨O.next h5,0,some 2⟩) 1 2));rw[<-hh7]at c7 y7 p7;have c67:Ch O (λu=>u=((5,0):Tag)) w5 h5 _ h7:=(c6.mono (by simp)).trans c7;refine⟨r,[(s,.slice none 0 0)],.slice (some ⟨O.next h5,0,some 2⟩) 1 2,h7,_,?_,⟨?_,(X4.ch L c5 (λi=>kk _ (by simp))).ch L c67,.inr ⟨_,1,2,rfl,.inr rfl,rfl,y6.ch L c7⟩,by rw[<-hs];rfl,?_,?_,l'G lo5 c67.nx⟩,⟨by rw[<-hs];exact Int.le_refl 0,?_,by rw[<-hs];simp,by rw[<-hs];simp,by rw[<-hs];simp[hm]⟩,by rw[<-hs];rfl,?_⟩
 ·have hall:=y5.all;simp only[l'n,l'o]at hall;have hr2:List.range 2=[0,1]:=rfl;have r1:¬r<ro:=by have:=y1.lo;omega
  have r2:¬O.next h2<ro:=by omega
  unfold ptr at e2 p4 e5 hall p7;have hr':O.next h=r:=hr.symm
  have hh1':O.new h [.pointer (some ⟨cp,0,none⟩),.int .i64 bud,.int .i64 0,.slice none 0 0,.slice none 0 0,.slice none 0 0]=h1:=by rw[hh1];rfl
  refine C.eq (P'X O ro) rfl rfl ?_;unfold F42;refine s'f ?_;simp[ZjB,A'd];refine s'f ?_;simp[ZjC,A'd];rw[hr',hh1'];refine s'f ?_;simp[ZjD,A'd,e2,r2,p4];refine s'f ?_;simp[ZjE,A'd,e5];refine s'f ?_;simp[ZjF,A'd,hall,hr2,r1,p7];refine f'f ?_;simp[ZjG,A'L,A'h,rvE]
 ·rw[<-hs];exact y7
 ·intro i F' y' hF' hy';rw[<-hs]at hF';simp only at hF'
  cases i with
  | zero=>
   simp only[l'w,l'a]at hF' hy';subst hF' hy';exact⟨z5,⟨_,_,_,_,_,S5.ch L c67⟩,[],by simp only[hown];exact⟨Sm.nil _ _ _ _,rfl,by simp⟩⟩
  | succ i=>simp at hF'
 ·rw[<-hs];exact Sz.nil _ _ _ _
 ·rw[<-hs];intro F' hF';simp only[l'm]at hF';subst hF';exact⟨zk,by simp only[ze];exact kF.2.1,by simp[hown],by simp[hown]⟩
 ·exact (Old.of c1 (by simp)).trans ((Old.of c2 (kk _ (by simp))).trans ((Old.of c34 (by simp)).trans ((Old.of c5 (kk _ (by simp))).trans (Old.of c67 (by simp)))))
def ckT (N:Ck): CkT:=⟨N.ni,N.las.map λx=>((x.1:Int),x.2),N.gts.map λx=>((x.1:Int),(x.2:Int)),(N.bad:Int)⟩
theorem CB.cn {N:Ck}{p:Nat}(x:CB O ro w h 4 p (ckT N))(nv:N.nv<=192)(b1:∀x∈N.las,x.1<most∧x.2<most)(b2:∀x∈N.gts,x.1<most∧x.2<most)(bb:N.bad<most): ∃v1 v2,CN O ro w h p N v1 v2:=by
 obtain⟨v1,v2,m,s1,s2⟩:=x.ex;have e1:(ckT N).las.flatMap laC=N.las.flatMap prC:=by simp only[ckT,List.flatMap_map];rfl
 have e2:(ckT N).gts.flatMap gtC=N.gts.flatMap prC:=by simp only[ckT,List.flatMap_map];rfl
 rw[e1]at s1;rw[e2]at s2;have key:∀{t:Tag}{v:Value}{l:List Value},Sl O ro w h t 2 v l->Sm O ro w h t 2 v l:=by
  intro t v l s;rcases s with s|⟨b,m,cp,e,ec,el,_,y⟩
  ·exact .inl s
  ·exact .inr ⟨b,m,cp,e,ec,el,y⟩
 exact⟨v1,v2,m,key s1,key s2,nv,b1,b2,bb⟩
def Own.past (w:Own)(n:Nat): Own:=λb=>if b<n then (16,0) else w b
def Own.back (w w':Own)(n:Nat): Own:=λb=>if b<n then w b else w' b
theorem H'c {w':Own}(a:Old O (w.past (O.next h)) h w' h'): Ch O (λ_=>False) w h (w.back w' (O.next h)) h':=
 ⟨a.1,λb hb=>by simp only[Own.back,if_pos hb],λb hb _=>(a.2 b hb (by simp only[Own.past,if_pos hb])).2⟩
theorem Bx.back {w':Own}(a:Old O (w.past (O.next h)) h w' h'){t:Tag}{b:Nat}{l:List Value}(x:Bx O ro w' h' t b l)(ht:t≠(16,0)): Bx O ro (w.back w' (O.next h)) h' t b l:=by
 refine⟨?_,x.lo,x.al,x.cell⟩;have:¬b<O.next h:=λhb=>ht (by rw[<-x.tag,(a.2 b hb (by simp only[Own.past,if_pos hb])).1])
 simp only[Own.back,if_neg this];exact x.tag
theorem Sm.back {w':Own}(a:Old O (w.past (O.next h)) h w' h'){t:Tag}{sz:Nat}{v:Value}{l:List Value}(x:Sm O ro w' h' t sz v l)(ht:t≠(16,0)): Sm O ro (w.back w' (O.next h)) h' t sz v l:=by
 rcases x with x|⟨b,m,cp,e,ec,el,y⟩
 ·exact .inl x
 ·exact .inr ⟨b,m,cp,e,ec,el,y.back a ht⟩
theorem RQ.back {w':Own}(a:Old O (w.past (O.next h)) h w' h'){p:Nat}{R:Rn}{v:Nat}{vC vI:Value}{us:List Value}(x:RQ O ro w' h' p N R v vC vI us): RQ O ro (w.back w' (O.next h)) h' p N R v vC vI us:=
 ⟨x.m.back a (by simp),⟨x.c.s.back a (by simp),x.c.l,λi l u h1 h2=>(x.c.a i l u h1 h2).back a (by simp)⟩,x.i.back a (by simp)⟩
theorem RQ.ch (L:O.Law){p:Nat}{R:Rn}{v:Nat}{vC vI:Value}{us:List Value}(x:RQ O ro w h p N R v vC vI us)(a:Ch O (λ_=>False) w h w' h'): RQ O ro w' h' p N R v vC vI us:=
 ⟨x.m.ch L a,x.c.ch L a,x.i.ch L a⟩
def S'I (f n m:Nat)(N:Ck)(bud:Int)(R:Rn)(v:Nat): Prop:=∃R0,E'0 N=some R0∧D'n f n N bud m R0=some (R,v)
structure CkK (N:Ck):Prop where
 ni:N.ni<=60
 la:N.las.length<=60
 nv:N.nv<=192
 b1:∀x∈N.las,x.1<most∧x.2<most
 b2:∀x∈N.gts,x.1<most∧x.2<most
 bb:N.bad<most
theorem R'x (C:LP' O ro c)(L:O.Law)(lo:ro<=O.next h){s:ByteArray}{N:Ck}(hN:CkK N)(hr:rdS s = .ok (ckT N))(hasc:J'S s){bud:Int}(hb0:0<=bud)(hb:bud<=2305843009213693952){f n m v:Nat}{R:Rn}(hv:v=2∨v=3)(hs:S'I f n m N bud R v):
  ∃p vC vI us h' w',c 26 [.string s,.int .i64 bud] h=some (ptr p,h')∧RQ O ro w' h' p N R v vC vI us∧Ch O (λ_=>False) w h w' h'∧ro<=O.next h':=by
 obtain⟨R0,hs0,hs1⟩:=hs;obtain⟨cq,vq,w1,h1,e1,hq,c1,lo1⟩:=L'V C L (w:=w.past (O.next h)) lo s hasc;rcases hq with ⟨q,hq,-⟩|⟨T,hT,rfl,cb⟩
 ·rw[hr]at hq;simp at hq
 rw[hr]at hT;simp only[Except.ok.injEq]at hT;subst hT;have y2:=Bx.new L (ro:=ro) w1 h1 lo1 (7,0) [.int .i64 0,.int .i64 0];have c2:=Ch.new L (λ_=>False) w1 h1 (7,0) [.int .i64 0,.int .i64 0];obtain⟨h3,p3,y3,c3⟩:=Bx.over L (K:=λu=>u=((7,0):Tag)) rfl y2 (show [Value.int .i64 0,.int .i64 0].length = _ from rfl);have c23:Ch O (λu=>u=((7,0):Tag)) w1 h1 _ h3:=(c2.mono (by simp)).trans c3;have cb3:=cb.ch L c23;obtain⟨v1,v2,X3⟩:=cb3.cn hN.nv hN.b1 hN.b2 hN.bb;have lo3:=l'G lo1 c23.nx;obtain⟨r,fs4,vF4,h4,w4,e4,x4,k4,hl4,o4⟩:=L'k C L lo3 X3 (bud:=bud) hs0;obtain⟨h5,e5,fs5,vF5,vW5,vP5,w5,x5,k5,hl5,c5,hkp⟩:=L'e C L x4 k4 (by omega) hb hN.ni hN.la hs1;obtain⟨p,vC,vI,us,h6,w6,e6,q6,lo6,o6⟩:=L'j C L x5 k5 hN.ni hN.la hv hkp;have oo:Old O (w.past (O.next h)) h w6 h6:=(Old.of c1 (by unfold Kc;simp)).trans ((Old.of c23 (by simp)).trans (o4.trans ((Old.of c5 (Kb.no (by simp) (by simp))).trans o6)));refine⟨p,vC,vI,us,h6,_,?_,q6.back oo,H'c oo,lo6⟩;have hbn:¬bud<0:=by omega
 have r2:¬O.next h1<ro:=by omega
 have k0:=y3.get 0 _ rfl;unfold ptr fv at e1;unfold ptr at e4 e5 e6;refine C.eq (P'W O ro) rfl rfl ?_;unfold F26;refine s'f ?_;simp[Zjs,A'd];refine s'f ?_;simp[Zjt,A'd,hbn];refine s'f ?_;simp[Zjv,A'd,e1,r2,p3];refine s'f ?_;simp[Zjw,A'd,k0];refine s'f ?_;simp[Zjy,A'd,e4];refine s'f ?_;simp[Zjz,A'd,e5];refine f'f ?_;simp[ZjA,e6,A'L,A'h,rvE]
end
end Go.Proofs.YtimdkminagnhgabGreatDoor
