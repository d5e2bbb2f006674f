import Derived.Test.YtimdkminagnhgaaGreatDoorQ28
set_option linter.all false
namespace Go.Ta
theorem G'1 {f n:Nat}{Z Z':Solv}{l:List Nat}{bud:Int}{a:Nat}(hs:E's f n Z l bud=some (Z',a))(h:ZOk Z): ZOk Z'∧Z'.early=Z.early∧Z'.clauses=Z.clauses∧0<=bud∧Z.conflicts<=Z'.conflicts∧Z'.conflicts-Z.conflicts<=B'w∧Z'.conflicts<2*B'w+1:=by
 unfold E's at hs;split at hs
 ·rename_i hc
  split at hs
  ·simp at hs
  ·split at hs
   ·rename_i hc2
    simp only[l'a,l'd]at hs;obtain⟨rfl,rfl⟩:=hs;exact⟨h,rfl,rfl,hc.2.2.1,by simp,by simp;omega,by simp;omega⟩
   ·simp at hs
 ·simp at hs
end Go.Ta
namespace Go.Proofs.YtimdkminagnhgaaGreatDoor
open Go.Vm Go.Proofs Go.Ta
set_option maxHeartbeats 4000000
section
variable {H:Type}{O:HI H}{ro:Nat}{c:A'Z H}
attribute [local simp] A'a A'b reg to too A'd A'q A'h mv' nl' fl' ld' ln' mk' ia' ik' ix' B'F B'G aLd B'h A'w A'4 aUn unA ev A'l isB A'0 A'E A'F A'G A'H A'I A'J A'K A'L A'M cIf A'B A'f A'g aSt A'N A't A'O A'P A'Q A'9 A'R A'u A'S A'T B'a A'U A'v A'V A'W A'X B'b A'p Instr.fill A'e A'n A'x A'j ptr undef B'o B'y A'k B's A's A'D B'C A'y B'p rangeA B'O A'r A'2 A'z B'd A'm A'o chk
variable {w w':Own}{h h':H}{q:Nat}{S:Srch}{bW bH bV:Nat}{vA vC vT vS vK:Value}{lv wv:List Value}
variable {cp:Nat}{N:Ck}{v1 v2:Value}
def frC (x:Nat×Value): List Value:=[ptr x.1,x.2]
theorem C'w (x:Nat×Value): (frC x).length=2:=rfl
def FM (O:HI H)(ro:Nat)(w:Own)(h:H)(i:Nat)(F:Go.Ta.Fr)(s:Nat)(vo:Value): Prop:=
 Go.Ta.ZOk F.s∧(∃vE vcl vM vK vs,SV O ro w h (1000+2*i) s F.s vE vcl vM vK vs)∧∃us,Cs O ro w h (1001+2*i,3) vo us F.own
theorem FM.ch (L:O.Law){K:Tag->Prop}{p s:Nat}{F:Go.Ta.Fr}{vo:Value}(x:FM O ro w h p F s vo)(a:Ch O K w h w' h')(h9:∀i,¬K (9,i):=by simp)(hp:∀i,¬K (1000+2*p,i):=by simp)(hq:∀i,¬K (1001+2*p,i):=by simp): FM O ro w' h' p F s vo:=by
 obtain⟨z,⟨vE,vcl,vM,vK,vs,y⟩,us,u⟩:=x;exact⟨z,⟨_,_,_,_,_,y.ch L a h9 hp⟩,us,u.ch L a (hq _) (h9 _)⟩
structure RN (O:HI H) (ro:Nat)(w:Own)(h:H) (r:Nat)(R:Rn) (bud:Int) (cp:Nat)(N:Ck)(v1 v2 vF vW vP:Value)(fs:List (Nat×Value)):Prop where
 m:Bx O ro w h (5,0) r [ptr cp,.int .i64 bud,.int .i64 R.spent,vF,vW,vP]
 X:CN O ro w h cp N v1 v2
 sF:Sm O ro w h (5,1) 2 vF (fs.flatMap frC)
 lF:fs.length=R.frames.length
 fr:∀(i:Nat)(F:Go.Ta.Fr)(y:Nat×Value),R.frames[i]?=some F->fs[i]?=some y->FM O ro w h i F y.1 y.2
 sW:Sz O ro w h (5,2) 2 vW (R.way.flatMap prC)
 lo:ro<=O.next h
theorem RN.getF {r:Nat}{R:Rn}{bud:Int}{vF vW vP:Value}{fs:List (Nat×Value)}(x:RN O ro w h r R bud cp N v1 v2 vF vW vP fs)(i:Nat){y:Nat×Value}(hy:fs[i]?=some y):
  ∃b c,vF = .slice (some ⟨b,0,some 2⟩) R.frames.length c∧Bx O ro w h (5,1) b (fs.flatMap frC)∧(fs.flatMap frC)[i*2]?=some (ptr y.1)∧(fs.flatMap frC)[i*2+1]?=some y.2:=by
 obtain⟨hj,hjy⟩:=l'b.1 hy;have hlen:=A'A frC 2 C'w fs;obtain⟨b,c,e,hc,yb⟩:=x.sF.blk (by omega) fs.length hlen (by omega);rw[x.lF]at e;have c0:=B'X frC 2 C'w fs i hj 0 (by omega);have c1:=B'X frC 2 C'w fs i hj 1 (by omega);rw[hjy]at c0 c1;exact⟨b,c,e,yb,by simpa [frC]using c0,by simpa [frC]using c1⟩
theorem G'2 (C:LP' O ro c)(L:O.Law){r:Nat}{R R1:Rn}{bud:Int}{vF vW vP:Value}{fs:List (Nat×Value)}(x:RN O ro w h r R bud cp N v1 v2 vF vW vP fs)(hb:bud<=2305843009213693952)(h0:0<=R.spent){level f n a:Nat}{l:List Nat}{tl:Tag}(htl:¬K11 tl){vl:Value}(sl:Sm O ro w h tl 1 vl (l.map ni))(hs:N'i f n bud R level l=some (R1,a)):
  ∃h' w',c 108 [ptr r,ni level,vl] h=some (ni a,h')∧RN O ro w' h' r R1 bud cp N v1 v2 vF vW vP fs∧Ch O (λu=>u=(5,0)∨Ks (1000+2*level) u) w h w' h'∧0<=R1.spent:=by
 have hm62:B'w=4611686018427387904:=rfl;unfold N'i at hs;split at hs
 ·simp at hs
 rename_i F hF
 split at hs
 ·simp at hs
 rename_i Z' a' hsv
 simp only[l'a,l'd]at hs;obtain⟨hR1,ha⟩:=hs;have hlv:=(l'b.1 hF).1;have hlv':(level:Int)<R.frames.length:=by omega
 obtain⟨y,hy⟩:∃y,fs[level]?=some y:=⟨_,l'c (by rw[x.lF];exact hlv)⟩;obtain⟨s,vo⟩:=y;obtain⟨hZ,⟨vE,vcl,vM,vK,vs,S0⟩,us,o0⟩:=x.fr level F _ hF hy;obtain⟨b,q,eF,yb,hk0,hk1⟩:=x.getF level hy;obtain⟨ok',-,-,hbs,hc1,hc2,hc3⟩:=G'1 hsv hZ;have e1:=F'c C L S0;obtain⟨g2,e2,vM',vK',w2,S2,c2⟩:=Q'A C L (by omega) S0 hZ.2 htl sl hsv;have e3:=F'c C L S2;have kk:∀t:Tag,t.1<20->¬Ks (1000+2*level) t:=λt ht=>by unfold Ks;omega
 have m0:=x.m;have m2:=x.m.ch L c2 (kk _ (by simp));obtain⟨sp,hsp⟩:=e' (R.spent+((Z'.conflicts-F.s.conflicts:Nat):Int));have c3:=Ch.put L (K:=λu=>u=((5,0):Tag)) m2 2 (by simp) (.int .i64 sp) rfl;have m3:=m2.put L 2 (by simp) (.int .i64 sp);have p3:=A'C (O:=O) (v:=.int .i64 sp) (m2.get 2 _ rfl);have cc:Ch O (λu=>u=(5,0)∨Ks (1000+2*level) u) w h w2 (O.put g2 r 2 (.int .i64 sp)):=(c2.mono (λ_ h=>.inr h)).trans (c3.mono (λ_ h=>.inl h));have kc:∀t:Tag,t.1<20->t≠(5,0)->¬(t=(5,0)∨Ks (1000+2*level) t):=λt h1 h2=>by rintro (h|h);exact h2 h;exact kk t h1 h
 refine⟨_,w2,?_,⟨?_,x.X.ch L cc (λi=>kc _ (by simp) (by simp)),x.sF.ch L cc (kc _ (by simp) (by simp)),?_,?_,?_,l'G x.lo cc.nx⟩,cc,?_⟩
 ·have hfl:=S2.m;have kb:=yb.get _ _ hk0;have r1:=x.m.get 1 _ rfl;have r2:=x.m.get 2 _ rfl;have r3:=x.m.get 3 _ rfl;rw[eF]at r3;have q2:=m2.get 2 _ rfl;have q3:=m3.get 2 _ rfl;have q4:=m3.get 1 _ rfl;have rr:¬r<ro:=by have:=x.m.lo;omega
  have hw2:IntKind.i64.wrap ((Z'.conflicts:Int)-(F.s.conflicts:Int))=((Z'.conflicts-F.s.conflicts:Nat):Int):=w'i;have hw3:IntKind.i64.wrap (R.spent+((Z'.conflicts-F.s.conflicts:Nat):Int))=sp:=by rw[hsp];exact B'H (by omega) (by omega)
  obtain⟨dd,hdd⟩:=e' (Z'.conflicts-F.s.conflicts);rw[<-hdd]at hw2 hw3;obtain⟨bs,hbs2⟩:=e' (bud-R.spent);have hw1:IntKind.i64.wrap (bud-R.spent)=bs:=by rw[hbs2];exact B'H (by omega) (by omega)
  rw[<-hbs2]at e2;unfold ptr at e1 e2 e3 kb;have ha2:(if bud<sp then 3 else a')=a:=by rw[hsp];exact ha
  generalize O.put g2 r 2 (.int .i64 sp)=g3 at *;simp only[Nat.add_zero]at kb;refine C.eq (Q'M O ro) rfl rfl ?_;unfold V'v;refine s'f ?_;simp[Zml,A'c];refine s'f ?_;simp[Zmm,A'c,r3,hlv,hlv',kb];refine s'f ?_;simp[Zmn,A'c,e1];refine s'f ?_;simp[Zmo,A'c,r1,r2,hw1,e2];refine s'f ?_;simp[Zmp,A'c,q2,e3,hw2,hw3,p3,rr]
  by_cases hbb:bud<sp
  ·rw[if_pos hbb]at ha2;subst ha2;refine s'f ?_;simp[Zmq,Zmr,A'c,q3,q4,hbb,A'1,A'i,rvE]
  ·rw[if_neg hbb]at ha2;subst ha2;refine f'f ?_;simp[Zmq,Zms,q3,q4,hbb,A'1,A'i,rvE]
 ·rw[<-hR1];simp only[<-hsp];exact m3
 ·rw[<-hR1];simp[x.lF]
 ·intro i F' y' hF' hy';rw[<-hR1]at hF';simp only at hF'
  by_cases e:i=level
  ·subst e;rw[l'g hlv]at hF';rw[hy]at hy';simp only[l'a]at hF' hy';subst hF' hy';have k5:∀t:Tag,t≠(5,0)->¬t=(5,0):=λt h=>h;exact⟨ok',⟨_,_,_,_,_,S2.ch L c3 (λi=>by simp) (λi=>by simp;omega)⟩,us,o0.ch L cc (by rintro (h|h);simp at h;unfold Ks at h;simp at h) (kc _ (by simp) (by simp))⟩
  ·rw[l'h (λh=>e h.symm)]at hF';exact (x.fr i F' y' hF' hy').ch L cc (λj=>kc _ (by simp) (by simp)) (λj=>by rintro (h|h);simp at h;omega;unfold Ks at h;simp at h;omega) (λj=>by rintro (h|h);simp at h;omega;unfold Ks at h;simp at h;omega)
 ·rw[<-hR1];exact x.sW.ch L cc (kc _ (by simp) (by simp))
 ·rw[<-hR1];simp only;omega
end
end Go.Proofs.YtimdkminagnhgaaGreatDoor
namespace Go.Proofs.YtimdkminagnhgaaGreatDoor
open Go.Vm Go.Proofs Go.Ta
set_option maxHeartbeats 4000000
section
variable {H:Type}{O:HI H}{ro:Nat}{c:A'Z H}
attribute [local simp] A'a A'b reg to too A'd A'q A'h mv' nl' fl' ld' ln' mk' ia' ik' ix' B'F B'G aLd B'h A'w A'4 aUn unA ev A'l isB A'0 A'E A'F A'G A'H A'I A'J A'K A'L A'M cIf A'B A'f A'g aSt A'N A't A'O A'P A'Q A'9 A'R A'u A'S A'T B'a A'U A'v A'V A'W A'X B'b A'p Instr.fill A'e A'n A'x A'j ptr undef B'o B'y A'k B's A's A'D B'C A'y B'p rangeA B'O A'r A'2 A'z B'd A'm A'o chk
variable {w w':Own}{h h':H}{q:Nat}{S:Srch}{bW bH bV:Nat}{vA vC vT vS vK:Value}{lv wv:List Value}
variable {cp:Nat}{N:Ck}{v1 v2:Value}
theorem F'Q (C:LP' O ro c)(L:O.Law){r:Nat}{R R1:Rn}{bud:Int}{vF vW vP:Value}{fs:List (Nat×Value)}(x:RN O ro w h r R bud cp N v1 v2 vF vW vP fs)(h0:0<=R.spent)(h00:R.spent<9223372036854775000)(hni:N.ni<=60)(hla:N.las.length<=60){level:Nat}{F:Go.Ta.Fr}(hF:R.frames[level]?=some F)(hM:1+N.ni+N.las.length<=F.s.model.length)(hM2:F.s.model.length<=192)(hs:B'L N R level=some R1):
  ∃vW' h' w',c 109 [ptr r,ni level] h=some (.tuple #[],h')∧RN O ro w' h' r R1 bud cp N v1 v2 vF vW' vP fs∧Ch O (λu=>u=(5,0)∨u=(5,2)) w h w' h':=by
 have hm:most=1000000:=rfl;unfold B'L at hs;rw[hF]at hs;simp only at hs;split at hs
 ·rename_i hwl
  simp only[l'a]at hs;have hlv:=(l'b.1 hF).1;have hlv':(level:Int)<R.frames.length:=by omega
  obtain⟨y,hy⟩:∃y,fs[level]?=some y:=⟨_,l'c (by rw[x.lF];exact hlv)⟩;obtain⟨s,vo⟩:=y;obtain⟨hZ,⟨vE,vcl,vM,vK,vs,S0⟩,us,o0⟩:=x.fr level F _ hF hy;obtain⟨b,q,eF,yb,hk0,hk1⟩:=x.getF level hy;obtain⟨g1,w1,e1,c1,lo1,l1,l2⟩:=Q'6 C L x.X yb hk0 S0 hM hM2 hni hla;obtain⟨k0,hkk⟩:=B'i w (O.next h);have y2:=Bx.new L (ro:=ro) w1 g1 lo1 (14,k0) [.int .i64 0,.int .i64 0];have c2:=Ch.new L (λ_=>False) w1 g1 (14,k0) [.int .i64 0,.int .i64 0];obtain⟨st,hst⟩:=e' ((A'7 N F.s).1);obtain⟨inp,hin⟩:=e' ((A'7 N F.s).2);rw[<-hst,<-hin]at e1;obtain⟨g3,p3,y3,c3⟩:=Bx.over L (K:=λu=>u=((14,k0):Tag)) rfl y2 (show [ni st,ni inp].length = _ from rfl);have c13:=Ch.own (k:=k0) (c1.trans c2) c3 hkk;have lo3:ro<=O.next g3:=l'G x.lo c13.nx
  have sW3:=x.sW.ch L c13;have m3:=x.m.ch L c13;have hwlen:=A'A prC 2 C'v R.way;obtain⟨vW',g4,w4,e4,s4,c4,lo4⟩:=B'D (bytes:=16) (new:=[ni st,ni inp]) L lo3 sW3.m (by omega) rfl (by omega) (by omega);have m4:=m3.ch L c4;have c5:=Ch.put L (K:=λu=>u=((5,0):Tag)) m4 4 (by simp) vW' rfl;have m5:=m4.put L 4 (by simp) vW';have p5:=A'C (O:=O) (v:=vW') (m4.get 4 _ rfl);have c6:=Ch.put L (K:=λu=>u=((5,0):Tag)) m5 2 (by simp) (.int .i64 (R.spent+1)) rfl;have m6:=m5.put L 2 (by simp) (.int .i64 (R.spent+1));have p6:=A'C (O:=O) (v:=.int .i64 (R.spent+1)) (m5.get 2 _ rfl);have cc:Ch O (λu=>u=(5,0)∨u=(5,2)) w h w4 (O.put (O.put g4 r 4 vW') r 2 (.int .i64 (R.spent+1))):=(((c13.mono (by simp)).trans (c4.mono (λ_ h=>.inr h))).trans (c5.mono (λ_ h=>.inl h))).trans (c6.mono (λ_ h=>.inl h));have hway:R.way.flatMap prC++[ni st,ni inp]=(R.way++[A'7 N F.s]).flatMap prC:=by
   rw[List.flatMap_append];simp[prC,hst,hin]
  rw[hway]at s4;refine⟨vW',_,w4,?_,⟨?_,x.X.ch L cc,x.sF.ch L cc,?_,?_,?_,l'G x.lo cc.nx⟩,cc⟩
  ·have r0:=x.m.get 0 _ rfl;have r3:=x.m.get 3 _ rfl;rw[eF]at r3;have q4:=m3.get 4 _ rfl;have q2:=m5.get 2 _ rfl;have hall:=y3.all;have rr:¬r<ro:=by have:=x.m.lo;omega
   have r1:¬O.next g1<ro:=by omega
   have hw:IntKind.i64.wrap (R.spent+1)=R.spent+1:=w'j;obtain⟨sp,hsp⟩:=e' (R.spent+1);have hw':IntKind.i64.wrap (R.spent+1)=sp:=by rw[hw,hsp]
   rw[<-hsp]at p6 ⊢;obtain⟨f1,f2,f3⟩:=s4.m.flat;generalize O.put (O.put g4 r 4 vW') r 2 (.int .i64 sp)=g6 at *;generalize O.put g4 r 4 vW'=g5 at *;simp only[l'n,l'o]at hall;have hr2:List.range 2=[0,1]:=rfl;unfold ptr at e1 r0;refine C.eq (Q'N O ro) rfl rfl ?_;unfold V'w;refine s'f ?_;simp[Zmt,A'c,r3,r0,hlv,hlv',e1,r1,p3];refine s'f ?_;simp[Zmu,A'c,q4,hall,hr2,e4,p5,f1,f2,rr];refine f'f ?_;simp[Zmv,q2,hw',p6,rr,A'1,A'i,rvE]
  ·rw[<-hs];exact m6
  ·rw[<-hs];exact x.lF
  ·intro i F' y' hF' hy';rw[<-hs]at hF';exact (x.fr i F' y' hF' hy').ch L cc (λj=>by simp) (λj=>by simp;omega) (λj=>by simp;omega)
  ·rw[<-hs];exact ((s4.ch L c5).ch L c6)
 ·simp at hs
end
end Go.Proofs.YtimdkminagnhgaaGreatDoor
namespace Go.Ta
def ClK (N:Ck)(l:List Nat): Prop:=l.length<=192∧∀x∈l,x/2<N.las.length
def FrK (N:Ck)(F:Fr): Prop:=ZOk F.s∧F.s.early.length=N.nv∧F.own.length<=most∧∀l∈F.own,ClK N l
structure RnK (N:Ck)(R:Rn):Prop where
 sp:0<=R.spent
 fr:∀F∈R.frames,FrK N F
 wy:∀m∈R.way,m.1<1152921504606846976∧m.2<1152921504606846976
 wl:R.way.length<=most
 fl:R.frames.length<=most
theorem I'A (s:Solv)(first:Nat): ∀count,D'p s first count<2^count:=by
 intro count
 induction count with
 | zero=>simp[D'p]
 | succ n ih=>
  unfold D'p at ih ⊢;rw[l'B,List.foldl_append];simp only[List.foldl_cons,List.foldl_nil];generalize (List.range n).foldl (λn j=>if s.model.getD (first+j) false then n ||| 2^j else n) 0=x at ih;have h2:2^n<2^(n+1):=Nat.pow_lt_pow_right (by omega) (by omega);split
  ·exact Nat.or_lt_two_pow (by omega) h2
  ·omega
theorem N'u (N:Ck)(s:Solv)(h:N.las.length<=60)(hi:N.ni<=60): (A'7 N s).1<1152921504606846976∧(A'7 N s).2<1152921504606846976:=by
 have h1:=I'A s (1+N.ni) N.las.length;have h2:2^N.las.length<=2^60:=Nat.pow_le_pow_right (by omega) h;have h3:=I'A s 1 N.ni;have h4:2^N.ni<=2^60:=Nat.pow_le_pow_right (by omega) hi;unfold A'7;simp only;omega
theorem F'e {α:Type}{P:α->Prop}{l:List α}{i:Nat}{y:α}(h:∀x∈l,P x)(hy:P y): ∀x∈l.set i y,P x:=by
 intro x hx;rcases List.mem_or_eq_of_mem_set hx with h1|h1
 ·exact h x h1
 ·subst h1;exact hy
theorem E'w {N:Ck}{f n:Nat}{bud:Int}{R R1:Rn}{level a:Nat}{l:List Nat}(hs:N'i f n bud R level l=some (R1,a))(k:RnK N R):
  RnK N R1∧R1.way=R.way∧R1.kept=R.kept∧R1.frames.length=R.frames.length∧(a=1->∀F,R1.frames[level]?=some F->F.s.model.length=N.nv)∧(a≠3->R1.spent<=bud):=by
 unfold N'i at hs;split at hs
 ·simp at hs
 rename_i F hF
 split at hs
 ·simp at hs
 rename_i Z' a' hsv
 simp only[l'a,l'd]at hs;obtain⟨rfl,ha⟩:=hs;have hlv:=(l'b.1 hF).1;have kF:=k.fr F (l'f hF);obtain⟨ok',he,hc,-⟩:=G'1 hsv kF.1;have sp:=k.sp;refine⟨⟨by simp only;omega,F'e k.fr ⟨ok',by simp only[he];exact kF.2.1,kF.2.2⟩,k.wy,k.wl,by simp[k.fl]⟩,rfl,rfl,by simp,?_,?_⟩
 ·intro h1 F' hF';simp only[l'g hlv,l'a]at hF';subst hF';have ha':a'=1:=by
   subst h1;split at ha
   ·omega
   ·exact ha
  subst ha';have hE:=kF.2.1;unfold E's at hsv;split at hsv
  ·split at hsv
   ·simp at hsv
   ·split at hsv
    ·simp only[l'a,l'd]at hsv;obtain⟨rfl,rfl⟩:=hsv;simp[hE]
    ·simp at hsv
  ·simp at hsv
 ·intro h3;simp only;split at ha
  ·omega
  ·omega
theorem F'f {N:Ck}{R R1:Rn}{level:Nat}(hs:B'L N R level=some R1)(h6:N.las.length<=60)(h7:N.ni<=60)(k:RnK N R): RnK N R1∧R1.frames=R.frames∧R1.kept=R.kept:=by
 unfold B'L at hs;split at hs
 ·simp at hs
 split at hs
 ·simp only[l'a]at hs;subst hs;have sp:=k.sp
  rename_i hwl
  refine⟨⟨by simp only;omega,k.fr,?_,by simp;omega,k.fl⟩,rfl,rfl⟩;intro m hm;simp only[l'E,l'm]at hm;rcases hm with hm|rfl
  ·exact k.wy m hm
  ·exact N'u N _ h6 h7
 ·simp at hs
theorem G'3 {N:Ck}{cl:List Nat}: ∀(k:Nat)(fs fs':List Fr),C'H N cl k fs=some fs'->(∀F∈fs,FrK N F)->(∀F∈fs',FrK N F)∧fs'.length=fs.length:=by
 intro k
 induction k with
 | zero=>intro fs fs' hs h;simp only[C'H,l'a]at hs;subst hs;exact⟨h,rfl⟩
 | succ k ih=>
  intro fs fs' hs h;unfold C'H at hs;split at hs
  ·simp at hs
  rename_i F hF
  have kF:=h F (l'f hF);have hfl:=List.length_filter_le (λx=>x != cl) F.own;simp only at hs;have hown:∀l∈F.own.filter (λx=>x != cl),ClK N l:=λl hl=>kF.2.2.2 l (List.mem_filter.1 hl).1;split at hs
  ·simp only[l'a]at hs;subst hs;exact⟨F'e h ⟨kF.1,kF.2.1,by simp only;have:=kF.2.2.1;omega,hown⟩,by simp⟩
  ·split at hs
   ·simp at hs
   rename_i F1 hF1
   unfold G'X at hF1;split at hF1
   ·simp at hF1
   rename_i s1 hs1
   simp only[l'a]at hF1;subst hF1;obtain⟨z,e,-⟩:=E'a hs1 kF.1;have:=ih _ _ hs (F'e h ⟨z,by simp only[e];exact kF.2.1,by simp only;have:=kF.2.2.1;omega,hown⟩);simpa using this
theorem G'4 {N:Ck}{cl:List Nat}{R R1:Rn}{level:Nat}(hcl:ClK N cl)(hs:D'q N R level cl=some R1)(k:RnK N R): RnK N R1∧R1.frames.length=R.frames.length∧R1.way=R.way∧R1.kept=R.kept∧R1.spent=R.spent:=by
 unfold D'q at hs;split at hs
 ·simp at hs
 rename_i fs hfs
 obtain⟨k1,l1⟩:=G'3 _ _ _ hfs k.fr;split at hs
 ·simp at hs
 rename_i F hF
 split at hs
 ·rename_i hlt
  simp only[l'a]at hs;subst hs;have kF:=k1 F (l'f hF);refine⟨⟨k.sp,F'e k1 ⟨kF.1,kF.2.1,by simp;omega,?_⟩,k.wy,k.wl,by simp[l1,k.fl]⟩,by simp[l1],rfl,rfl,rfl⟩;intro l hl;simp only[l'E,l'm]at hl;rcases hl with hl|rfl
  ·exact kF.2.2.2 l hl
  ·exact hcl
 ·simp at hs
theorem T'a {N:Ck}{R:Rn}(k:RnK N R): RnK N { R with way:=R.way.dropLast }:=
 ⟨k.sp,k.fr,λm hm=>k.wy m (List.dropLast_subset _ hm),by have:=k.wl;simp;omega,k.fl⟩
theorem L'b (N:Ck)(st:Nat)(h:N.las.length<=60): ClK N (B't N st):=by
 refine⟨by simp[B't];omega,?_⟩;intro x hx;simp only[B't,List.mem_map,List.mem_range]at hx;obtain⟨j,hj,rfl⟩:=hx;have:st/2^j%2<2:=Nat.mod_lt _ (by omega);generalize st/2^j%2=b at *;omega
theorem J'l (N:Ck): ∀(z:List (Nat×Bool))(b:Bool),(∀x∈B'6 N z b,∃y,(x,y)∈z)∧(B'6 N z b).length<=z.length:=by
 intro z
 induction z with
 | nil=>intro b;simp[B'6]
 | cons p r ih=>
  intro b;obtain⟨x,nm⟩:=p;have i1:=ih b;have i2:=ih false;unfold B'6;split
  ·refine⟨?_,by simp;exact i1.2⟩;intro y hy;rcases l'I.1 hy with rfl|hy
   ·exact⟨nm,by simp⟩
   ·obtain⟨q,hq⟩:=i1.1 y hy;exact⟨q,by simp[hq]⟩
  ·split
   ·refine⟨?_,by simp;exact i2.2⟩;intro y hy;rcases l'I.1 hy with rfl|hy
    ·exact⟨nm,by simp⟩
    ·obtain⟨q,hq⟩:=i2.1 y hy;exact⟨q,by simp[hq]⟩
   ·refine⟨?_,by have:=i1.2;simp;omega⟩;intro y hy;obtain⟨q,hq⟩:=i1.1 y hy;exact⟨q,by simp[hq]⟩
theorem R'a {N:Ck}{cl core:List Nat}(h:ClK N cl): ClK N (B'7 N cl core):=by
 have:=J'l N (cl.zip (B'f (A'6 N cl) core)) (!((cl.zip (B'f (A'6 N cl) core)).any λp=>p.2&&A'5 N p.1));refine⟨?_,?_⟩
 ·have h1:=this.2;have h2:=h.1;unfold B'7;simp only;have:(cl.zip (B'f (A'6 N cl) core)).length<=cl.length:=by simp[List.length_zip];omega
  omega
 ·intro x hx;obtain⟨y,hy⟩:=this.1 x hx;exact h.2 x (List.of_mem_zip hy).1
end Go.Ta
namespace Go.Proofs.YtimdkminagnhgaaGreatDoor
open Go.Vm Go.Proofs Go.Ta
set_option maxHeartbeats 4000000
section
variable {H:Type}{O:HI H}{ro:Nat}{c:A'Z H}
attribute [local simp] A'a A'b reg to too A'd A'q A'h mv' nl' fl' ld' ln' mk' ia' ik' ix' B'F B'G aLd B'h A'w A'4 aUn unA ev A'l isB A'0 A'E A'F A'G A'H A'I A'J A'K A'L A'M cIf A'B A'f A'g aSt A'N A't A'O A'P A'Q A'9 A'R A'u A'S A'T B'a A'U A'v A'V A'W A'X B'b A'p Instr.fill A'e A'n A'x A'j ptr undef B'o B'y A'k B's A's A'D B'C A'y B'p rangeA B'O A'r A'2 A'z B'd A'm A'o chk
variable {w w':Own}{h h':H}{q:Nat}{S:Srch}{bW bH bV:Nat}{vA vC vT vS vK:Value}{lv wv:List Value}
variable {cp:Nat}{N:Ck}{v1 v2:Value}
def Kl (u:Tag): Prop:=u=(5,1)∨1000<=u.1
theorem RN.own (L:O.Law){K:Tag->Prop}{r:Nat}{R:Rn}{bud:Int}{vF vW vP:Value}{fs:List (Nat×Value)}(x:RN O ro w h r R bud cp N v1 v2 vF vW vP fs){i:Nat}{F:Go.Ta.Fr}{s:Nat}{vo v:Value}{us:List Value}{own:List (List Nat)}(hF:R.frames[i]?=some F)(hy:fs[i]?=some (s,vo))(a:Ch O K w h w' h')(hK:∀u,K u->u=(5,1)∨u=(1001+2*i,3)){b n q:Nat}(eF:vF = .slice (some ⟨b,0,some 2⟩) n q)(yb:Bx O ro w' h' (5,1) b ((fs.flatMap frC).set (i*2+1) v))(cs:Cs O ro w' h' (1001+2*i,3) v us own):
  RN O ro w' h' r { R with frames:=R.frames.set i { F with own:=own } } bud cp N v1 v2 vF vW vP (fs.set i (s,v)):=by
 have hlen:=A'A frC 2 C'w fs;obtain⟨hj,hjy⟩:=l'b.1 hy;have hi:=(l'b.1 hF).1;have hset:(fs.flatMap frC).set (i*2+1) v=(fs.set i (s,v)).flatMap frC:=G'b frC 2 C'w fs i hj 1 v (s,v) (by omega) (by rw[hjy];rfl);have kc:∀t:Tag,t≠(5,1)->t≠(1001+2*i,3)->¬K t:=λt h1 h2 h3=>by rcases hK t h3 with h|h;exact h1 h;exact h2 h
 refine⟨x.m.ch L a (kc _ (by simp) (by simp <;> omega)),x.X.ch L a (λi=>kc _ (by simp) (by simp <;> omega)),?_,by simp[x.lF],?_,x.sW.ch L a (kc _ (by simp) (by simp <;> omega)),l'G x.lo a.nx⟩
 ·rcases x.sF with e|⟨b',m,cp',e,ec,el,y⟩
  ·rw[e.2]at hlen;simp at hlen;omega
  ·rw[eF]at e ⊢;simp at e;obtain⟨rfl,rfl,rfl⟩:=e;rw[hset]at yb;exact .inr ⟨_,_,_,rfl,ec,by rw[<-el,<-hset];simp,yb⟩
 ·intro j F' y' hF' hy';simp only at hF'
  by_cases e:j=i
  ·subst e;rw[l'g hi]at hF';rw[l'g hj]at hy';simp only[l'a]at hF' hy';subst hF' hy';obtain⟨z,⟨vE,vcl,vM,vK,vs,y⟩,us',u⟩:=x.fr j F _ hF hy;exact⟨z,⟨_,_,_,_,_,y.ch L a (λi=>kc _ (by simp) (by simp <;> omega)) (λi=>kc _ (by simp <;> omega) (by simp <;> omega))⟩,us,cs⟩
  ·rw[l'h (λh=>e h.symm)]at hF' hy';exact (x.fr j F' y' hF' hy').ch L a (λi=>kc _ (by simp) (by simp <;> omega)) (λk=>kc _ (by simp <;> omega) (by simp <;> omega)) (λk=>kc _ (by simp <;> omega) (by simp <;> omega))
theorem RN.slv (L:O.Law){r:Nat}{R:Rn}{bud:Int}{vF vW vP:Value}{fs:List (Nat×Value)}(x:RN O ro w h r R bud cp N v1 v2 vF vW vP fs){i:Nat}{F:Go.Ta.Fr}{s:Nat}{vo vE vcl vM vK:Value}{vs:List Value}{Z:Solv}(hF:R.frames[i]?=some F)(hy:fs[i]?=some (s,vo))(a:Ch O (Ks (1000+2*i)) w h w' h')(z:ZOk Z)(sv:SV O ro w' h' (1000+2*i) s Z vE vcl vM vK vs):
  RN O ro w' h' r { R with frames:=R.frames.set i { F with s:=Z } } bud cp N v1 v2 vF vW vP fs:=by
 have hi:=(l'b.1 hF).1;have kk:∀t:Tag,t.1<1000->¬Ks (1000+2*i) t:=λt ht=>by unfold Ks;omega
 refine⟨x.m.ch L a (kk _ (by simp)),x.X.ch L a (λi=>kk _ (by simp)),x.sF.ch L a (kk _ (by simp)),by simp[x.lF],?_,x.sW.ch L a (kk _ (by simp)),l'G x.lo a.nx⟩;intro j F' y' hF' hy';simp only at hF'
 by_cases e:j=i
 ·subst e;rw[l'g hi]at hF';rw[hy]at hy';simp only[l'a]at hF' hy';subst hF' hy';obtain⟨z',⟨vE,vcl,vM,vK,vs,y⟩,us',u⟩:=x.fr j F _ hF hy;exact⟨z,⟨_,_,_,_,_,sv⟩,us',u.ch L a (by unfold Ks;simp) (kk _ (by simp))⟩
 ·rw[l'h (λh=>e h.symm)]at hF';exact (x.fr j F' y' hF' hy').ch L a (λi=>kk _ (by simp)) (λk=>by unfold Ks;simp;omega) (λk=>by unfold Ks;simp;omega)
def LrI (O:HI H)(ro:Nat)(w:Own)(h:H)(r:Nat)(R:Rn)(bud:Int)(cp:Nat)(N:Ck)(v1 v2 vF vW vP:Value)(level:Nat)(vl:Value)(cl:List Nat)(fin:List Go.Ta.Fr)(n:Nat)(t:Env)(g:H): Prop:=
 t 0 = .pointer (some ⟨r,0,none⟩)∧t 1=ni level∧t 2=vl∧t 6=ni n∧∃fr fs w1,C'H N cl n fr=some fin∧RN O ro w1 g r { R with frames:=fr } bud cp N v1 v2 vF vW vP fs∧(∀F∈fr,FrK N F)∧n<=level∧fr.length=R.frames.length∧Ch O Kl w h w1 g
def LrQ (O:HI H)(ro:Nat)(w:Own)(h:H)(r:Nat)(R:Rn)(bud:Int)(cp:Nat)(N:Ck)(v1 v2 vF vW vP:Value)(fin:List Go.Ta.Fr)(g:H): Prop:=
 ∃fs w1,RN O ro w1 g r { R with frames:=fin } bud cp N v1 v2 vF vW vP fs∧Ch O Kl w h w1 g
theorem N'v (C:LP' O ro c)(L:O.Law){r:Nat}{R:Rn}{bud:Int}{vF vW vP:Value}{level:Nat}(hlv:level<R.frames.length)(hfm:R.frames.length<=most){cl:List Nat}(hcl:ClK N cl){vl:Value}(sl:Sm O ro w h (9,0) 1 vl (cl.map ni)){fin:List Go.Ta.Fr}{n:Nat}{t:Env}{g:H}(I:LrI O ro w h r R bud cp N v1 v2 vF vW vP level vl cl fin n t g):
  okE c (K'0 O Tryz.prog ro) (t,g) (λe t' g'=>(e = .normal∧∃n',n'<n∧LrI O ro w h r R bud cp N v1 v2 vF vW vP level vl cl fin n' t' g')∨(e≠.normal∧(A'j 0 e = .normal∧t' 0 = .pointer (some ⟨r,0,none⟩)∧t' 1=ni level∧t' 2=vl∧LrQ O ro w h r R bud cp N v1 v2 vF vW vP fin g'))):=by
 have hm:most=1000000:=rfl;obtain⟨d0,d1,d2,d6,fr,fs,w1,hl,x,kF,hnl,hfl,c1⟩:=I
 cases n with
 | zero=>
  simp only[C'H,l'a]at hl;subst hl;refine f'f ?_;simp[K'0,Zn3,d0,d1,d2,d6];exact⟨fs,w1,x,c1⟩
 | succ m=>
  unfold C'H at hl;split at hl
  ·simp at hl
  rename_i F hF
  have kl:∀t:Tag,t.1<1000->t≠(5,1)->¬Kl t:=λt h1 h2=>by unfold Kl;rintro (h|h);exact h2 h;omega
  have hmi:=(l'b.1 hF).1;obtain⟨⟨s,vo⟩,hy⟩:∃y,fs[m+1]?=some y:=⟨_,l'c (by rw[x.lF];exact hmi)⟩;obtain⟨z,⟨vE,vcl,vM,vK,vs,S0⟩,us,o0⟩:=x.fr (m+1) F _ hF hy;obtain⟨b,q,eF,yb,hk0,hk1⟩:=x.getF (m+1) hy;have kFF:=kF F (l'f hF);have sl1:=sl.ch L c1 (kl _ (by simp) (by simp));obtain⟨v,us',g2,w2,e2,cs2,yb2,c2,lo2⟩:=S'9 C L x.lo (p:=1001+2*(m+1)) (by omega) (by simp) yb hk1 o0 kFF.2.2.1 (λl hl=>by have:=(kFF.2.2.2 l hl).1;omega) (by have:=hcl.1;omega) sl1;have x2:=x.own L hF hy c2 (λu hu=>.inl hu) eF yb2 cs2;have c12:Ch O Kl w h w2 g2:=c1.trans (c2.mono (λu hu=>.inl hu));have r3:=x.m.get 3 _ rfl;rw[eF]at r3;simp only at hl;have hfl2:(F.own.filter λx=>x != cl).length<=F.own.length:=List.length_filter_le _ _;have hown:∀l∈F.own.filter (λx=>x != cl),ClK N l:=λl hl=>kFF.2.2.2 l (List.mem_filter.1 hl).1;obtain⟨left,hleft⟩:=e' ((F.own.filter λx=>x != cl));rw[<-hleft]at e2 cs2 x2 hl hfl2 hown;have hm1:m+1<fr.length:=hmi;have hm2:(m:Int)+1<fr.length:=by omega
  have hw:IntKind.i64.wrap (m:Int)=(m:Int):=w'j;have hgt:(0:Int)<(m:Int)+1:=by omega
  have hge:(0:Int)<=(m:Int)+1:=by omega
  unfold ptr at *;split at hl
  ·rename_i hlt
   simp only[l'a]at hl;rw[decide_eq_true hlt]at e2;refine s'f ?_;simp[Zn3,A'c,d0,d1,d2,d6,hgt];refine f'f ?_;simp[Zn4,Zn5,d0,d1,d2,d6,r3,hm1,hm2,hge,e2];exact⟨_,w2,by rw[<-hl];exact x2,c12⟩
  ·rename_i hlt
   rw[decide_eq_false hlt]at e2;split at hl
   ·simp at hl
   rename_i F1 hF1
   unfold G'X at hF1;split at hF1
   ·simp at hF1
   rename_i Z1 hZ1
   simp only[l'a]at hF1;subst hF1;simp only at hZ1 hl;have hfi:(fr.set (m+1) { F with own:=left })[m+1]?=some { F with own:=left }:=l'g hmi;have hyi:(fs.set (m+1) (s,v))[m+1]?=some (s,v):=l'g (by rw[x.lF];exact hmi);obtain⟨b',q',eF',yb',hk0',hk1'⟩:=x2.getF (m+1) hyi;obtain⟨z2,⟨vE2,vcl2,vM2,vK2,vs2,S2⟩,us2,o2⟩:=x2.fr (m+1) _ _ hfi hyi;have sl2:=sl.ch L c12 (kl _ (by simp) (by simp));obtain⟨h3,e3,vE3,vcl3,vM3,vK3,vs3,w3,z3,S3,c3⟩:=Q'8 C L (p:=1000+2*(m+1)) (by omega) x2.X hcl.1 hcl.2 sl2 yb' hk0' S2 z2 hZ1;have x3:=x2.slv L hfi hyi c3 z3 S3;have c13:Ch O Kl w h w3 h3:=c12.trans (c3.mono (λu hu=>.inr (by unfold Ks at hu;omega)));have r3':=x2.m.get 3 _ rfl;rw[eF']at r3';have r0':=x2.m.get 0 _ rfl;unfold ptr at *;have hfr2:(fr.set (m+1) { F with own:=left }).length=fr.length:=by simp
   simp only[hfr2]at r3';refine s'f ?_;simp[Zn3,A'c,d0,d1,d2,d6,hgt];refine f'f ?_;simp[Zn4,Zn5,Zn6,Zn7,d0,d1,d2,d6,r3,r3',r0',hm1,hm2,hge,e2,e3,hw];refine⟨m,by omega,by simp[d0],by simp[d1],by simp[d2],by simp,fr.set (m+1) ⟨Z1,left⟩,fs.set (m+1) (s,v),w3,hl,?_,?_,by omega,by simp[hfl],c13⟩
   ·simpa using x3
   ·obtain⟨zz,ee,-⟩:=E'a hZ1 kFF.1;exact F'e kF ⟨zz,by simp only[ee];exact kFF.2.1,by simp only;have:=kFF.2.2.1;omega,hown⟩
theorem Sm.sep {t:Tag}{r o sz:Nat}{v:Value}{l lr:List Value}(x:Bx O ro w h (5,0) r lr)(s:Sm O ro w h t sz v l)(ht:t≠(5,0)): J'N (.pointer (some ⟨r,o,none⟩)) v=true:=by
 rcases s with e|⟨b,m,cp,e,ec,el,y⟩
 ·rw[e.1];rfl
 ·rw[e];have:¬r=b:=by rintro rfl;exact ht (by rw[<-y.tag,x.tag])
  have hb:Nat.beq r b=false:=by
   cases hq:Nat.beq r b with
   | false=>rfl
   | true=>exact absurd (Nat.eq_of_beq_eq_true hq) this
  simp[J'N,hb]
theorem I'B (C:LP' O ro c)(L:O.Law){r:Nat}{R R1:Rn}{bud:Int}{vF vW vP:Value}{fs:List (Nat×Value)}(x:RN O ro w h r R bud cp N v1 v2 vF vW vP fs)(k:RnK N R){level:Nat}(hlv:level<R.frames.length){cl:List Nat}(hcl:ClK N cl){vl:Value}(sl:Sm O ro w h (9,0) 1 vl (cl.map ni))(hs:D'q N R level cl=some R1):
  ∃fs' h' w',c 165 [ptr r,ni level,vl] h=some (.tuple #[],h')∧RN O ro w' h' r R1 bud cp N v1 v2 vF vW vP fs'∧Ch O Kl w h w' h':=by
 have hm:most=1000000:=rfl;have kl:∀t:Tag,t.1<1000->t≠(5,1)->¬Kl t:=λt h1 h2=>by unfold Kl;rintro (h|h);exact h2 h;omega
 unfold D'q at hs;split at hs
 ·simp at hs
 rename_i fin hfin
 obtain⟨kf,lf⟩:=G'3 _ _ _ hfin k.fr;split at hs
 ·simp at hs
 rename_i F hF
 split at hs
 ·rename_i hlt
  simp only[l'a]at hs;have key:∃u h',c 165 [ptr r,ni level,vl] h=some (u,h')∧(u = .tuple #[]∧∃fs' w',RN O ro w' h' r R1 bud cp N v1 v2 vF vW vP fs'∧Ch O Kl w h w' h'):=by
   refine C.fn (Q'X O ro) rfl rfl ?_;unfold V'G;refine okE.seq (s'f ?_);simp[Zn2,A'c];refine okE.blk ?_;refine okE.mono (okE.loop (Q:=λe t' g'=>A'j 0 e = .normal∧t' 0 = .pointer (some ⟨r,0,none⟩)∧t' 1=ni level∧t' 2=vl∧LrQ O ro w h r R bud cp N v1 v2 vF vW vP fin g') (LrI O ro w h r R bud cp N v1 v2 vF vW vP level vl cl fin) (λn t g I=>N'v C L hlv k.fl hcl sl I) level _ _ ⟨by simp,by simp,by simp,by simp,R.frames,fs,w,hfin,x,k.fr,l'H _,rfl,Ch.refl _ _ _⟩) ?_;rintro e t g ⟨hr,d0,d1,d2,fs1,w1,x1,c1⟩;rw[hr];simp only[A'c];have hi:=(l'b.1 hF).1;obtain⟨⟨s,vo⟩,hy⟩:∃y,fs1[level]?=some y:=⟨_,l'c (by rw[x1.lF];exact hi)⟩;obtain⟨z,S0,us,o0⟩:=x1.fr level F _ hF hy;obtain⟨b,q,eF,yb,hk0,hk1⟩:=x1.getF level hy;have sl1:=sl.ch L c1 (kl _ (by simp) (by simp));obtain⟨v',g2,w2,e2,cs2,c2,lo2⟩:=o0.app L (by simp <;> omega) x1.lo sl1 (by omega);have yb2:=yb.ch L c2 (by simp <;> omega);have hlen:=A'A frC 2 C'w fs1;have hfl:=(l'b.1 hk1).1;have yb3:=yb2.put L (level*2+1) hfl v';have c3:=Ch.put L (K:=λu=>u=((5,1):Tag)) yb2 (level*2+1) hfl v' rfl;have p3:=A'C (O:=O) (v:=v') (yb2.get _ _ hk1);have cs3:=cs2.ch L c3 (by simp <;> omega) (by simp);have c23:Ch O (λu=>u=(5,1)∨u=(1001+2*level,3)) w1 g w2 (O.put g2 b (level*2+1) v'):=(c2.mono (λu hu=>.inr hu)).trans (c3.mono (λu hu=>.inl hu));have x3:=x1.own L hF hy c23 (λu hu=>hu) eF yb3 cs3;have sp:=Sm.sep (o:=3) x1.m o0.s (by simp <;> omega);have r3:=x1.m.get 3 _ rfl;rw[eF]at r3;have kb:=yb.get _ _ hk1;obtain⟨f1,f2,f3⟩:=cs2.s.flat;obtain⟨f4,f5,f6⟩:=o0.s.flat;obtain⟨f7,f8,f9⟩:=sl1.flat;have rb:¬b<ro:=by have:=yb.lo;omega
   have hi':(level:Int)<fin.length:=by omega
   generalize hg3:O.put g2 b (level*2+1) v'=g3 at *;refine f'f ?_;simp[Zn8,d0,d1,d2,r3,hi,hi',kb,f1,f2,f3,f4,f5,f6,f7,f8,f9,e2,p3,rb,sp,A'1,A'i,rvE];exact⟨_,w2,by rw[<-hs];exact x3,c1.trans (c23.mono (λu hu=>by rcases hu with h|h;exact .inl h;exact .inr (by rw[h];simp;omega)))⟩
  obtain⟨u,h',e1,rfl,fs',w',x',c'⟩:=key;exact⟨fs',h',w',e1,x',c'⟩
 ·simp at hs
end
end Go.Proofs.YtimdkminagnhgaaGreatDoor
namespace Go.Proofs.YtimdkminagnhgaaGreatDoor
open Go.Vm Go.Proofs Go.Ta
set_option maxHeartbeats 4000000
section
variable {H:Type}{O:HI H}{ro:Nat}{c:A'Z H}
attribute [local simp] A'a A'b reg to too A'd A'q A'h mv' nl' fl' ld' ln' mk' ia' ik' ix' B'F B'G aLd B'h A'w A'4 aUn unA ev A'l isB A'0 A'E A'F A'G A'H A'I A'J A'K A'L A'M cIf A'B A'f A'g aSt A'N A't A'O A'P A'Q A'9 A'R A'u A'S A'T B'a A'U A'v A'V A'W A'X B'b A'p Instr.fill A'e A'n A'x A'j ptr undef B'o B'y A'k B's A's A'D B'C A'y B'p rangeA B'O A'r A'2 A'z B'd A'm A'o chk
variable {w w':Own}{h h':H}{q:Nat}{S:Srch}{bW bH bV:Nat}{vA vC vT vS vK:Value}{lv wv:List Value}
variable {cp:Nat}{N:Ck}{v1 v2:Value}
def Kb (u:Tag): Prop:=u.1=5∨1000<=u.1
theorem Kb.no {t:Tag}(h1:t.1<1000)(h2:t.1≠5): ¬Kb t:=by unfold Kb;omega
theorem RN.wayL (L:O.Law){r:Nat}{R:Rn}{bud:Int}{vF vW vP:Value}{fs:List (Nat×Value)}(x:RN O ro w h r R bud cp N v1 v2 vF vW vP fs)(h0:0<R.way.length){st inp:Nat}(hl:R.way.getLast?=some (st,inp)):
  ∃b,vW = .slice (some ⟨b,0,some 2⟩) R.way.length 0∧O.cell h b ((R.way.length-1)*2)=some (ni st)∧Sz O ro w h (5,2) 2 (.slice (some ⟨b,0,some 2⟩) (R.way.length-1) 0) (R.way.dropLast.flatMap prC):=by
 have hlen:=A'A prC 2 C'v R.way;have hd:R.way=R.way.dropLast++[(st,inp)]:=by
  obtain⟨ys,hys⟩:=List.getLast?_eq_some_iff.1 hl;rw[hys];simp
 have hlen2:=A'A prC 2 C'v R.way.dropLast;simp only[List.length_dropLast]at hlen2;rcases x.sW.take (by omega) R.way.length (R.way.length-1) hlen (by omega) with ⟨h1,h2,h3,h4⟩|⟨b,e,s⟩
 ·omega
 ·refine⟨b,e,?_,?_⟩
  ·obtain⟨b',e',y⟩:=x.sW.blk (by omega) R.way.length hlen (by omega);rw[e]at e';simp only[Value.slice.injEq,l'a,Addr.mk.injEq,and_true,true_and]at e';subst e';rw[y.cell _ (by omega),hd,List.flatMap_append];have:(R.way.dropLast++[(st,inp)]).length-1=R.way.length-1:=by simp
   rw[this,l'z (by omega)];simp[hlen2,prC]
  ·have ht:(R.way.flatMap prC).take ((R.way.length-1)*2)=R.way.dropLast.flatMap prC:=by
    rw[<-hlen2]
    conv=>lhs;rw[hd,List.flatMap_append]
    simp only[List.dropLast_concat];rw[List.take_left]
   rw[ht]at s;exact s
def H'q (O:HI H)(ro:Nat)(w:Own)(h:H)(r:Nat)(bud:Int)(cp:Nat)(N:Ck)(v1 v2 vF vP:Value)(Rf:Rn)(FL:Nat)(g:H): Prop:=
 ∃fs vW w1,RN O ro w1 g r Rf bud cp N v1 v2 vF vW vP fs∧RnK N Rf∧Rf.frames.length=FL∧Ch O Kb w h w1 g
def U'p (O:HI H)(ro:Nat)(w:Own)(h:H)(r:Nat)(bud:Int)(cp:Nat)(N:Ck)(v1 v2 vF vP:Value)(Rf:Rn)(FL f nn v:Nat)(n:Nat)(t:Env)(g:H): Prop:=
 t 0 = .pointer (some ⟨r,0,none⟩)∧∃R,E'C f nn N bud n R=some (Rf,v)∧H'q O ro w h r bud cp N v1 v2 vF vP R FL g
theorem R'b (C:LP' O ro c)(L:O.Law){r:Nat}{bud:Int}{vF vP:Value}(hb:bud<=2305843009213693952)(hni:N.ni<=60)(hla:N.las.length<=60){Rf:Rn}{FL f nn v n:Nat}{t:Env}{g:H}(I:U'p O ro w h r bud cp N v1 v2 vF vP Rf FL f nn v n t g):
  okE c (K'U O Tryz.prog ro) (t,g) (λe t' g'=>(e = .normal∧∃n',n'<n∧U'p O ro w h r bud cp N v1 v2 vF vP Rf FL f nn v n' t' g')∨(e≠.normal∧((A'j 0 e = .normal∧v=0∨A'j 0 e = .ret∧t' 2=ni v)∧H'q O ro w h r bud cp N v1 v2 vF vP Rf FL g'))):=by
 have hm:most=1000000:=rfl;obtain⟨d0,R,hs,fs,vW,w1,x,k,hFL,c1⟩:=I
 cases n with
 | zero=>simp[E'C]at hs
 | succ m=>
 unfold E'C at hs;have hn:=x.X.nv;unfold Ck.nv at hn;have m1:=x.m.get 1 _ rfl;have m2:=x.m.get 2 _ rfl;have m3:=x.m.get 3 _ rfl;have m4:=x.m.get 4 _ rfl;have m0:=x.m.get 0 _ rfl;split at hs
 ·rename_i hw
  simp only[l'a,l'd]at hs;obtain⟨rfl,rfl⟩:=hs;have hw0:R.way=[]:=by simpa using hw
  obtain⟨aW,cW,hvW⟩:=x.sW.m.len (by omega) 0 (by rw[hw0];rfl);rw[hvW]at m4;refine f'f ?_;simp[K'U,Zmx,d0,m4];exact⟨fs,_,w1,x,k,hFL,c1⟩
 ·rename_i st inp hw
  have h0:0<R.way.length:=by
   rcases Nat.eq_zero_or_pos R.way.length with h|h
   ·rw[List.eq_nil_of_length_eq_zero h]at hw;simp at hw
   ·exact h
  obtain⟨bw,hvW,hst,sw⟩:=x.wayL L h0 hw;have hmem:(st,inp)∈R.way:=List.mem_of_getLast? hw;have hstb:=(k.wy _ hmem).1;simp only at hstb;have wl:=k.wl;have fl:=k.fl;obtain⟨n1,hn1⟩:∃n1,R.way.length=n1+1:=⟨R.way.length-1,by omega⟩;rw[hvW,hn1]at m4;have hn2:R.way.length-1=n1:=by omega
  rw[hn2]at hst sw;have hwn:IntKind.i64.wrap (n1:Int)=(n1:Int):=w'j;have hgt:(0:Int)<(n1:Int)+1:=by omega
  refine s'f ?_;simp[Zmx,A'c,d0,m4,hgt];refine okE.blk ?_;simp only at hs;split at hs
  ·rename_i hlt
   simp only[l'a,l'd]at hs;obtain⟨rfl,rfl⟩:=hs;refine f'f ?_;simp[Zmy,Zmz,d0,m1,m2,hlt];exact⟨fs,_,w1,x,k,hFL,c1⟩
  rename_i hlt
  obtain⟨aF,cF,hvF⟩:=x.sF.len (by omega) R.frames.length (by rw[A'A frC 2 C'w,x.lF]);rw[hvF]at m3;have hw3:IntKind.i64.wrap ((R.frames.length:Int)-((n1:Int)+1))=(R.frames.length:Int)-((n1:Int)+1):=w'j;obtain⟨lev,hlev⟩:∃lev:Int,lev=(R.frames.length:Int)-((n1:Int)+1):=⟨_,rfl⟩;have hw3':IntKind.i64.wrap ((R.frames.length:Int)-((n1:Int)+1))=lev:=by rw[hw3,hlev]
  have hn1':(n1:Int)<(n1:Int)+1:=by omega
  refine s'f ?_;simp[Zmy,A'c,d0,m1,m2,hlt];refine s'f ?_;simp[ZmA,A'c,d0,m3,m4,hw3'];refine s'f ?_;simp[ZmB,A'c,d0,m4,hwn,hn1',hst];have eb:=N't C L x.X (show st<9223372036854775808 by omega) hla;unfold ptr at eb m0;split at hs
  ·rename_i hor
   simp only[l'a,l'd]at hs;obtain⟨rfl,rfl⟩:=hs
   by_cases hl0:lev<=0
   ·refine f'f ?_;simp[ZmC,ZmD,d0,hl0];exact⟨fs,_,w1,by rw[hvW,hn1]at x;exact x,k,hFL,c1⟩
   ·have hbt:B'j N st=true:=by
     rcases hor with h|h
     ·omega
     ·exact h
    rw[hbt]at eb;refine f'f ?_;simp[ZmC,ZmD,d0,hl0,m0,eb];exact⟨fs,_,w1,by rw[hvW,hn1]at x;exact x,k,hFL,c1⟩
  ·rename_i hor
   have hbf:B'j N st=false:=by
    cases h:B'j N st with
    | false=>rfl
    | true=>exact absurd (.inr h) hor
   have hlp:¬R.frames.length<=R.way.length:=λh=>hor (.inl h);rw[hbf]at eb;obtain⟨lv1,hlv1⟩:∃lv1,R.frames.length-R.way.length=lv1+1:=⟨R.frames.length-R.way.length-1,by omega⟩;have hlv:lev=(lv1:Int)+1:=by omega
   have hl0:¬lev<=0:=by omega
   rw[hlv]at hl0;rw[hlv1]at hs;simp only[Nat.add_sub_cancel]at hs;have hcl:=L'b N st hla;obtain⟨vc,g2,w2,e2,s2,c2,lo2⟩:=K'8 C L x.lo x.X (show st<9223372036854775808 by omega) hla (9,0);have cc2:Ch O (λ_=>False) w1 g w2 g2:=c2;have X2:=x.X.ch L c2;obtain⟨va,g3,w3,e3,s3,c3,lo3⟩:=G'f C L lo2 X2 hcl.1 hcl.2 (by omega) s2 (9,0);have c23:=c2.trans c3;have x3:RN O ro w3 g3 r R bud cp N v1 v2 vF vW vP fs:=⟨x.m.ch L c23,x.X.ch L c23,x.sF.ch L c23,x.lF,λi F y h1 h2=>(x.fr i F y h1 h2).ch L c23,x.sW.ch L c23,lo3⟩;have sc3:=s2.ch L c3;have n0:=(x.m.ch L c2).get 0 _ rfl;unfold ptr at n0 e2 e3;rw[hlv];have hw1:IntKind.i64.wrap (lv1:Int)=(lv1:Int):=w'j;have tv1:=s2.flat.2.2;have tv2:=s3.flat.2.2;refine s'f ?_;simp[ZmC,A'c,d0,hl0,m0,eb];refine s'f ?_;simp[ZmE,A'c,d0,m0,e2,tv1];refine s'f ?_;simp[ZmF,A'c,d0,n0,e3,tv2];split at hs
   ·simp at hs
   ·rename_i R1 hask
    simp only[l'a,l'd]at hs;obtain⟨rfl,rfl⟩:=hs;obtain⟨g4,w4,e4,x4,c4,h4⟩:=G'2 C L x3 hb k.sp (by unfold K11;simp) s3 hask;obtain⟨k4,kw,kk,kfl,-,-⟩:=E'w hask k;unfold ptr at e4;refine s'f ?_;simp[ZmG,A'c,d0,hw1,e4];refine s'f ?_;simp[ZmH,A'c];refine okE.blk ?_;refine f'f ?_;simp[ZmI,ZmJ];exact⟨fs,_,w4,x4,k4,by omega,c1.trans ((c23.mono (by simp)).trans (c4.mono (λu hu=>by rcases hu with h|h;left;rw[h];right;unfold Ks at h;omega)))⟩
   ·rename_i R1 hask
    obtain⟨g4,w4,e4,x4,c4,h4⟩:=G'2 C L x3 hb k.sp (by unfold K11;simp) s3 hask;obtain⟨k4,kw,kk,kfl,kmod,ksp⟩:=E'w hask k;split at hs
    ·simp at hs
    rename_i R2 hlen
    have ksp:=ksp (by omega);obtain⟨F,hF⟩:∃F,R1.frames[lv1]?=some F:=by
     unfold B'L at hlen;split at hlen
     ·simp at hlen
     ·rename_i F hF;exact⟨F,hF⟩
    have hmod:=kmod rfl F hF;have hnv:=x.X.nv;have hnv2:N.nv=1+N.ni+N.las.length+N.gts.length:=rfl;obtain⟨vW5,g5,w5,e5,x5,c5⟩:=F'Q C L x4 h4 (by omega) hni hla hF (by omega) (by omega) hlen;obtain⟨k5,kf5,-⟩:=F'f hlen hla hni k4;unfold ptr at e4 e5;have cc:Ch O Kb w h w5 g5:=c1.trans ((c23.mono (by simp)).trans ((c4.mono (λu hu=>by rcases hu with h|h;left;rw[h];right;unfold Ks at h;omega)).trans (c5.mono (λu hu=>by rcases hu with h|h <;> (left;rw[h])))));refine s'f ?_;simp[ZmG,A'c,d0,hw1,e4];refine s'f ?_;simp[ZmH,A'c];refine okE.blk ?_;refine f'f ?_;simp[ZmI,ZmK,ZmL,d0,hw1,e5];exact⟨m,by omega,by simp[d0],R2,hs,fs,_,w5,x5,k5,by rw[kf5];omega,cc⟩
   ·rename_i R1 hask
    obtain⟨g4,w4,e4,x4,c4,h4⟩:=G'2 C L x3 hb k.sp (by unfold K11;simp) s3 hask;obtain⟨k4,kw,kk,kfl,kmod,ksp⟩:=E'w hask k;split at hs
    ·simp at hs
    rename_i F hF
    split at hs
    ·rename_i hcore
     split at hs
     ·simp at hs
     rename_i R2 hlrn
     have hi:=(l'b.1 hF).1;have hi':(lv1:Int)<R1.frames.length:=by omega
     obtain⟨⟨s,vo⟩,hy⟩:∃y,fs[lv1]?=some y:=⟨_,l'c (by rw[x4.lF];exact hi)⟩;obtain⟨z,⟨vE,vcl,vM,vK,vs,S0⟩,us,o0⟩:=x4.fr lv1 F _ hF hy;obtain⟨b,q,eF,yb,hk0,hk1⟩:=x4.getF lv1 hy;obtain⟨vk,g5,w5,e5,s5,c5,lo5⟩:=S'U C L S0 hcore (8,0);have kc4:∀t:Tag,t.1<1000->t.1≠5->¬(t=(5,0)∨Ks (1000+2*lv1) t):=λt h1 h2=>by rintro (h|h);exact h2 (by rw[h]);unfold Ks at h;omega
     have sc4:=sc3.ch L c4 (kc4 _ (by simp) (by simp));have sc5:=sc4.ch L c5;have X5:=x4.X.ch L c5;obtain⟨vs6,g6,w6,e6,s6,c6,lo6⟩:=Q'9 C L lo5 X5 hcl.1 hcl.2 (by omega) (by simp) sc5 hcore s5 (9,0);have c56:=c5.trans c6;have x6:RN O ro w6 g6 r R1 bud cp N v1 v2 vF vW vP fs:=⟨x4.m.ch L c56,x4.X.ch L c56,x4.sF.ch L c56,x4.lF,λi F y h1 h2=>(x4.fr i F y h1 h2).ch L c56,x4.sW.ch L c56,lo6⟩;have hsk:=R'a (core:=F.s.core) hcl;obtain⟨fs7,g7,w7,e7,x7,c7⟩:=I'B C L x6 k4 (level:=lv1+1) (by omega) hsk s6 hlrn;obtain⟨k7,kf7,kw7,-,-⟩:=G'4 hsk hlrn k4;have hway:R2.way=R.way:=by rw[kw7,kw]
     obtain⟨bw7,hvW7,hst7,sw7⟩:=x7.wayL L (by rw[hway];exact h0) (by rw[hway];exact hw);have hvb:bw7=bw:=by
      rw[hvW]at hvW7;simp only[Value.slice.injEq,l'a,Addr.mk.injEq,and_true,true_and]at hvW7;exact hvW7.1.symm
     subst hvb;rw[hway,hn2]at sw7;have c8:=Ch.put L (K:=λu=>u=((5,0):Tag)) x7.m 4 (by simp) (.slice (some ⟨bw7,0,some 2⟩) n1 0) rfl;have m8:=x7.m.put L 4 (by simp) (.slice (some ⟨bw7,0,some 2⟩) n1 0);have p8:=A'C (O:=O) (v:=.slice (some ⟨bw7,0,some 2⟩) n1 0) (x7.m.get 4 _ rfl);have kk8:∀t:Tag,t≠(5,0)->¬t=(5,0):=λt h=>h;have x8:RN O ro w7 (O.put g7 r 4 (.slice (some ⟨bw7,0,some 2⟩) n1 0)) r { R2 with way:=R2.way.dropLast } bud cp N v1 v2 vF (.slice (some ⟨bw7,0,some 2⟩) n1 0) vP fs7:=⟨m8,x7.X.ch L c8,x7.sF.ch L c8,x7.lF,λi F y h1 h2=>(x7.fr i F y h1 h2).ch L c8 (by simp) (λj=>by simp <;> omega) (λj=>by simp <;> omega),by rw[hway];exact sw7.ch L c8,l'G x7.lo c8.nx⟩;have cc:Ch O Kb w h w7 (O.put g7 r 4 (.slice (some ⟨bw7,0,some 2⟩) n1 0)):=c1.trans ((c23.mono (by simp)).trans ((c4.mono (λu hu=>by rcases hu with h|h;left;rw[h];right;unfold Ks at h;omega)).trans ((c56.mono (by simp)).trans ((c7.mono (λu hu=>by rcases hu with h|h;left;rw[h];exact .inr h)).trans (c8.mono (λu hu=>by left;rw[hu]))))));have q3:=x4.m.get 3 _ rfl;rw[eF]at q3;have kb:=yb.get _ _ hk0;have q0:=(x4.m.ch L c5).get 0 _ rfl;have q4:=x7.m.get 4 _ rfl;rw[hvW7,hway,hn1]at q4;have rr:¬r<ro:=by have:=x.m.lo;omega
     have hk8:=T'a k7;generalize hg8:O.put g7 r 4 (.slice (some ⟨bw7,0,some 2⟩) n1 0)=g8 at *;have tv5:=s5.flat.2.2;have tv6:=s6.flat.2.2;unfold ptr at e4 e5 e6 e7 kb q0;rw[show ni (lv1+1)=Value.int .i64 ((lv1:Int)+1) from rfl]at e7;have hn1le:(n1:Int)<=(n1:Int)+1:=by omega
     have hn1le2:n1<=n1+1:=by omega
     refine s'f ?_;simp[ZmG,A'c,d0,hw1,e4];refine s'f ?_;simp[ZmH,A'c];refine okE.blk ?_;refine s'f ?_;simp[ZmI,A'c];refine okE.cond false (by simp) ?_;simp only[l'y,if_false];refine s'f ?_;simp[ZmK,A'c];refine okE.cond false (by simp) ?_;simp only[l'y,if_false];refine s'f ?_;simp[ZmM,A'c];refine okE.cond true (by simp) ?_;simp only[if_true];refine s'f ?_;simp[ZmN,A'c,d0,q3,hw1,hi,hi',kb,e5,tv5];refine s'f ?_;simp[ZmO,A'c,d0,q0,e6,tv6];refine s'f ?_;simp[ZmP,A'c,d0,e7];refine f'f ?_;simp[ZmQ,d0,q4,hwn,hn1le,hn1le2,rr,p8];exact⟨m,by omega,by simp[d0],_,hs,fs7,_,w7,x8,hk8,by simp only;omega,cc⟩
    ·simp at hs
   ·simp at hs
theorem O'z (C:LP' O ro c)(L:O.Law){r:Nat}{R Rf:Rn}{bud:Int}{vF vW vP:Value}{fs:List (Nat×Value)}(x:RN O ro w h r R bud cp N v1 v2 vF vW vP fs)(k:RnK N R)(hb:bud<=2305843009213693952)(hni:N.ni<=60)(hla:N.las.length<=60){f nn m v:Nat}(hs:E'C f nn N bud m R=some (Rf,v)):
  ∃h',c 110 [ptr r] h=some (ni v,h')∧H'q O ro w h r bud cp N v1 v2 vF vP Rf R.frames.length h':=by
 have key:∃u h',c 110 [ptr r] h=some (u,h')∧(u=ni v∧H'q O ro w h r bud cp N v1 v2 vF vP Rf R.frames.length h'):=by
  refine C.fn (Q'O O ro) rfl rfl ?_;unfold V'x;refine s'f ?_;simp[Zmw,A'c];refine okE.seq (okE.blk ?_);refine okE.mono (okE.loop (Q:=λe t' g'=>(A'j 0 e = .normal∧v=0∨A'j 0 e = .ret∧t' 2=ni v)∧H'q O ro w h r bud cp N v1 v2 vF vP Rf R.frames.length g') (U'p O ro w h r bud cp N v1 v2 vF vP Rf R.frames.length f nn v) (λn t g I=>R'b C L hb hni hla I) m _ _ ⟨by simp,R,hs,fs,vW,w,x,k,rfl,Ch.refl _ _ _⟩) ?_;rintro e t g ⟨h1,h2⟩;rcases h1 with ⟨hr,rfl⟩|⟨hr,h3⟩
  ·rw[hr];simp only[A'c];refine f'f ?_;simp[ZmR,A'1,A'i,rvE];exact h2
  ·rw[hr];simp[A'c,A'1,A'i,rvE,h3];exact h2
 obtain⟨u,h',e1,rfl,e2⟩:=key;exact⟨h',e1,e2⟩
end
end Go.Proofs.YtimdkminagnhgaaGreatDoor
namespace Go.Proofs.YtimdkminagnhgaaGreatDoor
open Go.Vm Go.Proofs Go.Ta
set_option maxHeartbeats 4000000
section
variable {H:Type}{O:HI H}{ro:Nat}{c:A'Z H}
attribute [local simp] A'a A'b reg to too A'd A'q A'h mv' nl' fl' ld' ln' mk' ia' ik' ix' B'F B'G aLd B'h A'w A'4 aUn unA ev A'l isB A'0 A'E A'F A'G A'H A'I A'J A'K A'L A'M cIf A'B A'f A'g aSt A'N A't A'O A'P A'Q A'9 A'R A'u A'S A'T B'a A'U A'v A'V A'W A'X B'b A'p Instr.fill A'e A'n A'x A'j ptr undef B'o B'y A'k B's A's A'D B'C A'y B'p rangeA B'O A'r A'2 A'z B'd A'm A'o chk
variable {w w':Own}{h h':H}{q:Nat}{S:Srch}{bW bH bV:Nat}{vA vC vT vS vK:Value}{lv wv:List Value}
variable {cp:Nat}{N:Ck}{v1 v2:Value}
theorem Kb.ask {lv:Nat}(u:Tag)(hu:u=(5,0)∨Ks (1000+2*lv) u): Kb u:=by
 rcases hu with h|h
 ·left;rw[h]
 ·right;unfold Ks at h;omega
theorem RN.keep (L:O.Law){r:Nat}{R:Rn}{bud:Int}{vF vW vP:Value}{fs:List (Nat×Value)}(x:RN O ro w h r R bud cp N v1 v2 vF vW vP fs)(a:Ch O (λ_=>False) w h w' h'): RN O ro w' h' r R bud cp N v1 v2 vF vW vP fs:=
 ⟨x.m.ch L a,x.X.ch L a,x.sF.ch L a,x.lF,λi F y h1 h2=>(x.fr i F y h1 h2).ch L a,x.sW.ch L a,l'G x.lo a.nx⟩
def RcI (O:HI H)(ro:Nat)(w:Own)(h:H)(r:Nat)(bud:Int)(cp:Nat)(N:Ck)(v1 v2 vF vP:Value)(Rf:Rn)(FL f nn v:Nat)(n:Nat)(t:Env)(g:H): Prop:=
 t 0 = .pointer (some ⟨r,0,none⟩)∧t 3=ni (FL-1)∧∃R,C'u f nn N bud n R=some (Rf,v)∧H'q O ro w h r bud cp N v1 v2 vF vP R FL g
theorem L'c (C:LP' O ro c)(L:O.Law){r:Nat}{bud:Int}{vF vP:Value}(hb:bud<=2305843009213693952)(hni:N.ni<=60)(hla:N.las.length<=60){Rf:Rn}{FL f nn v n:Nat}(hFp:0<FL){t:Env}{g:H}(I:RcI O ro w h r bud cp N v1 v2 vF vP Rf FL f nn v n t g):
  okE c (S'1 O Tryz.prog ro) (t,g) (λe t' g'=>(e = .normal∧∃n',n'<n∧RcI O ro w h r bud cp N v1 v2 vF vP Rf FL f nn v n' t' g')∨(e≠.normal∧((A'j 0 e = .ret∧t' 2=ni v)∧H'q O ro w h r bud cp N v1 v2 vF vP Rf FL g'))):=by
 have hm:most=1000000:=rfl;obtain⟨d0,d3,R,hs,fs,vW,w1,x,k,hFL,c1⟩:=I
 cases n with
 | zero=>simp[C'u]at hs
 | succ m=>
 unfold C'u at hs;have m0:=x.m.get 0 _ rfl;have x3:=x.X.m.get 3 _ rfl;have y0:=Bx.new L (ro:=ro) w1 g x.lo (8,0) [ni N.bad];have c0:=Ch.new L (λ_=>False) w1 g (8,0) [ni N.bad];have x0:=x.keep L c0;have sl:Sm O ro (w1.set (O.next g) (8,0)) (O.new g [ni N.bad]) (8,0) 1 (.slice (some ⟨O.next g,0,some 1⟩) 1 2) ([N.bad].map ni):=.inr ⟨_,1,2,rfl,.inr rfl,rfl,y0⟩;unfold ptr at m0;rw[hFL]at hs;have hr1:List.range 1=[0]:=rfl;refine okE.blk ?_;split at hs
 ·simp at hs
 ·rename_i R1 hask
  simp only[l'a,l'd]at hs;obtain⟨rfl,rfl⟩:=hs;obtain⟨g4,w4,e4,x4,c4,h4⟩:=G'2 C L x0 hb k.sp (by unfold K11;simp) sl hask;obtain⟨k4,kw,kk,kfl,-,-⟩:=E'w hask k;unfold ptr at e4;refine s'f ?_;simp[Zlw,A'c,d0,d3,m0,x3,hr1,e4];refine f'f ?_;simp[Zlx,Zly,Zlz];exact⟨fs,_,w4,x4,k4,by omega,c1.trans ((c0.mono (by simp)).trans (c4.mono Kb.ask))⟩
 ·rename_i R1 hask
  simp only[l'a,l'd]at hs;obtain⟨rfl,rfl⟩:=hs;obtain⟨g4,w4,e4,x4,c4,h4⟩:=G'2 C L x0 hb k.sp (by unfold K11;simp) sl hask;obtain⟨k4,kw,kk,kfl,-,-⟩:=E'w hask k;unfold ptr at e4;refine s'f ?_;simp[Zlw,A'c,d0,d3,m0,x3,hr1,e4];refine f'f ?_;simp[Zlx,Zly,ZlA,ZlB];exact⟨fs,_,w4,x4,k4,by omega,c1.trans ((c0.mono (by simp)).trans (c4.mono Kb.ask))⟩
 ·rename_i R1 hask
  obtain⟨g4,w4,e4,x4,c4,h4⟩:=G'2 C L x0 hb k.sp (by unfold K11;simp) sl hask;obtain⟨k4,kw,kk,kfl,kmod,ksp⟩:=E'w hask k;rw[kfl,hFL]at hs;have ksp:=ksp (by omega);split at hs
  ·simp at hs
  rename_i R2 hlen
  obtain⟨F,hF⟩:∃F,R1.frames[FL-1]?=some F:=by
   unfold B'L at hlen;split at hlen
   ·simp at hlen
   ·rename_i F hF;exact⟨F,hF⟩
  have hmod:=kmod rfl F hF;have hnv:=x.X.nv;have hnv2:N.nv=1+N.ni+N.las.length+N.gts.length:=rfl;obtain⟨vW5,g5,w5,e5,x5,c5⟩:=F'Q C L x4 h4 (by omega) hni hla hF (by omega) (by omega) hlen;obtain⟨k5,kf5,-⟩:=F'f hlen hla hni k4;have cc:Ch O Kb w h w5 g5:=c1.trans ((c0.mono (by simp)).trans ((c4.mono Kb.ask).trans (c5.mono (λu hu=>by rcases hu with h|h <;> (left;rw[h])))));have hf5:R2.frames.length=FL:=by rw[kf5];omega
  unfold ptr at e4 e5;split at hs
  ·simp at hs
  ·rename_i R3 hbar
   obtain⟨g6,e6,fs6,vW6,w6,x6,k6,hf6,c6⟩:=O'z C L x5 k5 hb hni hla hbar;unfold ptr at e6;refine s'f ?_;simp[Zlw,A'c,d0,d3,m0,x3,hr1,e4];refine s'f ?_;simp[Zlx,Zly,ZlA,A'c];refine s'f ?_;simp[ZlC,A'c,d0,d3,e5];refine s'f ?_;simp[ZlD,A'c,d0,e6];refine f'f ?_;simp[ZlE];exact⟨m,by omega,by simp[d0],by simp[d3],R3,hs,fs6,_,w6,x6,k6,by omega,cc.trans c6⟩
  ·rename_i R3 v3 hv3 hbar
   simp only[l'a,l'd]at hs;obtain⟨rfl,rfl⟩:=hs;have hne:v3≠0:=λh=>by subst h;simp at hv3
   have hne':((v3:Int) != 0)=true:=bne_iff_ne.2 (by omega);obtain⟨g6,e6,fs6,vW6,w6,x6,k6,hf6,c6⟩:=O'z C L x5 k5 hb hni hla hbar;unfold ptr at e6;refine s'f ?_;simp[Zlw,A'c,d0,d3,m0,x3,hr1,e4];refine s'f ?_;simp[Zlx,Zly,ZlA,A'c];refine s'f ?_;simp[ZlC,A'c,d0,d3,e5];refine s'f ?_;simp[ZlD,A'c,d0,e6];refine f'f ?_;simp[ZlE,ZlF,hne,hne'];exact⟨fs6,_,w6,x6,k6,by omega,cc.trans c6⟩
 ·simp at hs
theorem I'C (C:LP' O ro c)(L:O.Law){r:Nat}{R Rf:Rn}{bud:Int}{vF vW vP:Value}{fs:List (Nat×Value)}(x:RN O ro w h r R bud cp N v1 v2 vF vW vP fs)(k:RnK N R)(hFp:0<R.frames.length)(hb:bud<=2305843009213693952)(hni:N.ni<=60)(hla:N.las.length<=60){f nn m v:Nat}(hs:C'u f nn N bud m R=some (Rf,v)):
  ∃h',c 56 [ptr r] h=some (ni v,h')∧H'q O ro w h r bud cp N v1 v2 vF vP Rf R.frames.length h':=by
 have hm:most=1000000:=rfl;have key:∃u h',c 56 [ptr r] h=some (u,h')∧(u=ni v∧H'q O ro w h r bud cp N v1 v2 vF vP Rf R.frames.length h'):=by
  refine C.fn (S'2 O ro) rfl rfl ?_;unfold F56;have m3:=x.m.get 3 _ rfl;obtain⟨aF,cF,hvF⟩:=x.sF.len (by omega) R.frames.length (by rw[A'A frC 2 C'w,x.lF]);rw[hvF]at m3;have fl:=k.fl;obtain⟨n1,hn1⟩:∃n1,R.frames.length=n1+1:=⟨R.frames.length-1,by omega⟩;have hw:IntKind.i64.wrap ((R.frames.length:Int)-1)=(n1:Int):=w'i;refine s'f ?_;simp[Zlu,A'c];refine s'f ?_;simp[Zlv,A'c,m3,hw];refine okE.blk ?_;refine okE.mono (okE.loop (Q:=λe t' g'=>(A'j 0 e = .ret∧t' 2=ni v)∧H'q O ro w h r bud cp N v1 v2 vF vP Rf R.frames.length g') (RcI O ro w h r bud cp N v1 v2 vF vP Rf R.frames.length f nn v) (λn t g I=>L'c C L hb hni hla hFp I) m _ _ ⟨by simp,by simp <;> omega,R,hs,fs,vW,w,x,k,rfl,Ch.refl _ _ _⟩) ?_;rintro e t g ⟨⟨hr,h3⟩,h2⟩;rw[hr];simp[A'c,A'1,A'i,rvE,h3];exact h2
 obtain⟨u,h',e1,rfl,e2⟩:=key;exact⟨h',e1,e2⟩
def CaI (O:HI H)(ro:Nat)(w:Own)(h:H)(r:Nat)(bud:Int)(cp:Nat)(N:Ck)(v1 v2 vF vP:Value)(Rf:Rn)(FL f nn v level:Nat)(n:Nat)(t:Env)(g:H): Prop:=
 t 0 = .pointer (some ⟨r,0,none⟩)∧t 1=ni level∧∃R,E'v f nn N bud level n R=some (Rf,v)∧H'q O ro w h r bud cp N v1 v2 vF vP R FL g
theorem N'w (C:LP' O ro c)(L:O.Law){r:Nat}{bud:Int}{vF vP:Value}(hb:bud<=2305843009213693952)(hni:N.ni<=60)(hla:N.las.length<=60){Rf:Rn}{FL f nn v level n:Nat}(hlv:level+1<FL){t:Env}{g:H}(I:CaI O ro w h r bud cp N v1 v2 vF vP Rf FL f nn v level n t g):
  okE c (K'V O Tryz.prog ro) (t,g) (λe t' g'=>(e = .normal∧∃n',n'<n∧CaI O ro w h r bud cp N v1 v2 vF vP Rf FL f nn v level n' t' g')∨(e≠.normal∧((A'j 0 e = .normal∧v=2∨A'j 0 e = .ret∧t' 4=ni v)∧H'q O ro w h r bud cp N v1 v2 vF vP Rf FL g'))):=by
 have hm:most=1000000:=rfl;obtain⟨d0,d1,R,hs,fs,vW,w1,x,k,hFL,c1⟩:=I
 cases n with
 | zero=>simp[E'v]at hs
 | succ m=>
 unfold E'v at hs;have m0:=x.m.get 0 _ rfl;have m3:=x.m.get 3 _ rfl;split at hs
 ·simp at hs
 rename_i F hF
 have hi:=(l'b.1 hF).1;have hi':(level:Int)<R.frames.length:=by omega
 obtain⟨⟨s,vo⟩,hy⟩:∃y,fs[level]?=some y:=⟨_,l'c (by rw[x.lF];exact hi)⟩;obtain⟨z,S0,us,o0⟩:=x.fr level F _ hF hy;obtain⟨b,q,eF,yb,hk0,hk1⟩:=x.getF level hy;rw[eF]at m3;have kb:=yb.get _ _ hk1;have kF:=k.fr F (l'f hF);unfold ptr at m0;have fl:=k.fl;split at hs
 ·rename_i hown
  simp only[l'a,l'd]at hs;obtain⟨rfl,rfl⟩:=hs;obtain⟨aO,cO,hvo⟩:=o0.s.len (by omega) 0 (by rw[o0.l,hown];rfl);rw[hvo]at kb;refine f'f ?_;simp[K'V,ZmT,d0,d1,m3,hi,hi',kb];exact⟨fs,_,w1,x,k,hFL,c1⟩
 ·rename_i cl rest hown
  have hol:F.own.length=rest.length+1:=by rw[hown];rfl
  have hcl:ClK N cl:=kF.2.2.2 cl (by rw[hown];simp);obtain⟨bO,pO,eO,_,yO⟩:=o0.s.blk (by omega) F.own.length (by rw[o0.l];simp) (by omega);obtain⟨u,hu⟩:∃u,us[0]?=some u:=⟨_,l'c (by rw[o0.l];omega)⟩;have su:=o0.a 0 cl u (by rw[hown];rfl) hu;have ku:O.cell g bO 0=some u:=by rw[yO.cell 0 (by rw[o0.l];omega),hu]
  rw[eO,hol]at kb;obtain⟨va,g3,w3,e3,s3,c3,lo3⟩:=G'f C L x.lo x.X hcl.1 hcl.2 (by omega) su (9,0);have x3:=x.keep L c3;have su3:=su.ch L c3;have tv1:=su.flat.2.2;have tv2:=s3.flat.2.2;have hgt:(0:Int)<(rest.length:Int)+1:=by omega
  unfold ptr at e3;refine s'f ?_;simp[ZmT,A'c,d0,d1,m3,hi,hi',kb,hgt];refine okE.blk ?_;refine s'f ?_;simp[ZmU,A'c,d0,d1,m3,hi,hi',kb,hgt,ku,tv1];refine s'f ?_;simp[ZmV,A'c,d0,m0,e3,tv2];split at hs
  ·simp at hs
  ·rename_i R1 hask
   obtain⟨g4,w4,e4,x4,c4,h4⟩:=G'2 C L x3 hb k.sp (by unfold K11;simp) s3 hask;obtain⟨k4,kw,kk,kfl,kmod,ksp⟩:=E'w hask k;split at hs
   ·simp at hs
   rename_i R2 hlrn
   have su4:=su3.ch L c4 (by rintro (h|h);simp at h;unfold Ks at h;simp at h;omega);obtain⟨fs7,g7,w7,e7,x7,c7⟩:=I'B C L x4 k4 (level:=level+1) (by omega) hcl su4 hlrn;obtain⟨k7,kf7,kw7,-,-⟩:=G'4 hcl hlrn k4;have hw1:=w'1 level;obtain⟨l1,hl1⟩:=e' (level+1);rw[<-hl1]at hw1 e7;unfold ptr at e4 e7;refine s'f ?_;simp[ZmW,A'c,d0,d1,e4];refine s'f ?_;simp[ZmX,A'c];refine f'f ?_;simp[ZmZ,d0,d1,hw1,e7];exact⟨m,by omega,by simp[d0],by simp[d1],R2,hs,fs7,_,w7,x7,k7,by omega,c1.trans ((c3.mono (by simp)).trans ((c4.mono Kb.ask).trans (c7.mono (λu hu=>by rcases hu with h|h;left;rw[h];exact .inr h))))⟩
  ·rename_i R1 a hna hask
   simp only[l'a,l'd]at hs;obtain⟨rfl,rfl⟩:=hs;have hne:a≠2:=λh=>by subst h;simp at hna
   have hne':((a:Int) != 2)=true:=bne_iff_ne.2 (by omega);obtain⟨g4,w4,e4,x4,c4,h4⟩:=G'2 C L x3 hb k.sp (by unfold K11;simp) s3 hask;obtain⟨k4,kw,kk,kfl,kmod,ksp⟩:=E'w hask k;unfold ptr at e4;refine s'f ?_;simp[ZmW,A'c,d0,d1,e4];refine f'f ?_;simp[ZmX,ZmY,hne,hne'];exact⟨fs,_,w4,x4,k4,by omega,c1.trans ((c3.mono (by simp)).trans (c4.mono Kb.ask))⟩
theorem H'Q (C:LP' O ro c)(L:O.Law){r:Nat}{R Rf:Rn}{bud:Int}{vF vW vP:Value}{fs:List (Nat×Value)}(x:RN O ro w h r R bud cp N v1 v2 vF vW vP fs)(k:RnK N R)(hb:bud<=2305843009213693952)(hni:N.ni<=60)(hla:N.las.length<=60){f nn m v level:Nat}(hlv:level+1<R.frames.length)(hs:E'v f nn N bud level m R=some (Rf,v)):
  ∃h',c 111 [ptr r,ni level] h=some (ni v,h')∧H'q O ro w h r bud cp N v1 v2 vF vP Rf R.frames.length h':=by
 have key:∃u h',c 111 [ptr r,ni level] h=some (u,h')∧(u=ni v∧H'q O ro w h r bud cp N v1 v2 vF vP Rf R.frames.length h'):=by
  refine C.fn (Q'P O ro) rfl rfl ?_;unfold V'y;refine s'f ?_;simp[ZmS,A'c];refine okE.seq (okE.blk ?_);refine okE.mono (okE.loop (Q:=λe t' g'=>(A'j 0 e = .normal∧v=2∨A'j 0 e = .ret∧t' 4=ni v)∧H'q O ro w h r bud cp N v1 v2 vF vP Rf R.frames.length g') (CaI O ro w h r bud cp N v1 v2 vF vP Rf R.frames.length f nn v level) (λn t g I=>N'w C L hb hni hla hlv I) m _ _ ⟨by simp,by simp,R,hs,fs,vW,w,x,k,rfl,Ch.refl _ _ _⟩) ?_;rintro e t g ⟨h1,h2⟩;rcases h1 with ⟨hr,rfl⟩|⟨hr,h3⟩
  ·rw[hr];simp only[A'c];refine f'f ?_;simp[Zm0,A'1,A'i,rvE];exact h2
  ·rw[hr];simp[A'c,A'1,A'i,rvE,h3];exact h2
 obtain⟨u,h',e1,rfl,e2⟩:=key;exact⟨h',e1,e2⟩
end
end Go.Proofs.YtimdkminagnhgaaGreatDoor
