import Derived.Test.YtimdkminagnhgabGreatDoorQ30
import Derived.Test.YtimdkminagnhgabGreatDoorQ39
import Derived.Test.YtimdkminagnhgabGreatDoorQ31
set_option linter.all false
namespace Go.Proofs.YtimdkminagnhgabGreatDoor
open Go.Vm Go.Proofs Go.Ta
set_option maxHeartbeats 4000000
section
variable {H:Type}{O:HI H}{ro:Nat}{c:A'X H}
attribute [local simp] A'b A'c reg to too A'a A'n A'i mv' nl' fl' ld' ln' mk' ia' ik' ix' B'C B'D aLd A'5 A'q A'2 aUn unA ev A'k isB A'Z A'C A'D A'E A'F A'G A'H A'I A'J A'K cIf A'y A'f A'g aSt A'M A't A'N A'O A'P B'c A'Q A'u A'R A'S B'd A'T A'v A'U A'V A'W B'e A'l Instr.fill A'e A'r A'z A's ptr undef B'o B'r A'j B'n A'w A'B B'A A'x B'p rangeA B'E A'o A'4 A'A B'i A'p A'm chk
variable {w w':Own}{h h':H}{p:Nat}{ps:List Nat}
theorem CB.back {w':Own}(a:Old O (w.past (O.next h)) h w' h'){p:Nat}{T:CkT}(x:CB O ro w' h' 4 p T): CB O ro (w.back w' (O.next h)) h' 4 p T:=by
 obtain⟨v1,v2,m,s1,s2⟩:=x.ex;have key:∀{t:Tag}{v:Value}{l:List Value},t≠(16,0)->Sl O ro w' h' t 2 v l->Sl O ro (w.back w' (O.next h)) h' t 2 v l:=by
  intro t v l ht s;rcases s with s|⟨b,m,cp,e,ec,el,en,y⟩
  ·exact .inl s
  ·exact .inr ⟨b,m,cp,e,ec,el,en,y.back a ht⟩
 exact⟨v1,v2,m.back a (by simp),key (by simp) s1,key (by simp) s2⟩
theorem G'P (C:LP' O ro c)(L:O.Law)(lo:ro<=O.next h){s:ByteArray}{N:Ck}(hr:rdS s = .ok (ckT N))(hn:J'S s): ∃p h' w',c 25 [.string s] h=some (.tuple #[ptr p,fv 0 0],h')∧CB O ro w' h' 4 p (ckT N)∧Ch O (λ_=>False) w h w' h'∧ro<=O.next h':=by
 obtain⟨cq,vq,w1,h1,e1,hq,c1,lo1⟩:=L'V C L (w:=w.past (O.next h)) lo s hn;rcases hq with ⟨q,hq,-⟩|⟨T,hT,rfl,cb⟩
 ·rw[hr]at hq;simp at hq
 rw[hr]at hT;simp only[Except.ok.injEq]at hT;subst hT;have oo:Old O (w.past (O.next h)) h w1 h1:=Old.of c1 (by unfold Kc;simp);exact⟨cq,h1,_,e1,cb.back oo,H'c oo,lo1⟩
theorem S'P (hl:ps.length<=59)(hp:∀p∈ps,p<4): CkK (wdN ps):=by
 have hm:most=1000000:=rfl;refine⟨by simp[wdN],by simp[wdN],by rw[L'w];omega,λx hx=>?_,λx hx=>?_,by simp only[wdN];omega⟩
 ·simp only[wdN,List.mem_replicate]at hx;rw[hx.2];simp;omega
 ·simp only[wdN,List.mem_map,List.mem_range]at hx;obtain⟨j,hj,rfl⟩:=hx;obtain⟨w1,w2,w3,-,-⟩:=D'i hp j;omega
def R'H (O:HI H)(ro:Nat)(c:A'X H)(ps:List Nat)(inp:Nat)(R:Rn): Prop:=
 inp<16∧(∀k,k<=ps.length->inp.testBit (ps.getD k 0)=true)∧B'y R=0∧B'g R=[inp]∧∀{w:Own}{h:H}{s:ByteArray}{bud:Int},ro<=O.next h->rdS s = .ok (ckT (wdN ps))->J'S s->0<=bud->bud<=2305843009213693952->∃p vC vI us h' w',c 26 [.string s,.int .i64 bud] h=some (ptr p,h')∧RQ O ro w' h' p (wdN ps) R (if bud=0 then 3 else 2) vC vI us∧Ch O (λ_=>False) w h w' h'∧ro<=O.next h'
theorem Q'X (C:LP' O ro c)(L:O.Law)(hl:ps.length<=59)(hp:∀p∈ps,p<4): ∃inp R,R'H O ro c ps inp R:=by
 obtain⟨inp,R0,R,h1,h2,h3,h4,h5,h6⟩:=Q'D hl hp;refine⟨inp,R,h1,h2,by unfold B'y;rw[h4];rfl,by unfold B'g;rw[h4];rfl,λlo hr hn hb0 hb=>?_⟩;exact R'x C L lo (S'P hl hp) hr hn hb0 hb (by split;exact .inr rfl;exact .inl rfl) ⟨R0,h3,h6 _ hb0⟩
theorem Q'Y (C:LP' O ro c)(L:O.Law){inp:Nat}{R:Rn}(W:R'H O ro c ps inp R)(lo:ro<=O.next h){s:ByteArray}(hr:rdS s = .ok (ckT (wdN ps)))(hn:J'S s): ∃vI h' w',c 19 [.string s] h=some (.tuple #[vI,.int .i64 0,.bool true],h')∧Sm O ro w' h' (6,1) 1 vI ([inp].map ni)∧Ch O (λ_=>False) w h w' h'∧ro<=O.next h':=by
 obtain⟨-,-,hf,hi,run⟩:=W;obtain⟨p,vC,vI,us,h1,w1,e1,q1,c1,lo1⟩:=run (w:=w) (bud:=1152921504606846976) lo hr hn (by omega) (by omega);obtain⟨p',vC',vI',us',h2,w2,e2,q2,c2,lo2⟩:=run (w:=w1) (bud:=0) lo1 hr hn (by omega) (by omega);rw[if_neg (by omega)]at q1;rw[if_pos rfl]at q2;have q1':=q1.ch L c2;have hs:=q1'.i;simp only[if_true]at hs;rw[hi]at hs;refine⟨vI,h2,w2,?_,hs,c1.trans c2,lo2⟩;have k0:=q1'.m.get 0 _ rfl;have k4:=q1'.m.get 4 _ rfl;have k5:=q1'.m.get 5 _ rfl;simp only[if_true]at k4;rw[hf]at k4;have j0:=q2.m.get 0 _ rfl;have tv:=hs.flat.2.2;unfold ptr at e1 e2;refine C.eq (Q'o O ro) rfl rfl ?_;unfold F19;refine s'f ?_;simp[ZoB,A'd];refine s'f ?_;simp[ZoC,A'd,e1];refine s'f ?_;simp[ZoD,A'd,e2];refine s'f ?_;simp[ZoE,A'd];refine s'f ?_;simp[ZoG,A'd,k0,j0];refine f'f ?_;simp[ZoH,k4,k5,tv,A'L,A'h,rvE]
theorem okE.gen {F:B'L H}{t:Env}{g:H}{Q:Exit->Env->H->Prop}(P:Env->Prop)(hp:P t)(h:∀t',P t'->okE c F (t',g) Q): okE c F (t,g) Q:=h t hp
end
end Go.Proofs.YtimdkminagnhgabGreatDoor
namespace Go.Proofs.YtimdkminagnhgabGreatDoor
open Go.Vm Go.Proofs Go.Ta
set_option maxHeartbeats 4000000
section
variable {H:Type}{O:HI H}{ro:Nat}{c:A'X H}
attribute [local simp] A'b A'c reg to too A'a A'n A'i mv' nl' fl' ld' ln' mk' ia' ik' ix' B'C B'D aLd A'5 A'q A'2 aUn unA ev A'k isB A'Z A'C A'D A'E A'F A'G A'H A'I A'J A'K cIf A'y A'f A'g aSt A'M A't A'N A'O A'P B'c A'Q A'u A'R A'S B'd A'T A'v A'U A'V A'W B'e A'l Instr.fill A'e A'r A'z A's ptr undef B'o B'r A'j B'n A'w A'B B'A A'x B'p rangeA B'E A'o A'4 A'A B'i A'p A'm chk
attribute [local simp] B'4 F'y A'7
variable {w w':Own}{h h':H}{p:Nat}{ps:List Nat}
def I6 (n:Int): Prop:=-9223372036854775808<=n∧n<=9223372036854775807
theorem J'Q (C:LP' O ro c)(a:Int)(ha:I6 a)(n:Nat)(hn:0<n): ∃k:Nat,k<n∧∀h,c 22 [.int .i64 a,ni n] h=some (ni k,h):=by
 obtain⟨ha1,ha2⟩:=ha;have key:∀x:Int,0<=x->∃k:Nat,k<n∧C'f .rem .i64 x (n:Int)=some (.int .i64 (k:Int)):=by
  intro x hx;refine⟨x.toNat%n,Nat.mod_lt _ hn,?_⟩;have hb:(n:Int)≠0:=by omega
  obtain⟨m,rfl⟩:∃m:Nat,x=m:=⟨x.toNat,by omega⟩;simp only[C'f,if_neg hb,Int.ofNat_tmod,Int.toNat_natCast]
 by_cases h0:a<0
 ·have w1:IntKind.i64.wrap (a+1)=a+1:=w'j;have w2:IntKind.i64.wrap (0-(a+1)) = -(a+1):=w'i;have w2':IntKind.i64.wrap (-(a+1)) = -(a+1):=w'j;obtain⟨k,hk,e⟩:=key (-(a+1)) (by omega);refine⟨k,hk,λh=>C.eq (L'9 O ro) rfl rfl (f'f ?_)⟩;generalize hx:-(a+1)=x at *;simp[F22,ZoN,ZoO,ZoP,ZoQ,A'L,A'h,rvE,h0,w1,w2,w2',hx,e]
 ·obtain⟨k,hk,e⟩:=key a (by omega);refine⟨k,hk,λh=>C.eq (L'9 O ro) rfl rfl (f'f ?_)⟩;simp[F22,ZoN,ZoO,ZoQ,A'L,A'h,rvE,h0,e]
theorem fl2 (L:O.Law)(lo:ro<=O.next h)(t:Tag): ∃h3 w3,A'6 O (O.new h [.int .i64 0,.int .i64 0]) (O.next h) 0 [.int .i64 0,.int .i64 0]=some h3∧Bx O ro w3 h3 t (O.next h) [.int .i64 0,.int .i64 0]∧Ch O (λu=>u=t) w h w3 h3∧ro<=O.next h3:=by
 have y2:=Bx.new L (ro:=ro) w h lo t [.int .i64 0,.int .i64 0];have c2:=Ch.new L (λ_=>False) w h t [.int .i64 0,.int .i64 0];obtain⟨h3,p3,y3,c3⟩:=Bx.over L (K:=λu=>u=t) rfl y2 (show [Value.int .i64 0,.int .i64 0].length = _ from rfl);have c23:Ch O (λu=>u=t) w h _ h3:=(c2.mono (by simp)).trans c3;exact⟨h3,_,p3,y3,c23,l'G lo c23.nx⟩
theorem O'E (C:LP' O ro c)(L:O.Law)(g0:Gl O w h)(lo:ro<=O.next h)(hl:ps.length<=59)(hp:∀p∈ps,p<4){inp:Nat}{R:Rn}(W:R'H O ro c ps inp R){s:ByteArray}(hr:rdS s = .ok (ckT (wdN ps)))(hn:J'S s){b:Int}(hb:I6 b): ∃h',c 14 [.string s,.int .i64 b] h=some (.bool true,h'):=by
 have ok:=Q'R hl hp;obtain⟨ra,na⟩:=Q'W hl hp;obtain⟨rb,nb⟩:=R'G hl hp;obtain⟨-,-,hf,hi,run⟩:=W;have hil:(B'g R).length<=1000:=by rw[hi];simp
 obtain⟨nn,hnn,epk⟩:=J'Q C b hb 1099511627776 (by omega);obtain⟨p1,h1,w1,e1,cb1,c1,lo1⟩:=G'P (w:=w) C L lo hr hn;obtain⟨h2,w2,q2,y2,c2,lo2⟩:=fl2 (w:=w1) L lo1 (7,0);have g2:=(g0.ch L c1).ch L c2;have cb2:=cb1.ch L c2;obtain⟨v1,v2,x2⟩:=CB.xc (N:=wdC ps) cb2;obtain⟨w3,h3,e3,a3⟩:=O'z C L g2 lo2 x2 ok;have lo3:=a3.lo lo2;have g3:=g2.al' L a3;have x3:=x2.al L a3;obtain⟨w4,h4,e4,a4⟩:=O'A C L g3 lo3 x3 ok;have lo4:=a4.lo lo3;have g4:=g3.al' L a4;obtain⟨p5,h5,w5,e5,cb5,c5,lo5⟩:=G'P (w:=w4) C L lo4 ra na;obtain⟨h6,w6,q6,y6,c6,lo6⟩:=fl2 (w:=w5) L lo5 (7,1);have g6:=(g4.ch L c5).ch L c6;have cb6:=cb5.ch L c6;obtain⟨p7,h7,w7,e7,cb7,c7,lo7⟩:=G'P (w:=w6) C L lo6 rb nb;obtain⟨h8,w8,q8,y8,c8,lo8⟩:=fl2 (w:=w7) L lo7 (7,2);have g8:=(g6.ch L c7).ch L c8;have cbx:=(cb6.ch L c7).ch L c8;have cby:=cb7.ch L c8;have y6':=(y6.ch L c7).ch L c8;obtain⟨u1,u2,X8⟩:=CB.xc (N:=wdC ps) cbx;obtain⟨u3,u4,Y8⟩:=CB.xc (N:=wdC ps) cby
 obtain⟨w9,h9,e9,a9⟩:=O'z C L g8 lo8 X8 ok;have lo9:=a9.lo lo8;have g9:=g8.al' L a9;obtain⟨w10,h10,e10,a10⟩:=O'z C L g9 lo9 (Y8.al L a9) ok;have lo10:=a10.lo lo9;have g10:=g9.al' L a10;have X10:=(X8.al L a9).al L a10;have Y10:=(Y8.al L a9).al L a10;obtain⟨w11,h11,e11,a11⟩:=O'A C L g10 lo10 X10 ok;have lo11:=a11.lo lo10;obtain⟨w12,h12,e12,a12⟩:=O'A C L (g10.al' L a11) lo11 (Y10.al L a11) ok;have lo12:=a12.lo lo11;obtain⟨r1,vC1,vI1,us1,h13,w13,e13,Q1,c13,lo13⟩:=run (w:=w12) (bud:=1152921504606846976) lo12 hr hn (by omega) (by omega);obtain⟨r2,vC2,vI2,us2,h14,w14,e14,Q2,c14,lo14⟩:=run (w:=w13) (bud:=1152921504606846976) lo13 ra na (by omega) (by omega);obtain⟨r3,vC3,vI3,us3,h15,w15,e15,Q3,c15,lo15⟩:=run (w:=w14) (bud:=1152921504606846976) lo14 rb nb (by omega) (by omega);rw[if_neg (by omega)]at Q1 Q2 Q3;have Q1':=(Q1.ch L c14).ch L c15;have Q2':=Q2.ch L c15;have s12:=J'p C Q1' Q2' (by omega) hil;have s13:=J'p C Q1' Q3 (by omega) hil;have k1:=Q1'.m.get 0 _ rfl;obtain⟨r4,vC4,vI4,us4,h16,w16,e16,Q4,c16,lo16⟩:=run (w:=w15) (bud:=(nn:Int)) lo15 hr hn (by omega) (by omega);have hv4:(if (nn:Int)=0 then 3 else 2)≠1:=by split <;> omega
 have key:∃u h',c 14 [.string s,.int .i64 b] h=some (u,h')∧u = .bool true:=by
  refine C.fn (Q'h O ro) rfl rfl ?_;unfold F14;generalize M's (wdC ps)=A at *;generalize J'J (wdC ps)=B at *;have r0:¬O.next h1<ro:=by omega
  have r5:¬O.next h5<ro:=by omega
  have r7:¬O.next h7<ro:=by omega
  have k0:=y2.get 0 _ rfl;have k6:=y6'.get 0 _ rfl;have k8:=y8.get 0 _ rfl;have epk':c 22 [.int .i64 b,.int .i64 1099511627776] h15=some (ni nn,h15):=epk h15;unfold ptr fv at e1 e5 e7;unfold ptr at e13 e14 e15 e16 s12 s13;refine s'f ?_;simp[Znf,A'd];refine s'f ?_;simp[Zng,A'd,e1,r0,q2];refine okE.seq (s'f ?_);simp[Znh,A'd,k0];refine okE.cond false (by simp) ?_;simp only[l'y,if_false];refine f'f ?_;simp only[A'f,A'g,A'd];refine okE.gen (λt=>t 0 = .string s∧t 1 = .int .i64 b∧t 5 = .pointer (some ⟨p1,0,none⟩)) ⟨by simp,by simp,by simp⟩ ?_;rintro t ⟨d0,d1,d5⟩;refine s'f ?_;simp[Znk,A'd,d5,e3];refine s'f ?_;simp[Znl,A'd,d5,e4];refine okE.gen (λt=>t 0 = .string s∧t 1 = .int .i64 b∧t 8 = .string A∧t 9 = .string B) ⟨by simp[d0],by simp[d1],by simp,by simp⟩ ?_;clear d0 d1 d5 t;rintro t ⟨d0,d1,d8,d9⟩;refine s'f ?_;simp[Znm,A'd,d8,e5,r5,q6];refine okE.gen (λt=>t 0 = .string s∧t 1 = .int .i64 b∧t 8 = .string A∧t 9 = .string B∧t 10 = .pointer (some ⟨p5,0,none⟩)∧t 11 = .pointer (some ⟨O.next h5,0,none⟩)) ⟨by simp[d0],by simp[d1],by simp[d8],by simp[d9],by simp,by simp⟩ ?_;clear d0 d1 d8 d9 t;rintro t ⟨d0,d1,d8,d9,d10,d11⟩;refine s'f ?_;simp[Znn,A'd,d9,e7,r7,q8];refine okE.gen (λt=>t 0 = .string s∧t 1 = .int .i64 b∧t 8 = .string A∧t 9 = .string B∧t 10 = .pointer (some ⟨p5,0,none⟩)∧t 11 = .pointer (some ⟨O.next h5,0,none⟩)∧t 12 = .pointer (some ⟨p7,0,none⟩)∧t 13 = .pointer (some ⟨O.next h7,0,none⟩)) ⟨by simp[d0],by simp[d1],by simp[d8],by simp[d9],by simp[d10],by simp[d11],by simp,by simp⟩ ?_;clear d0 d1 d8 d9 d10 d11 t;rintro t ⟨d0,d1,d8,d9,d10,d11,d12,d13⟩;refine okE.seq (s'f ?_);simp[Zno,A'd,d11,d13,k6,k8];refine okE.cond false (by simp) ?_;simp only[l'y,if_false];refine f'f ?_;simp only[A'f,A'g,A'd];refine okE.gen (λt=>t 0 = .string s∧t 1 = .int .i64 b∧t 8 = .string A∧t 9 = .string B∧t 10 = .pointer (some ⟨p5,0,none⟩)∧t 12 = .pointer (some ⟨p7,0,none⟩)) ⟨by simp[d0],by simp[d1],by simp[d8],by simp[d9],by simp[d10],by simp[d12]⟩ ?_;clear d0 d1 d8 d9 d10 d11 d12 d13 t;rintro t ⟨d0,d1,d8,d9,d10,d12⟩;refine s'f ?_;simp[Znq,A'd,d10,e9];refine s'f ?_;simp[Znr,A'd,d12,e10];refine s'f ?_;simp[Zns,A'd,d10,e11];refine s'f ?_;simp[Znt,A'd,d12,e12];refine okE.seq (s'f ?_);simp[Znu,A'd,d8,d9];refine okE.cond false (by simp) ?_;simp only[l'y,if_false];refine f'f ?_;simp only[A'f,A'g,A'd];refine okE.gen (λt=>t 0 = .string s∧t 1 = .int .i64 b∧t 8 = .string A∧t 9 = .string B) ⟨by simp[d0],by simp[d1],by simp[d8],by simp[d9]⟩ ?_;clear d0 d1 d8 d9 d10 d12 t;rintro t ⟨d0,d1,d8,d9⟩;refine s'f ?_;simp[Znw,A'd,d0,e13];refine s'f ?_;simp[Znx,A'd,d8,e14];refine s'f ?_;simp[Zny,A'd,d9,e15];refine okE.seq (s'f ?_);simp[Znz,A'd];refine okE.cond false (by simp) ?_;simp only[l'y,if_false];refine f'f ?_;simp only[A'f,A'g,A'd];refine okE.gen (λt=>t 0 = .string s∧t 1 = .int .i64 b∧t 18 = .pointer (some ⟨r1,0,none⟩)∧t 19 = .pointer (some ⟨r2,0,none⟩)∧t 20 = .pointer (some ⟨r3,0,none⟩)) ⟨by simp[d0],by simp[d1],by simp,by simp,by simp⟩ ?_;clear d0 d1 d8 d9 t;rintro t ⟨d0,d1,d18,d19,d20⟩;refine s'f ?_;simp[ZnB,A'd,d18,d19,s12];refine s'f ?_;simp[ZnC,A'd,d18,d20,s13];refine okE.seq (s'f ?_);simp[ZnD,A'd,d18,k1];refine okE.cond false (by simp) ?_;simp only[l'y,if_false];refine f'f ?_;simp only[A'f,A'g,A'd];refine okE.gen (λt=>t 0 = .string s∧t 1 = .int .i64 b∧t 18 = .pointer (some ⟨r1,0,none⟩)) ⟨by simp[d0],by simp[d1],by simp[d18]⟩ ?_;clear d0 d1 d18 d19 d20 t;rintro t ⟨d0,d1,d18⟩;refine s'f ?_;simp[ZnF,A'd,d1,epk'];refine s'f ?_;simp[ZnG,A'd,d0,e16];refine okE.seq (s'f ?_);simp[ZnH,A'd];refine okE.cond false (by simp) ?_;simp only[l'y,if_false];refine f'f ?_;simp only[A'f,A'g,A'd];refine okE.gen (λt=>t 0 = .string s∧t 18 = .pointer (some ⟨r1,0,none⟩)∧t 23=ni nn∧t 24 = .pointer (some ⟨r4,0,none⟩)) ⟨by simp[d0],by simp[d18],by simp,by simp⟩ ?_;clear d0 d1 d18 t;rintro t ⟨d0,d18,d23,d24⟩
  by_cases hz:nn=0
  ·subst hz;rw[if_pos (show ((0:Nat):Int)=0 from rfl)]at Q4;obtain⟨r5,vC5,vI5,us5,h17,w17,e17,Q5,c17,lo17⟩:=run (w:=w16) (bud:=0) lo16 hr hn (by omega) (by omega);rw[if_pos rfl]at Q5;have j4:=Q4.m.get 0 _ rfl;have j5:=Q5.m.get 0 _ rfl;have hq:C'f .quo .i64 ((0:Nat):Int) 2=some (.int .i64 0):=by rfl
   unfold ptr at e17;refine okE.seq (s'f ?_);simp[ZnJ,A'd,d24,j4];refine okE.cond false (by simp) ?_;simp only[l'y,if_false];refine f'f ?_;simp only[A'f,A'g,A'd];refine s'f ?_;have hni0:ni 0=Value.int .i64 0:=rfl;have hq0:C'f .quo .i64 (0:Int) 2=some (.int .i64 0):=by rfl
   simp[ZnL,A'd,d0,d23,hni0,hq0,e17];refine f'f ?_;simp[ZnM,j5,A'L,A'h,rvE]
  ·rw[if_neg (by omega)]at Q4;have Q1'':=Q1'.ch L c16;have s41:=J'p C Q4 Q1'' (by omega) hil;have j4:=Q4.m.get 0 _ rfl;unfold ptr at s41;refine okE.seq (s'f ?_);simp[ZnJ,A'd,d24,j4];refine okE.cond true (by simp) ?_;simp only[if_true];refine f'f ?_;simp[ZnK,A'd,d18,d24,s41,A'L,A'h,rvE]
 obtain⟨u,h',e,rfl⟩:=key;exact⟨h',e⟩
end
end Go.Proofs.YtimdkminagnhgabGreatDoor
namespace Go.Proofs.YtimdkminagnhgabGreatDoor
open Go.Vm Go.Proofs Go.Ta
set_option maxHeartbeats 4000000
section
variable {H:Type}{O:HI H}{ro:Nat}{c:A'X H}
attribute [local simp] A'b A'c reg to too A'a A'n A'i mv' nl' fl' ld' ln' mk' ia' ik' ix' B'C B'D aLd A'5 A'q A'2 aUn unA ev A'k isB A'Z A'C A'D A'E A'F A'G A'H A'I A'J A'K cIf A'y A'f A'g aSt A'M A't A'N A'O A'P B'c A'Q A'u A'R A'S B'd A'T A'v A'U A'V A'W B'e A'l Instr.fill A'e A'r A'z A's ptr undef B'o B'r A'j B'n A'w A'B B'A A'x B'p rangeA B'E A'o A'4 A'A B'i A'p A'm chk
variable {w w':Own}{h h':H}{p:Nat}{ps:List Nat}
theorem H'w (x:Int): C'f .and .i64 x 1=some (.int .i64 (x%2)):=by
 have h2:C'f .and .i64 x 1=some (.int .i64 (IntKind.i64.wrap ((BitVec.ofInt 64 x &&& BitVec.ofInt 64 1).toNat:Int))):=rfl;rw[h2,BitVec.toNat_and,BitVec.toNat_ofInt,show (BitVec.ofInt 64 (1:Int)).toNat=1 by decide,Nat.and_one_is_mod,B'J (by omega) (by omega)];congr 2;omega
def Tb (O:HI H)(h:H): Prop:=O.alive h 0=true∧∀i,i<20->O.cell h 0 i=some (.int .u64 ((10^i:Nat):Int))
theorem Tb.old (L:O.Law)(x:Tb O h)(a:Old O w h w' h')(hw:w 0=(16,0)): Tb O h'∧w' 0=(16,0):=by
 obtain⟨a1,a2,a3⟩:=a.2 0 (L.alive_lt _ _ x.1) hw;exact⟨⟨by rw[a3];exact x.1,λi hi=>by rw[a2];exact x.2 i hi⟩,a1⟩
theorem Tb.ch (L:O.Law)(x:Tb O h)(a:Ch O (λ_=>False) w h w' h'): Tb O h':=by
 obtain⟨a2,a3⟩:=a.fr 0 (L.alive_lt _ _ x.1) (by simp);exact⟨by rw[a3];exact x.1,λi hi=>by rw[a2];exact x.2 i hi⟩
theorem Tb.gl (x:Tb O h): Gl O (λb=>if b=0 then (60,0) else (0,0)) h:=⟨rfl,x.1,x.2⟩
theorem G'h (ps:List Nat)(m:Nat): E'N ps (m+1)=E'N ps m++[if m=0 then 1 else 2*(10+m),wdI ps m]:=by
 unfold E'N;rw[l'B,List.flatMap_append];simp
theorem R'I (hl:ps.length<=59)(hp:∀p∈ps,p<4): NtK (wdX ps (2*(11+ps.length))):=by
 have xa:(wdX ps (2*(11+ps.length))).a=ps.length+1:=by unfold Nt.a wdX;simp only;rw[D'b];omega
 refine⟨by simp[wdX],by simp[wdX],by rw[xa];simp only[wdX];exact D'b _ _,by rw[xa];simp only[wdX];omega,by simp[wdX],by simp[wdX],λx hx=>?_,λx hx=>?_,λx hx=>?_,by simp only[wdX];omega⟩
 ·simp only[wdX,E'N,List.mem_flatMap,List.mem_range]at hx;obtain⟨j,hj,hx⟩:=hx;have:=D'X hp j;simp only[l'I,List.not_mem_nil,or_false]at hx;unfold wdI at hx;rcases hx with rfl|rfl
  ·split <;> omega
  ·omega
 ·simp only[wdX,List.mem_replicate]at hx;omega
 ·simp only[wdX,List.mem_replicate]at hx;omega
def WdI (O:HI H)(ro:Nat)(ps:List Nat)(p:Nat)(b:Int)(n:Nat)(t:Env)(g:H): Prop:=
 t 1 = .int .i64 b∧t 5 = .pointer (some ⟨p,0,none⟩)∧t 6=ni ps.length∧∃j vg vn vr w1,t 7=ni (if j=0 then 1 else 2*(10+j))∧t 8=ni j∧j+n=ps.length∧w1 0=(16,0)∧Tb O g∧NT O ro w1 g p ⟨4,6,E'N ps j,List.replicate 6 0,List.replicate 6 0,0⟩ vg vn vr
def WdQ (O:HI H)(ro:Nat)(ps:List Nat)(p:Nat)(b:Int)(t:Env)(g:H): Prop:=
 t 1 = .int .i64 b∧t 5 = .pointer (some ⟨p,0,none⟩)∧t 6=ni ps.length∧∃vg vn vr w1,t 7=ni (2*(10+ps.length))∧w1 0=(16,0)∧Tb O g∧NT O ro w1 g p ⟨4,6,E'N ps ps.length,List.replicate 6 0,List.replicate 6 0,0⟩ vg vn vr
theorem O'F (C:LP' O ro c)(L:O.Law)(h0:1<=ps.length)(hl:ps.length<=59)(hp:∀p∈ps,p<4){b:Int}(hpk:∀j,j<ps.length->∀h,c 22 [.int .i64 (IntKind.i64.wrap (b+(j:Int))),.int .i64 4] h=some (ni (ps.getD j 0),h)){n:Nat}{t:Env}{g:H}(I:WdI O ro ps p b n t g):
  okE c (L'l O Tryz.prog ro) (t,g) (λe t' g'=>(e = .normal∧∃n',n'<n∧WdI O ro ps p b n' t' g')∨(e≠.normal∧(A's 0 e = .normal∧WdQ O ro ps p b t' g'))):=by
 obtain⟨d1,d5,d6,j,vg,vn,vr,w1,d7,d8,hjn,hw,tb,x⟩:=I
 cases n with
 | zero=>
  obtain rfl:j=ps.length:=by omega
  rw[if_neg (by omega)]at d7;refine f'f ?_;simp[L'l,ZmX,d6,d8];exact⟨by simp[d1],by simp[d5],by simp[d6],vg,vn,vr,w1,by simp[d7],hw,tb,x⟩
 | succ n=>
  have hj:j<ps.length:=by omega
  have hj':(j:Int)<ps.length:=by omega
  have e1:=hpk j hj g;have hlt:=D'X hp j;have e2:=G'G (h:=g) (p:=p) C (j:=ps.getD j 0) (by omega);have hgl:=D'b ps j;obtain⟨vg',g2,w2,e3,x3,o3⟩:=Q'w C L x (by show 4<=100;omega) (by show 6<=100;omega) (by show (E'N ps j).length<=1000;omega) (if j=0 then 1 else 2*(10+j)) (2*(1+ps.getD j 0));obtain⟨tb2,hw2⟩:=tb.old L o3 hw;have hv:2*(4+6+((E'N ps j).length+2)/2)=2*(10+(j+1)):=by rw[hgl];omega
  have x4:NT O ro w2 g2 p ⟨4,6,E'N ps (j+1),List.replicate 6 0,List.replicate 6 0,0⟩ vg' vn vr:=by
   rw[G'h];exact x3
  have e3':c 21 [ptr p,ni (if j=0 then 1 else 2*(10+j)),ni (2*(1+ps.getD j 0))] g=some (ni (2*(10+(j+1))),g2):=by rw[<-hv];exact e3
  have hwi:=w'1 j;obtain⟨j',hj2⟩:=e' (j+1);rw[<-hj2]at hwi e3' x4;generalize (if j=0 then 1 else 2*(10+j))=xj at *;generalize hyj:2*(10+j')=yj at e3';generalize 2*(1+ps.getD j 0)=zi at *;generalize ps.getD j 0=pj at *;generalize hkj:IntKind.i64.wrap (b+(j:Int))=kj at *;unfold ptr at e2 e3';refine f'f ?_;simp[L'l,ZmX,ZmY,ZmZ,Zm0,Zm1,d1,d5,d6,d7,d8,hj,hj',hkj,e1,e2,e3',hwi];exact⟨n,by omega,by simp[d1],by simp[d5],by simp[d6],j',vg',vn,vr,w2,by rw[if_neg (show ¬j'=0 by omega),hyj];simp,by simp,by omega,hw2,tb2,x4⟩
def WeI (k:Nat)(b:Int)(s:ByteArray)(vI:Value)(h:H)(n:Nat)(t:Env)(g:H): Prop:=
 t 1 = .int .i64 b∧t 6=ni k∧t 12 = .string s∧t 13=vI∧g=h∧∃j,t 16=ni j∧j+n=k
theorem O'G (hl:ps.length<=59)(hp:∀p∈ps,p<4){b:Int}{s:ByteArray}{inp bI cI:Nat}{tg:Tag}(hi:inp<16)(hbit:∀k,k<=ps.length->inp.testBit (ps.getD k 0)=true)(yI:Bx O ro w h tg bI [ni inp])(hpk:∀j,j<ps.length->∀h,c 22 [.int .i64 (IntKind.i64.wrap (b+(j:Int))),.int .i64 4] h=some (ni (ps.getD j 0),h)){n:Nat}{t:Env}{g:H}(I:WeI ps.length b s (.slice (some ⟨bI,0,some 1⟩) 1 cI) h n t g):
  okE c (L'm O Tryz.prog ro) (t,g) (λe t' g'=>(e = .normal∧∃n',n'<n∧WeI ps.length b s (.slice (some ⟨bI,0,some 1⟩) 1 cI) h n' t' g')∨(e≠.normal∧(A's 2 e = .normal∧t' 1 = .int .i64 b∧t' 12 = .string s∧g'=h))):=by
 obtain⟨d1,d6,d12,d13,hg,j,d16,hjn⟩:=I;subst hg
 cases n with
 | zero=>
  obtain rfl:j=ps.length:=by omega
  refine f'f ?_;simp[L'm,Zm9,d1,d6,d12,d16]
 | succ n=>
  have hj:j<ps.length:=by omega
  have hj':(j:Int)<ps.length:=by omega
  have e1:=hpk j hj g;have hlt:=D'X hp j;have hb:=hbit j (by omega);have s1:=G'C inp (ps.getD j 0) (by omega);have hd:=E'D inp (ps.getD j 0);rw[hb,if_pos rfl]at hd;have kI:=yI.get 0 _ rfl;have a1:=H'w ((inp/2^ps.getD j 0:Nat):Int);have hm:((inp/2^ps.getD j 0:Nat):Int)%2=1:=by omega
  rw[hm]at a1;have hwi:=w'1 j;have hw0:IntKind.i64.wrap (0:Int)=0:=by rfl
  obtain⟨j',hj2⟩:=e' (j+1);rw[<-hj2]at hwi;generalize inp/2^ps.getD j 0=qq at *;generalize ps.getD j 0=pj at *;generalize hkj:IntKind.i64.wrap (b+(j:Int))=kj at *;refine f'f ?_;simp[L'm,Zm9,Zna,Znb,Znd,d1,d6,d13,d16,hj,hj',hkj,e1,kI,s1,a1,hwi,hw0];exact⟨n,by omega,by simp[d1],by simp[d6],by simp[d12],by simp[d13],rfl,j',by simp,by omega⟩
theorem O'H (C:LP' O ro c)(b:Int): ∀k:Nat,∃ps:List Nat,ps.length=k∧(∀p∈ps,p<4)∧∀j,j<k->∀h,c 22 [.int .i64 (IntKind.i64.wrap (b+(j:Int))),.int .i64 4] h=some (ni (ps.getD j 0),h):=by
 have hwr:∀x:Int,I6 (IntKind.i64.wrap x):=λx=>by
  unfold I6;rw[IntKind.wrap_i64];omega
 intro k
 induction k with
 | zero=>exact⟨[],rfl,by simp,λj hj=>by omega⟩
 | succ k ih=>
  obtain⟨ps,e1,e2,e3⟩:=ih;obtain⟨x,hx,e4⟩:=J'Q C (IntKind.i64.wrap (b+(k:Int))) (hwr _) 4 (by omega);refine⟨ps++[x],by simp[e1],λp hp=>?_,λj hj h=>?_⟩
  ·rcases l'E.1 hp with h|h
   ·exact e2 p h
   ·rw[l'm]at h;omega
  ·rw[l'r];rcases Nat.lt_or_ge j k with h1|h1
   ·rw[l'e (by omega),<-l'r];exact e3 j h1 h
   ·obtain rfl:j=k:=by omega
    rw[l'z (by omega),e1,Nat.sub_self];exact e4 h
theorem Q'Z (C:LP' O ro c)(L:O.Law)(lo:ro<=O.next h)(tb:Tb O h){a b:Int}(ha:I6 a)(hb:I6 b): ∃h',c 11 [.int .i64 a,.int .i64 b] h=some (.bool true,h'):=by
 obtain⟨k0,hk0,ek⟩:=J'Q C a ha 59 (by omega);obtain⟨ps,hlen,hp,hpk'⟩:=O'H C b (1+k0);rw[<-hlen]at hpk';have h0:1<=ps.length:=by omega
 have hl:ps.length<=59:=by omega
 have hend:ps.getD ps.length 0=0:=by rw[l'r,List.getElem?_eq_none (l'H _)];rfl
 obtain⟨inp,R,W⟩:=Q'X (O:=O) (ro:=ro) (c:=c) (ps:=ps) C L hl hp;obtain⟨hi,hbit,-⟩:=id W;obtain⟨w,hw⟩:∃w:Own,w 0=(16,0):=⟨λ_=>(16,0),rfl⟩;obtain⟨p,vg,vn,vr,h1,w1,e1,x1,o1⟩:=O'i (w:=w) C L lo (a:=4) (b:=6) (by omega);obtain⟨tb1,hw1⟩:=tb.old L o1 hw;obtain⟨rd,ns⟩:=R'F hl hp;have key:∃u h',c 11 [.int .i64 a,.int .i64 b] h=some (u,h')∧u = .bool true:=by
  refine C.fn (Q'g O ro) rfl rfl ?_;unfold F11;have ek':c 22 [.int .i64 a,.int .i64 59] h1=some (ni k0,h1):=ek h1;have wl:IntKind.i64.wrap (1+(k0:Int))=(ps.length:Int):=w'i;have e1':c 16 [.int .i64 4,.int .i64 6] h=some (ptr p,h1):=e1;unfold ptr at e1';refine s'f ?_;simp[ZmS,A'd];refine s'f ?_;simp[ZmT,A'd,e1'];refine s'f ?_;simp[ZmU,A'd,ek',wl];refine s'f ?_;simp[ZmV,A'd];refine okE.seq (s'f ?_);simp[ZmW,A'd];refine okE.blk ?_;refine okE.mono (okE.loop (Q:=λe t' g'=>A's 0 e = .normal∧WdQ O ro ps p b t' g') (WdI O ro ps p b) (λn t g I=>O'F C L h0 hl hp hpk' I) ps.length _ _ ⟨by simp,by simp,by simp,0,vg,vn,vr,w1,by simp,by simp,by omega,hw1,tb1,x1⟩) ?_;rintro e t g ⟨hr,d1,d5,d6,vg2,vn2,vr2,w2,d7,hw2,tb2,x2⟩;rw[hr];simp only[A'd];have e3:=G'G (h:=g) (p:=p) C (j:=0) (by omega);have hgl:=D'b ps ps.length;obtain⟨vg3,g3,w3,e4,x3,o3⟩:=Q'w C L x2 (by show 4<=100;omega) (by show 6<=100;omega) (by show (E'N ps ps.length).length<=1000;omega) (2*(10+ps.length)) 2;obtain⟨tb3,hw3⟩:=tb2.old L o3 hw2;have hv:2*(4+6+((E'N ps ps.length).length+2)/2)=2*(11+ps.length):=by rw[hgl];omega
  have e4':c 21 [ptr p,ni (2*(10+ps.length)),ni 2] g=some (ni (2*(11+ps.length)),g3):=by rw[<-hv];exact e4
  have x4:NT O ro w3 g3 p ⟨4,6,E'N ps (ps.length+1),List.replicate 6 0,List.replicate 6 0,0⟩ vg3 vn2 vr2:=by
   have hwI:wdI ps ps.length=2:=by unfold wdI;rw[hend]
   rw[G'h,hwI,if_neg (by omega)];exact x3
  have c5:=Ch.put L (K:=λu=>u=((17,0):Tag)) x4.m 5 (by simp) (ni (2*(11+ps.length))) rfl;have p5:=A'8 (O:=O) (v:=ni (2*(11+ps.length))) (x4.m.get 5 _ rfl);have x5:NT O ro w3 (O.put g3 p 5 (ni (2*(11+ps.length)))) p (wdX ps (2*(11+ps.length))) vg3 vn2 vr2:=⟨x4.m.put L 5 (by simp) _,x4.sg.ch L c5,x4.sn.ch L c5,x4.sr.ch L c5,l'G x4.lo c5.nx⟩;obtain⟨tb5,hw5⟩:=tb3.old L (Old.of c5 (by simp)) hw3;obtain⟨g5,hg5⟩:=e' (O.put g3 p 5 (ni (2*(11+ps.length))));rw[<-hg5]at p5 x5 tb5;have rp:¬p<ro:=by have:=x4.m.lo;omega
  obtain⟨g6,w6,e6,c6,lo6⟩:=Q'x C L x5 (R'I hl hp);have tb6:=tb5.ch L c6;obtain⟨vI,g7,w7,e7,s7,c7,lo7⟩:=Q'Y (w:=w6) C L W lo6 rd ns;have tb7:=tb6.ch L c7;obtain⟨bI,cI,hvI,-,yI⟩:=s7.blk (by omega) 1 rfl (by omega);have kI:=yI.get 0 _ rfl;rw[hvI]at e7;obtain⟨h8,e8⟩:=O'E C L tb7.gl lo7 hl hp W rd ns hb;have hb0:=hbit ps.length (l'H _);rw[hend]at hb0;have hd:=E'D inp 0;rw[hb0,if_pos rfl]at hd;have a1:=H'w (inp:Int);have hm:(inp:Int)%2=1:=by simp at hd;omega
  rw[hm]at a1;have hw0:IntKind.i64.wrap (0:Int)=0:=by rfl
  generalize txS (wdX ps (2*(11+ps.length)))=tx at *;generalize hzb:2*(11+ps.length)=zb at e4' p5;generalize 2*(10+ps.length)=za at *;have e3':c 20 [ptr p,.int .i64 0] g=some (.int .i64 2,g):=e3;have e4'':c 21 [ptr p,ni za,.int .i64 2] g=some (ni zb,g3):=e4';unfold ptr at e3' e4'' e6;refine s'f ?_;simp[Zm2,A'd,d5,e3'];refine s'f ?_;simp[Zm3,A'd,d5,d7,e4'',rp,p5];refine s'f ?_;simp[Zm4,A'd,d5,e6];refine s'f ?_;simp[Zm5,A'd,e7];refine okE.gen (λt=>t 1 = .int .i64 b∧t 6=ni ps.length∧t 12 = .string tx∧t 13 = .slice (some ⟨bI,0,some 1⟩) 1 cI∧t 14 = .int .i64 0∧t 15 = .bool true) ⟨by simp[d1],by simp[d6],by simp,by simp,by simp,by simp⟩ ?_;clear d1 d5 d6 d7 hr t;rintro t ⟨d1,d6,d12,d13,d14,d15⟩;refine okE.seq (s'f ?_);simp[Zm6,A'd,d13,d14,d15,kI,a1,hw0];refine okE.cond false (by simp) ?_;simp only[l'y,if_false];refine f'f ?_;simp only[A'f,A'g,A'd];refine okE.seq (s'f ?_);simp[Zm8,A'd];refine okE.blk ?_;refine okE.mono (okE.loop (Q:=λe t' g'=>A's 2 e = .normal∧t' 1 = .int .i64 b∧t' 12 = .string tx∧g'=g7) (WeI ps.length b tx (.slice (some ⟨bI,0,some 1⟩) 1 cI) g7) (λn t g I=>O'G hl hp hi hbit yI hpk' I) ps.length _ _ ⟨by simp[d1],by simp[d6],by simp[d12],by simp[d13],rfl,0,by simp,by omega⟩) ?_;rintro e' t' g' ⟨hr2,f1,f12,rfl⟩;rw[hr2];simp only[A'd];refine f'f ?_;simp[Zne,f1,f12,e8,A'L,A'h,rvE]
 obtain⟨u,h',e,rfl⟩:=key;exact⟨h',e⟩
end
end Go.Proofs.YtimdkminagnhgabGreatDoor
