import Derived.Test.YtimdkminagnhgabGreatDoorQ25
import Derived.Test.YtimdkminagnhgabGreatDoorQ21
import Derived.Test.YtimdkminagnhgabGreatDoorQ26
import Derived.Test.YtimdkminagnhgabGreatDoorQ23
set_option linter.all false
namespace Go.Proofs.YtimdkminagnhgabGreatDoor
open Go.Vm Go.Proofs
set_option maxHeartbeats 300000
set_option maxRecDepth 4000
def dg (n:Nat): UInt8:=UInt8.ofNat (48+n)
def B'8 (n:Nat): ByteArray:=
 if n<10 then ⟨#[dg n]⟩ else if n<100 then ⟨#[dg (n/10),dg (n%10)]⟩ else ⟨#[dg (n/100),dg (n/10%10),dg (n%10)]⟩
theorem okE.once1 {H:Type}{c:A'X H}{F:B'L H}{t:Env}{h:H}{Q:Exit->Env->H->Prop}(a:okE c F (t,h) (λe t' h'=>e≠.normal∧Q e t' h')): okE c (A'1 F) (t,h) Q:=by
 refine okE.loop (λn t' h'=>t'=t∧h'=h) ?_ 0 t h ⟨rfl,rfl⟩;rintro n t' h' ⟨rfl,rfl⟩;exact okE.mono a λe t' h' hq=>.inr hq
theorem R'v: ∀n:Fin 10,(⟨#[48,49,50,51,52,53,54,55,56,57,97,98,99,100,101,102,103,104,105,106,107,108,109,110,111,112,113,114,115,116,117,118,119,120,121,122]⟩:ByteArray).extract n (n+1)=B'8 n:=by decide
theorem Q'a: ∀n:Fin 100,10<=n.val->strC200.extract (n*2) (n*2+2)=B'8 n:=by decide
theorem S'D: ∀n:Fin 100,strC200[n.val*2]?=some (dg (n/10))∧strC200[n.val*2+1]?=some (dg (n%10)):=by decide
theorem S'E: ∀n:Fin 256,100<=n.val->J'j[n.val]?=some (if n.val<128 then 7 else 8):=by decide
theorem E'w (n:Nat)(h:n<256): IntKind.u8.wrap (n:Int)=(n:Int):=by
 simp only[IntKind.wrap,IntKind.bits,IntKind.signed,Bool.false_and,l'y,if_false];omega
theorem D'B (n:Nat)(h:n<4294967296): IntKind.u32.wrap (n:Int)=(n:Int):=by
 simp only[IntKind.wrap,IntKind.bits,IntKind.signed,Bool.false_and,l'y,if_false];omega
theorem L'f (n:Nat)(h:n<4294967296): IntKind.u64.wrap (n:Int)=(n:Int):=by
 simp only[IntKind.wrap,IntKind.bits,IntKind.signed,Bool.false_and,l'y,if_false];omega
theorem J'k (k:IntKind)(a b:Nat)(h:0<b): C'f .rem k (a:Int) (b:Int)=some (.int k ((a%b:Nat):Int)):=by
 simp only[C'f];rw[if_neg (by omega),Int.tmod_eq_emod_of_nonneg (by omega)];rfl
theorem F'Y (k:IntKind)(a b:Nat)(h:0<b)(hw:k.wrap ((a/b:Nat):Int)=((a/b:Nat):Int)): C'f .quo k (a:Int) (b:Int)=some (.int k ((a/b:Nat):Int)):=by
 simp only[C'f];have:(a:Int).tdiv b=((a/b:Nat):Int):=by rw[Int.tdiv_eq_ediv_of_nonneg (by omega)];rfl
 rw[if_neg (by omega),this,hw]
section
variable {H:Type}{O:HI H}{ro:Nat}{c:A'X H}
structure Gl (O:HI H)(w:Own)(h:H):Prop where
 tag:w 0=(60,0)
 al:O.alive h 0=true
 c:∀i,i<20->O.cell h 0 i=some (.int .u64 ((10^i:Nat):Int))
theorem Gl.ch (L:O.Law){K:Tag->Prop}{w w':Own}{h h':H}(x:Gl O w h)(a:Ch O K w h w' h')(hk:¬K (60,0):=by simp): Gl O w' h':=by
 have hb:=L.alive_lt _ _ x.al;have hf:=a.fr 0 hb (by rw[x.tag];exact hk);exact⟨by rw[a.ow 0 hb,x.tag],by rw[hf.2,x.al],λi hi=>by rw[hf.1,x.c i hi]⟩
theorem Q'b (w:Own)(N:Nat): ∃n,∀b,b<N->w b≠(100,n):=by
 have:∃n,∀b,b<N->(w b).2<n:=by
  induction N with
  | zero=>exact⟨0,λb hb=>by omega⟩
  | succ N ih=>
   obtain⟨n,hn⟩:=ih;refine⟨max n ((w N).2+1),λb hb=>?_⟩
   by_cases h:b=N
   ·subst h;omega
   ·have:=hn b (by omega);omega
 obtain⟨n,hn⟩:=this;exact⟨n,λb hb he=>by have:=hn b hb;rw[he]at this;simp at this⟩
theorem Ch.loc {w w1 w2:Own}{h h1 h2:H}{n:Nat}(hn:∀b,b<O.next h->w b≠(100,n))(a:∀K,Ch O K w h w1 h1)(b:Ch O (λu=>u=(100,n)) w1 h1 w2 h2): ∀K,Ch O K w h w2 h2:=by
 intro K;have a:=a K;refine⟨l'G a.nx b.nx,λx hx=>?_,λx hx hk=>?_⟩
 ·rw[b.ow x (Nat.lt_of_lt_of_le hx a.nx),a.ow x hx]
 ·have h1:=a.fr x hx hk;have h2:=b.fr x (Nat.lt_of_lt_of_le hx a.nx) (by rw[a.ow x hx];exact hn x hx);exact⟨λo=>(h2.1 o).trans (h1.1 o),h2.2.trans h1.2⟩
attribute [local simp] A'b A'c reg to too A'a A'n A'i mv' nl' fl' ld' ln' mk' ia' ik' ix' B'C B'D aLd A'5 A'q A'7 A'3 A'2 aUn unA ev A'k isB A'Z A'C A'D A'E A'F A'G A'H A'I A'J A'K cIf A'y A'f A'g A'L A'h rvE aSt A'M A't A'N A'O A'P B'c A'Q A'u A'R A'S B'd A'T A'v A'U A'V A'W B'e A'l Instr.fill A'e A'r A'z A's ptr undef B'o B'r A'j B'n A'w B'w A'B B'A A'x B'p rangeA B'E B'P B'4 F'y
theorem bnd (q d top:Nat)(h:q<=top): A'm (some (.int .i64 (q:Int))) d top=some q:=by
 simp only[A'm];rw[if_pos (by omega)];simp
theorem J'l (C:LP' O ro c)(h:H)(n:Nat)(hn:n<100): c 164 [.int .i64 (n:Nat)] h=some (.string (B'8 n),h):=by
 refine C.eq (N'4 O ro) rfl rfl (f'f ?_)
 by_cases h1:n<10
 ·have h1':(n:Int)<10:=by omega
  have e1:=R'v ⟨n,h1⟩;simp only at e1;obtain⟨q,hq⟩:=e' (n+1);have hw:IntKind.i64.wrap ((n:Int)+1)=(q:Int):=w'i;have s1:(⟨#[48,49,50,51,52,53,54,55,56,57,97,98,99,100,101,102,103,104,105,106,107,108,109,110,111,112,113,114,115,116,117,118,119,120,121,122]⟩:ByteArray).size=36:=rfl;have b1:=bnd q 36 36 (by omega);have b2:=bnd n 0 q (by omega);rw[<-hq]at e1;simp[R'r,Zl3,Zl4,Zl5,h1,h1',hw,s1,b1,b2,e1]
 ·have h1':¬(n:Int)<10:=by omega
  have e1:=Q'a ⟨n,hn⟩ (by simp only;omega);simp only at e1;obtain⟨m,hm⟩:=e' (n*2);obtain⟨q,hq⟩:=e' (m+2);have hw:IntKind.i64.wrap ((n:Int)*2)=(m:Int):=w'i;have hw2:IntKind.i64.wrap ((m:Int)+2)=(q:Int):=w'i;rw[<-hm,<-hq]at e1;have s1:strC200.size=200:=rfl;have b1:=bnd q 200 200 (by omega);have b2:=bnd m 0 q (by omega);simp[R'r,Zl3,Zl4,Zl6,h1,h1',hw,hw2,s1,b1,b2,e1]
theorem O'a (C:LP' O ro c)(h:H)(n:Nat)(h0:100<=n)(hn:n<256): c 197 [.int .u64 (n:Nat)] h=some (.int .i64 (if n<128 then 7 else 8),h):=by
 refine C.eq (N'8 O ro) rfl rfl (f'f ?_);have e1:=S'E ⟨n,hn⟩ h0;simp only at e1;have b1:¬(4294967296:Int)<=n:=by omega
 have b2:¬(65536:Int)<=n:=by omega
 have b3:¬(256:Int)<=n:=by omega
 have d1:¬4294967296<=n:=by omega
 have d2:¬65536<=n:=by omega
 have d3:¬256<=n:=by omega
 have w1:=E'w n hn;have w2:IntKind.i64.wrap 7=7:=by decide
 have w3:IntKind.i64.wrap 8=8:=by decide
 by_cases hx:n<128
 ·rw[if_pos hx]at e1 ⊢;simp[R't,ZmD,ZmE,ZmH,ZmK,ZmN,b1,b2,b3,d1,d2,d3,w1,e1,w2]
 ·rw[if_neg hx]at e1 ⊢;simp[R't,ZmD,ZmE,ZmH,ZmK,ZmN,b1,b2,b3,d1,d2,d3,w1,e1,w3]
theorem Q'c (C:LP' O ro c)(h:H)(n:Nat)(h0:n=7∨n=8): c 196 [.int .i64 (n:Nat)] h=some (.int .i64 2,h):=by
 refine C.eq (N'7 O ro) rfl rfl (f'f ?_);have w1:IntKind.i64.wrap 552391=552391:=by decide
 have w2:IntKind.i64.wrap 631304=631304:=by decide
 have f1:Int.fdiv 552391 (2^min 18 IntKind.i64.bits)=2:=by decide
 have f2:Int.fdiv 631304 (2^min 18 IntKind.i64.bits)=2:=by decide
 rcases h0 with rfl|rfl
 ·simp[R's,ZmB,ZmC,w1,f1]
 ·simp[R's,ZmB,ZmC,w2,f2]
theorem O'b (C:LP' O ro c)(h:H)(b:Bool): c 198 [.bool b] h=some (.int .i64 (if b then 1 else 0),h):=by
 refine C.eq (N'9 O ro) rfl rfl (f'f ?_)
 cases b
 ·simp[R'u,ZmO,ZmP,ZmR]
 ·simp[R'u,ZmO,ZmP,ZmQ]
theorem Q'd (C:LP' O ro c){w:Own}{h:H}(g:Gl O w h)(n:Nat)(h0:100<=n)(hn:n<256): c 165 [.int .u64 (n:Nat)] h=some (.int .i64 3,h):=by
 refine C.eq (N'5 O ro) rfl rfl (f'f ?_);have e1:=O'a C h n h0 hn;have e2:c 196 [.int .i64 (if n<128 then 7 else 8)] h=some (.int .i64 2,h):=by
  by_cases hx:n<128
  ·rw[if_pos hx];exact Q'c C h 7 (.inl rfl)
  ·rw[if_neg hx];exact Q'c C h 8 (.inr rfl)
 have e3:=g.c 2 (by omega);have e4:c 198 [.bool true] h=some (.int .i64 1,h):=O'b C h true;have e5:(100:Int)<=n:=by omega
 have w3:IntKind.i64.wrap 3=3:=by decide
 simp[S'f,Zl7,Zl8,Zl9,e1,e2,e3,e4,e5,h0,w3]
theorem D'W {k:Nat}(h:k<200): (dg k).toNat=48+k:=by
 simp only[dg,UInt8.toNat_ofNat'];omega
def z24: List Value:=[.int .u8 0,.int .u8 0,.int .u8 0,.int .u8 0,.int .u8 0,.int .u8 0,.int .u8 0,.int .u8 0,.int .u8 0,.int .u8 0,.int .u8 0,.int .u8 0,.int .u8 0,.int .u8 0,.int .u8 0,.int .u8 0,.int .u8 0,.int .u8 0,.int .u8 0,.int .u8 0,.int .u8 0,.int .u8 0,.int .u8 0,.int .u8 0]
theorem R'w (C:LP' O ro c)(L:O.Law){w:Own}{h:H}{t:Tag}{b:Nat}(x:Bx O ro w h t b z24)(n:Nat)(h0:100<=n)(hn:n<1000)(v1 v2:Value)(hv1:v1 = .int .u8 ((dg (n%10)).toNat:Int))(hv2:v2 = .int .u8 ((dg (n/10%10)).toNat:Int))(q:Nat)(hq:q=n/100):
  ∃h',c 166 [.slice (some ⟨b,1,some 1⟩) 3 0,.int .u64 (n:Nat)] h=some (.tuple #[],h')∧Bx O ro w h' t b (((z24.set 3 v1).set 2 v2).set 1 (.int .u8 (48+(q:Int))))∧Ch O (λu=>u=t) w h w h':=by
 obtain⟨q1,q2⟩:=S'D ⟨n%100,by omega⟩;simp only at q1 q2;rw[show n%100/10=n/10%10 by omega]at q1;rw[show n%100%10=n%10 by omega]at q2;obtain⟨m,hm⟩:=e' (n%100);obtain⟨m2,hm2⟩:=e' (m*2);obtain⟨m3,hm3⟩:=e' (m2+1);rw[<-hm,<-hm2]at q1 q2;rw[<-hm3]at q2;have w1:=D'B n (by omega);have w2:IntKind.u32.wrap ((m:Int)*2)=(m2:Int):=by rw[show ((m:Int)*2)=((m2:Nat):Int) by omega];exact D'B _ (by omega)
 have w3:IntKind.u32.wrap ((m2:Int)+1)=(m3:Int):=by rw[show ((m2:Int)+1)=((m3:Nat):Int) by omega];exact D'B _ (by omega)
 have w4:IntKind.u32.wrap (48+(q:Int))=48+(q:Int):=by rw[show (48+(q:Int))=((48+q:Nat):Int) by omega];exact D'B _ (by omega)
 have w5:IntKind.u8.wrap (48+(q:Int))=48+(q:Int):=by rw[show (48+(q:Int))=((48+q:Nat):Int) by omega];exact E'w _ (by omega)
 have w6:IntKind.i64.wrap 2=2:=by decide
 have w7:IntKind.i64.wrap 1=1:=by decide
 have r1:C'f .rem .u32 (n:Int) 100=some (.int .u32 (m:Int)):=by rw[hm];exact J'k .u32 n 100 (by omega)
 have r2:C'f .quo .u32 (n:Int) 100=some (.int .u32 (q:Int)):=by rw[hq];exact F'Y .u32 n 100 (by omega) (D'B _ (by omega))
 have hrob:¬b<ro:=by have:=x.lo;omega
 have x1:=x.put L 3 (by simp[z24]) v1;have c1:=Ch.put L (K:=λu=>u=t) x 3 (by simp[z24]) v1 rfl;have k1:=x.get 3 (.int .u8 0) rfl;obtain⟨h1,hh1⟩:=e' (O.put h b 3 v1);rw[<-hh1]at x1 c1;have x2:=x1.put L 2 (by simp[z24]) v2;have c2:=Ch.put L (K:=λu=>u=t) x1 2 (by simp[z24]) v2 rfl;have k2:=x1.get 2 (.int .u8 0) rfl;obtain⟨h2,hh2⟩:=e' (O.put h1 b 2 v2);rw[<-hh2]at x2 c2;have x3:=x2.put L 1 (by simp[z24]) (.int .u8 (48+(q:Int)));have c3:=Ch.put L (K:=λu=>u=t) x2 1 (by simp[z24]) (.int .u8 (48+(q:Int))) rfl;have k3:=x2.get 1 (.int .u8 0) rfl;obtain⟨h3,hh3⟩:=e' (O.put h2 b 1 (.int .u8 (48+(q:Int))));rw[<-hh3]at x3 c3;have p1:A'6 O h b 3 [v1]=some h1:=by simp[A'6,k1,hh1]
 have p2:A'6 O h1 b 2 [v2]=some h2:=by simp[A'6,k2,hh2]
 have p3:A'6 O h2 b 1 [.int .u8 (48+(q:Int))]=some h3:=by simp[A'6,k3,hh3]
 have f1:v1.cells = #[v1]∧B'f v1=true∧B'j v1=false:=by subst hv1;exact⟨rfl,rfl,rfl⟩
 have f2:v2.cells = #[v2]∧B'f v2=true∧B'j v2=false:=by subst hv2;exact⟨rfl,rfl,rfl⟩
 refine⟨h3,?_,x3,(c1.trans c2).trans c3⟩;refine C.eq (N'6 O ro) rfl rfl ?_;unfold S'g;refine s'f ?_;simp[Zma,A'd,-A'L,-A'h,-rvE];refine okE.seq (okE.blk (okE.once1 ?_));unfold L'7;refine s'f ?_;simp[Zmb,A'd,-A'L,-A'h,-rvE];refine s'f ?_;simp[Zmm,w1,A'd,-A'L,-A'h,-rvE];refine okE.seq (s'f ?_);simp[Zmn,A'd,-A'L,-A'h,-rvE];refine okE.cond false (by simp) ?_;refine okE.skip ?_;simp only[A'd];refine okE.seq (s'f ?_);simp[Zmu,A'd,-A'L,-A'h,-rvE];refine okE.cond true (by simp) ?_;simp only[if_true];refine s'f ?_;simp[Zmv,r1,w2,A'd,-A'L,-A'h,-rvE];refine s'f ?_;simp[Zmw,r2,A'd,-A'L,-A'h,-rvE];refine s'f ?_;simp[Zmx,w3,w6,w7,q1,q2,<-hv1,<-hv2,hrob,f1.1,f1.2.1,f1.2.2,f2.1,f2.2.1,f2.2.2,p1,p2,A'd,-A'L,-A'h,-rvE];refine f'f ?_;simp[Zmy,w7,A'd,-A'L,-A'h,-rvE];refine f'f ?_;simp[Zmz,ZmA,w4,w5,w7,hrob,p3]
theorem S'F (C:LP' O ro c)(L:O.Law){w:Own}{h:H}(g:Gl O w h)(lo:ro<=O.next h)(n:Nat)(hn:n<256):
  ∃w' h',c 130 [.int .i64 (n:Nat),.int .i64 10] h=some (.string (B'8 n),h')∧(∀K,Ch O K w h w' h')∧ro<=O.next h':=by
 by_cases h1:n<100
 ·refine⟨w,h,?_,λK=>Ch.refl _ _ _,lo⟩;have e1:=J'l C h n h1;have h1':(n:Int)<100:=by omega
  refine C.eq (G'F O ro) rfl rfl ?_;unfold Q'5;refine s'f ?_;simp[ZlN,A'd,-A'L,-A'h,-rvE];refine okE.seq (s'f ?_);simp[ZlO,A'd,-A'L,-A'h,-rvE];refine okE.cond true (by simp) ?_;simp only[if_true];refine s'f ?_;simp[ZlP,ZlQ,h1,h1',e1,A'd]
 ·obtain⟨k,hk⟩:=Q'b w (O.next h);obtain⟨b,hb⟩:=e' (O.next h);obtain⟨h2,hh2⟩:=e' (O.new h z24);obtain⟨w2,hw2⟩:=e' (w.set b (100,k));have c2:∀K,Ch O K w h w2 h2:=λK=>by rw[hh2,hw2,hb];exact Ch.new L _ _ _ _ _
  have x2:Bx O ro w2 h2 (100,k) b z24:=by rw[hh2,hw2,hb];exact Bx.new L _ _ lo _ _
  have lo2:ro<=O.next h2:=l'G lo (c2 λ_=>True).nx
  have g2:=g.ch L (c2 λ_=>False) (by simp);have e1:=Q'd C g2 n (by omega) hn;obtain⟨v1,hv1⟩:∃v1:Value,v1 = .int .u8 ((dg (n%10)).toNat:Int):=⟨_,rfl⟩;obtain⟨v2,hv2⟩:∃v2:Value,v2 = .int .u8 ((dg (n/10%10)).toNat:Int):=⟨_,rfl⟩;obtain⟨q,hq⟩:=e' (n/100);obtain⟨h3,hc3,x3,c3⟩:=R'w C L x2 n (by omega) (by omega) v1 v2 hv1 hv2 q hq;have cc:∀K,Ch O K w h w2 h3:=Ch.loc hk c2 c3;have lo3:ro<=O.next h3:=l'G lo2 c3.nx
  refine⟨w2,h3,?_,cc,lo3⟩;have k23:=x2.get 23 (.int .u8 0) rfl;have k23':=x3.get 23 (.int .u8 0) rfl;have l3:cellsA O h3 b 1 3=some [.int .u8 (48+(q:Int)),v2,v1]:=by
   have:=x3.cells 1 3 (by simp[z24]);simpa [z24]using this
  have h1':¬(n:Int)<100:=by omega
  have n0:¬(n:Int)<0:=by omega
  have w1:=L'f n (by omega);have w4:IntKind.i64.wrap 4=4:=by decide
  have b1:A'm (some (.int .i64 4)) 24 24=some 4:=rfl;have b2:A'm (some (.int .i64 1)) 0 4=some 1:=rfl;have hby:B'S [.int .u8 (48+(q:Int)),v2,v1]=some [dg (n/100),dg (n/10%10),dg (n%10)]:=by
   rw[hv1,hv2];simp only[B'S,l'l,Int.toNat_natCast];rw[show (48+(q:Int)).toNat=48+q by omega,hq,D'W (by omega),D'W (by omega)];rfl
  have hdec:(⟨([dg (n/100),dg (n/10%10),dg (n%10)]).toArray⟩:ByteArray)=B'8 n:=by
   unfold B'8;rw[if_neg (by omega),if_neg h1]
  have hh2':h2=O.new h [.int .u8 0,.int .u8 0,.int .u8 0,.int .u8 0,.int .u8 0,.int .u8 0,.int .u8 0,.int .u8 0,.int .u8 0,.int .u8 0,.int .u8 0,.int .u8 0,.int .u8 0,.int .u8 0,.int .u8 0,.int .u8 0,.int .u8 0,.int .u8 0,.int .u8 0,.int .u8 0,.int .u8 0,.int .u8 0,.int .u8 0,.int .u8 0]:=hh2;refine C.eq (G'F O ro) rfl rfl ?_;unfold Q'5;refine s'f ?_;simp[ZlN,A'd,-A'L,-A'h,-rvE];refine okE.seq (s'f ?_);simp[ZlO,A'd,-A'L,-A'h,-rvE];refine okE.cond true (by simp) ?_;simp only[if_true];refine s'f ?_;simp[ZlP,h1,h1',A'd,-A'L,-A'h,-rvE];refine s'f ?_;simp[ZlR,<-hb,<-hh2',A'd,-A'L,-A'h,-rvE];refine s'f ?_;simp[ZlS,w1,A'd,-A'L,-A'h,-rvE];refine s'f ?_;simp[ZlT,n0,A'd,-A'L,-A'h,-rvE];refine s'f ?_;simp[ZlV,e1,A'd,-A'L,-A'h,-rvE];refine s'f ?_;simp[ZlW,w4,C'j,b1,b2,k23,hc3,A'd,-A'L,-A'h,-rvE];refine s'f ?_;simp[ZlX,n0,A'd,-A'L,-A'h,-rvE];refine f'f ?_;simp[Zl0,w4,C'j,b1,b2,k23',G'Y,l3,hby,hdec,A'd]
theorem L'8 (C:LP' O ro c)(L:O.Law){w:Own}{h:H}(g:Gl O w h)(lo:ro<=O.next h)(n:Nat)(hn:n<256):
  ∃w' h',c 48 [.int .i64 (n:Nat)] h=some (.string (B'8 n),h')∧(∀K,Ch O K w h w' h')∧ro<=O.next h':=by
 obtain⟨w',h',e1,c1,lo1⟩:=S'F C L g lo n hn;refine⟨w',h',?_,c1,lo1⟩;have e2:c 90 [.int .i64 (n:Nat)] h=some (.string (B'8 n),h'):=by
  refine C.eq (L'2 O ro) rfl rfl (f'f ?_);simp[F90,Zjc,Zjd,e1]
 refine C.eq (L'Z O ro) rfl rfl (f'f ?_);simp[F48,ZiW,ZiX,e2]
end
end Go.Proofs.YtimdkminagnhgabGreatDoor
namespace Go.Ta
def H'a (l:List ByteArray): ByteArray:=l.foldl (·++·) ⟨#[]⟩
theorem L'g (l:List ByteArray)(x:ByteArray): H'a (l++[x])=H'a l++x:=by
 unfold H'a;rw[List.foldl_append];rfl
theorem H'V (k:Nat): ∀(l:List ByteArray)(s:ByteArray),(∀x∈l,x.size<=k)->(l.foldl (·++·) s).size<=s.size+k*l.length:=by
 intro l
 induction l with
 | nil=>intro s _;simp
 | cons x l ih=>
  intro s h;have h1:=ih (s++x) (λy hy=>h y (by simp[hy]));have h2:=h x (by simp);rw[l'v]at h1;rw[List.foldl_cons,l'n,Nat.mul_add];omega
theorem J'm (k:Nat)(l:List ByteArray)(h:∀x∈l,x.size<=k): (H'a l).size<=k*l.length:=by
 have h1:=H'V k l ⟨#[]⟩ h;have h0:(⟨#[]⟩:ByteArray).size=0:=rfl;unfold H'a;omega
end Go.Ta
namespace Go.Proofs.YtimdkminagnhgabGreatDoor
open Go.Vm Go.Proofs Go.Ta
set_option maxHeartbeats 4000000
section
variable {H:Type}{O:HI H}{ro:Nat}{c:A'X H}
attribute [local simp] A'b A'c reg to too A'a A'n A'i mv' nl' fl' ld' ln' mk' ia' ik' ix' B'C B'D aLd A'5 A'q A'2 aUn unA ev A'k isB A'Z A'C A'D A'E A'F A'G A'H A'I A'J A'K cIf A'y A'f A'g aSt A'M A't A'N A'O A'P B'c A'Q A'u A'R A'S B'd A'T A'v A'U A'V A'W B'e A'l Instr.fill A'e A'r A'z A's ptr undef B'o B'r A'j B'n A'w A'B B'A A'x B'p rangeA B'E A'o A'4 A'A B'i A'p A'm chk
variable {w w':Own}{h h':H}{q:Nat}{S:Srch}{bW bH bV:Nat}{vA vC vT vS vK:Value}{lv wv:List Value}
variable {cp:Nat}{N:Ck}{v1 v2:Value}
attribute [local simp] B'4 F'y A'7
theorem Q'e (C:LP' O ro c)(h:H)(n:Nat)(hn:n<100): c 48 [ni n] h=some (.string (B'8 n),h):=by
 have e1:=J'l C h n hn;have h1':(n:Int)<100:=by omega
 have e0:c 130 [.int .i64 (n:Nat),.int .i64 10] h=some (.string (B'8 n),h):=by
  refine C.eq (G'F O ro) rfl rfl ?_;unfold Q'5;refine s'f ?_;simp[ZlN,A'd];refine okE.seq (s'f ?_);simp[ZlO,A'd];refine okE.cond true (by simp) ?_;simp only[if_true];refine s'f ?_;simp[ZlP,ZlQ,hn,h1',e1,A'd,A'L,A'h,rvE]
 have e2:c 90 [.int .i64 (n:Nat)] h=some (.string (B'8 n),h):=by
  refine C.eq (L'2 O ro) rfl rfl (f'f ?_);simp[F90,Zjc,Zjd,e0,A'L,A'h,rvE]
 refine C.eq (L'Z O ro) rfl rfl (f'f ?_);simp[F48,ZiW,ZiX,e2,A'L,A'h,rvE]
theorem C'0 (n:Nat): (B'8 n).size<=3:=by
 unfold B'8;split
 ·simp[ByteArray.size]
 ·split <;> simp[ByteArray.size]
def G'i (st i:Nat): List ByteArray:=(List.range i).map λj=>B'8 (st/2^j%2)
def J'n (st count:Nat): ByteArray:=H'a (G'i st count)++⟨#[10]⟩
theorem E'x (st i:Nat): (H'a (G'i st i)).size<=3*i:=by
 have:=J'm 3 (G'i st i) (by intro x hx;simp only[G'i,List.mem_map]at hx;obtain⟨j,-,rfl⟩:=hx;exact C'0 _);simpa [G'i]using this
def BlI (st count:Nat)(h:H)(n:Nat)(t:Env)(g:H): Prop:=
 g=h∧t 0=ni st∧t 1=ni count∧∃i,t 5 = .string (H'a (G'i st i))∧t 6=ni i∧i+n=count
theorem F'Z (C:LP' O ro c)(st count:Nat)(hst:st<9223372036854775808)(hc:count<=60): c 129 [ni st,ni count] h=some (.string (J'n st count),h):=by
 have key:∃u h',c 129 [ni st,ni count] h=some (u,h')∧(u = .string (J'n st count)∧h'=h):=by
  refine C.fn (N'U O ro) rfl rfl ?_;unfold S'c;refine s'f ?_;simp[Zlt,A'd];refine s'f ?_;simp[Zlu,A'd];refine okE.seq (s'f ?_);simp[Zlv,A'd];refine okE.blk ?_;refine okE.mono (okE.loop (Q:=λe t' g'=>A's 0 e = .normal∧g'=h∧t' 5 = .string (H'a (G'i st count))) (BlI st count h) ?_ count _ _ ⟨rfl,by simp,by simp,0,by simp[G'i,H'a],by simp,by omega⟩) ?_
  ·rintro n t g ⟨rfl,d0,d1,i,d5,d6,hin⟩
   cases n with
   | zero=>
    obtain rfl:i=count:=by omega
    refine f'f ?_;simp[J'e,Zlw,d0,d1,d5,d6]
   | succ n=>
    have hi:i<count:=by omega
    have hi':(i:Int)<count:=by omega
    have hsh:=G'C st i (by omega);have hand:=E'k (st/2^i) (by have:=Nat.div_le_self st (2^i);omega);have e1:=Q'e C g (st/2^i%2) (by have:=Nat.mod_lt (st/2^i) (show 0<2 by omega);omega);have hsz:=E'x st i;have hsz2:=C'0 (st/2^i%2);have hb:G'i st (i+1)=G'i st i++[B'8 (st/2^i%2)]:=by simp[G'i,l'B]
    have hcat:=L'g (G'i st i) (B'8 (st/2^i%2));rw[<-hb]at hcat;have hle:(H'a (G'i st i)).size+(B'8 (st/2^i%2)).size<=9223372036854775807:=by omega
    have hwi:=w'1 i;obtain⟨i',hi2⟩:=e' (i+1);rw[<-hi2]at hwi hcat;generalize hz:st/2^i=z at *;generalize hz2:z%2=z2 at *;generalize hs1:H'a (G'i st i)=s1 at *;generalize hs2:B'8 z2=s2 at *;refine f'f ?_;simp[J'e,Zlw,Zlx,Zly,d0,d1,d5,d6,hi,hi',hsh,hand,e1,hle,hwi];exact⟨n,by omega,rfl,by simp[d0],by simp[d1],i',by simp[hcat],by simp,by omega⟩
  ·rintro e t g ⟨hr,rfl,d5⟩;rw[hr];simp only[A'd];have hsz:=E'x st count;have hle:(H'a (G'i st count)).size+1<=9223372036854775807:=by omega
   unfold J'n;generalize H'a (G'i st count)=s1 at *;have h1:(⟨#[10]⟩:ByteArray).size=1:=rfl;refine f'f ?_;simp[Zlz,d5,h1,hle,A'L,A'h,rvE]
 obtain⟨u,h',e1,rfl,rfl⟩:=key;exact e1
def clB (cl:List Nat)(i:Nat): ByteArray:=(cl.take i).zipIdx.foldl (λs p=>((if 0<p.2 then s++⟨#[32]⟩ else s) |> λs=>if p.1%2=1 then s++⟨#[45]⟩ else s)++(⟨#[108]⟩++B'8 (p.1/2))) ⟨#[]⟩
def clS (cl:List Nat): ByteArray:=clB cl cl.length++⟨#[10]⟩
end
end Go.Proofs.YtimdkminagnhgabGreatDoor
namespace Go.Proofs.YtimdkminagnhgabGreatDoor
open Go.Vm Go.Proofs Go.Ta
set_option maxHeartbeats 4000000
section
variable {H:Type}{O:HI H}{ro:Nat}{c:A'X H}
attribute [local simp] A'b A'c reg to too A'a A'n A'i mv' nl' fl' ld' ln' mk' ia' ik' ix' B'C B'D aLd A'5 A'q A'2 aUn unA ev A'k isB A'Z A'C A'D A'E A'F A'G A'H A'I A'J A'K cIf A'y A'f A'g aSt A'M A't A'N A'O A'P B'c A'Q A'u A'R A'S B'd A'T A'v A'U A'V A'W B'e A'l Instr.fill A'e A'r A'z A's ptr undef B'o B'r A'j B'n A'w A'B B'A A'x B'p rangeA B'E A'o A'4 A'A B'i A'p A'm chk
variable {w w':Own}{h h':H}{q:Nat}{S:Srch}{bW bH bV:Nat}{vA vC vT vS vK:Value}{lv wv:List Value}
variable {cp:Nat}{N:Ck}{v1 v2:Value}
attribute [local simp] B'4 F'y A'7
def B'y (R:Rn): Nat:=(R.way.getLast?.getD (0,0)).1
theorem J'o (C:LP' O ro c)(L:O.Law){r:Nat}{R:Rn}{bud:Int}{vF vW vP:Value}{fs:List (Nat×Value)}(x:RN O ro w h r R bud cp N v1 v2 vF vW vP fs)(k:RnK N R): c 87 [ptr r] h=some (ni (B'y R),h):=by
 have hm:most=1000000:=rfl;have wl:=k.wl;have m4:=x.m.get 4 _ rfl;unfold B'y
 cases hw:R.way.getLast? with
 | none=>
  have hw0:R.way=[]:=by simpa using hw
  obtain⟨aW,cW,hvW⟩:=x.sW.m.len (by omega) 0 (by rw[hw0];rfl);rw[hvW]at m4;refine C.eq (L'4 O ro) rfl rfl (f'f ?_);simp[F87,ZkC,ZkD,ZkE,m4,A'L,A'h,rvE]
 | some y=>
  obtain⟨st,inp⟩:=y;have h0:0<R.way.length:=by
   rcases Nat.eq_zero_or_pos R.way.length with h|h
   ·rw[List.eq_nil_of_length_eq_zero h]at hw;simp at hw
   ·exact h
  obtain⟨bw,hvW,hst,sw⟩:=x.wayL L h0 hw;obtain⟨n1,hn1⟩:∃n1,R.way.length=n1+1:=⟨R.way.length-1,by omega⟩;rw[hvW,hn1]at m4;rw[show R.way.length-1=n1 by omega]at hst;have hwn:IntKind.i64.wrap (n1:Int)=(n1:Int):=w'j;have hn1':(n1:Int)<(n1:Int)+1:=by omega
  have hne:((n1:Int)+1==0)=false:=by rw[l'A];omega
  have hne':¬((n1:Int)+1=0):=by omega
  refine C.eq (L'4 O ro) rfl rfl ?_;unfold F87;refine s'f ?_;simp[ZkC,A'd];refine s'f ?_;simp[ZkD,A'd,m4,hne,hne'];refine f'f ?_;simp[ZkF,m4,hwn,hn1',hst,A'L,A'h,rvE]
def B'g (R:Rn): List Nat:=(R.way.map (·.2)).reverse
def InI (O:HI H)(ro:Nat)(w:Own)(h:H)(k0 r:Nat)(R:Rn)(n:Nat)(t:Env)(g:H): Prop:=
 t 0 = .pointer (some ⟨r,0,none⟩)∧t 4 = .int .i64 ((n:Int)-1)∧n<=R.way.length∧∃v,t 3=v∧GrI O ro w h k0 v (((R.way.drop n).map (·.2)).reverse) g
theorem H'b (C:LP' O ro c)(L:O.Law){r:Nat}{R:Rn}{bud:Int}{vF vW vP:Value}{fs:List (Nat×Value)}(x:RN O ro w h r R bud cp N v1 v2 vF vW vP fs)(k:RnK N R)(t1:Tag):
  ∃v h' w',c 88 [ptr r] h=some (v,h')∧Sm O ro w' h' t1 1 v ((B'g R).map ni)∧Ch O (λ_=>False) w h w' h'∧ro<=O.next h':=by
 have hm:most=1000000:=rfl;have wl:=k.wl;obtain⟨k0,hk0⟩:=C'I w (O.next h);have hwlen:=A'0 prC 2 C'n R.way;have key:∃u h',c 88 [ptr r] h=some (u,h')∧GrI O ro w h k0 u (B'g R) h':=by
  refine C.fn (P'4 O ro) rfl rfl ?_;unfold F88;refine s'f ?_;simp[ZkG,A'd];refine s'f ?_;simp[ZkH,A'd];have gr0:=GrI.new (w:=w) (k0:=k0) L x.lo;obtain⟨w0,s0,c0,lo0⟩:=id gr0;have m40:=(x.m.ch L c0).get 4 _ rfl;obtain⟨aW,cW,hvW⟩:=x.sW.m.len (by omega) R.way.length hwlen;have hw0:IntKind.i64.wrap ((R.way.length:Int)-1)=(R.way.length:Int)-1:=w'j;obtain⟨z0,hz0⟩:=e' ((R.way.length:Int)-1);rw[<-hz0]at hw0;have hw0':IntKind.i64.wrap ((R.way.length:Int)-1)=z0:=by rw[<-hz0];exact hw0
  rw[hvW]at m40;refine okE.seq (s'f ?_);simp[ZkI,A'd,m40,hw0'];refine okE.blk ?_;refine okE.mono (okE.loop (Q:=λe t' g'=>A's 0 e = .normal∧GrI O ro w h k0 (t' 3) (B'g R) g') (InI O ro w h k0 r R) ?_ R.way.length _ _ ⟨by simp,by simp[hz0],l'H _,.slice (some ⟨O.next h,0,some 1⟩) 0 1,by simp,by rw[List.drop_length];exact gr0⟩) ?_
  ·rintro n t g ⟨d0,d4,hnl,v,d3,gr⟩;obtain⟨w1,s1,c1,lo1⟩:=id gr;have x1:=x.keep L c1;have m4:=x1.m.get 4 _ rfl
   cases n with
   | zero=>
    rw[List.drop_zero]at gr;refine f'f ?_;simp[N'P,ZkJ,d0,d3,d4];exact gr
   | succ n=>
    have hi:n<R.way.length:=by omega
    have hi':(n:Int)<R.way.length:=by omega
    obtain⟨bw,e8,yw⟩:=x1.sW.blk (by omega) R.way.length hwlen (by omega);rw[e8]at m4;obtain⟨⟨st,inp⟩,hy⟩:∃y,R.way[n]?=some y:=⟨_,l'c hi⟩;have hcell:O.cell g bw (n*2+1)=some (ni inp):=by
     have h1:=B'z prC 2 C'n R.way n hi 1 (by omega);rw[yw.cell _ (by omega),h1,(l'b.1 hy).2];rfl
    obtain⟨v3,g3,e3,gr3⟩:=gr.app L hk0 inp (by simp;omega);have hst2:((R.way.drop (n+1)).map (·.2)).reverse++[inp]=((R.way.drop n).map (·.2)).reverse:=by
     rw[l's hi,(l'b.1 hy).2];simp
    rw[hst2]at gr3;have hz1:((n+1:Nat):Int)-1=(n:Int):=by omega
    rw[hz1]at d4;have hw1:IntKind.i64.wrap ((n:Int)-1)=(n:Int)-1:=w'j;obtain⟨z1,hzz⟩:=e' ((n:Int)-1);have hw1':IntKind.i64.wrap ((n:Int)-1)=z1:=by rw[hzz];exact hw1
    refine f'f ?_;simp[N'P,ZkJ,ZkK,ZkL,d0,d3,d4,m4,hi,hi',hcell,e3,hw1'];exact⟨n,by omega,by simp[d0],by simp[hzz],by omega,v3,by simp,gr3⟩
  ·rintro e t g ⟨hr,gr⟩;rw[hr];simp only[A'd];refine f'f ?_;have tv:=gr.tup;simp[ZkM,A'L,A'h,rvE,tv];exact gr
 obtain⟨u,h',e1,gr⟩:=key;obtain⟨w2,s2,c2,lo2⟩:=gr.give hk0 t1;exact⟨u,h',w2,e1,s2,c2,lo2⟩
def H'W (N:Ck)(st:Nat)(ins:List Nat): ByteArray:=ins.foldl (λs x=>s++J'n x N.ni) (⟨#[49,10,98,48,10]⟩++J'n st N.las.length)
def L'h (N:Ck)(R:Rn): ByteArray:=H'W N (B'y R) (B'g R)++⟨#[46,10]⟩
theorem D'C (st n:Nat): (J'n st n).size<=3*n+1:=by
 have h1:=E'x st n;have h2:(⟨#[10]⟩:ByteArray).size=1:=rfl;unfold J'n;rw[l'v];omega
theorem F'0 {N:Ck}{st x i:Nat}{ins:List Nat}(hx:ins[i]?=some x): H'W N st (ins.take (i+1))=H'W N st (ins.take i)++J'n x N.ni:=by
 unfold H'W;rw[l'C,hx,List.foldl_append];rfl
theorem F'1 {N:Ck}{st:Nat}{ins:List Nat}(h1:N.ni<=60)(h2:N.las.length<=60): ∀i,i<=ins.length->(H'W N st (ins.take i)).size<=186+181*i:=by
 intro i
 induction i with
 | zero=>
  intro _;have h3:=D'C st N.las.length;have h4:(⟨#[49,10,98,48,10]⟩:ByteArray).size=5:=rfl;simp only[H'W,List.take_zero,List.foldl_nil,l'v,h4];omega
 | succ i ih=>
  intro hi;obtain⟨x,hx⟩:∃x,ins[i]?=some x:=⟨_,l'c (by omega)⟩;rw[F'0 hx,l'v];have h3:=D'C x N.ni;have h4:=ih (by omega);omega
def UnI (O:HI H)(ro:Nat)(w:Own)(h:H)(r:Nat)(N:Ck)(R:Rn)(vi:Value)(n:Nat)(t:Env)(g:H): Prop:=
 g=h∧t 0 = .pointer (some ⟨r,0,none⟩)∧t 4=vi∧∃i,t 5 = .string (H'W N (B'y R) ((B'g R).take i))∧t 6=ni i∧i+n=(B'g R).length
theorem Q'f (C:LP' O ro c)(L:O.Law){r:Nat}{R:Rn}{bud:Int}{vF vW vP:Value}{fs:List (Nat×Value)}(x:RN O ro w h r R bud cp N v1 v2 vF vW vP fs)(k:RnK N R)(hni:N.ni<=60)(hla:N.las.length<=60):
  ∃h' w',c 89 [ptr r] h=some (.string (L'h N R),h')∧Ch O (λ_=>False) w h w' h'∧ro<=O.next h':=by
 have hm:most=1000000:=rfl;have wl:=k.wl;have e1:=J'o C L x k;obtain⟨vi,g2,w2,e2,s2,c2,lo2⟩:=H'b C L x k (9,1);have x2:=x.keep L c2;have hil:(B'g R).length<=most:=by simp[B'g];omega
 have hfb:B'y R<1152921504606846976:=by
  unfold B'y
  cases hw:R.way.getLast? with
  | none=>simp
  | some y=>exact (k.wy y (List.mem_of_getLast? hw)).1
 have e3:=F'Z (h:=g2) C (B'y R) N.las.length (by omega) hla;obtain⟨aI,cI,hvi⟩:=s2.len (by omega) (B'g R).length (by simp);have m0:=x2.m.get 0 _ rfl;have x1:=x2.X.m.get 1 _ rfl;have x0:=x2.X.m.get 0 _ rfl;obtain⟨aL,cL,hv1⟩:=x2.X.len1;rw[hv1]at x1;have key:∃u h',c 89 [ptr r] h=some (u,h')∧(u = .string (L'h N R)∧h'=g2):=by
  refine C.fn (P'5 O ro) rfl rfl ?_;unfold F89;unfold ptr at e1 e2 m0;have tv:=s2.flat.2.2;have h5:(⟨#[49,10,98,48,10]⟩:ByteArray).size=5:=rfl;have hb5:=D'C (B'y R) N.las.length;have hle0:5+(J'n (B'y R) N.las.length).size<=9223372036854775807:=by omega
  refine s'f ?_;simp[ZkN,A'd];refine s'f ?_;simp[ZkO,A'd,e1];refine s'f ?_;simp[ZkP,A'd,e2,tv];refine s'f ?_;simp[ZkQ,A'd,m0,x1,e3,h5,hle0];refine okE.seq (s'f ?_);simp[ZkR,A'd];refine okE.blk ?_;refine okE.mono (okE.loop (Q:=λe t' g'=>A's 0 e = .normal∧g'=g2∧t' 5 = .string (H'W N (B'y R) (B'g R))) (UnI O ro w2 g2 r N R vi) ?_ (B'g R).length _ _ ⟨rfl,by simp,by simp,0,by simp[H'W],by simp,by omega⟩) ?_
  ·rintro n t g ⟨rfl,d0,d4,i,d5,d6,hin⟩
   cases n with
   | zero=>
    obtain rfl:i=(B'g R).length:=by omega
    rw[hvi]at d4;rw[List.take_length]at d5;refine f'f ?_;simp[N'Q,ZkS,d0,d4,d5,d6]
   | succ n=>
    have hi:i<(B'g R).length:=by omega
    have hi':(i:Int)<(B'g R).length:=by omega
    obtain⟨bL,cpp,e8,hcp,yl⟩:=s2.blk (by omega) (B'g R).length (by simp) (by omega);have d4':=d4;rw[e8]at d4';obtain⟨a,ha⟩:∃a,(B'g R)[i]?=some a:=⟨_,l'c hi⟩;have hcell:O.cell g bL i=some (ni a):=by rw[yl.cell i (by simpa using hi)];simp[ha]
    have hab:a<1152921504606846976:=by
     have:=l'f ha;simp only[B'g,List.mem_reverse,List.mem_map]at this;obtain⟨m,hm,rfl⟩:=this;exact (k.wy m hm).2
    have e4:=F'Z (h:=g) C a N.ni (by omega) hni;have hsz:=F'1 (st:=B'y R) (ins:=B'g R) hni hla i (by omega);have hsz2:=D'C a N.ni;have hsucc:=F'0 (N:=N) (st:=B'y R) ha;have hwi:=w'1 i;obtain⟨i',hi2⟩:=e' (i+1);rw[<-hi2]at hwi hsucc;have hle:(H'W N (B'y R) ((B'g R).take i)).size+(J'n a N.ni).size<=9223372036854775807:=by omega
    generalize H'W N (B'y R) ((B'g R).take i)=s1 at *;generalize J'n a N.ni=s3 at *;refine f'f ?_;simp[N'Q,ZkS,ZkT,ZkU,d0,d4',d5,d6,hi,hi',hcell,m0,x0,e4,hle,hwi];exact⟨n,by omega,rfl,by simp[d0],by simp[d4',e8],i',by simp[hsucc],by simp,by omega⟩
  ·rintro e t g ⟨hr,rfl,d5⟩;rw[hr];simp only[A'd];have hsz:=F'1 (st:=B'y R) (ins:=B'g R) hni hla _ (l'H _);rw[List.take_length]at hsz;unfold L'h;have h2:(⟨#[46,10]⟩:ByteArray).size=2:=rfl;have hle:(H'W N (B'y R) (B'g R)).size+2<=9223372036854775807:=by omega
   generalize H'W N (B'y R) (B'g R)=s1 at *;refine f'f ?_;simp[ZkV,d5,h2,hle,A'L,A'h,rvE]
 obtain⟨u,h',e1,rfl,rfl⟩:=key;exact⟨_,w2,e1,c2,lo2⟩
def S'G (ks:List (List Nat)): ByteArray:=ks.foldl (λs x=>s++clS x) ⟨#[48,10,98,48,10]⟩
def S'H (ks:List (List Nat)): ByteArray:=S'G ks++⟨#[46,10]⟩
end
end Go.Proofs.YtimdkminagnhgabGreatDoor
