import Derived.Test.YtimdkminagnhgabGreatDoorQ28
import Derived.Test.YtimdkminagnhgabGreatDoorQ31
set_option linter.all false
namespace Go.Proofs.YtimdkminagnhgabGreatDoor
open Go.Vm Go.Proofs Go.Ta
set_option maxHeartbeats 4000000
attribute [local simp] A'b A'c reg to too A'a A'n A'i mv' nl' fl' ld' ln' mk' ia' ik' ix' B'C B'D aLd A'5 A'q A'2 aUn unA ev A'k isB A'Z A'C A'D A'E A'F A'G A'H A'I A'J A'K cIf A'y A'f A'g aSt A'M A't A'N A'O A'P B'c A'Q A'u A'R A'S B'd A'T A'v A'U A'V A'W B'e A'l Instr.fill A'e A'r A'z A's ptr undef B'o B'r A'j B'n A'w A'B B'A A'x B'p rangeA B'E A'o A'4 A'A B'i A'p A'm chk
section
variable {H:Type}{O:HI H}{ro:Nat}{c:A'X H}
variable {w w':Own}{h h':H}{q:Nat}{S:Srch}{bW bH bV:Nat}{vA vC vT vS vK:Value}{lv wv:List Value}
variable {cp:Nat}{N:Ck}{v1 v2:Value}
attribute [local simp] B'4 F'y A'7 G'Y B'S
theorem J'q (n:Nat)(h:n<256): IntKind.u8.wrap (n:Int)=(n:Int):=by
 simp only[IntKind.wrap,show IntKind.u8.bits=8 from rfl,show IntKind.u8.signed=false from rfl,Bool.false_and,show (2:Int)^8=256 from rfl];simp;omega
theorem M'b (C:LP' O ro c)(L:O.Law)(lo:ro<=O.next h)(n:Nat)(hn:n<10): ∃h' w',c 62 [ni n] h=some (.string (B'8 n),h')∧Ch O (λ_=>False) w h w' h'∧ro<=O.next h':=by
 obtain⟨k0,hk0⟩:=C'I w (O.next h);have y1:=Bx.new L (ro:=ro) w h lo (14,k0) [.int .u8 ((48+n:Nat):Int)];have c1:=Ch.new L (λ_=>False) w h (14,k0) [.int .u8 ((48+n:Nat):Int)];refine⟨_,_,?_,c1,l'G lo c1.nx⟩;have hall:=y1.all;simp only[l'n,l'o]at hall;have hd:B'8 n=⟨#[dg n]⟩:=by unfold B'8;rw[if_pos hn]
 have hn':(n:Int)<10:=by omega
 have w1:IntKind.i64.wrap (48+(n:Int))=((48+n:Nat):Int):=w'i;have w2:=J'q (48+n) (by omega);have hr1:List.range 1=[0]:=rfl;obtain⟨z,hz⟩:=e' (48+n);rw[<-hz]at w1 w2 hall ⊢;have hdg:dg n=UInt8.ofNat z:=by rw[hz];rfl
 rw[hd,hdg];refine C.eq (M'a O ro) rfl rfl ?_;unfold F62;refine s'f ?_;simp[Zo3,A'd];refine s'f ?_;simp[Zo4,Zo5,A'd,hn,hn',w1,w2,hr1,hall,A'L,A'h,rvE]
theorem S'J (n:Nat)(h0:10<=n)(h1:n<1000): B'8 (n/10)++(⟨#[UInt8.ofNat (48+n%10)]⟩:ByteArray)=B'8 n:=by
 unfold B'8;rw[if_neg (show ¬n<10 by omega)]
 by_cases h2:n<100
 ·rw[if_pos (by omega),if_pos h2];rfl
 ·rw[if_neg (by omega),if_pos (by omega),if_neg h2,Nat.div_div_eq_div_mul];rfl
theorem M'c (C:LP' O ro c)(L:O.Law){n:Nat}(h1:10<=n)(hn:n<1000){h2:H}{w2:Own}(e2:c 62 [ni (n/10)] h=some (.string (B'8 (n/10)),h2))(c2:Ch O (λ_=>False) w h w2 h2)(lo2:ro<=O.next h2): ∃h' w',c 62 [ni n] h=some (.string (B'8 n),h')∧Ch O (λ_=>False) w h w' h'∧ro<=O.next h':=by
 obtain⟨k0,hk0⟩:=C'I w2 (O.next h2);have y3:=Bx.new L (ro:=ro) w2 h2 lo2 (14,k0) [.int .u8 ((48+n%10:Nat):Int)];have c3:=Ch.new L (λ_=>False) w2 h2 (14,k0) [.int .u8 ((48+n%10:Nat):Int)];refine⟨_,_,?_,c2.trans c3,l'G lo2 c3.nx⟩;have hall:=y3.all;simp only[l'n,l'o]at hall;have hcat:=S'J n h1 hn;have hs1:=C'0 (n/10);have h1':¬n<10:=by omega
 have hn':¬(n:Int)<10:=by omega
 have q1:=F'Y .i64 n 10 (by omega) (B'J (by omega) (by omega));have q2:=J'k .i64 n 10 (by omega);have w1:IntKind.i64.wrap (48+((n%10:Nat):Int))=((48+n%10:Nat):Int):=w'i;have w2:=J'q (48+n%10) (by omega);have hr1:List.range 1=[0]:=rfl;obtain⟨z,hz⟩:=e' (48+n%10);rw[<-hz]at w1 w2 hall hcat ⊢;generalize B'8 (n/10)=s1 at *;generalize B'8 n=s2 at *;generalize n%10=b at *;generalize n/10=a at *;have q1':C'f .quo .i64 (n:Int) 10=some (.int .i64 (a:Int)):=q1;have q2':C'f .rem .i64 (n:Int) 10=some (.int .i64 (b:Int)):=q2;have hsz:s1.size+(⟨#[UInt8.ofNat z]⟩:ByteArray).size<=9223372036854775807:=by
  have:(⟨#[UInt8.ofNat z]⟩:ByteArray).size=1:=rfl;omega
 refine C.eq (M'a O ro) rfl rfl ?_;unfold F62;refine s'f ?_;simp[Zo3,A'd];refine s'f ?_;simp[Zo4,A'd,h1',hn'];refine s'f ?_;simp[Zo6,A'd,q1',e2];refine f'f ?_;simp[Zo7,q2',w1,w2,hr1,hall,hcat,hsz,A'L,A'h,rvE]
theorem M'd (C:LP' O ro c)(L:O.Law)(lo:ro<=O.next h)(n:Nat)(hn:n<100): ∃h' w',c 62 [ni n] h=some (.string (B'8 n),h')∧Ch O (λ_=>False) w h w' h'∧ro<=O.next h':=by
 by_cases h1:n<10
 ·exact M'b C L lo n h1
 ·obtain⟨h2,w2,e2,c2,lo2⟩:=M'b (w:=w) C L lo (n/10) (by omega);exact M'c C L (by omega) (by omega) e2 c2 lo2
theorem Q'u (C:LP' O ro c)(L:O.Law)(lo:ro<=O.next h)(n:Nat)(hn:n<1000): ∃h' w',c 62 [ni n] h=some (.string (B'8 n),h')∧Ch O (λ_=>False) w h w' h'∧ro<=O.next h':=by
 by_cases h1:n<100
 ·exact M'd C L lo n h1
 ·obtain⟨h2,w2,e2,c2,lo2⟩:=M'd (w:=w) C L lo (n/10) (by omega);exact M'c C L (by omega) hn e2 c2 lo2
def D'p (ns:List Nat)(i:Nat): ByteArray:=(ns.take i).zipIdx.foldl (λs p=>(if 0<p.2 then s++⟨#[32]⟩ else s)++B'8 p.1) ⟨#[]⟩
def B'O (ns:List Nat): ByteArray:=D'p ns ns.length++⟨#[10]⟩
theorem E'2 {ns:List Nat}{i x:Nat}(hx:ns[i]?=some x): D'p ns (i+1)=(if 0<i then D'p ns i++⟨#[32]⟩ else D'p ns i)++B'8 x:=by
 have hi:=(l'b.1 hx).1;unfold D'p;rw[l'C,hx,List.zipIdx_append,List.foldl_append];simp[Nat.min_eq_left (Nat.le_of_lt hi)]
theorem D'L {ns:List Nat}: ∀i,i<=ns.length->(D'p ns i).size<=4*i:=by
 intro i
 induction i with
 | zero=>intro _;exact l'H 0
 | succ i ih=>
  intro hi;obtain⟨x,hx⟩:∃x,ns[i]?=some x:=⟨_,l'c (by omega)⟩;rw[E'2 hx];have h1:=ih (by omega);have h2:=C'0 x;have h3:(⟨#[32]⟩:ByteArray).size=1:=rfl;rw[l'v];split
  ·rw[l'v,h3];omega
  ·omega
theorem B'F (ns:List Nat): (B'O ns).size<=4*ns.length+1:=by
 have:=D'L (ns:=ns) _ (l'H _);have h1:(⟨#[10]⟩:ByteArray).size=1:=rfl;unfold B'O;rw[l'v];omega
def LnI (O:HI H)(ro:Nat)(w:Own)(h:H)(vl:Value)(ns:List Nat)(n:Nat)(t:Env)(g:H): Prop:=
 t 0=vl∧∃i w1,t 3 = .string (D'p ns i)∧t 4=ni i∧i+n=ns.length∧Ch O (λ_=>False) w h w1 g∧ro<=O.next g
theorem Q'v (C:LP' O ro c)(L:O.Law)(lo:ro<=O.next h){tl:Tag}{vl:Value}{ns:List Nat}(hns:ns.length<=100)(hx:∀x∈ns,x<1000)(sl:Sm O ro w h tl 1 vl (ns.map ni)): ∃h' w',c 32 [vl] h=some (.string (B'O ns),h')∧Ch O (λ_=>False) w h w' h'∧ro<=O.next h':=by
 have key:∃u h',c 32 [vl] h=some (u,h')∧(u = .string (B'O ns)∧∃w',Ch O (λ_=>False) w h w' h'∧ro<=O.next h'):=by
  refine C.fn (Q't O ro) rfl rfl ?_;unfold F32;refine s'f ?_;simp[ZoT,A'd];refine s'f ?_;simp[ZoU,A'd];refine okE.seq (s'f ?_);simp[ZoV,A'd];refine okE.blk ?_;refine okE.mono (okE.loop (Q:=λe t' g'=>A's 0 e = .normal∧t' 3 = .string (D'p ns ns.length)∧∃w1,Ch O (λ_=>False) w h w1 g'∧ro<=O.next g') (LnI O ro w h vl ns) ?_ ns.length _ _ ⟨by simp,0,w,by simp[D'p],by simp,by omega,Ch.refl _ _ _,lo⟩) ?_
  ·rintro n t g ⟨d0,i,w1,d3,d4,hin,c1,lo1⟩;have sl1:=sl.ch L c1
   cases n with
   | zero=>
    obtain rfl:i=ns.length:=by omega
    obtain⟨aL,cL,hvl⟩:=sl.len (by omega) ns.length (by simp);rw[hvl]at d0;refine f'f ?_;simp[Q's,ZoW,d0,d3,d4];exact⟨⟨w1,c1⟩,lo1⟩
   | succ n=>
    have hi:i<ns.length:=by omega
    have hi':(i:Int)<ns.length:=by omega
    obtain⟨bL,cpp,e8,hcp,yl⟩:=sl1.blk (by omega) ns.length (by simp) (by omega);have d0':=d0;rw[e8]at d0';obtain⟨a,ha⟩:∃a,ns[i]?=some a:=⟨_,l'c hi⟩;have hcell:O.cell g bL i=some (ni a):=by rw[yl.cell i (by simpa using hi)];simp[ha]
    obtain⟨g2,w2,e2,c2,lo2⟩:=Q'u (w:=w1) C L lo1 a (hx a (l'f ha));have hsz:=D'L (ns:=ns) i (by omega);have hsz2:=C'0 a;have hsucc:=E'2 ha;have hwi:=w'1 i;obtain⟨i',hi2⟩:=e' (i+1);rw[<-hi2]at hwi hsucc;have h3:(⟨#[32]⟩:ByteArray).size=1:=rfl;generalize hs1:D'p ns i=s1 at *;generalize hs2:B'8 a=s2 at *;obtain⟨sa,hsa⟩:=e' ((if 0<i then s1++⟨#[32]⟩ else s1));have hsza:sa.size<=4*i+1:=by
     rw[hsa];split
     ·rw[l'v,h3];omega
     ·omega
    rw[<-hsa]at hsucc;have hle1:s1.size+1<=9223372036854775807:=by omega
    have hle2:sa.size+s2.size<=9223372036854775807:=by omega
    refine s'f ?_;simp[ZoW,A'd,d0',d4,hi,hi'];refine okE.seq (okE.blk ?_);refine okE.seq (okE.mono (Q:=λe t' g'=>e = .normal∧g'=g∧t' 0=t 0∧t' 4=t 4∧t' 3 = .string sa) ?_ ?_)
    ·by_cases h0:0<i
     ·have h0':(0:Int)<i:=by omega
      rw[if_pos h0]at hsa;refine f'f ?_;simp[ZoX,ZoY,d3,d4,h0,h0',h3,hle1,hsa]
     ·have h0':¬(0:Int)<i:=by omega
      rw[if_neg h0]at hsa;refine f'f ?_;simp[ZoX,d3,d4,h0,h0',hsa]
    ·rintro e t1 g1 ⟨rfl,rfl,q0,q4,q3⟩;rw[d0']at q0;rw[d4]at q4;simp only[A'd];refine s'f ?_;simp[ZoZ,A'd,q0,q3,q4,hi,hi',hcell,e2];refine f'f ?_;simp[Zo0,A'd,q0,q3,q4,hle2];refine f'f ?_;simp[Zo1,q4,hwi];exact⟨n,by omega,by simp[q0,e8],i',w2,by simp[hsucc],by simp,by omega,c1.trans c2,lo2⟩
  ·rintro e t g ⟨hr,d5,w1,c1,lo1⟩;rw[hr];simp only[A'd];have hsz:=D'L (ns:=ns) ns.length (l'H _);have hle:(D'p ns ns.length).size+1<=9223372036854775807:=by omega
   unfold B'O;generalize D'p ns ns.length=s1 at *;have h1:(⟨#[10]⟩:ByteArray).size=1:=rfl;refine f'f ?_;simp[Zo2,d5,h1,hle,A'L,A'h,rvE];exact⟨⟨w1,c1⟩,lo1⟩
 obtain⟨u,h',e1,rfl,w',c',lo'⟩:=key;exact⟨h',w',e1,c',lo'⟩
end
section
variable {H:Type}{O:HI H}{ro:Nat}{c:A'X H}
variable {w w':Own}{h h':H}{q:Nat}{S:Srch}{bW bH bV:Nat}{vA vC vT vS vK:Value}{lv wv:List Value}
attribute [local simp] B'4 F'y A'7 G'Y B'S
structure Nt where
 inn:Nat
 la:Nat
 gates:List Nat
 next:List Nat
 reset:List Nat
 bad:Nat
structure NT (O:HI H) (ro:Nat)(w:Own)(h:H) (p:Nat)(X:Nt)(vg vn vr:Value):Prop where
 m:Bx O ro w h (17,0) p [ni X.inn,ni X.la,vg,vn,vr,ni X.bad]
 sg:Sm O ro w h (17,1) 1 vg (X.gates.map ni)
 sn:Sm O ro w h (17,2) 1 vn (X.next.map ni)
 sr:Sm O ro w h (17,3) 1 vr (X.reset.map ni)
 lo:ro<=O.next h
variable {p:Nat}{X:Nt}{vg vn vr:Value}
theorem NT.ch (L:O.Law){K:Tag->Prop}(x:NT O ro w h p X vg vn vr)(a:Ch O K w h w' h')(hK:∀i,¬K (17,i):=by simp): NT O ro w' h' p X vg vn vr:=
 ⟨x.m.ch L a (hK _),x.sg.ch L a (hK _),x.sn.ch L a (hK _),x.sr.ch L a (hK _),l'G x.lo a.nx⟩
theorem E'y (C:LP' O ro c)(L:O.Law)(lo:ro<=O.next h){ns:List Nat}(hns:ns.length<=100)(hx:∀x∈ns,x<1000): ∃h' w',c 32 [.slice (some ⟨O.next h,0,some 1⟩) ns.length (ns.length+1)] (O.new h (ns.map ni))=some (.string (B'O ns),h')∧Ch O (λ_=>False) w h w' h'∧ro<=O.next h':=by
 have y1:=Bx.new L (ro:=ro) w h lo (8,0) (ns.map ni);have c1:=Ch.new L (λ_=>False) w h (8,0) (ns.map ni);obtain⟨h',w',e,c2,lo2⟩:=Q'v C L (l'G lo c1.nx) hns hx (.inr ⟨_,ns.length,ns.length+1,rfl,.inr rfl,by simp,y1⟩);exact⟨h',w',e,c1.trans c2,lo2⟩
theorem O'h (C:LP' O ro c)(L:O.Law)(x:NT O ro w h p X vg vn vr)(hi:X.inn<=100){j:Nat}(hj:j<=100): c 23 [ptr p,ni j] h=some (ni (2*(1+X.inn+j)),h):=by
 have m0:=x.m.get 0 _ rfl;have w1:IntKind.i64.wrap (1+(X.inn:Int))=((1+X.inn:Nat):Int):=w'i;obtain⟨a,ha⟩:=e' (1+X.inn);rw[<-ha]at w1 ⊢;have w2:IntKind.i64.wrap ((a:Int)+(j:Int))=((a+j:Nat):Int):=w'i;obtain⟨b,hb⟩:=e' (a+j);rw[<-hb]at w2 ⊢;have w3:IntKind.i64.wrap (2*(b:Int))=((2*b:Nat):Int):=w'i;obtain⟨d,hd⟩:=e' (2*b);rw[<-hd]at w3 ⊢;refine C.eq (Q'r O ro) rfl rfl (f'f ?_);simp[F23,ZoR,ZoS,m0,w1,w2,w3,A'L,A'h,rvE]
theorem G'G (C:LP' O ro c){j:Nat}(hj:j<=100): c 20 [ptr p,ni j] h=some (ni (2*(1+j)),h):=by
 have w1:IntKind.i64.wrap (1+(j:Int))=((1+j:Nat):Int):=w'i;obtain⟨a,ha⟩:=e' (1+j);rw[<-ha]at w1 ⊢;have w3:IntKind.i64.wrap (2*(a:Int))=((2*a:Nat):Int):=w'i;obtain⟨d,hd⟩:=e' (2*a);rw[<-hd]at w3 ⊢;refine C.eq (Q'p O ro) rfl rfl (f'f ?_);simp[F20,ZoI,ZoJ,w1,w3,A'L,A'h,rvE]
theorem O'i (C:LP' O ro c)(L:O.Law)(lo:ro<=O.next h){a b:Nat}(hb:b<=100): ∃p vg vn vr h' w',c 16 [ni a,ni b] h=some (ptr p,h')∧NT O ro w' h' p ⟨a,b,[],List.replicate b 0,List.replicate b 0,0⟩ vg vn vr∧Old O w h w' h':=by
 have y1:=Bx.new L (ro:=ro) w h lo (17,0) [ni a,ni b,.slice none 0 0,.slice none 0 0,.slice none 0 0,ni 0];have c1:=Ch.new L (λ_=>False) w h (17,0) [ni a,ni b,.slice none 0 0,.slice none 0 0,.slice none 0 0,ni 0];obtain⟨p,hp⟩:=e' (O.next h);obtain⟨w1,hw1⟩:=e' (w.set (O.next h) (17,0));obtain⟨h1,hh1⟩:=e' (O.new h [ni a,ni b,.slice none 0 0,.slice none 0 0,.slice none 0 0,ni 0]);rw[<-hw1,<-hh1,<-hp]at y1;rw[<-hw1,<-hh1]at c1;have lo1:=l'G lo c1.nx;have hrep:(List.replicate b (0:Nat)).map ni=List.replicate b (Value.int .i64 0):=by rw[List.map_replicate];rfl
 have y2:=Bx.new L (ro:=ro) w1 h1 lo1 (17,2) (List.replicate b (Value.int .i64 0));have c2:=Ch.new L (λ_=>False) w1 h1 (17,2) (List.replicate b (Value.int .i64 0));have y12:=y1.ch L c2;have c3:=Ch.put L (K:=λu=>u=((17,0):Tag)) y12 3 (by simp) (.slice (some ⟨O.next h1,0,some 1⟩) b (b+1)) rfl;have y3:=y12.put L 3 (by simp) (.slice (some ⟨O.next h1,0,some 1⟩) b (b+1));have p3:=A'8 (O:=O) (v:=.slice (some ⟨O.next h1,0,some 1⟩) b (b+1)) (y12.get 3 _ rfl);obtain⟨h3,hh3⟩:=e' (O.put (O.new h1 (List.replicate b (Value.int .i64 0))) p 3 (.slice (some ⟨O.next h1,0,some 1⟩) b (b+1)));rw[<-hh3]at c3 y3 p3;have y23:=y2.ch L c3;have lo3:=l'G lo1 (l'G c2.nx c3.nx);obtain⟨w2,hw2⟩:=e' (w1.set (O.next h1) (17,2));rw[<-hw2]at y23 y3 c3 c2;have y4:=Bx.new L (ro:=ro) w2 h3 lo3 (17,3) (List.replicate b (Value.int .i64 0));have c4:=Ch.new L (λ_=>False) w2 h3 (17,3) (List.replicate b (Value.int .i64 0));have y34:=y3.ch L c4;have y24:=y23.ch L c4;have c5:=Ch.put L (K:=λu=>u=((17,0):Tag)) y34 4 (by simp) (.slice (some ⟨O.next h3,0,some 1⟩) b (b+1)) rfl;have y5:=y34.put L 4 (by simp) (.slice (some ⟨O.next h3,0,some 1⟩) b (b+1));have p5:=A'8 (O:=O) (v:=.slice (some ⟨O.next h3,0,some 1⟩) b (b+1)) (y34.get 4 _ rfl);obtain⟨h5,hh5⟩:=e' (O.put (O.new h3 (List.replicate b (Value.int .i64 0))) p 4 (.slice (some ⟨O.next h3,0,some 1⟩) b (b+1)));rw[<-hh5]at c5 y5 p5;refine⟨p,.slice none 0 0,.slice (some ⟨O.next h1,0,some 1⟩) b (b+1),.slice (some ⟨O.next h3,0,some 1⟩) b (b+1),h5,_,?_,⟨y5,.inl ⟨rfl,rfl⟩,?_,?_,l'G lo3 (l'G c4.nx c5.nx)⟩,?_⟩
 ·have rp:¬p<ro:=by have:=y1.lo;omega
  have hp':O.next h=p:=hp.symm
  have hh1':O.new h [ni a,ni b,.slice none 0 0,.slice none 0 0,.slice none 0 0,.int .i64 0]=h1:=by rw[hh1];rfl
  have r1:=F'l (.int .i64 0) b;have hbb:(b:Int)*8<=140737488355328:=by omega
  have hbb2:(b:Int)<=140737488355328:=by omega
  have hb3:b*8<=140737488355328:=by omega
  have hb4:b<=140737488355328:=by omega
  refine C.eq (Q'm O ro) rfl rfl ?_;unfold F16;refine s'f ?_;simp[Zn8,A'd];refine s'f ?_;simp[Zn9,A'd];rw[hp',hh1'];refine s'f ?_;simp[-rangeA,Zoa,A'd,r1,hbb,hbb2,hb3,hb4,rp,p3];refine s'f ?_;simp[-rangeA,Zob,A'd,r1,hbb,hbb2,hb3,hb4,rp,p5];refine f'f ?_;simp[Zoc,A'L,A'h,rvE]
 ·simp only[hrep];exact .inr ⟨_,b,b+1,rfl,.inr rfl,by simp,y24.ch L c5⟩
 ·simp only[hrep];exact .inr ⟨_,b,b+1,rfl,.inr rfl,by simp,y4.ch L c5⟩
 ·exact (Old.of c1 (by simp)).trans ((Old.of c2 (by simp)).trans ((Old.of c3 (by simp)).trans ((Old.of c4 (by simp)).trans (Old.of c5 (by simp)))))
theorem Q'w (C:LP' O ro c)(L:O.Law)(x:NT O ro w h p X vg vn vr)(hi:X.inn<=100)(hl:X.la<=100)(hg:X.gates.length<=1000)(a b:Nat): ∃vg' h' w',c 21 [ptr p,ni a,ni b] h=some (ni (2*(X.inn+X.la+(X.gates.length+2)/2)),h')∧NT O ro w' h' p { X with gates:=X.gates++[a,b] } vg' vn vr∧Old O w h w' h':=by
 have y1:=Bx.new L (ro:=ro) w h x.lo (8,0) [ni a,ni b];have c1:=Ch.new L (λ_=>False) w h (8,0) [ni a,ni b];have x1:=x.ch L c1;obtain⟨vg2,h2,w2,e2,s2,c2,lo2⟩:=L'b (bytes:=8) L x1.lo x1.sg (.inr ⟨_,2,3,rfl,.inr rfl,rfl,y1⟩) (by omega) X.gates.length 2 (by simp) rfl (by omega);have m2:=x1.m.ch L c2;have c3:=Ch.put L (K:=λu=>u=((17,0):Tag)) m2 2 (by simp) vg2 rfl;have m3:=m2.put L 2 (by simp) vg2;have p3:=A'8 (O:=O) (v:=vg2) (m2.get 2 _ rfl);obtain⟨h3,hh3⟩:=e' (O.put h2 p 2 vg2);rw[<-hh3]at c3 m3 p3;have s2':Sm O ro w2 h2 (17,1) 1 vg2 ((X.gates++[a,b]).map ni):=by simpa using s2
 have s3:=s2'.ch L c3;refine⟨vg2,h3,w2,?_,⟨m3,s3,(x1.sn.ch L c2).ch L c3,(x1.sr.ch L c2).ch L c3,l'G lo2 c3.nx⟩,(Old.of c1 (by simp)).trans ((Old.of c2 (by simp)).trans (Old.of c3 (by simp)))⟩;have m02:=x.m.get 2 _ rfl;have n0:=m3.get 0 _ rfl;have n1:=m3.get 1 _ rfl;have n2:=m3.get 2 _ rfl;obtain⟨aG,cG,hvg⟩:=s3.len (by omega) (X.gates.length+2) (by simp);rw[hvg]at n2;obtain⟨f1,f2,f3⟩:=s3.flat;have rp:¬p<ro:=by have:=x.m.lo;omega
 have hr2:List.range 2=[0,1]:=rfl;have w1:IntKind.i64.wrap ((X.inn:Int)+(X.la:Int))=((X.inn+X.la:Nat):Int):=w'i;obtain⟨s,hs⟩:=e' (X.inn+X.la);rw[<-hs]at w1 ⊢;have q1:=F'Y .i64 (X.gates.length+2) 2 (by omega) (B'J (by omega) (by omega));obtain⟨gl,hgl⟩:=e' (X.gates.length+2);rw[<-hgl]at q1 n2 ⊢;obtain⟨hf,hhf⟩:=e' (gl/2);rw[<-hhf]at q1 ⊢;have q1':C'f .quo .i64 (gl:Int) 2=some (.int .i64 (hf:Int)):=q1;have w4:IntKind.i64.wrap ((s:Int)+(hf:Int))=((s+hf:Nat):Int):=w'i;obtain⟨s5,hs5⟩:=e' (s+hf);rw[<-hs5]at w4 ⊢;have w6:IntKind.i64.wrap (2*(s5:Int))=((2*s5:Nat):Int):=w'i;obtain⟨s7,hs7⟩:=e' (2*s5);rw[<-hs7]at w6 ⊢;refine C.eq (Q'q O ro) rfl rfl ?_;unfold F21;refine s'f ?_;simp[ZoK,A'd];refine s'f ?_;simp[ZoL,A'd,m02,hr2,e2,f1,f2,f3,rp,p3];refine f'f ?_;simp[ZoM,n0,n1,n2,w1,q1',w4,w6,A'L,A'h,rvE]
attribute [local simp] B'4 F'y A'7 G'Y B'S
variable {p:Nat}{X:Nt}{vg vn vr:Value}
def Nt.a (X:Nt): Nat:=X.gates.length/2
def tx0 (X:Nt): ByteArray:=⟨#[97,97,103,32]⟩++B'O [X.inn+X.la+X.a,X.inn,X.la,0,X.a,1]
def txI (X:Nt): Nat->ByteArray
 | 0=>tx0 X
 | i+1=>txI X i++B'O [2*(1+i)]
def txL (X:Nt): Nat->ByteArray
 | 0=>txI X X.inn
 | i+1=>txL X i++B'O [2*(1+X.inn+i),X.next.getD i 0,X.reset.getD i 0]
def txG (X:Nt): Nat->ByteArray
 | 0=>txL X X.la++B'O [X.bad]
 | i+1=>txG X i++B'O [2*(1+X.inn+X.la+(X.a-(i+1))),X.gates.getD (2*(X.a-(i+1))) 0,X.gates.getD (2*(X.a-(i+1))+1) 0]
def txS (X:Nt): ByteArray:=txG X X.a
structure NtK (X:Nt):Prop where
 i:X.inn<=4
 l:X.la<=6
 g:X.gates.length=2*X.a
 s:2*(1+X.inn+X.la+X.a)<=1000
 n:X.next.length=X.la
 r:X.reset.length=X.la
 gb:∀x∈X.gates,x<1000
 nb:∀x∈X.next,x<1000
 rb:∀x∈X.reset,x<1000
 bb:X.bad<1000
theorem H'd (X:Nt): (tx0 X).size<=29:=by
 have h:=B'F [X.inn+X.la+X.a,X.inn,X.la,0,X.a,1];have h1:(⟨#[97,97,103,32]⟩:ByteArray).size=4:=rfl;unfold tx0;rw[l'v];simp at h;omega
theorem H'e (X:Nt): ∀i,(txI X i).size<=29+5*i:=by
 intro i
 induction i with
 | zero=>exact H'd X
 | succ i ih=>
  have h:=B'F [2*(1+i)];simp only[txI,l'v];simp at h;omega
theorem F'm (X:Nt): ∀i,(txL X i).size<=29+5*X.inn+13*i:=by
 intro i
 induction i with
 | zero=>exact H'e X _
 | succ i ih=>
  have h:=B'F [2*(1+X.inn+i),X.next.getD i 0,X.reset.getD i 0];simp only[txL,l'v];simp only[l'n,l'o]at h;omega
theorem L'o (X:Nt): ∀i,(txG X i).size<=34+5*X.inn+13*X.la+13*i:=by
 intro i
 induction i with
 | zero=>
  have h:=B'F [X.bad];have h2:=F'm X X.la;simp only[txG,l'v];simp at h;omega
 | succ i ih=>
  have h:=B'F [2*(1+X.inn+X.la+(X.a-(i+1))),X.gates.getD (2*(X.a-(i+1))) 0,X.gates.getD (2*(X.a-(i+1))+1) 0];simp only[txG,l'v];simp only[l'n,l'o]at h;omega
def TxI (O:HI H)(ro:Nat)(w:Own)(h:H)(p:Nat)(f:Nat->ByteArray)(d tot:Nat)(n:Nat)(t:Env)(g:H): Prop:=
 t 0 = .pointer (some ⟨p,0,none⟩)∧∃i w1,t 5 = .string (f i)∧t d=ni i∧i+n=tot∧Ch O (λ_=>False) w h w1 g∧ro<=O.next g
def TxQ (O:HI H)(ro:Nat)(w:Own)(h:H)(p a:Nat)(s:ByteArray)(t:Env)(g:H): Prop:=
 t 0 = .pointer (some ⟨p,0,none⟩)∧t 3=ni a∧t 5 = .string s∧∃w1,Ch O (λ_=>False) w h w1 g∧ro<=O.next g
theorem O'j (C:LP' O ro c)(L:O.Law)(x:NT O ro w h p X vg vn vr)(K:NtK X){n:Nat}{t:Env}{g:H}(d3:t 3=ni X.a)(I:TxI O ro w h p (txI X) 6 X.inn n t g):
  okE c (O'e O Tryz.prog ro) (t,g) (λe t' g'=>(e = .normal∧∃n',n'<n∧t' 3=ni X.a∧TxI O ro w h p (txI X) 6 X.inn n' t' g')∨(e≠.normal∧(A's 0 e = .normal∧TxQ O ro w h p X.a (txI X X.inn) t' g'))):=by
 obtain⟨d0,i,w1,d5,d6,hin,c1,lo1⟩:=I;have x1:=x.ch L c1;have m0:=x1.m.get 0 _ rfl;have Ki:=K.i
 cases n with
 | zero=>
  obtain rfl:i=X.inn:=by omega
  refine f'f ?_;simp[O'e,Zoi,d0,d3,d5,d6,m0];exact⟨d0,d3,d5,w1,c1,lo1⟩
 | succ n=>
  have hi:i<X.inn:=by omega
  have hi':(i:Int)<X.inn:=by omega
  have e1:=G'G (h:=g) (p:=p) C (j:=i) (by omega);obtain⟨g2,w2,e2,c2,lo2⟩:=E'y (w:=w1) C L lo1 (ns:=[2*(1+i)]) (by simp) (by simp;omega);have hsz:=H'e X i;have hsz2:=B'F [2*(1+i)];simp at hsz2;have hsucc:txI X (i+1)=txI X i++B'O [2*(1+i)]:=rfl;have hwi:=w'1 i;obtain⟨i',hi2⟩:=e' (i+1);rw[<-hi2]at hwi hsucc;have hle:(txI X i).size+(B'O [2*(1+i)]).size<=9223372036854775807:=by omega
  have hr1:List.range 1=[0]:=rfl;obtain⟨z,hz⟩:=e' (2*(1+i));rw[<-hz]at e1 e2 hsucc hle;simp only[l'J,l'K,l'n,l'o,l'F]at e2;generalize txI X i=s1 at *;generalize B'O [z]=s2 at *;unfold ptr at e1;refine s'f ?_;simp[Zoi,A'd,d0,d6,m0,hi,hi'];refine okE.seq (okE.blk ?_);refine s'f ?_;simp[Zoj,A'd,d0,d6,e1];refine s'f ?_;simp[Zok,A'd,hr1,e2];refine f'f ?_;simp[Zol,A'd,d5,hle];refine f'f ?_;simp[Zom,d6,hwi];exact⟨n,by omega,by simp[d3],by simp[d0],i',w2,by simp[hsucc],by simp,by omega,c1.trans c2,lo2⟩
theorem O'k (C:LP' O ro c)(L:O.Law)(x:NT O ro w h p X vg vn vr)(K:NtK X){n:Nat}{t:Env}{g:H}(d3:t 3=ni X.a)(I:TxI O ro w h p (txL X) 9 X.la n t g):
  okE c (O'f O Tryz.prog ro) (t,g) (λe t' g'=>(e = .normal∧∃n',n'<n∧t' 3=ni X.a∧TxI O ro w h p (txL X) 9 X.la n' t' g')∨(e≠.normal∧(A's 2 e = .normal∧TxQ O ro w h p X.a (txL X X.la) t' g'))):=by
 obtain⟨d0,i,w1,d5,d9,hin,c1,lo1⟩:=I;have x1:=x.ch L c1;have m1:=x1.m.get 1 _ rfl;have m3:=x1.m.get 3 _ rfl;have m4:=x1.m.get 4 _ rfl;have Ki:=K.i;have Kl:=K.l;have Ks:=K.s
 cases n with
 | zero=>
  obtain rfl:i=X.la:=by omega
  refine f'f ?_;simp[O'f,Zoo,d0,d3,d5,d9,m1];exact⟨d0,d3,d5,w1,c1,lo1⟩
 | succ n=>
  have hi:i<X.la:=by omega
  have hi':(i:Int)<X.la:=by omega
  have e1:=O'h C L x1 (by omega) (j:=i) (by omega);obtain⟨bn,qn,en,_,yn⟩:=x1.sn.blk (by omega) X.la (by simp[K.n]) (by omega);obtain⟨br,qr,er,_,yr⟩:=x1.sr.blk (by omega) X.la (by simp[K.r]) (by omega);obtain⟨xn,hxn⟩:∃y,X.next[i]?=some y:=⟨_,l'c (by rw[K.n];exact hi)⟩
  obtain⟨xr,hxr⟩:∃y,X.reset[i]?=some y:=⟨_,l'c (by rw[K.r];exact hi)⟩;have kn:O.cell g bn i=some (ni xn):=by rw[yn.cell i (by simp[K.n];exact hi)];simp[hxn]
  have kr:O.cell g br i=some (ni xr):=by rw[yr.cell i (by simp[K.r];exact hi)];simp[hxr]
  have gn:X.next.getD i 0=xn:=by rw[l'r,hxn];rfl
  have gr:X.reset.getD i 0=xr:=by rw[l'r,hxr];rfl
  have bn':=K.nb xn (l'f hxn);have br':=K.rb xr (l'f hxr);rw[en]at m3;rw[er]at m4;obtain⟨g2,w2,e2,c2,lo2⟩:=E'y (w:=w1) C L lo1 (ns:=[2*(1+X.inn+i),xn,xr]) (by simp) (by simp;omega);have hsz:=F'm X i;have hsz2:=B'F [2*(1+X.inn+i),xn,xr];simp at hsz2;have hsucc:txL X (i+1)=txL X i++B'O [2*(1+X.inn+i),xn,xr]:=by simp only[txL,gn,gr]
  have hwi:=w'1 i;obtain⟨i',hi2⟩:=e' (i+1);rw[<-hi2]at hwi hsucc;have hle:(txL X i).size+(B'O [2*(1+X.inn+i),xn,xr]).size<=9223372036854775807:=by omega
  have hr3:List.range 3=[0,1,2]:=rfl;obtain⟨z,hz⟩:=e' (2*(1+X.inn+i));rw[<-hz]at e1 e2 hsucc hle;simp only[l'J,l'K,l'n,l'o,l'F]at e2;generalize txL X i=s1 at *;generalize B'O [z,xn,xr]=s2 at *;unfold ptr at e1;refine s'f ?_;simp[Zoo,A'd,d0,d9,m1,hi,hi'];refine okE.seq (okE.blk ?_);refine s'f ?_;simp[Zop,A'd,d0,d9,e1];refine s'f ?_;simp[Zoq,A'd,d0,d9,m3,m4,hi,hi',kn,kr,hr3,e2];refine f'f ?_;simp[Zor,A'd,d5,hle];refine f'f ?_;simp[Zos,d9,hwi];exact⟨n,by omega,by simp[d3],by simp[d0],i',w2,by simp[hsucc],by simp,by omega,c1.trans c2,lo2⟩
def TgI (O:HI H)(ro:Nat)(w:Own)(h:H)(p:Nat)(X:Nt)(n:Nat)(t:Env)(g:H): Prop:=
 t 0 = .pointer (some ⟨p,0,none⟩)∧∃w1,n<=X.a∧t 5 = .string (txG X (X.a-n))∧t 13 = .int .i64 ((n:Int)-1)∧Ch O (λ_=>False) w h w1 g∧ro<=O.next g
theorem O'l (C:LP' O ro c)(L:O.Law)(x:NT O ro w h p X vg vn vr)(K:NtK X){n:Nat}{t:Env}{g:H}(I:TgI O ro w h p X n t g):
  okE c (O'g O Tryz.prog ro) (t,g) (λe t' g'=>(e = .normal∧∃n',n'<n∧TgI O ro w h p X n' t' g')∨(e≠.normal∧(A's 4 e = .normal∧t' 5 = .string (txS X)∧∃w1,Ch O (λ_=>False) w h w1 g'∧ro<=O.next g'))):=by
 obtain⟨d0,w1,hna,d5,d13,c1,lo1⟩:=I;have x1:=x.ch L c1;have m0:=x1.m.get 0 _ rfl;have m1:=x1.m.get 1 _ rfl;have m2:=x1.m.get 2 _ rfl;have Ki:=K.i;have Kl:=K.l;have Ks:=K.s;have Kg:=K.g
 cases n with
 | zero=>
  rw[Nat.sub_zero]at d5;refine f'f ?_;simp[O'g,Zow,d0,d5,d13];exact⟨rfl,⟨w1,c1⟩,lo1⟩
 | succ n=>
  have hz1:((n+1:Nat):Int)-1=(n:Int):=by omega
  rw[hz1]at d13;obtain⟨bg,qg,eg,_,yg⟩:=x1.sg.blk (by omega) X.gates.length (by simp) (by omega);obtain⟨ga,hga⟩:∃y,X.gates[2*n]?=some y:=⟨_,l'c (by omega)⟩;obtain⟨gb,hgb⟩:∃y,X.gates[2*n+1]?=some y:=⟨_,l'c (by omega)⟩;have ka:O.cell g bg (2*n)=some (ni ga):=by rw[yg.cell _ (by simp;omega)];simp[hga]
  have kb:O.cell g bg (2*n+1)=some (ni gb):=by rw[yg.cell _ (by simp;omega)];simp[hgb]
  have ga':X.gates.getD (2*n) 0=ga:=by rw[l'r,hga];rfl
  have gb':X.gates.getD (2*n+1) 0=gb:=by rw[l'r,hgb];rfl
  have ba:=K.gb ga (l'f hga);have bb:=K.gb gb (l'f hgb);rw[eg]at m2;obtain⟨g2,w2,e2,c2,lo2⟩:=E'y (w:=w1) C L lo1 (ns:=[2*(1+X.inn+X.la+n),ga,gb]) (by simp) (by simp;omega);have hsz:=L'o X (X.a-(n+1));have hsz2:=B'F [2*(1+X.inn+X.la+n),ga,gb];simp at hsz2;have hsucc:txG X (X.a-n)=txG X (X.a-(n+1))++B'O [2*(1+X.inn+X.la+n),ga,gb]:=by
   rw[show X.a-n=(X.a-(n+1))+1 by omega];simp only[txG];rw[show X.a-(X.a-(n+1)+1)=n by omega,ga',gb']
  have hle:(txG X (X.a-(n+1))).size+(B'O [2*(1+X.inn+X.la+n),ga,gb]).size<=9223372036854775807:=by omega
  have hr3:List.range 3=[0,1,2]:=rfl;have u1:IntKind.i64.wrap (1+(X.inn:Int))=((1+X.inn:Nat):Int):=w'i;obtain⟨a1,ha1⟩:=e' (1+X.inn);rw[<-ha1]at u1 e2 hsucc hle;have u2:IntKind.i64.wrap ((a1:Int)+(X.la:Int))=((a1+X.la:Nat):Int):=w'i;obtain⟨a2,ha2⟩:=e' (a1+X.la);rw[<-ha2]at u2 e2 hsucc hle;have u3:IntKind.i64.wrap ((a2:Int)+(n:Int))=((a2+n:Nat):Int):=w'i;obtain⟨a3,ha3⟩:=e' (a2+n);rw[<-ha3]at u3 e2 hsucc hle;have u4:IntKind.i64.wrap (2*(a3:Int))=((2*a3:Nat):Int):=w'i;obtain⟨z,hz⟩:=e' (2*a3);rw[<-hz]at u4 e2 hsucc hle;have u5:IntKind.i64.wrap (2*(n:Int))=((2*n:Nat):Int):=w'i;obtain⟨n2,hn2⟩:=e' (2*n);rw[<-hn2]at u5 ka kb;have u6:=w'1 n2;obtain⟨n3,hn3⟩:=e' (n2+1);rw[<-hn3]at u6 kb;have l1:n2<X.gates.length:=by omega
  have l1':(n2:Int)<X.gates.length:=by omega
  have l2:n3<X.gates.length:=by omega
  have l2':(n3:Int)<X.gates.length:=by omega
  have u7:IntKind.i64.wrap ((n:Int)-1)=(n:Int)-1:=w'j;obtain⟨z1,hzz⟩:=e' ((n:Int)-1);have u7':IntKind.i64.wrap ((n:Int)-1)=z1:=by rw[hzz];exact u7
  simp only[l'J,l'K,l'n,l'o,l'F]at e2;generalize txG X (X.a-(n+1))=s1 at *;generalize B'O [z,ga,gb]=s2 at *;refine s'f ?_;simp[Zow,A'd,d13];refine okE.seq (okE.blk ?_);refine s'f ?_;simp[Zox,A'd,d0,d13,m0,m1,m2,u1,u2,u3,u4,u5,u6,l1,l1',l2,l2',ka,kb,hr3,e2];refine f'f ?_;simp[Zoy,A'd,d5,hle];refine f'f ?_;simp[Zoz,d13,u7'];exact⟨n,by omega,by simp[d0],w2,by omega,by simp[hsucc],by simp[hzz],c1.trans c2,lo2⟩
theorem Q'x (C:LP' O ro c)(L:O.Law)(x:NT O ro w h p X vg vn vr)(K:NtK X): ∃h' w',c 17 [ptr p] h=some (.string (txS X),h')∧Ch O (λ_=>False) w h w' h'∧ro<=O.next h':=by
 have Ki:=K.i;have Kl:=K.l;have Ks:=K.s;have Kg:=K.g;have key:∃u h',c 17 [ptr p] h=some (u,h')∧(u = .string (txS X)∧∃w',Ch O (λ_=>False) w h w' h'∧ro<=O.next h'):=by
  refine C.fn (Q'n O ro) rfl rfl ?_;unfold F17;have m0:=x.m.get 0 _ rfl;have m1:=x.m.get 1 _ rfl;have m2:=x.m.get 2 _ rfl;obtain⟨aG,cG,hvg⟩:=x.sg.len (by omega) X.gates.length (by simp);rw[hvg]at m2;have q1:=F'Y .i64 X.gates.length 2 (by omega) (B'J (by omega) (by omega));rw[show X.gates.length/2=X.a from rfl]at q1;have q1':C'f .quo .i64 (X.gates.length:Int) 2=some (.int .i64 (X.a:Int)):=q1;obtain⟨g2,w2,e2,c2,lo2⟩:=E'y (w:=w) C L x.lo (ns:=[X.inn+X.la+X.a,X.inn,X.la,0,X.a,1]) (by simp) (by simp;omega);have u1:IntKind.i64.wrap ((X.inn:Int)+(X.la:Int))=((X.inn+X.la:Nat):Int):=w'i;have hsz2:=H'd X;have hsz3:=B'F [X.inn+X.la+X.a,X.inn,X.la,0,X.a,1];simp at hsz3;have htx:tx0 X=⟨#[97,97,103,32]⟩++B'O [X.inn+X.la+X.a,X.inn,X.la,0,X.a,1]:=rfl;obtain⟨a1,ha1⟩:=e' (X.inn+X.la);rw[<-ha1]at u1 e2 htx;have u2:IntKind.i64.wrap ((a1:Int)+(X.a:Int))=((a1+X.a:Nat):Int):=w'i;have hsz3':(B'O [a1+X.a,X.inn,X.la,0,X.a,1]).size<=25:=by rw[ha1];exact hsz3
  obtain⟨a2,ha2⟩:=e' (a1+X.a);rw[<-ha2]at u2 e2 htx hsz3';have h4:(⟨#[97,97,103,32]⟩:ByteArray).size=4:=rfl;have hle:4+(B'O [a2,X.inn,X.la,0,X.a,1]).size<=9223372036854775807:=by omega
  have hr6:List.range 6=[0,1,2,3,4,5]:=rfl;simp only[l'J,l'K,l'n,l'o,l'F]at e2;have hni0:ni 0=Value.int .i64 0:=rfl;have hni1:ni 1=Value.int .i64 1:=rfl;rw[hni0,hni1]at e2;obtain⟨ln,hln⟩:=e' (B'O [a2,X.inn,X.la,0,X.a,1]);rw[<-hln]at e2 htx hle;refine s'f ?_;simp[Zod,A'd];refine s'f ?_;simp[Zoe,A'd,m2,q1'];refine s'f ?_;simp[Zof,A'd,m0,m1,u1,u2,hr6,e2];refine s'f ?_;simp[Zog,A'd,h4,hle];rw[<-htx];refine okE.seq (s'f ?_);simp[Zoh,A'd];refine okE.blk ?_;refine okE.mono (okE.loop (Q:=λe t' g'=>A's 0 e = .normal∧TxQ O ro w h p X.a (txI X X.inn) t' g') (λn t g=>t 3=ni X.a∧TxI O ro w h p (txI X) 6 X.inn n t g) (λn t g I=>O'j C L x K I.1 I.2) X.inn _ _ ⟨by simp,by simp,0,w2,by simp[txI],by simp,by omega,c2,lo2⟩) ?_;rintro e t g ⟨hr,d0,d3,d5,w3,c3,lo3⟩;rw[hr];simp only[A'd];refine okE.seq (s'f ?_);simp[Zon,A'd];refine okE.blk ?_;refine okE.mono (okE.loop (Q:=λe t' g'=>A's 2 e = .normal∧TxQ O ro w h p X.a (txL X X.la) t' g') (λn t g=>t 3=ni X.a∧TxI O ro w h p (txL X) 9 X.la n t g) (λn t g I=>O'k C L x K I.1 I.2) X.la _ _ ⟨by simp[d3],by simp[d0],0,w3,by simp[txL,d5],by simp,by omega,c3,lo3⟩) ?_;rintro e t4 g4 ⟨hr4,d0,d3,d5,w4,c4,lo4⟩;rw[hr4];simp only[A'd];have x4:=x.ch L c4;have m5:=x4.m.get 5 _ rfl;obtain⟨g5,w5,e5,c5,lo5⟩:=E'y (w:=w4) C L lo4 (ns:=[X.bad]) (by simp) (by simpa using K.bb);have hsz5:=F'm X X.la;have hsz6:=B'F [X.bad];simp at hsz6;have hle5:(txL X X.la).size+(B'O [X.bad]).size<=9223372036854775807:=by omega
  have hr1:List.range 1=[0]:=rfl;simp only[l'J,l'K,l'n,l'o,l'F]at e5;have hG0:txG X 0=txL X X.la++B'O [X.bad]:=rfl;have u7:IntKind.i64.wrap ((X.a:Int)-1)=(X.a:Int)-1:=w'j;obtain⟨z1,hzz⟩:=e' ((X.a:Int)-1);have u7':IntKind.i64.wrap ((X.a:Int)-1)=z1:=by rw[hzz];exact u7
  generalize txL X X.la=s1 at *;generalize B'O [X.bad]=s2 at *;refine s'f ?_;simp[Zot,A'd,d0,m5,hr1,e5];refine s'f ?_;simp[Zou,A'd,d5,hle5];refine okE.seq (s'f ?_);simp[Zov,A'd,d3,u7'];refine okE.blk ?_;refine okE.mono (okE.loop (Q:=λe t' g'=>A's 4 e = .normal∧t' 5 = .string (txS X)∧∃w1,Ch O (λ_=>False) w h w1 g'∧ro<=O.next g') (TgI O ro w h p X) (λn t g I=>O'l C L x K I) X.a _ _ ⟨by simp[d0],w5,l'H _,by simp[hG0],by simp[hzz],c4.trans c5,lo5⟩) ?_;rintro e t6 g6 ⟨hr6,d56,w6,c6,lo6⟩;rw[hr6];simp only[A'd];refine f'f ?_;simp[ZoA,d56,A'L,A'h,rvE];exact⟨⟨w6,c6⟩,lo6⟩
 obtain⟨u,h',e1,rfl,w',c',lo'⟩:=key;exact⟨h',w',e1,c',lo'⟩
end
end Go.Proofs.YtimdkminagnhgabGreatDoor
