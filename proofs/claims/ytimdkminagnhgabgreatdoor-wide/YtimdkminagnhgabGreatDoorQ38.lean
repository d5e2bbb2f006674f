import Derived.Test.YtimdkminagnhgabGreatDoorQ27
import Derived.Test.YtimdkminagnhgabGreatDoorQ14
set_option linter.all false
namespace Go.Proofs.YtimdkminagnhgabGreatDoor
open Go.Vm Go.Proofs
set_option maxHeartbeats 400000
set_option maxRecDepth 4000
def lnT: List Nat->Nat->ByteArray->ByteArray
 | [],_,t=>t
 | n :: r,j,t=>lnT r (j+1) ((if 0<j then t++⟨#[32]⟩ else t)++B'8 n)
def lnS (ns:List Nat): ByteArray:=lnT ns 0 ⟨#[]⟩++⟨#[10]⟩
theorem E'F (n:Nat): 1<=(B'8 n).size∧(B'8 n).size<=3:=by
 unfold B'8;split
 ·exact (by decide:1<=1∧1<=3)
 ·split
  ·exact (by decide:1<=2∧2<=3)
  ·exact (by decide:1<=3∧3<=3)
theorem H'o: ∀(ns:List Nat) (j:Nat)(t:ByteArray),(lnT ns j t).size<=t.size+4*ns.length:=by
 intro ns
 induction ns with
 | nil=>intro j t;simp[lnT]
 | cons n r ih=>
  intro j t;simp only[lnT];have h1:=ih (j+1) ((if 0<j then t++⟨#[32]⟩ else t)++B'8 n);have h2:=(E'F n).2;have h3:(if 0<j then t++(⟨#[32]⟩:ByteArray) else t).size<=t.size+1:=by
   split
   ·rw[l'v];exact l'H _
   ·omega
  rw[l'v]at h1;simp only[l'n];omega
theorem C'P (ns:List Nat): (lnS ns).size<=4*ns.length+1:=by
 unfold lnS;rw[l'v];have:=H'o ns 0 ⟨#[]⟩;have e:(⟨#[]⟩:ByteArray).size=0:=rfl;have e2:(⟨#[10]⟩:ByteArray).size=1:=rfl;omega
section
variable {H:Type}{O:HI H}{ro:Nat}{c:A'X H}
abbrev Al (O:HI H)(w:Own)(h:H)(w':Own)(h':H): Prop:=∀K,Ch O K w h w' h'
theorem Al.refl (w:Own)(h:H): Al O w h w h:=λK=>Ch.refl _ _ _
theorem Al.trans {w1 w2 w3:Own}{h1 h2 h3:H}(a:Al O w1 h1 w2 h2)(b:Al O w2 h2 w3 h3): Al O w1 h1 w3 h3:=λK=>(a K).trans (b K)
theorem Al.lo {w w':Own}{h h':H}(a:Al O w h w' h')(lo:ro<=O.next h): ro<=O.next h':=l'G lo (a λ_=>True).nx
theorem Sl.al (L:O.Law){w w':Own}{h h':H}{t:Tag}{sz:Nat}{v:Value}{l:List Value}(x:Sl O ro w h t sz v l)(a:Al O w h w' h'): Sl O ro w' h' t sz v l:=x.ch L (a λ_=>False) (by simp)
theorem Bx.al' (L:O.Law){w w':Own}{h h':H}{t:Tag}{b:Nat}{l:List Value}(x:Bx O ro w h t b l)(a:Al O w h w' h'): Bx O ro w' h' t b l:=x.ch L (a λ_=>False) (by simp)
theorem Gl.al' (L:O.Law){w w':Own}{h h':H}(x:Gl O w h)(a:Al O w h w' h'): Gl O w' h':=x.ch L (a λ_=>False) (by simp)
theorem L'I (L:O.Law)(w:Own)(h:H)(lo:ro<=O.next h)(t:Tag)(l:List Value)(hl:l≠[]):
  ∃w' h',h'=O.new h l∧Sl O ro w' h' t 1 (.slice (some ⟨O.next h,0,some 1⟩) l.length (l.length+1)) l∧Al O w h w' h'∧cellsA O h' (O.next h) 0 l.length=some l:=by
 have x:=Bx.new L (ro:=ro) w h lo t l;exact⟨_,_,rfl,.inr ⟨_,_,_,rfl,.inr rfl,by simp,hl,x⟩,λK=>Ch.new L K w h t l,x.all⟩
attribute [local simp] A'b A'c reg to too A'a A'n A'i mv' nl' fl' ld' ln' mk' ia' ik' ix' B'C B'D aLd A'5 A'q A'7 A'3 A'2 aUn unA ev A'k isB A'Z A'C A'D A'E A'F A'G A'H A'I A'J A'K cIf A'y A'f A'g A'L A'h rvE aSt A'M A't A'N A'O A'P B'c A'Q A'u A'R A'S B'd A'T A'v A'U A'V A'W B'e A'l Instr.fill A'e A'r A'z A's ptr undef B'o B'r A'j B'n A'w B'w A'B B'A A'x B'p rangeA B'E B'P B'4 F'y
theorem S'K (n:Nat)(h:n<256): B'S [.int .u8 (n:Int)]=some [UInt8.ofNat n]:=by simp[B'S]
def nvs (ns:List Nat): List Value:=ns.map λn:Nat=>Value.int .i64 (n:Int)
theorem R'D {w:Own}{h:H}{tg:Tag}{v:Value}{ns:List Nat}(sl:Sl O ro w h tg 1 v (nvs ns))(j:Nat)(hj:j<ns.length): ∃b cp,v = .slice (some ⟨b,0,some 1⟩) ns.length cp∧O.cell h b j=some (.int .i64 ((ns[j]:Nat):Int)):=by
 obtain⟨b,cp,e,y⟩:=sl.blk (by omega) ns.length (by simp[nvs]) (by omega);exact⟨b,cp,e,y.get j _ (by simp[nvs,hj])⟩
theorem Q'K {w:Own}{h:H}{tg:Tag}{v:Value}{ns:List Nat}(sl:Sl O ro w h tg 1 v (nvs ns)): ∃a cp,v = .slice a ns.length cp:=sl.len (by omega) ns.length (by simp[nvs])
theorem M'm (C:LP' O ro c)(L:O.Law){w:Own}{h:H}(g:Gl O w h)(lo:ro<=O.next h){tg:Tag}{v:Value}(ns:List Nat)(sl:Sl O ro w h tg 1 v (nvs ns))(hn:∀n∈ns,n<256)(hl:ns.length<=100):
  ∃w' h',c 46 [v] h=some (.string (lnS ns),h')∧Al O w h w' h':=by
 have hsz:=H'o ns 0 ⟨#[]⟩;have e0:(⟨#[]⟩:ByteArray).size=0:=rfl;unfold lnS;generalize hE:lnT ns 0 ⟨#[]⟩=E at *;have key:∃u h',c 46 [v] h=some (u,h')∧(u = .string (E++⟨#[10]⟩)∧∃w',Al O w h w' h'):=by
  refine C.fn (P'T O ro) rfl rfl ?_;unfold F46;refine s'f ?_;simp[ZiL,A'd,-A'L,-A'h,-rvE];refine s'f ?_;simp[ZiM,A'd,-A'L,-A'h,-rvE];refine okE.seq (s'f ?_);simp[ZiN,A'd,-A'L,-A'h,-rvE];refine okE.blk ?_;refine okE.loop (λm t g'=>∃j T w',Al O w h w' g'∧t 0=v∧t 3 = .string T∧t 4 = .int .i64 (j:Nat)∧j+m=ns.length+1∧0<m∧T.size<=4*j∧lnT (ns.drop j) j T=E) ?_ (ns.length+1) _ _ ⟨0,⟨#[]⟩,w,Al.refl _ _,by simp,by simp,by simp,by omega,by omega,by omega,hE⟩;intro m t g' hI;obtain⟨j,T,w',al,t0,t3,t4,hj,hm,hT,hfin⟩:=hI;have sl':=sl.al L al
  by_cases hlt:j<ns.length
  ·obtain⟨b,cp,rfl,hc⟩:=R'D sl' j hlt;have hnj:=hn _ (List.getElem_mem hlt);rw[l's hlt]at hfin;simp only[lnT]at hfin;obtain⟨x,hx⟩:=e' (ns[j]);rw[<-hx]at hc hnj hfin;obtain⟨w2,h2,e2,a2,lo2⟩:=L'8 C L (g.al' L al) (al.lo lo) x hnj;have hds:=E'F x;obtain⟨q,hq⟩:=e' (j+1);have hw:IntKind.i64.wrap ((j:Int)+1)=(q:Int):=w'i;have hlt':(j:Int)<ns.length:=by omega
   rw[<-hq]at hfin;have e1:(⟨#[32]⟩:ByteArray).size=1:=rfl;refine f'f ?_
   by_cases hj0:0<j
   ·have hj0':(0:Int)<j:=by omega
    rw[if_pos hj0]at hfin;have z1:T.size+(⟨#[32]⟩:ByteArray).size<=9223372036854775807:=by omega
    have z2:T.size+(⟨#[32]⟩:ByteArray).size+(B'8 x).size<=9223372036854775807:=by omega
    have z3:T.size+(⟨#[32]⟩:ByteArray).size+(B'8 x).size<=4*q:=by omega
    simp[K'1,ZiO,ZiP,ZiQ,ZiR,ZiS,t0,t3,t4,hlt,hlt',hj0,hj0',z1,hc,e2,z2,hw];exact⟨m-1,by omega,⟨w2,al.trans a2⟩,q,rfl,by omega,by omega,z3,hfin⟩
   ·have hj0':¬(0:Int)<j:=by omega
    rw[if_neg hj0]at hfin;have z2:T.size+(B'8 x).size<=9223372036854775807:=by omega
    have z3:T.size+(B'8 x).size<=4*q:=by omega
    simp[K'1,ZiO,ZiP,ZiR,ZiS,t0,t3,t4,hlt,hlt',hj0,hj0',hc,e2,z2,hw];exact⟨m-1,by omega,⟨w2,al.trans a2⟩,q,rfl,by omega,by omega,z3,hfin⟩
  ·obtain⟨a,cp,rfl⟩:=Q'K sl';rw[List.drop_eq_nil_of_le (by omega)]at hfin;have hfin2:T=E:=hfin;subst hfin2;have hlt':¬(j:Int)<ns.length:=by omega
   have e1:(⟨#[10]⟩:ByteArray).size=1:=rfl;have z1:T.size+(⟨#[10]⟩:ByteArray).size<=9223372036854775807:=by omega
   refine f'f ?_;simp[K'1,ZiO,t0,t3,t4,hlt,hlt',A'd];refine f'f ?_;simp[ZiT,t3,z1];exact⟨w',al⟩
 obtain⟨u,h',e1,rfl,w',a⟩:=key;exact⟨w',h',e1,a⟩
end
end Go.Proofs.YtimdkminagnhgabGreatDoor
namespace Go.Proofs.YtimdkminagnhgabGreatDoor
open Go.Vm Go.Proofs
set_option maxHeartbeats 400000
set_option maxRecDepth 4000
structure CNr where
 ni:Nat
 las:List (Nat×Nat)
 gts:List (Nat×Nat)
 bad:Nat
def pI (x:Nat×Nat): Int×Nat:=((x.1:Int),x.2)
def pII (x:Nat×Nat): Int×Int:=((x.1:Int),(x.2:Int))
def CNr.ck (N:CNr): CkT:=⟨N.ni,N.las.map pI,N.gts.map pII,(N.bad:Int)⟩
structure COk (N:CNr):Prop where
 ni:N.ni<=4
 nl:N.las.length<=6
 na:N.gts.length<=60
 g:∀k (h:k<N.gts.length),N.gts[k].2<=N.gts[k].1∧N.gts[k].1<=2*(N.ni+N.las.length+k)+1
 n:∀x∈N.las,x.1<=2*(N.ni+N.las.length+N.gts.length)+1∧x.2<=2
 b:N.bad<=2*(N.ni+N.las.length+N.gts.length)+1
def tlS (x:Nat×Nat)(own:Nat): List Nat:=x.1 :: (if x.2=1 then [1] else if x.2=2 then [own] else [])
def by7 (n:Nat): ByteArray:=if n<128 then ⟨#[UInt8.ofNat n]⟩ else ⟨#[UInt8.ofNat (128+n%128),UInt8.ofNat (n/128)]⟩
def J'U (N:CNr): ByteArray:=lnS [N.ni+N.las.length+N.gts.length,N.ni,N.las.length,0,N.gts.length,1]
def J'V (x:Nat×Nat): List Value:=[.int .i64 (x.1:Int),.int .i64 (x.2:Int)]
section
variable {H:Type}{O:HI H}{ro:Nat}{c:A'X H}
structure XC (O:HI H) (ro:Nat)(w:Own)(h:H) (k p:Nat)(N:CNr)(v1 v2:Value):Prop where
 m:Bx O ro w h (k,1000) p [.int .i64 (N.ni:Nat),v1,v2,.int .i64 (N.bad:Nat)]
 s1:Sl O ro w h (k,1) 2 v1 (N.las.flatMap J'V)
 s2:Sl O ro w h (k,2) 2 v2 (N.gts.flatMap J'V)
theorem XC.al (L:O.Law){w w':Own}{h h':H}{k p:Nat}{N:CNr}{v1 v2:Value}(x:XC O ro w h k p N v1 v2)(a:Al O w h w' h'): XC O ro w' h' k p N v1 v2:=⟨x.m.al' L a,x.s1.al L a,x.s2.al L a⟩
theorem CB.xc {w:Own}{h:H}{k p:Nat}{N:CNr}(x:CB O ro w h k p N.ck): ∃v1 v2,XC O ro w h k p N v1 v2:=by
 obtain⟨v1,v2,m,s1,s2⟩:=x.ex;refine⟨v1,v2,m,?_,?_⟩
 ·simp only[CNr.ck,List.flatMap_map]at s1;exact s1
 ·simp only[CNr.ck,List.flatMap_map]at s2;exact s2
theorem F'u {w:Own}{h:H}{tg:Tag}{v:Value}{us:List (Nat×Nat)}(sl:Sl O ro w h tg 2 v (us.flatMap J'V))(j:Nat)(hj:j<us.length): ∃b cp,v = .slice (some ⟨b,0,some 2⟩) us.length cp∧O.cell h b (j*2)=some (.int .i64 ((us[j].1:Nat):Int))∧O.cell h b (j*2+1)=some (.int .i64 ((us[j].2:Nat):Int))∧cellsA O h b (j*2) 2=some [.int .i64 ((us[j].1:Nat):Int),.int .i64 ((us[j].2:Nat):Int)]:=by
 obtain⟨b,cp,e,y⟩:=sl.blk (by omega) us.length (A'0 J'V 2 (λ_=>rfl) us) (by omega);have e0:=B'z J'V 2 (λ_=>rfl) us j hj 0 (by omega);have e1:=B'z J'V 2 (λ_=>rfl) us j hj 1 (by omega);exact⟨b,cp,e,y.get _ _ e0,y.get _ _ e1,y.at (j*2) (J'V us[j]) λi hi=>B'z J'V 2 (λ_=>rfl) us j hj i hi⟩
theorem C'Q {w:Own}{h:H}{tg:Tag}{v:Value}{us:List (Nat×Nat)}(sl:Sl O ro w h tg 2 v (us.flatMap J'V)): ∃a cp,v = .slice a us.length cp:=sl.len (by omega) us.length (A'0 J'V 2 (λ_=>rfl) us)
attribute [local simp] A'b A'c reg to too A'a A'n A'i mv' nl' fl' ld' ln' mk' ia' ik' ix' B'C B'D aLd A'5 A'q A'7 A'3 A'2 aUn unA ev A'k isB A'Z A'C A'D A'E A'F A'G A'H A'I A'J A'K cIf A'y A'f A'g A'L A'h rvE aSt A'M A't A'N A'O A'P B'c A'Q A'u A'R A'S B'd A'T A'v A'U A'V A'W B'e A'l Instr.fill A'e A'r A'z A's ptr undef B'o B'r A'j B'n A'w B'w A'B B'A A'x B'p rangeA B'E B'P B'4 F'y
theorem wr {a:Int}{n:Nat}(h:a=(n:Int))(hn:n<1000000): IntKind.i64.wrap a=(n:Int):=by rw[h,B'J (by omega) (by omega)]
theorem G'f (C:LP' O ro c)(L:O.Law){w:Own}{h:H}(g:Gl O w h)(lo:ro<=O.next h)(ns:List Nat)(hne:ns≠[])(hn:∀n∈ns,n<256)(hl:ns.length<=100):
  ∃w' h',c 46 [.slice (some ⟨O.next h,0,some 1⟩) ns.length (ns.length+1)] (O.new h (nvs ns))=some (.string (lnS ns),h')∧Al O w h w' h':=by
 obtain⟨w1,h1,rfl,s1,al1,l1⟩:=L'I L w h lo (100,0) (nvs ns) (by simpa [nvs]using hne);obtain⟨w2,h2,e2,al2⟩:=M'm C L (g.al' L al1) (al1.lo lo) ns s1 hn hl;have hln:(nvs ns).length=ns.length:=by simp[nvs]
 rw[hln]at e2;exact⟨w2,h2,e2,al1.trans al2⟩
theorem H'p (C:LP' O ro c)(L:O.Law){w:Own}{h:H}(g:Gl O w h)(lo:ro<=O.next h){k p:Nat}{N:CNr}{v1 v2:Value}(x:XC O ro w h k p N v1 v2)(ok:COk N):
  ∃w' h',c 45 [.pointer (some ⟨p,0,none⟩)] h=some (.string (J'U N),h')∧Al O w h w' h':=by
 have o1:=ok.ni;have o2:=ok.nl;have o3:=ok.na;obtain⟨a1,cp1,rfl⟩:=C'Q x.s1;obtain⟨a2,cp2,rfl⟩:=C'Q x.s2;have k0:=x.m.get 0 _ rfl;have k1:=x.m.get 1 _ rfl;have k2:=x.m.get 2 _ rfl;obtain⟨m,hm⟩:=e' (N.ni+N.las.length);obtain⟨q,hq⟩:=e' (N.ni+N.las.length+N.gts.length);have hw1:IntKind.i64.wrap ((N.ni:Int)+(N.las.length:Int))=(m:Int):=wr (by omega) (by omega);have hw2:IntKind.i64.wrap ((m:Int)+(N.gts.length:Int))=(q:Int):=wr (by omega) (by omega);obtain⟨w2,h2,e2,al2⟩:=G'f C L g lo [q,N.ni,N.las.length,0,N.gts.length,1] (by simp) (by simp;omega) (by simp);refine⟨w2,h2,?_,al2⟩;unfold J'U;rw[<-hq];have e3:c 46 [.slice (some ⟨O.next h,0,some 1⟩) 6 7] (O.new h [.int .i64 (q:Int),.int .i64 (N.ni:Int),.int .i64 (N.las.length:Int),.int .i64 0,.int .i64 (N.gts.length:Int),.int .i64 1])=some (.string (lnS [q,N.ni,N.las.length,0,N.gts.length,1]),h2):=e2;generalize lnS [q,N.ni,N.las.length,0,N.gts.length,1]=E at *;refine C.eq (P'S O ro) rfl rfl (f'f ?_);simp[F45,ZiI,ZiJ,ZiK,k0,k1,k2,hw1,hw2,List.zipIdx,l'B,e3]
theorem M'n (C:LP' O ro c){w:Own}{h:H}{k p:Nat}{N:CNr}{v1 v2:Value}(x:XC O ro w h k p N v1 v2)(ok:COk N)(j:Nat)(hj:j<1000):
  c 47 [.pointer (some ⟨p,0,none⟩),.int .i64 (j:Nat)] h=some (.int .i64 ((2*(1+N.ni+j):Nat):Int),h):=by
 have o1:=ok.ni;have k0:=x.m.get 0 _ rfl;obtain⟨m,hm⟩:=e' (1+N.ni);obtain⟨q,hq⟩:=e' (1+N.ni+j);obtain⟨r,hr⟩:=e' (2*(1+N.ni+j));have hw1:IntKind.i64.wrap (1+(N.ni:Int))=(m:Int):=wr (by omega) (by omega);have hw2:IntKind.i64.wrap ((m:Int)+(j:Int))=(q:Int):=wr (by omega) (by omega);have hw3:IntKind.i64.wrap (2*(q:Int))=(r:Int):=wr (by omega) (by omega);rw[<-hr];refine C.eq (L'Y O ro) rfl rfl (f'f ?_);simp[F47,ZiU,ZiV,k0,hw1,hw2,hw3]
theorem M'o (C:LP' O ro c){w:Own}{h:H}{k p:Nat}{N:CNr}{v1 v2:Value}(x:XC O ro w h k p N v1 v2)(ok:COk N)(j:Nat)(hj:j<1000):
  c 50 [.pointer (some ⟨p,0,none⟩),.int .i64 (j:Nat)] h=some (.int .i64 ((2*(1+N.ni+N.las.length+j):Nat):Int),h):=by
 have o1:=ok.ni;have o2:=ok.nl;obtain⟨a1,cp1,rfl⟩:=C'Q x.s1;have k0:=x.m.get 0 _ rfl;have k1:=x.m.get 1 _ rfl;obtain⟨m,hm⟩:=e' (1+N.ni);obtain⟨n,hn⟩:=e' (1+N.ni+N.las.length);obtain⟨q,hq⟩:=e' (1+N.ni+N.las.length+j);obtain⟨r,hr⟩:=e' (2*(1+N.ni+N.las.length+j));have hw1:IntKind.i64.wrap (1+(N.ni:Int))=(m:Int):=wr (by omega) (by omega);have hw2:IntKind.i64.wrap ((m:Int)+(N.las.length:Int))=(n:Int):=wr (by omega) (by omega);have hw3:IntKind.i64.wrap ((n:Int)+(j:Int))=(q:Int):=wr (by omega) (by omega);have hw4:IntKind.i64.wrap (2*(q:Int))=(r:Int):=wr (by omega) (by omega);rw[<-hr];refine C.eq (L'0 O ro) rfl rfl (f'f ?_);simp[F50,Zi6,Zi7,k0,k1,hw1,hw2,hw3,hw4]
theorem S'L (n m:Nat): B'S [.int .u8 (n:Int),.int .u8 (m:Int)]=some [UInt8.ofNat n,UInt8.ofNat m]:=by simp[B'S]
theorem M'p (C:LP' O ro c)(L:O.Law){w:Own}{h:H}(lo:ro<=O.next h)(n:Nat)(hn:n<16384):
  ∃w' h',c 51 [.int .i64 (n:Nat)] h=some (.string (by7 n),h')∧Al O w h w' h':=by
 by_cases h1:n<128
 ·obtain⟨w1,h2,hh1,s1,al1,l1⟩:=L'I L w h lo (100,0) [.int .u8 (n:Int)] (by simp);refine⟨w1,h2,?_,al1⟩;have h1':(n:Int)<128:=by omega
  have hw:=E'w n (by omega);have l1':cellsA O h2 (O.next h) 0 1=some [.int .u8 (n:Int)]:=l1;have hb:=S'K n (by omega);have hd:(⟨#[UInt8.ofNat n]⟩:ByteArray)=by7 n:=by unfold by7;rw[if_pos h1]
  refine C.eq (L'1 O ro) rfl rfl (f'f ?_);simp[F51,Zi8,Zi9,Zja,h1,h1',hw,List.zipIdx,l'B,<-hh1,G'Y,l1',hb,hd]
 ·obtain⟨m,hm⟩:=e' (n%128);obtain⟨r,hr⟩:=e' (128+n%128);obtain⟨q,hq⟩:=e' (n/128);obtain⟨w1,h2,hh1,s1,al1,l1⟩:=L'I L w h lo (100,0) [.int .u8 (r:Int),.int .u8 (q:Int)] (by simp);refine⟨w1,h2,?_,al1⟩;have h1':¬(n:Int)<128:=by omega
  have r1:C'f .rem .i64 (n:Int) 128=some (.int .i64 (m:Int)):=by rw[hm];exact J'k .i64 n 128 (by omega)
  have r2:C'f .quo .i64 (n:Int) 128=some (.int .i64 (q:Int)):=by rw[hq];exact F'Y .i64 n 128 (by omega) (wr rfl (by omega))
  have hw1:IntKind.i64.wrap ((m:Int)+128)=(r:Int):=wr (by omega) (by omega);have hw:=E'w r (by omega);have hw2:=E'w q (by omega);have l1':cellsA O h2 (O.next h) 0 2=some [.int .u8 (r:Int),.int .u8 (q:Int)]:=l1;have hb:=S'L r q;have hd:(⟨#[UInt8.ofNat r,UInt8.ofNat q]⟩:ByteArray)=by7 n:=by unfold by7;rw[if_neg h1,hr,hq]
  refine C.eq (L'1 O ro) rfl rfl (f'f ?_);simp[F51,Zi8,Zi9,Zjb,h1,h1',r1,r2,hw1,hw,hw2,List.zipIdx,l'B,<-hh1,G'Y,l1',hb,hd]
theorem J'I (L:O.Law){w w1:Own}{h h1:H}{n:Nat}(hn:∀b,b<O.next h->w b≠(100,n))(al:Al O w h w1 h1)(lo:ro<=O.next h){v:Value}{ns:List Nat}(sl:Sl O ro w1 h1 (100,n) 1 v (nvs ns))(hl:ns.length<=100)(x:Nat):
  ∃v' w2 h2,D'd O ro 1 8 v (.slice (some ⟨O.next h1,0,some 1⟩) 1 2) (O.new h1 [.int .i64 (x:Nat)])=some (v',h2)∧Sl O ro w2 h2 (100,n) 1 v' (nvs (ns++[x]))∧Al O w h w2 h2:=by
 obtain⟨v',h2,w2,e1,s2,c2,lo2⟩:=C'd L (bytes:=8) (al.lo lo) sl (new:=[.int .i64 (x:Nat)]) (by omega) rfl (by simp[nvs];omega) (by simp[nvs];omega);exact⟨v',w2,h2,e1,by simpa [nvs]using s2,Ch.loc hn al c2⟩
theorem M'q (C:LP' O ro c)(L:O.Law){w:Own}{h:H}(g:Gl O w h)(lo:ro<=O.next h)(x:Nat×Nat)(own:Nat)(h1:x.1<256)(h2:x.2<=2)(h3:own<256):
  ∃w' h',c 49 [.agg #[.int .i64 (x.1:Int),.int .i64 (x.2:Int)],.int .i64 (own:Nat)] h=some (.string (lnS (tlS x own)),h')∧Al O w h w' h':=by
 obtain⟨n,hn⟩:=Q'b w (O.next h);obtain⟨a,b⟩:=x;simp only at h1 h2 ⊢;obtain⟨p,hp⟩:=e' (O.next h);obtain⟨g1,hg1⟩:=e' (O.new h [.int .i64 (a:Int),.int .i64 (b:Int)]);obtain⟨w1,hw1⟩:=e' (w.set p (100,n));have al1:Al O w h w1 g1:=λK=>by rw[hg1,hw1,hp];exact Ch.new L _ _ _ _ _
 have x1:Bx O ro w1 g1 (100,n) p [.int .i64 (a:Int),.int .i64 (b:Int)]:=by rw[hg1,hw1,hp];exact Bx.new L _ _ lo _ _
 have k0:=x1.get 0 _ rfl;obtain⟨w2,g2,hg2,s2,al2,_⟩:=L'I L w1 g1 (al1.lo lo) (100,n) (nvs [a]) (by simp[nvs]);have x2:=x1.al' L al2;have k1:=x2.get 1 _ rfl;have hg2':g2=O.new g1 [.int .i64 (a:Int)]:=hg2;have s2':Sl O ro w2 g2 (100,n) 1 (.slice (some ⟨O.next g1,0,some 1⟩) 1 2) (nvs [a]):=s2;have al12:=al1.trans al2;have fin:∀(v:Value)(w3:Own)(g3:H)(ns:List Nat),Sl O ro w3 g3 (100,n) 1 v (nvs ns)->Al O w h w3 g3->(∀m∈ns,m<256)->ns.length<=100->∃w' h',c 46 [v] g3=some (.string (lnS ns),h')∧Al O w h w' h':=by
  intro v w3 g3 ns s a hm hl;obtain⟨w4,g4,e4,al4⟩:=M'm C L (g.al' L a) (a.lo lo) ns s hm hl;exact⟨w4,g4,e4,a.trans al4⟩
 unfold tlS;simp only
 by_cases c1:b=1
 ·rw[if_pos c1];subst c1;obtain⟨v',w3,g3,e3,s3,al3⟩:=J'I L hn al12 lo s2' (by simp) 1;obtain⟨w4,g4,e4,al4⟩:=fin v' w3 g3 _ s3 al3 (by simp;omega) (by simp);refine⟨w4,g4,?_,al4⟩;have e3':D'd O ro 1 8 (.slice (some ⟨O.next g1,0,some 1⟩) 1 2) (.slice (some ⟨O.next g2,0,some 1⟩) 1 2) (O.new g2 [.int .i64 1])=some (v',g3):=e3;have k1':O.cell g2 p 1=some (.int .i64 1):=k1;have e4':c 46 [v'] g3=some (.string (lnS [a,1]),g4):=e4;have hg1':g1=O.new h [.int .i64 (a:Int),.int .i64 1]:=hg1;refine C.eq (J'b O ro) rfl rfl (f'f ?_);simp[F49,ZiY,ZiZ,Zi0,Zi1,Zi2,Zi5,<-hp,<-hg1',k0,List.zipIdx,l'B,<-hg2',k1',e3',e4']
 ·rw[if_neg c1]
  by_cases c2:b=2
  ·rw[if_pos c2];subst c2;obtain⟨v',w3,g3,e3,s3,al3⟩:=J'I L hn al12 lo s2' (by simp) own;obtain⟨w4,g4,e4,al4⟩:=fin v' w3 g3 _ s3 al3 (by simp;omega) (by simp);refine⟨w4,g4,?_,al4⟩;have k1':O.cell g2 p 1=some (.int .i64 2):=k1;have e4':c 46 [v'] g3=some (.string (lnS [a,own]),g4):=e4;have hg1':g1=O.new h [.int .i64 (a:Int),.int .i64 2]:=hg1;refine C.eq (J'b O ro) rfl rfl (f'f ?_);simp[F49,ZiY,ZiZ,Zi0,Zi1,Zi3,Zi4,Zi5,<-hp,<-hg1',k0,List.zipIdx,l'B,<-hg2',k1',e3,e4']
  ·rw[if_neg c2];obtain⟨w4,g4,e4,al4⟩:=fin _ w2 g2 _ s2' al12 (by simp;omega) (by simp);refine⟨w4,g4,?_,al4⟩;have c0:b=0:=by omega
   subst c0;have k1':O.cell g2 p 1=some (.int .i64 0):=k1;have hg1':g1=O.new h [.int .i64 (a:Int),.int .i64 0]:=hg1;refine C.eq (J'b O ro) rfl rfl (f'f ?_);simp[F49,ZiY,ZiZ,Zi0,Zi1,Zi3,Zi5,<-hp,<-hg1',k0,List.zipIdx,l'B,<-hg2',k1',e4]
end
end Go.Proofs.YtimdkminagnhgabGreatDoor
namespace Go.Proofs.YtimdkminagnhgabGreatDoor
open Go.Vm Go.Proofs
set_option maxHeartbeats 400000
set_option maxRecDepth 4000
def itT (f:Nat->ByteArray): Nat->Nat->ByteArray->ByteArray
 | _,0,t=>t
 | j,m+1,t=>itT f (j+1) m (t++f j)
def pAt (l:List (Nat×Nat))(k:Nat): Nat×Nat:=(l[k]?).getD (0,0)
theorem H'q {l:List (Nat×Nat)}{k:Nat}(h:k<l.length): pAt l k=l[k]:=by simp[pAt,h]
def inL (j:Nat): ByteArray:=lnS [2*(1+j)]
def laL (N:CNr)(j:Nat): ByteArray:=lnS (2*(1+N.ni+j) :: tlS (pAt N.las j) (2*(1+N.ni+j)))
def laB (N:CNr)(j:Nat): ByteArray:=lnS (tlS (pAt N.las j) (2*(1+N.ni+j)))
def gaL (N:CNr)(k:Nat): ByteArray:=lnS [2*(1+N.ni+N.las.length+k),(pAt N.gts k).1,(pAt N.gts k).2]
def gaB (N:CNr)(k:Nat): ByteArray:=by7 (2*(1+N.ni+N.las.length+k)-(pAt N.gts k).1)++by7 ((pAt N.gts k).1-(pAt N.gts k).2)
def M'r (N:CNr): ByteArray:=⟨#[97,97,103,32]⟩++J'U N
def O'L (N:CNr): ByteArray:=itT inL 0 N.ni (M'r N)
def O'u (N:CNr): ByteArray:=itT (laL N) 0 N.las.length (O'L N)
def M's (N:CNr): ByteArray:=itT (gaL N) 0 N.gts.length (O'u N++lnS [N.bad])
def M't (N:CNr): ByteArray:=⟨#[97,105,103,32]⟩++J'U N
def O'v (N:CNr): ByteArray:=itT (laB N) 0 N.las.length (M't N)
def J'J (N:CNr): ByteArray:=itT (gaB N) 0 N.gts.length (O'v N++lnS [N.bad])
theorem O'w: ∀(ns:List Nat) (j:Nat)(t u:ByteArray),lnT ns j (t++u)=t++lnT ns j u:=by
 intro ns
 induction ns with
 | nil=>intro j t u;rfl
 | cons n r ih=>
  intro j t u;simp only[lnT];split
  ·rw[<-ih,ByteArray.append_assoc,ByteArray.append_assoc,ByteArray.append_assoc]
  ·rw[<-ih,ByteArray.append_assoc]
theorem O'x: ∀(ns:List Nat) (j k:Nat)(t:ByteArray),0<j->0<k->lnT ns j t=lnT ns k t:=by
 intro ns
 induction ns with
 | nil=>intro j k t _ _;rfl
 | cons n r ih=>
  intro j k t hj hk;simp only[lnT];rw[if_pos hj,if_pos hk];exact ih _ _ _ (by omega) (by omega)
theorem O'y (own n:Nat)(r:List Nat): lnS (own :: n :: r)=B'8 own++((⟨#[32]⟩:ByteArray)++lnS (n :: r)):=by
 have e0:∀x:ByteArray,(⟨#[]⟩:ByteArray)++x=x:=λx=>ByteArray.empty_append;unfold lnS;simp only[lnT,Nat.lt_irrefl,if_false,e0,l'F,Nat.zero_lt_one,if_true];rw[O'w,O'x r (1+1) 1 (B'8 n) (by omega) (by omega),ByteArray.append_assoc,ByteArray.append_assoc]
theorem Q'L (T:ByteArray)(N:CNr)(j:Nat): T++B'8 (2*(1+N.ni+j))++((⟨#[32]⟩:ByteArray)++lnS (tlS (pAt N.las j) (2*(1+N.ni+j))))=T++laL N j:=by
 unfold laL tlS;rw[O'y,ByteArray.append_assoc]
theorem J'K (x:Nat×Nat)(own:Nat): (tlS x own).length<=2:=by
 unfold tlS;split
 ·simp
 ·split <;> simp
theorem H'r (N:CNr)(j:Nat): (laL N j).size<=100:=by
 have:=C'P (2*(1+N.ni+j) :: tlS (pAt N.las j) (2*(1+N.ni+j)));have h2:=J'K (pAt N.las j) (2*(1+N.ni+j));unfold laL;simp only[l'n]at this;omega
theorem H's (N:CNr)(j:Nat): (laB N j).size<=100:=by
 have:=C'P (tlS (pAt N.las j) (2*(1+N.ni+j)));have h2:=J'K (pAt N.las j) (2*(1+N.ni+j));unfold laB;omega
theorem H't (j:Nat): (inL j).size<=100:=by
 have:=C'P [2*(1+j)];unfold inL;simp only[l'n,l'o]at this;omega
theorem L'J (N:CNr)(j:Nat): (gaL N j).size<=100:=by
 have:=C'P [2*(1+N.ni+N.las.length+j),(pAt N.gts j).1,(pAt N.gts j).2];unfold gaL;simp only[l'n,l'o]at this;omega
theorem H'u (n:Nat): (by7 n).size<=2:=by
 unfold by7;split
 ·exact (by decide:1<=2)
 ·exact (by decide:2<=2)
theorem F'v {f:Nat->ByteArray}(hf:∀j,(f j).size<=100): ∀(m j:Nat)(t:ByteArray),(itT f j m t).size<=t.size+100*m:=by
 intro m
 induction m with
 | zero=>intro j t;simp[itT]
 | succ m ih=>
  intro j t;simp only[itT];have h1:=ih (j+1) (t++f j);have h2:=hf j;rw[l'v]at h1;omega
theorem H'v (N:CNr): (J'U N).size<=30:=by
 have:=C'P [N.ni+N.las.length+N.gts.length,N.ni,N.las.length,0,N.gts.length,1];unfold J'U;simp only[l'n,l'o]at this;omega
theorem J'L (N:CNr): (M'r N).size<=100:=by
 have:=H'v N;have e:(⟨#[97,97,103,32]⟩:ByteArray).size=4:=rfl;unfold M'r;rw[l'v];omega
theorem J'M (N:CNr): (M't N).size<=100:=by
 have:=H'v N;have e:(⟨#[97,105,103,32]⟩:ByteArray).size=4:=rfl;unfold M't;rw[l'v];omega
section
variable {H:Type}{O:HI H}{ro:Nat}{c:A'X H}
attribute [local simp] A'b A'c reg to too A'a A'n A'i mv' nl' fl' ld' ln' mk' ia' ik' ix' B'C B'D aLd A'5 A'q A'7 A'3 A'2 aUn unA ev A'k isB A'Z A'C A'D A'E A'F A'G A'H A'I A'J A'K cIf A'y A'f A'g A'L A'h rvE aSt A'M A't A'N A'O A'P B'c A'Q A'u A'R A'S B'd A'T A'v A'U A'V A'W B'e A'l Instr.fill A'e A'r A'z A's ptr undef B'o B'r A'j B'n A'w B'w A'B B'A A'x B'p rangeA B'E B'P B'4 F'y A'o
def TxP (O:HI H)(w0:Own)(h0:H)(p:Nat)(E:ByteArray)(e:Exit)(t:Env)(h:H): Prop:=e = .normal∧t 0 = .pointer (some ⟨p,0,none⟩)∧t 3 = .string E∧∃w,Al O w0 h0 w h
theorem Q'M (C:LP' O ro c)(L:O.Law){w0:Own}{h0:H}(g:Gl O w0 h0)(lo:ro<=O.next h0){k p:Nat}{N:CNr}{v1 v2:Value}(x:XC O ro w0 h0 k p N v1 v2)(ok:COk N)(w:Own)(h:H)(al:Al O w0 h0 w h)(t:Env)(T:ByteArray)(hT:T.size<=100)(t0:t 0 = .pointer (some ⟨p,0,none⟩))(t3:t 3 = .string T)(t4:t 4 = .int .i64 0):
  okE c (A'z 0 (A'1 (K'W O Tryz.prog ro))) (t,h) (TxP O w0 h0 p (itT inL 0 N.ni T)):=by
 have o1:=ok.ni;generalize hE:itT inL 0 N.ni T=E;refine okE.blk ?_;refine okE.loop (λm t g'=>∃j T w',Al O w0 h0 w' g'∧t 0 = .pointer (some ⟨p,0,none⟩)∧t 3 = .string T∧t 4 = .int .i64 (j:Nat)∧j+m=N.ni+1∧0<m∧T.size<=100+100*j∧itT inL j (m-1) T=E) ?_ (N.ni+1) _ _ ⟨0,T,w,al,t0,t3,t4,by omega,by omega,by omega,hE⟩;intro m t g' hI;obtain⟨j,T,w',al,t0,t3,t4,hj,hm,hT,hfin⟩:=hI;have x':=x.al L al;have k0:=x'.m.get 0 _ rfl
 by_cases hlt:j<N.ni
 ·obtain⟨m',rfl⟩:∃m',m=m'+2:=⟨m-2,by omega⟩;simp only[Nat.add_one_sub_one,itT]at hfin;obtain⟨a,ha⟩:=e' (1+j);obtain⟨b,hb⟩:=e' (2*(1+j));obtain⟨w2,h2,e2,al2⟩:=G'f C L (g.al' L al) (al.lo lo) [b] (by simp) (by simp;omega) (by simp);have e3:c 46 [.slice (some ⟨O.next g',0,some 1⟩) 1 2] (O.new g' [.int .i64 (b:Int)])=some (.string (inL j),h2):=by unfold inL;rw[<-hb];exact e2
  have hsz:=H't j;have hw1:IntKind.i64.wrap (1+(j:Int))=(a:Int):=wr (by omega) (by omega);have hw2:IntKind.i64.wrap (2*(a:Int))=(b:Int):=wr (by omega) (by omega);obtain⟨q,hq⟩:=e' (j+1);have hw:IntKind.i64.wrap ((j:Int)+1)=(q:Int):=wr (by omega) (by omega);have hlt':(j:Int)<N.ni:=by omega
  rw[<-hq]at hfin;have z1:T.size+(inL j).size<=9223372036854775807:=by omega
  have z2:T.size+(inL j).size<=100+100*q:=by omega
  refine f'f ?_;simp[K'W,Zia,Zib,Zic,t0,t3,t4,k0,hlt,hlt',hw1,hw2,List.zipIdx,l'B,e3,z1,hw];exact⟨m'+1,by omega,⟨w2,al.trans al2⟩,q,rfl,by omega,by omega,z2,hfin⟩
 ·have hm1:m=1:=by omega
  subst hm1;have hfin2:T=E:=hfin;subst hfin2;have hlt':¬(j:Int)<N.ni:=by omega
  refine f'f ?_;simp[K'W,Zia,t0,t3,t4,k0,hlt,hlt',TxP];exact⟨w',al⟩
theorem Q'N (C:LP' O ro c)(L:O.Law){w0:Own}{h0:H}(g:Gl O w0 h0)(lo:ro<=O.next h0){k p:Nat}{N:CNr}{v1 v2:Value}(x:XC O ro w0 h0 k p N v1 v2)(ok:COk N)(w:Own)(h:H)(al:Al O w0 h0 w h)(t:Env)(T:ByteArray)(hT:T.size<=500)(t0:t 0 = .pointer (some ⟨p,0,none⟩))(t3:t 3 = .string T)(t5:t 5 = .int .i64 0):
  okE c (A'z 2 (A'1 (K'X O Tryz.prog ro))) (t,h) (TxP O w0 h0 p (itT (laL N) 0 N.las.length T)):=by
 have o1:=ok.ni;have o2:=ok.nl;have o3:=ok.na;generalize hE:itT (laL N) 0 N.las.length T=E;refine okE.blk ?_;refine okE.loop (λm t g'=>∃j T w',Al O w0 h0 w' g'∧t 0 = .pointer (some ⟨p,0,none⟩)∧t 3 = .string T∧t 5 = .int .i64 (j:Nat)∧j+m=N.las.length+1∧0<m∧T.size<=500+100*j∧itT (laL N) j (m-1) T=E) ?_ (N.las.length+1) _ _ ⟨0,T,w,al,t0,t3,t5,by omega,by omega,by omega,hE⟩;intro m t g' hI;obtain⟨j,T,w',al,t0,t3,t5,hj,hm,hT,hfin⟩:=hI;have x':=x.al L al;have k1:=x'.m.get 1 _ rfl
 by_cases hlt:j<N.las.length
 ·obtain⟨m',rfl⟩:∃m',m=m'+2:=⟨m-2,by omega⟩;simp only[Nat.add_one_sub_one,itT]at hfin;have c1:=M'n C x' ok j (by omega);rw[<-Q'L]at hfin;have hsz:=H'r N j;have hle:=congrArg ByteArray.size (Q'L T N j);rw[l'v,l'v,l'v,l'v]at hle;rw[H'q hlt]at hfin hle;obtain⟨own,hown⟩:=e' (2*(1+N.ni+j));rw[<-hown]at c1 hfin hle;have hmem:=ok.n _ (List.getElem_mem hlt);obtain⟨w2,h2,e2,al2,lo2⟩:=L'8 C L (g.al' L al) (al.lo lo) own (by omega);have al12:=al.trans al2;have x2:=x.al L al12;have k1':=x2.m.get 1 _ rfl;obtain⟨b1,cp1,hv1,_,_,cl⟩:=F'u x2.s1 j hlt;obtain⟨w3,h3,e3,al3⟩:=M'q C L (g.al' L al12) (al12.lo lo) N.las[j] own (by omega) (by omega) (by omega);rw[hv1]at k1 k1';obtain⟨q,hq⟩:=e' (j+1);have hw:IntKind.i64.wrap ((j:Int)+1)=(q:Int):=wr (by omega) (by omega);have hlt':(j:Int)<N.las.length:=by omega
  rw[<-hq]at hfin;have hds:=E'F own;generalize lnS (tlS N.las[j] own)=E3 at *;have z1:T.size+(B'8 own).size<=9223372036854775807:=by omega
  have z2:(⟨#[32]⟩:ByteArray).size+E3.size<=9223372036854775807:=by omega
  have z3:T.size+(B'8 own).size+((⟨#[32]⟩:ByteArray).size+E3.size)<=9223372036854775807:=by omega
  have z4:T.size+(B'8 own).size+((⟨#[32]⟩:ByteArray).size+E3.size)<=500+100*q:=by omega
  refine f'f ?_;simp[K'X,Zie,Zif,Zig,Zih,Zii,t0,t3,t5,k1,hlt,hlt',c1,e2,z1,k1',cl,e3,z2,z3,hw];exact⟨m'+1,by omega,⟨w3,al12.trans al3⟩,q,rfl,by omega,by omega,z4,hfin⟩
 ·have hm1:m=1:=by omega
  subst hm1;have hfin2:T=E:=hfin;subst hfin2;obtain⟨a1,cp1,hv1⟩:=C'Q x'.s1;rw[hv1]at k1;have hlt':¬(j:Int)<N.las.length:=by omega
  refine f'f ?_;simp[K'X,Zie,t0,t3,t5,k1,hlt,hlt',TxP];exact⟨w',al⟩
theorem Q'O (C:LP' O ro c)(L:O.Law){w0:Own}{h0:H}(g:Gl O w0 h0)(lo:ro<=O.next h0){k p:Nat}{N:CNr}{v1 v2:Value}(x:XC O ro w0 h0 k p N v1 v2)(ok:COk N)(w:Own)(h:H)(al:Al O w0 h0 w h)(t:Env)(T:ByteArray)(hT:T.size<=2000)(t0:t 0 = .pointer (some ⟨p,0,none⟩))(t3:t 3 = .string T)(t7:t 7 = .int .i64 0):
  okE c (A'z 4 (A'1 (K'Y O Tryz.prog ro))) (t,h) (TxP O w0 h0 p (itT (gaL N) 0 N.gts.length T)):=by
 have o1:=ok.ni;have o2:=ok.nl;have o3:=ok.na;generalize hE:itT (gaL N) 0 N.gts.length T=E;refine okE.blk ?_;refine okE.loop (λm t g'=>∃j T w',Al O w0 h0 w' g'∧t 0 = .pointer (some ⟨p,0,none⟩)∧t 3 = .string T∧t 7 = .int .i64 (j:Nat)∧j+m=N.gts.length+1∧0<m∧T.size<=2000+100*j∧itT (gaL N) j (m-1) T=E) ?_ (N.gts.length+1) _ _ ⟨0,T,w,al,t0,t3,t7,by omega,by omega,by omega,hE⟩;intro m t g' hI;obtain⟨j,T,w',al,t0,t3,t7,hj,hm,hT,hfin⟩:=hI;have x':=x.al L al;have k2:=x'.m.get 2 _ rfl
 by_cases hlt:j<N.gts.length
 ·obtain⟨m',rfl⟩:∃m',m=m'+2:=⟨m-2,by omega⟩;simp only[Nat.add_one_sub_one,itT]at hfin;have c1:=M'o C x' ok j (by omega);have hsz:=L'J N j;obtain⟨own,hown⟩:=e' (2*(1+N.ni+N.las.length+j));have hga:gaL N j=lnS [own,N.gts[j].1,N.gts[j].2]:=by unfold gaL;rw[H'q hlt,<-hown]
  rw[<-hown]at c1;have hg:=ok.g j hlt;obtain⟨b2,cp2,hv2,cl0,cl1,_⟩:=F'u x'.s2 j hlt;obtain⟨w3,h3,e3,al3⟩:=G'f C L (g.al' L al) (al.lo lo) [own,N.gts[j].1,N.gts[j].2] (by simp) (by simp;omega) (by simp);rw[<-hga]at e3;have e3':c 46 [.slice (some ⟨O.next g',0,some 1⟩) 3 4] (O.new g' [.int .i64 (own:Int),.int .i64 (N.gts[j].1:Int),.int .i64 (N.gts[j].2:Int)])=some (.string (gaL N j),h3):=e3;rw[hv2]at k2;obtain⟨q,hq⟩:=e' (j+1);have hw:IntKind.i64.wrap ((j:Int)+1)=(q:Int):=wr (by omega) (by omega);have hlt':(j:Int)<N.gts.length:=by omega
  rw[<-hq]at hfin;generalize gaL N j=E3 at *;have z1:T.size+E3.size<=9223372036854775807:=by omega
  have z4:T.size+E3.size<=2000+100*q:=by omega
  refine f'f ?_;simp[K'Y,Zil,Zim,Zin,Zio,t0,t3,t7,k2,hlt,hlt',c1,cl0,cl1,List.zipIdx,l'B,e3',z1,hw];exact⟨m'+1,by omega,⟨w3,al.trans al3⟩,q,rfl,by omega,by omega,z4,hfin⟩
 ·have hm1:m=1:=by omega
  subst hm1;have hfin2:T=E:=hfin;subst hfin2;obtain⟨a2,cp2,hv2⟩:=C'Q x'.s2;rw[hv2]at k2;have hlt':¬(j:Int)<N.gts.length:=by omega
  refine f'f ?_;simp[K'Y,Zil,t0,t3,t7,k2,hlt,hlt',TxP];exact⟨w',al⟩
theorem O'z (C:LP' O ro c)(L:O.Law){w:Own}{h:H}(g:Gl O w h)(lo:ro<=O.next h){k p:Nat}{N:CNr}{v1 v2:Value}(x:XC O ro w h k p N v1 v2)(ok:COk N):
  ∃w' h',c 27 [.pointer (some ⟨p,0,none⟩)] h=some (.string (M's N),h')∧Al O w h w' h':=by
 have o1:=ok.ni;have o2:=ok.nl;have o3:=ok.na;have ob:=ok.b;obtain⟨w1,h1,e1,al1⟩:=H'p C L g lo x ok;have s0:=J'L N;have s1:(O'L N).size<=500:=by have:=F'v H't N.ni 0 (M'r N);unfold O'L;omega
 have s2:(O'u N).size<=1200:=by have:=F'v (H'r N) N.las.length 0 (O'L N);unfold O'u;omega
 have sb:=C'P [N.bad];simp only[l'n,l'o]at sb;have key:∃u h',c 27 [.pointer (some ⟨p,0,none⟩)] h=some (u,h')∧(u = .string (M's N)∧∃w',Al O w h w' h'):=by
  refine C.fn (P'Q O ro) rfl rfl ?_;have z0:(⟨#[97,97,103,32]⟩:ByteArray).size+(J'U N).size<=9223372036854775807:=by unfold M'r at s0;rw[l'v]at s0;omega
  unfold F27;refine s'f ?_;simp[Zh5,A'd,-A'L,-A'h,-rvE];refine s'f ?_;simp[Zh6,A'd,-A'L,-A'h,-rvE];refine s'f ?_;simp[Zh8,e1,z0,A'd,-A'L,-A'h,-rvE];refine okE.seq (s'f ?_);simp[Zh9,A'd,-A'L,-A'h,-rvE];refine okE.mono (Q'M C L g lo x ok w1 h1 al1 _ (M'r N) s0 (by simp) (by simp[M'r]) (by simp)) ?_;rintro e t h2 ⟨rfl,t0,t3,w2,al2⟩;simp only[A'd];refine okE.seq (s'f ?_);simp[Zid,A'd,-A'L,-A'h,-rvE];refine okE.mono (Q'N C L g lo x ok w2 h2 al2 _ (O'L N) s1 (by simp[t0]) (by simp[t3];rfl) (by simp)) ?_;rintro e t h3 ⟨rfl,t0,t3,w3,al3⟩;simp only[A'd];have x3:=x.al L al3;have k3:=x3.m.get 3 _ rfl;obtain⟨w4,h4,e4,al4⟩:=G'f C L (g.al' L al3) (al3.lo lo) [N.bad] (by simp) (by simp;omega) (by simp);have e4':c 46 [.slice (some ⟨O.next h3,0,some 1⟩) 1 2] (O.new h3 [.int .i64 (N.bad:Int)])=some (.string (lnS [N.bad]),h4):=e4;have t3':t 3 = .string (O'u N):=t3;have z1:(O'u N).size+(lnS [N.bad]).size<=9223372036854775807:=by omega
  refine s'f ?_;simp[Zij,t0,t3',k3,List.zipIdx,l'B,e4',z1,A'd,-A'L,-A'h,-rvE];refine okE.seq (s'f ?_);simp[Zik,A'd,-A'L,-A'h,-rvE];refine okE.mono (Q'O C L g lo x ok w4 h4 (al3.trans al4) _ (O'u N++lnS [N.bad]) (by rw[l'v];omega) (by simp[t0]) (by simp) (by simp)) ?_;rintro e t h5 ⟨rfl,t0,t3,w5,al5⟩;simp only[A'd];refine f'f ?_;simp[Zip,t3,M's];exact⟨w5,al5⟩
 obtain⟨u,h',e1,rfl,w',a⟩:=key;exact⟨w',h',e1,a⟩
end
end Go.Proofs.YtimdkminagnhgabGreatDoor
namespace Go.Proofs.YtimdkminagnhgabGreatDoor
open Go.Vm Go.Proofs
set_option maxHeartbeats 400000
set_option maxRecDepth 4000
section
variable {H:Type}{O:HI H}{ro:Nat}{c:A'X H}
attribute [local simp] A'b A'c reg to too A'a A'n A'i mv' nl' fl' ld' ln' mk' ia' ik' ix' B'C B'D aLd A'5 A'q A'7 A'3 A'2 aUn unA ev A'k isB A'Z A'C A'D A'E A'F A'G A'H A'I A'J A'K cIf A'y A'f A'g A'L A'h rvE aSt A'M A't A'N A'O A'P B'c A'Q A'u A'R A'S B'd A'T A'v A'U A'V A'W B'e A'l Instr.fill A'e A'r A'z A's ptr undef B'o B'r A'j B'n A'w B'w A'B B'A A'x B'p rangeA B'E B'P B'4 F'y A'o
theorem S'M (L:O.Law)(w:Own)(h:H)(hro:ro<=O.next h)(x y:Value)(t:Tag):
  ∃b w' h',b=O.next h∧A'6 O (O.new h [.int .i64 0,.int .i64 0]) b 0 [x,y]=some h'∧Bx O ro w' h' t b [x,y]∧(∀K,Ch O K w h w' h')∧ro<=O.next h'∧¬b<ro:=by
 obtain⟨h',e1,e2,e3,e4⟩:=D'u L w h hro (.int .i64 0) (.int .i64 0) x y t;exact⟨_,_,h',rfl,e1,e2,e3,e4,by omega⟩
theorem Q'P (C:LP' O ro c)(L:O.Law){w0:Own}{h0:H}(g:Gl O w0 h0)(lo:ro<=O.next h0){k p:Nat}{N:CNr}{v1 v2:Value}(x:XC O ro w0 h0 k p N v1 v2)(ok:COk N)(w:Own)(h:H)(al:Al O w0 h0 w h)(t:Env)(T:ByteArray)(hT:T.size<=500)(t0:t 0 = .pointer (some ⟨p,0,none⟩))(t3:t 3 = .string T)(t4:t 4 = .int .i64 0):
  okE c (A'z 0 (A'1 (K'Z O Tryz.prog ro))) (t,h) (TxP O w0 h0 p (itT (laB N) 0 N.las.length T)):=by
 have o1:=ok.ni;have o2:=ok.nl;have o3:=ok.na;generalize hE:itT (laB N) 0 N.las.length T=E;refine okE.blk ?_;refine okE.loop (λm t g'=>∃j T w',Al O w0 h0 w' g'∧t 0 = .pointer (some ⟨p,0,none⟩)∧t 3 = .string T∧t 4 = .int .i64 (j:Nat)∧j+m=N.las.length+1∧0<m∧T.size<=500+100*j∧itT (laB N) j (m-1) T=E) ?_ (N.las.length+1) _ _ ⟨0,T,w,al,t0,t3,t4,by omega,by omega,by omega,hE⟩;intro m t g' hI;obtain⟨j,T,w',al,t0,t3,t4,hj,hm,hT,hfin⟩:=hI;have x':=x.al L al;have k1:=x'.m.get 1 _ rfl
 by_cases hlt:j<N.las.length
 ·obtain⟨m',rfl⟩:∃m',m=m'+2:=⟨m-2,by omega⟩;simp only[Nat.add_one_sub_one,itT]at hfin;have c1:=M'n C x' ok j (by omega);have hsz:=H's N j;obtain⟨own,hown⟩:=e' (2*(1+N.ni+j));have hla:laB N j=lnS (tlS N.las[j] own):=by unfold laB;rw[H'q hlt,<-hown]
  rw[<-hown]at c1;have hmem:=ok.n _ (List.getElem_mem hlt);obtain⟨b1,cp1,hv1,_,_,cl⟩:=F'u x'.s1 j hlt;obtain⟨w3,h3,e3,al3⟩:=M'q C L (g.al' L al) (al.lo lo) N.las[j] own (by omega) (by omega) (by omega);rw[<-hla]at e3;rw[hv1]at k1;obtain⟨q,hq⟩:=e' (j+1);have hw:IntKind.i64.wrap ((j:Int)+1)=(q:Int):=wr (by omega) (by omega);have hlt':(j:Int)<N.las.length:=by omega
  rw[<-hq]at hfin;generalize laB N j=E3 at *;have z1:T.size+E3.size<=9223372036854775807:=by omega
  have z4:T.size+E3.size<=500+100*q:=by omega
  refine f'f ?_;simp[K'Z,Ziv,Ziw,Zix,Ziy,t0,t3,t4,k1,hlt,hlt',c1,cl,e3,z1,hw];exact⟨m'+1,by omega,⟨w3,al.trans al3⟩,q,rfl,by omega,by omega,z4,hfin⟩
 ·have hm1:m=1:=by omega
  subst hm1;have hfin2:T=E:=hfin;subst hfin2;obtain⟨a1,cp1,hv1⟩:=C'Q x'.s1;rw[hv1]at k1;have hlt':¬(j:Int)<N.las.length:=by omega
  refine f'f ?_;simp[K'Z,Ziv,t0,t3,t4,k1,hlt,hlt',TxP];exact⟨w',al⟩
theorem Q'Q (C:LP' O ro c)(L:O.Law){w0:Own}{h0:H}(g:Gl O w0 h0)(lo:ro<=O.next h0){k p:Nat}{N:CNr}{v1 v2:Value}(x:XC O ro w0 h0 k p N v1 v2)(ok:COk N)(w:Own)(h:H)(al:Al O w0 h0 w h)(t:Env)(T:ByteArray)(hT:T.size<=2000)(t0:t 0 = .pointer (some ⟨p,0,none⟩))(t3:t 3 = .string T)(t6:t 6 = .int .i64 0):
  okE c (A'z 2 (A'1 (K'0 O Tryz.prog ro))) (t,h) (TxP O w0 h0 p (itT (gaB N) 0 N.gts.length T)):=by
 have o1:=ok.ni;have o2:=ok.nl;have o3:=ok.na;generalize hE:itT (gaB N) 0 N.gts.length T=E;refine okE.blk ?_;refine okE.loop (λm t g'=>∃j T w',Al O w0 h0 w' g'∧t 0 = .pointer (some ⟨p,0,none⟩)∧t 3 = .string T∧t 6 = .int .i64 (j:Nat)∧j+m=N.gts.length+1∧0<m∧T.size<=2000+100*j∧itT (gaB N) j (m-1) T=E) ?_ (N.gts.length+1) _ _ ⟨0,T,w,al,t0,t3,t6,by omega,by omega,by omega,hE⟩;intro m t g' hI;obtain⟨j,T,w',al,t0,t3,t6,hj,hm,hT,hfin⟩:=hI;have x':=x.al L al;have k2:=x'.m.get 2 _ rfl
 by_cases hlt:j<N.gts.length
 ·obtain⟨m',rfl⟩:∃m',m=m'+2:=⟨m-2,by omega⟩;simp only[Nat.add_one_sub_one,itT]at hfin;have c1:=M'o C x' ok j (by omega);obtain⟨own,hown⟩:=e' (2*(1+N.ni+N.las.length+j));have hg:=ok.g j hlt;obtain⟨a,ha⟩:=e' (own-N.gts[j].1);obtain⟨b,hb⟩:=e' (N.gts[j].1-N.gts[j].2);have hga:gaB N j=by7 a++by7 b:=by unfold gaB;rw[H'q hlt,<-hown,<-ha,<-hb]
  rw[hga,<-ByteArray.append_assoc]at hfin;rw[<-hown]at c1;obtain⟨b2,cp2,hv2,_,_,cl⟩:=F'u x'.s2 j hlt;obtain⟨d,w1,h1,hd,e1,y1,al1,lo1,hdro⟩:=S'M L w' g' (al.lo lo) (.int .i64 (N.gts[j].1:Int)) (.int .i64 (N.gts[j].2:Int)) (100,7);have al1:Al O w' g' w1 h1:=al1;obtain⟨w2,h2,e2,al2⟩:=M'p C L (w:=w1) lo1 a (by omega);have y2:=y1.al' L al2;obtain⟨w3,h3,e3,al3⟩:=M'p C L (w:=w2) (al2.lo lo1) b (by omega);have d0:=y1.get 0 _ rfl;have d1:=y2.get 0 _ rfl;have d2:=y2.get 1 _ rfl;rw[hv2]at k2;have hw1:IntKind.i64.wrap ((own:Int)-(N.gts[j].1:Int))=(a:Int):=wr (by omega) (by omega);have hw2:IntKind.i64.wrap ((N.gts[j].1:Int)-(N.gts[j].2:Int))=(b:Int):=wr (by omega) (by omega);obtain⟨q,hq⟩:=e' (j+1);have hw:IntKind.i64.wrap ((j:Int)+1)=(q:Int):=wr (by omega) (by omega);have hlt':(j:Int)<N.gts.length:=by omega
  rw[<-hq]at hfin;have s1:=H'u a;have s2:=H'u b;generalize by7 a=E1 at *;generalize by7 b=E2 at *;have z1:T.size+E1.size<=9223372036854775807:=by omega
  have z2:T.size+E1.size+E2.size<=9223372036854775807:=by omega
  have z4:T.size+E1.size+E2.size<=2000+100*q:=by omega
  refine f'f ?_;simp[K'0,ZiB,ZiC,ZiD,ZiE,ZiF,ZiG,t0,t3,t6,k2,hlt,hlt',c1,cl,<-hd,hdro,e1,d0,hw1,e2,z1,d1,d2,hw2,e3,z2,hw];exact⟨m'+1,by omega,⟨w3,((al.trans al1).trans al2).trans al3⟩,q,rfl,by omega,by omega,z4,hfin⟩
 ·have hm1:m=1:=by omega
  subst hm1;have hfin2:T=E:=hfin;subst hfin2;obtain⟨a2,cp2,hv2⟩:=C'Q x'.s2;rw[hv2]at k2;have hlt':¬(j:Int)<N.gts.length:=by omega
  refine f'f ?_;simp[K'0,ZiB,t0,t3,t6,k2,hlt,hlt',TxP];exact⟨w',al⟩
theorem O'A (C:LP' O ro c)(L:O.Law){w:Own}{h:H}(g:Gl O w h)(lo:ro<=O.next h){k p:Nat}{N:CNr}{v1 v2:Value}(x:XC O ro w h k p N v1 v2)(ok:COk N):
  ∃w' h',c 28 [.pointer (some ⟨p,0,none⟩)] h=some (.string (J'J N),h')∧Al O w h w' h':=by
 have o1:=ok.ni;have o2:=ok.nl;have o3:=ok.na;have ob:=ok.b;obtain⟨w1,h1,e1,al1⟩:=H'p C L g lo x ok;have s0:=J'M N;have s1:(O'v N).size<=1200:=by have:=F'v (H's N) N.las.length 0 (M't N);unfold O'v;omega
 have sb:=C'P [N.bad];simp only[l'n,l'o]at sb;have key:∃u h',c 28 [.pointer (some ⟨p,0,none⟩)] h=some (u,h')∧(u = .string (J'J N)∧∃w',Al O w h w' h'):=by
  refine C.fn (P'R O ro) rfl rfl ?_;have z0:(⟨#[97,105,103,32]⟩:ByteArray).size+(J'U N).size<=9223372036854775807:=by unfold M't at s0;rw[l'v]at s0;omega
  unfold F28;refine s'f ?_;simp[Ziq,A'd,-A'L,-A'h,-rvE];refine s'f ?_;simp[Zir,A'd,-A'L,-A'h,-rvE];refine s'f ?_;simp[Zit,e1,z0,A'd,-A'L,-A'h,-rvE];refine okE.seq (s'f ?_);simp[Ziu,A'd,-A'L,-A'h,-rvE];refine okE.mono (Q'P C L g lo x ok w1 h1 al1 _ (M't N) (by omega) (by simp) (by simp[M't]) (by simp)) ?_;rintro e t h3 ⟨rfl,t0,t3,w3,al3⟩;simp only[A'd];have x3:=x.al L al3;have k3:=x3.m.get 3 _ rfl;obtain⟨w4,h4,e4,al4⟩:=G'f C L (g.al' L al3) (al3.lo lo) [N.bad] (by simp) (by simp;omega) (by simp);have e4':c 46 [.slice (some ⟨O.next h3,0,some 1⟩) 1 2] (O.new h3 [.int .i64 (N.bad:Int)])=some (.string (lnS [N.bad]),h4):=e4;have t3':t 3 = .string (O'v N):=t3;have z1:(O'v N).size+(lnS [N.bad]).size<=9223372036854775807:=by omega
  refine s'f ?_;simp[Ziz,t0,t3',k3,List.zipIdx,l'B,e4',z1,A'd,-A'L,-A'h,-rvE];refine okE.seq (s'f ?_);simp[ZiA,A'd,-A'L,-A'h,-rvE];refine okE.mono (Q'Q C L g lo x ok w4 h4 (al3.trans al4) _ (O'v N++lnS [N.bad]) (by rw[l'v];omega) (by simp[t0]) (by simp) (by simp)) ?_;rintro e t h5 ⟨rfl,t0,t3,w5,al5⟩;simp only[A'd];refine f'f ?_;simp[ZiH,t3,J'J];exact⟨w5,al5⟩
 obtain⟨u,h',e1,rfl,w',a⟩:=key;exact⟨w',h',e1,a⟩
end
end Go.Proofs.YtimdkminagnhgabGreatDoor
