import Derived.Test.YtimdkminagnhgabGreatDoorQ13
set_option linter.all false
namespace Go.Proofs.YtimdkminagnhgabGreatDoor
open Go.Vm Go.Proofs
set_option maxHeartbeats 1000000
section
variable {H:Type}{O:HI H}{ro:Nat}{c:A'X H}
attribute [local simp] A'b A'c reg to too A'a A'n A'i mv' nl' fl' ld' ln' mk' ia' ik' ix' B'C B'D aLd A'5 A'q A'7 A'3 A'2 aUn unA ev A'k isB A'Z A'C A'D A'E A'F A'G A'H A'I A'J A'K cIf A'y A'f A'g A'L A'h rvE aSt A'M A't A'N A'O A'P B'c A'Q A'u A'R A'S B'd A'T A'v A'U A'V A'W B'e A'l Instr.fill A'e A'r A'z A's ptr undef B'o B'r A'j B'n A'w B'w A'B B'A A'x B'p rangeA
def nw0 (N:Net): Ord:=⟨List.replicate N.given.length (-1),0⟩
def nwS (N:Net): Ord:=N.las.foldl (λP x=>P.lay x.l) (N.ins.foldl Ord.lay ((nw0 N).lay 0))
theorem K'D (C:LP' O ro c)(L:O.Law){w0:Own}{h0:H}{n o:Nat}{N:Net}(hl:N.given.length<=10000)(w:Own)(h:H)(t:Env){v0 v1 v2 v3 v4 v5:Value}(x:NL O ro w h n N v0 v1 v2 v3 v4 v5)(y:OB O ro w h o ⟨[],0⟩)(lo:ro<=O.next h)(cc:Ch O (Kc [3] 0) w0 h0 w h)(t0:t 0=ptr n)(t3:t 3=ptr o)(t4:t 4 = .int .i64 0):
  okE c (A'z 0 (A'1 (K'k O Tryz.prog ro))) (t,h) (λe t' h'=>e = .normal∧t' 0=ptr n∧t' 3=ptr o∧∃w',NL O ro w' h' n N v0 v1 v2 v3 v4 v5∧OB O ro w' h' o (nw0 N)∧Ch O (Kc [3] 0) w0 h0 w' h'∧ro<=O.next h'):=by
 refine okE.blk ?_;refine okE.loop (λm t g=>∃j w',NL O ro w' g n N v0 v1 v2 v3 v4 v5∧OB O ro w' g o ⟨List.replicate j (-1),0⟩∧Ch O (Kc [3] 0) w0 h0 w' g∧ro<=O.next g∧t 0=ptr n∧t 3=ptr o∧t 4 = .int .i64 (j:Nat)∧j+m=N.given.length+1∧0<m) ?_ (N.given.length+1) _ _ ⟨0,w,x,y,cc,lo,t0,t3,t4,by omega,by omega⟩;intro m t g hI;obtain⟨j,w',x',y',c',lo',t0,t3,t4,hj,hm⟩:=hI;unfold ptr at t0 t3;have m0:=x'.m.get 0 _ rfl;obtain⟨a,cp,hv0⟩:=x'.s0.len (by omega) N.given.length (by simp)
 by_cases hlt:j<N.given.length
 ·obtain⟨u0,ym,ys⟩:=y'.ex;obtain⟨v',h2,w2,e2,sl2,c2,lo2⟩:=C'd L (bytes:=8) lo' ys (new:=[.int .i64 (-1)]) (by omega) rfl (by simp;omega) (by simp;omega);have y2:=ym.ch L c2;have y3:=y2.put L 0 (by simp) v';have c3:=Ch.put L (K:=λu=>u=(3,1000)) y2 0 (by simp) v' rfl;have sl3:=sl2.ch L c3;have y20:=y2.get 0 _ rfl;have y0:=ym.get 0 _ rfl;have hron:¬o<ro:=by have:=y2.lo;omega
  obtain⟨f1,f2,f3⟩:=sl2.flat;obtain⟨q,hq⟩:=e' (j+1);have hw:IntKind.i64.wrap ((j:Int)+1)=(q:Int):=w'i;have hlt':(j:Int)<N.given.length:=by omega
  rw[hv0]at m0;refine f'f ?_;simp[K'k,Zds,Zdt,Zdu,t0,t3,t4,m0,hlt,hlt',y0,List.zipIdx,l'B,e2,f1,f2,f3,y20,hron,A'6,hw];refine⟨m-1,by omega,q,w2,(x'.ch L c2).ch L c3,⟨v',y3,?_⟩,(c'.trans (Kc.one c2 (.inl (l'm.2 rfl)))).trans (Kc.one c3 (.inl (l'm.2 rfl))),by rw[L.next_put];exact lo2,rfl,by omega,by omega⟩;rw[hq];simp only[List.replicate_succ',List.map_append,l'J,l'K];exact sl3
 ·have hlt':¬(j:Int)<N.given.length:=by omega
  have hjt:j=N.given.length:=by omega
  rw[hv0]at m0;refine f'f ?_;simp[K'k,Zds,t0,t3,t4,m0,hlt,hlt'];subst hjt;exact⟨w',x',y',c',lo'⟩
theorem P'y (C:LP' O ro c)(L:O.Law){w0:Own}{h0:H}{n o:Nat}{N:Net}(hl:N.ins.length<=10000)(w:Own)(h:H)(t:Env){v0 v1 v2 v3 v4 v5:Value}(P:Ord)(hP:P.Ok 100)(x:NL O ro w h n N v0 v1 v2 v3 v4 v5)(y:OB O ro w h o P)(lo:ro<=O.next h)(cc:Ch O (Kc [3] 0) w0 h0 w h)(t0:t 0=ptr n)(t3:t 3=ptr o)(t5:t 5 = .int .i64 0):
  okE c (A'z 2 (A'1 (K'l O Tryz.prog ro))) (t,h) (λe t' h'=>e = .normal∧t' 0=ptr n∧t' 3=ptr o∧∃w',NL O ro w' h' n N v0 v1 v2 v3 v4 v5∧OB O ro w' h' o (N.ins.foldl Ord.lay P)∧(N.ins.foldl Ord.lay P).Ok 10100∧Ch O (Kc [3] 0) w0 h0 w' h'∧ro<=O.next h'):=by
 refine okE.blk ?_;refine okE.loop (λm t g=>∃j Q w',NL O ro w' g n N v0 v1 v2 v3 v4 v5∧OB O ro w' g o Q∧Q.Ok (100+j)∧Ch O (Kc [3] 0) w0 h0 w' g∧ro<=O.next g∧t 0=ptr n∧t 3=ptr o∧t 5 = .int .i64 (j:Nat)∧j+m=N.ins.length+1∧0<m∧(N.ins.drop j).foldl Ord.lay Q=N.ins.foldl Ord.lay P) ?_ (N.ins.length+1) _ _ ⟨0,P,w,x,y,hP,cc,lo,t0,t3,t5,by omega,by omega,rfl⟩;intro m t g hI;obtain⟨j,Q,w',x',y',hQ,c',lo',t0,t3,t5,hj,hm,hfin⟩:=hI;unfold ptr at t0 t3;have m1:=x'.m.get 1 _ rfl
 by_cases hlt:j<N.ins.length
 ·obtain⟨b,cp,hv1,z⟩:=x'.s1.blk (by omega) N.ins.length (by simp) (by omega);rw[hv1]at m1;have hc:=z.get j (.int .i64 N.ins[j]) (by simp[hlt,iv]);rw[C'7 _ _ _ hlt]at hfin;obtain⟨h2,hc2,y2,c2⟩:=K'B C L y' (by have:=hQ.c;omega) N.ins[j];unfold ptr at hc2;obtain⟨q,hq⟩:=e' (j+1);have hw:IntKind.i64.wrap ((j:Int)+1)=(q:Int):=w'i;have hlt':(j:Int)<N.ins.length:=by omega
  refine f'f ?_;simp[K'l,Zdx,Zdy,Zdz,t0,t3,t5,m1,hlt,hlt',hc,hc2,hw];exact⟨m-1,by omega,q,_,w',x'.ch L c2 (by simp[Kc]),y2,by rw[hq];exact hQ.lay _,c'.trans c2,l'G lo' c2.nx,rfl,by omega,by omega,by rw[hq];exact hfin⟩
 ·obtain⟨a,cp,hv1⟩:=x'.s1.len (by omega) N.ins.length (by simp);rw[hv1]at m1;have hlt':¬(j:Int)<N.ins.length:=by omega
  rw[List.drop_eq_nil_of_le (by omega)]at hfin;have hfin2:Q=N.ins.foldl Ord.lay P:=hfin;rw[<-hfin2];refine f'f ?_;simp[K'l,Zdx,t0,t3,t5,m1,hlt,hlt'];exact⟨w',x',y',hQ.mono (by omega),c',lo'⟩
theorem P'z (C:LP' O ro c)(L:O.Law){w0:Own}{h0:H}{n o:Nat}{N:Net}(hl:N.las.length<=10000)(w:Own)(h:H)(t:Env){v0 v1 v2 v3 v4 v5:Value}(P:Ord)(hP:P.Ok 10100)(x:NL O ro w h n N v0 v1 v2 v3 v4 v5)(y:OB O ro w h o P)(lo:ro<=O.next h)(cc:Ch O (Kc [3] 0) w0 h0 w h)(t0:t 0=ptr n)(t3:t 3=ptr o)(t5:t 6 = .int .i64 0):
  okE c (A'z 4 (A'1 (K'm O Tryz.prog ro))) (t,h) (λe t' h'=>e = .normal∧t' 3=ptr o∧∃w',NL O ro w' h' n N v0 v1 v2 v3 v4 v5∧OB O ro w' h' o (N.las.foldl (λP x=>P.lay x.l) P)∧(N.las.foldl (λP x=>P.lay x.l) P).Ok 20100∧Ch O (Kc [3] 0) w0 h0 w' h'∧ro<=O.next h'):=by
 refine okE.blk ?_;have hlen:=A'0 LaL.cells 4 (λ_=>rfl) N.las;refine okE.loop (λm t g=>∃j Q w',NL O ro w' g n N v0 v1 v2 v3 v4 v5∧OB O ro w' g o Q∧Q.Ok (10100+j)∧Ch O (Kc [3] 0) w0 h0 w' g∧ro<=O.next g∧t 0=ptr n∧t 3=ptr o∧t 6 = .int .i64 (j:Nat)∧j+m=N.las.length+1∧0<m∧(N.las.drop j).foldl (λP x=>P.lay x.l) Q=N.las.foldl (λP x=>P.lay x.l) P) ?_ (N.las.length+1) _ _ ⟨0,P,w,x,y,hP,cc,lo,t0,t3,t5,by omega,by omega,rfl⟩;intro m t g hI;obtain⟨j,Q,w',x',y',hQ,c',lo',t0,t3,t5,hj,hm,hfin⟩:=hI;unfold ptr at t0 t3;have m1:=x'.m.get 2 _ rfl
 by_cases hlt:j<N.las.length
 ·obtain⟨b,cp,hv1,z⟩:=x'.s2.blk (by omega) N.las.length hlen (by omega);rw[hv1]at m1;have hc:O.cell g b (j*4)=some (.int .i64 N.las[j].l):=z.get _ _ (B'z LaL.cells 4 (λ_=>rfl) N.las j hlt 0 (by omega));rw[C'7 _ _ _ hlt]at hfin;obtain⟨h2,hc2,y2,c2⟩:=K'B C L y' (by have:=hQ.c;omega) N.las[j].l;unfold ptr at hc2;obtain⟨q,hq⟩:=e' (j+1);have hw:IntKind.i64.wrap ((j:Int)+1)=(q:Int):=w'i;have hlt':(j:Int)<N.las.length:=by omega
  refine f'f ?_;simp[K'm,ZdB,ZdC,ZdD,t0,t3,t5,m1,hlt,hlt',hc,hc2,hw];exact⟨m-1,by omega,q,_,w',x'.ch L c2 (by simp[Kc]),y2,by rw[hq];exact hQ.lay _,c'.trans c2,l'G lo' c2.nx,rfl,by omega,by omega,by rw[hq];exact hfin⟩
 ·obtain⟨a,cp,hv1⟩:=x'.s2.len (by omega) N.las.length hlen;rw[hv1]at m1;have hlt':¬(j:Int)<N.las.length:=by omega
  rw[List.drop_eq_nil_of_le (by omega)]at hfin;have hfin2:Q=N.las.foldl (λP x=>P.lay x.l) P:=hfin;rw[<-hfin2];refine f'f ?_;simp[K'm,ZdB,t0,t3,t5,m1,hlt,hlt'];exact⟨w',x',y',hQ.mono (by omega),c',lo'⟩
theorem S'z (C:LP' O ro c)(L:O.Law){w:Own}{h:H}{n:Nat}{N:Net}{v0 v1 v2 v3 v4 v5:Value}(x:NL O ro w h n N v0 v1 v2 v3 v4 v5)(lo:ro<=O.next h)(hl:N.given.length<=10000∧N.ins.length<=10000∧N.las.length<=10000):
  ∃o w' h',c 76 [ptr n] h=some (ptr o,h')∧NL O ro w' h' n N v0 v1 v2 v3 v4 v5∧OB O ro w' h' o (nwS N)∧(nwS N).Ok 20100∧Ch O (Kc [3] 0) w h w' h'∧ro<=O.next h':=by
 obtain⟨o,ho⟩:=e' (O.next h);obtain⟨h1,hh1⟩:=e' (O.new h [.slice none 0 0,.int .i64 0]);obtain⟨w1,hw1⟩:=e' (w.set o (3,1000));have c1:∀K,Ch O K w h w1 h1:=λK=>by rw[hh1,hw1,ho];exact Ch.new L _ _ _ _ _
 have y1:Bx O ro w1 h1 (3,1000) o [.slice none 0 0,.int .i64 0]:=by rw[hh1,hw1,ho];exact Bx.new L _ _ lo _ _
 have lo1:ro<=O.next h1:=l'G lo (c1 λ_=>True).nx
 have x1:=x.ch L (c1 λ_=>False) (by simp);have hk0:(nw0 N).Ok 99:=⟨by simp[nw0],λq hq=>by
  have:=List.eq_of_mem_replicate hq;omega⟩
 have key:∃v h',c 76 [ptr n] h=some (v,h')∧(v=ptr o∧∃w',NL O ro w' h' n N v0 v1 v2 v3 v4 v5∧OB O ro w' h' o (nwS N)∧(nwS N).Ok 20100∧Ch O (Kc [3] 0) w h w' h'∧ro<=O.next h'):=by
  refine C.fn (O'5 O ro) rfl rfl ?_;unfold F76;refine s'f ?_;simp[Zdp,A'd,-A'L,-A'h,-rvE];refine s'f ?_;simp[Zdq,A'd,<-ho,<-hh1,-A'L,-A'h,-rvE];refine okE.seq (s'f ?_);simp[Zdr,A'd,-A'L,-A'h,-rvE];refine okE.mono (K'D C L hl.1 w1 h1 _ x1 ⟨_,y1,Sl.nil _ _ _ _⟩ lo1 (c1 _) (by simp) (by simp) (by simp)) ?_;rintro e t g ⟨rfl,t0,t3,w2,x2,y2,c2,lo2⟩;simp only[A'd];obtain⟨h3,hc3,y3,c3⟩:=K'B C L y2 (by have:=hk0.c;omega) 0;unfold ptr at hc3 t3;refine s'f ?_;simp[Zdv,t3,hc3,A'd,-A'L,-A'h,-rvE];refine okE.seq (s'f ?_);simp[Zdw,A'd,-A'L,-A'h,-rvE];refine okE.mono (P'y C L hl.2.1 w2 h3 _ _ (hk0.lay 0) (x2.ch L c3 (by simp[Kc])) y3 (l'G lo2 c3.nx) (c2.trans c3) (by simp[t0]) (by simp[t3]) (by simp)) ?_;rintro e t g ⟨rfl,t0,t3,w4,x4,y4,k4,c4,lo4⟩;simp only[A'd];refine okE.seq (s'f ?_);simp[ZdA,A'd,-A'L,-A'h,-rvE];refine okE.mono (P'z C L hl.2.2 w4 g _ _ k4 x4 y4 lo4 c4 (by simp[t0]) (by simp[t3]) (by simp)) ?_;rintro e t g ⟨rfl,t3,w5,x5,y5,k5,c5,lo5⟩;simp only[A'd];refine f'f ?_;simp[ZdE,t3];exact⟨w5,x5,y5,k5,c5,lo5⟩
 obtain⟨v,h',e1,rfl,w',e2⟩:=key;exact⟨o,w',h',e1,e2⟩
structure CkT where
 ni:Nat
 las:List (Int×Nat)
 gts:List (Int×Int)
 bad:Int
def laC (x:Int×Nat): List Value:=[.int .i64 x.1,.int .i64 x.2]
def gtC (x:Int×Int): List Value:=[.int .i64 x.1,.int .i64 x.2]
structure CB (O:HI H) (ro:Nat)(w:Own)(h:H) (k:Nat) (p:Nat)(T:CkT):Prop where
 ex:∃v1 v2,Bx O ro w h (k,1000) p [.int .i64 T.ni,v1,v2,.int .i64 T.bad]∧Sl O ro w h (k,1) 2 v1 (T.las.flatMap laC)∧Sl O ro w h (k,2) 2 v2 (T.gts.flatMap gtC)
theorem CB.ch (L:O.Law){K:Tag->Prop}{w w':Own}{h h':H}{k p:Nat}{T:CkT}(x:CB O ro w h k p T)(a:Ch O K w h w' h')(hk:∀o,¬K (k,o):=by simp): CB O ro w' h' k p T:=by
 obtain⟨v1,v2,m,s1,s2⟩:=x.ex;exact⟨v1,v2,m.ch L a (hk _),s1.ch L a (hk _),s2.ch L a (hk _)⟩
theorem CB.appG (L:O.Law){w:Own}{h:H}{p:Nat}{T:CkT}(x:CB O ro w h 4 p T)(lo:ro<=O.next h)(e:Int×Int)(hl:T.gts.length<=10000):
  ∃v v' h1 w1,O.cell h p 2=some v∧D'd O ro 2 16 v (.slice (some ⟨O.next h,0,some 2⟩) 1 2) (O.new h (gtC e))=some (v',h1)∧(v'.cells = #[v']∧B'f v'=true∧B'j v'=false)∧O.cell h1 p 2=some v∧¬p<ro ∧
   CB O ro w1 (O.put h1 p 2 v') 4 p { T with gts:=T.gts++[e] }∧Ch O (Kc [4] 0) w h w1 (O.put h1 p 2 v')∧ro<=O.next (O.put h1 p 2 v'):=by
 obtain⟨v1,v2,m,s1,s2⟩:=x.ex;have hlen:=A'0 gtC 2 (λ_=>rfl) T.gts;obtain⟨v',h1,w1,e1,e2,c1,lo1⟩:=C'd L (bytes:=16) lo s2 (new:=gtC e) (by omega) rfl (by omega) (by omega);have m1:=m.ch L c1;have m2:=m1.put L 2 (by simp) v';have c2:=Ch.put L (K:=λu=>u=(4,1000)) m1 2 (by simp) v' rfl;refine⟨v2,v',h1,w1,m.get 2 _ rfl,e1,e2.flat,m1.get 2 _ rfl,by have:=m.lo;omega,⟨v1,v',m2,(s1.ch L c1).ch L c2,?_⟩,(Kc.one c1 (.inl (l'm.2 rfl))).trans (Kc.one c2 (.inl (l'm.2 rfl))),by rw[L.next_put];exact lo1⟩;have:=e2.ch L c2;simpa using this
theorem CB.appL (L:O.Law){w:Own}{h:H}{p:Nat}{T:CkT}(x:CB O ro w h 4 p T)(lo:ro<=O.next h)(e:Int×Nat)(hl:T.las.length<=10000):
  ∃v v' h1 w1,O.cell h p 1=some v∧D'd O ro 2 16 v (.slice (some ⟨O.next h,0,some 2⟩) 1 2) (O.new h (laC e))=some (v',h1)∧(v'.cells = #[v']∧B'f v'=true∧B'j v'=false)∧O.cell h1 p 1=some v∧¬p<ro ∧
   CB O ro w1 (O.put h1 p 1 v') 4 p { T with las:=T.las++[e] }∧Ch O (Kc [4] 0) w h w1 (O.put h1 p 1 v')∧ro<=O.next (O.put h1 p 1 v'):=by
 obtain⟨v1,v2,m,s1,s2⟩:=x.ex;have hlen:=A'0 laC 2 (λ_=>rfl) T.las;obtain⟨v',h1,w1,e1,e2,c1,lo1⟩:=C'd L (bytes:=16) lo s1 (new:=laC e) (by omega) rfl (by omega) (by omega);have m1:=m.ch L c1;have m2:=m1.put L 1 (by simp) v';have c2:=Ch.put L (K:=λu=>u=(4,1000)) m1 1 (by simp) v' rfl;refine⟨v1,v',h1,w1,m.get 1 _ rfl,e1,e2.flat,m1.get 1 _ rfl,by have:=m.lo;omega,⟨v',v2,m2,?_,(s2.ch L c1).ch L c2⟩,(Kc.one c1 (.inl (l'm.2 rfl))).trans (Kc.one c2 (.inl (l'm.2 rfl))),by rw[L.next_put];exact lo1⟩;have:=e2.ch L c2;simpa using this
def F'N (P:Ord)(g:GaL): Int×Int:=if P.lit g.a.l<P.lit g.b.l then (P.lit g.b.l,P.lit g.a.l) else (P.lit g.a.l,P.lit g.b.l)
theorem S'A (C:LP' O ro c)(L:O.Law){w:Own}{h:H}{o p:Nat}{P:Ord}{T:CkT}(x:OB O ro w h o P)(y:CB O ro w h 4 p T)(lo:ro<=O.next h)(hP:P.Ok 100000)(g:GaL)(hg:(0<=g.a.l∧g.a.l<1000000)∧(0<=g.b.l∧g.b.l<1000000))(hl:T.gts.length<=10000):
  ∃w' h',c 79 [ptr o,ptr p,.agg g.cells.toArray] h=some (.tuple #[],h')∧OB O ro w' h' o (P.lay g.g.l)∧CB O ro w' h' 4 p { T with gts:=T.gts++[F'N P g] }∧Ch O (Kc [3,4] 1) w h w' h'∧ro<=O.next h':=by
 obtain⟨b,hb⟩:=e' (O.next h);obtain⟨h1,hh1⟩:=e' (O.new h g.cells);obtain⟨w1,hw1⟩:=e' (w.set b (100,0));have c1:∀K,Ch O K w h w1 h1:=λK=>by rw[hh1,hw1,hb];exact Ch.new L _ _ _ _ _
 have z1:Bx O ro w1 h1 (100,0) b g.cells:=by rw[hh1,hw1,hb];exact Bx.new L _ _ lo _ _
 have x1:=x.ch L (c1 λ_=>False) (by simp);have y1:=y.ch L (c1 λ_=>False) (by simp);have lo1:ro<=O.next h1:=l'G lo (c1 λ_=>True).nx
 have q1:=K'C C x1 hP g.a.l hg.1.1 hg.1.2;have q2:=K'C C x1 hP g.b.l hg.2.1 hg.2.2;obtain⟨v,v',h2,w2,e1,e2,⟨f1,f2,f3⟩,e3,hrop,y2,c2,lo2⟩:=y1.appG L lo1 (F'N P g) hl;have x2:=x1.ch L c2 (by simp[Kc]);have z2:=z1.ch L c2 (by simp[Kc]);obtain⟨h3,hc3,x3,c3⟩:=K'B C L x2 (by have:=hP.c;omega) g.g.l;refine⟨w2,h3,?_,x3,y2.ch L c3 (by simp[Kc]),((c1 _).trans (Kc.mono c2 (by decide) (by omega))).trans (Kc.mono c3 (by decide) (by omega)),l'G lo2 c3.nx⟩;refine C.eq (O'8 O ro) rfl rfl (f'f ?_);have k2:=z1.get 2 _ rfl;have k4:=z1.get 4 _ rfl;have k0:=z2.get 0 _ rfl;unfold ptr at q1 q2 hc3;simp only[gtC]at e2;unfold F'N at e2;generalize P.lit g.a.l=r1 at q1 e2;generalize P.lit g.b.l=r2 at q2 e2
 by_cases hlt:r1<r2
 ·rw[if_pos hlt]at e2;simp[F79,ZdX,ZdY,ZdZ,Zd0,Zd1,Zd2,Zd3,<-hb,<-hh1,k2,k4,q1,q2,hlt,e1,List.zipIdx,l'B,e2,f1,f2,f3,e3,hrop,A'6,k0,hc3]
 ·rw[if_neg hlt]at e2;simp[F79,ZdX,ZdY,ZdZ,Zd0,Zd1,Zd2,Zd3,<-hb,<-hh1,k2,k4,q1,q2,hlt,e1,List.zipIdx,l'B,e2,f1,f2,f3,e3,hrop,A'6,k0,hc3]
end
end Go.Proofs.YtimdkminagnhgabGreatDoor
namespace Go.Proofs.YtimdkminagnhgabGreatDoor
open Go.Vm Go.Proofs
set_option maxHeartbeats 1000000
section
variable {H:Type}{O:HI H}{ro:Nat}{c:A'X H}
attribute [local simp] A'b A'c reg to too A'a A'n A'i mv' nl' fl' ld' ln' mk' ia' ik' ix' B'C B'D aLd A'5 A'q A'7 A'3 A'2 aUn unA ev A'k isB A'Z A'C A'D A'E A'F A'G A'H A'I A'J A'K cIf A'y A'f A'g A'L A'h rvE aSt A'M A't A'N A'O A'P B'c A'Q A'u A'R A'S B'd A'T A'v A'U A'V A'W B'e A'l Instr.fill A'e A'r A'z A's ptr undef B'o B'r A'j B'n A'w B'w A'B B'A A'x B'p rangeA
theorem P'A (P:Ord): ∀(gs:List GaL) (k:Nat),frL P gs k = -1∨((k:Int)<=frL P gs k∧frL P gs k<k+gs.length):=by
 intro gs
 induction gs with
 | nil=>intro k;left;rfl
 | cons g gs ih=>
  intro k;simp only[frL];split
  ·right;simp only[l'n];omega
  ·rcases ih (k+1) with h|h
   ·left;exact h
   ·right;simp only[l'n];omega
def arL (gs:List GaL): Nat->Ord->CkT->Except Nat (Ord×CkT)
 | 0,P,T=>.ok (P,T)
 | m+1,P,T=>
  match gs[(frL P gs 0).toNat]? with
  | some g=>if frL P gs 0 = -1 then .error (fuL P gs) else arL gs m (P.lay g.g.l) { T with gts:=T.gts++[F'N P g] }
  | none=>.error (fuL P gs)
theorem N'b {gs:List GaL}{m:Nat}{P:Ord}{T:CkT}(h:frL P gs 0 = -1): arL gs (m+1) P T = .error (fuL P gs):=by
 simp only[arL];split
 ·rw[if_pos h]
 ·rfl
theorem P'B {gs:List GaL}{m:Nat}{P:Ord}{T:CkT}(k:Nat)(hk:k<gs.length)(h:frL P gs 0=k): arL gs (m+1) P T=arL gs m (P.lay gs[k].g.l) { T with gts:=T.gts++[F'N P gs[k]] }:=by
 simp only[arL];rw[h];simp only[Int.toNat_natCast,l'c hk];rw[if_neg (by omega)]
def arS (N:Net): Except Nat CkT:=
 match arL N.gates N.gates.length (nwS N) ⟨N.ins.length,[],[],0⟩ with
 | .error q=>.error q
 | .ok (P,T)=>.ok { T with las:=N.las.map λx=>(P.lit x.n.l,x.z),bad:=P.lit (D'l N) }
def fv (e p:Nat): Value:=.agg #[.int .i64 e,.int .i64 p]
structure Net.Lits (N:Net):Prop where
 g:∀g∈N.gates,(0<=g.a.l∧g.a.l<1000000)∧(0<=g.b.l∧g.b.l<1000000)
 n:∀x∈N.las,0<=x.n.l∧x.n.l<1000000
 p:0<=D'l N∧D'l N<1000000
structure ArI (O:HI H) (ro:Nat)(w0:Own)(h0:H) (n o p b:Nat)(N:Net)(v0 v1 v2 v3 v4 v5:Value)(w:Own)(h:H)(P:Ord)(T:CkT):Prop where
 nl:NL O ro w h n N v0 v1 v2 v3 v4 v5
 ob:OB O ro w h o P
 cb:CB O ro w h 4 p T
 lb:Bx O ro w h (101,0) b [.int .i64 0,.int .i64 0]
 ch:Ch O (Kc [3,4] 2) w0 h0 w h
 lo:ro<=O.next h
theorem P'C (C:LP' O ro c)(L:O.Law){w0:Own}{h0:H}{n o p b:Nat}{N:Net}{v0 v1 v2 v3 v4 v5:Value}(hl:N.gates.length<=10000)(hN:N.Lits)(w:Own)(h:H)(t:Env)(P:Ord)(T:CkT)(hP:P.Ok 20100)(hT:T.gts=[])
  (x : ArI O ro w0 h0 n o p b N v0 v1 v2 v3 v4 v5 w h P T)(t0 : t 0 = ptr n)(t3 : t 3 = ptr b)(t4 : t 4 = ptr o)(t5 : t 5 = ptr p)(t6 : t 6 = .int .i64 0):
  okE c (A'z 0 (A'1 (I'G O Tryz.prog ro))) (t,h) (λe t' h'=>∃w',(e = .ret∧∃q,arL N.gates N.gates.length P T = .error q∧t' 2 = .pointer none∧t' 3=ptr b∧cellsA O h' b 0 2=some [.int .i64 12,.int .i64 (q:Nat)]∧Ch O (Kc [3,4] 2) w0 h0 w' h'∧ro<=O.next h') ∨
   (e = .normal ∧ ∃ P' T', arL N.gates N.gates.length P T = .ok (P', T') ∧ P'.Ok 30200 ∧ T'.las = T.las ∧ t' 0 = ptr n ∧ t' 3 = ptr b ∧ t' 4 = ptr o ∧ t' 5 = ptr p ∧ ArI O ro w0 h0 n o p b N v0 v1 v2 v3 v4 v5 w' h' P' T')) := by
 refine okE.blk ?_;have hlen:=A'0 GaL.cells 6 (λ_=>rfl) N.gates;refine okE.loop (λm t g=>∃j Q U w',ArI O ro w0 h0 n o p b N v0 v1 v2 v3 v4 v5 w' g Q U∧Q.Ok (20100+j)∧U.las=T.las∧U.gts.length=j∧t 0=ptr n∧t 3=ptr b∧t 4=ptr o∧t 5=ptr p∧t 6 = .int .i64 (j:Nat)∧j+m=N.gates.length+1∧0<m∧arL N.gates (m-1) Q U=arL N.gates N.gates.length P T) ?_ (N.gates.length+1) _ _ ⟨0,P,T,w,x,hP,rfl,by rw[hT];rfl,t0,t3,t4,t5,t6,by omega,by omega,rfl⟩;intro m t g hI;obtain⟨j,Q,U,w',x',hQ,hU,hUl,t0,t3,t4,t5,t6,hj,hm,hfin⟩:=hI;unfold ptr at t0 t3 t4 t5;have m5:=x'.nl.m.get 5 _ rfl;obtain⟨a,cp,hv5⟩:=x'.nl.s5.len (by omega) N.gates.length hlen;have fr:=S'x C x'.ob x'.nl.s5 hl;have fu:=S'y C x'.ob x'.nl.s5 hl;unfold ptr at fr fu
 by_cases hlt:j<N.gates.length
 ·obtain⟨m',rfl⟩:∃m',m=m'+2:=⟨m-2,by omega⟩;have hfin1:arL N.gates (m'+1) Q U=arL N.gates N.gates.length P T:=hfin;have hlt':(j:Int)<N.gates.length:=by omega
  by_cases hk:frL Q N.gates 0 = -1
  ·rw[N'b hk]at hfin1;obtain⟨h2,e2,z2,c2⟩:=Bx.puts L (K:=λu=>u=(101,0)) rfl [.int .i64 12,.int .i64 (fuL Q N.gates)] 0 g _ x'.lb (by simp);have hro:¬b<ro:=by have:=z2.lo;omega
   have hz:cellsA O h2 b 0 2=some [.int .i64 12,.int .i64 (fuL Q N.gates)]:=by simpa using z2.all
   have cc:=x'.ch.trans (Kc.one c2 (.inr (by simp)));have lo2:=l'G x'.lo c2.nx;rw[hk]at fr;rw[hv5]at m5 fr fu;refine f'f ?_;simp[I'G,Zb1,Zb2,Zb3,Zb4,t0,t3,t4,t5,t6,m5,hlt,hlt',fr,fu,List.zipIdx,e2,hro];exact⟨w',fuL Q N.gates,hfin1.symm,hz,cc,lo2⟩
  ·rcases P'A Q N.gates 0 with hk'|⟨hk1,hk2⟩
   ·exact absurd hk' hk
   ·obtain⟨k,hkk⟩:∃k:Nat,frL Q N.gates 0=k:=⟨(frL Q N.gates 0).toNat,by omega⟩;have hkl:k<N.gates.length:=by omega
    rw[P'B k hkl hkk]at hfin1;rw[hkk]at fr;obtain⟨b5,cp5,hv5',y5⟩:=x'.nl.s5.blk (by omega) N.gates.length hlen (by omega);obtain⟨_,_,_,_,hcell⟩:=G'x y5 k hkl;obtain⟨w2,h2,hc2,x2,y2,c2,lo2⟩:=S'A C L x'.ob x'.cb x'.lo (hQ.mono (by omega)) N.gates[k] (hN.g _ (List.getElem_mem hkl)) (by omega);unfold ptr at hc2;have nl2:=x'.nl.ch L c2 (by simp[Kc]);have lb2:=x'.lb.ch L c2 (by simp[Kc]);obtain⟨q,hq⟩:=e' (j+1);have hw:IntKind.i64.wrap ((j:Int)+1)=(q:Int):=w'i;have hkz:((k:Int) == -1)=false:=by simp
    have hkl':(k:Int)<N.gates.length:=by omega
    rw[hv5']at m5 fr;have xx:ArI O ro w0 h0 n o p b N v0 v1 v2 v3 v4 v5 w2 h2 (Q.lay N.gates[k].g.l) { U with gts:=U.gts++[F'N Q N.gates[k]] }:=⟨nl2,x2,y2,lb2,x'.ch.trans (Kc.mono c2 (by decide) (by omega)),lo2⟩;refine f'f ?_;simp[I'G,Zb1,Zb2,Zb3,Zb5,Zb6,t0,t3,t4,t5,t6,m5,hlt,hlt',fr,hkz,hkl,hkl',hcell,hc2,hw];exact⟨m'+1,by omega,q,_,_,⟨w2,xx⟩,by rw[hq];exact hQ.lay _,hU,by simp;omega,rfl,by omega,by omega,hfin1⟩
 ·have hm1:m=1:=by omega
  subst hm1;have hfin1:Except.ok (Q,U)=arL N.gates N.gates.length P T:=hfin;have hlt':¬(j:Int)<N.gates.length:=by omega
  rw[hv5]at m5;refine f'f ?_;simp[I'G,Zb1,t0,t3,t4,t5,t6,m5,hlt,hlt'];exact⟨w',Q,U,hfin1.symm,hQ.mono (by omega),hU,x'⟩
theorem P'D (C:LP' O ro c)(L:O.Law){w0:Own}{h0:H}{n o p b:Nat}{N:Net}{v0 v1 v2 v3 v4 v5:Value}(hl:N.las.length<=10000)(hN:N.Lits)(w:Own)(h:H)(t:Env)(P:Ord)(T:CkT)(hP:P.Ok 30200)(hT:T.las=[])
  (x : ArI O ro w0 h0 n o p b N v0 v1 v2 v3 v4 v5 w h P T)(t0 : t 0 = ptr n)(t3 : t 3 = ptr b)(t4 : t 4 = ptr o)(t5 : t 5 = ptr p)(t8 : t 8 = .int .i64 0):
  okE c (A'z 2 (A'1 (K'j O Tryz.prog ro))) (t,h) (λe t' h'=>e = .normal∧t' 0=ptr n∧t' 3=ptr b∧t' 4=ptr o∧t' 5=ptr p∧∃w',ArI O ro w0 h0 n o p b N v0 v1 v2 v3 v4 v5 w' h' P { T with las:=N.las.map λx=>(P.lit x.n.l,x.z) }):=by
 refine okE.blk ?_;have hlen:=A'0 LaL.cells 4 (λ_=>rfl) N.las;refine okE.loop (λm t g=>∃j w',ArI O ro w0 h0 n o p b N v0 v1 v2 v3 v4 v5 w' g P { T with las:=(N.las.map λx=>(P.lit x.n.l,x.z)).take j }∧t 0=ptr n∧t 3=ptr b∧t 4=ptr o∧t 5=ptr p∧t 8 = .int .i64 (j:Nat)∧j+m=N.las.length+1∧0<m) ?_ (N.las.length+1) _ _ ⟨0,w,by simpa [<-hT]using x,t0,t3,t4,t5,t8,by omega,by omega⟩;intro m t g hI;obtain⟨j,w',x',t0,t3,t4,t5,t8,hj,hm⟩:=hI;unfold ptr at t0 t3 t4 t5;have m2:=x'.nl.m.get 2 _ rfl
 by_cases hlt:j<N.las.length
 ·obtain⟨b2,cp2,hv2,y2⟩:=x'.nl.s2.blk (by omega) N.las.length hlen (by omega);have k1:O.cell g b2 (j*4+1)=some (.int .i64 N.las[j].n.l):=y2.get _ _ (B'z LaL.cells 4 (λ_=>rfl) N.las j hlt 1 (by omega));have k3:O.cell g b2 (j*4+3)=some (.int .i64 N.las[j].z):=y2.get _ _ (B'z LaL.cells 4 (λ_=>rfl) N.las j hlt 3 (by omega));have hlit:=hN.n _ (List.getElem_mem hlt);have q1:=K'C C x'.ob (hP.mono (by omega)) N.las[j].n.l hlit.1 hlit.2;obtain⟨v,v',h2,w2,e1,e2,⟨f1,f2,f3⟩,e3,hrop,y3,c3,lo3⟩:=x'.cb.appL L x'.lo (P.lit N.las[j].n.l,N.las[j].z) (by simp;omega);obtain⟨q,hq⟩:=e' (j+1);have hw:IntKind.i64.wrap ((j:Int)+1)=(q:Int):=w'i;have hlt':(j:Int)<N.las.length:=by omega
  rw[hv2]at m2;unfold ptr at q1;simp only[laC]at e2;have xx:ArI O ro w0 h0 n o p b N v0 v1 v2 v3 v4 v5 w2 (O.put h2 p 1 v') P { T with las:=(N.las.map λx=>(P.lit x.n.l,x.z)).take q }:=by
   refine⟨x'.nl.ch L c3 (by simp[Kc]),x'.ob.ch L c3 (by simp[Kc]),?_,x'.lb.ch L c3 (by simp[Kc]),x'.ch.trans (Kc.mono c3 (by decide) (by omega)),lo3⟩;rw[hq,l'C,List.getElem?_map,l'c hlt];exact y3
  refine f'f ?_;simp[K'j,Zb8,Zb9,Zca,Zcb,t0,t3,t4,t5,t8,m2,hlt,hlt',k1,k3,q1,List.zipIdx,l'B,e1,e2,f1,f2,f3,e3,hrop,A'6,hw];exact⟨m-1,by omega,q,⟨w2,xx⟩,rfl,by omega,by omega⟩
 ·obtain⟨a,cp,hv2⟩:=x'.nl.s2.len (by omega) N.las.length hlen;have hlt':¬(j:Int)<N.las.length:=by omega
  have xx:=x';rw[List.take_of_length_le (by simp;omega)]at xx;rw[hv2]at m2;refine f'f ?_;simp[K'j,Zb8,t0,t3,t4,t5,t8,m2,hlt,hlt'];exact⟨w',xx⟩
theorem S'B (C:LP' O ro c)(L:O.Law){w:Own}{h:H}{n:Nat}{N:Net}{v0 v1 v2 v3 v4 v5:Value}(x:NL O ro w h n N v0 v1 v2 v3 v4 v5)(lo:ro<=O.next h)(hl:N.given.length<=10000∧N.ins.length<=10000∧N.las.length<=10000∧N.gates.length<=10000)(hN:N.Lits):
  ∃p v w' h',c 41 [ptr n] h=some (v,h')∧((∃q,arS N = .error q∧v = .tuple #[.pointer none,fv 12 q])∨(∃T,arS N = .ok T∧v = .tuple #[ptr p,fv 0 0]∧CB O ro w' h' 4 p T))∧Ch O (Kc [3,4] 2) w h w' h'∧ro<=O.next h':=by
 obtain⟨b,hb⟩:=e' (O.next h);obtain⟨h1,hh1⟩:=e' (O.new h [.int .i64 0,.int .i64 0]);obtain⟨w1,hw1⟩:=e' (w.set b (101,0));have c1:∀K,Ch O K w h w1 h1:=λK=>by rw[hh1,hw1,hb];exact Ch.new L _ _ _ _ _
 have z1:Bx O ro w1 h1 (101,0) b [.int .i64 0,.int .i64 0]:=by rw[hh1,hw1,hb];exact Bx.new L _ _ lo _ _
 have x1:=x.ch L (c1 λ_=>False) (by simp);have lo1:ro<=O.next h1:=l'G lo (c1 λ_=>True).nx
 obtain⟨o,w2,h2,hc2,x2,y2,k2,c2,lo2⟩:=S'z C L x1 lo1 ⟨hl.1,hl.2.1,hl.2.2.1⟩;have z2:=z1.ch L c2 (by simp[Kc]);obtain⟨p,hp⟩:=e' (O.next h2);obtain⟨h3,hh3⟩:=e' (O.new h2 [.int .i64 N.ins.length,.slice none 0 0,.slice none 0 0,.int .i64 0]);obtain⟨w3,hw3⟩:=e' (w2.set p (4,1000));have c3:∀K,Ch O K w2 h2 w3 h3:=λK=>by rw[hh3,hw3,hp];exact Ch.new L _ _ _ _ _
 have u3:Bx O ro w3 h3 (4,1000) p [.int .i64 N.ins.length,.slice none 0 0,.slice none 0 0,.int .i64 0]:=by rw[hh3,hw3,hp];exact Bx.new L _ _ lo2 _ _
 have x3:=x2.ch L (c3 λ_=>False) (by simp);have y3:=y2.ch L (c3 λ_=>False) (by simp);have z3:=z2.ch L (c3 λ_=>False) (by simp);have lo3:ro<=O.next h3:=l'G lo2 (c3 λ_=>True).nx
 have A3:ArI O ro w h n o p b N v0 v1 v2 v3 v4 v5 w3 h3 (nwS N) ⟨N.ins.length,[],[],0⟩:=⟨x3,y3,⟨_,_,u3,Sl.nil _ _ _ _,Sl.nil _ _ _ _⟩,z3,((c1 _).trans (Kc.mono c2 (by decide) (by omega))).trans (c3 _),lo3⟩;have m1:=x2.m.get 1 _ rfl;obtain⟨a,cp,hv1⟩:=x2.s1.len (by omega) N.ins.length (by simp);have key:∃v h',c 41 [ptr n] h=some (v,h')∧∃w',((∃q,arS N = .error q∧v = .tuple #[.pointer none,fv 12 q])∨(∃T,arS N = .ok T∧v = .tuple #[ptr p,fv 0 0]∧CB O ro w' h' 4 p T))∧Ch O (Kc [3,4] 2) w h w' h'∧ro<=O.next h':=by
  refine C.fn (O'X O ro) rfl rfl ?_;unfold F41;refine s'f ?_;simp[ZbX,<-hb,<-hh1,A'd,-A'L,-A'h,-rvE];unfold ptr at hc2;refine s'f ?_;simp[ZbY,hc2,A'd,-A'L,-A'h,-rvE];refine s'f ?_;rw[hv1]at m1;simp[ZbZ,m1,List.zipIdx,<-hp,<-hh3,A'd,-A'L,-A'h,-rvE];refine okE.seq (s'f ?_);simp[Zb0,A'd,-A'L,-A'h,-rvE];refine okE.mono (P'C C L hl.2.2.2 hN w3 h3 _ (nwS N) ⟨N.ins.length,[],[],0⟩ k2 rfl A3 (by simp) (by simp) (by simp) (by simp) (by simp)) ?_;rintro e t g ⟨w4,⟨rfl,q,eq,t2,t3,hz,cc,lo4⟩|⟨rfl,P,T,eq,hP,hT,t0,t3,t4,t5,A4⟩⟩
  ·simp only[A'd];have:arS N = .error q:=by unfold arS;rw[eq]
   unfold ptr at t3;simp[t2,t3,E'm,hz];exact⟨⟨q,this,rfl⟩,⟨w4,cc⟩,lo4⟩
  ·simp only[A'd];refine okE.seq (s'f ?_);simp[Zb7,A'd,-A'L,-A'h,-rvE];refine okE.mono (P'D C L hl.2.2.1 hN w4 g _ P T hP hT A4 (by simp[t0]) (by simp[t3]) (by simp[t4]) (by simp[t5]) (by simp)) ?_;rintro e t g ⟨rfl,t0,t3,t4,t5,w5,A5⟩;simp only[A'd];have hpr:=P'x C A5.nl;have hol:=K'C C A5.ob (hP.mono (by omega)) (D'l N) hN.p.1 hN.p.2;obtain⟨u1,u2,um,us1,us2⟩:=A5.cb.ex;have um2:=um.put L 3 (by simp) (.int .i64 (P.lit (D'l N)));have c6:=Ch.put L (K:=λu=>u=(4,1000)) um 3 (by simp) (.int .i64 (P.lit (D'l N))) rfl;have um3:=um.get 3 _ rfl;have hrop:¬p<ro:=by have:=um.lo;omega
   have lb6:=A5.lb.ch L c6;obtain⟨h7,e7,z7,c7⟩:=Bx.puts L (K:=λu=>u=(101,0)) rfl [.int .i64 0,.int .i64 0] 0 _ _ lb6 (by simp);have hz7:cellsA O h7 b 0 2=some [.int .i64 0,.int .i64 0]:=by simpa using z7.all
   have hrob:¬b<ro:=by have:=z7.lo;omega
   have cb7:CB O ro w5 h7 4 p { T with las:=N.las.map λx=>(P.lit x.n.l,x.z),bad:=P.lit (D'l N) }:=
    ⟨u1,u2,um2.ch L c7,(us1.ch L c6).ch L c7,(us2.ch L c6).ch L c7⟩
   have cc7:=(A5.ch.trans (Kc.one c6 (.inl (by simp)))).trans (Kc.one c7 (.inr (by simp)));have lo7:ro<=O.next h7:=l'G (l'G A5.lo c6.nx) c7.nx
   have:arS N = .ok { T with las:=N.las.map λx=>(P.lit x.n.l,x.z),bad:=P.lit (D'l N) }:=by unfold arS;rw[eq]
   unfold ptr at t0 t3 t4 t5 hpr hol;refine f'f ?_;have hpu:A'6 O g p 3 [.int .i64 (P.lit (D'l N))]=some (O.put g p 3 (.int .i64 (P.lit (D'l N)))):=by simp[A'6,um3]
   simp[Zcc,Zcd,Zce,t0,t3,t4,t5,hpr,hol,hrop,hpu,List.zipIdx,hrob,e7,E'm,hz7];exact⟨w5,⟨_,this,rfl,cb7⟩,cc7,lo7⟩
 obtain⟨v,h',e1,w',e2⟩:=key;exact⟨p,v,w',h',e1,e2⟩
end
end Go.Proofs.YtimdkminagnhgabGreatDoor
namespace Go.Proofs.YtimdkminagnhgabGreatDoor
open Go.Vm Go.Proofs
set_option maxHeartbeats 1000000
theorem D'G {α:Type}{f:Nat->α->α}{Q:Nat->α->Prop}(hf:∀j x,Q j x->Q (j+1) (f j x)): ∀(m j:Nat)(x:α),Q j x->Q (j+m) (itK f j m x):=by
 intro m
 induction m with
 | zero=>intro j x h;exact h
 | succ m ih=>intro j x h;simp only[itK];have:=ih (j+1) (f j x) (hf j x h);rw[show j+(m+1)=j+1+m by omega];exact this
structure Net.Len (N:Net) (g i l o b a:Nat):Prop where
 g:N.given.length=g
 i:N.ins.length=i
 l:N.las.length=l
 o:N.outs.length=o
 b:N.bads.length=b
 a:N.gates.length=a
theorem Net.Len.give {N:Net}{g i l o b a:Nat}(h:N.Len g i l o b a)(x:Int): (N.give x).Len g i l o b a:=
 ⟨by rw[K'z];exact h.g,by rw[D'1];exact h.i,by rw[D'v];exact h.l,by rw[D'w];exact h.o,by rw[D'x];exact h.b,by rw[B'Z];exact h.a⟩
theorem K'E {s:ByteArray}{g l o b a:Nat}(j:Nat)(x:Net×RS)(h:x.1.Len g j l o b a): (E'n s j x).1.Len g (j+1) l o b a:=by
 have:=h.give (B'5 x.1 s x.2).1.l;exact⟨this.g,by show (_++[_]).length = _;rw[l'p];have:=this.i;simp only[List.length_singleton];exact congrArg (· + 1) this,this.l,this.o,this.b,this.a⟩
theorem I'U {s:ByteArray}{N:Net}{R:RS}{own:Int}{g i l o b a:Nat}(h:N.Len g i l o b a): (laS N s R own).1.Len g i (l+1) o b a:=
 ⟨h.g,h.i,by show (_++[_]).length = _;rw[l'p];simp only[List.length_singleton];exact congrArg (· + 1) h.l,h.o,h.b,h.a⟩
theorem K'F {s:ByteArray}{g i o b a:Nat}(j:Nat)(x:Net×RS)(h:x.1.Len g i j o b a): (D'Y s j x).1.Len g i (j+1) o b a:=I'U (h.give _)
theorem K'G {s:ByteArray}{g i l o b:Nat}(j:Nat)(x:Net×RS)(h:x.1.Len g i l o b j): (F'x s j x).1.Len g i l o b (j+1):=by
 have:=h.give (B'5 x.1 s x.2).1.l;exact⟨this.g,this.i,this.l,this.o,this.b,by show (_++[_]).length = _;rw[l'p];have:=this.a;simp only[List.length_singleton];exact congrArg (· + 1) this⟩
theorem K'H {g l o b a:Nat}(j:Nat)(x:Net×RS)(h:x.1.Len g j l o b a): (E'o j x).1.Len g (j+1) l o b a:=by
 have:=h.give ((2*(1+j):Nat):Int);exact⟨this.g,by show (_++[_]).length = _;rw[l'p];have:=this.i;simp only[List.length_singleton];exact congrArg (· + 1) this,this.l,this.o,this.b,this.a⟩
theorem K'I {D:HD}{s:ByteArray}{g i o b a:Nat}(j:Nat)(x:Net×RS)(h:x.1.Len g i j o b a): (E'p D s j x).1.Len g i (j+1) o b a:=I'U (h.give _)
theorem K'J {D:HD}{s:ByteArray}{g i l o b:Nat}(j:Nat)(x:Net×RS)(h:x.1.Len g i l o b j): (F'h D s j x).1.Len g i l o b (j+1):=by
 have:=h.give ((2*(1+D.nin+D.nla+j):Nat):Int);exact⟨this.g,this.i,this.l,this.o,this.b,by show (_++[_]).length = _;rw[l'p];have:=this.a;simp only[List.length_singleton];exact congrArg (· + 1) this⟩
theorem I'V {D:HD}{s:ByteArray}{g i l a:Nat}(x:Net×RS)(h:x.1.Len g i l 0 0 a): (prF s D x).1.Len g i l D.nou D.nbs a:=
 ⟨h.g,h.i,h.l,by have:=I'Q (N:=x.1) (s:=s) D.nou x.2 [];simpa [prF]using this,by have:=I'Q (N:={ x.1 with outs:=(prL D.nou x.1 s x.2 []).1 }) (s:=s) D.nbs (prL D.nou x.1 s x.2 []).2 [];simpa [prF]using this,h.a⟩
theorem G'2 (top:Nat): (E'X top).Len (top+1) 0 0 0 0 0:=⟨by simp[E'X],rfl,rfl,rfl,rfl,rfl⟩
theorem N'c (D:HD)(s:ByteArray)(R:RS)(top:Nat): (rpS D s (E'X top,R)).1.Len (top+1) D.nin D.nla D.nou D.nbs D.nan:=by
 have h1:=D'G (Q:=λj (x:Net×RS)=>x.1.Len (top+1) j 0 0 0 0) (f:=E'n s) (λj x h=>K'E j x h) D.nin 0 (E'X top,R) (G'2 top);rw[l'F]at h1;have h2:=D'G (Q:=λj (x:Net×RS)=>x.1.Len (top+1) D.nin j 0 0 0) (f:=D'Y s) (λj x h=>K'F j x h) D.nla 0 _ h1;rw[l'F]at h2;have h3:=I'V (D:=D) (s:=s) _ h2;have h4:=D'G (Q:=λj (x:Net×RS)=>x.1.Len (top+1) D.nin D.nla D.nou D.nbs j) (f:=F'x s) (λj x h=>K'G j x h) D.nan 0 _ h3;rw[l'F]at h4;exact h4
theorem N'd (D:HD)(s:ByteArray)(R:RS)(top:Nat): (rbS D s (E'X top,R)).1.Len (top+1) D.nin D.nla D.nou D.nbs D.nan:=by
 have h1:=D'G (Q:=λj (x:Net×RS)=>x.1.Len (top+1) j 0 0 0 0) (f:=E'o) (λj x h=>K'H j x h) D.nin 0 (E'X top,R) (G'2 top);rw[l'F]at h1;have h2:=D'G (Q:=λj (x:Net×RS)=>x.1.Len (top+1) D.nin j 0 0 0) (f:=E'p D s) (λj x h=>K'I j x h) D.nla 0 _ h1;rw[l'F]at h2;have h3:=I'V (D:=D) (s:=s) _ h2;have h4:=D'G (Q:=λj (x:Net×RS)=>x.1.Len (top+1) D.nin D.nla D.nou D.nbs j) (f:=F'h D s) (λj x h=>K'J j x h) D.nan 0 _ h3;rw[l'F]at h4;exact h4
theorem P'E {R:RS}{e p:Nat}(he:e≠0)(h:(fl R e p).e=0): False:=by
 unfold fl at h;split at h
 ·exact he h
 ·rename_i h2;exact h2 h
theorem R'i {N:Net}{R:RS}{u:Us}(h:(ju1 N R u).e=0): R=ju1 N R u∧N.isGiven u.l=true:=by
 unfold ju1 at h ⊢;split at h
 ·rename_i hg;rw[if_pos hg];exact⟨rfl,hg⟩
 ·exact (P'E (by omega) h).elim
theorem K'K {α:Type}{N:Net}(f:α->List Us): ∀(l:List α)(R:RS),(l.foldl (λR x=>(f x).foldl (ju1 N) R) R).e=0->(l.foldl (λR x=>(f x).foldl (ju1 N) R) R)=R∧∀x∈l,∀u∈f x,N.isGiven u.l=true:=by
 have key:∀(us:List Us)(R:RS),(us.foldl (ju1 N) R).e=0->us.foldl (ju1 N) R=R∧∀u∈us,N.isGiven u.l=true:=by
  intro us
  induction us with
  | nil=>intro R _;exact⟨rfl,by simp⟩
  | cons u us ih=>
   intro R h;obtain⟨h1,h2⟩:=ih (ju1 N R u) h;have h3:(ju1 N R u).e=0:=by rw[<-h1];exact h
   obtain⟨h4,h5⟩:=R'i h3;refine⟨by rw[List.foldl_cons,h1,<-h4],λv hv=>?_⟩;rcases l'I.1 hv with rfl|hv
   ·exact h5
   ·exact h2 v hv
 intro l
 induction l with
 | nil=>intro R _;exact⟨rfl,by simp⟩
 | cons x l ih=>
  intro R h;obtain⟨h1,h2⟩:=ih _ h;have h1':l.foldl (λR x=>(f x).foldl (ju1 N) R) ((f x).foldl (ju1 N) R)=(f x).foldl (ju1 N) R:=h1;have h3:((f x).foldl (ju1 N) R).e=0:=by rw[<-h1'];exact h
  obtain⟨h4,h5⟩:=key _ _ h3;refine⟨by rw[List.foldl_cons];exact h1'.trans h4,λy hy=>?_⟩;rcases l'I.1 hy with rfl|hy
  ·exact h5
  ·exact h2 y hy
theorem R'j {N:Net}{R:RS}(h:(juS N R).e=0): juS N R=R∧(∀x∈N.las,N.isGiven x.n.l=true)∧(∀u∈N.outs,N.isGiven u.l=true)∧(∀u∈N.bads,N.isGiven u.l=true)∧(∀g∈N.gates,N.isGiven g.a.l=true∧N.isGiven g.b.l=true):=by
 unfold juS at h ⊢;have hg:=K'K (N:=N) (λg:GaL=>[g.a,g.b]) N.gates (N.bads.foldl (ju1 N) (N.outs.foldl (ju1 N) (N.las.foldl (λR (x:LaL)=>ju1 N R x.n) R))) h;obtain⟨g1,g2⟩:=hg;have g1':N.gates.foldl (λR (x:GaL)=>ju1 N (ju1 N R x.a) x.b) (N.bads.foldl (ju1 N) (N.outs.foldl (ju1 N) (N.las.foldl (λR (x:LaL)=>ju1 N R x.n) R))) = _:=g1;rw[g1']at h ⊢;have hb:=K'K (N:=N) (λu:Us=>[u]) N.bads (N.outs.foldl (ju1 N) (N.las.foldl (λR (x:LaL)=>ju1 N R x.n) R)) h;obtain⟨b1,b2⟩:=hb;have b1':N.bads.foldl (ju1 N) (N.outs.foldl (ju1 N) (N.las.foldl (λR (x:LaL)=>ju1 N R x.n) R)) = _:=b1;rw[b1']at h ⊢;have ho:=K'K (N:=N) (λu:Us=>[u]) N.outs (N.las.foldl (λR (x:LaL)=>ju1 N R x.n) R) h;obtain⟨o1,o2⟩:=ho;have o1':N.outs.foldl (ju1 N) (N.las.foldl (λR (x:LaL)=>ju1 N R x.n) R) = _:=o1;rw[o1']at h ⊢;have hl:=K'K (N:=N) (λx:LaL=>[x.n]) N.las R h;obtain⟨l1,l2⟩:=hl;have l1':N.las.foldl (λR (x:LaL)=>ju1 N R x.n) R = _:=l1;rw[l1'];exact⟨rfl,λx hx=>l2 x hx _ (by simp),λu hu=>o2 u hu _ (by simp),λu hu=>b2 u hu _ (by simp),λg hg=>⟨g2 g hg _ (by simp),g2 g hg _ (by simp)⟩⟩
theorem C'l {N:Net}{l:Int}(hN:N.given.length<=10000)(h:N.isGiven l=true): 0<=l∧l<1000000:=by
 simp only[Net.isGiven,Net.has,l'k,l'M]at h;omega
theorem N'e {N:Net}{R:RS}(hN:N.given.length<=10000)(h:(juS N R).e=0): N.Lits:=by
 obtain⟨_,h1,h2,h3,h4⟩:=R'j h;refine⟨λg hg=>⟨C'l hN (h4 g hg).1,C'l hN (h4 g hg).2⟩,λx hx=>C'l hN (h1 x hx),?_⟩;unfold D'l
 cases hb:N.bads with
 | cons u us=>exact C'l hN (h3 u (by rw[hb];simp))
 | nil=>
  cases ho:N.outs with
  | cons u us=>exact C'l hN (h2 u (by rw[ho];simp))
  | nil=>simp
def hdD (b:Bool)(ns:List Nat): HD:=⟨b,ns.getD 0 0,ns.getD 1 0,ns.getD 2 0,ns.getD 3 0,ns.getD 4 0,ns.getD 5 0,ns.getD 6 0+ns.getD 7 0+ns.getD 8 0⟩
theorem P'F (b:Bool)(ns:List Nat): hdV b ns=(hdD b ns).val:=rfl
def D'2 (D:HD)(s:ByteArray)(R:RS): Net×RS:=if D.bin=true then rbS D s (E'X D.top,R) else rpS D s (E'X D.top,R)
def rd3 (X:Net×RS)(R3:RS): Except (Nat×Nat) CkT:=
 if R3.e=0 then
  match arS X.1 with
  | .error q=>.error (12,q)
  | .ok T=>.ok T
 else .error (R3.e,R3.ep)
def rd2 (D:HD)(s:ByteArray)(R1:RS): Except (Nat×Nat) CkT:=rd3 (D'2 D s R1) (juS (D'2 D s R1).1 (E'j D s (D'2 D s R1).2))
def rdS (s:ByteArray): Except (Nat×Nat) CkT:=
 if 1000<s.size then .error (1,0) else
 let a:=hdS s ⟨0,0,0⟩
 let D:=hdD a.1 a.2.1
 let R1:=jdS D a.2.2
 if R1.e=0 then rd2 D s R1 else .error (R1.e,R1.ep)
def J'S (s:ByteArray): Prop:=∀D,D=hdD (hdS s ⟨0,0,0⟩).1 (hdS s ⟨0,0,0⟩).2.1->¬((D'2 D s (jdS D (hdS s ⟨0,0,0⟩).2.2)).2.pos<s.size∧(D'2 D s (jdS D (hdS s ⟨0,0,0⟩).2.2)).2.e=0)
theorem N'f {D:HD}{R:RS}(h:(jdS D R).e=0): D.top<=80∧D.nin<=4∧D.nla<=6∧D.nou<=4∧D.nan<=60∧D.nbs<=1∧jdS D R=R∧D.nin+D.nla+D.nan<=D.top∧(D.bin=true->D.nin+D.nla+D.nan=D.top)∧(D.nbs=0->D.nou=1)∧D.oth=0:=by
 unfold jdS at h ⊢;unfold jd4 at h ⊢;split at h
 ·exact (P'E (by omega) h).elim
 ·rename_i h4
  rw[if_neg h4];unfold jd3 at h ⊢;split at h
  ·exact (P'E (by omega) h).elim
  ·rename_i h3
   rw[if_neg h3];unfold jd2 at h ⊢;split at h
   ·exact (P'E (by omega) h).elim
   ·rename_i h2
    rw[if_neg h2];unfold jd1 at h ⊢;split at h
    ·exact (P'E (by omega) h).elim
    ·rename_i h1
     rw[if_neg h1];refine⟨by omega,by omega,by omega,by omega,by omega,by omega,rfl,by omega,λhb=>?_,by omega,by omega⟩;have:¬(D.nin+D.nla+D.nan≠D.top):=λq=>h2 (.inr ⟨hb,q⟩);omega
section
variable {H:Type}{O:HI H}{ro:Nat}{c:A'X H}
attribute [local simp] A'b A'c reg to too A'a A'n A'i mv' nl' fl' ld' ln' mk' ia' ik' ix' B'C B'D aLd A'5 A'q A'7 A'3 A'2 aUn unA ev A'k isB A'Z A'C A'D A'E A'F A'G A'H A'I A'J A'K cIf A'y A'f A'g A'L A'h rvE aSt A'M A't A'N A'O A'P B'c A'Q A'u A'R A'S B'd A'T A'v A'U A'V A'W B'e A'l Instr.fill A'e A'r A'z A's ptr undef B'o B'r A'j B'n A'w B'w A'B B'A A'x B'p rangeA B'E
theorem S'C (C:LP' O ro c)(L:O.Law){w:Own}{h:H}{r:Nat}{s:ByteArray}{R:RS}{D:HD}(ok:D.Ok)(x:RB O ro w h r s R):
  ∃h',c 34 [D.val,ptr r] h=some (.tuple #[],h')∧RB O ro w h' r s (jdS D R)∧Ch O (λu=>u=(1,1000)) w h w h':=by
 obtain⟨h',e1,d,f⟩:=K'x C L ok x.rd x.lo;exact⟨h',e1,RB.up L x d f⟩
theorem P'G (C:LP' O ro c)(L:O.Law){w:Own}{h:H}{r n:Nat}{s:ByteArray}{D:HD}(hs:s.size<=1000)(hD:D.nin<=100∧D.nla<=100∧D.nou<=100∧D.nbs<=100∧D.nan<=100)(R:RS)
  (x : ST O ro w h r s R n (E'X D.top))(hp : R.pos ≤ s.size):
  ∃w' h',c (if D.bin=true then 37 else 38) [ptr n,ptr r,D.val] h=some (.tuple #[],h')∧ST O ro w' h' r s (D'2 D s R).2 n (D'2 D s R).1∧Ch O (KN 4) w h w' h'∧(D'2 D s R).2.pos<=s.size:=by
 unfold D'2
 by_cases hb:D.bin=true
 ·simp only[if_pos hb];exact S'w C L hs hD (E'X D.top,R) x hp ⟨rfl,rfl,rfl,rfl,rfl⟩
 ·simp only[if_neg hb];exact S'v C L hs hD (E'X D.top,R) x hp ⟨rfl,rfl,rfl,rfl,rfl⟩
theorem Bx.over (L:O.Law){K:Tag->Prop}{w:Own}{h:H}{t:Tag}{b:Nat}{l new:List Value}(hk:K t)(x:Bx O ro w h t b l)(hn:new.length=l.length): ∃h',A'6 O h b 0 new=some h'∧Bx O ro w h' t b new∧Ch O K w h w h':=by
 obtain⟨h',e1,e2,e3⟩:=Bx.puts L hk new 0 h l x (by omega);refine⟨h',e1,?_,e3⟩;have:l.take 0++new++l.drop (0+new.length)=new:=by
  rw[List.drop_eq_nil_of_le (by omega)];simp
 rw[this]at e2;exact e2
theorem I'W (C:LP' O ro c)(L:O.Law){w0 w:Own}{h0 h:H}{r b b4:Nat}{s:ByteArray}{D:HD}{R1:RS}(hs:s.size<=1000)(hp:R1.pos<=s.size)(he:R1.e=0)(hD:D.top<=80∧D.nin<=4∧D.nla<=6∧D.nou<=4∧D.nan<=60∧D.nbs<=1)
  (rb : RB O ro w h r s R1)(zb : Bx O ro w h (104, 0) b [.int .i64 0, .int .i64 0])(yb : Bx O ro w h (104, 1) b4 (hdc D))(lo : ro ≤ O.next h)(cc : Ch O (Kc [1, 2, 3, 4] 5) w0 h0 w h)(t : Env)(t3 : t 3 = ptr b)(t4 : t 4 = ptr r)(t5 : t 5 = ptr b4)(hno : ¬ ((D'2 D s R1).2.pos < s.size ∧ (D'2 D s R1).2.e = 0)):
  okE c (A'b (A'c (Zai O)) (A'b (A'b (A'c (Zaj O)) (cIf (.tmp 29) (A'c (Zak O)) (A'c (Zal O)))) (A'b (A'c (Zam O)) (A'b (A'c Zan) (A'b (A'b (A'c Zao) (cIf (.tmp 45) (A'b (A'c (Zap O ro)) A'y) A'f)) (A'b (A'c (Zaq O ro)) A'y)))))) (t,h)
   (fun e t' h' => (e = .ret ∨ e = .normal) ∧ ∃ v, A'L O Tryz.prog [ResultVar.tmp 2, ResultVar.cell 3 49] t' h' = some v ∧ ∃ p w', ((∃ q, rd2 D s R1 = .error q ∧ v = .tuple #[.pointer none, fv q.1 q.2]) ∨ (∃ T, rd2 D s R1 = .ok T ∧ v = .tuple #[ptr p, fv 0 0] ∧ CB O ro w' h' 4 p T)) ∧ Ch O (Kc [1, 2, 3, 4] 5) w0 h0 w' h' ∧ ro ≤ O.next h') := by
 have hD2:D.nin<=100∧D.nla<=100∧D.nou<=100∧D.nbs<=100∧D.nan<=100:=by omega
 have hrob:¬b<ro:=by have:=zb.lo;omega
 unfold ptr at t3 t4 t5;have hval:Value.agg (hdc D).toArray=D.val:=rfl;obtain⟨n,w1,h1,hc1,nl1,c1,lo1⟩:=R'g C L (w:=w) lo D.top (by omega);have rb1:=rb.ch L c1 (by simp[Kc]);have z1:=zb.ch L c1 (by simp[Kc]);have y1:=yb.ch L c1 (by simp[Kc]);have x1:ST O ro w1 h1 r s R1 n (E'X D.top):=⟨rb1,nl1,lo1⟩;have cc1:=cc.trans (Kc.mono c1 (by decide) (by omega));obtain⟨w2,h2,hc2,x2,c2,p2⟩:=P'G C L hs hD2 R1 x1 hp;have hlen:(D'2 D s R1).1.Len (D.top+1) D.nin D.nla D.nou D.nbs D.nan:=by
  unfold D'2;split
  ·exact N'd D s R1 D.top
  ·exact N'c D s R1 D.top
 obtain⟨X,hX⟩:=e' (D'2 D s R1);rw[<-hX]at x2 p2 hlen;have z2:=z1.ch L c2 (by simp[Kc]);have y2:=y1.ch L c2 (by simp[Kc]);have cc2:=cc1.trans (Kc.mono c2 (by decide) (by omega));obtain⟨w3,h3,hc3,rb3,c3⟩:=P'm C L (D:=D) x2.rb x2.lo hs p2 (by rw[hX];exact hno);have x3:=x2.rd L rb3 c3;have z3:=z2.ch L c3;have cc3:=cc2.trans (chR (cs:=[1,2,3,4]) c3 5);have hl:=hlen.l;have ho:=hlen.o;have hb:=hlen.b;have ha:=hlen.a;have hg:=hlen.g;have hi:=hlen.i;obtain⟨w4,h4,hc4,x4,c4⟩:=R'h C L x3 (by omega);have z4:=z3.ch L c4 (by simp[Kc]);have cc4:=cc3.trans (Kc.mono c4 (by decide) (by omega));have hf4:=E'h C x4.rb.rd;obtain⟨R3,hR3⟩:=e' (juS X.1 (E'j D s X.2));rw[<-hR3]at x4 hf4;have hrd:rd2 D s R1=rd3 X R3:=by unfold rd2;rw[<-hX,<-hR3]
 unfold ptr at hc1 hc2 hc3 hc4 hf4;have k1:=yb.get 1 _ rfl;have k0:=y1.get 0 _ rfl;have l1:cellsA O h1 b4 0 8=some (hdc D):=y1.all;have l2:cellsA O h2 b4 0 8=some (hdc D):=y2.all;refine s'f ?_;simp[Zai,t5,k1,hc1,A'd,-A'L,-A'h,-rvE];refine okE.seq (okE.mono (Q:=λe t' h'=>e = .normal∧h'=h2∧t' 3=ptr b∧t' 4=ptr r∧t' 5=ptr b4∧t' 6=ptr n) ?_ ?_)
 ·refine s'f ?_;simp[Zaj,t5,k0,A'd,-A'L,-A'h,-rvE]
  by_cases hbin:D.bin=true
  ·rw[if_pos hbin]at hc2;refine f'f ?_;simp[Zak,hbin,t3,t4,t5,l1,hval,hc2]
  ·rw[if_neg hbin]at hc2;refine f'f ?_;simp[Zal,hbin,t3,t4,t5,l1,hval,hc2]
 ·rintro e t' g ⟨rfl,rfl,t3,t4,t5,t6⟩;unfold ptr at t3 t4 t5 t6;simp only[A'd];refine s'f ?_;simp[Zam,t4,t5,l2,hval,hc3,A'd,-A'L,-A'h,-rvE];refine s'f ?_;simp[Zan,t4,t6,hc4,A'd,-A'L,-A'h,-rvE]
  by_cases he3:R3.e=0
  ·have hk:(R3.e != 0)=false:=by simpa using he3
   have hN:X.1.Lits:=N'e (R:=E'j D s X.2) (by omega) (by rw[<-hR3];exact he3);obtain⟨v0,v1,v2,v3,v4,v5,nl4⟩:=x4.nl;obtain⟨p,v,w5,h5,hc5,res5,c5,lo5⟩:=S'B C L nl4 x4.lo (by omega) hN;have z5:=z4.ch L c5 (by simp[Kc]);have cc5:=cc4.trans (Kc.mono (cs':=[1,2,3,4]) (n':=5) c5 (by decide) (by omega));unfold ptr at hc5;rcases res5 with ⟨q,eq,rfl⟩|⟨T,eq,rfl,cb⟩
   ·obtain⟨h6,e6,z6,c6⟩:=Bx.over L (K:=λu=>u=(104,0)) (new:=[.int .i64 12,.int .i64 q]) rfl z5 rfl;have hz6:cellsA O h6 b 0 2=some [.int .i64 12,.int .i64 q]:=z6.all;have hfin:rd2 D s R1 = .error (12,q):=by rw[hrd];unfold rd3;rw[if_pos he3,eq]
    rw[hfin];refine f'f ?_;simp[Zao,Zaq,t3,t4,t6,hf4,hk,hc5,fv,hrob,e6,E'm,hz6];exact⟨⟨12,q,⟨rfl,rfl⟩,rfl,rfl⟩,⟨w5,cc5.trans (Kc.one c6 (.inr (by simp)))⟩,l'G lo5 c6.nx⟩
   ·obtain⟨h6,e6,z6,c6⟩:=Bx.over L (K:=λu=>u=(104,0)) (new:=[.int .i64 0,.int .i64 0]) rfl z5 rfl;have hz6:cellsA O h6 b 0 2=some [.int .i64 0,.int .i64 0]:=z6.all;have cb6:=cb.ch L c6;have hfin:rd2 D s R1 = .ok T:=by rw[hrd];unfold rd3;rw[if_pos he3,eq]
    rw[hfin];refine f'f ?_;simp[Zao,Zaq,t3,t4,t6,hf4,hk,hc5,fv,hrob,e6,E'm,hz6];exact⟨p,w5,⟨rfl,cb6⟩,cc5.trans (Kc.one c6 (.inr (by simp))),l'G lo5 c6.nx⟩
  ·have hk:(R3.e != 0)=true:=by simpa using he3
   have hfin:rd2 D s R1 = .error (R3.e,R3.ep):=by rw[hrd];unfold rd3;rw[if_neg he3]
   rw[hfin];obtain⟨h6,e6,z6,c6⟩:=Bx.over L (K:=λu=>u=(104,0)) (new:=[.int .i64 R3.e,.int .i64 R3.ep]) rfl z4 rfl;have hz6:cellsA O h6 b 0 2=some [.int .i64 R3.e,.int .i64 R3.ep]:=z6.all;have hl2:cellsA O h4 r 2 2=some [.int .i64 R3.e,.int .i64 R3.ep]:=x4.rb.at 2 [.int .i64 R3.e,.int .i64 R3.ep] (λi hi=>by
    have hi2:i<2:=hi
    match i,hi2 with
    | 0,_=>rfl
    | 1,_=>rfl)
   refine f'f ?_;simp[Zao,Zap,t3,t4,t6,hf4,hk,hl2,hrob,e6,E'm,hz6];exact⟨⟨R3.e,R3.ep,⟨rfl,rfl⟩,rfl⟩,⟨w4,cc4.trans (Kc.one c6 (.inr (by simp)))⟩,l'G x4.lo c6.nx⟩
theorem L'V (C:LP' O ro c)(L:O.Law){w:Own}{h:H}(lo:ro<=O.next h)(s:ByteArray)(hasc:J'S s):
  ∃p v w' h',c 25 [.string s] h=some (v,h')∧((∃q,rdS s = .error q∧v = .tuple #[.pointer none,fv q.1 q.2])∨(∃T,rdS s = .ok T∧v = .tuple #[ptr p,fv 0 0]∧CB O ro w' h' 4 p T))∧Ch O (Kc [1,2,3,4] 5) w h w' h'∧ro<=O.next h':=by
 obtain⟨b,hb⟩:=e' (O.next h);obtain⟨h1,hh1⟩:=e' (O.new h [.int .i64 0,.int .i64 0]);obtain⟨w1,hw1⟩:=e' (w.set b (104,0));have c1:∀K,Ch O K w h w1 h1:=λK=>by rw[hh1,hw1,hb];exact Ch.new L _ _ _ _ _
 have z1:Bx O ro w1 h1 (104,0) b [.int .i64 0,.int .i64 0]:=by rw[hh1,hw1,hb];exact Bx.new L _ _ lo _ _
 have lo1:ro<=O.next h1:=l'G lo (c1 λ_=>True).nx
 have hrob:¬b<ro:=by have:=z1.lo;omega
 by_cases hlong:1000<s.size
 ·obtain⟨h3,e3,z3,c3⟩:=Bx.over L (K:=λu=>u=(104,0)) (new:=[.int .i64 1,.int .i64 0]) rfl z1 rfl;have hz:cellsA O h3 b 0 2=some [.int .i64 1,.int .i64 0]:=z3.all;have hrd:rdS s = .error (1,0):=by unfold rdS;rw[if_pos hlong]
  have hk:(1000:Int)<s.size:=by omega
  refine⟨0,.tuple #[.pointer none,fv 1 0],w1,h3,?_,.inl ⟨(1,0),hrd,rfl⟩,(c1 _).trans (Kc.one c3 (.inr (by simp))),l'G lo1 c3.nx⟩;refine C.eq (L'N O ro) rfl rfl (f'f ?_);simp[F25,Zaa,Zab,Zac,<-hb,<-hh1,hk,hlong,List.zipIdx,hrob,e3,E'm,hz,fv]
 ·have hs:s.size<=1000:=by omega
  have hk:¬(1000:Int)<s.size:=by omega
  obtain⟨r,hr⟩:=e' (O.next h1);obtain⟨h2,hh2⟩:=e' (O.new h1 [.string s,.int .i64 0,.int .i64 0,.int .i64 0]);obtain⟨w2,hw2⟩:=e' (w1.set r (1,1000));have c2:∀K,Ch O K w1 h1 w2 h2:=λK=>by rw[hh2,hw2,hr];exact Ch.new L _ _ _ _ _
  have rb2:RB O ro w2 h2 r s ⟨0,0,0⟩:=by rw[hh2,hw2,hr];exact Bx.new L _ _ lo1 _ _
  have z2:=z1.ch L (c2 λ_=>False) (by simp);have lo2:ro<=O.next h2:=l'G lo1 (c2 λ_=>True).nx
  obtain⟨h3,hc3,d3,f3,p3,len3,lt3⟩:=R'f C L rb2.rd rb2.lo lo2 hs (Nat.zero_le _);obtain⟨rb3,c3⟩:=RB.up L rb2 d3 f3;have z3:=z2.ch L c3;have lo3:ro<=O.next h3:=l'G lo2 c3.nx
  obtain⟨a,ha⟩:=e' (hdS s ⟨0,0,0⟩);rw[<-ha]at hc3 rb3 p3 len3 lt3;obtain⟨D,hD⟩:=e' (hdD a.1 a.2.1);have hDok:D.Ok:=by
   rw[hD];exact⟨C'u lt3 0,C'u lt3 1,C'u lt3 2,C'u lt3 3,C'u lt3 4,C'u lt3 5,by
    have:=C'u lt3 6;have:=C'u lt3 7;have:=C'u lt3 8;simp only[hdD];omega⟩
  rw[P'F,<-hD]at hc3;obtain⟨b4,hb4⟩:=e' (O.next h3);obtain⟨h3',hh3'⟩:=e' (O.new h3 [.bool false,.int .i64 0,.int .i64 0,.int .i64 0,.int .i64 0,.int .i64 0,.int .i64 0,.int .i64 0]);obtain⟨w4,hw4⟩:=e' (w2.set b4 (104,1));have hn4:Bx O ro w4 h3' (104,1) b4 [.bool false,.int .i64 0,.int .i64 0,.int .i64 0,.int .i64 0,.int .i64 0,.int .i64 0,.int .i64 0]:=by rw[hh3',hw4,hb4];exact Bx.new L _ _ lo3 _ _
  have cn4:∀K,Ch O K w2 h3 w4 h3':=λK=>by rw[hh3',hw4,hb4];exact Ch.new L _ _ _ _ _
  obtain⟨h4,e4,y4,c4⟩:=Bx.over L (K:=λu=>u=(104,1)) (new:=hdc D) rfl hn4 rfl;have rb4:=(rb3.ch L (cn4 λ_=>False) (by simp)).ch L c4;have z4:=(z3.ch L (cn4 λ_=>False) (by simp)).ch L c4;have lo4:ro<=O.next h4:=l'G (l'G lo3 (cn4 λ_=>True).nx) c4.nx
  have cc4:Ch O (Kc [1,2,3,4] 5) w h w4 h4:=((((c1 _).trans (c2 _)).trans (chR c3 _)).trans (cn4 _)).trans (Kc.one c4 (.inr (by simp)));have hro4:¬b4<ro:=by have:=y4.lo;omega
  obtain⟨h5,hc5,rb5,c5⟩:=S'C C L hDok rb4;have z5:=z4.ch L c5;have y5:=y4.ch L c5;have lo5:ro<=O.next h5:=l'G lo4 c5.nx
  have cc5:=cc4.trans (chR (cs:=[1,2,3,4]) c5 5);have hf5:=E'h C rb5.rd;have hl4:cellsA O h4 b4 0 8=some (hdc D):=y4.all;have hcs:D.val.cells.size=8:=rfl;have hct:D.val.cells.toList=hdc D:=rfl;have hfl:(hdc D).all B'f=true:=rfl;have hfl':∀x∈hdc D,B'f x=true:=l'D.1 hfl;have hval:Value.agg (hdc D).toArray=D.val:=rfl;obtain⟨R1,hR1⟩:=e' (jdS D a.2.2);rw[<-hR1]at rb5 hf5;unfold ptr at hc3 hc5 hf5;have key:∃v h',c 25 [.string s] h=some (v,h')∧∃p w',((∃q,rdS s = .error q∧v = .tuple #[.pointer none,fv q.1 q.2])∨(∃T,rdS s = .ok T∧v = .tuple #[ptr p,fv 0 0]∧CB O ro w' h' 4 p T))∧Ch O (Kc [1,2,3,4] 5) w h w' h'∧ro<=O.next h':=by
   refine C.fn (L'N O ro) rfl rfl ?_;obtain⟨e0,he0⟩:=e' (A'Z [.string s]);have a0:e0 0 = .string s:=by subst he0;rfl
   rw[<-he0];unfold F25;refine s'f ?_;simp[Zaa,<-hb,<-hh1,A'd,-A'L,-A'h,-rvE];refine s'f ?_;simp[Zab,a0,hk,hlong,A'd,-A'L,-A'h,-rvE];refine s'f ?_;simp[Zad,a0,List.zipIdx,<-hr,<-hh2,A'd,-A'L,-A'h,-rvE];refine s'f ?_;simp[Zae,hc3,<-hb4,<-hh3',hro4,hcs,hct,hfl,hfl',e4,A'd,-A'L,-A'h,-rvE];refine s'f ?_;simp[Zaf,hl4,hval,hc5,A'd,-A'L,-A'h,-rvE]
   by_cases he1:R1.e=0
   ·have hk1:(R1.e != 0)=false:=by simpa using he1
    obtain⟨q1,q2,q3,q4,q5,q6,q7,_⟩:=N'f (D:=D) (R:=a.2.2) (by rw[<-hR1];exact he1);have hrd:rdS s=rd2 D s R1:=by
     unfold rdS;rw[if_neg hlong];simp only;rw[<-ha,<-hD,<-hR1,if_pos he1]
    rw[hrd];refine s'f ?_;simp[Zag,hf5,hk1,A'd,-A'L,-A'h,-rvE];have hnn:¬((D'2 D s R1).2.pos<s.size∧(D'2 D s R1).2.e=0):=by
     have h8:=hasc D (by rw[hD,ha]);rw[<-ha,<-hR1]at h8;exact h8
    refine okE.mono (I'W C L hs (by rw[hR1,q7];exact p3) he1 ⟨q1,q2,q3,q4,q5,q6⟩ rb5 z5 y5 lo5 cc5 _ ?_ ?_ ?_ hnn) ?_
    ·simp
    ·simp
    ·simp
    ·intro e t' h' hq;simpa [-A'L,-A'h,-rvE]using hq
   ·have hk1:(R1.e != 0)=true:=by simpa using he1
    obtain⟨h6,e6,z6,c6⟩:=Bx.over L (K:=λu=>u=(104,0)) (new:=[.int .i64 R1.e,.int .i64 R1.ep]) rfl z5 rfl;have hz6:cellsA O h6 b 0 2=some [.int .i64 R1.e,.int .i64 R1.ep]:=z6.all;have hl2:cellsA O h5 r 2 2=some [.int .i64 R1.e,.int .i64 R1.ep]:=rb5.at 2 [.int .i64 R1.e,.int .i64 R1.ep] (λi hi=>by
     have hi2:i<2:=hi
     match i,hi2 with
     | 0,_=>rfl
     | 1,_=>rfl)
    have hrd:rdS s = .error (R1.e,R1.ep):=by
     unfold rdS;rw[if_neg hlong];simp only;rw[<-ha,<-hD,<-hR1,if_neg he1]
    rw[hrd];refine f'f ?_;simp[Zag,Zah,hf5,hk1,hl2,hrob,e6,E'm,hz6];exact⟨⟨R1.e,R1.ep,⟨rfl,rfl⟩,rfl⟩,⟨w4,cc5.trans (Kc.one c6 (.inr (by simp)))⟩,l'G lo5 c6.nx⟩
  obtain⟨v,h',e1,p,w',e2⟩:=key;exact⟨p,v,w',h',e1,e2⟩
end
end Go.Proofs.YtimdkminagnhgabGreatDoor
