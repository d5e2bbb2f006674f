import Derived.Test.YtimdkminagnhgaaGreatDoorQ12
set_option linter.all false
namespace Go.Proofs.YtimdkminagnhgaaGreatDoor
open Go.Vm Go.Proofs
set_option maxHeartbeats 4000000
attribute [local simp] A'a A'b reg to too A'd A'q A'h mv' nl' fl' ld' ln' mk' ia' ik' ix' B'F B'G aLd B'h A'w B'c B'x A'4 aUn unA ev A'l isB A'0 A'E A'F A'G A'H A'I A'J A'K A'L A'M cIf A'B A'f A'g A'1 A'i rvE aSt A'N A't A'O A'P A'Q A'9 A'R A'u A'S A'T B'a A'U A'v A'V A'W A'X B'b A'p Instr.fill A'e A'n A'x A'j ptr undef B'o B'y A'k B's A's B'T A'D B'C A'y B'p rangeA
section
variable {H:Type}{O:HI H}{ro:Nat}{c:A'Z H}
theorem B'X {α:Type}(f:α->List Value)(k:Nat)(hf:∀x,(f x).length=k): ∀(l:List α) (j:Nat)(hj:j<l.length) (i:Nat),i<k->(l.flatMap f)[j*k+i]?=(f l[j])[i]?:=by
 intro l
 induction l with
 | nil=>intro j hj;simp at hj
 | cons x l ih=>
  intro j hj i hi;rw[List.flatMap_cons]
  cases j with
  | zero=>
   rw[Nat.zero_mul,l'F,l'e (by rw[hf];exact hi)];rfl
  | succ j=>
   rw[l'z (by rw[hf,Nat.add_mul];omega),hf];have:(j+1)*k+i-k=j*k+i:=by rw[Nat.add_mul];omega
   rw[this,ih j (by simpa using hj) i hi];simp
theorem Bx.at {w:Own}{h:H}{t:Tag}{b:Nat}{l:List Value}(x:Bx O ro w h t b l)(o:Nat)(new:List Value)(hn:∀i,i<new.length->l[o+i]?=new[i]?): cellsA O h b o new.length=some new:=by
 refine B'4 _ o new rfl λi hi=>?_;have:=hn i hi;rw[l'c hi]at this ⊢;exact x.get _ _ this
def J'd (top:Nat): Net:=⟨(List.range (top+1)).map (· == 0),[],[],[],[],[]⟩
theorem U'f (C:LP' O ro c)(L:O.Law){w:Own}{h:H}(hro:ro<=O.next h)(top:Nat)(ht:top<=10000):
  ∃n w' h',c 48 [.int .i64 top] h=some (ptr n,h')∧(∃v0 v1 v2 v3 v4 v5,NL O ro w' h' n (J'd top) v0 v1 v2 v3 v4 v5)∧Ch O (Kc [2] 0) w h w' h'∧ro<=O.next h':=by
 obtain⟨n,hn⟩:=e' (O.next h);obtain⟨h1,hh1⟩:=e' (O.new h [.slice none 0 0,.slice none 0 0,.slice none 0 0,.slice none 0 0,.slice none 0 0,.slice none 0 0]);obtain⟨w1,hw1⟩:=e' (w.set n (2,1000));have c1:∀K,Ch O K w h w1 h1:=λK=>by rw[hh1,hw1,hn];exact Ch.new L _ _ _ _ _
 have y1:Bx O ro w1 h1 (2,1000) n [.slice none 0 0,.slice none 0 0,.slice none 0 0,.slice none 0 0,.slice none 0 0,.slice none 0 0]:=by rw[hh1,hw1,hn];exact Bx.new L _ _ hro _ _
 have lo1:ro<=O.next h1:=l'G hro (c1 λ_=>True).nx
 have key:∃v h',c 48 [.int .i64 top] h=some (v,h')∧(v=ptr n∧∃w',(∃v0 v1 v2 v3 v4 v5,NL O ro w' h' n (J'd top) v0 v1 v2 v3 v4 v5)∧Ch O (Kc [2] 0) w h w' h'∧ro<=O.next h'):=by
  refine C.fn (R'0 O ro) rfl rfl ?_;unfold F48;refine s'f ?_;simp[ZaS,A'c,-A'1,-A'i,-rvE];refine s'f ?_;simp[ZaT,A'c,<-hn,<-hh1,-A'1,-A'i,-rvE];refine okE.seq (s'f ?_);simp[ZaU,A'c,-A'1,-A'i,-rvE];refine okE.blk ?_;refine okE.loop (λm t g=>∃j v0 w',Bx O ro w' g (2,1000) n [v0,.slice none 0 0,.slice none 0 0,.slice none 0 0,.slice none 0 0,.slice none 0 0]∧Sl O ro w' g (2,0) 1 v0 (((List.range j).map (· == 0)).map Value.bool)∧Ch O (Kc [2] 0) w h w' g∧ro<=O.next g∧t 0 = .int .i64 (top:Nat)∧t 3=ptr n∧t 4 = .int .i64 (j:Nat)∧j+m=top+2∧0<m) ?_ (top+2) _ _ ⟨0,.slice none 0 0,w1,y1,Sl.nil _ _ _ _,c1 _,lo1,by simp,by simp,by simp,by omega,by omega⟩;intro m t g hI;obtain⟨j,v0,w',y',sl',c',lo',t0,t3,t4,hj,hm⟩:=hI;unfold ptr at t3
  by_cases hle:j<=top
  ·obtain⟨v',h2,w2,e2,sl2,c2,lo2⟩:=C'A L (bytes:=1) lo' sl' (new:=[.bool (j==0)]) (by omega) rfl (by simp;omega) (by simp;omega);have y2:=y'.ch L c2;have y3:=y2.put L 0 (by simp) v';have c3:=Ch.put L (K:=λu=>u=(2,1000)) y2 0 (by simp) v' rfl;have sl3:=sl2.ch L c3;have y20:=y2.get 0 _ rfl;have y0:=y'.get 0 _ rfl;have hron:¬n<ro:=by have:=y2.lo;omega
   obtain⟨f1,f2,f3⟩:=sl2.flat;obtain⟨q,hq⟩:=e' (j+1);have hw:IntKind.i64.wrap ((j:Int)+1)=(q:Int):=w'i;have hle':(j:Int)<=top:=by omega
   have hj0:((j:Int)==0)=(j==0):=by rw[Bool.eq_iff_iff];simp only[beq_iff_eq];omega
   refine f'f ?_;simp[O'7,ZaV,ZaW,ZaX,t0,t3,t4,hle,hle',hj0,y0,List.zipIdx,l'B,e2,f1,f2,f3,y20,hron,A'8,hw];refine⟨m-1,by omega,q,v',w2,y3,?_,(c'.trans (Kc.one c2 (.inl (l'm.2 rfl)))).trans (Kc.one c3 (.inl (l'm.2 rfl))),by rw[L.next_put];exact lo2,rfl,by omega,by omega⟩;rw[hq,l'B];simpa using sl3
  ·have hle':¬(j:Int)<=top:=by omega
   have hjt:j=top+1:=by omega
   refine f'f ?_;simp[O'7,ZaV,t0,t3,t4,hle,hle',A'c];refine f'f ?_;simp[ZaY,t3];rw[hjt]at sl';exact⟨w',⟨v0,_,_,_,_,_,⟨y',sl',Sl.nil _ _ _ _,Sl.nil _ _ _ _,Sl.nil _ _ _ _,Sl.nil _ _ _ _,Sl.nil _ _ _ _⟩⟩,c',lo'⟩
 obtain⟨v,h',e1,rfl,w',e2⟩:=key;exact⟨n,w',h',e1,e2⟩
def ju1 (N:Net)(R:RS)(u:Us): RS:=if N.isGiven u.l=true then R else fl R 11 u.p
theorem S't (C:LP' O ro c)(L:O.Law){w:Own}{h:H}{r n:Nat}{s:ByteArray}{R:RS}{N:Net}(x:ST O ro w h r s R n N)(u:Us):
  ∃w' h',c 96 [ptr n,ptr r,u.val] h=some (.tuple #[],h')∧ST O ro w' h' r s (ju1 N R u) n N∧Ch O (Kc [1] 1) w h w' h':=by
 obtain⟨b,hb⟩:=e' (O.next h);obtain⟨h1,hh1⟩:=e' (O.new h u.cells);obtain⟨w1,hw1⟩:=e' (w.set b (100,0));have c1:∀K,Ch O K w h w1 h1:=λK=>by rw[hh1,hw1,hb];exact Ch.new L _ _ _ _ _
 have y1:Bx O ro w1 h1 (100,0) b u.cells:=by rw[hh1,hw1,hb];exact Bx.new L _ _ x.lo _ _
 have x1:=x.ch L (c1 λ_=>False) (by simp) (by simp);obtain⟨v0,v1,v2,v3,v4,v5,nl1⟩:=x1.nl;have hg:=G'E C nl1 u.l;have z0:=y1.get 0 _ rfl;have z1:=y1.get 1 _ rfl;unfold ptr at hg;simp only[Us.cells]at hh1;unfold ju1
 by_cases hq:N.isGiven u.l=true
 ·rw[if_pos hq];refine⟨w1,h1,?_,x1,c1 _⟩;refine C.eq (O'q O ro) rfl rfl (f'f ?_);simp[F96,ZcS,ZcT,ZcU,Us.val,<-hb,<-hh1,z0,z1,hg,hq]
 ·rw[if_neg hq];obtain⟨h2,hc2,rb2,c2⟩:=I'g C L x1.rb 11 u.p;refine⟨w1,h2,?_,x1.rd L rb2 c2,(c1 _).trans (chR c2 _)⟩;refine C.eq (O'q O ro) rfl rfl (f'f ?_);have hc2':c 88 [Value.pointer (some ⟨r,0,none⟩),.int .i64 11,.int .i64 u.p] h1=some (.tuple #[],h2):=hc2;simp[F96,ZcS,ZcT,ZcU,Us.val,<-hb,<-hh1,z0,z1,hg,hq,hc2']
theorem D'w {α β:Type}(f:β->α->β)(l:List α)(j:Nat)(hj:j<l.length)(x:β): (l.drop j).foldl f x=(l.drop (j+1)).foldl f (f x l[j]):=by
 rw[l's hj];rfl
theorem S'u (C:LP' O ro c)(L:O.Law){w0:Own}{h0:H}{r n:Nat}{s:ByteArray}{N:Net}(hl:N.las.length<=10000)(R:RS)(w:Own)(h:H)(t:Env)(x:ST O ro w h r s R n N)(cc:Ch O (Kc [1] 1) w0 h0 w h)(t0:t 0=ptr n)(t1:t 1=ptr r)(t4:t 4 = .int .i64 0):
  okE c (A'x 0 (A'Y (M'u O Tryz.prog ro))) (t,h) (λe t' h'=>e = .normal∧t' 0=ptr n∧t' 1=ptr r∧∃w',ST O ro w' h' r s (N.las.foldl (λR x=>ju1 N R x.n) R) n N∧Ch O (Kc [1] 1) w0 h0 w' h'):=by
 refine okE.blk ?_;refine okE.loop (λm t g=>∃j R' w',ST O ro w' g r s R' n N∧Ch O (Kc [1] 1) w0 h0 w' g∧t 0=ptr n∧t 1=ptr r∧t 4 = .int .i64 (j:Nat)∧j+m=N.las.length+1∧0<m∧(N.las.drop j).foldl (λR x=>ju1 N R x.n) R'=N.las.foldl (λR x=>ju1 N R x.n) R) ?_ (N.las.length+1) _ _ ⟨0,R,w,x,cc,t0,t1,t4,by omega,by omega,rfl⟩;intro m t g hI;obtain⟨j,R',w',x',c',t0,t1,t4,hj,hm,hfin⟩:=hI;unfold ptr at t0 t1;obtain⟨v0,v1,v2,v3,v4,v5,nl⟩:=x'.nl;have hlen:=A'A LaL.cells 4 (λ_=>rfl) N.las;have m2:=nl.m.get 2 _ rfl
 by_cases hlt:j<N.las.length
 ·obtain⟨b,cp,rfl,y⟩:=nl.s2.blk (by omega) N.las.length hlen (by omega);rw[D'w _ _ _ hlt]at hfin;have hc:cellsA O g b (j*4+1) 2=some N.las[j].n.cells:=y.at (j*4+1) N.las[j].n.cells (λi hi=>by
   have hi2:i<2:=hi;rw[Nat.add_assoc,B'X LaL.cells 4 (λ_=>rfl) N.las j hlt (1+i) (by omega)]
   match i,hi2 with
   | 0,_=>rfl
   | 1,_=>rfl)
  obtain⟨w2,h2,hc2,x2,c2⟩:=S't C L x' N.las[j].n;unfold ptr at hc2;obtain⟨q,hq⟩:=e' (j+1);have hw:IntKind.i64.wrap ((j:Int)+1)=(q:Int):=w'i;have hlt':(j:Int)<N.las.length:=by omega
  have hv:Value.agg N.las[j].n.cells.toArray=N.las[j].n.val:=rfl;refine f'f ?_;simp[M'u,Zbo,Zbp,Zbq,t0,t1,t4,m2,hlt,hlt',hc,hv,hc2,hw];exact⟨m-1,by omega,q,_,w2,x2,c'.trans c2,rfl,by omega,by omega,by rw[hq];exact hfin⟩
 ·obtain⟨a,cp,rfl⟩:=nl.s2.len (by omega) N.las.length hlen;have hlt':¬(j:Int)<N.las.length:=by omega
  rw[List.drop_eq_nil_of_le (by omega)]at hfin;rw[<-hfin];refine f'f ?_;simp[M'u,Zbo,t0,t1,t4,m2,hlt,hlt'];exact⟨w',x',c'⟩
theorem P't (C:LP' O ro c)(L:O.Law){w0:Own}{h0:H}{r n:Nat}{s:ByteArray}{N:Net}(hl:N.outs.length<=10000)(R:RS)(w:Own)(h:H)(t:Env)(x:ST O ro w h r s R n N)(cc:Ch O (Kc [1] 1) w0 h0 w h)(t0:t 0=ptr n)(t1:t 1=ptr r)(t4:t 5 = .int .i64 0):
  okE c (A'x 2 (A'Y (M'v O Tryz.prog ro))) (t,h) (λe t' h'=>e = .normal∧t' 0=ptr n∧t' 1=ptr r∧∃w',ST O ro w' h' r s (N.outs.foldl (ju1 N) R) n N∧Ch O (Kc [1] 1) w0 h0 w' h'):=by
 refine okE.blk ?_;refine okE.loop (λm t g=>∃j R' w',ST O ro w' g r s R' n N∧Ch O (Kc [1] 1) w0 h0 w' g∧t 0=ptr n∧t 1=ptr r∧t 5 = .int .i64 (j:Nat)∧j+m=N.outs.length+1∧0<m∧(N.outs.drop j).foldl (ju1 N) R'=N.outs.foldl (ju1 N) R) ?_ (N.outs.length+1) _ _ ⟨0,R,w,x,cc,t0,t1,t4,by omega,by omega,rfl⟩;intro m t g hI;obtain⟨j,R',w',x',c',t0,t1,t4,hj,hm,hfin⟩:=hI;unfold ptr at t0 t1;obtain⟨v0,v1,v2,v3,v4,v5,nl⟩:=x'.nl;have hlen:=A'A Us.cells 2 (λ_=>rfl) N.outs;have m2:=nl.m.get 3 _ rfl
 by_cases hlt:j<N.outs.length
 ·obtain⟨b,cp,rfl,y⟩:=nl.s3.blk (by omega) N.outs.length hlen (by omega);rw[D'w _ _ _ hlt]at hfin;have hc:cellsA O g b (j*2) 2=some N.outs[j].cells:=y.at (j*2) N.outs[j].cells (λi hi=>by
   have hi2:i<2:=hi;rw[B'X Us.cells 2 (λ_=>rfl) N.outs j hlt i (by omega)])
  obtain⟨w2,h2,hc2,x2,c2⟩:=S't C L x' N.outs[j];unfold ptr at hc2;obtain⟨q,hq⟩:=e' (j+1);have hw:IntKind.i64.wrap ((j:Int)+1)=(q:Int):=w'i;have hlt':(j:Int)<N.outs.length:=by omega
  have hv:Value.agg N.outs[j].cells.toArray=N.outs[j].val:=rfl;refine f'f ?_;simp[M'v,Zbs,Zbt,Zbu,t0,t1,t4,m2,hlt,hlt',hc,hv,hc2,hw];exact⟨m-1,by omega,q,_,w2,x2,c'.trans c2,rfl,by omega,by omega,by rw[hq];exact hfin⟩
 ·obtain⟨a,cp,rfl⟩:=nl.s3.len (by omega) N.outs.length hlen;have hlt':¬(j:Int)<N.outs.length:=by omega
  rw[List.drop_eq_nil_of_le (by omega)]at hfin;rw[<-hfin];refine f'f ?_;simp[M'v,Zbs,t0,t1,t4,m2,hlt,hlt'];exact⟨w',x',c'⟩
theorem P'u (C:LP' O ro c)(L:O.Law){w0:Own}{h0:H}{r n:Nat}{s:ByteArray}{N:Net}(hl:N.bads.length<=10000)(R:RS)(w:Own)(h:H)(t:Env)(x:ST O ro w h r s R n N)(cc:Ch O (Kc [1] 1) w0 h0 w h)(t0:t 0=ptr n)(t1:t 1=ptr r)(t4:t 6 = .int .i64 0):
  okE c (A'x 4 (A'Y (M'w O Tryz.prog ro))) (t,h) (λe t' h'=>e = .normal∧t' 0=ptr n∧t' 1=ptr r∧∃w',ST O ro w' h' r s (N.bads.foldl (ju1 N) R) n N∧Ch O (Kc [1] 1) w0 h0 w' h'):=by
 refine okE.blk ?_;refine okE.loop (λm t g=>∃j R' w',ST O ro w' g r s R' n N∧Ch O (Kc [1] 1) w0 h0 w' g∧t 0=ptr n∧t 1=ptr r∧t 6 = .int .i64 (j:Nat)∧j+m=N.bads.length+1∧0<m∧(N.bads.drop j).foldl (ju1 N) R'=N.bads.foldl (ju1 N) R) ?_ (N.bads.length+1) _ _ ⟨0,R,w,x,cc,t0,t1,t4,by omega,by omega,rfl⟩;intro m t g hI;obtain⟨j,R',w',x',c',t0,t1,t4,hj,hm,hfin⟩:=hI;unfold ptr at t0 t1;obtain⟨v0,v1,v2,v3,v4,v5,nl⟩:=x'.nl;have hlen:=A'A Us.cells 2 (λ_=>rfl) N.bads;have m2:=nl.m.get 4 _ rfl
 by_cases hlt:j<N.bads.length
 ·obtain⟨b,cp,rfl,y⟩:=nl.s4.blk (by omega) N.bads.length hlen (by omega);rw[D'w _ _ _ hlt]at hfin;have hc:cellsA O g b (j*2) 2=some N.bads[j].cells:=y.at (j*2) N.bads[j].cells (λi hi=>by
   have hi2:i<2:=hi;rw[B'X Us.cells 2 (λ_=>rfl) N.bads j hlt i (by omega)])
  obtain⟨w2,h2,hc2,x2,c2⟩:=S't C L x' N.bads[j];unfold ptr at hc2;obtain⟨q,hq⟩:=e' (j+1);have hw:IntKind.i64.wrap ((j:Int)+1)=(q:Int):=w'i;have hlt':(j:Int)<N.bads.length:=by omega
  have hv:Value.agg N.bads[j].cells.toArray=N.bads[j].val:=rfl;refine f'f ?_;simp[M'w,Zbw,Zbx,Zby,t0,t1,t4,m2,hlt,hlt',hc,hv,hc2,hw];exact⟨m-1,by omega,q,_,w2,x2,c'.trans c2,rfl,by omega,by omega,by rw[hq];exact hfin⟩
 ·obtain⟨a,cp,rfl⟩:=nl.s4.len (by omega) N.bads.length hlen;have hlt':¬(j:Int)<N.bads.length:=by omega
  rw[List.drop_eq_nil_of_le (by omega)]at hfin;rw[<-hfin];refine f'f ?_;simp[M'w,Zbw,t0,t1,t4,m2,hlt,hlt'];exact⟨w',x',c'⟩
theorem M'Q (C:LP' O ro c)(L:O.Law){w0:Own}{h0:H}{r n:Nat}{s:ByteArray}{N:Net}(hl:N.gates.length<=10000)(R:RS)(w:Own)(h:H)(t:Env)(x:ST O ro w h r s R n N)(cc:Ch O (Kc [1] 1) w0 h0 w h)(t0:t 0=ptr n)(t1:t 1=ptr r)(t4:t 7 = .int .i64 0):
  okE c (A'x 6 (A'Y (M'x O Tryz.prog ro))) (t,h) (λe t' h'=>e = .normal∧∃w',ST O ro w' h' r s (N.gates.foldl (λR x=>ju1 N (ju1 N R x.a) x.b) R) n N∧Ch O (Kc [1] 1) w0 h0 w' h'):=by
 refine okE.blk ?_;refine okE.loop (λm t g=>∃j R' w',ST O ro w' g r s R' n N∧Ch O (Kc [1] 1) w0 h0 w' g∧t 0=ptr n∧t 1=ptr r∧t 7 = .int .i64 (j:Nat)∧j+m=N.gates.length+1∧0<m∧(N.gates.drop j).foldl (λR x=>ju1 N (ju1 N R x.a) x.b) R'=N.gates.foldl (λR x=>ju1 N (ju1 N R x.a) x.b) R) ?_ (N.gates.length+1) _ _ ⟨0,R,w,x,cc,t0,t1,t4,by omega,by omega,rfl⟩;intro m t g hI;obtain⟨j,R',w',x',c',t0,t1,t4,hj,hm,hfin⟩:=hI;unfold ptr at t0 t1;obtain⟨v0,v1,v2,v3,v4,v5,nl⟩:=x'.nl;have hlen:=A'A GaL.cells 6 (λ_=>rfl) N.gates;have m2:=nl.m.get 5 _ rfl
 by_cases hlt:j<N.gates.length
 ·obtain⟨b,cp,rfl,y⟩:=nl.s5.blk (by omega) N.gates.length hlen (by omega);rw[D'w _ _ _ hlt]at hfin;have hc:cellsA O g b (j*6+2) 2=some N.gates[j].a.cells:=y.at (j*6+2) N.gates[j].a.cells (λi hi=>by
   have hi2:i<2:=hi;rw[Nat.add_assoc,B'X GaL.cells 6 (λ_=>rfl) N.gates j hlt (2+i) (by omega)]
   match i,hi2 with
   | 0,_=>rfl
   | 1,_=>rfl)
  obtain⟨w2,h2,hc2,x2,c2⟩:=S't C L x' N.gates[j].a;have m22:=(nl.m.ch L c2 (by simp[Kc])).get 5 _ rfl;have yb:=y.ch L c2 (by simp[Kc]);have hcb:cellsA O h2 b (j*6+4) 2=some N.gates[j].b.cells:=yb.at (j*6+4) N.gates[j].b.cells (λi hi=>by
   have hi2:i<2:=hi;rw[Nat.add_assoc,B'X GaL.cells 6 (λ_=>rfl) N.gates j hlt (4+i) (by omega)]
   match i,hi2 with
   | 0,_=>rfl
   | 1,_=>rfl)
  obtain⟨w3,h3,hc3,x3,c3⟩:=S't C L x2 N.gates[j].b;unfold ptr at hc2 hc3;obtain⟨q,hq⟩:=e' (j+1);have hw:IntKind.i64.wrap ((j:Int)+1)=(q:Int):=w'i;have hlt':(j:Int)<N.gates.length:=by omega
  have hv:Value.agg N.gates[j].a.cells.toArray=N.gates[j].a.val:=rfl;have hv2:Value.agg N.gates[j].b.cells.toArray=N.gates[j].b.val:=rfl;refine f'f ?_;simp[M'x,ZbA,ZbB,ZbC,ZbD,t0,t1,t4,m2,m22,hlt,hlt',hc,hcb,hv,hv2,hc2,hc3,hw];exact⟨m-1,by omega,q,_,w3,x3,(c'.trans c2).trans c3,rfl,by omega,by omega,by rw[hq];exact hfin⟩
 ·obtain⟨a,cp,rfl⟩:=nl.s5.len (by omega) N.gates.length hlen;have hlt':¬(j:Int)<N.gates.length:=by omega
  rw[List.drop_eq_nil_of_le (by omega)]at hfin;rw[<-hfin];refine f'f ?_;simp[M'x,ZbA,t0,t1,t4,m2,hlt,hlt'];exact⟨w',x',c'⟩
def juS (N:Net)(R:RS): RS:=N.gates.foldl (λR x=>ju1 N (ju1 N R x.a) x.b) (N.bads.foldl (ju1 N) (N.outs.foldl (ju1 N) (N.las.foldl (λR x=>ju1 N R x.n) R)))
theorem U'g (C:LP' O ro c)(L:O.Law){w:Own}{h:H}{r n:Nat}{s:ByteArray}{R:RS}{N:Net}(x:ST O ro w h r s R n N)(hl:N.las.length<=10000∧N.outs.length<=10000∧N.bads.length<=10000∧N.gates.length<=10000):
  ∃w' h',c 52 [ptr n,ptr r] h=some (.tuple #[],h')∧ST O ro w' h' r s (juS N R) n N∧Ch O (Kc [1] 1) w h w' h':=by
 have key:∃v h',c 52 [ptr n,ptr r] h=some (v,h')∧(v = .tuple #[]∧∃w',ST O ro w' h' r s (juS N R) n N∧Ch O (Kc [1] 1) w h w' h'):=by
  refine C.fn (R'3 O ro) rfl rfl ?_;unfold F52;refine okE.seq (s'f ?_);simp[Zbn,A'c,-A'1,-A'i,-rvE];refine okE.mono (S'u C L hl.1 R w h _ x (Ch.refl _ _ _) (by simp) (by simp) (by simp)) ?_;rintro e t g ⟨rfl,t0,t1,w2,x2,c2⟩;simp only[A'c];refine okE.seq (s'f ?_);simp[Zbr,A'c,-A'1,-A'i,-rvE];refine okE.mono (P't C L hl.2.1 _ w2 g _ x2 c2 (by simp[t0]) (by simp[t1]) (by simp)) ?_;rintro e t g ⟨rfl,t0,t1,w3,x3,c3⟩;simp only[A'c];refine okE.seq (s'f ?_);simp[Zbv,A'c,-A'1,-A'i,-rvE];refine okE.mono (P'u C L hl.2.2.1 _ w3 g _ x3 c3 (by simp[t0]) (by simp[t1]) (by simp)) ?_;rintro e t g ⟨rfl,t0,t1,w4,x4,c4⟩;simp only[A'c];refine s'f ?_;simp[Zbz,A'c,-A'1,-A'i,-rvE];refine okE.mono (M'Q C L hl.2.2.2 _ w4 g _ x4 c4 (by simp[t0]) (by simp[t1]) (by simp)) ?_;rintro e t g ⟨rfl,w5,x5,c5⟩;simp;exact⟨w5,x5,c5⟩
 obtain⟨v,h',e1,rfl,w',e2⟩:=key;exact⟨w',h',e1,e2⟩
end
structure Ord where
 place:List Int
 count:Nat
def Ord.at (P:Ord)(l:Int): Int:=if l/2<0∨(P.place.length:Int)<=l/2 then -1 else (P.place[(l/2).toNat]?).getD (-1)
def Ord.lay (P:Ord)(l:Int): Ord:=if l/2<0∨(P.place.length:Int)<=l/2 then P else ⟨P.place.set (l/2).toNat P.count,P.count+1⟩
def Ord.lit (P:Ord)(l:Int): Int:=2*P.at l+l%2
structure Ord.Ok (P:Ord) (B:Nat):Prop where
 c:P.count<=B
 p:∀q∈P.place,-1<=q∧q<=B
theorem Ord.Ok.at {P:Ord}{B:Nat}(h:P.Ok B)(l:Int): -1<=P.at l∧P.at l<=B:=by
 unfold Ord.at;split
 ·omega
 ·cases hx:P.place[(l/2).toNat]? with
  | none=>simp
  | some v=>exact h.p v (l'f hx)
theorem Ord.Ok.lay {P:Ord}{B:Nat}(h:P.Ok B)(l:Int): (P.lay l).Ok (B+1):=by
 unfold Ord.lay;split
 ·exact⟨by have:=h.c;omega,λq hq=>by have:=h.p q hq;omega⟩
 ·refine⟨by have:=h.c;simp only;omega,λq hq=>?_⟩;rcases List.mem_or_eq_of_mem_set hq with hq|hq
  ·have:=h.p q hq;omega
  ·have:=h.c;omega
theorem Ord.Ok.mono {P:Ord}{B B':Nat}(h:P.Ok B)(hb:B<=B'): P.Ok B':=⟨l'G h.c hb,λq hq=>by have:=h.p q hq;omega⟩
section
variable {H:Type}{O:HI H}{ro:Nat}{c:A'Z H}
structure OB (O:HI H) (ro:Nat)(w:Own)(h:H) (o:Nat)(P:Ord):Prop where
 ex:∃v0,Bx O ro w h (3,1000) o [v0,.int .i64 P.count]∧Sl O ro w h (3,0) 1 v0 (P.place.map iv)
theorem OB.ch (L:O.Law){K:Tag->Prop}{w w':Own}{h h':H}{o:Nat}{P:Ord}(x:OB O ro w h o P)(a:Ch O K w h w' h')(hk:∀o,¬K (3,o):=by simp): OB O ro w' h' o P:=by
 obtain⟨v0,m,s⟩:=x.ex;exact⟨v0,m.ch L a (hk _),s.ch L a (hk _)⟩
theorem S'v (C:LP' O ro c){w:Own}{h:H}{o:Nat}{P:Ord}(x:OB O ro w h o P)(l:Int): c 156 [ptr o,.int .i64 l] h=some (.int .i64 (P.at l),h):=by
 refine C.eq (P'g O ro) rfl rfl (f'f ?_);obtain⟨v0,m,s⟩:=x.ex;have m0:=m.get 0 _ rfl;have e1:l.fdiv 2=l/2:=Int.fdiv_eq_ediv_of_nonneg l (by omega);unfold Ord.at
 by_cases h1:l/2<0
 ·simp[T'Z,Zea,Zeb,Zec,Zed,IntKind.bits,e1,h1]
 ·by_cases h2:(P.place.length:Int)<=l/2
  ·obtain⟨a,cp,rfl⟩:=s.len (by omega) P.place.length (by simp);simp[T'Z,Zea,Zeb,Zec,Zed,IntKind.bits,e1,h1,h2,m0]
  ·obtain⟨b,cp,rfl,y⟩:=s.blk (by omega) P.place.length (by simp) (by omega);have hq:(l/2).toNat<P.place.length:=by omega
   have hc:=y.get (l/2).toNat (iv P.place[(l/2).toNat]) (by simp[hq]);have k0:0<=l/2:=by omega
   have k1:l/2<(P.place.length:Int):=by omega
   simp[T'Z,Zea,Zeb,Zec,Zed,Zee,IntKind.bits,e1,h1,h2,m0,k0,k1,hc,hq,iv]
theorem M'R (C:LP' O ro c)(L:O.Law){w:Own}{h:H}{o:Nat}{P:Ord}(x:OB O ro w h o P)(hP:P.count<=100000)(l:Int):
  ∃h',c 155 [ptr o,.int .i64 l] h=some (.tuple #[],h')∧OB O ro w h' o (P.lay l)∧Ch O (Kc [3] 0) w h w h':=by
 obtain⟨v0,m,s⟩:=x.ex;have m0:=m.get 0 _ rfl;have m1:=m.get 1 _ rfl;have e1:l.fdiv 2=l/2:=Int.fdiv_eq_ediv_of_nonneg l (by omega);unfold Ord.lay
 by_cases h1:l/2<0
 ·rw[if_pos (.inl h1)];refine⟨h,?_,x,Ch.refl _ _ _⟩;refine C.eq (H'A O ro) rfl rfl (f'f ?_);simp[T'Y,Zd6,Zd7,IntKind.bits,e1,h1]
 ·by_cases h2:(P.place.length:Int)<=l/2
  ·rw[if_pos (.inr h2)];obtain⟨a,cp,rfl⟩:=s.len (by omega) P.place.length (by simp);refine⟨h,?_,x,Ch.refl _ _ _⟩;refine C.eq (H'A O ro) rfl rfl (f'f ?_);simp[T'Y,Zd6,Zd7,IntKind.bits,e1,h1,h2,m0]
  ·rw[if_neg (by omega)];have hs:=s;obtain⟨b,cp,rfl,y⟩:=s.blk (by omega) P.place.length (by simp) (by omega);have hq:(l/2).toNat<P.place.length:=by omega
   have hc:=y.get (l/2).toNat (iv P.place[(l/2).toNat]) (by simp[hq]);have k0:0<=l/2:=by omega
   have k1:l/2<(P.place.length:Int):=by omega
   have y2:=y.put L (l/2).toNat (by simpa using hq) (.int .i64 P.count);have c2:=Ch.put L (K:=λu=>u=(3,0)) y (l/2).toNat (by simpa using hq) (.int .i64 P.count) rfl;have mm:=m.ch L c2;have mm1:=mm.get 1 _ rfl;obtain⟨q,hq2⟩:=e' (P.count+1);have hw:IntKind.i64.wrap ((P.count:Int)+1)=(q:Int):=w'i;have m3:=mm.put L 1 (by simp) (.int .i64 q);have c3:=Ch.put L (K:=λu=>u=(3,1000)) mm 1 (by simp) (.int .i64 q) rfl;have hro1:¬b<ro:=by have:=y.lo;omega
   have hro2:¬o<ro:=by have:=m.lo;omega
   have hcount:(⟨P.place.set (l/2).toNat (P.count:Int),P.count+1⟩:Ord).count=q:=hq2.symm;refine⟨_,?_,⟨_,by rw[hcount];exact m3,?_⟩,(Kc.one c2 (.inl (l'm.2 rfl))).trans (Kc.one c3 (.inl (l'm.2 rfl)))⟩
   ·refine C.eq (H'A O ro) rfl rfl (f'f ?_);simp[T'Y,Zd6,Zd7,Zd8,Zd9,IntKind.bits,e1,h1,h2,m0,m1,k0,k1,hc,hq,hro1,hro2,A'8,mm1,hw]
   ·have hlen:(P.place.set (l/2).toNat (P.count:Int)).length=P.place.length:=by simp
    rcases hs with ⟨e,_⟩|⟨b',m',cp',e,ec,el,en,y'⟩
    ·simp at e
    ·simp only[Value.slice.injEq,l'a,Addr.mk.injEq]at e;obtain⟨⟨rfl,_⟩,rfl,rfl⟩:=e;refine .inr ⟨b,P.place.length,cp,rfl,ec,by simp,?_,?_⟩
     ·intro q;have:=congrArg List.length q;simp only[List.length_map,List.length_set,l'o]at this;omega
     ·have:=y2.ch L c3;simpa [List.map_set,iv]using this
theorem M'S (C:LP' O ro c){w:Own}{h:H}{o:Nat}{P:Ord}(x:OB O ro w h o P)(hP:P.Ok 100000)(l:Int)(h0:0<=l)(h1:l<1000000): c 101 [ptr o,.int .i64 l] h=some (.int .i64 (P.lit l),h):=by
 refine C.eq (P'b O ro) rfl rfl (f'f ?_);have ha:=S'v C x l;have hb:=hP.at l;unfold Ord.lit;obtain⟨k,rfl⟩:∃k:Nat,l=k:=⟨l.toNat,by omega⟩;have hand:=C'r k (by omega);generalize P.at (k:Int)=a at ha hb;have w1:IntKind.i64.wrap (2*a)=2*a:=w'j;have w2:IntKind.i64.wrap (2*a+((k%2:Nat):Int))=2*a+(k:Int)%2:=w'i;unfold ptr at ha;simp only[Int.natCast_emod,Int.cast_ofNat_Int]at hand w2;simp[U'N,ZdA,ZdB,ZdC,ha,w1,hand,w2]
def D'T (N:Net): Int:=match N.bads with
 | u :: _=>u.l
 | []=>match N.outs with
  | u :: _=>u.l
  | []=>0
theorem S'w (C:LP' O ro c){w:Own}{h:H}{n:Nat}{N:Net}{v0 v1 v2 v3 v4 v5:Value}(x:NL O ro w h n N v0 v1 v2 v3 v4 v5): c 102 [ptr n] h=some (.int .i64 (D'T N),h):=by
 refine C.eq (P'c O ro) rfl rfl (f'f ?_);have m4:=x.m.get 4 _ rfl;have m3:=x.m.get 3 _ rfl;unfold D'T
 cases hb:N.bads with
 | cons u us=>
  have hl4:=A'A Us.cells 2 (λ_=>rfl) N.bads;obtain⟨b,cp,rfl,y⟩:=x.s4.blk (by omega) N.bads.length hl4 (by rw[hb];simp);have y0:O.cell h b 0=some (.int .i64 u.l):=y.get 0 _ (by rw[hb];rfl);have k0:(0:Int)<N.bads.length:=by rw[hb];simp
  have k1:0<N.bads.length:=by rw[hb];simp
  simp[T'W,ZdD,ZdE,ZdF,m4,k0,k1,y0]
 | nil=>
  have e4:v4 = .slice none 0 0:=by have:=x.s4;rw[hb]at this;exact this.of_nil
  subst e4
  cases ho:N.outs with
  | cons u us=>
   have hl3:=A'A Us.cells 2 (λ_=>rfl) N.outs;obtain⟨b,cp,rfl,y⟩:=x.s3.blk (by omega) N.outs.length hl3 (by rw[ho];simp);have y0:O.cell h b 0=some (.int .i64 u.l):=y.get 0 _ (by rw[ho];rfl);have k0:(0:Int)<N.outs.length:=by rw[ho];simp
   have k1:0<N.outs.length:=by rw[ho];simp
   simp[T'W,ZdD,ZdE,ZdG,ZdH,m4,m3,k0,k1,y0]
  | nil=>
   have e3:v3 = .slice none 0 0:=by have:=x.s3;rw[ho]at this;exact this.of_nil
   subst e3;simp[T'W,ZdD,ZdE,ZdG,ZdI,m4,m3]
def frL (P:Ord): List GaL->Nat->Int
 | [],_=>-1
 | g :: gs,k=>if P.at g.g.l = -1∧P.at g.a.l≠-1∧P.at g.b.l≠-1 then (k:Int) else frL P gs (k+1)
def fuL (P:Ord): List GaL->Nat
 | []=>0
 | g :: gs=>if P.at g.g.l = -1 then g.g.p else fuL P gs
theorem H'D {w:Own}{h:H}{t:Tag}{b:Nat}{gs:List GaL}(y:Bx O ro w h t b (gs.flatMap GaL.cells))(j:Nat)(hj:j<gs.length):
  O.cell h b (j*6)=some (.int .i64 gs[j].g.l)∧O.cell h b (j*6+1)=some (.int .i64 gs[j].g.p)∧O.cell h b (j*6+2)=some (.int .i64 gs[j].a.l)∧O.cell h b (j*6+4)=some (.int .i64 gs[j].b.l)∧cellsA O h b (j*6) 6=some gs[j].cells:=by
 have k:=λi (hi:i<6)=>B'X GaL.cells 6 (λ_=>rfl) gs j hj i hi;refine⟨y.get _ _ (k 0 (by omega)),y.get _ _ (k 1 (by omega)),y.get _ _ (k 2 (by omega)),y.get _ _ (k 4 (by omega)),y.at (j*6) gs[j].cells λi hi=>k i hi⟩
theorem V'4 (C:LP' O ro c){w:Own}{h:H}{o:Nat}{P:Ord}{v:Value}{t5:Tag}{gs:List GaL}(x:OB O ro w h o P)(sl:Sl O ro w h t5 6 v (gs.flatMap GaL.cells))(hl:gs.length<=10000): c 98 [ptr o,v] h=some (.int .i64 (frL P gs 0),h):=by
 have hlen:=A'A GaL.cells 6 (λ_=>rfl) gs;refine C.eq (S'c O ro) rfl rfl ?_;unfold F98;refine s'f ?_;simp[Zdb,A'c,-A'1,-A'i,-rvE];refine okE.seq (s'f ?_);simp[Zdc,A'c,-A'1,-A'i,-rvE];refine okE.blk ?_;refine okE.loop (λm t g=>∃j,g=h∧t 0=ptr o∧t 1=v∧t 5 = .int .i64 (j:Nat)∧j+m=gs.length+1∧0<m∧frL P (gs.drop j) j=frL P gs 0) ?_ (gs.length+1) _ _ ⟨0,rfl,by simp,by simp,by simp,by omega,by omega,rfl⟩;intro m t g hI;obtain⟨j,rfl,t0,t1,t5',hj,hm,hfin⟩:=hI;unfold ptr at t0
 by_cases hlt:j<gs.length
 ·obtain⟨b,cp,rfl,y⟩:=sl.blk (by omega) gs.length hlen (by omega);obtain⟨g0,_,g2,g4,_⟩:=H'D y j hlt;rw[l's hlt]at hfin;simp only[frL]at hfin;have a1:=S'v C x gs[j].g.l;have a2:=S'v C x gs[j].a.l;have a3:=S'v C x gs[j].b.l;unfold ptr at a1 a2 a3;obtain⟨q,hq⟩:=e' (j+1);have hw:IntKind.i64.wrap ((j:Int)+1)=(q:Int):=w'i;have hlt':(j:Int)<gs.length:=by omega
  generalize P.at gs[j].g.l=r1 at a1 hfin;generalize P.at gs[j].a.l=r2 at a2 hfin;generalize P.at gs[j].b.l=r3 at a3 hfin;rw[<-hq]at hfin;refine f'f ?_
  by_cases k1:r1 = -1
  ·by_cases k2:r2 = -1
   ·rw[if_neg (by omega)]at hfin;have e1:(r1 == -1)=true:=by simpa using k1
    have e2:(r2 != -1)=false:=by simpa using k2
    simp[I'9,Zdd,Zde,Zdf,Zdg,Zdh,Zdj,t0,t1,t5',hlt,hlt',g0,g2,g4,a1,a2,a3,e1,e2,hw];exact⟨m-1,by omega,q,rfl,by omega,by omega,hfin⟩
   ·have e1:(r1 == -1)=true:=by simpa using k1
    have e2:(r2 != -1)=true:=by simpa using k2
    by_cases k3:r3 = -1
    ·rw[if_neg (by omega)]at hfin;have e3:(r3 != -1)=false:=by simpa using k3
     simp[I'9,Zdd,Zde,Zdf,Zdg,Zdh,Zdj,t0,t1,t5',hlt,hlt',g0,g2,g4,a1,a2,a3,e1,e2,e3,hw];exact⟨m-1,by omega,q,rfl,by omega,by omega,hfin⟩
    ·rw[if_pos ⟨k1,k2,k3⟩]at hfin;have e3:(r3 != -1)=true:=by simpa using k3
     simp[I'9,Zdd,Zde,Zdf,Zdg,Zdh,Zdi,t0,t1,t5',hlt,hlt',g0,g2,g4,a1,a2,a3,e1,e2,e3,<-hfin,A'c]
  ·rw[if_neg (by omega)]at hfin;have e1:(r1 == -1)=false:=by simpa using k1
   simp[I'9,Zdd,Zde,Zdf,Zdg,Zdh,Zdj,t0,t1,t5',hlt,hlt',g0,g2,g4,a1,a2,a3,e1,hw];exact⟨m-1,by omega,q,rfl,by omega,by omega,hfin⟩
 ·obtain⟨a,cp,rfl⟩:=sl.len (by omega) gs.length hlen;rw[List.drop_eq_nil_of_le (by omega)]at hfin;have hfin2:-1=frL P gs 0:=hfin;have hlt':¬(j:Int)<gs.length:=by omega
  refine f'f ?_;simp[I'9,Zdd,t0,t1,t5',hlt,hlt',A'c];refine f'f ?_;simp[Zdk,<-hfin2]
theorem V'5 (C:LP' O ro c){w:Own}{h:H}{o:Nat}{P:Ord}{v:Value}{t5:Tag}{gs:List GaL}(x:OB O ro w h o P)(sl:Sl O ro w h t5 6 v (gs.flatMap GaL.cells))(hl:gs.length<=10000): c 99 [ptr o,v] h=some (.int .i64 (fuL P gs),h):=by
 have hlen:=A'A GaL.cells 6 (λ_=>rfl) gs;refine C.eq (S'd O ro) rfl rfl ?_;unfold F99;refine s'f ?_;simp[Zdl,A'c,-A'1,-A'i,-rvE];refine okE.seq (s'f ?_);simp[Zdm,A'c,-A'1,-A'i,-rvE];refine okE.blk ?_;refine okE.loop (λm t g=>∃j,g=h∧t 0=ptr o∧t 1=v∧t 5 = .int .i64 (j:Nat)∧j+m=gs.length+1∧0<m∧fuL P (gs.drop j)=fuL P gs) ?_ (gs.length+1) _ _ ⟨0,rfl,by simp,by simp,by simp,by omega,by omega,rfl⟩;intro m t g hI;obtain⟨j,rfl,t0,t1,t5',hj,hm,hfin⟩:=hI;unfold ptr at t0
 by_cases hlt:j<gs.length
 ·obtain⟨b,cp,rfl,y⟩:=sl.blk (by omega) gs.length hlen (by omega);obtain⟨g0,g1,g2,g4,_⟩:=H'D y j hlt;rw[l's hlt]at hfin;simp only[fuL]at hfin;have a1:=S'v C x gs[j].g.l;unfold ptr at a1;obtain⟨q,hq⟩:=e' (j+1);have hw:IntKind.i64.wrap ((j:Int)+1)=(q:Int):=w'i;have hlt':(j:Int)<gs.length:=by omega
  generalize P.at gs[j].g.l=r1 at a1 hfin;rw[<-hq]at hfin;refine f'f ?_
  by_cases k1:r1 = -1
  ·rw[if_pos k1]at hfin;have e1:(r1 == -1)=true:=by simpa using k1
   simp[M'C,Zdn,Zdo,Zdp,Zdq,t0,t1,t5',hlt,hlt',g0,g1,a1,e1,hfin,A'c]
  ·rw[if_neg k1]at hfin;have e1:(r1 == -1)=false:=by simpa using k1
   simp[M'C,Zdn,Zdo,Zdp,Zdr,t0,t1,t5',hlt,hlt',g0,g1,a1,e1,hw];exact⟨m-1,by omega,q,rfl,by omega,by omega,hfin⟩
 ·obtain⟨a,cp,rfl⟩:=sl.len (by omega) gs.length hlen;rw[List.drop_eq_nil_of_le (by omega)]at hfin;have hfin2:0=fuL P gs:=hfin;have hlt':¬(j:Int)<gs.length:=by omega
  refine f'f ?_;simp[M'C,Zdn,t0,t1,t5',hlt,hlt',A'c];refine f'f ?_;simp[Zds,<-hfin2]
def nw0 (N:Net): Ord:=⟨List.replicate N.given.length (-1),0⟩
def nwS (N:Net): Ord:=N.las.foldl (λP x=>P.lay x.l) (N.ins.foldl Ord.lay ((nw0 N).lay 0))
theorem M'T (C:LP' O ro c)(L:O.Law){w0:Own}{h0:H}{n o:Nat}{N:Net}(hl:N.given.length<=10000)(w:Own)(h:H)(t:Env){v0 v1 v2 v3 v4 v5:Value}(x:NL O ro w h n N v0 v1 v2 v3 v4 v5)(y:OB O ro w h o ⟨[],0⟩)(lo:ro<=O.next h)(cc:Ch O (Kc [3] 0) w0 h0 w h)(t0:t 0=ptr n)(t3:t 3=ptr o)(t4:t 4 = .int .i64 0):
  okE c (A'x 0 (A'Y (M'z O Tryz.prog ro))) (t,h) (λe t' h'=>e = .normal∧t' 0=ptr n∧t' 3=ptr o∧∃w',NL O ro w' h' n N v0 v1 v2 v3 v4 v5∧OB O ro w' h' o (nw0 N)∧Ch O (Kc [3] 0) w0 h0 w' h'∧ro<=O.next h'):=by
 refine okE.blk ?_;refine okE.loop (λm t g=>∃j w',NL O ro w' g n N v0 v1 v2 v3 v4 v5∧OB O ro w' g o ⟨List.replicate j (-1),0⟩∧Ch O (Kc [3] 0) w0 h0 w' g∧ro<=O.next g∧t 0=ptr n∧t 3=ptr o∧t 4 = .int .i64 (j:Nat)∧j+m=N.given.length+1∧0<m) ?_ (N.given.length+1) _ _ ⟨0,w,x,y,cc,lo,t0,t3,t4,by omega,by omega⟩;intro m t g hI;obtain⟨j,w',x',y',c',lo',t0,t3,t4,hj,hm⟩:=hI;unfold ptr at t0 t3;have m0:=x'.m.get 0 _ rfl;obtain⟨a,cp,hv0⟩:=x'.s0.len (by omega) N.given.length (by simp)
 by_cases hlt:j<N.given.length
 ·obtain⟨u0,ym,ys⟩:=y'.ex;obtain⟨v',h2,w2,e2,sl2,c2,lo2⟩:=C'A L (bytes:=8) lo' ys (new:=[.int .i64 (-1)]) (by omega) rfl (by simp;omega) (by simp;omega);have y2:=ym.ch L c2;have y3:=y2.put L 0 (by simp) v';have c3:=Ch.put L (K:=λu=>u=(3,1000)) y2 0 (by simp) v' rfl;have sl3:=sl2.ch L c3;have y20:=y2.get 0 _ rfl;have y0:=ym.get 0 _ rfl;have hron:¬o<ro:=by have:=y2.lo;omega
  obtain⟨f1,f2,f3⟩:=sl2.flat;obtain⟨q,hq⟩:=e' (j+1);have hw:IntKind.i64.wrap ((j:Int)+1)=(q:Int):=w'i;have hlt':(j:Int)<N.given.length:=by omega
  rw[hv0]at m0;refine f'f ?_;simp[M'z,ZcY,ZcZ,Zc0,t0,t3,t4,m0,hlt,hlt',y0,List.zipIdx,l'B,e2,f1,f2,f3,y20,hron,A'8,hw];refine⟨m-1,by omega,q,w2,(x'.ch L c2).ch L c3,⟨v',y3,?_⟩,(c'.trans (Kc.one c2 (.inl (l'm.2 rfl)))).trans (Kc.one c3 (.inl (l'm.2 rfl))),by rw[L.next_put];exact lo2,rfl,by omega,by omega⟩;rw[hq];simp only[List.replicate_succ',List.map_append,l'J,l'K];exact sl3
 ·have hlt':¬(j:Int)<N.given.length:=by omega
  have hjt:j=N.given.length:=by omega
  rw[hv0]at m0;refine f'f ?_;simp[M'z,ZcY,t0,t3,t4,m0,hlt,hlt'];subst hjt;exact⟨w',x',y',c',lo'⟩
theorem S'x (C:LP' O ro c)(L:O.Law){w0:Own}{h0:H}{n o:Nat}{N:Net}(hl:N.ins.length<=10000)(w:Own)(h:H)(t:Env){v0 v1 v2 v3 v4 v5:Value}(P:Ord)(hP:P.Ok 100)(x:NL O ro w h n N v0 v1 v2 v3 v4 v5)(y:OB O ro w h o P)(lo:ro<=O.next h)(cc:Ch O (Kc [3] 0) w0 h0 w h)(t0:t 0=ptr n)(t3:t 3=ptr o)(t5:t 5 = .int .i64 0):
  okE c (A'x 2 (A'Y (M'A O Tryz.prog ro))) (t,h) (λe t' h'=>e = .normal∧t' 0=ptr n∧t' 3=ptr o∧∃w',NL O ro w' h' n N v0 v1 v2 v3 v4 v5∧OB O ro w' h' o (N.ins.foldl Ord.lay P)∧(N.ins.foldl Ord.lay P).Ok 10100∧Ch O (Kc [3] 0) w0 h0 w' h'∧ro<=O.next h'):=by
 refine okE.blk ?_;refine okE.loop (λm t g=>∃j Q w',NL O ro w' g n N v0 v1 v2 v3 v4 v5∧OB O ro w' g o Q∧Q.Ok (100+j)∧Ch O (Kc [3] 0) w0 h0 w' g∧ro<=O.next g∧t 0=ptr n∧t 3=ptr o∧t 5 = .int .i64 (j:Nat)∧j+m=N.ins.length+1∧0<m∧(N.ins.drop j).foldl Ord.lay Q=N.ins.foldl Ord.lay P) ?_ (N.ins.length+1) _ _ ⟨0,P,w,x,y,hP,cc,lo,t0,t3,t5,by omega,by omega,rfl⟩;intro m t g hI;obtain⟨j,Q,w',x',y',hQ,c',lo',t0,t3,t5,hj,hm,hfin⟩:=hI;unfold ptr at t0 t3;have m1:=x'.m.get 1 _ rfl
 by_cases hlt:j<N.ins.length
 ·obtain⟨b,cp,hv1,z⟩:=x'.s1.blk (by omega) N.ins.length (by simp) (by omega);rw[hv1]at m1;have hc:=z.get j (.int .i64 N.ins[j]) (by simp[hlt,iv]);rw[D'w _ _ _ hlt]at hfin;obtain⟨h2,hc2,y2,c2⟩:=M'R C L y' (by have:=hQ.c;omega) N.ins[j];unfold ptr at hc2;obtain⟨q,hq⟩:=e' (j+1);have hw:IntKind.i64.wrap ((j:Int)+1)=(q:Int):=w'i;have hlt':(j:Int)<N.ins.length:=by omega
  refine f'f ?_;simp[M'A,Zc3,Zc4,Zc5,t0,t3,t5,m1,hlt,hlt',hc,hc2,hw];exact⟨m-1,by omega,q,_,w',x'.ch L c2 (by simp[Kc]),y2,by rw[hq];exact hQ.lay _,c'.trans c2,l'G lo' c2.nx,rfl,by omega,by omega,by rw[hq];exact hfin⟩
 ·obtain⟨a,cp,hv1⟩:=x'.s1.len (by omega) N.ins.length (by simp);rw[hv1]at m1;have hlt':¬(j:Int)<N.ins.length:=by omega
  rw[List.drop_eq_nil_of_le (by omega)]at hfin;have hfin2:Q=N.ins.foldl Ord.lay P:=hfin;rw[<-hfin2];refine f'f ?_;simp[M'A,Zc3,t0,t3,t5,m1,hlt,hlt'];exact⟨w',x',y',hQ.mono (by omega),c',lo'⟩
theorem S'y (C:LP' O ro c)(L:O.Law){w0:Own}{h0:H}{n o:Nat}{N:Net}(hl:N.las.length<=10000)(w:Own)(h:H)(t:Env){v0 v1 v2 v3 v4 v5:Value}(P:Ord)(hP:P.Ok 10100)(x:NL O ro w h n N v0 v1 v2 v3 v4 v5)(y:OB O ro w h o P)(lo:ro<=O.next h)(cc:Ch O (Kc [3] 0) w0 h0 w h)(t0:t 0=ptr n)(t3:t 3=ptr o)(t5:t 6 = .int .i64 0):
  okE c (A'x 4 (A'Y (M'B O Tryz.prog ro))) (t,h) (λe t' h'=>e = .normal∧t' 3=ptr o∧∃w',NL O ro w' h' n N v0 v1 v2 v3 v4 v5∧OB O ro w' h' o (N.las.foldl (λP x=>P.lay x.l) P)∧(N.las.foldl (λP x=>P.lay x.l) P).Ok 20100∧Ch O (Kc [3] 0) w0 h0 w' h'∧ro<=O.next h'):=by
 refine okE.blk ?_;have hlen:=A'A LaL.cells 4 (λ_=>rfl) N.las;refine okE.loop (λm t g=>∃j Q w',NL O ro w' g n N v0 v1 v2 v3 v4 v5∧OB O ro w' g o Q∧Q.Ok (10100+j)∧Ch O (Kc [3] 0) w0 h0 w' g∧ro<=O.next g∧t 0=ptr n∧t 3=ptr o∧t 6 = .int .i64 (j:Nat)∧j+m=N.las.length+1∧0<m∧(N.las.drop j).foldl (λP x=>P.lay x.l) Q=N.las.foldl (λP x=>P.lay x.l) P) ?_ (N.las.length+1) _ _ ⟨0,P,w,x,y,hP,cc,lo,t0,t3,t5,by omega,by omega,rfl⟩;intro m t g hI;obtain⟨j,Q,w',x',y',hQ,c',lo',t0,t3,t5,hj,hm,hfin⟩:=hI;unfold ptr at t0 t3;have m1:=x'.m.get 2 _ rfl
 by_cases hlt:j<N.las.length
 ·obtain⟨b,cp,hv1,z⟩:=x'.s2.blk (by omega) N.las.length hlen (by omega);rw[hv1]at m1;have hc:O.cell g b (j*4)=some (.int .i64 N.las[j].l):=z.get _ _ (B'X LaL.cells 4 (λ_=>rfl) N.las j hlt 0 (by omega));rw[D'w _ _ _ hlt]at hfin;obtain⟨h2,hc2,y2,c2⟩:=M'R C L y' (by have:=hQ.c;omega) N.las[j].l;unfold ptr at hc2;obtain⟨q,hq⟩:=e' (j+1);have hw:IntKind.i64.wrap ((j:Int)+1)=(q:Int):=w'i;have hlt':(j:Int)<N.las.length:=by omega
  refine f'f ?_;simp[M'B,Zc7,Zc8,Zc9,t0,t3,t5,m1,hlt,hlt',hc,hc2,hw];exact⟨m-1,by omega,q,_,w',x'.ch L c2 (by simp[Kc]),y2,by rw[hq];exact hQ.lay _,c'.trans c2,l'G lo' c2.nx,rfl,by omega,by omega,by rw[hq];exact hfin⟩
 ·obtain⟨a,cp,hv1⟩:=x'.s2.len (by omega) N.las.length hlen;rw[hv1]at m1;have hlt':¬(j:Int)<N.las.length:=by omega
  rw[List.drop_eq_nil_of_le (by omega)]at hfin;have hfin2:Q=N.las.foldl (λP x=>P.lay x.l) P:=hfin;rw[<-hfin2];refine f'f ?_;simp[M'B,Zc7,t0,t3,t5,m1,hlt,hlt'];exact⟨w',x',y',hQ.mono (by omega),c',lo'⟩
theorem V'6 (C:LP' O ro c)(L:O.Law){w:Own}{h:H}{n:Nat}{N:Net}{v0 v1 v2 v3 v4 v5:Value}(x:NL O ro w h n N v0 v1 v2 v3 v4 v5)(lo:ro<=O.next h)(hl:N.given.length<=10000∧N.ins.length<=10000∧N.las.length<=10000):
  ∃o w' h',c 97 [ptr n] h=some (ptr o,h')∧NL O ro w' h' n N v0 v1 v2 v3 v4 v5∧OB O ro w' h' o (nwS N)∧(nwS N).Ok 20100∧Ch O (Kc [3] 0) w h w' h'∧ro<=O.next h':=by
 obtain⟨o,ho⟩:=e' (O.next h);obtain⟨h1,hh1⟩:=e' (O.new h [.slice none 0 0,.int .i64 0]);obtain⟨w1,hw1⟩:=e' (w.set o (3,1000));have c1:∀K,Ch O K w h w1 h1:=λK=>by rw[hh1,hw1,ho];exact Ch.new L _ _ _ _ _
 have y1:Bx O ro w1 h1 (3,1000) o [.slice none 0 0,.int .i64 0]:=by rw[hh1,hw1,ho];exact Bx.new L _ _ lo _ _
 have lo1:ro<=O.next h1:=l'G lo (c1 λ_=>True).nx
 have x1:=x.ch L (c1 λ_=>False) (by simp);have hk0:(nw0 N).Ok 99:=⟨by simp[nw0],λq hq=>by
  have:=List.eq_of_mem_replicate hq;omega⟩
 have key:∃v h',c 97 [ptr n] h=some (v,h')∧(v=ptr o∧∃w',NL O ro w' h' n N v0 v1 v2 v3 v4 v5∧OB O ro w' h' o (nwS N)∧(nwS N).Ok 20100∧Ch O (Kc [3] 0) w h w' h'∧ro<=O.next h'):=by
  refine C.fn (S'b O ro) rfl rfl ?_;unfold F97;refine s'f ?_;simp[ZcV,A'c,-A'1,-A'i,-rvE];refine s'f ?_;simp[ZcW,A'c,<-ho,<-hh1,-A'1,-A'i,-rvE];refine okE.seq (s'f ?_);simp[ZcX,A'c,-A'1,-A'i,-rvE];refine okE.mono (M'T C L hl.1 w1 h1 _ x1 ⟨_,y1,Sl.nil _ _ _ _⟩ lo1 (c1 _) (by simp) (by simp) (by simp)) ?_;rintro e t g ⟨rfl,t0,t3,w2,x2,y2,c2,lo2⟩;simp only[A'c];obtain⟨h3,hc3,y3,c3⟩:=M'R C L y2 (by have:=hk0.c;omega) 0;unfold ptr at hc3 t3;refine s'f ?_;simp[Zc1,t3,hc3,A'c,-A'1,-A'i,-rvE];refine okE.seq (s'f ?_);simp[Zc2,A'c,-A'1,-A'i,-rvE];refine okE.mono (S'x C L hl.2.1 w2 h3 _ _ (hk0.lay 0) (x2.ch L c3 (by simp[Kc])) y3 (l'G lo2 c3.nx) (c2.trans c3) (by simp[t0]) (by simp[t3]) (by simp)) ?_;rintro e t g ⟨rfl,t0,t3,w4,x4,y4,k4,c4,lo4⟩;simp only[A'c];refine okE.seq (s'f ?_);simp[Zc6,A'c,-A'1,-A'i,-rvE];refine okE.mono (S'y C L hl.2.2 w4 g _ _ k4 x4 y4 lo4 c4 (by simp[t0]) (by simp[t3]) (by simp)) ?_;rintro e t g ⟨rfl,t3,w5,x5,y5,k5,c5,lo5⟩;simp only[A'c];refine f'f ?_;simp[Zda,t3];exact⟨w5,x5,y5,k5,c5,lo5⟩
 obtain⟨v,h',e1,rfl,w',e2⟩:=key;exact⟨o,w',h',e1,e2⟩
structure CkT where
 ni:Nat
 las:List (Int×Nat)
 gts:List (Int×Int)
 bad:Int
def laC (x:Int×Nat): List Value:=[.int .i64 x.1,.int .i64 x.2]
def gtC (x:Int×Int): List Value:=[.int .i64 x.1,.int .i64 x.2]
structure CB (O:HI H) (ro:Nat)(w:Own)(h:H) (k:Nat) (p:Nat)(T:CkT):Prop where
 ex:∃v1 v2,Bx O ro w h (k,1000) p [.int .i64 T.ni,v1,v2,.int .i64 T.bad]∧Sl O ro w h (k,1) 2 v1 (T.las.flatMap laC)∧Sl O ro w h (k,2) 2 v2 (T.gts.flatMap gtC)
theorem CB.ch (L:O.Law){K:Tag->Prop}{w w':Own}{h h':H}{k p:Nat}{T:CkT}(x:CB O ro w h k p T)(a:Ch O K w h w' h')(hk:∀o,¬K (k,o):=by simp): CB O ro w' h' k p T:=by
 obtain⟨v1,v2,m,s1,s2⟩:=x.ex;exact⟨v1,v2,m.ch L a (hk _),s1.ch L a (hk _),s2.ch L a (hk _)⟩
theorem CB.appG (L:O.Law){w:Own}{h:H}{p:Nat}{T:CkT}(x:CB O ro w h 4 p T)(lo:ro<=O.next h)(e:Int×Int)(hl:T.gts.length<=10000):
  ∃v v' h1 w1,O.cell h p 2=some v∧D'd O ro 2 16 v (.slice (some ⟨O.next h,0,some 2⟩) 1 2) (O.new h (gtC e))=some (v',h1)∧(v'.cells = #[v']∧B'g v'=true∧B'q v'=false)∧O.cell h1 p 2=some v∧¬p<ro ∧
   CB O ro w1 (O.put h1 p 2 v') 4 p { T with gts:=T.gts++[e] }∧Ch O (Kc [4] 0) w h w1 (O.put h1 p 2 v')∧ro<=O.next (O.put h1 p 2 v'):=by
 obtain⟨v1,v2,m,s1,s2⟩:=x.ex;have hlen:=A'A gtC 2 (λ_=>rfl) T.gts;obtain⟨v',h1,w1,e1,e2,c1,lo1⟩:=C'A L (bytes:=16) lo s2 (new:=gtC e) (by omega) rfl (by omega) (by omega);have m1:=m.ch L c1;have m2:=m1.put L 2 (by simp) v';have c2:=Ch.put L (K:=λu=>u=(4,1000)) m1 2 (by simp) v' rfl;refine⟨v2,v',h1,w1,m.get 2 _ rfl,e1,e2.flat,m1.get 2 _ rfl,by have:=m.lo;omega,⟨v1,v',m2,(s1.ch L c1).ch L c2,?_⟩,(Kc.one c1 (.inl (l'm.2 rfl))).trans (Kc.one c2 (.inl (l'm.2 rfl))),by rw[L.next_put];exact lo1⟩;have:=e2.ch L c2;simpa using this
theorem CB.appL (L:O.Law){w:Own}{h:H}{p:Nat}{T:CkT}(x:CB O ro w h 4 p T)(lo:ro<=O.next h)(e:Int×Nat)(hl:T.las.length<=10000):
  ∃v v' h1 w1,O.cell h p 1=some v∧D'd O ro 2 16 v (.slice (some ⟨O.next h,0,some 2⟩) 1 2) (O.new h (laC e))=some (v',h1)∧(v'.cells = #[v']∧B'g v'=true∧B'q v'=false)∧O.cell h1 p 1=some v∧¬p<ro ∧
   CB O ro w1 (O.put h1 p 1 v') 4 p { T with las:=T.las++[e] }∧Ch O (Kc [4] 0) w h w1 (O.put h1 p 1 v')∧ro<=O.next (O.put h1 p 1 v'):=by
 obtain⟨v1,v2,m,s1,s2⟩:=x.ex;have hlen:=A'A laC 2 (λ_=>rfl) T.las;obtain⟨v',h1,w1,e1,e2,c1,lo1⟩:=C'A L (bytes:=16) lo s1 (new:=laC e) (by omega) rfl (by omega) (by omega);have m1:=m.ch L c1;have m2:=m1.put L 1 (by simp) v';have c2:=Ch.put L (K:=λu=>u=(4,1000)) m1 1 (by simp) v' rfl;refine⟨v1,v',h1,w1,m.get 1 _ rfl,e1,e2.flat,m1.get 1 _ rfl,by have:=m.lo;omega,⟨v',v2,m2,?_,(s2.ch L c1).ch L c2⟩,(Kc.one c1 (.inl (l'm.2 rfl))).trans (Kc.one c2 (.inl (l'm.2 rfl))),by rw[L.next_put];exact lo1⟩;have:=e2.ch L c2;simpa using this
def H'E (P:Ord)(g:GaL): Int×Int:=if P.lit g.a.l<P.lit g.b.l then (P.lit g.b.l,P.lit g.a.l) else (P.lit g.a.l,P.lit g.b.l)
theorem V'7 (C:LP' O ro c)(L:O.Law){w:Own}{h:H}{o p:Nat}{P:Ord}{T:CkT}(x:OB O ro w h o P)(y:CB O ro w h 4 p T)(lo:ro<=O.next h)(hP:P.Ok 100000)(g:GaL)(hg:(0<=g.a.l∧g.a.l<1000000)∧(0<=g.b.l∧g.b.l<1000000))(hl:T.gts.length<=10000):
  ∃w' h',c 100 [ptr o,ptr p,.agg g.cells.toArray] h=some (.tuple #[],h')∧OB O ro w' h' o (P.lay g.g.l)∧CB O ro w' h' 4 p { T with gts:=T.gts++[H'E P g] }∧Ch O (Kc [3,4] 1) w h w' h'∧ro<=O.next h':=by
 obtain⟨b,hb⟩:=e' (O.next h);obtain⟨h1,hh1⟩:=e' (O.new h g.cells);obtain⟨w1,hw1⟩:=e' (w.set b (100,0));have c1:∀K,Ch O K w h w1 h1:=λK=>by rw[hh1,hw1,hb];exact Ch.new L _ _ _ _ _
 have z1:Bx O ro w1 h1 (100,0) b g.cells:=by rw[hh1,hw1,hb];exact Bx.new L _ _ lo _ _
 have x1:=x.ch L (c1 λ_=>False) (by simp);have y1:=y.ch L (c1 λ_=>False) (by simp);have lo1:ro<=O.next h1:=l'G lo (c1 λ_=>True).nx
 have q1:=M'S C x1 hP g.a.l hg.1.1 hg.1.2;have q2:=M'S C x1 hP g.b.l hg.2.1 hg.2.2;obtain⟨v,v',h2,w2,e1,e2,⟨f1,f2,f3⟩,e3,hrop,y2,c2,lo2⟩:=y1.appG L lo1 (H'E P g) hl;have x2:=x1.ch L c2 (by simp[Kc]);have z2:=z1.ch L c2 (by simp[Kc]);obtain⟨h3,hc3,x3,c3⟩:=M'R C L x2 (by have:=hP.c;omega) g.g.l;refine⟨w2,h3,?_,x3,y2.ch L c3 (by simp[Kc]),((c1 _).trans (Kc.mono c2 (by decide) (by omega))).trans (Kc.mono c3 (by decide) (by omega)),l'G lo2 c3.nx⟩;refine C.eq (P'a O ro) rfl rfl (f'f ?_);have k2:=z1.get 2 _ rfl;have k4:=z1.get 4 _ rfl;have k0:=z2.get 0 _ rfl;unfold ptr at q1 q2 hc3;simp only[gtC]at e2;unfold H'E at e2;generalize P.lit g.a.l=r1 at q1 e2;generalize P.lit g.b.l=r2 at q2 e2
 by_cases hlt:r1<r2
 ·rw[if_pos hlt]at e2;simp[T'5,Zdt,Zdu,Zdv,Zdw,Zdx,Zdy,Zdz,<-hb,<-hh1,k2,k4,q1,q2,hlt,e1,List.zipIdx,l'B,e2,f1,f2,f3,e3,hrop,A'8,k0,hc3]
 ·rw[if_neg hlt]at e2;simp[T'5,Zdt,Zdu,Zdv,Zdw,Zdx,Zdy,Zdz,<-hb,<-hh1,k2,k4,q1,q2,hlt,e1,List.zipIdx,l'B,e2,f1,f2,f3,e3,hrop,A'8,k0,hc3]
theorem S'z (P:Ord): ∀(gs:List GaL) (k:Nat),frL P gs k = -1∨((k:Int)<=frL P gs k∧frL P gs k<k+gs.length):=by
 intro gs
 induction gs with
 | nil=>intro k;left;rfl
 | cons g gs ih=>
  intro k;simp only[frL];split
  ·right;simp only[l'n];omega
  ·rcases ih (k+1) with h|h
   ·left;exact h
   ·right;simp only[l'n];omega
def arL (gs:List GaL): Nat->Ord->CkT->Except Nat (Ord×CkT)
 | 0,P,T=>.ok (P,T)
 | m+1,P,T=>
  match gs[(frL P gs 0).toNat]? with
  | some g=>if frL P gs 0 = -1 then .error (fuL P gs) else arL gs m (P.lay g.g.l) { T with gts:=T.gts++[H'E P g] }
  | none=>.error (fuL P gs)
theorem P'v {gs:List GaL}{m:Nat}{P:Ord}{T:CkT}(h:frL P gs 0 = -1): arL gs (m+1) P T = .error (fuL P gs):=by
 simp only[arL];split
 ·rw[if_pos h]
 ·rfl
theorem S'A {gs:List GaL}{m:Nat}{P:Ord}{T:CkT}(k:Nat)(hk:k<gs.length)(h:frL P gs 0=k): arL gs (m+1) P T=arL gs m (P.lay gs[k].g.l) { T with gts:=T.gts++[H'E P gs[k]] }:=by
 simp only[arL];rw[h];simp only[Int.toNat_natCast,l'c hk];rw[if_neg (by omega)]
def arS (N:Net): Except Nat CkT:=
 match arL N.gates N.gates.length (nwS N) ⟨N.ins.length,[],[],0⟩ with
 | .error q=>.error q
 | .ok (P,T)=>.ok { T with las:=N.las.map λx=>(P.lit x.n.l,x.z),bad:=P.lit (D'T N) }
def fv (e p:Nat): Value:=.agg #[.int .i64 e,.int .i64 p]
structure Net.Lits (N:Net):Prop where
 g:∀g∈N.gates,(0<=g.a.l∧g.a.l<1000000)∧(0<=g.b.l∧g.b.l<1000000)
 n:∀x∈N.las,0<=x.n.l∧x.n.l<1000000
 p:0<=D'T N∧D'T N<1000000
structure ArI (O:HI H) (ro:Nat)(w0:Own)(h0:H) (n o p b:Nat)(N:Net)(v0 v1 v2 v3 v4 v5:Value)(w:Own)(h:H)(P:Ord)(T:CkT):Prop where
 nl:NL O ro w h n N v0 v1 v2 v3 v4 v5
 ob:OB O ro w h o P
 cb:CB O ro w h 4 p T
 lb:Bx O ro w h (101,0) b [.int .i64 0,.int .i64 0]
 ch:Ch O (Kc [3,4] 2) w0 h0 w h
 lo:ro<=O.next h
theorem S'B (C:LP' O ro c)(L:O.Law){w0:Own}{h0:H}{n o p b:Nat}{N:Net}{v0 v1 v2 v3 v4 v5:Value}(hl:N.gates.length<=10000)(hN:N.Lits)(w:Own)(h:H)(t:Env)(P:Ord)(T:CkT)(hP:P.Ok 20100)(hT:T.gts=[])
  (x : ArI O ro w0 h0 n o p b N v0 v1 v2 v3 v4 v5 w h P T)(t0 : t 0 = ptr n)(t3 : t 3 = ptr b)(t4 : t 4 = ptr o)(t5 : t 5 = ptr p)(t6 : t 6 = .int .i64 0):
  okE c (A'x 0 (A'Y (K'g O Tryz.prog ro))) (t,h) (λe t' h'=>∃w',(e = .ret∧∃q,arL N.gates N.gates.length P T = .error q∧t' 2 = .pointer none∧t' 3=ptr b∧cellsA O h' b 0 2=some [.int .i64 12,.int .i64 (q:Nat)]∧Ch O (Kc [3,4] 2) w0 h0 w' h'∧ro<=O.next h') ∨
   (e = .normal ∧ ∃ P' T', arL N.gates N.gates.length P T = .ok (P', T') ∧ P'.Ok 30200 ∧ T'.las = T.las ∧ t' 0 = ptr n ∧ t' 3 = ptr b ∧ t' 4 = ptr o ∧ t' 5 = ptr p ∧ ArI O ro w0 h0 n o p b N v0 v1 v2 v3 v4 v5 w' h' P' T')) := by
 refine okE.blk ?_;have hlen:=A'A GaL.cells 6 (λ_=>rfl) N.gates;refine okE.loop (λm t g=>∃j Q U w',ArI O ro w0 h0 n o p b N v0 v1 v2 v3 v4 v5 w' g Q U∧Q.Ok (20100+j)∧U.las=T.las∧U.gts.length=j∧t 0=ptr n∧t 3=ptr b∧t 4=ptr o∧t 5=ptr p∧t 6 = .int .i64 (j:Nat)∧j+m=N.gates.length+1∧0<m∧arL N.gates (m-1) Q U=arL N.gates N.gates.length P T) ?_ (N.gates.length+1) _ _ ⟨0,P,T,w,x,hP,rfl,by rw[hT];rfl,t0,t3,t4,t5,t6,by omega,by omega,rfl⟩;intro m t g hI;obtain⟨j,Q,U,w',x',hQ,hU,hUl,t0,t3,t4,t5,t6,hj,hm,hfin⟩:=hI;unfold ptr at t0 t3 t4 t5;have m5:=x'.nl.m.get 5 _ rfl;obtain⟨a,cp,hv5⟩:=x'.nl.s5.len (by omega) N.gates.length hlen;have fr:=V'4 C x'.ob x'.nl.s5 hl;have fu:=V'5 C x'.ob x'.nl.s5 hl;unfold ptr at fr fu
 by_cases hlt:j<N.gates.length
 ·obtain⟨m',rfl⟩:∃m',m=m'+2:=⟨m-2,by omega⟩;have hfin1:arL N.gates (m'+1) Q U=arL N.gates N.gates.length P T:=hfin;have hlt':(j:Int)<N.gates.length:=by omega
  by_cases hk:frL Q N.gates 0 = -1
  ·rw[P'v hk]at hfin1;obtain⟨h2,e2,z2,c2⟩:=Bx.puts L (K:=λu=>u=(101,0)) rfl [.int .i64 12,.int .i64 (fuL Q N.gates)] 0 g _ x'.lb (by simp);have hro:¬b<ro:=by have:=z2.lo;omega
   have hz:cellsA O h2 b 0 2=some [.int .i64 12,.int .i64 (fuL Q N.gates)]:=by simpa using z2.all
   have cc:=x'.ch.trans (Kc.one c2 (.inr (by simp)));have lo2:=l'G x'.lo c2.nx;rw[hk]at fr;rw[hv5]at m5 fr fu;refine f'f ?_;simp[K'g,ZbI,ZbJ,ZbK,ZbL,t0,t3,t4,t5,t6,m5,hlt,hlt',fr,fu,List.zipIdx,e2,hro];exact⟨w',fuL Q N.gates,hfin1.symm,hz,cc,lo2⟩
  ·rcases S'z Q N.gates 0 with hk'|⟨hk1,hk2⟩
   ·exact absurd hk' hk
   ·obtain⟨k,hkk⟩:∃k:Nat,frL Q N.gates 0=k:=⟨(frL Q N.gates 0).toNat,by omega⟩;have hkl:k<N.gates.length:=by omega
    rw[S'A k hkl hkk]at hfin1;rw[hkk]at fr;obtain⟨b5,cp5,hv5',y5⟩:=x'.nl.s5.blk (by omega) N.gates.length hlen (by omega);obtain⟨_,_,_,_,hcell⟩:=H'D y5 k hkl;obtain⟨w2,h2,hc2,x2,y2,c2,lo2⟩:=V'7 C L x'.ob x'.cb x'.lo (hQ.mono (by omega)) N.gates[k] (hN.g _ (List.getElem_mem hkl)) (by omega);unfold ptr at hc2;have nl2:=x'.nl.ch L c2 (by simp[Kc]);have lb2:=x'.lb.ch L c2 (by simp[Kc]);obtain⟨q,hq⟩:=e' (j+1);have hw:IntKind.i64.wrap ((j:Int)+1)=(q:Int):=w'i;have hkz:((k:Int) == -1)=false:=by simp
    have hkl':(k:Int)<N.gates.length:=by omega
    rw[hv5']at m5 fr;have xx:ArI O ro w0 h0 n o p b N v0 v1 v2 v3 v4 v5 w2 h2 (Q.lay N.gates[k].g.l) { U with gts:=U.gts++[H'E Q N.gates[k]] }:=⟨nl2,x2,y2,lb2,x'.ch.trans (Kc.mono c2 (by decide) (by omega)),lo2⟩;refine f'f ?_;simp[K'g,ZbI,ZbJ,ZbK,ZbM,ZbN,t0,t3,t4,t5,t6,m5,hlt,hlt',fr,hkz,hkl,hkl',hcell,hc2,hw];exact⟨m'+1,by omega,q,_,_,⟨w2,xx⟩,by rw[hq];exact hQ.lay _,hU,by simp;omega,rfl,by omega,by omega,hfin1⟩
 ·have hm1:m=1:=by omega
  subst hm1;have hfin1:Except.ok (Q,U)=arL N.gates N.gates.length P T:=hfin;have hlt':¬(j:Int)<N.gates.length:=by omega
  rw[hv5]at m5;refine f'f ?_;simp[K'g,ZbI,t0,t3,t4,t5,t6,m5,hlt,hlt'];exact⟨w',Q,U,hfin1.symm,hQ.mono (by omega),hU,x'⟩
theorem S'C (C:LP' O ro c)(L:O.Law){w0:Own}{h0:H}{n o p b:Nat}{N:Net}{v0 v1 v2 v3 v4 v5:Value}(hl:N.las.length<=10000)(hN:N.Lits)(w:Own)(h:H)(t:Env)(P:Ord)(T:CkT)(hP:P.Ok 30200)(hT:T.las=[])
  (x : ArI O ro w0 h0 n o p b N v0 v1 v2 v3 v4 v5 w h P T)(t0 : t 0 = ptr n)(t3 : t 3 = ptr b)(t4 : t 4 = ptr o)(t5 : t 5 = ptr p)(t8 : t 8 = .int .i64 0):
  okE c (A'x 2 (A'Y (M'y O Tryz.prog ro))) (t,h) (λe t' h'=>e = .normal∧t' 0=ptr n∧t' 3=ptr b∧t' 4=ptr o∧t' 5=ptr p∧∃w',ArI O ro w0 h0 n o p b N v0 v1 v2 v3 v4 v5 w' h' P { T with las:=N.las.map λx=>(P.lit x.n.l,x.z) }):=by
 refine okE.blk ?_;have hlen:=A'A LaL.cells 4 (λ_=>rfl) N.las;refine okE.loop (λm t g=>∃j w',ArI O ro w0 h0 n o p b N v0 v1 v2 v3 v4 v5 w' g P { T with las:=(N.las.map λx=>(P.lit x.n.l,x.z)).take j }∧t 0=ptr n∧t 3=ptr b∧t 4=ptr o∧t 5=ptr p∧t 8 = .int .i64 (j:Nat)∧j+m=N.las.length+1∧0<m) ?_ (N.las.length+1) _ _ ⟨0,w,by simpa [<-hT]using x,t0,t3,t4,t5,t8,by omega,by omega⟩;intro m t g hI;obtain⟨j,w',x',t0,t3,t4,t5,t8,hj,hm⟩:=hI;unfold ptr at t0 t3 t4 t5;have m2:=x'.nl.m.get 2 _ rfl
 by_cases hlt:j<N.las.length
 ·obtain⟨b2,cp2,hv2,y2⟩:=x'.nl.s2.blk (by omega) N.las.length hlen (by omega);have k1:O.cell g b2 (j*4+1)=some (.int .i64 N.las[j].n.l):=y2.get _ _ (B'X LaL.cells 4 (λ_=>rfl) N.las j hlt 1 (by omega));have k3:O.cell g b2 (j*4+3)=some (.int .i64 N.las[j].z):=y2.get _ _ (B'X LaL.cells 4 (λ_=>rfl) N.las j hlt 3 (by omega));have hlit:=hN.n _ (List.getElem_mem hlt);have q1:=M'S C x'.ob (hP.mono (by omega)) N.las[j].n.l hlit.1 hlit.2;obtain⟨v,v',h2,w2,e1,e2,⟨f1,f2,f3⟩,e3,hrop,y3,c3,lo3⟩:=x'.cb.appL L x'.lo (P.lit N.las[j].n.l,N.las[j].z) (by simp;omega);obtain⟨q,hq⟩:=e' (j+1);have hw:IntKind.i64.wrap ((j:Int)+1)=(q:Int):=w'i;have hlt':(j:Int)<N.las.length:=by omega
  rw[hv2]at m2;unfold ptr at q1;simp only[laC]at e2;have xx:ArI O ro w0 h0 n o p b N v0 v1 v2 v3 v4 v5 w2 (O.put h2 p 1 v') P { T with las:=(N.las.map λx=>(P.lit x.n.l,x.z)).take q }:=by
   refine⟨x'.nl.ch L c3 (by simp[Kc]),x'.ob.ch L c3 (by simp[Kc]),?_,x'.lb.ch L c3 (by simp[Kc]),x'.ch.trans (Kc.mono c3 (by decide) (by omega)),lo3⟩;rw[hq,l'C,List.getElem?_map,l'c hlt];exact y3
  refine f'f ?_;simp[M'y,ZbP,ZbQ,ZbR,ZbS,t0,t3,t4,t5,t8,m2,hlt,hlt',k1,k3,q1,List.zipIdx,l'B,e1,e2,f1,f2,f3,e3,hrop,A'8,hw];exact⟨m-1,by omega,q,⟨w2,xx⟩,rfl,by omega,by omega⟩
 ·obtain⟨a,cp,hv2⟩:=x'.nl.s2.len (by omega) N.las.length hlen;have hlt':¬(j:Int)<N.las.length:=by omega
  have xx:=x';rw[List.take_of_length_le (by simp;omega)]at xx;rw[hv2]at m2;refine f'f ?_;simp[M'y,ZbP,t0,t3,t4,t5,t8,m2,hlt,hlt'];exact⟨w',xx⟩
theorem V'8 (C:LP' O ro c)(L:O.Law){w:Own}{h:H}{n:Nat}{N:Net}{v0 v1 v2 v3 v4 v5:Value}(x:NL O ro w h n N v0 v1 v2 v3 v4 v5)(lo:ro<=O.next h)(hl:N.given.length<=10000∧N.ins.length<=10000∧N.las.length<=10000∧N.gates.length<=10000)(hN:N.Lits):
  ∃p v w' h',c 53 [ptr n] h=some (v,h')∧((∃q,arS N = .error q∧v = .tuple #[.pointer none,fv 12 q])∨(∃T,arS N = .ok T∧v = .tuple #[ptr p,fv 0 0]∧CB O ro w' h' 4 p T))∧Ch O (Kc [3,4] 2) w h w' h'∧ro<=O.next h':=by
 obtain⟨b,hb⟩:=e' (O.next h);obtain⟨h1,hh1⟩:=e' (O.new h [.int .i64 0,.int .i64 0]);obtain⟨w1,hw1⟩:=e' (w.set b (101,0));have c1:∀K,Ch O K w h w1 h1:=λK=>by rw[hh1,hw1,hb];exact Ch.new L _ _ _ _ _
 have z1:Bx O ro w1 h1 (101,0) b [.int .i64 0,.int .i64 0]:=by rw[hh1,hw1,hb];exact Bx.new L _ _ lo _ _
 have x1:=x.ch L (c1 λ_=>False) (by simp);have lo1:ro<=O.next h1:=l'G lo (c1 λ_=>True).nx
 obtain⟨o,w2,h2,hc2,x2,y2,k2,c2,lo2⟩:=V'6 C L x1 lo1 ⟨hl.1,hl.2.1,hl.2.2.1⟩;have z2:=z1.ch L c2 (by simp[Kc]);obtain⟨p,hp⟩:=e' (O.next h2);obtain⟨h3,hh3⟩:=e' (O.new h2 [.int .i64 N.ins.length,.slice none 0 0,.slice none 0 0,.int .i64 0]);obtain⟨w3,hw3⟩:=e' (w2.set p (4,1000));have c3:∀K,Ch O K w2 h2 w3 h3:=λK=>by rw[hh3,hw3,hp];exact Ch.new L _ _ _ _ _
 have u3:Bx O ro w3 h3 (4,1000) p [.int .i64 N.ins.length,.slice none 0 0,.slice none 0 0,.int .i64 0]:=by rw[hh3,hw3,hp];exact Bx.new L _ _ lo2 _ _
 have x3:=x2.ch L (c3 λ_=>False) (by simp);have y3:=y2.ch L (c3 λ_=>False) (by simp);have z3:=z2.ch L (c3 λ_=>False) (by simp);have lo3:ro<=O.next h3:=l'G lo2 (c3 λ_=>True).nx
 have A3:ArI O ro w h n o p b N v0 v1 v2 v3 v4 v5 w3 h3 (nwS N) ⟨N.ins.length,[],[],0⟩:=⟨x3,y3,⟨_,_,u3,Sl.nil _ _ _ _,Sl.nil _ _ _ _⟩,z3,((c1 _).trans (Kc.mono c2 (by decide) (by omega))).trans (c3 _),lo3⟩;have m1:=x2.m.get 1 _ rfl;obtain⟨a,cp,hv1⟩:=x2.s1.len (by omega) N.ins.length (by simp);have key:∃v h',c 53 [ptr n] h=some (v,h')∧∃w',((∃q,arS N = .error q∧v = .tuple #[.pointer none,fv 12 q])∨(∃T,arS N = .ok T∧v = .tuple #[ptr p,fv 0 0]∧CB O ro w' h' 4 p T))∧Ch O (Kc [3,4] 2) w h w' h'∧ro<=O.next h':=by
  refine C.fn (R'4 O ro) rfl rfl ?_;unfold F53;refine s'f ?_;simp[ZbE,<-hb,<-hh1,A'c,-A'1,-A'i,-rvE];unfold ptr at hc2;refine s'f ?_;simp[ZbF,hc2,A'c,-A'1,-A'i,-rvE];refine s'f ?_;rw[hv1]at m1;simp[ZbG,m1,List.zipIdx,<-hp,<-hh3,A'c,-A'1,-A'i,-rvE];refine okE.seq (s'f ?_);simp[ZbH,A'c,-A'1,-A'i,-rvE];refine okE.mono (S'B C L hl.2.2.2 hN w3 h3 _ (nwS N) ⟨N.ins.length,[],[],0⟩ k2 rfl A3 (by simp) (by simp) (by simp) (by simp) (by simp)) ?_;rintro e t g ⟨w4,⟨rfl,q,eq,t2,t3,hz,cc,lo4⟩|⟨rfl,P,T,eq,hP,hT,t0,t3,t4,t5,A4⟩⟩
  ·simp only[A'c];have:arS N = .error q:=by unfold arS;rw[eq]
   unfold ptr at t3;simp[t2,t3,E'Z,hz];exact⟨⟨q,this,rfl⟩,⟨w4,cc⟩,lo4⟩
  ·simp only[A'c];refine okE.seq (s'f ?_);simp[ZbO,A'c,-A'1,-A'i,-rvE];refine okE.mono (S'C C L hl.2.2.1 hN w4 g _ P T hP hT A4 (by simp[t0]) (by simp[t3]) (by simp[t4]) (by simp[t5]) (by simp)) ?_;rintro e t g ⟨rfl,t0,t3,t4,t5,w5,A5⟩;simp only[A'c];have hpr:=S'w C A5.nl;have hol:=M'S C A5.ob (hP.mono (by omega)) (D'T N) hN.p.1 hN.p.2;obtain⟨u1,u2,um,us1,us2⟩:=A5.cb.ex;have um2:=um.put L 3 (by simp) (.int .i64 (P.lit (D'T N)));have c6:=Ch.put L (K:=λu=>u=(4,1000)) um 3 (by simp) (.int .i64 (P.lit (D'T N))) rfl;have um3:=um.get 3 _ rfl;have hrop:¬p<ro:=by have:=um.lo;omega
   have lb6:=A5.lb.ch L c6;obtain⟨h7,e7,z7,c7⟩:=Bx.puts L (K:=λu=>u=(101,0)) rfl [.int .i64 0,.int .i64 0] 0 _ _ lb6 (by simp);have hz7:cellsA O h7 b 0 2=some [.int .i64 0,.int .i64 0]:=by simpa using z7.all
   have hrob:¬b<ro:=by have:=z7.lo;omega
   have cb7:CB O ro w5 h7 4 p { T with las:=N.las.map λx=>(P.lit x.n.l,x.z),bad:=P.lit (D'T N) }:=
    ⟨u1,u2,um2.ch L c7,(us1.ch L c6).ch L c7,(us2.ch L c6).ch L c7⟩
   have cc7:=(A5.ch.trans (Kc.one c6 (.inl (by simp)))).trans (Kc.one c7 (.inr (by simp)));have lo7:ro<=O.next h7:=l'G (l'G A5.lo c6.nx) c7.nx
   have:arS N = .ok { T with las:=N.las.map λx=>(P.lit x.n.l,x.z),bad:=P.lit (D'T N) }:=by unfold arS;rw[eq]
   unfold ptr at t0 t3 t4 t5 hpr hol;refine f'f ?_;have hpu:A'8 O g p 3 [.int .i64 (P.lit (D'T N))]=some (O.put g p 3 (.int .i64 (P.lit (D'T N)))):=by simp[A'8,um3]
   simp[ZbT,ZbU,ZbV,t0,t3,t4,t5,hpr,hol,hrop,hpu,List.zipIdx,hrob,e7,E'Z,hz7];exact⟨w5,⟨_,this,rfl,cb7⟩,cc7,lo7⟩
 obtain⟨v,h',e1,w',e2⟩:=key;exact⟨p,v,w',h',e1,e2⟩
end
end Go.Proofs.YtimdkminagnhgaaGreatDoor
