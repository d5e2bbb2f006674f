import Derived.Test.YtimdkminagnhgaaGreatDoorQ12
set_option linter.all false
namespace Go.Proofs.YtimdkminagnhgaaGreatDoor
open Go.Vm Go.Proofs
set_option maxHeartbeats 4000000
attribute [local simp] cSeq cReg reg to too onlyIf onlyIfo aMove mv' nl' fl' ld' ln' mk' ia' ik' ix' aNil aFld aLd aInt aPick aLenStr aIdxStr aConv aUn unA ev upd_get isB envOf iA_add iA_sub iA_mul iA_eql iA_neq iA_lss iA_leq iA_gtr iA_geq cIf cRet cSkip okc_some resE resLE rvE aSt vc_int vc_bool vc_agg vc_str vc_ptr vc_sl ft_int ft_bool ft_str ft_ptr ft_sl tp_int tp_bool tp_agg tp_str tp_ptr tp_sl aBuild Instr.fill aCall cExit cBlk outOf ptr undef aNew aBox aIdxArr aLdN aShift shiftA aLenSl aIdx aMkSl aApp rangeA
section
variable {H:Type}{O:HI H}{ro:Nat}{c:CallT H}
theorem Sl.of_nil {w:Own}{h:H}{t:Tag}{sz:Nat}{v:Value}(x:Sl O ro w h t sz v []): v = .slice none 0 0:=by
 rcases x with ⟨e,_⟩|⟨_,_,_,_,_,_,e,_⟩
 ·exact e
 ·exact absurd rfl e
theorem ST.chP (L:O.Law){o:Nat}{w w':Own}{h h':H}{r:Nat}{s:ByteArray}{R:RS}{n:Nat}{N:Net}(x:ST O ro w h r s R n N)(a:Ch O (λu=>u=(2,o)) w h w' h')(ho:(o=3∧N.outs=[])∨(o=4∧N.bads=[])): ST O ro w' h' r s R n N:=by
 obtain⟨rb,⟨v0,v1,v2,v3,v4,v5,⟨m,s0,s1,s2,s3,s4,s5⟩⟩,lo⟩:=x;rcases ho with ⟨rfl,ho⟩|⟨rfl,ho⟩
 ·have e3:v3 = .slice none 0 0:=by rw[ho]at s3;exact s3.of_nil
  refine⟨rb.ch L a,⟨v0,v1,v2,v3,v4,v5,⟨m.ch L a,s0.ch L a,s1.ch L a,s2.ch L a,?_,s4.ch L a,s5.ch L a⟩⟩,l'G lo a.nx⟩;rw[ho,e3];exact Sl.nil _ _ _ _
 ·have e3:v4 = .slice none 0 0:=by rw[ho]at s4;exact s4.of_nil
  refine⟨rb.ch L a,⟨v0,v1,v2,v3,v4,v5,⟨m.ch L a,s0.ch L a,s1.ch L a,s2.ch L a,s3.ch L a,?_,s5.ch L a⟩⟩,l'G lo a.nx⟩;rw[ho,e3];exact Sl.nil _ _ _ _
def prL: Nat->Net->ByteArray->RS->List Us->List Us×RS
 | 0,_,_,R,l=>(l,R)
 | k+1,N,s,R,l=>prL k N s (exS s (litS N s R).2 10) (l++[(litS N s R).1])
theorem prL_pos {N:Net}{s:ByteArray}: ∀(k:Nat)(R:RS)(l:List Us),R.pos<=s.size->(prL k N s R l).2.pos<=s.size:=by
 intro k
 induction k with
 | zero=>intro R l h;exact h
 | succ k ih=>intro R l h;exact ih _ _ (exS_pos _ (litS_pos h))
theorem prL_len {N:Net}{s:ByteArray}: ∀(k:Nat)(R:RS)(l:List Us),(prL k N s R l).1.length=l.length+k:=by
 intro k
 induction k with
 | zero=>intro R l;rfl
 | succ k ih=>intro R l;simp only[prL];rw[ih];simp;omega
theorem pr_w (C:LP' O ro c)(L:O.Law){w:Own}{h:H}{r n:Nat}{s:ByteArray}{R:RS}{N:Net}(x:ST O ro w h r s R n N)(hs:s.size<=1000)(hp:R.pos<=s.size)(k:Nat)(hk:k<=10000)(o:Nat)(ho:(o=3∧N.outs=[])∨(o=4∧N.bads=[])):
  ∃v w' h',c 91 [ptr n,ptr r,.int .i64 k] h=some (v,h')∧Sl O ro w' h' (2,o) 2 v ((prL k N s R []).1.flatMap Us.cells)∧ST O ro w' h' r s (prL k N s R []).2 n N∧Ch O (KN 2) w h w' h':=by
 have key:∃v h',c 91 [ptr n,ptr r,.int .i64 k] h=some (v,h')∧(∃w',Sl O ro w' h' (2,o) 2 v ((prL k N s R []).1.flatMap Us.cells)∧ST O ro w' h' r s (prL k N s R []).2 n N∧Ch O (KN 2) w h w' h'):=by
  refine C.fn (F91_fn O ro) rfl rfl ?_;unfold F91;refine s'f ?_;simp[ZcP,thenE,-resE,-resLE,-rvE];refine s'f ?_;simp[ZcQ,thenE,-resE,-resLE,-rvE];refine okE.seq (s'f ?_);simp[ZcR,thenE,-resE,-resLE,-rvE];refine okE.blk ?_;refine okE.loop (λm t g=>∃j R' l v w',ST O ro w' g r s R' n N∧Sl O ro w' g (2,o) 2 v (l.flatMap Us.cells)∧Ch O (KN 2) w h w' g∧t 0=ptr n∧t 1=ptr r∧t 2 = .int .i64 k∧t 7=v∧t 8 = .int .i64 (j:Nat)∧R'.pos<=s.size∧j+m=k+1∧0<m∧l.length=j∧prL (m-1) N s R' l=prL k N s R []) ?_ (k+1) _ _ ⟨0,R,[],.slice none 0 0,w,x,Sl.nil _ _ _ _,Ch.refl _ _ _,by simp,by simp,by simp,by simp,by simp,hp,by omega,by omega,rfl,rfl⟩;intro m t g hI;obtain⟨j,R',l,v,w',x',sl',c',t0,t1,t2,t7,t8,hp',hj,hm,hl,hfin⟩:=hI;unfold ptr at t0 t1
  by_cases hlt:j<k
  ·obtain⟨m',rfl⟩:∃m',m=m'+2:=⟨m-2,by omega⟩;have hfin2:prL m' N s (exS s (litS N s R').2 10) (l++[(litS N s R').1])=prL k N s R []:=hfin;obtain⟨w2,h2,hc2,x2,c2⟩:=lit_w C L x' hs hp';have p2:=litS_pos (N:=N) (s:=s) (R:=R') hp';have sl2:=sl'.ch L c2 (by simp[Kc]);obtain⟨h3,e3,z3,c3,lo3⟩:=local2 L w2 h2 x2.lo (.int .i64 0) (.int .i64 0) (.int .i64 (litS N s R').1.l) (.int .i64 (litS N s R').1.p) (101,0);obtain⟨b3,hb3⟩:=e' (O.next h2);obtain⟨w3,hw3⟩:=e' (w2.set b3 (101,0));rw[<-hb3,<-hw3]at z3;rw[<-hb3]at e3;have c3':∀K,Ch O K w2 h2 w3 h3:=λK=>by rw[hw3,hb3];exact c3 K
   have x3:=x2.ch L (c3' λ_=>False) (by simp) (by simp);have sl3:=sl2.ch L (c3' λ_=>False) (by simp);have hro3:¬b3<ro:=by have:=z3.lo;omega
   obtain⟨h4,hc4,rb4,c4⟩:=expect_w C L x3.rb hs 10;have x4:=x3.rd L rb4 c4;have z4:=z3.ch L c4;have sl4:=sl3.ch L c4;have hl4:cellsA O h4 b3 0 2=some [.int .i64 (litS N s R').1.l,.int .i64 (litS N s R').1.p]:=by simpa using z4.all
   have hfl:=flat_len Us.cells 2 (λ_=>rfl) l;obtain⟨v',h5,w5,e5,sl5,c5,lo5⟩:=appI_one L (bytes:=16) x4.lo sl4 (new:=(litS N s R').1.cells) (by omega) rfl (by omega) (by omega);have x5:=x4.chP L c5 ho;have cc:Ch O (KN 2) w h w5 h5:=((((c'.trans (Kc.mono c2 (by decide) (by omega))).trans (c3' _)).trans (chR c4 _)).trans (chN c5 _));obtain⟨q,hq⟩:=e' (j+1);have hw:IntKind.i64.wrap ((j:Int)+1)=(q:Int):=w'i;have hlt':(j:Int)<k:=by omega
   unfold ptr at hc2 hc4;have hc4':c 84 [Value.pointer (some ⟨r,0,none⟩),.int .i64 10] h3=some (.tuple #[],h4):=hc4;simp only[Us.val]at hc2;simp only[Us.cells]at e5;refine f'f ?_;simp[W91_0,ZcS,ZcT,ZcU,ZcV,ZcW,t0,t1,t2,t7,t8,hlt,hlt',hc2,<-hb3,e3,hro3,hc4',hl4,List.zipIdx,l'B,e5,hw];exact⟨m'+1,by omega,q,exS s (litS N s R').2 10,l++[(litS N s R').1],v',w5,x5,by simpa using sl5,cc,rfl,rfl,exS_pos _ p2,by omega,by omega,by simp;omega,hfin2⟩
  ·have hm1:m=1:=by omega
   subst hm1;have hfin2:(l,R')=prL k N s R []:=hfin;rw[<-hfin2];have hlt':¬(j:Int)<k:=by omega
   refine f'f ?_;simp[W91_0,ZcS,t0,t1,t2,t7,t8,hlt,hlt',thenE];refine f'f ?_;have ft:=sl'.flat.2.2;simp[ZcX,t7,ft];exact⟨w',sl',x',c'⟩
 obtain⟨v,h',e1,w',e2⟩:=key;exact⟨v,w',h',e1,e2⟩
def pgS (N:Net)(s:ByteArray)(R:RS): Net×RS:=
 let d:=defS N s R
 let a:=litS d.2.1 s (exS s d.2.2 32)
 let b:=litS d.2.1 s (exS s a.2 32)
 ({ d.2.1 with gates:=d.2.1.gates++[⟨d.1,a.1,b.1⟩] },exS s b.2 10)
theorem pgS_pos {N:Net}{s:ByteArray}{R:RS}(hp:R.pos<=s.size): (pgS N s R).2.pos<=s.size:=exS_pos _ (litS_pos (exS_pos _ (litS_pos (exS_pos _ (defS_pos hp)))))
theorem give_gates (N:Net)(l:Int): (N.give l).gates=N.gates:=by unfold Net.give;split <;> rfl
theorem give_las (N:Net)(l:Int): (N.give l).las=N.las:=by unfold Net.give;split <;> rfl
theorem give_ins (N:Net)(l:Int): (N.give l).ins=N.ins:=by unfold Net.give;split <;> rfl
theorem give_outs (N:Net)(l:Int): (N.give l).outs=N.outs:=by unfold Net.give;split <;> rfl
theorem give_bads (N:Net)(l:Int): (N.give l).bads=N.bads:=by unfold Net.give;split <;> rfl
theorem pg_w (C:LP' O ro c)(L:O.Law){w:Own}{h:H}{r n:Nat}{s:ByteArray}{R:RS}{N:Net}(x:ST O ro w h r s R n N)(hs:s.size<=1000)(hp:R.pos<=s.size)(hl:N.gates.length<=10000):
  ∃w' h',c 94 [ptr n,ptr r] h=some (.tuple #[],h')∧ST O ro w' h' r s (pgS N s R).2 n (pgS N s R).1∧Ch O (KN 3) w h w' h':=by
 obtain⟨w2,h2,hc2,x2,c2⟩:=def_w C L x hs hp;have hg:(defS N s R).2.1.gates.length<=10000:=by have:=give_gates N (litS N s R).1.l;unfold defS;simp only;rw[this];exact hl
 have p2:=defS_pos (N:=N) (s:=s) (R:=R) hp;obtain⟨d,hd⟩:=e' (defS N s R);have hfin:pgS N s R=({ d.2.1 with gates:=d.2.1.gates++[⟨d.1,(litS d.2.1 s (exS s d.2.2 32)).1,(litS d.2.1 s (exS s (litS d.2.1 s (exS s d.2.2 32)).2 32)).1⟩] },exS s (litS d.2.1 s (exS s (litS d.2.1 s (exS s d.2.2 32)).2 32)).2 10):=by rw[hd];rfl
 rw[hfin];rw[<-hd]at hc2 x2 p2 hg;clear hfin hd;obtain⟨h3,e3,z3,c3,lo3⟩:=local2 L w2 h2 x2.lo (.int .i64 0) (.int .i64 0) (.int .i64 d.1.l) (.int .i64 d.1.p) (102,0);obtain⟨b3,hb3⟩:=e' (O.next h2);obtain⟨w3,hw3⟩:=e' (w2.set b3 (102,0));rw[<-hb3,<-hw3]at z3;rw[<-hb3]at e3;have c3':∀K,Ch O K w2 h2 w3 h3:=λK=>by rw[hw3,hb3];exact c3 K
 have x3:=x2.ch L (c3' λ_=>False) (by simp) (by simp);have hro3:¬b3<ro:=by have:=z3.lo;omega
 obtain⟨h4,hc4,rb4,c4⟩:=expect_w C L x3.rb hs 32;have x4:=x3.rd L rb4 c4;have z4:=z3.ch L c4;have p4:=exS_pos (s:=s) (R:=d.2.2) 32 p2;obtain⟨w5,h5,hc5,x5,c5⟩:=lit_w C L x4 hs p4;have z5:=z4.ch L c5 (by simp[Kc]);have p5:=litS_pos (N:=d.2.1) (s:=s) p4;obtain⟨a,ha⟩:=e' (litS d.2.1 s (exS s d.2.2 32));rw[<-ha]at hc5 x5 p5 ⊢;clear ha;obtain⟨h6,e6,y6,c6,lo6⟩:=local2 L w5 h5 x5.lo (.int .i64 0) (.int .i64 0) (.int .i64 a.1.l) (.int .i64 a.1.p) (102,1);obtain⟨b6,hb6⟩:=e' (O.next h5);obtain⟨w6,hw6⟩:=e' (w5.set b6 (102,1));rw[<-hb6,<-hw6]at y6;rw[<-hb6]at e6;have c6':∀K,Ch O K w5 h5 w6 h6:=λK=>by rw[hw6,hb6];exact c6 K
 have x6:=x5.ch L (c6' λ_=>False) (by simp) (by simp);have z6:=z5.ch L (c6' λ_=>False) (by simp);have hro6:¬b6<ro:=by have:=y6.lo;omega
 obtain⟨h7,hc7,rb7,c7⟩:=expect_w C L x6.rb hs 32;have x7:=x6.rd L rb7 c7;have z7:=z6.ch L c7;have y7:=y6.ch L c7;have p7:=exS_pos (s:=s) (R:=a.2) 32 p5;obtain⟨w8,h8,hc8,x8,c8⟩:=lit_w C L x7 hs p7;have z8:=z7.ch L c8 (by simp[Kc]);have y8:=y7.ch L c8 (by simp[Kc]);obtain⟨b,hb⟩:=e' (litS d.2.1 s (exS s a.2 32));rw[<-hb]at hc8 x8 ⊢;clear hb;obtain⟨h9,e9,u9,c9,lo9⟩:=local2 L w8 h8 x8.lo (.int .i64 0) (.int .i64 0) (.int .i64 b.1.l) (.int .i64 b.1.p) (102,2);obtain⟨b9,hb9⟩:=e' (O.next h8);obtain⟨w9,hw9⟩:=e' (w8.set b9 (102,2));rw[<-hb9,<-hw9]at u9;rw[<-hb9]at e9;have c9':∀K,Ch O K w8 h8 w9 h9:=λK=>by rw[hw9,hb9];exact c9 K
 have x9:=x8.ch L (c9' λ_=>False) (by simp) (by simp);have z9:=z8.ch L (c9' λ_=>False) (by simp);have y9:=y8.ch L (c9' λ_=>False) (by simp);have hro9:¬b9<ro:=by have:=u9.lo;omega
 obtain⟨hA,hcA,rbA,cA⟩:=expect_w C L x9.rb hs 10;have xA:=x9.rd L rbA cA;have zA:=(z9.ch L cA).all;have yA:=(y9.ch L cA).all;have uA:=(u9.ch L cA).all;simp only[l'n,l'o,l'F,Nat.reduceAdd]at zA yA uA;obtain⟨v,v',hB,wB,eB,eC,⟨f1,f2,f3⟩,eD,hron,xB,cB⟩:=ST.app5 L xA ⟨d.1,a.1,b.1⟩ hg;refine⟨wB,_,?_,xB,?_⟩
 ·refine C.eq (F94_fn O ro) rfl rfl (f'f ?_);unfold ptr at hc2 hc4 hc5 hc7 hc8 hcA;simp only[Us.val]at hc2 hc5 hc8;simp only[GaL.cells]at eC;have hc4':c 84 [Value.pointer (some ⟨r,0,none⟩),.int .i64 32] h3=some (.tuple #[],h4):=hc4;have hc7':c 84 [Value.pointer (some ⟨r,0,none⟩),.int .i64 32] h6=some (.tuple #[],h7):=hc7;have hcA':c 84 [Value.pointer (some ⟨r,0,none⟩),.int .i64 10] h9=some (.tuple #[],hA):=hcA;simp[F94,Zdf,Zdg,Zdh,Zdi,Zdj,Zdk,Zdl,hc2,<-hb3,e3,hro3,hc4',hc5,<-hb6,e6,hro6,hc7',hc8,<-hb9,e9,hro9,hcA',eB,zA,yA,uA,List.zipIdx,l'B,eC,f1,f2,f3,eD,hron,putsA]
 ·exact (((((((((Kc.mono c2 (by decide) (by omega)).trans (c3' _)).trans (chR c4 _)).trans (Kc.mono c5 (by decide) (by omega))).trans (c6' _)).trans (chR c7 _)).trans (Kc.mono c8 (by decide) (by omega))).trans (c9' _)).trans (chR cA _)).trans (Kc.mono cB (by decide) (by omega))
def bgA (s:ByteArray)(R:RS)(lit:Nat): Nat×RS:=
 let d:=diS s R
 (d.1,if d.1=0∨lit<d.1 then fl d.2 10 R.pos else d.2)
def bgB (s:ByteArray)(R:RS)(left:Int): Nat×RS:=
 let d:=diS s R
 (d.1,if left<(d.1:Int) then fl d.2 10 R.pos else d.2)
def bgS (N:Net)(s:ByteArray)(R:RS)(lit:Nat): Net×RS:=
 let d:=bgA s R lit
 let left:Int:=(lit:Int)-d.1
 let g:=bgB s d.2 left
 ({ N.give lit with gates:=(N.give lit).gates++[⟨⟨lit,R.pos⟩,⟨left,R.pos⟩,⟨left-g.1,d.2.pos⟩⟩] },g.2)
theorem bbS_pos {s:ByteArray}{R:RS}(b:Nat)(hp:R.pos<=s.size): (bbS s R b).2.pos<=s.size:=by
 unfold bbS;split
 ·simp only[fl_pos];exact hp
 ·rename_i hk
  have:=pk_le s R;have:=pk_lt (s:=s) (R:=R) (by omega);simp only;omega
theorem diS_pos {s:ByteArray}{R:RS}(hp:R.pos<=s.size): (diS s R).2.pos<=s.size:=by
 have h1:=bbS_pos (s:=s) (R:=R) 256 hp;unfold diS;simp only;split
 ·exact h1
 ·exact bbS_pos 128 h1
theorem diS_le (s:ByteArray)(R:RS): (diS s R).1<100000:=by
 have h1:=bbS_le s R 256;have h2:=bbS_le s (bbS s R 256).2 128;unfold diS;simp only;split
 ·omega
 ·omega
theorem bgA_pos {s:ByteArray}{R:RS}{l:Nat}(hp:R.pos<=s.size): (bgA s R l).2.pos<=s.size:=by
 have:=diS_pos (s:=s) (R:=R) hp;unfold bgA;simp only;split
 ·rw[fl_pos];exact this
 ·exact this
theorem bgB_pos {s:ByteArray}{R:RS}{l:Int}(hp:R.pos<=s.size): (bgB s R l).2.pos<=s.size:=by
 have:=diS_pos (s:=s) (R:=R) hp;unfold bgB;simp only;split
 ·rw[fl_pos];exact this
 ·exact this
theorem bgS_pos {N:Net}{s:ByteArray}{R:RS}{l:Nat}(hp:R.pos<=s.size): (bgS N s R l).2.pos<=s.size:=bgB_pos (bgA_pos hp)
theorem bg_w (C:LP' O ro c)(L:O.Law){w:Own}{h:H}{r n:Nat}{s:ByteArray}{R:RS}{N:Net}(x:ST O ro w h r s R n N)(hs:s.size<=1000)(lit:Nat)(hlit:lit<=100000)(hl:N.gates.length<=10000):
  ∃w' h',c 92 [ptr n,ptr r,.int .i64 lit] h=some (.tuple #[],h')∧ST O ro w' h' r s (bgS N s R lit).2 n (bgS N s R lit).1∧Ch O (KN 0) w h w' h':=by
 have d1:=x.rb.get 1 _ rfl;obtain⟨h2,hc2,rb2,c2⟩:=di_w C L x.rb hs;have hle:=diS_le s R;unfold ptr at hc2;have fa:∃h3,(if (diS s R).1=0∨lit<(diS s R).1 then c 88 [Value.pointer (some ⟨r,0,none⟩),.int .i64 10,.int .i64 R.pos] h2=some (.tuple #[],h3) else h3=h2)∧RB O ro w h3 r s (bgA s R lit).2∧Ch O (λu=>u=(1,1000)) w h2 w h3:=by
  by_cases hq:(diS s R).1=0∨lit<(diS s R).1
  ·obtain⟨h4,hc4,rb4,c4⟩:=fail_w C L rb2 10 R.pos;exact⟨h4,by rw[if_pos hq];exact hc4,by unfold bgA;simp only;rw[if_pos hq];exact rb4,c4⟩
  ·exact⟨h2,by rw[if_neg hq],by unfold bgA;simp only;rw[if_neg hq];exact rb2,Ch.refl _ _ _⟩
 obtain⟨h3,e3,rb3,c3⟩:=fa;have hA1:(bgA s R lit).1=(diS s R).1:=rfl;obtain⟨A,hA⟩:=e' (bgA s R lit);obtain⟨left,hleft⟩:∃left:Int,left=(lit:Int)-A.1:=⟨_,rfl⟩;have d3:=rb3.get 1 _ rfl;obtain⟨h4,hc4,rb4,c4⟩:=di_w C L rb3 hs;have hle4:=diS_le s (bgA s R lit).2;unfold ptr at hc4;rw[<-hA]at rb3 d3 hc4 rb4 hle4 hA1;have fb:∃h5,(if left<((diS s A.2).1:Int) then c 88 [Value.pointer (some ⟨r,0,none⟩),.int .i64 10,.int .i64 A.2.pos] h4=some (.tuple #[],h5) else h5=h4)∧RB O ro w h5 r s (bgB s A.2 left).2∧Ch O (λu=>u=(1,1000)) w h4 w h5:=by
  by_cases hq:left<((diS s A.2).1:Int)
  ·obtain⟨h5,hc5,rb5,c5⟩:=fail_w C L rb4 10 A.2.pos;exact⟨h5,by rw[if_pos hq];exact hc5,by unfold bgB;simp only;rw[if_pos hq];exact rb5,c5⟩
  ·exact⟨h4,by rw[if_neg hq],by unfold bgB;simp only;rw[if_neg hq];exact rb4,Ch.refl _ _ _⟩
 obtain⟨h5,e5,rb5,c5⟩:=fb;have hB1:(bgB s A.2 left).1=(diS s A.2).1:=rfl;have x5:=x.rd L rb5 (((c2.trans c3).trans c4).trans c5);obtain⟨h6,hc6,x6,c6⟩:=give_w C L x5 lit;unfold ptr at hc6;obtain⟨v,v',hB,wB,eB,eC,⟨f1,f2,f3⟩,eD,hron,xB,cB⟩:=ST.app5 L x6 ⟨⟨lit,R.pos⟩,⟨left,R.pos⟩,⟨left-(bgB s A.2 left).1,A.2.pos⟩⟩ (by rw[give_gates];exact hl);have hfin:bgS N s R lit=({ N.give lit with gates:=(N.give lit).gates++[⟨⟨lit,R.pos⟩,⟨left,R.pos⟩,⟨left-(bgB s A.2 left).1,A.2.pos⟩⟩] },(bgB s A.2 left).2):=by rw[hleft,hA];rfl
 refine⟨wB,_,?_,by rw[hfin];exact xB,((chR (((c2.trans c3).trans c4).trans c5) _).trans c6).trans cB⟩;refine C.eq (F92_fn O ro) rfl rfl (f'f ?_);simp only[GaL.cells,hB1]at eC;rw[hA1]at hleft;obtain⟨a,ha⟩:=e' ((diS s R).1);obtain⟨b,hb⟩:=e' ((diS s A.2).1);rw[<-ha]at hc2 hle e3 hleft;rw[<-hb]at hc4 hle4 e5 eC;have w1:IntKind.i64.wrap ((lit:Int)-(a:Int))=left:=w'i;have w2:IntKind.i64.wrap (left-(b:Int))=left-(b:Int):=w'j;have t1:((a:Int)==0)=decide (a=0):=by by_cases q:a=0 <;> simp[q]
 by_cases q1:a=0∨lit<a
 ·rw[if_pos q1]at e3
  by_cases q2:left<(b:Int)
  ·rw[if_pos q2]at e5
   by_cases q0:a=0
   ·have q0':((a:Int)==0)=true:=by simp;omega
    simp[F92,ZcY,ZcZ,Zc0,Zc1,Zc2,Zc3,Zc4,Zc5,Zc6,Zc7,Zc8,d1,hc2,q0',e3,w1,d3,hc4,q2,e5,hc6,eB,List.zipIdx,l'B,w2,eC,f1,f2,f3,eD,hron,putsA]
   ·have q0':((a:Int)==0)=false:=by simp;omega
    have q3:(lit:Int)<a:=by omega
    have q4:lit<a:=by omega
    simp[F92,ZcY,ZcZ,Zc0,Zc1,Zc2,Zc3,Zc4,Zc5,Zc6,Zc7,Zc8,d1,hc2,q0',q3,q4,e3,w1,d3,hc4,q2,e5,hc6,eB,List.zipIdx,l'B,w2,eC,f1,f2,f3,eD,hron,putsA]
  ·rw[if_neg q2]at e5;subst e5
   by_cases q0:a=0
   ·have q0':((a:Int)==0)=true:=by simp;omega
    simp[F92,ZcY,ZcZ,Zc0,Zc1,Zc2,Zc3,Zc4,Zc5,Zc6,Zc7,Zc8,d1,hc2,q0',e3,w1,d3,hc4,q2,hc6,eB,List.zipIdx,l'B,w2,eC,f1,f2,f3,eD,hron,putsA]
   ·have q0':((a:Int)==0)=false:=by simp;omega
    have q3:(lit:Int)<a:=by omega
    have q4:lit<a:=by omega
    simp[F92,ZcY,ZcZ,Zc0,Zc1,Zc2,Zc3,Zc4,Zc5,Zc6,Zc7,Zc8,d1,hc2,q0',q3,q4,e3,w1,d3,hc4,q2,hc6,eB,List.zipIdx,l'B,w2,eC,f1,f2,f3,eD,hron,putsA]
 ·rw[if_neg q1]at e3;subst e3;have q0':((a:Int)==0)=false:=by simp;omega
  have q3:¬(lit:Int)<a:=by omega
  have q4:¬lit<a:=by omega
  by_cases q2:left<(b:Int)
  ·rw[if_pos q2]at e5;simp[F92,ZcY,ZcZ,Zc0,Zc1,Zc2,Zc3,Zc4,Zc5,Zc6,Zc7,Zc8,d1,hc2,q0',q3,q4,w1,d3,hc4,q2,e5,hc6,eB,List.zipIdx,l'B,w2,eC,f1,f2,f3,eD,hron,putsA]
  ·rw[if_neg q2]at e5;subst e5;simp[F92,ZcY,ZcZ,Zc0,Zc1,Zc2,Zc3,Zc4,Zc5,Zc6,Zc7,Zc8,d1,hc2,q0',q3,q4,w1,d3,hc4,q2,hc6,eB,List.zipIdx,l'B,w2,eC,f1,f2,f3,eD,hron,putsA]
end
def itK {α:Type}(f:Nat->α->α): Nat->Nat->α->α
 | _,0,x=>x
 | j,m+1,x=>itK f (j+1) m (f j x)
section
variable {H:Type}{O:HI H}{ro:Nat}{c:CallT H}
def insF (s:ByteArray)(_:Nat)(x:Net×RS): Net×RS:=
 let d:=defS x.1 s x.2
 ({ d.2.1 with ins:=d.2.1.ins++[d.1.l] },exS s d.2.2 10)
def lasF (s:ByteArray)(_:Nat)(x:Net×RS): Net×RS:=
 let d:=defS x.1 s x.2
 laS d.2.1 s (exS s d.2.2 32) d.1.l
def gtsF (s:ByteArray)(_:Nat)(x:Net×RS): Net×RS:=pgS x.1 s x.2
def prF (s:ByteArray)(D:HD)(x:Net×RS): Net×RS:=
 let a:=prL D.nou x.1 s x.2 []
 let N:={ x.1 with outs:=a.1 }
 let b:=prL D.nbs N s a.2 []
 ({ N with bads:=b.1 },b.2)
def rpS (D:HD)(s:ByteArray)(x:Net×RS): Net×RS:=
 itK (gtsF s) 0 D.nan (prF s D (itK (lasF s) 0 D.nla (itK (insF s) 0 D.nin x)))
theorem give_len (N:Net)(l:Int): (N.give l).given.length=N.given.length:=by unfold Net.give;split <;> simp
theorem defS_ins (N:Net)(s:ByteArray)(R:RS): (defS N s R).2.1.ins=N.ins:=give_ins _ _
theorem defS_las (N:Net)(s:ByteArray)(R:RS): (defS N s R).2.1.las=N.las:=give_las _ _
theorem defS_gates (N:Net)(s:ByteArray)(R:RS): (defS N s R).2.1.gates=N.gates:=give_gates _ _
theorem defS_outs (N:Net)(s:ByteArray)(R:RS): (defS N s R).2.1.outs=N.outs:=give_outs _ _
theorem defS_bads (N:Net)(s:ByteArray)(R:RS): (defS N s R).2.1.bads=N.bads:=give_bads _ _
def hdc (D:HD): List Value:=D.val.cells.toList
theorem rp_ins (C:LP' O ro c)(L:O.Law){w0:Own}{h0:H}{r n b:Nat}{s:ByteArray}{D:HD}(hs:s.size<=1000)(hD:D.nin<=100)(x0:Net×RS)(w:Own)(h:H)(t:Env)
  (x:ST O ro w h r s x0.2 n x0.1)(y:Bx O ro w h (103,0) b (hdc D))(cc:Ch O (KN 4) w0 h0 w h)(hp:x0.2.pos<=s.size)(hl:x0.1.ins=[])(ho:x0.1.outs=[]∧x0.1.bads=[]∧x0.1.las=[]∧x0.1.gates=[])
  (t0 : t 0 = ptr n)(t1 : t 1 = ptr r)(t5 : t 5 = ptr b)(t6 : t 6 = .int .i64 0):
  okE c (cBlk 0 (cLoop (W50_0 O Tryz.prog ro))) (t,h) (λe t' h'=>e = .normal∧t' 0=ptr n∧t' 1=ptr r∧t' 5=ptr b∧∃w',ST O ro w' h' r s (itK (insF s) 0 D.nin x0).2 n (itK (insF s) 0 D.nin x0).1∧Bx O ro w' h' (103,0) b (hdc D)∧Ch O (KN 4) w0 h0 w' h'∧(itK (insF s) 0 D.nin x0).2.pos<=s.size∧(itK (insF s) 0 D.nin x0).1.outs=[]∧(itK (insF s) 0 D.nin x0).1.bads=[]∧(itK (insF s) 0 D.nin x0).1.las=[]∧(itK (insF s) 0 D.nin x0).1.gates=[]):=by
 refine okE.blk ?_;refine okE.loop (λm t g=>∃j z w',ST O ro w' g r s z.2 n z.1∧Bx O ro w' g (103,0) b (hdc D)∧Ch O (KN 4) w0 h0 w' g∧t 0=ptr n∧t 1=ptr r∧t 5=ptr b∧t 6 = .int .i64 (j:Nat)∧z.2.pos<=s.size∧j+m=D.nin+1∧0<m∧z.1.ins.length=j∧(z.1.outs=[]∧z.1.bads=[]∧z.1.las=[]∧z.1.gates=[])∧itK (insF s) j (m-1) z=itK (insF s) 0 D.nin x0) ?_ (D.nin+1) _ _ ⟨0,x0,w,x,y,cc,t0,t1,t5,t6,hp,by omega,by omega,by rw[hl];rfl,ho,rfl⟩;intro m t g hI;obtain⟨j,z,w',x',y',c',t0,t1,t5,t6,hp',hj,hm,hl',ho',hfin⟩:=hI;have y2:=y'.get 2 _ rfl;unfold ptr at t0 t1 t5
 by_cases hlt:j<D.nin
 ·obtain⟨m',rfl⟩:∃m',m=m'+2:=⟨m-2,by omega⟩;have hfin2:itK (insF s) (j+1) m' (insF s j z)=itK (insF s) 0 D.nin x0:=hfin;obtain⟨w2,h2,hc2,x2,c2⟩:=def_w C L x' hs hp';have p2:=defS_pos (N:=z.1) (s:=s) (R:=z.2) hp';have yy2:=y'.ch L c2 (by simp[Kc]);obtain⟨h3,e3,z3,c3,lo3⟩:=local2 L w2 h2 x2.lo (.int .i64 0) (.int .i64 0) (.int .i64 (defS z.1 s z.2).1.l) (.int .i64 (defS z.1 s z.2).1.p) (103,1);obtain⟨b3,hb3⟩:=e' (O.next h2);obtain⟨w3,hw3⟩:=e' (w2.set b3 (103,1));rw[<-hb3,<-hw3]at z3;rw[<-hb3]at e3;have c3':∀K,Ch O K w2 h2 w3 h3:=λK=>by rw[hw3,hb3];exact c3 K
  have x3:=x2.ch L (c3' λ_=>False) (by simp) (by simp);have y3:=yy2.ch L (c3' λ_=>False) (by simp);have hro3:¬b3<ro:=by have:=z3.lo;omega
  obtain⟨h4,hc4,rb4,c4⟩:=expect_w C L x3.rb hs 10;have x4:=x3.rd L rb4 c4;have z4:=(z3.ch L c4).get 0 _ rfl;have y4:=y3.ch L c4;obtain⟨v,v',hB,wB,eB,eC,⟨f1,f2,f3⟩,eD,hron,xB,cB⟩:=ST.app1 L x4 (defS z.1 s z.2).1.l (by rw[defS_ins];omega);have yB:=y4.ch L cB (by simp[Kc]);have ccB:=((((c'.trans (Kc.mono c2 (by decide) (by omega))).trans (c3' _)).trans (chR c4 _)).trans (Kc.mono cB (by decide) (by omega)));obtain⟨q,hq⟩:=e' (j+1);have hw:IntKind.i64.wrap ((j:Int)+1)=(q:Int):=w'i;have hlt':(j:Int)<D.nin:=by omega
  unfold ptr at hc2 hc4;have hc4':c 84 [Value.pointer (some ⟨r,0,none⟩),.int .i64 10] h3=some (.tuple #[],h4):=hc4;simp only[Us.val]at hc2;refine f'f ?_;simp[W50_0,Zbk,Zbl,Zbm,Zbn,Zbo,t0,t1,t5,t6,y2,hlt,hlt',hc2,<-hb3,e3,hro3,hc4',z4,List.zipIdx,l'B,eB,eC,f1,f2,f3,eD,hron,putsA,hw];refine⟨m'+1,by omega,q,(insF s j z).1,(insF s j z).2,wB,xB,yB,ccB,rfl,exS_pos _ p2,by omega,by omega,?_,?_,by rw[hq];exact hfin2⟩
  ·show (_++[_]).length=q;rw[l'p,defS_ins];simp;omega
  ·show (defS z.1 s z.2).2.1.outs=[]∧(defS z.1 s z.2).2.1.bads=[]∧(defS z.1 s z.2).2.1.las=[]∧(defS z.1 s z.2).2.1.gates=[];rw[defS_outs,defS_bads,defS_las,defS_gates];exact ho'
 ·have hm1:m=1:=by omega
  subst hm1;have hfin2:z=itK (insF s) 0 D.nin x0:=hfin;rw[<-hfin2];have hlt':¬(j:Int)<D.nin:=by omega
  refine f'f ?_;simp[W50_0,Zbk,t0,t1,t5,t6,y2,hlt,hlt'];exact⟨w',x',y',c',hp',ho'⟩
theorem rp_las (C:LP' O ro c)(L:O.Law){w0:Own}{h0:H}{r n b:Nat}{s:ByteArray}{D:HD}(hs:s.size<=1000)(hD:D.nla<=100)(x0:Net×RS)(w:Own)(h:H)(t:Env)
  (x:ST O ro w h r s x0.2 n x0.1)(y:Bx O ro w h (103,0) b (hdc D))(cc:Ch O (KN 4) w0 h0 w h)(hp:x0.2.pos<=s.size)(hl:x0.1.las=[])(ho:x0.1.outs=[]∧x0.1.bads=[]∧x0.1.gates=[])
  (t0 : t 0 = ptr n)(t1 : t 1 = ptr r)(t5 : t 5 = ptr b)(t8 : t 8 = .int .i64 0):
  okE c (cBlk 2 (cLoop (W50_1 O Tryz.prog ro))) (t,h) (λe t' h'=>e = .normal∧t' 0=ptr n∧t' 1=ptr r∧t' 5=ptr b∧∃w',ST O ro w' h' r s (itK (lasF s) 0 D.nla x0).2 n (itK (lasF s) 0 D.nla x0).1∧Bx O ro w' h' (103,0) b (hdc D)∧Ch O (KN 4) w0 h0 w' h'∧(itK (lasF s) 0 D.nla x0).2.pos<=s.size∧(itK (lasF s) 0 D.nla x0).1.outs=[]∧(itK (lasF s) 0 D.nla x0).1.bads=[]∧(itK (lasF s) 0 D.nla x0).1.gates=[]):=by
 refine okE.blk ?_;refine okE.loop (λm t g=>∃j z w',ST O ro w' g r s z.2 n z.1∧Bx O ro w' g (103,0) b (hdc D)∧Ch O (KN 4) w0 h0 w' g∧t 0=ptr n∧t 1=ptr r∧t 5=ptr b∧t 8 = .int .i64 (j:Nat)∧z.2.pos<=s.size∧j+m=D.nla+1∧0<m∧z.1.las.length=j∧(z.1.outs=[]∧z.1.bads=[]∧z.1.gates=[])∧itK (lasF s) j (m-1) z=itK (lasF s) 0 D.nla x0) ?_ (D.nla+1) _ _ ⟨0,x0,w,x,y,cc,t0,t1,t5,t8,hp,by omega,by omega,by rw[hl];rfl,ho,rfl⟩;intro m t g hI;obtain⟨j,z,w',x',y',c',t0,t1,t5,t8,hp',hj,hm,hl',ho',hfin⟩:=hI;have y2:=y'.get 3 _ rfl;unfold ptr at t0 t1 t5
 by_cases hlt:j<D.nla
 ·obtain⟨m',rfl⟩:∃m',m=m'+2:=⟨m-2,by omega⟩;have hfin2:itK (lasF s) (j+1) m' (lasF s j z)=itK (lasF s) 0 D.nla x0:=hfin;obtain⟨w2,h2,hc2,x2,c2⟩:=def_w C L x' hs hp';have p2:=defS_pos (N:=z.1) (s:=s) (R:=z.2) hp';have yy2:=y'.ch L c2 (by simp[Kc]);obtain⟨h3,e3,z3,c3,lo3⟩:=local2 L w2 h2 x2.lo (.int .i64 0) (.int .i64 0) (.int .i64 (defS z.1 s z.2).1.l) (.int .i64 (defS z.1 s z.2).1.p) (103,1);obtain⟨b3,hb3⟩:=e' (O.next h2);obtain⟨w3,hw3⟩:=e' (w2.set b3 (103,1));rw[<-hb3,<-hw3]at z3;rw[<-hb3]at e3;have c3':∀K,Ch O K w2 h2 w3 h3:=λK=>by rw[hw3,hb3];exact c3 K
  have x3:=x2.ch L (c3' λ_=>False) (by simp) (by simp);have y3:=yy2.ch L (c3' λ_=>False) (by simp);have hro3:¬b3<ro:=by have:=z3.lo;omega
  obtain⟨h4,hc4,rb4,c4⟩:=expect_w C L x3.rb hs 32;have x4:=x3.rd L rb4 c4;have z4:=(z3.ch L c4).get 0 _ rfl;have y4:=y3.ch L c4;have p4:=exS_pos (s:=s) (R:=(defS z.1 s z.2).2.2) 32 p2;obtain⟨wB,hB,hcB,xB,cB⟩:=la_w C L x4 hs p4 (defS z.1 s z.2).1.l (by rw[defS_las];omega);have yB:=y4.ch L cB (by simp[Kc]);have ccB:=((((c'.trans (Kc.mono c2 (by decide) (by omega))).trans (c3' _)).trans (chR c4 _)).trans (Kc.mono cB (by decide) (by omega)));obtain⟨q,hq⟩:=e' (j+1);have hw:IntKind.i64.wrap ((j:Int)+1)=(q:Int):=w'i;have hlt':(j:Int)<D.nla:=by omega
  unfold ptr at hc2 hc4 hcB;have hc4':c 84 [Value.pointer (some ⟨r,0,none⟩),.int .i64 32] h3=some (.tuple #[],h4):=hc4;simp only[Us.val]at hc2;refine f'f ?_;simp[W50_1,Zbq,Zbr,Zbs,Zbt,Zbu,t0,t1,t5,t8,y2,hlt,hlt',hc2,<-hb3,e3,hro3,hc4',z4,List.zipIdx,hcB,hw];refine⟨m'+1,by omega,q,(lasF s j z).1,(lasF s j z).2,wB,xB,yB,ccB,rfl,laS_pos p4,by omega,by omega,?_,?_,by rw[hq];exact hfin2⟩
  ·show (_++[_]).length=q;rw[l'p,defS_las];simp;omega
  ·show (defS z.1 s z.2).2.1.outs=[]∧(defS z.1 s z.2).2.1.bads=[]∧(defS z.1 s z.2).2.1.gates=[];rw[defS_outs,defS_bads,defS_gates];exact ho'
 ·have hm1:m=1:=by omega
  subst hm1;have hfin2:z=itK (lasF s) 0 D.nla x0:=hfin;rw[<-hfin2];have hlt':¬(j:Int)<D.nla:=by omega
  refine f'f ?_;simp[W50_1,Zbq,t0,t1,t5,t8,y2,hlt,hlt'];exact⟨w',x',y',c',hp',ho'⟩
theorem rp_gts (C:LP' O ro c)(L:O.Law){w0:Own}{h0:H}{r n b:Nat}{s:ByteArray}{D:HD}(hs:s.size<=1000)(hD:D.nan<=100)(x0:Net×RS)(w:Own)(h:H)(t:Env)
  (x:ST O ro w h r s x0.2 n x0.1)(y:Bx O ro w h (103,0) b (hdc D))(cc:Ch O (KN 4) w0 h0 w h)(hp:x0.2.pos<=s.size)(hl:x0.1.gates=[])
  (t0 : t 0 = ptr n)(t1 : t 1 = ptr r)(t5 : t 5 = ptr b)(t8 : t 10 = .int .i64 0):
  okE c (cBlk 4 (cLoop (W50_2 O Tryz.prog ro))) (t,h) (λe t' h'=>e = .normal∧∃w',ST O ro w' h' r s (itK (gtsF s) 0 D.nan x0).2 n (itK (gtsF s) 0 D.nan x0).1∧Ch O (KN 4) w0 h0 w' h'∧(itK (gtsF s) 0 D.nan x0).2.pos<=s.size):=by
 refine okE.blk ?_;refine okE.loop (λm t g=>∃j z w',ST O ro w' g r s z.2 n z.1∧Bx O ro w' g (103,0) b (hdc D)∧Ch O (KN 4) w0 h0 w' g∧t 0=ptr n∧t 1=ptr r∧t 5=ptr b∧t 10 = .int .i64 (j:Nat)∧z.2.pos<=s.size∧j+m=D.nan+1∧0<m∧z.1.gates.length=j∧itK (gtsF s) j (m-1) z=itK (gtsF s) 0 D.nan x0) ?_ (D.nan+1) _ _ ⟨0,x0,w,x,y,cc,t0,t1,t5,t8,hp,by omega,by omega,by rw[hl];rfl,rfl⟩;intro m t g hI;obtain⟨j,z,w',x',y',c',t0,t1,t5,t8,hp',hj,hm,hl',hfin⟩:=hI;have y2:=y'.get 5 _ rfl;unfold ptr at t0 t1 t5
 by_cases hlt:j<D.nan
 ·obtain⟨m',rfl⟩:∃m',m=m'+2:=⟨m-2,by omega⟩;have hfin2:itK (gtsF s) (j+1) m' (gtsF s j z)=itK (gtsF s) 0 D.nan x0:=hfin;obtain⟨wB,hB,hcB,xB,cB⟩:=pg_w C L x' hs hp' (by omega);have yB:=y'.ch L cB (by simp[Kc]);have ccB:=c'.trans (Kc.mono cB (by decide) (by omega));obtain⟨q,hq⟩:=e' (j+1);have hw:IntKind.i64.wrap ((j:Int)+1)=(q:Int):=w'i;have hlt':(j:Int)<D.nan:=by omega
  unfold ptr at hcB;refine f'f ?_;simp[W50_2,Zby,ZbA,Zbz,t0,t1,t5,t8,y2,hlt,hlt',hcB,hw];refine⟨m'+1,by omega,q,(gtsF s j z).1,(gtsF s j z).2,wB,xB,yB,ccB,rfl,pgS_pos hp',by omega,by omega,?_,by rw[hq];exact hfin2⟩;show (_++[_]).length=q;rw[l'p,defS_gates];simp;omega
 ·have hm1:m=1:=by omega
  subst hm1;have hfin2:z=itK (gtsF s) 0 D.nan x0:=hfin;rw[<-hfin2];have hlt':¬(j:Int)<D.nan:=by omega
  refine f'f ?_;simp[W50_2,Zby,t0,t1,t5,t8,y2,hlt,hlt'];exact⟨w',x',c',hp'⟩
theorem ST.set3 (L:O.Law){w:Own}{h:H}{r n:Nat}{s:ByteArray}{R:RS}{N:Net}(x:ST O ro w h r s R n N)(v:Value)(us:List Us)(hv:Sl O ro w h (2,3) 2 v (us.flatMap Us.cells)):
  (∃ v0, O.cell h n 3 = some v0) ∧ ¬ n < ro ∧ ST O ro w (O.put h n 3 v) r s R n { N with outs := us } ∧ Ch O (KN 0) w h w (O.put h n 3 v) := by
 obtain⟨rb,⟨v0,v1,v2,v3,v4,v5,⟨m,s0,s1,s2,s3,s4,s5⟩⟩,lo⟩:=x;have m2:=m.put L 3 (by simp) v;have c2:=Ch.put L (K:=λu=>u=(2,1000)) m 3 (by simp) v rfl;exact⟨⟨v3,m.get 3 _ rfl⟩,by have:=m.lo;omega,⟨rb.ch L c2,⟨v0,v1,v2,v,v4,v5,⟨by simpa using m2,s0.ch L c2,s1.ch L c2,s2.ch L c2,hv.ch L c2,s4.ch L c2,s5.ch L c2⟩⟩,by rw[L.next_put];exact lo⟩,chN c2 0⟩
theorem ST.set4 (L:O.Law){w:Own}{h:H}{r n:Nat}{s:ByteArray}{R:RS}{N:Net}(x:ST O ro w h r s R n N)(v:Value)(us:List Us)(hv:Sl O ro w h (2,4) 2 v (us.flatMap Us.cells)):
  (∃ v0, O.cell h n 4 = some v0) ∧ ¬ n < ro ∧ ST O ro w (O.put h n 4 v) r s R n { N with bads := us } ∧ Ch O (KN 0) w h w (O.put h n 4 v) := by
 obtain⟨rb,⟨v0,v1,v2,v3,v4,v5,⟨m,s0,s1,s2,s3,s4,s5⟩⟩,lo⟩:=x;have m2:=m.put L 4 (by simp) v;have c2:=Ch.put L (K:=λu=>u=(2,1000)) m 4 (by simp) v rfl;exact⟨⟨v4,m.get 4 _ rfl⟩,by have:=m.lo;omega,⟨rb.ch L c2,⟨v0,v1,v2,v3,v,v5,⟨by simpa using m2,s0.ch L c2,s1.ch L c2,s2.ch L c2,s3.ch L c2,hv.ch L c2,s5.ch L c2⟩⟩,by rw[L.next_put];exact lo⟩,chN c2 0⟩
theorem pr_both (C:LP' O ro c)(L:O.Law){r n:Nat}{s:ByteArray}{D:HD}(hs:s.size<=1000)(hD:D.nou<=100∧D.nbs<=100)(x0:Net×RS)(w:Own)(h:H)
  (x : ST O ro w h r s x0.2 n x0.1)(hp : x0.2.pos ≤ s.size)(ho : x0.1.outs = [] ∧ x0.1.bads = []):
  ∃v1 h1 h2 v2 h3 w3,c 91 [ptr n,ptr r,.int .i64 D.nou] h=some (v1,h1)∧(v1.cells = #[v1]∧isFlat v1=true∧isTup v1=false)∧(∃u,O.cell h1 n 3=some u)∧h2=O.put h1 n 3 v1 ∧
   c 91 [ptr n,ptr r,.int .i64 D.nbs] h2=some (v2,h3)∧(v2.cells = #[v2]∧isFlat v2=true∧isTup v2=false)∧(∃u,O.cell h3 n 4=some u)∧¬n<ro ∧
   ST O ro w3 (O.put h3 n 4 v2) r s (prF s D x0).2 n (prF s D x0).1∧Ch O (KN 2) w h w3 (O.put h3 n 4 v2)∧(prF s D x0).2.pos<=s.size∧(∃w2,Ch O (KN 2) w h w2 h2):=by
 obtain⟨v1,w1,h1,e1,sl1,x1,c1⟩:=pr_w C L x hs hp D.nou (by omega) 3 (.inl ⟨rfl,ho.1⟩);obtain⟨k1,hron,x2,c2⟩:=x1.set3 L v1 _ sl1;have p1:=prL_pos (N:=x0.1) (s:=s) D.nou x0.2 [] hp;obtain⟨v2,w3,h3,e3,sl3,x3,c3⟩:=pr_w C L x2 hs p1 D.nbs (by omega) 4 (.inr ⟨rfl,ho.2⟩);obtain⟨k3,_,x4,c4⟩:=x3.set4 L v2 _ sl3;have p3:=prL_pos (N:={ x0.1 with outs:=(prL D.nou x0.1 s x0.2 []).1 }) (s:=s) D.nbs (prL D.nou x0.1 s x0.2 []).2 [] p1;exact⟨v1,h1,_,v2,h3,w3,e1,sl1.flat,k1,rfl,e3,sl3.flat,k3,hron,x4,((c1.trans (Kc.mono c2 (by decide) (by omega))).trans c3).trans (Kc.mono c4 (by decide) (by omega)),p3,⟨w1,c1.trans (Kc.mono c2 (by decide) (by omega))⟩⟩
theorem rp_w (C:LP' O ro c)(L:O.Law){w:Own}{h:H}{r n:Nat}{s:ByteArray}{D:HD}(hs:s.size<=1000)(hD:D.nin<=100∧D.nla<=100∧D.nou<=100∧D.nbs<=100∧D.nan<=100)(x0:Net×RS)
  (x : ST O ro w h r s x0.2 n x0.1)(hp : x0.2.pos ≤ s.size)(ho : x0.1.ins = [] ∧ x0.1.outs = [] ∧ x0.1.bads = [] ∧ x0.1.las = [] ∧ x0.1.gates = []):
  ∃w' h',c 50 [ptr n,ptr r,D.val] h=some (.tuple #[],h')∧ST O ro w' h' r s (rpS D s x0).2 n (rpS D s x0).1∧Ch O (KN 4) w h w' h'∧(rpS D s x0).2.pos<=s.size:=by
 have htv:isTup D.val=false:=rfl;obtain⟨b,hb⟩:=e' (O.next h);obtain⟨h1,hh1⟩:=e' (O.new h D.val.cells.toList);obtain⟨w1,hw1⟩:=e' (w.set b (103,0));have c1:∀K,Ch O K w h w1 h1:=λK=>by rw[hh1,hw1,hb];exact Ch.new L _ _ _ _ _
 have y1:Bx O ro w1 h1 (103,0) b (hdc D):=by rw[hh1,hw1,hb];exact Bx.new L _ _ x.lo _ _
 have x1:=x.ch L (c1 λ_=>False) (by simp) (by simp);have key:∃v h',c 50 [ptr n,ptr r,D.val] h=some (v,h')∧(v = .tuple #[]∧∃w',ST O ro w' h' r s (rpS D s x0).2 n (rpS D s x0).1∧Ch O (KN 4) w h w' h'∧(rpS D s x0).2.pos<=s.size):=by
  refine C.fn (F50_fn O ro) rfl rfl ?_;obtain⟨e0,he0⟩:=e' (envOf [ptr n,ptr r,D.val]);have a0:e0 0=ptr n:=by subst he0;rfl
  have a1:e0 1=ptr r:=by subst he0;rfl
  have a2:e0 2=D.val:=by subst he0;rfl
  rw[<-he0];unfold F50;refine s'f ?_;simp[Zbi,a2,htv,<-hb,<-hh1,thenE,-resE,-resLE,-rvE];refine okE.seq (s'f ?_);simp[Zbj,thenE,-resE,-resLE,-rvE];refine okE.mono (rp_ins C L hs hD.1 x0 w1 h1 _ x1 y1 (c1 _) hp ho.1 ho.2 (by simp[a0]) (by simp[a1]) (by simp) (by simp)) ?_;rintro e t g ⟨rfl,t0,t1,t5,w2,x2,y2,cc2,p2,o1,o2,o3,o4⟩;simp only[thenE];refine okE.seq (s'f ?_);simp[Zbp,thenE,-resE,-resLE,-rvE];refine okE.mono (rp_las C L hs hD.2.1 _ w2 g _ x2 y2 cc2 p2 o3 ⟨o1,o2,o4⟩ (by simp[t0]) (by simp[t1]) (by simp[t5]) (by simp)) ?_;rintro e t' g' ⟨rfl,t0',t1',t5',w3,x3,y3,cc3,p3,q1,q2,q4⟩;simp only[thenE];have y34:=y3.get 4 _ rfl;obtain⟨v1,g1,g2,v2,g3,w4,k1,⟨f1,f2,f3⟩,⟨u1,k2⟩,k3,k4,⟨f4,f5,f6⟩,⟨u2,k5⟩,hron,x4,c4,p4,w5,c5⟩:=pr_both C L (D:=D) hs ⟨hD.2.2.1,hD.2.2.2.1⟩ _ w3 g' x3 p3 ⟨q1,q2⟩;have y5:=(y3.ch L c5 (by simp[Kc])).get 6 _ rfl;have y4:=y3.ch L c4 (by simp[Kc]);unfold ptr at t0' t1' t5' k1 k4;refine s'f ?_;simp[Zbv,t0',t1',t5',y34,k1,hron,f1,f2,k2,putsA,<-k3,thenE,-resE,-resLE,-rvE];refine s'f ?_;simp[Zbw,t0',t1',t5',y5,k4,hron,f4,f5,k5,putsA,thenE,-resE,-resLE,-rvE];refine s'f ?_;simp[Zbx,thenE,-resE,-resLE,-rvE];have hgt:(prF s D (itK (lasF s) 0 D.nla (itK (insF s) 0 D.nin x0))).1.gates=[]:=q4;refine okE.mono (rp_gts C L hs hD.2.2.2.2 _ w4 _ _ x4 y4 (cc3.trans (Kc.mono c4 (by decide) (by omega))) p4 hgt (by simp[t0']) (by simp[t1']) (by simp[t5']) (by simp)) ?_;rintro e t' g' ⟨rfl,w6,x6,cc6,p6⟩;simp;exact⟨w6,x6,cc6,p6⟩
 obtain⟨v,h',e1,rfl,w',e2⟩:=key;exact⟨w',h',e1,e2⟩
def insB (k:Nat)(x:Net×RS): Net×RS:=
 ({ x.1.give ((2*(1+k):Nat):Int) with ins:=(x.1.give ((2*(1+k):Nat):Int)).ins++[((2*(1+k):Nat):Int)] },x.2)
def lasB (D:HD)(s:ByteArray)(k:Nat)(x:Net×RS): Net×RS:=laS (x.1.give ((2*(1+D.nin+k):Nat):Int)) s x.2 ((2*(1+D.nin+k):Nat):Int)
def gtsB (D:HD)(s:ByteArray)(k:Nat)(x:Net×RS): Net×RS:=bgS x.1 s x.2 (2*(1+D.nin+D.nla+k))
def rbS (D:HD)(s:ByteArray)(x:Net×RS): Net×RS:=
 itK (gtsB D s) 0 D.nan (prF s D (itK (lasB D s) 0 D.nla (itK insB 0 D.nin x)))
theorem rb_ins (C:LP' O ro c)(L:O.Law){w0:Own}{h0:H}{r n b:Nat}{s:ByteArray}{D:HD}(hs:s.size<=1000)(hD:D.nin<=100)(x0:Net×RS)(w:Own)(h:H)(t:Env)
  (x:ST O ro w h r s x0.2 n x0.1)(y:Bx O ro w h (103,0) b (hdc D))(cc:Ch O (KN 4) w0 h0 w h)(hp:x0.2.pos<=s.size)(hl:x0.1.ins=[])(ho:x0.1.outs=[]∧x0.1.bads=[]∧x0.1.las=[]∧x0.1.gates=[])
  (t0 : t 0 = ptr n)(t1 : t 1 = ptr r)(t5 : t 5 = ptr b)(t6 : t 6 = .int .i64 0):
  okE c (cBlk 0 (cLoop (W49_0 O Tryz.prog ro))) (t,h) (λe t' h'=>e = .normal∧t' 0=ptr n∧t' 1=ptr r∧t' 5=ptr b∧∃w',ST O ro w' h' r s (itK insB 0 D.nin x0).2 n (itK insB 0 D.nin x0).1∧Bx O ro w' h' (103,0) b (hdc D)∧Ch O (KN 4) w0 h0 w' h'∧(itK insB 0 D.nin x0).2.pos<=s.size∧(itK insB 0 D.nin x0).1.outs=[]∧(itK insB 0 D.nin x0).1.bads=[]∧(itK insB 0 D.nin x0).1.las=[]∧(itK insB 0 D.nin x0).1.gates=[]):=by
 refine okE.blk ?_;refine okE.loop (λm t g=>∃j z w',ST O ro w' g r s z.2 n z.1∧Bx O ro w' g (103,0) b (hdc D)∧Ch O (KN 4) w0 h0 w' g∧t 0=ptr n∧t 1=ptr r∧t 5=ptr b∧t 6 = .int .i64 (j:Nat)∧z.2.pos<=s.size∧j+m=D.nin+1∧0<m∧z.1.ins.length=j∧(z.1.outs=[]∧z.1.bads=[]∧z.1.las=[]∧z.1.gates=[])∧itK insB j (m-1) z=itK insB 0 D.nin x0) ?_ (D.nin+1) _ _ ⟨0,x0,w,x,y,cc,t0,t1,t5,t6,hp,by omega,by omega,by rw[hl];rfl,ho,rfl⟩;intro m t g hI;obtain⟨j,z,w',x',y',c',t0,t1,t5,t6,hp',hj,hm,hl',ho',hfin⟩:=hI;have y2:=y'.get 2 _ rfl;unfold ptr at t0 t1 t5
 by_cases hlt:j<D.nin
 ·obtain⟨m',rfl⟩:∃m',m=m'+2:=⟨m-2,by omega⟩;have hfin2:itK insB (j+1) m' (insB j z)=itK insB 0 D.nin x0:=hfin;obtain⟨l,hl2⟩:∃l:Nat,l=2*(1+j):=⟨_,rfl⟩;obtain⟨h2,hc2,x2,c2⟩:=give_w C L x' l;have yy2:=y'.ch L c2 (by simp[Kc]);obtain⟨v,v',hB,wB,eB,eC,⟨f1,f2,f3⟩,eD,hron,xB,cB⟩:=ST.app1 L x2 l (by rw[give_ins];omega);have yB:=yy2.ch L cB (by simp[Kc]);have ccB:=(c'.trans (Kc.mono c2 (by decide) (by omega))).trans (Kc.mono cB (by decide) (by omega));obtain⟨q,hq⟩:=e' (j+1);have hw:IntKind.i64.wrap ((j:Int)+1)=(q:Int):=w'i;have hw1:IntKind.i64.wrap (1+(j:Int))=1+(j:Int):=w'j;have hw2:IntKind.i64.wrap (2*(1+(j:Int)))=(l:Int):=w'i;have hlt':(j:Int)<D.nin:=by omega
  unfold ptr at hc2;have hz:insB j z=({ z.1.give (l:Int) with ins:=(z.1.give (l:Int)).ins++[(l:Int)] },z.2):=by unfold insB;rw[<-hl2]
  refine f'f ?_;simp[W49_0,Za1,Za2,Za3,Za4,Za5,t0,t1,t5,t6,y2,hlt,hlt',hw1,hw2,hc2,List.zipIdx,l'B,eB,eC,f1,f2,f3,eD,hron,putsA,hw];refine⟨m'+1,by omega,q,(insB j z).1,(insB j z).2,wB,by rw[hz];exact xB,yB,ccB,rfl,hp',by omega,by omega,?_,?_,by rw[hq];exact hfin2⟩
  ·rw[hz];show (_++[_]).length=q;rw[l'p,give_ins];simp;omega
  ·rw[hz];show (z.1.give l).outs=[]∧(z.1.give l).bads=[]∧(z.1.give l).las=[]∧(z.1.give l).gates=[];rw[give_outs,give_bads,give_las,give_gates];exact ho'
 ·have hm1:m=1:=by omega
  subst hm1;have hfin2:z=itK insB 0 D.nin x0:=hfin;rw[<-hfin2];have hlt':¬(j:Int)<D.nin:=by omega
  refine f'f ?_;simp[W49_0,Za1,t0,t1,t5,t6,y2,hlt,hlt'];exact⟨w',x',y',c',hp',ho'⟩
theorem rb_las (C:LP' O ro c)(L:O.Law){w0:Own}{h0:H}{r n b:Nat}{s:ByteArray}{D:HD}(hs:s.size<=1000)(hD:D.nla<=100)(hD2:D.nin<=100)(x0:Net×RS)(w:Own)(h:H)(t:Env)
  (x:ST O ro w h r s x0.2 n x0.1)(y:Bx O ro w h (103,0) b (hdc D))(cc:Ch O (KN 4) w0 h0 w h)(hp:x0.2.pos<=s.size)(hl:x0.1.las=[])(ho:x0.1.outs=[]∧x0.1.bads=[]∧x0.1.gates=[])
  (t0 : t 0 = ptr n)(t1 : t 1 = ptr r)(t5 : t 5 = ptr b)(t8 : t 8 = .int .i64 0):
  okE c (cBlk 2 (cLoop (W49_1 O Tryz.prog ro))) (t,h) (λe t' h'=>e = .normal∧t' 0=ptr n∧t' 1=ptr r∧t' 5=ptr b∧∃w',ST O ro w' h' r s (itK (lasB D s) 0 D.nla x0).2 n (itK (lasB D s) 0 D.nla x0).1∧Bx O ro w' h' (103,0) b (hdc D)∧Ch O (KN 4) w0 h0 w' h'∧(itK (lasB D s) 0 D.nla x0).2.pos<=s.size∧(itK (lasB D s) 0 D.nla x0).1.outs=[]∧(itK (lasB D s) 0 D.nla x0).1.bads=[]∧(itK (lasB D s) 0 D.nla x0).1.gates=[]):=by
 refine okE.blk ?_;refine okE.loop (λm t g=>∃j z w',ST O ro w' g r s z.2 n z.1∧Bx O ro w' g (103,0) b (hdc D)∧Ch O (KN 4) w0 h0 w' g∧t 0=ptr n∧t 1=ptr r∧t 5=ptr b∧t 8 = .int .i64 (j:Nat)∧z.2.pos<=s.size∧j+m=D.nla+1∧0<m∧z.1.las.length=j∧(z.1.outs=[]∧z.1.bads=[]∧z.1.gates=[])∧itK (lasB D s) j (m-1) z=itK (lasB D s) 0 D.nla x0) ?_ (D.nla+1) _ _ ⟨0,x0,w,x,y,cc,t0,t1,t5,t8,hp,by omega,by omega,by rw[hl];rfl,ho,rfl⟩;intro m t g hI;obtain⟨j,z,w',x',y',c',t0,t1,t5,t8,hp',hj,hm,hl',ho',hfin⟩:=hI;have y2:=y'.get 3 _ rfl;have y1:=y'.get 2 _ rfl;unfold ptr at t0 t1 t5
 by_cases hlt:j<D.nla
 ·obtain⟨m',rfl⟩:∃m',m=m'+2:=⟨m-2,by omega⟩;have hfin2:itK (lasB D s) (j+1) m' (lasB D s j z)=itK (lasB D s) 0 D.nla x0:=hfin;obtain⟨l,hl2⟩:∃l:Nat,l=2*(1+D.nin+j):=⟨_,rfl⟩;obtain⟨h2,hc2,x2,c2⟩:=give_w C L x' l;have yy2:=y'.ch L c2 (by simp[Kc]);obtain⟨wB,hB,hcB,xB,cB⟩:=la_w C L x2 hs hp' l (by rw[give_las];omega);have yB:=yy2.ch L cB (by simp[Kc]);have ccB:=(c'.trans (Kc.mono c2 (by decide) (by omega))).trans (Kc.mono cB (by decide) (by omega));obtain⟨q,hq⟩:=e' (j+1);have hw:IntKind.i64.wrap ((j:Int)+1)=(q:Int):=w'i;have hw1:IntKind.i64.wrap (1+(D.nin:Int))=1+(D.nin:Int):=w'j;have hw2:IntKind.i64.wrap (1+(D.nin:Int)+(j:Int))=1+(D.nin:Int)+(j:Int):=w'j;have hw3:IntKind.i64.wrap (2*(1+(D.nin:Int)+(j:Int)))=(l:Int):=w'i;have hlt':(j:Int)<D.nla:=by omega
  unfold ptr at hc2 hcB;have hz:lasB D s j z=laS (z.1.give (l:Int)) s z.2 (l:Int):=by unfold lasB;rw[<-hl2]
  refine f'f ?_;simp[W49_1,Za7,Za8,Za9,Zba,Zbb,t0,t1,t5,t8,y2,y1,hlt,hlt',hw1,hw2,hw3,hc2,hcB,hw];refine⟨m'+1,by omega,q,(lasB D s j z).1,(lasB D s j z).2,wB,by rw[hz];exact xB,yB,ccB,rfl,by rw[hz];exact laS_pos hp',by omega,by omega,?_,?_,by rw[hq];exact hfin2⟩
  ·rw[hz];show (_++[_]).length=q;rw[l'p,give_las];simp;omega
  ·rw[hz];show (z.1.give l).outs=[]∧(z.1.give l).bads=[]∧(z.1.give l).gates=[];rw[give_outs,give_bads,give_gates];exact ho'
 ·have hm1:m=1:=by omega
  subst hm1;have hfin2:z=itK (lasB D s) 0 D.nla x0:=hfin;rw[<-hfin2];have hlt':¬(j:Int)<D.nla:=by omega
  refine f'f ?_;simp[W49_1,Za7,t0,t1,t5,t8,y2,hlt,hlt'];exact⟨w',x',y',c',hp',ho'⟩
theorem rb_gts (C:LP' O ro c)(L:O.Law){w0:Own}{h0:H}{r n b:Nat}{s:ByteArray}{D:HD}(hs:s.size<=1000)(hD:D.nan<=100)(hD2:D.nin<=100∧D.nla<=100)(x0:Net×RS)(w:Own)(h:H)(t:Env)
  (x:ST O ro w h r s x0.2 n x0.1)(y:Bx O ro w h (103,0) b (hdc D))(cc:Ch O (KN 4) w0 h0 w h)(hp:x0.2.pos<=s.size)(hl:x0.1.gates=[])
  (t0 : t 0 = ptr n)(t1 : t 1 = ptr r)(t5 : t 5 = ptr b)(t8 : t 10 = .int .i64 0):
  okE c (cBlk 4 (cLoop (W49_2 O Tryz.prog ro))) (t,h) (λe t' h'=>e = .normal∧∃w',ST O ro w' h' r s (itK (gtsB D s) 0 D.nan x0).2 n (itK (gtsB D s) 0 D.nan x0).1∧Ch O (KN 4) w0 h0 w' h'∧(itK (gtsB D s) 0 D.nan x0).2.pos<=s.size):=by
 refine okE.blk ?_;refine okE.loop (λm t g=>∃j z w',ST O ro w' g r s z.2 n z.1∧Bx O ro w' g (103,0) b (hdc D)∧Ch O (KN 4) w0 h0 w' g∧t 0=ptr n∧t 1=ptr r∧t 5=ptr b∧t 10 = .int .i64 (j:Nat)∧z.2.pos<=s.size∧j+m=D.nan+1∧0<m∧z.1.gates.length=j∧itK (gtsB D s) j (m-1) z=itK (gtsB D s) 0 D.nan x0) ?_ (D.nan+1) _ _ ⟨0,x0,w,x,y,cc,t0,t1,t5,t8,hp,by omega,by omega,by rw[hl];rfl,rfl⟩;intro m t g hI;obtain⟨j,z,w',x',y',c',t0,t1,t5,t8,hp',hj,hm,hl',hfin⟩:=hI;have y2:=y'.get 5 _ rfl;have y1:=y'.get 2 _ rfl;have y3:=y'.get 3 _ rfl;unfold ptr at t0 t1 t5
 by_cases hlt:j<D.nan
 ·obtain⟨m',rfl⟩:∃m',m=m'+2:=⟨m-2,by omega⟩;have hfin2:itK (gtsB D s) (j+1) m' (gtsB D s j z)=itK (gtsB D s) 0 D.nan x0:=hfin;obtain⟨l,hl2⟩:∃l:Nat,l=2*(1+D.nin+D.nla+j):=⟨_,rfl⟩;obtain⟨wB,hB,hcB,xB,cB⟩:=bg_w C L x' hs l (by omega) (by omega);have yB:=y'.ch L cB (by simp[Kc]);have ccB:=c'.trans (Kc.mono cB (by decide) (by omega));obtain⟨q,hq⟩:=e' (j+1);have hw:IntKind.i64.wrap ((j:Int)+1)=(q:Int):=w'i;have hw1:IntKind.i64.wrap (1+(D.nin:Int))=1+(D.nin:Int):=w'j;have hw2:IntKind.i64.wrap (1+(D.nin:Int)+(D.nla:Int))=1+(D.nin:Int)+(D.nla:Int):=w'j;have hw4:IntKind.i64.wrap (1+(D.nin:Int)+(D.nla:Int)+(j:Int))=1+(D.nin:Int)+(D.nla:Int)+(j:Int):=w'j;have hw3:IntKind.i64.wrap (2*(1+(D.nin:Int)+(D.nla:Int)+(j:Int)))=(l:Int):=w'i;have hlt':(j:Int)<D.nan:=by omega
  unfold ptr at hcB;have hz:gtsB D s j z=bgS z.1 s z.2 l:=by unfold gtsB;rw[<-hl2]
  refine f'f ?_;simp[W49_2,Zbf,Zbh,Zbg,t0,t1,t5,t8,y2,y1,y3,hlt,hlt',hw1,hw2,hw3,hw4,hcB,hw];refine⟨m'+1,by omega,q,(gtsB D s j z).1,(gtsB D s j z).2,wB,by rw[hz];exact xB,yB,ccB,rfl,by rw[hz];exact bgS_pos hp',by omega,by omega,?_,by rw[hq];exact hfin2⟩;rw[hz];show (_++[_]).length=q;rw[l'p,give_gates];simp;omega
 ·have hm1:m=1:=by omega
  subst hm1;have hfin2:z=itK (gtsB D s) 0 D.nan x0:=hfin;rw[<-hfin2];have hlt':¬(j:Int)<D.nan:=by omega
  refine f'f ?_;simp[W49_2,Zbf,t0,t1,t5,t8,y2,hlt,hlt'];exact⟨w',x',c',hp'⟩
theorem rb_w (C:LP' O ro c)(L:O.Law){w:Own}{h:H}{r n:Nat}{s:ByteArray}{D:HD}(hs:s.size<=1000)(hD:D.nin<=100∧D.nla<=100∧D.nou<=100∧D.nbs<=100∧D.nan<=100)(x0:Net×RS)
  (x : ST O ro w h r s x0.2 n x0.1)(hp : x0.2.pos ≤ s.size)(ho : x0.1.ins = [] ∧ x0.1.outs = [] ∧ x0.1.bads = [] ∧ x0.1.las = [] ∧ x0.1.gates = []):
  ∃w' h',c 49 [ptr n,ptr r,D.val] h=some (.tuple #[],h')∧ST O ro w' h' r s (rbS D s x0).2 n (rbS D s x0).1∧Ch O (KN 4) w h w' h'∧(rbS D s x0).2.pos<=s.size:=by
 have htv:isTup D.val=false:=rfl;obtain⟨b,hb⟩:=e' (O.next h);obtain⟨h1,hh1⟩:=e' (O.new h D.val.cells.toList);obtain⟨w1,hw1⟩:=e' (w.set b (103,0));have c1:∀K,Ch O K w h w1 h1:=λK=>by rw[hh1,hw1,hb];exact Ch.new L _ _ _ _ _
 have y1:Bx O ro w1 h1 (103,0) b (hdc D):=by rw[hh1,hw1,hb];exact Bx.new L _ _ x.lo _ _
 have x1:=x.ch L (c1 λ_=>False) (by simp) (by simp);have key:∃v h',c 49 [ptr n,ptr r,D.val] h=some (v,h')∧(v = .tuple #[]∧∃w',ST O ro w' h' r s (rbS D s x0).2 n (rbS D s x0).1∧Ch O (KN 4) w h w' h'∧(rbS D s x0).2.pos<=s.size):=by
  refine C.fn (F49_fn O ro) rfl rfl ?_;obtain⟨e0,he0⟩:=e' (envOf [ptr n,ptr r,D.val]);have a0:e0 0=ptr n:=by subst he0;rfl
  have a1:e0 1=ptr r:=by subst he0;rfl
  have a2:e0 2=D.val:=by subst he0;rfl
  rw[<-he0];unfold F49;refine s'f ?_;simp[ZaZ,a2,htv,<-hb,<-hh1,thenE,-resE,-resLE,-rvE];refine okE.seq (s'f ?_);simp[Za0,thenE,-resE,-resLE,-rvE];refine okE.mono (rb_ins C L hs hD.1 x0 w1 h1 _ x1 y1 (c1 _) hp ho.1 ho.2 (by simp[a0]) (by simp[a1]) (by simp) (by simp)) ?_;rintro e t g ⟨rfl,t0,t1,t5,w2,x2,y2,cc2,p2,o1,o2,o3,o4⟩;simp only[thenE];refine okE.seq (s'f ?_);simp[Za6,thenE,-resE,-resLE,-rvE];refine okE.mono (rb_las C L hs hD.2.1 hD.1 _ w2 g _ x2 y2 cc2 p2 o3 ⟨o1,o2,o4⟩ (by simp[t0]) (by simp[t1]) (by simp[t5]) (by simp)) ?_;rintro e t' g' ⟨rfl,t0',t1',t5',w3,x3,y3,cc3,p3,q1,q2,q4⟩;simp only[thenE];have y34:=y3.get 4 _ rfl;obtain⟨v1,g1,g2,v2,g3,w4,k1,⟨f1,f2,f3⟩,⟨u1,k2⟩,k3,k4,⟨f4,f5,f6⟩,⟨u2,k5⟩,hron,x4,c4,p4,w5,c5⟩:=pr_both C L (D:=D) hs ⟨hD.2.2.1,hD.2.2.2.1⟩ _ w3 g' x3 p3 ⟨q1,q2⟩;have y5:=(y3.ch L c5 (by simp[Kc])).get 6 _ rfl;have y4:=y3.ch L c4 (by simp[Kc]);unfold ptr at t0' t1' t5' k1 k4;refine s'f ?_;simp[Zbc,t0',t1',t5',y34,k1,hron,f1,f2,k2,putsA,<-k3,thenE,-resE,-resLE,-rvE];refine s'f ?_;simp[Zbd,t0',t1',t5',y5,k4,hron,f4,f5,k5,putsA,thenE,-resE,-resLE,-rvE];refine s'f ?_;simp[Zbe,thenE,-resE,-resLE,-rvE];have hgt:(prF s D (itK (lasB D s) 0 D.nla (itK insB 0 D.nin x0))).1.gates=[]:=q4;refine okE.mono (rb_gts C L hs hD.2.2.2.2 ⟨hD.1,hD.2.1⟩ _ w4 _ _ x4 y4 (cc3.trans (Kc.mono c4 (by decide) (by omega))) p4 hgt (by simp[t0']) (by simp[t1']) (by simp[t5']) (by simp)) ?_;rintro e t' g' ⟨rfl,w6,x6,cc6,p6⟩;simp;exact⟨w6,x6,cc6,p6⟩
 obtain⟨v,h',e1,rfl,w',e2⟩:=key;exact⟨w',h',e1,e2⟩
end
end Go.Proofs.YtimdkminagnhgaaGreatDoor
