import Derived.Test.YtimdkminagnhgaaGreatDoorQ18
set_option linter.all false
namespace Go.Ta
theorem F'J {S S':Srch}{y:Cl}(hs:C'G S y=some S')(B:Bd S)(hy:y.Ok): Bd S'∧S'.clauses=S.clauses++[y]∧S'.trail=S.trail∧S'.starts=S.starts∧S'.vars=S.vars∧S'.holds=S.holds∧S'.assumed=S.assumed∧S'.core=S.core∧S'.met=S.met∧S'.given=S.given:=by
 have hm:most=1000000:=rfl;unfold C'G at hs;split at hs
 ·rename_i hlt
  unfold C'C at hs;have hg:(S.clauses++[y])[S.clauses.length]?=some y:=by simp
  simp only[hg]at hs;split at hs
  ·simp at hs
  ·rename_i a ha
   split at hs
   ·rename_i hal
    split at hs
    ·simp at hs
    ·rename_i b hb
     split at hs
     ·rename_i hbl
      simp only[l'a]at hs;subst hs;have hk:S.clauses.length<2*most:=by omega
      have ok1:∀l∈S.watchers.set y.left (a++[S.clauses.length]),l.length<=most∧∀k∈l,k<2*most:=by
       intro l hl;rcases List.mem_or_eq_of_mem_set hl with hl|rfl
       ·exact B.wl l hl
       ·refine⟨by simp;omega,λj hj=>?_⟩;rcases l'E.1 hj with hj|hj
        ·exact (B.wl a (getElem?_mem ha)).2 j hj
        ·simp at hj;subst hj;exact hk
      refine⟨⟨?_,by simp;omega,by simpa using B.nW,B.nH,B.nV,B.nS,B.nT,B.nA,B.nK,?_,B.tr,B.st,B.asm,B.vr,B.gv,B.dr,B.bo,B.me⟩,rfl,rfl,rfl,rfl,rfl,rfl,rfl,rfl,rfl⟩
      ·intro z hz;rcases l'E.1 hz with hz|hz
       ·exact B.cls z hz
       ·simp at hz;subst hz;exact hy
      ·intro l hl;rcases List.mem_or_eq_of_mem_set hl with hl|rfl
       ·exact ok1 l hl
       ·refine⟨by simp;omega,λj hj=>?_⟩;rcases l'E.1 hj with hj|hj
        ·exact (ok1 b (getElem?_mem hb)).2 j hj
        ·simp at hj;subst hj;exact hk
     ·simp at hs
   ·simp at hs
 ·simp at hs
theorem K'B: ∀(l:List Nat)(h h':List Bool),F's l h=some h'->h'.length=h.length:=by
 intro l
 induction l with
 | nil=>intro h h' e;simp[F's]at e;rw[e]
 | cons a l ih=>
  intro h h' e;simp only[F's]at e;split at e
  ·rw[ih _ _ e];simp
  ·simp at e
theorem I'q {S S':Srch}{lev:Nat}(hs:G'P S lev=some S')(B:Bd S): Bd S'∧S'.clauses=S.clauses∧S'.watchers=S.watchers∧S'.vars=S.vars∧S'.assumed=S.assumed∧S'.core=S.core∧S'.met=S.met∧S'.given=S.given:=by
 have hm:most=1000000:=rfl;unfold G'P at hs;split at hs
 ·simp only[l'a]at hs;subst hs;exact⟨B,rfl,rfl,rfl,rfl,rfl,rfl,rfl⟩
 ·rename_i s hst
  split at hs
  ·rename_i hle
   split at hs
   ·simp at hs
   ·rename_i h' hu
    simp only[l'a]at hs;subst hs;have hl:=K'B _ _ _ hu;have hnT:=B.nT;refine⟨⟨B.cls,B.nC,B.nW,by show h'.length<most;rw[hl];exact B.nH,B.nV,?_,?_,B.nA,B.nK,B.wl,?_,?_,B.asm,B.vr,B.gv,by show s<=2*most;omega,B.bo,B.me⟩,rfl,rfl,rfl,rfl,rfl,rfl,rfl⟩
    ·have:=B.nS;show (S.starts.take lev).length<=most;simp;omega
    ·show (S.trail.take s).length<=most;simp;omega
    ·intro l hl;exact B.tr l (List.mem_of_mem_take hl)
    ·intro l hl;exact B.st l (List.mem_of_mem_take hl)
  ·simp at hs
end Go.Ta
namespace Go.Proofs.YtimdkminagnhgaaGreatDoor
open Go.Vm Go.Proofs Go.Ta
set_option maxHeartbeats 2000000
section
variable {H:Type}{O:HI H}{ro:Nat}{c:A'Z H}
attribute [local simp] A'a A'b reg to too A'd A'q A'h mv' nl' fl' ld' ln' mk' ia' ik' ix' B'F B'G aLd B'h A'w A'4 aUn unA ev A'l isB A'0 A'E A'F A'G A'H A'I A'J A'K A'L A'M cIf A'B A'f A'g aSt A'N A't A'O A'P A'Q A'9 A'R A'u A'S A'T B'a A'U A'v A'V A'W A'X B'b A'p Instr.fill A'e A'n A'x A'j ptr undef B'o B'y A'k B's A's A'D B'C A'y B'p rangeA B'O A'r A'2 A'z B'd A'm A'o chk
variable {w w':Own}{h h':H}{q:Nat}{S:Srch}{bW bH bV:Nat}{vA vC vT vS vK:Value}{lv wv:List Value}
theorem SQ.setT (L:O.Law)(x:SQ O ro w h q S bW bH bV vA vC vT vS vK lv wv){l:List Nat}{v:Value}(s:Sz O ro w h (11,7) 1 v (l.map ni)):
  ∃h1,A'8 O h q 7 [v]=some h1∧SQ O ro w h1 q { S with trail:=l } bW bH bV vA vC v vS vK lv wv∧Ch O K11 w h w h1:=by
 have c2:=Ch.put L (K:=λu=>u=(11,1000)) x.m 7 (by simp) v rfl;have m2:=x.m.put L 7 (by simp) v;exact⟨_,A'C (x.m.get 7 _ rfl),⟨m2,x.sA.ch L c2,x.sC.ch L c2,x.lC,λk y v h1 h2=>(x.aC k y v h1 h2).ch L c2,x.xW.ch L c2,x.lW,λi l v h1 h2=>(x.aW i l v h1 h2).ch L c2,x.xH.ch L c2,x.xV.ch L c2,s.ch L c2,x.sS.ch L c2,x.sK.ch L c2,l'G x.lo c2.nx⟩,c2.mono (by rintro u rfl;exact .inl rfl)⟩
theorem SQ.setS (L:O.Law)(x:SQ O ro w h q S bW bH bV vA vC vT vS vK lv wv){l:List Nat}{v:Value}(s:Sz O ro w h (11,8) 1 v (l.map ni)):
  ∃h1,A'8 O h q 8 [v]=some h1∧SQ O ro w h1 q { S with starts:=l } bW bH bV vA vC vT v vK lv wv∧Ch O K11 w h w h1:=by
 have c2:=Ch.put L (K:=λu=>u=(11,1000)) x.m 8 (by simp) v rfl;have m2:=x.m.put L 8 (by simp) v;exact⟨_,A'C (x.m.get 8 _ rfl),⟨m2,x.sA.ch L c2,x.sC.ch L c2,x.lC,λk y v h1 h2=>(x.aC k y v h1 h2).ch L c2,x.xW.ch L c2,x.lW,λi l v h1 h2=>(x.aW i l v h1 h2).ch L c2,x.xH.ch L c2,x.xV.ch L c2,x.sT.ch L c2,s.ch L c2,x.sK.ch L c2,l'G x.lo c2.nx⟩,c2.mono (by rintro u rfl;exact .inl rfl)⟩
theorem SQ.appC (L:O.Law)(x:SQ O ro w h q S bW bH bV vA vC vT vS vK lv wv)(y:Cl){vl:Value}(ht:S.clauses.length<most)(sl:Sm O ro w h (9,0) 1 vl (y.lits.map ni)):
  ∃vC' h1 h2 w2,D'd O ro 4 48 vC (.slice (some ⟨O.next h,0,some 4⟩) 1 2) (O.new h [vl,ni y.left,ni y.right,ni y.span])=some (vC',h1)∧A'8 O h1 q 1 [vC']=some h2∧B'g vC'=true∧vC'.cells = #[vC'] ∧
   SQ O ro w2 h2 q { S with clauses:=S.clauses++[y] } bW bH bV vA vC' vT vS vK (lv++[vl]) wv∧Ch O K11 w h w2 h2:=by
 have hm:most=1000000:=rfl;have hlen:((lv.zip S.clauses).flatMap clC).length=S.clauses.length*4:=by rw[A'A clC 4 B'Q];simp[x.lC]
 obtain⟨vT',h1,w1,e1,s1,c1,lo1⟩:=B'D (bytes:=48) L x.lo x.sC.m (by omega) (show [vl,ni y.left,ni y.right,ni y.span].length=4 from rfl) (by omega) (by omega);have m1:=x.m.ch L c1;have c2:=Ch.put L (K:=λu=>u=(11,1000)) m1 1 (by simp) vT' rfl;have m2:=m1.put L 1 (by simp) vT';obtain⟨f1,f2,f3⟩:=s1.m.flat;have hz:(lv.zip S.clauses).flatMap clC++[vl,ni y.left,ni y.right,ni y.span]=((lv++[vl]).zip (S.clauses++[y])).flatMap clC:=by
  rw[List.zip_append x.lC,List.flatMap_append];simp[clC]
 refine⟨vT',h1,_,w1,e1,A'C (m1.get 1 _ rfl),f2,f1,⟨m2,?_,?_,by simp[x.lC],λk z v g1 g2=>?_,?_,x.lW,λi l v h1 h2=>?_,?_,?_,?_,?_,?_,?_⟩,?_⟩
 ·exact (x.sA.ch L c1).ch L c2
 ·rw[hz]at s1;exact s1.ch L c2
 ·by_cases hk:k<S.clauses.length
  ·rw[l'e hk]at g1;rw[l'e (by rw[x.lC];exact hk)]at g2;exact ((x.aC k z v g1 g2).ch L c1).ch L c2
  ·have hk2:k=S.clauses.length:=by
    have:=(l'b.1 g1).1;simp at this;omega
   subst hk2;simp at g1;rw[<-x.lC]at g2;simp at g2;subst g1 g2;exact (sl.ch L c1).ch L c2
 ·exact (x.xW.ch L c1).ch L c2
 ·exact ((x.aW i l v h1 h2).ch L c1).ch L c2
 ·exact (x.xH.ch L c1).ch L c2
 ·exact (x.xV.ch L c1).ch L c2
 ·exact (x.sT.ch L c1).ch L c2
 ·exact (x.sS.ch L c1).ch L c2
 ·exact (x.sK.ch L c1).ch L c2
 ·exact l'G lo1 c2.nx
 ·exact (c1.mono (by rintro u rfl;exact .inl rfl)).trans (c2.mono (by rintro u rfl;exact .inl rfl))
theorem I'r (C:LP' O ro c)(L:O.Law)(x:SQ O ro w h q S bW bH bV vA vC vT vS vK lv wv)(B:Bd S)(y:Cl){vl:Value}(hy:y.Ok)(sl:Sm O ro w h (9,0) 1 vl (y.lits.map ni)){S':Srch}(hs:C'G S y=some S'):
  ∃vC' wv' h' w',c 207 [ptr q,.agg #[vl,ni y.left,ni y.right,ni y.span]] h=some (.tuple #[],h')∧SQ O ro w' h' q S' bW bH bV vA vC' vT vS vK (lv++[vl]) wv'∧Ch O K11 w h w' h'∧Bd S':=by
 have hm:most=1000000:=rfl;have hbd:=(F'J hs B hy).1;unfold C'G at hs
 by_cases hlt:S.clauses.length<most
 ·rw[if_pos hlt]at hs;have y1:=Bx.new L (ro:=ro) w h x.lo (13,0) [vl,ni y.left,ni y.right,ni y.span];have c1:=Ch.new L K11 w h (13,0) [vl,ni y.left,ni y.right,ni y.span];have c1':=Ch.new L (λ_=>False) w h (13,0) [vl,ni y.left,ni y.right,ni y.span];have x1:=x.ch L c1';have s1:=sl.ch L c1';obtain⟨vC',h2,h3,w2,e2,p2,f2,g2,x3,c3⟩:=x1.appC L y hlt s1;have hnW:=B.nW;obtain⟨wv',h4,w4,e4,x4,c4⟩:=K'x C L x3 S.clauses.length hs (by simp;omega) hnW;refine⟨vC',wv',h4,w4,?_,x4,(c1.trans c3).trans c4,hbd⟩;refine C.eq (P'Q O ro) rfl rfl ?_;unfold U'7;have hall:=y1.all;obtain⟨fl1,fl2,fl3⟩:=sl.flat;have m1:=x1.m.get 1 _ rfl;have n1:=x3.m.get 1 _ rfl;obtain⟨aC,cC,hvC⟩:=x3.sC.m.len (by omega) (S.clauses.length+1) (by rw[A'A clC 4 B'Q];simp[x.lC]);have hw:IntKind.i64.wrap (((S.clauses.length+1:Nat):Int)-1)=(S.clauses.length:Int):=w'i;have rq:¬q<ro:=by have:=x.m.lo;omega
  have ln:=L.next_new h [vl,ni y.left,ni y.right,ni y.span];unfold ptr at e4;obtain⟨z,hz⟩:=e' (S.clauses.length+1);rw[<-hz]at hvC hw;rw[hvC]at n1;refine s'f ?_;simp[Zgx,A'c];refine s'f ?_;simp at hall;have hr4:List.range 4=[0,1,2,3]:=rfl;simp[Zgy,A'c,m1,hall,fl1,fl2,rq,hr4,e2,p2,f2,g2];refine f'f ?_;simp[Zgz,n1,hw,e4,A'1,A'i,rvE]
 ·rw[if_neg hlt]at hs;simp at hs
def wgt (v:Vr): Vr:={ v with weight:=v.weight/68719476736 }
def RaI (O:HI H)(ro:Nat)(w:Own)(h:H)(q bW bH bV:Nat)(vA vC vT vS vK:Value)(lv wv:List Value)(S:Srch)(n:Nat)(t:Env)(g:H): Prop:=
 t 0 = .pointer (some ⟨q,0,none⟩)∧∃i,t 2=ni i∧i+n=S.vars.length∧SQ O ro w g q { S with vars:=(S.vars.take i).map wgt++S.vars.drop i } bW bH bV vA vC vT vS vK lv wv∧Ch O K11 w h w g
theorem M'4 (L:O.Law)(B:Bd S){n:Nat}{t:Env}{g:H}(I:RaI O ro w h q bW bH bV vA vC vT vS vK lv wv S n t g):
  okE c (I'm O Tryz.prog ro) (t,g) (λe t' g'=>(e = .normal∧∃n',n'<n∧RaI O ro w h q bW bH bV vA vC vT vS vK lv wv S n' t' g')∨(e≠.normal∧(A'j 0 e = .normal∧SQ O ro w g' q { S with vars:=S.vars.map wgt } bW bH bV vA vC vT vS vK lv wv∧Ch O K11 w h w g'))):=by
 have hm:most=1000000:=rfl;have hm62:B'w=4611686018427387904:=rfl;have hnV:=B.nV;obtain⟨d0,i,d2,hin,x1,c1⟩:=I;have m6:=x1.m.get 6 _ rfl;have hlen:((S.vars.take i).map wgt++S.vars.drop i).length=S.vars.length:=by simp;omega
 simp only[hlen]at m6
 cases n with
 | zero=>
  obtain rfl:i=S.vars.length:=by omega
  refine f'f ?_;simp[I'm,ZiR,d0,d2,m6];refine⟨?_,c1⟩;simp only[List.take_length,List.drop_length,List.append_nil]at x1;exact x1
 | succ n=>
  have hi:i<S.vars.length:=by omega
  have hi':(i:Int)<S.vars.length:=by omega
  obtain⟨v,hv⟩:∃v,S.vars[i]?=some v:=⟨_,l'c hi⟩;have hh:=K'A (f:=wgt) hv;have hwt:=(B.vr v (getElem?_mem hv)).weight;have k3:=x1.getV i hh.1 3 (by omega);simp only[vrC,l'x,l'w,Nat.add_zero]at k3;obtain⟨h2,p2,x2,c2⟩:=x1.putV L i hh.1 3 (by omega) (ni (v.weight/68719476736)) (wgt v) rfl;rw[hh.2]at x2;have hq:=G'd v.weight 68719476736 (by omega) (by omega);have hwi:=w'1 i;obtain⟨i',hi2⟩:=e' (i+1);obtain⟨d,hd⟩:=e' (v.weight/68719476736);rw[<-hi2]at hwi x2;rw[<-hd]at p2 hq;have rV:¬bV<ro:=by have:=x1.xV.lo;omega
  have hq':C'k .quo .i64 (v.weight:Int) 68719476736=some (ni d):=hq;refine f'f ?_;simp[I'm,ZiR,ZiS,ZiT,d0,d2,m6,hi,hi',rV,k3,hq',p2,hwi];exact⟨n,by omega,by simp[d0],i',by simp,by omega,x2,c1.trans c2⟩
theorem Q'c (C:LP' O ro c)(L:O.Law)(x:SQ O ro w h q S bW bH bV vA vC vT vS vK lv wv)(B:Bd S){S':Srch}(hs:G'O S=some S'):
  ∃h',c 226 [ptr q] h=some (.tuple #[],h')∧SQ O ro w h' q S' bW bH bV vA vC vT vS vK lv wv∧Ch O K11 w h w h'∧Bd S'∧S'.clauses=S.clauses∧S'.trail=S.trail∧S'.starts=S.starts∧S'.given=S.given:=by
 have hm:most=1000000:=rfl;have hm62:B'w=4611686018427387904:=rfl;have hbo:=B.bo;unfold G'O at hs;simp only at hs;split at hs
 ·rename_i hb62
  have m10:=x.m.get 10 _ rfl;have hq:=G'd S.bonus 16 (by omega) (by omega);have hw:IntKind.i64.wrap ((S.bonus:Int)+((S.bonus/16:Nat):Int))=((S.bonus+S.bonus/16:Nat):Int):=w'i;obtain⟨d,hd⟩:=e' (S.bonus/16);rw[<-hd]at hw hq hs hb62;obtain⟨b,hb⟩:=e' (S.bonus+d);rw[<-hb]at hw hs hb62;have hq':C'k .quo .i64 (S.bonus:Int) 16=some (ni d):=hq;obtain⟨h1,p1,x1,c1⟩:=x.fld L 10 (by omega) (ni b) (g:=S.given) (d:=S.drawn) (b:=b) (m:=S.met) rfl;have n10:=x1.m.get 10 _ rfl;have rq:¬q<ro:=by have:=x.m.lo;omega
  have B1:Bd { S with bonus:=b }:=⟨B.cls,B.nC,B.nW,B.nH,B.nV,B.nS,B.nT,B.nA,B.nK,B.wl,B.tr,B.st,B.asm,B.vr,B.gv,B.dr,hb62,B.me⟩
  by_cases hle:b<=1099511627776
  ·rw[if_pos hle]at hs;simp only[l'a]at hs;subst hs;refine⟨h1,?_,x1,c1,B1,rfl,rfl,rfl,rfl⟩;have hle':(b:Int)<=1099511627776:=by omega
   refine C.eq (K't O ro) rfl rfl ?_;unfold U'k;refine s'f ?_;simp[ZiN,A'c,m10,hq',hw,p1,rq];refine okE.seq (s'f ?_);simp[ZiO,A'c,n10,hle,hle'];refine f'f ?_;simp[A'c,A'1,A'i,rvE]
  ·rw[if_neg hle]at hs;simp only[l'a]at hs;have hle':¬(b:Int)<=1099511627776:=by omega
   have hq2:=G'd b 68719476736 (by omega) (by omega);have hdl:b/68719476736<=b:=Nat.div_le_self _ _;obtain⟨e,he⟩:=e' (b/68719476736);rw[<-he]at hq2 hs hdl;have hq3:C'k .quo .i64 (b:Int) 68719476736=some (ni e):=hq2;obtain⟨h2,p2,x2,c2⟩:=x1.fld L 10 (by omega) (ni e) (g:=S.given) (d:=S.drawn) (b:=e) (m:=S.met) rfl;have B2:Bd { S with bonus:=e }:=⟨B.cls,B.nC,B.nW,B.nH,B.nV,B.nS,B.nT,B.nA,B.nK,B.wl,B.tr,B.st,B.asm,B.vr,B.gv,B.dr,by show e<B'w;omega,B.me⟩;have B3:Bd S':=by
    subst hs;refine⟨B.cls,B.nC,B.nW,B.nH,by simpa using B.nV,B.nS,B.nT,B.nA,B.nK,B.wl,B.tr,B.st,B.asm,?_,B.gv,B.dr,by show e<B'w;omega,B.me⟩;intro v hv;simp only[List.mem_map]at hv;obtain⟨v0,hv0,rfl⟩:=hv;have h0:=B.vr v0 hv0;exact⟨Nat.lt_of_le_of_lt (Nat.div_le_self _ _) h0.weight,h0.reason,h0.level⟩
   have key:∃u h',c 226 [ptr q] h=some (u,h')∧(u = .tuple #[]∧SQ O ro w h' q S' bW bH bV vA vC vT vS vK lv wv∧Ch O K11 w h w h'):=by
    refine C.fn (K't O ro) rfl rfl ?_;unfold U'k;refine s'f ?_;simp[ZiN,A'c,m10,hq',hw,p1,rq];refine okE.seq (s'f ?_);simp[ZiO,A'c,n10,hle,hle'];refine f'f ?_;simp[A'c];refine s'f ?_;simp[ZiP,A'c,n10,hq3,p2,rq];refine s'f ?_;simp[ZiQ,A'c];refine okE.blk ?_;refine okE.mono (okE.loop (Q:=λe' t' g'=>A'j 0 e' = .normal∧SQ O ro w g' q { S with bonus:=e,vars:=S.vars.map wgt } bW bH bV vA vC vT vS vK lv wv∧Ch O K11 w h w g') (RaI O ro w h q bW bH bV vA vC vT vS vK lv wv { S with bonus:=e }) (λn t g I=>M'4 L B2 I) S.vars.length _ _ ⟨by simp,0,by simp,by simp,by simpa using x2,c1.trans c2⟩) ?_;rintro e' t g ⟨hr,hq1,hq2⟩;rw[hr];simp[A'1,A'i,rvE];exact⟨by rw[<-hs];exact hq1,hq2⟩
   obtain⟨u,h',e1,rfl,e2,e3⟩:=key;exact⟨h',e1,e2,e3,B3,by subst hs;rfl,by subst hs;rfl,by subst hs;rfl,by subst hs;rfl⟩
 ·simp at hs
def BkI (O:HI H)(ro:Nat)(w:Own)(h:H)(q bW bH bV:Nat)(vA vC vT vS vK:Value)(lv wv:List Value)(S:Srch)(lev s:Nat)(hf:List Bool)(n:Nat)(t:Env)(g:H): Prop:=
 t 0 = .pointer (some ⟨q,0,none⟩)∧t 1=ni lev∧t 4=ni s∧∃i hh,t 5=ni i∧i+n=S.trail.length∧F's (S.trail.drop i) hh=some hf∧hh.length=S.holds.length∧SQ O ro w g q { S with holds:=hh } bW bH bV vA vC vT vS vK lv wv∧Ch O K11 w h w g
theorem Q'd (L:O.Law)(B:Bd S){lev s:Nat}{hf:List Bool}{n:Nat}{t:Env}{g:H}(I:BkI O ro w h q bW bH bV vA vC vT vS vK lv wv S lev s hf n t g):
  okE c (I'n O Tryz.prog ro) (t,g) (λe t' g'=>(e = .normal∧∃n',n'<n∧BkI O ro w h q bW bH bV vA vC vT vS vK lv wv S lev s hf n' t' g')∨(e≠.normal∧(A'j 0 e = .normal∧t' 0 = .pointer (some ⟨q,0,none⟩)∧t' 1=ni lev∧t' 4=ni s∧SQ O ro w g' q { S with holds:=hf } bW bH bV vA vC vT vS vK lv wv∧Ch O K11 w h w g'))):=by
 have hm:most=1000000:=rfl;have hnT:=B.nT;obtain⟨d0,d1,d4,i,hh,d5,hin,hu,hhl,x1,c1⟩:=I;have m7:=x1.m.get 7 _ rfl;have m5:=x1.m.get 5 _ rfl
 cases n with
 | zero=>
  obtain rfl:i=S.trail.length:=by omega
  simp only[List.drop_length,F's,l'a]at hu;subst hu;obtain⟨aT,cT,hvT⟩:=x1.sT.m.len (by omega) S.trail.length (by simp);rw[hvT]at m7;refine f'f ?_;simp[I'n,ZiX,d0,d1,d4,d5,m7];exact⟨x1,c1⟩
 | succ n=>
  have hi:i<S.trail.length:=by omega
  have hi':(i:Int)<S.trail.length:=by omega
  obtain⟨l,hl⟩:∃l,S.trail[i]?=some l:=⟨_,l'c hi⟩;obtain⟨bT,hvT,hcell⟩:=x1.getT i hl;have hdrop:S.trail.drop i=l :: S.trail.drop (i+1):=by
   have:=(l'b.1 hl).2;rw[<-this];exact l's hi
  rw[hdrop]at hu;simp only[F's]at hu;split at hu
  ·rename_i hlt
   have hlt':(l:Int)<hh.length:=by omega
   obtain⟨h2,p2,x2,c2⟩:=x1.putH L l hlt false;have hwi:=w'1 i;obtain⟨i',hi2⟩:=e' (i+1);rw[<-hi2]at hwi hu;have rH:¬bH<ro:=by have:=x1.xH.lo;omega
   rw[hvT]at m7;refine f'f ?_;simp[I'n,ZiX,ZiY,ZiZ,d0,d1,d4,d5,m7,m5,hi,hi',hcell,hlt,hlt',rH,p2,hwi];exact⟨n,by omega,by simp[d0],by simp[d1],by simp[d4],i',_,by simp,by omega,hu,by simp[hhl],x2,c1.trans c2⟩
  ·simp at hu
theorem O's (C:LP' O ro c)(L:O.Law)(x:SQ O ro w h q S bW bH bV vA vC vT vS vK lv wv)(B:Bd S){lev:Nat}(hlev:lev<=most){S':Srch}(hs:G'P S lev=some S'):
  ∃vT' vS' h',c 227 [ptr q,ni lev] h=some (.tuple #[],h')∧SQ O ro w h' q S' bW bH bV vA vC vT' vS' vK lv wv∧Ch O K11 w h w h':=by
 have hm:most=1000000:=rfl;have hnS:=B.nS;have hnT:=B.nT;unfold G'P at hs;have m8:=x.m.get 8 _ rfl;obtain⟨aS,cS,hvS⟩:=x.sS.m.len (by omega) S.starts.length (by simp)
 cases hst:S.starts[lev]? with
 | none=>
  rw[hst]at hs;simp only[l'a]at hs;subst hs;have hle:S.starts.length<=lev:=by
   by_cases hh:S.starts.length<=lev
   ·exact hh
   ·rw[l'c (by omega)]at hst;simp at hst
  have hle':(S.starts.length:Int)<=lev:=by omega
  refine⟨vT,vS,h,?_,x,Ch.refl _ _ _⟩;rw[hvS]at m8;refine C.eq (K'u O ro) rfl rfl ?_;unfold U'l;refine okE.seq (s'f ?_);simp[ZiU,A'c,m8,hle,hle'];refine f'f ?_;simp[A'c,A'1,A'i,rvE]
 | some s=>
  rw[hst]at hs;simp only at hs;have hlt:=(l'b.1 hst).1;have hlt':(lev:Int)<S.starts.length:=by omega
  have hle:¬S.starts.length<=lev:=by omega
  have hle':¬(S.starts.length:Int)<=lev:=by omega
  split at hs
  ·rename_i hst2
   split at hs
   ·simp at hs
   ·rename_i hf hu
    simp only[l'a]at hs;subst hs;obtain⟨bS,hvS2,yS⟩:=x.sS.blk (by omega) S.starts.length (by simp) (by omega);have hcS:O.cell h bS lev=some (ni s):=by rw[yS.cell lev (by simpa using hlt)];simp[hst]
    subst hvS2;have key:∃u h',c 227 [ptr q,ni lev] h=some (u,h')∧(u = .tuple #[]∧∃vT' vS',SQ O ro w h' q { S with holds:=hf,trail:=S.trail.take s,starts:=S.starts.take lev,drawn:=s } bW bH bV vA vC vT' vS' vK lv wv∧Ch O K11 w h w h'):=by
     refine C.fn (K'u O ro) rfl rfl ?_;unfold U'l;refine okE.seq (s'f ?_);simp[ZiU,A'c,m8,hle,hle'];refine f'f ?_;simp[A'c];refine s'f ?_;simp[ZiV,A'c,m8,hlt,hlt',hcS];refine okE.seq (s'f ?_);simp[ZiW,A'c];refine okE.blk ?_;refine okE.mono (okE.loop (Q:=λe t' g'=>A'j 0 e = .normal∧t' 0 = .pointer (some ⟨q,0,none⟩)∧t' 1=ni lev∧t' 4=ni s∧SQ O ro w g' q { S with holds:=hf } bW bH bV vA vC vT _ vK lv wv∧Ch O K11 w h w g') (BkI O ro w h q bW bH bV vA vC vT _ vK lv wv S lev s hf) (λn t g I=>Q'd L B I) (S.trail.length-s) _ _ ⟨by simp,by simp,by simp,s,S.holds,by simp,by omega,hu,rfl,x,Ch.refl _ _ _⟩) ?_;rintro e t g ⟨hr,d0,d1,d4,x1,c1⟩;rw[hr];simp only[A'c];have n7:=x1.m.get 7 _ rfl;have rq:¬q<ro:=by have:=x.m.lo;omega
     have hs1:(s:Int)<=S.trail.length:=by omega
     have hl1:(lev:Int)<=S.starts.length:=by omega
     have hl2:lev<=S.starts.length:=by omega
     rcases x1.sT.take (by omega) S.trail.length s (by simp) hst2 with ⟨h1,h2z,h3,h4⟩|⟨bT,h1,hv7⟩
     ·subst h1;have hv7:Sz O ro w g (11,7) 1 (.slice none 0 0) ((S.trail.take s).map ni):=.inl ⟨rfl,by rw[h2z];rfl⟩;have hs00:(s:Int)=0:=by omega
      clear h3 h4;obtain⟨h2,p2,x2,c2⟩:=x1.setT L hv7;have n8:=x2.m.get 8 _ rfl;obtain⟨h3,p3,x3,c3⟩:∃h3,A'8 O h2 q 8 [.slice (some ⟨bS,0,some 1⟩) lev 0]=some h3∧SQ O ro w h3 q { S with holds:=hf,trail:=S.trail.take s,starts:=S.starts.take lev } bW bH bV vA vC (.slice none 0 0) (.slice (some ⟨bS,0,some 1⟩) lev 0) vK lv wv∧Ch O K11 w h2 w h3:=by
       have s8:Sz O ro w h2 (11,8) 1 (.slice (some ⟨bS,0,some 1⟩) lev 0) ((S.starts.take lev).map ni):=by
        rcases x2.sS.take (by omega) S.starts.length lev (by simp) hl2 with ⟨h1,h2,h3,h4⟩|⟨bT,h1,h2⟩
        ·simp at h1
        ·simp only[Value.slice.injEq,l'a,Addr.mk.injEq,and_true,true_and]at h1;subst h1;simpa using h2
       exact x2.setS L s8
      obtain⟨h4,p4,x4,c4⟩:=x3.fld L 9 (by omega) (ni s) (g:=S.given) (d:=s) (b:=S.bonus) (m:=S.met) rfl;have c14:=((c1.trans c2).trans c3).trans c4;clear x x1 x2 x3 c1 c2 c3 c4;refine f'f ?_;simp[Zi0,Zi1,Zi2,d0,d1,d4,n7,n8,rq,hs1,hst2,hl1,hl2,p2,p3,p4,A'1,A'i,rvE,eq_true h2z];exact⟨⟨_,_,x4⟩,c14⟩
     ·subst h1;have hv7:Sz O ro w g (11,7) 1 (.slice (some ⟨bT,0,some 1⟩) s 0) ((S.trail.take s).map ni):=by simpa using hv7
      obtain⟨h2,p2,x2,c2⟩:=x1.setT L hv7;have n8:=x2.m.get 8 _ rfl;obtain⟨h3,p3,x3,c3⟩:∃h3,A'8 O h2 q 8 [.slice (some ⟨bS,0,some 1⟩) lev 0]=some h3∧SQ O ro w h3 q { S with holds:=hf,trail:=S.trail.take s,starts:=S.starts.take lev } bW bH bV vA vC (.slice (some ⟨bT,0,some 1⟩) s 0) (.slice (some ⟨bS,0,some 1⟩) lev 0) vK lv wv∧Ch O K11 w h2 w h3:=by
       have s8:Sz O ro w h2 (11,8) 1 (.slice (some ⟨bS,0,some 1⟩) lev 0) ((S.starts.take lev).map ni):=by
        rcases x2.sS.take (by omega) S.starts.length lev (by simp) hl2 with ⟨h1,h2,h3,h4⟩|⟨bT,h1,h2⟩
        ·simp at h1
        ·simp only[Value.slice.injEq,l'a,Addr.mk.injEq,and_true,true_and]at h1;subst h1;simpa using h2
       exact x2.setS L s8
      obtain⟨h4,p4,x4,c4⟩:=x3.fld L 9 (by omega) (ni s) (g:=S.given) (d:=s) (b:=S.bonus) (m:=S.met) rfl;have c14:=((c1.trans c2).trans c3).trans c4;clear x x1 x2 x3 c1 c2 c3 c4;refine f'f ?_;simp[Zi0,Zi1,Zi2,d0,d1,d4,n7,n8,rq,hs1,hst2,hl1,hl2,p2,p3,p4,A'1,A'i,rvE];exact⟨⟨_,_,x4⟩,c14⟩
    obtain⟨u,h',e1,rfl,vT',vS',e2,e3⟩:=key;exact⟨vT',vS',h',e1,e2,e3⟩
  ·simp at hs
end
end Go.Proofs.YtimdkminagnhgaaGreatDoor
