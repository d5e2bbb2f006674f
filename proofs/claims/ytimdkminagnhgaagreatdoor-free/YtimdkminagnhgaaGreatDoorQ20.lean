import Derived.Test.YtimdkminagnhgaaGreatDoorQ19
set_option linter.all false
namespace Go.Ta
theorem attachP_bd {S S':Srch}{y:Cl}(hs:attachP S y=some S')(B:Bd S)(hy:y.Ok): Bd S'∧S'.clauses=S.clauses++[y]∧S'.trail=S.trail∧S'.starts=S.starts∧S'.vars=S.vars∧S'.holds=S.holds∧S'.assumed=S.assumed∧S'.core=S.core∧S'.met=S.met∧S'.given=S.given:=by
 have hm:most=1000000:=rfl;unfold attachP at hs;split at hs
 ·rename_i hlt
  unfold enterP at hs;have hg:(S.clauses++[y])[S.clauses.length]?=some y:=by simp
  simp only[hg]at hs;split at hs
  ·simp at hs
  ·rename_i a ha
   split at hs
   ·rename_i hal
    split at hs
    ·simp at hs
    ·rename_i b hb
     split at hs
     ·rename_i hbl
      simp only[l'a]at hs;subst hs;have hk:S.clauses.length<2*most:=by omega
      have ok1:∀l∈S.watchers.set y.left (a++[S.clauses.length]),l.length<=most∧∀k∈l,k<2*most:=by
       intro l hl;rcases List.mem_or_eq_of_mem_set hl with hl|rfl
       ·exact B.wl l hl
       ·refine⟨by simp;omega,λj hj=>?_⟩;rcases l'E.1 hj with hj|hj
        ·exact (B.wl a (getElem?_mem ha)).2 j hj
        ·simp at hj;subst hj;exact hk
      refine⟨⟨?_,by simp;omega,by simpa using B.nW,B.nH,B.nV,B.nS,B.nT,B.nA,B.nK,?_,B.tr,B.st,B.asm,B.vr,B.gv,B.dr,B.bo,B.me⟩,rfl,rfl,rfl,rfl,rfl,rfl,rfl,rfl,rfl⟩
      ·intro z hz;rcases l'E.1 hz with hz|hz
       ·exact B.cls z hz
       ·simp at hz;subst hz;exact hy
      ·intro l hl;rcases List.mem_or_eq_of_mem_set hl with hl|rfl
       ·exact ok1 l hl
       ·refine⟨by simp;omega,λj hj=>?_⟩;rcases l'E.1 hj with hj|hj
        ·exact (ok1 b (getElem?_mem hb)).2 j hj
        ·simp at hj;subst hj;exact hk
     ·simp at hs
   ·simp at hs
 ·simp at hs
theorem unset_len: ∀(l:List Nat)(h h':List Bool),unset l h=some h'->h'.length=h.length:=by
 intro l
 induction l with
 | nil=>intro h h' e;simp[unset]at e;rw[e]
 | cons a l ih=>
  intro h h' e;simp only[unset]at e;split at e
  ·rw[ih _ _ e];simp
  ·simp at e
theorem backP_bd {S S':Srch}{lev:Nat}(hs:backP S lev=some S')(B:Bd S): Bd S'∧S'.clauses=S.clauses∧S'.watchers=S.watchers∧S'.vars=S.vars∧S'.assumed=S.assumed∧S'.core=S.core∧S'.met=S.met∧S'.given=S.given:=by
 have hm:most=1000000:=rfl;unfold backP at hs;split at hs
 ·simp only[l'a]at hs;subst hs;exact⟨B,rfl,rfl,rfl,rfl,rfl,rfl,rfl⟩
 ·rename_i s hst
  split at hs
  ·rename_i hle
   split at hs
   ·simp at hs
   ·rename_i h' hu
    simp only[l'a]at hs;subst hs;have hl:=unset_len _ _ _ hu;have hnT:=B.nT;refine⟨⟨B.cls,B.nC,B.nW,by show h'.length<most;rw[hl];exact B.nH,B.nV,?_,?_,B.nA,B.nK,B.wl,?_,?_,B.asm,B.vr,B.gv,by show s<=2*most;omega,B.bo,B.me⟩,rfl,rfl,rfl,rfl,rfl,rfl,rfl⟩
    ·have:=B.nS;show (S.starts.take lev).length<=most;simp;omega
    ·show (S.trail.take s).length<=most;simp;omega
    ·intro l hl;exact B.tr l (List.mem_of_mem_take hl)
    ·intro l hl;exact B.st l (List.mem_of_mem_take hl)
  ·simp at hs
end Go.Ta
namespace Go.Ta
theorem markP_keep: ∀(l:List Nat)(S S':Srch) (n:Nat),markP l S=some (S',n)->S'.trail=S.trail∧S'.starts=S.starts∧S'.clauses=S.clauses∧S'.assumed=S.assumed∧S'.core=S.core∧S'.met=S.met∧S'.given=S.given∧S'.holds=S.holds∧S'.watchers=S.watchers∧S'.drawn=S.drawn∧S'.bonus=S.bonus:=by
 intro l
 induction l with
 | nil=>intro S S' n h;simp[markP]at h;rw[h.1];simp
 | cons a l ih=>
  intro S S' n h;simp only[markP]at h;split at h
  ·simp at h
  ·split at h
   ·exact ih _ _ _ h
   ·split at h
    ·split at h
     ·simp at h
     ·rename_i q1 m hm
      simp only[l'a,l'd]at h;obtain⟨rfl,_⟩:=h;have:=ih _ _ _ hm;simpa using this
    ·simp at h
theorem traceP_keep: ∀(d:Nat)(S S':Srch) (op:Int) (pos:Nat),traceP d S op=some (S',pos)->S'.trail=S.trail∧S'.starts=S.starts∧S'.clauses=S.clauses∧S'.assumed=S.assumed∧S'.core=S.core∧S'.met=S.met∧S'.given=S.given∧S'.holds=S.holds∧S'.watchers=S.watchers∧S'.drawn=S.drawn∧S'.bonus=S.bonus:=by
 intro d
 induction d with
 | zero=>intro S S' op pos h;simp[traceP]at h;rw[h.1];simp
 | succ d ih=>
  intro S S' op pos h;simp only[traceP]at h;split at h
  ·simp at h
  ·split at h
   ·simp at h
   ·split at h
    ·split at h
     ·simp only[l'a,l'd]at h;rw[h.1];simp
     ·split at h
      ·simp only[l'a,l'd]at h;rw[h.1];simp
      ·split at h
       ·simp at h
       ·split at h
        ·simp at h
        ·rename_i q1 m hm
         split at h
         ·have h1:=ih _ _ _ _ h;have h2:=markP_keep _ _ _ _ hm;obtain⟨a1,a2,a3,a4,a5,a6,a7,a8,a9,a10,a11⟩:=h1;obtain⟨b1,b2,b3,b4,b5,b6,b7,b8,b9,b10,b11⟩:=h2;exact⟨a1.trans b1,a2.trans b2,a3.trans b3,a4.trans b4,a5.trans b5,a6.trans b6,a7.trans b7,a8.trans b8,a9.trans b9,a10.trans b10,a11.trans b11⟩
         ·simp at h
    ·exact ih _ _ _ _ h
end Go.Ta
namespace Go.Proofs.YtimdkminagnhgaaGreatDoor
open Go.Vm Go.Proofs Go.Ta
set_option maxHeartbeats 4000000
attribute [local simp] cSeq cReg reg to too onlyIf onlyIfo aMove mv' nl' fl' ld' ln' mk' ia' ik' ix' aNil aFld aLd aInt aPick aConv aUn unA ev upd_get isB envOf iA_add iA_sub iA_mul iA_eql iA_neq iA_lss iA_leq iA_gtr iA_geq cIf cRet cSkip okc_some aSt vc_int vc_bool vc_agg vc_str vc_ptr vc_sl ft_int ft_bool ft_str ft_ptr ft_sl tp_int tp_bool tp_agg tp_str tp_ptr tp_sl aBuild Instr.fill aCall cExit cBlk outOf ptr undef aNew aBox aIdxArr aLdN aShift aLenSl aIdx aMkSl aApp rangeA aExt aPtrNil aSlNil aBoolEq aMake aSliceSl boundA chk
section
variable {H:Type}{O:HI H}{ro:Nat}{c:CallT H}
variable {w w':Own}{h h':H}{q:Nat}{S:Srch}{bW bH bV:Nat}{vA vC vT vS vK:Value}{lv wv:List Value}
theorem SQ.setT (L:O.Law)(x:SQ O ro w h q S bW bH bV vA vC vT vS vK lv wv){l:List Nat}{v:Value}(s:Sz O ro w h (11,7) 1 v (l.map ni)):
  ∃h1,putsA O h q 7 [v]=some h1∧SQ O ro w h1 q { S with trail:=l } bW bH bV vA vC v vS vK lv wv∧Ch O K11 w h w h1:=by
 have c2:=Ch.put L (K:=λu=>u=(11,1000)) x.m 7 (by simp) v rfl;have m2:=x.m.put L 7 (by simp) v;exact⟨_,puts_one (x.m.get 7 _ rfl),⟨m2,x.sA.ch L c2,x.sC.ch L c2,x.lC,λk y v h1 h2=>(x.aC k y v h1 h2).ch L c2,x.xW.ch L c2,x.lW,λi l v h1 h2=>(x.aW i l v h1 h2).ch L c2,x.xH.ch L c2,x.xV.ch L c2,s.ch L c2,x.sS.ch L c2,x.sK.ch L c2,l'G x.lo c2.nx⟩,c2.mono (by rintro u rfl;exact .inl rfl)⟩
theorem SQ.setS (L:O.Law)(x:SQ O ro w h q S bW bH bV vA vC vT vS vK lv wv){l:List Nat}{v:Value}(s:Sz O ro w h (11,8) 1 v (l.map ni)):
  ∃h1,putsA O h q 8 [v]=some h1∧SQ O ro w h1 q { S with starts:=l } bW bH bV vA vC vT v vK lv wv∧Ch O K11 w h w h1:=by
 have c2:=Ch.put L (K:=λu=>u=(11,1000)) x.m 8 (by simp) v rfl;have m2:=x.m.put L 8 (by simp) v;exact⟨_,puts_one (x.m.get 8 _ rfl),⟨m2,x.sA.ch L c2,x.sC.ch L c2,x.lC,λk y v h1 h2=>(x.aC k y v h1 h2).ch L c2,x.xW.ch L c2,x.lW,λi l v h1 h2=>(x.aW i l v h1 h2).ch L c2,x.xH.ch L c2,x.xV.ch L c2,x.sT.ch L c2,s.ch L c2,x.sK.ch L c2,l'G x.lo c2.nx⟩,c2.mono (by rintro u rfl;exact .inl rfl)⟩
theorem SQ.appC (L:O.Law)(x:SQ O ro w h q S bW bH bV vA vC vT vS vK lv wv)(y:Cl){vl:Value}(ht:S.clauses.length<most)(sl:Sm O ro w h (9,0) 1 vl (y.lits.map ni)):
  ∃vC' h1 h2 w2,appI O ro 4 48 vC (.slice (some ⟨O.next h,0,some 4⟩) 1 2) (O.new h [vl,ni y.left,ni y.right,ni y.span])=some (vC',h1)∧putsA O h1 q 1 [vC']=some h2∧isFlat vC'=true∧vC'.cells = #[vC'] ∧
   SQ O ro w2 h2 q { S with clauses:=S.clauses++[y] } bW bH bV vA vC' vT vS vK (lv++[vl]) wv∧Ch O K11 w h w2 h2:=by
 have hm:most=1000000:=rfl;have hlen:((lv.zip S.clauses).flatMap clC).length=S.clauses.length*4:=by rw[flat_len clC 4 clC_len];simp[x.lC]
 obtain⟨vT',h1,w1,e1,s1,c1,lo1⟩:=appM_one (bytes:=48) L x.lo x.sC.m (by omega) (show [vl,ni y.left,ni y.right,ni y.span].length=4 from rfl) (by omega) (by omega);have m1:=x.m.ch L c1;have c2:=Ch.put L (K:=λu=>u=(11,1000)) m1 1 (by simp) vT' rfl;have m2:=m1.put L 1 (by simp) vT';obtain⟨f1,f2,f3⟩:=s1.m.flat;have hz:(lv.zip S.clauses).flatMap clC++[vl,ni y.left,ni y.right,ni y.span]=((lv++[vl]).zip (S.clauses++[y])).flatMap clC:=by
  rw[List.zip_append x.lC,List.flatMap_append];simp[clC]
 refine⟨vT',h1,_,w1,e1,puts_one (m1.get 1 _ rfl),f2,f1,⟨m2,?_,?_,by simp[x.lC],λk z v g1 g2=>?_,?_,x.lW,λi l v h1 h2=>?_,?_,?_,?_,?_,?_,?_⟩,?_⟩
 ·exact (x.sA.ch L c1).ch L c2
 ·rw[hz]at s1;exact s1.ch L c2
 ·by_cases hk:k<S.clauses.length
  ·rw[l'e hk]at g1;rw[l'e (by rw[x.lC];exact hk)]at g2;exact ((x.aC k z v g1 g2).ch L c1).ch L c2
  ·have hk2:k=S.clauses.length:=by
    have:=(l'b.1 g1).1;simp at this;omega
   subst hk2;simp at g1;rw[<-x.lC]at g2;simp at g2;subst g1 g2;exact (sl.ch L c1).ch L c2
 ·exact (x.xW.ch L c1).ch L c2
 ·exact ((x.aW i l v h1 h2).ch L c1).ch L c2
 ·exact (x.xH.ch L c1).ch L c2
 ·exact (x.xV.ch L c1).ch L c2
 ·exact (x.sT.ch L c1).ch L c2
 ·exact (x.sS.ch L c1).ch L c2
 ·exact (x.sK.ch L c1).ch L c2
 ·exact l'G lo1 c2.nx
 ·exact (c1.mono (by rintro u rfl;exact .inl rfl)).trans (c2.mono (by rintro u rfl;exact .inl rfl))
theorem attach_q (C:LP' O ro c)(L:O.Law)(x:SQ O ro w h q S bW bH bV vA vC vT vS vK lv wv)(B:Bd S)(y:Cl){vl:Value}(hy:y.Ok)(sl:Sm O ro w h (9,0) 1 vl (y.lits.map ni)){S':Srch}(hs:attachP S y=some S'):
  ∃vC' wv' h' w',c 207 [ptr q,.agg #[vl,ni y.left,ni y.right,ni y.span]] h=some (.tuple #[],h')∧SQ O ro w' h' q S' bW bH bV vA vC' vT vS vK (lv++[vl]) wv'∧Ch O K11 w h w' h'∧Bd S':=by
 have hm:most=1000000:=rfl;have hbd:=(attachP_bd hs B hy).1;unfold attachP at hs
 by_cases hlt:S.clauses.length<most
 ·rw[if_pos hlt]at hs;have y1:=Bx.new L (ro:=ro) w h x.lo (13,0) [vl,ni y.left,ni y.right,ni y.span];have c1:=Ch.new L K11 w h (13,0) [vl,ni y.left,ni y.right,ni y.span];have c1':=Ch.new L (λ_=>False) w h (13,0) [vl,ni y.left,ni y.right,ni y.span];have x1:=x.ch L c1';have s1:=sl.ch L c1';obtain⟨vC',h2,h3,w2,e2,p2,f2,g2,x3,c3⟩:=x1.appC L y hlt s1;have hnW:=B.nW;obtain⟨wv',h4,w4,e4,x4,c4⟩:=enter_q C L x3 S.clauses.length hs (by simp;omega) hnW;refine⟨vC',wv',h4,w4,?_,x4,(c1.trans c3).trans c4,hbd⟩;refine C.eq (F207_fn O ro) rfl rfl ?_;unfold F207;have hall:=y1.all;obtain⟨fl1,fl2,fl3⟩:=sl.flat;have m1:=x1.m.get 1 _ rfl;have n1:=x3.m.get 1 _ rfl;obtain⟨aC,cC,hvC⟩:=x3.sC.m.len (by omega) (S.clauses.length+1) (by rw[flat_len clC 4 clC_len];simp[x.lC]);have hw:IntKind.i64.wrap (((S.clauses.length+1:Nat):Int)-1)=(S.clauses.length:Int):=w'i;have rq:¬q<ro:=by have:=x.m.lo;omega
  have ln:=L.next_new h [vl,ni y.left,ni y.right,ni y.span];unfold ptr at e4;obtain⟨z,hz⟩:=e' (S.clauses.length+1);rw[<-hz]at hvC hw;rw[hvC]at n1;refine s'f ?_;simp[ZhF,thenE];refine s'f ?_;simp at hall;have hr4:List.range 4=[0,1,2,3]:=rfl;simp[ZhG,thenE,m1,hall,fl1,fl2,rq,hr4,e2,p2,f2,g2];refine f'f ?_;simp[ZhH,n1,hw,e4,resE,resLE,rvE]
 ·rw[if_neg hlt]at hs;simp at hs
def wgt (v:Vr): Vr:={ v with weight:=v.weight/68719476736 }
def RaI (O:HI H)(ro:Nat)(w:Own)(h:H)(q bW bH bV:Nat)(vA vC vT vS vK:Value)(lv wv:List Value)(S:Srch)(n:Nat)(t:Env)(g:H): Prop:=
 t 0 = .pointer (some ⟨q,0,none⟩)∧∃i,t 2=ni i∧i+n=S.vars.length∧SQ O ro w g q { S with vars:=(S.vars.take i).map wgt++S.vars.drop i } bW bH bV vA vC vT vS vK lv wv∧Ch O K11 w h w g
theorem raise1_q (L:O.Law)(B:Bd S){n:Nat}{t:Env}{g:H}(I:RaI O ro w h q bW bH bV vA vC vT vS vK lv wv S n t g):
  okE c (W226_0 O Tryz.prog ro) (t,g) (λe t' g'=>(e = .normal∧∃n',n'<n∧RaI O ro w h q bW bH bV vA vC vT vS vK lv wv S n' t' g')∨(e≠.normal∧(outOf 0 e = .normal∧SQ O ro w g' q { S with vars:=S.vars.map wgt } bW bH bV vA vC vT vS vK lv wv∧Ch O K11 w h w g'))):=by
 have hm:most=1000000:=rfl;have hm62:most62=4611686018427387904:=rfl;have hnV:=B.nV;obtain⟨d0,i,d2,hin,x1,c1⟩:=I;have m6:=x1.m.get 6 _ rfl;have hlen:((S.vars.take i).map wgt++S.vars.drop i).length=S.vars.length:=by simp;omega
 simp only[hlen]at m6
 cases n with
 | zero=>
  obtain rfl:i=S.vars.length:=by omega
  refine f'f ?_;simp[W226_0,ZjZ,d0,d2,m6];refine⟨?_,c1⟩;simp only[List.take_length,List.drop_length,List.append_nil]at x1;exact x1
 | succ n=>
  have hi:i<S.vars.length:=by omega
  have hi':(i:Int)<S.vars.length:=by omega
  obtain⟨v,hv⟩:∃v,S.vars[i]?=some v:=⟨_,l'c hi⟩;have hh:=half_at (f:=wgt) hv;have hwt:=(B.vr v (getElem?_mem hv)).weight;have k3:=x1.getV i hh.1 3 (by omega);simp only[vrC,l'x,l'w,Nat.add_zero]at k3;obtain⟨h2,p2,x2,c2⟩:=x1.putV L i hh.1 3 (by omega) (ni (v.weight/68719476736)) (wgt v) rfl;rw[hh.2]at x2;have hq:=iA_quoN v.weight 68719476736 (by omega) (by omega);have hwi:=w'1 i;obtain⟨i',hi2⟩:=e' (i+1);obtain⟨d,hd⟩:=e' (v.weight/68719476736);rw[<-hi2]at hwi x2;rw[<-hd]at p2 hq;have rV:¬bV<ro:=by have:=x1.xV.lo;omega
  have hq':intA .quo .i64 (v.weight:Int) 68719476736=some (ni d):=hq;refine f'f ?_;simp[W226_0,ZjZ,Zj0,Zj1,d0,d2,m6,hi,hi',rV,k3,hq',p2,hwi];exact⟨n,by omega,by simp[d0],i',by simp,by omega,x2,c1.trans c2⟩
theorem raise_q (C:LP' O ro c)(L:O.Law)(x:SQ O ro w h q S bW bH bV vA vC vT vS vK lv wv)(B:Bd S){S':Srch}(hs:raiseP S=some S'):
  ∃h',c 226 [ptr q] h=some (.tuple #[],h')∧SQ O ro w h' q S' bW bH bV vA vC vT vS vK lv wv∧Ch O K11 w h w h'∧Bd S'∧S'.clauses=S.clauses∧S'.trail=S.trail∧S'.starts=S.starts∧S'.given=S.given:=by
 have hm:most=1000000:=rfl;have hm62:most62=4611686018427387904:=rfl;have hbo:=B.bo;unfold raiseP at hs;simp only at hs;split at hs
 ·rename_i hb62
  have m10:=x.m.get 10 _ rfl;have hq:=iA_quoN S.bonus 16 (by omega) (by omega);have hw:IntKind.i64.wrap ((S.bonus:Int)+((S.bonus/16:Nat):Int))=((S.bonus+S.bonus/16:Nat):Int):=w'i;obtain⟨d,hd⟩:=e' (S.bonus/16);rw[<-hd]at hw hq hs hb62;obtain⟨b,hb⟩:=e' (S.bonus+d);rw[<-hb]at hw hs hb62;have hq':intA .quo .i64 (S.bonus:Int) 16=some (ni d):=hq;obtain⟨h1,p1,x1,c1⟩:=x.fld L 10 (by omega) (ni b) (g:=S.given) (d:=S.drawn) (b:=b) (m:=S.met) rfl;have n10:=x1.m.get 10 _ rfl;have rq:¬q<ro:=by have:=x.m.lo;omega
  have B1:Bd { S with bonus:=b }:=⟨B.cls,B.nC,B.nW,B.nH,B.nV,B.nS,B.nT,B.nA,B.nK,B.wl,B.tr,B.st,B.asm,B.vr,B.gv,B.dr,hb62,B.me⟩
  by_cases hle:b<=1099511627776
  ·rw[if_pos hle]at hs;simp only[l'a]at hs;subst hs;refine⟨h1,?_,x1,c1,B1,rfl,rfl,rfl,rfl⟩;have hle':(b:Int)<=1099511627776:=by omega
   refine C.eq (F226_fn O ro) rfl rfl ?_;unfold F226;refine s'f ?_;simp[ZjV,thenE,m10,hq',hw,p1,rq];refine okE.seq (s'f ?_);simp[ZjW,thenE,n10,hle,hle'];refine f'f ?_;simp[thenE,resE,resLE,rvE]
  ·rw[if_neg hle]at hs;simp only[l'a]at hs;have hle':¬(b:Int)<=1099511627776:=by omega
   have hq2:=iA_quoN b 68719476736 (by omega) (by omega);have hdl:b/68719476736<=b:=Nat.div_le_self _ _;obtain⟨e,he⟩:=e' (b/68719476736);rw[<-he]at hq2 hs hdl;have hq3:intA .quo .i64 (b:Int) 68719476736=some (ni e):=hq2;obtain⟨h2,p2,x2,c2⟩:=x1.fld L 10 (by omega) (ni e) (g:=S.given) (d:=S.drawn) (b:=e) (m:=S.met) rfl;have B2:Bd { S with bonus:=e }:=⟨B.cls,B.nC,B.nW,B.nH,B.nV,B.nS,B.nT,B.nA,B.nK,B.wl,B.tr,B.st,B.asm,B.vr,B.gv,B.dr,by show e<most62;omega,B.me⟩;have B3:Bd S':=by
    subst hs;refine⟨B.cls,B.nC,B.nW,B.nH,by simpa using B.nV,B.nS,B.nT,B.nA,B.nK,B.wl,B.tr,B.st,B.asm,?_,B.gv,B.dr,by show e<most62;omega,B.me⟩;intro v hv;simp only[List.mem_map]at hv;obtain⟨v0,hv0,rfl⟩:=hv;have h0:=B.vr v0 hv0;exact⟨Nat.lt_of_le_of_lt (Nat.div_le_self _ _) h0.weight,h0.reason,h0.level⟩
   have key:∃u h',c 226 [ptr q] h=some (u,h')∧(u = .tuple #[]∧SQ O ro w h' q S' bW bH bV vA vC vT vS vK lv wv∧Ch O K11 w h w h'):=by
    refine C.fn (F226_fn O ro) rfl rfl ?_;unfold F226;refine s'f ?_;simp[ZjV,thenE,m10,hq',hw,p1,rq];refine okE.seq (s'f ?_);simp[ZjW,thenE,n10,hle,hle'];refine f'f ?_;simp[thenE];refine s'f ?_;simp[ZjX,thenE,n10,hq3,p2,rq];refine s'f ?_;simp[ZjY,thenE];refine okE.blk ?_;refine okE.mono (okE.loop (Q:=λe' t' g'=>outOf 0 e' = .normal∧SQ O ro w g' q { S with bonus:=e,vars:=S.vars.map wgt } bW bH bV vA vC vT vS vK lv wv∧Ch O K11 w h w g') (RaI O ro w h q bW bH bV vA vC vT vS vK lv wv { S with bonus:=e }) (λn t g I=>raise1_q L B2 I) S.vars.length _ _ ⟨by simp,0,by simp,by simp,by simpa using x2,c1.trans c2⟩) ?_;rintro e' t g ⟨hr,hq1,hq2⟩;rw[hr];simp[resE,resLE,rvE];exact⟨by rw[<-hs];exact hq1,hq2⟩
   obtain⟨u,h',e1,rfl,e2,e3⟩:=key;exact⟨h',e1,e2,e3,B3,by subst hs;rfl,by subst hs;rfl,by subst hs;rfl,by subst hs;rfl⟩
 ·simp at hs
def BkI (O:HI H)(ro:Nat)(w:Own)(h:H)(q bW bH bV:Nat)(vA vC vT vS vK:Value)(lv wv:List Value)(S:Srch)(lev s:Nat)(hf:List Bool)(n:Nat)(t:Env)(g:H): Prop:=
 t 0 = .pointer (some ⟨q,0,none⟩)∧t 1=ni lev∧t 4=ni s∧∃i hh,t 5=ni i∧i+n=S.trail.length∧unset (S.trail.drop i) hh=some hf∧hh.length=S.holds.length∧SQ O ro w g q { S with holds:=hh } bW bH bV vA vC vT vS vK lv wv∧Ch O K11 w h w g
theorem back1_q (L:O.Law)(B:Bd S){lev s:Nat}{hf:List Bool}{n:Nat}{t:Env}{g:H}(I:BkI O ro w h q bW bH bV vA vC vT vS vK lv wv S lev s hf n t g):
  okE c (W227_0 O Tryz.prog ro) (t,g) (λe t' g'=>(e = .normal∧∃n',n'<n∧BkI O ro w h q bW bH bV vA vC vT vS vK lv wv S lev s hf n' t' g')∨(e≠.normal∧(outOf 0 e = .normal∧t' 0 = .pointer (some ⟨q,0,none⟩)∧t' 1=ni lev∧t' 4=ni s∧SQ O ro w g' q { S with holds:=hf } bW bH bV vA vC vT vS vK lv wv∧Ch O K11 w h w g'))):=by
 have hm:most=1000000:=rfl;have hnT:=B.nT;obtain⟨d0,d1,d4,i,hh,d5,hin,hu,hhl,x1,c1⟩:=I;have m7:=x1.m.get 7 _ rfl;have m5:=x1.m.get 5 _ rfl
 cases n with
 | zero=>
  obtain rfl:i=S.trail.length:=by omega
  simp only[List.drop_length,unset,l'a]at hu;subst hu;obtain⟨aT,cT,hvT⟩:=x1.sT.m.len (by omega) S.trail.length (by simp);rw[hvT]at m7;refine f'f ?_;simp[W227_0,Zj5,d0,d1,d4,d5,m7];exact⟨x1,c1⟩
 | succ n=>
  have hi:i<S.trail.length:=by omega
  have hi':(i:Int)<S.trail.length:=by omega
  obtain⟨l,hl⟩:∃l,S.trail[i]?=some l:=⟨_,l'c hi⟩;obtain⟨bT,hvT,hcell⟩:=x1.getT i hl;have hdrop:S.trail.drop i=l :: S.trail.drop (i+1):=by
   have:=(l'b.1 hl).2;rw[<-this];exact l's hi
  rw[hdrop]at hu;simp only[unset]at hu;split at hu
  ·rename_i hlt
   have hlt':(l:Int)<hh.length:=by omega
   obtain⟨h2,p2,x2,c2⟩:=x1.putH L l hlt false;have hwi:=w'1 i;obtain⟨i',hi2⟩:=e' (i+1);rw[<-hi2]at hwi hu;have rH:¬bH<ro:=by have:=x1.xH.lo;omega
   rw[hvT]at m7;refine f'f ?_;simp[W227_0,Zj5,Zj6,Zj7,d0,d1,d4,d5,m7,m5,hi,hi',hcell,hlt,hlt',rH,p2,hwi];exact⟨n,by omega,by simp[d0],by simp[d1],by simp[d4],i',_,by simp,by omega,hu,by simp[hhl],x2,c1.trans c2⟩
  ·simp at hu
theorem back_q (C:LP' O ro c)(L:O.Law)(x:SQ O ro w h q S bW bH bV vA vC vT vS vK lv wv)(B:Bd S){lev:Nat}(hlev:lev<=most){S':Srch}(hs:backP S lev=some S'):
  ∃vT' vS' h',c 227 [ptr q,ni lev] h=some (.tuple #[],h')∧SQ O ro w h' q S' bW bH bV vA vC vT' vS' vK lv wv∧Ch O K11 w h w h':=by
 have hm:most=1000000:=rfl;have hnS:=B.nS;have hnT:=B.nT;unfold backP at hs;have m8:=x.m.get 8 _ rfl;obtain⟨aS,cS,hvS⟩:=x.sS.m.len (by omega) S.starts.length (by simp)
 cases hst:S.starts[lev]? with
 | none=>
  rw[hst]at hs;simp only[l'a]at hs;subst hs;have hle:S.starts.length<=lev:=by
   by_cases hh:S.starts.length<=lev
   ·exact hh
   ·rw[l'c (by omega)]at hst;simp at hst
  have hle':(S.starts.length:Int)<=lev:=by omega
  refine⟨vT,vS,h,?_,x,Ch.refl _ _ _⟩;rw[hvS]at m8;refine C.eq (F227_fn O ro) rfl rfl ?_;unfold F227;refine okE.seq (s'f ?_);simp[Zj2,thenE,m8,hle,hle'];refine f'f ?_;simp[thenE,resE,resLE,rvE]
 | some s=>
  rw[hst]at hs;simp only at hs;have hlt:=(l'b.1 hst).1;have hlt':(lev:Int)<S.starts.length:=by omega
  have hle:¬S.starts.length<=lev:=by omega
  have hle':¬(S.starts.length:Int)<=lev:=by omega
  split at hs
  ·rename_i hst2
   split at hs
   ·simp at hs
   ·rename_i hf hu
    simp only[l'a]at hs;subst hs;obtain⟨bS,hvS2,yS⟩:=x.sS.blk (by omega) S.starts.length (by simp) (by omega);have hcS:O.cell h bS lev=some (ni s):=by rw[yS.cell lev (by simpa using hlt)];simp[hst]
    subst hvS2;have key:∃u h',c 227 [ptr q,ni lev] h=some (u,h')∧(u = .tuple #[]∧∃vT' vS',SQ O ro w h' q { S with holds:=hf,trail:=S.trail.take s,starts:=S.starts.take lev,drawn:=s } bW bH bV vA vC vT' vS' vK lv wv∧Ch O K11 w h w h'):=by
     refine C.fn (F227_fn O ro) rfl rfl ?_;unfold F227;refine okE.seq (s'f ?_);simp[Zj2,thenE,m8,hle,hle'];refine f'f ?_;simp[thenE];refine s'f ?_;simp[Zj3,thenE,m8,hlt,hlt',hcS];refine okE.seq (s'f ?_);simp[Zj4,thenE];refine okE.blk ?_;refine okE.mono (okE.loop (Q:=λe t' g'=>outOf 0 e = .normal∧t' 0 = .pointer (some ⟨q,0,none⟩)∧t' 1=ni lev∧t' 4=ni s∧SQ O ro w g' q { S with holds:=hf } bW bH bV vA vC vT _ vK lv wv∧Ch O K11 w h w g') (BkI O ro w h q bW bH bV vA vC vT _ vK lv wv S lev s hf) (λn t g I=>back1_q L B I) (S.trail.length-s) _ _ ⟨by simp,by simp,by simp,s,S.holds,by simp,by omega,hu,rfl,x,Ch.refl _ _ _⟩) ?_;rintro e t g ⟨hr,d0,d1,d4,x1,c1⟩;rw[hr];simp only[thenE];have n7:=x1.m.get 7 _ rfl;have rq:¬q<ro:=by have:=x.m.lo;omega
     have hs1:(s:Int)<=S.trail.length:=by omega
     have hl1:(lev:Int)<=S.starts.length:=by omega
     have hl2:lev<=S.starts.length:=by omega
     rcases x1.sT.take (by omega) S.trail.length s (by simp) hst2 with ⟨h1,h2z,h3,h4⟩|⟨bT,h1,hv7⟩
     ·subst h1;have hv7:Sz O ro w g (11,7) 1 (.slice none 0 0) ((S.trail.take s).map ni):=.inl ⟨rfl,by rw[h2z];rfl⟩;have hs00:(s:Int)=0:=by omega
      clear h3 h4;obtain⟨h2,p2,x2,c2⟩:=x1.setT L hv7;have n8:=x2.m.get 8 _ rfl;obtain⟨h3,p3,x3,c3⟩:∃h3,putsA O h2 q 8 [.slice (some ⟨bS,0,some 1⟩) lev 0]=some h3∧SQ O ro w h3 q { S with holds:=hf,trail:=S.trail.take s,starts:=S.starts.take lev } bW bH bV vA vC (.slice none 0 0) (.slice (some ⟨bS,0,some 1⟩) lev 0) vK lv wv∧Ch O K11 w h2 w h3:=by
       have s8:Sz O ro w h2 (11,8) 1 (.slice (some ⟨bS,0,some 1⟩) lev 0) ((S.starts.take lev).map ni):=by
        rcases x2.sS.take (by omega) S.starts.length lev (by simp) hl2 with ⟨h1,h2,h3,h4⟩|⟨bT,h1,h2⟩
        ·simp at h1
        ·simp only[Value.slice.injEq,l'a,Addr.mk.injEq,and_true,true_and]at h1;subst h1;simpa using h2
       exact x2.setS L s8
      obtain⟨h4,p4,x4,c4⟩:=x3.fld L 9 (by omega) (ni s) (g:=S.given) (d:=s) (b:=S.bonus) (m:=S.met) rfl;have c14:=((c1.trans c2).trans c3).trans c4;clear x x1 x2 x3 c1 c2 c3 c4;refine f'f ?_;simp[Zj8,Zj9,Zka,d0,d1,d4,n7,n8,rq,hs1,hst2,hl1,hl2,p2,p3,p4,resE,resLE,rvE,eq_true h2z];exact⟨⟨_,_,x4⟩,c14⟩
     ·subst h1;have hv7:Sz O ro w g (11,7) 1 (.slice (some ⟨bT,0,some 1⟩) s 0) ((S.trail.take s).map ni):=by simpa using hv7
      obtain⟨h2,p2,x2,c2⟩:=x1.setT L hv7;have n8:=x2.m.get 8 _ rfl;obtain⟨h3,p3,x3,c3⟩:∃h3,putsA O h2 q 8 [.slice (some ⟨bS,0,some 1⟩) lev 0]=some h3∧SQ O ro w h3 q { S with holds:=hf,trail:=S.trail.take s,starts:=S.starts.take lev } bW bH bV vA vC (.slice (some ⟨bT,0,some 1⟩) s 0) (.slice (some ⟨bS,0,some 1⟩) lev 0) vK lv wv∧Ch O K11 w h2 w h3:=by
       have s8:Sz O ro w h2 (11,8) 1 (.slice (some ⟨bS,0,some 1⟩) lev 0) ((S.starts.take lev).map ni):=by
        rcases x2.sS.take (by omega) S.starts.length lev (by simp) hl2 with ⟨h1,h2,h3,h4⟩|⟨bT,h1,h2⟩
        ·simp at h1
        ·simp only[Value.slice.injEq,l'a,Addr.mk.injEq,and_true,true_and]at h1;subst h1;simpa using h2
       exact x2.setS L s8
      obtain⟨h4,p4,x4,c4⟩:=x3.fld L 9 (by omega) (ni s) (g:=S.given) (d:=s) (b:=S.bonus) (m:=S.met) rfl;have c14:=((c1.trans c2).trans c3).trans c4;clear x x1 x2 x3 c1 c2 c3 c4;refine f'f ?_;simp[Zj8,Zj9,Zka,d0,d1,d4,n7,n8,rq,hs1,hst2,hl1,hl2,p2,p3,p4,resE,resLE,rvE];exact⟨⟨_,_,x4⟩,c14⟩
    obtain⟨u,h',e1,rfl,vT',vS',e2,e3⟩:=key;exact⟨vT',vS',h',e1,e2,e3⟩
  ·simp at hs
def LnQ (O:HI H)(ro:Nat)(w:Own)(h:H)(q bW bH bV:Nat)(vA vK:Value)(S':Srch)(g:H): Prop:=
 ∃vC' vT' vS' lv' wv' w',SQ O ro w' g q S' bW bH bV vA vC' vT' vS' vK lv' wv'∧Ch O K11 w h w' g∧Bd S'
theorem learn_q (C:LP' O ro c)(L:O.Law)(x:SQ O ro w h q S bW bH bV vA vC vT vS vK lv wv)(B:Bd S){k:Nat}{S':Srch}(hs:learnP S k=some S'):
  ∃h',c 213 [ptr q,ni k] h=some (.tuple #[],h')∧LnQ O ro w h q bW bH bV vA vK S' h':=by
 have hm:most=1000000:=rfl;have key:∃u h',c 213 [ptr q,ni k] h=some (u,h')∧(u = .tuple #[]∧LnQ O ro w h q bW bH bV vA vK S' h'):=by
  refine C.fn (F213_fn O ro) rfl rfl ?_;unfold learnP at hs;split at hs
  ·simp at hs
  rename_i y hy
  split at hs
  ·simp at hs
  rename_i S1 n h1
  split at hs
  ·simp at hs
  rename_i S2 pos h2
  split at hs
  ·simp at hs
  rename_i lits h3
  split at hs
  ·simp at hs
  rename_i span h4
  split at hs
  ·simp at hs
  rename_i S3 h5
  have ht0:1<=S.trail.length:=by
   have a1:=(markP_keep _ _ _ _ h1).1;have a2:=(traceP_keep _ _ _ _ _ h2).1;unfold barP at h3;split at h3
   ·simp at h3
   ·rename_i l hl
    have:=(l'b.1 hl).1;rw[a2,a1]at this;omega
  obtain⟨g1,e1,hpos,x1,c1,B1,hst1,hcl1,htr1⟩:=trace_q C L x B hy h1 h2 ht0;obtain⟨vl,g2,w2,e2,x2,c2,sl2,hln,hlm⟩:=bar_q C L x1 B1 h3;obtain⟨e3,hspan⟩:=span_q C L x2 B1 hlm hln sl2 h4;obtain⟨g4,e4,x4,c4,B4⟩:=clear_q C L x2 B1;obtain⟨g5,e5,x5,c5,B5,-⟩:=raise_q C L x4 B4 h5;have c15:Ch O K11 w h w2 g5:=((c1.trans (c2.mono (by simp))).trans c4).trans c5;have sl5:=(sl2.ch L c4 (by simp[K11])).ch L c5 (by simp[K11]);clear x x1 x2 x4 c1 c2 c4 c5;unfold ptr at e1 e2 e3 e4 e5;unfold F213;refine s'f ?_;simp[Ziz,thenE,e1];refine s'f ?_;simp[ZiA,thenE,e2];refine s'f ?_;simp[ZiB,thenE,e3];refine s'f ?_;simp[ZiC,thenE,e4];refine s'f ?_;simp[ZiD,thenE,e5];split at hs
  ·simp at hs
  ·rename_i a
   obtain⟨bL,cp,hvl,hcp,yl⟩:=sl5.blk (by omega) 1 (by simp) (by omega);subst hvl;split at hs
   ·simp at hs
   rename_i S6 h6
   obtain⟨vT6,vS6,g6,e6,x6,c6⟩:=back_q C L x5 B5 (lev:=0) (by omega) h6;have B6:=(backP_bd h6 B5).1;have sl6:=sl5.ch L c6 (by simp[K11]);obtain⟨bL',cp',hvl',hcp',yl'⟩:=sl6.blk (by omega) 1 (by simp) (by omega);simp only[Value.slice.injEq,l'a,Addr.mk.injEq,and_true,true_and]at hvl';obtain⟨rfl,rfl⟩:=hvl';have hc0:O.cell g6 bL 0=some (ni a):=by rw[yl'.cell 0 (by simp)];simp
   obtain⟨vT7,g7,w7,e7,x7,c7⟩:=set_q C L x6 a none hs B6.nV B6.nH;have B7:=(setP_bd hs B6 (by simp)).1;unfold ptr at e6 e7;simp only[rv]at e7;have e6':c 227 [.pointer (some ⟨q,0,none⟩),.int .i64 0] g5=some (.tuple #[],g6):=e6;refine s'f ?_;simp[ZiE,ZiF,ZiG,thenE,e6',hc0,e7,resE,resLE,rvE];exact⟨_,_,_,_,_,_,x7,(c15.trans c6).trans c7,B7⟩
  ·rename_i a r hne
   have hr:r≠[]:=by rintro rfl;exact hne rfl
   have hrl:0<r.length:=List.length_pos_iff.2 hr;split at hs
   ·simp at hs
   rename_i v hv
   split at hs
   ·simp at hs
   rename_i S6 h6
   split at hs
   ·rename_i hroom
    split at hs
    ·simp at hs
    rename_i S8 h8
    have hlast:(a :: r)[r.length]?=some (r.getLastD 0):=by
     obtain⟨z,hz⟩:∃z,r.length=z+1:=⟨r.length-1,by omega⟩;have h0:r.getLastD 0=(r[z]?).getD 0:=by rw[List.getLastD_eq_getLast?,List.getLast?_eq_getElem?,hz];rfl
     rw[hz,l'x,h0,l'c (by omega)];rfl
    obtain⟨la,hla⟩:=e' (r.getLastD 0);rw[<-hla]at hlast h8 hv;have hlam:=hlm la (getElem?_mem hlast);have ham:=hlm a (by simp);obtain⟨bL,cp,hvl,hcp,yl⟩:=sl5.blk (by omega) (r.length+1) (by simp) (by omega);subst hvl;have hcl:O.cell g5 bL r.length=some (ni la):=by
     rw[yl.cell _ (by simp),List.getElem?_map,hlast];rfl
    have hln':r.length+1<=most:=by simpa using hln
    have hw1:IntKind.i64.wrap (((r.length+1:Nat):Int)-1)=(r.length:Int):=w'i;obtain⟨ll,hll⟩:=e' (r.length+1);rw[<-hll]at hw1;have hne1:(((ll:Nat):Int)==1)=false:=by rw[l'A];omega
    have hne2:¬((ll:Nat)=1):=by omega
    have hlt1:r.length<ll:=by omega
    have hlt1':(r.length:Int)<ll:=by omega
    have h0l:(0:Int)<ll:=by omega
    have h0l2:0<ll:=by omega
    have lv0:=(l'b.1 hv).1;have lv':((la/2:Nat):Int)<S3.vars.length:=by omega
    have k0:=x5.getV (la/2) hv 0 (by omega);simp only[vrC,l'w,Nat.add_zero]at k0;have m6:=x5.m.get 6 _ rfl;have hsh:=shr_one la;obtain⟨vT6,vS6,g6,e6,x6,c6⟩:=back_q C L x5 B5 (B5.vr v (getElem?_mem hv)).level h6;have B6:=(backP_bd h6 B5).1;have sl6:=sl5.ch L c6 (by simp[K11]);have e7:=room_q C L x6 B6 hroom.1 hroom.2;obtain⟨vC8,wv8,g8,w8,e8,x8,c8,B8⟩:=attach_q C L x6 B6 ⟨a :: r,a,la,span⟩ ⟨hlm,hln,ham,hlam,hspan⟩ sl6 h8;have sl8:=sl6.ch L c8 (by simp[K11]);have c68:=(c15.trans c6).trans c8;have hnC8:=B8.nC;have hcl8:=(attachP_bd h8 B6 ⟨hlm,hln,ham,hlam,hspan⟩).2.1;have hcl8':1<=S8.clauses.length:=by rw[hcl8];simp
    obtain⟨vT9,g9,w9,e9,x9,c9⟩:=set_q C L x8 a (some (S8.clauses.length-1)) hs B8.nV B8.nH;have B9:=(setP_bd hs B8 (by intro k hk;simp at hk;omega)).1;obtain⟨bL6,cp6,hvl6,hcp6,yl6⟩:=sl6.blk (by omega) (r.length+1) (by simp) (by omega);obtain⟨bL8,cp8,hvl8,hcp8,yl8⟩:=sl8.blk (by omega) (r.length+1) (by simp) (by omega);simp only[Value.slice.injEq,l'a,Addr.mk.injEq,and_true,true_and]at hvl6 hvl8;obtain⟨rfl,rfl⟩:=hvl6;obtain⟨rfl,rfl⟩:=hvl8;have ha6:O.cell g6 bL 0=some (ni a):=by rw[yl6.cell 0 (by simp)];simp
    have ha8:O.cell g8 bL 0=some (ni a):=by rw[yl8.cell 0 (by simp)];simp
    have m81:=x8.m.get 1 _ rfl;obtain⟨aC,cC,hvC⟩:=x8.sC.m.len (by omega) S8.clauses.length (by rw[flat_len clC 4 clC_len];simp[x8.lC]);rw[hvC]at m81;have hw8:IntKind.i64.wrap ((S8.clauses.length:Int)-1)=((S8.clauses.length-1:Nat):Int):=w'i;unfold ptr at e6 e7 e8 e9;simp only[rv]at e9;rw[<-hll]at e8;obtain⟨z8,hz8⟩:=e' (S8.clauses.length-1);rw[<-hz8]at hw8 e9;have c9':=c68.trans c9;clear x5 x6 x8 c6 c8 c9 sl5 sl6 sl8 c68;rw[<-hll];refine okE.seq (s'f ?_);simp[ZiE,thenE,hne1,hne2];refine f'f ?_;simp[thenE];generalize la/2=dd at *;refine s'f ?_;simp[ZiH,thenE,hw1,hlt1,hlt1',hcl];refine s'f ?_;simp[ZiI,thenE,m6,hsh,lv0,lv',k0];refine s'f ?_;simp[ZiJ,thenE,e6];refine s'f ?_;simp[ZiK,thenE,e7];refine s'f ?_;simp[ZiL,thenE,h0l,h0l2,ha6,e8];refine f'f ?_;simp[ZiM,h0l,h0l2,ha8,m81,hw8,e9,resE,resLE,rvE];exact⟨_,_,_,_,_,_,x9,c9',B9⟩
   ·simp at hs
 obtain⟨u,h',e1,rfl,e2⟩:=key;exact⟨h',e1,e2⟩
def BmI (O:HI H)(ro:Nat)(w:Own)(h:H)(q bW bH bV:Nat)(vA vC vT vS:Value)(lv wv:List Value)(S0 S':Srch)(n:Nat)(t:Env)(g:H): Prop:=
 t 0 = .pointer (some ⟨q,0,none⟩)∧n<=S0.trail.length∧∃z S1 vK1 w1,t 4 = .int .i64 z∧z=(n:Int)-1∧blameL (S0.trail.take n).reverse S1=some S'∧SQ O ro w1 g q S1 bW bH bV vA vC vT vS vK1 lv wv∧Ch O K11 w h w1 g∧Bd S1∧S1.trail=S0.trail
def BmQ (O:HI H)(ro:Nat)(w:Own)(h:H)(q bW bH bV:Nat)(vA vC vT vS:Value)(lv wv:List Value)(S':Srch)(g:H): Prop:=
 ∃vK1 w1,SQ O ro w1 g q S' bW bH bV vA vC vT vS vK1 lv wv∧Ch O K11 w h w1 g∧Bd S'
theorem blame1_q (C:LP' O ro c)(L:O.Law){S0 S':Srch}{n:Nat}{t:Env}{g:H}(I:BmI O ro w h q bW bH bV vA vC vT vS lv wv S0 S' n t g):
  okE c (W212_0 O Tryz.prog ro) (t,g) (λe t' g'=>(e = .normal∧∃n',n'<n∧BmI O ro w h q bW bH bV vA vC vT vS lv wv S0 S' n' t' g')∨(e≠.normal∧(outOf 0 e = .normal∧BmQ O ro w h q bW bH bV vA vC vT vS lv wv S' g'))):=by
 have hm:most=1000000:=rfl;obtain⟨d0,hn,z,S1,vK1,w1,d4,hz,hbl,x1,c1,B1,htr⟩:=I
 cases n with
 | zero=>
  simp only[List.take_zero,List.reverse_nil,blameL,l'a]at hbl;subst hbl;have hz2:z = -1:=by omega
  subst hz2;refine f'f ?_;simp[W212_0,Zir,d0,d4];exact⟨_,_,x1,c1,B1⟩
 | succ i=>
  have hzi:z=(i:Int):=by omega
  subst hzi;clear hz;have hi:i<S0.trail.length:=by omega
  have hi':(i:Int)<S0.trail.length:=by omega
  obtain⟨l,hl⟩:∃l,S0.trail[i]?=some l:=⟨_,l'c hi⟩;have hrv:(S0.trail.take (i+1)).reverse=l :: (S0.trail.take i).reverse:=by
   rw[l'C,hl];simp
  rw[hrv]at hbl;simp only[blameL]at hbl;obtain⟨bT,hvT,hcell⟩:=x1.getT i (by rw[htr];exact hl);rw[htr]at hvT;subst hvT;have hnT:=B1.nT;rw[htr]at hnT;have hlm:=B1.tr l (by rw[htr];exact getElem?_mem hl);have hwd:IntKind.i64.wrap ((i:Int)-1)=(i:Int)-1:=w'j;have hsh:=shr_one l;have m1:=x1.m.get 1 _ rfl;have m6:=x1.m.get 6 _ rfl;have m7:=x1.m.get 7 _ rfl;have m12:=x1.m.get 12 _ rfl
  cases hv:S1.vars[l/2]? with
  | none=>rw[hv]at hbl;simp at hbl
  | some v=>
   rw[hv]at hbl;simp only at hbl;have lv0:=(l'b.1 hv).1;have lv':((l/2:Nat):Int)<S1.vars.length:=by omega
   have k1:=x1.getV (l/2) hv 1 (by omega);have k2:=x1.getV (l/2) hv 2 (by omega);simp only[vrC,l'x,l'w,Nat.add_zero]at k1 k2
   cases hmk:v.marked with
   | false=>
    rw[hmk]at hbl k2;simp only[l'y,if_false]at hbl;refine f'f ?_;generalize l/2=dd at *;simp[W212_0,Zir,Zis,Zit,Ziy,d0,d4,m7,m6,hi,hi',hcell,hsh,lv0,lv',k1,k2,hwd];exact⟨i,by omega,by simp[d0],by omega,_,S1,vK1,w1,by simp,rfl,hbl,x1,c1,B1,htr⟩
   | true=>
    rw[hmk]at hbl k2;simp only[if_true]at hbl
    cases hrs:v.reason with
    | none=>
     rw[hrs]at hbl k1;simp only at hbl;simp only[rv]at k1
     by_cases hlt:S1.core.length<most
     ·rw[if_pos hlt]at hbl;obtain⟨vK',h1,h2,w2,e2,p2,f2,g2,x2,c2⟩:=x1.appK L l hlt;have rq:¬q<ro:=by have:=x1.m.lo;omega
      have B2:Bd { S1 with core:=S1.core++[l] }:=⟨B1.cls,B1.nC,B1.nW,B1.nH,B1.nV,B1.nS,B1.nT,B1.nA,by simp;omega,B1.wl,B1.tr,B1.st,B1.asm,B1.vr,B1.gv,B1.dr,B1.bo,B1.me⟩;have c12:=c1.trans c2;clear c1 c2 x1;refine f'f ?_;generalize l/2=dd at *;simp[W212_0,Zir,Zis,Zit,Ziu,Ziv,Ziw,Ziy,d0,d4,m7,m6,m12,hi,hi',hcell,hsh,lv0,lv',k1,k2,hwd,e2,p2,f2,g2,rq];exact⟨i,by omega,by simp[d0],by omega,_,_,vK',w2,by simp,rfl,hbl,x2,c12,B2,htr⟩
     ·rw[if_neg hlt]at hbl;simp at hbl
    | some k=>
     rw[hrs]at hbl k1;simp only at hbl;simp only[rv]at k1;have ek:=rv_eq1 k
     cases hy:S1.clauses[k]? with
     | none=>rw[hy]at hbl;simp at hbl
     | some y=>
      rw[hy]at hbl;simp only at hbl;have hkl:=(l'b.1 hy).1;have hkl':(k:Int)<S1.clauses.length:=by omega
      have hY:=B1.cls y (getElem?_mem hy);obtain⟨bC,vl,hvC,yC,hlvk,sl,cc0,-⟩:=x1.getC k hy
      cases hmp:markP y.lits S1 with
      | none=>rw[hmp]at hbl;simp at hbl
      | some p=>
       obtain⟨S2,m⟩:=p;rw[hmp]at hbl;simp only at hbl;obtain⟨h2,e2,x2,c2,B2,hst2,hcl2,htr2,hml⟩:=mark_q C L x1 B1 hY.lits hY.len (by simp[K11]) sl hmp;unfold ptr at e2;subst hvC;have c12:=c1.trans c2;clear c1 c2 x1;refine f'f ?_;generalize l/2=dd at *;simp[W212_0,Zir,Zis,Zit,Ziu,Ziv,Zix,Ziy,d0,d4,m7,m6,m1,hi,hi',hcell,hsh,lv0,lv',k1,k2,hwd,ek,hkl,hkl',cc0,e2];exact⟨i,by omega,by simp[d0],by omega,_,S2,vK1,w1,by simp,rfl,hbl,x2,c12,B2,htr2.trans htr⟩
theorem blame_q (C:LP' O ro c)(L:O.Law)(x:SQ O ro w h q S bW bH bV vA vC vT vS vK lv wv)(B:Bd S){lits:List Nat}{vl:Value}(hl1:∀a∈lits,a<most)(hl2:lits.length<=most){tl:Tag}(ht9:¬K11 tl)(sl:Sm O ro w h tl 1 vl (lits.map ni)){S':Srch}(hs:blameP S lits=some S'):
  ∃h',c 212 [ptr q,vl] h=some (.tuple #[],h')∧BmQ O ro w h q bW bH bV vA vC vT vS lv wv S' h':=by
 have hm:most=1000000:=rfl;unfold blameP at hs;split at hs
 ·simp at hs
 rename_i S1 n h1
 obtain⟨g1,e1,x1,c1,B1,hst1,hcl1,htr1,hnl⟩:=mark_q C L x B hl1 hl2 ht9 sl h1;have hnT:=B1.nT;have key:∃u h',c 212 [ptr q,vl] h=some (u,h')∧(u = .tuple #[]∧BmQ O ro w h q bW bH bV vA vC vT vS lv wv S' h'):=by
  refine C.fn (F212_fn O ro) rfl rfl ?_;have m7:=x1.m.get 7 _ rfl;unfold ptr at e1;unfold F212;refine s'f ?_;simp[Zip,e1,thenE];obtain⟨aT,cT,hvT⟩:=x1.sT.m.len (by omega) S1.trail.length (by simp);have hw1:IntKind.i64.wrap ((S1.trail.length:Int)-1)=(S1.trail.length:Int)-1:=w'j;refine s'f ?_;rw[hvT]at m7;simp[Ziq,m7,hw1,thenE];refine okE.blk ?_;refine okE.mono (okE.loop (Q:=λe t' g'=>outOf 0 e = .normal∧BmQ O ro w h q bW bH bV vA vC vT vS lv wv S' g') (BmI O ro w h q bW bH bV vA vC vT vS lv wv S1 S') (λn t g I=>blame1_q C L I) S1.trail.length _ _ ⟨by simp,l'H _,_,S1,vK,w,by simp,rfl,by simpa using hs,x1,c1,B1,rfl⟩) ?_;rintro e t g ⟨hr,hq⟩;rw[hr];simp[resE,resLE,rvE];exact hq
 obtain⟨u,h',e1,rfl,e2⟩:=key;exact⟨h',e1,e2⟩
def AnQ (O:HI H)(ro:Nat)(w:Own)(h:H)(q bW bH bV:Nat)(vA:Value)(S':Srch)(g:H): Prop:=
 ∃vC vT vS vK lv wv w',SQ O ro w' g q S' bW bH bV vA vC vT vS vK lv wv∧Ch O K11 w h w' g∧Bd S'
theorem meet_q (C:LP' O ro c)(L:O.Law)(x:SQ O ro w h q S bW bH bV vA vC vT vS vK lv wv)(B:Bd S){k:Nat}{bud:Int}{S':Srch}{an:Nat}(hs:meetP S k bud=some (S',an)):
  ∃h',c 202 [ptr q,ni k,.int .i64 bud] h=some (ni an,h')∧AnQ O ro w h q bW bH bV vA S' h':=by
 have hm:most=1000000:=rfl;have hm62:most62=4611686018427387904:=rfl;have key:∃u h',c 202 [ptr q,ni k,.int .i64 bud] h=some (u,h')∧(u=ni an∧AnQ O ro w h q bW bH bV vA S' h'):=by
  refine C.fn (F202_fn O ro) rfl rfl ?_;unfold meetP at hs;split at hs
  ·rename_i hmet
   simp only at hs;have hw:=w'1 S.met;have m11:=x.m.get 11 _ rfl;obtain⟨me,hme⟩:=e' (S.met+1);rw[<-hme]at hw hs;obtain⟨h1,p1,x1,c1⟩:=x.fld L 11 (by omega) (ni me) (g:=S.given) (d:=S.drawn) (b:=S.bonus) (m:=me) rfl;have B1:Bd { S with met:=me }:=⟨B.cls,B.nC,B.nW,B.nH,B.nV,B.nS,B.nT,B.nA,B.nK,B.wl,B.tr,B.st,B.asm,B.vr,B.gv,B.dr,B.bo,by show me<=most62;omega⟩;have rq:¬q<ro:=by have:=x.m.lo;omega
   have n0:=x1.m.get 0 _ rfl;have n1:=x1.m.get 1 _ rfl;have n8:=x1.m.get 8 _ rfl;have n11:=x1.m.get 11 _ rfl;obtain⟨aA,cA,hvA⟩:=x1.sA.len (by omega) S.assumed.length (by simp);obtain⟨aS,cS,hvS⟩:=x1.sS.m.len (by omega) S.starts.length (by simp);rw[hvA]at n0;rw[hvS]at n8;unfold F202;refine s'f ?_;simp[Zhv,thenE];refine s'f ?_;simp[Zhw,thenE,m11,hw,p1,rq];refine s'f ?_;simp[Zhx,thenE,n0,n8];split at hs
   ·rename_i hle
    have hle':(S.starts.length:Int)<=S.assumed.length:=by omega
    split at hs
    ·simp at hs
    rename_i y hy
    split at hs
    ·simp at hs
    rename_i S2 h2
    simp only[l'a,l'd]at hs;obtain⟨rfl,rfl⟩:=hs;have hy':S.clauses[k]?=some y:=hy;have hkl:=(l'b.1 hy').1;have hkl':(k:Int)<S.clauses.length:=by omega
    have hY:=B.cls y (getElem?_mem hy');obtain⟨bC,vl,hvC,yC,hlvk,sl,cc0,-⟩:=x1.getC k hy';subst hvC;obtain⟨g2,e2,vK2,w2,x2,c2,B2⟩:=blame_q C L x1 B1 hY.lits hY.len (by simp[K11]) sl h2;unfold ptr at e2;refine s'f ?_;simp[Zhy,Zhz,ZhA,thenE,hle,hle',n1,hkl,hkl',cc0,e2,resE,resLE,rvE];exact⟨_,_,_,_,_,_,_,x2,c1.trans c2,B2⟩
   ·rename_i hle
    have hle':¬(S.starts.length:Int)<=S.assumed.length:=by have hle0:¬S.starts.length<=S.assumed.length:=hle;omega
    have hle2:¬S.starts.length<=S.assumed.length:=hle;refine okE.seq (s'f ?_);simp[Zhy,thenE,hle2,hle'];refine f'f ?_;simp[thenE];split at hs
    ·rename_i hb
     simp only[l'a,l'd]at hs;obtain⟨rfl,rfl⟩:=hs;have hb':bud<(me:Int):=hb;refine s'f ?_;simp[ZhB,ZhC,thenE,n11,hb',resE,resLE,rvE];exact⟨_,_,_,_,_,_,_,x1,c1,B1⟩
    ·rename_i hb
     have hb':¬bud<(me:Int):=hb;split at hs
     ·simp at hs
     rename_i S2 h2
     simp only[l'a,l'd]at hs;obtain⟨rfl,rfl⟩:=hs;obtain⟨g2,e2,vC2,vT2,vS2,lv2,wv2,w2,x2,c2,B2⟩:=learn_q C L x1 B1 h2;unfold ptr at e2;refine okE.seq (s'f ?_);simp[ZhB,thenE,n11,hb'];refine f'f ?_;simp[thenE];refine s'f ?_;simp[ZhD,thenE,e2];refine f'f ?_;simp[ZhE,thenE,resE,resLE,rvE];exact⟨_,_,_,_,_,_,_,x2,c1.trans c2,B2⟩
  ·simp at hs
 obtain⟨u,h',e1,rfl,e2⟩:=key;exact⟨h',e1,e2⟩
theorem openP_bd {S S':Srch}(hs:openP S=some S')(B:Bd S): S' = { S with starts:=S.starts++[S.trail.length] }∧Bd S'∧S.starts.length<most:=by
 unfold openP at hs;split at hs
 ·rename_i hlt
  simp only[l'a]at hs;subst hs;refine⟨rfl,⟨B.cls,B.nC,B.nW,B.nH,B.nV,by simp;omega,B.nT,B.nA,B.nK,B.wl,B.tr,?_,B.asm,B.vr,B.gv,B.dr,B.bo,B.me⟩,hlt⟩;intro s hs;rcases l'E.1 hs with hs|hs
  ·exact B.st s hs
  ·simp at hs;subst hs;exact B.nT
 ·simp at hs
theorem assume_q (C:LP' O ro c)(L:O.Law)(x:SQ O ro w h q S bW bH bV vA vC vT vS vK lv wv)(B:Bd S){l:Nat}(hlm:l<most){S':Srch}{an:Nat}(hs:assumeP S l=some (S',an)):
  ∃h',c 210 [ptr q,ni l] h=some (ni an,h')∧AnQ O ro w h q bW bH bV vA S' h':=by
 have hm:most=1000000:=rfl;have key:∃u h',c 210 [ptr q,ni l] h=some (u,h')∧(u=ni an∧AnQ O ro w h q bW bH bV vA S' h'):=by
  refine C.fn (F210_fn O ro) rfl rfl ?_;unfold assumeP at hs;have hnH:=B.nH;have m5:=x.m.get 5 _ rfl;have m7:=x.m.get 7 _ rfl;have m8:=x.m.get 8 _ rfl;have hxo:=xor_one l (by omega);have hxm:=xor1_lt hlm;have rq:¬q<ro:=by have:=x.m.lo;omega
  obtain⟨z,hz⟩:=e' (l ^^^ 1);rw[<-hz]at hxo hxm hs;unfold F210;refine s'f ?_;simp[Zh7,thenE];split at hs
  ·simp at hs
  ·rename_i hh
   have lz:=(l'b.1 hh).1;have lz':(z:Int)<S.holds.length:=by omega
   have kz:=x.getH z hh;split at hs
   ·simp at hs
   rename_i S1 h1
   split at hs
   ·rename_i hlt
    simp only[l'a,l'd]at hs;obtain⟨rfl,rfl⟩:=hs;have y0:=Bx.new L (ro:=ro) w h x.lo (13,0) [ni l];have c0:=Ch.new L K11 w h (13,0) [ni l];have c0':=Ch.new L (λ_=>False) w h (13,0) [ni l];have x0:=x.ch L c0';obtain⟨g2,e2,vK2,w2,x2,c2,B2⟩:=blame_q C L x0 B (lits:=[l]) (vl:=.slice (some ⟨O.next h,0,some 1⟩) 1 2) (by simpa using hlm) (by simp;omega) (tl:=(13,0)) (by simp[K11]) (.inr ⟨_,1,2,rfl,.inr rfl,by simp,y0⟩) h1;have n12:=x2.m.get 12 _ rfl;obtain⟨vK3,h3,h4,w3,e3,p3,f3,g3,x3,c3⟩:=x2.appK L l hlt;have B3:Bd { S1 with core:=S1.core++[l] }:=⟨B2.cls,B2.nC,B2.nW,B2.nH,B2.nV,B2.nS,B2.nT,B2.nA,by simp;omega,B2.wl,B2.tr,B2.st,B2.asm,B2.vr,B2.gv,B2.dr,B2.bo,B2.me⟩;unfold ptr at e2;refine s'f ?_;simp[Zh8,Zh9,Zia,Zib,thenE,m5,hxo,lz,lz',kz,e2,n12,e3,p3,f3,g3,rq,resE,resLE,rvE];exact⟨_,_,_,_,_,_,_,x3,(c0.trans c2).trans c3,B3⟩
   ·simp at hs
  ·rename_i hh
   have lz:=(l'b.1 hh).1;have lz':(z:Int)<S.holds.length:=by omega
   have kz:=x.getH z hh;split at hs
   ·simp at hs
   rename_i S1 h1
   obtain⟨rfl,B1,hlt⟩:=openP_bd h1 B;obtain⟨vS',h2,h3,w2,e2,p2,f2,g2,x2,c2⟩:=x.appS L S.trail.length hlt;have n5:=x2.m.get 5 _ rfl;obtain⟨aT,cT,hvT⟩:=x.sT.m.len (by omega) S.trail.length (by simp);rw[hvT]at m7;refine okE.seq (s'f ?_);simp[Zh8,thenE,m5,hxo,lz,lz',kz];refine f'f ?_;simp[thenE];refine s'f ?_;simp[Zic,thenE,m7,m8,e2,p2,f2,g2,rq];split at hs
   ·simp at hs
   ·rename_i hl
    simp only[l'a,l'd]at hs;obtain⟨rfl,rfl⟩:=hs;have hl':S.holds[l]?=some true:=hl;have ll:=(l'b.1 hl').1;have ll':(l:Int)<S.holds.length:=by omega
    have kl:=x2.getH l hl';refine okE.seq (s'f ?_);simp[Zid,thenE,n5,ll,ll',kl];refine f'f ?_;simp[thenE];refine f'f ?_;simp[Zif,thenE,resE,resLE,rvE];exact⟨_,_,_,_,_,_,_,x2,c2,B1⟩
   ·rename_i hl
    split at hs
    ·simp at hs
    rename_i S3 h3'
    simp only[l'a,l'd]at hs;obtain⟨rfl,rfl⟩:=hs;have hl':S.holds[l]?=some false:=hl;have ll:=(l'b.1 hl').1;have ll':(l:Int)<S.holds.length:=by omega
    have kl:=x2.getH l hl';obtain⟨vT4,g4,w4,e4,x4,c4⟩:=set_q C L x2 l none h3' B1.nV B1.nH;have B4:=(setP_bd h3' B1 (by simp)).1;unfold ptr at e4;simp only[rv]at e4;refine okE.seq (s'f ?_);simp[Zid,Zie,thenE,n5,ll,ll',kl];refine f'f ?_;simp[Zie,thenE,e4];refine f'f ?_;simp[Zif,thenE,resE,resLE,rvE];exact⟨_,_,_,_,_,_,_,x4,c2.trans c4,B4⟩
 obtain⟨u,h',e1,rfl,e2⟩:=key;exact⟨h',e1,e2⟩
theorem guess_q (C:LP' O ro c)(L:O.Law)(x:SQ O ro w h q S bW bH bV vA vC vT vS vK lv wv)(B:Bd S){S':Srch}{an:Nat}(hs:guessP S=some (S',an)):
  ∃h',c 201 [ptr q] h=some (ni an,h')∧AnQ O ro w h q bW bH bV vA S' h':=by
 have hm:most=1000000:=rfl;have key:∃u h',c 201 [ptr q] h=some (u,h')∧(u=ni an∧AnQ O ro w h q bW bH bV vA S' h'):=by
  refine C.fn (F201_fn O ro) rfl rfl ?_;unfold guessP at hs;have hnV:=B.nV;have m0:=x.m.get 0 _ rfl;have m6:=x.m.get 6 _ rfl;have m7:=x.m.get 7 _ rfl;have m8:=x.m.get 8 _ rfl;have rq:¬q<ro:=by have:=x.m.lo;omega
  obtain⟨aS,cS,hvS⟩:=x.sS.m.len (by omega) S.starts.length (by simp);have m8':=m8;rw[hvS]at m8';unfold F201;refine s'f ?_;simp[Zhi,thenE];refine s'f ?_;simp[Zhj,thenE,m8'];split at hs
  ·rename_i l hl
   have hlt:=(l'b.1 hl).1;have hlt':(S.starts.length:Int)<S.assumed.length:=by omega
   have hlm:=B.asm l (getElem?_mem hl);obtain⟨bA,cp,hvA,hcp,yA⟩:=x.sA.blk (by omega) S.assumed.length (by simp) (by omega);have hcA:O.cell h bA S.starts.length=some (ni l):=by rw[yA.cell _ (by simpa using hlt),List.getElem?_map,hl];rfl
   obtain⟨g2,e2,q2⟩:=assume_q C L x B hlm hs;subst hvA;unfold ptr at e2;refine s'f ?_;simp[Zhk,Zhl,thenE,m0,hlt,hlt',hcA,e2,resE,resLE,rvE];exact q2
  ·rename_i hl
   have hlt:¬S.starts.length<S.assumed.length:=by
    intro hh;rw[l'c hh]at hl;simp at hl
   have hlt':¬(S.starts.length:Int)<S.assumed.length:=by omega
   obtain⟨aA,cA,hvA⟩:=x.sA.len (by omega) S.assumed.length (by simp);have m0':=m0;rw[hvA]at m0';refine okE.seq (s'f ?_);simp[Zhk,thenE,m0',hlt,hlt'];refine f'f ?_;simp[thenE];split at hs
   ·simp at hs
   ·rename_i hh
    have eh:=heavy_q C L x B hh;simp only[l'a,l'd]at hs;obtain⟨rfl,rfl⟩:=hs;unfold ptr at eh;simp only[rv]at eh;refine s'f ?_;simp[Zhm,thenE,eh];refine s'f ?_;simp[Zhn,Zho,thenE,resE,resLE,rvE];exact⟨_,_,_,_,_,_,_,x,Ch.refl _ _ _,B⟩
   ·rename_i v hh
    have eh:=heavy_q C L x B hh;unfold ptr at eh;simp only[rv]at eh;have ev1:=rv_eq1 v;split at hs
    ·simp at hs
    rename_i y hy
    have lv0:=(l'b.1 hy).1;have lv':(v:Int)<S.vars.length:=by omega
    have k4:=x.getV v hy 4 (by omega);simp only[vrC,l'x,l'w,Nat.add_zero]at k4;split at hs
    ·simp at hs
    rename_i S1 h1
    split at hs
    ·simp at hs
    rename_i S2 h2
    simp only[l'a,l'd]at hs;obtain⟨rfl,rfl⟩:=hs;obtain⟨rfl,B1,hlt2⟩:=openP_bd h1 B;obtain⟨vS',h3,h4,w3,e3,p3,f3,g3,x3,c3⟩:=x.appS L S.trail.length hlt2;obtain⟨vT4,g4,w4,e4,x4,c4⟩:=set_q C L x3 _ none h2 B1.nV B1.nH;have B4:=(setP_bd h2 B1 (by simp)).1;obtain⟨aT,cT,hvT⟩:=x.sT.m.len (by omega) S.trail.length (by simp);have m7':=m7;rw[hvT]at m7';unfold ptr at e4;simp only[rv]at e4;have hw2:IntKind.i64.wrap (2*(v:Int))=((2*v:Nat):Int):=w'i;have hw3:IntKind.i64.wrap (((2*v:Nat):Int)+1)=((2*v+1:Nat):Int):=w'i;obtain⟨l,hl⟩:=e' (2*v);rw[<-hl]at hw2 hw3 e4;obtain⟨l',hl'⟩:=e' (l+1);rw[<-hl']at hw3 e4;refine s'f ?_;simp[Zhm,thenE,eh];refine okE.seq (s'f ?_);simp[Zhn,thenE,ev1];refine f'f ?_;simp[thenE];refine s'f ?_;simp[Zhp,thenE,hw2]
    cases hla:y.last with
    | true=>
     rw[hla]at k4 e4;simp only[if_true]at e4;refine okE.seq (s'f ?_);simp[Zhq,thenE,m6,lv0,lv',k4];refine f'f ?_;simp[thenE];refine s'f ?_;simp[Zhs,thenE,m7',m8,e3,p3,f3,g3,rq];refine f'f ?_;simp[Zht,Zhu,e4,resE,resLE,rvE];exact⟨_,_,_,_,_,_,_,x4,c3.trans c4,B4⟩
    | false=>
     rw[hla]at k4 e4;simp only[l'y,if_false]at e4;refine okE.seq (s'f ?_);simp[Zhq,thenE,m6,lv0,lv',k4];refine f'f ?_;simp[Zhr,thenE,hw3];refine s'f ?_;simp[Zhs,thenE,m7',m8,e3,p3,f3,g3,rq];refine f'f ?_;simp[Zht,Zhu,e4,resE,resLE,rvE];exact⟨_,_,_,_,_,_,_,x4,c3.trans c4,B4⟩
 obtain⟨u,h',e1,rfl,e2⟩:=key;exact⟨h',e1,e2⟩
end
end Go.Proofs.YtimdkminagnhgaaGreatDoor
