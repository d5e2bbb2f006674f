import Derived.Test.YtimdkminagnhgabGreatDoorQ27
set_option linter.unusedVariables false
set_option linter.unusedSimpArgs false
namespace Go.Ta
theorem newFrP_k {N:Ck}{F:Fr}(hs:newFrP N=some F)(hn:N.nv<=192): FrK N F∧F.own=[]:=by
 unfold newFrP at hs;split at hs
 ·simp at hs
 ·rename_i s hs1
  simp only[l'a]at hs;subst hs;have key:∀(l:List (List Nat))(Z Z':Solv),addsP l Z=some Z'->ZOk Z->ZOk Z'∧Z'.early=Z.early:=by
   intro l
   induction l with
   | nil=>intro Z Z' h z;simp only[addsP,l'a]at h;subst h;exact⟨z,rfl⟩
   | cons a r ih=>
    intro Z Z' h z;unfold addsP at h;split at h
    ·simp at h
    ·rename_i Z1 h1
     obtain⟨z1,e1,-⟩:=addP_ok h1 z;obtain⟨z2,e2⟩:=ih _ _ h z1;exact⟨z2,by rw[e2,e1]⟩
  obtain⟨z,e⟩:=key _ _ _ hs1 ⟨by simpa using hn,by simp⟩;refine⟨⟨z,by simp only[e];simp,by simp,by simp⟩,rfl⟩
theorem barRP_ne {f nn:Nat}{N:Ck}{bud:Int}: ∀(m:Nat)(R Rf:Rn) (v:Nat),barRP f nn N bud m R=some (Rf,v)->v≠1:=by
 intro m
 induction m with
 | zero=>intro R Rf v h;simp[barRP]at h
 | succ m ih=>
  intro R Rf v h;unfold barRP at h;split at h
  ·simp only[l'a,l'd]at h;omega
  ·simp only at h;split at h
   ·simp only[l'a,l'd]at h;omega
   ·split at h
    ·simp only[l'a,l'd]at h;omega
    ·split at h
     ·simp at h
     ·simp only[l'a,l'd]at h;omega
     ·split at h
      ·simp at h
      ·exact ih _ _ _ h
     ·split at h
      ·simp at h
      ·split at h
       ·split at h
        ·simp at h
        ·exact ih _ _ _ h
       ·simp at h
     ·simp at h
theorem clearRP_ne {f nn:Nat}{N:Ck}{bud:Int}: ∀(m:Nat)(R Rf:Rn) (v:Nat),clearRP f nn N bud m R=some (Rf,v)->v≠1:=by
 intro m
 induction m with
 | zero=>intro R Rf v h;simp[clearRP]at h
 | succ m ih=>
  intro R Rf v h;unfold clearRP at h;split at h
  ·simp at h
  ·simp only[l'a,l'd]at h;omega
  ·simp only[l'a,l'd]at h;omega
  ·split at h
   ·simp at h
   ·split at h
    ·simp at h
    ·exact ih _ _ _ h
    ·rename_i R3 v3 _ hb
     simp only[l'a,l'd]at h;have:=barRP_ne _ _ _ _ hb;omega
  ·simp at h
end Go.Ta
namespace Go.Proofs.YtimdkminagnhgabGreatDoor
open Go.Vm Go.Proofs Go.Ta
set_option maxHeartbeats 4000000
attribute [local simp] cSeq cReg reg to too onlyIf onlyIfo aMove mv' nl' fl' ld' ln' mk' ia' ik' ix' aNil aFld aLd aInt aPick aConv aUn unA ev upd_get isB envOf iA_add iA_sub iA_mul iA_eql iA_neq iA_lss iA_leq iA_gtr iA_geq cIf cRet cSkip okc_some aSt vc_int vc_bool vc_agg vc_str vc_ptr vc_sl ft_int ft_bool ft_str ft_ptr ft_sl tp_int tp_bool tp_agg tp_str tp_ptr tp_sl aBuild Instr.fill aCall cExit cBlk outOf ptr undef aNew aBox aIdxArr aLdN aShift aLenSl aIdx aMkSl aApp rangeA aExt aPtrNil aSlNil aBoolEq aMake aSliceSl boundA chk
section
variable {H:Type}{O:HI H}{ro:Nat}{c:CallT H}
variable {w w':Own}{h h':H}{q:Nat}{S:Srch}{bW bH bV:Nat}{vA vC vT vS vK:Value}{lv wv:List Value}
variable {cp:Nat}{N:Ck}{v1 v2:Value}
def Kb (u:Tag): Prop:=u.1=5∨1000<=u.1
theorem Kb.no {t:Tag}(h1:t.1<1000)(h2:t.1≠5): ¬Kb t:=by unfold Kb;omega
theorem RN.wayL (L:O.Law){r:Nat}{R:Rn}{bud:Int}{vF vW vP:Value}{fs:List (Nat×Value)}(x:RN O ro w h r R bud cp N v1 v2 vF vW vP fs)(h0:0<R.way.length){st inp:Nat}(hl:R.way.getLast?=some (st,inp)):
  ∃b,vW = .slice (some ⟨b,0,some 2⟩) R.way.length 0∧O.cell h b ((R.way.length-1)*2)=some (ni st)∧Sz O ro w h (5,2) 2 (.slice (some ⟨b,0,some 2⟩) (R.way.length-1) 0) (R.way.dropLast.flatMap prC):=by
 have hlen:=flat_len prC 2 prC_len R.way;have hd:R.way=R.way.dropLast++[(st,inp)]:=by
  obtain⟨ys,hys⟩:=List.getLast?_eq_some_iff.1 hl;rw[hys];simp
 have hlen2:=flat_len prC 2 prC_len R.way.dropLast;simp only[List.length_dropLast]at hlen2;rcases x.sW.take (by omega) R.way.length (R.way.length-1) hlen (by omega) with ⟨h1,h2,h3,h4⟩|⟨b,e,s⟩
 ·omega
 ·refine⟨b,e,?_,?_⟩
  ·obtain⟨b',e',y⟩:=x.sW.blk (by omega) R.way.length hlen (by omega);rw[e]at e';simp only[Value.slice.injEq,l'a,Addr.mk.injEq,and_true,true_and]at e';subst e';rw[y.cell _ (by omega),hd,List.flatMap_append];have:(R.way.dropLast++[(st,inp)]).length-1=R.way.length-1:=by simp
   rw[this,l'z (by omega)];simp[hlen2,prC]
  ·have ht:(R.way.flatMap prC).take ((R.way.length-1)*2)=R.way.dropLast.flatMap prC:=by
    rw[<-hlen2]
    conv=>lhs;rw[hd,List.flatMap_append]
    simp only[List.dropLast_concat];rw[List.take_left]
   rw[ht]at s;exact s
def BarQ (O:HI H)(ro:Nat)(w:Own)(h:H)(r:Nat)(bud:Int)(cp:Nat)(N:Ck)(v1 v2 vF vP:Value)(Rf:Rn)(FL:Nat)(g:H): Prop:=
 ∃fs vW w1,RN O ro w1 g r Rf bud cp N v1 v2 vF vW vP fs∧RnK N Rf∧Rf.frames.length=FL∧Ch O Kb w h w1 g
def BarI (O:HI H)(ro:Nat)(w:Own)(h:H)(r:Nat)(bud:Int)(cp:Nat)(N:Ck)(v1 v2 vF vP:Value)(Rf:Rn)(FL f nn v:Nat)(n:Nat)(t:Env)(g:H): Prop:=
 t 0 = .pointer (some ⟨r,0,none⟩)∧∃R,barRP f nn N bud n R=some (Rf,v)∧BarQ O ro w h r bud cp N v1 v2 vF vP R FL g
theorem rbar1_q (C:LP' O ro c)(L:O.Law){r:Nat}{bud:Int}{vF vP:Value}(hb:bud<=2305843009213693952)(hni:N.ni<=60)(hla:N.las.length<=60){Rf:Rn}{FL f nn v n:Nat}{t:Env}{g:H}(I:BarI O ro w h r bud cp N v1 v2 vF vP Rf FL f nn v n t g):
  okE c (W125_0 O Tryz.prog ro) (t,g) (λe t' g'=>(e = .normal∧∃n',n'<n∧BarI O ro w h r bud cp N v1 v2 vF vP Rf FL f nn v n' t' g')∨(e≠.normal∧((outOf 0 e = .normal∧v=0∨outOf 0 e = .ret∧t' 2=ni v)∧BarQ O ro w h r bud cp N v1 v2 vF vP Rf FL g'))):=by
 have hm:most=1000000:=rfl;obtain⟨d0,R,hs,fs,vW,w1,x,k,hFL,c1⟩:=I
 cases n with
 | zero=>simp[barRP]at hs
 | succ m=>
 unfold barRP at hs;have hn:=x.X.nv;unfold Ck.nv at hn;have m1:=x.m.get 1 _ rfl;have m2:=x.m.get 2 _ rfl;have m3:=x.m.get 3 _ rfl;have m4:=x.m.get 4 _ rfl;have m0:=x.m.get 0 _ rfl;split at hs
 ·rename_i hw
  simp only[l'a,l'd]at hs;obtain⟨rfl,rfl⟩:=hs;have hw0:R.way=[]:=by simpa using hw
  obtain⟨aW,cW,hvW⟩:=x.sW.m.len (by omega) 0 (by rw[hw0];rfl);rw[hvW]at m4;refine f'f ?_;simp[W125_0,Zm2,d0,m4];exact⟨fs,_,w1,x,k,hFL,c1⟩
 ·rename_i st inp hw
  have h0:0<R.way.length:=by
   rcases Nat.eq_zero_or_pos R.way.length with h|h
   ·rw[List.eq_nil_of_length_eq_zero h]at hw;simp at hw
   ·exact h
  obtain⟨bw,hvW,hst,sw⟩:=x.wayL L h0 hw;have hmem:(st,inp)∈R.way:=List.mem_of_getLast? hw;have hstb:=(k.wy _ hmem).1;simp only at hstb;have wl:=k.wl;have fl:=k.fl;obtain⟨n1,hn1⟩:∃n1,R.way.length=n1+1:=⟨R.way.length-1,by omega⟩;rw[hvW,hn1]at m4;have hn2:R.way.length-1=n1:=by omega
  rw[hn2]at hst sw;have hwn:IntKind.i64.wrap (n1:Int)=(n1:Int):=wrap_id (by omega) (by omega);have hgt:(0:Int)<(n1:Int)+1:=by omega
  refine s'f ?_;simp[Zm2,thenE,d0,m4,hgt];refine okE.blk ?_;simp only at hs;split at hs
  ·rename_i hlt
   simp only[l'a,l'd]at hs;obtain⟨rfl,rfl⟩:=hs;refine f'f ?_;simp[Zm3,Zm4,d0,m1,m2,hlt];exact⟨fs,_,w1,x,k,hFL,c1⟩
  rename_i hlt
  obtain⟨aF,cF,hvF⟩:=x.sF.len (by omega) R.frames.length (by rw[flat_len frC 2 frC_len,x.lF]);rw[hvF]at m3;have hw3:IntKind.i64.wrap ((R.frames.length:Int)-((n1:Int)+1))=(R.frames.length:Int)-((n1:Int)+1):=wrap_id (by omega) (by omega);obtain⟨lev,hlev⟩:∃lev:Int,lev=(R.frames.length:Int)-((n1:Int)+1):=⟨_,rfl⟩;have hw3':IntKind.i64.wrap ((R.frames.length:Int)-((n1:Int)+1))=lev:=by rw[hw3,hlev]
  have hn1':(n1:Int)<(n1:Int)+1:=by omega
  refine s'f ?_;simp[Zm3,thenE,d0,m1,m2,hlt];refine s'f ?_;simp[Zm5,thenE,d0,m3,m4,hw3'];refine s'f ?_;simp[Zm6,thenE,d0,m4,hwn,hn1',hst];have eb:=begins_q C L x.X (show st<9223372036854775808 by omega) hla;unfold ptr at eb m0;split at hs
  ·rename_i hor
   simp only[l'a,l'd]at hs;obtain⟨rfl,rfl⟩:=hs
   by_cases hl0:lev<=0
   ·refine f'f ?_;simp[Zm7,Zm8,d0,hl0];exact⟨fs,_,w1,by rw[hvW,hn1]at x;exact x,k,hFL,c1⟩
   ·have hbt:beginsP N st=true:=by
     rcases hor with h|h
     ·omega
     ·exact h
    rw[hbt]at eb;refine f'f ?_;simp[Zm7,Zm8,d0,hl0,m0,eb];exact⟨fs,_,w1,by rw[hvW,hn1]at x;exact x,k,hFL,c1⟩
  ·rename_i hor
   have hbf:beginsP N st=false:=by
    cases h:beginsP N st with
    | false=>rfl
    | true=>exact absurd (.inr h) hor
   have hlp:¬R.frames.length<=R.way.length:=λh=>hor (.inl h);rw[hbf]at eb;obtain⟨lv1,hlv1⟩:∃lv1,R.frames.length-R.way.length=lv1+1:=⟨R.frames.length-R.way.length-1,by omega⟩;have hlv:lev=(lv1:Int)+1:=by omega
   have hl0:¬lev<=0:=by omega
   rw[hlv]at hl0;rw[hlv1]at hs;simp only[Nat.add_sub_cancel]at hs;have hcl:=against_k N st hla;obtain⟨vc,g2,w2,e2,s2,c2,lo2⟩:=against_q C L x.lo x.X (show st<9223372036854775808 by omega) hla (9,0);have cc2:Ch O (λ_=>False) w1 g w2 g2:=c2;have X2:=x.X.ch L c2 (by simp);obtain⟨va,g3,w3,e3,s3,c3,lo3⟩:=broken_q C L lo2 X2 hcl.1 hcl.2 (by omega) s2 (9,0);have c23:=c2.trans c3;have x3:RN O ro w3 g3 r R bud cp N v1 v2 vF vW vP fs:=⟨x.m.ch L c23 (by simp),x.X.ch L c23 (by simp),x.sF.ch L c23 (by simp),x.lF,λi F y h1 h2=>(x.fr i F y h1 h2).ch L c23 (by simp) (by simp) (by simp),x.sW.ch L c23 (by simp),lo3⟩;have sc3:=s2.ch L c3 (by simp);have n0:=(x.m.ch L c2 (by simp)).get 0 _ rfl;unfold ptr at n0 e2 e3;rw[hlv];have hw1:IntKind.i64.wrap (lv1:Int)=(lv1:Int):=wrap_id (by omega) (by omega);have tv1:=s2.flat.2.2;have tv2:=s3.flat.2.2;refine s'f ?_;simp[Zm7,thenE,d0,hl0,m0,eb];refine s'f ?_;simp[Zm9,thenE,d0,m0,e2,tv1];refine s'f ?_;simp[Zna,thenE,d0,n0,e3,tv2];split at hs
   ·simp at hs
   ·rename_i R1 hask
    simp only[l'a,l'd]at hs;obtain⟨rfl,rfl⟩:=hs;obtain⟨g4,w4,e4,x4,c4,h4⟩:=ask_q C L x3 hb k.sp (by unfold K11;simp) s3 hask;obtain⟨k4,kw,kk,kfl,-,-⟩:=askP_k hask k;unfold ptr at e4;refine s'f ?_;simp[Znb,thenE,d0,hw1,e4];refine s'f ?_;simp[Znc,thenE];refine okE.blk ?_;refine f'f ?_;simp[Znd,Zne];exact⟨fs,_,w4,x4,k4,by omega,c1.trans ((c23.mono (by simp)).trans (c4.mono (λu hu=>by rcases hu with h|h;left;rw[h];right;unfold Ks at h;omega)))⟩
   ·rename_i R1 hask
    obtain⟨g4,w4,e4,x4,c4,h4⟩:=ask_q C L x3 hb k.sp (by unfold K11;simp) s3 hask;obtain⟨k4,kw,kk,kfl,kmod,ksp⟩:=askP_k hask k;split at hs
    ·simp at hs
    rename_i R2 hlen
    have ksp:=ksp (by omega);obtain⟨F,hF⟩:∃F,R1.frames[lv1]?=some F:=by
     unfold lengthenP at hlen;split at hlen
     ·simp at hlen
     ·rename_i F hF;exact⟨F,hF⟩
    have hmod:=kmod rfl F hF;have hnv:=x.X.nv;have hnv2:N.nv=1+N.ni+N.las.length+N.gts.length:=rfl;obtain⟨vW5,g5,w5,e5,x5,c5⟩:=lengthen_q C L x4 h4 (by omega) hni hla hF (by omega) (by omega) hlen;obtain⟨k5,kf5,-⟩:=lengthenP_k hlen hla hni k4;unfold ptr at e4 e5;have cc:Ch O Kb w h w5 g5:=c1.trans ((c23.mono (by simp)).trans ((c4.mono (λu hu=>by rcases hu with h|h;left;rw[h];right;unfold Ks at h;omega)).trans (c5.mono (λu hu=>by rcases hu with h|h <;> (left;rw[h])))));refine s'f ?_;simp[Znb,thenE,d0,hw1,e4];refine s'f ?_;simp[Znc,thenE];refine okE.blk ?_;refine f'f ?_;simp[Znd,Znf,Zng,d0,hw1,e5];exact⟨m,by omega,by simp[d0],R2,hs,fs,_,w5,x5,k5,by rw[kf5];omega,cc⟩
   ·rename_i R1 hask
    obtain⟨g4,w4,e4,x4,c4,h4⟩:=ask_q C L x3 hb k.sp (by unfold K11;simp) s3 hask;obtain⟨k4,kw,kk,kfl,kmod,ksp⟩:=askP_k hask k;split at hs
    ·simp at hs
    rename_i F hF
    split at hs
    ·rename_i hcore
     split at hs
     ·simp at hs
     rename_i R2 hlrn
     have hi:=(l'b.1 hF).1;have hi':(lv1:Int)<R1.frames.length:=by omega
     obtain⟨⟨s,vo⟩,hy⟩:∃y,fs[lv1]?=some y:=⟨_,l'c (by rw[x4.lF];exact hi)⟩;obtain⟨z,⟨vE,vcl,vM,vK,vs,S0⟩,us,o0⟩:=x4.fr lv1 F _ hF hy;obtain⟨b,q,eF,yb,hk0,hk1⟩:=x4.getF lv1 hy;obtain⟨vk,g5,w5,e5,s5,c5,lo5⟩:=core_q C L S0 hcore (8,0);have kc4:∀t:Tag,t.1<1000->t.1≠5->¬(t=(5,0)∨Ks (1000+2*lv1) t):=λt h1 h2=>by rintro (h|h);exact h2 (by rw[h]);unfold Ks at h;omega
     have sc4:=sc3.ch L c4 (kc4 _ (by simp) (by simp));have sc5:=sc4.ch L c5 (by simp);have X5:=x4.X.ch L c5 (by simp);obtain⟨vs6,g6,w6,e6,s6,c6,lo6⟩:=short_q C L lo5 X5 hcl.1 hcl.2 (by omega) (by simp) sc5 hcore s5 (9,0);have c56:=c5.trans c6;have x6:RN O ro w6 g6 r R1 bud cp N v1 v2 vF vW vP fs:=⟨x4.m.ch L c56 (by simp),x4.X.ch L c56 (by simp),x4.sF.ch L c56 (by simp),x4.lF,λi F y h1 h2=>(x4.fr i F y h1 h2).ch L c56 (by simp) (by simp) (by simp),x4.sW.ch L c56 (by simp),lo6⟩;have hsk:=short_k (core:=F.s.core) hcl;obtain⟨fs7,g7,w7,e7,x7,c7⟩:=learn_q2 C L x6 k4 (level:=lv1+1) (by omega) hsk s6 hlrn;obtain⟨k7,kf7,kw7,-,-⟩:=learnRP_k hsk hlrn k4;have hway:R2.way=R.way:=by rw[kw7,kw]
     obtain⟨bw7,hvW7,hst7,sw7⟩:=x7.wayL L (by rw[hway];exact h0) (by rw[hway];exact hw);have hvb:bw7=bw:=by
      rw[hvW]at hvW7;simp only[Value.slice.injEq,l'a,Addr.mk.injEq,and_true,true_and]at hvW7;exact hvW7.1.symm
     subst hvb;rw[hway,hn2]at sw7;have c8:=Ch.put L (K:=λu=>u=((5,0):Tag)) x7.m 4 (by simp) (.slice (some ⟨bw7,0,some 2⟩) n1 0) rfl;have m8:=x7.m.put L 4 (by simp) (.slice (some ⟨bw7,0,some 2⟩) n1 0);have p8:=puts_one (O:=O) (v:=.slice (some ⟨bw7,0,some 2⟩) n1 0) (x7.m.get 4 _ rfl);have kk8:∀t:Tag,t≠(5,0)->¬t=(5,0):=λt h=>h;have x8:RN O ro w7 (O.put g7 r 4 (.slice (some ⟨bw7,0,some 2⟩) n1 0)) r { R2 with way:=R2.way.dropLast } bud cp N v1 v2 vF (.slice (some ⟨bw7,0,some 2⟩) n1 0) vP fs7:=⟨m8,x7.X.ch L c8 (by simp),x7.sF.ch L c8 (by simp),x7.lF,λi F y h1 h2=>(x7.fr i F y h1 h2).ch L c8 (by simp) (λj=>by simp <;> omega) (λj=>by simp <;> omega),by rw[hway];exact sw7.ch L c8 (by simp),l'G x7.lo c8.nx⟩;have cc:Ch O Kb w h w7 (O.put g7 r 4 (.slice (some ⟨bw7,0,some 2⟩) n1 0)):=c1.trans ((c23.mono (by simp)).trans ((c4.mono (λu hu=>by rcases hu with h|h;left;rw[h];right;unfold Ks at h;omega)).trans ((c56.mono (by simp)).trans ((c7.mono (λu hu=>by rcases hu with h|h;left;rw[h];exact .inr h)).trans (c8.mono (λu hu=>by left;rw[hu]))))));have q3:=x4.m.get 3 _ rfl;rw[eF]at q3;have kb:=yb.get _ _ hk0;have q0:=(x4.m.ch L c5 (by simp)).get 0 _ rfl;have q4:=x7.m.get 4 _ rfl;rw[hvW7,hway,hn1]at q4;have rr:¬r<ro:=by have:=x.m.lo;omega
     have hk8:=drop_k k7;generalize hg8:O.put g7 r 4 (.slice (some ⟨bw7,0,some 2⟩) n1 0)=g8 at *;have tv5:=s5.flat.2.2;have tv6:=s6.flat.2.2;unfold ptr at e4 e5 e6 e7 kb q0;rw[show ni (lv1+1)=Value.int .i64 ((lv1:Int)+1) from rfl]at e7;have hn1le:(n1:Int)<=(n1:Int)+1:=by omega
     have hn1le2:n1<=n1+1:=by omega
     refine s'f ?_;simp[Znb,thenE,d0,hw1,e4];refine s'f ?_;simp[Znc,thenE];refine okE.blk ?_;refine s'f ?_;simp[Znd,thenE];refine okE.cond false (by simp) ?_;simp only[l'y,if_false];refine s'f ?_;simp[Znf,thenE];refine okE.cond false (by simp) ?_;simp only[l'y,if_false];refine s'f ?_;simp[Znh,thenE];refine okE.cond true (by simp) ?_;simp only[if_true];refine s'f ?_;simp[Zni,thenE,d0,q3,hw1,hi,hi',kb,e5,tv5];refine s'f ?_;simp[Znj,thenE,d0,q0,e6,tv6];refine s'f ?_;simp[Znk,thenE,d0,e7];refine f'f ?_;simp[Znl,d0,q4,hwn,hn1le,hn1le2,rr,p8];exact⟨m,by omega,by simp[d0],_,hs,fs7,_,w7,x8,hk8,by simp only;omega,cc⟩
    ·simp at hs
   ·simp at hs
theorem rbar_q (C:LP' O ro c)(L:O.Law){r:Nat}{R Rf:Rn}{bud:Int}{vF vW vP:Value}{fs:List (Nat×Value)}(x:RN O ro w h r R bud cp N v1 v2 vF vW vP fs)(k:RnK N R)(hb:bud<=2305843009213693952)(hni:N.ni<=60)(hla:N.las.length<=60){f nn m v:Nat}(hs:barRP f nn N bud m R=some (Rf,v)):
  ∃h',c 125 [ptr r] h=some (ni v,h')∧BarQ O ro w h r bud cp N v1 v2 vF vP Rf R.frames.length h':=by
 have key:∃u h',c 125 [ptr r] h=some (u,h')∧(u=ni v∧BarQ O ro w h r bud cp N v1 v2 vF vP Rf R.frames.length h'):=by
  refine C.fn (F125_fn O ro) rfl rfl ?_;unfold F125;refine s'f ?_;simp[Zm1,thenE];refine okE.seq (okE.blk ?_);refine okE.mono (okE.loop (Q:=λe t' g'=>(outOf 0 e = .normal∧v=0∨outOf 0 e = .ret∧t' 2=ni v)∧BarQ O ro w h r bud cp N v1 v2 vF vP Rf R.frames.length g') (BarI O ro w h r bud cp N v1 v2 vF vP Rf R.frames.length f nn v) (λn t g I=>rbar1_q C L hb hni hla I) m _ _ ⟨by simp,R,hs,fs,vW,w,x,k,rfl,Ch.refl _ _ _⟩) ?_;rintro e t g ⟨h1,h2⟩;rcases h1 with ⟨hr,rfl⟩|⟨hr,h3⟩
  ·rw[hr];simp only[thenE];refine f'f ?_;simp[Znm,resE,resLE,rvE];exact h2
  ·rw[hr];simp[thenE,resE,resLE,rvE,h3];exact h2
 obtain⟨u,h',e1,rfl,e2⟩:=key;exact⟨h',e1,e2⟩
end
section
variable {H:Type}{O:HI H}{ro:Nat}{c:CallT H}
variable {w w':Own}{h h':H}{q:Nat}{S:Srch}{bW bH bV:Nat}{vA vC vT vS vK:Value}{lv wv:List Value}
variable {cp:Nat}{N:Ck}{v1 v2:Value}
theorem Kb.ask {lv:Nat}(u:Tag)(hu:u=(5,0)∨Ks (1000+2*lv) u): Kb u:=by
 rcases hu with h|h
 ·left;rw[h]
 ·right;unfold Ks at h;omega
theorem RN.keep (L:O.Law){r:Nat}{R:Rn}{bud:Int}{vF vW vP:Value}{fs:List (Nat×Value)}(x:RN O ro w h r R bud cp N v1 v2 vF vW vP fs)(a:Ch O (λ_=>False) w h w' h'): RN O ro w' h' r R bud cp N v1 v2 vF vW vP fs:=
 ⟨x.m.ch L a (by simp),x.X.ch L a (by simp),x.sF.ch L a (by simp),x.lF,λi F y h1 h2=>(x.fr i F y h1 h2).ch L a (by simp) (by simp) (by simp),x.sW.ch L a (by simp),l'G x.lo a.nx⟩
def RcI (O:HI H)(ro:Nat)(w:Own)(h:H)(r:Nat)(bud:Int)(cp:Nat)(N:Ck)(v1 v2 vF vP:Value)(Rf:Rn)(FL f nn v:Nat)(n:Nat)(t:Env)(g:H): Prop:=
 t 0 = .pointer (some ⟨r,0,none⟩)∧t 3=ni (FL-1)∧∃R,clearRP f nn N bud n R=some (Rf,v)∧BarQ O ro w h r bud cp N v1 v2 vF vP R FL g
theorem rclear1_q (C:LP' O ro c)(L:O.Law){r:Nat}{bud:Int}{vF vP:Value}(hb:bud<=2305843009213693952)(hni:N.ni<=60)(hla:N.las.length<=60){Rf:Rn}{FL f nn v n:Nat}(hFp:0<FL){t:Env}{g:H}(I:RcI O ro w h r bud cp N v1 v2 vF vP Rf FL f nn v n t g):
  okE c (W84_0 O Tryz.prog ro) (t,g) (λe t' g'=>(e = .normal∧∃n',n'<n∧RcI O ro w h r bud cp N v1 v2 vF vP Rf FL f nn v n' t' g')∨(e≠.normal∧((outOf 0 e = .ret∧t' 2=ni v)∧BarQ O ro w h r bud cp N v1 v2 vF vP Rf FL g'))):=by
 have hm:most=1000000:=rfl;obtain⟨d0,d3,R,hs,fs,vW,w1,x,k,hFL,c1⟩:=I
 cases n with
 | zero=>simp[clearRP]at hs
 | succ m=>
 unfold clearRP at hs;have m0:=x.m.get 0 _ rfl;have x3:=x.X.m.get 3 _ rfl;have y0:=Bx.new L (ro:=ro) w1 g x.lo (8,0) [ni N.bad];have c0:=Ch.new L (λ_=>False) w1 g (8,0) [ni N.bad];have x0:=x.keep L c0;have sl:Sm O ro (w1.set (O.next g) (8,0)) (O.new g [ni N.bad]) (8,0) 1 (.slice (some ⟨O.next g,0,some 1⟩) 1 2) ([N.bad].map ni):=.inr ⟨_,1,2,rfl,.inr rfl,rfl,y0⟩;unfold ptr at m0;rw[hFL]at hs;have hr1:List.range 1=[0]:=rfl;refine okE.blk ?_;split at hs
 ·simp at hs
 ·rename_i R1 hask
  simp only[l'a,l'd]at hs;obtain⟨rfl,rfl⟩:=hs;obtain⟨g4,w4,e4,x4,c4,h4⟩:=ask_q C L x0 hb k.sp (by unfold K11;simp) sl hask;obtain⟨k4,kw,kk,kfl,-,-⟩:=askP_k hask k;unfold ptr at e4;refine s'f ?_;simp[Zl1,thenE,d0,d3,m0,x3,hr1,e4];refine f'f ?_;simp[Zl2,Zl3,Zl4];exact⟨fs,_,w4,x4,k4,by omega,c1.trans ((c0.mono (by simp)).trans (c4.mono Kb.ask))⟩
 ·rename_i R1 hask
  simp only[l'a,l'd]at hs;obtain⟨rfl,rfl⟩:=hs;obtain⟨g4,w4,e4,x4,c4,h4⟩:=ask_q C L x0 hb k.sp (by unfold K11;simp) sl hask;obtain⟨k4,kw,kk,kfl,-,-⟩:=askP_k hask k;unfold ptr at e4;refine s'f ?_;simp[Zl1,thenE,d0,d3,m0,x3,hr1,e4];refine f'f ?_;simp[Zl2,Zl3,Zl5,Zl6];exact⟨fs,_,w4,x4,k4,by omega,c1.trans ((c0.mono (by simp)).trans (c4.mono Kb.ask))⟩
 ·rename_i R1 hask
  obtain⟨g4,w4,e4,x4,c4,h4⟩:=ask_q C L x0 hb k.sp (by unfold K11;simp) sl hask;obtain⟨k4,kw,kk,kfl,kmod,ksp⟩:=askP_k hask k;rw[kfl,hFL]at hs;have ksp:=ksp (by omega);split at hs
  ·simp at hs
  rename_i R2 hlen
  obtain⟨F,hF⟩:∃F,R1.frames[FL-1]?=some F:=by
   unfold lengthenP at hlen;split at hlen
   ·simp at hlen
   ·rename_i F hF;exact⟨F,hF⟩
  have hmod:=kmod rfl F hF;have hnv:=x.X.nv;have hnv2:N.nv=1+N.ni+N.las.length+N.gts.length:=rfl;obtain⟨vW5,g5,w5,e5,x5,c5⟩:=lengthen_q C L x4 h4 (by omega) hni hla hF (by omega) (by omega) hlen;obtain⟨k5,kf5,-⟩:=lengthenP_k hlen hla hni k4;have cc:Ch O Kb w h w5 g5:=c1.trans ((c0.mono (by simp)).trans ((c4.mono Kb.ask).trans (c5.mono (λu hu=>by rcases hu with h|h <;> (left;rw[h])))));have hf5:R2.frames.length=FL:=by rw[kf5];omega
  unfold ptr at e4 e5;split at hs
  ·simp at hs
  ·rename_i R3 hbar
   obtain⟨g6,e6,fs6,vW6,w6,x6,k6,hf6,c6⟩:=rbar_q C L x5 k5 hb hni hla hbar;unfold ptr at e6;refine s'f ?_;simp[Zl1,thenE,d0,d3,m0,x3,hr1,e4];refine s'f ?_;simp[Zl2,Zl3,Zl5,thenE];refine s'f ?_;simp[Zl7,thenE,d0,d3,e5];refine s'f ?_;simp[Zl8,thenE,d0,e6];refine f'f ?_;simp[Zl9];exact⟨m,by omega,by simp[d0],by simp[d3],R3,hs,fs6,_,w6,x6,k6,by omega,cc.trans c6⟩
  ·rename_i R3 v3 hv3 hbar
   simp only[l'a,l'd]at hs;obtain⟨rfl,rfl⟩:=hs;have hne:v3≠0:=λh=>by subst h;simp at hv3
   have hne':((v3:Int) != 0)=true:=bne_iff_ne.2 (by omega);obtain⟨g6,e6,fs6,vW6,w6,x6,k6,hf6,c6⟩:=rbar_q C L x5 k5 hb hni hla hbar;unfold ptr at e6;refine s'f ?_;simp[Zl1,thenE,d0,d3,m0,x3,hr1,e4];refine s'f ?_;simp[Zl2,Zl3,Zl5,thenE];refine s'f ?_;simp[Zl7,thenE,d0,d3,e5];refine s'f ?_;simp[Zl8,thenE,d0,e6];refine f'f ?_;simp[Zl9,Zma,hne,hne'];exact⟨fs6,_,w6,x6,k6,by omega,cc.trans c6⟩
 ·simp at hs
theorem rclear_q (C:LP' O ro c)(L:O.Law){r:Nat}{R Rf:Rn}{bud:Int}{vF vW vP:Value}{fs:List (Nat×Value)}(x:RN O ro w h r R bud cp N v1 v2 vF vW vP fs)(k:RnK N R)(hFp:0<R.frames.length)(hb:bud<=2305843009213693952)(hni:N.ni<=60)(hla:N.las.length<=60){f nn m v:Nat}(hs:clearRP f nn N bud m R=some (Rf,v)):
  ∃h',c 84 [ptr r] h=some (ni v,h')∧BarQ O ro w h r bud cp N v1 v2 vF vP Rf R.frames.length h':=by
 have hm:most=1000000:=rfl;have key:∃u h',c 84 [ptr r] h=some (u,h')∧(u=ni v∧BarQ O ro w h r bud cp N v1 v2 vF vP Rf R.frames.length h'):=by
  refine C.fn (F84_fn O ro) rfl rfl ?_;unfold F84;have m3:=x.m.get 3 _ rfl;obtain⟨aF,cF,hvF⟩:=x.sF.len (by omega) R.frames.length (by rw[flat_len frC 2 frC_len,x.lF]);rw[hvF]at m3;have fl:=k.fl;obtain⟨n1,hn1⟩:∃n1,R.frames.length=n1+1:=⟨R.frames.length-1,by omega⟩;have hw:IntKind.i64.wrap ((R.frames.length:Int)-1)=(n1:Int):=by rw[wrap_id (by omega) (by omega)];omega
  refine s'f ?_;simp[ZlZ,thenE];refine s'f ?_;simp[Zl0,thenE,m3,hw];refine okE.blk ?_;refine okE.mono (okE.loop (Q:=λe t' g'=>(outOf 0 e = .ret∧t' 2=ni v)∧BarQ O ro w h r bud cp N v1 v2 vF vP Rf R.frames.length g') (RcI O ro w h r bud cp N v1 v2 vF vP Rf R.frames.length f nn v) (λn t g I=>rclear1_q C L hb hni hla hFp I) m _ _ ⟨by simp,by simp <;> omega,R,hs,fs,vW,w,x,k,rfl,Ch.refl _ _ _⟩) ?_;rintro e t g ⟨⟨hr,h3⟩,h2⟩;rw[hr];simp[thenE,resE,resLE,rvE,h3];exact h2
 obtain⟨u,h',e1,rfl,e2⟩:=key;exact⟨h',e1,e2⟩
def CaI (O:HI H)(ro:Nat)(w:Own)(h:H)(r:Nat)(bud:Int)(cp:Nat)(N:Ck)(v1 v2 vF vP:Value)(Rf:Rn)(FL f nn v level:Nat)(n:Nat)(t:Env)(g:H): Prop:=
 t 0 = .pointer (some ⟨r,0,none⟩)∧t 1=ni level∧∃R,carryP f nn N bud level n R=some (Rf,v)∧BarQ O ro w h r bud cp N v1 v2 vF vP R FL g
theorem carry1_q (C:LP' O ro c)(L:O.Law){r:Nat}{bud:Int}{vF vP:Value}(hb:bud<=2305843009213693952)(hni:N.ni<=60)(hla:N.las.length<=60){Rf:Rn}{FL f nn v level n:Nat}(hlv:level+1<FL){t:Env}{g:H}(I:CaI O ro w h r bud cp N v1 v2 vF vP Rf FL f nn v level n t g):
  okE c (W126_0 O Tryz.prog ro) (t,g) (λe t' g'=>(e = .normal∧∃n',n'<n∧CaI O ro w h r bud cp N v1 v2 vF vP Rf FL f nn v level n' t' g')∨(e≠.normal∧((outOf 0 e = .normal∧v=2∨outOf 0 e = .ret∧t' 4=ni v)∧BarQ O ro w h r bud cp N v1 v2 vF vP Rf FL g'))):=by
 have hm:most=1000000:=rfl;obtain⟨d0,d1,R,hs,fs,vW,w1,x,k,hFL,c1⟩:=I
 cases n with
 | zero=>simp[carryP]at hs
 | succ m=>
 unfold carryP at hs;have m0:=x.m.get 0 _ rfl;have m3:=x.m.get 3 _ rfl;split at hs
 ·simp at hs
 rename_i F hF
 have hi:=(l'b.1 hF).1;have hi':(level:Int)<R.frames.length:=by omega
 obtain⟨⟨s,vo⟩,hy⟩:∃y,fs[level]?=some y:=⟨_,l'c (by rw[x.lF];exact hi)⟩;obtain⟨z,S0,us,o0⟩:=x.fr level F _ hF hy;obtain⟨b,q,eF,yb,hk0,hk1⟩:=x.getF level hy;rw[eF]at m3;have kb:=yb.get _ _ hk1;have kF:=k.fr F (l'f hF);unfold ptr at m0;have fl:=k.fl;split at hs
 ·rename_i hown
  simp only[l'a,l'd]at hs;obtain⟨rfl,rfl⟩:=hs;obtain⟨aO,cO,hvo⟩:=o0.s.len (by omega) 0 (by rw[o0.l,hown];rfl);rw[hvo]at kb;refine f'f ?_;simp[W126_0,Zno,d0,d1,m3,hi,hi',kb];exact⟨fs,_,w1,x,k,hFL,c1⟩
 ·rename_i cl rest hown
  have hol:F.own.length=rest.length+1:=by rw[hown];rfl
  have hcl:ClK N cl:=kF.2.2.2 cl (by rw[hown];simp);obtain⟨bO,pO,eO,_,yO⟩:=o0.s.blk (by omega) F.own.length (by rw[o0.l];simp) (by omega);obtain⟨u,hu⟩:∃u,us[0]?=some u:=⟨_,l'c (by rw[o0.l];omega)⟩;have su:=o0.a 0 cl u (by rw[hown];rfl) hu;have ku:O.cell g bO 0=some u:=by rw[yO.cell 0 (by rw[o0.l];omega),hu]
  rw[eO,hol]at kb;obtain⟨va,g3,w3,e3,s3,c3,lo3⟩:=broken_q C L x.lo x.X hcl.1 hcl.2 (by omega) su (9,0);have x3:=x.keep L c3;have su3:=su.ch L c3 (by simp);have tv1:=su.flat.2.2;have tv2:=s3.flat.2.2;have hgt:(0:Int)<(rest.length:Int)+1:=by omega
  unfold ptr at e3;refine s'f ?_;simp[Zno,thenE,d0,d1,m3,hi,hi',kb,hgt];refine okE.blk ?_;refine s'f ?_;simp[Znp,thenE,d0,d1,m3,hi,hi',kb,hgt,ku,tv1];refine s'f ?_;simp[Znq,thenE,d0,m0,e3,tv2];split at hs
  ·simp at hs
  ·rename_i R1 hask
   obtain⟨g4,w4,e4,x4,c4,h4⟩:=ask_q C L x3 hb k.sp (by unfold K11;simp) s3 hask;obtain⟨k4,kw,kk,kfl,kmod,ksp⟩:=askP_k hask k;split at hs
   ·simp at hs
   rename_i R2 hlrn
   have su4:=su3.ch L c4 (by rintro (h|h);simp at h;unfold Ks at h;simp at h;omega);obtain⟨fs7,g7,w7,e7,x7,c7⟩:=learn_q2 C L x4 k4 (level:=level+1) (by omega) hcl su4 hlrn;obtain⟨k7,kf7,kw7,-,-⟩:=learnRP_k hcl hlrn k4;have hw1:IntKind.i64.wrap ((level:Int)+1)=((level+1:Nat):Int):=by rw[wrap_id (by omega) (by omega)];omega
   obtain⟨l1,hl1⟩:∃l1,l1=level+1:=⟨_,rfl⟩;rw[<-hl1]at hw1 e7;unfold ptr at e4 e7;refine s'f ?_;simp[Znr,thenE,d0,d1,e4];refine s'f ?_;simp[Zns,thenE];refine f'f ?_;simp[Znu,d0,d1,hw1,e7];exact⟨m,by omega,by simp[d0],by simp[d1],R2,hs,fs7,_,w7,x7,k7,by omega,c1.trans ((c3.mono (by simp)).trans ((c4.mono Kb.ask).trans (c7.mono (λu hu=>by rcases hu with h|h;left;rw[h];exact .inr h))))⟩
  ·rename_i R1 a hna hask
   simp only[l'a,l'd]at hs;obtain⟨rfl,rfl⟩:=hs;have hne:a≠2:=λh=>by subst h;simp at hna
   have hne':((a:Int) != 2)=true:=bne_iff_ne.2 (by omega);obtain⟨g4,w4,e4,x4,c4,h4⟩:=ask_q C L x3 hb k.sp (by unfold K11;simp) s3 hask;obtain⟨k4,kw,kk,kfl,kmod,ksp⟩:=askP_k hask k;unfold ptr at e4;refine s'f ?_;simp[Znr,thenE,d0,d1,e4];refine f'f ?_;simp[Zns,Znt,hne,hne'];exact⟨fs,_,w4,x4,k4,by omega,c1.trans ((c3.mono (by simp)).trans (c4.mono Kb.ask))⟩
theorem carry_q (C:LP' O ro c)(L:O.Law){r:Nat}{R Rf:Rn}{bud:Int}{vF vW vP:Value}{fs:List (Nat×Value)}(x:RN O ro w h r R bud cp N v1 v2 vF vW vP fs)(k:RnK N R)(hb:bud<=2305843009213693952)(hni:N.ni<=60)(hla:N.las.length<=60){f nn m v level:Nat}(hlv:level+1<R.frames.length)(hs:carryP f nn N bud level m R=some (Rf,v)):
  ∃h',c 126 [ptr r,ni level] h=some (ni v,h')∧BarQ O ro w h r bud cp N v1 v2 vF vP Rf R.frames.length h':=by
 have key:∃u h',c 126 [ptr r,ni level] h=some (u,h')∧(u=ni v∧BarQ O ro w h r bud cp N v1 v2 vF vP Rf R.frames.length h'):=by
  refine C.fn (F126_fn O ro) rfl rfl ?_;unfold F126;refine s'f ?_;simp[Znn,thenE];refine okE.seq (okE.blk ?_);refine okE.mono (okE.loop (Q:=λe t' g'=>(outOf 0 e = .normal∧v=2∨outOf 0 e = .ret∧t' 4=ni v)∧BarQ O ro w h r bud cp N v1 v2 vF vP Rf R.frames.length g') (CaI O ro w h r bud cp N v1 v2 vF vP Rf R.frames.length f nn v level) (λn t g I=>carry1_q C L hb hni hla hlv I) m _ _ ⟨by simp,by simp,R,hs,fs,vW,w,x,k,rfl,Ch.refl _ _ _⟩) ?_;rintro e t g ⟨h1,h2⟩;rcases h1 with ⟨hr,rfl⟩|⟨hr,h3⟩
  ·rw[hr];simp only[thenE];refine f'f ?_;simp[Znv,resE,resLE,rvE];exact h2
  ·rw[hr];simp[thenE,resE,resLE,rvE,h3];exact h2
 obtain⟨u,h',e1,rfl,e2⟩:=key;exact⟨h',e1,e2⟩
end
section
variable {H:Type}{O:HI H}{ro:Nat}{c:CallT H}
variable {w w':Own}{h h':H}{q:Nat}{S:Srch}{bW bH bV:Nat}{vA vC vT vS vK:Value}{lv wv:List Value}
variable {cp:Nat}{N:Ck}{v1 v2:Value}
theorem appM_all (L:O.Law){t t2:Tag}{sz bytes:Nat}{v u:Value}{l l2:List Value}(hro:ro<=O.next h)(x:Sm O ro w h t sz v l)(y:Sm O ro w h t2 sz u l2)(hsz:0<sz)(n1 n2:Nat)(hn1:l.length=n1*sz)(hn2:l2.length=n2*sz)(hsize:¬((n1+n2)*bytes>140737488355328∨n1+n2>140737488355328)):
  ∃v' h' w',appI O ro sz bytes v u h=some (v',h')∧Sm O ro w' h' t sz v' (l++l2)∧Ch O (λu=>u=t) w h w' h'∧ro<=O.next h':=by
 obtain⟨a1,q1,e1⟩:=x.len hsz n1 hn1;have hs2:(u = .slice none 0 0∧n2=0∧l2=[])∨∃b2 q2,u = .slice (some ⟨b2,0,some sz⟩) n2 q2∧cellsA O h b2 0 (n2*sz)=some l2:=by
  rcases y with ⟨f1,f2⟩|⟨b,m,cp,f,fc,fl,yb⟩
  ·left;rw[f2]at hn2;have:n2=0:=by
    rcases Nat.mul_eq_zero.1 hn2.symm with h|h <;> omega
   exact⟨f1,this,f2⟩
  ·right;have hm:m=n2:=Nat.eq_of_mul_eq_mul_right hsz (by omega);have:=yb.all;rw[hn2]at this;exact⟨b,cp,by rw[f,hm],this⟩
 rcases x with ⟨rfl,rfl⟩|⟨b,m,cp,rfl,hcp,el,x⟩
 ·simp only[Value.slice.injEq]at e1;obtain⟨rfl,h0,rfl⟩:=e1;have h1:n1=0:=by omega
  subst h1
  by_cases h2:n2=0
  ·subst h2;have:l2=[]:=List.eq_nil_of_length_eq_zero (by omega);subst this;refine⟨.slice none 0 0,h,w,?_,Sm.nil _ _ _ _,Ch.refl _ _ _,hro⟩;rcases hs2 with ⟨rfl,_,_⟩|⟨b2,q2,rfl,hc2⟩
   ·simp[appI]
   ·simp only[appI];rw[if_neg hsize,hc2];simp
  ·refine⟨.slice (some ⟨O.next h,0,some sz⟩) n2 0,O.new h l2,_,?_,.inr ⟨_,n2,0,rfl,.inl rfl,by simp[hn2],by simpa using Bx.new L w h hro t l2⟩,Ch.new L _ w h t l2,by rw[L.next_new];omega⟩;rcases hs2 with ⟨_,hz,_⟩|⟨b2,q2,rfl,hc2⟩
   ·exact absurd hz h2
   ·simp only[appI];rw[if_neg hsize,hc2];simp[h2]
 ·simp only[Value.slice.injEq]at e1;obtain⟨rfl,h0,rfl⟩:=e1;have hm:m=n1:=by omega
  subst hm;have hold:cellsA O h b 0 (m*sz)=some l:=by rw[<-hn1];exact x.all
  have hbro:¬b<ro:=by have:=x.lo;omega
  have hal:=x.al;rcases hcp with rfl|rfl
  ·have nk:O.next (O.kill h b)=O.next h:=L.next_kill _ _
   refine⟨.slice (some ⟨O.next h,0,some sz⟩) (m+n2) 0,O.new (O.kill h b) (l++l2),w.set (O.next h) t,?_,.inr ⟨O.next h,m+n2,0,rfl,.inl rfl,by simp[hn1,hn2,Nat.add_mul],?_⟩,?_,?_⟩
   ·rcases hs2 with ⟨rfl,rfl,rfl⟩|⟨b2,q2,rfl,hc2⟩
    ·simp only[appI];rw[if_neg hsize];simp[hbro,hal,hold]
    ·simp only[appI];rw[if_neg hsize,hc2];simp[hbro,hal,hold]
   ·have:=Bx.new L (ro:=ro) w (O.kill h b) (by rw[nk];exact hro) t (l++l2);rw[nk]at this;exact this
   ·have c2:=Ch.kill L (K:=λu=>u=t) x rfl;have c3:=Ch.new L (λu=>u=t) w (O.kill h b) t (l++l2);rw[nk]at c3;exact c2.trans c3
   ·rw[L.next_new,nk];omega
  ·by_cases h2:n2=0
   ·subst h2;have:l2=[]:=List.eq_nil_of_length_eq_zero (by omega);subst this;refine⟨.slice (some ⟨b,0,some sz⟩) m (m+1),h,w,?_,.inr ⟨b,m,m+1,rfl,.inr rfl,by simp[hn1],by simpa using x⟩,Ch.refl _ _ _,hro⟩;rcases hs2 with ⟨rfl,_,_⟩|⟨b2,q2,rfl,hc2⟩
    ·simp only[appI];rw[if_neg hsize];simp[hbro,hal,hold,putsA]
    ·simp only[appI];rw[if_neg hsize,hc2];simp[hbro,hal,hold,putsA]
   ·refine⟨.slice (some ⟨O.next h,0,some sz⟩) (m+n2) 0,O.new h (l++l2),w.set (O.next h) t,?_,.inr ⟨O.next h,m+n2,0,rfl,.inl rfl,by simp[hn1,hn2,Nat.add_mul],Bx.new L w h hro t _⟩,Ch.new L _ w h t _,by rw[L.next_new];omega⟩;have h3:¬(m+n2<m+1):=by omega
    rcases hs2 with ⟨_,hz,_⟩|⟨b2,q2,rfl,hc2⟩
    ·exact absurd hz h2
    ·simp only[appI];rw[if_neg hsize,hc2];simp[hbro,hal,hold,h3]
theorem Cs.all (L:O.Law){t t2:Tag}(ht:t≠(9,0)){v u:Value}{vs us:List Value}{cs ds:List (List Nat)}(lo:ro<=O.next h)(x:Cs O ro w h t v vs cs)(y:Cs O ro w h t2 u us ds)(hl:¬((cs.length+ds.length)*24>140737488355328∨cs.length+ds.length>140737488355328)):
  ∃v' h' w',appI O ro 1 24 v u h=some (v',h')∧Cs O ro w' h' t v' (vs++us) (cs++ds)∧Ch O (λy=>y=t) w h w' h'∧ro<=O.next h':=by
 obtain⟨v4,h4,w4,e4,s4,c4,lo4⟩:=appM_all (bytes:=24) L lo x.s y.s (by omega) cs.length ds.length (by rw[x.l];simp) (by rw[y.l];simp) hl;have n9:¬((9,0):Tag)=t:=λe=>ht e.symm;refine⟨v4,h4,w4,e4,⟨s4,by simp[x.l,y.l],λi l' u' q1 q2=>?_⟩,c4,lo4⟩
 by_cases hk:i<cs.length
 ·rw[l'e hk]at q1;rw[l'e (by rw[x.l];exact hk)]at q2;exact (x.a i l' u' q1 q2).ch L c4 n9
 ·rw[l'z (by omega)]at q1;rw[l'z (by rw[x.l];omega),x.l]at q2;exact (y.a _ l' u' q1 q2).ch L c4 n9
theorem Cs.give {k0:Nat}{v:Value}{us:List Value}{l:List (List Nat)}{g:H}{w1:Own}(cs:Cs O ro w1 g (14,k0) v us l)(c1:Ch O (λ_=>False) w h w1 g)(hk0:∀b,b<O.next h->w b≠((14,k0):Tag))(t1:Tag): ∃w2,Cs O ro w2 g t1 v us l∧Ch O (λ_=>False) w h w2 g:=by
 rcases id cs.s with e|⟨b0,m,cp,e,ec,el,y⟩
 ·exact⟨w1,⟨.inl e,cs.l,cs.a⟩,c1⟩
 ·have hb0:¬b0<O.next h:=λhb0=>hk0 b0 hb0 (by rw[<-c1.ow b0 hb0,y.tag])
  refine⟨w1.set b0 t1,⟨.inr ⟨b0,m,cp,e,ec,el,⟨by simp[Own.set],y.lo,y.al,y.cell⟩⟩,cs.l,λi l u h1 h2=>(cs.a i l u h1 h2).re y.tag (by simp)⟩,⟨c1.nx,λb' hb'=>?_,c1.fr⟩⟩;have:b'≠b0:=by rintro rfl;exact hb0 hb'
  simp only[Own.set,if_neg this];exact c1.ow b' hb'
def aboveP (R:Rn)(level k:Nat): List (List Nat):=((R.frames.take k).drop (level+1)).flatMap (·.own)
def CvI (O:HI H)(ro:Nat)(w:Own)(h:H)(r k0 level:Nat)(R:Rn)(n:Nat)(t:Env)(g:H): Prop:=
 t 0 = .pointer (some ⟨r,0,none⟩)∧∃k v us w1,t 5=v∧t 6=ni k∧k+n=R.frames.length∧level+1<=k∧Cs O ro w1 g (14,k0) v us (aboveP R level k)∧(aboveP R level k).length<=k*most∧Ch O (λ_=>False) w h w1 g∧ro<=O.next g
theorem above_q (C:LP' O ro c)(L:O.Law){r:Nat}{R:Rn}{bud:Int}{vF vW vP:Value}{fs:List (Nat×Value)}(x:RN O ro w h r R bud cp N v1 v2 vF vW vP fs)(k:RnK N R){level:Nat}(hlv:level+1<=R.frames.length):
  ∃v us h' w',c 127 [ptr r,ni level] h=some (v,h')∧Cs O ro w' h' (5,3) v us ((R.frames.drop (level+1)).flatMap (·.own))∧((R.frames.drop (level+1)).flatMap (·.own)).length<=1000000000000∧Ch O (λ_=>False) w h w' h':=by
 obtain⟨K,hK⟩:∃K,K=((R.frames.drop (level+1)).flatMap (·.own)):=⟨_,rfl⟩;rw[<-hK];have hm:most=1000000:=rfl;have fl:=k.fl;obtain⟨k0,hk0⟩:=fresh_tag w (O.next h);have key:∃u h',c 127 [ptr r,ni level] h=some (u,h')∧(∃us w1,Cs O ro w1 h' (14,k0) u us K∧K.length<=1000000000000∧Ch O (λ_=>False) w h w1 h'):=by
  refine C.fn (F127_fn O ro) rfl rfl ?_;unfold F127;have y4:=Bx.new L (ro:=ro) w h x.lo (14,k0) [];have c4:=Ch.new L (λ_=>False) w h (14,k0) [];have lo4:=l'G x.lo c4.nx;have hw0:IntKind.i64.wrap ((level:Int)+1)=((level+1:Nat):Int):=by rw[wrap_id (by omega) (by omega)];omega
  obtain⟨l1,hl1⟩:∃l1,l1=level+1:=⟨_,rfl⟩;rw[<-hl1]at hw0;refine s'f ?_;simp[Znw,thenE];refine s'f ?_;simp[Znx,thenE];refine okE.seq (s'f ?_);simp[Zny,thenE,hw0];refine okE.blk ?_;have ha0:aboveP R level l1=[]:=by
   unfold aboveP;rw[hl1,List.drop_eq_nil_of_le (by simp;omega)];rfl
  refine okE.mono (okE.loop (Q:=λe t' g'=>outOf 0 e = .normal∧∃us w1,Cs O ro w1 g' (14,k0) (t' 5) us K∧K.length<=1000000000000∧Ch O (λ_=>False) w h w1 g') (CvI O ro w h r k0 level R) ?_ (R.frames.length-l1) _ _ ⟨by simp,l1,.slice (some ⟨O.next h,0,some 1⟩) 0 1,[],_,by simp,by simp,by omega,by omega,by rw[ha0];exact⟨.inr ⟨_,0,1,rfl,.inr rfl,by simp,y4⟩,rfl,by simp⟩,by rw[ha0];simp,c4,lo4⟩) ?_
  ·rintro n t g ⟨d0,kk,v,us,w1,d5,d6,hkn,hlk,cs,hal,c1,lo1⟩;have x1:=x.keep L c1;have m3:=x1.m.get 3 _ rfl;obtain⟨aF,cF,hvF⟩:=x1.sF.len (by omega) R.frames.length (by rw[flat_len frC 2 frC_len,x.lF])
   cases n with
   | zero=>
    obtain rfl:kk=R.frames.length:=by omega
    unfold aboveP at cs hal;rw[List.take_length,<-hK]at cs hal;rw[hvF]at m3;have hal2:R.frames.length*most<=1000000*1000000:=Nat.mul_le_mul (by omega) (by omega);refine f'f ?_;simp[W127_0,Znz,d0,d5,d6,m3];exact⟨us,w1,cs,by omega,c1⟩
   | succ n=>
    have hi:kk<R.frames.length:=by omega
    have hi':(kk:Int)<R.frames.length:=by omega
    obtain⟨F,hF⟩:∃F,R.frames[kk]?=some F:=⟨_,l'c hi⟩;obtain⟨⟨s,vo⟩,hy⟩:∃y,fs[kk]?=some y:=⟨_,l'c (by rw[x.lF];exact hi)⟩;obtain⟨z,S0,uo,o0⟩:=x1.fr kk F _ hF hy;obtain⟨b,q,eF,yb,hb0,hb1⟩:=x1.getF kk hy;have kF:=k.fr F (l'f hF);have kb:=yb.get _ _ hb1;rw[eF]at m3;have hal2:kk*most<=1000000*1000000:=Nat.mul_le_mul (by omega) (by omega);have hol:=kF.2.2.1;obtain⟨v3,g3,w3,e3,cs3,c3,lo3⟩:=cs.all L (by simp) lo1 o0 (by omega);have hst:aboveP R level kk++F.own=aboveP R level (kk+1):=by
     unfold aboveP;rw[l'C,hF,List.drop_append_of_le_length (by simp;omega),List.flatMap_append];simp
    rw[hst]at cs3;have hal3:(aboveP R level (kk+1)).length<=(kk+1)*most:=by
     rw[<-hst,l'p,Nat.add_mul];omega
    have c13:=Ch.own (k:=k0) c1 c3 hk0;have hwi:IntKind.i64.wrap ((kk:Int)+1)=((kk+1:Nat):Int):=by rw[wrap_id (by omega) (by omega)];omega
    obtain⟨i',hi2⟩:∃i',i'=kk+1:=⟨_,rfl⟩;rw[<-hi2]at hwi cs3 hal3;have tv:=o0.s.flat.2.2;refine f'f ?_;simp[W127_0,Znz,ZnA,ZnB,d0,d5,d6,m3,hi,hi',kb,tv,e3,hwi];exact⟨n,by omega,by simp[d0],i',v3,_,w3,by simp,by simp,by omega,by omega,cs3,hal3,c13,lo3⟩
  ·rintro e t g ⟨hr,us,w1,cs,hlen,c1⟩;rw[hr];simp only[thenE];refine f'f ?_;have tv:=cs.s.flat.2.2;simp[ZnC,resE,resLE,rvE,tv];exact⟨us,w1,cs,hlen,c1⟩
 obtain⟨u,h',e1,us,w1,cs,hlen,c1⟩:=key;obtain⟨w2,cs2,c2⟩:=cs.give c1 hk0 (5,3);exact⟨u,us,h',w2,e1,cs2,hlen,c2⟩
end
section
variable {H:Type}{O:HI H}{ro:Nat}{c:CallT H}
variable {w w':Own}{h h':H}{q:Nat}{S:Srch}{bW bH bV:Nat}{vA vC vT vS vK:Value}{lv wv:List Value}
variable {cp:Nat}{N:Ck}{v1 v2:Value}
def AdQ (O:HI H)(ro:Nat)(w:Own)(h:H)(r:Nat)(bud:Int)(cp:Nat)(N:Ck)(v1 v2:Value)(Rf:Rn)(FL v:Nat)(g:H): Prop:=
 ∃fs vF vW vP w1,RN O ro w1 g r Rf bud cp N v1 v2 vF vW vP fs∧RnK N Rf∧Rf.frames.length=FL∧Ch O Kb w h w1 g∧(v=1->(∃us,Cs O ro w1 g (5,3) vP us Rf.kept)∧(∀l∈Rf.kept,ClK N l)∧Rf.kept.length<=1000000000000)
def AdI (O:HI H)(ro:Nat)(w:Own)(h:H)(r:Nat)(bud:Int)(cp:Nat)(N:Ck)(v1 v2 vF vP:Value)(Rf:Rn)(FL f nn v:Nat)(n:Nat)(t:Env)(g:H): Prop:=
 t 0 = .pointer (some ⟨r,0,none⟩)∧∃k R,t 4=ni k∧k+n+1=FL∧advL f nn N bud n k R=some (Rf,v)∧BarQ O ro w h r bud cp N v1 v2 vF vP R FL g
theorem adv1_q (C:LP' O ro c)(L:O.Law){r:Nat}{bud:Int}{vF vP:Value}(hb:bud<=2305843009213693952)(hni:N.ni<=60)(hla:N.las.length<=60){Rf:Rn}{FL f nn v n:Nat}{t:Env}{g:H}(I:AdI O ro w h r bud cp N v1 v2 vF vP Rf FL f nn v n t g):
  okE c (W85_0 O Tryz.prog ro) (t,g) (λe t' g'=>(e = .normal∧∃n',n'<n∧AdI O ro w h r bud cp N v1 v2 vF vP Rf FL f nn v n' t' g')∨(e≠.normal∧((outOf 0 e = .normal∧v=0∨outOf 0 e = .ret∧t' 2=ni v)∧AdQ O ro w h r bud cp N v1 v2 Rf FL v g'))):=by
 have hm:most=1000000:=rfl;obtain⟨d0,kk,R,d4,hkn,hs,fs,vW,w1,x,k,hFL,c1⟩:=I;have m3:=x.m.get 3 _ rfl;obtain⟨aF,cF,hvF⟩:=x.sF.len (by omega) R.frames.length (by rw[flat_len frC 2 frC_len,x.lF]);rw[hvF]at m3;have fl:=k.fl;obtain⟨f1,hf1⟩:∃f1,FL=f1+1:=⟨FL-1,by omega⟩;have hw:IntKind.i64.wrap ((R.frames.length:Int)-1)=(f1:Int):=by rw[wrap_id (by omega) (by omega)];omega
 cases n with
 | zero=>
  simp only[advL,l'a,l'd]at hs;obtain⟨rfl,rfl⟩:=hs;have hlt:¬((kk:Int)<(f1:Int)):=by omega
  have hlt2:¬(kk<f1):=by omega
  refine f'f ?_;simp[W85_0,Zmf,d0,d4,m3,hw,hlt,hlt2];exact⟨fs,vF,vW,vP,w1,x,k,hFL,c1,by simp⟩
 | succ n=>
  unfold advL at hs;have hlt:((kk:Int)<(f1:Int)):=by omega
  have hlt2:(kk<f1):=by omega
  have hwk:IntKind.i64.wrap ((kk:Int)+1)=((kk+1:Nat):Int):=by rw[wrap_id (by omega) (by omega)];omega
  obtain⟨k2,hk2⟩:∃k2,k2=kk+1:=⟨_,rfl⟩;rw[<-hk2]at hwk;refine s'f ?_;simp[Zmf,thenE,d0,d4,m3,hw,hlt,hlt2];split at hs
  ·simp at hs
  ·rename_i R1 hca
   simp only[l'a,l'd]at hs;obtain⟨rfl,rfl⟩:=hs;obtain⟨g2,e2,fs2,vW2,w2,x2,kr2,hf2,c2⟩:=carry_q C L x k hb hni hla (by omega) hca;unfold ptr at e2;refine f'f ?_;simp[Zmg,Zmh,Zmi,Zmj,d0,d4,e2];exact⟨fs2,vF,vW2,vP,w2,x2,kr2,by omega,c1.trans c2,by simp⟩
  ·rename_i R1 hca
   simp only[l'a,l'd]at hs;obtain⟨rfl,rfl⟩:=hs;obtain⟨g2,e2,fs2,vW2,w2,x2,kr2,hf2,c2⟩:=carry_q C L x k hb hni hla (by omega) hca;obtain⟨v3,us3,g3,w3,e3,cs3,hkl,c3⟩:=above_q C L x2 kr2 (level:=kk) (by omega);have x3:=x2.keep L c3;have c4:=Ch.put L (K:=λu=>u=((5,0):Tag)) x3.m 5 (by simp) v3 rfl;have m4:=x3.m.put L 5 (by simp) v3;have p4:=puts_one (O:=O) (v:=v3) (x3.m.get 5 _ rfl);have cs4:=cs3.ch L c4 (by simp) (by simp);obtain⟨f1,f2,f3⟩:=cs3.s.flat;have rr:¬r<ro:=by have:=x.m.lo;omega
   have x4:RN O ro w3 (O.put g3 r 5 v3) r { R1 with kept:=(R1.frames.drop (kk+1)).flatMap (·.own) } bud cp N v1 v2 vF vW2 v3 fs2:=⟨m4,x3.X.ch L c4 (by simp),x3.sF.ch L c4 (by simp),x3.lF,λi F y h1 h2=>(x3.fr i F y h1 h2).ch L c4 (by simp) (λj=>by simp <;> omega) (λj=>by simp <;> omega),x3.sW.ch L c4 (by simp),l'G x3.lo c4.nx⟩;generalize hg4:O.put g3 r 5 v3=g4 at *;unfold ptr at e2 e3;refine f'f ?_;simp[Zmg,Zmh,Zmi,Zmk,Zml,Zmm,d0,d4,e2,e3,p4,f1,f2,f3,rr];exact⟨fs2,vF,vW2,v3,w3,x4,⟨kr2.sp,kr2.fr,kr2.wy,kr2.wl,kr2.fl⟩,by simp only;omega,c1.trans (c2.trans ((c3.mono (by simp)).trans (c4.mono (λu hu=>by left;rw[hu])))),λ_=>⟨⟨us3,cs4⟩,λl hl=>by
    simp only[List.mem_flatMap]at hl;obtain⟨F,hF,hl⟩:=hl;exact (kr2.fr F (List.mem_of_mem_drop hF)).2.2.2 l hl,hkl⟩⟩
  ·rename_i R1 a h3 h2 hca
   obtain⟨g2,e2,fs2,vW2,w2,x2,kr2,hf2,c2⟩:=carry_q C L x k hb hni hla (by omega) hca;have hne3:a≠3:=λh=>by subst h;simp at h3
   have hne2:a≠2:=λh=>by subst h;simp at h2
   have hne3':((a:Int)==3)=false:=by rw[l'A];omega
   have hne2':((a:Int)==2)=false:=by rw[l'A];omega
   have hne4':¬((a:Int)=3):=by omega
   have hne5':¬((a:Int)=2):=by omega
   unfold ptr at e2;refine f'f ?_;simp[Zmg,Zmh,Zmi,Zmk,Zmn,d0,d4,e2,hne3',hne2',hne4',hne5',hne3,hne2,hwk];exact⟨n,by omega,by simp[d0],k2,R1,by simp,by omega,by rw[hk2];exact hs,fs2,vW2,w2,x2,kr2,by omega,c1.trans c2⟩
theorem adv_q (C:LP' O ro c)(L:O.Law){r:Nat}{R Rf:Rn}{bud:Int}{vF vW vP:Value}{fs:List (Nat×Value)}(x:RN O ro w h r R bud cp N v1 v2 vF vW vP fs)(k:RnK N R)(hFp:0<R.frames.length)(hb:bud<=2305843009213693952)(hni:N.ni<=60)(hla:N.las.length<=60){f nn v:Nat}(hs:advP f nn N bud R=some (Rf,v)):
  ∃h',c 85 [ptr r] h=some (ni v,h')∧AdQ O ro w h r bud cp N v1 v2 Rf (R.frames.length+1) v h':=by
 have hm:most=1000000:=rfl;unfold advP at hs;split at hs
 ·simp at hs
 rename_i F hF
 split at hs
 ·rename_i hlm
  have hnv:=x.X.nv;obtain⟨kF,hown⟩:=newFrP_k hF hnv;obtain⟨u1,g1,e1,s,vE,vcl,vM,vK,vs,w1,rfl,z1,S1,c1⟩:=frame_q C L x.lo (p:=1000+2*R.frames.length) (by omega) x.X hF;have lo1:=l'G x.lo c1.nx;obtain⟨k0,hkk⟩:=fresh_tag w1 (O.next g1);have y2:=Bx.new L (ro:=ro) w1 g1 lo1 (14,k0) [.pointer none,.slice none 0 0];have c2:=Ch.new L (λ_=>False) w1 g1 (14,k0) [.pointer none,.slice none 0 0];obtain⟨g3,p3,y3,c3⟩:=Bx.over L (K:=λu=>u=((14,k0):Tag)) rfl y2 (show [ptr s,.slice none 0 0].length = _ from rfl);have c13:=Ch.own (k:=k0) c2 c3 hkk;have lo3:ro<=O.next g3:=l'G lo1 c13.nx
  have kk1:∀t:Tag,t.1<1000->¬Ks (1000+2*R.frames.length) t:=λt ht=>by unfold Ks;omega
  have sF3:=(x.sF.ch L c1 (kk1 _ (by simp))).ch L c13 (by simp);have m3:=(x.m.ch L c1 (kk1 _ (by simp))).ch L c13 (by simp);have hflen:=flat_len frC 2 frC_len fs;have hfs:=x.lF;obtain⟨vF',g4,w4,e4,s4,c4,lo4⟩:=appM_one (bytes:=32) (new:=[ptr s,.slice none 0 0]) L lo3 sF3 (by omega) rfl (by omega) (by omega);have m4:=m3.ch L c4 (by simp);have c5:=Ch.put L (K:=λu=>u=((5,0):Tag)) m4 3 (by simp) vF' rfl;have m5:=m4.put L 3 (by simp) vF';have p5:=puts_one (O:=O) (v:=vF') (m4.get 3 _ rfl);have hflat:fs.flatMap frC++[ptr s,.slice none 0 0]=(fs++[(s,Value.slice none 0 0)]).flatMap frC:=by
   rw[List.flatMap_append];simp[frC]
  rw[hflat]at s4;obtain⟨g5,hg5⟩:∃g5,g5=O.put g4 r 3 vF':=⟨_,rfl⟩;rw[<-hg5]at c5 m5 p5;have c1b:Ch O (λu=>u=(5,0)∨u=(5,1)) w1 g1 w4 g5:=((c13.mono (by simp)).trans (c4.mono (λ_ h=>.inr h))).trans (c5.mono (λ_ h=>.inl h));have x5:RN O ro w4 g5 r { R with frames:=R.frames++[F] } bud cp N v1 v2 vF' vW vP (fs++[(s,.slice none 0 0)]):=by
   refine⟨m5,(x.X.ch L c1 (λi=>kk1 _ (by simp))).ch L c1b (by simp),s4.m.ch L c5 (by simp),by simp[hfs],?_,(x.sW.ch L c1 (kk1 _ (by simp))).ch L c1b (by simp),l'G lo1 c1b.nx⟩;intro i F' y' hF' hy';simp only at hF'
   by_cases hi:i<R.frames.length
   ·rw[l'e hi]at hF';rw[l'e (by omega)]at hy';exact ((x.fr i F' y' hF' hy').ch L c1 (λj=>kk1 _ (by simp)) (λj=>by unfold Ks;simp;omega) (λj=>by unfold Ks;simp;omega)).ch L c1b (by simp) (λj=>by simp <;> omega) (λj=>by simp <;> omega)
   ·have hi2:=(l'b.1 hF').1;simp at hi2;obtain rfl:i=R.frames.length:=by omega
    simp at hF';rw[<-hfs]at hy';simp at hy';subst hF' hy';exact⟨z1,⟨_,_,_,_,_,S1.ch L c1b (by simp) (λj=>by simp <;> omega)⟩,[],by rw[hown];exact⟨Sm.nil _ _ _ _,rfl,by simp⟩⟩
  have k5:RnK N { R with frames:=R.frames++[F] }:=by
   refine⟨k.sp,?_,k.wy,k.wl,by simp;omega⟩;intro F' hF';simp only[l'E,l'm]at hF';rcases hF' with h|rfl
   ·exact k.fr F' h
   ·exact kF
  have c05:Ch O Kb w h w4 g5:=(c1.mono (λu hu=>by right;unfold Ks at hu;omega)).trans (c1b.mono (λu hu=>by rcases hu with h|h <;> (left;rw[h])));have key:∃u h',c 85 [ptr r] h=some (u,h')∧(u=ni v∧AdQ O ro w h r bud cp N v1 v2 Rf (R.frames.length+1) v h'):=by
   refine C.fn (F85_fn O ro) rfl rfl ?_;unfold F85;have r0:=x.m.get 0 _ rfl;have q3:=m3.get 3 _ rfl;have hall:=y3.all;simp only[l'n,l'o]at hall;have hr2:List.range 2=[0,1]:=rfl;have rr:¬r<ro:=by have:=x.m.lo;omega
   have r1:¬O.next g1<ro:=by omega
   obtain⟨f1,f2,f3⟩:=s4.m.flat;unfold ptr at e1 r0 p3 hall e4;refine s'f ?_;simp[Zmb,thenE];refine s'f ?_;simp[Zmc,thenE,r0,e1,r1,p3];refine s'f ?_;simp[Zmd,thenE,q3,hall,hr2,e4,p5,f1,f2,f3,rr];refine okE.seq (s'f ?_);simp[Zme,thenE];refine okE.blk ?_;refine okE.mono (okE.loop (Q:=λe t' g'=>(outOf 0 e = .normal∧v=0∨outOf 0 e = .ret∧t' 2=ni v)∧AdQ O ro w h r bud cp N v1 v2 Rf (R.frames.length+1) v g') (AdI O ro w h r bud cp N v1 v2 vF' vP Rf (R.frames.length+1) f nn v) (λn t g I=>adv1_q C L hb hni hla I) (R.frames.length-1) _ _ ⟨by simp,1,_,by simp,by omega,hs,_,vW,w4,x5,k5,by simp,c05⟩) ?_;rintro e t g ⟨h1,h2⟩;rcases h1 with ⟨hr,rfl⟩|⟨hr,h3⟩
   ·rw[hr];simp only[thenE];refine f'f ?_;simp[Zmo,resE,resLE,rvE];exact h2
   ·rw[hr];simp[thenE,resE,resLE,rvE,h3];exact h2
  obtain⟨u,h',e1,rfl,e2⟩:=key;exact⟨h',e1,e2⟩
 ·simp at hs
def DeQ (O:HI H)(ro:Nat)(w:Own)(h:H)(r:Nat)(bud:Int)(cp:Nat)(N:Ck)(v1 v2:Value)(Rf:Rn)(v:Nat)(g:H): Prop:=
 ∃fs vF vW vP w1,RN O ro w1 g r Rf bud cp N v1 v2 vF vW vP fs∧RnK N Rf∧0<Rf.frames.length∧Ch O Kb w h w1 g∧(v=1->(∃us,Cs O ro w1 g (5,3) vP us Rf.kept)∧(∀l∈Rf.kept,ClK N l)∧Rf.kept.length<=1000000000000)
def DeI (O:HI H)(ro:Nat)(w:Own)(h:H)(r:Nat)(bud:Int)(cp:Nat)(N:Ck)(v1 v2:Value)(Rf:Rn)(f nn v:Nat)(n:Nat)(t:Env)(g:H): Prop:=
 t 0 = .pointer (some ⟨r,0,none⟩)∧((v≠0∧t 3=ni v∧n=0∧DeQ O ro w h r bud cp N v1 v2 Rf v g)∨∃R m,n=m+1∧t 3=ni 0∧decideP f nn N bud m R=some (Rf,v)∧DeQ O ro w h r bud cp N v1 v2 R 0 g)
theorem decide_q (C:LP' O ro c)(L:O.Law){r:Nat}{R Rf:Rn}{bud:Int}{vF vW vP:Value}{fs:List (Nat×Value)}(x:RN O ro w h r R bud cp N v1 v2 vF vW vP fs)(k:RnK N R)(hFp:0<R.frames.length)(hb:bud<=2305843009213693952)(hni:N.ni<=60)(hla:N.las.length<=60){f nn m v:Nat}(hs:decideP f nn N bud m R=some (Rf,v)):
  ∃h',c 43 [ptr r] h=some (ni v,h')∧DeQ O ro w h r bud cp N v1 v2 Rf v h':=by
 have key:∃u h',c 43 [ptr r] h=some (u,h')∧(u=ni v∧DeQ O ro w h r bud cp N v1 v2 Rf v h'):=by
  refine C.fn (F43_fn O ro) rfl rfl ?_;unfold F43;refine s'f ?_;simp[Zlg,thenE];refine s'f ?_;simp[Zlh,thenE];refine okE.seq (okE.blk ?_);refine okE.mono (okE.loop (Q:=λe t' g'=>outOf 0 e = .normal∧t' 3=ni v∧DeQ O ro w h r bud cp N v1 v2 Rf v g') (DeI O ro w h r bud cp N v1 v2 Rf f nn v) ?_ (m+1) _ _ ⟨by simp,.inr ⟨R,m,rfl,by simp,hs,fs,vF,vW,vP,w,x,k,hFp,Ch.refl _ _ _,by simp⟩⟩) ?_
  ·rintro n t g ⟨d0,hI⟩;rcases hI with ⟨hv,d3,rfl,hq⟩|⟨R,m,rfl,d3,hs,fs,vF,vW,vP,w1,x1,k1,hF1,c1,-⟩
   ·have hv':¬((v:Int)=0):=by omega
    have hv2:((v:Int)==0)=false:=by rw[l'A];exact hv'
    refine f'f ?_;simp[W43_0,Zli,d0,d3,hv,hv',hv2];exact hq
   ·cases m with
    | zero=>simp[decideP]at hs
    | succ m=>
    unfold decideP at hs;refine s'f ?_;simp[Zli,thenE,d0,d3];refine okE.blk ?_;split at hs
    ·simp at hs
    ·rename_i R1 hcl
     obtain⟨g2,e2,fs2,vW2,w2,x2,k2,hf2,c2⟩:=rclear_q C L x1 k1 hF1 hb hni hla hcl;unfold ptr at e2;split at hs
     ·simp at hs
     ·rename_i R2 had
      obtain⟨g3,e3,fs3,vF3,vW3,vP3,w3,x3,k3,hf3,c3,-⟩:=adv_q C L x2 k2 (by omega) hb hni hla had;unfold ptr at e3;refine f'f ?_;simp[Zlj,Zlk,Zll,d0,e2,e3];exact⟨m+1,by omega,by simp[d0],.inr ⟨R2,m,rfl,by simp,hs,fs3,vF3,vW3,vP3,w3,x3,k3,by omega,c1.trans (c2.trans c3),by simp⟩⟩
     ·rename_i R2 v2 hne had
      simp only[l'a,l'd]at hs;obtain⟨rfl,rfl⟩:=hs;obtain⟨g3,e3,fs3,vF3,vW3,vP3,w3,x3,k3,hf3,c3,hkp⟩:=adv_q C L x2 k2 (by omega) hb hni hla had;unfold ptr at e3;refine f'f ?_;simp[Zlj,Zlk,Zll,d0,e2,e3];exact⟨0,by omega,by simp[d0],.inl ⟨λh=>by subst h;simp at hne,by simp,rfl,fs3,vF3,vW3,vP3,w3,x3,k3,by omega,c1.trans (c2.trans c3),hkp⟩⟩
    ·rename_i R1 v2 hne hcl
     simp only[l'a,l'd]at hs;obtain⟨rfl,rfl⟩:=hs;obtain⟨g2,e2,fs2,vW2,w2,x2,k2,hf2,c2⟩:=rclear_q C L x1 k1 hF1 hb hni hla hcl;have hv:v2≠0:=λh=>by subst h;simp at hne
     have hv':¬((v2:Int)=0):=by omega
     have hv2:((v2:Int)==0)=false:=by rw[l'A];exact hv'
     unfold ptr at e2;refine f'f ?_;simp[Zlj,Zlk,d0,e2,hv,hv',hv2];exact⟨0,by omega,by simp[d0],.inl ⟨hv,by simp,rfl,fs2,vF,vW2,vP,w2,x2,k2,by omega,c1.trans c2,λh1=>absurd h1 (clearRP_ne _ _ _ _ hcl)⟩⟩
  ·rintro e t g ⟨hr,h3,h2⟩;rw[hr];simp only[thenE];refine f'f ?_;simp[Zlm,h3,resE,resLE,rvE];exact h2
 obtain⟨u,h',e1,rfl,e2⟩:=key;exact⟨h',e1,e2⟩
end
end Go.Proofs.YtimdkminagnhgabGreatDoor
