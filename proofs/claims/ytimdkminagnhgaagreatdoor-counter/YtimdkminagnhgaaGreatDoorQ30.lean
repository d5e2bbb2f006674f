import Derived.Test.YtimdkminagnhgaaGreatDoorQ29
set_option linter.all false
namespace Go.Ta
theorem I'E {N:Ck}{F:Fr}(hs:E'u N=some F)(hn:N.nv<=192): FrK N F∧F.own=[]:=by
 unfold E'u at hs;split at hs
 ·simp at hs
 ·rename_i s hs1
  simp only[l'a]at hs;subst hs;have key:∀(l:List (List Nat))(Z Z':Solv),C'T l Z=some Z'->ZOk Z->ZOk Z'∧Z'.early=Z.early:=by
   intro l
   induction l with
   | nil=>intro Z Z' h z;simp only[C'T,l'a]at h;subst h;exact⟨z,rfl⟩
   | cons a r ih=>
    intro Z Z' h z;unfold C'T at h;split at h
    ·simp at h
    ·rename_i Z1 h1
     obtain⟨z1,e1,-⟩:=E'a h1 z;obtain⟨z2,e2⟩:=ih _ _ h z1;exact⟨z2,by rw[e2,e1]⟩
  obtain⟨z,e⟩:=key _ _ _ hs1 ⟨by simpa using hn,by simp⟩;refine⟨⟨z,by simp only[e];simp,by simp,by simp⟩,rfl⟩
theorem N'x {f nn:Nat}{N:Ck}{bud:Int}: ∀(m:Nat)(R Rf:Rn) (v:Nat),E'C f nn N bud m R=some (Rf,v)->v≠1:=by
 intro m
 induction m with
 | zero=>intro R Rf v h;simp[E'C]at h
 | succ m ih=>
  intro R Rf v h;unfold E'C at h;split at h
  ·simp only[l'a,l'd]at h;omega
  ·simp only at h;split at h
   ·simp only[l'a,l'd]at h;omega
   ·split at h
    ·simp only[l'a,l'd]at h;omega
    ·split at h
     ·simp at h
     ·simp only[l'a,l'd]at h;omega
     ·split at h
      ·simp at h
      ·exact ih _ _ _ h
     ·split at h
      ·simp at h
      ·split at h
       ·split at h
        ·simp at h
        ·exact ih _ _ _ h
       ·simp at h
     ·simp at h
theorem J'm {f nn:Nat}{N:Ck}{bud:Int}: ∀(m:Nat)(R Rf:Rn) (v:Nat),C'u f nn N bud m R=some (Rf,v)->v≠1:=by
 intro m
 induction m with
 | zero=>intro R Rf v h;simp[C'u]at h
 | succ m ih=>
  intro R Rf v h;unfold C'u at h;split at h
  ·simp at h
  ·simp only[l'a,l'd]at h;omega
  ·simp only[l'a,l'd]at h;omega
  ·split at h
   ·simp at h
   ·split at h
    ·simp at h
    ·exact ih _ _ _ h
    ·rename_i R3 v3 _ hb
     simp only[l'a,l'd]at h;have:=N'x _ _ _ _ hb;omega
  ·simp at h
end Go.Ta
namespace Go.Proofs.YtimdkminagnhgaaGreatDoor
open Go.Vm Go.Proofs Go.Ta
set_option maxHeartbeats 4000000
attribute [local simp] A'a A'b reg to too A'd A'q A'h mv' nl' fl' ld' ln' mk' ia' ik' ix' B'F B'G aLd B'h A'w A'4 aUn unA ev A'l isB A'0 A'E A'F A'G A'H A'I A'J A'K A'L A'M cIf A'B A'f A'g aSt A'N A't A'O A'P A'Q A'9 A'R A'u A'S A'T B'a A'U A'v A'V A'W A'X B'b A'p Instr.fill A'e A'n A'x A'j ptr undef B'o B'y A'k B's A's A'D B'C A'y B'p rangeA B'O A'r A'2 A'z B'd A'm A'o chk
section
variable {H:Type}{O:HI H}{ro:Nat}{c:A'Z H}
variable {w w':Own}{h h':H}{q:Nat}{S:Srch}{bW bH bV:Nat}{vA vC vT vS vK:Value}{lv wv:List Value}
variable {cp:Nat}{N:Ck}{v1 v2:Value}
theorem I'D (L:O.Law){t t2:Tag}{sz bytes:Nat}{v u:Value}{l l2:List Value}(hro:ro<=O.next h)(x:Sm O ro w h t sz v l)(y:Sm O ro w h t2 sz u l2)(hsz:0<sz)(n1 n2:Nat)(hn1:l.length=n1*sz)(hn2:l2.length=n2*sz)(hsize:¬((n1+n2)*bytes>140737488355328∨n1+n2>140737488355328)):
  ∃v' h' w',D'd O ro sz bytes v u h=some (v',h')∧Sm O ro w' h' t sz v' (l++l2)∧Ch O (λu=>u=t) w h w' h'∧ro<=O.next h':=by
 obtain⟨a1,q1,e1⟩:=x.len hsz n1 hn1;have hs2:(u = .slice none 0 0∧n2=0∧l2=[])∨∃b2 q2,u = .slice (some ⟨b2,0,some sz⟩) n2 q2∧cellsA O h b2 0 (n2*sz)=some l2:=by
  rcases y with ⟨f1,f2⟩|⟨b,m,cp,f,fc,fl,yb⟩
  ·left;rw[f2]at hn2;have:n2=0:=by
    rcases Nat.mul_eq_zero.1 hn2.symm with h|h <;> omega
   exact⟨f1,this,f2⟩
  ·right;have hm:m=n2:=Nat.eq_of_mul_eq_mul_right hsz (by omega);have:=yb.all;rw[hn2]at this;exact⟨b,cp,by rw[f,hm],this⟩
 rcases x with ⟨rfl,rfl⟩|⟨b,m,cp,rfl,hcp,el,x⟩
 ·simp only[Value.slice.injEq]at e1;obtain⟨rfl,h0,rfl⟩:=e1;have h1:n1=0:=by omega
  subst h1
  by_cases h2:n2=0
  ·subst h2;have:l2=[]:=List.eq_nil_of_length_eq_zero (by omega);subst this;refine⟨.slice none 0 0,h,w,?_,Sm.nil _ _ _ _,Ch.refl _ _ _,hro⟩;rcases hs2 with ⟨rfl,_,_⟩|⟨b2,q2,rfl,hc2⟩
   ·simp[D'd]
   ·simp only[D'd];rw[if_neg hsize,hc2];simp
  ·refine⟨.slice (some ⟨O.next h,0,some sz⟩) n2 0,O.new h l2,_,?_,.inr ⟨_,n2,0,rfl,.inl rfl,by simp[hn2],by simpa using Bx.new L w h hro t l2⟩,Ch.new L _ w h t l2,by rw[L.next_new];omega⟩;rcases hs2 with ⟨_,hz,_⟩|⟨b2,q2,rfl,hc2⟩
   ·exact absurd hz h2
   ·simp only[D'd];rw[if_neg hsize,hc2];simp[h2]
 ·simp only[Value.slice.injEq]at e1;obtain⟨rfl,h0,rfl⟩:=e1;have hm:m=n1:=by omega
  subst hm;have hold:cellsA O h b 0 (m*sz)=some l:=by rw[<-hn1];exact x.all
  have hbro:¬b<ro:=by have:=x.lo;omega
  have hal:=x.al;rcases hcp with rfl|rfl
  ·have nk:O.next (O.kill h b)=O.next h:=L.next_kill _ _
   refine⟨.slice (some ⟨O.next h,0,some sz⟩) (m+n2) 0,O.new (O.kill h b) (l++l2),w.set (O.next h) t,?_,.inr ⟨O.next h,m+n2,0,rfl,.inl rfl,by simp[hn1,hn2,Nat.add_mul],?_⟩,?_,?_⟩
   ·rcases hs2 with ⟨rfl,rfl,rfl⟩|⟨b2,q2,rfl,hc2⟩
    ·simp only[D'd];rw[if_neg hsize];simp[hbro,hal,hold]
    ·simp only[D'd];rw[if_neg hsize,hc2];simp[hbro,hal,hold]
   ·have:=Bx.new L (ro:=ro) w (O.kill h b) (by rw[nk];exact hro) t (l++l2);rw[nk]at this;exact this
   ·have c2:=Ch.kill L (K:=λu=>u=t) x rfl;have c3:=Ch.new L (λu=>u=t) w (O.kill h b) t (l++l2);rw[nk]at c3;exact c2.trans c3
   ·rw[L.next_new,nk];omega
  ·by_cases h2:n2=0
   ·subst h2;have:l2=[]:=List.eq_nil_of_length_eq_zero (by omega);subst this;refine⟨.slice (some ⟨b,0,some sz⟩) m (m+1),h,w,?_,.inr ⟨b,m,m+1,rfl,.inr rfl,by simp[hn1],by simpa using x⟩,Ch.refl _ _ _,hro⟩;rcases hs2 with ⟨rfl,_,_⟩|⟨b2,q2,rfl,hc2⟩
    ·simp only[D'd];rw[if_neg hsize];simp[hbro,hal,hold,A'8]
    ·simp only[D'd];rw[if_neg hsize,hc2];simp[hbro,hal,hold,A'8]
   ·refine⟨.slice (some ⟨O.next h,0,some sz⟩) (m+n2) 0,O.new h (l++l2),w.set (O.next h) t,?_,.inr ⟨O.next h,m+n2,0,rfl,.inl rfl,by simp[hn1,hn2,Nat.add_mul],Bx.new L w h hro t _⟩,Ch.new L _ w h t _,by rw[L.next_new];omega⟩;have h3:¬(m+n2<m+1):=by omega
    rcases hs2 with ⟨_,hz,_⟩|⟨b2,q2,rfl,hc2⟩
    ·exact absurd hz h2
    ·simp only[D'd];rw[if_neg hsize,hc2];simp[hbro,hal,hold,h3]
theorem Cs.all (L:O.Law){t t2:Tag}(ht:t≠(9,0)){v u:Value}{vs us:List Value}{cs ds:List (List Nat)}(lo:ro<=O.next h)(x:Cs O ro w h t v vs cs)(y:Cs O ro w h t2 u us ds)(hl:¬((cs.length+ds.length)*24>140737488355328∨cs.length+ds.length>140737488355328)):
  ∃v' h' w',D'd O ro 1 24 v u h=some (v',h')∧Cs O ro w' h' t v' (vs++us) (cs++ds)∧Ch O (λy=>y=t) w h w' h'∧ro<=O.next h':=by
 obtain⟨v4,h4,w4,e4,s4,c4,lo4⟩:=I'D (bytes:=24) L lo x.s y.s (by omega) cs.length ds.length (by rw[x.l];simp) (by rw[y.l];simp) hl;have n9:¬((9,0):Tag)=t:=λe=>ht e.symm;refine⟨v4,h4,w4,e4,⟨s4,by simp[x.l,y.l],λi l' u' q1 q2=>?_⟩,c4,lo4⟩
 by_cases hk:i<cs.length
 ·rw[l'e hk]at q1;rw[l'e (by rw[x.l];exact hk)]at q2;exact (x.a i l' u' q1 q2).ch L c4 n9
 ·rw[l'z (by omega)]at q1;rw[l'z (by rw[x.l];omega),x.l]at q2;exact (y.a _ l' u' q1 q2).ch L c4 n9
theorem Cs.give {k0:Nat}{v:Value}{us:List Value}{l:List (List Nat)}{g:H}{w1:Own}(cs:Cs O ro w1 g (14,k0) v us l)(c1:Ch O (λ_=>False) w h w1 g)(hk0:∀b,b<O.next h->w b≠((14,k0):Tag))(t1:Tag): ∃w2,Cs O ro w2 g t1 v us l∧Ch O (λ_=>False) w h w2 g:=by
 rcases id cs.s with e|⟨b0,m,cp,e,ec,el,y⟩
 ·exact⟨w1,⟨.inl e,cs.l,cs.a⟩,c1⟩
 ·have hb0:¬b0<O.next h:=λhb0=>hk0 b0 hb0 (by rw[<-c1.ow b0 hb0,y.tag])
  refine⟨w1.set b0 t1,⟨.inr ⟨b0,m,cp,e,ec,el,⟨by simp[Own.set],y.lo,y.al,y.cell⟩⟩,cs.l,λi l u h1 h2=>(cs.a i l u h1 h2).re y.tag (by simp)⟩,⟨c1.nx,λb' hb'=>?_,c1.fr⟩⟩;have:b'≠b0:=by rintro rfl;exact hb0 hb'
  simp only[Own.set,if_neg this];exact c1.ow b' hb'
def D'W (R:Rn)(level k:Nat): List (List Nat):=((R.frames.take k).drop (level+1)).flatMap (·.own)
def CvI (O:HI H)(ro:Nat)(w:Own)(h:H)(r k0 level:Nat)(R:Rn)(n:Nat)(t:Env)(g:H): Prop:=
 t 0 = .pointer (some ⟨r,0,none⟩)∧∃k v us w1,t 5=v∧t 6=ni k∧k+n=R.frames.length∧level+1<=k∧Cs O ro w1 g (14,k0) v us (D'W R level k)∧(D'W R level k).length<=k*most∧Ch O (λ_=>False) w h w1 g∧ro<=O.next g
theorem R'c (C:LP' O ro c)(L:O.Law){r:Nat}{R:Rn}{bud:Int}{vF vW vP:Value}{fs:List (Nat×Value)}(x:RN O ro w h r R bud cp N v1 v2 vF vW vP fs)(k:RnK N R){level:Nat}(hlv:level+1<=R.frames.length):
  ∃v us h' w',c 112 [ptr r,ni level] h=some (v,h')∧Cs O ro w' h' (5,3) v us ((R.frames.drop (level+1)).flatMap (·.own))∧((R.frames.drop (level+1)).flatMap (·.own)).length<=1000000000000∧Ch O (λ_=>False) w h w' h':=by
 obtain⟨K,hK⟩:=e' (((R.frames.drop (level+1)).flatMap (·.own)));rw[<-hK];have hm:most=1000000:=rfl;have fl:=k.fl;obtain⟨k0,hk0⟩:=B'i w (O.next h);have key:∃u h',c 112 [ptr r,ni level] h=some (u,h')∧(∃us w1,Cs O ro w1 h' (14,k0) u us K∧K.length<=1000000000000∧Ch O (λ_=>False) w h w1 h'):=by
  refine C.fn (Q'Q O ro) rfl rfl ?_;unfold V'z;have y4:=Bx.new L (ro:=ro) w h x.lo (14,k0) [];have c4:=Ch.new L (λ_=>False) w h (14,k0) [];have lo4:=l'G x.lo c4.nx;have hw0:=w'1 level;obtain⟨l1,hl1⟩:=e' (level+1);rw[<-hl1]at hw0;refine s'f ?_;simp[Zm1,A'c];refine s'f ?_;simp[Zm2,A'c];refine okE.seq (s'f ?_);simp[Zm3,A'c,hw0];refine okE.blk ?_;have ha0:D'W R level l1=[]:=by
   unfold D'W;rw[hl1,List.drop_eq_nil_of_le (by simp;omega)];rfl
  refine okE.mono (okE.loop (Q:=λe t' g'=>A'j 0 e = .normal∧∃us w1,Cs O ro w1 g' (14,k0) (t' 5) us K∧K.length<=1000000000000∧Ch O (λ_=>False) w h w1 g') (CvI O ro w h r k0 level R) ?_ (R.frames.length-l1) _ _ ⟨by simp,l1,.slice (some ⟨O.next h,0,some 1⟩) 0 1,[],_,by simp,by simp,by omega,by omega,by rw[ha0];exact⟨.inr ⟨_,0,1,rfl,.inr rfl,by simp,y4⟩,rfl,by simp⟩,by rw[ha0];simp,c4,lo4⟩) ?_
  ·rintro n t g ⟨d0,kk,v,us,w1,d5,d6,hkn,hlk,cs,hal,c1,lo1⟩;have x1:=x.keep L c1;have m3:=x1.m.get 3 _ rfl;obtain⟨aF,cF,hvF⟩:=x1.sF.len (by omega) R.frames.length (by rw[A'A frC 2 C'w,x.lF])
   cases n with
   | zero=>
    obtain rfl:kk=R.frames.length:=by omega
    unfold D'W at cs hal;rw[List.take_length,<-hK]at cs hal;rw[hvF]at m3;have hal2:R.frames.length*most<=1000000*1000000:=Nat.mul_le_mul (by omega) (by omega);refine f'f ?_;simp[K'W,Zm4,d0,d5,d6,m3];exact⟨us,w1,cs,by omega,c1⟩
   | succ n=>
    have hi:kk<R.frames.length:=by omega
    have hi':(kk:Int)<R.frames.length:=by omega
    obtain⟨F,hF⟩:∃F,R.frames[kk]?=some F:=⟨_,l'c hi⟩;obtain⟨⟨s,vo⟩,hy⟩:∃y,fs[kk]?=some y:=⟨_,l'c (by rw[x.lF];exact hi)⟩;obtain⟨z,S0,uo,o0⟩:=x1.fr kk F _ hF hy;obtain⟨b,q,eF,yb,hb0,hb1⟩:=x1.getF kk hy;have kF:=k.fr F (l'f hF);have kb:=yb.get _ _ hb1;rw[eF]at m3;have hal2:kk*most<=1000000*1000000:=Nat.mul_le_mul (by omega) (by omega);have hol:=kF.2.2.1;obtain⟨v3,g3,w3,e3,cs3,c3,lo3⟩:=cs.all L (by simp) lo1 o0 (by omega);have hst:D'W R level kk++F.own=D'W R level (kk+1):=by
     unfold D'W;rw[l'C,hF,List.drop_append_of_le_length (by simp;omega),List.flatMap_append];simp
    rw[hst]at cs3;have hal3:(D'W R level (kk+1)).length<=(kk+1)*most:=by
     rw[<-hst,l'p,Nat.add_mul];omega
    have c13:=Ch.own (k:=k0) c1 c3 hk0;have hwi:=w'1 kk;obtain⟨i',hi2⟩:=e' (kk+1);rw[<-hi2]at hwi cs3 hal3;have tv:=o0.s.flat.2.2;refine f'f ?_;simp[K'W,Zm4,Zm5,Zm6,d0,d5,d6,m3,hi,hi',kb,tv,e3,hwi];exact⟨n,by omega,by simp[d0],i',v3,_,w3,by simp,by simp,by omega,by omega,cs3,hal3,c13,lo3⟩
  ·rintro e t g ⟨hr,us,w1,cs,hlen,c1⟩;rw[hr];simp only[A'c];refine f'f ?_;have tv:=cs.s.flat.2.2;simp[Zm7,A'1,A'i,rvE,tv];exact⟨us,w1,cs,hlen,c1⟩
 obtain⟨u,h',e1,us,w1,cs,hlen,c1⟩:=key;obtain⟨w2,cs2,c2⟩:=cs.give c1 hk0 (5,3);exact⟨u,us,h',w2,e1,cs2,hlen,c2⟩
def AdQ (O:HI H)(ro:Nat)(w:Own)(h:H)(r:Nat)(bud:Int)(cp:Nat)(N:Ck)(v1 v2:Value)(Rf:Rn)(FL v:Nat)(g:H): Prop:=
 ∃fs vF vW vP w1,RN O ro w1 g r Rf bud cp N v1 v2 vF vW vP fs∧RnK N Rf∧Rf.frames.length=FL∧Ch O Kb w h w1 g∧(v=1->(∃us,Cs O ro w1 g (5,3) vP us Rf.kept)∧(∀l∈Rf.kept,ClK N l)∧Rf.kept.length<=1000000000000)
def AdI (O:HI H)(ro:Nat)(w:Own)(h:H)(r:Nat)(bud:Int)(cp:Nat)(N:Ck)(v1 v2 vF vP:Value)(Rf:Rn)(FL f nn v:Nat)(n:Nat)(t:Env)(g:H): Prop:=
 t 0 = .pointer (some ⟨r,0,none⟩)∧∃k R,t 4=ni k∧k+n+1=FL∧Q'B f nn N bud n k R=some (Rf,v)∧H'q O ro w h r bud cp N v1 v2 vF vP R FL g
theorem T'b (C:LP' O ro c)(L:O.Law){r:Nat}{bud:Int}{vF vP:Value}(hb:bud<=2305843009213693952)(hni:N.ni<=60)(hla:N.las.length<=60){Rf:Rn}{FL f nn v n:Nat}{t:Env}{g:H}(I:AdI O ro w h r bud cp N v1 v2 vF vP Rf FL f nn v n t g):
  okE c (Q'I O Tryz.prog ro) (t,g) (λe t' g'=>(e = .normal∧∃n',n'<n∧AdI O ro w h r bud cp N v1 v2 vF vP Rf FL f nn v n' t' g')∨(e≠.normal∧((A'j 0 e = .normal∧v=0∨A'j 0 e = .ret∧t' 2=ni v)∧AdQ O ro w h r bud cp N v1 v2 Rf FL v g'))):=by
 have hm:most=1000000:=rfl;obtain⟨d0,kk,R,d4,hkn,hs,fs,vW,w1,x,k,hFL,c1⟩:=I;have m3:=x.m.get 3 _ rfl;obtain⟨aF,cF,hvF⟩:=x.sF.len (by omega) R.frames.length (by rw[A'A frC 2 C'w,x.lF]);rw[hvF]at m3;have fl:=k.fl;obtain⟨f1,hf1⟩:∃f1,FL=f1+1:=⟨FL-1,by omega⟩;have hw:IntKind.i64.wrap ((R.frames.length:Int)-1)=(f1:Int):=w'i
 cases n with
 | zero=>
  simp only[Q'B,l'a,l'd]at hs;obtain⟨rfl,rfl⟩:=hs;have hlt:¬((kk:Int)<(f1:Int)):=by omega
  have hlt2:¬(kk<f1):=by omega
  refine f'f ?_;simp[Q'I,ZlK,d0,d4,m3,hw,hlt,hlt2];exact⟨fs,vF,vW,vP,w1,x,k,hFL,c1,by simp⟩
 | succ n=>
  unfold Q'B at hs;have hlt:((kk:Int)<(f1:Int)):=by omega
  have hlt2:(kk<f1):=by omega
  have hwk:=w'1 kk;obtain⟨k2,hk2⟩:=e' (kk+1);rw[<-hk2]at hwk;refine s'f ?_;simp[ZlK,A'c,d0,d4,m3,hw,hlt,hlt2];split at hs
  ·simp at hs
  ·rename_i R1 hca
   simp only[l'a,l'd]at hs;obtain⟨rfl,rfl⟩:=hs;obtain⟨g2,e2,fs2,vW2,w2,x2,kr2,hf2,c2⟩:=H'Q C L x k hb hni hla (by omega) hca;unfold ptr at e2;refine f'f ?_;simp[ZlL,ZlM,ZlN,ZlO,d0,d4,e2];exact⟨fs2,vF,vW2,vP,w2,x2,kr2,by omega,c1.trans c2,by simp⟩
  ·rename_i R1 hca
   simp only[l'a,l'd]at hs;obtain⟨rfl,rfl⟩:=hs;obtain⟨g2,e2,fs2,vW2,w2,x2,kr2,hf2,c2⟩:=H'Q C L x k hb hni hla (by omega) hca;obtain⟨v3,us3,g3,w3,e3,cs3,hkl,c3⟩:=R'c C L x2 kr2 (level:=kk) (by omega);have x3:=x2.keep L c3;have c4:=Ch.put L (K:=λu=>u=((5,0):Tag)) x3.m 5 (by simp) v3 rfl;have m4:=x3.m.put L 5 (by simp) v3;have p4:=A'C (O:=O) (v:=v3) (x3.m.get 5 _ rfl);have cs4:=cs3.ch L c4;obtain⟨f1,f2,f3⟩:=cs3.s.flat;have rr:¬r<ro:=by have:=x.m.lo;omega
   have x4:RN O ro w3 (O.put g3 r 5 v3) r { R1 with kept:=(R1.frames.drop (kk+1)).flatMap (·.own) } bud cp N v1 v2 vF vW2 v3 fs2:=⟨m4,x3.X.ch L c4,x3.sF.ch L c4,x3.lF,λi F y h1 h2=>(x3.fr i F y h1 h2).ch L c4 (by simp) (λj=>by simp <;> omega) (λj=>by simp <;> omega),x3.sW.ch L c4,l'G x3.lo c4.nx⟩;generalize hg4:O.put g3 r 5 v3=g4 at *;unfold ptr at e2 e3;refine f'f ?_;simp[ZlL,ZlM,ZlN,ZlP,ZlQ,ZlR,d0,d4,e2,e3,p4,f1,f2,f3,rr];exact⟨fs2,vF,vW2,v3,w3,x4,⟨kr2.sp,kr2.fr,kr2.wy,kr2.wl,kr2.fl⟩,by simp only;omega,c1.trans (c2.trans ((c3.mono (by simp)).trans (c4.mono (λu hu=>by left;rw[hu])))),λ_=>⟨⟨us3,cs4⟩,λl hl=>by
    simp only[List.mem_flatMap]at hl;obtain⟨F,hF,hl⟩:=hl;exact (kr2.fr F (List.mem_of_mem_drop hF)).2.2.2 l hl,hkl⟩⟩
  ·rename_i R1 a h3 h2 hca
   obtain⟨g2,e2,fs2,vW2,w2,x2,kr2,hf2,c2⟩:=H'Q C L x k hb hni hla (by omega) hca;have hne3:a≠3:=λh=>by subst h;simp at h3
   have hne2:a≠2:=λh=>by subst h;simp at h2
   have hne3':((a:Int)==3)=false:=by rw[l'A];omega
   have hne2':((a:Int)==2)=false:=by rw[l'A];omega
   have hne4':¬((a:Int)=3):=by omega
   have hne5':¬((a:Int)=2):=by omega
   unfold ptr at e2;refine f'f ?_;simp[ZlL,ZlM,ZlN,ZlP,ZlS,d0,d4,e2,hne3',hne2',hne4',hne5',hne3,hne2,hwk];exact⟨n,by omega,by simp[d0],k2,R1,by simp,by omega,by rw[hk2];exact hs,fs2,vW2,w2,x2,kr2,by omega,c1.trans c2⟩
theorem T'c (C:LP' O ro c)(L:O.Law){r:Nat}{R Rf:Rn}{bud:Int}{vF vW vP:Value}{fs:List (Nat×Value)}(x:RN O ro w h r R bud cp N v1 v2 vF vW vP fs)(k:RnK N R)(hFp:0<R.frames.length)(hb:bud<=2305843009213693952)(hni:N.ni<=60)(hla:N.las.length<=60){f nn v:Nat}(hs:T'0 f nn N bud R=some (Rf,v)):
  ∃h',c 57 [ptr r] h=some (ni v,h')∧AdQ O ro w h r bud cp N v1 v2 Rf (R.frames.length+1) v h':=by
 have hm:most=1000000:=rfl;unfold T'0 at hs;split at hs
 ·simp at hs
 rename_i F hF
 split at hs
 ·rename_i hlm
  have hnv:=x.X.nv;obtain⟨kF,hown⟩:=I'E hF hnv;obtain⟨u1,g1,e1,s,vE,vcl,vM,vK,vs,w1,rfl,z1,S1,c1⟩:=K'5 C L x.lo (p:=1000+2*R.frames.length) (by omega) x.X hF;have lo1:=l'G x.lo c1.nx;obtain⟨k0,hkk⟩:=B'i w1 (O.next g1);have y2:=Bx.new L (ro:=ro) w1 g1 lo1 (14,k0) [.pointer none,.slice none 0 0];have c2:=Ch.new L (λ_=>False) w1 g1 (14,k0) [.pointer none,.slice none 0 0];obtain⟨g3,p3,y3,c3⟩:=Bx.over L (K:=λu=>u=((14,k0):Tag)) rfl y2 (show [ptr s,.slice none 0 0].length = _ from rfl);have c13:=Ch.own (k:=k0) c2 c3 hkk;have lo3:ro<=O.next g3:=l'G lo1 c13.nx
  have kk1:∀t:Tag,t.1<1000->¬Ks (1000+2*R.frames.length) t:=λt ht=>by unfold Ks;omega
  have sF3:=(x.sF.ch L c1 (kk1 _ (by simp))).ch L c13;have m3:=(x.m.ch L c1 (kk1 _ (by simp))).ch L c13;have hflen:=A'A frC 2 C'w fs;have hfs:=x.lF;obtain⟨vF',g4,w4,e4,s4,c4,lo4⟩:=B'D (bytes:=32) (new:=[ptr s,.slice none 0 0]) L lo3 sF3 (by omega) rfl (by omega) (by omega);have m4:=m3.ch L c4;have c5:=Ch.put L (K:=λu=>u=((5,0):Tag)) m4 3 (by simp) vF' rfl;have m5:=m4.put L 3 (by simp) vF';have p5:=A'C (O:=O) (v:=vF') (m4.get 3 _ rfl);have hflat:fs.flatMap frC++[ptr s,.slice none 0 0]=(fs++[(s,Value.slice none 0 0)]).flatMap frC:=by
   rw[List.flatMap_append];simp[frC]
  rw[hflat]at s4;obtain⟨g5,hg5⟩:=e' (O.put g4 r 3 vF');rw[<-hg5]at c5 m5 p5;have c1b:Ch O (λu=>u=(5,0)∨u=(5,1)) w1 g1 w4 g5:=((c13.mono (by simp)).trans (c4.mono (λ_ h=>.inr h))).trans (c5.mono (λ_ h=>.inl h));have x5:RN O ro w4 g5 r { R with frames:=R.frames++[F] } bud cp N v1 v2 vF' vW vP (fs++[(s,.slice none 0 0)]):=by
   refine⟨m5,(x.X.ch L c1 (λi=>kk1 _ (by simp))).ch L c1b,s4.m.ch L c5,by simp[hfs],?_,(x.sW.ch L c1 (kk1 _ (by simp))).ch L c1b,l'G lo1 c1b.nx⟩;intro i F' y' hF' hy';simp only at hF'
   by_cases hi:i<R.frames.length
   ·rw[l'e hi]at hF';rw[l'e (by omega)]at hy';exact ((x.fr i F' y' hF' hy').ch L c1 (λj=>kk1 _ (by simp)) (λj=>by unfold Ks;simp;omega) (λj=>by unfold Ks;simp;omega)).ch L c1b (by simp) (λj=>by simp <;> omega) (λj=>by simp <;> omega)
   ·have hi2:=(l'b.1 hF').1;simp at hi2;obtain rfl:i=R.frames.length:=by omega
    simp at hF';rw[<-hfs]at hy';simp at hy';subst hF' hy';exact⟨z1,⟨_,_,_,_,_,S1.ch L c1b (by simp) (λj=>by simp <;> omega)⟩,[],by rw[hown];exact⟨Sm.nil _ _ _ _,rfl,by simp⟩⟩
  have k5:RnK N { R with frames:=R.frames++[F] }:=by
   refine⟨k.sp,?_,k.wy,k.wl,by simp;omega⟩;intro F' hF';simp only[l'E,l'm]at hF';rcases hF' with h|rfl
   ·exact k.fr F' h
   ·exact kF
  have c05:Ch O Kb w h w4 g5:=(c1.mono (λu hu=>by right;unfold Ks at hu;omega)).trans (c1b.mono (λu hu=>by rcases hu with h|h <;> (left;rw[h])));have key:∃u h',c 57 [ptr r] h=some (u,h')∧(u=ni v∧AdQ O ro w h r bud cp N v1 v2 Rf (R.frames.length+1) v h'):=by
   refine C.fn (S'3 O ro) rfl rfl ?_;unfold F57;have r0:=x.m.get 0 _ rfl;have q3:=m3.get 3 _ rfl;have hall:=y3.all;simp only[l'n,l'o]at hall;have hr2:List.range 2=[0,1]:=rfl;have rr:¬r<ro:=by have:=x.m.lo;omega
   have r1:¬O.next g1<ro:=by omega
   obtain⟨f1,f2,f3⟩:=s4.m.flat;unfold ptr at e1 r0 p3 hall e4;refine s'f ?_;simp[ZlG,A'c];refine s'f ?_;simp[ZlH,A'c,r0,e1,r1,p3];refine s'f ?_;simp[ZlI,A'c,q3,hall,hr2,e4,p5,f1,f2,f3,rr];refine okE.seq (s'f ?_);simp[ZlJ,A'c];refine okE.blk ?_;refine okE.mono (okE.loop (Q:=λe t' g'=>(A'j 0 e = .normal∧v=0∨A'j 0 e = .ret∧t' 2=ni v)∧AdQ O ro w h r bud cp N v1 v2 Rf (R.frames.length+1) v g') (AdI O ro w h r bud cp N v1 v2 vF' vP Rf (R.frames.length+1) f nn v) (λn t g I=>T'b C L hb hni hla I) (R.frames.length-1) _ _ ⟨by simp,1,_,by simp,by omega,hs,_,vW,w4,x5,k5,by simp,c05⟩) ?_;rintro e t g ⟨h1,h2⟩;rcases h1 with ⟨hr,rfl⟩|⟨hr,h3⟩
   ·rw[hr];simp only[A'c];refine f'f ?_;simp[ZlT,A'1,A'i,rvE];exact h2
   ·rw[hr];simp[A'c,A'1,A'i,rvE,h3];exact h2
  obtain⟨u,h',e1,rfl,e2⟩:=key;exact⟨h',e1,e2⟩
 ·simp at hs
def DeQ (O:HI H)(ro:Nat)(w:Own)(h:H)(r:Nat)(bud:Int)(cp:Nat)(N:Ck)(v1 v2:Value)(Rf:Rn)(v:Nat)(g:H): Prop:=
 ∃fs vF vW vP w1,RN O ro w1 g r Rf bud cp N v1 v2 vF vW vP fs∧RnK N Rf∧0<Rf.frames.length∧Ch O Kb w h w1 g∧(v=1->(∃us,Cs O ro w1 g (5,3) vP us Rf.kept)∧(∀l∈Rf.kept,ClK N l)∧Rf.kept.length<=1000000000000)
def DeI (O:HI H)(ro:Nat)(w:Own)(h:H)(r:Nat)(bud:Int)(cp:Nat)(N:Ck)(v1 v2:Value)(Rf:Rn)(f nn v:Nat)(n:Nat)(t:Env)(g:H): Prop:=
 t 0 = .pointer (some ⟨r,0,none⟩)∧((v≠0∧t 3=ni v∧n=0∧DeQ O ro w h r bud cp N v1 v2 Rf v g)∨∃R m,n=m+1∧t 3=ni 0∧C'4 f nn N bud m R=some (Rf,v)∧DeQ O ro w h r bud cp N v1 v2 R 0 g)
theorem N'y (C:LP' O ro c)(L:O.Law){r:Nat}{R Rf:Rn}{bud:Int}{vF vW vP:Value}{fs:List (Nat×Value)}(x:RN O ro w h r R bud cp N v1 v2 vF vW vP fs)(k:RnK N R)(hFp:0<R.frames.length)(hb:bud<=2305843009213693952)(hni:N.ni<=60)(hla:N.las.length<=60){f nn m v:Nat}(hs:C'4 f nn N bud m R=some (Rf,v)):
  ∃h',c 27 [ptr r] h=some (ni v,h')∧DeQ O ro w h r bud cp N v1 v2 Rf v h':=by
 have key:∃u h',c 27 [ptr r] h=some (u,h')∧(u=ni v∧DeQ O ro w h r bud cp N v1 v2 Rf v h'):=by
  refine C.fn (S'Y O ro) rfl rfl ?_;unfold F27;refine s'f ?_;simp[ZkL,A'c];refine s'f ?_;simp[ZkM,A'c];refine okE.seq (okE.blk ?_);refine okE.mono (okE.loop (Q:=λe t' g'=>A'j 0 e = .normal∧t' 3=ni v∧DeQ O ro w h r bud cp N v1 v2 Rf v g') (DeI O ro w h r bud cp N v1 v2 Rf f nn v) ?_ (m+1) _ _ ⟨by simp,.inr ⟨R,m,rfl,by simp,hs,fs,vF,vW,vP,w,x,k,hFp,Ch.refl _ _ _,by simp⟩⟩) ?_
  ·rintro n t g ⟨d0,hI⟩;rcases hI with ⟨hv,d3,rfl,hq⟩|⟨R,m,rfl,d3,hs,fs,vF,vW,vP,w1,x1,k1,hF1,c1,-⟩
   ·have hv':¬((v:Int)=0):=by omega
    have hv2:((v:Int)==0)=false:=by rw[l'A];exact hv'
    refine f'f ?_;simp[S'X,ZkN,d0,d3,hv,hv',hv2];exact hq
   ·cases m with
    | zero=>simp[C'4]at hs
    | succ m=>
    unfold C'4 at hs;refine s'f ?_;simp[ZkN,A'c,d0,d3];refine okE.blk ?_;split at hs
    ·simp at hs
    ·rename_i R1 hcl
     obtain⟨g2,e2,fs2,vW2,w2,x2,k2,hf2,c2⟩:=I'C C L x1 k1 hF1 hb hni hla hcl;unfold ptr at e2;split at hs
     ·simp at hs
     ·rename_i R2 had
      obtain⟨g3,e3,fs3,vF3,vW3,vP3,w3,x3,k3,hf3,c3,-⟩:=T'c C L x2 k2 (by omega) hb hni hla had;unfold ptr at e3;refine f'f ?_;simp[ZkO,ZkP,ZkQ,d0,e2,e3];exact⟨m+1,by omega,by simp[d0],.inr ⟨R2,m,rfl,by simp,hs,fs3,vF3,vW3,vP3,w3,x3,k3,by omega,c1.trans (c2.trans c3),by simp⟩⟩
     ·rename_i R2 v2 hne had
      simp only[l'a,l'd]at hs;obtain⟨rfl,rfl⟩:=hs;obtain⟨g3,e3,fs3,vF3,vW3,vP3,w3,x3,k3,hf3,c3,hkp⟩:=T'c C L x2 k2 (by omega) hb hni hla had;unfold ptr at e3;refine f'f ?_;simp[ZkO,ZkP,ZkQ,d0,e2,e3];exact⟨0,by omega,by simp[d0],.inl ⟨λh=>by subst h;simp at hne,by simp,rfl,fs3,vF3,vW3,vP3,w3,x3,k3,by omega,c1.trans (c2.trans c3),hkp⟩⟩
    ·rename_i R1 v2 hne hcl
     simp only[l'a,l'd]at hs;obtain⟨rfl,rfl⟩:=hs;obtain⟨g2,e2,fs2,vW2,w2,x2,k2,hf2,c2⟩:=I'C C L x1 k1 hF1 hb hni hla hcl;have hv:v2≠0:=λh=>by subst h;simp at hne
     have hv':¬((v2:Int)=0):=by omega
     have hv2:((v2:Int)==0)=false:=by rw[l'A];exact hv'
     unfold ptr at e2;refine f'f ?_;simp[ZkO,ZkP,d0,e2,hv,hv',hv2];exact⟨0,by omega,by simp[d0],.inl ⟨hv,by simp,rfl,fs2,vF,vW2,vP,w2,x2,k2,by omega,c1.trans c2,λh1=>absurd h1 (J'm _ _ _ _ hcl)⟩⟩
  ·rintro e t g ⟨hr,h3,h2⟩;rw[hr];simp only[A'c];refine f'f ?_;simp[ZkR,h3,A'1,A'i,rvE];exact h2
 obtain⟨u,h',e1,rfl,e2⟩:=key;exact⟨h',e1,e2⟩
end
end Go.Proofs.YtimdkminagnhgaaGreatDoor
