import Derived.Test.YtimdkminagnhgaaGreatDoorQ41
set_option linter.all false
namespace Go.Ta
variable {N:Ck}
def NB (N:Ck)(R:Rn): Prop:=∀i st inp,i+1<R.frames.length->st<2^N.las.length->Sx N R.frames i st->L'S N st inp=false
def L'Y (N:Ck): Prop:=∃S:Nat->Prop,(∀st,st<2^N.las.length->B'j N st=true->S st)∧(∀st inp,st<2^N.las.length->S st->S (nxt N st inp))∧∀st inp,st<2^N.las.length->S st->L'S N st inp=false
theorem H'1 {fs:List Fr}{F:Fr}(ho:F.own=[]): (∀i st,B'3 (fs++[F]) i st=B'3 fs i st)∧∀i,olen (fs++[F]) i=olen fs i:=by
 refine⟨λi st=>?_,λi=>?_⟩
 ·rw[Bool.eq_iff_iff,B'J,B'J];constructor
  ·intro h k G hk hG c hc;exact h k G hk (by rw[l'e (l'b.1 hG).1];exact hG) c hc
  ·intro h k G hk hG c hc;rcases B'u hG with h1|⟨-,rfl⟩
   ·exact h k G hk h1 c hc
   ·rw[ho]at hc;simp at hc
 ·unfold olen
  by_cases h:i<fs.length
  ·rw[l'e h]
  ·have h1:fs[i]?=none:=by simpa using h
   rw[h1]
   by_cases e:i=fs.length
   ·subst e;simp[ho]
   ·have:(fs++[F])[i]?=none:=by simp;omega
    rw[this]
theorem O'c {fs:List Fr}{i:Nat}(h:fs.length<=i): card N fs i=2^N.las.length:=by
 unfold card;have:(List.range (2^N.las.length)).countP (λst=>B'3 fs i st)=(List.range (2^N.las.length)).length:=by
  rw[List.countP_eq_length];intro st _;unfold B'3;rw[List.drop_eq_nil_of_le h];rfl
 rw[this,List.length_range]
theorem T'D {FM:Nat}{fs:List Fr}{F:Fr}(ho:F.own=[])(h0:0<fs.length)(h:fs.length<FM): VP N FM (fs++[F])=VP N FM fs:=by
 obtain⟨h1,h2⟩:=H'1 (fs:=fs) ho;have hc:∀i,card N (fs++[F]) i=card N fs i:=λi=>by
  unfold card;exact List.countP_congr λst _=>by rw[h1]
 have hp:psi N (fs++[F])=psi N fs+2^N.las.length:=by
  unfold psi;rw[l'p];simp only[l'n,l'o,l'F,D'1,Nat.mul_one];rw[D'z (g:=λi=>if i=0 then 0 else card N fs i) fs.length (λi _=>by rw[hc]),if_neg (by omega),hc,O'c (l'H _)]
 have hw:D'1 (olen (fs++[F])) (λi=>FM-i) (fs++[F]).length=D'1 (olen fs) (λi=>FM-i) fs.length:=by
  rw[l'p];simp only[l'n,l'o,l'F,D'1];rw[D'z fs.length (λi _=>h2 i),h2];have:olen fs fs.length=0:=by simp[olen]
  rw[this];simp
 unfold VP;rw[hp,hw,l'p];simp only[l'n,l'o,l'F];have h3:FM-fs.length=(FM-(fs.length+1))+1:=by omega
 have h4:(FM-fs.length)*2^N.las.length=(FM-(fs.length+1))*2^N.las.length+2^N.las.length:=by rw[h3,Nat.add_mul,Nat.one_mul]
 have h5:psi N fs+2^N.las.length+(FM-(fs.length+1))*2^N.las.length=psi N fs+(FM-fs.length)*2^N.las.length:=by omega
 rw[h5]
theorem RI.ext {FM:Nat}{R:Rn}(x:RI N FM R){F:Fr}(ho:F.own=[])(hc:F.s.conflicts=0)(hS:FrS N F (λ_=>True))(h:R.frames.length<FM): RI N FM { R with frames:=R.frames++[F] }:=by
 obtain⟨h1,-⟩:=H'1 (fs:=R.frames) ho;have sx:∀i st,Sx N (R.frames++[F]) i st↔Sx N R.frames i st:=λi st=>by unfold Sx;rw[h1]
 have hps:=x.ps;refine⟨?_,by simp,by simp;omega,?_,?_,?_,?_,?_,?_,?_,x.sp⟩
 ·intro i G hG;rcases B'u hG with h2|⟨rfl,rfl⟩
  ·exact (x.fi i G h2).iff λst=>(sx i st).symm
  ·refine hS.iff λst=>?_;simp only[sx];unfold Sx;rw[if_neg (by omega)];simp only[true_iff];unfold B'3;rw[List.drop_length];rfl
 ·intro G hG;simp only at hG;rw[l'e hps]at hG;exact x.o0 G hG
 ·intro i G hG c hcm;rcases B'u hG with h2|⟨rfl,rfl⟩
  ·exact x.cw i G h2 c hcm
  ·rw[ho]at hcm;simp at hcm
 ·intro i G hG;rcases B'u hG with h2|⟨rfl,rfl⟩
  ·exact x.nd i G h2
  ·rw[ho];simp
 ·intro i j A B hA hB c a b;rcases B'u hA with hA|⟨rfl,rfl⟩
  ·rcases B'u hB with hB|⟨rfl,rfl⟩
   ·exact x.dj i j A B hA hB c a b
   ·rw[ho]at b;simp at b
  ·rw[ho]at a;simp at a
 ·intro st hs hb;simp only;rw[h1];exact x.ini st hs hb
 ·intro i st inp hs hS2;simp only at hS2 ⊢;rw[h1];exact x.stp i st inp hs ((sx i st).1 hS2)
 ·intro i G hG;rcases B'u hG with h2|⟨rfl,rfl⟩
  ·exact x.cf i G h2
  ·rw[hc];simpa using x.sp
def Chn (N:Ck)(fs:List Fr)(k:Nat): Prop:=∀j,1<=j->j<k->∃st,st<2^N.las.length∧B'3 fs (j+1) st=true∧B'3 fs j st=false
theorem Chn.card {fs:List Fr}: ∀k,1<=k->Chn N fs k->card N fs 1+(k-1)<=card N fs k:=by
 intro k
 induction k with
 | zero=>intro h;omega
 | succ k ih=>
  intro h c
  by_cases e:k=0
  ·subst e;simp
  ·have h1:=ih (by omega) (λj a b=>c j a (by omega));obtain⟨st,s1,s2,s3⟩:=c k (by omega) (by omega);have h2:Go.Ta.card N fs k+1<=Go.Ta.card N fs (k+1):=H'l _ (λs _ h=>D'Y (by omega) h) ⟨st,by simpa using s1,s2,s3⟩;omega
theorem R'C (W:CkW N): ∃st,st<2^N.las.length∧B'j N st=true:=by
 refine⟨numL (λj=>(N.las.getD j (0,0)).2==1) N.las.length,D'Q _ _,?_⟩;rw[C'W];intro j x r hj;have hjl:=(l'b.1 hj).1;have hr:=(W.la j x r hj).2;rw[E'f,C'h _ _ _ hjl,E'I hj];simp only;rcases (show r=0∨r=1∨r=2 by omega) with rfl|rfl|rfl <;> simp
structure AdO (N:Ck) (FM:Nat) (bud:Int) (FL:Nat) (sp V:Int)(Rf:Rn) (v:Nat):Prop where
 vv:v=0∨v=1∨v=3
 ri:RI N FM Rf
 fl:Rf.frames.length=FL
 ty:Rf.spent+((VP N FM Rf.frames*(B'A N+1):Nat):Int)<=sp+V
 z:v=0->Rf.way=[]∧Rf.spent<=bud∧NB N Rf∧FL<=2^N.las.length+1
 e:v=1->L'Y N
 s:v=3->bud<Rf.spent
theorem L'Z {f n FM:Nat}(Hy:Hyp N f n)(hFM:FM<=1000){bud:Int}(hbud:bud<=1152921504606846976){FL:Nat}{V:Int}: ∀(m k:Nat)(R:Rn),1<=k->k+m+1=FL->R.frames.length=FL->RI N FM R->R.way=[]->NB N R->Chn N R.frames k->(∃b,cc N R b∧600<=b∧b+VP N FM R.frames<=850000)->R.spent<=bud->VP N FM R.frames<n->R.spent+((VP N FM R.frames*(B'A N+1):Nat):Int)+((m*B'A N:Nat):Int)<=V ->
  ∃Rf v,Q'B f n N bud m k R=some (Rf,v)∧AdO N FM bud FL 0 V Rf v∧∃b,cc N Rf b∧600<=b∧b+VP N FM Rf.frames<=850000:=by
 intro m
 induction m with
 | zero=>
  intro k R hk hkm hfl x hw nb ch hcb hsp hn hV;refine⟨R,0,rfl,⟨.inl rfl,x,hfl,by simp at hV ⊢;omega,λ_=>⟨hw,hsp,nb,?_⟩,by simp,by simp⟩,hcb⟩;obtain⟨s0,h1,h2⟩:=R'C Hy.W;have h3:=ch.card k hk;have h4:1<=card N R.frames 1:=by
   unfold card;exact List.countP_pos_iff.2 ⟨s0,by simpa using h1,x.ini s0 h1 h2⟩
  have h5:card N R.frames k<=2^N.las.length:=by
   have:=List.countP_le_length (p:=λst=>B'3 R.frames k st) (l:=List.range (2^N.las.length));rw[List.length_range]at this;exact this
  omega
 | succ m ih=>
  intro k R hk hkm hfl x hw nb ch hcb hsp hn hV;unfold Q'B;obtain⟨b,hcc,hb6,hbv⟩:=hcb;obtain⟨R1,a,e1,e2⟩:=J'E Hy hFM hbud hk n R x (by omega) ⟨b,hcc,hbv⟩ hsp hn;have hcb1:∃b,cc N R1 b∧600<=b∧b+VP N FM R1.frames<=850000:=⟨_,e2.c b hcc,by omega,by have:=e2.vp;omega⟩;have hty:=e2.ty;have hmul:((m+1)*B'A N:Nat)=m*B'A N+B'A N:=by rw[Nat.add_mul,Nat.one_mul]
  have hfl1:R1.frames.length=FL:=by rw[e2.fl];exact hfl
  have sxsu:∀i st,st<2^N.las.length->Sx N R1.frames i st->Sx N R.frames i st:=λi st _ h=>by
   unfold Sx at h ⊢
   by_cases e0:i=0
   ·rw[if_pos e0]at h ⊢;exact h
   ·rw[if_neg e0]at h ⊢;exact e2.su i st (by omega) h
  have nb1:NB N R1:=λi st inp hi hst hS=>nb i st inp (by omega) hst (sxsu i st hst hS);rw[e1];rcases e2.vv with rfl|rfl|rfl
  ·simp only;obtain⟨Rf,v,f1,f2,f3⟩:=ih (k+1) R1 (by omega) (by omega) hfl1 e2.ri (by rw[e2.wy];exact hw) nb1 (λj h1 h2=>by
     by_cases ej:j=k
     ·subst ej;exact e2.t rfl
     ·obtain⟨st,s1,s2,s3⟩:=ch j h1 (by omega);exact⟨st,s1,by rw[e2.lo (j+1) st (by omega) (by omega)];exact s2,by rw[e2.lo j st h1 (by omega)];exact s3⟩) hcb1 (e2.z (by omega)) (by have:=e2.vp;omega) (by omega)
   exact⟨Rf,v,f1,f2,f3⟩
  ·simp only;refine⟨_,1,rfl,⟨.inr (.inl rfl),⟨e2.ri.fi,e2.ri.ps,e2.ri.fl,e2.ri.o0,e2.ri.cw,e2.ri.nd,e2.ri.dj,e2.ri.ini,e2.ri.stp,e2.ri.cf,e2.ri.sp⟩,hfl1,by simp only;omega,by simp,λ_=>?_,by simp⟩,hcb1⟩;have heq:∀st,B'3 R1.frames (k+1) st=true->B'3 R1.frames k st=true:=by
    intro st h;rw[B'J]at h ⊢;intro j G hj hG c hc
    by_cases ej:j=k
    ·subst ej;rw[e2.e rfl G hG]at hc;simp at hc
    ·exact h j G (by omega) hG c hc
   refine⟨λst=>B'3 R1.frames k st=true,λst hs hb=>D'Y hk (e2.ri.ini st hs hb),λst inp hs hS=>?_,λst inp hs hS=>nb1 k st inp (by omega) hs (by unfold Sx;rw[if_neg (by omega)];exact hS)⟩;exact heq _ (e2.ri.stp k st inp hs (by unfold Sx;rw[if_neg (by omega)];exact hS))
  ·simp only;exact⟨R1,3,rfl,⟨.inr (.inr rfl),e2.ri,hfl1,by omega,by simp,by simp,e2.s⟩,hcb1⟩
structure DeO (N:Ck) (bud:Int) (B:Int)(Rf:Rn) (v:Nat):Prop where
 vv:v=1∨v=2∨v=3
 e:v=1->L'Y N
 u:v=2->WyI N Rf∧Rf.frames.length<=1000∧∃st inp,Rf.way.getLast?=some (st,inp)∧B'j N st=true
 s:v=3->bud<Rf.spent∧Rf.spent<=B
theorem H'2 {f n FM:Nat}(Hy:Hyp N f n)(hFM:FM=2^N.las.length+2){bud B:Int}(hbud:bud<=1152921504606846976)(hnn:850000+FM<n): ∀(m:Nat)(R:Rn),RI N FM R->R.way=[]->NB N R->R.frames.length<=2^N.las.length+1->(∃b,cc N R b∧600<=b∧b+VP N FM R.frames<=850000)->R.spent<=bud->FM<m+R.frames.length->R.spent+(((VP N FM R.frames+FM)*(B'A N+1):Nat):Int)+((m*((FM+2)*B'A N):Nat):Int)<=B ->
  ∃Rf v,C'4 f n N bud m R=some (Rf,v)∧DeO N bud B Rf v:=by
 have hmm:most=1000000:=rfl;have hFM2:FM<=1000:=by
  have h1:2^N.las.length<=2^6:=Nat.pow_le_pow_right (by omega) Hy.L;omega
 intro m
 induction m with
 | zero=>intro R x _ _ h1 _ _ h;have:=x.fl;omega
 | succ m ih=>
  intro R x hw nb hfl hcb hsp hm hB;obtain⟨b,hcc,hb6,hbv⟩:=hcb;have hxfl:=x.fl;have hps:=x.ps;unfold C'4;obtain⟨R1,v1,e1,e2⟩:=J'D Hy hFM2 hbud n R x hw ⟨b,hcc,hbv⟩ hsp (by omega) (by omega);have hty:=e2.ty;have hmul:((m+1)*((FM+2)*B'A N):Nat)=m*((FM+2)*B'A N)+(FM+2)*B'A N:=by rw[Nat.add_mul,Nat.one_mul]
  have hmul2:(FM+2)*B'A N=FM*B'A N+B'A N+B'A N:=by rw[Nat.add_mul];omega
  have hVR:VR N FM R=VP N FM R.frames+FM:=by unfold VR;rw[hw];simp
  rw[hVR]at hty;rw[e1];rcases e2.vv with rfl|rfl|rfl
  ·simp only;obtain⟨z1,z2,z3⟩:=e2.z rfl;have hVR1:VR N FM R1=VP N FM R1.frames+FM:=by unfold VR;rw[z1];simp
   rw[hVR1]at hty;obtain⟨F,f1,f2,f3,f4,f5⟩:=F'W Hy.W (by have:=Hy.n;omega);have hfl1:=e2.fl;unfold T'0;rw[f1];simp only;rw[if_pos (by omega)];have x2:=e2.ri.ext f2 f3 f5 (by omega);have vp2:VP N FM (R1.frames++[F])=VP N FM R1.frames:=T'D f2 (by omega) (by omega);have hc1:=e2.c b hcc;have hvp1:=e2.vp;have hc2:cc N { R1 with frames:=R1.frames++[F] } (b+(VP N FM R.frames-VP N FM R1.frames)):=by
    intro i G hG;rcases B'u hG with h|⟨-,rfl⟩
    ·exact hc1 i G h
    ·omega
   have nb2:NB N { R1 with frames:=R1.frames++[F] }:=by
    intro i st inp hi hst hS;simp only[l'p,l'n,l'o]at hi;have hS1:Sx N R1.frames i st:=by
     unfold Sx at hS ⊢;simp only at hS;rw[(H'1 (fs:=R1.frames) f2).1]at hS;exact hS
    by_cases ei:i=R.frames.length-1
    ·subst ei;exact z3 st inp hst hS1
    ·refine nb i st inp (by omega) hst ?_;unfold Sx at hS1 ⊢
     by_cases e0:i=0
     ·rw[if_pos e0]at hS1 ⊢;exact hS1
     ·rw[if_neg e0]at hS1 ⊢;exact e2.su i st (by omega) hS1
   obtain⟨R3,v3,g1,g2,b3,g3,g5,g4⟩:=L'Z Hy hFM2 hbud (FL:=R1.frames.length+1) (V:=R1.spent+((VP N FM R1.frames*(B'A N+1):Nat):Int)+((FM*B'A N:Nat):Int)) (R1.frames.length-1) 1 { R1 with frames:=R1.frames++[F] } (by omega) (by omega) (by simp) x2 z1 nb2 (λj h1 h2=>by omega) ⟨_,hc2,by omega,by simp only;rw[vp2];omega⟩ z2 (by simp only;rw[vp2];omega) (by
     simp only;rw[vp2];have:(R1.frames.length-1)*B'A N<=FM*B'A N:=Nat.mul_le_mul_right _ (by omega);omega)
   have hty3:=g2.ty;rw[g1];have hdist:(VP N FM R1.frames+FM)*(B'A N+1)=VP N FM R1.frames*(B'A N+1)+FM*(B'A N+1):=Nat.add_mul _ _ _;have hdist3:(VP N FM R3.frames+FM)*(B'A N+1)=VP N FM R3.frames*(B'A N+1)+FM*(B'A N+1):=Nat.add_mul _ _ _;rcases g2.vv with rfl|rfl|rfl
   ·simp only;obtain⟨y1,y2,y3,y4⟩:=g2.z rfl;have hfl3:=g2.fl;exact ih R3 g2.ri y1 y3 (by omega) ⟨b3,g3,g5,g4⟩ y2 (by omega) (by omega)
   ·simp only;exact⟨R3,1,rfl,⟨.inl rfl,g2.e,by simp,by simp⟩⟩
   ·simp only;exact⟨R3,3,rfl,⟨.inr (.inr rfl),by simp,by simp,λ_=>⟨g2.s rfl,by omega⟩⟩⟩
  ·simp only;exact⟨R1,2,rfl,⟨.inr (.inl rfl),by simp,λh=>⟨(e2.u h).1,by have:=e2.ri.fl;omega,(e2.u h).2⟩,by simp⟩⟩
  ·simp only;exact⟨R1,3,rfl,⟨.inr (.inr rfl),by simp,by simp,λ_=>⟨e2.s rfl,by omega⟩⟩⟩
end Go.Ta
namespace Go.Ta
variable {N:Ck}
theorem H'3 (N:Ck): ∀(ls:List (Nat×Nat)) (j0:Nat)(σ:Nat->Bool),D'F σ (B'I N ls j0)↔∀(j x r:Nat),ls[j]?=some (x,r)->(r=0->σ (1+N.ni+(j0+j))=false)∧(r=1->σ (1+N.ni+(j0+j))=true):=by
 intro ls
 induction ls with
 | nil=>intro j0 σ;simp[B'I,D'F]
 | cons p t ih=>
  intro j0 σ;obtain⟨x0,r0⟩:=p;have hlit:tr σ (N.lla j0) = σ (1+N.ni+j0):=by unfold Ck.lla;rw[H'U]
  have h1:D'F σ (B'I N ((x0,r0) :: t) j0)↔((r0=0->σ (1+N.ni+j0)=false)∧(r0=1->σ (1+N.ni+j0)=true))∧D'F σ (B'I N t (j0+1)):=by
   rw[show B'I N ((x0,r0) :: t) j0=(if r0=0 then [[N.lla j0 ^^^ 1]] else if r0=1 then [[N.lla j0]] else [])++B'I N t (j0+1) from rfl];unfold D'F;simp only[l'E,or_imp,forall_and];refine and_congr ?_ Iff.rfl
   by_cases e0:r0=0
   ·subst e0;simp only[if_true,l'm,forall_eq,clT,exists_eq_left,C'9,hlit]
    cases σ (1+N.ni+j0) <;> simp
   ·by_cases e1:r0=1
    ·subst e1;simp only[show (1:Nat)=0↔False by simp,if_false,if_true,l'm,forall_eq,clT,exists_eq_left,hlit]
     cases σ (1+N.ni+j0) <;> simp
    ·simp[e0,e1]
  rw[h1,ih];constructor
  ·rintro⟨a,b⟩ j x r h
   cases j with
   | zero=>
    simp only[l'w,l'a,l'd]at h;obtain⟨rfl,rfl⟩:=h;exact a
   | succ j=>
    have:=b j x r (by simpa using h)
    rwa [show j0+1+j=j0+(j+1) by omega]at this
  ·intro h;refine⟨h 0 x0 r0 rfl,λj x r hj=>?_⟩;have:=h (j+1) x r (by simpa using hj)
   rwa [show j0+(j+1)=j0+1+j by omega]at this
theorem J'F (N:Ck): ∀(ls:List (Nat×Nat)) (j0:Nat),j0+ls.length<=N.las.length->(∀c∈B'I N ls j0,(∀x∈c,x<2*N.nv)∧c.length<most)∧(B'I N ls j0).length<=ls.length:=by
 have hm:most=1000000:=rfl;intro ls
 induction ls with
 | nil=>intro j0 _;simp[B'I]
 | cons p t ih=>
  intro j0 h;obtain⟨x0,r0⟩:=p;simp only[l'n]at h;obtain⟨i1,i2⟩:=ih (j0+1) (by omega);have hl:N.lla j0<2*N.nv:=by unfold Ck.lla Ck.nv;omega
  rw[show B'I N ((x0,r0) :: t) j0=(if r0=0 then [[N.lla j0 ^^^ 1]] else if r0=1 then [[N.lla j0]] else [])++B'I N t (j0+1) from rfl];refine⟨λc hc=>?_,?_⟩
  ·rcases l'E.1 hc with h1|h1
   ·split at h1
    ·simp only[l'm]at h1;subst h1;exact⟨λx hx=>by simp only[l'm]at hx;rw[hx];exact D'r hl,by simp;omega⟩
    ·split at h1
     ·simp only[l'm]at h1;subst h1;exact⟨λx hx=>by simp only[l'm]at hx;rw[hx];exact hl,by simp;omega⟩
     ·simp at h1
   ·exact i1 c h1
  ·rw[l'p,l'n];split
   ·simp;omega
   ·split
    ·simp;omega
    ·simp;omega
theorem H'm (W:CkW N)(σ:Nat->Bool): D'F σ (B'I N N.las 0)↔B'j N (G's N σ)=true:=by
 rw[H'3,C'W];constructor
 ·intro h j x r hj;have hjl:=(l'b.1 hj).1;obtain⟨h1,h2⟩:=h j x r hj;have hr:=(W.la j x r hj).2;rw[E'f];unfold G's;rw[C'h _ _ _ hjl];rw[l'F]at h1 h2;rcases (show r=0∨r=1∨r=2 by omega) with rfl|rfl|rfl
  ·rw[h1 rfl];simp
  ·rw[h2 rfl];simp
  ·exact .inl rfl
 ·intro h j x r hj;have hjl:=(l'b.1 hj).1;have h1:=h j x r hj;rw[E'f]at h1;unfold G's at h1;rw[C'h _ _ _ hjl]at h1;rw[l'F];refine⟨λe=>?_,λe=>?_⟩
  ·subst e
   cases hb:σ (1+N.ni+j) with
   | false=>rfl
   | true=>rw[hb]at h1;simp at h1
  ·subst e
   cases hb:σ (1+N.ni+j) with
   | true=>rfl
   | false=>rw[hb]at h1;simp at h1
theorem J'G {FM:Nat}(W:CkW N)(hn:N.nv<=192)(hFM:1<=FM): ∃R0,F'M N=some R0∧RI N FM R0∧R0.way=[]∧NB N R0∧R0.frames.length=1∧R0.spent=0∧cc N R0 800∧VP N FM R0.frames=(FM-1)*2^N.las.length*(FM+2):=by
 have hm:most=1000000:=rfl;obtain⟨F,f1,f2,f3,f4,f5⟩:=F'W W hn;have hL:N.las.length<=192:=by unfold Ck.nv at hn;omega
 obtain⟨r1,r2⟩:=J'F N N.las 0 (by omega);obtain⟨s,e1,e2,e3,e4,e5,e6,e7⟩:=E'e (n:=N.nv) (B'I N N.las 0) F.s f5.s.e f5.s.c r1 (by omega);have hfr:FrS N ⟨s,F.own⟩ (λst=>B'j N st=true):=by
  refine⟨⟨by rw[e2];exact f5.s.e,e5,by simp only;omega,?_⟩,λσ=>?_⟩
  ·obtain⟨l,hl⟩:=f5.s.u;exact⟨l,e6 _ hl⟩
  ·simp only;rw[e7,f5.m,H'm W];simp
 have get1:∀(i:Nat)(G:Fr),([⟨s,F.own⟩]:List Fr)[i]?=some G->i=0∧G=⟨s,F.own⟩:=by
  intro i G h
  cases i with
  | zero=>simp at h;exact⟨rfl,h.symm⟩
  | succ i=>simp at h
 refine⟨⟨0,[⟨s,F.own⟩],[],[]⟩,?_,⟨?_,by simp,by simp;omega,?_,?_,?_,?_,?_,?_,?_,Int.le_refl _⟩,rfl,?_,rfl,rfl,?_,?_⟩
 ·unfold F'M;rw[f1];simp only[e1]
 ·intro i G hG;obtain⟨rfl,rfl⟩:=get1 i G hG;exact hfr.iff λst=>by unfold Sx;simp
 ·intro G hG;obtain⟨-,rfl⟩:=get1 0 G hG;exact f2
 ·intro i G hG c hc;obtain⟨-,rfl⟩:=get1 i G hG;rw[f2]at hc;simp at hc
 ·intro i G hG;obtain⟨-,rfl⟩:=get1 i G hG;rw[f2];simp
 ·intro i j A B hA hB c a b;rw[(get1 i A hA).1,(get1 j B hB).1]
 ·intro st _ _;rfl
 ·intro i st inp _ _;unfold B'3;rw[List.drop_eq_nil_of_le (by simp)];rfl
 ·intro i G hG;obtain⟨-,rfl⟩:=get1 i G hG;simp only;rw[e3,f3];simp
 ·intro i st inp h;simp at h
 ·intro i G hG;obtain⟨-,rfl⟩:=get1 i G hG;simp only;omega
 ·unfold VP psi;simp[D'1,olen,f2]
def O'I (N:Ck)(st:Nat)(ins:List Nat): Nat->Nat
 | 0=>st
 | t+1=>nxt N (O'I N st ins t) (ins.getD t 0)
def R'R (N:Ck)(st:Nat)(ins:List Nat): Prop:=0<ins.length∧st<2^N.las.length∧B'j N st=true∧L'S N (O'I N st ins (ins.length-1)) (ins.getD (ins.length-1) 0)=true
theorem R'D {R:Rn}(w:WyI N R){st inp:Nat}(hl:R.way.getLast?=some (st,inp))(hb:B'j N st=true): R'R N (R.way.getLast?.getD (0,0)).1 (R.way.map (·.2)).reverse:=by
 obtain⟨h1,h2⟩:=L'X hl;have hlen:(R.way.map (·.2)).reverse.length=R.way.length:=by simp
 have hget:∀(t:Nat) (s i:Nat),t<R.way.length->R.way[R.way.length-1-t]?=some (s,i)->(R.way.map (·.2)).reverse.getD t 0=i:=by
  intro t s i ht h;rw[l'r,List.getElem?_reverse (by simpa using ht),List.length_map,List.getElem?_map,h];rfl
 have key:∀t,t<R.way.length->R.way[R.way.length-1-t]?=some (O'I N st (R.way.map (·.2)).reverse t,(R.way.map (·.2)).reverse.getD t 0):=by
  intro t
  induction t with
  | zero=>
   intro ht;rw[hget 0 st inp ht (by simpa using h1)];simpa [O'I]using h1
  | succ t ih=>
   intro ht;have h3:=ih (by omega);obtain⟨⟨s',i'⟩,h4⟩:∃p,R.way[R.way.length-1-(t+1)]?=some p:=⟨_,l'c (by omega)⟩;have h5:=w.wc (R.way.length-1-(t+1)) s' i' _ _ h4 (by rw[show R.way.length-1-(t+1)+1=R.way.length-1-t by omega];exact h3);rw[h4,hget (t+1) s' i' ht h4];simp only[O'I];rw[h5]
 rw[hl];simp only[Option.getD_some];refine⟨by rw[hlen];exact h2,(w.ws _ _ _ h1).1.1,hb,?_⟩;rw[hlen];have h6:=key (R.way.length-1) (by omega);rw[show R.way.length-1-(R.way.length-1)=0 by omega]at h6;exact w.w0 _ _ h6
theorem E'L (W:CkW N)(hn:N.nv<=37)(hL:N.las.length<=6){bud:Int}(hb0:0<=bud)(hb:bud<=1152921504606846976):
  ∃(f n m:Nat)(R0 R:Rn) (v:Nat),F'M N=some R0∧C'4 f n N bud m R0=some (R,v)∧(v=1∨v=2∨v=3)∧(v=1->L'Y N)∧(v=2->R'R N (R.way.getLast?.getD (0,0)).1 (R.way.map (·.2)).reverse∧R.way.length<=1000∧∀x∈(R.way.map (·.2)).reverse,x<2^N.ni)∧(100000000000000000<=bud->v≠3):=by
 obtain⟨FM,hFM⟩:=e' (2^N.las.length+2);have hp6:2^N.las.length<=2^6:=Nat.pow_le_pow_right (by omega) hL;have hp0:1<=2^N.las.length:=Nat.one_le_two_pow;have hnv:1<=N.nv:=by unfold Ck.nv;omega
 obtain⟨n,hnn⟩:=e' (D'b N.nv 1000+900000);have Hy:Hyp N (N.nv+1) n:=⟨W,by omega,hL,by omega,by omega⟩;obtain⟨R0,e1,e2,e3,e4,e5,e6,e7,e8⟩:=J'G (FM:=FM) W (by omega) (by omega);have hK:B'A N<=137438953472:=by
  unfold B'A;exact Nat.pow_le_pow_right (by omega) hn
 have hVP:VP N FM R0.frames<=300000:=by
  rw[e8];have h1:(FM-1)*2^N.las.length<=65*64:=Nat.mul_le_mul (by omega) (by omega);have h2:(FM-1)*2^N.las.length*(FM+2)<=65*64*68:=Nat.mul_le_mul h1 (by omega);omega
 have hB1:(VP N FM R0.frames+FM)*(B'A N+1)<=300066*137438953473:=Nat.mul_le_mul (by omega) (by omega);have hB2:FM*((FM+2)*B'A N)<=66*(68*137438953472):=Nat.mul_le_mul (by omega) (Nat.mul_le_mul (by omega) hK);obtain⟨R,v,g1,g2⟩:=H'2 Hy hFM (B:=100000000000000000-1) hb (by omega) FM R0 e2 e3 e4 (by omega) ⟨800,e7,by omega,by omega⟩ (by omega) (by omega) (by rw[e6];omega);refine⟨N.nv+1,n,FM,R0,R,v,e1,g1,g2.vv,g2.e,λh=>?_,λh h3=>?_⟩
 ·obtain⟨w,hf,st,inp,h1,h2⟩:=g2.u h;refine⟨R'D w h1 h2,l'G w.wl hf,λy hy=>?_⟩;rw[List.mem_reverse,List.mem_map]at hy;obtain⟨⟨s,i⟩,hm,rfl⟩:=hy;obtain⟨k,hk⟩:=l'i.1 hm;exact (w.ws k s i hk).1.2
 ·have:=g2.s h3;omega
end Go.Ta
