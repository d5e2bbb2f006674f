import Derived.Test.YtimdkminagnhgaaGreatDoorQ38
set_option linter.all false
namespace Go.Ta
variable {N:Ck}
theorem countP_lt {α:Type}{p p':α->Bool}: ∀(l:List α),(∀x∈l,p' x=true->p x=true)->(∃x∈l,p x=true∧p' x=false)->l.countP p'+1<=l.countP p:=by
 intro l
 induction l with
 | nil=>rintro _ ⟨x,h,_⟩;simp at h
 | cons a r ih=>
  rintro h ⟨x,hx,h1,h2⟩;have hle:r.countP p'<=r.countP p:=List.countP_mono_left λy hy=>h y (by simp[hy]);rw[List.countP_cons,List.countP_cons];rcases l'I.1 hx with rfl|hx
  ·rw[h1,h2];simp;omega
  ·have:=ih (λy hy=>h y (by simp[hy])) ⟨x,hx,h1,h2⟩
   cases ha:p' a with
   | true=>rw[h a (by simp) ha];simp;omega
   | false=>cases p a <;> simp <;> omega
theorem card_le {fs fs':List Fr}{i:Nat}(h:∀st,ownB fs' i st=true->ownB fs i st=true): card N fs' i<=card N fs i:=List.countP_mono_left λx _=>h x
theorem LrO.le {fs fs':List Fr}{lv:Nat}{cl:List Nat}(x:LrO N fs fs' lv cl){i:Nat}(hi:1<=i)(st:Nat)(h:ownB fs' i st=true): ownB fs i st=true:=by
 rcases Nat.lt_or_ge lv i with h1|h1
 ·rw[x.hi i st h1]at h;exact h
 ·rw[x.lo i st hi h1,l'k]at h;exact h.1
theorem LrO.olen {fs fs':List Fr}{lv:Nat}{cl:List Nat}(x:LrO N fs fs' lv cl){i:Nat}(hi:i<fs.length): olen fs' i<=olen fs i+ind lv i∧∀F:Fr,fs[i]?=some F->cl∈F.own->i≠lv->olen fs' i+1<=olen fs i:=by
 obtain⟨F,hF⟩:∃F,fs[i]?=some F:=⟨_,l'c hi⟩;obtain⟨F',q1,q2,-⟩:=x.ow i F hF;rw[olen_at hF,olen_at q1,q2];refine⟨?_,?_⟩
 ·unfold ind;split
  ·rename_i e;simp
  ·rename_i e;exact List.length_filter_le _ _
 ·intro G hG hm hne;rw[hF]at hG;simp only[l'a]at hG;subst hG;rw[if_neg hne];exact filter_lt.2 hm
theorem VP_bar {FM:Nat}{fs fs':List Fr}{lv:Nat}{cl:List Nat}(x:LrO N fs fs' lv cl)(h1:1<=lv)(h2:lv<fs.length)(h3:fs.length<=FM){st:Nat}(hst:st<2^N.las.length)(ho:ownB fs lv st=true)(hn:inB st cl=false): VP N FM fs'+2<=VP N FM fs:=by
 have hp:psi N fs'+1<=psi N fs:=by
  unfold psi;rw[x.len];have h:=wsum_le (g:=λi=>if i=0 then 0 else card N fs i) (g':=λi=>if i=0 then 0 else card N fs' i) (d:=ind lv) (u:=λ_=>0) (w:=λ_=>1) fs.length (λi hi=>by
   unfold ind
   by_cases e0:i=0
   ·subst e0;simp;omega
   ·simp only[e0,if_false]
    by_cases e:i=lv
    ·subst e;simp only[if_true];refine countP_lt _ (λs _ h=>x.le h1 s h) ⟨st,by simpa using hst,ho,?_⟩;rw[x.lo i st h1 (l'H _),hn];simp
    ·simp only[e,if_false];exact card_le λs h=>x.le (by omega) s h)
  rw[wsum_ind,wsum_zero,if_pos h2]at h;omega
 have hw:wsum (olen fs') (λi=>FM-i) fs.length<=wsum (olen fs) (λi=>FM-i) fs.length+(FM-lv):=by
  have h:=wsum_le (g:=olen fs) (g':=olen fs') (d:=λ_=>0) (u:=ind lv) (w:=λi=>FM-i) fs.length (λi hi=>by have:=(x.olen hi).1;omega);rw[wsum_ind,wsum_zero,if_pos h2]at h;omega
 have hmul:(psi N fs'+(FM-fs.length)*2^N.las.length)*(FM+2)+(FM+2)<=(psi N fs+(FM-fs.length)*2^N.las.length)*(FM+2):=by
  have:=Nat.mul_le_mul_right (FM+2) (show psi N fs'+(FM-fs.length)*2^N.las.length+1<=psi N fs+(FM-fs.length)*2^N.las.length by omega);rw[Nat.add_mul,Nat.one_mul]at this;exact this
 unfold VP;rw[x.len];omega
theorem VP_carry {FM:Nat}{fs fs':List Fr}{lv:Nat}{cl:List Nat}(x:LrO N fs fs' (lv+1) cl)(h2:lv+1<fs.length)(h3:fs.length<=FM){F:Fr}(hF:fs[lv]?=some F)(hm:cl∈F.own): VP N FM fs'+1<=VP N FM fs:=by
 have hp:psi N fs'<=psi N fs:=by
  unfold psi;rw[x.len];have h:=wsum_le (g:=λi=>if i=0 then 0 else card N fs i) (g':=λi=>if i=0 then 0 else card N fs' i) (d:=λ_=>0) (u:=λ_=>0) (w:=λ_=>1) fs.length (λi hi=>by
   by_cases e0:i=0
   ·subst e0;simp
   ·simp only[e0,if_false];have:=card_le (N:=N) (fs:=fs) (fs':=fs') (i:=i) λs h=>x.le (by omega) s h;omega)
  rw[wsum_zero]at h;omega
 have hw:wsum (olen fs') (λi=>FM-i) fs.length+1<=wsum (olen fs) (λi=>FM-i) fs.length:=by
  have h:=wsum_le (g:=olen fs) (g':=olen fs') (d:=ind lv) (u:=ind (lv+1)) (w:=λi=>FM-i) fs.length (λi hi=>by
   obtain⟨a,b⟩:=x.olen hi
   by_cases e:i=lv
   ·subst e;have:=b F hF hm (by omega);unfold ind;simp;omega
   ·have h0:ind lv i=0:=by unfold ind;rw[if_neg e]
    omega)
  rw[wsum_ind,wsum_ind,if_pos h2,if_pos (by omega)]at h;omega
 have hmul:(psi N fs'+(FM-fs.length)*2^N.las.length)*(FM+2)<=(psi N fs+(FM-fs.length)*2^N.las.length)*(FM+2):=Nat.mul_le_mul_right _ (by omega);unfold VP;rw[x.len];omega
theorem own_set {fs:List Fr}{k:Nat}{F F':Fr}(hF:fs[k]?=some F)(ho:F'.own=F.own): (∀i st,ownB (fs.set k F') i st=ownB fs i st)∧(∀i,olen (fs.set k F') i=olen fs i)∧∀(i:Nat)(G:Fr),(fs.set k F')[i]?=some G->∃G0:Fr,fs[i]?=some G0∧G.own=G0.own∧(i≠k->G=G0)∧(i=k->G=F'):=by
 have hk:=(l'b.1 hF).1;have back:∀(i:Nat)(G:Fr),(fs.set k F')[i]?=some G->∃G0:Fr,fs[i]?=some G0∧G.own=G0.own∧(i≠k->G=G0)∧(i=k->G=F'):=by
  intro i G hG
  by_cases e:i=k
  ·subst e;rw[l'g hk]at hG;simp only[l'a]at hG;subst hG;exact⟨F,hF,ho,λh=>absurd rfl h,λ_=>rfl⟩
  ·rw[l'h (λh=>e h.symm)]at hG;exact⟨G,hG,rfl,λ_=>rfl,λh=>absurd h e⟩
 refine⟨λi st=>?_,λi=>?_,back⟩
 ·rw[Bool.eq_iff_iff,ownB_iff,ownB_iff];constructor
  ·intro h j G hj hG c hc
   by_cases e:j=k
   ·subst e;rw[hF]at hG;simp only[l'a]at hG;subst hG;exact h j F' hj (l'g hk) c (by rw[ho];exact hc)
   ·exact h j G hj (by rw[l'h (λh=>e h.symm)];exact hG) c hc
  ·intro h j G hj hG c hc;obtain⟨G0,q1,q2,-⟩:=back j G hG;exact h j G0 hj q1 c (by rw[<-q2];exact hc)
 ·unfold olen
  by_cases e:i=k
  ·subst e;rw[l'g hk,hF];simp[ho]
  ·rw[l'h (λh=>e h.symm)]
theorem VP_set {FM:Nat}{fs:List Fr}{k:Nat}{F F':Fr}(hF:fs[k]?=some F)(ho:F'.own=F.own): VP N FM (fs.set k F')=VP N FM fs:=by
 obtain⟨h1,h2,-⟩:=own_set hF ho;have hc:∀i,card N (fs.set k F') i=card N fs i:=λi=>by
  unfold card;exact List.countP_congr λst _=>by rw[h1]
 unfold VP psi;rw[List.length_set,wsum_congr fs.length (λi _=>h2 i),wsum_congr (g:=λi=>if i=0 then 0 else card N fs i) fs.length (λi _=>by rw[hc])]
theorem RI.ask {FM:Nat}{R R1:Rn}(x:RI N FM R){k:Nat}{F F':Fr}(hF:R.frames[k]?=some F)(h1:R1.frames=R.frames.set k F')(h2:F'.own=F.own)(h3:FrS N F' (Sx N R.frames k))(h4:R.spent<=R1.spent)(h5:(F'.s.conflicts:Int)<=R1.spent): RI N FM R1∧∀i st,Sx N R1.frames i st↔Sx N R.frames i st:=by
 obtain⟨o1,o2,o3⟩:=own_set hF h2;have sx:∀i st,Sx N R1.frames i st↔Sx N R.frames i st:=λi st=>by
  unfold Sx;rw[h1,o1]
 refine⟨⟨?_,by rw[h1,List.length_set];exact x.ps,by rw[h1,List.length_set];exact x.fl,?_,?_,?_,?_,?_,?_,?_,by have:=x.sp;omega⟩,sx⟩
 ·intro i G hG;rw[h1]at hG;obtain⟨G0,q1,q2,q3,q4⟩:=o3 i G hG
  by_cases e:i=k
  ·rw[q4 e];subst e;exact h3.iff λst=>(sx i st).symm
  ·rw[q3 e];exact (x.fi i G0 q1).iff λst=>(sx i st).symm
 ·intro G hG;rw[h1]at hG;obtain⟨G0,q1,q2,-⟩:=o3 0 G hG;rw[q2];exact x.o0 G0 q1
 ·intro i G hG;rw[h1]at hG;obtain⟨G0,q1,q2,-⟩:=o3 i G hG;rw[q2];exact x.cw i G0 q1
 ·intro i G hG;rw[h1]at hG;obtain⟨G0,q1,q2,-⟩:=o3 i G hG;rw[q2];exact x.nd i G0 q1
 ·intro i j A B hA hB c a b;rw[h1]at hA hB;obtain⟨A0,p1,p2,-⟩:=o3 i A hA;obtain⟨B0,q1,q2,-⟩:=o3 j B hB;exact x.dj i j A0 B0 p1 q1 c (by rw[<-p2];exact a) (by rw[<-q2];exact b)
 ·intro st hs hb;rw[h1,o1];exact x.ini st hs hb
 ·intro i st inp hs hS;rw[h1,o1];exact x.stp i st inp hs ((sx i st).1 hS)
 ·intro i G hG;rw[h1]at hG;obtain⟨G0,q1,q2,q3,q4⟩:=o3 i G hG
  by_cases e:i=k
  ·rw[q4 e];exact h5
  ·rw[q3 e];have:=x.cf i G0 q1;omega
theorem cc_ask {R R1:Rn}{b k:Nat}{F F':Fr}(hc:cc N R b)(hF:R.frames[k]?=some F)(h1:R1.frames=R.frames.set k F')(h2:F'.s.clauses=F.s.clauses): cc N R1 b:=by
 intro i G hG;rw[h1]at hG;have hk:=(l'b.1 hF).1
 by_cases e:i=k
 ·subst e;rw[l'g hk]at hG;simp only[l'a]at hG;subst hG;rw[h2];exact hc i F hF
 ·rw[l'h (λh=>e h.symm)]at hG;exact hc i G hG
structure WyI (N:Ck)(R:Rn):Prop where
 wl:R.way.length<=R.frames.length
 ws:∀(w st inp:Nat),R.way[w]?=some (st,inp)->st<2^N.las.length∧Sx N R.frames (R.frames.length-1-w) st
 wc:∀(w st inp st' inp':Nat),R.way[w]?=some (st,inp)->R.way[w+1]?=some (st',inp')->nxt N st' inp'=st
 w0:∀(st inp:Nat),R.way[0]?=some (st,inp)->badS N st inp=true
def VR (N:Ck)(FM:Nat)(R:Rn): Nat:=VP N FM R.frames+(FM-R.way.length)
end Go.Ta
namespace Go.Ta
variable {N:Ck}
def costN (N:Ck): Nat:=2^N.nv
theorem cc_mono {R:Rn}{b b':Nat}(h:cc N R b)(hb:b<=b'): cc N R b':=λi F hF=>l'G (h i F hF) hb
structure BrO (N:Ck) (FM:Nat) (bud:Int)(R Rf:Rn) (v:Nat):Prop where
 vv:v=0∨v=2∨v=3
 ri:RI N FM Rf
 fl:Rf.frames.length=R.frames.length
 ty:Rf.spent+((VR N FM Rf*(costN N+1):Nat):Int)<=R.spent+((VR N FM R*(costN N+1):Nat):Int)+(if v=3 then (costN N:Int) else 0)
 vp:VP N FM Rf.frames<=VP N FM R.frames
 c:∀b,cc N R b->cc N Rf (b+(VP N FM R.frames-VP N FM Rf.frames))
 z:v=0->Rf.way=[]∧Rf.spent<=bud∧VP N FM Rf.frames+R.way.length<=VP N FM R.frames
 u:v=2->WyI N Rf∧∃st inp,Rf.way.getLast?=some (st,inp)∧beginsP N st=true
 s:v=3->bud<Rf.spent
 up:∀i st,R.frames.length<=i->ownB Rf.frames i st=ownB R.frames i st
 su:∀i st,1<=i->ownB Rf.frames i st=true->ownB R.frames i st=true
theorem mul_step {V V' K:Nat}(h:V'+1<=V): V'*(K+1)+(K+1)<=V*(K+1):=by
 have:=Nat.mul_le_mul_right (K+1) h;rw[Nat.add_mul,Nat.one_mul]at this;exact this
theorem last_of {α:Type}{l:List α}{x:α}(h:l.getLast?=some x): l[l.length-1]?=some x∧0<l.length:=by
 rw[List.getLast?_eq_getElem?]at h;have:=(l'b.1 h).1;exact⟨h,by omega⟩
theorem bar_full {f n FM:Nat}(Hy:Hyp N f n)(hFM:FM<=1000){bud:Int}(hbud:bud<=1152921504606846976): ∀(m:Nat)(R:Rn),RI N FM R->WyI N R->(∃b,cc N R b∧b+VP N FM R.frames<=850000)->R.spent<=bud+1->(R.way=[]->R.spent<=bud)->VR N FM R<m->∃Rf v,barRP f n N bud m R=some (Rf,v)∧BrO N FM bud R Rf v:=by
 have hmm:most=1000000:=rfl;intro m
 induction m with
 | zero=>intro R _ _ _ _ _ h;omega
 | succ m ih=>
  intro R x w hcb hsp hsp0 hm;obtain⟨b,hcc,hbv⟩:=hcb;unfold barRP
  cases hw:R.way.getLast? with
  | none=>
   simp only;have hw0:R.way=[]:=by simpa using hw
   exact⟨R,0,rfl,⟨.inl rfl,x,rfl,by simp,l'H _,λb h=>by simpa using h,λ_=>⟨hw0,hsp0 hw0,by rw[hw0];simp⟩,by simp,by simp,λ_ _ _=>rfl,λ_ _ _ h=>h⟩⟩
  | some p=>
   obtain⟨st,inp⟩:=p;simp only;obtain⟨hlast,hpos⟩:=last_of hw
   by_cases hlt:bud<R.spent
   ·rw[if_pos hlt];exact⟨R,3,rfl,⟨.inr (.inr rfl),x,rfl,by rw[if_pos rfl];omega,l'H _,λb h=>by simpa using h,by simp,by simp,λ_=>hlt,λ_ _ _=>rfl,λ_ _ _ h=>h⟩⟩
   ·rw[if_neg hlt];obtain⟨hst,hsx⟩:=w.ws _ _ _ hlast;have hwl:=w.wl;have hfl:=x.fl
    by_cases hor:R.frames.length<=R.way.length∨beginsP N st=true
    ·rw[if_pos hor];refine⟨R,2,rfl,⟨.inr (.inl rfl),x,rfl,by simp,l'H _,λb h=>by simpa using h,by simp,λ_=>⟨w,st,inp,hw,?_⟩,by simp,λ_ _ _=>rfl,λ_ _ _ h=>h⟩⟩;rcases hor with h|h
     ·rw[show R.frames.length-1-(R.way.length-1)=0 by omega]at hsx;unfold Sx at hsx;rw[if_pos rfl]at hsx;exact hsx
     ·exact h
    ·rw[if_neg hor];simp only[not_or]at hor;obtain⟨hor1,hor2⟩:=hor;obtain⟨lv,hlv⟩:∃lv,R.frames.length-R.way.length=lv:=⟨_,rfl⟩;rw[hlv];have hlv1:1<=lv:=by omega
     have hlv2:lv<R.frames.length:=by omega
     rw[show R.frames.length-1-(R.way.length-1)=lv by omega]at hsx;have hsx':ownB R.frames lv st=true:=by unfold Sx at hsx;rw[if_neg (by omega)]at hsx;exact hsx
     obtain⟨F,hF⟩:∃F,R.frames[lv-1]?=some F:=⟨_,l'c (by omega)⟩;have hcw:=against_w (N:=N) st;have hL:=Hy.L;have hbl:(brokenP N (againstP N st)).length<=1000:=by simp[brokenP,againstP];omega
     obtain⟨R1,a,F',e1,e2,e3,e4,e5,e6,e7,e8,e9,e10,e11,e12,e13,e14,e15⟩:=ask_full Hy hbud hF (x.fi _ _ hF) (by omega) (x.cf _ _ hF) (broken_lt Hy.W hcw.2) hbl;have e9':R1.spent<=R.spent+(costN N:Nat):=e9;clear e9;obtain⟨x1,sx1⟩:=x.ask hF e2 e5 e6 e8 e10;have cc1:cc N R1 b:=cc_ask hcc hF e2 e7;have vp1:VP N FM R1.frames=VP N FM R.frames:=by rw[e2];exact VP_set hF e5
     have fl1:R1.frames.length=R.frames.length:=by rw[e2,List.length_set]
     have ow1:∀i st,ownB R1.frames i st=ownB R.frames i st:=by rw[e2];exact (own_set hF e5).1
     have w1:WyI N R1:=⟨by rw[e3,fl1];exact w.wl,by rw[e3,fl1];exact λw' s i h=>⟨(w.ws w' s i h).1,(sx1 _ _).2 (w.ws w' s i h).2⟩,by rw[e3];exact w.wc,by rw[e3];exact w.w0⟩;have vr1:VR N FM R1=VR N FM R:=by unfold VR;rw[vp1,e3]
     rw[e1];rcases e11 with rfl|rfl|rfl
     ·-- the way goes on
      simp only;obtain⟨s1,s2,s3⟩:=e14 rfl;have hF1:R1.frames[lv-1]?=some F':=by rw[e2];exact l'g (by omega)
      have hnx:nxt N (foundP N F'.s).1 (foundP N F'.s).2=st:=by
       have h1:=(broken_all (N:=N) (foundP N F'.s).1 (foundP N F'.s).2 hcw.2).1 s3;apply Classical.byContradiction;intro hne;exact h1 ((against_in hst (nxt_lt _ _ _)).2 hne)
      have hlen:lengthenP N R1 (lv-1)=some { R1 with way:=R1.way++[foundP N F'.s],spent:=R1.spent+1 }:=by
       unfold lengthenP;rw[hF1];simp only;rw[if_pos (by rw[e3];omega)]
      rw[hlen];simp only;have e13':=e13 (by omega);have w2:WyI N { R1 with way:=R1.way++[foundP N F'.s],spent:=R1.spent+1 }:=by
       refine⟨by simp only[l'p,l'n,l'o];rw[e3,fl1];omega,?_,?_,?_⟩
       ·intro w' s i h;simp only at h ⊢;rcases get_snoc h with h|⟨h,h'⟩
        ·exact w1.ws w' s i h
        ·rw[<-h']at s1 s2;simp only at s1 s2;refine⟨s1,?_⟩;rw[h,fl1,e3,show R.frames.length-1-R.way.length=lv-1 by omega];exact (sx1 _ _).2 s2
       ·intro w' s i s' i' h h';simp only at h h';rcases get_snoc h' with h'|⟨h1,h2⟩
        ·have:=(l'b.1 h').1;rw[l'e (by omega)]at h;exact w1.wc w' s i s' i' h h'
        ·rw[l'e (by omega)]at h;have hw':w'=R.way.length-1:=by rw[e3]at h1;omega
         rw[e3,hw',hlast]at h;simp only[l'a,l'd]at h;rw[<-h.1,<-hnx,<-h2]
       ·intro s i h;simp only at h;rw[l'e (by rw[e3];omega)]at h;exact w1.w0 s i h
      have x2:RI N FM { R1 with way:=R1.way++[foundP N F'.s],spent:=R1.spent+1 }:=⟨x1.fi,x1.ps,x1.fl,x1.o0,x1.cw,x1.nd,x1.dj,x1.ini,x1.stp,λi G hG=>by have:=x1.cf i G hG;simp only;omega,by have:=x1.sp;simp only;omega⟩;have vr2:VR N FM { R1 with way:=R1.way++[foundP N F'.s],spent:=R1.spent+1 } + 1<=VR N FM R:=by
       unfold VR;simp only[l'p,l'n,l'o];rw[vp1,e3];omega
      obtain⟨Rf,v,f1,f2⟩:=ih _ x2 w2 ⟨b,cc1,by simp only;omega⟩ (by simp only;omega) (λh=>by simp at h) (by omega);refine⟨Rf,v,f1,⟨f2.vv,f2.ri,by rw[f2.fl];exact fl1,?_,by have:=f2.vp;simp only at this;omega,λb' h=>?_,λh=>?_,f2.u,f2.s,λi s hi=>by rw[f2.up i s (by simp only;omega)];simp only;exact ow1 i s,λi s hi h=>by rw[<-ow1];exact f2.su i s hi h⟩⟩
      ·have h1:=f2.ty;have h2:=mul_step (K:=costN N) vr2;simp only at h1;omega
      ·have:=f2.c b' (cc_ask (by
        intro i G hG;exact h i G hG) hF e2 e7)
       simp only at this;rw[vp1]at this;exact this
      ·obtain⟨h1,h2,h3⟩:=f2.z h;simp only[l'p,l'n,l'o]at h3;rw[vp1,e3]at h3;exact⟨h1,h2,by omega⟩
     ·-- a clause
      simp only;obtain⟨c1,c2,c3⟩:=e15 rfl;have hF1:R1.frames[lv-1]?=some F':=by rw[e2];exact l'g (by omega)
      rw[hF1];simp only;rw[if_pos (by omega)];have hsc:=short_w (core:=F'.s.core) hcw;have hfalse:¬inS st (shortP N (againstP N st) F'.s.core):=by
       rintro⟨y,hy,ht⟩;exact (against_in hst hst).1 ⟨y,short_sub.1 y hy,ht⟩ rfl
      have hno:∀(k:Nat)(G:Fr),lv<=k->R1.frames[k]?=some G->shortP N (againstP N st) F'.s.core∉G.own:=by
       intro k G hk hG hm;obtain⟨G0,q1,q2,-⟩:=(own_set hF e5).2.2 k G (by rw[<-e2];exact hG);exact hfalse (ownB_iff.1 hsx' k G0 hk q1 _ (by rw[<-q2];exact hm))
      have hfB:inB st (shortP N (againstP N st) F'.s.core)=false:=by
       cases h:inB st (shortP N (againstP N st) F'.s.core) with
       | false=>rfl
       | true=>exact absurd (inB_iff.1 h) hfalse
      obtain⟨R2,g1,g2,g3,g4,g5,g6⟩:=learn_run Hy.L x1 cc1 (by omega) (by rw[vp1];omega) hlv1 (by omega) hsc hno (λs hs hb=>by
        obtain⟨y,hy,hyb⟩:=not_begins hor2;obtain⟨z,hz,hzb⟩:=short_begin (core:=F'.s.core) hy hyb;exact⟨z,hz,begins_lit Hy.W (hsc.2 z hz) hb hzb⟩) (λs i hs hS=>by
        apply Classical.byContradiction;intro hno;refine c3 s i hs ((sx1 _ _).1 hS) λl hl=>?_;obtain⟨y,hy,hyl⟩:=short_core hl (c2 l hl);rw[hyl,broken_tr s i (hsc.2 y hy)]
        cases ht:tr (nxt N s i).testBit y with
        | false=>rfl
        | true=>exact absurd ⟨y,hy,ht⟩ hno)
      rw[g1];simp only;have e13':=e13 (by omega);have vp2:VP N FM R2.frames+2<=VP N FM R1.frames:=VP_bar g5 hlv1 (by omega) x1.fl hst (by rw[ow1];exact hsx') hfB;have fl2:R2.frames.length=R1.frames.length:=g5.len;have hway:R2.way=R.way:=by rw[g2,e3]
      have ccs:∀b',cc N R1 b'->cc N R2 (b'+1):=by
       intro b' h i G hG;have hi:=(l'b.1 hG).1;obtain⟨G0,hG0⟩:∃G0,R1.frames[i]?=some G0:=⟨_,l'c (by omega)⟩;obtain⟨G',q1,-,-,q4⟩:=g5.ow i G0 hG0;rw[hG]at q1;simp only[l'a]at q1;subst q1;have:=h i G0 hG0;omega
      have x3:RI N FM { R2 with way:=R2.way.dropLast }:=⟨g6.fi,g6.ps,g6.fl,g6.o0,g6.cw,g6.nd,g6.dj,g6.ini,g6.stp,g6.cf,g6.sp⟩;have dl:∀(w':Nat)(p:Nat×Nat),R2.way.dropLast[w']?=some p->w'+1<R.way.length∧R.way[w']?=some p:=by
       intro w' p h;have hl:=(l'b.1 h).1;rw[hway]at h hl;simp at hl;rw[List.getElem?_dropLast,if_pos (by omega)]at h;exact⟨by omega,h⟩
      have w3:WyI N { R2 with way:=R2.way.dropLast }:=by
       refine⟨by simp only[List.length_dropLast];rw[hway,fl2,fl1];omega,?_,?_,?_⟩
       ·intro w' s i h;simp only at h ⊢;obtain⟨h1,h2⟩:=dl w' _ h;obtain⟨h3,h4⟩:=w.ws w' s i h2;refine⟨h3,?_⟩;rw[fl2,fl1];unfold Sx at h4 ⊢;rw[if_neg (by omega)]at h4 ⊢;rw[g5.hi _ _ (by omega),ow1];exact h4
       ·intro w' s i s' i' h h';exact w.wc w' s i s' i' (dl _ _ h).2 (dl _ _ h').2
       ·intro s i h;exact w.w0 s i (dl _ _ h).2
      have vr3:VR N FM { R2 with way:=R2.way.dropLast } + 1<=VR N FM R:=by
       unfold VR;simp only[List.length_dropLast];rw[hway];omega
      obtain⟨Rf,v,f1,f2⟩:=ih _ x3 w3 ⟨b+1,ccs b cc1,by simp only;omega⟩ (by simp only;omega) (λ_=>by simp only;omega) (by omega);refine⟨Rf,v,f1,⟨f2.vv,f2.ri,by rw[f2.fl];simp only;omega,?_,by have:=f2.vp;simp only at this;omega,λb' h=>?_,λh=>?_,f2.u,f2.s,λi s hi=>by rw[f2.up i s (by simp only;omega)];simp only;rw[g5.hi i s (by omega)];exact ow1 i s,λi s hi h=>by rw[<-ow1];exact g5.le hi s (f2.su i s hi h)⟩⟩
      ·have h1:=f2.ty;have h2:=mul_step (K:=costN N) vr3;simp only at h1;omega
      ·have h1:=f2.c (b'+1) (ccs b' (cc_ask h hF e2 e7));have h2:=f2.vp;simp only at h1 h2;exact cc_mono h1 (by omega)
      ·obtain⟨h1,h2,h3⟩:=f2.z h;simp only[List.length_dropLast]at h3;rw[hway]at h3;exact⟨h1,h2,by omega⟩
     ·-- spent
      simp only;exact⟨R1,3,rfl,⟨.inr (.inr rfl),x1,fl1,by rw[vr1,if_pos rfl];omega,by omega,λb' h=>by
       rw[vp1];simp only[Nat.sub_self,Nat.add_zero];exact cc_ask h hF e2 e7,by simp,by simp,λ_=>e12 rfl,λi s _=>ow1 i s,λi s _ h=>by rw[<-ow1];exact h⟩⟩
end Go.Ta
namespace Go.Ta
variable {N:Ck}
structure ClO (N:Ck) (FM:Nat) (bud:Int)(R Rf:Rn) (v:Nat):Prop where
 vv:v=0∨v=2∨v=3
 ri:RI N FM Rf
 fl:Rf.frames.length=R.frames.length
 ty:Rf.spent+((VR N FM Rf*(costN N+1):Nat):Int)<=R.spent+((VR N FM R*(costN N+1):Nat):Int)+(costN N:Int)
 vp:VP N FM Rf.frames<=VP N FM R.frames
 c:∀b,cc N R b->cc N Rf (b+(VP N FM R.frames-VP N FM Rf.frames))
 z:v=0->Rf.way=[]∧Rf.spent<=bud∧∀st inp,st<2^N.las.length->Sx N Rf.frames (R.frames.length-1) st->badS N st inp=false
 u:v=2->WyI N Rf∧∃st inp,Rf.way.getLast?=some (st,inp)∧beginsP N st=true
 s:v=3->bud<Rf.spent
 su:∀i st,1<=i->ownB Rf.frames i st=true->ownB R.frames i st=true
theorem clear_full {f n FM:Nat}(Hy:Hyp N f n)(hFM:FM<=1000){bud:Int}(hbud:bud<=1152921504606846976): ∀(m:Nat)(R:Rn),RI N FM R->R.way=[]->(∃b,cc N R b∧b+VP N FM R.frames<=850000)->R.spent<=bud->VP N FM R.frames<m->VP N FM R.frames+FM<n->∃Rf v,clearRP f n N bud m R=some (Rf,v)∧ClO N FM bud R Rf v:=by
 have hmm:most=1000000:=rfl;intro m
 induction m with
 | zero=>intro R _ _ _ _ h;omega
 | succ m ih=>
  intro R x hw hcb hsp hm hn;obtain⟨b,hcc,hbv⟩:=hcb;have hps:=x.ps;have hfl:=x.fl;unfold clearRP;obtain⟨F,hF⟩:∃F,R.frames[R.frames.length-1]?=some F:=⟨_,l'c (by omega)⟩;have hbd:=Hy.W.bd;obtain⟨R1,a,F',e1,e2,e3,e4,e5,e6,e7,e8,e9,e10,e11,e12,e13,e14,e15⟩:=ask_full Hy hbud hF (x.fi _ _ hF) hsp (x.cf _ _ hF) (as:=[N.bad]) (by simp;omega) (by simp);have e9':R1.spent<=R.spent+(costN N:Nat):=e9;clear e9;obtain⟨x1,sx1⟩:=x.ask hF e2 e5 e6 e8 e10;have cc1:cc N R1 b:=cc_ask hcc hF e2 e7;have vp1:VP N FM R1.frames=VP N FM R.frames:=by rw[e2];exact VP_set hF e5
  have fl1:R1.frames.length=R.frames.length:=by rw[e2,List.length_set]
  have vr1:VR N FM R1=VR N FM R:=by unfold VR;rw[vp1,e3]
  have ow1:∀i st,ownB R1.frames i st=ownB R.frames i st:=by rw[e2];exact (own_set hF e5).1
  rw[e1];rcases e11 with rfl|rfl|rfl
  ·simp only;obtain⟨s1,s2,s3⟩:=e14 rfl;have hF1:R1.frames[R.frames.length-1]?=some F':=by rw[e2];exact l'g (by omega)
   have e13':=e13 (by omega);have hlen:lengthenP N R1 (R1.frames.length-1)=some { R1 with way:=R1.way++[foundP N F'.s],spent:=R1.spent+1 }:=by
    unfold lengthenP;rw[fl1,hF1];simp only;rw[if_pos (by rw[e3,hw];simp;omega)]
   rw[hlen];simp only;have hway:R1.way++[foundP N F'.s]=[foundP N F'.s]:=by rw[e3,hw];rfl
   rw[hway];have w2:WyI N { R1 with way:=[foundP N F'.s],spent:=R1.spent+1 }:=by
    refine⟨by simp only[l'n,l'o];omega,?_,?_,?_⟩
    ·intro w' s i h;simp only at h ⊢
     cases w' with
     | zero=>
      simp only[l'w,l'a]at h;rw[h]at s1 s2;refine⟨s1,?_⟩;rw[fl1];exact (sx1 _ _).2 s2
     | succ w'=>simp at h
    ·intro w' s i s' i' h h';simp at h'
    ·intro s i h;simp only[l'w,l'a]at h;rw[h]at s3;exact s3 N.bad (by simp)
   have x2:RI N FM { R1 with way:=[foundP N F'.s],spent:=R1.spent+1 }:=⟨x1.fi,x1.ps,x1.fl,x1.o0,x1.cw,x1.nd,x1.dj,x1.ini,x1.stp,λi G hG=>by have:=x1.cf i G hG;simp only;omega,by have:=x1.sp;simp only;omega⟩;have vr2:VR N FM { R1 with way:=[foundP N F'.s],spent:=R1.spent+1 } + 1<=VR N FM R:=by
    unfold VR;simp only[l'n,l'o];rw[vp1,hw];simp;omega
   obtain⟨R3,v3,f1,f2⟩:=bar_full Hy hFM hbud n _ x2 w2 ⟨b,cc1,by simp only;omega⟩ (by simp only;omega) (λh=>by simp at h) (by unfold VR;simp only;rw[vp1];omega);rw[f1];have hty:=f2.ty;have hms:=mul_step (K:=costN N) vr2;have hfl3:=f2.fl;have hvp3:=f2.vp;simp only at hty hfl3 hvp3;have hc3:∀b',cc N R b'->cc N R3 (b'+(VP N FM R.frames-VP N FM R3.frames)):=λb' h=>by
    have:=f2.c b' (cc_ask h hF e2 e7);simp only at this;rw[vp1]at this;exact this
   have su3:∀i st,1<=i->ownB R3.frames i st=true->ownB R.frames i st=true:=λi st h1 h=>by rw[<-ow1];exact f2.su i st h1 h
   rcases f2.vv with rfl|rfl|rfl
   ·simp only;obtain⟨z1,z2,z3⟩:=f2.z rfl;simp only[l'n,l'o]at z3;obtain⟨Rf,v,g1,g2⟩:=ih R3 f2.ri z1 ⟨_,hc3 b hcc,by omega⟩ z2 (by omega) (by omega);refine⟨Rf,v,g1,⟨g2.vv,g2.ri,by rw[g2.fl];omega,?_,by have:=g2.vp;omega,λb' h=>?_,λh=>?_,g2.u,g2.s,λi st h1 h=>su3 i st h1 (g2.su i st h1 h)⟩⟩
    ·have h1:=g2.ty;simp only[show (0:Nat)=3↔False by simp,if_false]at hty;omega
    ·have h1:=g2.c _ (hc3 b' h);have h2:=g2.vp;exact cc_mono h1 (by omega)
    ·obtain⟨q1,q2,q3⟩:=g2.z h;refine⟨q1,q2,?_⟩;rw[hfl3,fl1]at q3;exact q3
   ·simp only;refine⟨R3,2,rfl,⟨.inr (.inl rfl),f2.ri,by omega,?_,by omega,hc3,by simp,f2.u,by simp,su3⟩⟩;simp only[show (2:Nat)=3↔False by simp,if_false]at hty;omega
   ·simp only;refine⟨R3,3,rfl,⟨.inr (.inr rfl),f2.ri,by omega,?_,by omega,hc3,by simp,by simp,f2.s,su3⟩⟩;rw[if_pos rfl]at hty;omega
  ·simp only;obtain⟨c1,c2,c3⟩:=e15 rfl;have e13':=e13 (by omega);refine⟨R1,0,rfl,⟨.inl rfl,x1,fl1,by rw[vr1];omega,by omega,λb' h=>by rw[vp1];simp only[Nat.sub_self,Nat.add_zero];exact cc_ask h hF e2 e7,λ_=>⟨by rw[e3];exact hw,e13',?_⟩,by simp,by simp,λi st _ h=>by rw[<-ow1];exact h⟩⟩;intro st inp hst hS
   cases hb:badS N st inp with
   | false=>rfl
   | true=>
    exfalso;refine c3 st inp hst ((sx1 _ _).1 hS) λl hl=>?_;have:=c2 l hl;simp only[l'm]at this;rw[this];exact hb
  ·simp only;exact⟨R1,3,rfl,⟨.inr (.inr rfl),x1,fl1,by rw[vr1];omega,by omega,λb' h=>by rw[vp1];simp only[Nat.sub_self,Nat.add_zero];exact cc_ask h hF e2 e7,by simp,by simp,λ_=>e12 rfl,λi st _ h=>by rw[<-ow1];exact h⟩⟩
structure CaO (N:Ck) (FM:Nat) (bud:Int) (k:Nat)(R Rf:Rn) (v:Nat):Prop where
 vv:v=1∨v=2∨v=3
 ri:RI N FM Rf
 fl:Rf.frames.length=R.frames.length
 wy:Rf.way=R.way
 ty:Rf.spent+((VP N FM Rf.frames*(costN N+1):Nat):Int)<=R.spent+((VP N FM R.frames*(costN N+1):Nat):Int)+(costN N:Int)
 vp:VP N FM Rf.frames<=VP N FM R.frames
 c:∀b,cc N R b->cc N Rf (b+(VP N FM R.frames-VP N FM Rf.frames))
 lo:∀i st,1<=i->i<=k->ownB Rf.frames i st=ownB R.frames i st
 su:∀i st,1<=i->ownB Rf.frames i st=true->ownB R.frames i st=true
 z:v≠3->Rf.spent<=bud
 e:v=2->∀F:Fr,Rf.frames[k]?=some F->F.own=[]
 t:v=1->∃st,st<2^N.las.length∧ownB Rf.frames (k+1) st=true∧ownB Rf.frames k st=false
 s:v=3->bud<Rf.spent
theorem carry_full {f n FM:Nat}(Hy:Hyp N f n)(hFM:FM<=1000){bud:Int}(hbud:bud<=1152921504606846976){k:Nat}(hk1:1<=k): ∀(m:Nat)(R:Rn),RI N FM R->k+1<R.frames.length->(∃b,cc N R b∧b+VP N FM R.frames<=850000)->R.spent<=bud->VP N FM R.frames<m->∃Rf v,carryP f n N bud k m R=some (Rf,v)∧CaO N FM bud k R Rf v:=by
 have hmm:most=1000000:=rfl;intro m
 induction m with
 | zero=>intro R _ _ _ _ h;omega
 | succ m ih=>
  intro R x hk2 hcb hsp hm;obtain⟨b,hcc,hbv⟩:=hcb;have hfl:=x.fl;unfold carryP;obtain⟨F,hF⟩:∃F,R.frames[k]?=some F:=⟨_,l'c (by omega)⟩;rw[hF];simp only
  cases hown:F.own with
  | nil=>
   simp only;refine⟨R,2,rfl,⟨.inr (.inl rfl),x,rfl,rfl,by omega,l'H _,λb h=>by simpa using h,λ_ _ _ _=>rfl,λ_ _ _ h=>h,λ_=>hsp,λ_ G hG=>?_,by simp,by simp⟩⟩;rw[hF]at hG;simp only[l'a]at hG;rw[<-hG];exact hown
  | cons cl rest=>
   simp only;have hclm:cl∈F.own:=by rw[hown];simp
   have hcw:=x.cw k F hF cl hclm;have hL:=Hy.L;have hbl:(brokenP N cl).length<=1000:=by have:=hcw.1;simp[brokenP];omega
   obtain⟨R1,a,F',e1,e2,e3,e4,e5,e6,e7,e8,e9,e10,e11,e12,e13,e14,e15⟩:=ask_full Hy hbud hF (x.fi _ _ hF) hsp (x.cf _ _ hF) (broken_lt Hy.W hcw.2) hbl;have e9':R1.spent<=R.spent+(costN N:Nat):=e9;clear e9;obtain⟨x1,sx1⟩:=x.ask hF e2 e5 e6 e8 e10;have cc1:cc N R1 b:=cc_ask hcc hF e2 e7;have vp1:VP N FM R1.frames=VP N FM R.frames:=by rw[e2];exact VP_set hF e5
   have fl1:R1.frames.length=R.frames.length:=by rw[e2,List.length_set]
   have ow1:∀i st,ownB R1.frames i st=ownB R.frames i st:=by rw[e2];exact (own_set hF e5).1
   have hF1:R1.frames[k]?=some F':=by rw[e2];exact l'g (by omega)
   have hclm1:cl∈F'.own:=by rw[e5];exact hclm
   have hS0:Sx N R.frames k=λst=>ownB R.frames k st=true:=by funext st;unfold Sx;rw[if_neg (by omega)]
   rw[e1];rcases e11 with rfl|rfl|rfl
   ·simp only;obtain⟨s1,s2,s3⟩:=e14 rfl;have e13':=e13 (by omega);refine⟨R1,1,rfl,⟨.inl rfl,x1,fl1,e3,by rw[vp1];omega,by omega,λb' h=>by rw[vp1];simp only[Nat.sub_self,Nat.add_zero];exact cc_ask h hF e2 e7,λi st _ _=>ow1 i st,λi st _ h=>by rw[<-ow1];exact h,λ_=>e13',by simp,λ_=>⟨nxt N (foundP N F'.s).1 (foundP N F'.s).2,nxt_lt _ _ _,?_,?_⟩,by simp⟩⟩
    ·rw[ow1];exact x.stp k _ _ s1 s2
    ·have hno:=(broken_all (N:=N) (foundP N F'.s).1 (foundP N F'.s).2 hcw.2).1 s3
     cases h:ownB R1.frames k (nxt N (foundP N F'.s).1 (foundP N F'.s).2) with
     | false=>rfl
     | true=>exact absurd (ownB_iff.1 h k F' (l'H _) hF1 cl hclm1) hno
   ·simp only;obtain⟨c1,c2,c3⟩:=e15 rfl;have e13':=e13 (by omega);obtain⟨R2,g1,g2,g3,g4,g5,g6⟩:=learn_run Hy.L x1 cc1 (by omega) (by rw[vp1];omega) (lv:=k+1) (by omega) (by omega) hcw (λj G hj hG hm=>by
      have:=x1.dj k j F' G hF1 hG cl hclm1 hm;omega) (λs hs hb=>ownB_iff.1 (x1.ini s hs hb) k F' hk1 hF1 cl hclm1) (λs i hs hS=>by
      apply Classical.byContradiction;intro hno;refine c3 s i hs ((sx1 _ _).1 hS) λl hl=>?_;exact (broken_all (N:=N) s i hcw.2).2 hno l (c2 l hl))
    rw[g1];simp only;have vp2:VP N FM R2.frames+1<=VP N FM R1.frames:=VP_carry g5 (by omega) x1.fl hF1 hclm1;have fl2:R2.frames.length=R1.frames.length:=g5.len;have ccs:∀b',cc N R1 b'->cc N R2 (b'+1):=by
     intro b' h i G hG;have hi:=(l'b.1 hG).1;obtain⟨G0,hG0⟩:∃G0,R1.frames[i]?=some G0:=⟨_,l'c (by omega)⟩;obtain⟨G',q1,-,-,q4⟩:=g5.ow i G0 hG0;rw[hG]at q1;simp only[l'a]at q1;subst q1;have:=h i G0 hG0;omega
    have lo2:∀i st,1<=i->i<=k->ownB R2.frames i st=ownB R.frames i st:=by
     intro i st h1 h2;rw[g5.lo i st h1 (by omega),ow1]
     cases h:ownB R.frames i st with
     | false=>rfl
     | true=>
      rw[Bool.true_and];exact inB_iff.2 (ownB_iff.1 h k F h2 hF cl hclm)
    have su2:∀i st,1<=i->ownB R2.frames i st=true->ownB R.frames i st=true:=λi st h1 h=>by rw[<-ow1];exact g5.le h1 st h
    obtain⟨Rf,v,f1,f2⟩:=ih R2 g6 (by omega) ⟨b+1,ccs b cc1,by omega⟩ (by omega) (by omega);refine⟨Rf,v,f1,⟨f2.vv,f2.ri,by rw[f2.fl];omega,by rw[f2.wy,g2,e3],?_,by have:=f2.vp;omega,λb' h=>?_,λi st h1 h2=>by rw[f2.lo i st h1 h2];exact lo2 i st h1 h2,λi st h1 h=>su2 i st h1 (f2.su i st h1 h),f2.z,f2.e,f2.t,f2.s⟩⟩
    ·have h1:=f2.ty;have h2:=mul_step (K:=costN N) (show VP N FM R2.frames+1<=VP N FM R.frames by omega);omega
    ·have h1:=f2.c (b'+1) (ccs b' (cc_ask h hF e2 e7));have h2:=f2.vp;exact cc_mono h1 (by omega)
   ·simp only;exact⟨R1,3,rfl,⟨.inr (.inr rfl),x1,fl1,e3,by rw[vp1];omega,by omega,λb' h=>by rw[vp1];simp only[Nat.sub_self,Nat.add_zero];exact cc_ask h hF e2 e7,λi st _ _=>ow1 i st,λi st _ h=>by rw[<-ow1];exact h,by simp,by simp,by simp,λ_=>e12 rfl⟩⟩
end Go.Ta
namespace Go.Ta
variable {N:Ck}
def NB (N:Ck)(R:Rn): Prop:=∀i st inp,i+1<R.frames.length->st<2^N.las.length->Sx N R.frames i st->badS N st inp=false
def SafeN (N:Ck): Prop:=∃S:Nat->Prop,(∀st,st<2^N.las.length->beginsP N st=true->S st)∧(∀st inp,st<2^N.las.length->S st->S (nxt N st inp))∧∀st inp,st<2^N.las.length->S st->badS N st inp=false
theorem ext_own {fs:List Fr}{F:Fr}(ho:F.own=[]): (∀i st,ownB (fs++[F]) i st=ownB fs i st)∧∀i,olen (fs++[F]) i=olen fs i:=by
 refine⟨λi st=>?_,λi=>?_⟩
 ·rw[Bool.eq_iff_iff,ownB_iff,ownB_iff];constructor
  ·intro h k G hk hG c hc;exact h k G hk (by rw[l'e (l'b.1 hG).1];exact hG) c hc
  ·intro h k G hk hG c hc;rcases get_snoc hG with h1|⟨-,rfl⟩
   ·exact h k G hk h1 c hc
   ·rw[ho]at hc;simp at hc
 ·unfold olen
  by_cases h:i<fs.length
  ·rw[l'e h]
  ·have h1:fs[i]?=none:=by simpa using h
   rw[h1]
   by_cases e:i=fs.length
   ·subst e;simp[ho]
   ·have:(fs++[F])[i]?=none:=by simp;omega
    rw[this]
theorem card_all {fs:List Fr}{i:Nat}(h:fs.length<=i): card N fs i=2^N.las.length:=by
 unfold card;have:(List.range (2^N.las.length)).countP (λst=>ownB fs i st)=(List.range (2^N.las.length)).length:=by
  rw[List.countP_eq_length];intro st _;unfold ownB;rw[List.drop_eq_nil_of_le h];rfl
 rw[this,List.length_range]
theorem VP_ext {FM:Nat}{fs:List Fr}{F:Fr}(ho:F.own=[])(h0:0<fs.length)(h:fs.length<FM): VP N FM (fs++[F])=VP N FM fs:=by
 obtain⟨h1,h2⟩:=ext_own (fs:=fs) ho;have hc:∀i,card N (fs++[F]) i=card N fs i:=λi=>by
  unfold card;exact List.countP_congr λst _=>by rw[h1]
 have hp:psi N (fs++[F])=psi N fs+2^N.las.length:=by
  unfold psi;rw[l'p];simp only[l'n,l'o,l'F,wsum,Nat.mul_one];rw[wsum_congr (g:=λi=>if i=0 then 0 else card N fs i) fs.length (λi _=>by rw[hc]),if_neg (by omega),hc,card_all (l'H _)]
 have hw:wsum (olen (fs++[F])) (λi=>FM-i) (fs++[F]).length=wsum (olen fs) (λi=>FM-i) fs.length:=by
  rw[l'p];simp only[l'n,l'o,l'F,wsum];rw[wsum_congr fs.length (λi _=>h2 i),h2];have:olen fs fs.length=0:=by simp[olen]
  rw[this];simp
 unfold VP;rw[hp,hw,l'p];simp only[l'n,l'o,l'F];have h3:FM-fs.length=(FM-(fs.length+1))+1:=by omega
 have h4:(FM-fs.length)*2^N.las.length=(FM-(fs.length+1))*2^N.las.length+2^N.las.length:=by rw[h3,Nat.add_mul,Nat.one_mul]
 have h5:psi N fs+2^N.las.length+(FM-(fs.length+1))*2^N.las.length=psi N fs+(FM-fs.length)*2^N.las.length:=by omega
 rw[h5]
theorem RI.ext {FM:Nat}{R:Rn}(x:RI N FM R){F:Fr}(ho:F.own=[])(hc:F.s.conflicts=0)(hS:FrS N F (λ_=>True))(h:R.frames.length<FM): RI N FM { R with frames:=R.frames++[F] }:=by
 obtain⟨h1,-⟩:=ext_own (fs:=R.frames) ho;have sx:∀i st,Sx N (R.frames++[F]) i st↔Sx N R.frames i st:=λi st=>by unfold Sx;rw[h1]
 have hps:=x.ps;refine⟨?_,by simp,by simp;omega,?_,?_,?_,?_,?_,?_,?_,x.sp⟩
 ·intro i G hG;rcases get_snoc hG with h2|⟨rfl,rfl⟩
  ·exact (x.fi i G h2).iff λst=>(sx i st).symm
  ·refine hS.iff λst=>?_;simp only[sx];unfold Sx;rw[if_neg (by omega)];simp only[true_iff];unfold ownB;rw[List.drop_length];rfl
 ·intro G hG;simp only at hG;rw[l'e hps]at hG;exact x.o0 G hG
 ·intro i G hG c hcm;rcases get_snoc hG with h2|⟨rfl,rfl⟩
  ·exact x.cw i G h2 c hcm
  ·rw[ho]at hcm;simp at hcm
 ·intro i G hG;rcases get_snoc hG with h2|⟨rfl,rfl⟩
  ·exact x.nd i G h2
  ·rw[ho];simp
 ·intro i j A B hA hB c a b;rcases get_snoc hA with hA|⟨rfl,rfl⟩
  ·rcases get_snoc hB with hB|⟨rfl,rfl⟩
   ·exact x.dj i j A B hA hB c a b
   ·rw[ho]at b;simp at b
  ·rw[ho]at a;simp at a
 ·intro st hs hb;simp only;rw[h1];exact x.ini st hs hb
 ·intro i st inp hs hS2;simp only at hS2 ⊢;rw[h1];exact x.stp i st inp hs ((sx i st).1 hS2)
 ·intro i G hG;rcases get_snoc hG with h2|⟨rfl,rfl⟩
  ·exact x.cf i G h2
  ·rw[hc];simpa using x.sp
def Chn (N:Ck)(fs:List Fr)(k:Nat): Prop:=∀j,1<=j->j<k->∃st,st<2^N.las.length∧ownB fs (j+1) st=true∧ownB fs j st=false
theorem Chn.card {fs:List Fr}: ∀k,1<=k->Chn N fs k->card N fs 1+(k-1)<=card N fs k:=by
 intro k
 induction k with
 | zero=>intro h;omega
 | succ k ih=>
  intro h c
  by_cases e:k=0
  ·subst e;simp
  ·have h1:=ih (by omega) (λj a b=>c j a (by omega));obtain⟨st,s1,s2,s3⟩:=c k (by omega) (by omega);have h2:Go.Ta.card N fs k+1<=Go.Ta.card N fs (k+1):=countP_lt _ (λs _ h=>ownB_mono (by omega) h) ⟨st,by simpa using s1,s2,s3⟩;omega
theorem init_ex (W:CkW N): ∃st,st<2^N.las.length∧beginsP N st=true:=by
 refine⟨numL (λj=>(N.las.getD j (0,0)).2==1) N.las.length,numL_lt _ _,?_⟩;rw[begins_iff];intro j x r hj;have hjl:=(l'b.1 hj).1;have hr:=(W.la j x r hj).2;rw[div_bit,numL_bit _ _ _ hjl,getD_las hj];simp only;rcases (show r=0∨r=1∨r=2 by omega) with rfl|rfl|rfl <;> simp
structure AdO (N:Ck) (FM:Nat) (bud:Int) (FL:Nat) (sp V:Int)(Rf:Rn) (v:Nat):Prop where
 vv:v=0∨v=1∨v=3
 ri:RI N FM Rf
 fl:Rf.frames.length=FL
 ty:Rf.spent+((VP N FM Rf.frames*(costN N+1):Nat):Int)<=sp+V
 z:v=0->Rf.way=[]∧Rf.spent<=bud∧NB N Rf∧FL<=2^N.las.length+1
 e:v=1->SafeN N
 s:v=3->bud<Rf.spent
theorem advL_full {f n FM:Nat}(Hy:Hyp N f n)(hFM:FM<=1000){bud:Int}(hbud:bud<=1152921504606846976){FL:Nat}{V:Int}: ∀(m k:Nat)(R:Rn),1<=k->k+m+1=FL->R.frames.length=FL->RI N FM R->R.way=[]->NB N R->Chn N R.frames k->(∃b,cc N R b∧600<=b∧b+VP N FM R.frames<=850000)->R.spent<=bud->VP N FM R.frames<n->R.spent+((VP N FM R.frames*(costN N+1):Nat):Int)+((m*costN N:Nat):Int)<=V ->
  ∃Rf v,advL f n N bud m k R=some (Rf,v)∧AdO N FM bud FL 0 V Rf v∧∃b,cc N Rf b∧600<=b∧b+VP N FM Rf.frames<=850000:=by
 intro m
 induction m with
 | zero=>
  intro k R hk hkm hfl x hw nb ch hcb hsp hn hV;refine⟨R,0,rfl,⟨.inl rfl,x,hfl,by simp at hV ⊢;omega,λ_=>⟨hw,hsp,nb,?_⟩,by simp,by simp⟩,hcb⟩;obtain⟨s0,h1,h2⟩:=init_ex Hy.W;have h3:=ch.card k hk;have h4:1<=card N R.frames 1:=by
   unfold card;exact List.countP_pos_iff.2 ⟨s0,by simpa using h1,x.ini s0 h1 h2⟩
  have h5:card N R.frames k<=2^N.las.length:=by
   have:=List.countP_le_length (p:=λst=>ownB R.frames k st) (l:=List.range (2^N.las.length));rw[List.length_range]at this;exact this
  omega
 | succ m ih=>
  intro k R hk hkm hfl x hw nb ch hcb hsp hn hV;unfold advL;obtain⟨b,hcc,hb6,hbv⟩:=hcb;obtain⟨R1,a,e1,e2⟩:=carry_full Hy hFM hbud hk n R x (by omega) ⟨b,hcc,hbv⟩ hsp hn;have hcb1:∃b,cc N R1 b∧600<=b∧b+VP N FM R1.frames<=850000:=⟨_,e2.c b hcc,by omega,by have:=e2.vp;omega⟩;have hty:=e2.ty;have hmul:((m+1)*costN N:Nat)=m*costN N+costN N:=by rw[Nat.add_mul,Nat.one_mul]
  have hfl1:R1.frames.length=FL:=by rw[e2.fl];exact hfl
  have sxsu:∀i st,st<2^N.las.length->Sx N R1.frames i st->Sx N R.frames i st:=λi st _ h=>by
   unfold Sx at h ⊢
   by_cases e0:i=0
   ·rw[if_pos e0]at h ⊢;exact h
   ·rw[if_neg e0]at h ⊢;exact e2.su i st (by omega) h
  have nb1:NB N R1:=λi st inp hi hst hS=>nb i st inp (by omega) hst (sxsu i st hst hS);rw[e1];rcases e2.vv with rfl|rfl|rfl
  ·simp only;obtain⟨Rf,v,f1,f2,f3⟩:=ih (k+1) R1 (by omega) (by omega) hfl1 e2.ri (by rw[e2.wy];exact hw) nb1 (λj h1 h2=>by
     by_cases ej:j=k
     ·subst ej;exact e2.t rfl
     ·obtain⟨st,s1,s2,s3⟩:=ch j h1 (by omega);exact⟨st,s1,by rw[e2.lo (j+1) st (by omega) (by omega)];exact s2,by rw[e2.lo j st h1 (by omega)];exact s3⟩) hcb1 (e2.z (by omega)) (by have:=e2.vp;omega) (by omega)
   exact⟨Rf,v,f1,f2,f3⟩
  ·simp only;refine⟨_,1,rfl,⟨.inr (.inl rfl),⟨e2.ri.fi,e2.ri.ps,e2.ri.fl,e2.ri.o0,e2.ri.cw,e2.ri.nd,e2.ri.dj,e2.ri.ini,e2.ri.stp,e2.ri.cf,e2.ri.sp⟩,hfl1,by simp only;omega,by simp,λ_=>?_,by simp⟩,hcb1⟩;have heq:∀st,ownB R1.frames (k+1) st=true->ownB R1.frames k st=true:=by
    intro st h;rw[ownB_iff]at h ⊢;intro j G hj hG c hc
    by_cases ej:j=k
    ·subst ej;rw[e2.e rfl G hG]at hc;simp at hc
    ·exact h j G (by omega) hG c hc
   refine⟨λst=>ownB R1.frames k st=true,λst hs hb=>ownB_mono hk (e2.ri.ini st hs hb),λst inp hs hS=>?_,λst inp hs hS=>nb1 k st inp (by omega) hs (by unfold Sx;rw[if_neg (by omega)];exact hS)⟩;exact heq _ (e2.ri.stp k st inp hs (by unfold Sx;rw[if_neg (by omega)];exact hS))
  ·simp only;exact⟨R1,3,rfl,⟨.inr (.inr rfl),e2.ri,hfl1,by omega,by simp,by simp,e2.s⟩,hcb1⟩
structure DeO (N:Ck) (bud:Int) (B:Int)(Rf:Rn) (v:Nat):Prop where
 vv:v=1∨v=2∨v=3
 e:v=1->SafeN N
 u:v=2->WyI N Rf∧Rf.frames.length<=1000∧∃st inp,Rf.way.getLast?=some (st,inp)∧beginsP N st=true
 s:v=3->bud<Rf.spent∧Rf.spent<=B
theorem decide_full {f n FM:Nat}(Hy:Hyp N f n)(hFM:FM=2^N.las.length+2){bud B:Int}(hbud:bud<=1152921504606846976)(hnn:850000+FM<n): ∀(m:Nat)(R:Rn),RI N FM R->R.way=[]->NB N R->R.frames.length<=2^N.las.length+1->(∃b,cc N R b∧600<=b∧b+VP N FM R.frames<=850000)->R.spent<=bud->FM<m+R.frames.length->R.spent+(((VP N FM R.frames+FM)*(costN N+1):Nat):Int)+((m*((FM+2)*costN N):Nat):Int)<=B ->
  ∃Rf v,decideP f n N bud m R=some (Rf,v)∧DeO N bud B Rf v:=by
 have hmm:most=1000000:=rfl;have hFM2:FM<=1000:=by
  have h1:2^N.las.length<=2^6:=Nat.pow_le_pow_right (by omega) Hy.L;omega
 intro m
 induction m with
 | zero=>intro R x _ _ h1 _ _ h;have:=x.fl;omega
 | succ m ih=>
  intro R x hw nb hfl hcb hsp hm hB;obtain⟨b,hcc,hb6,hbv⟩:=hcb;have hxfl:=x.fl;have hps:=x.ps;unfold decideP;obtain⟨R1,v1,e1,e2⟩:=clear_full Hy hFM2 hbud n R x hw ⟨b,hcc,hbv⟩ hsp (by omega) (by omega);have hty:=e2.ty;have hmul:((m+1)*((FM+2)*costN N):Nat)=m*((FM+2)*costN N)+(FM+2)*costN N:=by rw[Nat.add_mul,Nat.one_mul]
  have hmul2:(FM+2)*costN N=FM*costN N+costN N+costN N:=by rw[Nat.add_mul];omega
  have hVR:VR N FM R=VP N FM R.frames+FM:=by unfold VR;rw[hw];simp
  rw[hVR]at hty;rw[e1];rcases e2.vv with rfl|rfl|rfl
  ·simp only;obtain⟨z1,z2,z3⟩:=e2.z rfl;have hVR1:VR N FM R1=VP N FM R1.frames+FM:=by unfold VR;rw[z1];simp
   rw[hVR1]at hty;obtain⟨F,f1,f2,f3,f4,f5⟩:=newFr_full Hy.W (by have:=Hy.n;omega);have hfl1:=e2.fl;unfold advP;rw[f1];simp only;rw[if_pos (by omega)];have x2:=e2.ri.ext f2 f3 f5 (by omega);have vp2:VP N FM (R1.frames++[F])=VP N FM R1.frames:=VP_ext f2 (by omega) (by omega);have hc1:=e2.c b hcc;have hvp1:=e2.vp;have hc2:cc N { R1 with frames:=R1.frames++[F] } (b+(VP N FM R.frames-VP N FM R1.frames)):=by
    intro i G hG;rcases get_snoc hG with h|⟨-,rfl⟩
    ·exact hc1 i G h
    ·omega
   have nb2:NB N { R1 with frames:=R1.frames++[F] }:=by
    intro i st inp hi hst hS;simp only[l'p,l'n,l'o]at hi;have hS1:Sx N R1.frames i st:=by
     unfold Sx at hS ⊢;simp only at hS;rw[(ext_own (fs:=R1.frames) f2).1]at hS;exact hS
    by_cases ei:i=R.frames.length-1
    ·subst ei;exact z3 st inp hst hS1
    ·refine nb i st inp (by omega) hst ?_;unfold Sx at hS1 ⊢
     by_cases e0:i=0
     ·rw[if_pos e0]at hS1 ⊢;exact hS1
     ·rw[if_neg e0]at hS1 ⊢;exact e2.su i st (by omega) hS1
   obtain⟨R3,v3,g1,g2,b3,g3,g5,g4⟩:=advL_full Hy hFM2 hbud (FL:=R1.frames.length+1) (V:=R1.spent+((VP N FM R1.frames*(costN N+1):Nat):Int)+((FM*costN N:Nat):Int)) (R1.frames.length-1) 1 { R1 with frames:=R1.frames++[F] } (by omega) (by omega) (by simp) x2 z1 nb2 (λj h1 h2=>by omega) ⟨_,hc2,by omega,by simp only;rw[vp2];omega⟩ z2 (by simp only;rw[vp2];omega) (by
     simp only;rw[vp2];have:(R1.frames.length-1)*costN N<=FM*costN N:=Nat.mul_le_mul_right _ (by omega);omega)
   have hty3:=g2.ty;rw[g1];have hdist:(VP N FM R1.frames+FM)*(costN N+1)=VP N FM R1.frames*(costN N+1)+FM*(costN N+1):=Nat.add_mul _ _ _;have hdist3:(VP N FM R3.frames+FM)*(costN N+1)=VP N FM R3.frames*(costN N+1)+FM*(costN N+1):=Nat.add_mul _ _ _;rcases g2.vv with rfl|rfl|rfl
   ·simp only;obtain⟨y1,y2,y3,y4⟩:=g2.z rfl;have hfl3:=g2.fl;exact ih R3 g2.ri y1 y3 (by omega) ⟨b3,g3,g5,g4⟩ y2 (by omega) (by omega)
   ·simp only;exact⟨R3,1,rfl,⟨.inl rfl,g2.e,by simp,by simp⟩⟩
   ·simp only;exact⟨R3,3,rfl,⟨.inr (.inr rfl),by simp,by simp,λ_=>⟨g2.s rfl,by omega⟩⟩⟩
  ·simp only;exact⟨R1,2,rfl,⟨.inr (.inl rfl),by simp,λh=>⟨(e2.u h).1,by have:=e2.ri.fl;omega,(e2.u h).2⟩,by simp⟩⟩
  ·simp only;exact⟨R1,3,rfl,⟨.inr (.inr rfl),by simp,by simp,λ_=>⟨e2.s rfl,by omega⟩⟩⟩
end Go.Ta
namespace Go.Ta
variable {N:Ck}
theorem resetCl_mem (N:Ck): ∀(ls:List (Nat×Nat)) (j0:Nat)(σ:Nat->Bool),satT σ (resetCl N ls j0)↔∀(j x r:Nat),ls[j]?=some (x,r)->(r=0->σ (1+N.ni+(j0+j))=false)∧(r=1->σ (1+N.ni+(j0+j))=true):=by
 intro ls
 induction ls with
 | nil=>intro j0 σ;simp[resetCl,satT]
 | cons p t ih=>
  intro j0 σ;obtain⟨x0,r0⟩:=p;have hlit:tr σ (N.lla j0) = σ (1+N.ni+j0):=by unfold Ck.lla;rw[tr_even]
  have h1:satT σ (resetCl N ((x0,r0) :: t) j0)↔((r0=0->σ (1+N.ni+j0)=false)∧(r0=1->σ (1+N.ni+j0)=true))∧satT σ (resetCl N t (j0+1)):=by
   rw[show resetCl N ((x0,r0) :: t) j0=(if r0=0 then [[N.lla j0 ^^^ 1]] else if r0=1 then [[N.lla j0]] else [])++resetCl N t (j0+1) from rfl];unfold satT;simp only[l'E,or_imp,forall_and];refine and_congr ?_ Iff.rfl
   by_cases e0:r0=0
   ·subst e0;simp only[if_true,l'm,forall_eq,clT,exists_eq_left,tr_neg,hlit]
    cases σ (1+N.ni+j0) <;> simp
   ·by_cases e1:r0=1
    ·subst e1;simp only[show (1:Nat)=0↔False by simp,if_false,if_true,l'm,forall_eq,clT,exists_eq_left,hlit]
     cases σ (1+N.ni+j0) <;> simp
    ·simp[e0,e1]
  rw[h1,ih];constructor
  ·rintro⟨a,b⟩ j x r h
   cases j with
   | zero=>
    simp only[l'w,l'a,l'd]at h;obtain⟨rfl,rfl⟩:=h;exact a
   | succ j=>
    have:=b j x r (by simpa using h)
    rwa [show j0+1+j=j0+(j+1) by omega]at this
  ·intro h;refine⟨h 0 x0 r0 rfl,λj x r hj=>?_⟩;have:=h (j+1) x r (by simpa using hj)
   rwa [show j0+(j+1)=j0+1+j by omega]at this
theorem resetCl_in (N:Ck): ∀(ls:List (Nat×Nat)) (j0:Nat),j0+ls.length<=N.las.length->(∀c∈resetCl N ls j0,(∀x∈c,x<2*N.nv)∧c.length<most)∧(resetCl N ls j0).length<=ls.length:=by
 have hm:most=1000000:=rfl;intro ls
 induction ls with
 | nil=>intro j0 _;simp[resetCl]
 | cons p t ih=>
  intro j0 h;obtain⟨x0,r0⟩:=p;simp only[l'n]at h;obtain⟨i1,i2⟩:=ih (j0+1) (by omega);have hl:N.lla j0<2*N.nv:=by unfold Ck.lla Ck.nv;omega
  rw[show resetCl N ((x0,r0) :: t) j0=(if r0=0 then [[N.lla j0 ^^^ 1]] else if r0=1 then [[N.lla j0]] else [])++resetCl N t (j0+1) from rfl];refine⟨λc hc=>?_,?_⟩
  ·rcases l'E.1 hc with h1|h1
   ·split at h1
    ·simp only[l'm]at h1;subst h1;exact⟨λx hx=>by simp only[l'm]at hx;rw[hx];exact x1_lt hl,by simp;omega⟩
    ·split at h1
     ·simp only[l'm]at h1;subst h1;exact⟨λx hx=>by simp only[l'm]at hx;rw[hx];exact hl,by simp;omega⟩
     ·simp at h1
   ·exact i1 c h1
  ·rw[l'p,l'n];split
   ·simp;omega
   ·split
    ·simp;omega
    ·simp;omega
theorem begins_reset (W:CkW N)(σ:Nat->Bool): satT σ (resetCl N N.las 0)↔beginsP N (code N σ)=true:=by
 rw[resetCl_mem,begins_iff];constructor
 ·intro h j x r hj;have hjl:=(l'b.1 hj).1;obtain⟨h1,h2⟩:=h j x r hj;have hr:=(W.la j x r hj).2;rw[div_bit];unfold code;rw[numL_bit _ _ _ hjl];rw[l'F]at h1 h2;rcases (show r=0∨r=1∨r=2 by omega) with rfl|rfl|rfl
  ·rw[h1 rfl];simp
  ·rw[h2 rfl];simp
  ·exact .inl rfl
 ·intro h j x r hj;have hjl:=(l'b.1 hj).1;have h1:=h j x r hj;rw[div_bit]at h1;unfold code at h1;rw[numL_bit _ _ _ hjl]at h1;rw[l'F];refine⟨λe=>?_,λe=>?_⟩
  ·subst e
   cases hb:σ (1+N.ni+j) with
   | false=>rfl
   | true=>rw[hb]at h1;simp at h1
  ·subst e
   cases hb:σ (1+N.ni+j) with
   | true=>rfl
   | false=>rw[hb]at h1;simp at h1
theorem newRn_full {FM:Nat}(W:CkW N)(hn:N.nv<=192)(hFM:1<=FM): ∃R0,newRnP N=some R0∧RI N FM R0∧R0.way=[]∧NB N R0∧R0.frames.length=1∧R0.spent=0∧cc N R0 800∧VP N FM R0.frames=(FM-1)*2^N.las.length*(FM+2):=by
 have hm:most=1000000:=rfl;obtain⟨F,f1,f2,f3,f4,f5⟩:=newFr_full W hn;have hL:N.las.length<=192:=by unfold Ck.nv at hn;omega
 obtain⟨r1,r2⟩:=resetCl_in N N.las 0 (by omega);obtain⟨s,e1,e2,e3,e4,e5,e6,e7⟩:=addsP_full (n:=N.nv) (resetCl N N.las 0) F.s f5.s.e f5.s.c r1 (by omega);have hfr:FrS N ⟨s,F.own⟩ (λst=>beginsP N st=true):=by
  refine⟨⟨by rw[e2];exact f5.s.e,e5,by simp only;omega,?_⟩,λσ=>?_⟩
  ·obtain⟨l,hl⟩:=f5.s.u;exact⟨l,e6 _ hl⟩
  ·simp only;rw[e7,f5.m,begins_reset W];simp
 have get1:∀(i:Nat)(G:Fr),([⟨s,F.own⟩]:List Fr)[i]?=some G->i=0∧G=⟨s,F.own⟩:=by
  intro i G h
  cases i with
  | zero=>simp at h;exact⟨rfl,h.symm⟩
  | succ i=>simp at h
 refine⟨⟨0,[⟨s,F.own⟩],[],[]⟩,?_,⟨?_,by simp,by simp;omega,?_,?_,?_,?_,?_,?_,?_,Int.le_refl _⟩,rfl,?_,rfl,rfl,?_,?_⟩
 ·unfold newRnP;rw[f1];simp only[e1]
 ·intro i G hG;obtain⟨rfl,rfl⟩:=get1 i G hG;exact hfr.iff λst=>by unfold Sx;simp
 ·intro G hG;obtain⟨-,rfl⟩:=get1 0 G hG;exact f2
 ·intro i G hG c hc;obtain⟨-,rfl⟩:=get1 i G hG;rw[f2]at hc;simp at hc
 ·intro i G hG;obtain⟨-,rfl⟩:=get1 i G hG;rw[f2];simp
 ·intro i j A B hA hB c a b;rw[(get1 i A hA).1,(get1 j B hB).1]
 ·intro st _ _;rfl
 ·intro i st inp _ _;unfold ownB;rw[List.drop_eq_nil_of_le (by simp)];rfl
 ·intro i G hG;obtain⟨-,rfl⟩:=get1 i G hG;simp only;rw[e3,f3];simp
 ·intro i st inp h;simp at h
 ·intro i G hG;obtain⟨-,rfl⟩:=get1 i G hG;simp only;omega
 ·unfold VP psi;simp[wsum,olen,f2]
def stAt (N:Ck)(st:Nat)(ins:List Nat): Nat->Nat
 | 0=>st
 | t+1=>nxt N (stAt N st ins t) (ins.getD t 0)
def UnsN (N:Ck)(st:Nat)(ins:List Nat): Prop:=0<ins.length∧st<2^N.las.length∧beginsP N st=true∧badS N (stAt N st ins (ins.length-1)) (ins.getD (ins.length-1) 0)=true
theorem way_uns {R:Rn}(w:WyI N R){st inp:Nat}(hl:R.way.getLast?=some (st,inp))(hb:beginsP N st=true): UnsN N (R.way.getLast?.getD (0,0)).1 (R.way.map (·.2)).reverse:=by
 obtain⟨h1,h2⟩:=last_of hl;have hlen:(R.way.map (·.2)).reverse.length=R.way.length:=by simp
 have hget:∀(t:Nat) (s i:Nat),t<R.way.length->R.way[R.way.length-1-t]?=some (s,i)->(R.way.map (·.2)).reverse.getD t 0=i:=by
  intro t s i ht h;rw[l'r,List.getElem?_reverse (by simpa using ht),List.length_map,List.getElem?_map,h];rfl
 have key:∀t,t<R.way.length->R.way[R.way.length-1-t]?=some (stAt N st (R.way.map (·.2)).reverse t,(R.way.map (·.2)).reverse.getD t 0):=by
  intro t
  induction t with
  | zero=>
   intro ht;rw[hget 0 st inp ht (by simpa using h1)];simpa [stAt]using h1
  | succ t ih=>
   intro ht;have h3:=ih (by omega);obtain⟨⟨s',i'⟩,h4⟩:∃p,R.way[R.way.length-1-(t+1)]?=some p:=⟨_,l'c (by omega)⟩;have h5:=w.wc (R.way.length-1-(t+1)) s' i' _ _ h4 (by rw[show R.way.length-1-(t+1)+1=R.way.length-1-t by omega];exact h3);rw[h4,hget (t+1) s' i' ht h4];simp only[stAt];rw[h5]
 rw[hl];simp only[Option.getD_some];refine⟨by rw[hlen];exact h2,(w.ws _ _ _ h1).1,hb,?_⟩;rw[hlen];have h6:=key (R.way.length-1) (by omega);rw[show R.way.length-1-(R.way.length-1)=0 by omega]at h6;exact w.w0 _ _ h6
theorem run_full (W:CkW N)(hn:N.nv<=61)(h4:2^(N.nv-1)<=8000)(hL:N.las.length<=6){bud:Int}(hb0:0<=bud)(hb:bud<=1152921504606846976):
  ∃(f n m:Nat)(R0 R:Rn) (v:Nat),newRnP N=some R0∧decideP f n N bud m R0=some (R,v)∧(v=1∨v=2∨v=3)∧(v=1->SafeN N)∧(v=2->UnsN N (R.way.getLast?.getD (0,0)).1 (R.way.map (·.2)).reverse∧R.way.length<=1000)∧(10000000000<=bud->v≠3):=by
 obtain⟨FM,hFM⟩:=e' (2^N.las.length+2);have hp6:2^N.las.length<=2^6:=Nat.pow_le_pow_right (by omega) hL;have hp0:1<=2^N.las.length:=Nat.one_le_two_pow;have hnv:1<=N.nv:=by unfold Ck.nv;omega
 obtain⟨n,hnn⟩:=e' (rounds N.nv 1000+900000);have Hy:Hyp N (N.nv+1) n:=⟨W,hn,h4,hL,by omega,by omega⟩;obtain⟨R0,e1,e2,e3,e4,e5,e6,e7,e8⟩:=newRn_full (FM:=FM) W (by omega) (by omega);have hK:costN N<=16000:=by
  unfold costN;rw[show N.nv=(N.nv-1)+1 by omega,Nat.pow_succ];omega
 have hVP:VP N FM R0.frames<=300000:=by
  rw[e8];have h1:(FM-1)*2^N.las.length<=65*64:=Nat.mul_le_mul (by omega) (by omega);have h2:(FM-1)*2^N.las.length*(FM+2)<=65*64*68:=Nat.mul_le_mul h1 (by omega);omega
 have hB1:(VP N FM R0.frames+FM)*(costN N+1)<=300066*16001:=Nat.mul_le_mul (by omega) (by omega);have hB2:FM*((FM+2)*costN N)<=66*(68*16000):=Nat.mul_le_mul (by omega) (Nat.mul_le_mul (by omega) hK);obtain⟨R,v,g1,g2⟩:=decide_full Hy hFM (B:=10000000000-1) hb (by omega) FM R0 e2 e3 e4 (by omega) ⟨800,e7,by omega,by omega⟩ (by omega) (by omega) (by rw[e6];omega);refine⟨N.nv+1,n,FM,R0,R,v,e1,g1,g2.vv,g2.e,λh=>?_,λh h3=>?_⟩
 ·obtain⟨w,hf,st,inp,h1,h2⟩:=g2.u h;exact⟨way_uns w h1 h2,l'G w.wl hf⟩
 ·have:=g2.s h3;omega
end Go.Ta
