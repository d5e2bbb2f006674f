import Derived.Test.YtimdkminagnhgaaGreatDoorQ37
import Derived.Test.YtimdkminagnhgaaGreatDoorQ23
set_option linter.all false
namespace Go.Ta
variable {n D:Nat}{G:List (List Nat)}{q q':Srch}
theorem All.met (x:All n G D q)(m:Nat): All n G D { q with met:=m }:=
 ⟨⟨⟨x.i.t.hl,x.i.t.vl,x.i.t.tb,x.i.t.tn,x.i.t.hh,x.i.t.ss,x.i.t.sd,x.i.t.dt,x.i.t.lr,x.i.t.l0⟩,x.i.c,x.i.w,x.i.d,x.i.lm⟩,x.v,x.m,⟨x.a.a1,x.a.a2⟩,⟨x.s.s1,x.s.s2⟩,x.u⟩
theorem meas_lt {P P' N W m m' k:Nat}(hP:P'<=N)(h:P<P')(hm:m'<W)(hk:(N-P)*W+m<k+1): (N-P')*W+m'<k:=by
 have h1:N-P'+1<=N-P:=by omega
 have h2:=Nat.mul_le_mul_right W h1;rw[Nat.add_mul,Nat.one_mul]at h2;omega
theorem meas_le {P P' N W m m' k:Nat}(h:P<=P')(hm:m'<m)(hk:(N-P)*W+m<k+1): (N-P')*W+m'<k:=by
 have h1:N-P'<=N-P:=by omega
 have h2:=Nat.mul_le_mul_right W h1;omega
theorem answerL_ok (hn:n<=61){as:List Nat}(hA:as.length<=1000)(hAb:∀l∈as,l<2*n)(hG:∀c∈G,∀l∈c,l<2*n)(hne:[]∉G)(hGl:G.length<=900000){f ph0:Nat}(hf:n<f)(h4:2^n<=8000+ph0)(h02:ph0%2=0)(budget:Int):
  ∀(m:Nat)(q:Srch),All n G q.drawn q->q.assumed=as->q.core=[]->q.given=G.length->(∃ext,lits q.clauses=G++ext∧ext.length<=q.met)->2*q.met+ph0<=ph n q.starts q.trail.length->(2^n-ph n q.starts q.trail.length)*(as.length+n+1)+mu n q<m ->
  ∃q1 a,answerL f budget m q none=some (q1,a)∧End n G as budget q1 a:=by
 have hm:most=1000000:=rfl;have hm62:most62=4611686018427387904:=rfl;have h2n:2^n<=2^61:=Nat.pow_le_pow_right (by omega) hn;intro m
 induction m with
 | zero=>intro q _ _ _ _ _ _ h;omega
 | succ m ih=>
  intro q x has hco hgv hext hmet hmu;obtain⟨ext,hext,hel⟩:=hext;have hphlt:=ph_lt (n:=n) (st:=q.starts) x.i.t.len;obtain⟨q1,clash,e1,ex1,hno,hcl⟩:=drawP_ok (by omega) f q x.i (by omega);have hsd:∀s∈q.starts,s<q.trail.length∨q1.trail=q.trail:=by
   intro s hs;have h1:=x.i.t.sd s hs;have h2:=x.i.t.dt
   by_cases h3:q.drawn=q.trail.length
   ·right;rw[drawn_end h3 e1]
   ·left;omega
  obtain⟨ex,htl⟩:=ex1.tl;have hlen1:q.trail.length<=q1.trail.length:=by rw[htl];simp
  have hph1:ph n q.starts q.trail.length<=ph n q1.starts q1.trail.length:=by rw[ex1.st];exact ph_mono _ hlen1
  have hmu1:mu n q1<=mu n q:=by unfold mu;rw[ex1.sm.as,ex1.st];omega
  have as1:q1.assumed=as:=by rw[ex1.sm.as];exact has
  have co1:q1.core=[]:=by rw[ex1.sm.co];exact hco
  have gv1:q1.given=G.length:=by rw[ex1.sm.gv];exact hgv
  have mt1:q1.met=q.met:=ex1.sm.mt;have li1:lits q1.clauses=G++ext:=by rw[ex1.li];exact hext
  have hcl1:q1.clauses.length=G.length+ext.length:=by
   have:=congrArg List.length li1;simpa [lits]using this
  unfold answerL;simp only[e1]
  cases clash with
  | none=>
   simp only;obtain⟨i1,hd1⟩:=hno rfl;have x1:=ex1.all x hsd i1;have hphlt1:=ph_lt (n:=n) (st:=q1.starts) x1.i.t.len;obtain⟨q2,a,e2,h⟩:=guessP_ok (by omega) (by rw[as1];exact hA) (by rw[as1];exact hAb) co1 x1;rw[e2];rcases h with ⟨rfl,x2,d2,s2,p2,m2⟩|⟨rfl,rfl,hs⟩|⟨rfl,s2,u2⟩
   ·simp only;refine ih q2 (by rw[d2,hd1];exact x2) (by rw[s2.sm.as];exact as1) (by rw[s2.sm.co];exact co1) (by rw[s2.sm.gv];exact gv1) ⟨ext,by rw[s2.li];exact li1,by rw[s2.sm.mt,mt1];exact hel⟩ (by rw[s2.sm.mt,mt1];omega) ?_;exact meas_le (l'G hph1 p2) (Nat.lt_of_lt_of_le m2 hmu1) hmu
   ·simp only;refine⟨q2,1,rfl,⟨x1.i.t.vl,x1.i.t.hl,by rw[mt1];omega,.inl rfl,λ_=>?_,by simp,by simp⟩⟩;have:=sat_of x1 hs hG (λc hc=>by rw[li1];simp[hc]) hne;rw[as1]at this;exact this
   ·simp only;have t2:q2.vars.length=n:=by rw[s2.len];exact x1.i.t.vl
    refine⟨q2,2,rfl,⟨t2,by rw[s2.eq];exact x1.i.t.hl,by rw[s2.eq];simp only;rw[mt1];omega,.inr (.inl rfl),by simp,λ_=>?_,by simp⟩⟩;unfold UnO at u2;rw[as1]at u2;exact u2
  | some k=>
   simp only;obtain⟨⟨D1,i1⟩,hk⟩:=hcl k rfl;have x1:=ex1.all x hsd i1;have hphlt1:=ph_lt (n:=n) (st:=q1.starts) x1.i.t.len;have x0:=x1.met (q1.met+1);unfold meetP;rw[if_pos (by omega)];simp only;obtain⟨c,hc,hall,hrest⟩:=id hk
   by_cases hle:q1.starts.length<=q1.assumed.length
   ·rw[if_pos hle];simp only[hc];obtain⟨q2,f1,f2,f3⟩:=meet_un (by omega) x0.alm co1 hle (k:=k) (c:=c) hc hall;rw[f1];simp only;refine⟨q2,2,rfl,⟨by rw[f2.len];exact x1.i.t.vl,by rw[f2.eq];exact x1.i.t.hl,by rw[f2.eq];simp only;rw[mt1];omega,.inr (.inl rfl),by simp,λ_=>?_,by simp⟩⟩;unfold UnO at f3;simp only at f3;rw[as1]at f3;exact f3
   ·rw[if_neg hle]
    by_cases hb:budget<((q1.met+1:Nat):Int)
    ·rw[if_pos hb];refine⟨_,3,rfl,⟨x1.i.t.vl,x1.i.t.hl,by simp only;rw[mt1];omega,.inr (.inr rfl),by simp,by simp,λ_=>hb⟩⟩
    ·rw[if_neg hb];obtain⟨q2,f1,f2,⟨f3,f9⟩,f4,f5,f6,f7,f8⟩:=learnP_ok (by omega) x0 (k:=k) hk (by simp only;omega) (by simp only;omega) (by simp only;omega);rw[f1];simp only at f3 f4 f5 f6 f7 f8 ⊢;have hphlt2:=ph_lt (n:=n) (st:=q2.starts) f2.i.t.len;have hev:=ph_even (st:=q2.starts) _ f9;refine ih q2 f2 (by rw[f4];exact as1) (by rw[f7];exact co1) (by rw[f5];exact gv1) ?_ (by rw[f6];omega) ?_
     ·rcases f8 with h|⟨c',h⟩
      ·exact⟨ext,by rw[h];exact li1,by rw[f6];omega⟩
      ·exact⟨ext++[c'],by rw[h,li1];simp,by rw[f6];simp;omega⟩
     ·refine meas_lt (Nat.le_of_lt hphlt2) (Nat.lt_of_le_of_lt hph1 f3) ?_ hmu;unfold mu;rw[f4,as1];omega
def rounds (n a:Nat): Nat:=2^n*(a+n+1)+a+n+1
theorem answerP_ok (hn:n<=61)(hn0:0<n){early:List Bool}(hE:early.length=n){as:List Nat}(hA:as.length<=1000)(hAb:∀l∈as,l<2*n)(hG:∀c∈G,c.Nodup∧∀l∈c,l<2*n)(hGl:G.length<=900000){f m:Nat}(hf:n<f)(hm:rounds n as.length<=m)(h4:2^(n-1)<=8000)(hu:∃l,[l]∈G)(budget:Int):
  ∃q1 a,answerP f m (newP early as) G budget=some (q1,a)∧End n G as budget q1 a:=by
 have hmm:most=1000000:=rfl;have hm62:most62=4611686018427387904:=rfl;have h2n:2^n<=2^61:=Nat.pow_le_pow_right (by omega) hn;have t0:TI n G 0 (newP early as):=by
  refine⟨by simp[newP,hE],by simp[newP,hE],by simp[newP],by simp[newP],?_,by simp[newP,Srt],by simp[newP],by simp[newP],by simp[newP],by simp[newP]⟩;intro l hl;simp[newP,hE,List.getElem?_replicate,hl]
 have l0:LdI n G as [] (newP early as) none:=by
  refine⟨t0,by intro k c h;simp[newP]at h,⟨by simp[newP,hE],by intro k c h;simp[newP]at h,?_,?_⟩,⟨by simp[newP],by simp[newP],?_⟩,?_,rfl,rfl,by simp,by simp,rfl,rfl,rfl,rfl⟩
  ·intro l w k h1 h2;simp only[newP,List.getElem?_replicate]at h1;split at h1
   ·simp only[l'a]at h1;subst h1;simp at h2
   ·simp at h1
  ·intro l w h1;simp only[newP,List.getElem?_replicate]at h1;split at h1
   ·simp only[l'a]at h1;subst h1;simp
   ·simp at h1
  ·intro v hv;simp only[newP,List.mem_map]at hv;obtain⟨e,-,rfl⟩:=hv;simp only[newP]
   cases e <;> simp
  ·intro v hv;simp only[newP,List.mem_map]at hv;obtain⟨e,-,rfl⟩:=hv;rfl
 obtain⟨q1,clash,e1,x1⟩:=loadL_ok (by omega) hG (by omega) G [] (newP early as) none (by simp) l0;simp only[l'o]at e1;unfold answerP loadP;rw[e1];simp only;have hst:q1.starts=[]:=x1.st;have hall:All n G 0 { q1 with given:=G.length }∨∃k,clash=some k:=by
  cases clash with
  | some k=>exact .inr ⟨k,rfl⟩
  | none=>
   left;obtain⟨u1,u2⟩:=x1.un rfl;refine⟨⟨⟨x1.t.hl,x1.t.vl,x1.t.tb,x1.t.tn,x1.t.hh,x1.t.ss,x1.t.sd,x1.t.dt,x1.t.lr,x1.t.l0⟩,x1.c,x1.w,?_,?_⟩,x1.v,x1.m,⟨?_,?_⟩,⟨?_,?_⟩,?_⟩
   ·intro k c _ _;exact⟨λd hd=>by omega,λd hd=>by omega⟩
   ·have:=congrArg List.length x1.li;simp[lits]at this;simp only;omega
   ·intro i a _ h;simp only[hst]at h;simp at h
   ·intro i s a l h;simp only[hst]at h;simp at h
   ·intro i s h;simp only[hst]at h;simp at h
   ·intro i s h;simp only[hst]at h;simp at h
   ·intro l hl;obtain⟨i,hi⟩:=l'i.1 (u1 l hl);exact⟨i,hi,by simp only[hst];rfl⟩
 have hml:1<=m:=by unfold rounds at hm;omega
 cases clash with
 | none=>
  rcases hall with x0|⟨k,hk⟩
  ·obtain⟨u1,u2⟩:=x1.un rfl;have htl:=x1.t.len;obtain⟨l1,hl1⟩:=hu;have hne:0<q1.trail.length:=List.length_pos_of_mem (u1 l1 hl1);have hph0:2^(n-1)<=ph n q1.starts q1.trail.length:=by
    have h1:=ph_mono (n:=n) (st:=q1.starts) (a:=1) q1.trail.length hne;have h2:ph n q1.starts 1=2^(n-1):=by simp[ph,phw,hst]
    omega
   have h2p:2^n=2^(n-1)+2^(n-1):=by
    rw[show n=(n-1)+1 by omega,Nat.pow_succ];simp;omega
   obtain⟨p0,hp1,hp2,hp3⟩:∃p0,p0%2=0∧p0<=ph n q1.starts q1.trail.length∧2^n<=8000+p0:=by
    by_cases h1:n=1
    ·subst h1;exact⟨0,rfl,Nat.zero_le _,by omega⟩
    ·refine⟨2^(n-1),?_,hph0,by omega⟩;rw[show n-1=(n-2)+1 by omega,Nat.pow_succ];omega
   refine answerL_ok hn hA hAb (λc hc=>(hG c hc).2) u2 hGl hf (ph0:=p0) hp3 hp1 budget m _ (by show All n G q1.drawn { q1 with given:=G.length };rw[x1.dr]at x0 ⊢;exact x0) x1.asm x1.co rfl ⟨[],by simp;exact x1.li,by simp⟩ (by simp only;rw[x1.mt];omega) ?_;simp only;have h5:(2^n-ph n q1.starts q1.trail.length)*(as.length+n+1)<=2^n*(as.length+n+1):=Nat.mul_le_mul_right _ (Nat.sub_le _ _);unfold rounds at hm;unfold mu;simp only;rw[x1.asm];omega
  ·simp at hk
 | some k=>
  obtain⟨c,hc,hcl⟩:=x1.cl k rfl;obtain⟨m',rfl⟩:∃m',m=m'+1:=⟨m-1,by omega⟩;unfold answerL meetP;simp only;rw[x1.mt,if_pos (by omega)];simp only[hst,l'o];rw[if_pos (Nat.zero_le _)];simp only[hc];have x2:Alm n G 0 { q1 with given:=G.length,met:=0+1 }:=by
   refine⟨⟨⟨x1.t.hl,x1.t.vl,x1.t.tb,x1.t.tn,x1.t.hh,x1.t.ss,x1.t.sd,x1.t.dt,x1.t.lr,x1.t.l0⟩,x1.c,x1.w,?_,?_⟩,x1.v,x1.m,⟨?_,?_⟩⟩
   ·intro k c _ _;exact⟨λd hd=>by omega,λd hd=>by omega⟩
   ·have:=congrArg List.length x1.li;simp[lits]at this;simp only;omega
   ·intro i a _ h;simp only[hst]at h;simp at h
   ·intro i s a l h;simp only[hst]at h;simp at h
  obtain⟨q2,f1,f2,f3⟩:=meet_un (by omega) x2 x1.co (by simp only;rw[hst];exact Nat.zero_le _) (k:=k) (c:=c) hc hcl;have hpos:1<=2^n:=Nat.one_le_two_pow;simp only[hst]at f1;rw[f1];simp only;refine⟨q2,2,rfl,⟨by rw[f2.len];exact x1.t.vl,by rw[f2.eq];exact x1.t.hl,by rw[f2.eq];simp only;omega,.inr (.inl rfl),by simp,λ_=>?_,by simp⟩⟩;unfold UnO at f3;simp only at f3;rw[x1.asm]at f3;exact f3
end Go.Ta
namespace Go.Ta
theorem distL_mem': ∀(l acc:List Nat) (x:Nat),x∈distL l acc↔x∈l∨x∈acc:=by
 intro l
 induction l with
 | nil=>intro acc x;simp[distL]
 | cons a r ih=>
  intro acc x;unfold distL;split
  ·rw[ih,l'I];constructor
   ·rintro (h|h)
    ·exact .inl (.inr h)
    ·exact .inr h
   ·rintro ((h|h)|h)
    ·subst h;rename_i h1;exact .inr h1
    ·exact .inl h
    ·exact .inr h
  ·rw[ih,l'I,l'E,l'm];constructor
   ·rintro (h|h|h)
    ·exact .inl (.inr h)
    ·exact .inr h
    ·exact .inl (.inl h)
   ·rintro ((h|h)|h)
    ·exact .inr (.inr h)
    ·exact .inl h
    ·exact .inr (.inl h)
theorem distL_nd: ∀(l acc:List Nat),acc.Nodup->(distL l acc).Nodup:=by
 intro l
 induction l with
 | nil=>intro acc h;exact h
 | cons a r ih=>
  intro acc h;unfold distL;split
  ·exact ih acc h
  ·rename_i hn
   refine ih _ ?_;rw[List.nodup_append];exact⟨h,by simp,λx hx y hy=>by simp only[l'm]at hy;subst hy;exact λe=>hn (e ▸ hx)⟩
theorem distL_len': ∀(l acc:List Nat),(distL l acc).length<=acc.length+l.length:=by
 intro l
 induction l with
 | nil=>intro acc;simp[distL]
 | cons a r ih=>
  intro acc;unfold distL;split
  ·have:=ih acc;simp;omega
  ·have:=ih (acc++[a]);simp at this ⊢;omega
theorem dist_mem (l:List Nat)(x:Nat): x∈dist l↔x∈l:=by unfold dist;rw[distL_mem'];simp
theorem dist_nd (l:List Nat): (dist l).Nodup:=distL_nd l [] (by simp)
theorem dist_len (l:List Nat): (dist l).length<=l.length:=by have:=distL_len' l [];unfold dist;simpa using this
structure SOk (n:Nat)(s:Solv):Prop where
 e:s.early.length=n
 c:∀c∈s.clauses,c.Nodup∧∀l∈c,l<2*n
 l:s.clauses.length<=900000
 u:∃l,[l]∈s.clauses
theorem haveP_iff (n:Nat)(l:List Nat): haveP n l=true↔∀x∈l,x<2*n:=by
 unfold haveP;rw[l'D];simp
theorem solveP_full {n:Nat}(hn0:0<n)(hn:n<=61)(h4:2^(n-1)<=8000){s:Solv}(x:SOk n s){as:List Nat}(hab:∀l∈as,l<2*n)(hal:as.length<=1000){budget:Int}(hb:0<=budget)(hc:s.conflicts<most62){f m:Nat}(hf:n<f)(hm:rounds n as.length<=m):
  ∃s' a,solveP f m s as budget=some (s',a)∧s'.early=s.early∧s'.clauses=s.clauses∧s.conflicts<=s'.conflicts∧s'.conflicts<=s.conflicts+2^n∧(a=1∨a=2∨a=3)
   ∧ (a=1->∃σ:Nat->Bool,s'.model=(List.range n).map σ∧satT σ s.clauses∧∀l∈as,tr σ l=true)
   ∧ (a=2->(∀l∈s'.core,l∈as)∧s'.core.length<=1000∧∀σ,satT σ s.clauses->¬∀l∈s'.core,tr σ l=true)
   ∧ (a=3->budget<((s'.conflicts-s.conflicts:Nat):Int)):=by
 have hmm:most=1000000:=rfl;have hm62:most62=4611686018427387904:=rfl;have h2n:2^n<=2^61:=Nat.pow_le_pow_right (by omega) hn;have hdl:=dist_len as;have hrd:rounds n (dist as).length<=rounds n as.length:=by
  unfold rounds;have:2^n*((dist as).length+n+1)<=2^n*(as.length+n+1):=Nat.mul_le_mul_left _ (by omega);omega
 obtain⟨q,a,e1,en⟩:=answerP_ok (G:=s.clauses) hn hn0 x.e (as:=dist as) (by omega) (λl hl=>hab l ((dist_mem _ _).1 hl)) x.c x.l hf (l'G hrd hm) h4 x.u budget;have hcond:haveP s.early.length as=true∧as.length<most∧0<=budget∧0<s.early.length∧s.early.length<=192∧s.clauses.length<most:=by
  rw[x.e];exact⟨(haveP_iff _ _).2 hab,by omega,hb,hn0,by omega,by have:=x.l;omega⟩
 have hcond2:s.conflicts<most62∧q.met<=most62∧q.vars.length=s.early.length∧q.holds.length=2*s.early.length:=by
  rw[x.e];exact⟨hc,by have:=en.mt;omega,en.vl,en.hl⟩
 refine⟨{ s with conflicts:=s.conflicts+q.met,model:=if a=1 then (List.range s.early.length).map (λv=>q.holds.getD (2*v) false) else [],core:=if a=2 then q.core else [] },a,?_,rfl,rfl,by simp,by simp only;have:=en.mt;omega,en.ab,?_,?_,?_⟩
 ·unfold solveP;rw[if_pos hcond,e1];simp only;rw[if_pos hcond2]
 ·intro h1;obtain⟨σ,g1,g2,g3⟩:=en.sa h1;refine⟨σ,?_,g2,λl hl=>g3 l ((dist_mem _ _).2 hl)⟩;simp only[if_pos h1,x.e];refine List.map_congr_left λv hv=>?_;rw[l'r,g1 v (by simpa using hv)];rfl
 ·intro h1;obtain⟨g1,g2,g3⟩:=en.un h1;simp only[if_pos h1];exact⟨λl hl=>(dist_mem _ _).1 (g1 l hl),g2,g3⟩
 ·intro h1;have:=en.sp h1;simp only;rw[Nat.add_sub_cancel_left];exact this
theorem always_iff {l:List Nat}(h:alwaysP l=true)(σ:Nat->Bool): clT σ l:=by
 unfold alwaysP at h;rw[List.any_eq_true]at h;obtain⟨⟨x,i⟩,hx,hy⟩:=h;rw[List.any_eq_true]at hy;obtain⟨y,hy,he⟩:=hy;simp only[beq_iff_eq]at he;have hxl:x∈l:=l'f (List.mem_zipIdx_iff_getElem?.1 hx);have hyl:y∈l:=List.mem_of_mem_take hy
 cases hs:tr σ x with
 | true=>exact⟨x,hxl,hs⟩
 | false=>
  refine⟨y,hyl,?_⟩;rw[he,tr_neg,hs];rfl
theorem addP_full {n:Nat}{s:Solv}(he:s.early.length=n)(hc:∀c∈s.clauses,c.Nodup∧∀l∈c,l<2*n){l:List Nat}(hl:∀x∈l,x<2*n)(hll:l.length<most)(hcl:s.clauses.length<most):
  ∃s',addP s l=some s'∧s'.early=s.early∧s'.model=s.model∧s'.core=s.core∧s'.conflicts=s.conflicts∧s'.clauses.length<=s.clauses.length+1∧(∀c∈s'.clauses,c.Nodup∧∀l∈c,l<2*n)∧(∀c∈s.clauses,c∈s'.clauses)∧∀σ,satT σ s'.clauses↔satT σ s.clauses∧clT σ l:=by
 have hcond:haveP s.early.length l=true∧l.length<most∧s.clauses.length<most:=⟨by rw[he];exact (haveP_iff _ _).2 hl,hll,hcl⟩;have hd:∀σ,clT σ (dist l)↔clT σ l:=by
  intro σ;unfold clT;constructor
  ·rintro⟨x,h1,h2⟩;exact⟨x,(dist_mem _ _).1 h1,h2⟩
  ·rintro⟨x,h1,h2⟩;exact⟨x,(dist_mem _ _).2 h1,h2⟩
 unfold addP;rw[if_pos hcond]
 by_cases ha:alwaysP (dist l)=true
 ·rw[if_pos ha];exact⟨s,rfl,rfl,rfl,rfl,rfl,by omega,hc,λc h=>h,λσ=>⟨λh=>⟨h,(hd σ).1 (always_iff ha σ)⟩,λh=>h.1⟩⟩
 ·rw[if_neg ha];refine⟨_,rfl,rfl,rfl,rfl,rfl,by simp,?_,λc h=>by simp[h],λσ=>?_⟩
  ·intro c hc';simp only[l'E,l'm]at hc';rcases hc' with h|rfl
   ·exact hc c h
   ·exact⟨dist_nd l,λx hx=>hl x ((dist_mem _ _).1 hx)⟩
  ·unfold satT;simp only[l'E,l'm];constructor
   ·intro h;exact⟨λc hc=>h c (.inl hc),(hd σ).1 (h _ (.inr rfl))⟩
   ·rintro⟨h1,h2⟩ c (h|rfl)
    ·exact h1 c h
    ·exact (hd σ).2 h2
theorem addsP_full {n:Nat}: ∀(ls:List (List Nat))(s:Solv),s.early.length=n->(∀c∈s.clauses,c.Nodup∧∀l∈c,l<2*n)->(∀l∈ls,(∀x∈l,x<2*n)∧l.length<most)->s.clauses.length+ls.length<=900000 ->
  ∃s',addsP ls s=some s'∧s'.early=s.early∧s'.conflicts=s.conflicts∧s'.clauses.length<=s.clauses.length+ls.length∧(∀c∈s'.clauses,c.Nodup∧∀l∈c,l<2*n)∧(∀c∈s.clauses,c∈s'.clauses)∧∀σ,satT σ s'.clauses↔satT σ s.clauses∧satT σ ls:=by
 have hm:most=1000000:=rfl;intro ls
 induction ls with
 | nil=>intro s he hc _ _;exact⟨s,rfl,rfl,rfl,by simp,hc,λc h=>h,λσ=>by simp[satT]⟩
 | cons l r ih=>
  intro s he hc hl hlen;simp at hlen;obtain⟨s1,e1,e2,-,-,e3,e4,e5,e6,e7⟩:=addP_full he hc (hl l (by simp)).1 (hl l (by simp)).2 (by omega);obtain⟨s2,f1,f2,f3,f4,f5,f6,f7⟩:=ih s1 (by rw[e2];exact he) e5 (λl' h=>hl l' (by simp[h])) (by omega);refine⟨s2,by unfold addsP;rw[e1];exact f1,by rw[f2,e2],by rw[f3,e3],by simp;omega,f5,λc h=>f6 c (e6 c h),λσ=>?_⟩;rw[f7,e7];unfold satT;simp only[l'I,forall_eq_or_imp];constructor
  ·rintro⟨⟨a,b⟩,c⟩;exact⟨a,b,c⟩
  ·rintro⟨a,b,c⟩;exact⟨⟨a,b⟩,c⟩
end Go.Ta
namespace Go.Ta
def numL (f:Nat->Bool): Nat->Nat
 | 0=>0
 | k+1=>(if f k then 2^k else 0)+numL f k
theorem numL_lt (f:Nat->Bool): ∀k,numL f k<2^k:=by
 intro k
 induction k with
 | zero=>simp[numL]
 | succ k ih=>simp only[numL,Nat.pow_succ];split <;> omega
theorem numL_bit (f:Nat->Bool): ∀k j,j<k->(numL f k).testBit j=f j:=by
 intro k
 induction k with
 | zero=>intro j h;omega
 | succ k ih=>
  intro j h;have hlt:=numL_lt f k;simp only[numL]
  by_cases e:j=k
  ·subst e
   cases hf:f j with
   | true=>simp only[if_true];rw[Nat.testBit_two_pow_add_eq,Nat.testBit_lt_two_pow hlt];rfl
   | false=>simp only[l'y,if_false,l'F];exact Nat.testBit_lt_two_pow hlt
  ·cases hf:f k with
   | true=>simp only[if_true];rw[Nat.testBit_two_pow_add_gt (by omega)];exact ih j (by omega)
   | false=>simp only[l'y,if_false,l'F];exact ih j (by omega)
theorem bit_ext {a b k:Nat}(ha:a<2^k)(hb:b<2^k)(h:∀j,j<k->a.testBit j=b.testBit j): a=b:=by
 apply Nat.eq_of_testBit_eq;intro j
 by_cases hj:j<k
 ·exact h j hj
 ·have h1:2^k<=2^j:=Nat.pow_le_pow_right (by omega) (by omega);rw[Nat.testBit_lt_two_pow (Nat.lt_of_lt_of_le ha h1),Nat.testBit_lt_two_pow (Nat.lt_of_lt_of_le hb h1)]
theorem div_bit (st j:Nat): st/2^j%2=if st.testBit j then 1 else 0:=by
 rw[Nat.testBit_eq_decide_div_mod_eq];rcases Nat.mod_two_eq_zero_or_one (st/2^j) with h|h <;> simp[h]
theorem bitsP_lt' (s:Solv)(first:Nat): ∀count,bitsP s first count<2^count:=by
 intro count
 induction count with
 | zero=>simp[bitsP]
 | succ n ih=>
  unfold bitsP at ih ⊢;rw[l'B,List.foldl_append];simp only[List.foldl_cons,List.foldl_nil];generalize (List.range n).foldl (λn j=>if s.model.getD (first+j) false then n ||| 2^j else n) 0=x at ih;have h2:2^n<2^(n+1):=Nat.pow_lt_pow_right (by omega) (by omega);split
  ·exact Nat.or_lt_two_pow (by omega) h2
  ·omega
theorem bitsP_bit (s:Solv)(first:Nat): ∀count j,j<count->(bitsP s first count).testBit j=s.model.getD (first+j) false:=by
 intro count
 induction count with
 | zero=>intro j h;omega
 | succ n ih=>
  intro j h;have hlt:=bitsP_lt' s first n
  have hs:bitsP s first (n+1)=if s.model.getD (first+n) false then bitsP s first n ||| 2^n else bitsP s first n:=by
   unfold bitsP;rw[l'B,List.foldl_append];rfl
  rw[hs]
  by_cases e:j=n
  ·subst e;split
   ·rename_i hm
    rw[Nat.testBit_or,Nat.testBit_two_pow,hm];simp
   ·rename_i hm
    rw[Nat.testBit_lt_two_pow hlt];simpa using hm
  ·split
   ·rw[Nat.testBit_or,Nat.testBit_two_pow,ih j (by omega)];have:¬n=j:=λh=>e h.symm;simp[this]
   ·exact ih j (by omega)
structure CkW (N:Ck):Prop where
 gt:∀(k:Nat) (g l:Nat),N.gts[k]?=some (g,l)->g/2<1+N.ni+N.las.length+k∧l/2<1+N.ni+N.las.length+k
 la:∀(j:Nat) (x r:Nat),N.las[j]?=some (x,r)->x/2<N.nv∧r<=2
 bd:N.bad/2<N.nv
def GateOK (N:Ck)(σ:Nat->Bool): Prop:=σ 0=false∧∀(k g l:Nat),N.gts[k]?=some (g,l)->σ (1+N.ni+N.las.length+k)=(tr σ g&&tr σ l)
def code (N:Ck)(σ:Nat->Bool): Nat:=numL (λj=>σ (1+N.ni+j)) N.las.length
def codeI (N:Ck)(σ:Nat->Bool): Nat:=numL (λj=>σ (1+j)) N.ni
def trL (vs:List Bool)(x:Nat): Bool:=tr (λv=>vs.getD v false) x
def valL: List (Nat×Nat)->List Bool->List Bool
 | [],vs=>vs
 | (g,l) :: r,vs=>valL r (vs++[trL vs g&&trL vs l])
def baseV (N:Ck)(st inp:Nat): List Bool:=false :: ((List.range N.ni).map inp.testBit++(List.range N.las.length).map st.testBit)
def val (N:Ck)(st inp:Nat): Nat->Bool:=λv=>(valL N.gts (baseV N st inp)).getD v false
theorem valL_pre: ∀(gs:List (Nat×Nat))(vs:List Bool),∃e,valL gs vs=vs++e:=by
 intro gs
 induction gs with
 | nil=>intro vs;exact⟨[],by simp[valL]⟩
 | cons p r ih=>
  intro vs;obtain⟨g,l⟩:=p;unfold valL;obtain⟨e,he⟩:=ih (vs++[trL vs g&&trL vs l]);exact⟨(trL vs g&&trL vs l) :: e,by rw[he];simp⟩
theorem getD_app {vs e:List Bool}{v:Nat}(h:v<vs.length): (vs++e).getD v false=vs.getD v false:=by
 rw[l'r,l'r,l'e h]
theorem valL_gate: ∀(gs:List (Nat×Nat))(vs:List Bool),(∀(k g l:Nat),gs[k]?=some (g,l)->g/2<vs.length+k∧l/2<vs.length+k)->∀(k g l:Nat),gs[k]?=some (g,l)->(valL gs vs).getD (vs.length+k) false=(trL (valL gs vs) g&&trL (valL gs vs) l):=by
 intro gs
 induction gs with
 | nil=>intro vs _ k g l h;simp at h
 | cons p r ih=>
  intro vs hw k g l h;obtain⟨g0,l0⟩:=p;unfold valL
  cases k with
  | zero=>
   simp only[l'w,l'a,l'd]at h;obtain⟨rfl,rfl⟩:=h;have hb:=hw 0 g0 l0 rfl;obtain⟨e,he⟩:=valL_pre r (vs++[trL vs g0&&trL vs l0]);rw[he];have h1:((vs++[trL vs g0&&trL vs l0])++e).getD (vs.length+0) false=(trL vs g0&&trL vs l0):=by
    rw[getD_app (by simp),l'r];simp
   rw[h1];have h2:∀x,x/2<vs.length->trL ((vs++[trL vs g0&&trL vs l0])++e) x=trL vs x:=by
    intro x hx;unfold trL tr;simp only;rw[getD_app (by simp;omega),getD_app hx]
   rw[h2 g0 (by omega),h2 l0 (by omega)]
  | succ k=>
   simp only[l'x]at h;have:=ih (vs++[trL vs g0&&trL vs l0]) (λk' g' l' h'=>by
    have:=hw (k'+1) g' l' (by simpa using h');simp;omega) k g l h
   simp only[l'p,l'n,l'o,l'F]at this;rw[show vs.length+(k+1)=vs.length+1+k by omega];exact this
theorem baseV_len (N:Ck)(st inp:Nat): (baseV N st inp).length=1+N.ni+N.las.length:=by simp[baseV];omega
theorem val_ok {N:Ck}(W:CkW N)(st inp:Nat): GateOK N (val N st inp)∧(∀j,j<N.ni->val N st inp (1+j)=inp.testBit j)∧∀j,j<N.las.length->val N st inp (1+N.ni+j)=st.testBit j:=by
 obtain⟨e,he⟩:=valL_pre N.gts (baseV N st inp);have hl:=baseV_len N st inp;refine⟨⟨?_,?_⟩,?_,?_⟩
 ·unfold val;rw[he,getD_app (by omega)];rfl
 ·intro k g l h;have:=valL_gate N.gts (baseV N st inp) (λk g l h=>by rw[hl];exact W.gt k g l h) k g l h;rw[hl]at this;exact this
 ·intro j hj;unfold val;rw[he,getD_app (by omega),l'r];unfold baseV;rw[show 1+j=j+1 by omega,l'x,l'e (by simpa using hj)];simp[hj]
 ·intro j hj;unfold val;rw[he,getD_app (by omega),l'r];unfold baseV;rw[show 1+N.ni+j=(N.ni+j)+1 by omega,l'x,l'z (by simp)];simp[hj]
theorem val_uniq {N:Ck}(W:CkW N){σ τ:Nat->Bool}(h1:GateOK N σ)(h2:GateOK N τ)(hi:∀j,j<N.ni->σ (1+j) = τ (1+j))(hl:∀j,j<N.las.length->σ (1+N.ni+j) = τ (1+N.ni+j)): ∀v,v<N.nv->σ v = τ v:=by
 intro v
 induction v using Nat.strongRecOn with
 | _ v ih=>
  intro hv;unfold Ck.nv at hv ih
  by_cases e0:v=0
  ·subst e0;rw[h1.1,h2.1]
  ·by_cases e1:v<1+N.ni
   ·have:=hi (v-1) (by omega)
    rwa [show 1+(v-1)=v by omega]at this
   ·by_cases e2:v<1+N.ni+N.las.length
    ·have:=hl (v-1-N.ni) (by omega)
     rwa [show 1+N.ni+(v-1-N.ni)=v by omega]at this
    ·obtain⟨k,hk⟩:∃k,v=1+N.ni+N.las.length+k:=⟨v-(1+N.ni+N.las.length),by omega⟩;subst hk;obtain⟨⟨g,l⟩,hgl⟩:∃y,N.gts[k]?=some y:=⟨_,l'c (by omega)⟩;have hb:=W.gt k g l hgl;rw[h1.2 k g l hgl,h2.2 k g l hgl];unfold tr;rw[ih (g/2) (by omega) (by omega),ih (l/2) (by omega) (by omega)]
def nxt (N:Ck)(st inp:Nat): Nat:=numL (λj=>tr (val N st inp) (N.las.getD j (0,0)).1) N.las.length
def badS (N:Ck)(st inp:Nat): Bool:=tr (val N st inp) N.bad
theorem nxt_lt (N:Ck)(st inp:Nat): nxt N st inp<2^N.las.length:=numL_lt _ _
theorem of_gate {N:Ck}(W:CkW N){σ:Nat->Bool}(h:GateOK N σ): ∀x,x/2<N.nv->tr σ x=tr (val N (code N σ) (codeI N σ)) x:=by
 intro x hx;obtain⟨v1,v2,v3⟩:=val_ok W (code N σ) (codeI N σ);unfold tr;rw[val_uniq W h v1 (λj hj=>by rw[v2 j hj];unfold codeI;rw[numL_bit _ _ _ hj]) (λj hj=>by rw[v3 j hj];unfold code;rw[numL_bit _ _ _ hj]) _ hx]
theorem code_val {N:Ck}(W:CkW N){st inp:Nat}(hs:st<2^N.las.length): code N (val N st inp)=st:=by
 obtain⟨v1,v2,v3⟩:=val_ok W st inp;refine bit_ext (numL_lt _ _) hs λj hj=>?_;unfold code;rw[numL_bit _ _ _ hj];exact v3 j hj
theorem tr_even (σ:Nat->Bool)(v:Nat): tr σ (2*v) = σ v:=by
 unfold tr;rw[show 2*v/2=v by omega,show 2*v%2=0 by omega]
 cases σ v <;> rfl
theorem tr_xb (σ:Nat->Bool)(l b:Nat)(hb:b<2): tr σ (l ^^^ b)=(tr σ l != (b==1)):=by
 rcases (show b=0∨b=1 by omega) with rfl|rfl
 ·simp
 ·rw[tr_neg];cases tr σ l <;> rfl
theorem gateCl_mem (N:Ck): ∀(gs:List (Nat×Nat)) (k0:Nat)(σ:Nat->Bool),satT σ (gateCl N gs k0)↔∀(k g l:Nat),gs[k]?=some (g,l)->σ (1+N.ni+N.las.length+(k0+k))=(tr σ g&&tr σ l):=by
 intro gs
 induction gs with
 | nil=>intro k0 σ;simp[gateCl,satT]
 | cons p r ih=>
  intro k0 σ;obtain⟨g0,l0⟩:=p;have hlit:tr σ (N.lgt k0) = σ (1+N.ni+N.las.length+k0):=by unfold Ck.lgt;rw[tr_even]
  have h3:satT σ (gateCl N ((g0,l0) :: r) k0)↔(clT σ [N.lgt k0 ^^^ 1,g0]∧clT σ [N.lgt k0 ^^^ 1,l0]∧clT σ [N.lgt k0,g0 ^^^ 1,l0 ^^^ 1])∧satT σ (gateCl N r (k0+1)):=by
   rw[show gateCl N ((g0,l0) :: r) k0=[N.lgt k0 ^^^ 1,g0] :: [N.lgt k0 ^^^ 1,l0] :: [N.lgt k0,g0 ^^^ 1,l0 ^^^ 1] :: gateCl N r (k0+1) from rfl];unfold satT;simp only[l'I,forall_eq_or_imp];constructor
   ·rintro⟨a,b,c,d⟩;exact⟨⟨a,b,c⟩,d⟩
   ·rintro⟨⟨a,b,c⟩,d⟩;exact⟨a,b,c,d⟩
  have h4:(clT σ [N.lgt k0 ^^^ 1,g0]∧clT σ [N.lgt k0 ^^^ 1,l0]∧clT σ [N.lgt k0,g0 ^^^ 1,l0 ^^^ 1])↔σ (1+N.ni+N.las.length+k0)=(tr σ g0&&tr σ l0):=by
   unfold clT;simp only[l'I,List.not_mem_nil,or_false,exists_eq_or_imp,exists_eq_left,tr_neg,hlit]
   cases σ (1+N.ni+N.las.length+k0) <;> cases tr σ g0 <;> cases tr σ l0 <;> simp
  rw[h3,h4,ih (k0+1) σ];constructor
  ·rintro⟨a,b⟩ k g l h
   cases k with
   | zero=>
    simp only[l'w,l'a,l'd]at h;obtain⟨rfl,rfl⟩:=h;exact a
   | succ k=>
    have:=b k g l (by simpa using h)
    rwa [show k0+1+k=k0+(k+1) by omega]at this
  ·intro h;refine⟨h 0 g0 l0 rfl,λk g l hk=>?_⟩;have:=h (k+1) g l (by simpa using hk)
   rwa [show k0+(k+1)=k0+1+k by omega]at this
theorem gateCl_in {N:Ck}(W:CkW N): ∀(gs:List (Nat×Nat)) (k0:Nat),(∀(k g l:Nat),gs[k]?=some (g,l)->N.gts[k0+k]?=some (g,l))->∀c∈gateCl N gs k0,(∀x∈c,x<2*N.nv)∧c.length<most:=by
 have hm:most=1000000:=rfl;intro gs
 induction gs with
 | nil=>intro k0 _ c h;simp[gateCl]at h
 | cons p r ih=>
  intro k0 hg c hc;obtain⟨g0,l0⟩:=p;have h0:=hg 0 g0 l0 rfl;have hb:=W.gt _ _ _ h0;have hk:=(l'b.1 h0).1;have hl1:N.lgt k0<2*N.nv:=by unfold Ck.lgt Ck.nv;omega
  have hg1:g0<2*N.nv:=by unfold Ck.nv;omega
  have hg2:l0<2*N.nv:=by unfold Ck.nv;omega
  unfold gateCl at hc;simp only[l'I]at hc;rcases hc with rfl|rfl|rfl|hc
  ·refine⟨λx hx=>?_,by simp;omega⟩;simp only[l'I,List.not_mem_nil,or_false]at hx;rcases hx with rfl|rfl
   ·exact x1_lt hl1
   ·exact hg1
  ·refine⟨λx hx=>?_,by simp;omega⟩;simp only[l'I,List.not_mem_nil,or_false]at hx;rcases hx with rfl|rfl
   ·exact x1_lt hl1
   ·exact hg2
  ·refine⟨λx hx=>?_,by simp;omega⟩;simp only[l'I,List.not_mem_nil,or_false]at hx;rcases hx with rfl|rfl|rfl
   ·exact hl1
   ·exact x1_lt hg1
   ·exact x1_lt hg2
  ·exact ih (k0+1) (λk g l h=>by rw[show k0+1+k=k0+(k+1) by omega];exact hg (k+1) g l (by simpa using h)) c hc
theorem gateCl_len (N:Ck): ∀(gs:List (Nat×Nat)) (k0:Nat),(gateCl N gs k0).length=3*gs.length:=by
 intro gs
 induction gs with
 | nil=>intro k0;rfl
 | cons p r ih=>
  intro k0;obtain⟨g0,l0⟩:=p;simp only[gateCl,l'n,ih];omega
structure FrS (N:Ck)(F:Fr)(S:Nat->Prop):Prop where
 s:SOk N.nv F.s
 m:∀σ,satT σ F.s.clauses↔GateOK N σ∧S (code N σ)
theorem newFr_full {N:Ck}(W:CkW N)(hn:N.nv<=192): ∃F,newFrP N=some F∧F.own=[]∧F.s.conflicts=0∧F.s.clauses.length<=600∧FrS N F (λ_=>True):=by
 have hm:most=1000000:=rfl;have hnv:1<=N.nv:=by unfold Ck.nv;omega
 have hgl:N.gts.length<=192:=by unfold Ck.nv at hn;omega
 have hlen:=gateCl_len N N.gts 0;obtain⟨s,e1,e2,e3,e4,e5,e6,e7⟩:=addsP_full (n:=N.nv) ([1] :: gateCl N N.gts 0) ⟨(List.range N.nv).map λv=>decide (v<=N.ni+N.las.length),[],[],[],0⟩ (by simp) (by simp) (λl hl=>by
  rcases l'I.1 hl with rfl|h
  ·exact⟨λx hx=>by simp only[l'm]at hx;omega,by simp;omega⟩
  ·exact gateCl_in W N.gts 0 (λk g l h=>by simpa using h) l h) (by simp;omega)
 have hone:[1]∈s.clauses:=by
  unfold addsP at e1
  cases h:addP ⟨(List.range N.nv).map λv=>decide (v<=N.ni+N.las.length),[],[],[],0⟩ [1]with
  | none=>rw[h]at e1;simp at e1
  | some s1=>
   rw[h]at e1;simp only at e1;have hs1:[1]∈s1.clauses:=by
    unfold addP at h;split at h
    ·simp only[l'a]at h;rw[<-h];have:alwaysP (dist [1])=false:=by decide
     rw[if_neg (by rw[this];simp)];have:dist [1]=[1]:=by decide
     simp[this]
    ·simp at h
   obtain⟨f1,f2,f3,-,-,f4,f5,f6,-,-⟩:=addP_full (n:=N.nv) (s:=⟨(List.range N.nv).map λv=>decide (v<=N.ni+N.las.length),[],[],[],0⟩) (by simp) (by simp) (l:=[1]) (by simp;omega) (by simp;omega) (by simp;omega);rw[h]at f2;simp only[l'a]at f2;subst f2;obtain⟨s2,g1,g2,g3,g4,g5,g6,g7⟩:=addsP_full (n:=N.nv) (gateCl N N.gts 0) s1 (by rw[f3];simp) f6 (λl hl=>gateCl_in W N.gts 0 (λk g l h=>by simpa using h) l hl) (by simp at f5;omega);rw[e1]at g1;simp only[l'a]at g1;subst g1;exact g6 _ hs1
 refine⟨⟨s,[]⟩,?_,rfl,e3,by simp at e4;simp only;omega,⟨by rw[e2];simp,e5,by simp at e4;simp only;omega,⟨1,hone⟩⟩,?_⟩
 ·unfold newFrP;rw[e1]
 ·intro σ;simp only;rw[e7];unfold GateOK;have h1:satT σ ([1] :: gateCl N N.gts 0)↔tr σ 1=true∧satT σ (gateCl N N.gts 0):=by
   unfold satT clT;simp only[l'I,forall_eq_or_imp,l'm,exists_eq_left];simp
  have h2:tr σ 1=true↔σ 0=false:=by unfold tr;cases σ 0 <;> simp
  rw[h1,h2,gateCl_mem];simp[satT]
end Go.Ta
namespace Go.Ta
variable {N:Ck}
def ClW (N:Ck)(l:List Nat): Prop:=l.length<=N.las.length∧∀x∈l,x/2<N.las.length
def inS (st:Nat)(cl:List Nat): Prop:=clT st.testBit cl
theorem over_tr (σ:Nat->Bool){x:Nat}(hx:x/2<N.las.length): tr σ (N.lla (x/2) ^^^ (x%2))=tr (code N σ).testBit x:=by
 rw[tr_xb _ _ _ (Nat.mod_lt _ (by omega))];unfold Ck.lla;rw[tr_even];unfold tr;unfold code;rw[numL_bit _ _ _ hx];rcases Nat.mod_two_eq_zero_or_one x with h|h <;> rw[h] <;> cases σ (1+N.ni+x/2) <;> rfl
theorem over_cl (σ:Nat->Bool){cl:List Nat}(h:∀x∈cl,x/2<N.las.length): clT σ (overP N cl)↔inS (code N σ) cl:=by
 unfold inS clT overP;constructor
 ·rintro⟨y,hy,ht⟩;obtain⟨x,hx,rfl⟩:=List.mem_map.1 hy;exact⟨x,hx,by rw[<-over_tr σ (h x hx)];exact ht⟩
 ·rintro⟨x,hx,ht⟩;exact⟨_,List.mem_map.2 ⟨x,hx,rfl⟩,by rw[over_tr σ (h x hx)];exact ht⟩
theorem frAdd_full {F:Fr}{S:Nat->Prop}(x:FrS N F S){cl:List Nat}(hc:ClW N cl)(hL:N.las.length<=60)(hl:F.s.clauses.length<900000):
  ∃F',frAddP N F cl=some F'∧F'.own=F.own∧F'.s.conflicts=F.s.conflicts∧F'.s.clauses.length<=F.s.clauses.length+1∧FrS N F' (λst=>S st∧inS st cl):=by
 have hm:most=1000000:=rfl;have hob:∀y∈overP N cl,y<2*N.nv:=by
  intro y hy;obtain⟨x',hx',rfl⟩:=List.mem_map.1 hy;have h1:=hc.2 x' hx';have h2:N.lla (x'/2)<2*N.nv:=by unfold Ck.lla Ck.nv;omega
  rcases (show x'%2=0∨x'%2=1 by omega) with h|h
  ·rw[h];simpa using h2
  ·rw[h];exact x1_lt h2
 have hol:(overP N cl).length<most:=by have:=hc.1;simp[overP];omega
 obtain⟨s',e1,e2,-,-,e3,e4,e5,e6,e7⟩:=addP_full x.s.e x.s.c hob hol (by omega);refine⟨⟨s',F.own⟩,by unfold frAddP;rw[e1],rfl,e3,e4,⟨by rw[e2];exact x.s.e,e5,by simp only;omega,?_⟩,?_⟩
 ·obtain⟨l,hl'⟩:=x.s.u;exact⟨l,e6 _ hl'⟩
 ·intro σ;rw[e7,x.m,over_cl σ hc.2,and_assoc]
theorem getD_las {j x r:Nat}(h:N.las[j]?=some (x,r)): N.las.getD j (0,0)=(x,r):=by rw[l'r,h];rfl
theorem nxt_bit (st inp:Nat){j:Nat}(hj:j<N.las.length): (nxt N st inp).testBit j=tr (val N st inp) (N.las.getD j (0,0)).1:=by
 unfold nxt;rw[numL_bit _ _ _ hj]
theorem broken_tr (st inp:Nat){x:Nat}(hx:x/2<N.las.length): tr (val N st inp) (((N.las.getD (x/2) (0,0)).1 ^^^ 1) ^^^ (x%2)) = !tr (nxt N st inp).testBit x:=by
 rw[tr_xb _ _ _ (Nat.mod_lt _ (by omega)),tr_neg,<-nxt_bit st inp hx];unfold tr;rcases Nat.mod_two_eq_zero_or_one x with h|h <;> rw[h] <;> cases (nxt N st inp).testBit (x/2) <;> rfl
theorem broken_all (st inp:Nat){cl:List Nat}(h:∀x∈cl,x/2<N.las.length): (∀y∈brokenP N cl,tr (val N st inp) y=true)↔¬inS (nxt N st inp) cl:=by
 unfold inS clT brokenP;constructor
 ·rintro h1 ⟨x,hx,ht⟩;have:=h1 _ (List.mem_map.2 ⟨x,hx,rfl⟩);rw[broken_tr st inp (h x hx),ht]at this;simp at this
 ·intro h1 y hy;obtain⟨x,hx,rfl⟩:=List.mem_map.1 hy;rw[broken_tr st inp (h x hx)]
  cases ht:tr (nxt N st inp).testBit x with
  | false=>rfl
  | true=>exact absurd ⟨x,hx,ht⟩ h1
theorem broken_lt (W:CkW N){cl:List Nat}(h:∀x∈cl,x/2<N.las.length): ∀y∈brokenP N cl,y<2*N.nv:=by
 intro y hy;obtain⟨x,hx,rfl⟩:=List.mem_map.1 hy;obtain⟨⟨a,r⟩,ha⟩:∃z,N.las[x/2]?=some z:=⟨_,l'c (h x hx)⟩;have:=(W.la _ _ _ ha).1;rw[getD_las ha];simp only;have h2:a ^^^ 1<2*N.nv:=x1_lt (by omega);rcases (show x%2=0∨x%2=1 by omega) with h|h
 ·rw[h];simpa using h2
 ·rw[h];exact x1_lt h2
theorem against_w (st:Nat): ClW N (againstP N st):=by
 refine⟨by simp[againstP],?_⟩;intro x hx;simp only[againstP,List.mem_map,List.mem_range]at hx;obtain⟨j,hj,rfl⟩:=hx;have:st/2^j%2<2:=Nat.mod_lt _ (by omega);generalize st/2^j%2=b at *;omega
theorem against_in {st st':Nat}(h:st<2^N.las.length)(h':st'<2^N.las.length): inS st' (againstP N st)↔st'≠st:=by
 have key:∀j,tr st'.testBit (2*j+st/2^j%2)=(st'.testBit j != st.testBit j):=by
  intro j;rw[div_bit];unfold tr
  cases hb:st.testBit j with
  | true=>
   simp only[if_true];rw[show (2*j+1)/2=j by omega,show (2*j+1)%2=1 by omega]
   cases st'.testBit j <;> rfl
  | false=>
   simp only[l'y,if_false];rw[show (2*j+0)/2=j by omega,show (2*j+0)%2=0 by omega]
   cases st'.testBit j <;> rfl
 unfold inS clT againstP;constructor
 ·rintro⟨x,hx,ht⟩ e;obtain⟨j,hj,rfl⟩:=List.mem_map.1 hx;rw[key,e]at ht;simp at ht
 ·intro hne;apply Classical.byContradiction;intro hno;refine hne (bit_ext h' h λj hj=>?_);apply Classical.byContradiction;intro hb;exact hno ⟨_,List.mem_map.2 ⟨j,by simpa using hj,rfl⟩,by rw[key];simpa using hb⟩
theorem shortL_named (N:Ck): ∀(z:List (Nat×Bool))(b:Bool) (x:Nat),(x,true)∈z->x∈shortL N z b:=by
 intro z
 induction z with
 | nil=>intro b x h;simp at h
 | cons p r ih=>
  intro b x h;obtain⟨y,nm⟩:=p;unfold shortL;rcases l'I.1 h with e|h
  ·simp only[l'd]at e;obtain⟨rfl,rfl⟩:=e;simp
  ·split
   ·exact l'I.2 (.inr (ih b x h))
   ·split
    ·exact l'I.2 (.inr (ih false x h))
    ·exact ih b x h
theorem shortL_begin (N:Ck): ∀(z:List (Nat×Bool)) (x:Nat)(nm:Bool),(x,nm)∈z->beginsTrue N x=true->∃y∈shortL N z true,beginsTrue N y=true:=by
 intro z
 induction z with
 | nil=>intro x nm h;simp at h
 | cons p r ih=>
  intro x nm h hb;obtain⟨y,m⟩:=p;unfold shortL
  by_cases e1:m=true
  ·rw[if_pos e1]
   by_cases e2:beginsTrue N y=true
   ·exact⟨y,by simp,e2⟩
   ·rcases l'I.1 h with e|h
    ·simp only[l'd]at e;exact absurd (e.1 ▸ hb) e2
    ·obtain⟨y',h1,h2⟩:=ih x nm h hb;exact⟨y',by simp[h1],h2⟩
  ·rw[if_neg e1]
   by_cases e2:beginsTrue N y=true
   ·rw[if_pos (by simp[e2])];exact⟨y,by simp,e2⟩
   ·rw[if_neg (by simp[e2])];rcases l'I.1 h with e|h
    ·simp only[l'd]at e;exact absurd (e.1 ▸ hb) e2
    ·exact ih x nm h hb
theorem shortL_sub' (N:Ck): ∀(z:List (Nat×Bool))(b:Bool),(∀x∈shortL N z b,∃y,(x,y)∈z)∧(shortL N z b).length<=z.length:=by
 intro z
 induction z with
 | nil=>intro b;simp[shortL]
 | cons p r ih=>
  intro b;obtain⟨x,nm⟩:=p;have i1:=ih b;have i2:=ih false;unfold shortL;split
  ·refine⟨?_,by simp;exact i1.2⟩;intro y hy;rcases l'I.1 hy with rfl|hy
   ·exact⟨nm,by simp⟩
   ·obtain⟨q,hq⟩:=i1.1 y hy;exact⟨q,by simp[hq]⟩
  ·split
   ·refine⟨?_,by simp;exact i2.2⟩;intro y hy;rcases l'I.1 hy with rfl|hy
    ·exact⟨nm,by simp⟩
    ·obtain⟨q,hq⟩:=i2.1 y hy;exact⟨q,by simp[hq]⟩
   ·refine⟨?_,by have:=i1.2;simp;omega⟩;intro y hy;obtain⟨q,hq⟩:=i1.1 y hy;exact⟨q,by simp[hq]⟩
theorem placesP_len (l w:List Nat): (placesP l w).length=l.length:=by simp[placesP]
theorem short_sub {cl core:List Nat}: (∀x∈shortP N cl core,x∈cl)∧(shortP N cl core).length<=cl.length:=by
 have:=shortL_sub' N (cl.zip (placesP (brokenP N cl) core)) (!((cl.zip (placesP (brokenP N cl) core)).any λp=>p.2&&beginsTrue N p.1));refine⟨λx hx=>?_,?_⟩
 ·obtain⟨y,hy⟩:=this.1 x hx;exact (List.of_mem_zip hy).1
 ·have h1:=this.2;have h2:(cl.zip (placesP (brokenP N cl) core)).length<=cl.length:=by simp[List.length_zip];omega
  unfold shortP;simp only;omega
theorem short_w {cl core:List Nat}(h:ClW N cl): ClW N (shortP N cl core):=by
 obtain⟨h1,h2⟩:=short_sub (N:=N) (cl:=cl) (core:=core);exact⟨l'G h2 h.1,λx hx=>h.2 x (h1 x hx)⟩
theorem short_core {cl core:List Nat}{c:Nat}(hc:c∈core)(hb:c∈brokenP N cl): ∃x∈shortP N cl core,c=((N.las.getD (x/2) (0,0)).1 ^^^ 1) ^^^ (x%2):=by
 have first:∀(l:List Nat),c∈l->∃k,l[k]?=some c∧c∉l.take k:=by
  intro l
  induction l with
  | nil=>intro h;simp at h
  | cons a r ih=>
   intro h
   by_cases e:a=c
   ·exact⟨0,by simp[e],by simp⟩
   ·rcases l'I.1 h with h|h
    ·exact absurd h.symm e
    ·obtain⟨k,h1,h2⟩:=ih h;refine⟨k+1,by simpa using h1,?_⟩;simp only[List.take_succ_cons,l'I,not_or];exact⟨λh=>e h.symm,h2⟩
 obtain⟨k,hk1,hk2⟩:=first _ hb
 have hkl:=(l'b.1 hk1).1;have hlen:(brokenP N cl).length=cl.length:=by simp[brokenP]
 obtain⟨x,hx⟩:∃x,cl[k]?=some x:=⟨_,l'c (by omega)⟩;have hcx:c=((N.las.getD (x/2) (0,0)).1 ^^^ 1) ^^^ (x%2):=by
  unfold brokenP at hk1;rw[List.getElem?_map,hx]at hk1;simp only[l'l,l'a]at hk1;exact hk1.symm
 have hnm:(placesP (brokenP N cl) core)[k]?=some true:=by
  unfold placesP;rw[List.getElem?_map,List.getElem?_range (by omega)];simp only[l'l,hk1,l'a];simp[hc,hk2]
 refine⟨x,?_,hcx⟩;unfold shortP;simp only;refine shortL_named N _ _ x ?_;refine l'f (i:=k) ?_;rw[List.getElem?_zip_eq_some];exact⟨hx,hnm⟩
theorem short_begin {cl core:List Nat}{x:Nat}(hx:x∈cl)(hb:beginsTrue N x=true): ∃y∈shortP N cl core,beginsTrue N y=true:=by
 unfold shortP;simp only
 cases hany:(cl.zip (placesP (brokenP N cl) core)).any λp=>p.2&&beginsTrue N p.1 with
 | true=>
  rw[List.any_eq_true]at hany;obtain⟨⟨y,m⟩,h1,h2⟩:=hany;simp only[l'k]at h2;obtain⟨rfl,h3⟩:=h2;exact⟨y,shortL_named N _ _ y h1,h3⟩
 | false=>
  obtain⟨k,hk⟩:=l'i.1 hx;have hkl:=(l'b.1 hk).1;obtain⟨m,hm⟩:∃m,(placesP (brokenP N cl) core)[k]?=some m:=⟨_,l'c (by rw[placesP_len];simp[brokenP];exact hkl)⟩;have hz:(x,m)∈cl.zip (placesP (brokenP N cl) core):=by
   refine l'f (i:=k) ?_;rw[List.getElem?_zip_eq_some];exact⟨hk,hm⟩
  simp only[Bool.not_false];exact shortL_begin N _ x m hz hb
theorem begins_iff (st:Nat): beginsP N st=true↔∀(j x r:Nat),N.las[j]?=some (x,r)->r=2∨r=st/2^j%2:=by
 unfold beginsP;rw[l'D];constructor
 ·intro h j x r hj;have:=h ((x,r),j) (List.mem_zipIdx_iff_getElem?.2 hj);simpa using this
 ·rintro h ⟨⟨x,r⟩,j⟩ hm;have:=h j x r (List.mem_zipIdx_iff_getElem?.1 hm);simpa using this
theorem begins_lit (W:CkW N){st x:Nat}(hx:x/2<N.las.length)(hs:beginsP N st=true)(hb:beginsTrue N x=true): tr st.testBit x=true:=by
 obtain⟨⟨a,r⟩,ha⟩:∃z,N.las[x/2]?=some z:=⟨_,l'c hx⟩;have h1:=(begins_iff st).1 hs _ _ _ ha;have h3:=(W.la _ _ _ ha).2;unfold beginsTrue at hb;rw[getD_las ha]at hb;simp only[l'k,l'M]at hb;rw[div_bit]at h1;unfold tr;rcases Nat.mod_two_eq_zero_or_one x with h|h
 ·rw[h]at hb ⊢
  cases hbit:st.testBit (x/2) with
  | true=>rfl
  | false=>rw[hbit]at h1;simp at h1;omega
 ·rw[h]at hb ⊢
  cases hbit:st.testBit (x/2) with
  | true=>rw[hbit]at h1;simp at h1;omega
  | false=>rfl
theorem not_begins {st:Nat}(hs:¬beginsP N st=true): ∃x∈againstP N st,beginsTrue N x=true:=by
 apply Classical.byContradiction;intro hno;apply hs;rw[begins_iff];intro j x r hj;have hjl:=(l'b.1 hj).1;apply Classical.byContradiction;intro h;simp only[not_or]at h;refine hno ⟨2*j+st/2^j%2,by unfold againstP;exact List.mem_map.2 ⟨j,by simpa using hjl,rfl⟩,?_⟩;have hm:st/2^j%2<2:=Nat.mod_lt _ (by omega);unfold beginsTrue;generalize st/2^j%2=b at *;rw[show (2*j+b)/2=j by omega,show (2*j+b)%2=b by omega,getD_las hj];simp[h.1,h.2]
end Go.Ta
namespace Go.Ta
variable {N:Ck}
structure Hyp (N:Ck) (f m:Nat):Prop where
 W:CkW N
 n:N.nv<=61
 h4:2^(N.nv-1)<=8000
 L:N.las.length<=6
 f:N.nv<f
 m:rounds N.nv 1000<=m
theorem rounds_mono {n a b:Nat}(h:a<=b): rounds n a<=rounds n b:=by
 unfold rounds;have:2^n*(a+n+1)<=2^n*(b+n+1):=Nat.mul_le_mul_left _ (by omega);omega
theorem ask_full {f m:Nat}(Hy:Hyp N f m){bud:Int}(hbud:bud<=1152921504606846976){R:Rn}{level:Nat}{F:Fr}(hF:R.frames[level]?=some F){S:Nat->Prop}(x:FrS N F S)(hsp:R.spent<=bud)(hc:(F.s.conflicts:Int)<=R.spent){as:List Nat}(hab:∀l∈as,l<2*N.nv)(hal:as.length<=1000):
  ∃(R1:Rn) (a:Nat)(F':Fr),askP f m bud R level as=some (R1,a)∧R1.frames=R.frames.set level F'∧R1.way=R.way∧R1.kept=R.kept∧F'.own=F.own∧FrS N F' S∧F'.s.clauses=F.s.clauses∧R.spent<=R1.spent∧R1.spent<=R.spent+(2^N.nv:Nat)∧(F'.s.conflicts:Int)<=R1.spent∧(a=1∨a=2∨a=3)∧(a=3->bud<R1.spent)∧(a≠3->R1.spent<=bud)
   ∧ (a=1->(foundP N F'.s).1<2^N.las.length∧S (foundP N F'.s).1∧∀l∈as,tr (val N (foundP N F'.s).1 (foundP N F'.s).2) l=true)
   ∧ (a=2->F'.s.core.length<=1000∧(∀l∈F'.s.core,l∈as)∧∀st inp,st<2^N.las.length->S st->¬∀l∈F'.s.core,tr (val N st inp) l=true):=by
 have hm62:most62=4611686018427387904:=rfl;have hn0:0<N.nv:=by unfold Ck.nv;omega
 obtain⟨s',a,e1,e2,e3,e4,e5,e6,e7,e8,e9⟩:=solveP_full hn0 Hy.n Hy.h4 x.s hab hal (budget:=bud-R.spent) (by omega) (by omega) Hy.f (l'G (rounds_mono hal) Hy.m);have hL:=(l'b.1 hF).1;have fs':FrS N { F with s:=s' } S:=⟨⟨by simp only[e2];exact x.s.e,by simp only[e3];exact x.s.c,by simp only[e3];exact x.s.l,by simp only[e3];exact x.s.u⟩,by simp only[e3];exact x.m⟩;refine⟨{ R with spent:=R.spent+((s'.conflicts-F.s.conflicts:Nat):Int),frames:=R.frames.set level { F with s:=s' } },(if bud<R.spent+((s'.conflicts-F.s.conflicts:Nat):Int) then 3 else a),{ F with s:=s' },?_,rfl,rfl,rfl,rfl,fs',e3,by simp only;omega,by simp only;omega,by simp only;omega,?_,?_,?_,?_,?_⟩
 ·unfold askP;rw[hF];simp only[e1]
 ·split
  ·exact .inr (.inr rfl)
  ·exact e6
 ·intro h;simp only;split at h
  ·assumption
  ·have:=e9 h;omega
 ·intro h;simp only;split at h
  ·exact absurd rfl h
  ·omega
 ·intro h;have ha:a=1:=by
   split at h
   ·omega
   ·exact h
  obtain⟨σ,g1,g2,g3⟩:=e7 ha;simp only;have hg:=(x.m σ).1 g2;have hst:(foundP N s').1=code N σ:=by
   refine bit_ext (bitsP_lt' _ _ _) (numL_lt _ _) λj hj=>?_;unfold foundP code;simp only;rw[bitsP_bit _ _ _ _ hj,numL_bit _ _ _ hj,g1,l'r,List.getElem?_map,List.getElem?_range (by unfold Ck.nv;omega)];rfl
  have hin:(foundP N s').2=codeI N σ:=by
   refine bit_ext (bitsP_lt' _ _ _) (numL_lt _ _) λj hj=>?_;unfold foundP codeI;simp only;rw[bitsP_bit _ _ _ _ hj,numL_bit _ _ _ hj,g1,l'r,List.getElem?_map,List.getElem?_range (by unfold Ck.nv;omega)];rfl
  rw[hst,hin];refine⟨numL_lt _ _,hg.2,λl hl=>?_⟩;rw[<-of_gate Hy.W hg.1 l (by have:=hab l hl;omega)];exact g3 l hl
 ·intro h;have ha:a=2:=by
   split at h
   ·omega
   ·exact h
  obtain⟨g1,g2,g3⟩:=e8 ha;simp only;refine⟨g2,g1,λst inp hst hS hall=>?_⟩;refine g3 (val N st inp) ?_ hall;rw[x.m];exact⟨(val_ok Hy.W st inp).1,by rw[code_val Hy.W hst];exact hS⟩
theorem FrS.own {F:Fr}{S:Nat->Prop}(x:FrS N F S)(o:List (List Nat)): FrS N { F with own:=o } S:=⟨x.s,x.m⟩
theorem FrS.iff {F:Fr}{S S':Nat->Prop}(x:FrS N F S)(h:∀st,S st↔S' st): FrS N F S':=⟨x.s,λσ=>by rw[x.m σ,h]⟩
theorem filter_ne {α:Type}[BEq α][LawfulBEq α]{l:List α}{c:α}(h:c∉l): l.filter (λx=>x != c)=l:=by
 rw[List.filter_eq_self];intro a ha;have:a≠c:=λe=>h (e ▸ ha);simpa using this
theorem filter_lt {l:List (List Nat)}{c:List Nat}: (l.filter λx=>x != c).length<l.length↔c∈l:=by
 constructor
 ·intro h;apply Classical.byContradiction;intro hn;rw[filter_ne hn]at h;omega
 ·intro h;rcases Nat.lt_or_eq_of_le (List.length_filter_le (λx=>x != c) l) with h1|h1
  ·exact h1
  ·rw[List.length_filter_eq_length_iff]at h1;have:=h1 c h;simp at this
theorem learnRL_full (hL:N.las.length<=6){cl:List Nat}(hcl:ClW N cl): ∀(k:Nat)(fs:List Fr),k<fs.length->(∀(i:Nat)(F:Fr),i<=k->fs[i]?=some F->(∃S,FrS N F S)∧F.s.clauses.length<900000)->(∀(i j:Nat)(F G:Fr),fs[i]?=some F->fs[j]?=some G->cl∈F.own->cl∈G.own->i=j) ->
  ∃fs',learnRL N cl k fs=some fs'∧fs'.length=fs.length∧∀(i:Nat)(F:Fr),fs[i]?=some F->∃F':Fr,fs'[i]?=some F'∧F'.own=(if 1<=i∧i<=k then F.own.filter (λx=>x != cl) else F.own)∧F'.s.conflicts=F.s.conflicts∧F'.s.clauses.length<=F.s.clauses.length+1∧((F'.s=F.s∧(1<=i∧i<=k->∃(h:Nat)(G:Fr),i<=h∧h<=k∧fs[h]?=some G∧cl∈G.own))∨(1<=i∧i<=k∧∀S,FrS N F S->FrS N F' (λst=>S st∧inS st cl))):=by
 intro k
 induction k with
 | zero=>
  intro fs hk hf hu;refine⟨fs,rfl,rfl,λi F hF=>⟨F,hF,by rw[if_neg (by omega)],rfl,by omega,.inl ⟨rfl,λh=>by omega⟩⟩⟩
 | succ k ih=>
  intro fs hk hf hu;obtain⟨F,hF⟩:∃F,fs[k+1]?=some F:=⟨_,l'c hk⟩;unfold learnRL;rw[hF];simp only
  by_cases hlt:(F.own.filter λx=>x != cl).length<F.own.length
  ·rw[if_pos hlt];have hin:=filter_lt.1 hlt;refine⟨_,rfl,by simp,λi Fi hFi=>?_⟩
   by_cases e:i=k+1
   ·subst e;rw[hF]at hFi;simp only[l'a]at hFi;subst hFi;exact⟨_,l'g hk,by rw[if_pos (by omega)],rfl,by simp only;omega,.inl ⟨rfl,λ_=>⟨k+1,F,l'H _,l'H _,hF,hin⟩⟩⟩
   ·refine⟨Fi,by rw[l'h (λh=>e h.symm)];exact hFi,?_,rfl,by omega,.inl ⟨rfl,λh=>⟨k+1,F,by omega,l'H _,hF,hin⟩⟩⟩;split
    ·rw[filter_ne];intro hm;exact e (hu i (k+1) Fi F hFi hF hm hin)
    ·rfl
  ·rw[if_neg hlt];have hnin:cl∉F.own:=λh=>hlt (filter_lt.2 h);rw[filter_ne hnin];obtain⟨⟨S,hS⟩,hcl9⟩:=hf (k+1) F (l'H _) hF;obtain⟨F1,e1,e2,e3,e4,-⟩:=frAdd_full hS hcl (by omega) hcl9;have hadd:∀S,FrS N F S->FrS N F1 (λst=>S st∧inS st cl):=by
    intro S' hS';obtain⟨F2,g1,-,-,-,g5⟩:=frAdd_full hS' hcl (by omega) hcl9;rw[e1]at g1;simp only[l'a]at g1;subst g1;exact g5
   rw[show (⟨F.s,F.own⟩:Fr)=F from rfl,e1];simp only;have hset:∀(i:Nat),i≠k+1->(fs.set (k+1) F1)[i]?=fs[i]?:=λi h=>l'h (λe=>h e.symm);have hself:(fs.set (k+1) F1)[k+1]?=some F1:=l'g hk;obtain⟨fs',f1,f2,f3⟩:=ih (fs.set (k+1) F1) (by simp;omega) (λi G hi hG=>by
    rw[hset i (by omega)]at hG;exact hf i G (by omega) hG) (λi j G G' hG hG' h1 h2=>by
    have tr:∀(i:Nat)(G:Fr),(fs.set (k+1) F1)[i]?=some G->cl∈G.own->∃G0,fs[i]?=some G0∧cl∈G0.own:=by
     intro i G hG h
     by_cases e:i=k+1
     ·subst e;rw[hself]at hG;simp only[l'a]at hG;subst hG;exact⟨F,hF,by rw[<-e2];exact h⟩
     ·rw[hset i e]at hG;exact⟨G,hG,h⟩
    obtain⟨A,a1,a2⟩:=tr i G hG h1;obtain⟨B,b1,b2⟩:=tr j G' hG' h2;exact hu i j A B a1 b1 a2 b2)
   refine⟨fs',f1,by rw[f2];simp,λi Fi hFi=>?_⟩
   by_cases e:i=k+1
   ·subst e;rw[hF]at hFi;simp only[l'a]at hFi;subst hFi;obtain⟨F',g1,g2,g3,g4,g5⟩:=f3 (k+1) F1 hself;rw[if_neg (by omega)]at g2;have hs:F'.s=F1.s:=by
     rcases g5 with ⟨h,-⟩|⟨-,h,-⟩
     ·exact h
     ·omega
    refine⟨F',g1,by rw[if_pos (by omega),filter_ne hnin,g2,e2],by rw[g3,e3],by rw[hs];omega,.inr ⟨by omega,l'H _,λS' hS'=>?_⟩⟩;have h:=hadd S' hS';exact⟨by rw[hs];exact h.s,by rw[hs];exact h.m⟩
   ·obtain⟨F',g1,g2,g3,g4,g5⟩:=f3 i Fi (by rw[hset i e];exact hFi);have hif:(1<=i∧i<=k)↔(1<=i∧i<=k+1):=by omega
    refine⟨F',g1,by simp only[hif]at g2;exact g2,g3,g4,?_⟩;rcases g5 with ⟨h1,h2⟩|⟨h1,h2,h3⟩
    ·refine .inl ⟨h1,λh=>?_⟩;obtain⟨h',G,q1,q2,q3,q4⟩:=h2 (by omega);rw[hset h' (by omega)]at q3;exact⟨h',G,q1,by omega,q3,q4⟩
    ·exact .inr ⟨h1,by omega,h3⟩
end Go.Ta
namespace Go.Ta
variable {N:Ck}
def inB (st:Nat)(cl:List Nat): Bool:=cl.any λx=>tr st.testBit x
theorem inB_iff {st:Nat}{cl:List Nat}: inB st cl=true↔inS st cl:=by
 unfold inB inS clT;rw[List.any_eq_true]
def ownB (fs:List Fr)(i st:Nat): Bool:=(fs.drop i).all λF=>F.own.all (inB st)
theorem ownB_iff {fs:List Fr}{i st:Nat}: ownB fs i st=true↔∀(k:Nat)(F:Fr),i<=k->fs[k]?=some F->∀cl∈F.own,inS st cl:=by
 unfold ownB;rw[l'D];constructor
 ·intro h k F hk hF cl hcl;have:=h F (l'i.2 ⟨k-i,by rw[List.getElem?_drop,show i+(k-i)=k by omega];exact hF⟩);rw[l'D]at this;exact inB_iff.1 (this cl hcl)
 ·intro h F hF;obtain⟨j,hj⟩:=l'i.1 hF;rw[List.getElem?_drop]at hj;rw[l'D];intro cl hcl;exact inB_iff.2 (h (i+j) F (by omega) hj cl hcl)
theorem ownB_mono {fs:List Fr}{i j st:Nat}(h:i<=j)(x:ownB fs i st=true): ownB fs j st=true:=by
 rw[ownB_iff]at x ⊢;exact λk F hk hF=>x k F (by omega) hF
def Sx (N:Ck)(fs:List Fr)(i st:Nat): Prop:=if i=0 then beginsP N st=true else ownB fs i st=true
def card (N:Ck)(fs:List Fr)(i:Nat): Nat:=(List.range (2^N.las.length)).countP λst=>ownB fs i st
def wsum (g w:Nat->Nat): Nat->Nat
 | 0=>0
 | n+1=>wsum g w n+g n*w n
def ind (j:Nat)(i:Nat): Nat:=if i=j then 1 else 0
theorem wsum_le {g g' u d w:Nat->Nat}: ∀n,(∀i,i<n->g' i+d i<=g i+u i)->wsum g' w n+wsum d w n<=wsum g w n+wsum u w n:=by
 intro n
 induction n with
 | zero=>intro _;simp[wsum]
 | succ n ih=>
  intro h;have h1:=ih (λi hi=>h i (by omega));have h2:=Nat.mul_le_mul_right (w n) (h n (by omega));rw[Nat.add_mul,Nat.add_mul]at h2;simp only[wsum];omega
theorem wsum_ind (w:Nat->Nat)(j:Nat): ∀n,wsum (ind j) w n=if j<n then w j else 0:=by
 intro n
 induction n with
 | zero=>simp[wsum]
 | succ n ih=>
  simp only[wsum,ih,ind]
  by_cases e:n=j
  ·subst e;simp
  ·by_cases h:j<n
   ·rw[if_pos h,if_neg e,if_pos (by omega)];omega
   ·rw[if_neg h,if_neg e,if_neg (by omega)];omega
theorem wsum_zero (w:Nat->Nat): ∀n,wsum (λ_=>0) w n=0:=by
 intro n
 induction n with
 | zero=>rfl
 | succ n ih=>simp[wsum,ih]
theorem wsum_congr {g g' w:Nat->Nat}: ∀n,(∀i,i<n->g' i=g i)->wsum g' w n=wsum g w n:=by
 intro n
 induction n with
 | zero=>intro _;rfl
 | succ n ih=>intro h;simp only[wsum,ih (λi hi=>h i (by omega)),h n (by omega)]
theorem wsum_one {g w:Nat->Nat}{j:Nat}: ∀n,j<n->g j*w j<=wsum g w n:=by
 intro n
 induction n with
 | zero=>intro h;omega
 | succ n ih=>
  intro h;simp only[wsum]
  by_cases e:j=n
  ·subst e;omega
  ·have:=ih (by omega);omega
def olen (fs:List Fr)(i:Nat): Nat:=(fs[i]?.map (·.own.length)).getD 0
def psi (N:Ck)(fs:List Fr): Nat:=wsum (λi=>if i=0 then 0 else card N fs i) (λ_=>1) fs.length
def VP (N:Ck)(FM:Nat)(fs:List Fr): Nat:=(psi N fs+(FM-fs.length)*2^N.las.length)*(FM+2)+wsum (olen fs) (λi=>FM-i) fs.length
structure RI (N:Ck) (FM:Nat)(R:Rn):Prop where
 fi:∀(i:Nat)(F:Fr),R.frames[i]?=some F->FrS N F (Sx N R.frames i)
 ps:0<R.frames.length
 fl:R.frames.length<=FM
 o0:∀F:Fr,R.frames[0]?=some F->F.own=[]
 cw:∀(i:Nat)(F:Fr),R.frames[i]?=some F->∀cl∈F.own,ClW N cl
 nd:∀(i:Nat)(F:Fr),R.frames[i]?=some F->F.own.Nodup
 dj:∀(i j:Nat)(F G:Fr),R.frames[i]?=some F->R.frames[j]?=some G->∀cl,cl∈F.own->cl∈G.own->i=j
 ini:∀st,st<2^N.las.length->beginsP N st=true->ownB R.frames 1 st=true
 stp:∀i st inp,st<2^N.las.length->Sx N R.frames i st->ownB R.frames (i+1) (nxt N st inp)=true
 cf:∀(i:Nat)(F:Fr),R.frames[i]?=some F->(F.s.conflicts:Int)<=R.spent
 sp:0<=R.spent
def cc (N:Ck)(R:Rn)(b:Nat): Prop:=∀(i:Nat)(F:Fr),R.frames[i]?=some F->F.s.clauses.length<=b
theorem RI.mono {FM:Nat}{R:Rn}(x:RI N FM R){i j st:Nat}(h:i<=j)(hs:st<2^N.las.length)(hx:Sx N R.frames i st): Sx N R.frames j st:=by
 unfold Sx at hx ⊢
 by_cases e:i=0
 ·rw[if_pos e]at hx
  by_cases e2:j=0
  ·rw[if_pos e2];exact hx
  ·rw[if_neg e2];exact ownB_mono (by omega) (x.ini st hs hx)
 ·rw[if_neg e]at hx;rw[if_neg (by omega)];exact ownB_mono h hx
theorem olen_at {fs:List Fr}{i:Nat}{F:Fr}(h:fs[i]?=some F): olen fs i=F.own.length:=by simp[olen,h]
theorem VP_own {FM:Nat}{fs:List Fr}{i:Nat}{F:Fr}(h:fs[i]?=some F)(hl:fs.length<=FM): F.own.length<=VP N FM fs:=by
 have hi:=(l'b.1 h).1;have h1:=wsum_one (g:=olen fs) (w:=λi=>FM-i) (j:=i) fs.length hi;rw[olen_at h]at h1;have h2:F.own.length*1<=F.own.length*(FM-i):=Nat.mul_le_mul_left _ (by omega);unfold VP;omega
structure LrO (N:Ck)(fs fs':List Fr) (lv:Nat)(cl:List Nat):Prop where
 len:fs'.length=fs.length
 lo:∀i st,1<=i->i<=lv->ownB fs' i st=(ownB fs i st&&inB st cl)
 hi:∀i st,lv<i->ownB fs' i st=ownB fs i st
 ow:∀(i:Nat)(F:Fr),fs[i]?=some F->∃F':Fr,fs'[i]?=some F'∧F'.own=(if i=lv then F.own++[cl] else F.own.filter (λx=>x != cl))∧F'.s.conflicts=F.s.conflicts∧F'.s.clauses.length<=F.s.clauses.length+1
theorem learn_run {FM:Nat}{R:Rn}(hL:N.las.length<=6)(x:RI N FM R){b:Nat}(hc:cc N R b)(hb:b<900000)(hv:VP N FM R.frames<=900000){lv:Nat}(h1:1<=lv)(h2:lv<R.frames.length){cl:List Nat}(hcl:ClW N cl)(hno:∀(k:Nat)(F:Fr),lv<=k->R.frames[k]?=some F->cl∉F.own)(hin:∀st,st<2^N.las.length->beginsP N st=true->inS st cl)(hst:∀st inp,st<2^N.las.length->Sx N R.frames (lv-1) st->inS (nxt N st inp) cl):
  ∃R1,learnRP N R lv cl=some R1∧R1.way=R.way∧R1.kept=R.kept∧R1.spent=R.spent∧LrO N R.frames R1.frames lv cl∧RI N FM R1:=by
 have hm:most=1000000:=rfl;obtain⟨fs',e1,e2,e3⟩:=learnRL_full hL hcl lv R.frames h2 (λi F _ hF=>⟨⟨_,x.fi i F hF⟩,by have:=hc i F hF;omega⟩) (λi j F G hF hG a b=>x.dj i j F G hF hG cl a b);obtain⟨Fl,hFl⟩:∃F,R.frames[lv]?=some F:=⟨_,l'c h2⟩;obtain⟨Fl',g1,g2,g3,g4,g5⟩:=e3 lv Fl hFl;rw[if_pos ⟨h1,l'H _⟩,filter_ne (hno lv Fl (l'H _) hFl)]at g2;have hol:Fl'.own.length<most:=by
  have:=VP_own (N:=N) hFl x.fl;rw[g2];omega
 have hl':lv<fs'.length:=by omega
 obtain⟨fr,hfr⟩:∃fr,fr=fs'.set lv { Fl' with own:=Fl'.own++[cl] }:=⟨_,rfl⟩;have hget:∀(i:Nat)(F:Fr),R.frames[i]?=some F->∃F':Fr,fr[i]?=some F'∧F'.own=(if i=lv then F.own++[cl] else F.own.filter (λx=>x != cl))∧F'.s.conflicts=F.s.conflicts∧F'.s.clauses.length<=F.s.clauses.length+1∧((F'.s=F.s∧(1<=i∧i<=lv->∃(h:Nat)(G:Fr),i<=h∧h<=lv∧R.frames[h]?=some G∧cl∈G.own))∨(1<=i∧i<=lv∧∀S,FrS N F S->FrS N F' (λst=>S st∧inS st cl))):=by
  intro i F hF
  by_cases e:i=lv
  ·subst e;rw[hFl]at hF;simp only[l'a]at hF;subst hF;refine⟨{ Fl' with own:=Fl'.own++[cl] },by rw[hfr];exact l'g hl',by rw[if_pos rfl,g2],g3,g4,?_⟩;rcases g5 with h|⟨a,b,c⟩
   ·exact .inl h
   ·exact .inr ⟨a,b,λS hS=>(c S hS).own _⟩
  ·obtain⟨F',q1,q2,q3,q4,q5⟩:=e3 i F hF;refine⟨F',by rw[hfr,l'h (λh=>e h.symm)];exact q1,?_,q3,q4,q5⟩;rw[if_neg e,q2];split
   ·rfl
   ·rename_i hni
    rw[filter_ne];rcases Nat.lt_or_ge i lv with h|h
    ·have:i=0:=by omega
     subst this;rw[x.o0 F hF];simp
    ·exact hno i F h hF
 have hlen:fr.length=R.frames.length:=by rw[hfr];simp[e2]
 have hback:∀(i:Nat)(F':Fr),fr[i]?=some F'->∃F:Fr,R.frames[i]?=some F∧F'.own=(if i=lv then F.own++[cl] else F.own.filter (λx=>x != cl))∧F'.s.conflicts=F.s.conflicts∧F'.s.clauses.length<=F.s.clauses.length+1∧((F'.s=F.s∧(1<=i∧i<=lv->∃(h:Nat)(G:Fr),i<=h∧h<=lv∧R.frames[h]?=some G∧cl∈G.own))∨(1<=i∧i<=lv∧∀S,FrS N F S->FrS N F' (λst=>S st∧inS st cl))):=by
  intro i F' hF';have hi:=(l'b.1 hF').1;obtain⟨F,hF⟩:∃F,R.frames[i]?=some F:=⟨_,l'c (by omega)⟩;obtain⟨F2,q1,q2⟩:=hget i F hF;rw[hF']at q1;simp only[l'a]at q1;subst q1;exact⟨F,hF,q2⟩
 have lo:∀i st,i<=lv->ownB fr i st=(ownB R.frames i st&&inB st cl):=by
  intro i st hi;rw[Bool.eq_iff_iff,l'k,ownB_iff,ownB_iff,inB_iff];constructor
  ·intro h;have hclS:inS st cl:=by
    obtain⟨F',q1,q2,-⟩:=hget lv Fl hFl;exact h lv F' hi q1 cl (by rw[q2,if_pos rfl];simp)
   refine⟨λk F hk hF c hcF=>?_,hclS⟩
   by_cases e:c=cl
   ·rw[e];exact hclS
   ·obtain⟨F',q1,q2,-⟩:=hget k F hF;refine h k F' hk q1 c ?_;rw[q2];split
    ·simp[hcF]
    ·exact List.mem_filter.2 ⟨hcF,by simpa using e⟩
  ·rintro⟨h,hclS⟩ k F' hk hF' c hc;obtain⟨F,q1,q2,-⟩:=hback k F' hF';rw[q2]at hc;split at hc
   ·simp only[l'E,l'm]at hc;rcases hc with h3|rfl
    ·exact h k F hk q1 c h3
    ·exact hclS
   ·exact h k F hk q1 c (List.mem_filter.1 hc).1
 have hi:∀i st,lv<i->ownB fr i st=ownB R.frames i st:=by
  intro i st hlt;rw[Bool.eq_iff_iff,ownB_iff,ownB_iff];constructor
  ·intro h k F hk hF c hc;obtain⟨F',q1,q2,-⟩:=hget k F hF;refine h k F' hk q1 c ?_;rw[q2,if_neg (by omega)];refine List.mem_filter.2 ⟨hc,?_⟩;have:c≠cl:=λe=>hno k F (by omega) hF (e ▸ hc);simpa using this
  ·intro h k F' hk hF' c hc;obtain⟨F,q1,q2,-⟩:=hback k F' hF';rw[q2,if_neg (by omega)]at hc;exact h k F hk q1 c (List.mem_filter.1 hc).1
 refine⟨{ R with frames:=fr },?_,rfl,rfl,rfl,⟨hlen,λi st _ h=>lo i st h,hi,λi F hF=>?_⟩,?_⟩
 ·unfold learnRP;rw[e1];simp only[g1];rw[if_pos hol,hfr]
 ·obtain⟨F',q1,q2,q3,q4,-⟩:=hget i F hF;exact⟨F',q1,q2,q3,q4⟩
 ·refine⟨?_,by simp only;rw[hlen];exact x.ps,by simp only;rw[hlen];exact x.fl,?_,?_,?_,?_,?_,?_,?_,x.sp⟩
  ·intro i F' hF';obtain⟨F,q1,q2,q3,q4,q5⟩:=hback i F' hF';have hS:=x.fi i F q1;simp only;rcases q5 with ⟨hs,hh⟩|⟨a1,a2,a3⟩
   ·have h0:FrS N F' (Sx N R.frames i):=⟨by rw[hs];exact hS.s,by rw[hs];exact hS.m⟩;refine h0.iff λst=>?_;unfold Sx
    by_cases e0:i=0
    ·simp[e0]
    ·simp only[e0,if_false]
     by_cases hle:i<=lv
     ·rw[lo i st hle];obtain⟨h',Gh,p1,p2,p3,p4⟩:=hh ⟨by omega,hle⟩;rw[l'k];exact⟨λh=>⟨h,inB_iff.2 (ownB_iff.1 h h' Gh p1 p3 cl p4)⟩,λh=>h.1⟩
     ·rw[hi i st (by omega)]
   ·refine (a3 _ hS).iff λst=>?_;unfold Sx;rw[if_neg (by omega),if_neg (by omega),lo i st a2,l'k,inB_iff]
  ·intro F' hF';obtain⟨F,q1,q2,-⟩:=hback 0 F' hF';rw[q2,if_neg (by omega),x.o0 F q1];rfl
  ·intro i F' hF' c hc;obtain⟨F,q1,q2,-⟩:=hback i F' hF';rw[q2]at hc;split at hc
   ·simp only[l'E,l'm]at hc;rcases hc with h|rfl
    ·exact x.cw i F q1 c h
    ·exact hcl
   ·exact x.cw i F q1 c (List.mem_filter.1 hc).1
  ·intro i F' hF';obtain⟨F,q1,q2,-⟩:=hback i F' hF';have h:=x.nd i F q1;rw[q2];split
   ·rename_i e
    rw[List.nodup_append];refine⟨h,by simp,λa ha b hb=>?_⟩;simp only[l'm]at hb;subst hb;exact λe2=>hno i F (by omega) q1 (e2 ▸ ha)
   ·exact List.Nodup.sublist List.filter_sublist h
  ·intro i j F' G' hF' hG' c hcF hcG;obtain⟨F,q1,q2,-⟩:=hback i F' hF';obtain⟨G,p1,p2,-⟩:=hback j G' hG';rw[q2]at hcF;rw[p2]at hcG
   by_cases ec:c=cl
   ·subst ec;have hi':i=lv:=by
     apply Classical.byContradiction;intro hne;rw[if_neg hne]at hcF;have:=(List.mem_filter.1 hcF).2;simp at this
    have hj':j=lv:=by
     apply Classical.byContradiction;intro hne;rw[if_neg hne]at hcG;have:=(List.mem_filter.1 hcG).2;simp at this
    rw[hi',hj']
   ·have mF:c∈F.own:=by
     split at hcF
     ·simpa [ec]using hcF
     ·exact (List.mem_filter.1 hcF).1
    have mG:c∈G.own:=by
     split at hcG
     ·simpa [ec]using hcG
     ·exact (List.mem_filter.1 hcG).1
    exact x.dj i j F G q1 p1 c mF mG
  ·intro st hs hb;simp only;rw[lo 1 st h1,l'k];exact⟨x.ini st hs hb,inB_iff.2 (hin st hs hb)⟩
  ·intro i st inp hs hS;simp only at hS ⊢;have hS0:Sx N R.frames i st:=by
    unfold Sx at hS ⊢
    by_cases e0:i=0
    ·simp only[e0,if_true]at hS ⊢;exact hS
    ·simp only[e0,if_false]at hS ⊢
     by_cases hle:i<=lv
     ·rw[lo i st hle,l'k]at hS;exact hS.1
     ·rw[hi i st (by omega)]at hS;exact hS
   have h3:=x.stp i st inp hs hS0
   by_cases hle:i+1<=lv
   ·rw[lo (i+1) _ hle,l'k];exact⟨h3,inB_iff.2 (hst st inp hs (x.mono (by omega) hs hS0))⟩
   ·rw[hi (i+1) _ (by omega)];exact h3
  ·intro i F' hF';obtain⟨F,q1,-,q3,-⟩:=hback i F' hF';rw[q3];exact x.cf i F q1
end Go.Ta
