import Derived.Test.YtimdkminagnhgaaGreatDoorQ39
import Derived.Test.YtimdkminagnhgaaGreatDoorQ25
set_option linter.all false
namespace Go.Ta
variable {n D:Nat}{G:List (List Nat)}{q q':Srch}
structure BlI (n:Nat)(G:List (List Nat)) (D:Nat)(q:Srch) (a:Nat)(ls:List Nat):Prop where
 t:TI n G D q
 c:CI n G q.clauses
 vm:VM q
 mb:∀v,mkd q v=true->lev q v≠0∧∃i l:Nat,q.trail[i]?=some l∧l/2=v
 cl:∀m∈ls,cld q m
 cs:∀(i l:Nat),a<=i->q.trail[i]?=some l->mkd q (l/2)=true->l∈q.core∨∃(k:Nat)(c:Cl),rsn q (l/2)=some k∧q.clauses[k]?=some c∧∀m∈c.lits,cld q m
 co:∀l∈q.core,∃i:Nat,q.trail[i]?=some l∧i∈q.starts∧lv q.starts i≠0
 cn:q.core.length+a<=q.trail.length
structure SV3 (q q':Srch):Prop where
 eq:q' = { q with vars:=q'.vars,core:=q'.core }
 len:q'.vars.length=q.vars.length
theorem SV3.trans {q1 q2 q3:Srch}(a:SV3 q1 q2)(b:SV3 q2 q3): SV3 q1 q3:=⟨by rw[b.eq,a.eq],by rw[b.len,a.len]⟩
theorem L'G (hn:n<=192){ls:List Nat}: ∀(a:Nat)(q:Srch),a<=q.trail.length->BlI n G D q a ls->∃q1,D'J (q.trail.take a).reverse q=some q1∧SV3 q q1∧BlI n G D q1 0 ls:=by
 have hm:most=1000000:=rfl;intro a
 induction a with
 | zero=>intro q _ x;exact⟨q,by simp[D'J],⟨rfl,rfl⟩,x⟩
 | succ a ih=>
  intro q ha x;obtain⟨l,hl⟩:∃l,q.trail[a]?=some l:=⟨_,l'c (by omega)⟩;obtain⟨v,hv,hvl,hvr⟩:=x.t.lr a l hl;have hmk:mkd q (l/2)=v.marked:=by simp[mkd,hv]
  have hrs:rsn q (l/2)=v.reason:=by simp[rsn,hv]
  have hlev:=(x.t.at hl).1;have htl:=x.t.len;have hcn:=x.cn;rw[D's hl,List.reverse_append];simp only[List.reverse_cons,List.reverse_nil,List.nil_append,List.singleton_append];unfold D'J;rw[hv];simp only
  by_cases em:v.marked=true
  ·rw[if_pos em]
   cases hr:v.reason with
   | none=>
    simp only;rw[if_pos (by omega)];rw[hr]at hvr hrs;have hne:=(x.mb _ (by rw[hmk];exact em)).1;rw[hlev]at hne;have hst:a∈q.starts:=by
     rcases hvr with h|h
     ·exact h
     ·exact absurd h hne
    have x1:BlI n G D { q with core:=q.core++[l] } a ls:=by
     refine⟨⟨x.t.hl,x.t.vl,x.t.tb,x.t.tn,x.t.hh,x.t.ss,x.t.sd,x.t.dt,x.t.lr,x.t.l0⟩,x.c,x.vm,x.mb,x.cl,?_,?_,by simp;omega⟩
     ·intro i l' hi hl' hm'
      by_cases e:i=a
      ·subst e;simp only at hl';rw[hl]at hl';simp only[l'a]at hl';subst hl';left;simp
      ·rcases x.cs i l' (by omega) hl' hm' with h|h
       ·left;simp[h]
       ·exact .inr h
     ·intro l' hl';simp only[l'E,l'm]at hl';rcases hl' with h|rfl
      ·exact x.co l' h
      ·exact⟨a,hl,hst,hne⟩
    obtain⟨q1,e1,s1,b1⟩:=ih { q with core:=q.core++[l] } (by simp only;omega) x1;exact⟨q1,e1,⟨by rw[s1.eq],by rw[s1.len]⟩,b1⟩
   | some k=>
    rw[hr]at hvr hrs;obtain⟨-,c,hc,hlc,hoth⟩:=hvr;obtain⟨cb,-⟩:=x.c k c hc;obtain⟨q1,m,e1,mr,vm1,-⟩:=E'H c.lits q (λy hy=>by rw[x.t.vl];have:=cb y hy;omega) x.vm;obtain⟨sv,hmk1⟩:=mr.sv;simp only[hc,e1];have htr:q1.trail=q.trail:=by rw[mr.eq]
    have hst:q1.starts=q.starts:=by rw[mr.eq]
    have hcl:q1.clauses=q.clauses:=by rw[mr.eq]
    have hco:q1.core=q.core:=by rw[mr.eq]
    have cldm:∀m,cld q m->cld q1 m:=λm h=>by
     rcases h with h|h
     ·exact .inl ((hmk1 _).2 (.inl h))
     ·exact .inr (by rw[sv.lv];exact h)
    have x1:BlI n G D q1 a ls:=by
     refine⟨x.t.mr mr,by rw[hcl];exact x.c,vm1,?_,λm hm=>cldm m (x.cl m hm),?_,?_,by rw[hco,htr];omega⟩
     ·intro v' hv';rw[sv.lv,htr];rcases (hmk1 v').1 hv' with h|⟨h,y,hy,rfl⟩
      ·exact x.mb v' h
      ·refine⟨h,?_⟩
       by_cases e:y=l
       ·subst e;exact⟨a,y,hl,rfl⟩
       ·obtain⟨j,hj⟩:=l'i.1 (List.mem_of_mem_take (hoth y hy e));exact⟨j,_,hj,B'9 y⟩
     ·intro i l' hi hl' hm';rw[htr]at hl';rw[hcl,sv.rs,hco]
      by_cases e:i=a
      ·subst e;rw[hl]at hl';simp only[l'a]at hl';subst hl';refine .inr ⟨k,c,hrs,hc,λm hm=>?_⟩
       by_cases e0:lev q (m/2)=0
       ·exact .inr (by rw[sv.lv];exact e0)
       ·exact .inl ((hmk1 _).2 (.inr ⟨e0,m,hm,rfl⟩))
      ·rcases (hmk1 (l'/2)).1 hm' with h|⟨h,y,hy,hyl⟩
       ·rcases x.cs i l' (by omega) hl' h with h|⟨k',c',g1,g2,g3⟩
        ·exact .inl h
        ·exact .inr ⟨k',c',g1,g2,λm hm=>cldm m (g3 m hm)⟩
       ·exfalso
        by_cases e2:y=l
        ·subst e2;have:=x.t.uniq hl hl' hyl;omega
        ·obtain⟨j,hj⟩:=l'i.1 (hoth y hy e2);have hjl:=(l'b.1 hj).1;simp at hjl;rw[l'j (by omega)]at hj;have:=x.t.uniq hj hl' (by rw[B'9];exact hyl);omega
     ·rw[hco,htr,hst];exact x.co
    have hih:=ih q1 (by rw[htr];omega) x1;rw[htr]at hih;obtain⟨q2,e2,s2,b2⟩:=hih;exact⟨q2,e2,SV3.trans ⟨by rw[mr.eq],mr.len⟩ s2,b2⟩
  ·rw[if_neg em];have x1:BlI n G D q a ls:=by
    refine⟨x.t,x.c,x.vm,x.mb,x.cl,?_,x.co,by omega⟩;intro i l' hi hl' hm'
    by_cases e:i=a
    ·subst e;rw[hl]at hl';simp only[l'a]at hl';subst hl';rw[hmk]at hm';exact absurd hm' em
    ·exact x.cs i l' (by omega) hl' hm'
   exact ih q (by omega) x1
structure Alm (n:Nat)(G:List (List Nat)) (D:Nat)(q:Srch):Prop where
 i:Inv n G D q
 v:VI q
 m:MK q
 a:AI q
theorem All.alm (x:All n G D q): Alm n G D q:=⟨x.i,x.v,x.m,x.a⟩
theorem H'c (hn:n<=192)(x:Alm n G D q)(hc0:q.core=[]){ls:List Nat}(hls:∀m∈ls,m ^^^ 1∈q.trail):
  ∃q1,E'2 q ls=some q1∧SV3 q q1∧q1.core.length<=n∧(∀σ,D'F σ G->(∀l∈q1.core,tr σ l=true)->∀m∈ls,tr σ m=false)∧∀l∈q1.core,∃i:Nat,q.trail[i]?=some l∧i∈q.starts∧lv q.starts i≠0:=by
 have t:=x.i.t;obtain⟨q1,m1,e1,mr1,vm1,-⟩:=E'H ls q (λy hy=>by rw[t.vl];have:=t.tb _ (hls y hy);have:=O'F this;omega) (x.v.vm x.m);obtain⟨sv1,hmk1⟩:=mr1.sv;have tr1:q1.trail=q.trail:=by rw[mr1.eq]
 have st1:q1.starts=q.starts:=by rw[mr1.eq]
 have cl1:q1.clauses=q.clauses:=by rw[mr1.eq]
 have co1:q1.core=[]:=by rw[mr1.eq];exact hc0
 have nomark:∀v,mkd q v=false:=by
  intro v
  cases hx:q.vars[v]? with
  | none=>simp[mkd,hx]
  | some y=>simp[mkd,hx,x.m y (l'f hx)]
 have b1:BlI n G D q1 q1.trail.length ls:=by
  refine⟨t.mr mr1,by rw[cl1];exact x.i.c,vm1,?_,?_,?_,by rw[co1];simp,by rw[co1];simp⟩
  ·intro v hv;rw[tr1,sv1.lv];rcases (hmk1 v).1 hv with h|⟨h,y,hy,rfl⟩
   ·rw[nomark]at h;simp at h
   ·obtain⟨j,hj⟩:=l'i.1 (hls y hy);exact⟨h,j,_,hj,B'9 y⟩
  ·intro y hy
   by_cases e0:lev q (y/2)=0
   ·exact .inr (by rw[sv1.lv];exact e0)
   ·exact .inl ((hmk1 _).2 (.inr ⟨e0,y,hy,rfl⟩))
  ·intro i l hi hl;have:=(l'b.1 hl).1;omega
 obtain⟨q2,e2,s2,b2⟩:=L'G hn q1.trail.length q1 (l'H _) b1;rw[List.take_length]at e2;have s12:SV3 q q2:=SV3.trans ⟨by rw[mr1.eq],mr1.len⟩ s2;have tr2:q2.trail=q.trail:=by rw[s12.eq]
 have st2:q2.starts=q.starts:=by rw[s12.eq]
 refine⟨q2,by unfold E'2;rw[e1];exact e2,s12,?_,?_,?_⟩
 ·have h1:=b2.cn;have h2:=b2.t.len;omega
 ·intro σ hσ hcore m hm;have key:∀(i l':Nat),q2.trail[i]?=some l'->cld q2 l'->tr σ l'=true:=by
   intro i
   induction i using Nat.strongRecOn with
   | _ i ih=>
    intro l' hl' hcd;rcases hcd with hm|h0
    ·rcases b2.cs i l' (Nat.zero_le _) hl' hm with h|⟨k,c,h1,h2,h3⟩
     ·exact hcore l' h
     ·have hr:=(b2.t.at hl').2;rw[h1]at hr;obtain⟨-,c',h4,h5,h6⟩:=hr;rw[h2]at h4;simp only[l'a]at h4;subst h4;obtain⟨m,hm,ht⟩:=(b2.c k c h2).2 σ hσ
      by_cases e:m=l'
      ·rw[<-e];exact ht
      ·exfalso;obtain⟨j,hj⟩:=l'i.1 (h6 m hm e);have hjl:=(l'b.1 hj).1;simp at hjl;rw[l'j (by omega)]at hj;have hcm:cld q2 (m ^^^ 1):=by
        have:=h3 m hm;unfold cld at this ⊢;rw[B'9];exact this
       have:=ih j (by omega) _ hj hcm;rw[C'9,ht]at this;simp at this
    ·rw[(b2.t.at hl').1]at h0;exact G'j (b2.t.l0 i l' hl' h0) hσ
  obtain⟨j,hj⟩:=l'i.1 (hls m hm);have hcm:cld q2 (m ^^^ 1):=by
   have:=b2.cl m hm;unfold cld at this ⊢;rw[B'9];exact this
  have:=key j _ (by rw[tr2];exact hj) hcm;rw[C'9]at this;simpa using this
 ·intro l hl;obtain⟨i,h1,h2,h3⟩:=b2.co l hl;rw[tr2]at h1;rw[st2]at h2 h3;exact⟨i,h1,h2,h3⟩
theorem R'u {st:List Nat}(h:Srt st){i:Nat}(hi:i∈st): st[lv st i-1]?=some i∧0<lv st i:=by
 obtain⟨j,hj⟩:=l'i.1 hi;have h1:=R'q h hj (l'H i);have h2:=F'j st i;obtain⟨s,hs⟩:∃s,st[lv st i-1]?=some s:=⟨_,l'c (by omega)⟩;have h3:=h.le (show j<=lv st i-1 by omega) hj hs;have h4:¬i<s:=λh5=>by have:=(C'x h hs h5).2;omega
 have:s=i:=by omega
 exact⟨by rw[hs,this],by omega⟩
theorem I'Q (x:Alm n G D q)(hA:q.starts.length<=q.assumed.length){l:Nat}{i:Nat}(h1:q.trail[i]?=some l)(h2:i∈q.starts): l∈q.assumed:=by
 obtain⟨h3,h4⟩:=R'u x.i.t.ss h2;have h5:=F'j q.starts i;obtain⟨a,ha⟩:∃a,q.assumed[lv q.starts i-1]?=some a:=⟨_,l'c (by omega)⟩;have:=x.a.a2 _ i a l h3 ha h1 (by omega);rw[this];exact l'f ha
def UnO (G:List (List Nat))(q:Srch)(core:List Nat): Prop:=(∀l∈core,l∈q.assumed)∧core.length<=1000∧∀σ,D'F σ G->¬∀l∈core,tr σ l=true
theorem L'H (hn:n<=192)(x:Alm n G D q)(hc0:q.core=[])(hA:q.starts.length<=q.assumed.length){k:Nat}{c:Cl}(hc:q.clauses[k]?=some c)(hall:∀m∈c.lits,m ^^^ 1∈q.trail):
  ∃q1,E'2 q c.lits=some q1∧SV3 q q1∧UnO G q q1.core:=by
 obtain⟨q1,e1,s1,hl,hsem,hsub⟩:=H'c hn x hc0 hall;refine⟨q1,e1,s1,λl hl=>?_,by omega,λσ hσ hcore=>?_⟩
 ·obtain⟨i,h1,h2,-⟩:=hsub l hl;exact I'Q x hA h1 h2
 ·obtain⟨m,hm,ht⟩:=(x.i.c k c hc).2 σ hσ;rw[hsem σ hσ hcore m hm]at ht;simp at ht
end Go.Ta
namespace Go.Ta
variable {n D:Nat}{G:List (List Nat)}{q q':Srch}
theorem SL.len (x:SL q): q.starts.length<=q.assumed.length+q.trail.length:=by
 rcases Nat.lt_or_ge q.assumed.length q.starts.length with h|h
 ·obtain⟨s,hs⟩:∃s,q.starts[q.starts.length-1]?=some s:=⟨_,l'c (by omega)⟩;have h1:=x.s1 _ s hs;have h2:=x.s2 _ s hs (by omega);omega
 ·omega
def mu (n:Nat)(q:Srch): Nat:=(q.assumed.length-q.starts.length)+(n-q.trail.length)
structure Stp (q q':Srch):Prop where
 sm:Same q q'
 li:lits q'.clauses=lits q.clauses
theorem I'R (hn:n<=192)(hA:q.assumed.length<=1000)(x:All n G q.trail.length q){l:Nat}(hl:l<2*n)(h1:l∉q.trail)(h2:l ^^^ 1∉q.trail)(ha:∀a,q.assumed[q.starts.length]?=some a->l=a):
  ∃q1 q2,F't q=some q1∧q1.holds=q.holds∧H'p q1 l none=some q2∧All n G q.trail.length q2∧q2.drawn=q.drawn∧Stp q q2∧ph n q.starts q.trail.length<=ph n q2.starts q2.trail.length∧q2.starts.length=q.starts.length+1∧q2.trail.length=q.trail.length+1:=by
 have hm:most=1000000:=rfl;have hsl:=x.s.len;have htl:=x.i.t.len;obtain⟨q1,e1,rfl,t1⟩:=I'M x.i.t (by omega);obtain⟨q2,e2,t2,g3,g4,g5,g6,g7,g8,g9,g10⟩:=F'k t1 hn (l:=l) (r:=none) hl h1 h2 (.inl (by simp)) (λh=>by simp at h);simp only at g3 g4 g5 g6 g7;have as2:q2.assumed=q.assumed:=g8.as;have v1:VI { q with starts:=q.starts++[q.trail.length] }:=x.v;have m1:MK { q with starts:=q.starts++[q.trail.length] }:=x.m;refine⟨_,q2,e1,rfl,e2,⟨⟨t2,by rw[g5];exact x.i.c,by rw[g5,g6];exact x.i.w,?_,by rw[g5];exact x.i.lm⟩,g9 v1,g10 m1,⟨?_,?_⟩,⟨?_,?_⟩,?_⟩,g7,⟨⟨g8.as,g8.gv,g8.bn,g8.mt,g8.co⟩,by rw[g5]⟩,?_,by rw[g4];simp,by rw[g3];simp⟩
 ·intro k c hc hl2;rw[g5]at hc;rw[g3,g4];obtain⟨a,b⟩:=x.i.d k c hc hl2;exact⟨(a.opn (l'H _)).app (l'H _),(b.opn (l'H _)).app (l'H _)⟩
 ·intro i a h3 h4;rw[as2]at h3;rw[g4]at h4 ⊢;rw[g3];simp at h4
  by_cases e:i=q.starts.length
  ·subst e;refine⟨q.trail.length,by simp[ha a h3],?_⟩;rw[L'l (l'H _)];have:=F'j q.starts q.trail.length;omega
  ·obtain⟨j,hj,hlv⟩:=x.a.a1 i a h3 (by omega);have hjl:=(l'b.1 hj).1;exact⟨j,by rw[l'e hjl];exact hj,by rw[D'a hjl];exact hlv⟩
 ·intro i s a l' h3 h4 h5 h6;rw[g4]at h3 h6;rw[as2]at h4;rw[g3]at h5;rcases B'u h3 with h|⟨rfl,rfl⟩
  ·have hs:=x.i.t.sd s (l'f h)
   by_cases e:s=q.trail.length
   ·exfalso;rw[e,L'l (l'H _)]at h6;have h7:=F'S (st:=q.starts) (i:=q.trail.length) x.i.t.sd;have:=(l'b.1 h).1;omega
   ·rw[l'e (by omega)]at h5;rw[D'a (by omega)]at h6;exact x.a.a2 i s a l' h h4 h5 h6
  ·simp at h5;rw[<-h5];exact ha a h4
 ·intro i s h;rw[g4]at h;rw[as2];rcases B'u h with h|⟨rfl,rfl⟩
  ·exact x.s.s1 i s h
  ·exact hsl
 ·intro i s h hi;rw[g4]at h;rw[as2]at hi;rw[g3];rcases B'u h with h|⟨rfl,rfl⟩
  ·have:=x.s.s2 i s h hi;simp;omega
  ·simp
 ·intro l' hl';obtain⟨i,hi,hlv⟩:=x.u l' hl';have hil:=(l'b.1 hi).1;rw[g3,g4];exact⟨i,by rw[l'e hil];exact hi,by rw[D'a hil];exact hlv⟩
 ·rw[g3,g4];simp only[l'p,l'n,l'o,l'F,ph];rw[G'n (st:=q.starts) (st':=q.starts++[q.trail.length]) q.trail.length (λi hi=>by simp;omega)];omega
theorem L'I (hn:n<=192)(hA:q.assumed.length<=1000)(x:All n G q.trail.length q){l:Nat}(h1:l∈q.trail)(ha:q.assumed[q.starts.length]?=some l):
  ∃q1,F't q=some q1∧q1.holds=q.holds∧All n G q.trail.length q1∧q1.drawn=q.drawn∧Stp q q1∧ph n q.starts q.trail.length<=ph n q1.starts q1.trail.length∧q1.starts.length=q.starts.length+1∧q1.trail.length=q.trail.length:=by
 have hm:most=1000000:=rfl;have hsl:=x.s.len;have htl:=x.i.t.len;have hAl:=(l'b.1 ha).1;obtain⟨q1,e1,rfl,t1⟩:=I'M x.i.t (by omega);refine⟨_,e1,rfl,⟨⟨t1,x.i.c,x.i.w,?_,x.i.lm⟩,x.v,x.m,⟨?_,?_⟩,⟨?_,?_⟩,?_⟩,rfl,⟨⟨rfl,rfl,rfl,rfl,rfl⟩,rfl⟩,?_,by simp,rfl⟩
 ·intro k c hc hl2;obtain⟨a,b⟩:=x.i.d k c hc hl2;exact⟨a.opn (l'H _),b.opn (l'H _)⟩
 ·intro i a h3 h4;simp only at h3 h4 ⊢;simp at h4
  by_cases e:i=q.starts.length
  ·subst e;rw[ha]at h3;simp only[l'a]at h3;subst h3;obtain⟨j,hj⟩:=l'i.1 h1;have hjl:=(l'b.1 hj).1;refine⟨j,hj,?_⟩;rw[D'a hjl];have:=F'j q.starts j;omega
  ·obtain⟨j,hj,hlv⟩:=x.a.a1 i a h3 (by omega);have hjl:=(l'b.1 hj).1;exact⟨j,hj,by rw[D'a hjl];exact hlv⟩
 ·intro i s a l' h3 h4 h5 h6;simp only at h3 h4 h5 h6;have hsl:=(l'b.1 h5).1;rcases B'u h3 with h|⟨rfl,rfl⟩
  ·rw[D'a hsl]at h6;exact x.a.a2 i s a l' h h4 h5 h6
  ·omega
 ·intro i s h;rcases B'u h with h|⟨rfl,rfl⟩
  ·exact x.s.s1 i s h
  ·exact hsl
 ·intro i s h hi;rcases B'u h with h|⟨rfl,rfl⟩
  ·exact x.s.s2 i s h hi
  ·simp only at hi;omega
 ·intro l' hl';obtain⟨i,hi,hlv⟩:=x.u l' hl';have hil:=(l'b.1 hi).1;exact⟨i,hi,by simp only;rw[D'a hil];exact hlv⟩
 ·simp only;rw[G'n (st:=q.starts) (st':=q.starts++[q.trail.length]) q.trail.length (λi hi=>by simp;omega)];exact l'H _
def L'J (q:Srch)(v:Nat): Prop:=2*v∈q.trail∨2*v+1∈q.trail
theorem L'K (x:TI n G D q): ∀(vs:List Vr) (i:Nat)(best:Option (Nat×Nat)),i+vs.length=n->∃r,D'n q.holds vs i best=some r∧(r=none->best=none∧∀j,i<=j->j<n->L'J q j)∧(∀v,r=some v->(∃w,best=some (v,w))∨(v<n∧¬L'J q v)):=by
 intro vs
 induction vs with
 | nil=>
  intro i best h;simp at h;refine⟨best.map (·.1),rfl,λh1=>⟨by simpa using h1,λj h2 h3=>by omega⟩,λv h1=>?_⟩;simp only[Option.map_eq_some_iff]at h1;obtain⟨⟨a,b⟩,h2,h3⟩:=h1;simp only at h3;subst h3;exact .inl ⟨b,h2⟩
 | cons v r ih=>
  intro i best h;simp at h;unfold D'n;rw[x.hh (2*i) (by omega),x.hh (2*i+1) (by omega)];simp only
  by_cases e:(decide (2*i∈q.trail)||decide (2*i+1∈q.trail))=true
  ·rw[if_pos e];have hv:L'J q i:=by simpa [L'J]using e
   obtain⟨y,e1,e2,e3⟩:=ih (i+1) best (by omega);refine⟨y,e1,λh1=>⟨(e2 h1).1,λj h2 h3=>?_⟩,e3⟩
   by_cases e4:j=i
   ·subst e4;exact hv
   ·exact (e2 h1).2 j (by omega) h3
  ·rw[if_neg e];have hv:¬L'J q i:=by simpa [L'J]using e
   have go:∀b:Nat×Nat,(b.1=i∨best=some b)->∃y,D'n q.holds r (i+1) (some b)=some y∧(y=none->best=none∧∀j,i<=j->j<n->L'J q j)∧∀v,y=some v->(∃w,best=some (v,w))∨(v<n∧¬L'J q v):=by
    intro b hb;obtain⟨y,e1,e2,e3⟩:=ih (i+1) (some b) (by omega);refine⟨y,e1,λh1=>absurd (e2 h1).1 (by simp),λv' h1=>?_⟩;rcases e3 v' h1 with ⟨w',h2⟩|h2
    ·simp only[l'a]at h2;subst h2;rcases hb with h3|h3
     ·simp only at h3;subst h3;exact .inr ⟨by omega,hv⟩
     ·exact .inl ⟨w',h3⟩
    ·exact .inr h2
   cases hb:best with
   | none=>
    simp only;rw[hb]at go;obtain⟨y,a1,a2,a3⟩:=go (i,v.weight) (.inl rfl);exact⟨y,a1,λh=>⟨trivial,(a2 h).2⟩,a3⟩
   | some b=>
    obtain⟨j,w⟩:=b;simp only;rw[hb]at go;split
    ·exact go (i,v.weight) (.inl rfl)
    ·exact go (j,w) (.inr rfl)
def SaO (n:Nat)(q:Srch): Prop:=(∀v,v<n->L'J q v)∧q.assumed.length<=q.starts.length
theorem L'L (hn:n<=192)(hA:q.assumed.length<=1000)(hAb:∀l∈q.assumed,l<2*n)(hc0:q.core=[])(x:All n G q.trail.length q):
  ∃q1 a,E'4 q=some (q1,a)∧((a=0∧All n G q.trail.length q1∧q1.drawn=q.drawn∧Stp q q1∧ph n q.starts q.trail.length<=ph n q1.starts q1.trail.length∧mu n q1<mu n q)∨(a=1∧q1=q∧SaO n q)∨(a=2∧SV3 q q1∧UnO G q q1.core)):=by
 have hm:most=1000000:=rfl;have htl:=x.i.t.len;unfold E'4
 cases hlit:q.assumed[q.starts.length]? with
 | some l=>
  simp only;have hlm:=l'f hlit;have hlb:=hAb l hlm;have hAl:=(l'b.1 hlit).1;unfold E'3;rw[x.i.t.hh _ (D'r hlb)]
  by_cases e1:l ^^^ 1∈q.trail
  ·simp only[e1,decide_true];obtain⟨q1,f1,f2,f3,f4,f5⟩:=H'c hn x.alm hc0 (ls:=[l]) (λm hm=>by simp only[l'm]at hm;subst hm;exact e1);rw[f1];simp only;rw[if_pos (by omega)];refine⟨_,2,rfl,.inr (.inr ⟨rfl,⟨by simp only;rw[f2.eq],f2.len⟩,?_,by simp;omega,?_⟩)⟩
   ·intro l' hl';simp only[l'E,l'm]at hl';rcases hl' with h|rfl
    ·obtain⟨i,h1,h2,-⟩:=f5 l' h;exact I'Q x.alm (by omega) h1 h2
    ·exact hlm
   ·intro σ hσ hcore;have h1:=hcore l (by simp);have h2:=f4 σ hσ (λl' h=>hcore l' (by simp[h])) l (by simp);rw[h1]at h2;simp at h2
  ·simp only[e1,decide_false]
   by_cases e2:l∈q.trail
   ·obtain⟨q1,f1,f2,f3,f4,f5,f6,f7,f8⟩:=L'I hn hA x e2 hlit;rw[f1];simp only[f2];rw[x.i.t.hh _ hlb];simp only[e2,decide_true];refine⟨q1,0,rfl,.inl ⟨rfl,f3,f4,f5,f6,?_⟩⟩;unfold mu;rw[f5.sm.as,f7,f8];omega
   ·obtain⟨q1,q2,f1,f2,f3,f4,f5,f6,f7,f8,f9⟩:=I'R hn hA x hlb e2 e1 (λa h=>by rw[hlit]at h;simpa using h);rw[f1];simp only[f2];rw[x.i.t.hh _ hlb];simp only[e2,decide_false,f3];refine⟨q2,0,rfl,.inl ⟨rfl,f4,f5,f6,f7,?_⟩⟩;unfold mu;rw[f6.sm.as,f8,f9];omega
 | none=>
  simp only;have hAl:q.assumed.length<=q.starts.length:=by simpa using hlit
  obtain⟨r,e1,e2,e3⟩:=L'K x.i.t q.vars 0 none (by rw[x.i.t.vl];omega);unfold I'o;rw[e1]
  cases r with
  | none=>exact⟨q,1,rfl,.inr (.inl ⟨rfl,rfl,λv hv=>(e2 rfl).2 v (Nat.zero_le _) hv,hAl⟩)⟩
  | some v=>
   simp only;rcases e3 v rfl with ⟨w,h⟩|⟨hvn,hno⟩
   ·simp at h
   ·obtain⟨y,hy⟩:∃y,q.vars[v]?=some y:=⟨_,l'c (by rw[x.i.t.vl];exact hvn)⟩;unfold L'J at hno;have hno1:2*v∉q.trail:=λh=>hno (.inl h);have hno2:2*v+1∉q.trail:=λh=>hno (.inr h);obtain⟨l,hl⟩:=e' ((if y.last then 2*v else 2*v+1));have hlc:l=2*v∨l=2*v+1:=by rw[hl];split;exact .inl rfl;exact .inr rfl
    have hlx:l ^^^ 1=2*v∨l ^^^ 1=2*v+1:=by
     rw[F'i];rcases hlc with h|h <;> (rw[h];split <;> omega)
    obtain⟨q1,q2,f1,f2,f3,f4,f5,f6,f7,f8,f9⟩:=I'R hn hA x (l:=l) (by omega) (by rcases hlc with h|h <;> (rw[h];assumption)) (by rcases hlx with h|h <;> (rw[h];assumption)) (λa h=>by rw[hlit]at h;simp at h);rw[hy];simp only[f1,<-hl,f3];refine⟨q2,0,rfl,.inl ⟨rfl,f4,f5,f6,f7,?_⟩⟩;have hlt:q.trail.length<n:=by have:=f4.i.t.len;omega
    unfold mu;rw[f6.sm.as,f8,f9];omega
end Go.Ta
namespace Go.Ta
variable {n D:Nat}{G:List (List Nat)}{q q':Srch}
structure LdI (n:Nat)(G:List (List Nat))(as:List Nat)(done:List (List Nat))(q:Srch)(clash:Option Nat):Prop where
 t:TI n G 0 q
 c:CI n G q.clauses
 w:WI n q.clauses q.watchers
 v:VI q
 m:MK q
 st:q.starts=[]
 li:lits q.clauses=done
 un:clash=none->(∀l,[l]∈done->l∈q.trail)∧[]∉done
 cl:∀k,clash=some k->∃c:Cl,q.clauses[k]?=some c∧∀m∈c.lits,m ^^^ 1∈q.trail
 co:q.core=[]
 mt:q.met=0
 asm:q.assumed=as
 dr:q.drawn=0
theorem N'4 (hn:n<=192){as:List Nat}(hG:∀c∈G,c.Nodup∧∀l∈c,l<2*n)(hGl:G.length<most): ∀(rest done:List (List Nat))(q:Srch)(clash:Option Nat),G=done++rest->LdI n G as done q clash->∃q1 clash1,D'C rest done.length q clash=some (q1,clash1)∧LdI n G as G q1 clash1:=by
 intro rest
 induction rest with
 | nil=>
  intro done q clash hD x;simp at hD;subst hD;exact⟨q,clash,rfl,x⟩
 | cons l r ih=>
  intro done q clash hD x;have hlG:l∈G:=by rw[hD];simp
  obtain⟨hnd,hlb⟩:=hG l hlG;have hlen:q.clauses.length=done.length:=by rw[<-x.li];simp[lits]
  have hlm:q.clauses.length<most:=by rw[hlen];rw[hD]at hGl;simp at hGl;omega
  have himp:M'd G l:=λσ hσ=>hσ l hlG;have hD':G=(done++[l])++r:=by rw[hD];simp
  have hk:done.length+1=(done++[l]).length:=by simp
  unfold D'C
  match l,hnd,hlb,himp,hD',hk,hlG with
  | a :: b :: l',hnd,hlb,himp,hD',hk,hlG=>
   simp only;have hab:a≠b:=λh=>by
    rw[List.nodup_cons]at hnd;exact hnd.1 (by simp[h])
   obtain⟨ws,e1,w1⟩:=F'T (q:=q) (c:=⟨a :: b :: l',a,b,0⟩) x.w hlm (by simp) hlb (by simp) (by simp) hab;rw[e1];simp only;rw[hk];refine ih (done++[a :: b :: l']) _ clash hD' ⟨x.t.att _ ws,x.c.att hlb himp,w1,x.v,x.m,x.st,by simp[lits,<-x.li],?_,?_,x.co,x.mt,x.asm,x.dr⟩
   ·intro hcn;obtain⟨u1,u2⟩:=x.un hcn;refine⟨λl hl=>u1 l ?_,?_⟩
    ·simpa using hl
    ·simpa using u2
   ·intro k hk;obtain⟨c,c1,c2⟩:=x.cl k hk;exact⟨c,by simp only;rw[l'e (l'b.1 c1).1];exact c1,c2⟩
  | [a],hnd,hlb,himp,hD',hk,hlG=>
   simp only;rw[if_pos hlm];have hb:a<2*n:=hlb a (by simp);have hnew:(q.clauses++[(⟨[a],0,0,0⟩:Cl)])[done.length]?=some ⟨[a],0,0,0⟩:=by rw[<-hlen];simp
   have t1:=x.t.att ⟨[a],0,0,0⟩ q.watchers;have c1:=x.c.att (c:=⟨[a],0,0,0⟩) hlb himp;have w1:=x.w.skip (c:=⟨[a],0,0,0⟩) (by simp);have clm:∀k,clash=some k->∃c:Cl,(q.clauses++[(⟨[a],0,0,0⟩:Cl)])[k]?=some c∧∀m∈c.lits,m ^^^ 1∈q.trail:=by
    intro k hk;obtain⟨c,c1,c2⟩:=x.cl k hk;exact⟨c,by rw[l'e (l'b.1 c1).1];exact c1,c2⟩
   rw[x.t.hh _ (D'r hb),x.t.hh _ hb]
   by_cases e1:a ^^^ 1∈q.trail
   ·simp only[e1,decide_true];rw[hk];refine ih (done++[[a]]) _ (some done.length) hD' ⟨t1,c1,w1,x.v,x.m,x.st,by simp[lits,<-x.li],by simp,?_,x.co,x.mt,x.asm,x.dr⟩;intro k hk;simp only[l'a]at hk;subst hk;exact⟨_,hnew,by simpa using e1⟩
   ·by_cases e2:a∈q.trail
    ·simp only[e1,e2,decide_true,decide_false];rw[hk];refine ih (done++[[a]]) _ clash hD' ⟨t1,c1,w1,x.v,x.m,x.st,by simp[lits,<-x.li],?_,clm,x.co,x.mt,x.asm,x.dr⟩;intro hcn;obtain⟨u1,u2⟩:=x.un hcn;refine⟨λl hl=>?_,by simpa using u2⟩;simp only[l'E,l'm,List.cons.injEq,and_true]at hl;rcases hl with h|rfl
     ·exact u1 l h
     ·exact e2
    ·simp only[e1,e2,decide_false];obtain⟨q2,g1,g2,g3,g4,g5,g6,g7,g8,g9,g10⟩:=F'k t1 hn (l:=a) (r:=some done.length) hb e2 e1 ⟨by simp only;rw[x.st];simp,_,hnew,by simp,λm hm hne=>by simp at hm;exact absurd hm hne⟩ (λ_=>himp);rw[g1];simp only at g3 g4 g5 g6 g7 ⊢;rw[hk];refine ih (done++[[a]]) q2 clash hD' ⟨g2,by rw[g5];exact c1,by rw[g5,g6];exact w1,g9 x.v,g10 x.m,by rw[g4];exact x.st,by rw[g5];simp[lits,<-x.li],?_,?_,by rw[g8.co];exact x.co,by rw[g8.mt];exact x.mt,by rw[g8.as];exact x.asm,by rw[g7];exact x.dr⟩
     ·intro hcn;obtain⟨u1,u2⟩:=x.un hcn;rw[g3];refine⟨λl hl=>?_,by simpa using u2⟩;simp only[l'E,l'm,List.cons.injEq,and_true]at hl;rcases hl with h|rfl
      ·simp[u1 l h]
      ·simp
     ·intro k hk;obtain⟨c,c1,c2⟩:=clm k hk;rw[g5,g3];exact⟨c,c1,λm hm=>by simp[c2 m hm]⟩
  | [],hnd,hlb,himp,hD',hk,hlG=>
   simp only;rw[if_pos hlm,hk];refine ih (done++[[]]) _ (some done.length) hD' ⟨x.t.att ⟨[],0,0,0⟩ q.watchers,x.c.att hlb himp,x.w.skip (by simp),x.v,x.m,x.st,by simp[lits,<-x.li],by simp,?_,x.co,x.mt,x.asm,x.dr⟩;intro k hk;simp only[l'a]at hk;subst hk;exact⟨⟨[],0,0,0⟩,by simp only;rw[<-hlen];simp,by simp⟩
structure End (n:Nat)(G:List (List Nat))(as:List Nat) (budget:Int)(q:Srch) (a:Nat):Prop where
 vl:q.vars.length=n
 hl:q.holds.length=2*n
 mt:q.met<=2^n
 ab:a=1∨a=2∨a=3
 sa:a=1->∃σ:Nat->Bool,(∀v,v<n->q.holds[2*v]?=some (σ v))∧D'F σ G∧∀l∈as,tr σ l=true
 un:a=2->(∀l∈q.core,l∈as)∧q.core.length<=1000∧∀σ,D'F σ G->¬∀l∈q.core,tr σ l=true
 sp:a=3->budget<(q.met:Int)
theorem T'z (x:All n G q.trail.length q)(hs:SaO n q)(hG:∀c∈G,∀l∈c,l<2*n)(hGc:∀c∈G,c∈lits q.clauses)(hne:[]∉G): ∃σ:Nat->Bool,(∀v,v<n->q.holds[2*v]?=some (σ v))∧D'F σ G∧∀l∈q.assumed,tr σ l=true:=by
 have t:=x.i.t;have hT:∀l∈q.trail,tr (λv=>decide (2*v∈q.trail)) l=true:=by
  intro l hl;unfold tr;rcases Nat.mod_two_eq_zero_or_one l with h|h
  ·have e:2*(l/2)=l:=by omega
   simp[e,hl,h]
  ·have e:2*(l/2)=l ^^^ 1:=by rw[F'i,if_neg (by omega)];omega
   have hn:l ^^^ 1∉q.trail:=λh2=>t.anti hl h2;simp[e,hn,h]
 have hor:∀l,l<2*n->l∈q.trail∨l ^^^ 1∈q.trail:=by
  intro l hl;have h1:=hs.1 (l/2) (by omega);unfold L'J at h1;rw[F'i];rcases Nat.mod_two_eq_zero_or_one l with h|h
  ·rw[if_pos h];rcases h1 with h2|h2
   ·left;rwa [show 2*(l/2)=l by omega]at h2
   ·right;rwa [show 2*(l/2)+1=l+1 by omega]at h2
  ·rw[if_neg (by omega)];rcases h1 with h2|h2
   ·right;rwa [show 2*(l/2)=l-1 by omega]at h2
   ·left;rwa [show 2*(l/2)+1=l by omega]at h2
 refine⟨λv=>decide (2*v∈q.trail),λv hv=>t.hh _ (by omega),?_,?_⟩
 ·intro c hc
  by_cases h2:2<=c.length
  ·have:=hGc c hc;simp only[lits,List.mem_map]at this;obtain⟨cl,hcl,rfl⟩:=this;obtain⟨k,hk⟩:=l'i.1 hcl;obtain⟨g1,g2,-⟩:=x.i.w.w1 k cl hk h2;obtain⟨d1,-⟩:=x.i.d k cl hk h2;rcases hor cl.left (hG _ hc _ g1) with h|h
   ·exact⟨_,g1,hT _ h⟩
   ·obtain⟨j,hj⟩:=l'i.1 h;obtain⟨j',hj',-⟩:=d1 j (l'b.1 hj).1 hj;exact⟨_,g2,hT _ (l'f hj')⟩
  ·match c,hc,h2 with
   | [],hc,_=>exact absurd hc hne
   | [l],hc,_=>
    obtain⟨i,hi,-⟩:=x.u l hc;exact⟨l,by simp,hT l (l'f hi)⟩
   | a :: b :: r,_,h2=>exact absurd (by simp) h2
 ·intro l hl;obtain⟨i,hi⟩:=l'i.1 hl;have hil:=(l'b.1 hi).1;obtain⟨j,hj,-⟩:=x.a.a1 i l hi (by have:=hs.2;omega);exact hT l (l'f hj)
theorem Ext2.all {q1:Srch}(e:Ext2 q q1)(x:All n G D q)(hsd:∀s∈q.starts,s<q.trail.length∨q1.trail=q.trail){D':Nat}(i1:Inv n G D' q1): All n G D' q1:=by
 obtain⟨ex,ht⟩:=e.tl;have hst:=e.st;refine⟨i1,e.vi x.v,e.mr x.m,⟨?_,?_⟩,⟨?_,?_⟩,?_⟩
 ·intro i a h1 h2;rw[e.sm.as]at h1;rw[hst]at h2 ⊢;rw[ht];obtain⟨j,hj,hl⟩:=x.a.a1 i a h1 h2;exact⟨j,by rw[l'e (l'b.1 hj).1];exact hj,hl⟩
 ·intro i s a l h1 h2 h3 h4;rw[hst]at h1 h4;rw[e.sm.as]at h2;rcases hsd s (l'f h1) with h|h
  ·rw[ht,l'e h]at h3;exact x.a.a2 i s a l h1 h2 h3 h4
  ·rw[h]at h3;exact x.a.a2 i s a l h1 h2 h3 h4
 ·intro i s h;rw[hst]at h;rw[e.sm.as];exact x.s.s1 i s h
 ·intro i s h hi;rw[hst]at h;rw[e.sm.as]at hi;have:=x.s.s2 i s h hi;rw[ht];simp;omega
 ·intro l hl;obtain⟨i,hi,hlv⟩:=x.u l hl;rw[ht,hst];exact⟨i,by rw[l'e (l'b.1 hi).1];exact hi,hlv⟩
theorem L'M {m:Nat}{q1:Srch}{clash:Option Nat}(h:q.drawn=q.trail.length)(e:D'M m q=some (q1,clash)): q1=q:=by
 cases m with
 | zero=>simp[D'M]at e
 | succ m=>
  unfold D'M at e;rw[if_neg (by omega)]at e;simp only[l'a,l'd]at e;exact e.1.symm
end Go.Ta
namespace Go.Ta
variable {n D:Nat}{G:List (List Nat)}{q q':Srch}
theorem All.met (x:All n G D q)(m:Nat): All n G D { q with met:=m }:=
 ⟨⟨⟨x.i.t.hl,x.i.t.vl,x.i.t.tb,x.i.t.tn,x.i.t.hh,x.i.t.ss,x.i.t.sd,x.i.t.dt,x.i.t.lr,x.i.t.l0⟩,x.i.c,x.i.w,x.i.d,x.i.lm⟩,x.v,x.m,⟨x.a.a1,x.a.a2⟩,⟨x.s.s1,x.s.s2⟩,x.u⟩
theorem R'v {P P' N W m m' k:Nat}(hP:P'<=N)(h:P<P')(hm:m'<W)(hk:(N-P)*W+m<k+1): (N-P')*W+m'<k:=by
 have h1:N-P'+1<=N-P:=by omega
 have h2:=Nat.mul_le_mul_right W h1;rw[Nat.add_mul,Nat.one_mul]at h2;omega
theorem R'w {P P' N W m m' k:Nat}(h:P<=P')(hm:m'<m)(hk:(N-P)*W+m<k+1): (N-P')*W+m'<k:=by
 have h1:N-P'<=N-P:=by omega
 have h2:=Nat.mul_le_mul_right W h1;omega
theorem J't (hn:n<=61){as:List Nat}(hA:as.length<=1000)(hAb:∀l∈as,l<2*n)(hG:∀c∈G,∀l∈c,l<2*n)(hne:[]∉G)(hGl:G.length<=900000){f ph0:Nat}(hf:n<f)(h02:ph0%2=0)(budget:Int):
  ∀(m:Nat)(q:Srch),All n G q.drawn q->q.assumed=as->q.core=[]->q.given=G.length->(∃ext,lits q.clauses=G++ext∧ext.length<=4000)->SpB q->2*q.met+ph0<=ph n q.starts q.trail.length->(2^n-ph n q.starts q.trail.length)*(as.length+n+1)+mu n q<m ->
  ∃q1 a,C'3 f budget m q none=some (q1,a)∧End n G as budget q1 a:=by
 have hm:most=1000000:=rfl;have hm62:B'w=4611686018427387904:=rfl;have h2n:2^n<=2^61:=Nat.pow_le_pow_right (by omega) hn;intro m
 induction m with
 | zero=>intro q _ _ _ _ _ _ _ h;omega
 | succ m ih=>
  intro q x has hco hgv hext hsp hmet hmu;obtain⟨ext,hext,hel⟩:=hext;have hphlt:=N'2 (n:=n) (st:=q.starts) x.i.t.len;obtain⟨q1,clash,e1,ex1,hno,hcl⟩:=N'N (by omega) f q x.i (by omega);have hsd:∀s∈q.starts,s<q.trail.length∨q1.trail=q.trail:=by
   intro s hs;have h1:=x.i.t.sd s hs;have h2:=x.i.t.dt
   by_cases h3:q.drawn=q.trail.length
   ·right;rw[L'M h3 e1]
   ·left;omega
  obtain⟨ex,htl⟩:=ex1.tl;have hlen1:q.trail.length<=q1.trail.length:=by rw[htl];simp
  have hph1:ph n q.starts q.trail.length<=ph n q1.starts q1.trail.length:=by rw[ex1.st];exact L'D _ hlen1
  have hmu1:mu n q1<=mu n q:=by unfold mu;rw[ex1.sm.as,ex1.st];omega
  have as1:q1.assumed=as:=by rw[ex1.sm.as];exact has
  have co1:q1.core=[]:=by rw[ex1.sm.co];exact hco
  have gv1:q1.given=G.length:=by rw[ex1.sm.gv];exact hgv
  have mt1:q1.met=q.met:=ex1.sm.mt;have li1:lits q1.clauses=G++ext:=by rw[ex1.li];exact hext
  have hcl1:q1.clauses.length=G.length+ext.length:=by
   have:=congrArg List.length li1;simpa [lits]using this
  have sp1:SpB q1:=N'S _ _ _ e1 hsp;unfold C'3;simp only[e1]
  cases clash with
  | none=>
   simp only;obtain⟨i1,hd1⟩:=hno rfl;have x1:=ex1.all x hsd i1;have hphlt1:=N'2 (n:=n) (st:=q1.starts) x1.i.t.len;obtain⟨q2,a,e2,h⟩:=L'L (by omega) (by rw[as1];exact hA) (by rw[as1];exact hAb) co1 x1;rw[e2];rcases h with ⟨rfl,x2,d2,s2,p2,m2⟩|⟨rfl,rfl,hs⟩|⟨rfl,s2,u2⟩
   ·simp only;refine ih q2 (by rw[d2,hd1];exact x2) (by rw[s2.sm.as];exact as1) (by rw[s2.sm.co];exact co1) (by rw[s2.sm.gv];exact gv1) ⟨ext,by rw[s2.li];exact li1,hel⟩ (L'u e2 sp1) (by rw[s2.sm.mt,mt1];omega) ?_;exact R'w (l'G hph1 p2) (Nat.lt_of_lt_of_le m2 hmu1) hmu
   ·simp only;refine⟨q2,1,rfl,⟨x1.i.t.vl,x1.i.t.hl,by rw[mt1];omega,.inl rfl,λ_=>?_,by simp,by simp⟩⟩;have:=T'z x1 hs hG (λc hc=>by rw[li1];simp[hc]) hne;rw[as1]at this;exact this
   ·simp only;have t2:q2.vars.length=n:=by rw[s2.len];exact x1.i.t.vl
    refine⟨q2,2,rfl,⟨t2,by rw[s2.eq];exact x1.i.t.hl,by rw[s2.eq];simp only;rw[mt1];omega,.inr (.inl rfl),by simp,λ_=>?_,by simp⟩⟩;unfold UnO at u2;rw[as1]at u2;exact u2
  | some k=>
   simp only;obtain⟨⟨D1,i1⟩,hk⟩:=hcl k rfl;have x1:=ex1.all x hsd i1;have hphlt1:=N'2 (n:=n) (st:=q1.starts) x1.i.t.len;have x0:=x1.met (q1.met+1);unfold K'w;rw[if_pos (by omega)];simp only;obtain⟨c,hc,hall,hrest⟩:=id hk
   by_cases hle:q1.starts.length<=q1.assumed.length
   ·rw[if_pos hle];simp only[hc];obtain⟨q2,f1,f2,f3⟩:=L'H (by omega) x0.alm co1 hle (k:=k) (c:=c) hc hall;rw[f1];simp only;refine⟨q2,2,rfl,⟨by rw[f2.len];exact x1.i.t.vl,by rw[f2.eq];exact x1.i.t.hl,by rw[f2.eq];simp only;rw[mt1];omega,.inr (.inl rfl),by simp,λ_=>?_,by simp⟩⟩;unfold UnO at f3;simp only at f3;rw[as1]at f3;exact f3
   ·rw[if_neg hle]
    by_cases hb:budget<((q1.met+1:Nat):Int)
    ·rw[if_pos hb];refine⟨_,3,rfl,⟨x1.i.t.vl,x1.i.t.hl,by simp only;rw[mt1];omega,.inr (.inr rfl),by simp,by simp,λ_=>hb⟩⟩
    ·rw[if_neg hb];obtain⟨q2,f1,f2,⟨f3,f9⟩,f4,f5,f6,f7,⟨e8,f8⟩,f10,f11⟩:=L'F (by omega) x0 (k:=k) hk (by simp only;omega) (by simp only;omega) sp1 (by simp only;omega);rw[f1];simp only at f3 f4 f5 f6 f7 f8 f10 ⊢;have hphlt2:=N'2 (n:=n) (st:=q2.starts) f2.i.t.len;have hev:=R't (st:=q2.starts) _ f9;refine ih q2 f2 (by rw[f4];exact as1) (by rw[f7];exact co1) (by rw[f5];exact gv1) ?_ f11 (by rw[f6];omega) ?_
     ·rw[li1,gv1,List.take_left']at f8
      ·refine⟨e8,f8,?_⟩;have:=congrArg List.length f8;simp only[lits,List.length_map,l'p]at this;rw[gv1]at f10;omega
      ·rfl
     ·refine R'v (Nat.le_of_lt hphlt2) (Nat.lt_of_le_of_lt hph1 f3) ?_ hmu;unfold mu;rw[f4,as1];omega
def D'b (n a:Nat): Nat:=2^n*(a+n+1)+a+n+1
theorem J'u (hn:n<=61)(hn0:0<n){early:List Bool}(hE:early.length=n){as:List Nat}(hA:as.length<=1000)(hAb:∀l∈as,l<2*n)(hG:∀c∈G,c.Nodup∧∀l∈c,l<2*n)(hGl:G.length<=900000){f m:Nat}(hf:n<f)(hm:D'b n as.length<=m)(hu:∃l,[l]∈G)(budget:Int):
  ∃q1 a,E'5 f m (C'd early as) G budget=some (q1,a)∧End n G as budget q1 a:=by
 have hmm:most=1000000:=rfl;have hm62:B'w=4611686018427387904:=rfl;have h2n:2^n<=2^61:=Nat.pow_le_pow_right (by omega) hn;have t0:TI n G 0 (C'd early as):=by
  refine⟨by simp[C'd,hE],by simp[C'd,hE],by simp[C'd],by simp[C'd],?_,by simp[C'd,Srt],by simp[C'd],by simp[C'd],by simp[C'd],by simp[C'd]⟩;intro l hl;simp[C'd,hE,List.getElem?_replicate,hl]
 have l0:LdI n G as [] (C'd early as) none:=by
  refine⟨t0,by intro k c h;simp[C'd]at h,⟨by simp[C'd,hE],by intro k c h;simp[C'd]at h,?_,?_⟩,⟨by simp[C'd],by simp[C'd],?_⟩,?_,rfl,rfl,by simp,by simp,rfl,rfl,rfl,rfl⟩
  ·intro l w k h1 h2;simp only[C'd,List.getElem?_replicate]at h1;split at h1
   ·simp only[l'a]at h1;subst h1;simp at h2
   ·simp at h1
  ·intro l w h1;simp only[C'd,List.getElem?_replicate]at h1;split at h1
   ·simp only[l'a]at h1;subst h1;simp
   ·simp at h1
  ·intro v hv;simp only[C'd,List.mem_map]at hv;obtain⟨e,-,rfl⟩:=hv;simp only[C'd]
   cases e <;> simp
  ·intro v hv;simp only[C'd,List.mem_map]at hv;obtain⟨e,-,rfl⟩:=hv;rfl
 obtain⟨q1,clash,e1,x1⟩:=N'4 (by omega) hG (by omega) G [] (C'd early as) none (by simp) l0;simp only[l'o]at e1;unfold E'5 M'0;rw[e1];simp only;have hst:q1.starts=[]:=x1.st;have hall:All n G 0 { q1 with given:=G.length }∨∃k,clash=some k:=by
  cases clash with
  | some k=>exact .inr ⟨k,rfl⟩
  | none=>
   left;obtain⟨u1,u2⟩:=x1.un rfl;refine⟨⟨⟨x1.t.hl,x1.t.vl,x1.t.tb,x1.t.tn,x1.t.hh,x1.t.ss,x1.t.sd,x1.t.dt,x1.t.lr,x1.t.l0⟩,x1.c,x1.w,?_,?_⟩,x1.v,x1.m,⟨?_,?_⟩,⟨?_,?_⟩,?_⟩
   ·intro k c _ _;exact⟨λd hd=>by omega,λd hd=>by omega⟩
   ·have:=congrArg List.length x1.li;simp[lits]at this;simp only;omega
   ·intro i a _ h;simp only[hst]at h;simp at h
   ·intro i s a l h;simp only[hst]at h;simp at h
   ·intro i s h;simp only[hst]at h;simp at h
   ·intro i s h;simp only[hst]at h;simp at h
   ·intro l hl;obtain⟨i,hi⟩:=l'i.1 (u1 l hl);exact⟨i,hi,by simp only[hst];rfl⟩
 have hml:1<=m:=by unfold D'b at hm;omega
 cases clash with
 | none=>
  rcases hall with x0|⟨k,hk⟩
  ·obtain⟨u1,u2⟩:=x1.un rfl;have htl:=x1.t.len;obtain⟨l1,hl1⟩:=hu;have hne:0<q1.trail.length:=List.length_pos_of_mem (u1 l1 hl1);have hph0:2^(n-1)<=ph n q1.starts q1.trail.length:=by
    have h1:=L'D (n:=n) (st:=q1.starts) (a:=1) q1.trail.length hne;have h2:ph n q1.starts 1=2^(n-1):=by simp[ph,phw,hst]
    omega
   have h2p:2^n=2^(n-1)+2^(n-1):=by
    rw[show n=(n-1)+1 by omega,Nat.pow_succ];simp;omega
   obtain⟨p0,hp1,hp2⟩:∃p0,p0%2=0∧p0<=ph n q1.starts q1.trail.length :=by
    exact⟨0,rfl,Nat.zero_le _⟩
   refine J't hn hA hAb (λc hc=>(hG c hc).2) u2 hGl hf (ph0:=p0) hp1 budget m _ (by show All n G q1.drawn { q1 with given:=G.length };rw[x1.dr]at x0 ⊢;exact x0) x1.asm x1.co rfl ⟨[],by simp;exact x1.li,by simp⟩ (N'T _ _ _ _ _ e1 (by simp[SpB,C'd])) (by simp only;rw[x1.mt];omega) ?_;simp only;have h5:(2^n-ph n q1.starts q1.trail.length)*(as.length+n+1)<=2^n*(as.length+n+1):=Nat.mul_le_mul_right _ (Nat.sub_le _ _);unfold D'b at hm;unfold mu;simp only;rw[x1.asm];omega
  ·simp at hk
 | some k=>
  obtain⟨c,hc,hcl⟩:=x1.cl k rfl;obtain⟨m',rfl⟩:∃m',m=m'+1:=⟨m-1,by omega⟩;unfold C'3 K'w;simp only;rw[x1.mt,if_pos (by omega)];simp only[hst,l'o];rw[if_pos (Nat.zero_le _)];simp only[hc];have x2:Alm n G 0 { q1 with given:=G.length,met:=0+1 }:=by
   refine⟨⟨⟨x1.t.hl,x1.t.vl,x1.t.tb,x1.t.tn,x1.t.hh,x1.t.ss,x1.t.sd,x1.t.dt,x1.t.lr,x1.t.l0⟩,x1.c,x1.w,?_,?_⟩,x1.v,x1.m,⟨?_,?_⟩⟩
   ·intro k c _ _;exact⟨λd hd=>by omega,λd hd=>by omega⟩
   ·have:=congrArg List.length x1.li;simp[lits]at this;simp only;omega
   ·intro i a _ h;simp only[hst]at h;simp at h
   ·intro i s a l h;simp only[hst]at h;simp at h
  obtain⟨q2,f1,f2,f3⟩:=L'H (by omega) x2 x1.co (by simp only;rw[hst];exact Nat.zero_le _) (k:=k) (c:=c) hc hcl;have hpos:1<=2^n:=Nat.one_le_two_pow;simp only[hst]at f1;rw[f1];simp only;refine⟨q2,2,rfl,⟨by rw[f2.len];exact x1.t.vl,by rw[f2.eq];exact x1.t.hl,by rw[f2.eq];simp only;omega,.inr (.inl rfl),by simp,λ_=>?_,by simp⟩⟩;unfold UnO at f3;simp only at f3;rw[x1.asm]at f3;exact f3
end Go.Ta
namespace Go.Ta
theorem J'v: ∀(l acc:List Nat) (x:Nat),x∈D'e l acc↔x∈l∨x∈acc:=by
 intro l
 induction l with
 | nil=>intro acc x;simp[D'e]
 | cons a r ih=>
  intro acc x;unfold D'e;split
  ·rw[ih,l'I];constructor
   ·rintro (h|h)
    ·exact .inl (.inr h)
    ·exact .inr h
   ·rintro ((h|h)|h)
    ·subst h;rename_i h1;exact .inr h1
    ·exact .inl h
    ·exact .inr h
  ·rw[ih,l'I,l'E,l'm];constructor
   ·rintro (h|h|h)
    ·exact .inl (.inr h)
    ·exact .inr h
    ·exact .inl (.inl h)
   ·rintro ((h|h)|h)
    ·exact .inr (.inr h)
    ·exact .inl h
    ·exact .inr (.inl h)
theorem N'5: ∀(l acc:List Nat),acc.Nodup->(D'e l acc).Nodup:=by
 intro l
 induction l with
 | nil=>intro acc h;exact h
 | cons a r ih=>
  intro acc h;unfold D'e;split
  ·exact ih acc h
  ·rename_i hn
   refine ih _ ?_;rw[List.nodup_append];exact⟨h,by simp,λx hx y hy=>by simp only[l'm]at hy;subst hy;exact λe=>hn (e ▸ hx)⟩
theorem J'w: ∀(l acc:List Nat),(D'e l acc).length<=acc.length+l.length:=by
 intro l
 induction l with
 | nil=>intro acc;simp[D'e]
 | cons a r ih=>
  intro acc;unfold D'e;split
  ·have:=ih acc;simp;omega
  ·have:=ih (acc++[a]);simp at this ⊢;omega
theorem D'x (l:List Nat)(x:Nat): x∈E'F l↔x∈l:=by unfold E'F;rw[J'v];simp
theorem R'x (l:List Nat): (E'F l).Nodup:=N'5 l [] (by simp)
theorem N'6 (l:List Nat): (E'F l).length<=l.length:=by have:=J'w l [];unfold E'F;simpa using this
structure SOk (n:Nat)(s:Solv):Prop where
 e:s.early.length=n
 c:∀c∈s.clauses,c.Nodup∧∀l∈c,l<2*n
 l:s.clauses.length<=900000
 u:∃l,[l]∈s.clauses
theorem H'd (n:Nat)(l:List Nat): E'6 n l=true↔∀x∈l,x<2*n:=by
 unfold E'6;rw[l'D];simp
theorem H'T {n:Nat}(hn0:0<n)(hn:n<=61){s:Solv}(x:SOk n s){as:List Nat}(hab:∀l∈as,l<2*n)(hal:as.length<=1000){budget:Int}(hb:0<=budget)(hc:s.conflicts<B'w){f m:Nat}(hf:n<f)(hm:D'b n as.length<=m):
  ∃s' a,E's f m s as budget=some (s',a)∧s'.early=s.early∧s'.clauses=s.clauses∧s.conflicts<=s'.conflicts∧s'.conflicts<=s.conflicts+2^n∧(a=1∨a=2∨a=3)
   ∧ (a=1->∃σ:Nat->Bool,s'.model=(List.range n).map σ∧D'F σ s.clauses∧∀l∈as,tr σ l=true)
   ∧ (a=2->(∀l∈s'.core,l∈as)∧s'.core.length<=1000∧∀σ,D'F σ s.clauses->¬∀l∈s'.core,tr σ l=true)
   ∧ (a=3->budget<((s'.conflicts-s.conflicts:Nat):Int)):=by
 have hmm:most=1000000:=rfl;have hm62:B'w=4611686018427387904:=rfl;have h2n:2^n<=2^61:=Nat.pow_le_pow_right (by omega) hn;have hdl:=N'6 as;have hrd:D'b n (E'F as).length<=D'b n as.length:=by
  unfold D'b;have:2^n*((E'F as).length+n+1)<=2^n*(as.length+n+1):=Nat.mul_le_mul_left _ (by omega);omega
 obtain⟨q,a,e1,en⟩:=J'u (G:=s.clauses) hn hn0 x.e (as:=E'F as) (by omega) (λl hl=>hab l ((D'x _ _).1 hl)) x.c x.l hf (l'G hrd hm) x.u budget;have hcond:E'6 s.early.length as=true∧as.length<most∧0<=budget∧0<s.early.length∧s.early.length<=192∧s.clauses.length<most:=by
  rw[x.e];exact⟨(H'd _ _).2 hab,by omega,hb,hn0,by omega,by have:=x.l;omega⟩
 have hcond2:s.conflicts<B'w∧q.met<=B'w∧q.vars.length=s.early.length∧q.holds.length=2*s.early.length:=by
  rw[x.e];exact⟨hc,by have:=en.mt;omega,en.vl,en.hl⟩
 refine⟨{ s with conflicts:=s.conflicts+q.met,model:=if a=1 then (List.range s.early.length).map (λv=>q.holds.getD (2*v) false) else [],core:=if a=2 then q.core else [] },a,?_,rfl,rfl,by simp,by simp only;have:=en.mt;omega,en.ab,?_,?_,?_⟩
 ·unfold E's;rw[if_pos hcond,e1];simp only;rw[if_pos hcond2]
 ·intro h1;obtain⟨σ,g1,g2,g3⟩:=en.sa h1;refine⟨σ,?_,g2,λl hl=>g3 l ((D'x _ _).2 hl)⟩;simp only[if_pos h1,x.e];refine List.map_congr_left λv hv=>?_;rw[l'r,g1 v (by simpa using hv)];rfl
 ·intro h1;obtain⟨g1,g2,g3⟩:=en.un h1;simp only[if_pos h1];exact⟨λl hl=>(D'x _ _).1 (g1 l hl),g2,g3⟩
 ·intro h1;have:=en.sp h1;simp only;rw[Nat.add_sub_cancel_left];exact this
theorem J'x {l:List Nat}(h:B'Y l=true)(σ:Nat->Bool): clT σ l:=by
 unfold B'Y at h;rw[List.any_eq_true]at h;obtain⟨⟨x,i⟩,hx,hy⟩:=h;rw[List.any_eq_true]at hy;obtain⟨y,hy,he⟩:=hy;simp only[beq_iff_eq]at he;have hxl:x∈l:=l'f (List.mem_zipIdx_iff_getElem?.1 hx);have hyl:y∈l:=List.mem_of_mem_take hy
 cases hs:tr σ x with
 | true=>exact⟨x,hxl,hs⟩
 | false=>
  refine⟨y,hyl,?_⟩;rw[he,C'9,hs];rfl
theorem F'm {n:Nat}{s:Solv}(he:s.early.length=n)(hc:∀c∈s.clauses,c.Nodup∧∀l∈c,l<2*n){l:List Nat}(hl:∀x∈l,x<2*n)(hll:l.length<most)(hcl:s.clauses.length<most):
  ∃s',J'e s l=some s'∧s'.early=s.early∧s'.model=s.model∧s'.core=s.core∧s'.conflicts=s.conflicts∧s'.clauses.length<=s.clauses.length+1∧(∀c∈s'.clauses,c.Nodup∧∀l∈c,l<2*n)∧(∀c∈s.clauses,c∈s'.clauses)∧∀σ,D'F σ s'.clauses↔D'F σ s.clauses∧clT σ l:=by
 have hcond:E'6 s.early.length l=true∧l.length<most∧s.clauses.length<most:=⟨by rw[he];exact (H'd _ _).2 hl,hll,hcl⟩;have hd:∀σ,clT σ (E'F l)↔clT σ l:=by
  intro σ;unfold clT;constructor
  ·rintro⟨x,h1,h2⟩;exact⟨x,(D'x _ _).1 h1,h2⟩
  ·rintro⟨x,h1,h2⟩;exact⟨x,(D'x _ _).2 h1,h2⟩
 unfold J'e;rw[if_pos hcond]
 by_cases ha:B'Y (E'F l)=true
 ·rw[if_pos ha];exact⟨s,rfl,rfl,rfl,rfl,rfl,by omega,hc,λc h=>h,λσ=>⟨λh=>⟨h,(hd σ).1 (J'x ha σ)⟩,λh=>h.1⟩⟩
 ·rw[if_neg ha];refine⟨_,rfl,rfl,rfl,rfl,rfl,by simp,?_,λc h=>by simp[h],λσ=>?_⟩
  ·intro c hc';simp only[l'E,l'm]at hc';rcases hc' with h|rfl
   ·exact hc c h
   ·exact⟨R'x l,λx hx=>hl x ((D'x _ _).1 hx)⟩
  ·unfold D'F;simp only[l'E,l'm];constructor
   ·intro h;exact⟨λc hc=>h c (.inl hc),(hd σ).1 (h _ (.inr rfl))⟩
   ·rintro⟨h1,h2⟩ c (h|rfl)
    ·exact h1 c h
    ·exact (hd σ).2 h2
theorem E'e {n:Nat}: ∀(ls:List (List Nat))(s:Solv),s.early.length=n->(∀c∈s.clauses,c.Nodup∧∀l∈c,l<2*n)->(∀l∈ls,(∀x∈l,x<2*n)∧l.length<most)->s.clauses.length+ls.length<=900000 ->
  ∃s',C'T ls s=some s'∧s'.early=s.early∧s'.conflicts=s.conflicts∧s'.clauses.length<=s.clauses.length+ls.length∧(∀c∈s'.clauses,c.Nodup∧∀l∈c,l<2*n)∧(∀c∈s.clauses,c∈s'.clauses)∧∀σ,D'F σ s'.clauses↔D'F σ s.clauses∧D'F σ ls:=by
 have hm:most=1000000:=rfl;intro ls
 induction ls with
 | nil=>intro s he hc _ _;exact⟨s,rfl,rfl,rfl,by simp,hc,λc h=>h,λσ=>by simp[D'F]⟩
 | cons l r ih=>
  intro s he hc hl hlen;simp at hlen;obtain⟨s1,e1,e2,-,-,e3,e4,e5,e6,e7⟩:=F'm he hc (hl l (by simp)).1 (hl l (by simp)).2 (by omega);obtain⟨s2,f1,f2,f3,f4,f5,f6,f7⟩:=ih s1 (by rw[e2];exact he) e5 (λl' h=>hl l' (by simp[h])) (by omega);refine⟨s2,by unfold C'T;rw[e1];exact f1,by rw[f2,e2],by rw[f3,e3],by simp;omega,f5,λc h=>f6 c (e6 c h),λσ=>?_⟩;rw[f7,e7];unfold D'F;simp only[l'I,forall_eq_or_imp];constructor
  ·rintro⟨⟨a,b⟩,c⟩;exact⟨a,b,c⟩
  ·rintro⟨a,b,c⟩;exact⟨⟨a,b⟩,c⟩
end Go.Ta
namespace Go.Ta
def numL (f:Nat->Bool): Nat->Nat
 | 0=>0
 | k+1=>(if f k then 2^k else 0)+numL f k
theorem D'Q (f:Nat->Bool): ∀k,numL f k<2^k:=by
 intro k
 induction k with
 | zero=>simp[numL]
 | succ k ih=>simp only[numL,Nat.pow_succ];split <;> omega
theorem C'h (f:Nat->Bool): ∀k j,j<k->(numL f k).testBit j=f j:=by
 intro k
 induction k with
 | zero=>intro j h;omega
 | succ k ih=>
  intro j h;have hlt:=D'Q f k;simp only[numL]
  by_cases e:j=k
  ·subst e
   cases hf:f j with
   | true=>simp only[if_true];rw[Nat.testBit_two_pow_add_eq,Nat.testBit_lt_two_pow hlt];rfl
   | false=>simp only[l'y,if_false,l'F];exact Nat.testBit_lt_two_pow hlt
  ·cases hf:f k with
   | true=>simp only[if_true];rw[Nat.testBit_two_pow_add_gt (by omega)];exact ih j (by omega)
   | false=>simp only[l'y,if_false,l'F];exact ih j (by omega)
theorem F'n {a b k:Nat}(ha:a<2^k)(hb:b<2^k)(h:∀j,j<k->a.testBit j=b.testBit j): a=b:=by
 apply Nat.eq_of_testBit_eq;intro j
 by_cases hj:j<k
 ·exact h j hj
 ·have h1:2^k<=2^j:=Nat.pow_le_pow_right (by omega) (by omega);rw[Nat.testBit_lt_two_pow (Nat.lt_of_lt_of_le ha h1),Nat.testBit_lt_two_pow (Nat.lt_of_lt_of_le hb h1)]
theorem E'f (st j:Nat): st/2^j%2=if st.testBit j then 1 else 0:=by
 rw[Nat.testBit_eq_decide_div_mod_eq];rcases Nat.mod_two_eq_zero_or_one (st/2^j) with h|h <;> simp[h]
theorem D't (s:Solv)(first:Nat): ∀count,D'p s first count<2^count:=by
 intro count
 induction count with
 | zero=>simp[D'p]
 | succ n ih=>
  unfold D'p at ih ⊢;rw[l'B,List.foldl_append];simp only[List.foldl_cons,List.foldl_nil];generalize (List.range n).foldl (λn j=>if s.model.getD (first+j) false then n ||| 2^j else n) 0=x at ih;have h2:2^n<2^(n+1):=Nat.pow_lt_pow_right (by omega) (by omega);split
  ·exact Nat.or_lt_two_pow (by omega) h2
  ·omega
theorem H'e (s:Solv)(first:Nat): ∀count j,j<count->(D'p s first count).testBit j=s.model.getD (first+j) false:=by
 intro count
 induction count with
 | zero=>intro j h;omega
 | succ n ih=>
  intro j h;have hlt:=D't s first n
  have hs:D'p s first (n+1)=if s.model.getD (first+n) false then D'p s first n ||| 2^n else D'p s first n:=by
   unfold D'p;rw[l'B,List.foldl_append];rfl
  rw[hs]
  by_cases e:j=n
  ·subst e;split
   ·rename_i hm
    rw[Nat.testBit_or,Nat.testBit_two_pow,hm];simp
   ·rename_i hm
    rw[Nat.testBit_lt_two_pow hlt];simpa using hm
  ·split
   ·rw[Nat.testBit_or,Nat.testBit_two_pow,ih j (by omega)];have:¬n=j:=λh=>e h.symm;simp[this]
   ·exact ih j (by omega)
structure CkW (N:Ck):Prop where
 gt:∀(k:Nat) (g l:Nat),N.gts[k]?=some (g,l)->g/2<1+N.ni+N.las.length+k∧l/2<1+N.ni+N.las.length+k
 la:∀(j:Nat) (x r:Nat),N.las[j]?=some (x,r)->x/2<N.nv∧r<=2
 bd:N.bad/2<N.nv
def F'V (N:Ck)(σ:Nat->Bool): Prop:=σ 0=false∧∀(k g l:Nat),N.gts[k]?=some (g,l)->σ (1+N.ni+N.las.length+k)=(tr σ g&&tr σ l)
def G's (N:Ck)(σ:Nat->Bool): Nat:=numL (λj=>σ (1+N.ni+j)) N.las.length
def L'N (N:Ck)(σ:Nat->Bool): Nat:=numL (λj=>σ (1+j)) N.ni
def trL (vs:List Bool)(x:Nat): Bool:=tr (λv=>vs.getD v false) x
def L'O: List (Nat×Nat)->List Bool->List Bool
 | [],vs=>vs
 | (g,l) :: r,vs=>L'O r (vs++[trL vs g&&trL vs l])
def F'u (N:Ck)(st inp:Nat): List Bool:=false :: ((List.range N.ni).map inp.testBit++(List.range N.las.length).map st.testBit)
def val (N:Ck)(st inp:Nat): Nat->Bool:=λv=>(L'O N.gts (F'u N st inp)).getD v false
theorem I'S: ∀(gs:List (Nat×Nat))(vs:List Bool),∃e,L'O gs vs=vs++e:=by
 intro gs
 induction gs with
 | nil=>intro vs;exact⟨[],by simp[L'O]⟩
 | cons p r ih=>
  intro vs;obtain⟨g,l⟩:=p;unfold L'O;obtain⟨e,he⟩:=ih (vs++[trL vs g&&trL vs l]);exact⟨(trL vs g&&trL vs l) :: e,by rw[he];simp⟩
theorem D'y {vs e:List Bool}{v:Nat}(h:v<vs.length): (vs++e).getD v false=vs.getD v false:=by
 rw[l'r,l'r,l'e h]
theorem L'P: ∀(gs:List (Nat×Nat))(vs:List Bool),(∀(k g l:Nat),gs[k]?=some (g,l)->g/2<vs.length+k∧l/2<vs.length+k)->∀(k g l:Nat),gs[k]?=some (g,l)->(L'O gs vs).getD (vs.length+k) false=(trL (L'O gs vs) g&&trL (L'O gs vs) l):=by
 intro gs
 induction gs with
 | nil=>intro vs _ k g l h;simp at h
 | cons p r ih=>
  intro vs hw k g l h;obtain⟨g0,l0⟩:=p;unfold L'O
  cases k with
  | zero=>
   simp only[l'w,l'a,l'd]at h;obtain⟨rfl,rfl⟩:=h;have hb:=hw 0 g0 l0 rfl;obtain⟨e,he⟩:=I'S r (vs++[trL vs g0&&trL vs l0]);rw[he];have h1:((vs++[trL vs g0&&trL vs l0])++e).getD (vs.length+0) false=(trL vs g0&&trL vs l0):=by
    rw[D'y (by simp),l'r];simp
   rw[h1];have h2:∀x,x/2<vs.length->trL ((vs++[trL vs g0&&trL vs l0])++e) x=trL vs x:=by
    intro x hx;unfold trL tr;simp only;rw[D'y (by simp;omega),D'y hx]
   rw[h2 g0 (by omega),h2 l0 (by omega)]
  | succ k=>
   simp only[l'x]at h;have:=ih (vs++[trL vs g0&&trL vs l0]) (λk' g' l' h'=>by
    have:=hw (k'+1) g' l' (by simpa using h');simp;omega) k g l h
   simp only[l'p,l'n,l'o,l'F]at this;rw[show vs.length+(k+1)=vs.length+1+k by omega];exact this
theorem L'Q (N:Ck)(st inp:Nat): (F'u N st inp).length=1+N.ni+N.las.length:=by simp[F'u];omega
theorem L'R {N:Ck}(W:CkW N)(st inp:Nat): F'V N (val N st inp)∧(∀j,j<N.ni->val N st inp (1+j)=inp.testBit j)∧∀j,j<N.las.length->val N st inp (1+N.ni+j)=st.testBit j:=by
 obtain⟨e,he⟩:=I'S N.gts (F'u N st inp);have hl:=L'Q N st inp;refine⟨⟨?_,?_⟩,?_,?_⟩
 ·unfold val;rw[he,D'y (by omega)];rfl
 ·intro k g l h;have:=L'P N.gts (F'u N st inp) (λk g l h=>by rw[hl];exact W.gt k g l h) k g l h;rw[hl]at this;exact this
 ·intro j hj;unfold val;rw[he,D'y (by omega),l'r];unfold F'u;rw[show 1+j=j+1 by omega,l'x,l'e (by simpa using hj)];simp[hj]
 ·intro j hj;unfold val;rw[he,D'y (by omega),l'r];unfold F'u;rw[show 1+N.ni+j=(N.ni+j)+1 by omega,l'x,l'z (by simp)];simp[hj]
theorem N'7 {N:Ck}(W:CkW N){σ τ:Nat->Bool}(h1:F'V N σ)(h2:F'V N τ)(hi:∀j,j<N.ni->σ (1+j) = τ (1+j))(hl:∀j,j<N.las.length->σ (1+N.ni+j) = τ (1+N.ni+j)): ∀v,v<N.nv->σ v = τ v:=by
 intro v
 induction v using Nat.strongRecOn with
 | _ v ih=>
  intro hv;unfold Ck.nv at hv ih
  by_cases e0:v=0
  ·subst e0;rw[h1.1,h2.1]
  ·by_cases e1:v<1+N.ni
   ·have:=hi (v-1) (by omega)
    rwa [show 1+(v-1)=v by omega]at this
   ·by_cases e2:v<1+N.ni+N.las.length
    ·have:=hl (v-1-N.ni) (by omega)
     rwa [show 1+N.ni+(v-1-N.ni)=v by omega]at this
    ·obtain⟨k,hk⟩:∃k,v=1+N.ni+N.las.length+k:=⟨v-(1+N.ni+N.las.length),by omega⟩;subst hk;obtain⟨⟨g,l⟩,hgl⟩:∃y,N.gts[k]?=some y:=⟨_,l'c (by omega)⟩;have hb:=W.gt k g l hgl;rw[h1.2 k g l hgl,h2.2 k g l hgl];unfold tr;rw[ih (g/2) (by omega) (by omega),ih (l/2) (by omega) (by omega)]
def nxt (N:Ck)(st inp:Nat): Nat:=numL (λj=>tr (val N st inp) (N.las.getD j (0,0)).1) N.las.length
def L'S (N:Ck)(st inp:Nat): Bool:=tr (val N st inp) N.bad
theorem O'H (N:Ck)(st inp:Nat): nxt N st inp<2^N.las.length:=D'Q _ _
theorem R'y {N:Ck}(W:CkW N){σ:Nat->Bool}(h:F'V N σ): ∀x,x/2<N.nv->tr σ x=tr (val N (G's N σ) (L'N N σ)) x:=by
 intro x hx;obtain⟨v1,v2,v3⟩:=L'R W (G's N σ) (L'N N σ);unfold tr;rw[N'7 W h v1 (λj hj=>by rw[v2 j hj];unfold L'N;rw[C'h _ _ _ hj]) (λj hj=>by rw[v3 j hj];unfold G's;rw[C'h _ _ _ hj]) _ hx]
theorem N'8 {N:Ck}(W:CkW N){st inp:Nat}(hs:st<2^N.las.length): G's N (val N st inp)=st:=by
 obtain⟨v1,v2,v3⟩:=L'R W st inp;refine F'n (D'Q _ _) hs λj hj=>?_;unfold G's;rw[C'h _ _ _ hj];exact v3 j hj
theorem H'U (σ:Nat->Bool)(v:Nat): tr σ (2*v) = σ v:=by
 unfold tr;rw[show 2*v/2=v by omega,show 2*v%2=0 by omega]
 cases σ v <;> rfl
theorem T'A (σ:Nat->Bool)(l b:Nat)(hb:b<2): tr σ (l ^^^ b)=(tr σ l != (b==1)):=by
 rcases (show b=0∨b=1 by omega) with rfl|rfl
 ·simp
 ·rw[C'9];cases tr σ l <;> rfl
theorem J'y (N:Ck): ∀(gs:List (Nat×Nat)) (k0:Nat)(σ:Nat->Bool),D'F σ (B'5 N gs k0)↔∀(k g l:Nat),gs[k]?=some (g,l)->σ (1+N.ni+N.las.length+(k0+k))=(tr σ g&&tr σ l):=by
 intro gs
 induction gs with
 | nil=>intro k0 σ;simp[B'5,D'F]
 | cons p r ih=>
  intro k0 σ;obtain⟨g0,l0⟩:=p;have hlit:tr σ (N.lgt k0) = σ (1+N.ni+N.las.length+k0):=by unfold Ck.lgt;rw[H'U]
  have h3:D'F σ (B'5 N ((g0,l0) :: r) k0)↔(clT σ [N.lgt k0 ^^^ 1,g0]∧clT σ [N.lgt k0 ^^^ 1,l0]∧clT σ [N.lgt k0,g0 ^^^ 1,l0 ^^^ 1])∧D'F σ (B'5 N r (k0+1)):=by
   rw[show B'5 N ((g0,l0) :: r) k0=[N.lgt k0 ^^^ 1,g0] :: [N.lgt k0 ^^^ 1,l0] :: [N.lgt k0,g0 ^^^ 1,l0 ^^^ 1] :: B'5 N r (k0+1) from rfl];unfold D'F;simp only[l'I,forall_eq_or_imp];constructor
   ·rintro⟨a,b,c,d⟩;exact⟨⟨a,b,c⟩,d⟩
   ·rintro⟨⟨a,b,c⟩,d⟩;exact⟨a,b,c,d⟩
  have h4:(clT σ [N.lgt k0 ^^^ 1,g0]∧clT σ [N.lgt k0 ^^^ 1,l0]∧clT σ [N.lgt k0,g0 ^^^ 1,l0 ^^^ 1])↔σ (1+N.ni+N.las.length+k0)=(tr σ g0&&tr σ l0):=by
   unfold clT;simp only[l'I,List.not_mem_nil,or_false,exists_eq_or_imp,exists_eq_left,C'9,hlit]
   cases σ (1+N.ni+N.las.length+k0) <;> cases tr σ g0 <;> cases tr σ l0 <;> simp
  rw[h3,h4,ih (k0+1) σ];constructor
  ·rintro⟨a,b⟩ k g l h
   cases k with
   | zero=>
    simp only[l'w,l'a,l'd]at h;obtain⟨rfl,rfl⟩:=h;exact a
   | succ k=>
    have:=b k g l (by simpa using h)
    rwa [show k0+1+k=k0+(k+1) by omega]at this
  ·intro h;refine⟨h 0 g0 l0 rfl,λk g l hk=>?_⟩;have:=h (k+1) g l (by simpa using hk)
   rwa [show k0+(k+1)=k0+1+k by omega]at this
theorem H'f {N:Ck}(W:CkW N): ∀(gs:List (Nat×Nat)) (k0:Nat),(∀(k g l:Nat),gs[k]?=some (g,l)->N.gts[k0+k]?=some (g,l))->∀c∈B'5 N gs k0,(∀x∈c,x<2*N.nv)∧c.length<most:=by
 have hm:most=1000000:=rfl;intro gs
 induction gs with
 | nil=>intro k0 _ c h;simp[B'5]at h
 | cons p r ih=>
  intro k0 hg c hc;obtain⟨g0,l0⟩:=p;have h0:=hg 0 g0 l0 rfl;have hb:=W.gt _ _ _ h0;have hk:=(l'b.1 h0).1;have hl1:N.lgt k0<2*N.nv:=by unfold Ck.lgt Ck.nv;omega
  have hg1:g0<2*N.nv:=by unfold Ck.nv;omega
  have hg2:l0<2*N.nv:=by unfold Ck.nv;omega
  unfold B'5 at hc;simp only[l'I]at hc;rcases hc with rfl|rfl|rfl|hc
  ·refine⟨λx hx=>?_,by simp;omega⟩;simp only[l'I,List.not_mem_nil,or_false]at hx;rcases hx with rfl|rfl
   ·exact D'r hl1
   ·exact hg1
  ·refine⟨λx hx=>?_,by simp;omega⟩;simp only[l'I,List.not_mem_nil,or_false]at hx;rcases hx with rfl|rfl
   ·exact D'r hl1
   ·exact hg2
  ·refine⟨λx hx=>?_,by simp;omega⟩;simp only[l'I,List.not_mem_nil,or_false]at hx;rcases hx with rfl|rfl|rfl
   ·exact hl1
   ·exact D'r hg1
   ·exact D'r hg2
  ·exact ih (k0+1) (λk g l h=>by rw[show k0+1+k=k0+(k+1) by omega];exact hg (k+1) g l (by simpa using h)) c hc
theorem J'z (N:Ck): ∀(gs:List (Nat×Nat)) (k0:Nat),(B'5 N gs k0).length=3*gs.length:=by
 intro gs
 induction gs with
 | nil=>intro k0;rfl
 | cons p r ih=>
  intro k0;obtain⟨g0,l0⟩:=p;simp only[B'5,l'n,ih];omega
structure FrS (N:Ck)(F:Fr)(S:Nat->Prop):Prop where
 s:SOk N.nv F.s
 m:∀σ,D'F σ F.s.clauses↔F'V N σ∧S (G's N σ)
theorem F'W {N:Ck}(W:CkW N)(hn:N.nv<=192): ∃F,E'u N=some F∧F.own=[]∧F.s.conflicts=0∧F.s.clauses.length<=600∧FrS N F (λ_=>True):=by
 have hm:most=1000000:=rfl;have hnv:1<=N.nv:=by unfold Ck.nv;omega
 have hgl:N.gts.length<=192:=by unfold Ck.nv at hn;omega
 have hlen:=J'z N N.gts 0;obtain⟨s,e1,e2,e3,e4,e5,e6,e7⟩:=E'e (n:=N.nv) ([1] :: B'5 N N.gts 0) ⟨(List.range N.nv).map λv=>decide (v<=N.ni+N.las.length),[],[],[],0⟩ (by simp) (by simp) (λl hl=>by
  rcases l'I.1 hl with rfl|h
  ·exact⟨λx hx=>by simp only[l'm]at hx;omega,by simp;omega⟩
  ·exact H'f W N.gts 0 (λk g l h=>by simpa using h) l h) (by simp;omega)
 have hone:[1]∈s.clauses:=by
  unfold C'T at e1
  cases h:J'e ⟨(List.range N.nv).map λv=>decide (v<=N.ni+N.las.length),[],[],[],0⟩ [1]with
  | none=>rw[h]at e1;simp at e1
  | some s1=>
   rw[h]at e1;simp only at e1;have hs1:[1]∈s1.clauses:=by
    unfold J'e at h;split at h
    ·simp only[l'a]at h;rw[<-h];have:B'Y (E'F [1])=false:=by decide
     rw[if_neg (by rw[this];simp)];have:E'F [1]=[1]:=by decide
     simp[this]
    ·simp at h
   obtain⟨f1,f2,f3,-,-,f4,f5,f6,-,-⟩:=F'm (n:=N.nv) (s:=⟨(List.range N.nv).map λv=>decide (v<=N.ni+N.las.length),[],[],[],0⟩) (by simp) (by simp) (l:=[1]) (by simp;omega) (by simp;omega) (by simp;omega);rw[h]at f2;simp only[l'a]at f2;subst f2;obtain⟨s2,g1,g2,g3,g4,g5,g6,g7⟩:=E'e (n:=N.nv) (B'5 N N.gts 0) s1 (by rw[f3];simp) f6 (λl hl=>H'f W N.gts 0 (λk g l h=>by simpa using h) l hl) (by simp at f5;omega);rw[e1]at g1;simp only[l'a]at g1;subst g1;exact g6 _ hs1
 refine⟨⟨s,[]⟩,?_,rfl,e3,by simp at e4;simp only;omega,⟨by rw[e2];simp,e5,by simp at e4;simp only;omega,⟨1,hone⟩⟩,?_⟩
 ·unfold E'u;rw[e1]
 ·intro σ;simp only;rw[e7];unfold F'V;have h1:D'F σ ([1] :: B'5 N N.gts 0)↔tr σ 1=true∧D'F σ (B'5 N N.gts 0):=by
   unfold D'F clT;simp only[l'I,forall_eq_or_imp,l'm,exists_eq_left];simp
  have h2:tr σ 1=true↔σ 0=false:=by unfold tr;cases σ 0 <;> simp
  rw[h1,h2,J'y];simp[D'F]
end Go.Ta
