import Derived.Test.YtimdkminagnhgabGreatDoorQ16
set_option linter.all false
namespace Go.Ta
theorem M'e (l:Nat): (l ^^^ 1)%2=(l+1)%2:=by
 have h:=@Nat.xor_mod_two_eq_one l 1;rcases Nat.mod_two_eq_zero_or_one (l ^^^ 1) with h1|h1 <;> rcases Nat.mod_two_eq_zero_or_one l with h2|h2 <;> simp[h1,h2]at h <;> omega
theorem E'z (l:Nat): l ^^^ 1=if l%2=0 then l+1 else l-1:=by
 have h1:(l ^^^ 1)/2=l/2:=by rw[Nat.xor_div_two];simp
 have h2:(l ^^^ 1)%2=(l+1)%2:=M'e l;split <;> omega
theorem J'r (l:Nat): (l ^^^ 1) ^^^ 1=l:=by
 rw[E'z (l ^^^ 1),E'z l];split <;> split <;> omega
theorem J's (l:Nat): (l ^^^ 1)/2=l/2:=by rw[E'z];split <;> omega
theorem R'z (l:Nat): l ^^^ 1≠l:=by rw[E'z];split <;> omega
theorem D'Z {l n:Nat}(h:l<2*n): l ^^^ 1<2*n:=by rw[E'z];split <;> omega
theorem L'p {a b:Nat}(h:a/2=b/2): a=b∨a=b ^^^ 1:=by
 rw[E'z];split <;> omega
theorem Q'y {a b:Nat}(h:a ^^^ 1=b ^^^ 1): a=b:=by
 have:=congrArg (· ^^^ 1) h;simpa only[J'r]using this
def tr (σ:Nat->Bool)(l:Nat): Bool:=σ (l/2)==(l%2==0)
theorem E'A (σ:Nat->Bool)(l:Nat): tr σ (l ^^^ 1) = !tr σ l:=by
 unfold tr;rw[J's];have h2:(l ^^^ 1)%2=(l+1)%2:=M'e l;rw[h2];rcases Nat.mod_two_eq_zero_or_one l with h|h
 ·have:(l+1)%2=1:=by omega
  rw[h,this];cases σ (l/2) <;> rfl
 ·have:(l+1)%2=0:=by omega
  rw[h,this];cases σ (l/2) <;> rfl
def clT (σ:Nat->Bool)(c:List Nat): Prop:=∃l∈c,tr σ l=true
def C'p (σ:Nat->Bool)(G:List (List Nat)): Prop:=∀c∈G,clT σ c
def M'f (G:List (List Nat))(c:List Nat): Prop:=∀σ,C'p σ G->clT σ c
theorem H'f {G:List (List Nat)}{l:Nat}(h:M'f G [l]){σ:Nat->Bool}(hs:C'p σ G): tr σ l=true:=by
 obtain⟨x,hx,ht⟩:=h σ hs;simp only[l'm]at hx;rw[<-hx];exact ht
def lv (starts:List Nat)(i:Nat): Nat:=starts.countP λs=>decide (s<=i)
theorem H'X (st:List Nat)(i:Nat): lv st i<=st.length:=List.countP_le_length
theorem O'm {st:List Nat}{i j:Nat}(h:i<=j): lv st i<=lv st j:=by
 unfold lv;refine List.countP_mono_left (λx _ hx=>?_);simp only[l'M]at hx ⊢;omega
theorem E'3 {st:List Nat}{i:Nat}(h:∀s∈st,s<=i): lv st i=st.length:=by
 unfold lv;rw[List.countP_eq_length];intro s hs;simpa using h s hs
theorem C'T {st:List Nat}{i t:Nat}(h:i<t): lv (st++[t]) i=lv st i:=by
 unfold lv;rw[List.countP_append];simp[List.countP_cons,List.countP_nil,Nat.not_le.2 h]
theorem J't {st:List Nat}{i t:Nat}(h:t<=i): lv (st++[t]) i=lv st i+1:=by
 unfold lv;rw[List.countP_append];simp[List.countP_cons,List.countP_nil,h]
theorem O'n {st:List Nat}{i:Nat}(h:∀s∈st,i<s): lv st i=0:=by
 unfold lv;rw[List.countP_eq_zero];intro s hs;have:=h s hs;simp;omega
def Srt (st:List Nat): Prop:=st.Pairwise (·<=·)
theorem Srt.le {st:List Nat}(h:Srt st){i j a b:Nat}(hij:i<=j)(ha:st[i]?=some a)(hb:st[j]?=some b): a<=b:=by
 obtain⟨hi,rfl⟩:=l'b.1 ha;obtain⟨hj,rfl⟩:=l'b.1 hb;rcases Nat.lt_or_eq_of_le hij with h1|rfl
 ·exact List.pairwise_iff_getElem.1 h i j hi hj h1
 ·exact l'H _
theorem Srt.app {st:List Nat}(h:Srt st){t:Nat}(ht:∀s∈st,s<=t): Srt (st++[t]):=by
 unfold Srt;rw[List.pairwise_append];exact⟨h,List.pairwise_singleton _ _,λa ha b hb=>by simp only[l'm]at hb;subst hb;exact ht a ha⟩
theorem F'n {st:List Nat}(h:Srt st){L s i:Nat}(hs:st[L]?=some s)(hi:i<s): lv (st.take L) i=lv st i∧lv st i<=L:=by
 have h1:lv st i=lv (st.take L) i+lv (st.drop L) i:=by
  unfold lv;rw[<-List.countP_append,List.take_append_drop]
 have h2:lv (st.drop L) i=0:=by
  refine O'n λx hx=>?_;obtain⟨j,hj⟩:=l'i.1 hx;rw[List.getElem?_drop]at hj;have:=h.le (Nat.le_add_right L j) hs hj;omega
 have h3:=H'X (st.take L) i;rw[List.length_take]at h3;omega
theorem R'A {st:List Nat}(h:Srt st){L s i:Nat}(hs:st[L]?=some s)(hi:s<=i): L+1<=lv st i:=by
 have h1:lv st i=lv (st.take (L+1)) i+lv (st.drop (L+1)) i:=by
  unfold lv;rw[<-List.countP_append,List.take_append_drop]
 have h2:lv (st.take (L+1)) i=(st.take (L+1)).length:=by
  refine E'3 λx hx=>?_;obtain⟨j,hj⟩:=l'i.1 hx;have hjl:=(l'b.1 hj).1;rw[List.length_take]at hjl;rw[l'j (by omega)]at hj;have:=h.le (show j<=L by omega) hj hs;omega
 have hL:=(l'b.1 hs).1;rw[List.length_take]at h2;omega
theorem Q'z {st:List Nat}(h:Srt st){L s i:Nat}(hs:st[L]?=some s)(hi:lv st i<=L): i<s:=by
 rcases Nat.lt_or_ge i s with h1|h1
 ·exact h1
 ·have:=R'A h hs h1;omega
def Rsn (cls:List Cl)(T st:List Nat)(i l:Nat): Option Nat->Prop
 | none=>i∈st∨lv st i=0
 | some k=>i∉st∧∃c:Cl,cls[k]?=some c∧l∈c.lits∧∀m∈c.lits,m≠l->(m ^^^ 1)∈T.take i
def Wt (T st:List Nat)(D a b:Nat): Prop:=∀d,d<D->T[d]?=some (a ^^^ 1)->∃j,T[j]?=some b∧lv st j<=lv st d
structure TI (n:Nat)(G:List (List Nat)) (D:Nat)(q:Srch):Prop where
 hl:q.holds.length=2*n
 vl:q.vars.length=n
 tb:∀l∈q.trail,l<2*n
 tn:(q.trail.map (· / 2)).Nodup
 hh:∀l,l<2*n->q.holds[l]?=some (decide (l∈q.trail))
 ss:Srt q.starts
 sd:∀s∈q.starts,s<=D
 dt:D<=q.trail.length
 lr:∀(i l:Nat),q.trail[i]?=some l->∃v,q.vars[l/2]?=some v∧v.level=lv q.starts i∧Rsn q.clauses q.trail q.starts i l v.reason
 l0:∀(i l:Nat),q.trail[i]?=some l->lv q.starts i=0->M'f G [l]
def CI (n:Nat)(G:List (List Nat))(cls:List Cl): Prop:=∀(k:Nat)(c:Cl),cls[k]?=some c->(∀l∈c.lits,l<2*n)∧M'f G c.lits
structure WI (n:Nat)(cls:List Cl)(ws:List (List Nat)):Prop where
 wl:ws.length=2*n
 w1:∀(k:Nat)(c:Cl),cls[k]?=some c->2<=c.lits.length->c.left∈c.lits∧c.right∈c.lits∧c.left≠c.right∧(∃w:List Nat,ws[c.left]?=some w∧k∈w)∧(∃w:List Nat,ws[c.right]?=some w∧k∈w)
 w2:∀(l:Nat)(w:List Nat) (k:Nat),ws[l]?=some w->k∈w->∃c:Cl,cls[k]?=some c∧2<=c.lits.length∧(c.left=l∨c.right=l)
 w3:∀(l:Nat)(w:List Nat),ws[l]?=some w->w.Nodup
def DI (cls:List Cl)(T st:List Nat)(D:Nat)(k:Nat): Prop:=∀(c:Cl),cls[k]?=some c->2<=c.lits.length->Wt T st D c.left c.right∧Wt T st D c.right c.left
def VI (q:Srch): Prop:=16<=q.bonus∧q.bonus<=1099511627776∧∀v∈q.vars,v.weight<=34*q.bonus+64
def MK (q:Srch): Prop:=∀v∈q.vars,v.marked=false
structure AI (q:Srch):Prop where
 a1:∀(i a:Nat),q.assumed[i]?=some a->i<q.starts.length->∃j,q.trail[j]?=some a∧lv q.starts j<=i+1
 a2:∀(i s a l:Nat),q.starts[i]?=some s->q.assumed[i]?=some a->q.trail[s]?=some l->lv q.starts s=i+1->l=a
theorem TI.len {n D:Nat}{G:List (List Nat)}{q:Srch}(x:TI n G D q): q.trail.length<=n:=by
 have h1:∀y∈q.trail.map (· / 2),y∈List.range n:=by
  intro y hy;obtain⟨l,hl,rfl⟩:=List.mem_map.1 hy;have:=x.tb l hl;simp;omega
 have h2:=List.Nodup.length_le_of_subset x.tn h1;simpa using h2
theorem TI.uniq {n D:Nat}{G:List (List Nat)}{q:Srch}(x:TI n G D q){i j a b:Nat}(hi:q.trail[i]?=some a)(hj:q.trail[j]?=some b)(h:a/2=b/2): i=j:=by
 have h1:(q.trail.map (· / 2))[i]?=some (a/2):=by simp[hi]
 have h2:(q.trail.map (· / 2))[j]?=some (b/2):=by simp[hj]
 have hil:=(l'b.1 h1).1;rw[<-h,<-h1]at h2;exact (List.getElem?_inj hil x.tn).1 h2.symm
theorem TI.anti {n D:Nat}{G:List (List Nat)}{q:Srch}(x:TI n G D q){l:Nat}(h1:l∈q.trail)(h2:l ^^^ 1∈q.trail): False:=by
 obtain⟨i,hi⟩:=l'i.1 h1;obtain⟨j,hj⟩:=l'i.1 h2;have e:=x.uniq hi hj (by rw[J's]);subst e;rw[hi]at hj;simp only[l'a]at hj;exact R'z l hj.symm
end Go.Ta
namespace Go.Ta
variable {n D:Nat}{G:List (List Nat)}{q q':Srch}
structure Same (q q':Srch):Prop where
 as:q'.assumed=q.assumed
 gv:q'.given=q.given
 bn:q'.bonus=q.bonus
 mt:q'.met=q.met
 co:q'.core=q.core
theorem Same.refl (q:Srch): Same q q:=⟨rfl,rfl,rfl,rfl,rfl⟩
theorem Same.trans {q1 q2 q3:Srch}(a:Same q1 q2)(b:Same q2 q3): Same q1 q3:=⟨by rw[b.as,a.as],by rw[b.gv,a.gv],by rw[b.bn,a.bn],by rw[b.mt,a.mt],by rw[b.co,a.co]⟩
theorem Wt.app {T st:List Nat}{a b l:Nat}(h:Wt T st D a b)(hD:D<=T.length): Wt (T++[l]) st D a b:=by
 intro d hd hT;rw[l'e (by omega)]at hT;obtain⟨j,hj,hl⟩:=h d hd hT;have:=(l'b.1 hj).1;exact⟨j,by rw[l'e this];exact hj,hl⟩
theorem E'B {α:Type}{P:α->Prop}{l:List α}{i:Nat}{y:α}(h:∀x∈l,P x)(hy:P y): ∀x∈l.set i y,P x:=by
 intro x hx;rcases List.mem_or_eq_of_mem_set hx with h1|h1
 ·exact h x h1
 ·subst h1;exact hy
theorem G'H (x:TI n G D q)(hn:n<=192){l:Nat}{r:Option Nat}(hl:l<2*n)(h1:l∉q.trail)(h2:l ^^^ 1∉q.trail)(hr:Rsn q.clauses q.trail q.starts q.trail.length l r)(h0:q.starts=[]->M'f G [l]):
  ∃q',G'4 q l r=some q'∧TI n G D q'∧q'.trail=q.trail++[l]∧q'.starts=q.starts∧q'.clauses=q.clauses∧q'.watchers=q.watchers∧q'.drawn=q.drawn∧Same q q'∧(VI q->VI q')∧(MK q->MK q'):=by
 have hm:most=1000000:=rfl;have htl:=x.len;have hvl:=x.vl;obtain⟨v,hv⟩:∃v,q.vars[l/2]?=some v:=⟨_,l'c (by omega)⟩;have hlen:l<q.holds.length∧q.trail.length<most:=by rw[x.hl];omega
 have hnot:∀(i l':Nat),q.trail[i]?=some l'->l'/2≠l/2:=by
  intro i l' hi he;rcases L'p he with e|e
  ·exact h1 (e ▸ l'f hi)
  ·exact h2 (e ▸ l'f hi)
 have hvi:=(l'b.1 hv);refine⟨{ q with holds:=q.holds.set l true,vars:=q.vars.set (l/2) { v with level:=q.starts.length,reason:=r,last:=l%2==0 },trail:=q.trail++[l] },by unfold G'4;rw[hv];simp only;rw[if_pos hlen],⟨by simp[x.hl],by simp[x.vl],?_,?_,?_,x.ss,x.sd,by simp;have:=x.dt;omega,?_,?_⟩,rfl,rfl,rfl,rfl,rfl,⟨rfl,rfl,rfl,rfl,rfl⟩,?_,?_⟩
 ·intro l' hl';simp only[l'E,l'm]at hl';rcases hl' with h|rfl
  ·exact x.tb l' h
  ·exact hl
 ·simp only[List.map_append,l'J,l'K];rw[List.nodup_append];refine⟨x.tn,by simp,?_⟩;intro a ha b hb;simp only[l'm]at hb;subst hb;obtain⟨l',hl',rfl⟩:=List.mem_map.1 ha;obtain⟨i,hi⟩:=l'i.1 hl';exact hnot i l' hi
 ·intro l' hl';simp only
  by_cases e:l'=l
  ·subst e;rw[l'g (by rw[x.hl];exact hl')];simp
  ·rw[l'h (λh=>e h.symm),x.hh l' hl'];simp[e]
 ·intro i l' hi;simp only at hi ⊢
  by_cases hlt:i<q.trail.length
  ·rw[l'e hlt]at hi;obtain⟨v',hv',hlev,hrs⟩:=x.lr i l' hi;refine⟨v',by rw[l'h (hnot i l' hi).symm];exact hv',hlev,?_⟩
   cases hvr:v'.reason with
   | none=>rw[hvr]at hrs;exact hrs
   | some k=>
    rw[hvr]at hrs;obtain⟨g1,c,g2,g3,g4⟩:=hrs;exact⟨g1,c,g2,g3,λm hm hne=>by rw[List.take_append_of_le_length (by omega)];exact g4 m hm hne⟩
  ·have hil:=(l'b.1 hi).1;simp at hil;obtain rfl:i=q.trail.length:=by omega
   simp at hi;subst hi;refine⟨_,l'g (by omega),?_,?_⟩
   ·simp only;rw[E'3 (λs hs=>l'G (x.sd s hs) x.dt)]
   ·simp only
    cases r with
    | none=>exact hr
    | some k=>
     obtain⟨g1,c,g2,g3,g4⟩:=hr;refine⟨g1,c,g2,g3,λm hm hne=>?_⟩;have:=g4 m hm hne;rw[List.take_append_of_le_length (l'H _)];exact this
 ·intro i l' hi hlv;simp only at hi
  by_cases hlt:i<q.trail.length
  ·rw[l'e hlt]at hi;exact x.l0 i l' hi hlv
  ·have hil:=(l'b.1 hi).1;simp at hil;obtain rfl:i=q.trail.length:=by omega
   simp at hi;subst hi;simp only at hlv;rw[E'3 (λs hs=>l'G (x.sd s hs) x.dt)]at hlv;exact h0 (List.eq_nil_of_length_eq_zero hlv)
 ·rintro⟨b1,b2,b3⟩;exact⟨b1,b2,E'B b3 (b3 v (l'f hv))⟩
 ·intro b;exact E'B b (b v (l'f hv))
theorem Wt.back {T st:List Nat}{a b L s:Nat}(h:Wt T st D a b)(hss:Srt st)(hs:st[L]?=some s)(hsD:s<=D)(hsT:s<=T.length): Wt (T.take s) (st.take L) s a b:=by
 intro d hd hT;rw[l'j hd]at hT;obtain⟨j,hj,hl⟩:=h d (by omega) hT;have h1:=F'n hss hs hd;have hjs:j<s:=Q'z hss hs (by omega);have h2:=F'n hss hs hjs;exact⟨j,by rw[l'j hjs];exact hj,by rw[h1.1,h2.1];exact hl⟩
theorem AI.back (x:AI q)(hss:Srt q.starts){L s:Nat}(hs:q.starts[L]?=some s)(e1:q'.trail=q.trail.take s)(e2:q'.starts=q.starts.take L)(e3:q'.assumed=q.assumed): AI q':=by
 have hL:=(l'b.1 hs).1;refine⟨?_,?_⟩
 ·intro i a ha hi;rw[e3]at ha;rw[e2]at hi ⊢;rw[e1];simp at hi;obtain⟨j,hj,hl⟩:=x.a1 i a ha (by omega);have hjs:j<s:=Q'z hss hs (by omega);exact⟨j,by rw[l'j hjs];exact hj,by rw[(F'n hss hs hjs).1];exact hl⟩
 ·intro i s' a l h1 h2 h3 h4;rw[e2]at h1 h4;rw[e3]at h2;rw[e1]at h3;have hil:=(l'b.1 h1).1;simp at hil;rw[l'j (by omega)]at h1;have hsl:=(l'b.1 h3).1;simp at hsl;rw[l'j (by omega)]at h3;rw[(F'n hss hs (by omega)).1]at h4;exact x.a2 i s' a l h1 h2 h3 h4
theorem H'g (x:TI n G q.trail.length q)(hs:q.starts.length<most):
  ∃q',E'J q=some q'∧q' = { q with starts:=q.starts++[q.trail.length] }∧TI n G q.trail.length q':=by
 refine⟨_,by unfold E'J;rw[if_pos hs],rfl,⟨x.hl,x.vl,x.tb,x.tn,x.hh,x.ss.app x.sd,?_,x.dt,?_,?_⟩⟩
 ·intro s hs';simp only[l'E,l'm]at hs';rcases hs' with h|rfl
  ·exact x.sd s h
  ·exact l'H _
 ·intro i l hi;simp only at hi ⊢;have hil:=(l'b.1 hi).1;obtain⟨v,hv,hlev,hrs⟩:=x.lr i l hi;refine⟨v,hv,by rw[C'T hil];exact hlev,?_⟩
  cases hvr:v.reason with
  | none=>
   rw[hvr]at hrs;rcases hrs with h|h
   ·left;simp[h]
   ·right;rw[C'T hil];exact h
  | some k=>
   rw[hvr]at hrs;obtain⟨g1,c,g2,g3,g4⟩:=hrs;refine⟨?_,c,g2,g3,g4⟩;simp only[l'E,l'm,not_or];exact⟨g1,by omega⟩
 ·intro i l hi hlv;simp only at hi hlv;have hil:=(l'b.1 hi).1;rw[C'T hil]at hlv;exact x.l0 i l hi hlv
theorem Wt.opn {T st:List Nat}{a b:Nat}(h:Wt T st D a b)(hD:D<=T.length): Wt T (st++[T.length]) D a b:=by
 intro d hd hT;obtain⟨j,hj,hl⟩:=h d hd hT;have:=(l'b.1 hj).1;exact⟨j,hj,by rw[C'T this,C'T (by omega)];exact hl⟩
end Go.Ta
namespace Go.Ta
variable {n D:Nat}{G:List (List Nat)}{q q':Srch}
def lits (cls:List Cl): List (List Nat):=cls.map (·.lits)
theorem D'3 {a b:List Cl}(h:lits a=lits b){k:Nat}{c:Cl}(hc:a[k]?=some c): ∃c',b[k]?=some c'∧c'.lits=c.lits:=by
 have h1:(lits a)[k]?=some c.lits:=by simp[lits,hc]
 rw[h]at h1;simp only[lits,List.getElem?_map,Option.map_eq_some_iff]at h1;exact h1
theorem H'h {a:List Cl}{k:Nat}{c c':Cl}(hc:a[k]?=some c)(h:c'.lits=c.lits): lits (a.set k c')=lits a:=by
 unfold lits;rw[List.map_set];refine List.ext_getElem? λi=>?_
 by_cases e:i=k
 ·subst e;have hk:=(l'b.1 hc).1;rw[l'g (by simpa using hk)];simp[hc,h]
 ·rw[l'h (λh=>e h.symm)]
theorem Rsn.cls {a b:List Cl}{T st:List Nat}{i l:Nat}{r:Option Nat}(x:Rsn a T st i l r)(h:lits b=lits a): Rsn b T st i l r:=by
 cases r with
 | none=>exact x
 | some k=>
  obtain⟨g1,c,g2,g3,g4⟩:=x;obtain⟨c',e1,e2⟩:=D'3 h.symm g2;exact⟨g1,c',e1,by rw[e2];exact g3,by rw[e2];exact g4⟩
theorem TI.cls (x:TI n G D q){cls:List Cl}(h:lits cls=lits q.clauses): TI n G D { q with clauses:=cls }:=
 ⟨x.hl,x.vl,x.tb,x.tn,x.hh,x.ss,x.sd,x.dt,λi l hi=>by
  obtain⟨v,h1,h2,h3⟩:=x.lr i l hi;exact⟨v,h1,h2,h3.cls h⟩,x.l0⟩
theorem TI.ws (x:TI n G D q)(ws:List (List Nat)): TI n G D { q with watchers:=ws }:=⟨x.hl,x.vl,x.tb,x.tn,x.hh,x.ss,x.sd,x.dt,x.lr,x.l0⟩
theorem CI.cls {a b:List Cl}(x:CI n G a)(h:lits b=lits a): CI n G b:=by
 intro k c hc;obtain⟨c',e1,e2⟩:=D'3 h hc;rw[<-e2];exact x k c' e1
theorem WI.swap {cls:List Cl}{ws:List (List Nat)}(x:WI n cls ws){k:Nat}{c:Cl}(hc:cls[k]?=some c): WI n (cls.set k { c with left:=c.right,right:=c.left }) ws:=by
 have hk:=(l'b.1 hc).1;refine⟨x.wl,?_,?_,x.w3⟩
 ·intro k' c' hc' hl
  by_cases e:k'=k
  ·subst e;rw[l'g hk]at hc';simp only[l'a]at hc';subst hc';obtain⟨h1,h2,h3,h4,h5⟩:=x.w1 k' c hc hl;exact⟨h2,h1,λh=>h3 h.symm,h5,h4⟩
  ·rw[l'h (λh=>e h.symm)]at hc';exact x.w1 k' c' hc' hl
 ·intro l w k' hw hk';obtain⟨c',e1,e2,e3⟩:=x.w2 l w k' hw hk'
  by_cases e:k'=k
  ·subst e;rw[hc]at e1;simp only[l'a]at e1;subst e1;exact⟨_,l'g hk,e2,e3.symm⟩
  ·exact⟨c',by rw[l'h (λh=>e h.symm)];exact e1,e2,e3⟩
theorem WI.move {cls:List Cl}{ws:List (List Nat)}(x:WI n cls ws){k f o:Nat}{c:Cl}(hc:cls[k]?=some c)(hl:2<=c.lits.length)(hf:c.right=f)(ho:o∈c.lits)(hol:o≠c.left)(hof:o≠f){E1 E2 wo:List Nat}(hE:ws[f]?=some (E1++k :: E2))(hwo:ws[o]?=some wo):
  WI n (cls.set k { c with right:=o }) ((ws.set f (E1++E2)).set o (wo++[k]))∧k∉wo:=by
 have hk:=(l'b.1 hc).1;have hfl:=(l'b.1 hE).1;have holl:=(l'b.1 hwo).1;obtain⟨g1,g2,g3,⟨wL,g4,g4'⟩,g5⟩:=x.w1 k c hc hl;have hlf:c.left≠f:=λh=>g3 (by rw[h,hf]);have hkwo:k∉wo:=λh=>by
  obtain⟨c',e1,e2,e3⟩:=x.w2 o wo k hwo h;rw[hc]at e1;simp only[l'a]at e1;subst e1;rcases e3 with e|e
  ·exact hol e.symm
  ·exact hof (by rw[<-e,hf])
 have hnd:=x.w3 f _ hE;have hkE:k∉E1++E2:=by
  rw[List.nodup_append]at hnd;obtain⟨n1,n2,n3⟩:=hnd;rw[List.nodup_cons]at n2;simp only[l'E,not_or];exact⟨λh=>n3 k h k (by simp) rfl,n2.1⟩
 have getO:((ws.set f (E1++E2)).set o (wo++[k]))[o]?=some (wo++[k]):=l'g (by simpa using holl);have getF:((ws.set f (E1++E2)).set o (wo++[k]))[f]?=some (E1++E2):=by rw[l'h hof,l'g hfl]
 have getX:∀l:Nat,l≠o->l≠f->((ws.set f (E1++E2)).set o (wo++[k]))[l]?=ws[l]?:=λl h1 h2=>by rw[l'h (λh=>h1 h.symm),l'h (λh=>h2 h.symm)]
 have keep:∀(l k':Nat)(w:List Nat),k'≠k->ws[l]?=some w->k'∈w->∃w':List Nat,((ws.set f (E1++E2)).set o (wo++[k]))[l]?=some w'∧k'∈w':=by
  intro l k' w hne hw hk'
  by_cases e1:l=o
  ·subst e1;rw[hwo]at hw;simp only[l'a]at hw;subst hw;exact⟨_,getO,by simp[hk']⟩
  ·by_cases e2:l=f
   ·subst e2;rw[hE]at hw;simp only[l'a]at hw;subst hw;simp only[l'E,l'I,hne,false_or]at hk';exact⟨_,getF,by simpa using hk'⟩
   ·exact⟨w,by rw[getX l e1 e2];exact hw,hk'⟩
 refine⟨⟨by simp[x.wl],?_,?_,?_⟩,hkwo⟩
 ·intro k' c' hc' hl'
  by_cases e:k'=k
  ·subst e;rw[l'g hk]at hc';simp only[l'a]at hc';subst hc';exact⟨g1,ho,λh=>hol h.symm,⟨wL,by simp only;rw[getX _ (λh=>hol h.symm) hlf];exact g4,g4'⟩,⟨_,getO,by simp⟩⟩
  ·rw[l'h (λh=>e h.symm)]at hc';obtain⟨h1,h2,h3,⟨wa,h4,h4'⟩,⟨wb,h5,h5'⟩⟩:=x.w1 k' c' hc' hl';exact⟨h1,h2,h3,keep _ _ _ e h4 h4',keep _ _ _ e h5 h5'⟩
 ·intro l w k' hw hk'
  by_cases e1:l=o
  ·subst e1;rw[getO]at hw;simp only[l'a]at hw;subst hw;simp only[l'E,l'm]at hk'
   by_cases e:k'=k
   ·subst e;exact⟨_,l'g hk,hl,.inr rfl⟩
   ·have hk2:k'∈wo:=by rcases hk' with h|h;exact h;exact absurd h e
    obtain⟨c',e1,e2,e3⟩:=x.w2 l wo k' hwo hk2;exact⟨c',by rw[l'h (λh=>e h.symm)];exact e1,e2,e3⟩
  ·by_cases e2:l=f
   ·subst e2;rw[getF]at hw;simp only[l'a]at hw;subst hw;have e:k'≠k:=λh=>hkE (h ▸ hk');obtain⟨c',e1,e2,e3⟩:=x.w2 l _ k' hE (by
     simp only[l'E,l'I]at hk' ⊢;rcases hk' with h|h
     ·exact .inl h
     ·exact .inr (.inr h))
    exact⟨c',by rw[l'h (λh=>e h.symm)];exact e1,e2,e3⟩
   ·rw[getX l e1 e2]at hw;obtain⟨c',f1,f2,f3⟩:=x.w2 l w k' hw hk'
    by_cases e:k'=k
    ·subst e;rw[hc]at f1;simp only[l'a]at f1;subst f1;rcases f3 with h|h
     ·exact⟨_,l'g hk,f2,.inl h⟩
     ·exact absurd (by rw[<-h,hf]) e2
    ·exact⟨c',by rw[l'h (λh=>e h.symm)];exact f1,f2,f3⟩
 ·intro l w hw
  by_cases e1:l=o
  ·subst e1;rw[getO]at hw;simp only[l'a]at hw;subst hw;rw[List.nodup_append];exact⟨x.w3 l wo hwo,by simp,λa ha b hb=>by simp only[l'm]at hb;subst hb;exact λh=>hkwo (h ▸ ha)⟩
  ·by_cases e2:l=f
   ·subst e2;rw[getF]at hw;simp only[l'a]at hw;subst hw;exact List.Nodup.sublist (List.Sublist.append (List.Sublist.refl _) (List.sublist_cons_self _ _)) hnd
   ·rw[getX l e1 e2]at hw;exact x.w3 l w hw
theorem DI.swap {cls:List Cl}{T st:List Nat}{k k':Nat}{c:Cl}(hc:cls[k]?=some c)(x:DI cls T st D k'): DI (cls.set k { c with left:=c.right,right:=c.left }) T st D k':=by
 have hk:=(l'b.1 hc).1;intro c' hc' hl
 by_cases e:k'=k
 ·subst e;rw[l'g hk]at hc';simp only[l'a]at hc';subst hc';exact (x c hc hl).symm
 ·rw[l'h (λh=>e h.symm)]at hc';exact x c' hc' hl
theorem L'q (x:TI n G D q)(left:Nat): ∀(ls:List Nat),(∀l∈ls,l<2*n)->(D'e q.holds left ls=some none∧∀o∈ls,o≠left->o ^^^ 1∈q.trail)∨∃o,D'e q.holds left ls=some (some o)∧o∈ls∧o≠left∧o ^^^ 1∉q.trail:=by
 intro ls
 induction ls with
 | nil=>intro _;exact .inl ⟨rfl,by simp⟩
 | cons o r ih=>
  intro h;have h1:=ih (λl hl=>h l (by simp[hl]));unfold D'e
  by_cases e:o=left
  ·rw[if_pos e];rcases h1 with ⟨a,b⟩|⟨o',a,b,c⟩
   ·left;refine⟨a,λo' ho' hne=>?_⟩;rcases l'I.1 ho' with rfl|h2
    ·exact absurd e hne
    ·exact b o' h2 hne
   ·exact .inr ⟨o',a,by simp[b],c⟩
  ·rw[if_neg e,x.hh _ (D'Z (h o (by simp)))]
   by_cases e2:o ^^^ 1∈q.trail
   ·simp only[e2,decide_true];rcases h1 with ⟨a,b⟩|⟨o',a,b,c⟩
    ·left;refine⟨a,λo' ho' hne=>?_⟩;rcases l'I.1 ho' with rfl|h2
     ·exact e2
     ·exact b o' h2 hne
    ·exact .inr ⟨o',a,by simp[b],c⟩
   ·simp only[e2,decide_false];exact .inr ⟨o,rfl,by simp,e,e2⟩
end Go.Ta
namespace Go.Ta
variable {n D:Nat}{G:List (List Nat)}{q q':Srch}
structure VL (n:Nat)(G:List (List Nat)) (d f:Nat)(q:Srch) (i kept:Nat)(clash:Option Nat)(wl:List Nat):Prop where
 t:TI n G d q
 c:CI n G q.clauses
 hw:q.watchers[f]?=some wl
 hk:kept<=i
 hi:i<=wl.length
 w:WI n q.clauses (q.watchers.set f (wl.take kept++wl.drop i))
 d0:∀k,DI q.clauses q.trail q.starts d k
 d1:clash=none->∀k,k∉wl.drop i->DI q.clauses q.trail q.starts (d+1) k
 hT:q.trail[d]?=some (f ^^^ 1)
 cl:∀k,clash=some k->∃c:Cl,q.clauses[k]?=some c∧(∀m∈c.lits,m ^^^ 1∈q.trail)∧f∈c.lits∧2<=c.lits.length
 lm:q.clauses.length<=most
structure Ext (q q':Srch):Prop where
 st:q'.starts=q.starts
 dr:q'.drawn=q.drawn
 sm:Same q q'
 tl:∃e,q'.trail=q.trail++e
 li:lits q'.clauses=lits q.clauses
 vi:VI q->VI q'
 mr:MK q->MK q'
theorem Ext.refl (q:Srch): Ext q q:=⟨rfl,rfl,Same.refl q,⟨[],by simp⟩,rfl,id,id⟩
theorem Ext.trans {q1 q2 q3:Srch}(a:Ext q1 q2)(b:Ext q2 q3): Ext q1 q3:=by
 obtain⟨e1,h1⟩:=a.tl;obtain⟨e2,h2⟩:=b.tl;exact⟨by rw[b.st,a.st],by rw[b.dr,a.dr],a.sm.trans b.sm,⟨e1++e2,by rw[h2,h1,List.append_assoc]⟩,by rw[b.li,a.li],λh=>b.vi (a.vi h),λh=>b.mr (a.mr h)⟩
theorem J'u (x:TI n G D q)(hs:q.starts=[]){c:List Nat}{l:Nat}(hc:M'f G c)(h:∀m∈c,m≠l->m ^^^ 1∈q.trail): M'f G [l]:=by
 intro σ hσ;obtain⟨m,hm,ht⟩:=hc σ hσ
 by_cases e:m=l
 ·exact⟨l,by simp,by rw[<-e];exact ht⟩
 ·obtain⟨i,hi⟩:=l'i.1 (h m hm e);have:=H'f (x.l0 i _ hi (by rw[hs];rfl)) hσ;rw[E'A,ht]at this;simp at this
theorem J'v {wl:List Nat}{i kept k:Nat}(hk:kept<=i)(hi:wl[i]?=some k): (wl.set kept k).take (kept+1)++(wl.set kept k).drop (i+1)=wl.take kept++wl.drop i∧(wl.set kept k).drop (i+1)=wl.drop (i+1)∧wl.drop i=k :: wl.drop (i+1):=by
 have hil:=(l'b.1 hi);obtain⟨hlt,hke⟩:=hil;have h1:wl.drop i=k :: wl.drop (i+1):=by rw[l's hlt,hke]
 have h2:(wl.set kept k).drop (i+1)=wl.drop (i+1):=by
  rw[List.drop_set_of_lt (by omega)]
 refine⟨?_,h2,h1⟩;rw[h2,h1,l'C,l'g (by omega),List.take_set_of_le (l'H _)];simp
theorem H'Y (hn:n<=192){d f i kept m:Nat}{clash:Option Nat}{wl:List Nat}(x:VL n G d f q i kept clash wl)(hlt:i<wl.length):
  ∃q1 kept1 clash1 wl1,B'W f (m+1) q i kept clash=B'W f m q1 (i+1) kept1 clash1∧VL n G d f q1 (i+1) kept1 clash1 wl1∧wl1.length=wl.length∧Ext q q1:=by
 obtain⟨k,hk⟩:∃k,wl[i]?=some k:=⟨_,l'c hlt⟩;obtain⟨tk1,tk2,tk3⟩:=J'v x.hk hk;have hfl:=(l'b.1 x.hw).1;have hfT:f ^^^ 1∈q.trail:=l'f x.hT;have hdT:=(l'b.1 x.hT).1;have hld:lv q.starts d=q.starts.length:=E'3 x.t.sd;have hE:(q.watchers.set f (wl.take kept++wl.drop i))[f]?=some (wl.take kept++k :: wl.drop (i+1)):=by rw[l'g hfl,tk3]
 obtain⟨c,hc,hl2,hlr⟩:=x.w.w2 f _ k hE (by simp);have hkl:=(l'b.1 hc).1;obtain⟨c1,hc1,hlits,hright,w1,dmap⟩:∃c1:Cl,(if c.left=f then { c with left:=c.right,right:=f } else c)=c1∧c1.lits=c.lits∧c1.right=f∧WI n (q.clauses.set k c1) (q.watchers.set f (wl.take kept++wl.drop i))∧(∀D k',DI q.clauses q.trail q.starts D k'->DI (q.clauses.set k c1) q.trail q.starts D k'):=by
  by_cases e:c.left=f
  ·refine⟨{ c with left:=c.right,right:=f },by rw[if_pos e],rfl,rfl,?_,?_⟩
   ·have:=x.w.swap hc;rw[e]at this;exact this
   ·intro D k' h;have:=h.swap hc;rw[e]at this;exact this
  ·have hset:q.clauses.set k c=q.clauses:=by
    refine List.ext_getElem? λj=>?_
    by_cases e:j=k
    ·subst e;rw[l'g hkl,hc]
    ·rw[l'h (λh=>e h.symm)]
   refine⟨c,by rw[if_neg e],rfl,?_,by rw[hset];exact x.w,λD k' h=>by rw[hset];exact h⟩;rcases hlr with h|h
   ·exact absurd h e
   ·exact h
 have hget1:(q.clauses.set k c1)[k]?=some c1:=l'g hkl;have hlits1:lits (q.clauses.set k c1)=lits q.clauses:=H'h hc hlits;obtain⟨cb,ci⟩:=x.c k c hc;have hl21:2<=c1.lits.length:=by rw[hlits];exact hl2
 obtain⟨u1,u2,u3,-,-⟩:=w1.w1 k c1 hget1 hl21;have hleftb:c1.left<2*n:=cb _ (by rw[<-hlits];exact u1);have hlf:c1.left≠f:=λh=>u3 (by rw[h,hright]);have t1:=x.t.cls hlits1;have ci1:=x.c.cls hlits1;have hlen1:(q.clauses.set k c1).length<=most:=by rw[List.length_set];exact x.lm
 have stay:∀(clash1:Option Nat),(clash1=none->clash=none)->(clash1=none->DI (q.clauses.set k c1) q.trail q.starts (d+1) k)->(∀k',clash1=some k'->∃c:Cl,(q.clauses.set k c1)[k']?=some c∧(∀m∈c.lits,m ^^^ 1∈q.trail)∧f∈c.lits∧2<=c.lits.length)->VL n G d f { q with clauses:=q.clauses.set k c1,watchers:=q.watchers.set f (wl.set kept k) } (i+1) (kept+1) clash1 (wl.set kept k):=by
  intro clash1 h1 h2 h3;refine⟨t1.ws _,ci1,l'g hfl,by have:=x.hk;omega,by simp;omega,?_,λk'=>dmap d k' (x.d0 k'),?_,x.hT,h3,hlen1⟩
  ·rw[tk1];simp only[List.set_set];exact w1
  ·intro hcn k' hk';rw[tk2]at hk'
   by_cases e:k'=k
   ·subst e;exact h2 hcn
   ·refine dmap (d+1) k' (x.d1 (h1 hcn) k' ?_);rw[tk3];simp only[l'I,not_or];exact⟨e,hk'⟩
 have clmap:∀k',clash=some k'->∃c:Cl,(q.clauses.set k c1)[k']?=some c∧(∀m∈c.lits,m ^^^ 1∈q.trail)∧f∈c.lits∧2<=c.lits.length:=by
  intro k' h;obtain⟨c',e1,e2,e3⟩:=x.cl k' h;obtain⟨c'',g1,g2⟩:=D'3 hlits1.symm e1;exact⟨c'',g1,by rw[g2];exact e2,by rw[g2];exact e3⟩
 have hx1:Ext q { q with clauses:=q.clauses.set k c1,watchers:=q.watchers.set f (wl.set kept k) }:=⟨rfl,rfl,⟨rfl,rfl,rfl,rfl,rfl⟩,⟨[],by simp⟩,hlits1,id,id⟩
 by_cases hL:c1.left∈q.trail
 ·-- the left one is true
  have hLn:c1.left ^^^ 1∉q.trail:=λh=>x.t.anti hL h;refine⟨_,kept+1,clash,wl.set kept k,?_,stay clash id ?_ clmap,by simp,hx1⟩
  ·conv=>lhs;unfold B'W
   rw[x.hw];simp only[hk];unfold E'I;rw[hc];simp only[hc1];rw[x.t.hh _ hleftb];simp only[hL,decide_true,hget1];rw[x.t.hh _ (D'Z hleftb),x.t.hh _ hleftb];simp only[hL,hLn,decide_true,decide_false]
  ·intro _ c' hc' _;rw[hget1]at hc';simp only[l'a]at hc';subst hc';refine⟨λd' hd' hT'=>absurd (l'f hT') hLn,λd' hd' hT'=>?_⟩;rw[hright]at hT';have:=x.t.uniq hT' x.hT rfl;subst this;obtain⟨j,hj⟩:=l'i.1 hL;exact⟨j,hj,by rw[hld];exact H'X _ _⟩
 ·rcases L'q x.t c1.left c1.lits (by rw[hlits];exact cb) with ⟨fe,fa⟩|⟨o,fe,fo,fne,fT⟩
  ·-- no other
   by_cases hLn:c1.left ^^^ 1∈q.trail
   ·refine⟨_,kept+1,some k,wl.set kept k,?_,stay (some k) (by simp) (by simp) ?_,by simp,hx1⟩
    ·conv=>lhs;unfold B'W
     rw[x.hw];simp only[hk];unfold E'I;rw[hc];simp only[hc1];rw[x.t.hh _ hleftb];simp only[hL,decide_false,fe,hget1];rw[x.t.hh _ (D'Z hleftb)];simp only[hLn,decide_true]
    ·intro k' h;simp only[l'a]at h;subst h;refine⟨c1,hget1,λm hm=>?_,by rw[<-hright];exact u2,hl21⟩
     by_cases e:m=c1.left
     ·rw[e];exact hLn
     ·exact fa m hm e
   ·-- it follows
    have hst:q.trail.length∉q.starts:=λh=>by have:=x.t.sd _ h;omega
    obtain⟨q3,e3,t3,g1,g2,g3,g4,g5,g6,g7,g8⟩:=G'H (t1.ws (q.watchers.set f (wl.set kept k))) hn (l:=c1.left) (r:=some k) hleftb hL hLn ⟨hst,c1,hget1,u1,λm hm hne=>by simp only[List.take_length];exact fa m hm hne⟩ (λhs=>J'u x.t hs (by rw[hlits];exact ci) fa);simp only at g1 g2 g3 g4 g5;have hv:=stay none;refine⟨q3,kept+1,clash,wl.set kept k,?_,?_,by simp,hx1.trans ⟨g2,g5,g6,⟨_,g1⟩,by rw[g3],g7,g8⟩⟩
    ·conv=>lhs;unfold B'W
     rw[x.hw];simp only[hk];unfold E'I;rw[hc];simp only[hc1];rw[x.t.hh _ hleftb];simp only[hL,decide_false,fe,hget1];rw[x.t.hh _ (D'Z hleftb),x.t.hh _ hleftb];simp only[hLn,hL,decide_false];rw[e3]
    ·refine⟨t3,by rw[g3];exact ci1,by rw[g4];exact l'g hfl,by have:=x.hk;omega,by simp;omega,?_,?_,?_,?_,?_,by rw[g3];exact hlen1⟩
     ·rw[g3,g4,tk1,List.set_set];exact w1
     ·intro k' c' hc' hl';rw[g3]at hc';rw[g1,g2];obtain⟨a,b⟩:=dmap d k' (x.d0 k') c' hc' hl';exact⟨a.app x.t.dt,b.app x.t.dt⟩
     ·intro hcn k' hk' c' hc' hl';rw[tk2]at hk';rw[g3]at hc';rw[g1,g2]
      by_cases e:k'=k
      ·subst e;rw[hget1]at hc';simp only[l'a]at hc';subst hc';refine⟨λd' hd' hT'=>?_,λd' hd' hT'=>⟨q.trail.length,by simp,?_⟩⟩
       ·rw[l'e (by omega)]at hT';exact absurd (l'f hT') hLn
       ·rw[l'e (by omega),hright]at hT';have:=x.t.uniq hT' x.hT rfl;subst this;rw[hld];exact H'X _ _
      ·obtain⟨a,b⟩:=dmap (d+1) k' (x.d1 hcn k' (by rw[tk3];simp only[l'I,not_or];exact⟨e,hk'⟩)) c' hc' hl';exact⟨a.app (by omega),b.app (by omega)⟩
     ·rw[g1,l'e hdT];exact x.hT
     ·intro k' h;obtain⟨c',e1,e2,e3⟩:=clmap k' h;rw[g3,g1];exact⟨c',e1,λm hm=>by simp[e2 m hm],e3⟩
  ·-- another one
   have hof:o≠f:=λh=>fT (by rw[h];exact hfT);have hob:o<2*n:=cb o (by rw[<-hlits];exact fo);obtain⟨wo,hwo⟩:∃wo,q.watchers[o]?=some wo:=⟨_,l'c (by have:=x.w.wl;simp at this;omega)⟩;have hwo':(q.watchers.set f (wl.take kept++wl.drop i))[o]?=some wo:=by rw[l'h (λh=>hof h.symm)];exact hwo
   obtain⟨w2,hkwo⟩:=w1.move hget1 hl21 hright fo fne hof hE hwo';have hwl:wo.length<most:=by
    have hnd:(k :: wo).Nodup:=List.nodup_cons.2 ⟨hkwo,w1.w3 o wo hwo'⟩;have hsub:∀y∈k :: wo,y∈List.range q.clauses.length:=by
     intro y hy;rcases l'I.1 hy with rfl|hy
     ·simpa using hkl
     ·obtain⟨c',e1,-,-⟩:=w1.w2 o wo y hwo' hy;have:=(l'b.1 e1).1;simpa using this
    have:=List.Nodup.length_le_of_subset hnd hsub;simp at this;have:=x.lm;omega
   have hset2:lits (q.clauses.set k { c1 with right:=o })=lits q.clauses:=H'h hc hlits;rw[List.set_set,List.set_set]at w2;rw[List.set_comm _ _ (λh=>hof h.symm)]at w2;have hself:(q.clauses.set k { c1 with right:=o })[k]?=some { c1 with right:=o }:=l'g hkl;have other:∀k',k'≠k->∀D,DI q.clauses q.trail q.starts D k'->DI (q.clauses.set k { c1 with right:=o }) q.trail q.starts D k':=by
    intro k' e D h c' hc' hl';rw[l'h (λh=>e h.symm)]at hc';exact h c' hc' hl'
   have hnew:∀D',D'<=d+1->DI (q.clauses.set k { c1 with right:=o }) q.trail q.starts D' k:=by
    intro D' hD' c' hc' hl';rw[hself]at hc';simp only[l'a]at hc';subst hc';refine⟨λd' hd' hT'=>?_,λd' hd' hT'=>absurd (l'f hT') fT⟩;simp only at hT'
    by_cases e:d'=d
    ·subst e;rw[x.hT]at hT';simp only[l'a]at hT';exact absurd (Q'y hT').symm hlf
    ·obtain⟨a,-⟩:=dmap d k (x.d0 k) c1 hget1 hl21;obtain⟨j,hj,-⟩:=a d' (by omega) hT';rw[hright]at hj;exact (x.t.anti (l'f hj) hfT).elim
   refine⟨{ q with clauses:=q.clauses.set k { c1 with right:=o },watchers:=q.watchers.set o (wo++[k]) },kept,clash,wl,?_,?_,rfl,⟨rfl,rfl,⟨rfl,rfl,rfl,rfl,rfl⟩,⟨[],by simp⟩,hset2,id,id⟩⟩
   ·conv=>lhs;unfold B'W
    rw[x.hw];simp only[hk];unfold E'I;rw[hc];simp only[hc1];rw[x.t.hh _ hleftb];simp only[hL,decide_false,fe,hwo];rw[if_pos ⟨hwl,hof⟩]
   ·refine⟨(x.t.cls hset2).ws _,x.c.cls hset2,by simp only;rw[l'h hof];exact x.hw,by have:=x.hk;omega,by omega,w2,?_,?_,x.hT,?_,by simp only;rw[List.length_set];exact x.lm⟩
    ·intro k'
     by_cases e:k'=k
     ·subst e;exact hnew d (by omega)
     ·exact other k' e d (x.d0 k')
    ·intro hcn k' hk'
     by_cases e:k'=k
     ·subst e;exact hnew (d+1) (l'H _)
     ·exact other k' e (d+1) (x.d1 hcn k' (by rw[tk3];simp only[l'I,not_or];exact⟨e,hk'⟩))
    ·intro k' h;obtain⟨c',e1,e2,e3⟩:=x.cl k' h;obtain⟨c'',g1,g2⟩:=D'3 hset2.symm e1;exact⟨c'',g1,by rw[g2];exact e2,by rw[g2];exact e3⟩
theorem J'w (hn:n<=192){d f:Nat}: ∀(m:Nat)(q:Srch) (i kept:Nat)(clash:Option Nat)(wl:List Nat),VL n G d f q i kept clash wl->i+m=wl.length ->
  ∃q1 kept1 clash1 wl1,B'W f m q i kept clash=some (q1,kept1,clash1)∧VL n G d f q1 wl1.length kept1 clash1 wl1∧Ext q q1:=by
 intro m
 induction m with
 | zero=>
  intro q i kept clash wl x h;obtain rfl:i=wl.length:=by omega
  exact⟨q,kept,clash,wl,rfl,x,Ext.refl q⟩
 | succ m ih=>
  intro q i kept clash wl x h;obtain⟨q1,kept1,clash1,wl1,e1,x1,l1,t1⟩:=H'Y hn (m:=m) x (by omega);obtain⟨q2,kept2,clash2,wl2,e2,x2,t2⟩:=ih q1 (i+1) kept1 clash1 wl1 x1 (by omega);exact⟨q2,kept2,clash2,wl2,by rw[e1,e2],x2,t1.trans t2⟩
structure Inv (n:Nat)(G:List (List Nat)) (D:Nat)(q:Srch):Prop where
 t:TI n G D q
 c:CI n G q.clauses
 w:WI n q.clauses q.watchers
 d:∀k,DI q.clauses q.trail q.starts D k
 lm:q.clauses.length<=most
def Cla (q:Srch)(k:Nat): Prop:=∃c:Cl,q.clauses[k]?=some c∧(∀m∈c.lits,m ^^^ 1∈q.trail)∧2<=c.lits.length∧∃x∈c.lits,∃d:Nat,q.trail[d]?=some (x ^^^ 1)∧lv q.starts d=q.starts.length
theorem J'x (hn:n<=192)(x:Inv n G q.drawn q){l:Nat}(hl:q.trail[q.drawn]?=some l):
  ∃q1 clash,E'Z { q with drawn:=q.drawn+1 } (l ^^^ 1)=some (q1,clash)∧Ext { q with drawn:=q.drawn+1 } q1∧Inv n G q.drawn q1∧(clash=none->Inv n G (q.drawn+1) q1)∧(∀k,clash=some k->Cla q1 k):=by
 have hlb:=x.t.tb l (l'f hl);have hdl:=(l'b.1 hl).1;obtain⟨wl,hwl⟩:∃wl,q.watchers[l ^^^ 1]?=some wl:=⟨_,l'c (by rw[x.w.wl];exact D'Z hlb)⟩;have hwlt:=(l'b.1 hwl).1;have t0:TI n G q.drawn { q with drawn:=q.drawn+1 }:=⟨x.t.hl,x.t.vl,x.t.tb,x.t.tn,x.t.hh,x.t.ss,x.t.sd,x.t.dt,x.t.lr,x.t.l0⟩;have hset:q.watchers.set (l ^^^ 1) wl=q.watchers:=by
  refine List.ext_getElem? λj=>?_
  by_cases e:j=l ^^^ 1
  ·subst e;rw[l'g hwlt,hwl]
  ·rw[l'h (λh=>e h.symm)]
 have v0:VL n G q.drawn (l ^^^ 1) { q with drawn:=q.drawn+1 } 0 0 none wl:=by
  refine⟨t0,x.c,hwl,l'H _,Nat.zero_le _,by simp only[List.take_zero,List.drop_zero,List.nil_append];rw[hset];exact x.w,x.d,?_,by simp only[J'r];exact hl,by simp,x.lm⟩;intro _ k hk c hc hl2;simp only at hc ⊢;rw[List.drop_zero]at hk;obtain⟨a,b⟩:=x.d k c hc hl2;obtain⟨-,-,-,⟨wa,e1,e1'⟩,⟨wb,e2,e2'⟩⟩:=x.w.w1 k c hc hl2;have noA:c.left≠l ^^^ 1:=λh=>by rw[h,hwl]at e1;simp only[l'a]at e1;subst e1;exact hk e1'
  have noB:c.right≠l ^^^ 1:=λh=>by rw[h,hwl]at e2;simp only[l'a]at e2;subst e2;exact hk e2'
  refine⟨λd hd hT=>?_,λd hd hT=>?_⟩
  ·by_cases e:d=q.drawn
   ·subst e;rw[hl]at hT;simp only[l'a]at hT;exact absurd (by rw[hT,J'r]) noA
   ·exact a d (by omega) hT
  ·by_cases e:d=q.drawn
   ·subst e;rw[hl]at hT;simp only[l'a]at hT;exact absurd (by rw[hT,J'r]) noB
   ·exact b d (by omega) hT
 obtain⟨q1,kept1,clash1,wl1,e1,v1,t1⟩:=J'w hn wl.length _ 0 0 none wl v0 (by omega);have w1:=v1.w;rw[List.drop_length,List.append_nil]at w1;have tt:TI n G q.drawn { q1 with watchers:=q1.watchers.set (l ^^^ 1) (wl1.take kept1) }:=v1.t.ws _;have hst:q1.starts=q.starts:=t1.st;refine⟨{ q1 with watchers:=q1.watchers.set (l ^^^ 1) (wl1.take kept1) },clash1,?_,t1.trans ⟨rfl,rfl,⟨rfl,rfl,rfl,rfl,rfl⟩,⟨[],by simp⟩,rfl,id,id⟩,⟨tt,v1.c,w1,v1.d0,v1.lm⟩,?_,?_⟩
 ·unfold E'Z;simp only[hwl,e1,v1.hw]
 ·intro hcn;have hT1:=(l'b.1 v1.hT).1;exact⟨⟨tt.hl,tt.vl,tt.tb,tt.tn,tt.hh,tt.ss,λs hs=>Nat.le_succ_of_le (tt.sd s hs),by simp only;omega,tt.lr,tt.l0⟩,v1.c,w1,λk=>v1.d1 hcn k (by rw[List.drop_length];simp),v1.lm⟩
 ·intro k hk;obtain⟨c,e1,e2,e3,e4⟩:=v1.cl k hk;exact⟨c,e1,e2,e4,_,e3,q.drawn,v1.hT,E'3 v1.t.sd⟩
end Go.Ta
namespace Go.Ta
variable {n D:Nat}{G:List (List Nat)}{q q':Srch}
structure Ext2 (q q':Srch):Prop where
 st:q'.starts=q.starts
 sm:Same q q'
 tl:∃e,q'.trail=q.trail++e
 li:lits q'.clauses=lits q.clauses
 vi:VI q->VI q'
 mr:MK q->MK q'
theorem Ext2.refl (q:Srch): Ext2 q q:=⟨rfl,Same.refl q,⟨[],by simp⟩,rfl,id,id⟩
theorem Ext2.trans {q1 q2 q3:Srch}(a:Ext2 q1 q2)(b:Ext2 q2 q3): Ext2 q1 q3:=by
 obtain⟨e1,h1⟩:=a.tl;obtain⟨e2,h2⟩:=b.tl;exact⟨by rw[b.st,a.st],a.sm.trans b.sm,⟨e1++e2,by rw[h2,h1,List.append_assoc]⟩,by rw[b.li,a.li],λh=>b.vi (a.vi h),λh=>b.mr (a.mr h)⟩
theorem L'r (hn:n<=192): ∀(m:Nat)(q:Srch),Inv n G q.drawn q->n<m+q.drawn ->
  ∃q1 clash,D'z m q=some (q1,clash)∧Ext2 q q1∧(clash=none->Inv n G q1.trail.length q1∧q1.drawn=q1.trail.length)∧(∀k,clash=some k->(∃D,Inv n G D q1)∧Cla q1 k):=by
 intro m
 induction m with
 | zero=>intro q x h;have:=x.t.len;have:=x.t.dt;omega
 | succ m ih=>
  intro q x h;unfold D'z
  by_cases hlt:q.drawn<q.trail.length
  ·rw[if_pos hlt];obtain⟨l,hl⟩:∃l,q.trail[q.drawn]?=some l:=⟨_,l'c hlt⟩;obtain⟨q1,clash,e1,t1,i1,i2,i3⟩:=J'x hn x hl;have t1':Ext2 q q1:=⟨t1.st,⟨t1.sm.as,t1.sm.gv,t1.sm.bn,t1.sm.mt,t1.sm.co⟩,t1.tl,t1.li,t1.vi,t1.mr⟩;rw[hl];simp only[e1]
   cases clash with
   | some k=>exact⟨q1,some k,rfl,t1',by simp,λk' hk'=>⟨⟨_,i1⟩,i3 k' hk'⟩⟩
   | none=>
    have hd:q1.drawn=q.drawn+1:=t1.dr;obtain⟨q2,c2,e2,t2,j1,j2⟩:=ih q1 (by rw[hd];exact i2 rfl) (by omega);exact⟨q2,c2,e2,t1'.trans t2,j1,j2⟩
  ·rw[if_neg hlt];have hd:q.drawn=q.trail.length:=by have:=x.t.dt;omega
   exact⟨q,none,rfl,Ext2.refl q,λ_=>⟨by rw[<-hd];exact x,hd⟩,by simp⟩
def mkd (q:Srch)(v:Nat): Bool:=(q.vars[v]?.map (·.marked)).getD false
def lev (q:Srch)(v:Nat): Nat:=(q.vars[v]?.map (·.level)).getD 0
def VM (q:Srch): Prop:=16<=q.bonus∧q.bonus<=1099511627776∧∀v∈q.vars,v.weight<=(if v.marked then 35 else 34)*q.bonus+64
def cnt (q:Srch)(U:List Nat): Nat:=U.countP λl=>mkd q (l/2)&&lev q (l/2)==q.starts.length
end Go.Ta
namespace Go.Ta
variable {n D:Nat}{G:List (List Nat)}{q q':Srch}
def rsn (q:Srch)(v:Nat): Option Nat:=q.vars[v]?.bind (·.reason)
def cld (q:Srch)(m:Nat): Prop:=mkd q (m/2)=true∨lev q (m/2)=0
structure SV2 (q q':Srch):Prop where
 eq:q' = { q with vars:=q'.vars }
 len:q'.vars.length=q.vars.length
 lv:∀v,lev q' v=lev q v
 rs:∀v,rsn q' v=rsn q v
theorem SV2.refl (q:Srch): SV2 q q:=⟨rfl,rfl,λ_=>rfl,λ_=>rfl⟩
theorem SV2.trans {q1 q2 q3:Srch}(a:SV2 q1 q2)(b:SV2 q2 q3): SV2 q1 q3:=
 ⟨by rw[b.eq,a.eq],by rw[b.len,a.len],λv=>by rw[b.lv,a.lv],λv=>by rw[b.rs,a.rs]⟩
theorem TI.at (x:TI n G D q){i l:Nat}(h:q.trail[i]?=some l): lev q (l/2)=lv q.starts i∧Rsn q.clauses q.trail q.starts i l (rsn q (l/2)):=by
 obtain⟨v,h1,h2,h3⟩:=x.lr i l h;simp only[lev,rsn,h1,l'l,Option.getD_some,l't];exact⟨h2,h3⟩
structure TrI (n:Nat)(G:List (List Nat)) (D:Nat)(q:Srch) (a:Nat) (op:Int)(cl:List Nat):Prop where
 t:TI n G D q
 c:CI n G q.clauses
 vm:VM q
 nl:0<q.starts.length
 mb:∀v,mkd q v=true->lev q v≠0∧∃i l:Nat,q.trail[i]?=some l∧l/2=v
 cl:∀m∈cl,cld q m
 cs:∀(i l:Nat),a<i->q.trail[i]?=some l->mkd q (l/2)=true->∃(k:Nat)(c:Cl),rsn q (l/2)=some k∧q.clauses[k]?=some c∧∀m∈c.lits,cld q m
 op1:op=(cnt q (q.trail.take (a+1)):Int)
 op2:1<=op
theorem O'o {q:Srch}{U:List Nat}(h:1<=cnt q U): ∃l∈U,mkd q (l/2)=true∧lev q (l/2)=q.starts.length:=by
 unfold cnt at h;obtain⟨l,hl,hp⟩:=List.countP_pos_iff.1 (Nat.lt_of_lt_of_le Nat.zero_lt_one h);simp only[l'k,beq_iff_eq]at hp;exact⟨l,hl,hp⟩
theorem TrI.top {a:Nat}{op:Int}{cl:List Nat}(x:TrI n G D q a op cl): lv q.starts a=q.starts.length:=by
 have h1:=x.op2;rw[x.op1]at h1;obtain⟨l,hl,hm,hlv⟩:=O'o (show 1<=cnt q (q.trail.take (a+1)) by omega);obtain⟨j,hj⟩:=l'i.1 hl;have hjl:=(l'b.1 hj).1;simp at hjl;rw[l'j (by omega)]at hj;have h2:=(x.t.at hj).1;have h3:=O'm (st:=q.starts) (show j<=a by omega);have h4:=H'X q.starts a;omega
end Go.Ta
namespace Go.Ta
variable {n D:Nat}{G:List (List Nat)}{q q':Srch}
theorem TI.att (x:TI n G D q)(c:Cl)(ws:List (List Nat)): TI n G D { q with clauses:=q.clauses++[c],watchers:=ws }:=by
 refine⟨x.hl,x.vl,x.tb,x.tn,x.hh,x.ss,x.sd,x.dt,?_,x.l0⟩;intro i l hi;obtain⟨v,h1,h2,h3⟩:=x.lr i l hi;refine⟨v,h1,h2,?_⟩
 cases hr:v.reason with
 | none=>rw[hr]at h3;exact h3
 | some k=>
  rw[hr]at h3;obtain⟨g1,c',g2,g3⟩:=h3;have hk:=(l'b.1 g2).1;exact⟨g1,c',by simp only;rw[l'e hk];exact g2,g3⟩
theorem C'e {α:Type}{l:List α}{x y:α}{k:Nat}(h:(l++[x])[k]?=some y): l[k]?=some y∨(k=l.length∧y=x):=by
 by_cases hk:k<l.length
 ·rw[l'e hk]at h;exact .inl h
 ·have hl:=(l'b.1 h).1;simp at hl;obtain rfl:k=l.length:=by omega
  simp at h;exact .inr ⟨rfl,h.symm⟩
theorem CI.att {cls:List Cl}(x:CI n G cls){c:Cl}(h1:∀l∈c.lits,l<2*n)(h2:M'f G c.lits): CI n G (cls++[c]):=by
 intro k c' hc;rcases C'e hc with h|⟨-,rfl⟩
 ·exact x k c' h
 ·exact⟨h1,h2⟩
theorem WI.att {cls:List Cl}{ws:List (List Nat)}(x:WI n cls ws){c:Cl}(h2:2<=c.lits.length)(hl:c.left∈c.lits)(hr:c.right∈c.lits)(hne:c.left≠c.right){wa wb:List Nat}(ha:ws[c.left]?=some wa)(hb:ws[c.right]?=some wb):
  WI n (cls++[c]) ((ws.set c.left (wa++[cls.length])).set c.right (wb++[cls.length])):=by
 have hal:=(l'b.1 ha).1;have hbl:=(l'b.1 hb).1;have old:∀(l k:Nat)(w:List Nat),ws[l]?=some w->k∈w->k<cls.length:=λl k w h1 h2=>by
  obtain⟨c',e1,-,-⟩:=x.w2 l w k h1 h2;exact (l'b.1 e1).1
 have getB:((ws.set c.left (wa++[cls.length])).set c.right (wb++[cls.length]))[c.right]?=some (wb++[cls.length]):=l'g (by simpa using hbl);have getA:((ws.set c.left (wa++[cls.length])).set c.right (wb++[cls.length]))[c.left]?=some (wa++[cls.length]):=by rw[l'h (λh=>hne h.symm),l'g hal]
 have getX:∀l:Nat,l≠c.left->l≠c.right->((ws.set c.left (wa++[cls.length])).set c.right (wb++[cls.length]))[l]?=ws[l]?:=λl h1 h2=>by rw[l'h (λh=>h2 h.symm),l'h (λh=>h1 h.symm)]
 have keep:∀(l k:Nat)(w:List Nat),ws[l]?=some w->k∈w->∃w':List Nat,((ws.set c.left (wa++[cls.length])).set c.right (wb++[cls.length]))[l]?=some w'∧k∈w':=by
  intro l k w hw hk
  by_cases e1:l=c.left
  ·subst e1;rw[ha]at hw;simp only[l'a]at hw;subst hw;exact⟨_,getA,by simp[hk]⟩
  ·by_cases e2:l=c.right
   ·subst e2;rw[hb]at hw;simp only[l'a]at hw;subst hw;exact⟨_,getB,by simp[hk]⟩
   ·exact⟨w,by rw[getX l e1 e2];exact hw,hk⟩
 have gnew:(cls++[c])[cls.length]?=some c:=by simp
 have gold:∀(k:Nat)(c':Cl),cls[k]?=some c'->(cls++[c])[k]?=some c':=λk c' h=>by rw[l'e (l'b.1 h).1];exact h
 refine⟨by simp[x.wl],?_,?_,?_⟩
 ·intro k c' hc hl';rcases C'e hc with h|⟨rfl,rfl⟩
  ·obtain⟨h1,h2,h3,⟨w1,h4,h4'⟩,⟨w2,h5,h5'⟩⟩:=x.w1 k c' h hl';exact⟨h1,h2,h3,keep _ _ _ h4 h4',keep _ _ _ h5 h5'⟩
  ·exact⟨hl,hr,hne,⟨_,getA,by simp⟩,⟨_,getB,by simp⟩⟩
 ·intro l w k hw hk
  by_cases e1:l=c.left
  ·subst e1;rw[getA]at hw;simp only[l'a]at hw;subst hw;simp only[l'E,l'm]at hk;rcases hk with hk|rfl
   ·obtain⟨c',f1,f2,f3⟩:=x.w2 _ _ k ha hk;exact⟨c',gold _ _ f1,f2,f3⟩
   ·exact⟨c,gnew,h2,.inl rfl⟩
  ·by_cases e2:l=c.right
   ·subst e2;rw[getB]at hw;simp only[l'a]at hw;subst hw;simp only[l'E,l'm]at hk;rcases hk with hk|rfl
    ·obtain⟨c',f1,f2,f3⟩:=x.w2 _ _ k hb hk;exact⟨c',gold _ _ f1,f2,f3⟩
    ·exact⟨c,gnew,h2,.inr rfl⟩
   ·rw[getX l e1 e2]at hw;obtain⟨c',f1,f2,f3⟩:=x.w2 l w k hw hk;exact⟨c',gold _ _ f1,f2,f3⟩
 ·have snoc:∀(l:Nat)(w:List Nat),ws[l]?=some w->(w++[cls.length]).Nodup:=λl w h=>by
   rw[List.nodup_append];refine⟨x.w3 l w h,by simp,λa ha b hb=>?_⟩;simp only[l'm]at hb;subst hb;have:=old l a w h ha;omega
  intro l w hw
  by_cases e1:l=c.left
  ·subst e1;rw[getA]at hw;simp only[l'a]at hw;subst hw;exact snoc _ _ ha
  ·by_cases e2:l=c.right
   ·subst e2;rw[getB]at hw;simp only[l'a]at hw;subst hw;exact snoc _ _ hb
   ·rw[getX l e1 e2]at hw;exact x.w3 l w hw
theorem WI.short {cls:List Cl}{ws:List (List Nat)}(x:WI n cls ws){l:Nat}{w:List Nat}(h:ws[l]?=some w): w.length<=cls.length:=by
 have hsub:∀y∈w,y∈List.range cls.length:=by
  intro y hy;obtain⟨c',e1,-,-⟩:=x.w2 l w y h hy;simpa using (l'b.1 e1).1
 simpa using List.Nodup.length_le_of_subset (x.w3 l w h) hsub
theorem H'Z (x:WI n q.clauses q.watchers)(hlm:q.clauses.length<most){c:Cl}(h2:2<=c.lits.length)(hb:∀l∈c.lits,l<2*n)(hl:c.left∈c.lits)(hr:c.right∈c.lits)(hne:c.left≠c.right):
  ∃ws,D'm q c=some { q with clauses:=q.clauses++[c],watchers:=ws }∧WI n (q.clauses++[c]) ws:=by
 obtain⟨wa,ha⟩:∃wa,q.watchers[c.left]?=some wa:=⟨_,l'c (by rw[x.wl];exact hb _ hl)⟩;obtain⟨wb,hbb⟩:∃wb,q.watchers[c.right]?=some wb:=⟨_,l'c (by rw[x.wl];exact hb _ hr)⟩;have l1:=x.short ha;have l2:=x.short hbb;have hb':(q.watchers.set c.left (wa++[q.clauses.length]))[c.right]?=some wb:=by rw[l'h hne];exact hbb
 refine⟨_,?_,x.att h2 hl hr hne ha hbb⟩;unfold D'm F'S;rw[if_pos hlm];simp only[l'z (l'H _),Nat.sub_self,l'w,ha];rw[if_pos (by omega)];simp only[hb'];rw[if_pos (by omega)]
end Go.Ta
namespace Go.Ta
theorem SpB.set {cls:List Cl}(h:∀c∈cls,c.span<193){k:Nat}{c c':Cl}(hc:cls[k]?=some c)(hs:c'.span=c.span): ∀d∈cls.set k c',d.span<193:=by
 intro d hd;rcases List.mem_or_eq_of_mem_set hd with hd|rfl
 ·exact h d hd
 ·rw[hs];exact h c (l'f hc)
end Go.Ta
namespace Go.Ta
variable {n D:Nat}{G:List (List Nat)}{q q':Srch}
theorem WI.skip {cls:List Cl}{ws:List (List Nat)}(x:WI n cls ws){c:Cl}(h:¬2<=c.lits.length): WI n (cls++[c]) ws:=by
 refine⟨x.wl,?_,?_,x.w3⟩
 ·intro k c' hc hl;rcases C'e hc with h1|⟨rfl,rfl⟩
  ·exact x.w1 k c' h1 hl
  ·exact absurd hl h
 ·intro l w k h1 h2;obtain⟨c',e1,e2,e3⟩:=x.w2 l w k h1 h2;exact⟨c',by rw[l'e (l'b.1 e1).1];exact e1,e2,e3⟩
end Go.Ta
namespace Go.Ta
variable {n D:Nat}{G:List (List Nat)}{q q':Srch}
def phw (n:Nat)(st:List Nat)(i:Nat): Nat:=if i∈st then 0 else 2^(n-1-i)
def ph (n:Nat)(st:List Nat): Nat->Nat
 | 0=>0
 | k+1=>ph n st k+phw n st k
theorem H'i {n:Nat}{st st':List Nat}: ∀k,(∀i,i<k->(i∈st↔i∈st'))->ph n st k=ph n st' k:=by
 intro k
 induction k with
 | zero=>intro _;rfl
 | succ k ih=>
  intro h;simp only[ph,ih (λi hi=>h i (by omega)),phw,h k (by omega)]
structure SL (q:Srch):Prop where
 s1:∀(i s:Nat),q.starts[i]?=some s->i<=q.assumed.length+s
 s2:∀(i s:Nat),q.starts[i]?=some s->q.assumed.length<=i->s<q.trail.length
def UI (G:List (List Nat))(q:Srch): Prop:=∀l,[l]∈G->∃i:Nat,q.trail[i]?=some l∧lv q.starts i=0
structure All (n:Nat)(G:List (List Nat)) (D:Nat)(q:Srch):Prop where
 i:Inv n G D q
 v:VI q
 m:MK q
 a:AI q
 s:SL q
 u:UI G q
end Go.Ta
namespace Go.Ta
variable {n D:Nat}{G:List (List Nat)}{q q':Srch}
structure SV3 (q q':Srch):Prop where
 eq:q' = { q with vars:=q'.vars,core:=q'.core }
 len:q'.vars.length=q.vars.length
theorem SV3.trans {q1 q2 q3:Srch}(a:SV3 q1 q2)(b:SV3 q2 q3): SV3 q1 q3:=⟨by rw[b.eq,a.eq],by rw[b.len,a.len]⟩
end Go.Ta
namespace Go.Ta
variable {n D:Nat}{G:List (List Nat)}{q q':Srch}
theorem SL.len (x:SL q): q.starts.length<=q.assumed.length+q.trail.length:=by
 rcases Nat.lt_or_ge q.assumed.length q.starts.length with h|h
 ·obtain⟨s,hs⟩:∃s,q.starts[q.starts.length-1]?=some s:=⟨_,l'c (by omega)⟩;have h1:=x.s1 _ s hs;have h2:=x.s2 _ s hs (by omega);omega
 ·omega
def mu (n:Nat)(q:Srch): Nat:=(q.assumed.length-q.starts.length)+(n-q.trail.length)
structure Stp (q q':Srch):Prop where
 sm:Same q q'
 li:lits q'.clauses=lits q.clauses
theorem H'j (hn:n<=192)(hA:q.assumed.length<=1000)(x:All n G q.trail.length q){l:Nat}(hl:l<2*n)(h1:l∉q.trail)(h2:l ^^^ 1∉q.trail)(ha:∀a,q.assumed[q.starts.length]?=some a->l=a):
  ∃q1 q2,E'J q=some q1∧q1.holds=q.holds∧G'4 q1 l none=some q2∧All n G q.trail.length q2∧q2.drawn=q.drawn∧Stp q q2∧ph n q.starts q.trail.length<=ph n q2.starts q2.trail.length∧q2.starts.length=q.starts.length+1∧q2.trail.length=q.trail.length+1:=by
 have hm:most=1000000:=rfl;have hsl:=x.s.len;have htl:=x.i.t.len;obtain⟨q1,e1,rfl,t1⟩:=H'g x.i.t (by omega);obtain⟨q2,e2,t2,g3,g4,g5,g6,g7,g8,g9,g10⟩:=G'H t1 hn (l:=l) (r:=none) hl h1 h2 (.inl (by simp)) (λh=>by simp at h);simp only at g3 g4 g5 g6 g7;have as2:q2.assumed=q.assumed:=g8.as;have v1:VI { q with starts:=q.starts++[q.trail.length] }:=x.v;have m1:MK { q with starts:=q.starts++[q.trail.length] }:=x.m;refine⟨_,q2,e1,rfl,e2,⟨⟨t2,by rw[g5];exact x.i.c,by rw[g5,g6];exact x.i.w,?_,by rw[g5];exact x.i.lm⟩,g9 v1,g10 m1,⟨?_,?_⟩,⟨?_,?_⟩,?_⟩,g7,⟨⟨g8.as,g8.gv,g8.bn,g8.mt,g8.co⟩,by rw[g5]⟩,?_,by rw[g4];simp,by rw[g3];simp⟩
 ·intro k c hc hl2;rw[g5]at hc;rw[g3,g4];obtain⟨a,b⟩:=x.i.d k c hc hl2;exact⟨(a.opn (l'H _)).app (l'H _),(b.opn (l'H _)).app (l'H _)⟩
 ·intro i a h3 h4;rw[as2]at h3;rw[g4]at h4 ⊢;rw[g3];simp at h4
  by_cases e:i=q.starts.length
  ·subst e;refine⟨q.trail.length,by simp[ha a h3],?_⟩;rw[J't (l'H _)];have:=H'X q.starts q.trail.length;omega
  ·obtain⟨j,hj,hlv⟩:=x.a.a1 i a h3 (by omega);have hjl:=(l'b.1 hj).1;exact⟨j,by rw[l'e hjl];exact hj,by rw[C'T hjl];exact hlv⟩
 ·intro i s a l' h3 h4 h5 h6;rw[g4]at h3 h6;rw[as2]at h4;rw[g3]at h5;rcases C'e h3 with h|⟨rfl,rfl⟩
  ·have hs:=x.i.t.sd s (l'f h)
   by_cases e:s=q.trail.length
   ·exfalso;rw[e,J't (l'H _)]at h6;have h7:=E'3 (st:=q.starts) (i:=q.trail.length) x.i.t.sd;have:=(l'b.1 h).1;omega
   ·rw[l'e (by omega)]at h5;rw[C'T (by omega)]at h6;exact x.a.a2 i s a l' h h4 h5 h6
  ·simp at h5;rw[<-h5];exact ha a h4
 ·intro i s h;rw[g4]at h;rw[as2];rcases C'e h with h|⟨rfl,rfl⟩
  ·exact x.s.s1 i s h
  ·exact hsl
 ·intro i s h hi;rw[g4]at h;rw[as2]at hi;rw[g3];rcases C'e h with h|⟨rfl,rfl⟩
  ·have:=x.s.s2 i s h hi;simp;omega
  ·simp
 ·intro l' hl';obtain⟨i,hi,hlv⟩:=x.u l' hl';have hil:=(l'b.1 hi).1;rw[g3,g4];exact⟨i,by rw[l'e hil];exact hi,by rw[C'T hil];exact hlv⟩
 ·rw[g3,g4];simp only[l'p,l'n,l'o,l'F,ph];rw[H'i (st:=q.starts) (st':=q.starts++[q.trail.length]) q.trail.length (λi hi=>by simp;omega)];omega
theorem J'y (hn:n<=192)(hA:q.assumed.length<=1000)(x:All n G q.trail.length q){l:Nat}(h1:l∈q.trail)(ha:q.assumed[q.starts.length]?=some l):
  ∃q1,E'J q=some q1∧q1.holds=q.holds∧All n G q.trail.length q1∧q1.drawn=q.drawn∧Stp q q1∧ph n q.starts q.trail.length<=ph n q1.starts q1.trail.length∧q1.starts.length=q.starts.length+1∧q1.trail.length=q.trail.length:=by
 have hm:most=1000000:=rfl;have hsl:=x.s.len;have htl:=x.i.t.len;have hAl:=(l'b.1 ha).1;obtain⟨q1,e1,rfl,t1⟩:=H'g x.i.t (by omega);refine⟨_,e1,rfl,⟨⟨t1,x.i.c,x.i.w,?_,x.i.lm⟩,x.v,x.m,⟨?_,?_⟩,⟨?_,?_⟩,?_⟩,rfl,⟨⟨rfl,rfl,rfl,rfl,rfl⟩,rfl⟩,?_,by simp,rfl⟩
 ·intro k c hc hl2;obtain⟨a,b⟩:=x.i.d k c hc hl2;exact⟨a.opn (l'H _),b.opn (l'H _)⟩
 ·intro i a h3 h4;simp only at h3 h4 ⊢;simp at h4
  by_cases e:i=q.starts.length
  ·subst e;rw[ha]at h3;simp only[l'a]at h3;subst h3;obtain⟨j,hj⟩:=l'i.1 h1;have hjl:=(l'b.1 hj).1;refine⟨j,hj,?_⟩;rw[C'T hjl];have:=H'X q.starts j;omega
  ·obtain⟨j,hj,hlv⟩:=x.a.a1 i a h3 (by omega);have hjl:=(l'b.1 hj).1;exact⟨j,hj,by rw[C'T hjl];exact hlv⟩
 ·intro i s a l' h3 h4 h5 h6;simp only at h3 h4 h5 h6;have hsl:=(l'b.1 h5).1;rcases C'e h3 with h|⟨rfl,rfl⟩
  ·rw[C'T hsl]at h6;exact x.a.a2 i s a l' h h4 h5 h6
  ·omega
 ·intro i s h;rcases C'e h with h|⟨rfl,rfl⟩
  ·exact x.s.s1 i s h
  ·exact hsl
 ·intro i s h hi;rcases C'e h with h|⟨rfl,rfl⟩
  ·exact x.s.s2 i s h hi
  ·simp only at hi;omega
 ·intro l' hl';obtain⟨i,hi,hlv⟩:=x.u l' hl';have hil:=(l'b.1 hi).1;exact⟨i,hi,by simp only;rw[C'T hil];exact hlv⟩
 ·simp only;rw[H'i (st:=q.starts) (st':=q.starts++[q.trail.length]) q.trail.length (λi hi=>by simp;omega)];exact l'H _
def G'I (q:Srch)(v:Nat): Prop:=2*v∈q.trail∨2*v+1∈q.trail
theorem J'z (x:TI n G D q): ∀(vs:List Vr) (i:Nat)(best:Option (Nat×Nat)),i+vs.length=n->∃r,C'Z q.holds vs i best=some r∧(r=none->best=none∧∀j,i<=j->j<n->G'I q j)∧(∀v,r=some v->(∃w,best=some (v,w))∨(v<n∧¬G'I q v)):=by
 intro vs
 induction vs with
 | nil=>
  intro i best h;simp at h;refine⟨best.map (·.1),rfl,λh1=>⟨by simpa using h1,λj h2 h3=>by omega⟩,λv h1=>?_⟩;simp only[Option.map_eq_some_iff]at h1;obtain⟨⟨a,b⟩,h2,h3⟩:=h1;simp only at h3;subst h3;exact .inl ⟨b,h2⟩
 | cons v r ih=>
  intro i best h;simp at h;unfold C'Z;rw[x.hh (2*i) (by omega),x.hh (2*i+1) (by omega)];simp only
  by_cases e:(decide (2*i∈q.trail)||decide (2*i+1∈q.trail))=true
  ·rw[if_pos e];have hv:G'I q i:=by simpa [G'I]using e
   obtain⟨y,e1,e2,e3⟩:=ih (i+1) best (by omega);refine⟨y,e1,λh1=>⟨(e2 h1).1,λj h2 h3=>?_⟩,e3⟩
   by_cases e4:j=i
   ·subst e4;exact hv
   ·exact (e2 h1).2 j (by omega) h3
  ·rw[if_neg e];have hv:¬G'I q i:=by simpa [G'I]using e
   have go:∀b:Nat×Nat,(b.1=i∨best=some b)->∃y,C'Z q.holds r (i+1) (some b)=some y∧(y=none->best=none∧∀j,i<=j->j<n->G'I q j)∧∀v,y=some v->(∃w,best=some (v,w))∨(v<n∧¬G'I q v):=by
    intro b hb;obtain⟨y,e1,e2,e3⟩:=ih (i+1) (some b) (by omega);refine⟨y,e1,λh1=>absurd (e2 h1).1 (by simp),λv' h1=>?_⟩;rcases e3 v' h1 with ⟨w',h2⟩|h2
    ·simp only[l'a]at h2;subst h2;rcases hb with h3|h3
     ·simp only at h3;subst h3;exact .inr ⟨by omega,hv⟩
     ·exact .inl ⟨w',h3⟩
    ·exact .inr h2
   cases hb:best with
   | none=>
    simp only;rw[hb]at go;obtain⟨y,a1,a2,a3⟩:=go (i,v.weight) (.inl rfl);exact⟨y,a1,λh=>⟨trivial,(a2 h).2⟩,a3⟩
   | some b=>
    obtain⟨j,w⟩:=b;simp only;rw[hb]at go;split
    ·exact go (i,v.weight) (.inl rfl)
    ·exact go (j,w) (.inr rfl)
def SaO (n:Nat)(q:Srch): Prop:=(∀v,v<n->G'I q v)∧q.assumed.length<=q.starts.length
end Go.Ta
namespace Go.Ta
variable {n D:Nat}{G:List (List Nat)}{q q':Srch}
structure LdI (n:Nat)(G:List (List Nat))(as:List Nat)(done:List (List Nat))(q:Srch)(clash:Option Nat):Prop where
 t:TI n G 0 q
 c:CI n G q.clauses
 w:WI n q.clauses q.watchers
 v:VI q
 m:MK q
 st:q.starts=[]
 li:lits q.clauses=done
 un:clash=none->(∀l,[l]∈done->l∈q.trail)∧[]∉done
 cl:∀k,clash=some k->∃c:Cl,q.clauses[k]?=some c∧∀m∈c.lits,m ^^^ 1∈q.trail
 co:q.core=[]
 mt:q.met=0
 asm:q.assumed=as
 dr:q.drawn=0
theorem L's (hn:n<=192){as:List Nat}(hG:∀c∈G,c.Nodup∧∀l∈c,l<2*n)(hGl:G.length<most): ∀(C'g done:List (List Nat))(q:Srch)(clash:Option Nat),G=done++C'g->LdI n G as done q clash->∃q1 clash1,D'H C'g done.length q clash=some (q1,clash1)∧LdI n G as G q1 clash1:=by
 intro C'g
 induction C'g with
 | nil=>
  intro done q clash hD x;simp at hD;subst hD;exact⟨q,clash,rfl,x⟩
 | cons l r ih=>
  intro done q clash hD x;have hlG:l∈G:=by rw[hD];simp
  obtain⟨hnd,hlb⟩:=hG l hlG;have hlen:q.clauses.length=done.length:=by rw[<-x.li];simp[lits]
  have hlm:q.clauses.length<most:=by rw[hlen];rw[hD]at hGl;simp at hGl;omega
  have himp:M'f G l:=λσ hσ=>hσ l hlG;have hD':G=(done++[l])++r:=by rw[hD];simp
  have hk:done.length+1=(done++[l]).length:=by simp
  unfold D'H
  match l,hnd,hlb,himp,hD',hk,hlG with
  | a :: b :: l',hnd,hlb,himp,hD',hk,hlG=>
   simp only;have hab:a≠b:=λh=>by
    rw[List.nodup_cons]at hnd;exact hnd.1 (by simp[h])
   obtain⟨ws,e1,w1⟩:=H'Z (q:=q) (c:=⟨a :: b :: l',a,b,0⟩) x.w hlm (by simp) hlb (by simp) (by simp) hab;rw[e1];simp only;rw[hk];refine ih (done++[a :: b :: l']) _ clash hD' ⟨x.t.att _ ws,x.c.att hlb himp,w1,x.v,x.m,x.st,by simp[lits,<-x.li],?_,?_,x.co,x.mt,x.asm,x.dr⟩
   ·intro hcn;obtain⟨u1,u2⟩:=x.un hcn;refine⟨λl hl=>u1 l ?_,?_⟩
    ·simpa using hl
    ·simpa using u2
   ·intro k hk;obtain⟨c,c1,c2⟩:=x.cl k hk;exact⟨c,by simp only;rw[l'e (l'b.1 c1).1];exact c1,c2⟩
  | [a],hnd,hlb,himp,hD',hk,hlG=>
   simp only;rw[if_pos hlm];have hb:a<2*n:=hlb a (by simp);have hnew:(q.clauses++[(⟨[a],0,0,0⟩:Cl)])[done.length]?=some ⟨[a],0,0,0⟩:=by rw[<-hlen];simp
   have t1:=x.t.att ⟨[a],0,0,0⟩ q.watchers;have c1:=x.c.att (c:=⟨[a],0,0,0⟩) hlb himp;have w1:=x.w.skip (c:=⟨[a],0,0,0⟩) (by simp);have clm:∀k,clash=some k->∃c:Cl,(q.clauses++[(⟨[a],0,0,0⟩:Cl)])[k]?=some c∧∀m∈c.lits,m ^^^ 1∈q.trail:=by
    intro k hk;obtain⟨c,c1,c2⟩:=x.cl k hk;exact⟨c,by rw[l'e (l'b.1 c1).1];exact c1,c2⟩
   rw[x.t.hh _ (D'Z hb),x.t.hh _ hb]
   by_cases e1:a ^^^ 1∈q.trail
   ·simp only[e1,decide_true];rw[hk];refine ih (done++[[a]]) _ (some done.length) hD' ⟨t1,c1,w1,x.v,x.m,x.st,by simp[lits,<-x.li],by simp,?_,x.co,x.mt,x.asm,x.dr⟩;intro k hk;simp only[l'a]at hk;subst hk;exact⟨_,hnew,by simpa using e1⟩
   ·by_cases e2:a∈q.trail
    ·simp only[e1,e2,decide_true,decide_false];rw[hk];refine ih (done++[[a]]) _ clash hD' ⟨t1,c1,w1,x.v,x.m,x.st,by simp[lits,<-x.li],?_,clm,x.co,x.mt,x.asm,x.dr⟩;intro hcn;obtain⟨u1,u2⟩:=x.un hcn;refine⟨λl hl=>?_,by simpa using u2⟩;simp only[l'E,l'm,List.cons.injEq,and_true]at hl;rcases hl with h|rfl
     ·exact u1 l h
     ·exact e2
    ·simp only[e1,e2,decide_false];obtain⟨q2,g1,g2,g3,g4,g5,g6,g7,g8,g9,g10⟩:=G'H t1 hn (l:=a) (r:=some done.length) hb e2 e1 ⟨by simp only;rw[x.st];simp,_,hnew,by simp,λm hm hne=>by simp at hm;exact absurd hm hne⟩ (λ_=>himp);rw[g1];simp only at g3 g4 g5 g6 g7 ⊢;rw[hk];refine ih (done++[[a]]) q2 clash hD' ⟨g2,by rw[g5];exact c1,by rw[g5,g6];exact w1,g9 x.v,g10 x.m,by rw[g4];exact x.st,by rw[g5];simp[lits,<-x.li],?_,?_,by rw[g8.co];exact x.co,by rw[g8.mt];exact x.mt,by rw[g8.as];exact x.asm,by rw[g7];exact x.dr⟩
     ·intro hcn;obtain⟨u1,u2⟩:=x.un hcn;rw[g3];refine⟨λl hl=>?_,by simpa using u2⟩;simp only[l'E,l'm,List.cons.injEq,and_true]at hl;rcases hl with h|rfl
      ·simp[u1 l h]
      ·simp
     ·intro k hk;obtain⟨c,c1,c2⟩:=clm k hk;rw[g5,g3];exact⟨c,c1,λm hm=>by simp[c2 m hm]⟩
  | [],hnd,hlb,himp,hD',hk,hlG=>
   simp only;rw[if_pos hlm,hk];refine ih (done++[[]]) _ (some done.length) hD' ⟨x.t.att ⟨[],0,0,0⟩ q.watchers,x.c.att hlb himp,x.w.skip (by simp),x.v,x.m,x.st,by simp[lits,<-x.li],by simp,?_,x.co,x.mt,x.asm,x.dr⟩;intro k hk;simp only[l'a]at hk;subst hk;exact⟨⟨[],0,0,0⟩,by simp only;rw[<-hlen];simp,by simp⟩
theorem Q'A (x:All n G q.trail.length q)(hs:SaO n q)(hG:∀c∈G,∀l∈c,l<2*n)(hGc:∀c∈G,c∈lits q.clauses)(hne:[]∉G): ∃σ:Nat->Bool,(∀v,v<n->q.holds[2*v]?=some (σ v))∧C'p σ G∧∀l∈q.assumed,tr σ l=true:=by
 have t:=x.i.t;have hT:∀l∈q.trail,tr (λv=>decide (2*v∈q.trail)) l=true:=by
  intro l hl;unfold tr;rcases Nat.mod_two_eq_zero_or_one l with h|h
  ·have e:2*(l/2)=l:=by omega
   simp[e,hl,h]
  ·have e:2*(l/2)=l ^^^ 1:=by rw[E'z,if_neg (by omega)];omega
   have hn:l ^^^ 1∉q.trail:=λh2=>t.anti hl h2;simp[e,hn,h]
 have hor:∀l,l<2*n->l∈q.trail∨l ^^^ 1∈q.trail:=by
  intro l hl;have h1:=hs.1 (l/2) (by omega);unfold G'I at h1;rw[E'z];rcases Nat.mod_two_eq_zero_or_one l with h|h
  ·rw[if_pos h];rcases h1 with h2|h2
   ·left;rwa [show 2*(l/2)=l by omega]at h2
   ·right;rwa [show 2*(l/2)+1=l+1 by omega]at h2
  ·rw[if_neg (by omega)];rcases h1 with h2|h2
   ·right;rwa [show 2*(l/2)=l-1 by omega]at h2
   ·left;rwa [show 2*(l/2)+1=l by omega]at h2
 refine⟨λv=>decide (2*v∈q.trail),λv hv=>t.hh _ (by omega),?_,?_⟩
 ·intro c hc
  by_cases h2:2<=c.length
  ·have:=hGc c hc;simp only[lits,List.mem_map]at this;obtain⟨cl,hcl,rfl⟩:=this;obtain⟨k,hk⟩:=l'i.1 hcl;obtain⟨g1,g2,-⟩:=x.i.w.w1 k cl hk h2;obtain⟨d1,-⟩:=x.i.d k cl hk h2;rcases hor cl.left (hG _ hc _ g1) with h|h
   ·exact⟨_,g1,hT _ h⟩
   ·obtain⟨j,hj⟩:=l'i.1 h;obtain⟨j',hj',-⟩:=d1 j (l'b.1 hj).1 hj;exact⟨_,g2,hT _ (l'f hj')⟩
  ·match c,hc,h2 with
   | [],hc,_=>exact absurd hc hne
   | [l],hc,_=>
    obtain⟨i,hi,-⟩:=x.u l hc;exact⟨l,by simp,hT l (l'f hi)⟩
   | a :: b :: r,_,h2=>exact absurd (by simp) h2
 ·intro l hl;obtain⟨i,hi⟩:=l'i.1 hl;have hil:=(l'b.1 hi).1;obtain⟨j,hj,-⟩:=x.a.a1 i l hi (by have:=hs.2;omega);exact hT l (l'f hj)
theorem Ext2.all {q1:Srch}(e:Ext2 q q1)(x:All n G D q)(hsd:∀s∈q.starts,s<q.trail.length∨q1.trail=q.trail){D':Nat}(i1:Inv n G D' q1): All n G D' q1:=by
 obtain⟨ex,ht⟩:=e.tl;have hst:=e.st;refine⟨i1,e.vi x.v,e.mr x.m,⟨?_,?_⟩,⟨?_,?_⟩,?_⟩
 ·intro i a h1 h2;rw[e.sm.as]at h1;rw[hst]at h2 ⊢;rw[ht];obtain⟨j,hj,hl⟩:=x.a.a1 i a h1 h2;exact⟨j,by rw[l'e (l'b.1 hj).1];exact hj,hl⟩
 ·intro i s a l h1 h2 h3 h4;rw[hst]at h1 h4;rw[e.sm.as]at h2;rcases hsd s (l'f h1) with h|h
  ·rw[ht,l'e h]at h3;exact x.a.a2 i s a l h1 h2 h3 h4
  ·rw[h]at h3;exact x.a.a2 i s a l h1 h2 h3 h4
 ·intro i s h;rw[hst]at h;rw[e.sm.as];exact x.s.s1 i s h
 ·intro i s h hi;rw[hst]at h;rw[e.sm.as]at hi;have:=x.s.s2 i s h hi;rw[ht];simp;omega
 ·intro l hl;obtain⟨i,hi,hlv⟩:=x.u l hl;rw[ht,hst];exact⟨i,by rw[l'e (l'b.1 hi).1];exact hi,hlv⟩
theorem J'A {m:Nat}{q1:Srch}{clash:Option Nat}(h:q.drawn=q.trail.length)(e:D'z m q=some (q1,clash)): q1=q:=by
 cases m with
 | zero=>simp[D'z]at e
 | succ m=>
  unfold D'z at e;rw[if_neg (by omega)]at e;simp only[l'a,l'd]at e;exact e.1.symm
end Go.Ta
