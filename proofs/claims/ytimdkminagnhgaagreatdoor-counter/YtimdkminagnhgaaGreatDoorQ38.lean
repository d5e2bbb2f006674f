import Derived.Test.YtimdkminagnhgaaGreatDoorQ16
set_option linter.all false
namespace Go.Ta
theorem O'E (l:Nat): (l ^^^ 1)%2=(l+1)%2:=by
 have h:=@Nat.xor_mod_two_eq_one l 1;rcases Nat.mod_two_eq_zero_or_one (l ^^^ 1) with h1|h1 <;> rcases Nat.mod_two_eq_zero_or_one l with h2|h2 <;> simp[h1,h2]at h <;> omega
theorem F'i (l:Nat): l ^^^ 1=if l%2=0 then l+1 else l-1:=by
 have h1:(l ^^^ 1)/2=l/2:=by rw[Nat.xor_div_two];simp
 have h2:(l ^^^ 1)%2=(l+1)%2:=O'E l;split <;> omega
theorem H'S (l:Nat): (l ^^^ 1) ^^^ 1=l:=by
 rw[F'i (l ^^^ 1),F'i l];split <;> split <;> omega
theorem B'9 (l:Nat): (l ^^^ 1)/2=l/2:=by rw[F'i];split <;> omega
theorem U'u (l:Nat): l ^^^ 1≠l:=by rw[F'i];split <;> omega
theorem D'r {l n:Nat}(h:l<2*n): l ^^^ 1<2*n:=by rw[F'i];split <;> omega
theorem O'F {l n:Nat}(h:l ^^^ 1<2*n): l<2*n:=by have:=D'r h;rwa [H'S]at this
theorem N'K {a b:Nat}(h:a/2=b/2): a=b∨a=b ^^^ 1:=by
 rw[F'i];split <;> omega
theorem O'G {a b:Nat}(h:a ^^^ 1=b ^^^ 1): a=b:=by
 have:=congrArg (· ^^^ 1) h;simpa only[H'S]using this
def tr (σ:Nat->Bool)(l:Nat): Bool:=σ (l/2)==(l%2==0)
theorem C'9 (σ:Nat->Bool)(l:Nat): tr σ (l ^^^ 1) = !tr σ l:=by
 unfold tr;rw[B'9];have h2:(l ^^^ 1)%2=(l+1)%2:=O'E l;rw[h2];rcases Nat.mod_two_eq_zero_or_one l with h|h
 ·have:(l+1)%2=1:=by omega
  rw[h,this];cases σ (l/2) <;> rfl
 ·have:(l+1)%2=0:=by omega
  rw[h,this];cases σ (l/2) <;> rfl
def clT (σ:Nat->Bool)(c:List Nat): Prop:=∃l∈c,tr σ l=true
def D'F (σ:Nat->Bool)(G:List (List Nat)): Prop:=∀c∈G,clT σ c
def M'd (G:List (List Nat))(c:List Nat): Prop:=∀σ,D'F σ G->clT σ c
theorem G'j {G:List (List Nat)}{l:Nat}(h:M'd G [l]){σ:Nat->Bool}(hs:D'F σ G): tr σ l=true:=by
 obtain⟨x,hx,ht⟩:=h σ hs;simp only[l'm]at hx;rw[<-hx];exact ht
def lv (starts:List Nat)(i:Nat): Nat:=starts.countP λs=>decide (s<=i)
theorem F'j (st:List Nat)(i:Nat): lv st i<=st.length:=List.countP_le_length
theorem L'k {st:List Nat}{i j:Nat}(h:i<=j): lv st i<=lv st j:=by
 unfold lv;refine List.countP_mono_left (λx _ hx=>?_);simp only[l'M]at hx ⊢;omega
theorem F'S {st:List Nat}{i:Nat}(h:∀s∈st,s<=i): lv st i=st.length:=by
 unfold lv;rw[List.countP_eq_length];intro s hs;simpa using h s hs
theorem D'a {st:List Nat}{i t:Nat}(h:i<t): lv (st++[t]) i=lv st i:=by
 unfold lv;rw[List.countP_append];simp[List.countP_cons,List.countP_nil,Nat.not_le.2 h]
theorem L'l {st:List Nat}{i t:Nat}(h:t<=i): lv (st++[t]) i=lv st i+1:=by
 unfold lv;rw[List.countP_append];simp[List.countP_cons,List.countP_nil,h]
theorem R'p {st:List Nat}{i:Nat}(h:∀s∈st,i<s): lv st i=0:=by
 unfold lv;rw[List.countP_eq_zero];intro s hs;have:=h s hs;simp;omega
def Srt (st:List Nat): Prop:=st.Pairwise (·<=·)
theorem Srt.le {st:List Nat}(h:Srt st){i j a b:Nat}(hij:i<=j)(ha:st[i]?=some a)(hb:st[j]?=some b): a<=b:=by
 obtain⟨hi,rfl⟩:=l'b.1 ha;obtain⟨hj,rfl⟩:=l'b.1 hb;rcases Nat.lt_or_eq_of_le hij with h1|rfl
 ·exact List.pairwise_iff_getElem.1 h i j hi hj h1
 ·exact l'H _
theorem Srt.take {st:List Nat}(h:Srt st)(k:Nat): Srt (st.take k):=List.Pairwise.sublist (List.take_sublist k st) h
theorem Srt.app {st:List Nat}(h:Srt st){t:Nat}(ht:∀s∈st,s<=t): Srt (st++[t]):=by
 unfold Srt;rw[List.pairwise_append];exact⟨h,List.pairwise_singleton _ _,λa ha b hb=>by simp only[l'm]at hb;subst hb;exact ht a ha⟩
theorem C'x {st:List Nat}(h:Srt st){L s i:Nat}(hs:st[L]?=some s)(hi:i<s): lv (st.take L) i=lv st i∧lv st i<=L:=by
 have h1:lv st i=lv (st.take L) i+lv (st.drop L) i:=by
  unfold lv;rw[<-List.countP_append,List.take_append_drop]
 have h2:lv (st.drop L) i=0:=by
  refine R'p λx hx=>?_;obtain⟨j,hj⟩:=l'i.1 hx;rw[List.getElem?_drop]at hj;have:=h.le (Nat.le_add_right L j) hs hj;omega
 have h3:=F'j (st.take L) i;rw[List.length_take]at h3;omega
theorem R'q {st:List Nat}(h:Srt st){L s i:Nat}(hs:st[L]?=some s)(hi:s<=i): L+1<=lv st i:=by
 have h1:lv st i=lv (st.take (L+1)) i+lv (st.drop (L+1)) i:=by
  unfold lv;rw[<-List.countP_append,List.take_append_drop]
 have h2:lv (st.take (L+1)) i=(st.take (L+1)).length:=by
  refine F'S λx hx=>?_;obtain⟨j,hj⟩:=l'i.1 hx;have hjl:=(l'b.1 hj).1;rw[List.length_take]at hjl;rw[l'j (by omega)]at hj;have:=h.le (show j<=L by omega) hj hs;omega
 have hL:=(l'b.1 hs).1;rw[List.length_take]at h2;omega
theorem L'm {st:List Nat}(h:Srt st){L s i:Nat}(hs:st[L]?=some s)(hi:lv st i<=L): i<s:=by
 rcases Nat.lt_or_ge i s with h1|h1
 ·exact h1
 ·have:=R'q h hs h1;omega
def Rsn (cls:List Cl)(T st:List Nat)(i l:Nat): Option Nat->Prop
 | none=>i∈st∨lv st i=0
 | some k=>i∉st∧∃c:Cl,cls[k]?=some c∧l∈c.lits∧∀m∈c.lits,m≠l->(m ^^^ 1)∈T.take i
def Wt (T st:List Nat)(D a b:Nat): Prop:=∀d,d<D->T[d]?=some (a ^^^ 1)->∃j,T[j]?=some b∧lv st j<=lv st d
structure TI (n:Nat)(G:List (List Nat)) (D:Nat)(q:Srch):Prop where
 hl:q.holds.length=2*n
 vl:q.vars.length=n
 tb:∀l∈q.trail,l<2*n
 tn:(q.trail.map (· / 2)).Nodup
 hh:∀l,l<2*n->q.holds[l]?=some (decide (l∈q.trail))
 ss:Srt q.starts
 sd:∀s∈q.starts,s<=D
 dt:D<=q.trail.length
 lr:∀(i l:Nat),q.trail[i]?=some l->∃v,q.vars[l/2]?=some v∧v.level=lv q.starts i∧Rsn q.clauses q.trail q.starts i l v.reason
 l0:∀(i l:Nat),q.trail[i]?=some l->lv q.starts i=0->M'd G [l]
def CI (n:Nat)(G:List (List Nat))(cls:List Cl): Prop:=∀(k:Nat)(c:Cl),cls[k]?=some c->(∀l∈c.lits,l<2*n)∧M'd G c.lits
structure WI (n:Nat)(cls:List Cl)(ws:List (List Nat)):Prop where
 wl:ws.length=2*n
 w1:∀(k:Nat)(c:Cl),cls[k]?=some c->2<=c.lits.length->c.left∈c.lits∧c.right∈c.lits∧c.left≠c.right∧(∃w:List Nat,ws[c.left]?=some w∧k∈w)∧(∃w:List Nat,ws[c.right]?=some w∧k∈w)
 w2:∀(l:Nat)(w:List Nat) (k:Nat),ws[l]?=some w->k∈w->∃c:Cl,cls[k]?=some c∧2<=c.lits.length∧(c.left=l∨c.right=l)
 w3:∀(l:Nat)(w:List Nat),ws[l]?=some w->w.Nodup
def DI (cls:List Cl)(T st:List Nat)(D:Nat)(k:Nat): Prop:=∀(c:Cl),cls[k]?=some c->2<=c.lits.length->Wt T st D c.left c.right∧Wt T st D c.right c.left
def VI (q:Srch): Prop:=16<=q.bonus∧q.bonus<=1099511627776∧∀v∈q.vars,v.weight<=34*q.bonus+64
def MK (q:Srch): Prop:=∀v∈q.vars,v.marked=false
structure AI (q:Srch):Prop where
 a1:∀(i a:Nat),q.assumed[i]?=some a->i<q.starts.length->∃j,q.trail[j]?=some a∧lv q.starts j<=i+1
 a2:∀(i s a l:Nat),q.starts[i]?=some s->q.assumed[i]?=some a->q.trail[s]?=some l->lv q.starts s=i+1->l=a
theorem TI.len {n D:Nat}{G:List (List Nat)}{q:Srch}(x:TI n G D q): q.trail.length<=n:=by
 have h1:∀y∈q.trail.map (· / 2),y∈List.range n:=by
  intro y hy;obtain⟨l,hl,rfl⟩:=List.mem_map.1 hy;have:=x.tb l hl;simp;omega
 have h2:=List.Nodup.length_le_of_subset x.tn h1;simpa using h2
theorem TI.uniq {n D:Nat}{G:List (List Nat)}{q:Srch}(x:TI n G D q){i j a b:Nat}(hi:q.trail[i]?=some a)(hj:q.trail[j]?=some b)(h:a/2=b/2): i=j:=by
 have h1:(q.trail.map (· / 2))[i]?=some (a/2):=by simp[hi]
 have h2:(q.trail.map (· / 2))[j]?=some (b/2):=by simp[hj]
 have hil:=(l'b.1 h1).1;rw[<-h,<-h1]at h2;exact (List.getElem?_inj hil x.tn).1 h2.symm
theorem TI.anti {n D:Nat}{G:List (List Nat)}{q:Srch}(x:TI n G D q){l:Nat}(h1:l∈q.trail)(h2:l ^^^ 1∈q.trail): False:=by
 obtain⟨i,hi⟩:=l'i.1 h1;obtain⟨j,hj⟩:=l'i.1 h2;have e:=x.uniq hi hj (by rw[B'9]);subst e;rw[hi]at hj;simp only[l'a]at hj;exact U'u l hj.symm
end Go.Ta
namespace Go.Ta
variable {n D:Nat}{G:List (List Nat)}{q q':Srch}
structure Same (q q':Srch):Prop where
 as:q'.assumed=q.assumed
 gv:q'.given=q.given
 bn:q'.bonus=q.bonus
 mt:q'.met=q.met
 co:q'.core=q.core
theorem Same.refl (q:Srch): Same q q:=⟨rfl,rfl,rfl,rfl,rfl⟩
theorem Same.trans {q1 q2 q3:Srch}(a:Same q1 q2)(b:Same q2 q3): Same q1 q3:=⟨by rw[b.as,a.as],by rw[b.gv,a.gv],by rw[b.bn,a.bn],by rw[b.mt,a.mt],by rw[b.co,a.co]⟩
theorem TI.nd (x:TI n G D q): q.trail.Nodup:=List.Pairwise.of_map (· / 2) (λa b h e=>h (by rw[e])) x.tn
theorem Wt.app {T st:List Nat}{a b l:Nat}(h:Wt T st D a b)(hD:D<=T.length): Wt (T++[l]) st D a b:=by
 intro d hd hT;rw[l'e (by omega)]at hT;obtain⟨j,hj,hl⟩:=h d hd hT;have:=(l'b.1 hj).1;exact⟨j,by rw[l'e this];exact hj,hl⟩
theorem D'P {α:Type}{P:α->Prop}{l:List α}{i:Nat}{y:α}(h:∀x∈l,P x)(hy:P y): ∀x∈l.set i y,P x:=by
 intro x hx;rcases List.mem_or_eq_of_mem_set hx with h1|h1
 ·exact h x h1
 ·subst h1;exact hy
theorem F'k (x:TI n G D q)(hn:n<=192){l:Nat}{r:Option Nat}(hl:l<2*n)(h1:l∉q.trail)(h2:l ^^^ 1∉q.trail)(hr:Rsn q.clauses q.trail q.starts q.trail.length l r)(h0:q.starts=[]->M'd G [l]):
  ∃q',H'p q l r=some q'∧TI n G D q'∧q'.trail=q.trail++[l]∧q'.starts=q.starts∧q'.clauses=q.clauses∧q'.watchers=q.watchers∧q'.drawn=q.drawn∧Same q q'∧(VI q->VI q')∧(MK q->MK q'):=by
 have hm:most=1000000:=rfl;have htl:=x.len;have hvl:=x.vl;obtain⟨v,hv⟩:∃v,q.vars[l/2]?=some v:=⟨_,l'c (by omega)⟩;have hlen:l<q.holds.length∧q.trail.length<most:=by rw[x.hl];omega
 have hnot:∀(i l':Nat),q.trail[i]?=some l'->l'/2≠l/2:=by
  intro i l' hi he;rcases N'K he with e|e
  ·exact h1 (e ▸ l'f hi)
  ·exact h2 (e ▸ l'f hi)
 have hvi:=(l'b.1 hv);refine⟨{ q with holds:=q.holds.set l true,vars:=q.vars.set (l/2) { v with level:=q.starts.length,reason:=r,last:=l%2==0 },trail:=q.trail++[l] },by unfold H'p;rw[hv];simp only;rw[if_pos hlen],⟨by simp[x.hl],by simp[x.vl],?_,?_,?_,x.ss,x.sd,by simp;have:=x.dt;omega,?_,?_⟩,rfl,rfl,rfl,rfl,rfl,⟨rfl,rfl,rfl,rfl,rfl⟩,?_,?_⟩
 ·intro l' hl';simp only[l'E,l'm]at hl';rcases hl' with h|rfl
  ·exact x.tb l' h
  ·exact hl
 ·simp only[List.map_append,l'J,l'K];rw[List.nodup_append];refine⟨x.tn,by simp,?_⟩;intro a ha b hb;simp only[l'm]at hb;subst hb;obtain⟨l',hl',rfl⟩:=List.mem_map.1 ha;obtain⟨i,hi⟩:=l'i.1 hl';exact hnot i l' hi
 ·intro l' hl';simp only
  by_cases e:l'=l
  ·subst e;rw[l'g (by rw[x.hl];exact hl')];simp
  ·rw[l'h (λh=>e h.symm),x.hh l' hl'];simp[e]
 ·intro i l' hi;simp only at hi ⊢
  by_cases hlt:i<q.trail.length
  ·rw[l'e hlt]at hi;obtain⟨v',hv',hlev,hrs⟩:=x.lr i l' hi;refine⟨v',by rw[l'h (hnot i l' hi).symm];exact hv',hlev,?_⟩
   cases hvr:v'.reason with
   | none=>rw[hvr]at hrs;exact hrs
   | some k=>
    rw[hvr]at hrs;obtain⟨g1,c,g2,g3,g4⟩:=hrs;exact⟨g1,c,g2,g3,λm hm hne=>by rw[List.take_append_of_le_length (by omega)];exact g4 m hm hne⟩
  ·have hil:=(l'b.1 hi).1;simp at hil;obtain rfl:i=q.trail.length:=by omega
   simp at hi;subst hi;refine⟨_,l'g (by omega),?_,?_⟩
   ·simp only;rw[F'S (λs hs=>l'G (x.sd s hs) x.dt)]
   ·simp only
    cases r with
    | none=>exact hr
    | some k=>
     obtain⟨g1,c,g2,g3,g4⟩:=hr;refine⟨g1,c,g2,g3,λm hm hne=>?_⟩;have:=g4 m hm hne;rw[List.take_append_of_le_length (l'H _)];exact this
 ·intro i l' hi hlv;simp only at hi
  by_cases hlt:i<q.trail.length
  ·rw[l'e hlt]at hi;exact x.l0 i l' hi hlv
  ·have hil:=(l'b.1 hi).1;simp at hil;obtain rfl:i=q.trail.length:=by omega
   simp at hi;subst hi;simp only at hlv;rw[F'S (λs hs=>l'G (x.sd s hs) x.dt)]at hlv;exact h0 (List.eq_nil_of_length_eq_zero hlv)
 ·rintro⟨b1,b2,b3⟩;exact⟨b1,b2,D'P b3 (b3 v (l'f hv))⟩
 ·intro b;exact D'P b (b v (l'f hv))
theorem N'L: ∀(ls:List Nat)(h:List Bool),(∀l∈ls,l<h.length)->∃h',F's ls h=some h'∧h'.length=h.length∧∀i,i<h.length->h'[i]?=if i∈ls then some false else h[i]?:=by
 intro ls
 induction ls with
 | nil=>intro h _;exact⟨h,rfl,rfl,by simp⟩
 | cons l r ih=>
  intro h hl;have h1:=hl l (by simp);obtain⟨h',e,el,eg⟩:=ih (h.set l false) (λx hx=>by simpa using hl x (by simp[hx]));refine⟨h',by unfold F's;rw[if_pos h1];exact e,by simpa using el,?_⟩;intro i hi;rw[eg i (by simpa using hi)]
  by_cases e1:i∈r
  ·rw[if_pos e1,if_pos (by simp[e1])]
  ·rw[if_neg e1]
   by_cases e2:i=l
   ·subst e2;rw[if_pos (by simp),l'g h1]
   ·rw[if_neg (by simp[e1,e2]),l'h (λh=>e2 h.symm)]
theorem I'L (x:TI n G D q){L s:Nat}(hs:q.starts[L]?=some s):
  ∃q',G'P q L=some q'∧TI n G s q'∧q'.trail=q.trail.take s∧q'.starts=q.starts.take L∧q'.drawn=s∧q'.clauses=q.clauses∧q'.watchers=q.watchers∧q'.vars=q.vars∧Same q q':=by
 have hsD:=x.sd s (l'f hs);have hsT:s<=q.trail.length:=l'G hsD x.dt;obtain⟨h',e,el,eg⟩:=N'L (q.trail.drop s) q.holds (λl hl=>by rw[x.hl];exact x.tb l (List.mem_of_mem_drop hl));have hnd:=x.nd;have hsp:∀i,i<s->lv (q.starts.take L) i=lv q.starts i∧lv q.starts i<=L:=λi hi=>C'x x.ss hs hi;have hget:∀(i l:Nat),(q.trail.take s)[i]?=some l->i<s∧q.trail[i]?=some l:=by
  intro i l hi;have hil:=(l'b.1 hi).1;simp at hil;rw[l'j (by omega)]at hi;exact⟨by omega,hi⟩
 refine⟨{ q with holds:=h',trail:=q.trail.take s,starts:=q.starts.take L,drawn:=s },?_,⟨by rw[<-x.hl];exact el,x.vl,λl hl=>x.tb l (List.mem_of_mem_take hl),?_,?_,x.ss.take L,?_,by simp;omega,?_,?_⟩,rfl,rfl,rfl,rfl,rfl,rfl,⟨rfl,rfl,rfl,rfl,rfl⟩⟩
 ·unfold G'P;rw[hs];simp only;rw[if_pos hsT,e]
 ·simp only[List.map_take];exact List.Nodup.sublist (List.take_sublist s _) x.tn
 ·intro l hl;simp only;rw[eg l (by rw[x.hl];exact hl),x.hh l hl];have hsplit:l∈q.trail↔l∈q.trail.take s∨l∈q.trail.drop s:=by
   rw[<-l'E,List.take_append_drop]
  by_cases e1:l∈q.trail.drop s
  ·rw[if_pos e1];have:l∉q.trail.take s:=λh2=>by
    have h3:=hnd;rw[<-List.take_append_drop s q.trail,List.nodup_append]at h3;exact h3.2.2 l h2 l e1 rfl
   simp[this]
  ·rw[if_neg e1];simp[hsplit,e1]
 ·intro s' hs';simp only at hs';obtain⟨j,hj⟩:=l'i.1 hs';have hjl:=(l'b.1 hj).1;simp at hjl;rw[l'j (by omega)]at hj;exact x.ss.le (show j<=L by omega) hj hs
 ·intro i l hi;simp only at hi ⊢;obtain⟨his,hi⟩:=hget i l hi;obtain⟨v,hv,hlev,hrs⟩:=x.lr i l hi;refine⟨v,hv,by rw[(hsp i his).1];exact hlev,?_⟩
  cases hvr:v.reason with
  | none=>
   rw[hvr]at hrs;rcases hrs with h|h
   ·left;obtain⟨j,hj⟩:=l'i.1 h;have:j<L:=by
     rcases Nat.lt_or_ge j L with h1|h1
     ·exact h1
     ·have:=x.ss.le h1 hs hj;omega
    exact l'i.2 ⟨j,by rw[l'j this];exact hj⟩
   ·right;rw[(hsp i his).1];exact h
  | some k=>
   rw[hvr]at hrs;obtain⟨g1,c,g2,g3,g4⟩:=hrs;refine⟨λh=>g1 (List.mem_of_mem_take h),c,g2,g3,λm hm hne=>?_⟩;rw[List.take_take,Nat.min_eq_left (by omega)];exact g4 m hm hne
 ·intro i l hi hlv;simp only at hi hlv;obtain⟨his,hi⟩:=hget i l hi;rw[(hsp i his).1]at hlv;exact x.l0 i l hi hlv
theorem Wt.back {T st:List Nat}{a b L s:Nat}(h:Wt T st D a b)(hss:Srt st)(hs:st[L]?=some s)(hsD:s<=D)(hsT:s<=T.length): Wt (T.take s) (st.take L) s a b:=by
 intro d hd hT;rw[l'j hd]at hT;obtain⟨j,hj,hl⟩:=h d (by omega) hT;have h1:=C'x hss hs hd;have hjs:j<s:=L'm hss hs (by omega);have h2:=C'x hss hs hjs;exact⟨j,by rw[l'j hjs];exact hj,by rw[h1.1,h2.1];exact hl⟩
theorem AI.back (x:AI q)(hss:Srt q.starts){L s:Nat}(hs:q.starts[L]?=some s)(e1:q'.trail=q.trail.take s)(e2:q'.starts=q.starts.take L)(e3:q'.assumed=q.assumed): AI q':=by
 have hL:=(l'b.1 hs).1;refine⟨?_,?_⟩
 ·intro i a ha hi;rw[e3]at ha;rw[e2]at hi ⊢;rw[e1];simp at hi;obtain⟨j,hj,hl⟩:=x.a1 i a ha (by omega);have hjs:j<s:=L'm hss hs (by omega);exact⟨j,by rw[l'j hjs];exact hj,by rw[(C'x hss hs hjs).1];exact hl⟩
 ·intro i s' a l h1 h2 h3 h4;rw[e2]at h1 h4;rw[e3]at h2;rw[e1]at h3;have hil:=(l'b.1 h1).1;simp at hil;rw[l'j (by omega)]at h1;have hsl:=(l'b.1 h3).1;simp at hsl;rw[l'j (by omega)]at h3;rw[(C'x hss hs (by omega)).1]at h4;exact x.a2 i s' a l h1 h2 h3 h4
theorem I'M (x:TI n G q.trail.length q)(hs:q.starts.length<most):
  ∃q',F't q=some q'∧q' = { q with starts:=q.starts++[q.trail.length] }∧TI n G q.trail.length q':=by
 refine⟨_,by unfold F't;rw[if_pos hs],rfl,⟨x.hl,x.vl,x.tb,x.tn,x.hh,x.ss.app x.sd,?_,x.dt,?_,?_⟩⟩
 ·intro s hs';simp only[l'E,l'm]at hs';rcases hs' with h|rfl
  ·exact x.sd s h
  ·exact l'H _
 ·intro i l hi;simp only at hi ⊢;have hil:=(l'b.1 hi).1;obtain⟨v,hv,hlev,hrs⟩:=x.lr i l hi;refine⟨v,hv,by rw[D'a hil];exact hlev,?_⟩
  cases hvr:v.reason with
  | none=>
   rw[hvr]at hrs;rcases hrs with h|h
   ·left;simp[h]
   ·right;rw[D'a hil];exact h
  | some k=>
   rw[hvr]at hrs;obtain⟨g1,c,g2,g3,g4⟩:=hrs;refine⟨?_,c,g2,g3,g4⟩;simp only[l'E,l'm,not_or];exact⟨g1,by omega⟩
 ·intro i l hi hlv;simp only at hi hlv;have hil:=(l'b.1 hi).1;rw[D'a hil]at hlv;exact x.l0 i l hi hlv
theorem Wt.opn {T st:List Nat}{a b:Nat}(h:Wt T st D a b)(hD:D<=T.length): Wt T (st++[T.length]) D a b:=by
 intro d hd hT;obtain⟨j,hj,hl⟩:=h d hd hT;have:=(l'b.1 hj).1;exact⟨j,hj,by rw[D'a this,D'a (by omega)];exact hl⟩
end Go.Ta
namespace Go.Ta
variable {n D:Nat}{G:List (List Nat)}{q q':Srch}
def lits (cls:List Cl): List (List Nat):=cls.map (·.lits)
theorem E'G {a b:List Cl}(h:lits a=lits b){k:Nat}{c:Cl}(hc:a[k]?=some c): ∃c',b[k]?=some c'∧c'.lits=c.lits:=by
 have h1:(lits a)[k]?=some c.lits:=by simp[lits,hc]
 rw[h]at h1;simp only[lits,List.getElem?_map,Option.map_eq_some_iff]at h1;exact h1
theorem I'N {a:List Cl}{k:Nat}{c c':Cl}(hc:a[k]?=some c)(h:c'.lits=c.lits): lits (a.set k c')=lits a:=by
 unfold lits;rw[List.map_set];refine List.ext_getElem? λi=>?_
 by_cases e:i=k
 ·subst e;have hk:=(l'b.1 hc).1;rw[l'g (by simpa using hk)];simp[hc,h]
 ·rw[l'h (λh=>e h.symm)]
theorem Rsn.cls {a b:List Cl}{T st:List Nat}{i l:Nat}{r:Option Nat}(x:Rsn a T st i l r)(h:lits b=lits a): Rsn b T st i l r:=by
 cases r with
 | none=>exact x
 | some k=>
  obtain⟨g1,c,g2,g3,g4⟩:=x;obtain⟨c',e1,e2⟩:=E'G h.symm g2;exact⟨g1,c',e1,by rw[e2];exact g3,by rw[e2];exact g4⟩
theorem TI.cls (x:TI n G D q){cls:List Cl}(h:lits cls=lits q.clauses): TI n G D { q with clauses:=cls }:=
 ⟨x.hl,x.vl,x.tb,x.tn,x.hh,x.ss,x.sd,x.dt,λi l hi=>by
  obtain⟨v,h1,h2,h3⟩:=x.lr i l hi;exact⟨v,h1,h2,h3.cls h⟩,x.l0⟩
theorem TI.ws (x:TI n G D q)(ws:List (List Nat)): TI n G D { q with watchers:=ws }:=⟨x.hl,x.vl,x.tb,x.tn,x.hh,x.ss,x.sd,x.dt,x.lr,x.l0⟩
theorem CI.cls {a b:List Cl}(x:CI n G a)(h:lits b=lits a): CI n G b:=by
 intro k c hc;obtain⟨c',e1,e2⟩:=E'G h hc;rw[<-e2];exact x k c' e1
theorem WI.swap {cls:List Cl}{ws:List (List Nat)}(x:WI n cls ws){k:Nat}{c:Cl}(hc:cls[k]?=some c): WI n (cls.set k { c with left:=c.right,right:=c.left }) ws:=by
 have hk:=(l'b.1 hc).1;refine⟨x.wl,?_,?_,x.w3⟩
 ·intro k' c' hc' hl
  by_cases e:k'=k
  ·subst e;rw[l'g hk]at hc';simp only[l'a]at hc';subst hc';obtain⟨h1,h2,h3,h4,h5⟩:=x.w1 k' c hc hl;exact⟨h2,h1,λh=>h3 h.symm,h5,h4⟩
  ·rw[l'h (λh=>e h.symm)]at hc';exact x.w1 k' c' hc' hl
 ·intro l w k' hw hk';obtain⟨c',e1,e2,e3⟩:=x.w2 l w k' hw hk'
  by_cases e:k'=k
  ·subst e;rw[hc]at e1;simp only[l'a]at e1;subst e1;exact⟨_,l'g hk,e2,e3.symm⟩
  ·exact⟨c',by rw[l'h (λh=>e h.symm)];exact e1,e2,e3⟩
theorem WI.move {cls:List Cl}{ws:List (List Nat)}(x:WI n cls ws){k f o:Nat}{c:Cl}(hc:cls[k]?=some c)(hl:2<=c.lits.length)(hf:c.right=f)(ho:o∈c.lits)(hol:o≠c.left)(hof:o≠f){E1 E2 wo:List Nat}(hE:ws[f]?=some (E1++k :: E2))(hwo:ws[o]?=some wo):
  WI n (cls.set k { c with right:=o }) ((ws.set f (E1++E2)).set o (wo++[k]))∧k∉wo:=by
 have hk:=(l'b.1 hc).1;have hfl:=(l'b.1 hE).1;have holl:=(l'b.1 hwo).1;obtain⟨g1,g2,g3,⟨wL,g4,g4'⟩,g5⟩:=x.w1 k c hc hl;have hlf:c.left≠f:=λh=>g3 (by rw[h,hf]);have hkwo:k∉wo:=λh=>by
  obtain⟨c',e1,e2,e3⟩:=x.w2 o wo k hwo h;rw[hc]at e1;simp only[l'a]at e1;subst e1;rcases e3 with e|e
  ·exact hol e.symm
  ·exact hof (by rw[<-e,hf])
 have hnd:=x.w3 f _ hE;have hkE:k∉E1++E2:=by
  rw[List.nodup_append]at hnd;obtain⟨n1,n2,n3⟩:=hnd;rw[List.nodup_cons]at n2;simp only[l'E,not_or];exact⟨λh=>n3 k h k (by simp) rfl,n2.1⟩
 have getO:((ws.set f (E1++E2)).set o (wo++[k]))[o]?=some (wo++[k]):=l'g (by simpa using holl);have getF:((ws.set f (E1++E2)).set o (wo++[k]))[f]?=some (E1++E2):=by rw[l'h hof,l'g hfl]
 have getX:∀l:Nat,l≠o->l≠f->((ws.set f (E1++E2)).set o (wo++[k]))[l]?=ws[l]?:=λl h1 h2=>by rw[l'h (λh=>h1 h.symm),l'h (λh=>h2 h.symm)]
 have keep:∀(l k':Nat)(w:List Nat),k'≠k->ws[l]?=some w->k'∈w->∃w':List Nat,((ws.set f (E1++E2)).set o (wo++[k]))[l]?=some w'∧k'∈w':=by
  intro l k' w hne hw hk'
  by_cases e1:l=o
  ·subst e1;rw[hwo]at hw;simp only[l'a]at hw;subst hw;exact⟨_,getO,by simp[hk']⟩
  ·by_cases e2:l=f
   ·subst e2;rw[hE]at hw;simp only[l'a]at hw;subst hw;simp only[l'E,l'I,hne,false_or]at hk';exact⟨_,getF,by simpa using hk'⟩
   ·exact⟨w,by rw[getX l e1 e2];exact hw,hk'⟩
 refine⟨⟨by simp[x.wl],?_,?_,?_⟩,hkwo⟩
 ·intro k' c' hc' hl'
  by_cases e:k'=k
  ·subst e;rw[l'g hk]at hc';simp only[l'a]at hc';subst hc';exact⟨g1,ho,λh=>hol h.symm,⟨wL,by simp only;rw[getX _ (λh=>hol h.symm) hlf];exact g4,g4'⟩,⟨_,getO,by simp⟩⟩
  ·rw[l'h (λh=>e h.symm)]at hc';obtain⟨h1,h2,h3,⟨wa,h4,h4'⟩,⟨wb,h5,h5'⟩⟩:=x.w1 k' c' hc' hl';exact⟨h1,h2,h3,keep _ _ _ e h4 h4',keep _ _ _ e h5 h5'⟩
 ·intro l w k' hw hk'
  by_cases e1:l=o
  ·subst e1;rw[getO]at hw;simp only[l'a]at hw;subst hw;simp only[l'E,l'm]at hk'
   by_cases e:k'=k
   ·subst e;exact⟨_,l'g hk,hl,.inr rfl⟩
   ·have hk2:k'∈wo:=by rcases hk' with h|h;exact h;exact absurd h e
    obtain⟨c',e1,e2,e3⟩:=x.w2 l wo k' hwo hk2;exact⟨c',by rw[l'h (λh=>e h.symm)];exact e1,e2,e3⟩
  ·by_cases e2:l=f
   ·subst e2;rw[getF]at hw;simp only[l'a]at hw;subst hw;have e:k'≠k:=λh=>hkE (h ▸ hk');obtain⟨c',e1,e2,e3⟩:=x.w2 l _ k' hE (by
     simp only[l'E,l'I]at hk' ⊢;rcases hk' with h|h
     ·exact .inl h
     ·exact .inr (.inr h))
    exact⟨c',by rw[l'h (λh=>e h.symm)];exact e1,e2,e3⟩
   ·rw[getX l e1 e2]at hw;obtain⟨c',f1,f2,f3⟩:=x.w2 l w k' hw hk'
    by_cases e:k'=k
    ·subst e;rw[hc]at f1;simp only[l'a]at f1;subst f1;rcases f3 with h|h
     ·exact⟨_,l'g hk,f2,.inl h⟩
     ·exact absurd (by rw[<-h,hf]) e2
    ·exact⟨c',by rw[l'h (λh=>e h.symm)];exact f1,f2,f3⟩
 ·intro l w hw
  by_cases e1:l=o
  ·subst e1;rw[getO]at hw;simp only[l'a]at hw;subst hw;rw[List.nodup_append];exact⟨x.w3 l wo hwo,by simp,λa ha b hb=>by simp only[l'm]at hb;subst hb;exact λh=>hkwo (h ▸ ha)⟩
  ·by_cases e2:l=f
   ·subst e2;rw[getF]at hw;simp only[l'a]at hw;subst hw;exact List.Nodup.sublist (List.Sublist.append (List.Sublist.refl _) (List.sublist_cons_self _ _)) hnd
   ·rw[getX l e1 e2]at hw;exact x.w3 l w hw
theorem DI.swap {cls:List Cl}{T st:List Nat}{k k':Nat}{c:Cl}(hc:cls[k]?=some c)(x:DI cls T st D k'): DI (cls.set k { c with left:=c.right,right:=c.left }) T st D k':=by
 have hk:=(l'b.1 hc).1;intro c' hc' hl
 by_cases e:k'=k
 ·subst e;rw[l'g hk]at hc';simp only[l'a]at hc';subst hc';exact (x c hc hl).symm
 ·rw[l'h (λh=>e h.symm)]at hc';exact x c' hc' hl
theorem N'M (x:TI n G D q)(left:Nat): ∀(ls:List Nat),(∀l∈ls,l<2*n)->(D'B q.holds left ls=some none∧∀o∈ls,o≠left->o ^^^ 1∈q.trail)∨∃o,D'B q.holds left ls=some (some o)∧o∈ls∧o≠left∧o ^^^ 1∉q.trail:=by
 intro ls
 induction ls with
 | nil=>intro _;exact .inl ⟨rfl,by simp⟩
 | cons o r ih=>
  intro h;have h1:=ih (λl hl=>h l (by simp[hl]));unfold D'B
  by_cases e:o=left
  ·rw[if_pos e];rcases h1 with ⟨a,b⟩|⟨o',a,b,c⟩
   ·left;refine⟨a,λo' ho' hne=>?_⟩;rcases l'I.1 ho' with rfl|h2
    ·exact absurd e hne
    ·exact b o' h2 hne
   ·exact .inr ⟨o',a,by simp[b],c⟩
  ·rw[if_neg e,x.hh _ (D'r (h o (by simp)))]
   by_cases e2:o ^^^ 1∈q.trail
   ·simp only[e2,decide_true];rcases h1 with ⟨a,b⟩|⟨o',a,b,c⟩
    ·left;refine⟨a,λo' ho' hne=>?_⟩;rcases l'I.1 ho' with rfl|h2
     ·exact e2
     ·exact b o' h2 hne
    ·exact .inr ⟨o',a,by simp[b],c⟩
   ·simp only[e2,decide_false];exact .inr ⟨o,rfl,by simp,e,e2⟩
end Go.Ta
namespace Go.Ta
variable {n D:Nat}{G:List (List Nat)}{q q':Srch}
structure VL (n:Nat)(G:List (List Nat)) (d f:Nat)(q:Srch) (i kept:Nat)(clash:Option Nat)(wl:List Nat):Prop where
 t:TI n G d q
 c:CI n G q.clauses
 hw:q.watchers[f]?=some wl
 hk:kept<=i
 hi:i<=wl.length
 w:WI n q.clauses (q.watchers.set f (wl.take kept++wl.drop i))
 d0:∀k,DI q.clauses q.trail q.starts d k
 d1:clash=none->∀k,k∉wl.drop i->DI q.clauses q.trail q.starts (d+1) k
 hT:q.trail[d]?=some (f ^^^ 1)
 cl:∀k,clash=some k->∃c:Cl,q.clauses[k]?=some c∧(∀m∈c.lits,m ^^^ 1∈q.trail)∧f∈c.lits∧2<=c.lits.length
 lm:q.clauses.length<=most
structure Ext (q q':Srch):Prop where
 st:q'.starts=q.starts
 dr:q'.drawn=q.drawn
 sm:Same q q'
 tl:∃e,q'.trail=q.trail++e
 li:lits q'.clauses=lits q.clauses
 vi:VI q->VI q'
 mr:MK q->MK q'
theorem Ext.refl (q:Srch): Ext q q:=⟨rfl,rfl,Same.refl q,⟨[],by simp⟩,rfl,id,id⟩
theorem Ext.trans {q1 q2 q3:Srch}(a:Ext q1 q2)(b:Ext q2 q3): Ext q1 q3:=by
 obtain⟨e1,h1⟩:=a.tl;obtain⟨e2,h2⟩:=b.tl;exact⟨by rw[b.st,a.st],by rw[b.dr,a.dr],a.sm.trans b.sm,⟨e1++e2,by rw[h2,h1,List.append_assoc]⟩,by rw[b.li,a.li],λh=>b.vi (a.vi h),λh=>b.mr (a.mr h)⟩
theorem L'n (x:TI n G D q)(hs:q.starts=[]){c:List Nat}{l:Nat}(hc:M'd G c)(h:∀m∈c,m≠l->m ^^^ 1∈q.trail): M'd G [l]:=by
 intro σ hσ;obtain⟨m,hm,ht⟩:=hc σ hσ
 by_cases e:m=l
 ·exact⟨l,by simp,by rw[<-e];exact ht⟩
 ·obtain⟨i,hi⟩:=l'i.1 (h m hm e);have:=G'j (x.l0 i _ hi (by rw[hs];rfl)) hσ;rw[C'9,ht]at this;simp at this
theorem L'o {wl:List Nat}{i kept k:Nat}(hk:kept<=i)(hi:wl[i]?=some k): (wl.set kept k).take (kept+1)++(wl.set kept k).drop (i+1)=wl.take kept++wl.drop i∧(wl.set kept k).drop (i+1)=wl.drop (i+1)∧wl.drop i=k :: wl.drop (i+1):=by
 have hil:=(l'b.1 hi);obtain⟨hlt,hke⟩:=hil;have h1:wl.drop i=k :: wl.drop (i+1):=by rw[l's hlt,hke]
 have h2:(wl.set kept k).drop (i+1)=wl.drop (i+1):=by
  rw[List.drop_set_of_lt (by omega)]
 refine⟨?_,h2,h1⟩;rw[h2,h1,l'C,l'g (by omega),List.take_set_of_le (l'H _)];simp
theorem J'p (hn:n<=192){d f i kept m:Nat}{clash:Option Nat}{wl:List Nat}(x:VL n G d f q i kept clash wl)(hlt:i<wl.length):
  ∃q1 kept1 clash1 wl1,B'Z f (m+1) q i kept clash=B'Z f m q1 (i+1) kept1 clash1∧VL n G d f q1 (i+1) kept1 clash1 wl1∧wl1.length=wl.length∧Ext q q1:=by
 obtain⟨k,hk⟩:∃k,wl[i]?=some k:=⟨_,l'c hlt⟩;obtain⟨tk1,tk2,tk3⟩:=L'o x.hk hk;have hfl:=(l'b.1 x.hw).1;have hfT:f ^^^ 1∈q.trail:=l'f x.hT;have hdT:=(l'b.1 x.hT).1;have hld:lv q.starts d=q.starts.length:=F'S x.t.sd;have hE:(q.watchers.set f (wl.take kept++wl.drop i))[f]?=some (wl.take kept++k :: wl.drop (i+1)):=by rw[l'g hfl,tk3]
 obtain⟨c,hc,hl2,hlr⟩:=x.w.w2 f _ k hE (by simp);have hkl:=(l'b.1 hc).1;obtain⟨c1,hc1,hlits,hright,w1,dmap⟩:∃c1:Cl,(if c.left=f then { c with left:=c.right,right:=f } else c)=c1∧c1.lits=c.lits∧c1.right=f∧WI n (q.clauses.set k c1) (q.watchers.set f (wl.take kept++wl.drop i))∧(∀D k',DI q.clauses q.trail q.starts D k'->DI (q.clauses.set k c1) q.trail q.starts D k'):=by
  by_cases e:c.left=f
  ·refine⟨{ c with left:=c.right,right:=f },by rw[if_pos e],rfl,rfl,?_,?_⟩
   ·have:=x.w.swap hc;rw[e]at this;exact this
   ·intro D k' h;have:=h.swap hc;rw[e]at this;exact this
  ·have hset:q.clauses.set k c=q.clauses:=by
    refine List.ext_getElem? λj=>?_
    by_cases e:j=k
    ·subst e;rw[l'g hkl,hc]
    ·rw[l'h (λh=>e h.symm)]
   refine⟨c,by rw[if_neg e],rfl,?_,by rw[hset];exact x.w,λD k' h=>by rw[hset];exact h⟩;rcases hlr with h|h
   ·exact absurd h e
   ·exact h
 have hget1:(q.clauses.set k c1)[k]?=some c1:=l'g hkl;have hlits1:lits (q.clauses.set k c1)=lits q.clauses:=I'N hc hlits;obtain⟨cb,ci⟩:=x.c k c hc;have hl21:2<=c1.lits.length:=by rw[hlits];exact hl2
 obtain⟨u1,u2,u3,-,-⟩:=w1.w1 k c1 hget1 hl21;have hleftb:c1.left<2*n:=cb _ (by rw[<-hlits];exact u1);have hlf:c1.left≠f:=λh=>u3 (by rw[h,hright]);have t1:=x.t.cls hlits1;have ci1:=x.c.cls hlits1;have hlen1:(q.clauses.set k c1).length<=most:=by rw[List.length_set];exact x.lm
 have stay:∀(clash1:Option Nat),(clash1=none->clash=none)->(clash1=none->DI (q.clauses.set k c1) q.trail q.starts (d+1) k)->(∀k',clash1=some k'->∃c:Cl,(q.clauses.set k c1)[k']?=some c∧(∀m∈c.lits,m ^^^ 1∈q.trail)∧f∈c.lits∧2<=c.lits.length)->VL n G d f { q with clauses:=q.clauses.set k c1,watchers:=q.watchers.set f (wl.set kept k) } (i+1) (kept+1) clash1 (wl.set kept k):=by
  intro clash1 h1 h2 h3;refine⟨t1.ws _,ci1,l'g hfl,by have:=x.hk;omega,by simp;omega,?_,λk'=>dmap d k' (x.d0 k'),?_,x.hT,h3,hlen1⟩
  ·rw[tk1];simp only[List.set_set];exact w1
  ·intro hcn k' hk';rw[tk2]at hk'
   by_cases e:k'=k
   ·subst e;exact h2 hcn
   ·refine dmap (d+1) k' (x.d1 (h1 hcn) k' ?_);rw[tk3];simp only[l'I,not_or];exact⟨e,hk'⟩
 have clmap:∀k',clash=some k'->∃c:Cl,(q.clauses.set k c1)[k']?=some c∧(∀m∈c.lits,m ^^^ 1∈q.trail)∧f∈c.lits∧2<=c.lits.length:=by
  intro k' h;obtain⟨c',e1,e2,e3⟩:=x.cl k' h;obtain⟨c'',g1,g2⟩:=E'G hlits1.symm e1;exact⟨c'',g1,by rw[g2];exact e2,by rw[g2];exact e3⟩
 have hx1:Ext q { q with clauses:=q.clauses.set k c1,watchers:=q.watchers.set f (wl.set kept k) }:=⟨rfl,rfl,⟨rfl,rfl,rfl,rfl,rfl⟩,⟨[],by simp⟩,hlits1,id,id⟩
 by_cases hL:c1.left∈q.trail
 ·-- the left one is true
  have hLn:c1.left ^^^ 1∉q.trail:=λh=>x.t.anti hL h;refine⟨_,kept+1,clash,wl.set kept k,?_,stay clash id ?_ clmap,by simp,hx1⟩
  ·conv=>lhs;unfold B'Z
   rw[x.hw];simp only[hk];unfold E'A;rw[hc];simp only[hc1];rw[x.t.hh _ hleftb];simp only[hL,decide_true,hget1];rw[x.t.hh _ (D'r hleftb),x.t.hh _ hleftb];simp only[hL,hLn,decide_true,decide_false]
  ·intro _ c' hc' _;rw[hget1]at hc';simp only[l'a]at hc';subst hc';refine⟨λd' hd' hT'=>absurd (l'f hT') hLn,λd' hd' hT'=>?_⟩;rw[hright]at hT';have:=x.t.uniq hT' x.hT rfl;subst this;obtain⟨j,hj⟩:=l'i.1 hL;exact⟨j,hj,by rw[hld];exact F'j _ _⟩
 ·rcases N'M x.t c1.left c1.lits (by rw[hlits];exact cb) with ⟨fe,fa⟩|⟨o,fe,fo,fne,fT⟩
  ·-- no other
   by_cases hLn:c1.left ^^^ 1∈q.trail
   ·refine⟨_,kept+1,some k,wl.set kept k,?_,stay (some k) (by simp) (by simp) ?_,by simp,hx1⟩
    ·conv=>lhs;unfold B'Z
     rw[x.hw];simp only[hk];unfold E'A;rw[hc];simp only[hc1];rw[x.t.hh _ hleftb];simp only[hL,decide_false,fe,hget1];rw[x.t.hh _ (D'r hleftb)];simp only[hLn,decide_true]
    ·intro k' h;simp only[l'a]at h;subst h;refine⟨c1,hget1,λm hm=>?_,by rw[<-hright];exact u2,hl21⟩
     by_cases e:m=c1.left
     ·rw[e];exact hLn
     ·exact fa m hm e
   ·-- it follows
    have hst:q.trail.length∉q.starts:=λh=>by have:=x.t.sd _ h;omega
    obtain⟨q3,e3,t3,g1,g2,g3,g4,g5,g6,g7,g8⟩:=F'k (t1.ws (q.watchers.set f (wl.set kept k))) hn (l:=c1.left) (r:=some k) hleftb hL hLn ⟨hst,c1,hget1,u1,λm hm hne=>by simp only[List.take_length];exact fa m hm hne⟩ (λhs=>L'n x.t hs (by rw[hlits];exact ci) fa);simp only at g1 g2 g3 g4 g5;have hv:=stay none;refine⟨q3,kept+1,clash,wl.set kept k,?_,?_,by simp,hx1.trans ⟨g2,g5,g6,⟨_,g1⟩,by rw[g3],g7,g8⟩⟩
    ·conv=>lhs;unfold B'Z
     rw[x.hw];simp only[hk];unfold E'A;rw[hc];simp only[hc1];rw[x.t.hh _ hleftb];simp only[hL,decide_false,fe,hget1];rw[x.t.hh _ (D'r hleftb),x.t.hh _ hleftb];simp only[hLn,hL,decide_false];rw[e3]
    ·refine⟨t3,by rw[g3];exact ci1,by rw[g4];exact l'g hfl,by have:=x.hk;omega,by simp;omega,?_,?_,?_,?_,?_,by rw[g3];exact hlen1⟩
     ·rw[g3,g4,tk1,List.set_set];exact w1
     ·intro k' c' hc' hl';rw[g3]at hc';rw[g1,g2];obtain⟨a,b⟩:=dmap d k' (x.d0 k') c' hc' hl';exact⟨a.app x.t.dt,b.app x.t.dt⟩
     ·intro hcn k' hk' c' hc' hl';rw[tk2]at hk';rw[g3]at hc';rw[g1,g2]
      by_cases e:k'=k
      ·subst e;rw[hget1]at hc';simp only[l'a]at hc';subst hc';refine⟨λd' hd' hT'=>?_,λd' hd' hT'=>⟨q.trail.length,by simp,?_⟩⟩
       ·rw[l'e (by omega)]at hT';exact absurd (l'f hT') hLn
       ·rw[l'e (by omega),hright]at hT';have:=x.t.uniq hT' x.hT rfl;subst this;rw[hld];exact F'j _ _
      ·obtain⟨a,b⟩:=dmap (d+1) k' (x.d1 hcn k' (by rw[tk3];simp only[l'I,not_or];exact⟨e,hk'⟩)) c' hc' hl';exact⟨a.app (by omega),b.app (by omega)⟩
     ·rw[g1,l'e hdT];exact x.hT
     ·intro k' h;obtain⟨c',e1,e2,e3⟩:=clmap k' h;rw[g3,g1];exact⟨c',e1,λm hm=>by simp[e2 m hm],e3⟩
  ·-- another one
   have hof:o≠f:=λh=>fT (by rw[h];exact hfT);have hob:o<2*n:=cb o (by rw[<-hlits];exact fo);obtain⟨wo,hwo⟩:∃wo,q.watchers[o]?=some wo:=⟨_,l'c (by have:=x.w.wl;simp at this;omega)⟩;have hwo':(q.watchers.set f (wl.take kept++wl.drop i))[o]?=some wo:=by rw[l'h (λh=>hof h.symm)];exact hwo
   obtain⟨w2,hkwo⟩:=w1.move hget1 hl21 hright fo fne hof hE hwo';have hwl:wo.length<most:=by
    have hnd:(k :: wo).Nodup:=List.nodup_cons.2 ⟨hkwo,w1.w3 o wo hwo'⟩;have hsub:∀y∈k :: wo,y∈List.range q.clauses.length:=by
     intro y hy;rcases l'I.1 hy with rfl|hy
     ·simpa using hkl
     ·obtain⟨c',e1,-,-⟩:=w1.w2 o wo y hwo' hy;have:=(l'b.1 e1).1;simpa using this
    have:=List.Nodup.length_le_of_subset hnd hsub;simp at this;have:=x.lm;omega
   have hset2:lits (q.clauses.set k { c1 with right:=o })=lits q.clauses:=I'N hc hlits;rw[List.set_set,List.set_set]at w2;rw[List.set_comm _ _ (λh=>hof h.symm)]at w2;have hself:(q.clauses.set k { c1 with right:=o })[k]?=some { c1 with right:=o }:=l'g hkl;have other:∀k',k'≠k->∀D,DI q.clauses q.trail q.starts D k'->DI (q.clauses.set k { c1 with right:=o }) q.trail q.starts D k':=by
    intro k' e D h c' hc' hl';rw[l'h (λh=>e h.symm)]at hc';exact h c' hc' hl'
   have hnew:∀D',D'<=d+1->DI (q.clauses.set k { c1 with right:=o }) q.trail q.starts D' k:=by
    intro D' hD' c' hc' hl';rw[hself]at hc';simp only[l'a]at hc';subst hc';refine⟨λd' hd' hT'=>?_,λd' hd' hT'=>absurd (l'f hT') fT⟩;simp only at hT'
    by_cases e:d'=d
    ·subst e;rw[x.hT]at hT';simp only[l'a]at hT';exact absurd (O'G hT').symm hlf
    ·obtain⟨a,-⟩:=dmap d k (x.d0 k) c1 hget1 hl21;obtain⟨j,hj,-⟩:=a d' (by omega) hT';rw[hright]at hj;exact (x.t.anti (l'f hj) hfT).elim
   refine⟨{ q with clauses:=q.clauses.set k { c1 with right:=o },watchers:=q.watchers.set o (wo++[k]) },kept,clash,wl,?_,?_,rfl,⟨rfl,rfl,⟨rfl,rfl,rfl,rfl,rfl⟩,⟨[],by simp⟩,hset2,id,id⟩⟩
   ·conv=>lhs;unfold B'Z
    rw[x.hw];simp only[hk];unfold E'A;rw[hc];simp only[hc1];rw[x.t.hh _ hleftb];simp only[hL,decide_false,fe,hwo];rw[if_pos ⟨hwl,hof⟩]
   ·refine⟨(x.t.cls hset2).ws _,x.c.cls hset2,by simp only;rw[l'h hof];exact x.hw,by have:=x.hk;omega,by omega,w2,?_,?_,x.hT,?_,by simp only;rw[List.length_set];exact x.lm⟩
    ·intro k'
     by_cases e:k'=k
     ·subst e;exact hnew d (by omega)
     ·exact other k' e d (x.d0 k')
    ·intro hcn k' hk'
     by_cases e:k'=k
     ·subst e;exact hnew (d+1) (l'H _)
     ·exact other k' e (d+1) (x.d1 hcn k' (by rw[tk3];simp only[l'I,not_or];exact⟨e,hk'⟩))
    ·intro k' h;obtain⟨c',e1,e2,e3⟩:=x.cl k' h;obtain⟨c'',g1,g2⟩:=E'G hset2.symm e1;exact⟨c'',g1,by rw[g2];exact e2,by rw[g2];exact e3⟩
theorem L'p (hn:n<=192){d f:Nat}: ∀(m:Nat)(q:Srch) (i kept:Nat)(clash:Option Nat)(wl:List Nat),VL n G d f q i kept clash wl->i+m=wl.length ->
  ∃q1 kept1 clash1 wl1,B'Z f m q i kept clash=some (q1,kept1,clash1)∧VL n G d f q1 wl1.length kept1 clash1 wl1∧Ext q q1:=by
 intro m
 induction m with
 | zero=>
  intro q i kept clash wl x h;obtain rfl:i=wl.length:=by omega
  exact⟨q,kept,clash,wl,rfl,x,Ext.refl q⟩
 | succ m ih=>
  intro q i kept clash wl x h;obtain⟨q1,kept1,clash1,wl1,e1,x1,l1,t1⟩:=J'p hn (m:=m) x (by omega);obtain⟨q2,kept2,clash2,wl2,e2,x2,t2⟩:=ih q1 (i+1) kept1 clash1 wl1 x1 (by omega);exact⟨q2,kept2,clash2,wl2,by rw[e1,e2],x2,t1.trans t2⟩
structure Inv (n:Nat)(G:List (List Nat)) (D:Nat)(q:Srch):Prop where
 t:TI n G D q
 c:CI n G q.clauses
 w:WI n q.clauses q.watchers
 d:∀k,DI q.clauses q.trail q.starts D k
 lm:q.clauses.length<=most
def Cla (q:Srch)(k:Nat): Prop:=∃c:Cl,q.clauses[k]?=some c∧(∀m∈c.lits,m ^^^ 1∈q.trail)∧2<=c.lits.length∧∃x∈c.lits,∃d:Nat,q.trail[d]?=some (x ^^^ 1)∧lv q.starts d=q.starts.length
theorem L'q (hn:n<=192)(x:Inv n G q.drawn q){l:Nat}(hl:q.trail[q.drawn]?=some l):
  ∃q1 clash,E'r { q with drawn:=q.drawn+1 } (l ^^^ 1)=some (q1,clash)∧Ext { q with drawn:=q.drawn+1 } q1∧Inv n G q.drawn q1∧(clash=none->Inv n G (q.drawn+1) q1)∧(∀k,clash=some k->Cla q1 k):=by
 have hlb:=x.t.tb l (l'f hl);have hdl:=(l'b.1 hl).1;obtain⟨wl,hwl⟩:∃wl,q.watchers[l ^^^ 1]?=some wl:=⟨_,l'c (by rw[x.w.wl];exact D'r hlb)⟩;have hwlt:=(l'b.1 hwl).1;have t0:TI n G q.drawn { q with drawn:=q.drawn+1 }:=⟨x.t.hl,x.t.vl,x.t.tb,x.t.tn,x.t.hh,x.t.ss,x.t.sd,x.t.dt,x.t.lr,x.t.l0⟩;have hset:q.watchers.set (l ^^^ 1) wl=q.watchers:=by
  refine List.ext_getElem? λj=>?_
  by_cases e:j=l ^^^ 1
  ·subst e;rw[l'g hwlt,hwl]
  ·rw[l'h (λh=>e h.symm)]
 have v0:VL n G q.drawn (l ^^^ 1) { q with drawn:=q.drawn+1 } 0 0 none wl:=by
  refine⟨t0,x.c,hwl,l'H _,Nat.zero_le _,by simp only[List.take_zero,List.drop_zero,List.nil_append];rw[hset];exact x.w,x.d,?_,by simp only[H'S];exact hl,by simp,x.lm⟩;intro _ k hk c hc hl2;simp only at hc ⊢;rw[List.drop_zero]at hk;obtain⟨a,b⟩:=x.d k c hc hl2;obtain⟨-,-,-,⟨wa,e1,e1'⟩,⟨wb,e2,e2'⟩⟩:=x.w.w1 k c hc hl2;have noA:c.left≠l ^^^ 1:=λh=>by rw[h,hwl]at e1;simp only[l'a]at e1;subst e1;exact hk e1'
  have noB:c.right≠l ^^^ 1:=λh=>by rw[h,hwl]at e2;simp only[l'a]at e2;subst e2;exact hk e2'
  refine⟨λd hd hT=>?_,λd hd hT=>?_⟩
  ·by_cases e:d=q.drawn
   ·subst e;rw[hl]at hT;simp only[l'a]at hT;exact absurd (by rw[hT,H'S]) noA
   ·exact a d (by omega) hT
  ·by_cases e:d=q.drawn
   ·subst e;rw[hl]at hT;simp only[l'a]at hT;exact absurd (by rw[hT,H'S]) noB
   ·exact b d (by omega) hT
 obtain⟨q1,kept1,clash1,wl1,e1,v1,t1⟩:=L'p hn wl.length _ 0 0 none wl v0 (by omega);have w1:=v1.w;rw[List.drop_length,List.append_nil]at w1;have tt:TI n G q.drawn { q1 with watchers:=q1.watchers.set (l ^^^ 1) (wl1.take kept1) }:=v1.t.ws _;have hst:q1.starts=q.starts:=t1.st;refine⟨{ q1 with watchers:=q1.watchers.set (l ^^^ 1) (wl1.take kept1) },clash1,?_,t1.trans ⟨rfl,rfl,⟨rfl,rfl,rfl,rfl,rfl⟩,⟨[],by simp⟩,rfl,id,id⟩,⟨tt,v1.c,w1,v1.d0,v1.lm⟩,?_,?_⟩
 ·unfold E'r;simp only[hwl,e1,v1.hw]
 ·intro hcn;have hT1:=(l'b.1 v1.hT).1;exact⟨⟨tt.hl,tt.vl,tt.tb,tt.tn,tt.hh,tt.ss,λs hs=>Nat.le_succ_of_le (tt.sd s hs),by simp only;omega,tt.lr,tt.l0⟩,v1.c,w1,λk=>v1.d1 hcn k (by rw[List.drop_length];simp),v1.lm⟩
 ·intro k hk;obtain⟨c,e1,e2,e3,e4⟩:=v1.cl k hk;exact⟨c,e1,e2,e4,_,e3,q.drawn,v1.hT,F'S v1.t.sd⟩
end Go.Ta
namespace Go.Ta
variable {n D:Nat}{G:List (List Nat)}{q q':Srch}
structure Ext2 (q q':Srch):Prop where
 st:q'.starts=q.starts
 sm:Same q q'
 tl:∃e,q'.trail=q.trail++e
 li:lits q'.clauses=lits q.clauses
 vi:VI q->VI q'
 mr:MK q->MK q'
theorem Ext2.refl (q:Srch): Ext2 q q:=⟨rfl,Same.refl q,⟨[],by simp⟩,rfl,id,id⟩
theorem Ext2.trans {q1 q2 q3:Srch}(a:Ext2 q1 q2)(b:Ext2 q2 q3): Ext2 q1 q3:=by
 obtain⟨e1,h1⟩:=a.tl;obtain⟨e2,h2⟩:=b.tl;exact⟨by rw[b.st,a.st],a.sm.trans b.sm,⟨e1++e2,by rw[h2,h1,List.append_assoc]⟩,by rw[b.li,a.li],λh=>b.vi (a.vi h),λh=>b.mr (a.mr h)⟩
theorem N'N (hn:n<=192): ∀(m:Nat)(q:Srch),Inv n G q.drawn q->n<m+q.drawn ->
  ∃q1 clash,D'M m q=some (q1,clash)∧Ext2 q q1∧(clash=none->Inv n G q1.trail.length q1∧q1.drawn=q1.trail.length)∧(∀k,clash=some k->(∃D,Inv n G D q1)∧Cla q1 k):=by
 intro m
 induction m with
 | zero=>intro q x h;have:=x.t.len;have:=x.t.dt;omega
 | succ m ih=>
  intro q x h;unfold D'M
  by_cases hlt:q.drawn<q.trail.length
  ·rw[if_pos hlt];obtain⟨l,hl⟩:∃l,q.trail[q.drawn]?=some l:=⟨_,l'c hlt⟩;obtain⟨q1,clash,e1,t1,i1,i2,i3⟩:=L'q hn x hl;have t1':Ext2 q q1:=⟨t1.st,⟨t1.sm.as,t1.sm.gv,t1.sm.bn,t1.sm.mt,t1.sm.co⟩,t1.tl,t1.li,t1.vi,t1.mr⟩;rw[hl];simp only[e1]
   cases clash with
   | some k=>exact⟨q1,some k,rfl,t1',by simp,λk' hk'=>⟨⟨_,i1⟩,i3 k' hk'⟩⟩
   | none=>
    have hd:q1.drawn=q.drawn+1:=t1.dr;obtain⟨q2,c2,e2,t2,j1,j2⟩:=ih q1 (by rw[hd];exact i2 rfl) (by omega);exact⟨q2,c2,e2,t1'.trans t2,j1,j2⟩
  ·rw[if_neg hlt];have hd:q.drawn=q.trail.length:=by have:=x.t.dt;omega
   exact⟨q,none,rfl,Ext2.refl q,λ_=>⟨by rw[<-hd];exact x,hd⟩,by simp⟩
def mkd (q:Srch)(v:Nat): Bool:=(q.vars[v]?.map (·.marked)).getD false
def lev (q:Srch)(v:Nat): Nat:=(q.vars[v]?.map (·.level)).getD 0
def VM (q:Srch): Prop:=16<=q.bonus∧q.bonus<=1099511627776∧∀v∈q.vars,v.weight<=(if v.marked then 35 else 34)*q.bonus+64
def cnt (q:Srch)(U:List Nat): Nat:=U.countP λl=>mkd q (l/2)&&lev q (l/2)==q.starts.length
structure MR (q q1:Srch)(ls:List Nat):Prop where
 eq:q1 = { q with vars:=q1.vars }
 len:q1.vars.length=q.vars.length
 v:∀(v:Nat)(x:Vr),q.vars[v]?=some x->∃y:Vr,q1.vars[v]?=some y∧y.level=x.level∧y.reason=x.reason∧y.last=x.last∧(y.marked=true↔x.marked=true∨(x.level≠0∧∃l∈ls,l/2=v))
theorem VI.vm (x:VI q)(m:MK q): VM q:=⟨x.1,x.2.1,λv hv=>by rw[m v hv];simpa using x.2.2 v hv⟩
theorem J'q {α:Type}(f:α->Nat)(v:Nat)(P P':α->Bool): ∀(U:List α),(U.map f).Nodup->v∈U.map f->(∀x∈U,f x≠v->P' x=P x)->(∀x∈U,f x=v->P x=false∧P' x=true)->U.countP P'=U.countP P+1:=by
 intro U
 induction U with
 | nil=>intro _ h;simp at h
 | cons a r ih=>
  intro hnd hv h1 h2;simp only[l'J,List.nodup_cons]at hnd
  by_cases e:f a=v
  ·obtain⟨p1,p2⟩:=h2 a (by simp) e;have hr:r.countP P'=r.countP P:=by
    refine List.countP_congr λx hx=>?_;rw[h1 x (by simp[hx]) (λh=>hnd.1 (by rw[e,<-h];exact List.mem_map_of_mem hx))]
   rw[List.countP_cons,List.countP_cons,hr];simp[p1,p2]
  ·have hv':v∈r.map f:=by
    simp only[l'J,l'I]at hv;rcases hv with h|h
    ·exact absurd h.symm e
    ·exact h
   have:=ih hnd.2 hv' (λx hx=>h1 x (by simp[hx])) (λx hx=>h2 x (by simp[hx]));rw[List.countP_cons,List.countP_cons,this,h1 a (by simp) e];omega
theorem E'H: ∀(ls:List Nat)(q:Srch),(∀l∈ls,l/2<q.vars.length)->VM q ->
  ∃q1 m,C'1 ls q=some (q1,m)∧MR q q1 ls∧VM q1∧∀U:List Nat,(U.map (· / 2)).Nodup->(∀l∈ls,lev q (l/2)≠0->lev q (l/2)=q.starts.length->mkd q (l/2)=false->l/2∈U.map (· / 2))->cnt q1 U=cnt q U+m:=by
 intro ls
 induction ls with
 | nil=>intro q _ hv;exact⟨q,0,rfl,⟨rfl,rfl,λv x hx=>⟨x,hx,rfl,rfl,rfl,by simp⟩⟩,hv,λ_ _ _=>rfl⟩
 | cons l r ih=>
  intro q hl hv;have hm62:B'w=4611686018427387904:=rfl;obtain⟨x,hx⟩:∃x,q.vars[l/2]?=some x:=⟨_,l'c (hl l (by simp))⟩;unfold C'1;rw[hx];simp only;have hmkx:mkd q (l/2)=x.marked:=by simp[mkd,hx]
  have hlex:lev q (l/2)=x.level:=by simp[lev,hx]
  by_cases e:(x.marked||x.level==0)=true
  ·rw[if_pos e];obtain⟨q1,m,e1,mr,vm,hc⟩:=ih q (λl' h'=>hl l' (by simp[h'])) hv;refine⟨q1,m,e1,⟨mr.eq,mr.len,λv y hy=>?_⟩,vm,λU hU hm=>hc U hU (λl' h'=>hm l' (by simp[h']))⟩;obtain⟨z,z1,z2,z3,z4,z5⟩:=mr.v v y hy;refine⟨z,z1,z2,z3,z4,?_⟩;rw[z5];constructor
   ·rintro (h|⟨h1,l',h2,h3⟩)
    ·exact .inl h
    ·exact .inr ⟨h1,l',by simp[h2],h3⟩
   ·rintro (h|⟨h1,l',h2,h3⟩)
    ·exact .inl h
    ·rcases l'I.1 h2 with rfl|h2
     ·rw[h3]at hx;rw[hx]at hy;simp only[l'a]at hy;subst hy;simp only[Bool.or_eq_true,beq_iff_eq]at e;rcases e with e|e
      ·exact .inl e
      ·exact absurd e h1
     ·exact .inr ⟨h1,l',h2,h3⟩
  ·rw[if_neg e];simp only[Bool.or_eq_true,beq_iff_eq,not_or,Bool.not_eq_true]at e;obtain⟨em,el⟩:=e;obtain⟨b1,b2,b3⟩:=hv;have hwx:=b3 x (l'f hx);rw[em]at hwx;simp only[l'y,if_false]at hwx;have hlt:x.weight+q.bonus<B'w:=by omega
   rw[if_pos hlt];have hxi:=(l'b.1 hx).1;obtain⟨q1,m,e1,mr,vm,hc⟩:=ih { q with vars:=q.vars.set (l/2) { x with marked:=true,weight:=x.weight+q.bonus } } (λl' h'=>by simpa using hl l' (by simp[h'])) ⟨b1,b2,D'P b3 (by simp only[if_true];omega)⟩;rw[e1];refine⟨q1,_,rfl,⟨by rw[mr.eq],by rw[mr.len];simp,λv y hy=>?_⟩,vm,λU hU hm=>?_⟩
   ·by_cases ev:v=l/2
    ·subst ev;rw[hx]at hy;simp only[l'a]at hy;subst hy;obtain⟨z,z1,z2,z3,z4,z5⟩:=mr.v (l/2) _ (l'g hxi);refine⟨z,z1,z2,z3,z4,?_⟩;rw[z5];simp only[true_or,true_iff];exact .inr ⟨el,l,by simp,rfl⟩
    ·obtain⟨z,z1,z2,z3,z4,z5⟩:=mr.v v y (by simp only;rw[l'h (λh=>ev h.symm)];exact hy);refine⟨z,z1,z2,z3,z4,?_⟩;rw[z5];constructor
     ·rintro (h|⟨h1,l',h2,h3⟩)
      ·exact .inl h
      ·exact .inr ⟨h1,l',by simp[h2],h3⟩
     ·rintro (h|⟨h1,l',h2,h3⟩)
      ·exact .inl h
      ·rcases l'I.1 h2 with rfl|h2
       ·exact absurd h3.symm ev
       ·exact .inr ⟨h1,l',h2,h3⟩
   ·have mkne:∀v,v≠l/2->mkd { q with vars:=q.vars.set (l/2) { x with marked:=true,weight:=x.weight+q.bonus } } v=mkd q v:=λv h=>by
     simp only[mkd];rw[l'h (λe=>h e.symm)]
    have lvne:∀v,lev { q with vars:=q.vars.set (l/2) { x with marked:=true,weight:=x.weight+q.bonus } } v=lev q v:=λv=>by
     simp only[lev]
     by_cases h:v=l/2
     ·subst h;rw[l'g hxi,hx];rfl
     ·rw[l'h (λe=>h e.symm)]
    have mkself:mkd { q with vars:=q.vars.set (l/2) { x with marked:=true,weight:=x.weight+q.bonus } } (l/2)=true:=by
     simp only[mkd];rw[l'g hxi];rfl
    have h1:=hc U hU (λl' h' g1 g2 g3=>by
     rw[lvne]at g1 g2
     by_cases h:l'/2=l/2
     ·rw[h,mkself]at g3;simp at g3
     ·rw[mkne _ h]at g3;exact hm l' (by simp[h']) g1 g2 g3)
    rw[h1]
    by_cases e2:x.level=q.starts.length
    ·rw[if_pos e2];have h2:=J'q (· / 2) (l/2) (λl=>mkd q (l/2)&&lev q (l/2)==q.starts.length) (λl'=>mkd { q with vars:=q.vars.set (l/2) { x with marked:=true,weight:=x.weight+q.bonus } } (l'/2)&&lev { q with vars:=q.vars.set (l/2) { x with marked:=true,weight:=x.weight+q.bonus } } (l'/2)==q.starts.length) U hU (hm l (by simp) (by rw[hlex];exact el) (by rw[hlex];exact e2) (by rw[hmkx];exact em)) (λy _ hy=>by simp only[mkne _ hy,lvne]) (λy _ hy=>⟨by simp only[hy,hmkx,em];simp,by simp only[hy,mkself,lvne,hlex];simpa using e2⟩);unfold cnt;simp only;rw[h2];omega
    ·rw[if_neg e2];unfold cnt;simp only;have h2:U.countP (λl'=>mkd { q with vars:=q.vars.set (l/2) { x with marked:=true,weight:=x.weight+q.bonus } } (l'/2)&&lev { q with vars:=q.vars.set (l/2) { x with marked:=true,weight:=x.weight+q.bonus } } (l'/2)==q.starts.length)=U.countP λl=>mkd q (l/2)&&lev q (l/2)==q.starts.length:=by
      refine List.countP_congr λy _=>?_
      by_cases h:y/2=l/2
      ·rw[h,lvne,hlex];have:(x.level==q.starts.length)=false:=by simpa using e2
       simp[this]
      ·rw[mkne _ h,lvne]
     rw[h2]
theorem TI.mr (x:TI n G D q){q1:Srch}{ls:List Nat}(m:MR q q1 ls): TI n G D q1:=by
 have e:=m.eq;refine⟨by rw[e];exact x.hl,by rw[m.len];exact x.vl,by rw[e];exact x.tb,by rw[e];exact x.tn,by rw[e];exact x.hh,by rw[e];exact x.ss,by rw[e];exact x.sd,by rw[e];exact x.dt,?_,by rw[e];exact x.l0⟩;intro i l hi;have hi':q.trail[i]?=some l:=by rw[e]at hi;exact hi
 obtain⟨v,h1,h2,h3⟩:=x.lr i l hi';obtain⟨y,y1,y2,y3,-⟩:=m.v _ v h1;refine⟨y,y1,by rw[y2,h2,e],?_⟩;rw[y3,e];exact h3
end Go.Ta
namespace Go.Ta
variable {n D:Nat}{G:List (List Nat)}{q q':Srch}
def rsn (q:Srch)(v:Nat): Option Nat:=q.vars[v]?.bind (·.reason)
def cld (q:Srch)(m:Nat): Prop:=mkd q (m/2)=true∨lev q (m/2)=0
structure SV2 (q q':Srch):Prop where
 eq:q' = { q with vars:=q'.vars }
 len:q'.vars.length=q.vars.length
 lv:∀v,lev q' v=lev q v
 rs:∀v,rsn q' v=rsn q v
theorem SV2.refl (q:Srch): SV2 q q:=⟨rfl,rfl,λ_=>rfl,λ_=>rfl⟩
theorem SV2.trans {q1 q2 q3:Srch}(a:SV2 q1 q2)(b:SV2 q2 q3): SV2 q1 q3:=
 ⟨by rw[b.eq,a.eq],by rw[b.len,a.len],λv=>by rw[b.lv,a.lv],λv=>by rw[b.rs,a.rs]⟩
theorem MR.sv {q1:Srch}{ls:List Nat}(m:MR q q1 ls): SV2 q q1∧∀v,mkd q1 v=true↔mkd q v=true∨(lev q v≠0∧∃l∈ls,l/2=v):=by
 have key:∀v,lev q1 v=lev q v∧rsn q1 v=rsn q v∧(mkd q1 v=true↔mkd q v=true∨(lev q v≠0∧∃l∈ls,l/2=v)):=by
  intro v
  cases hx:q.vars[v]? with
  | none=>
   have h1:q1.vars[v]?=none:=by
    rw[List.getElem?_eq_none_iff]at hx ⊢;rw[m.len];exact hx
   simp[lev,rsn,mkd,hx,h1]
  | some x=>
   obtain⟨y,y1,y2,y3,y4,y5⟩:=m.v v x hx;simp only[lev,rsn,mkd,hx,y1,l'l,Option.getD_some,l't];exact⟨y2,y3,y5⟩
 exact⟨⟨m.eq,m.len,λv=>(key v).1,λv=>(key v).2.1⟩,λv=>(key v).2.2⟩
theorem TI.at (x:TI n G D q){i l:Nat}(h:q.trail[i]?=some l): lev q (l/2)=lv q.starts i∧Rsn q.clauses q.trail q.starts i l (rsn q (l/2)):=by
 obtain⟨v,h1,h2,h3⟩:=x.lr i l h;simp only[lev,rsn,h1,l'l,Option.getD_some,l't];exact⟨h2,h3⟩
structure TrI (n:Nat)(G:List (List Nat)) (D:Nat)(q:Srch) (a:Nat) (op:Int)(cl:List Nat):Prop where
 t:TI n G D q
 c:CI n G q.clauses
 vm:VM q
 nl:0<q.starts.length
 mb:∀v,mkd q v=true->lev q v≠0∧∃i l:Nat,q.trail[i]?=some l∧l/2=v
 cl:∀m∈cl,cld q m
 cs:∀(i l:Nat),a<i->q.trail[i]?=some l->mkd q (l/2)=true->∃(k:Nat)(c:Cl),rsn q (l/2)=some k∧q.clauses[k]?=some c∧∀m∈c.lits,cld q m
 op1:op=(cnt q (q.trail.take (a+1)):Int)
 op2:1<=op
structure TrO (n:Nat)(G:List (List Nat)) (D:Nat)(q:Srch) (pos:Nat)(cl:List Nat):Prop where
 t:TI n G D q
 c:CI n G q.clauses
 vm:VM q
 mb:∀v,mkd q v=true->lev q v≠0∧∃i l:Nat,q.trail[i]?=some l∧l/2=v
 cl:∀m∈cl,cld q m
 cs:∀(i l:Nat),pos<i->q.trail[i]?=some l->mkd q (l/2)=true->∃(k:Nat)(c:Cl),rsn q (l/2)=some k∧q.clauses[k]?=some c∧∀m∈c.lits,cld q m
 at_:∃l:Nat,q.trail[pos]?=some l∧mkd q (l/2)=true
 lp:lv q.starts pos=q.starts.length
 ot:∀(i l:Nat),i<pos->q.trail[i]?=some l->mkd q (l/2)=true->lv q.starts i<q.starts.length
theorem L'r {q:Srch}{U:List Nat}(h:1<=cnt q U): ∃l∈U,mkd q (l/2)=true∧lev q (l/2)=q.starts.length:=by
 unfold cnt at h;obtain⟨l,hl,hp⟩:=List.countP_pos_iff.1 (Nat.lt_of_lt_of_le Nat.zero_lt_one h);simp only[l'k,beq_iff_eq]at hp;exact⟨l,hl,hp⟩
theorem G'k (q:Srch)(U:List Nat)(l:Nat): cnt q (U++[l])=cnt q U+if mkd q (l/2)=true∧lev q (l/2)=q.starts.length then 1 else 0:=by
 unfold cnt;rw[List.countP_append,List.countP_singleton];simp only[l'k,beq_iff_eq]
theorem T'w (q:Srch)(U:List Nat): cnt q U<=U.length:=List.countP_le_length
theorem D's {T:List Nat}{a l:Nat}(h:T[a]?=some l): T.take (a+1)=T.take a++[l]:=by
 rw[l'C,h];rfl
theorem J'r (x:TI n G D q)(a:Nat): ((q.trail.take a).map (· / 2)).Nodup:=by
 rw[List.map_take];exact List.Nodup.sublist (List.take_sublist _ _) x.tn
theorem TrI.top {a:Nat}{op:Int}{cl:List Nat}(x:TrI n G D q a op cl): lv q.starts a=q.starts.length:=by
 have h1:=x.op2;rw[x.op1]at h1;obtain⟨l,hl,hm,hlv⟩:=L'r (show 1<=cnt q (q.trail.take (a+1)) by omega);obtain⟨j,hj⟩:=l'i.1 hl;have hjl:=(l'b.1 hj).1;simp at hjl;rw[l'j (by omega)]at hj;have h2:=(x.t.at hj).1;have h3:=L'k (st:=q.starts) (show j<=a by omega);have h4:=F'j q.starts a;omega
theorem TrI.stop {a:Nat}{op:Int}{cl:List Nat}(x:TrI n G D q a op cl){l:Nat}(hl:q.trail[a]?=some l)(hm:mkd q (l/2)=true)(h:op=1∨rsn q (l/2)=none): TrO n G D q a cl:=by
 have htop:=x.top;have hlev:=(x.t.at hl).1;refine⟨x.t,x.c,x.vm,x.mb,x.cl,x.cs,⟨l,hl,hm⟩,htop,?_⟩;intro i l' hi hl' hm';have hle:=F'j q.starts i;rcases Nat.lt_or_eq_of_le hle with h1|h1
 ·exact h1
 ·exfalso;have hlev':=(x.t.at hl').1;rcases h with h|h
  ·have h2:=x.op1;rw[D's hl,G'k,if_pos ⟨hm,by rw[hlev,htop]⟩]at h2;have h3:cnt q (q.trail.take a)=0:=by omega
   unfold cnt at h3;rw[List.countP_eq_zero]at h3;have:=h3 l' (l'i.2 ⟨i,by rw[l'j hi];exact hl'⟩);simp only[l'k,beq_iff_eq,not_and]at this;exact this hm' (by rw[hlev',h1])
  ·have h2:=(x.t.at hl).2;rw[h]at h2;rcases h2 with h2|h2
   ·obtain⟨j,hj⟩:=l'i.1 h2;have h3:=(C'x x.t.ss hj hi).2;have h4:=R'q x.t.ss hj (l'H a);have h5:=F'j q.starts a;omega
   ·have:=x.nl;omega
theorem L's (hn:n<=192){cl:List Nat}: ∀(a:Nat)(q:Srch) (op:Int),a<q.trail.length->TrI n G D q a op cl ->
  ∃q1 pos,C'7 a q op=some (q1,pos)∧pos<=a∧SV2 q q1∧TrO n G D q1 pos cl:=by
 have hm:most=1000000:=rfl;intro a
 induction a with
 | zero=>
  intro q op ha x;refine⟨q,0,rfl,l'H _,SV2.refl q,?_⟩;have htop:=x.top;obtain⟨l,hl⟩:∃l,q.trail[0]?=some l:=⟨_,l'c ha⟩;have h1:=x.op2;rw[x.op1]at h1;obtain⟨l',hl',hm',hlv'⟩:=L'r (show 1<=cnt q (q.trail.take (0+1)) by omega);rw[D's hl]at hl';simp at hl';subst hl';exact⟨x.t,x.c,x.vm,x.mb,x.cl,x.cs,⟨l',hl,hm'⟩,htop,λi l hi=>absurd hi (by omega)⟩
 | succ d ih=>
  intro q op ha x;obtain⟨l,hl⟩:∃l,q.trail[d+1]?=some l:=⟨_,l'c ha⟩;obtain⟨v,hv,hvl,hvr⟩:=x.t.lr (d+1) l hl;have hmk:mkd q (l/2)=v.marked:=by simp[mkd,hv]
  have hrs:rsn q (l/2)=v.reason:=by simp[rsn,hv]
  have htop:=x.top;have hlev:=(x.t.at hl).1;have htl:=x.t.len;unfold C'7;rw[hl];simp only[hv]
  by_cases em:v.marked=true
  ·rw[if_pos em]
   by_cases eo:op=1
   ·rw[if_pos eo];exact⟨q,d+1,rfl,l'H _,SV2.refl q,x.stop hl (by rw[hmk];exact em) (.inl eo)⟩
   ·rw[if_neg eo]
    cases hr:v.reason with
    | none=>
     exact⟨q,d+1,rfl,l'H _,SV2.refl q,x.stop hl (by rw[hmk];exact em) (.inr (by rw[hrs,hr]))⟩
    | some k=>
     rw[hr]at hvr hrs;obtain⟨-,c,hc,hlc,hoth⟩:=hvr;obtain⟨cb,-⟩:=x.c k c hc;obtain⟨q1,m,e1,mr,vm1,hcnt⟩:=E'H c.lits q (λy hy=>by rw[x.t.vl];have:=cb y hy;omega) x.vm;obtain⟨sv,hmk1⟩:=mr.sv;have hU:=hcnt (q.trail.take (d+1+1)) (J'r x.t _) (λy hy h1 h2 h3=>by
      by_cases e:y=l
      ·subst e;rw[hmk,em]at h3;simp at h3
      ·have:=hoth y hy e;refine List.mem_map.2 ⟨y ^^^ 1,?_,B'9 y⟩;obtain⟨j,hj⟩:=l'i.1 this;have hjl:=(l'b.1 hj).1;simp at hjl;rw[l'j (by omega)]at hj;exact l'i.2 ⟨j,by rw[l'j (by omega)];exact hj⟩)
     have hle1:=T'w q1 (q.trail.take (d+1+1));rw[List.length_take]at hle1;have hop:=x.op1;have hop2:=x.op2;simp only[hc,e1];rw[if_pos (by omega)];have htr:q1.trail=q.trail:=by rw[mr.eq]
     have hst:q1.starts=q.starts:=by rw[mr.eq]
     have hcl:q1.clauses=q.clauses:=by rw[mr.eq]
     have hlive:cnt q1 (q.trail.take (d+1))=cnt q1 (q.trail.take (d+1+1))-1:=by
      rw[D's hl,G'k,if_pos ⟨(hmk1 _).2 (.inl (by rw[hmk];exact em)),by rw[sv.lv,hlev,htop,hst]⟩];omega
     have cldm:∀m,cld q m->cld q1 m:=λm h=>by
      rcases h with h|h
      ·exact .inl ((hmk1 _).2 (.inl h))
      ·exact .inr (by rw[sv.lv];exact h)
     have x1:TrI n G D q1 d (op+((m:Int)-1)) cl:=by
      refine⟨x.t.mr mr,by rw[hcl];exact x.c,vm1,by rw[hst];exact x.nl,?_,λm hm=>cldm m (x.cl m hm),?_,?_,by omega⟩
      ·intro v' hv';rw[sv.lv,htr];rcases (hmk1 v').1 hv' with h|⟨h,y,hy,rfl⟩
       ·exact x.mb v' h
       ·refine⟨h,?_⟩
        by_cases e:y=l
        ·subst e;exact⟨d+1,y,hl,rfl⟩
        ·obtain⟨j,hj⟩:=l'i.1 (List.mem_of_mem_take (hoth y hy e));exact⟨j,_,hj,B'9 y⟩
      ·intro i l' hi hl' hm';rw[htr]at hl';rw[hcl,sv.rs]
       by_cases e:i=d+1
       ·subst e;rw[hl]at hl';simp only[l'a]at hl';subst hl';refine⟨k,c,hrs,hc,λm hm=>?_⟩
        by_cases e0:lev q (m/2)=0
        ·exact .inr (by rw[sv.lv];exact e0)
        ·exact .inl ((hmk1 _).2 (.inr ⟨e0,m,hm,rfl⟩))
       ·rcases (hmk1 (l'/2)).1 hm' with h|⟨h,y,hy,hyl⟩
        ·obtain⟨k',c',g1,g2,g3⟩:=x.cs i l' (by omega) hl' h;exact⟨k',c',g1,g2,λm hm=>cldm m (g3 m hm)⟩
        ·exfalso
         by_cases e2:y=l
         ·subst e2;have:=x.t.uniq hl hl' hyl;omega
         ·obtain⟨j,hj⟩:=l'i.1 (hoth y hy e2);have hjl:=(l'b.1 hj).1;simp at hjl;rw[l'j (by omega)]at hj;have:=x.t.uniq hj hl' (by rw[B'9];exact hyl);omega
      ·rw[htr];omega
     obtain⟨q2,pos,e2,hp,s2,o2⟩:=ih q1 _ (by rw[htr];omega) x1;exact⟨q2,pos,e2,by omega,sv.trans s2,o2⟩
  ·rw[if_neg em];have hnm:¬mkd q (l/2)=true:=by rw[hmk];exact em
   have x1:TrI n G D q d op cl:=by
    refine⟨x.t,x.c,x.vm,x.nl,x.mb,x.cl,?_,?_,x.op2⟩
    ·intro i l' hi hl' hm'
     by_cases e:i=d+1
     ·subst e;rw[hl]at hl';simp only[l'a]at hl';subst hl';exact absurd hm' hnm
     ·exact x.cs i l' (by omega) hl' hm'
    ·have h1:=x.op1;rw[D's hl,G'k,if_neg (λh=>hnm h.1)]at h1;exact h1
   obtain⟨q2,pos,e2,hp,s2,o2⟩:=ih q op (by omega) x1;exact⟨q2,pos,e2,by omega,s2,o2⟩
end Go.Ta
