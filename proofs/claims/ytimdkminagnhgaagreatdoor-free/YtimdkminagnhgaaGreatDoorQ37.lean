import Derived.Test.YtimdkminagnhgaaGreatDoorQ36
set_option linter.all false
namespace Go.Ta
variable {n D:Nat}{G:List (List Nat)}{q q':Srch}
theorem needL_ok (q:Srch): ∀(ls:List Nat),(∀l∈ls,l/2<q.vars.length)->∃b,needL q.vars ls=some b∧(b=true->∀l∈ls,cld q l):=by
 intro ls
 induction ls with
 | nil=>intro _;exact⟨true,rfl,by simp⟩
 | cons l r ih=>
  intro h;obtain⟨x,hx⟩:∃x,q.vars[l/2]?=some x:=⟨_,l'c (h l (by simp))⟩;unfold needL;rw[hx];simp only
  by_cases e:(!x.marked&&decide (0<x.level))=true
  ·rw[if_pos e];exact⟨false,rfl,by simp⟩
  ·rw[if_neg e];obtain⟨b,e1,e2⟩:=ih (λl' h'=>h l' (by simp[h']));refine⟨b,e1,λhb l' hl'=>?_⟩;rcases l'I.1 hl' with rfl|h'
   ·unfold cld;simp only[mkd,lev,hx,l'l,Option.getD_some];simp only[l'k,l'L,l'M,not_and]at e
    cases hm:x.marked with
    | true=>left;rfl
    | false=>right;have:=e hm;omega
   ·exact e2 hb l' h'
theorem needP_ok (x:TI n G D q)(hc:CI n G q.clauses){i l:Nat}(hl:q.trail[i]?=some l): ∃b,needP q (l/2)=some b∧(b=true->∃(k:Nat)(c:Cl),rsn q (l/2)=some k∧q.clauses[k]?=some c∧∀m∈c.lits,cld q m):=by
 obtain⟨v,hv,-,hr⟩:=x.lr i l hl;unfold needP;rw[hv];simp only
 cases h:v.reason with
 | none=>exact⟨false,rfl,by simp⟩
 | some k=>
  rw[h]at hr;obtain⟨-,c,h1,-,-⟩:=hr;simp only[h1];obtain⟨b,e1,e2⟩:=needL_ok q c.lits (λy hy=>by rw[x.vl];have:=(hc k c h1).1 y hy;omega);exact⟨b,e1,λhb=>⟨k,c,by simp[rsn,hv,h],h1,e2 hb⟩⟩
def keepB (q:Srch)(l:Nat): Bool:=mkd q (l/2) && !((needP q (l/2)).getD false)
theorem barL_ok (x:TI n G D q)(hc:CI n G q.clauses): ∀(ls acc:List Nat),(∀l∈ls,l∈q.trail)->acc.length+ls.length<=1000->barL q ls acc=some (acc++(ls.filter (keepB q)).map (· ^^^ 1)):=by
 have hm:most=1000000:=rfl;intro ls
 induction ls with
 | nil=>intro acc _ _;simp[barL]
 | cons l r ih=>
  intro acc h1 h2;simp only[l'n]at h2;obtain⟨i,hi⟩:=l'i.1 (h1 l (by simp));obtain⟨v,hv,-,-⟩:=x.lr i l hi;obtain⟨b,e1,-⟩:=needP_ok x hc hi;have hmk:mkd q (l/2)=v.marked:=by simp[mkd,hv]
  have hk:keepB q l=(v.marked && !b):=by unfold keepB;rw[hmk,e1];rfl
  unfold barL;rw[hv];simp only
  by_cases em:v.marked=true
  ·rw[if_pos em,e1]
   cases b with
   | true=>
    simp only;rw[ih acc (λl' h'=>h1 l' (by simp[h'])) (by omega),List.filter_cons,hk,em];simp
   | false=>
    simp only;rw[if_pos (by omega),ih _ (λl' h'=>h1 l' (by simp[h'])) (by simp;omega),List.filter_cons,hk,em];simp
  ·rw[if_neg em,ih acc (λl' h'=>h1 l' (by simp[h'])) (by omega),List.filter_cons,hk];simp[em]
theorem bar_impl {pos:Nat}{cl:List Nat}(x:TrO n G D q pos cl)(hcl:impl G cl)(hclT:∀m∈cl,m ^^^ 1∈q.trail){l:Nat}(hl:q.trail[pos]?=some l): impl G ((l ^^^ 1) :: ((q.trail.take pos).filter (keepB q)).map (· ^^^ 1)):=by
 intro σ hσ;apply Classical.byContradiction;intro hno;have hf:∀y∈(l ^^^ 1) :: ((q.trail.take pos).filter (keepB q)).map (· ^^^ 1),tr σ y=false:=by
  intro y hy
  cases h:tr σ y with
  | false=>rfl
  | true=>exact absurd ⟨y,hy,h⟩ hno
 have hpos:tr σ l=true:=by
  have:=hf (l ^^^ 1) (by simp);rw[tr_neg]at this;simpa using this
 have key:∀(i l':Nat),q.trail[i]?=some l'->cld q l'->tr σ l'=true:=by
  intro i
  induction i using Nat.strongRecOn with
  | _ i ih=>
   intro l' hl' hcd;have byR:(∃(k:Nat)(c:Cl),rsn q (l'/2)=some k∧q.clauses[k]?=some c∧∀m∈c.lits,cld q m)->tr σ l'=true:=by
    rintro⟨k,c,h1,h2,h3⟩;have hr:=(x.t.at hl').2;rw[h1]at hr;obtain⟨-,c',h4,h5,h6⟩:=hr;rw[h2]at h4;simp only[l'a]at h4;subst h4;obtain⟨m,hm,ht⟩:=(x.c k c h2).2 σ hσ
    by_cases e:m=l'
    ·rw[<-e];exact ht
    ·exfalso;obtain⟨j,hj⟩:=l'i.1 (h6 m hm e);have hjl:=(l'b.1 hj).1;simp at hjl;rw[l'j (by omega)]at hj;have hcm:cld q (m ^^^ 1):=by
      have:=h3 m hm;unfold cld at this ⊢;rw[x1_div];exact this
     have:=ih j (by omega) _ hj hcm;rw[tr_neg,ht]at this;simp at this
   rcases hcd with hm|h0
   ·rcases Nat.lt_trichotomy i pos with h|h|h
    ·cases hk:keepB q l' with
     | true=>
      have:=hf (l' ^^^ 1) (by
       refine l'I.2 (.inr (List.mem_map.2 ⟨l',List.mem_filter.2 ⟨?_,hk⟩,rfl⟩));exact l'i.2 ⟨i,by rw[l'j h];exact hl'⟩)
      rw[tr_neg]at this;simpa using this
     | false=>
      obtain⟨b,e1,e2⟩:=needP_ok x.t x.c hl';unfold keepB at hk;rw[hm,e1]at hk;simp only[Option.getD_some,Bool.true_and,Bool.not_eq_false']at hk;exact byR (e2 hk)
    ·subst h;rw[hl]at hl';simp only[l'a]at hl';subst hl';exact hpos
    ·exact byR (x.cs i l' h hl' hm)
   ·rw[(x.t.at hl').1]at h0;exact impl_one (x.t.l0 i l' hl' h0) hσ
 obtain⟨m,hm,ht⟩:=hcl σ hσ;obtain⟨j,hj⟩:=l'i.1 (hclT m hm);have hcm:cld q (m ^^^ 1):=by
  have:=x.cl m hm;unfold cld at this ⊢;rw[x1_div];exact this
 have:=key j _ hj hcm;rw[tr_neg,ht]at this;simp at this
theorem spanL_ok (vars:List Vr): ∀(ls:List Nat) (lev span:Nat),(∀l∈ls,l/2<vars.length)->∃s,spanL vars ls lev span=some s∧s<=span+ls.length:=by
 intro ls
 induction ls with
 | nil=>intro lev span _;exact⟨span,rfl,by simp⟩
 | cons l r ih=>
  intro lev span h;obtain⟨x,hx⟩:∃x,vars[l/2]?=some x:=⟨_,l'c (h l (by simp))⟩;unfold spanL;rw[hx];simp only;obtain⟨s,e1,e2⟩:=ih x.level (if x.level=lev then span else span+1) (λl' h'=>h l' (by simp[h']));refine⟨s,e1,?_⟩;simp only[l'n];split at e2 <;> omega
theorem TI.sv (x:TI n G D q)(h1:q'.holds=q.holds)(h2:q'.vars.length=q.vars.length)(h3:q'.trail=q.trail)(h4:q'.starts=q.starts)(h5:q'.clauses=q.clauses)(hv:∀(v:Nat)(x:Vr),q.vars[v]?=some x->∃y:Vr,q'.vars[v]?=some y∧y.level=x.level∧y.reason=x.reason): TI n G D q':=by
 refine⟨by rw[h1];exact x.hl,by rw[h2];exact x.vl,by rw[h3];exact x.tb,by rw[h3];exact x.tn,by rw[h1,h3];exact x.hh,by rw[h4];exact x.ss,by rw[h4];exact x.sd,by rw[h3];exact x.dt,?_,by rw[h3,h4];exact x.l0⟩;intro i l hi;rw[h3]at hi;obtain⟨v,a1,a2,a3⟩:=x.lr i l hi;obtain⟨y,b1,b2,b3⟩:=hv _ v a1;exact⟨y,b1,by rw[b2,a2,h4],by rw[b3,h3,h4,h5];exact a3⟩
theorem raise_ok (vm:VM q): ∃q3,raiseP (clearP q)=some q3∧q3 = { q with vars:=q3.vars,bonus:=q3.bonus }∧q3.vars.length=q.vars.length∧(∀(v:Nat)(x:Vr),q.vars[v]?=some x->∃y:Vr,q3.vars[v]?=some y∧y.level=x.level∧y.reason=x.reason)∧VI q3∧MK q3:=by
 have hm62:most62=4611686018427387904:=rfl;obtain⟨b1,b2,b3⟩:=vm;have hw:∀v∈q.vars,v.weight<=35*q.bonus+64:=λv hv=>by
  have:=b3 v hv;split at this <;> omega
 unfold raiseP clearP;simp only;rw[if_pos (by omega)]
 by_cases h:q.bonus+q.bonus/16<=1099511627776
 ·rw[if_pos h];refine⟨_,rfl,rfl,by simp,?_,⟨by simp only;omega,h,?_⟩,?_⟩
  ·intro v x hx;exact⟨{ x with marked:=false },by simp only[List.getElem?_map,hx];rfl,rfl,rfl⟩
  ·intro v hv;simp only[List.mem_map]at hv;obtain⟨y,hy,rfl⟩:=hv;have:=hw y hy;simp only;omega
  ·intro v hv;simp only[List.mem_map]at hv;obtain⟨y,hy,rfl⟩:=hv;rfl
 ·rw[if_neg h];refine⟨_,rfl,rfl,by simp,?_,⟨by simp only;omega,by simp only;omega,?_⟩,?_⟩
  ·intro v x hx;exact⟨{ x with marked:=false,weight:=x.weight/68719476736 },by simp only[List.getElem?_map,hx];rfl,rfl,rfl⟩
  ·intro v hv;simp only[List.mem_map]at hv;obtain⟨y,⟨z,hz,rfl⟩,rfl⟩:=hv;have:=hw z hz;simp only;omega
  ·intro v hv;simp only[List.mem_map]at hv;obtain⟨y,⟨z,hz,rfl⟩,rfl⟩:=hv;rfl
theorem TI.att (x:TI n G D q)(c:Cl)(ws:List (List Nat)): TI n G D { q with clauses:=q.clauses++[c],watchers:=ws }:=by
 refine⟨x.hl,x.vl,x.tb,x.tn,x.hh,x.ss,x.sd,x.dt,?_,x.l0⟩;intro i l hi;obtain⟨v,h1,h2,h3⟩:=x.lr i l hi;refine⟨v,h1,h2,?_⟩
 cases hr:v.reason with
 | none=>rw[hr]at h3;exact h3
 | some k=>
  rw[hr]at h3;obtain⟨g1,c',g2,g3⟩:=h3;have hk:=(l'b.1 g2).1;exact⟨g1,c',by simp only;rw[l'e hk];exact g2,g3⟩
theorem get_snoc {α:Type}{l:List α}{x y:α}{k:Nat}(h:(l++[x])[k]?=some y): l[k]?=some y∨(k=l.length∧y=x):=by
 by_cases hk:k<l.length
 ·rw[l'e hk]at h;exact .inl h
 ·have hl:=(l'b.1 h).1;simp at hl;obtain rfl:k=l.length:=by omega
  simp at h;exact .inr ⟨rfl,h.symm⟩
theorem CI.att {cls:List Cl}(x:CI n G cls){c:Cl}(h1:∀l∈c.lits,l<2*n)(h2:impl G c.lits): CI n G (cls++[c]):=by
 intro k c' hc;rcases get_snoc hc with h|⟨-,rfl⟩
 ·exact x k c' h
 ·exact⟨h1,h2⟩
theorem WI.att {cls:List Cl}{ws:List (List Nat)}(x:WI n cls ws){c:Cl}(h2:2<=c.lits.length)(hl:c.left∈c.lits)(hr:c.right∈c.lits)(hne:c.left≠c.right){wa wb:List Nat}(ha:ws[c.left]?=some wa)(hb:ws[c.right]?=some wb):
  WI n (cls++[c]) ((ws.set c.left (wa++[cls.length])).set c.right (wb++[cls.length])):=by
 have hal:=(l'b.1 ha).1;have hbl:=(l'b.1 hb).1;have old:∀(l k:Nat)(w:List Nat),ws[l]?=some w->k∈w->k<cls.length:=λl k w h1 h2=>by
  obtain⟨c',e1,-,-⟩:=x.w2 l w k h1 h2;exact (l'b.1 e1).1
 have getB:((ws.set c.left (wa++[cls.length])).set c.right (wb++[cls.length]))[c.right]?=some (wb++[cls.length]):=l'g (by simpa using hbl);have getA:((ws.set c.left (wa++[cls.length])).set c.right (wb++[cls.length]))[c.left]?=some (wa++[cls.length]):=by rw[l'h (λh=>hne h.symm),l'g hal]
 have getX:∀l:Nat,l≠c.left->l≠c.right->((ws.set c.left (wa++[cls.length])).set c.right (wb++[cls.length]))[l]?=ws[l]?:=λl h1 h2=>by rw[l'h (λh=>h2 h.symm),l'h (λh=>h1 h.symm)]
 have keep:∀(l k:Nat)(w:List Nat),ws[l]?=some w->k∈w->∃w':List Nat,((ws.set c.left (wa++[cls.length])).set c.right (wb++[cls.length]))[l]?=some w'∧k∈w':=by
  intro l k w hw hk
  by_cases e1:l=c.left
  ·subst e1;rw[ha]at hw;simp only[l'a]at hw;subst hw;exact⟨_,getA,by simp[hk]⟩
  ·by_cases e2:l=c.right
   ·subst e2;rw[hb]at hw;simp only[l'a]at hw;subst hw;exact⟨_,getB,by simp[hk]⟩
   ·exact⟨w,by rw[getX l e1 e2];exact hw,hk⟩
 have gnew:(cls++[c])[cls.length]?=some c:=by simp
 have gold:∀(k:Nat)(c':Cl),cls[k]?=some c'->(cls++[c])[k]?=some c':=λk c' h=>by rw[l'e (l'b.1 h).1];exact h
 refine⟨by simp[x.wl],?_,?_,?_⟩
 ·intro k c' hc hl';rcases get_snoc hc with h|⟨rfl,rfl⟩
  ·obtain⟨h1,h2,h3,⟨w1,h4,h4'⟩,⟨w2,h5,h5'⟩⟩:=x.w1 k c' h hl';exact⟨h1,h2,h3,keep _ _ _ h4 h4',keep _ _ _ h5 h5'⟩
  ·exact⟨hl,hr,hne,⟨_,getA,by simp⟩,⟨_,getB,by simp⟩⟩
 ·intro l w k hw hk
  by_cases e1:l=c.left
  ·subst e1;rw[getA]at hw;simp only[l'a]at hw;subst hw;simp only[l'E,l'm]at hk;rcases hk with hk|rfl
   ·obtain⟨c',f1,f2,f3⟩:=x.w2 _ _ k ha hk;exact⟨c',gold _ _ f1,f2,f3⟩
   ·exact⟨c,gnew,h2,.inl rfl⟩
  ·by_cases e2:l=c.right
   ·subst e2;rw[getB]at hw;simp only[l'a]at hw;subst hw;simp only[l'E,l'm]at hk;rcases hk with hk|rfl
    ·obtain⟨c',f1,f2,f3⟩:=x.w2 _ _ k hb hk;exact⟨c',gold _ _ f1,f2,f3⟩
    ·exact⟨c,gnew,h2,.inr rfl⟩
   ·rw[getX l e1 e2]at hw;obtain⟨c',f1,f2,f3⟩:=x.w2 l w k hw hk;exact⟨c',gold _ _ f1,f2,f3⟩
 ·have snoc:∀(l:Nat)(w:List Nat),ws[l]?=some w->(w++[cls.length]).Nodup:=λl w h=>by
   rw[List.nodup_append];refine⟨x.w3 l w h,by simp,λa ha b hb=>?_⟩;simp only[l'm]at hb;subst hb;have:=old l a w h ha;omega
  intro l w hw
  by_cases e1:l=c.left
  ·subst e1;rw[getA]at hw;simp only[l'a]at hw;subst hw;exact snoc _ _ ha
  ·by_cases e2:l=c.right
   ·subst e2;rw[getB]at hw;simp only[l'a]at hw;subst hw;exact snoc _ _ hb
   ·rw[getX l e1 e2]at hw;exact x.w3 l w hw
theorem WI.short {cls:List Cl}{ws:List (List Nat)}(x:WI n cls ws){l:Nat}{w:List Nat}(h:ws[l]?=some w): w.length<=cls.length:=by
 have hsub:∀y∈w,y∈List.range cls.length:=by
  intro y hy;obtain⟨c',e1,-,-⟩:=x.w2 l w y h hy;simpa using (l'b.1 e1).1
 simpa using List.Nodup.length_le_of_subset (x.w3 l w h) hsub
theorem attachP_ok (x:WI n q.clauses q.watchers)(hlm:q.clauses.length<most){c:Cl}(h2:2<=c.lits.length)(hb:∀l∈c.lits,l<2*n)(hl:c.left∈c.lits)(hr:c.right∈c.lits)(hne:c.left≠c.right):
  ∃ws,attachP q c=some { q with clauses:=q.clauses++[c],watchers:=ws }∧WI n (q.clauses++[c]) ws:=by
 obtain⟨wa,ha⟩:∃wa,q.watchers[c.left]?=some wa:=⟨_,l'c (by rw[x.wl];exact hb _ hl)⟩;obtain⟨wb,hbb⟩:∃wb,q.watchers[c.right]?=some wb:=⟨_,l'c (by rw[x.wl];exact hb _ hr)⟩;have l1:=x.short ha;have l2:=x.short hbb;have hb':(q.watchers.set c.left (wa++[q.clauses.length]))[c.right]?=some wb:=by rw[l'h hne];exact hbb
 refine⟨_,?_,x.att h2 hl hr hne ha hbb⟩;unfold attachP enterP;rw[if_pos hlm];simp only[l'z (l'H _),Nat.sub_self,l'w,ha];rw[if_pos (by omega)];simp only[hb'];rw[if_pos (by omega)]
end Go.Ta
namespace Go.Ta
variable {n D:Nat}{G:List (List Nat)}{q q':Srch}
def phw (n:Nat)(st:List Nat)(i:Nat): Nat:=if i∈st then 0 else 2^(n-1-i)
def ph (n:Nat)(st:List Nat): Nat->Nat
 | 0=>0
 | k+1=>ph n st k+phw n st k
theorem phw_le (n:Nat)(st:List Nat)(i:Nat): phw n st i<=2^(n-1-i):=by unfold phw;split;exact Nat.zero_le _;exact l'H _
theorem ph_le {n:Nat}{st:List Nat}{a:Nat}: ∀k,a<=k->k<=n->ph n st k+2^(n-k)<=ph n st a+2^(n-a):=by
 intro k
 induction k with
 | zero=>
      intro h1 _;obtain rfl:a=0:=by omega
      exact l'H _
 | succ k ih=>
  intro h1 h2
  by_cases e:a=k+1
  ·subst e;exact l'H _
  ·have h3:=ih (by omega) (by omega);have h4:=phw_le n st k;have h5:2^(n-k)=2^(n-1-k)+2^(n-1-k):=by
    rw[show n-k=(n-1-k)+1 by omega,Nat.pow_succ];omega
   have h6:n-(k+1)=n-1-k:=by omega
   simp only[ph];rw[h6];omega
theorem ph_lt {n:Nat}{st:List Nat}{k:Nat}(h:k<=n): ph n st k<2^n:=by
 have h1:=ph_le (n:=n) (st:=st) (a:=0) k (Nat.zero_le _) h;have h2:0<2^(n-k):=Nat.pow_pos (by omega);simp only[ph,Nat.sub_zero]at h1;omega
theorem ph_congr {n:Nat}{st st':List Nat}: ∀k,(∀i,i<k->(i∈st↔i∈st'))->ph n st k=ph n st' k:=by
 intro k
 induction k with
 | zero=>intro _;rfl
 | succ k ih=>
  intro h;simp only[ph,ih (λi hi=>h i (by omega)),phw,h k (by omega)]
theorem ph_mono {n:Nat}{st:List Nat}{a:Nat}: ∀k,a<=k->ph n st a<=ph n st k:=by
 intro k
 induction k with
 | zero=>
      intro h;obtain rfl:a=0:=by omega
      exact l'H _
 | succ k ih=>
  intro h
  by_cases e:a=k+1
  ·subst e;exact l'H _
  ·have:=ih (by omega);simp only[ph];omega
theorem ph_back {n:Nat}{st:List Nat}(hst:Srt st){L s len:Nat}(hs:st[L]?=some s)(hlen:s<len)(hn:len<=n)(hns:s∉st.take L): ph n st len<ph n (st.take L) (s+1):=by
 have hmem:=l'f hs;have h1:=ph_le (n:=n) (st:=st) (a:=s+1) len (by omega) hn;have h2:ph n st (s+1)=ph n st s:=by simp only[ph,phw,if_pos hmem];rfl
 have h3:ph n (st.take L) (s+1)=ph n st s+2^(n-1-s):=by
  simp only[ph,phw,if_neg hns];rw[ph_congr s];intro i hi;constructor
  ·exact λh=>List.mem_of_mem_take h
  ·intro h;obtain⟨j,hj⟩:=l'i.1 h;have:j<L:=by
    rcases Nat.lt_or_ge j L with h1|h1
    ·exact h1
    ·have:=hst.le h1 hs hj;omega
   exact l'i.2 ⟨j,by rw[l'j this];exact hj⟩
 have h4:0<2^(n-len):=Nat.pow_pos (by omega);have h5:n-(s+1)=n-1-s:=by omega
 rw[h5]at h1;omega
theorem ph_even {n:Nat}{st:List Nat}: ∀k,k<n->ph n st k%2=0:=by
 intro k
 induction k with
 | zero=>intro _;simp[ph]
 | succ k ih=>
  intro h;have h1:=ih (by omega);simp only[ph,phw];obtain⟨e,he⟩:∃e,n-1-k=e+1:=⟨n-2-k,by omega⟩;split
  ·exact h1
  ·rw[he,Nat.pow_succ];omega
structure SL (q:Srch):Prop where
 s1:∀(i s:Nat),q.starts[i]?=some s->i<=q.assumed.length+s
 s2:∀(i s:Nat),q.starts[i]?=some s->q.assumed.length<=i->s<q.trail.length
def UI (G:List (List Nat))(q:Srch): Prop:=∀l,[l]∈G->∃i:Nat,q.trail[i]?=some l∧lv q.starts i=0
structure All (n:Nat)(G:List (List Nat)) (D:Nat)(q:Srch):Prop where
 i:Inv n G D q
 v:VI q
 m:MK q
 a:AI q
 s:SL q
 u:UI G q
theorem after_back (hn:n<=192)(x:All n G D q){L s:Nat}(hs:q.starts[L]?=some s)(hns:s∉q.starts.take L){q4 q5:Srch}{a:Nat}(e1:q4.trail=q.trail.take s++[a])(e2:q4.starts=q.starts.take L)(e3:q4.assumed=q.assumed): AI q4∧SL q4∧UI G q4:=by
 have hsD:=x.i.t.sd s (l'f hs);have hsT:s<=q.trail.length:=l'G hsD x.i.t.dt;have hL:=(l'b.1 hs).1;have hlen:(q.trail.take s).length=s:=by simp;omega
 have ab:=x.a.back (q':={ q with trail:=q.trail.take s,starts:=q.starts.take L }) x.i.t.ss hs rfl rfl rfl;have hstl:∀(i s':Nat),(q.starts.take L)[i]?=some s'->i<L∧q.starts[i]?=some s':=by
  intro i s' h;have hil:=(l'b.1 h).1;simp at hil;rw[l'j (by omega)]at h;exact⟨by omega,h⟩
 refine⟨⟨?_,?_⟩,⟨?_,?_⟩,?_⟩
 ·intro i a' h1 h2;rw[e3]at h1;rw[e2]at h2 ⊢;rw[e1];obtain⟨j,hj,hl⟩:=ab.a1 i a' h1 h2;simp only at hj;exact⟨j,by rw[l'e (l'b.1 hj).1];exact hj,hl⟩
 ·intro i s' a' l h1 h2 h3 h4;rw[e2]at h1 h4;rw[e3]at h2;rw[e1]at h3;have hlt:s'<s:=by
   obtain⟨hiL,hi⟩:=hstl i s' h1;have h5:=x.i.t.ss.le (Nat.le_of_lt hiL) hi hs;rcases Nat.lt_or_eq_of_le h5 with h6|h6
   ·exact h6
   ·exact absurd (h6 ▸ l'f h1) hns
  rw[l'e (by omega)]at h3;exact ab.a2 i s' a' l h1 h2 h3 h4
 ·intro i s' h;rw[e2]at h;rw[e3];exact x.s.s1 i s' (hstl i s' h).2
 ·intro i s' h _;rw[e2]at h;rw[e1];obtain⟨hiL,hi⟩:=hstl i s' h;have h5:=x.i.t.ss.le (Nat.le_of_lt hiL) hi hs;simp;omega
 ·intro l hl;obtain⟨i,hi,hlv⟩:=x.u l hl;have his:i<s:=lv_lt x.i.t.ss hs (by omega);rw[e1,e2];exact⟨i,by rw[l'e (by omega),l'j his];exact hi,by rw[(lv_take x.i.t.ss hs his).1];exact hlv⟩
theorem lev_pair (x:TI n G D q): q.trail.Pairwise (λa b=>lev q (a/2)<=lev q (b/2)):=by
 rw[List.pairwise_iff_getElem];intro i j hi hj hij;rw[(x.at (l'c hi)).1,(x.at (l'c hj)).1];exact lv_mono (Nat.le_of_lt hij)
theorem learnP_ok (hn:n<=192)(x:All n G D q){k:Nat}(hk:Cla q k)(hnl:0<q.starts.length)(hg:q.given<=q.clauses.length∧q.clauses.length-q.given<4000)(hlm:q.clauses.length<most):
  ∃q',learnP q k=some q'∧All n G q'.drawn q'∧(ph n q.starts q.trail.length<ph n q'.starts q'.trail.length∧q'.trail.length<n)∧q'.assumed=q.assumed∧q'.given=q.given∧q'.met=q.met∧q'.core=q.core∧(lits q'.clauses=lits q.clauses∨∃c,lits q'.clauses=lits q.clauses++[c]):=by
 have hm:most=1000000:=rfl;obtain⟨c,hc,hall,hc2,xl,hxl,d,hd,hdl⟩:=hk;have t:=x.i.t;have two:∀s∈q.starts,s+1<q.trail.length:=by
  intro s hs;obtain⟨u1,u2,u3,-,-⟩:=x.i.w.w1 k c hc hc2;obtain⟨d1,d2⟩:=x.i.d k c hc hc2;obtain⟨i,hi⟩:=l'i.1 (hall _ u1);obtain⟨j,hj⟩:=l'i.1 (hall _ u2);have hsD:=t.sd s hs;have hil:=(l'b.1 hi).1;have hjl:=(l'b.1 hj).1;have hij:i≠j:=λe=>by
   subst e;rw[hi]at hj;simp only[l'a]at hj;exact u3 (x1_inj hj)
  have hi2:s<=i:=by
   rcases Nat.lt_or_ge i s with h|h
   ·obtain⟨y,hy,-⟩:=d1 i (by omega) hi;exact (t.anti (l'f hy) (hall _ u2)).elim
   ·exact h
  have hj2:s<=j:=by
   rcases Nat.lt_or_ge j s with h|h
   ·obtain⟨y,hy,-⟩:=d2 j (by omega) hj;exact (t.anti (l'f hy) (hall _ u1)).elim
   ·exact h
  omega
 have htl:=t.len;have hdlt:=(l'b.1 hd).1;obtain⟨cb,ci⟩:=x.i.c k c hc;obtain⟨q1,m1,e1,mr1,vm1,hcnt1⟩:=markP_ok c.lits q (λy hy=>by rw[t.vl];have:=cb y hy;omega) (x.v.vm x.m);obtain⟨sv1,hmk1⟩:=mr1.sv;have tr1:q1.trail=q.trail:=by rw[mr1.eq]
 have st1:q1.starts=q.starts:=by rw[mr1.eq]
 have cl1:q1.clauses=q.clauses:=by rw[mr1.eq]
 have nomark:∀v,mkd q v=false:=by
  intro v
  cases hx:q.vars[v]? with
  | none=>simp[mkd,hx]
  | some y=>simp[mkd,hx,x.m y (l'f hx)]
 have hcnt:=hcnt1 q.trail t.tn (λy hy _ _ _=>List.mem_map.2 ⟨y ^^^ 1,hall y hy,x1_div y⟩);have hc0:cnt q q.trail=0:=by
  unfold cnt;rw[List.countP_eq_zero];intro l _;simp[nomark]
 have hlevx:lev q (xl/2)=q.starts.length:=by
  have:=(t.at hd).1;rw[x1_div]at this;rw[this,hdl]
 have x1:TrI n G D q1 (q1.trail.length-1) (m1:Int) c.lits:=by
  refine⟨t.mr mr1,by rw[cl1];exact x.i.c,vm1,by rw[st1];exact hnl,?_,?_,?_,?_,?_⟩
  ·intro v hv;rw[tr1,sv1.lv];rcases (hmk1 v).1 hv with h|⟨h,y,hy,rfl⟩
   ·rw[nomark]at h;simp at h
   ·obtain⟨j,hj⟩:=l'i.1 (hall y hy);exact⟨h,j,_,hj,x1_div y⟩
  ·intro y hy
   by_cases e0:lev q (y/2)=0
   ·exact .inr (by rw[sv1.lv];exact e0)
   ·exact .inl ((hmk1 _).2 (.inr ⟨e0,y,hy,rfl⟩))
  ·intro i l hi hl;have:=(l'b.1 hl).1;omega
  ·rw[tr1,show q.trail.length-1+1=q.trail.length by omega,List.take_length,hcnt,hc0];simp
  ·have:1<=cnt q1 q.trail:=by
    unfold cnt;refine List.countP_pos_iff.2 ⟨xl ^^^ 1,l'f hd,?_⟩;simp only[l'k,beq_iff_eq,x1_div];exact⟨(hmk1 _).2 (.inr ⟨by omega,xl,hxl,rfl⟩),by rw[sv1.lv,hlevx,st1]⟩
   omega
 obtain⟨q2,pos,e2,hpos,sv2,o2⟩:=traceP_ok hn _ q1 _ (by rw[tr1];omega) x1;have sv:=sv1.trans sv2;have tr2:q2.trail=q.trail:=by rw[sv.eq]
 have st2:q2.starts=q.starts:=by rw[sv.eq]
 have cl2:q2.clauses=q.clauses:=by rw[sv.eq]
 obtain⟨lp,hlp,hlm2⟩:=o2.at_;have hlp':q.trail[pos]?=some lp:=by rw[<-tr2];exact hlp
 have hposl:=(l'b.1 hlp').1;have hlpl:lv q.starts pos=q.starts.length:=by have:=o2.lp;rw[st2]at this;exact this
 have e3:barP q2 pos=some ((lp ^^^ 1) :: ((q2.trail.take pos).filter (keepB q2)).map (· ^^^ 1)):=by
  unfold barP;rw[hlp];simp only;rw[barL_ok o2.t o2.c _ _ (λl hl=>List.mem_of_mem_take hl) (by simp;omega)];rfl
 have himp:=bar_impl o2 ci (by rw[tr2];exact hall) hlp;obtain⟨r,hr⟩:=e' (((q2.trail.take pos).filter (keepB q2)).map (· ^^^ 1));rw[<-hr]at e3 himp;obtain⟨a,ha⟩:=e' (lp ^^^ 1);rw[<-ha]at e3 himp;have hax:a ^^^ 1=lp:=by rw[ha,x1_x1]
 have hrmem:∀y∈r,∃j,j<pos∧q.trail[j]?=some (y ^^^ 1)∧mkd q2 (y/2)=true∧lev q (y/2)=lv q.starts j∧lv q.starts j≠0∧lv q.starts j<q.starts.length:=by
  intro y hy;rw[hr]at hy;obtain⟨z,hz,rfl⟩:=List.mem_map.1 hy;obtain⟨hz1,hz2⟩:=List.mem_filter.1 hz;obtain⟨j,hj⟩:=l'i.1 hz1;have hjl:=(l'b.1 hj).1;simp at hjl;rw[l'j (by omega)]at hj;unfold keepB at hz2;simp only[l'k]at hz2;have hj':q.trail[j]?=some z:=by rw[<-tr2];exact hj
  have h1:=(t.at hj').1;have h2:=(o2.mb _ hz2.1).1;rw[sv.lv,h1]at h2;have h3:=o2.ot j z (by omega) hj hz2.1;rw[st2]at h3;exact⟨j,by omega,by rw[x1_x1];exact hj',by rw[x1_div];exact hz2.1,by rw[x1_div];exact h1,h2,h3⟩
 have hab:a<2*n:=by rw[ha];exact x1_lt (t.tb lp (l'f hlp'))
 have hrb:∀y∈r,y<2*n:=λy hy=>by
  obtain⟨j,-,hj,-⟩:=hrmem y hy;exact x1_lt' (t.tb _ (l'f hj))
 have hlb:∀y∈a :: r,y<2*n:=λy hy=>by
  rcases l'I.1 hy with rfl|h
  ·exact hab
  ·exact hrb y h
 obtain⟨span,e4,-⟩:=spanL_ok q2.vars r 0 1 (λy hy=>by rw[sv.len,t.vl];have:=hrb y hy;omega);have e4':spanP q2 (a :: r)=some span:=e4;obtain⟨q3,e5,q3e,q3l,q3v,vi3,mk3⟩:=raise_ok o2.vm;have tr3:q3.trail=q.trail:=by rw[q3e,tr2]
 have st3:q3.starts=q.starts:=by rw[q3e,st2]
 have cl3:q3.clauses=q.clauses:=by rw[q3e,cl2]
 have ws3:q3.watchers=q.watchers:=by rw[q3e];simp only;rw[sv.eq]
 have ho3:q3.holds=q.holds:=by rw[q3e];simp only;rw[sv.eq]
 have as3:q3.assumed=q.assumed:=by rw[q3e];simp only;rw[sv.eq]
 have gv3:q3.given=q.given:=by rw[q3e];simp only;rw[sv.eq]
 have mt3:q3.met=q.met:=by rw[q3e];simp only;rw[sv.eq]
 have co3:q3.core=q.core:=by rw[q3e];simp only;rw[sv.eq]
 have t3:TI n G D q3:=o2.t.sv (by rw[q3e]) q3l (by rw[q3e]) (by rw[q3e]) (by rw[q3e]) q3v;have lev3:∀v y,q3.vars[v]?=some y->y.level=lev q v:=by
  intro v y hy;have hvl:=(l'b.1 hy).1;obtain⟨z,hz⟩:∃z,q2.vars[v]?=some z:=⟨_,l'c (by omega)⟩;obtain⟨y',h1,h2,-⟩:=q3v v z hz;rw[hy]at h1;simp only[l'a]at h1;subst h1;rw[h2,<-sv.lv];simp[lev,hz]
 have x3:All n G D q3:=by
  refine⟨⟨t3,by rw[cl3];exact x.i.c,by rw[cl3,ws3];exact x.i.w,by rw[cl3,tr3,st3];exact x.i.d,by rw[cl3];exact x.i.lm⟩,vi3,mk3,⟨by rw[as3,st3,tr3];exact x.a.a1,by rw[as3,st3,tr3];exact x.a.a2⟩,⟨by rw[as3,st3];exact x.s.s1,by rw[as3,st3,tr3];exact x.s.s2⟩,?_⟩;intro l hl;rw[tr3,st3];exact x.u l hl
 have outside:∀L s,q.starts[L]?=some s->L<q.starts.length->a∉q.trail.take s∧a ^^^ 1∉q.trail.take s∧s<q.trail.length:=by
  intro L s hs hL;have hps:s<=pos:=by
   rcases Nat.lt_or_ge pos s with h|h
   ·have:=(lv_take t.ss hs h).2;omega
   ·exact h
  have hno:∀y,y/2=lp/2->y∉q.trail.take s:=by
   intro y hy hmem;obtain⟨j,hj⟩:=l'i.1 hmem;have hjl:=(l'b.1 hj).1;simp at hjl;rw[l'j (by omega)]at hj;have:=t.uniq hj hlp' hy;omega
  exact⟨hno a (by rw[ha,x1_div]),hno _ (by rw[hax]),by omega⟩
 unfold learnP;rw[hc];simp only[e1,e2,e3,e4',e5]
 cases hrc:r with
 | nil=>
  simp only;obtain⟨s,hs⟩:∃s,q.starts[0]?=some s:=⟨_,l'c hnl⟩;obtain⟨o1,o2',o3⟩:=outside 0 s hs hnl;obtain⟨q4,f1,f2,f3,f4,f5,f6,f7,f8,f9⟩:=backP_ok t3 (L:=0) (s:=s) (by rw[st3];exact hs);rw[tr3]at f3;rw[st3,List.take_zero]at f4;rw[f1];simp only;have hlen4:q4.trail.length=s:=by rw[f3];simp;omega
  obtain⟨q5,g1,g2,g3,g4,g5,g6,g7,g8,g9,g10⟩:=setP_ok f2 hn (l:=a) (r:=none) hab (by rw[f3];exact o1) (by rw[f3];exact o2') (.inr (by rw[f4];rfl)) (λ_=>by rw[hrc]at himp;exact himp);rw[f3]at g3;rw[f4]at g4;rw[f6,cl3]at g5;rw[f7,ws3]at g6;rw[f5]at g7;have hns:s∉q.starts.take 0:=by simp
  have as5:q5.assumed=q.assumed:=by rw[g8.as,f9.as,as3]
  obtain⟨ai5,sl5,ui5⟩:=after_back (q5:=q5) hn x hs hns (q4:=q5) g3 (by rw[g4];rfl) as5;have vi4:VI q4:=⟨by rw[f9.bn];exact vi3.1,by rw[f9.bn];exact vi3.2.1,by rw[f8,f9.bn];exact vi3.2.2⟩;have mk4:MK q4:=by unfold MK;rw[f8];exact mk3
  refine⟨q5,g1,⟨⟨by rw[g7];exact g2,by rw[g5];exact x.i.c,by rw[g5,g6];exact x.i.w,?_,by rw[g5];exact x.i.lm⟩,g9 vi4,g10 mk4,ai5,sl5,ui5⟩,?_,as5,by rw[g8.gv,f9.gv,gv3],by rw[g8.mt,f9.mt,mt3],by rw[g8.co,f9.co,co3],.inl (by rw[g5])⟩
  ·intro k' c' hc' hl';rw[g5]at hc';rw[g7,g3,g4];obtain⟨w1,w2⟩:=x.i.d k' c' hc' hl';have hsD:=t.sd s (l'f hs);have b1:=w1.back t.ss hs hsD (by omega);have b2:=w2.back t.ss hs hsD (by omega);rw[List.take_zero]at b1 b2;exact⟨b1.app (by simp;omega),b2.app (by simp;omega)⟩
  ·rw[g3,g4];have:=ph_back t.ss hs o3 htl hns;rw[List.take_zero]at this;rw[l'p,List.length_take,Nat.min_eq_left (by omega)];exact⟨this,by have:=two s (l'f hs);simp;omega⟩
 | cons y0 r0=>
  simp only;rw[<-hrc];have hlast:∃z,r.getLastD 0=z∧z∈r∧∀y∈r,lev q (y/2)<=lev q (z/2):=by
   have hp:r.Pairwise (λa b=>lev q (a/2)<=lev q (b/2)):=by
    rw[hr,tr2];rw[List.pairwise_map];simp only[x1_div];exact List.Pairwise.sublist ((List.filter_sublist).trans (List.take_sublist _ _)) (lev_pair t)
   have hne:r≠[]:=by rw[hrc];simp
   refine⟨r.getLast hne,?_,List.getLast_mem hne,?_⟩
   ·rw[List.getLastD_eq_getLast?,List.getLast?_eq_some_getLast hne];rfl
   ·intro y hy;have h1:=List.dropLast_concat_getLast hne;rw[<-h1,List.pairwise_append]at hp;rw[<-h1]at hy;rcases l'E.1 hy with h|h
    ·exact hp.2.2 y h _ (by simp)
    ·simp only[l'm]at h;rw[h];exact l'H _
  obtain⟨z,hz,hzr,hzmax⟩:=hlast;rw[hz];obtain⟨jz,hjz,hjzT,hzm,hzlev,hz0,hznl⟩:=hrmem z hzr;obtain⟨v3,hv3⟩:∃v,q3.vars[z/2]?=some v:=⟨_,l'c (by have:=hrb z hzr;have:=t3.vl;omega)⟩;have hvlev:=lev3 _ _ hv3;rw[hv3];simp only;obtain⟨L,hLdef⟩:=e' (lv q.starts jz);rw[hvlev,hzlev,<-hLdef];rw[<-hLdef]at hz0 hznl hzlev;obtain⟨s,hs⟩:∃s,q.starts[L]?=some s:=⟨_,l'c hznl⟩;obtain⟨o1,o2',o3⟩:=outside L s hs hznl;obtain⟨q4,f1,f2,f3,f4,f5,f6,f7,f8,f9⟩:=backP_ok t3 (L:=L) (s:=s) (by rw[st3];exact hs);rw[tr3]at f3;rw[st3]at f4;rw[f1];simp only;have hlen4:q4.trail.length=s:=by rw[f3];simp;omega
  have hjzs:jz<s:=lv_lt t.ss hs (by omega);have hns:s∉q.starts.take L:=λh=>by
   obtain⟨j,hj⟩:=l'i.1 h;have hjl:=(l'b.1 hj).1;simp at hjl;rw[l'j (by omega)]at hj;have:=(lv_take t.ss hj (show jz<s from hjzs)).2;omega
  have hrT:∀y∈r,y ^^^ 1∈q.trail.take s:=by
   intro y hy;obtain⟨j,-,hj,-,hl1,-,-⟩:=hrmem y hy;have h1:=hzmax y hy;have:j<s:=lv_lt t.ss hs (by omega);exact l'i.2 ⟨j,by rw[l'j this];exact hj⟩
  have hane:a≠z:=λh=>by
   have:=hrT z hzr;rw[<-h]at this;exact o2' this
  rw[if_pos (by rw[f9.gv,gv3,f6,cl3];exact hg)];have hrlen:r.length=r0.length+1:=by rw[hrc];rfl
  obtain⟨ws,h1,h2⟩:=attachP_ok (q:=q4) (c:=⟨a :: r,a,z,span⟩) (by rw[f6,f7,cl3,ws3];exact x.i.w) (by rw[f6,cl3];exact hlm) (by simp;omega) hlb (by simp) (by simp[hzr]) hane;rw[h1];simp only[l'p,l'n,l'o,l'F,Nat.add_sub_cancel];have t5:=f2.att ⟨a :: r,a,z,span⟩ ws;have hnew:(q4.clauses++[⟨a :: r,a,z,span⟩])[q4.clauses.length]?=some ⟨a :: r,a,z,span⟩:=by simp
  obtain⟨q5,g1,g2,g3,g4,g5,g6,g7,g8,g9,g10⟩:=setP_ok t5 hn (l:=a) (r:=some q4.clauses.length) hab (by simp only;rw[f3];exact o1) (by simp only;rw[f3];exact o2') ⟨by simp only;rw[hlen4,f4];exact hns,_,hnew,by simp,λy hy hne=>by
   simp only[List.take_length];rcases l'I.1 hy with h|h
   ·exact absurd h hne
   ·rw[f3];exact hrT y h⟩ (λh=>by
    simp only at h;rw[f4]at h;have h5:(q.starts.take L).length=0:=by rw[h];rfl
    rw[List.length_take]at h5;omega)
  simp only at g3 g4 g5 g6 g7;rw[f3]at g3;rw[f4]at g4;rw[f6,cl3]at g5;rw[f5]at g7;have as5:q5.assumed=q.assumed:=by rw[g8.as];simp only;rw[f9.as,as3]
  obtain⟨ai5,sl5,ui5⟩:=after_back (q5:=q5) hn x hs hns (q4:=q5) g3 g4 as5;have vi4:VI { q4 with clauses:=q4.clauses++[⟨a :: r,a,z,span⟩],watchers:=ws }:=⟨by simp only;rw[f9.bn];exact vi3.1,by simp only;rw[f9.bn];exact vi3.2.1,by simp only;rw[f8,f9.bn];exact vi3.2.2⟩;have mk4:MK { q4 with clauses:=q4.clauses++[⟨a :: r,a,z,span⟩],watchers:=ws }:=by unfold MK;simp only;rw[f8];exact mk3
  have hlz:lv (q.starts.take L) jz=L:=by rw[(lv_take t.ss hs hjzs).1];exact hLdef.symm
  refine⟨q5,g1,⟨⟨by rw[g7];exact g2,by rw[g5];exact x.i.c.att hlb himp,by rw[g5,g6];rw[f6,cl3]at h2;exact h2,?_,by rw[g5];simp;omega⟩,g9 vi4,g10 mk4,ai5,sl5,ui5⟩,?_,as5,by rw[g8.gv];simp only;rw[f9.gv,gv3],by rw[g8.mt];simp only;rw[f9.mt,mt3],by rw[g8.co];simp only;rw[f9.co,co3],.inr ⟨a :: r,by rw[g5];simp[lits]⟩⟩
  ·intro k' c' hc' hl';rw[g5]at hc';rw[g7,g3,g4];rcases get_snoc hc' with h|⟨rfl,rfl⟩
   ·obtain⟨w1,w2⟩:=x.i.d k' c' h hl';have hsD:=t.sd s (l'f hs);exact⟨(w1.back t.ss hs hsD (by omega)).app (by simp;omega),(w2.back t.ss hs hsD (by omega)).app (by simp;omega)⟩
   ·refine⟨λd hd hT=>?_,λd hd hT=>⟨s,?_,?_⟩⟩
    ·simp only at hT;rw[l'e (by simp;omega)]at hT;exact absurd (l'f hT) o2'
    ·rw[l'z (by simp;omega)];simp[Nat.min_eq_left (show s<=q.trail.length by omega)]
    ·simp only at hT;rw[l'e (by simp;omega),l'j hd]at hT;have:=t.uniq hT hjzT rfl;subst this;rw[hlz];have:=lv_le (q.starts.take L) s;simp at this;omega
  ·rw[g3,g4];have:=ph_back t.ss hs o3 htl hns;rw[l'p,List.length_take,Nat.min_eq_left (by omega)];exact⟨this,by have:=two s (l'f hs);simp;omega⟩
end Go.Ta
namespace Go.Ta
variable {n D:Nat}{G:List (List Nat)}{q q':Srch}
structure BlI (n:Nat)(G:List (List Nat)) (D:Nat)(q:Srch) (a:Nat)(ls:List Nat):Prop where
 t:TI n G D q
 c:CI n G q.clauses
 vm:VM q
 mb:∀v,mkd q v=true->lev q v≠0∧∃i l:Nat,q.trail[i]?=some l∧l/2=v
 cl:∀m∈ls,cld q m
 cs:∀(i l:Nat),a<=i->q.trail[i]?=some l->mkd q (l/2)=true->l∈q.core∨∃(k:Nat)(c:Cl),rsn q (l/2)=some k∧q.clauses[k]?=some c∧∀m∈c.lits,cld q m
 co:∀l∈q.core,∃i:Nat,q.trail[i]?=some l∧i∈q.starts∧lv q.starts i≠0
 cn:q.core.length+a<=q.trail.length
structure SV3 (q q':Srch):Prop where
 eq:q' = { q with vars:=q'.vars,core:=q'.core }
 len:q'.vars.length=q.vars.length
theorem SV3.trans {q1 q2 q3:Srch}(a:SV3 q1 q2)(b:SV3 q2 q3): SV3 q1 q3:=⟨by rw[b.eq,a.eq],by rw[b.len,a.len]⟩
theorem blameL_ok (hn:n<=192){ls:List Nat}: ∀(a:Nat)(q:Srch),a<=q.trail.length->BlI n G D q a ls->∃q1,blameL (q.trail.take a).reverse q=some q1∧SV3 q q1∧BlI n G D q1 0 ls:=by
 have hm:most=1000000:=rfl;intro a
 induction a with
 | zero=>intro q _ x;exact⟨q,by simp[blameL],⟨rfl,rfl⟩,x⟩
 | succ a ih=>
  intro q ha x;obtain⟨l,hl⟩:∃l,q.trail[a]?=some l:=⟨_,l'c (by omega)⟩;obtain⟨v,hv,hvl,hvr⟩:=x.t.lr a l hl;have hmk:mkd q (l/2)=v.marked:=by simp[mkd,hv]
  have hrs:rsn q (l/2)=v.reason:=by simp[rsn,hv]
  have hlev:=(x.t.at hl).1;have htl:=x.t.len;have hcn:=x.cn;rw[take_snoc hl,List.reverse_append];simp only[List.reverse_cons,List.reverse_nil,List.nil_append,List.singleton_append];unfold blameL;rw[hv];simp only
  by_cases em:v.marked=true
  ·rw[if_pos em]
   cases hr:v.reason with
   | none=>
    simp only;rw[if_pos (by omega)];rw[hr]at hvr hrs;have hne:=(x.mb _ (by rw[hmk];exact em)).1;rw[hlev]at hne;have hst:a∈q.starts:=by
     rcases hvr with h|h
     ·exact h
     ·exact absurd h hne
    have x1:BlI n G D { q with core:=q.core++[l] } a ls:=by
     refine⟨⟨x.t.hl,x.t.vl,x.t.tb,x.t.tn,x.t.hh,x.t.ss,x.t.sd,x.t.dt,x.t.lr,x.t.l0⟩,x.c,x.vm,x.mb,x.cl,?_,?_,by simp;omega⟩
     ·intro i l' hi hl' hm'
      by_cases e:i=a
      ·subst e;simp only at hl';rw[hl]at hl';simp only[l'a]at hl';subst hl';left;simp
      ·rcases x.cs i l' (by omega) hl' hm' with h|h
       ·left;simp[h]
       ·exact .inr h
     ·intro l' hl';simp only[l'E,l'm]at hl';rcases hl' with h|rfl
      ·exact x.co l' h
      ·exact⟨a,hl,hst,hne⟩
    obtain⟨q1,e1,s1,b1⟩:=ih { q with core:=q.core++[l] } (by simp only;omega) x1;exact⟨q1,e1,⟨by rw[s1.eq],by rw[s1.len]⟩,b1⟩
   | some k=>
    rw[hr]at hvr hrs;obtain⟨-,c,hc,hlc,hoth⟩:=hvr;obtain⟨cb,-⟩:=x.c k c hc;obtain⟨q1,m,e1,mr,vm1,-⟩:=markP_ok c.lits q (λy hy=>by rw[x.t.vl];have:=cb y hy;omega) x.vm;obtain⟨sv,hmk1⟩:=mr.sv;simp only[hc,e1];have htr:q1.trail=q.trail:=by rw[mr.eq]
    have hst:q1.starts=q.starts:=by rw[mr.eq]
    have hcl:q1.clauses=q.clauses:=by rw[mr.eq]
    have hco:q1.core=q.core:=by rw[mr.eq]
    have cldm:∀m,cld q m->cld q1 m:=λm h=>by
     rcases h with h|h
     ·exact .inl ((hmk1 _).2 (.inl h))
     ·exact .inr (by rw[sv.lv];exact h)
    have x1:BlI n G D q1 a ls:=by
     refine⟨x.t.mr mr,by rw[hcl];exact x.c,vm1,?_,λm hm=>cldm m (x.cl m hm),?_,?_,by rw[hco,htr];omega⟩
     ·intro v' hv';rw[sv.lv,htr];rcases (hmk1 v').1 hv' with h|⟨h,y,hy,rfl⟩
      ·exact x.mb v' h
      ·refine⟨h,?_⟩
       by_cases e:y=l
       ·subst e;exact⟨a,y,hl,rfl⟩
       ·obtain⟨j,hj⟩:=l'i.1 (List.mem_of_mem_take (hoth y hy e));exact⟨j,_,hj,x1_div y⟩
     ·intro i l' hi hl' hm';rw[htr]at hl';rw[hcl,sv.rs,hco]
      by_cases e:i=a
      ·subst e;rw[hl]at hl';simp only[l'a]at hl';subst hl';refine .inr ⟨k,c,hrs,hc,λm hm=>?_⟩
       by_cases e0:lev q (m/2)=0
       ·exact .inr (by rw[sv.lv];exact e0)
       ·exact .inl ((hmk1 _).2 (.inr ⟨e0,m,hm,rfl⟩))
      ·rcases (hmk1 (l'/2)).1 hm' with h|⟨h,y,hy,hyl⟩
       ·rcases x.cs i l' (by omega) hl' h with h|⟨k',c',g1,g2,g3⟩
        ·exact .inl h
        ·exact .inr ⟨k',c',g1,g2,λm hm=>cldm m (g3 m hm)⟩
       ·exfalso
        by_cases e2:y=l
        ·subst e2;have:=x.t.uniq hl hl' hyl;omega
        ·obtain⟨j,hj⟩:=l'i.1 (hoth y hy e2);have hjl:=(l'b.1 hj).1;simp at hjl;rw[l'j (by omega)]at hj;have:=x.t.uniq hj hl' (by rw[x1_div];exact hyl);omega
     ·rw[hco,htr,hst];exact x.co
    have hih:=ih q1 (by rw[htr];omega) x1;rw[htr]at hih;obtain⟨q2,e2,s2,b2⟩:=hih;exact⟨q2,e2,SV3.trans ⟨by rw[mr.eq],mr.len⟩ s2,b2⟩
  ·rw[if_neg em];have x1:BlI n G D q a ls:=by
    refine⟨x.t,x.c,x.vm,x.mb,x.cl,?_,x.co,by omega⟩;intro i l' hi hl' hm'
    by_cases e:i=a
    ·subst e;rw[hl]at hl';simp only[l'a]at hl';subst hl';rw[hmk]at hm';exact absurd hm' em
    ·exact x.cs i l' (by omega) hl' hm'
   exact ih q (by omega) x1
structure Alm (n:Nat)(G:List (List Nat)) (D:Nat)(q:Srch):Prop where
 i:Inv n G D q
 v:VI q
 m:MK q
 a:AI q
theorem All.alm (x:All n G D q): Alm n G D q:=⟨x.i,x.v,x.m,x.a⟩
theorem blameP_ok (hn:n<=192)(x:Alm n G D q)(hc0:q.core=[]){ls:List Nat}(hls:∀m∈ls,m ^^^ 1∈q.trail):
  ∃q1,blameP q ls=some q1∧SV3 q q1∧q1.core.length<=n∧(∀σ,satT σ G->(∀l∈q1.core,tr σ l=true)->∀m∈ls,tr σ m=false)∧∀l∈q1.core,∃i:Nat,q.trail[i]?=some l∧i∈q.starts∧lv q.starts i≠0:=by
 have t:=x.i.t;obtain⟨q1,m1,e1,mr1,vm1,-⟩:=markP_ok ls q (λy hy=>by rw[t.vl];have:=t.tb _ (hls y hy);have:=x1_lt' this;omega) (x.v.vm x.m);obtain⟨sv1,hmk1⟩:=mr1.sv;have tr1:q1.trail=q.trail:=by rw[mr1.eq]
 have st1:q1.starts=q.starts:=by rw[mr1.eq]
 have cl1:q1.clauses=q.clauses:=by rw[mr1.eq]
 have co1:q1.core=[]:=by rw[mr1.eq];exact hc0
 have nomark:∀v,mkd q v=false:=by
  intro v
  cases hx:q.vars[v]? with
  | none=>simp[mkd,hx]
  | some y=>simp[mkd,hx,x.m y (l'f hx)]
 have b1:BlI n G D q1 q1.trail.length ls:=by
  refine⟨t.mr mr1,by rw[cl1];exact x.i.c,vm1,?_,?_,?_,by rw[co1];simp,by rw[co1];simp⟩
  ·intro v hv;rw[tr1,sv1.lv];rcases (hmk1 v).1 hv with h|⟨h,y,hy,rfl⟩
   ·rw[nomark]at h;simp at h
   ·obtain⟨j,hj⟩:=l'i.1 (hls y hy);exact⟨h,j,_,hj,x1_div y⟩
  ·intro y hy
   by_cases e0:lev q (y/2)=0
   ·exact .inr (by rw[sv1.lv];exact e0)
   ·exact .inl ((hmk1 _).2 (.inr ⟨e0,y,hy,rfl⟩))
  ·intro i l hi hl;have:=(l'b.1 hl).1;omega
 obtain⟨q2,e2,s2,b2⟩:=blameL_ok hn q1.trail.length q1 (l'H _) b1;rw[List.take_length]at e2;have s12:SV3 q q2:=SV3.trans ⟨by rw[mr1.eq],mr1.len⟩ s2;have tr2:q2.trail=q.trail:=by rw[s12.eq]
 have st2:q2.starts=q.starts:=by rw[s12.eq]
 refine⟨q2,by unfold blameP;rw[e1];exact e2,s12,?_,?_,?_⟩
 ·have h1:=b2.cn;have h2:=b2.t.len;omega
 ·intro σ hσ hcore m hm;have key:∀(i l':Nat),q2.trail[i]?=some l'->cld q2 l'->tr σ l'=true:=by
   intro i
   induction i using Nat.strongRecOn with
   | _ i ih=>
    intro l' hl' hcd;rcases hcd with hm|h0
    ·rcases b2.cs i l' (Nat.zero_le _) hl' hm with h|⟨k,c,h1,h2,h3⟩
     ·exact hcore l' h
     ·have hr:=(b2.t.at hl').2;rw[h1]at hr;obtain⟨-,c',h4,h5,h6⟩:=hr;rw[h2]at h4;simp only[l'a]at h4;subst h4;obtain⟨m,hm,ht⟩:=(b2.c k c h2).2 σ hσ
      by_cases e:m=l'
      ·rw[<-e];exact ht
      ·exfalso;obtain⟨j,hj⟩:=l'i.1 (h6 m hm e);have hjl:=(l'b.1 hj).1;simp at hjl;rw[l'j (by omega)]at hj;have hcm:cld q2 (m ^^^ 1):=by
        have:=h3 m hm;unfold cld at this ⊢;rw[x1_div];exact this
       have:=ih j (by omega) _ hj hcm;rw[tr_neg,ht]at this;simp at this
    ·rw[(b2.t.at hl').1]at h0;exact impl_one (b2.t.l0 i l' hl' h0) hσ
  obtain⟨j,hj⟩:=l'i.1 (hls m hm);have hcm:cld q2 (m ^^^ 1):=by
   have:=b2.cl m hm;unfold cld at this ⊢;rw[x1_div];exact this
  have:=key j _ (by rw[tr2];exact hj) hcm;rw[tr_neg]at this;simpa using this
 ·intro l hl;obtain⟨i,h1,h2,h3⟩:=b2.co l hl;rw[tr2]at h1;rw[st2]at h2 h3;exact⟨i,h1,h2,h3⟩
theorem lv_last {st:List Nat}(h:Srt st){i:Nat}(hi:i∈st): st[lv st i-1]?=some i∧0<lv st i:=by
 obtain⟨j,hj⟩:=l'i.1 hi;have h1:=lv_ge h hj (l'H i);have h2:=lv_le st i;obtain⟨s,hs⟩:∃s,st[lv st i-1]?=some s:=⟨_,l'c (by omega)⟩;have h3:=h.le (show j<=lv st i-1 by omega) hj hs;have h4:¬i<s:=λh5=>by have:=(lv_take h hs h5).2;omega
 have:s=i:=by omega
 exact⟨by rw[hs,this],by omega⟩
theorem core_sub (x:Alm n G D q)(hA:q.starts.length<=q.assumed.length){l:Nat}{i:Nat}(h1:q.trail[i]?=some l)(h2:i∈q.starts): l∈q.assumed:=by
 obtain⟨h3,h4⟩:=lv_last x.i.t.ss h2;have h5:=lv_le q.starts i;obtain⟨a,ha⟩:∃a,q.assumed[lv q.starts i-1]?=some a:=⟨_,l'c (by omega)⟩;have:=x.a.a2 _ i a l h3 ha h1 (by omega);rw[this];exact l'f ha
def UnO (G:List (List Nat))(q:Srch)(core:List Nat): Prop:=(∀l∈core,l∈q.assumed)∧core.length<=1000∧∀σ,satT σ G->¬∀l∈core,tr σ l=true
theorem meet_un (hn:n<=192)(x:Alm n G D q)(hc0:q.core=[])(hA:q.starts.length<=q.assumed.length){k:Nat}{c:Cl}(hc:q.clauses[k]?=some c)(hall:∀m∈c.lits,m ^^^ 1∈q.trail):
  ∃q1,blameP q c.lits=some q1∧SV3 q q1∧UnO G q q1.core:=by
 obtain⟨q1,e1,s1,hl,hsem,hsub⟩:=blameP_ok hn x hc0 hall;refine⟨q1,e1,s1,λl hl=>?_,by omega,λσ hσ hcore=>?_⟩
 ·obtain⟨i,h1,h2,-⟩:=hsub l hl;exact core_sub x hA h1 h2
 ·obtain⟨m,hm,ht⟩:=(x.i.c k c hc).2 σ hσ;rw[hsem σ hσ hcore m hm]at ht;simp at ht
end Go.Ta
namespace Go.Ta
variable {n D:Nat}{G:List (List Nat)}{q q':Srch}
theorem SL.len (x:SL q): q.starts.length<=q.assumed.length+q.trail.length:=by
 rcases Nat.lt_or_ge q.assumed.length q.starts.length with h|h
 ·obtain⟨s,hs⟩:∃s,q.starts[q.starts.length-1]?=some s:=⟨_,l'c (by omega)⟩;have h1:=x.s1 _ s hs;have h2:=x.s2 _ s hs (by omega);omega
 ·omega
def mu (n:Nat)(q:Srch): Nat:=(q.assumed.length-q.starts.length)+(n-q.trail.length)
structure Stp (q q':Srch):Prop where
 sm:Same q q'
 li:lits q'.clauses=lits q.clauses
theorem open_set (hn:n<=192)(hA:q.assumed.length<=1000)(x:All n G q.trail.length q){l:Nat}(hl:l<2*n)(h1:l∉q.trail)(h2:l ^^^ 1∉q.trail)(ha:∀a,q.assumed[q.starts.length]?=some a->l=a):
  ∃q1 q2,openP q=some q1∧q1.holds=q.holds∧setP q1 l none=some q2∧All n G q.trail.length q2∧q2.drawn=q.drawn∧Stp q q2∧ph n q.starts q.trail.length<=ph n q2.starts q2.trail.length∧q2.starts.length=q.starts.length+1∧q2.trail.length=q.trail.length+1:=by
 have hm:most=1000000:=rfl;have hsl:=x.s.len;have htl:=x.i.t.len;obtain⟨q1,e1,rfl,t1⟩:=openP_ok x.i.t (by omega);obtain⟨q2,e2,t2,g3,g4,g5,g6,g7,g8,g9,g10⟩:=setP_ok t1 hn (l:=l) (r:=none) hl h1 h2 (.inl (by simp)) (λh=>by simp at h);simp only at g3 g4 g5 g6 g7;have as2:q2.assumed=q.assumed:=g8.as;have v1:VI { q with starts:=q.starts++[q.trail.length] }:=x.v;have m1:MK { q with starts:=q.starts++[q.trail.length] }:=x.m;refine⟨_,q2,e1,rfl,e2,⟨⟨t2,by rw[g5];exact x.i.c,by rw[g5,g6];exact x.i.w,?_,by rw[g5];exact x.i.lm⟩,g9 v1,g10 m1,⟨?_,?_⟩,⟨?_,?_⟩,?_⟩,g7,⟨⟨g8.as,g8.gv,g8.bn,g8.mt,g8.co⟩,by rw[g5]⟩,?_,by rw[g4];simp,by rw[g3];simp⟩
 ·intro k c hc hl2;rw[g5]at hc;rw[g3,g4];obtain⟨a,b⟩:=x.i.d k c hc hl2;exact⟨(a.opn (l'H _)).app (l'H _),(b.opn (l'H _)).app (l'H _)⟩
 ·intro i a h3 h4;rw[as2]at h3;rw[g4]at h4 ⊢;rw[g3];simp at h4
  by_cases e:i=q.starts.length
  ·subst e;refine⟨q.trail.length,by simp[ha a h3],?_⟩;rw[lv_app' (l'H _)];have:=lv_le q.starts q.trail.length;omega
  ·obtain⟨j,hj,hlv⟩:=x.a.a1 i a h3 (by omega);have hjl:=(l'b.1 hj).1;exact⟨j,by rw[l'e hjl];exact hj,by rw[lv_app hjl];exact hlv⟩
 ·intro i s a l' h3 h4 h5 h6;rw[g4]at h3 h6;rw[as2]at h4;rw[g3]at h5;rcases get_snoc h3 with h|⟨rfl,rfl⟩
  ·have hs:=x.i.t.sd s (l'f h)
   by_cases e:s=q.trail.length
   ·exfalso;rw[e,lv_app' (l'H _)]at h6;have h7:=lv_all (st:=q.starts) (i:=q.trail.length) x.i.t.sd;have:=(l'b.1 h).1;omega
   ·rw[l'e (by omega)]at h5;rw[lv_app (by omega)]at h6;exact x.a.a2 i s a l' h h4 h5 h6
  ·simp at h5;rw[<-h5];exact ha a h4
 ·intro i s h;rw[g4]at h;rw[as2];rcases get_snoc h with h|⟨rfl,rfl⟩
  ·exact x.s.s1 i s h
  ·exact hsl
 ·intro i s h hi;rw[g4]at h;rw[as2]at hi;rw[g3];rcases get_snoc h with h|⟨rfl,rfl⟩
  ·have:=x.s.s2 i s h hi;simp;omega
  ·simp
 ·intro l' hl';obtain⟨i,hi,hlv⟩:=x.u l' hl';have hil:=(l'b.1 hi).1;rw[g3,g4];exact⟨i,by rw[l'e hil];exact hi,by rw[lv_app hil];exact hlv⟩
 ·rw[g3,g4];simp only[l'p,l'n,l'o,l'F,ph];rw[ph_congr (st:=q.starts) (st':=q.starts++[q.trail.length]) q.trail.length (λi hi=>by simp;omega)];omega
theorem open_only (hn:n<=192)(hA:q.assumed.length<=1000)(x:All n G q.trail.length q){l:Nat}(h1:l∈q.trail)(ha:q.assumed[q.starts.length]?=some l):
  ∃q1,openP q=some q1∧q1.holds=q.holds∧All n G q.trail.length q1∧q1.drawn=q.drawn∧Stp q q1∧ph n q.starts q.trail.length<=ph n q1.starts q1.trail.length∧q1.starts.length=q.starts.length+1∧q1.trail.length=q.trail.length:=by
 have hm:most=1000000:=rfl;have hsl:=x.s.len;have htl:=x.i.t.len;have hAl:=(l'b.1 ha).1;obtain⟨q1,e1,rfl,t1⟩:=openP_ok x.i.t (by omega);refine⟨_,e1,rfl,⟨⟨t1,x.i.c,x.i.w,?_,x.i.lm⟩,x.v,x.m,⟨?_,?_⟩,⟨?_,?_⟩,?_⟩,rfl,⟨⟨rfl,rfl,rfl,rfl,rfl⟩,rfl⟩,?_,by simp,rfl⟩
 ·intro k c hc hl2;obtain⟨a,b⟩:=x.i.d k c hc hl2;exact⟨a.opn (l'H _),b.opn (l'H _)⟩
 ·intro i a h3 h4;simp only at h3 h4 ⊢;simp at h4
  by_cases e:i=q.starts.length
  ·subst e;rw[ha]at h3;simp only[l'a]at h3;subst h3;obtain⟨j,hj⟩:=l'i.1 h1;have hjl:=(l'b.1 hj).1;refine⟨j,hj,?_⟩;rw[lv_app hjl];have:=lv_le q.starts j;omega
  ·obtain⟨j,hj,hlv⟩:=x.a.a1 i a h3 (by omega);have hjl:=(l'b.1 hj).1;exact⟨j,hj,by rw[lv_app hjl];exact hlv⟩
 ·intro i s a l' h3 h4 h5 h6;simp only at h3 h4 h5 h6;have hsl:=(l'b.1 h5).1;rcases get_snoc h3 with h|⟨rfl,rfl⟩
  ·rw[lv_app hsl]at h6;exact x.a.a2 i s a l' h h4 h5 h6
  ·omega
 ·intro i s h;rcases get_snoc h with h|⟨rfl,rfl⟩
  ·exact x.s.s1 i s h
  ·exact hsl
 ·intro i s h hi;rcases get_snoc h with h|⟨rfl,rfl⟩
  ·exact x.s.s2 i s h hi
  ·simp only at hi;omega
 ·intro l' hl';obtain⟨i,hi,hlv⟩:=x.u l' hl';have hil:=(l'b.1 hi).1;exact⟨i,hi,by simp only;rw[lv_app hil];exact hlv⟩
 ·simp only;rw[ph_congr (st:=q.starts) (st':=q.starts++[q.trail.length]) q.trail.length (λi hi=>by simp;omega)];exact l'H _
def hasV (q:Srch)(v:Nat): Prop:=2*v∈q.trail∨2*v+1∈q.trail
theorem heavyL_ok (x:TI n G D q): ∀(vs:List Vr) (i:Nat)(best:Option (Nat×Nat)),i+vs.length=n->∃r,heavyL q.holds vs i best=some r∧(r=none->best=none∧∀j,i<=j->j<n->hasV q j)∧(∀v,r=some v->(∃w,best=some (v,w))∨(v<n∧¬hasV q v)):=by
 intro vs
 induction vs with
 | nil=>
  intro i best h;simp at h;refine⟨best.map (·.1),rfl,λh1=>⟨by simpa using h1,λj h2 h3=>by omega⟩,λv h1=>?_⟩;simp only[Option.map_eq_some_iff]at h1;obtain⟨⟨a,b⟩,h2,h3⟩:=h1;simp only at h3;subst h3;exact .inl ⟨b,h2⟩
 | cons v r ih=>
  intro i best h;simp at h;unfold heavyL;rw[x.hh (2*i) (by omega),x.hh (2*i+1) (by omega)];simp only
  by_cases e:(decide (2*i∈q.trail)||decide (2*i+1∈q.trail))=true
  ·rw[if_pos e];have hv:hasV q i:=by simpa [hasV]using e
   obtain⟨y,e1,e2,e3⟩:=ih (i+1) best (by omega);refine⟨y,e1,λh1=>⟨(e2 h1).1,λj h2 h3=>?_⟩,e3⟩
   by_cases e4:j=i
   ·subst e4;exact hv
   ·exact (e2 h1).2 j (by omega) h3
  ·rw[if_neg e];have hv:¬hasV q i:=by simpa [hasV]using e
   have go:∀b:Nat×Nat,(b.1=i∨best=some b)->∃y,heavyL q.holds r (i+1) (some b)=some y∧(y=none->best=none∧∀j,i<=j->j<n->hasV q j)∧∀v,y=some v->(∃w,best=some (v,w))∨(v<n∧¬hasV q v):=by
    intro b hb;obtain⟨y,e1,e2,e3⟩:=ih (i+1) (some b) (by omega);refine⟨y,e1,λh1=>absurd (e2 h1).1 (by simp),λv' h1=>?_⟩;rcases e3 v' h1 with ⟨w',h2⟩|h2
    ·simp only[l'a]at h2;subst h2;rcases hb with h3|h3
     ·simp only at h3;subst h3;exact .inr ⟨by omega,hv⟩
     ·exact .inl ⟨w',h3⟩
    ·exact .inr h2
   cases hb:best with
   | none=>
    simp only;rw[hb]at go;obtain⟨y,a1,a2,a3⟩:=go (i,v.weight) (.inl rfl);exact⟨y,a1,λh=>⟨trivial,(a2 h).2⟩,a3⟩
   | some b=>
    obtain⟨j,w⟩:=b;simp only;rw[hb]at go;split
    ·exact go (i,v.weight) (.inl rfl)
    ·exact go (j,w) (.inr rfl)
def SaO (n:Nat)(q:Srch): Prop:=(∀v,v<n->hasV q v)∧q.assumed.length<=q.starts.length
theorem guessP_ok (hn:n<=192)(hA:q.assumed.length<=1000)(hAb:∀l∈q.assumed,l<2*n)(hc0:q.core=[])(x:All n G q.trail.length q):
  ∃q1 a,guessP q=some (q1,a)∧((a=0∧All n G q.trail.length q1∧q1.drawn=q.drawn∧Stp q q1∧ph n q.starts q.trail.length<=ph n q1.starts q1.trail.length∧mu n q1<mu n q)∨(a=1∧q1=q∧SaO n q)∨(a=2∧SV3 q q1∧UnO G q q1.core)):=by
 have hm:most=1000000:=rfl;have htl:=x.i.t.len;unfold guessP
 cases hlit:q.assumed[q.starts.length]? with
 | some l=>
  simp only;have hlm:=l'f hlit;have hlb:=hAb l hlm;have hAl:=(l'b.1 hlit).1;unfold assumeP;rw[x.i.t.hh _ (x1_lt hlb)]
  by_cases e1:l ^^^ 1∈q.trail
  ·simp only[e1,decide_true];obtain⟨q1,f1,f2,f3,f4,f5⟩:=blameP_ok hn x.alm hc0 (ls:=[l]) (λm hm=>by simp only[l'm]at hm;subst hm;exact e1);rw[f1];simp only;rw[if_pos (by omega)];refine⟨_,2,rfl,.inr (.inr ⟨rfl,⟨by simp only;rw[f2.eq],f2.len⟩,?_,by simp;omega,?_⟩)⟩
   ·intro l' hl';simp only[l'E,l'm]at hl';rcases hl' with h|rfl
    ·obtain⟨i,h1,h2,-⟩:=f5 l' h;exact core_sub x.alm (by omega) h1 h2
    ·exact hlm
   ·intro σ hσ hcore;have h1:=hcore l (by simp);have h2:=f4 σ hσ (λl' h=>hcore l' (by simp[h])) l (by simp);rw[h1]at h2;simp at h2
  ·simp only[e1,decide_false]
   by_cases e2:l∈q.trail
   ·obtain⟨q1,f1,f2,f3,f4,f5,f6,f7,f8⟩:=open_only hn hA x e2 hlit;rw[f1];simp only[f2];rw[x.i.t.hh _ hlb];simp only[e2,decide_true];refine⟨q1,0,rfl,.inl ⟨rfl,f3,f4,f5,f6,?_⟩⟩;unfold mu;rw[f5.sm.as,f7,f8];omega
   ·obtain⟨q1,q2,f1,f2,f3,f4,f5,f6,f7,f8,f9⟩:=open_set hn hA x hlb e2 e1 (λa h=>by rw[hlit]at h;simpa using h);rw[f1];simp only[f2];rw[x.i.t.hh _ hlb];simp only[e2,decide_false,f3];refine⟨q2,0,rfl,.inl ⟨rfl,f4,f5,f6,f7,?_⟩⟩;unfold mu;rw[f6.sm.as,f8,f9];omega
 | none=>
  simp only;have hAl:q.assumed.length<=q.starts.length:=by simpa using hlit
  obtain⟨r,e1,e2,e3⟩:=heavyL_ok x.i.t q.vars 0 none (by rw[x.i.t.vl];omega);unfold heavyP;rw[e1]
  cases r with
  | none=>exact⟨q,1,rfl,.inr (.inl ⟨rfl,rfl,λv hv=>(e2 rfl).2 v (Nat.zero_le _) hv,hAl⟩)⟩
  | some v=>
   simp only;rcases e3 v rfl with ⟨w,h⟩|⟨hvn,hno⟩
   ·simp at h
   ·obtain⟨y,hy⟩:∃y,q.vars[v]?=some y:=⟨_,l'c (by rw[x.i.t.vl];exact hvn)⟩;unfold hasV at hno;have hno1:2*v∉q.trail:=λh=>hno (.inl h);have hno2:2*v+1∉q.trail:=λh=>hno (.inr h);obtain⟨l,hl⟩:=e' ((if y.last then 2*v else 2*v+1));have hlc:l=2*v∨l=2*v+1:=by rw[hl];split;exact .inl rfl;exact .inr rfl
    have hlx:l ^^^ 1=2*v∨l ^^^ 1=2*v+1:=by
     rw[x1_eq];rcases hlc with h|h <;> (rw[h];split <;> omega)
    obtain⟨q1,q2,f1,f2,f3,f4,f5,f6,f7,f8,f9⟩:=open_set hn hA x (l:=l) (by omega) (by rcases hlc with h|h <;> (rw[h];assumption)) (by rcases hlx with h|h <;> (rw[h];assumption)) (λa h=>by rw[hlit]at h;simp at h);rw[hy];simp only[f1,<-hl,f3];refine⟨q2,0,rfl,.inl ⟨rfl,f4,f5,f6,f7,?_⟩⟩;have hlt:q.trail.length<n:=by have:=f4.i.t.len;omega
    unfold mu;rw[f6.sm.as,f8,f9];omega
end Go.Ta
namespace Go.Ta
variable {n D:Nat}{G:List (List Nat)}{q q':Srch}
theorem WI.skip {cls:List Cl}{ws:List (List Nat)}(x:WI n cls ws){c:Cl}(h:¬2<=c.lits.length): WI n (cls++[c]) ws:=by
 refine⟨x.wl,?_,?_,x.w3⟩
 ·intro k c' hc hl;rcases get_snoc hc with h1|⟨rfl,rfl⟩
  ·exact x.w1 k c' h1 hl
  ·exact absurd hl h
 ·intro l w k h1 h2;obtain⟨c',e1,e2,e3⟩:=x.w2 l w k h1 h2;exact⟨c',by rw[l'e (l'b.1 e1).1];exact e1,e2,e3⟩
structure LdI (n:Nat)(G:List (List Nat))(as:List Nat)(done:List (List Nat))(q:Srch)(clash:Option Nat):Prop where
 t:TI n G 0 q
 c:CI n G q.clauses
 w:WI n q.clauses q.watchers
 v:VI q
 m:MK q
 st:q.starts=[]
 li:lits q.clauses=done
 un:clash=none->(∀l,[l]∈done->l∈q.trail)∧[]∉done
 cl:∀k,clash=some k->∃c:Cl,q.clauses[k]?=some c∧∀m∈c.lits,m ^^^ 1∈q.trail
 co:q.core=[]
 mt:q.met=0
 asm:q.assumed=as
 dr:q.drawn=0
theorem loadL_ok (hn:n<=192){as:List Nat}(hG:∀c∈G,c.Nodup∧∀l∈c,l<2*n)(hGl:G.length<most): ∀(rest done:List (List Nat))(q:Srch)(clash:Option Nat),G=done++rest->LdI n G as done q clash->∃q1 clash1,loadL rest done.length q clash=some (q1,clash1)∧LdI n G as G q1 clash1:=by
 intro rest
 induction rest with
 | nil=>
  intro done q clash hD x;simp at hD;subst hD;exact⟨q,clash,rfl,x⟩
 | cons l r ih=>
  intro done q clash hD x;have hlG:l∈G:=by rw[hD];simp
  obtain⟨hnd,hlb⟩:=hG l hlG;have hlen:q.clauses.length=done.length:=by rw[<-x.li];simp[lits]
  have hlm:q.clauses.length<most:=by rw[hlen];rw[hD]at hGl;simp at hGl;omega
  have himp:impl G l:=λσ hσ=>hσ l hlG;have hD':G=(done++[l])++r:=by rw[hD];simp
  have hk:done.length+1=(done++[l]).length:=by simp
  unfold loadL
  match l,hnd,hlb,himp,hD',hk,hlG with
  | a :: b :: l',hnd,hlb,himp,hD',hk,hlG=>
   simp only;have hab:a≠b:=λh=>by
    rw[List.nodup_cons]at hnd;exact hnd.1 (by simp[h])
   obtain⟨ws,e1,w1⟩:=attachP_ok (q:=q) (c:=⟨a :: b :: l',a,b,0⟩) x.w hlm (by simp) hlb (by simp) (by simp) hab;rw[e1];simp only;rw[hk];refine ih (done++[a :: b :: l']) _ clash hD' ⟨x.t.att _ ws,x.c.att hlb himp,w1,x.v,x.m,x.st,by simp[lits,<-x.li],?_,?_,x.co,x.mt,x.asm,x.dr⟩
   ·intro hcn;obtain⟨u1,u2⟩:=x.un hcn;refine⟨λl hl=>u1 l ?_,?_⟩
    ·simpa using hl
    ·simpa using u2
   ·intro k hk;obtain⟨c,c1,c2⟩:=x.cl k hk;exact⟨c,by simp only;rw[l'e (l'b.1 c1).1];exact c1,c2⟩
  | [a],hnd,hlb,himp,hD',hk,hlG=>
   simp only;rw[if_pos hlm];have hb:a<2*n:=hlb a (by simp);have hnew:(q.clauses++[(⟨[a],0,0,0⟩:Cl)])[done.length]?=some ⟨[a],0,0,0⟩:=by rw[<-hlen];simp
   have t1:=x.t.att ⟨[a],0,0,0⟩ q.watchers;have c1:=x.c.att (c:=⟨[a],0,0,0⟩) hlb himp;have w1:=x.w.skip (c:=⟨[a],0,0,0⟩) (by simp);have clm:∀k,clash=some k->∃c:Cl,(q.clauses++[(⟨[a],0,0,0⟩:Cl)])[k]?=some c∧∀m∈c.lits,m ^^^ 1∈q.trail:=by
    intro k hk;obtain⟨c,c1,c2⟩:=x.cl k hk;exact⟨c,by rw[l'e (l'b.1 c1).1];exact c1,c2⟩
   rw[x.t.hh _ (x1_lt hb),x.t.hh _ hb]
   by_cases e1:a ^^^ 1∈q.trail
   ·simp only[e1,decide_true];rw[hk];refine ih (done++[[a]]) _ (some done.length) hD' ⟨t1,c1,w1,x.v,x.m,x.st,by simp[lits,<-x.li],by simp,?_,x.co,x.mt,x.asm,x.dr⟩;intro k hk;simp only[l'a]at hk;subst hk;exact⟨_,hnew,by simpa using e1⟩
   ·by_cases e2:a∈q.trail
    ·simp only[e1,e2,decide_true,decide_false];rw[hk];refine ih (done++[[a]]) _ clash hD' ⟨t1,c1,w1,x.v,x.m,x.st,by simp[lits,<-x.li],?_,clm,x.co,x.mt,x.asm,x.dr⟩;intro hcn;obtain⟨u1,u2⟩:=x.un hcn;refine⟨λl hl=>?_,by simpa using u2⟩;simp only[l'E,l'm,List.cons.injEq,and_true]at hl;rcases hl with h|rfl
     ·exact u1 l h
     ·exact e2
    ·simp only[e1,e2,decide_false];obtain⟨q2,g1,g2,g3,g4,g5,g6,g7,g8,g9,g10⟩:=setP_ok t1 hn (l:=a) (r:=some done.length) hb e2 e1 ⟨by simp only;rw[x.st];simp,_,hnew,by simp,λm hm hne=>by simp at hm;exact absurd hm hne⟩ (λ_=>himp);rw[g1];simp only at g3 g4 g5 g6 g7 ⊢;rw[hk];refine ih (done++[[a]]) q2 clash hD' ⟨g2,by rw[g5];exact c1,by rw[g5,g6];exact w1,g9 x.v,g10 x.m,by rw[g4];exact x.st,by rw[g5];simp[lits,<-x.li],?_,?_,by rw[g8.co];exact x.co,by rw[g8.mt];exact x.mt,by rw[g8.as];exact x.asm,by rw[g7];exact x.dr⟩
     ·intro hcn;obtain⟨u1,u2⟩:=x.un hcn;rw[g3];refine⟨λl hl=>?_,by simpa using u2⟩;simp only[l'E,l'm,List.cons.injEq,and_true]at hl;rcases hl with h|rfl
      ·simp[u1 l h]
      ·simp
     ·intro k hk;obtain⟨c,c1,c2⟩:=clm k hk;rw[g5,g3];exact⟨c,c1,λm hm=>by simp[c2 m hm]⟩
  | [],hnd,hlb,himp,hD',hk,hlG=>
   simp only;rw[if_pos hlm,hk];refine ih (done++[[]]) _ (some done.length) hD' ⟨x.t.att ⟨[],0,0,0⟩ q.watchers,x.c.att hlb himp,x.w.skip (by simp),x.v,x.m,x.st,by simp[lits,<-x.li],by simp,?_,x.co,x.mt,x.asm,x.dr⟩;intro k hk;simp only[l'a]at hk;subst hk;exact⟨⟨[],0,0,0⟩,by simp only;rw[<-hlen];simp,by simp⟩
structure End (n:Nat)(G:List (List Nat))(as:List Nat) (budget:Int)(q:Srch) (a:Nat):Prop where
 vl:q.vars.length=n
 hl:q.holds.length=2*n
 mt:q.met<=2^n
 ab:a=1∨a=2∨a=3
 sa:a=1->∃σ:Nat->Bool,(∀v,v<n->q.holds[2*v]?=some (σ v))∧satT σ G∧∀l∈as,tr σ l=true
 un:a=2->(∀l∈q.core,l∈as)∧q.core.length<=1000∧∀σ,satT σ G->¬∀l∈q.core,tr σ l=true
 sp:a=3->budget<(q.met:Int)
theorem sat_of (x:All n G q.trail.length q)(hs:SaO n q)(hG:∀c∈G,∀l∈c,l<2*n)(hGc:∀c∈G,c∈lits q.clauses)(hne:[]∉G): ∃σ:Nat->Bool,(∀v,v<n->q.holds[2*v]?=some (σ v))∧satT σ G∧∀l∈q.assumed,tr σ l=true:=by
 have t:=x.i.t;have hT:∀l∈q.trail,tr (λv=>decide (2*v∈q.trail)) l=true:=by
  intro l hl;unfold tr;rcases Nat.mod_two_eq_zero_or_one l with h|h
  ·have e:2*(l/2)=l:=by omega
   simp[e,hl,h]
  ·have e:2*(l/2)=l ^^^ 1:=by rw[x1_eq,if_neg (by omega)];omega
   have hn:l ^^^ 1∉q.trail:=λh2=>t.anti hl h2;simp[e,hn,h]
 have hor:∀l,l<2*n->l∈q.trail∨l ^^^ 1∈q.trail:=by
  intro l hl;have h1:=hs.1 (l/2) (by omega);unfold hasV at h1;rw[x1_eq];rcases Nat.mod_two_eq_zero_or_one l with h|h
  ·rw[if_pos h];rcases h1 with h2|h2
   ·left;rwa [show 2*(l/2)=l by omega]at h2
   ·right;rwa [show 2*(l/2)+1=l+1 by omega]at h2
  ·rw[if_neg (by omega)];rcases h1 with h2|h2
   ·right;rwa [show 2*(l/2)=l-1 by omega]at h2
   ·left;rwa [show 2*(l/2)+1=l by omega]at h2
 refine⟨λv=>decide (2*v∈q.trail),λv hv=>t.hh _ (by omega),?_,?_⟩
 ·intro c hc
  by_cases h2:2<=c.length
  ·have:=hGc c hc;simp only[lits,List.mem_map]at this;obtain⟨cl,hcl,rfl⟩:=this;obtain⟨k,hk⟩:=l'i.1 hcl;obtain⟨g1,g2,-⟩:=x.i.w.w1 k cl hk h2;obtain⟨d1,-⟩:=x.i.d k cl hk h2;rcases hor cl.left (hG _ hc _ g1) with h|h
   ·exact⟨_,g1,hT _ h⟩
   ·obtain⟨j,hj⟩:=l'i.1 h;obtain⟨j',hj',-⟩:=d1 j (l'b.1 hj).1 hj;exact⟨_,g2,hT _ (l'f hj')⟩
  ·match c,hc,h2 with
   | [],hc,_=>exact absurd hc hne
   | [l],hc,_=>
    obtain⟨i,hi,-⟩:=x.u l hc;exact⟨l,by simp,hT l (l'f hi)⟩
   | a :: b :: r,_,h2=>exact absurd (by simp) h2
 ·intro l hl;obtain⟨i,hi⟩:=l'i.1 hl;have hil:=(l'b.1 hi).1;obtain⟨j,hj,-⟩:=x.a.a1 i l hi (by have:=hs.2;omega);exact hT l (l'f hj)
theorem Ext2.all {q1:Srch}(e:Ext2 q q1)(x:All n G D q)(hsd:∀s∈q.starts,s<q.trail.length∨q1.trail=q.trail){D':Nat}(i1:Inv n G D' q1): All n G D' q1:=by
 obtain⟨ex,ht⟩:=e.tl;have hst:=e.st;refine⟨i1,e.vi x.v,e.mr x.m,⟨?_,?_⟩,⟨?_,?_⟩,?_⟩
 ·intro i a h1 h2;rw[e.sm.as]at h1;rw[hst]at h2 ⊢;rw[ht];obtain⟨j,hj,hl⟩:=x.a.a1 i a h1 h2;exact⟨j,by rw[l'e (l'b.1 hj).1];exact hj,hl⟩
 ·intro i s a l h1 h2 h3 h4;rw[hst]at h1 h4;rw[e.sm.as]at h2;rcases hsd s (l'f h1) with h|h
  ·rw[ht,l'e h]at h3;exact x.a.a2 i s a l h1 h2 h3 h4
  ·rw[h]at h3;exact x.a.a2 i s a l h1 h2 h3 h4
 ·intro i s h;rw[hst]at h;rw[e.sm.as];exact x.s.s1 i s h
 ·intro i s h hi;rw[hst]at h;rw[e.sm.as]at hi;have:=x.s.s2 i s h hi;rw[ht];simp;omega
 ·intro l hl;obtain⟨i,hi,hlv⟩:=x.u l hl;rw[ht,hst];exact⟨i,by rw[l'e (l'b.1 hi).1];exact hi,hlv⟩
theorem drawn_end {m:Nat}{q1:Srch}{clash:Option Nat}(h:q.drawn=q.trail.length)(e:drawP m q=some (q1,clash)): q1=q:=by
 cases m with
 | zero=>simp[drawP]at e
 | succ m=>
  unfold drawP at e;rw[if_neg (by omega)]at e;simp only[l'a,l'd]at e;exact e.1.symm
end Go.Ta
