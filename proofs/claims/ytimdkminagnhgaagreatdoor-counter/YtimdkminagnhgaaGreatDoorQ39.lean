import Derived.Test.YtimdkminagnhgaaGreatDoorQ38
import Derived.Test.YtimdkminagnhgaaGreatDoorQ16
set_option linter.all false
namespace Go.Ta
variable {n D:Nat}{G:List (List Nat)}{q q':Srch}
theorem N'O (q:Srch): ∀(ls:List Nat),(∀l∈ls,l/2<q.vars.length)->∃b,H'G q.vars ls=some b∧(b=true->∀l∈ls,cld q l):=by
 intro ls
 induction ls with
 | nil=>intro _;exact⟨true,rfl,by simp⟩
 | cons l r ih=>
  intro h;obtain⟨x,hx⟩:∃x,q.vars[l/2]?=some x:=⟨_,l'c (h l (by simp))⟩;unfold H'G;rw[hx];simp only
  by_cases e:(!x.marked&&decide (0<x.level))=true
  ·rw[if_pos e];exact⟨false,rfl,by simp⟩
  ·rw[if_neg e];obtain⟨b,e1,e2⟩:=ih (λl' h'=>h l' (by simp[h']));refine⟨b,e1,λhb l' hl'=>?_⟩;rcases l'I.1 hl' with rfl|h'
   ·unfold cld;simp only[mkd,lev,hx,l'l,Option.getD_some];simp only[l'k,l'L,l'M,not_and]at e
    cases hm:x.marked with
    | true=>left;rfl
    | false=>right;have:=e hm;omega
   ·exact e2 hb l' h'
theorem I'O (x:TI n G D q)(hc:CI n G q.clauses){i l:Nat}(hl:q.trail[i]?=some l): ∃b,H'H q (l/2)=some b∧(b=true->∃(k:Nat)(c:Cl),rsn q (l/2)=some k∧q.clauses[k]?=some c∧∀m∈c.lits,cld q m):=by
 obtain⟨v,hv,-,hr⟩:=x.lr i l hl;unfold H'H;rw[hv];simp only
 cases h:v.reason with
 | none=>exact⟨false,rfl,by simp⟩
 | some k=>
  rw[h]at hr;obtain⟨-,c,h1,-,-⟩:=hr;simp only[h1];obtain⟨b,e1,e2⟩:=N'O q c.lits (λy hy=>by rw[x.vl];have:=(hc k c h1).1 y hy;omega);exact⟨b,e1,λhb=>⟨k,c,by simp[rsn,hv,h],h1,e2 hb⟩⟩
def F'l (q:Srch)(l:Nat): Bool:=mkd q (l/2) && !((H'H q (l/2)).getD false)
theorem R'r (x:TI n G D q)(hc:CI n G q.clauses): ∀(ls acc:List Nat),(∀l∈ls,l∈q.trail)->acc.length+ls.length<=1000->M'b q ls acc=some (acc++(ls.filter (F'l q)).map (· ^^^ 1)):=by
 have hm:most=1000000:=rfl;intro ls
 induction ls with
 | nil=>intro acc _ _;simp[M'b]
 | cons l r ih=>
  intro acc h1 h2;simp only[l'n]at h2;obtain⟨i,hi⟩:=l'i.1 (h1 l (by simp));obtain⟨v,hv,-,-⟩:=x.lr i l hi;obtain⟨b,e1,-⟩:=I'O x hc hi;have hmk:mkd q (l/2)=v.marked:=by simp[mkd,hv]
  have hk:F'l q l=(v.marked && !b):=by unfold F'l;rw[hmk,e1];rfl
  unfold M'b;rw[hv];simp only
  by_cases em:v.marked=true
  ·rw[if_pos em,e1]
   cases b with
   | true=>
    simp only;rw[ih acc (λl' h'=>h1 l' (by simp[h'])) (by omega),List.filter_cons,hk,em];simp
   | false=>
    simp only;rw[if_pos (by omega),ih _ (λl' h'=>h1 l' (by simp[h'])) (by simp;omega),List.filter_cons,hk,em];simp
  ·rw[if_neg em,ih acc (λl' h'=>h1 l' (by simp[h'])) (by omega),List.filter_cons,hk];simp[em]
theorem N'P {pos:Nat}{cl:List Nat}(x:TrO n G D q pos cl)(hcl:M'd G cl)(hclT:∀m∈cl,m ^^^ 1∈q.trail){l:Nat}(hl:q.trail[pos]?=some l): M'd G ((l ^^^ 1) :: ((q.trail.take pos).filter (F'l q)).map (· ^^^ 1)):=by
 intro σ hσ;apply Classical.byContradiction;intro hno;have hf:∀y∈(l ^^^ 1) :: ((q.trail.take pos).filter (F'l q)).map (· ^^^ 1),tr σ y=false:=by
  intro y hy
  cases h:tr σ y with
  | false=>rfl
  | true=>exact absurd ⟨y,hy,h⟩ hno
 have hpos:tr σ l=true:=by
  have:=hf (l ^^^ 1) (by simp);rw[C'9]at this;simpa using this
 have key:∀(i l':Nat),q.trail[i]?=some l'->cld q l'->tr σ l'=true:=by
  intro i
  induction i using Nat.strongRecOn with
  | _ i ih=>
   intro l' hl' hcd;have byR:(∃(k:Nat)(c:Cl),rsn q (l'/2)=some k∧q.clauses[k]?=some c∧∀m∈c.lits,cld q m)->tr σ l'=true:=by
    rintro⟨k,c,h1,h2,h3⟩;have hr:=(x.t.at hl').2;rw[h1]at hr;obtain⟨-,c',h4,h5,h6⟩:=hr;rw[h2]at h4;simp only[l'a]at h4;subst h4;obtain⟨m,hm,ht⟩:=(x.c k c h2).2 σ hσ
    by_cases e:m=l'
    ·rw[<-e];exact ht
    ·exfalso;obtain⟨j,hj⟩:=l'i.1 (h6 m hm e);have hjl:=(l'b.1 hj).1;simp at hjl;rw[l'j (by omega)]at hj;have hcm:cld q (m ^^^ 1):=by
      have:=h3 m hm;unfold cld at this ⊢;rw[B'9];exact this
     have:=ih j (by omega) _ hj hcm;rw[C'9,ht]at this;simp at this
   rcases hcd with hm|h0
   ·rcases Nat.lt_trichotomy i pos with h|h|h
    ·cases hk:F'l q l' with
     | true=>
      have:=hf (l' ^^^ 1) (by
       refine l'I.2 (.inr (List.mem_map.2 ⟨l',List.mem_filter.2 ⟨?_,hk⟩,rfl⟩));exact l'i.2 ⟨i,by rw[l'j h];exact hl'⟩)
      rw[C'9]at this;simpa using this
     | false=>
      obtain⟨b,e1,e2⟩:=I'O x.t x.c hl';unfold F'l at hk;rw[hm,e1]at hk;simp only[Option.getD_some,Bool.true_and,Bool.not_eq_false']at hk;exact byR (e2 hk)
    ·subst h;rw[hl]at hl';simp only[l'a]at hl';subst hl';exact hpos
    ·exact byR (x.cs i l' h hl' hm)
   ·rw[(x.t.at hl').1]at h0;exact G'j (x.t.l0 i l' hl' h0) hσ
 obtain⟨m,hm,ht⟩:=hcl σ hσ;obtain⟨j,hj⟩:=l'i.1 (hclT m hm);have hcm:cld q (m ^^^ 1):=by
  have:=x.cl m hm;unfold cld at this ⊢;rw[B'9];exact this
 have:=key j _ hj hcm;rw[C'9,ht]at this;simp at this
theorem N'Q (vars:List Vr): ∀(ls:List Nat) (lev span:Nat),(∀l∈ls,l/2<vars.length)->∃s,H'I vars ls lev span=some s∧s<=span+ls.length:=by
 intro ls
 induction ls with
 | nil=>intro lev span _;exact⟨span,rfl,by simp⟩
 | cons l r ih=>
  intro lev span h;obtain⟨x,hx⟩:∃x,vars[l/2]?=some x:=⟨_,l'c (h l (by simp))⟩;unfold H'I;rw[hx];simp only;obtain⟨s,e1,e2⟩:=ih x.level (if x.level=lev then span else span+1) (λl' h'=>h l' (by simp[h']));refine⟨s,e1,?_⟩;simp only[l'n];split at e2 <;> omega
theorem TI.sv (x:TI n G D q)(h1:q'.holds=q.holds)(h2:q'.vars.length=q.vars.length)(h3:q'.trail=q.trail)(h4:q'.starts=q.starts)(h5:q'.clauses=q.clauses)(hv:∀(v:Nat)(x:Vr),q.vars[v]?=some x->∃y:Vr,q'.vars[v]?=some y∧y.level=x.level∧y.reason=x.reason): TI n G D q':=by
 refine⟨by rw[h1];exact x.hl,by rw[h2];exact x.vl,by rw[h3];exact x.tb,by rw[h3];exact x.tn,by rw[h1,h3];exact x.hh,by rw[h4];exact x.ss,by rw[h4];exact x.sd,by rw[h3];exact x.dt,?_,by rw[h3,h4];exact x.l0⟩;intro i l hi;rw[h3]at hi;obtain⟨v,a1,a2,a3⟩:=x.lr i l hi;obtain⟨y,b1,b2,b3⟩:=hv _ v a1;exact⟨y,b1,by rw[b2,a2,h4],by rw[b3,h3,h4,h5];exact a3⟩
theorem N'R (vm:VM q): ∃q3,G'O (D'V q)=some q3∧q3 = { q with vars:=q3.vars,bonus:=q3.bonus }∧q3.vars.length=q.vars.length∧(∀(v:Nat)(x:Vr),q.vars[v]?=some x->∃y:Vr,q3.vars[v]?=some y∧y.level=x.level∧y.reason=x.reason)∧VI q3∧MK q3:=by
 have hm62:B'w=4611686018427387904:=rfl;obtain⟨b1,b2,b3⟩:=vm;have hw:∀v∈q.vars,v.weight<=35*q.bonus+64:=λv hv=>by
  have:=b3 v hv;split at this <;> omega
 unfold G'O D'V;simp only;rw[if_pos (by omega)]
 by_cases h:q.bonus+q.bonus/16<=1099511627776
 ·rw[if_pos h];refine⟨_,rfl,rfl,by simp,?_,⟨by simp only;omega,h,?_⟩,?_⟩
  ·intro v x hx;exact⟨{ x with marked:=false },by simp only[List.getElem?_map,hx];rfl,rfl,rfl⟩
  ·intro v hv;simp only[List.mem_map]at hv;obtain⟨y,hy,rfl⟩:=hv;have:=hw y hy;simp only;omega
  ·intro v hv;simp only[List.mem_map]at hv;obtain⟨y,hy,rfl⟩:=hv;rfl
 ·rw[if_neg h];refine⟨_,rfl,rfl,by simp,?_,⟨by simp only;omega,by simp only;omega,?_⟩,?_⟩
  ·intro v x hx;exact⟨{ x with marked:=false,weight:=x.weight/68719476736 },by simp only[List.getElem?_map,hx];rfl,rfl,rfl⟩
  ·intro v hv;simp only[List.mem_map]at hv;obtain⟨y,⟨z,hz,rfl⟩,rfl⟩:=hv;have:=hw z hz;simp only;omega
  ·intro v hv;simp only[List.mem_map]at hv;obtain⟨y,⟨z,hz,rfl⟩,rfl⟩:=hv;rfl
theorem TI.att (x:TI n G D q)(c:Cl)(ws:List (List Nat)): TI n G D { q with clauses:=q.clauses++[c],watchers:=ws }:=by
 refine⟨x.hl,x.vl,x.tb,x.tn,x.hh,x.ss,x.sd,x.dt,?_,x.l0⟩;intro i l hi;obtain⟨v,h1,h2,h3⟩:=x.lr i l hi;refine⟨v,h1,h2,?_⟩
 cases hr:v.reason with
 | none=>rw[hr]at h3;exact h3
 | some k=>
  rw[hr]at h3;obtain⟨g1,c',g2,g3⟩:=h3;have hk:=(l'b.1 g2).1;exact⟨g1,c',by simp only;rw[l'e hk];exact g2,g3⟩
theorem B'u {α:Type}{l:List α}{x y:α}{k:Nat}(h:(l++[x])[k]?=some y): l[k]?=some y∨(k=l.length∧y=x):=by
 by_cases hk:k<l.length
 ·rw[l'e hk]at h;exact .inl h
 ·have hl:=(l'b.1 h).1;simp at hl;obtain rfl:k=l.length:=by omega
  simp at h;exact .inr ⟨rfl,h.symm⟩
theorem CI.att {cls:List Cl}(x:CI n G cls){c:Cl}(h1:∀l∈c.lits,l<2*n)(h2:M'd G c.lits): CI n G (cls++[c]):=by
 intro k c' hc;rcases B'u hc with h|⟨-,rfl⟩
 ·exact x k c' h
 ·exact⟨h1,h2⟩
theorem WI.att {cls:List Cl}{ws:List (List Nat)}(x:WI n cls ws){c:Cl}(h2:2<=c.lits.length)(hl:c.left∈c.lits)(hr:c.right∈c.lits)(hne:c.left≠c.right){wa wb:List Nat}(ha:ws[c.left]?=some wa)(hb:ws[c.right]?=some wb):
  WI n (cls++[c]) ((ws.set c.left (wa++[cls.length])).set c.right (wb++[cls.length])):=by
 have hal:=(l'b.1 ha).1;have hbl:=(l'b.1 hb).1;have old:∀(l k:Nat)(w:List Nat),ws[l]?=some w->k∈w->k<cls.length:=λl k w h1 h2=>by
  obtain⟨c',e1,-,-⟩:=x.w2 l w k h1 h2;exact (l'b.1 e1).1
 have getB:((ws.set c.left (wa++[cls.length])).set c.right (wb++[cls.length]))[c.right]?=some (wb++[cls.length]):=l'g (by simpa using hbl);have getA:((ws.set c.left (wa++[cls.length])).set c.right (wb++[cls.length]))[c.left]?=some (wa++[cls.length]):=by rw[l'h (λh=>hne h.symm),l'g hal]
 have getX:∀l:Nat,l≠c.left->l≠c.right->((ws.set c.left (wa++[cls.length])).set c.right (wb++[cls.length]))[l]?=ws[l]?:=λl h1 h2=>by rw[l'h (λh=>h2 h.symm),l'h (λh=>h1 h.symm)]
 have keep:∀(l k:Nat)(w:List Nat),ws[l]?=some w->k∈w->∃w':List Nat,((ws.set c.left (wa++[cls.length])).set c.right (wb++[cls.length]))[l]?=some w'∧k∈w':=by
  intro l k w hw hk
  by_cases e1:l=c.left
  ·subst e1;rw[ha]at hw;simp only[l'a]at hw;subst hw;exact⟨_,getA,by simp[hk]⟩
  ·by_cases e2:l=c.right
   ·subst e2;rw[hb]at hw;simp only[l'a]at hw;subst hw;exact⟨_,getB,by simp[hk]⟩
   ·exact⟨w,by rw[getX l e1 e2];exact hw,hk⟩
 have gnew:(cls++[c])[cls.length]?=some c:=by simp
 have gold:∀(k:Nat)(c':Cl),cls[k]?=some c'->(cls++[c])[k]?=some c':=λk c' h=>by rw[l'e (l'b.1 h).1];exact h
 refine⟨by simp[x.wl],?_,?_,?_⟩
 ·intro k c' hc hl';rcases B'u hc with h|⟨rfl,rfl⟩
  ·obtain⟨h1,h2,h3,⟨w1,h4,h4'⟩,⟨w2,h5,h5'⟩⟩:=x.w1 k c' h hl';exact⟨h1,h2,h3,keep _ _ _ h4 h4',keep _ _ _ h5 h5'⟩
  ·exact⟨hl,hr,hne,⟨_,getA,by simp⟩,⟨_,getB,by simp⟩⟩
 ·intro l w k hw hk
  by_cases e1:l=c.left
  ·subst e1;rw[getA]at hw;simp only[l'a]at hw;subst hw;simp only[l'E,l'm]at hk;rcases hk with hk|rfl
   ·obtain⟨c',f1,f2,f3⟩:=x.w2 _ _ k ha hk;exact⟨c',gold _ _ f1,f2,f3⟩
   ·exact⟨c,gnew,h2,.inl rfl⟩
  ·by_cases e2:l=c.right
   ·subst e2;rw[getB]at hw;simp only[l'a]at hw;subst hw;simp only[l'E,l'm]at hk;rcases hk with hk|rfl
    ·obtain⟨c',f1,f2,f3⟩:=x.w2 _ _ k hb hk;exact⟨c',gold _ _ f1,f2,f3⟩
    ·exact⟨c,gnew,h2,.inr rfl⟩
   ·rw[getX l e1 e2]at hw;obtain⟨c',f1,f2,f3⟩:=x.w2 l w k hw hk;exact⟨c',gold _ _ f1,f2,f3⟩
 ·have snoc:∀(l:Nat)(w:List Nat),ws[l]?=some w->(w++[cls.length]).Nodup:=λl w h=>by
   rw[List.nodup_append];refine⟨x.w3 l w h,by simp,λa ha b hb=>?_⟩;simp only[l'm]at hb;subst hb;have:=old l a w h ha;omega
  intro l w hw
  by_cases e1:l=c.left
  ·subst e1;rw[getA]at hw;simp only[l'a]at hw;subst hw;exact snoc _ _ ha
  ·by_cases e2:l=c.right
   ·subst e2;rw[getB]at hw;simp only[l'a]at hw;subst hw;exact snoc _ _ hb
   ·rw[getX l e1 e2]at hw;exact x.w3 l w hw
theorem WI.short {cls:List Cl}{ws:List (List Nat)}(x:WI n cls ws){l:Nat}{w:List Nat}(h:ws[l]?=some w): w.length<=cls.length:=by
 have hsub:∀y∈w,y∈List.range cls.length:=by
  intro y hy;obtain⟨c',e1,-,-⟩:=x.w2 l w y h hy;simpa using (l'b.1 e1).1
 simpa using List.Nodup.length_le_of_subset (x.w3 l w h) hsub
theorem F'T (x:WI n q.clauses q.watchers)(hlm:q.clauses.length<most){c:Cl}(h2:2<=c.lits.length)(hb:∀l∈c.lits,l<2*n)(hl:c.left∈c.lits)(hr:c.right∈c.lits)(hne:c.left≠c.right):
  ∃ws,C'G q c=some { q with clauses:=q.clauses++[c],watchers:=ws }∧WI n (q.clauses++[c]) ws:=by
 obtain⟨wa,ha⟩:∃wa,q.watchers[c.left]?=some wa:=⟨_,l'c (by rw[x.wl];exact hb _ hl)⟩;obtain⟨wb,hbb⟩:∃wb,q.watchers[c.right]?=some wb:=⟨_,l'c (by rw[x.wl];exact hb _ hr)⟩;have l1:=x.short ha;have l2:=x.short hbb;have hb':(q.watchers.set c.left (wa++[q.clauses.length]))[c.right]?=some wb:=by rw[l'h hne];exact hbb
 refine⟨_,?_,x.att h2 hl hr hne ha hbb⟩;unfold C'G C'C;rw[if_pos hlm];simp only[l'z (l'H _),Nat.sub_self,l'w,ha];rw[if_pos (by omega)];simp only[hb'];rw[if_pos (by omega)]
end Go.Ta
namespace Go.Ta
def SpB (q:Srch): Prop:=∀c∈q.clauses,c.span<193
theorem SpB.set {cls:List Cl}(h:∀c∈cls,c.span<193){k:Nat}{c c':Cl}(hc:cls[k]?=some c)(hs:c'.span=c.span): ∀d∈cls.set k c',d.span<193:=by
 intro d hd;rcases List.mem_or_eq_of_mem_set hd with hd|rfl
 ·exact h d hd
 ·rw[hs];exact h c (l'f hc)
theorem G'l {q q':Srch}{l:Nat}{r:Option Nat}(h:H'p q l r=some q'): q'.clauses=q.clauses:=by
 unfold H'p at h;split at h
 ·simp at h
 ·split at h
  ·simp only[l'a]at h;subst h;rfl
  ·simp at h
theorem G'm {q q':Srch}(h:F't q=some q'): q'.clauses=q.clauses:=by
 unfold F't at h;split at h
 ·simp only[l'a]at h;subst h;rfl
 ·simp at h
theorem I'P {q q1:Srch}{k f:Nat}{b:Bool}(h:E'A q k f=some (q1,b))(hs:SpB q): SpB q1:=by
 unfold E'A at h;split at h
 ·simp at h
 ·rename_i c hc
  simp only at h;have e1:(if c.left=f then { c with left:=c.right,right:=f } else c:Cl).span=c.span:=by split <;> rfl
  split at h
  ·simp at h
  ·simp only[l'a,l'd]at h;obtain⟨rfl,-⟩:=h;exact SpB.set hs hc e1
  ·split at h
   ·simp at h
   ·simp only[l'a,l'd]at h;obtain⟨rfl,-⟩:=h;exact SpB.set hs hc e1
   ·split at h
    ·simp at h
    ·split at h
     ·simp only[l'a,l'd]at h;obtain⟨rfl,-⟩:=h;exact SpB.set hs hc e1
     ·simp at h
theorem L't {f:Nat}: ∀(m:Nat)(q:Srch) (i kept:Nat)(cl:Option Nat)(R:Srch×Nat×Option Nat),B'Z f m q i kept cl=some R->SpB q->SpB R.1:=by
 intro m
 induction m with
 | zero=>intro q i kept cl R h hs;simp only[B'Z,l'a]at h;subst h;exact hs
 | succ m ih=>
  intro q i kept cl R h hs;unfold B'Z at h;split at h
  ·simp at h
  ·split at h
   ·simp at h
   ·split at h
    ·simp at h
    ·rename_i q1 hl
     exact ih _ _ _ _ _ h (I'P hl hs)
    ·rename_i q1 hl
     have h1:=I'P hl hs;simp only at h;split at h
     ·simp at h
     ·split at h
      ·simp at h
      ·exact ih _ _ _ _ _ h h1
      ·split at h
       ·simp at h
       ·exact ih _ _ _ _ _ h h1
       ·split at h
        ·simp at h
        ·rename_i q3 h3
         refine ih _ _ _ _ _ h ?_;unfold SpB;rw[G'l h3];exact h1
theorem H'b {q:Srch}{f:Nat}{R:Srch×Option Nat}(hv:E'r q f=some R)(hs:SpB q): SpB R.1:=by
 unfold E'r at hv;split at hv
 ·simp at hv
 ·split at hv
  ·simp at hv
  ·rename_i q2 kept c2 h2
   have:=L't _ _ _ _ _ _ h2 hs;split at hv
   ·simp at hv
   ·simp only[l'a]at hv;subst hv;exact this
theorem N'S: ∀(m:Nat)(q:Srch)(R:Srch×Option Nat),D'M m q=some R->SpB q->SpB R.1:=by
 intro m
 induction m with
 | zero=>intro q R h;simp[D'M]at h
 | succ m ih=>
  intro q R h hs;unfold D'M at h;split at h
  ·split at h
   ·simp at h
   ·split at h
    ·simp at h
    ·rename_i q1 k hv
     simp only[l'a]at h;subst h;exact H'b hv hs
    ·rename_i q1 hv
     exact ih _ _ h (H'b hv hs)
  ·simp only[l'a]at h;subst h;exact hs
theorem L'u {q q':Srch}(h:E'4 q=some (q',0))(hs:SpB q): SpB q':=by
 unfold SpB;have:q'.clauses=q.clauses:=by
  unfold E'4 at h;split at h
  ·unfold E'3 at h;split at h
   ·simp at h
   ·split at h
    ·simp at h
    ·split at h <;> simp at h
   ·split at h
    ·simp at h
    ·rename_i q1 h1
     split at h
     ·simp at h
     ·simp only[l'a,l'd,and_true]at h;subst h;exact G'm h1
     ·split at h
      ·simp at h
      ·rename_i q2 h2
       simp only[l'a,l'd,and_true]at h;subst h;rw[G'l h2,G'm h1]
  ·split at h
   ·simp at h
   ·simp at h
   ·split at h
    ·simp at h
    ·split at h
     ·simp at h
     ·rename_i q1 h1
      split at h
      ·simp at h
      ·rename_i q2 h2
       simp only[l'a,l'd,and_true]at h;subst h;rw[G'l h2,G'm h1]
 rw[this];exact hs
theorem J's {q q':Srch}{c:Cl}(h:C'G q c=some q'): q'.clauses=q.clauses++[c]:=by
 unfold C'G at h;split at h
 ·unfold C'C at h;split at h
  ·simp at h
  ·split at h
   ·simp at h
   ·split at h
    ·split at h
     ·simp at h
     ·split at h
      ·simp only[l'a]at h;subst h;rfl
      ·simp at h
    ·simp at h
 ·simp at h
theorem SpB.snoc {cls:List Cl}(h:∀c∈cls,c.span<193){c:Cl}(hc:c.span=0): ∀d∈cls++[c],d.span<193:=by
 intro d hd;rcases l'E.1 hd with hd|hd
 ·exact h d hd
 ·simp only[l'm]at hd;rw[hd,hc];omega
theorem N'T: ∀(cs:List (List Nat)) (k:Nat)(q:Srch)(cl:Option Nat)(R:Srch×Option Nat),D'C cs k q cl=some R->SpB q->SpB R.1:=by
 intro cs
 induction cs with
 | nil=>intro k q cl R h hs;simp only[D'C,l'a]at h;subst h;exact hs
 | cons l r ih=>
  intro k q cl R h hs;unfold D'C at h;split at h
  ·split at h
   ·simp at h
   ·rename_i q1 h1
    refine ih _ _ _ _ h ?_;unfold SpB;rw[J's h1];exact SpB.snoc hs rfl
  ·split at h
   ·split at h
    ·exact ih _ _ _ _ h (SpB.snoc hs rfl)
    ·exact ih _ _ _ _ h (SpB.snoc hs rfl)
    ·split at h
     ·simp at h
     ·rename_i q1 h1
      refine ih _ _ _ _ h ?_;unfold SpB;rw[G'l h1];exact SpB.snoc hs rfl
    ·simp at h
   ·simp at h
  ·split at h
   ·exact ih _ _ _ _ h (SpB.snoc hs rfl)
   ·simp at h
end Go.Ta
namespace Go.Ta
variable {n D:Nat}{G:List (List Nat)}{q q':Srch}
theorem WI.skip {cls:List Cl}{ws:List (List Nat)}(x:WI n cls ws){c:Cl}(h:¬2<=c.lits.length): WI n (cls++[c]) ws:=by
 refine⟨x.wl,?_,?_,x.w3⟩
 ·intro k c' hc hl;rcases B'u hc with h1|⟨rfl,rfl⟩
  ·exact x.w1 k c' h1 hl
  ·exact absurd hl h
 ·intro l w k h1 h2;obtain⟨c',e1,e2,e3⟩:=x.w2 l w k h1 h2;exact⟨c',by rw[l'e (l'b.1 e1).1];exact e1,e2,e3⟩
theorem L'v: ∀(cls:List Cl)(st:List Bool) (k:Nat),st.length=cls.length->st[k]?=some true->(B'v cls st)[B'm st k]?=cls[k]?:=by
 intro cls
 induction cls with
 | nil=>
  intro st k h1 h2;have:st=[]:=List.length_eq_zero_iff.1 h1;subst this;simp at h2
 | cons c l ih=>
  intro st k h1 h2
  cases st with
  | nil=>simp at h1
  | cons b s=>
   simp only[l'n,Nat.add_right_cancel_iff]at h1
   cases k with
   | zero=>
    simp only[l'w,l'a]at h2;subst h2;simp[B'v,B'm]
   | succ k=>
    simp only[l'x]at h2 ⊢;have h3:=ih s k h1 h2
    cases b with
    | false=>
     have:B'm (false :: s) (k+1)=B'm s k:=by simp[B'm]
     rw[this];simpa [B'v]using h3
    | true=>
     have:B'm (true :: s) (k+1)=B'm s k+1:=by simp[B'm]
     rw[this];simpa [B'v]using h3
theorem L'w: ∀(cls:List Cl)(st:List Bool)(c:Cl),c∈B'v cls st->c∈cls:=by
 intro cls
 induction cls with
 | nil=>intro st c h;cases st <;> simp[B'v]at h
 | cons a l ih=>
  intro st c h
  cases st with
  | nil=>simp[B'v]at h
  | cons b s=>
   simp only[B'v]at h;split at h
   ·rcases l'I.1 h with rfl|h
    ·simp
    ·exact List.mem_cons_of_mem _ (ih s c h)
   ·exact List.mem_cons_of_mem _ (ih s c h)
theorem L'x: ∀(cls:List Cl)(st:List Bool),(B'v cls st).length<=cls.length:=by
 intro cls
 induction cls with
 | nil=>intro st;cases st <;> simp[B'v]
 | cons a l ih=>
  intro st
  cases st with
  | nil=>simp[B'v]
  | cons b s=>
   have:=ih s;simp only[B'v];split <;> simp <;> omega
theorem L'y: ∀(cls:List Cl)(st:List Bool) (g:Nat),st.length=cls.length->g<=cls.length->(∀k,k<g->st[k]?=some true)->∃r,B'v cls st=cls.take g++r:=by
 intro cls
 induction cls with
 | nil=>intro st g h1 h2 _;exact⟨_,by simp;rfl⟩
 | cons a l ih=>
  intro st g h1 h2 h3
  cases st with
  | nil=>simp at h1
  | cons b s=>
   cases g with
   | zero=>exact⟨B'v (a :: l) (b :: s),by simp⟩
   | succ g=>
    simp only[l'n,Nat.add_right_cancel_iff]at h1;have hb:=h3 0 (by omega);simp only[l'w,l'a]at hb;subst hb;obtain⟨r,hr⟩:=ih s g h1 (by simpa using h2) (λk hk=>by have:=h3 (k+1) (by omega);simpa using this);exact⟨r,by simp[B'v,hr]⟩
theorem N'U: ∀(cls:List Cl)(r:List Int),r.length=193->(∀c∈cls,c.span<193)->∃r',C'2 cls r=some r'∧r'.length=193:=by
 intro cls
 induction cls with
 | nil=>intro r h _;exact⟨r,rfl,h⟩
 | cons c l ih=>
  intro r h hs;have hc:=hs c (by simp);obtain⟨x,hx⟩:∃x,r[c.span]?=some x:=⟨_,l'c (by omega)⟩;unfold C'2;rw[hx];exact ih _ (by simp[h]) (λd hd=>hs d (by simp[hd]))
theorem N'V: ∀(r:List Int) (f:Int),(D'o r f).length=r.length:=by
 intro r
 induction r with
 | nil=>intro f;rfl
 | cons x r ih=>intro f;simp[D'o,ih]
theorem N'W {cls:List Cl}{given:Nat}(hs:∀c∈cls,c.span<193): ∀(k:Nat)(room:List Int)(acc:List Bool),k<=cls.length->room.length=193 ->
  ∃pre,D'N cls given k room acc=some (pre++acc)∧pre.length=k∧∀j,j<k->j<given->pre[j]?=some true:=by
 intro k
 induction k with
 | zero=>intro room acc _ _;exact⟨[],rfl,rfl,by simp⟩
 | succ k ih=>
  intro room acc hk hr;obtain⟨c,hc⟩:∃c,cls[k]?=some c:=⟨_,l'c (by omega)⟩;have hcs:=hs c (l'f hc);obtain⟨x,hx⟩:∃x,room[c.span]?=some x:=⟨_,l'c (by omega)⟩;obtain⟨pre,h1,h2,h3⟩:=ih (room.set c.span (x-1)) ((decide (k<given)||decide (0<x)) :: acc) (by omega) (by simp[hr]);refine⟨pre++[decide (k<given)||decide (0<x)],?_,by simp[h2],?_⟩
  ·unfold D'N;rw[hc];simp only[hx];rw[h1];simp
  ·intro j hj hg
   by_cases e:j=k
   ·subst e;rw[l'z (by omega),h2];simp[hg]
   ·rw[l'e (by omega)];exact h3 j (by omega) hg
theorem N'X {vars:List Vr}: ∀(tr:List Nat)(st:List Bool),(∀l∈tr,∃v,vars[l/2]?=some v∧∀k,v.reason=some k->k<st.length) ->
  ∃st',D'D vars tr st=some st'∧st'.length=st.length∧(∀k:Nat,st[k]?=some true->st'[k]?=some true)∧∀l∈tr,∀(v:Vr) (k:Nat),vars[l/2]?=some v->v.reason=some k->st'[k]?=some true:=by
 intro tr
 induction tr with
 | nil=>intro st _;exact⟨st,rfl,rfl,λ_ h=>h,by simp⟩
 | cons l r ih=>
  intro st h;obtain⟨v,hv,hk⟩:=h l (by simp);unfold D'D;rw[hv];simp only
  cases hr:v.reason with
  | none=>
   simp only;obtain⟨st',e1,e2,e3,e4⟩:=ih st (λa ha=>h a (by simp[ha]));refine⟨st',e1,e2,e3,λa ha u k hu hk'=>?_⟩;rcases l'I.1 ha with rfl|ha
   ·rw[hv]at hu;simp only[l'a]at hu;subst hu;rw[hr]at hk';simp at hk'
   ·exact e4 a ha u k hu hk'
  | some k0=>
   simp only;have hk0:=hk k0 hr;rw[if_pos hk0];obtain⟨st',e1,e2,e3,e4⟩:=ih (st.set k0 true) (λa ha=>by
    obtain⟨u,hu,hk2⟩:=h a (by simp[ha]);exact⟨u,hu,λk hk3=>by rw[List.length_set];exact hk2 k hk3⟩)
   have hset:(st.set k0 true)[k0]?=some true:=l'g hk0;refine⟨st',e1,by rw[e2,List.length_set],λk hk2=>e3 k ?_,λa ha u k hu hk'=>?_⟩
   ·by_cases e:k=k0
    ·subst e;exact hset
    ·rw[l'h (λh=>e h.symm)];exact hk2
   ·rcases l'I.1 ha with rfl|ha
    ·rw[hv]at hu;simp only[l'a]at hu;subst hu;rw[hr]at hk';simp only[l'a]at hk';subst hk';exact e3 _ hset
    ·exact e4 a ha u k hu hk'
theorem N'Y {st:List Bool}: ∀(tr:List Nat)(vs:List Vr),(tr.map (· / 2)).Nodup->(∀l∈tr,l/2<vs.length)->(∀l∈tr,∀(v:Vr) (k:Nat),vs[l/2]?=some v->v.reason=some k->st[k]?=some true) ->
  ∃vs',D'5 st tr vs=some vs'∧vs'.length=vs.length∧∀(i:Nat)(v:Vr),vs[i]?=some v->vs'[i]?=some (if i∈tr.map (· / 2) then { v with reason:=v.reason.map (B'm st) } else v):=by
 intro tr
 induction tr with
 | nil=>intro vs _ _ _;exact⟨vs,rfl,rfl,λi v h=>by simpa using h⟩
 | cons l r ih=>
  intro vs hn hb hst;simp only[l'J,List.nodup_cons]at hn;obtain⟨v,hv⟩:∃v,vs[l/2]?=some v:=⟨_,l'c (hb l (by simp))⟩;have hl:=hb l (by simp);unfold D'5;rw[hv];simp only;have fin:∀(vs1:List Vr),vs1.length=vs.length->(∀i,i≠l/2->vs1[i]?=vs[i]?)->vs1[l/2]?=some { v with reason:=v.reason.map (B'm st) }->∀vs',D'5 st r vs1=some vs'->(∀(i:Nat)(u:Vr),vs1[i]?=some u->vs'[i]?=some (if i∈r.map (· / 2) then { u with reason:=u.reason.map (B'm st) } else u))->∀(i:Nat)(u:Vr),vs[i]?=some u->vs'[i]?=some (if i∈(l :: r).map (· / 2) then { u with reason:=u.reason.map (B'm st) } else u):=by
   intro vs1 h1 h2 h3 vs' _ h5 i u hu
   by_cases e:i=l/2
   ·subst e;have:=h5 _ _ h3;rw[if_neg hn.1]at this;rw[this,if_pos (by simp)];rw[hv]at hu;simp only[l'a]at hu;subst hu;rfl
   ·have:=h5 i u (by rw[h2 i e];exact hu);rw[this];simp only[l'J,l'I,e,false_or]
  cases hr:v.reason with
  | none=>
   simp only;obtain⟨vs',e1,e2,e3⟩:=ih vs hn.2 (λa ha=>hb a (by simp[ha])) (λa ha=>hst a (by simp[ha]));refine⟨vs',e1,e2,fin vs rfl (λ_ _=>rfl) ?_ vs' e1 e3⟩;rw[hv,hr]
   cases v
   simp_all
  | some k=>
   simp only;rw[if_pos (hst l (by simp) v k hv hr)];obtain⟨vs',e1,e2,e3⟩:=ih (vs.set (l/2) { v with reason:=some (B'm st k) }) hn.2 (λa ha=>by rw[List.length_set];exact hb a (by simp[ha])) (λa ha u j hu hj=>by
    have hne:l/2≠a/2:=λe=>hn.1 (List.mem_map.2 ⟨a,ha,e.symm⟩);rw[l'h hne]at hu;exact hst a (by simp[ha]) u j hu hj)
   refine⟨vs',e1,by rw[e2,List.length_set],fin _ (by simp) (λi hi=>l'h (λh=>hi h.symm)) ?_ vs' e1 e3⟩;rw[l'g hl,hr];rfl
theorem N'Z: ∀(m k:Nat)(q:Srch),k+m=q.clauses.length->q.clauses.length<=most->(∀c∈q.clauses,(∀l∈c.lits,l<2*n)∧(2<=c.lits.length->c.left∈c.lits∧c.right∈c.lits∧c.left≠c.right))->WI n (q.clauses.take k) q.watchers ->
  ∃ws,E'B m k q=some { q with watchers:=ws }∧WI n q.clauses ws:=by
 intro m
 induction m with
 | zero=>
  intro k q h _ _ x;rw[List.take_of_length_le (by omega)]at x;exact⟨q.watchers,rfl,x⟩
 | succ m ih=>
  intro k q h hm hc x;obtain⟨c,hck⟩:∃c,q.clauses[k]?=some c:=⟨_,l'c (by omega)⟩;have htk:q.clauses.take (k+1)=q.clauses.take k++[c]:=by rw[l'C,hck];rfl
  obtain⟨cb,c2⟩:=hc c (l'f hck);have htl:(q.clauses.take k).length=k:=by simp;omega
  unfold E'B;rw[hck];simp only
  by_cases hl:1<c.lits.length
  ·rw[if_pos hl];obtain⟨a1,a2,a3⟩:=c2 hl;obtain⟨wa,ha⟩:∃wa,q.watchers[c.left]?=some wa:=⟨_,l'c (by rw[x.wl];exact cb _ a1)⟩;obtain⟨wb,hb⟩:∃wb,q.watchers[c.right]?=some wb:=⟨_,l'c (by rw[x.wl];exact cb _ a2)⟩;have s1:=x.short ha;have s2:=x.short hb;rw[htl]at s1 s2;have x2:=x.att hl a1 a2 a3 ha hb;rw[htl,<-htk]at x2;have e1:C'C q k=some { q with watchers:=(q.watchers.set c.left (wa++[k])).set c.right (wb++[k]) }:=by
    unfold C'C;rw[hck];simp only[ha];rw[if_pos (by omega),l'h a3,hb];simp only;rw[if_pos (by omega)]
   rw[e1];simp only;obtain⟨ws,f1,f2⟩:=ih (k+1) { q with watchers:=(q.watchers.set c.left (wa++[k])).set c.right (wb++[k]) } (by simp only;omega) hm hc x2;exact⟨ws,f1,f2⟩
  ·rw[if_neg hl];have x2:=x.skip (c:=c) hl;rw[<-htk]at x2;exact ih (k+1) q (by omega) hm hc x2
def pot (r:List Int): Nat:=(r.map Int.toNat).sum
theorem R's: ∀(r:List Int) (i:Nat) (x:Int),r[i]?=some x->pot (r.set i (x-1))+(if 0<x then 1 else 0)=pot r:=by
 intro r
 induction r with
 | nil=>intro i x h;simp at h
 | cons a r ih=>
  intro i x h
  cases i with
  | zero=>
   simp only[l'w,l'a]at h;subst h;simp only[pot,List.set_cons_zero,l'J,List.sum_cons];split <;> omega
  | succ i=>
   simp only[l'x]at h;have:=ih i x h;simp only[pot,List.set_cons_succ,l'J,List.sum_cons]at this ⊢;omega
theorem L'z: ∀(cls:List Cl)(r r':List Int),C'2 cls r=some r'->(∀x∈r,0<=x)->∀x∈r',0<=x:=by
 intro cls
 induction cls with
 | nil=>intro r r' h h0;simp only[C'2,l'a]at h;rw[<-h];exact h0
 | cons c l ih=>
  intro r r' h h0;unfold C'2 at h;split at h
  ·simp at h
  ·rename_i x hx
   refine ih _ _ h λy hy=>?_;rcases List.mem_or_eq_of_mem_set hy with hy|rfl
   ·exact h0 y hy
   ·have:=h0 x (l'f hx);omega
theorem N'0: ∀(r:List Int) (f:Int),0<=f->(∀x∈r,0<=x)->(pot (D'o r f):Int)<=f:=by
 intro r
 induction r with
 | nil=>intro f hf _;simpa [D'o,pot]using hf
 | cons x r ih=>
  intro f hf h0;have hx:=h0 x (by simp)
  by_cases hfx:f<x
  ·have h1:=ih 0 (by omega) (λy hy=>h0 y (by simp[hy]));simp only[D'o,hfx,if_true,Int.sub_self,pot,l'J,List.sum_cons]at h1 ⊢;omega
  ·have h1:=ih (f-x) (by omega) (λy hy=>h0 y (by simp[hy]));simp only[D'o,hfx,if_false,pot,l'J,List.sum_cons]at h1 ⊢;omega
theorem L'A {cls:List Cl}{given:Nat}: ∀(k:Nat)(room:List Int)(acc st:List Bool),D'N cls given k room acc=some st->st.count true<=min k given+pot room+acc.count true:=by
 intro k
 induction k with
 | zero=>intro room acc st h;simp only[D'N,l'a]at h;subst h;omega
 | succ k ih=>
  intro room acc st h;unfold D'N at h;split at h
  ·simp at h
  ·split at h
   ·simp at h
   ·rename_i x hx
    have h1:=ih _ _ _ h;have h2:=R's _ _ _ hx;rw[List.count_cons]at h1
    by_cases hk:k<given
    ·simp[hk]at h1;split at h2 <;> omega
    ·by_cases h0:0<x
     ·simp[hk,h0]at h1 h2;omega
     ·simp[hk,h0]at h1 h2;omega
theorem L'B {vars:List Vr}: ∀(tr:List Nat)(st st':List Bool),D'D vars tr st=some st'->st'.count true<=st.count true+tr.length:=by
 intro tr
 induction tr with
 | nil=>intro st st' h;simp only[D'D,l'a]at h;subst h;simp
 | cons l r ih=>
  intro st st' h;unfold D'D at h;split at h
  ·simp at h
  ·split at h
   ·have:=ih _ _ h;simp;omega
   ·split at h
    ·rename_i k _ hk
     have h1:=ih _ _ h;have h2:(st.set k true).count true<=st.count true+1:=by
      rw[List.count_set hk];have h3:=Nat.sub_le (st.count true) (if st[k]==true then 1 else 0);simp only[BEq.rfl,if_true];omega
     simp;omega
    ·simp at h
theorem L'C: ∀(cls:List Cl)(st:List Bool),(B'v cls st).length<=st.count true:=by
 intro cls
 induction cls with
 | nil=>intro st;cases st <;> simp[B'v]
 | cons a l ih=>
  intro st
  cases st with
  | nil=>simp[B'v]
  | cons b s=>
   have:=ih s
   cases b <;> simp[B'v] <;> omega
theorem N'1 (hn:n<=192)(x:Inv n G D q)(vi:VI q)(mk:MK q)(hs:SpB q)(hg:q.given<=q.clauses.length):
  ∃q',H'J q=some q'∧Inv n G D q'∧VI q'∧MK q'∧q'.trail=q.trail∧q'.starts=q.starts∧q'.assumed=q.assumed∧q'.given=q.given∧q'.met=q.met∧q'.core=q.core∧q'.drawn=q.drawn∧q'.bonus=q.bonus∧q'.holds=q.holds∧(∃r,q'.clauses=q.clauses.take q.given++r)∧q'.clauses.length<=q.clauses.length∧q'.clauses.length<q.given+4000∧∀c∈q'.clauses,c∈q.clauses:=by
 unfold H'J;rw[if_pos hg]
 by_cases h4:q.clauses.length-q.given<4000
 ·rw[if_pos h4];exact⟨q,rfl,x,vi,mk,rfl,rfl,rfl,rfl,rfl,rfl,rfl,rfl,rfl,⟨q.clauses.drop q.given,by rw[List.take_append_drop]⟩,l'H _,by omega,λ_ h=>h⟩
 ·rw[if_neg h4];have t:=x.t;obtain⟨r,r1,r2⟩:=N'U (q.clauses.drop q.given) (List.replicate 193 0) List.length_replicate (λc hc=>hs c (List.mem_of_mem_drop hc));rw[r1];simp only;obtain⟨st0,s1,s2,s3⟩:=N'W (given:=q.given) hs q.clauses.length (D'o r 2000) [] (l'H _) (by rw[N'V];exact r2);rw[s1,List.append_nil];simp only;have hre:∀l∈q.trail,∃v,q.vars[l/2]?=some v∧∀k,v.reason=some k->k<st0.length:=by
   intro l hl;obtain⟨i,hi⟩:=l'i.1 hl;obtain⟨v,h1,-,h3⟩:=t.lr i l hi;refine⟨v,h1,λk hk=>?_⟩;rw[hk]at h3;obtain⟨-,c,hc,-⟩:=h3;rw[s2];exact (l'b.1 hc).1
  obtain⟨st,u1,u2,u3,u4⟩:=N'X q.trail st0 hre;rw[u1];simp only;obtain⟨vs,v1,v2,v3⟩:=N'Y (st:=st) q.trail q.vars t.tn (λl hl=>by rw[t.vl];have:=t.tb l hl;omega) (λl hl v k h1 h2=>u4 l hl v k h1 h2);rw[v1];simp only;have hlen:st.length=q.clauses.length:=by rw[u2,s2]
  have hkl:=L'x q.clauses st;have hkm:=L'w q.clauses st;have w0:WI n ((B'v q.clauses st).take 0) (q.watchers.map λ_=>[]):=by
   refine⟨by simp[x.w.wl],by simp,?_,?_⟩
   ·intro l w k h1 h2;simp only[List.getElem?_map]at h1
    cases hw:q.watchers[l]? with
    | none=>rw[hw]at h1;simp at h1
    | some y=>rw[hw]at h1;simp at h1;subst h1;simp at h2
   ·intro l w h1;simp only[List.getElem?_map]at h1
    cases hw:q.watchers[l]? with
    | none=>rw[hw]at h1;simp at h1
    | some y=>rw[hw]at h1;simp at h1;subst h1;simp
  obtain⟨ws,a1,a2⟩:=N'Z (n:=n) (B'v q.clauses st).length 0 { q with clauses:=B'v q.clauses st,vars:=vs,watchers:=q.watchers.map λ_=>[] } (by simp) (l'G hkl x.lm) (λc hc=>by
   obtain⟨k,hk⟩:=l'i.1 (hkm c hc);refine⟨(x.c k c hk).1,λh2=>?_⟩;obtain⟨b1,b2,b3,-⟩:=x.w.w1 k c hk h2;exact⟨b1,b2,b3⟩) w0
  rw[a1];have hold:∀(j:Nat)(c:Cl),(B'v q.clauses st)[j]?=some c->∃k,q.clauses[k]?=some c:=λj c h=>l'i.1 (hkm c (l'f h));have t':TI n G D { q with clauses:=B'v q.clauses st,vars:=vs,watchers:=ws }:=by
   refine⟨t.hl,by simp only;rw[v2];exact t.vl,t.tb,t.tn,t.hh,t.ss,t.sd,t.dt,?_,t.l0⟩;intro i l hi;obtain⟨v,h1,h2,h3⟩:=t.lr i l hi;have h4:=v3 _ _ h1;rw[if_pos (List.mem_map.2 ⟨l,l'f hi,rfl⟩)]at h4;refine⟨_,h4,h2,?_⟩
   cases hr:v.reason with
   | none=>rw[hr]at h3;simp only[hr,Option.map_none];exact h3
   | some k=>
    rw[hr]at h3;obtain⟨g1,c,g2,g3,g4⟩:=h3;have hst:=u4 l (l'f hi) v k h1 hr;refine⟨g1,c,?_,g3,g4⟩;simp only;rw[L'v q.clauses st k hlen hst];exact g2
  refine⟨_,rfl,⟨t',?_,a2,?_,l'G hkl x.lm⟩,?_,?_,rfl,rfl,rfl,rfl,rfl,rfl,rfl,rfl,rfl,?_,hkl,?_,hkm⟩
  ·intro j c hc;obtain⟨k,hk⟩:=hold j c hc;exact x.c k c hk
  ·intro j c hc hl2;obtain⟨k,hk⟩:=hold j c hc;exact x.d k c hk hl2
  ·refine⟨vi.1,vi.2.1,λv hv=>?_⟩;obtain⟨i,hi⟩:=l'i.1 hv;simp only at hi;have hil:=(l'b.1 hi).1;obtain⟨u,hu⟩:∃u,q.vars[i]?=some u:=⟨_,l'c (by omega)⟩;have h5:=v3 i u hu;rw[hi]at h5;simp only[l'a]at h5;subst h5;have:=vi.2.2 u (l'f hu);split <;> exact this
  ·intro v hv;obtain⟨i,hi⟩:=l'i.1 hv;simp only at hi;have hil:=(l'b.1 hi).1;obtain⟨u,hu⟩:∃u,q.vars[i]?=some u:=⟨_,l'c (by omega)⟩;have h5:=v3 i u hu;rw[hi]at h5;simp only[l'a]at h5;subst h5;have:=mk u (l'f hu);split <;> exact this
  ·exact L'y q.clauses st q.given hlen hg (λk hk=>u3 k (s3 k (by omega) hk))
  ·have k1:=L'C q.clauses st;have k2:=L'B _ _ _ u1;have k3:=L'A _ _ _ _ s1;have k4:=N'0 r 2000 (by omega) (L'z _ _ _ r1 (λy hy=>by rw[List.eq_of_mem_replicate hy];exact Int.le_refl 0));have k5:=t.len;simp only[List.append_nil,List.count_nil]at k3;simp only;omega
end Go.Ta
namespace Go.Ta
variable {n D:Nat}{G:List (List Nat)}{q q':Srch}
def phw (n:Nat)(st:List Nat)(i:Nat): Nat:=if i∈st then 0 else 2^(n-1-i)
def ph (n:Nat)(st:List Nat): Nat->Nat
 | 0=>0
 | k+1=>ph n st k+phw n st k
theorem T'x (n:Nat)(st:List Nat)(i:Nat): phw n st i<=2^(n-1-i):=by unfold phw;split;exact Nat.zero_le _;exact l'H _
theorem T'y {n:Nat}{st:List Nat}{a:Nat}: ∀k,a<=k->k<=n->ph n st k+2^(n-k)<=ph n st a+2^(n-a):=by
 intro k
 induction k with
 | zero=>
      intro h1 _;obtain rfl:a=0:=by omega
      exact l'H _
 | succ k ih=>
  intro h1 h2
  by_cases e:a=k+1
  ·subst e;exact l'H _
  ·have h3:=ih (by omega) (by omega);have h4:=T'x n st k;have h5:2^(n-k)=2^(n-1-k)+2^(n-1-k):=by
    rw[show n-k=(n-1-k)+1 by omega,Nat.pow_succ];omega
   have h6:n-(k+1)=n-1-k:=by omega
   simp only[ph];rw[h6];omega
theorem N'2 {n:Nat}{st:List Nat}{k:Nat}(h:k<=n): ph n st k<2^n:=by
 have h1:=T'y (n:=n) (st:=st) (a:=0) k (Nat.zero_le _) h;have h2:0<2^(n-k):=Nat.pow_pos (by omega);simp only[ph,Nat.sub_zero]at h1;omega
theorem G'n {n:Nat}{st st':List Nat}: ∀k,(∀i,i<k->(i∈st↔i∈st'))->ph n st k=ph n st' k:=by
 intro k
 induction k with
 | zero=>intro _;rfl
 | succ k ih=>
  intro h;simp only[ph,ih (λi hi=>h i (by omega)),phw,h k (by omega)]
theorem L'D {n:Nat}{st:List Nat}{a:Nat}: ∀k,a<=k->ph n st a<=ph n st k:=by
 intro k
 induction k with
 | zero=>
      intro h;obtain rfl:a=0:=by omega
      exact l'H _
 | succ k ih=>
  intro h
  by_cases e:a=k+1
  ·subst e;exact l'H _
  ·have:=ih (by omega);simp only[ph];omega
theorem L'E {n:Nat}{st:List Nat}(hst:Srt st){L s len:Nat}(hs:st[L]?=some s)(hlen:s<len)(hn:len<=n)(hns:s∉st.take L): ph n st len<ph n (st.take L) (s+1):=by
 have hmem:=l'f hs;have h1:=T'y (n:=n) (st:=st) (a:=s+1) len (by omega) hn;have h2:ph n st (s+1)=ph n st s:=by simp only[ph,phw,if_pos hmem];rfl
 have h3:ph n (st.take L) (s+1)=ph n st s+2^(n-1-s):=by
  simp only[ph,phw,if_neg hns];rw[G'n s];intro i hi;constructor
  ·exact λh=>List.mem_of_mem_take h
  ·intro h;obtain⟨j,hj⟩:=l'i.1 h;have:j<L:=by
    rcases Nat.lt_or_ge j L with h1|h1
    ·exact h1
    ·have:=hst.le h1 hs hj;omega
   exact l'i.2 ⟨j,by rw[l'j this];exact hj⟩
 have h4:0<2^(n-len):=Nat.pow_pos (by omega);have h5:n-(s+1)=n-1-s:=by omega
 rw[h5]at h1;omega
theorem R't {n:Nat}{st:List Nat}: ∀k,k<n->ph n st k%2=0:=by
 intro k
 induction k with
 | zero=>intro _;simp[ph]
 | succ k ih=>
  intro h;have h1:=ih (by omega);simp only[ph,phw];obtain⟨e,he⟩:∃e,n-1-k=e+1:=⟨n-2-k,by omega⟩;split
  ·exact h1
  ·rw[he,Nat.pow_succ];omega
structure SL (q:Srch):Prop where
 s1:∀(i s:Nat),q.starts[i]?=some s->i<=q.assumed.length+s
 s2:∀(i s:Nat),q.starts[i]?=some s->q.assumed.length<=i->s<q.trail.length
def UI (G:List (List Nat))(q:Srch): Prop:=∀l,[l]∈G->∃i:Nat,q.trail[i]?=some l∧lv q.starts i=0
structure All (n:Nat)(G:List (List Nat)) (D:Nat)(q:Srch):Prop where
 i:Inv n G D q
 v:VI q
 m:MK q
 a:AI q
 s:SL q
 u:UI G q
theorem F'U (hn:n<=192)(x:All n G D q){L s:Nat}(hs:q.starts[L]?=some s)(hns:s∉q.starts.take L){q4 q5:Srch}{a:Nat}(e1:q4.trail=q.trail.take s++[a])(e2:q4.starts=q.starts.take L)(e3:q4.assumed=q.assumed): AI q4∧SL q4∧UI G q4:=by
 have hsD:=x.i.t.sd s (l'f hs);have hsT:s<=q.trail.length:=l'G hsD x.i.t.dt;have hL:=(l'b.1 hs).1;have hlen:(q.trail.take s).length=s:=by simp;omega
 have ab:=x.a.back (q':={ q with trail:=q.trail.take s,starts:=q.starts.take L }) x.i.t.ss hs rfl rfl rfl;have hstl:∀(i s':Nat),(q.starts.take L)[i]?=some s'->i<L∧q.starts[i]?=some s':=by
  intro i s' h;have hil:=(l'b.1 h).1;simp at hil;rw[l'j (by omega)]at h;exact⟨by omega,h⟩
 refine⟨⟨?_,?_⟩,⟨?_,?_⟩,?_⟩
 ·intro i a' h1 h2;rw[e3]at h1;rw[e2]at h2 ⊢;rw[e1];obtain⟨j,hj,hl⟩:=ab.a1 i a' h1 h2;simp only at hj;exact⟨j,by rw[l'e (l'b.1 hj).1];exact hj,hl⟩
 ·intro i s' a' l h1 h2 h3 h4;rw[e2]at h1 h4;rw[e3]at h2;rw[e1]at h3;have hlt:s'<s:=by
   obtain⟨hiL,hi⟩:=hstl i s' h1;have h5:=x.i.t.ss.le (Nat.le_of_lt hiL) hi hs;rcases Nat.lt_or_eq_of_le h5 with h6|h6
   ·exact h6
   ·exact absurd (h6 ▸ l'f h1) hns
  rw[l'e (by omega)]at h3;exact ab.a2 i s' a' l h1 h2 h3 h4
 ·intro i s' h;rw[e2]at h;rw[e3];exact x.s.s1 i s' (hstl i s' h).2
 ·intro i s' h _;rw[e2]at h;rw[e1];obtain⟨hiL,hi⟩:=hstl i s' h;have h5:=x.i.t.ss.le (Nat.le_of_lt hiL) hi hs;simp;omega
 ·intro l hl;obtain⟨i,hi,hlv⟩:=x.u l hl;have his:i<s:=L'm x.i.t.ss hs (by omega);rw[e1,e2];exact⟨i,by rw[l'e (by omega),l'j his];exact hi,by rw[(C'x x.i.t.ss hs his).1];exact hlv⟩
theorem N'3 (x:TI n G D q): q.trail.Pairwise (λa b=>lev q (a/2)<=lev q (b/2)):=by
 rw[List.pairwise_iff_getElem];intro i j hi hj hij;rw[(x.at (l'c hi)).1,(x.at (l'c hj)).1];exact L'k (Nat.le_of_lt hij)
theorem L'F (hn:n<=192)(x:All n G D q){k:Nat}(hk:Cla q k)(hnl:0<q.starts.length)(hg:q.given<=q.clauses.length)(hsp:SpB q)(hlm:q.clauses.length<most):
  ∃q',G'Q q k=some q'∧All n G q'.drawn q'∧(ph n q.starts q.trail.length<ph n q'.starts q'.trail.length∧q'.trail.length<n)∧q'.assumed=q.assumed∧q'.given=q.given∧q'.met=q.met∧q'.core=q.core∧(∃e,lits q'.clauses=(lits q.clauses).take q.given++e)∧(q'.clauses.length<=q.clauses.length∨q'.clauses.length<=q.given+4000)∧SpB q':=by
 have hm:most=1000000:=rfl;obtain⟨c,hc,hall,hc2,xl,hxl,d,hd,hdl⟩:=hk;have t:=x.i.t;have two:∀s∈q.starts,s+1<q.trail.length:=by
  intro s hs;obtain⟨u1,u2,u3,-,-⟩:=x.i.w.w1 k c hc hc2;obtain⟨d1,d2⟩:=x.i.d k c hc hc2;obtain⟨i,hi⟩:=l'i.1 (hall _ u1);obtain⟨j,hj⟩:=l'i.1 (hall _ u2);have hsD:=t.sd s hs;have hil:=(l'b.1 hi).1;have hjl:=(l'b.1 hj).1;have hij:i≠j:=λe=>by
   subst e;rw[hi]at hj;simp only[l'a]at hj;exact u3 (O'G hj)
  have hi2:s<=i:=by
   rcases Nat.lt_or_ge i s with h|h
   ·obtain⟨y,hy,-⟩:=d1 i (by omega) hi;exact (t.anti (l'f hy) (hall _ u2)).elim
   ·exact h
  have hj2:s<=j:=by
   rcases Nat.lt_or_ge j s with h|h
   ·obtain⟨y,hy,-⟩:=d2 j (by omega) hj;exact (t.anti (l'f hy) (hall _ u1)).elim
   ·exact h
  omega
 have htl:=t.len;have hdlt:=(l'b.1 hd).1;obtain⟨cb,ci⟩:=x.i.c k c hc;obtain⟨q1,m1,e1,mr1,vm1,hcnt1⟩:=E'H c.lits q (λy hy=>by rw[t.vl];have:=cb y hy;omega) (x.v.vm x.m);obtain⟨sv1,hmk1⟩:=mr1.sv;have tr1:q1.trail=q.trail:=by rw[mr1.eq]
 have st1:q1.starts=q.starts:=by rw[mr1.eq]
 have cl1:q1.clauses=q.clauses:=by rw[mr1.eq]
 have nomark:∀v,mkd q v=false:=by
  intro v
  cases hx:q.vars[v]? with
  | none=>simp[mkd,hx]
  | some y=>simp[mkd,hx,x.m y (l'f hx)]
 have hcnt:=hcnt1 q.trail t.tn (λy hy _ _ _=>List.mem_map.2 ⟨y ^^^ 1,hall y hy,B'9 y⟩);have hc0:cnt q q.trail=0:=by
  unfold cnt;rw[List.countP_eq_zero];intro l _;simp[nomark]
 have hlevx:lev q (xl/2)=q.starts.length:=by
  have:=(t.at hd).1;rw[B'9]at this;rw[this,hdl]
 have x1:TrI n G D q1 (q1.trail.length-1) (m1:Int) c.lits:=by
  refine⟨t.mr mr1,by rw[cl1];exact x.i.c,vm1,by rw[st1];exact hnl,?_,?_,?_,?_,?_⟩
  ·intro v hv;rw[tr1,sv1.lv];rcases (hmk1 v).1 hv with h|⟨h,y,hy,rfl⟩
   ·rw[nomark]at h;simp at h
   ·obtain⟨j,hj⟩:=l'i.1 (hall y hy);exact⟨h,j,_,hj,B'9 y⟩
  ·intro y hy
   by_cases e0:lev q (y/2)=0
   ·exact .inr (by rw[sv1.lv];exact e0)
   ·exact .inl ((hmk1 _).2 (.inr ⟨e0,y,hy,rfl⟩))
  ·intro i l hi hl;have:=(l'b.1 hl).1;omega
  ·rw[tr1,show q.trail.length-1+1=q.trail.length by omega,List.take_length,hcnt,hc0];simp
  ·have:1<=cnt q1 q.trail:=by
    unfold cnt;refine List.countP_pos_iff.2 ⟨xl ^^^ 1,l'f hd,?_⟩;simp only[l'k,beq_iff_eq,B'9];exact⟨(hmk1 _).2 (.inr ⟨by omega,xl,hxl,rfl⟩),by rw[sv1.lv,hlevx,st1]⟩
   omega
 obtain⟨q2,pos,e2,hpos,sv2,o2⟩:=L's hn _ q1 _ (by rw[tr1];omega) x1;have sv:=sv1.trans sv2;have tr2:q2.trail=q.trail:=by rw[sv.eq]
 have st2:q2.starts=q.starts:=by rw[sv.eq]
 have cl2:q2.clauses=q.clauses:=by rw[sv.eq]
 obtain⟨lp,hlp,hlm2⟩:=o2.at_;have hlp':q.trail[pos]?=some lp:=by rw[<-tr2];exact hlp
 have hposl:=(l'b.1 hlp').1;have hlpl:lv q.starts pos=q.starts.length:=by have:=o2.lp;rw[st2]at this;exact this
 have e3:R'Q q2 pos=some ((lp ^^^ 1) :: ((q2.trail.take pos).filter (F'l q2)).map (· ^^^ 1)):=by
  unfold R'Q;rw[hlp];simp only;rw[R'r o2.t o2.c _ _ (λl hl=>List.mem_of_mem_take hl) (by simp;omega)];rfl
 have himp:=N'P o2 ci (by rw[tr2];exact hall) hlp;obtain⟨r,hr⟩:=e' (((q2.trail.take pos).filter (F'l q2)).map (· ^^^ 1));rw[<-hr]at e3 himp;obtain⟨a,ha⟩:=e' (lp ^^^ 1);rw[<-ha]at e3 himp;have hax:a ^^^ 1=lp:=by rw[ha,H'S]
 have hrmem:∀y∈r,∃j,j<pos∧q.trail[j]?=some (y ^^^ 1)∧mkd q2 (y/2)=true∧lev q (y/2)=lv q.starts j∧lv q.starts j≠0∧lv q.starts j<q.starts.length:=by
  intro y hy;rw[hr]at hy;obtain⟨z,hz,rfl⟩:=List.mem_map.1 hy;obtain⟨hz1,hz2⟩:=List.mem_filter.1 hz;obtain⟨j,hj⟩:=l'i.1 hz1;have hjl:=(l'b.1 hj).1;simp at hjl;rw[l'j (by omega)]at hj;unfold F'l at hz2;simp only[l'k]at hz2;have hj':q.trail[j]?=some z:=by rw[<-tr2];exact hj
  have h1:=(t.at hj').1;have h2:=(o2.mb _ hz2.1).1;rw[sv.lv,h1]at h2;have h3:=o2.ot j z (by omega) hj hz2.1;rw[st2]at h3;exact⟨j,by omega,by rw[H'S];exact hj',by rw[B'9];exact hz2.1,by rw[B'9];exact h1,h2,h3⟩
 have hab:a<2*n:=by rw[ha];exact D'r (t.tb lp (l'f hlp'))
 have hrb:∀y∈r,y<2*n:=λy hy=>by
  obtain⟨j,-,hj,-⟩:=hrmem y hy;exact O'F (t.tb _ (l'f hj))
 have hlb:∀y∈a :: r,y<2*n:=λy hy=>by
  rcases l'I.1 hy with rfl|h
  ·exact hab
  ·exact hrb y h
 obtain⟨span,e4,hspl⟩:=N'Q q2.vars r 0 1 (λy hy=>by rw[sv.len,t.vl];have:=hrb y hy;omega);have e4':M'Z q2 (a :: r)=some span:=e4;obtain⟨q3,e5,q3e,q3l,q3v,vi3,mk3⟩:=N'R o2.vm;have tr3:q3.trail=q.trail:=by rw[q3e,tr2]
 have st3:q3.starts=q.starts:=by rw[q3e,st2]
 have cl3:q3.clauses=q.clauses:=by rw[q3e,cl2]
 have ws3:q3.watchers=q.watchers:=by rw[q3e];simp only;rw[sv.eq]
 have ho3:q3.holds=q.holds:=by rw[q3e];simp only;rw[sv.eq]
 have as3:q3.assumed=q.assumed:=by rw[q3e];simp only;rw[sv.eq]
 have gv3:q3.given=q.given:=by rw[q3e];simp only;rw[sv.eq]
 have mt3:q3.met=q.met:=by rw[q3e];simp only;rw[sv.eq]
 have co3:q3.core=q.core:=by rw[q3e];simp only;rw[sv.eq]
 have t3:TI n G D q3:=o2.t.sv (by rw[q3e]) q3l (by rw[q3e]) (by rw[q3e]) (by rw[q3e]) q3v;have lev3:∀v y,q3.vars[v]?=some y->y.level=lev q v:=by
  intro v y hy;have hvl:=(l'b.1 hy).1;obtain⟨z,hz⟩:∃z,q2.vars[v]?=some z:=⟨_,l'c (by omega)⟩;obtain⟨y',h1,h2,-⟩:=q3v v z hz;rw[hy]at h1;simp only[l'a]at h1;subst h1;rw[h2,<-sv.lv];simp[lev,hz]
 have x3:All n G D q3:=by
  refine⟨⟨t3,by rw[cl3];exact x.i.c,by rw[cl3,ws3];exact x.i.w,by rw[cl3,tr3,st3];exact x.i.d,by rw[cl3];exact x.i.lm⟩,vi3,mk3,⟨by rw[as3,st3,tr3];exact x.a.a1,by rw[as3,st3,tr3];exact x.a.a2⟩,⟨by rw[as3,st3];exact x.s.s1,by rw[as3,st3,tr3];exact x.s.s2⟩,?_⟩;intro l hl;rw[tr3,st3];exact x.u l hl
 have outside:∀L s,q.starts[L]?=some s->L<q.starts.length->a∉q.trail.take s∧a ^^^ 1∉q.trail.take s∧s<q.trail.length:=by
  intro L s hs hL;have hps:s<=pos:=by
   rcases Nat.lt_or_ge pos s with h|h
   ·have:=(C'x t.ss hs h).2;omega
   ·exact h
  have hno:∀y,y/2=lp/2->y∉q.trail.take s:=by
   intro y hy hmem;obtain⟨j,hj⟩:=l'i.1 hmem;have hjl:=(l'b.1 hj).1;simp at hjl;rw[l'j (by omega)]at hj;have:=t.uniq hj hlp' hy;omega
  exact⟨hno a (by rw[ha,B'9]),hno _ (by rw[hax]),by omega⟩
 unfold G'Q;rw[hc];simp only[e1,e2,e3,e4',e5]
 cases hrc:r with
 | nil=>
  simp only;obtain⟨s,hs⟩:∃s,q.starts[0]?=some s:=⟨_,l'c hnl⟩;obtain⟨o1,o2',o3⟩:=outside 0 s hs hnl;obtain⟨q4,f1,f2,f3,f4,f5,f6,f7,f8,f9⟩:=I'L t3 (L:=0) (s:=s) (by rw[st3];exact hs);rw[tr3]at f3;rw[st3,List.take_zero]at f4;rw[f1];simp only;have hlen4:q4.trail.length=s:=by rw[f3];simp;omega
  obtain⟨q5,g1,g2,g3,g4,g5,g6,g7,g8,g9,g10⟩:=F'k f2 hn (l:=a) (r:=none) hab (by rw[f3];exact o1) (by rw[f3];exact o2') (.inr (by rw[f4];rfl)) (λ_=>by rw[hrc]at himp;exact himp);rw[f3]at g3;rw[f4]at g4;rw[f6,cl3]at g5;rw[f7,ws3]at g6;rw[f5]at g7;have hns:s∉q.starts.take 0:=by simp
  have as5:q5.assumed=q.assumed:=by rw[g8.as,f9.as,as3]
  obtain⟨ai5,sl5,ui5⟩:=F'U (q5:=q5) hn x hs hns (q4:=q5) g3 (by rw[g4];rfl) as5;have vi4:VI q4:=⟨by rw[f9.bn];exact vi3.1,by rw[f9.bn];exact vi3.2.1,by rw[f8,f9.bn];exact vi3.2.2⟩;have mk4:MK q4:=by unfold MK;rw[f8];exact mk3
  refine⟨q5,g1,⟨⟨by rw[g7];exact g2,by rw[g5];exact x.i.c,by rw[g5,g6];exact x.i.w,?_,by rw[g5];exact x.i.lm⟩,g9 vi4,g10 mk4,ai5,sl5,ui5⟩,?_,as5,by rw[g8.gv,f9.gv,gv3],by rw[g8.mt,f9.mt,mt3],by rw[g8.co,f9.co,co3],⟨(lits q.clauses).drop q.given,by rw[g5,List.take_append_drop]⟩,.inl (by rw[g5];exact l'H _),by unfold SpB;rw[g5];exact hsp⟩
  ·intro k' c' hc' hl';rw[g5]at hc';rw[g7,g3,g4];obtain⟨w1,w2⟩:=x.i.d k' c' hc' hl';have hsD:=t.sd s (l'f hs);have b1:=w1.back t.ss hs hsD (by omega);have b2:=w2.back t.ss hs hsD (by omega);rw[List.take_zero]at b1 b2;exact⟨b1.app (by simp;omega),b2.app (by simp;omega)⟩
  ·rw[g3,g4];have:=L'E t.ss hs o3 htl hns;rw[List.take_zero]at this;rw[l'p,List.length_take,Nat.min_eq_left (by omega)];exact⟨this,by have:=two s (l'f hs);simp;omega⟩
 | cons y0 r0=>
  simp only;rw[<-hrc];have hlast:∃z,r.getLastD 0=z∧z∈r∧∀y∈r,lev q (y/2)<=lev q (z/2):=by
   have hp:r.Pairwise (λa b=>lev q (a/2)<=lev q (b/2)):=by
    rw[hr,tr2];rw[List.pairwise_map];simp only[B'9];exact List.Pairwise.sublist ((List.filter_sublist).trans (List.take_sublist _ _)) (N'3 t)
   have hne:r≠[]:=by rw[hrc];simp
   refine⟨r.getLast hne,?_,List.getLast_mem hne,?_⟩
   ·rw[List.getLastD_eq_getLast?,List.getLast?_eq_some_getLast hne];rfl
   ·intro y hy;have h1:=List.dropLast_concat_getLast hne;rw[<-h1,List.pairwise_append]at hp;rw[<-h1]at hy;rcases l'E.1 hy with h|h
    ·exact hp.2.2 y h _ (by simp)
    ·simp only[l'm]at h;rw[h];exact l'H _
  obtain⟨z,hz,hzr,hzmax⟩:=hlast;rw[hz];obtain⟨jz,hjz,hjzT,hzm,hzlev,hz0,hznl⟩:=hrmem z hzr;obtain⟨v3,hv3⟩:∃v,q3.vars[z/2]?=some v:=⟨_,l'c (by have:=hrb z hzr;have:=t3.vl;omega)⟩;have hvlev:=lev3 _ _ hv3;rw[hv3];simp only;obtain⟨L,hLdef⟩:=e' (lv q.starts jz);rw[hvlev,hzlev,<-hLdef];rw[<-hLdef]at hz0 hznl hzlev;obtain⟨s,hs⟩:∃s,q.starts[L]?=some s:=⟨_,l'c hznl⟩;obtain⟨o1,o2',o3⟩:=outside L s hs hznl;obtain⟨q4,f1,f2,f3,f4,f5,f6,f7,f8,f9⟩:=I'L t3 (L:=L) (s:=s) (by rw[st3];exact hs);rw[tr3]at f3;rw[st3]at f4;rw[f1];simp only;have hlen4:q4.trail.length=s:=by rw[f3];simp;omega
  have hjzs:jz<s:=L'm t.ss hs (by omega);have hns:s∉q.starts.take L:=λh=>by
   obtain⟨j,hj⟩:=l'i.1 h;have hjl:=(l'b.1 hj).1;simp at hjl;rw[l'j (by omega)]at hj;have:=(C'x t.ss hj (show jz<s from hjzs)).2;omega
  have hrT:∀y∈r,y ^^^ 1∈q.trail.take s:=by
   intro y hy;obtain⟨j,-,hj,-,hl1,-,-⟩:=hrmem y hy;have h1:=hzmax y hy;have:j<s:=L'm t.ss hs (by omega);exact l'i.2 ⟨j,by rw[l'j this];exact hj⟩
  have hane:a≠z:=λh=>by
   have:=hrT z hzr;rw[<-h]at this;exact o2' this
  have hsD:=t.sd s (l'f hs);have i4:Inv n G s q4:=by
   refine⟨f2,by rw[f6,cl3];exact x.i.c,by rw[f6,f7,cl3,ws3];exact x.i.w,?_,by rw[f6,cl3];exact x.i.lm⟩;intro k' c' hc' hl';rw[f6,cl3]at hc';rw[f3,f4];obtain⟨w1,w2⟩:=x.i.d k' c' hc' hl';exact⟨w1.back t.ss hs hsD (by omega),w2.back t.ss hs hsD (by omega)⟩
  have vi4:VI q4:=⟨by rw[f9.bn];exact vi3.1,by rw[f9.bn];exact vi3.2.1,by rw[f8,f9.bn];exact vi3.2.2⟩;have mk4:MK q4:=by unfold MK;rw[f8];exact mk3
  obtain⟨q6,r1,i6,vi6,mk6,tr6,st6,as6,gv6,mt6,co6,dr6,bn6,ho6,⟨rr,hrr⟩,len6,cnt6,sub6⟩:=N'1 hn i4 vi4 mk4 (by unfold SpB;rw[f6,cl3];exact hsp) (by rw[f9.gv,gv3,f6,cl3];exact hg);rw[r1];simp only;rw[f3]at tr6;rw[f4]at st6;rw[f5]at dr6;rw[f6,cl3]at len6 sub6 hrr;rw[f9.gv,gv3]at hrr cnt6;have hlen6:q6.trail.length=s:=by rw[tr6,<-f3];exact hlen4
  have hrlen:r.length=r0.length+1:=by rw[hrc];rfl
  have hrp:r.length<=pos:=by
   rw[hr,List.length_map];have h1:=List.length_filter_le (F'l q2) (q2.trail.take pos);rw[List.length_take]at h1;omega
  obtain⟨ws,h1,h2⟩:=F'T (q:=q6) (c:=⟨a :: r,a,z,span⟩) i6.w (by omega) (by simp;omega) hlb (by simp) (by simp[hzr]) hane;rw[h1];simp only[l'p,l'n,l'o,l'F,Nat.add_sub_cancel];have t5:=i6.t.att ⟨a :: r,a,z,span⟩ ws;have hnew:(q6.clauses++[⟨a :: r,a,z,span⟩])[q6.clauses.length]?=some ⟨a :: r,a,z,span⟩:=by simp
  obtain⟨q5,g1,g2,g3,g4,g5,g6,g7,g8,g9,g10⟩:=F'k t5 hn (l:=a) (r:=some q6.clauses.length) hab (by simp only;rw[tr6];exact o1) (by simp only;rw[tr6];exact o2') ⟨by simp only;rw[hlen6,st6];exact hns,_,hnew,by simp,λy hy hne=>by
   simp only[List.take_length];rcases l'I.1 hy with h|h
   ·exact absurd h hne
   ·rw[tr6];exact hrT y h⟩ (λh=>by
    simp only at h;rw[st6]at h;have h5:(q.starts.take L).length=0:=by rw[h];rfl
    rw[List.length_take]at h5;omega)
  simp only at g3 g4 g5 g6 g7;rw[tr6]at g3;rw[st6]at g4;rw[dr6]at g7;have as5:q5.assumed=q.assumed:=by rw[g8.as];simp only;rw[as6,f9.as,as3]
  obtain⟨ai5,sl5,ui5⟩:=F'U (q5:=q5) hn x hs hns (q4:=q5) g3 g4 as5;have vi5:VI { q6 with clauses:=q6.clauses++[⟨a :: r,a,z,span⟩],watchers:=ws }:=⟨vi6.1,vi6.2.1,vi6.2.2⟩;have mk5:MK { q6 with clauses:=q6.clauses++[⟨a :: r,a,z,span⟩],watchers:=ws }:=mk6;have hlz:lv (q.starts.take L) jz=L:=by rw[(C'x t.ss hs hjzs).1];exact hLdef.symm
  refine⟨q5,g1,⟨⟨by rw[g7];exact g2,by rw[g5];exact i6.c.att hlb himp,by rw[g5,g6];exact h2,?_,by rw[g5];simp;omega⟩,g9 vi5,g10 mk5,ai5,sl5,ui5⟩,?_,as5,by rw[g8.gv];simp only;rw[gv6,f9.gv,gv3],by rw[g8.mt];simp only;rw[mt6,f9.mt,mt3],by rw[g8.co];simp only;rw[co6,f9.co,co3],⟨lits rr++[a :: r],by rw[g5,hrr];simp[lits]⟩,.inr (by rw[g5];simp;omega),?_⟩
  ·intro k' c' hc' hl';rw[g5]at hc';rw[g7,g3,g4];rcases B'u hc' with h|⟨rfl,rfl⟩
   ·obtain⟨w1,w2⟩:=i6.d k' c' h hl';rw[tr6,st6]at w1 w2;exact⟨w1.app (by simp;omega),w2.app (by simp;omega)⟩
   ·refine⟨λd hd hT=>?_,λd hd hT=>⟨s,?_,?_⟩⟩
    ·simp only at hT;rw[l'e (by simp;omega)]at hT;exact absurd (l'f hT) o2'
    ·rw[l'z (by simp;omega)];simp[Nat.min_eq_left (show s<=q.trail.length by omega)]
    ·simp only at hT;rw[l'e (by simp;omega),l'j hd]at hT;have:=t.uniq hT hjzT rfl;subst this;rw[hlz];have:=F'j (q.starts.take L) s;simp at this;omega
  ·rw[g3,g4];have:=L'E t.ss hs o3 htl hns;rw[l'p,List.length_take,Nat.min_eq_left (by omega)];exact⟨this,by have:=two s (l'f hs);simp;omega⟩
  ·intro d hd;rw[g5]at hd;rcases l'E.1 hd with hd|hd
   ·exact hsp d (sub6 d hd)
   ·simp only[l'm]at hd;subst hd;simp only;omega
end Go.Ta
