import Derived.Test.YtimdkminagnhgabGreatDoorQ34
set_option linter.all false
namespace Go.Ta
section
variable {n D:Nat}{G:List (List Nat)}{q q':Srch}{σ:Nat->Bool}
theorem R'C (x:TI n G D q)(hc:CI n G q.clauses)(hσ:C'p σ G)(hd:∀s∈q.starts,∀l,q.trail[s]?=some l->tr σ l=true): ∀(i l:Nat),q.trail[i]?=some l->tr σ l=true:=by
 intro i
 induction i using Nat.strongRecOn with
 | ind i ih=>
  intro l hl;obtain⟨v,hv,hlev,hr⟩:=x.lr i l hl
  cases hvr:v.reason with
  | none=>
   rw[hvr]at hr;rcases hr with h|h
   ·exact hd i h l hl
   ·exact H'f (x.l0 i l hl h) hσ
  | some k=>
   rw[hvr]at hr;obtain⟨-,c,hc1,hlc,hoth⟩:=hr;obtain⟨m,hm,ht⟩:=(hc k c hc1).2 σ hσ
   by_cases e:m=l
   ·subst e;exact ht
   ·have h1:=hoth m hm e;obtain⟨j,hj⟩:=l'i.1 h1;have hjl:=(l'b.1 hj).1;simp at hjl;rw[l'j (by omega)]at hj;have h2:=ih j (by omega) (m ^^^ 1) hj;rw[E'A,ht]at h2;simp at h2
theorem M'g (x:TI n G D q)(hc:CI n G q.clauses)(hσ:C'p σ G)(hd:∀s∈q.starts,∀l,q.trail[s]?=some l->tr σ l=true){l:Nat}(hl:l∈q.trail): tr σ l=true:=by
 obtain⟨i,hi⟩:=l'i.1 hl;exact R'C x hc hσ hd i l hi
theorem H'k (x:TI n G D q)(hc:CI n G q.clauses)(hσ:C'p σ G)(hd:∀s∈q.starts,∀l,q.trail[s]?=some l->tr σ l=true){k:Nat}{c:Cl}(hk:q.clauses[k]?=some c)(ha:∀m∈c.lits,m ^^^ 1∈q.trail): False:=by
 obtain⟨m,hm,ht⟩:=(hc k c hk).2 σ hσ;have h:=M'g x hc hσ hd (ha m hm);rw[E'A,ht]at h;simp at h
theorem F'p {q1:Srch}(h:E'J q=some q1): q1 = { q with starts:=q.starts++[q.trail.length] }:=by
 unfold E'J at h;split at h
 ·simpa using h.symm
 ·simp at h
theorem J'B {l:Nat}{r:Option Nat}{q1:Srch}(h:G'4 q l r=some q1): q1.trail=q.trail++[l]∧q1.starts=q.starts:=by
 unfold G'4 at h;split at h
 ·simp at h
 ·split at h
  ·simp only[l'a]at h;subst h;exact⟨rfl,rfl⟩
  ·simp at h
theorem O'q (x:All n G q.trail.length q)(hli:lits q.clauses=G){a b:Nat}(hab:a≠b)(hm:[a,b]∈G)(ha:a ^^^ 1∈q.trail): b∈q.trail:=by
 rw[<-hli]at hm;simp only[lits,List.mem_map]at hm;obtain⟨c,hc,hcl⟩:=hm;obtain⟨k,hk⟩:=l'i.1 hc;have h2:2<=c.lits.length:=by rw[hcl];simp
 obtain⟨g1,g2,g3,-,-⟩:=x.i.w.w1 k c hk h2;obtain⟨d1,d2⟩:=x.i.d k c hk h2;rw[hcl]at g1 g2;simp only[l'I,List.not_mem_nil,or_false]at g1 g2;obtain⟨j,hj⟩:=l'i.1 ha;have hjl:=(l'b.1 hj).1;rcases g1 with h|h <;> rcases g2 with h'|h'
 ·exact absurd (h.trans h'.symm) g3
 ·rw[h,h']at d1;obtain⟨j',hj',-⟩:=d1 j hjl hj;exact l'f hj'
 ·rw[h,h']at d2;obtain⟨j',hj',-⟩:=d2 j hjl hj;exact l'f hj'
 ·exact absurd (h.trans h'.symm) g3
theorem C'2 {f m:Nat}{q1 q2:Srch}{b:Int}(h1:D'z f q=some (q1,none))(h2:C'H q1=some (q2,0)): B'6 f b (m+1) q none=B'6 f b m q2 none:=by
 rw[B'6];simp only[h1,h2]
theorem G'J {f m:Nat}{q1 q2:Srch}{b:Int}(h1:D'z f q=some (q1,none))(h2:C'H q1=some (q2,1)): B'6 f b (m+1) q none=some (q2,1):=by
 rw[B'6];simp only[h1,h2]
theorem F'7 (hn:n<=192){asm:List Nat}(hA:asm.length<=1000)(hAb:∀l∈asm,l<2*n)(hG:∀c∈G,∀l∈c,l<2*n)(hne:[]∉G){f:Nat}(hf:n<f)
  (hfree : ∀ q : Srch, All n G q.trail.length q → lits q.clauses = G → (∀ l ∈ asm, l ∈ q.trail) → ∀ v, v < n → ¬ G'I q v → ∀ (σ : Nat → Bool) b, C'p σ G → C'p (fun w => if w = v then b else σ w) G):
  ∀(m:Nat)(q:Srch),All n G q.drawn q->q.assumed=asm->lits q.clauses=G->(∃σ,C'p σ G∧(∀l∈asm,tr σ l=true)∧∀s∈q.starts,∀l,q.trail[s]?=some l->tr σ l=true)->mu n q<m ->
  ∃q1,(∀budget:Int,B'6 f budget m q none=some (q1,1))∧q1.met=q.met∧q1.vars.length=n∧q1.holds.length=2*n∧∃σ:Nat->Bool,(∀v,v<n->q1.holds[2*v]?=some (σ v))∧C'p σ G∧∀l∈asm,tr σ l=true:=by
 intro m
 induction m with
 | zero=>intro q _ _ _ _ h;omega
 | succ m ih=>
  intro q x has hli hs hmu;obtain⟨σ,s1,s2,s3⟩:=hs;obtain⟨q1,clash,e1,ex1,hno,hcl⟩:=L'r hn f q x.i (by omega);have hsd:∀s∈q.starts,s<q.trail.length∨q1.trail=q.trail:=by
   intro s hs;have h1:=x.i.t.sd s hs;have h2:=x.i.t.dt
   by_cases h3:q.drawn=q.trail.length
   ·right;rw[J'A h3 e1]
   ·left;omega
  obtain⟨ex,htl⟩:=ex1.tl;have hlen1:q.trail.length<=q1.trail.length:=by rw[htl];simp
  have hmu1:mu n q1<=mu n q:=by unfold mu;rw[ex1.sm.as,ex1.st];omega
  have as1:q1.assumed=asm:=by rw[ex1.sm.as];exact has
  have mt1:q1.met=q.met:=ex1.sm.mt;have li1:lits q1.clauses=G:=by rw[ex1.li];exact hli
  have s3':∀s∈q1.starts,∀l,q1.trail[s]?=some l->tr σ l=true:=by
   intro s hs l hl;rw[ex1.st]at hs;rcases hsd s hs with h|h
   ·rw[htl,l'e h]at hl;exact s3 s hs l hl
   ·rw[h]at hl;exact s3 s hs l hl
  cases clash with
  | some k=>
   obtain⟨⟨D1,i1⟩,c,hc,hall,-⟩:=hcl k rfl;exact (H'k i1.t i1.c s1 s3' hc hall).elim
  | none=>
   obtain⟨i1,hd1⟩:=hno rfl;have x1:=ex1.all x hsd i1;have hT:∀l∈q1.trail,tr σ l=true:=λl hl=>M'g x1.i.t x1.i.c s1 s3' hl;have hdr:=e1
   cases hlit:q1.assumed[q1.starts.length]? with
   | some l=>
    have hlm:l∈asm:=by rw[<-as1];exact l'f hlit
    have hlb:=hAb l hlm;have hAl:=(l'b.1 hlit).1;have e1:l ^^^ 1∉q1.trail:=λh=>by
     have h1:=hT _ h;rw[E'A,s2 l hlm]at h1;simp at h1
    have hl1:=x1.i.t.hh _ (D'Z hlb);have hl2:=x1.i.t.hh _ hlb;simp only[e1,decide_false]at hl1
    by_cases e2:l∈q1.trail
    ·obtain⟨q2,f1,f2,f3,f4,f5,f6,f7,f8⟩:=J'y hn (by rw[as1];exact hA) x1 e2 hlit;have hgu:C'H q1=some (q2,0):=by
      unfold C'H;simp only[hlit];unfold E'q;simp only[hl1,f1,f2,hl2,e2,decide_true]
     have hq:=F'p f1;obtain⟨q3,g1,g2,g3⟩:=ih q2 (by rw[f4,hd1];exact f3) (by rw[f5.sm.as];exact as1) (by rw[f5.li];exact li1) ⟨σ,s1,s2,λs hs l' hl'=>by
      rw[hq]at hl';exact hT l' (l'f hl')⟩ (by
      unfold mu at hmu1 hmu ⊢;rw[f5.sm.as,f7,f8];omega)
     exact⟨q3,λb=>(C'2 hdr hgu).trans (g1 b),by rw[g2,f5.sm.mt,mt1],g3⟩
    ·obtain⟨q2,q3,f1,f2,f3,f4,f5,f6,f7,f8,f9⟩:=H'j hn (by rw[as1];exact hA) x1 hlb e2 e1 (λa h=>by rw[hlit]at h;simpa using h);have hgu:C'H q1=some (q3,0):=by
      unfold C'H;simp only[hlit];unfold E'q;simp only[hl1,f1,f2,hl2,e2,decide_false,f3]
     have hq:=F'p f1;have hq2:=(J'B f3).1;rw[hq]at hq2;simp only at hq2;obtain⟨q4,g1,g2,g3⟩:=ih q3 (by rw[f5,hd1];exact f4) (by rw[f6.sm.as];exact as1) (by rw[f6.li];exact li1) ⟨σ,s1,s2,λs hs l' hl'=>by
      rw[hq2]at hl';have:=l'f hl';simp only[l'E,l'm]at this;rcases this with h|rfl
      ·exact hT _ h
      ·exact s2 _ hlm⟩ (by
      unfold mu at hmu1 hmu ⊢;rw[f6.sm.as,f8,f9];omega)
     exact⟨q4,λb=>(C'2 hdr hgu).trans (g1 b),by rw[g2,f6.sm.mt,mt1],g3⟩
   | none=>
    have hAl:q1.assumed.length<=q1.starts.length:=by simpa using hlit
    have hasT:∀l∈asm,l∈q1.trail:=by
     intro l hl;rw[<-as1]at hl;obtain⟨i,hi⟩:=l'i.1 hl;have hil:=(l'b.1 hi).1;obtain⟨j,hj,-⟩:=x1.a.a1 i l hi (by omega);exact l'f hj
    obtain⟨r,e1,e2,e3⟩:=J'z x1.i.t q1.vars 0 none (by rw[x1.i.t.vl];omega)
    cases r with
    | none=>
     have hgu:C'H q1=some (q1,1):=by
      unfold C'H;simp only[hlit,F'R,e1]
     refine⟨q1,λb=>G'J hdr hgu,mt1,x1.i.t.vl,x1.i.t.hl,?_⟩;have:=Q'A x1 ⟨λv hv=>(e2 rfl).2 v (Nat.zero_le _) hv,hAl⟩ hG (λc hc=>by rw[li1];exact hc) hne;rw[as1]at this;exact this
    | some v=>
     rcases e3 v rfl with ⟨w,h⟩|⟨hvn,hno'⟩
     ·simp at h
     ·have hfr:=hfree q1 x1 li1 hasT v hvn hno';obtain⟨y,hy⟩:∃y,q1.vars[v]?=some y:=⟨_,l'c (by rw[x1.i.t.vl];exact hvn)⟩;unfold G'I at hno';have hno1:2*v∉q1.trail:=λh=>hno' (.inl h);have hno2:2*v+1∉q1.trail:=λh=>hno' (.inr h);obtain⟨l,hl⟩:=e' ((if y.last then 2*v else 2*v+1));have hlc:l=2*v∨l=2*v+1:=by rw[hl];split;exact .inl rfl;exact .inr rfl
      have hlx:l ^^^ 1=2*v∨l ^^^ 1=2*v+1:=by
       rw[E'z];rcases hlc with h|h <;> (rw[h];split <;> omega)
      obtain⟨q2,q3,f1,f2,f3,f4,f5,f6,f7,f8,f9⟩:=H'j hn (by rw[as1];exact hA) x1 (l:=l) (by omega) (by rcases hlc with h|h <;> (rw[h];assumption)) (by rcases hlx with h|h <;> (rw[h];assumption)) (λa h=>by rw[hlit]at h;simp at h);have hgu:C'H q1=some (q3,0):=by
       unfold C'H;simp only[hlit,F'R,e1,hy,f1,<-hl,f3]
      have hq:=F'p f1;have hq2:=(J'B f3).1;rw[hq]at hq2;simp only at hq2;have hlt:q1.trail.length<n:=by have:=f4.i.t.len;omega
      have hl2:l/2=v:=by omega
      have hdif:∀m∈q1.trail,m/2≠v:=by
       intro m hm e;rcases (show m=2*v∨m=2*v+1 by omega) with h|h
       ·exact hno1 (h ▸ hm)
       ·exact hno2 (h ▸ hm)
      have hold:∀m∈q1.trail,tr (λw=>if w=v then (l%2==0) else σ w) m=true:=by
       intro m hm;have h1:=hT m hm;unfold tr at h1 ⊢;simp only[if_neg (hdif m hm)];exact h1
      obtain⟨q4,g1,g2,g3⟩:=ih q3 (by rw[f5,hd1];exact f4) (by rw[f6.sm.as];exact as1) (by rw[f6.li];exact li1) ⟨λw=>if w=v then (l%2==0) else σ w,hfr σ _ s1,λm hm=>hold m (hasT m hm),λs hs l' hl'=>by
       rw[hq2]at hl';have:=l'f hl';simp only[l'E,l'm]at this;rcases this with h|rfl
       ·exact hold _ h
       ·unfold tr;simp only[hl2,if_true];exact beq_self_eq_true _⟩ (by
       unfold mu at hmu1 hmu ⊢;rw[f6.sm.as,f8,f9];omega)
      exact⟨q4,λb=>(C'2 hdr hgu).trans (g1 b),by rw[g2,f6.sm.mt,mt1],g3⟩
theorem F'8 (hn:n<=192){early:List Bool}(hE:early.length=n){asm:List Nat}(hA:asm.length<=1000)(hAb:∀l∈asm,l<2*n)(hG:∀c∈G,c.Nodup∧∀l∈c,l<2*n)(hGl:G.length<=900000){f m:Nat}(hf:n<f)(hm:asm.length+n<m)(hσ:C'p σ G)(hσ2:∀l∈asm,tr σ l=true)
  (hfree : ∀ q : Srch, All n G q.trail.length q → lits q.clauses = G → (∀ l ∈ asm, l ∈ q.trail) → ∀ v, v < n → ¬ G'I q v → ∀ (σ : Nat → Bool) b, C'p σ G → C'p (fun w => if w = v then b else σ w) G):
  ∃q1,(∀budget:Int,E'r f m (B'V early asm) G budget=some (q1,1))∧q1.met=0∧q1.vars.length=n∧q1.holds.length=2*n∧∃σ:Nat->Bool,(∀v,v<n->q1.holds[2*v]?=some (σ v))∧C'p σ G∧∀l∈asm,tr σ l=true:=by
 have hmm:most=1000000:=rfl;have t0:TI n G 0 (B'V early asm):=by
  refine⟨by simp[B'V,hE],by simp[B'V,hE],by simp[B'V],by simp[B'V],?_,by simp[B'V,Srt],by simp[B'V],by simp[B'V],by simp[B'V],by simp[B'V]⟩;intro l hl;simp[B'V,hE,List.getElem?_replicate,hl]
 have l0:LdI n G asm [] (B'V early asm) none:=by
  refine⟨t0,by intro k c h;simp[B'V]at h,⟨by simp[B'V,hE],by intro k c h;simp[B'V]at h,?_,?_⟩,⟨by simp[B'V],by simp[B'V],?_⟩,?_,rfl,rfl,by simp,by simp,rfl,rfl,rfl,rfl⟩
  ·intro l w k h1 h2;simp only[B'V,List.getElem?_replicate]at h1;split at h1
   ·simp only[l'a]at h1;subst h1;simp at h2
   ·simp at h1
  ·intro l w h1;simp only[B'V,List.getElem?_replicate]at h1;split at h1
   ·simp only[l'a]at h1;subst h1;simp
   ·simp at h1
  ·intro v hv;simp only[B'V,List.mem_map]at hv;obtain⟨e,-,rfl⟩:=hv;simp only[B'V]
   cases e <;> simp
  ·intro v hv;simp only[B'V,List.mem_map]at hv;obtain⟨e,-,rfl⟩:=hv;rfl
 obtain⟨q1,clash,e1,x1⟩:=L's (by omega) hG (by omega) G [] (B'V early asm) none (by simp) l0;simp only[l'o]at e1;have hst:q1.starts=[]:=x1.st
 cases clash with
 | some k=>
  obtain⟨c,hc,hcl⟩:=x1.cl k rfl;exact (H'k x1.t x1.c hσ (by rw[hst];simp) hc hcl).elim
 | none=>
  obtain⟨u1,u2⟩:=x1.un rfl;have x0:All n G 0 { q1 with given:=G.length }:=by
   refine⟨⟨⟨x1.t.hl,x1.t.vl,x1.t.tb,x1.t.tn,x1.t.hh,x1.t.ss,x1.t.sd,x1.t.dt,x1.t.lr,x1.t.l0⟩,x1.c,x1.w,?_,?_⟩,x1.v,x1.m,⟨?_,?_⟩,⟨?_,?_⟩,?_⟩
   ·intro k c _ _;exact⟨λd hd=>by omega,λd hd=>by omega⟩
   ·have:=congrArg List.length x1.li;simp[lits]at this;simp only;omega
   ·intro i a _ h;simp only[hst]at h;simp at h
   ·intro i s a l h;simp only[hst]at h;simp at h
   ·intro i s h;simp only[hst]at h;simp at h
   ·intro i s h;simp only[hst]at h;simp at h
   ·intro l hl;obtain⟨i,hi⟩:=l'i.1 (u1 l hl);exact⟨i,hi,by simp only[hst];rfl⟩
  obtain⟨q2,g1,g2,g3⟩:=F'7 hn hA hAb (λc hc=>(hG c hc).2) u2 hf hfree m { q1 with given:=G.length } (by show All n G q1.drawn { q1 with given:=G.length };rw[x1.dr]at x0 ⊢;exact x0) x1.asm x1.li ⟨σ,hσ,hσ2,by show ∀s∈q1.starts,_;rw[hst];simp⟩ (by
   unfold mu;simp only;rw[x1.asm];omega)
  exact⟨q2,λb=>by unfold E'r K'L;rw[e1];exact g1 b,by rw[g2];exact x1.mt,g3⟩
theorem G'K (hn0:0<n)(hn:n<=192){s:Solv}(x:SOk n s){asm:List Nat}(hab:∀l∈asm,l<2*n)(hal:asm.length<=1000)(hc:s.conflicts<B'9){f m:Nat}(hf:n<f)(hm:asm.length+n<m)(hσ:C'p σ s.clauses)(hσ2:∀l∈asm,tr σ l=true)
  (hfree : ∀ q : Srch, All n s.clauses q.trail.length q → lits q.clauses = s.clauses → (∀ l ∈ asm, l ∈ q.trail) → ∀ v, v < n → ¬ G'I q v → ∀ (σ : Nat → Bool) b, C'p σ s.clauses → C'p (fun w => if w = v then b else σ w) s.clauses):
  ∃τ:Nat->Bool,C'p τ s.clauses∧(∀l∈asm,tr τ l=true)∧∀budget:Int,0<=budget->D'A f m s asm budget=some ({ s with model:=(List.range n).map τ,core:=[] },1):=by
 have hmm:most=1000000:=rfl;have hm62:B'9=4611686018427387904:=rfl;have hdl:=L'u asm;obtain⟨q,e1,m1,v1,h1,τ,g1,g2,g3⟩:=F'8 (G:=s.clauses) (asm:=D'D asm) hn x.e (by omega) (λl hl=>hab l ((C'O _ _).1 hl)) x.c x.l hf (m:=m) (by omega) hσ (λl hl=>hσ2 l ((C'O _ _).1 hl)) (λq a b c=>hfree q a b λl hl=>c l ((C'O _ _).2 hl));have hcond:∀budget:Int,0<=budget->E's s.early.length asm=true∧asm.length<most∧0<=budget∧0<s.early.length∧s.early.length<=192∧s.clauses.length<most:=by
  rw[x.e];exact λbudget hb=>⟨(F'2 _ _).2 hab,by omega,hb,hn0,by omega,by have:=x.l;omega⟩
 have hcond2:s.conflicts<B'9∧q.met<=B'9∧q.vars.length=s.early.length∧q.holds.length=2*s.early.length:=by
  rw[x.e];exact⟨hc,by omega,v1,h1⟩
 refine⟨τ,g2,λl hl=>g3 l ((C'O _ _).2 hl),λbudget hb=>?_⟩;unfold D'A;rw[if_pos (hcond budget hb),e1];simp only;rw[if_pos hcond2,m1,x.e];simp only[if_true,Nat.add_zero,l'a,l'd,and_true];have:(List.range n).map (λv=>q.holds.getD (2*v) false)=(List.range n).map τ:=by
  refine List.map_congr_left λv hv=>?_;rw[l'r,g1 v (by simpa using hv)];rfl
 rw[this];simp
theorem L'v {s s':Solv}{l:List Nat}(h:H'O s l=some s'): (∀c∈s.clauses,c∈s'.clauses)∧(D'D l=l->B's l=false->l∈s'.clauses):=by
 unfold H'O at h;split at h
 ·simp only[l'a]at h;subst h;split
  ·rename_i ha
   exact⟨λc hc=>hc,λh1 h2=>by rw[h1,h2]at ha;simp at ha⟩
  ·exact⟨λc hc=>by simp[hc],λh1 _=>by simp[h1]⟩
 ·simp at h
theorem F'9: ∀(ls:List (List Nat)){s s':Solv},C'm ls s=some s'->(∀c∈s.clauses,c∈s'.clauses)∧∀l∈ls,D'D l=l->B's l=false->l∈s'.clauses:=by
 intro ls
 induction ls with
 | nil=>intro s s' h;simp only[C'm,l'a]at h;subst h;exact⟨λc h=>h,by simp⟩
 | cons l r ih=>
  intro s s' h;unfold C'm at h;split at h
  ·simp at h
  ·rename_i s1 h1
   obtain⟨a,b⟩:=L'v h1;obtain⟨c,d⟩:=ih h;refine⟨λx hx=>c x (a x hx),λx hx e1 e2=>?_⟩;rcases l'I.1 hx with rfl|hx
   ·exact c _ (b e1 e2)
   ·exact d x hx e1 e2
end
end Go.Ta
