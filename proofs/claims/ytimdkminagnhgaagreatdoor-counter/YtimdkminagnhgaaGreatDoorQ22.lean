import Derived.Test.YtimdkminagnhgaaGreatDoorQ21
set_option linter.all false
namespace Go.Ta
theorem K'F: ∀(cls:List Cl)(r r':List Int),C'2 cls r=some r'->r'.length=r.length:=by
 intro cls
 induction cls with
 | nil=>intro r r' h;simp only[C'2,l'a]at h;rw[h]
 | cons c l ih=>
  intro r r' h;unfold C'2 at h;split at h
  ·simp at h
  ·rw[ih _ _ h,List.length_set]
theorem M'5: ∀(cls:List Cl)(r r':List Int),C'2 cls r=some r'->(∀x∈r,0<=x)->∀x∈r',0<=x:=by
 intro cls
 induction cls with
 | nil=>intro r r' h h0;simp only[C'2,l'a]at h;rw[<-h];exact h0
 | cons c l ih=>
  intro r r' h h0;unfold C'2 at h;split at h
  ·simp at h
  ·rename_i x hx
   refine ih _ _ h λy hy=>?_;rcases List.mem_or_eq_of_mem_set hy with hy|rfl
   ·exact h0 y hy
   ·have:=h0 x (l'f hx);omega
theorem Q'r: ∀(r:List Int) (f:Int),0<=f->(∀x∈r,0<=x)->∀y∈D'o r f,0<=y∧y<=f:=by
 intro r
 induction r with
 | nil=>intro f _ _ y hy;simp[D'o]at hy
 | cons x r ih=>
  intro f hf h y hy;have hx:=h x (by simp);simp only[D'o,l'I]at hy;rcases hy with rfl|hy
  ·split <;> omega
  ·have:=ih _ (by split <;> omega) (λz hz=>h z (by simp[hz])) y hy;split at this <;> omega
theorem F'K: ∀(cls:List Cl)(st:List Bool)(c:Cl),c∈B'v cls st->c∈cls:=by
 intro cls
 induction cls with
 | nil=>intro st c h;cases st <;> simp[B'v]at h
 | cons a l ih=>
  intro st c h
  cases st with
  | nil=>simp[B'v]at h
  | cons b s=>
   simp only[B'v]at h;split at h
   ·rcases l'I.1 h with rfl|h
    ·simp
    ·exact List.mem_cons_of_mem _ (ih s c h)
   ·exact List.mem_cons_of_mem _ (ih s c h)
theorem M'6 {st:List Bool}: ∀(tr:List Nat)(vs vs':List Vr),D'5 st tr vs=some vs'->st.length<=most->(∀v∈vs,v.Ok)->vs'.length=vs.length∧∀v∈vs',v.Ok:=by
 have hm:most=1000000:=rfl;intro tr
 induction tr with
 | nil=>intro vs vs' h _ h0;simp only[D'5,l'a]at h;subst h;exact⟨rfl,h0⟩
 | cons l r ih=>
  intro vs vs' h hs h0;unfold D'5 at h;split at h
  ·simp at h
  ·rename_i v hv
   split at h
   ·exact ih _ _ h hs h0
   ·rename_i k hk
    split at h
    ·rename_i hst
     have hkl:=(l'b.1 hst).1;have hv0:=h0 v (l'f hv);obtain⟨a,b⟩:=ih _ _ h hs (λu hu=>by
      rcases List.mem_or_eq_of_mem_set hu with hu|rfl
      ·exact h0 u hu
      ·refine⟨hv0.weight,λj hj=>?_,hv0.level⟩;simp only[l'a]at hj;have:=E'9 st k;omega)
     exact⟨by rw[a,List.length_set],b⟩
    ·simp at h
theorem K'G {S S':Srch}{k:Nat}(h:C'C S k=some S')(B:Bd S)(hk:k<2*most): Bd S':=by
 unfold C'C at h;split at h
 ·simp at h
 ·rename_i y hy
  split at h
  ·simp at h
  ·rename_i a ha
   split at h
   ·rename_i hla
    split at h
    ·simp at h
    ·rename_i b hb
     split at h
     ·rename_i hlb
      simp only[l'a]at h;subst h;have h1:∀l∈S.watchers.set y.left (a++[k]),l.length<=most∧∀j∈l,j<2*most:=λl hl=>by
       rcases List.mem_or_eq_of_mem_set hl with hl|rfl
       ·exact B.wl l hl
       ·refine⟨by simp;omega,λj hj=>?_⟩;rcases l'E.1 hj with hj|hj
        ·exact (B.wl a (l'f ha)).2 j hj
        ·simp only[l'm]at hj;rw[hj];exact hk
      refine⟨B.cls,B.nC,by simpa using B.nW,B.nH,B.nV,B.nS,B.nT,B.nA,B.nK,λl hl=>?_,B.tr,B.st,B.asm,B.vr,B.gv,B.dr,B.bo,B.me⟩;rcases List.mem_or_eq_of_mem_set hl with hl|rfl
      ·exact h1 l hl
      ·refine⟨by simp;omega,λj hj=>?_⟩;rcases l'E.1 hj with hj|hj
       ·exact (h1 b (l'f hb)).2 j hj
       ·simp only[l'm]at hj;rw[hj];exact hk
     ·simp at h
   ·simp at h
theorem M'7: ∀(m k:Nat)(S S':Srch),E'B m k S=some S'->Bd S->Bd S':=by
 intro m
 induction m with
 | zero=>intro k S S' h B;simp only[E'B,l'a]at h;subst h;exact B
 | succ m ih=>
  intro k S S' h B;unfold E'B at h;split at h
  ·simp at h
  ·rename_i y hy
   have hkl:=(l'b.1 hy).1;have:=B.nC;split at h
   ·split at h
    ·simp at h
    ·rename_i S2 h2
     exact ih _ _ _ h (K'G h2 B (by have:most=1000000:=rfl;omega))
   ·exact ih _ _ _ h B
theorem M'8: ∀(cls:List Cl)(st:List Bool),(B'v cls st).length<=cls.length∧(B'v cls st).length<=st.length:=by
 intro cls
 induction cls with
 | nil=>intro st;cases st <;> simp[B'v]
 | cons a l ih=>
  intro st
  cases st with
  | nil=>simp[B'v]
  | cons b s=>
   have:=ih s;simp only[B'v];split <;> simp <;> omega
theorem K'H {cls:List Cl}{given:Nat}: ∀(k:Nat)(room:List Int)(acc st:List Bool),D'N cls given k room acc=some st->st.length=k+acc.length:=by
 intro k
 induction k with
 | zero=>intro room acc st h;simp only[D'N,l'a]at h;subst h;simp
 | succ k ih=>
  intro room acc st h;unfold D'N at h;split at h
  ·simp at h
  ·split at h
   ·simp at h
   ·rw[ih _ _ _ h];simp;omega
theorem K'I {vars:List Vr}: ∀(tr:List Nat)(st st':List Bool),D'D vars tr st=some st'->st'.length=st.length:=by
 intro tr
 induction tr with
 | nil=>intro st st' h;simp only[D'D,l'a]at h;subst h;rfl
 | cons l r ih=>
  intro st st' h;unfold D'D at h;split at h
  ·simp at h
  ·split at h
   ·exact ih _ _ h
   ·split at h
    ·rw[ih _ _ h];simp
    ·simp at h
theorem M'9 {S S':Srch}(hs:H'J S=some S')(B:Bd S): Bd S':=by
 unfold H'J at hs;split at hs
 ·split at hs
  ·simp only[l'a]at hs;subst hs;exact B
  ·split at hs
   ·simp at hs
   ·split at hs
    ·simp at hs
    ·rename_i st0 h2
     split at hs
     ·simp at hs
     ·rename_i st h3
      split at hs
      ·simp at hs
      ·rename_i vs h5
       have hl:=K'I _ _ _ h3;rw[K'H _ _ _ _ h2]at hl;have hnC:=B.nC;obtain⟨v1,v2⟩:=M'6 _ _ _ h5 (by rw[hl];simpa using hnC) B.vr;have hk:=M'8 S.clauses st;refine M'7 _ _ _ _ hs ⟨λy hy=>B.cls y (F'K _ _ _ hy),l'G hk.1 hnC,by simpa using B.nW,B.nH,by simp only;rw[v1];exact B.nV,B.nS,B.nT,B.nA,B.nK,λl hl=>?_,B.tr,B.st,B.asm,v2,B.gv,B.dr,B.bo,B.me⟩;simp only[List.mem_map]at hl;obtain⟨-,-,rfl⟩:=hl;exact⟨Nat.zero_le _,by simp⟩
 ·simp at hs
end Go.Ta
namespace Go.Proofs.YtimdkminagnhgaaGreatDoor
open Go.Vm Go.Proofs Go.Ta
set_option maxHeartbeats 4000000
section
variable {H:Type}{O:HI H}{ro:Nat}{c:A'Z H}
attribute [local simp] A'a A'b reg to too A'd A'q A'h mv' nl' fl' ld' ln' mk' ia' ik' ix' B'F B'G aLd B'h A'w A'4 aUn unA ev A'l isB A'0 A'E A'F A'G A'H A'I A'J A'K A'L A'M cIf A'B A'f A'g aSt A'N A't A'O A'P A'Q A'9 A'R A'u A'S A'T B'a A'U A'v A'V A'W A'X B'b A'p Instr.fill A'e A'n A'x A'j ptr undef B'o B'y A'k B's A's A'D B'C A'y B'p rangeA B'O A'r A'2 A'z B'd A'm A'o chk
variable {w w':Own}{h h':H}{q:Nat}{S:Srch}{bW bH bV:Nat}{vA vC vT vS vK:Value}{lv wv:List Value}
theorem Q's (C:LP' O ro c)(L:O.Law)(x:SQ O ro w h q S bW bH bV vA vC vT vS vK lv wv)(B:Bd S){S':Srch}(hs:H'J S=some S'):
  ∃vC' lv' wv' h' w',c 228 [ptr q] h=some (.tuple #[],h')∧SQ O ro w' h' q S' bW bH bV vA vC' vT vS vK lv' wv'∧Ch O K11 w h w' h':=by
 have hm:most=1000000:=rfl;have hnC:=B.nC;unfold H'J at hs
 by_cases hg:S.given<=S.clauses.length
 ·rw[if_pos hg]at hs
  by_cases h4:S.clauses.length-S.given<4000
  ·rw[if_pos h4]at hs;simp only[l'a]at hs;subst hs;exact⟨vC,lv,wv,h,w,S'O C L x B hg h4,x,Ch.refl _ _ _⟩
  ·rw[if_neg h4]at hs
   cases h1:C'2 (S.clauses.drop S.given) (List.replicate 193 0) with
   | none=>rw[h1]at hs;simp at hs
   | some rF=>
    rw[h1]at hs;simp only at hs
    cases h2:D'N S.clauses S.given S.clauses.length (D'o rF 2000) []with
    | none=>rw[h2]at hs;simp at hs
    | some st0=>
     rw[h2]at hs;simp only at hs
     cases h3:D'D S.vars S.trail st0 with
     | none=>rw[h3]at hs;simp at hs
     | some st=>
      rw[h3]at hs;simp only at hs
      cases h5:D'5 st S.trail S.vars with
      | none=>rw[h5]at hs;simp at hs
      | some vF=>
       rw[h5]at hs;simp only at hs;have hrF:rF.length=193:=by rw[K'F _ _ _ h1];exact List.length_replicate
       have hnn:=M'5 _ _ _ h1 (λy hy=>by rw[List.eq_of_mem_replicate hy];exact Int.le_refl 0);have hrb:∀(i:Nat) (y:Int),(D'o rF 2000)[i]?=some y->0<=y∧y<=1000000:=λi y hy=>by
        have:=Q'r rF 2000 (by omega) hnn y (l'f hy);omega
       have hC0:0<S.clauses.length:=by omega
       obtain⟨b1,k1,g1,w1,e1,hstl,y1,-,c1⟩:=K'C C L x (by omega) hC0 (by have:=B.nT;omega) (λl hl=>by have:=B.tr l hl;omega) hg h1 hrF hrb h2 h3;have x1:=x.ch L c1;obtain⟨N,hN⟩:=e' (S.clauses.length);obtain⟨k5,hk5⟩:=B'i w1 (O.next g1);have n5:=Bx.new L (ro:=ro) w1 g1 x1.lo (14,k5) (List.replicate N (.int .i64 0));have c2:=Ch.new L (λ_=>False) w1 g1 (14,k5) (List.replicate N (.int .i64 0));obtain⟨w2,hw2⟩:=e' (w1.set (O.next g1) (14,k5));obtain⟨b5,hb5⟩:=e' (O.next g1);obtain⟨g2,hg2⟩:=e' (O.new g1 (List.replicate N (.int .i64 0)));rw[<-hw2]at n5 c2;rw[<-hg2]at n5 c2;rw[<-hb5]at n5;have hkk:k1≠k5:=λe=>by
        have:=hk5 b1 (y1.lt L);rw[y1.tag,e]at this;exact this rfl
       have y2:=y1.ch L c2;have x2:=x1.ch L c2;have c12:=c1.trans c2;have key:∃u h',c 228 [ptr q] h=some (u,h')∧(u = .tuple #[]∧∃vC' lv' wv' w',SQ O ro w' h' q S' bW bH bV vA vC' vT vS vK lv' wv'∧Ch O (K5 k5) w2 g2 w' h'):=by
        refine C.fn (K'v O ro) rfl rfl ?_;unfold U'm;have m1:=x.m.get 1 _ rfl;have m2:=x.m.get 2 _ rfl;have m3:=x.m.get 3 _ rfl;obtain⟨bC,hvC,-⟩:=x.sC.blk (by omega) N (by rw[A'A clC 4 B'Q];simp[x.lC,hN]) (by omega);rw[hvC]at m1;have m1b:=x1.m.get 1 _ rfl;rw[hvC]at m1b;have hw:IntKind.i64.wrap ((N:Int)-(S.given:Int))=((N-S.given:Nat):Int):=w'i;obtain⟨dd,hdd⟩:=e' (N-S.given);rw[<-hdd]at hw;have h6:¬(dd:Int)<4000:=by omega
        have h7:¬dd<4000:=by omega
        have r1:=D'O (.int .i64 0) N;have hb8:(N:Int)*8<=140737488355328:=by omega
        have hb9:(N:Int)<=140737488355328:=by omega
        have hb10:N*8<=140737488355328:=by omega
        have hb11:N<=140737488355328:=by omega
        unfold ptr at e1;rw[<-hN]at e1;refine okE.seq (s'f ?_);simp[Zi3,m1,m2,m3,hw,h6,h7,A'c];refine f'f ?_;simp[A'c];refine s'f ?_;simp[Zi4,A'c,e1];refine s'f ?_;simp[-rangeA,Zi5,A'c,m1b,r1,hb8,hb9,hb10,hb11,<-hg2,<-hb5];refine s'f ?_;simp[Zi6,A'c];refine okE.seq (s'f ?_);simp[Zi7,A'c];refine okE.blk ?_;refine okE.mono (okE.loop (Q:=λe t' g'=>A'j 0 e = .normal∧mBQ O ro w2 g2 q S bW bH bV vA vC vT vS vK wv b5 k5 st t' g') (mB O ro w2 g2 q S bW bH bV vA vC vT vS vK wv b1 b5 k1 k5 st) (λn t g I=>Q'p L hkk (by omega) hstl I) N _ _ ⟨by simp,by simp[hN],by simp[hN],0,S.clauses,lv,List.replicate N 0,by simp[B'm],by simp,by omega,rfl,by simp[B'm,B'v],λ_ _=>rfl,by simp[hN],λj hj=>by omega,x2,y2,by rw[List.map_replicate];exact n5,Ch.refl _ _ _⟩) ?_;rintro e t g ⟨hr,d0,d3,M,V,P,d4,hMl,hMt,hPl,hP,x3,y5,ch⟩;rw[hr];simp only[A'c];obtain⟨cn,hcn⟩:=e' (B'm st S.clauses.length);have hple:=E'9 st S.clauses.length;rw[<-hcn]at d4 hMt hple;obtain⟨g4,e4,x4,ch4⟩:=x3.takeC L (k:=cn) (b:=bC) (by simp only[hMl];exact hple) (by simp only[hMl];rw[hvC,hN]);rw[hMt]at x4;simp only at x4;have z5:=y5.ch L ch4 (by simp[K11]);have m1c:=x3.m.get 1 _ rfl;rw[hvC]at m1c;have hcN:cn<=N:=by omega
        have hcN':(cn:Int)<=N:=by omega
        have rq:¬q<ro:=by have:=x.m.lo;omega
        refine s'f ?_;simp[Zje,A'c,d0,d4,m1c,hcN,hcN',rq,e4];refine okE.seq (s'f ?_);simp[Zjf,A'c];refine okE.blk ?_;have ch24:Ch O (K5 k5) w2 g2 w2 g4:=ch.trans (ch4.mono λt ht=>.inl ht);refine okE.mono (okE.loop (Q:=λe t' g'=>A'j 2 e = .normal∧t' 0 = .pointer (some ⟨q,0,none⟩)∧SQ O ro w2 g' q { S with clauses:=B'v S.clauses st,vars:=vF } bW bH bV vA (.slice (some ⟨bC,0,some 4⟩) cn 0) vT vS vK (V.take cn) wv∧Ch O (K5 k5) w2 g2 w2 g') (mC O ro w2 g2 q { S with clauses:=B'v S.clauses st } bW bH bV vA (.slice (some ⟨bC,0,some 4⟩) cn 0) vT vS vK (V.take cn) wv b5 N k5 st P vF) (λn t g I=>Q'q L (by omega) (by rw[hPl,hN]) hP (by have:=B.nT;simp only;omega) (λl hl=>by have:=B.tr l hl;omega) I) S.trail.length _ _ ⟨by simp[d0],by simp[d3,hN],0,S.vars,by simp,by simp,by simpa using h5,x4,z5,ch24⟩) ?_;rintro e t g ⟨hr,d0,x5,ch5⟩;rw[hr];simp only[A'c];obtain⟨wv6,g6,w6,e6,x6,ch6⟩:=S'P C L x5 (by
         have:(B'v S.clauses st).length<=S.clauses.length:=by rw[<-hMt,List.length_take,hMl];omega
         simp only;omega) (λy hy=>by
         exact (B.cls y (F'K _ _ _ hy)).len) B.nW hs
        unfold ptr at e6;refine f'f ?_;simp[Zjl,d0,e6,A'1,A'i];exact⟨_,_,wv6,w6,x6,ch5.trans (ch6.mono λt ht=>.inl ht)⟩
       obtain⟨u,h',e0,rfl,vC',lv',wv',w',x',c'⟩:=key;refine⟨vC',lv',wv',h',w',e0,x',?_⟩;have f5:∀b,b<O.next h->w b≠((14,k5):Tag):=λb hb=>by
        have h9:=hk5 b (Nat.lt_of_lt_of_le hb c1.nx);rw[c1.ow b hb]at h9;exact h9
       refine⟨l'G c12.nx c'.nx,λb hb=>?_,λb hb hK=>?_⟩
       ·rw[c'.ow b (Nat.lt_of_lt_of_le hb c12.nx),c12.ow b hb]
       ·have q1:=c12.fr b hb (by simp);have q2:=c'.fr b (Nat.lt_of_lt_of_le hb c12.nx) (by
         rw[c12.ow b hb];rintro (h|h)
         ·exact hK h
         ·exact f5 b hb h)
        exact⟨λo=>by rw[q2.1,q1.1],by rw[q2.2,q1.2]⟩
 ·rw[if_neg hg]at hs;simp at hs
end
end Go.Proofs.YtimdkminagnhgaaGreatDoor
