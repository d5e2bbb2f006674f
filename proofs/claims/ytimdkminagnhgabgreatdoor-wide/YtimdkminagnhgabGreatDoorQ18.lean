import Derived.Test.YtimdkminagnhgabGreatDoorQ17
set_option linter.all false
namespace Go.Ta
theorem H'P {S S':Srch}{y:Cl}(hs:D'm S y=some S')(B:Bd S)(hy:y.Ok): Bd S'∧S'.clauses=S.clauses++[y]∧S'.trail=S.trail∧S'.starts=S.starts∧S'.vars=S.vars∧S'.holds=S.holds∧S'.assumed=S.assumed∧S'.core=S.core∧S'.met=S.met∧S'.given=S.given:=by
 have hm:most=1000000:=rfl;unfold D'm at hs;split at hs
 ·rename_i hlt
  unfold F'S at hs;have hg:(S.clauses++[y])[S.clauses.length]?=some y:=by simp
  simp only[hg]at hs;split at hs
  ·simp at hs
  ·rename_i a ha
   split at hs
   ·rename_i hal
    split at hs
    ·simp at hs
    ·rename_i b hb
     split at hs
     ·rename_i hbl
      simp only[l'a]at hs;subst hs;have hk:S.clauses.length<2*most:=by omega
      have ok1:∀l∈S.watchers.set y.left (a++[S.clauses.length]),l.length<=most∧∀k∈l,k<2*most:=by
       intro l hl;rcases List.mem_or_eq_of_mem_set hl with hl|rfl
       ·exact B.wl l hl
       ·refine⟨by simp;omega,λj hj=>?_⟩;rcases l'E.1 hj with hj|hj
        ·exact (B.wl a (getElem?_mem ha)).2 j hj
        ·simp at hj;subst hj;exact hk
      refine⟨⟨?_,by simp;omega,by simpa using B.nW,B.nH,B.nV,B.nS,B.nT,B.nA,B.nK,?_,B.tr,B.st,B.asm,B.vr,B.gv,B.dr,B.bo,B.me⟩,rfl,rfl,rfl,rfl,rfl,rfl,rfl,rfl,rfl⟩
      ·intro z hz;rcases l'E.1 hz with hz|hz
       ·exact B.cls z hz
       ·simp at hz;subst hz;exact hy
      ·intro l hl;rcases List.mem_or_eq_of_mem_set hl with hl|rfl
       ·exact ok1 l hl
       ·refine⟨by simp;omega,λj hj=>?_⟩;rcases l'E.1 hj with hj|hj
        ·exact (ok1 b (getElem?_mem hb)).2 j hj
        ·simp at hj;subst hj;exact hk
     ·simp at hs
   ·simp at hs
 ·simp at hs
end Go.Ta
namespace Go.Ta
def K'S (l:List Nat)(i:Nat): Prop:=∀j,j<i->∀x y,l[i]?=some x->l[j]?=some y->y≠x ^^^ 1
theorem F'U {l:List Nat}(h:∀i,i<l.length->K'S l i): B's l=false:=by
 rw[Bool.eq_false_iff];intro ha;unfold B's at ha;rw[List.any_eq_true]at ha;obtain⟨⟨x,i⟩,hx,hy⟩:=ha;rw[List.any_eq_true]at hy;obtain⟨y,hy,he⟩:=hy;have hxi:=List.mem_zipIdx_iff_getElem?.1 hx;simp only at hxi;obtain⟨j,hj⟩:=l'i.1 hy;have hjl:=(l'b.1 hj).1;simp at hjl;rw[l'j (by omega)]at hj;exact h i (l'b.1 hxi).1 j (by omega) x y hxi hj (by simpa using he)
theorem G'A {l:List Nat}{i j x y:Nat}(hj:j<i)(hx:l[i]?=some x)(hy:l[j]?=some y)(he:y=x ^^^ 1): B's l=true:=by
 unfold B's;rw[List.any_eq_true];refine⟨(x,i),List.mem_zipIdx_iff_getElem?.2 hx,?_⟩;rw[List.any_eq_true];refine⟨y,l'i.2 ⟨j,by rw[l'j hj];exact hy⟩,by simpa using he⟩
end Go.Ta
namespace Go.Proofs.YtimdkminagnhgabGreatDoor
open Go.Vm Go.Proofs Go.Ta
set_option maxHeartbeats 4000000
attribute [local simp] A'b A'c reg to too A'a A'n A'i mv' nl' fl' ld' ln' mk' ia' ik' ix' B'C B'D aLd A'5 A'q A'2 aUn unA ev A'k isB A'Z A'C A'D A'E A'F A'G A'H A'I A'J A'K cIf A'y A'f A'g aSt A'M A't A'N A'O A'P B'c A'Q A'u A'R A'S B'd A'T A'v A'U A'V A'W B'e A'l Instr.fill A'e A'r A'z A's ptr undef B'o B'r A'j B'n A'w A'B B'A A'x B'p rangeA B'E A'o A'4 A'A B'i A'p A'm chk
section
variable {H:Type}{O:HI H}{ro:Nat}{c:A'X H}
variable {w w':Own}{h h':H}{q:Nat}{S:Srch}{bW bH bV:Nat}{vA vC vT vS vK:Value}{lv wv:List Value}
theorem F'T (k:Nat): (((k:Nat):Int) == -1)=false:=by
 rw[l'A];omega
theorem G'z {l:Nat}(h:l<most): l ^^^ 1<most:=by
 have hm:most=1000000:=rfl;have h1:(l ^^^ 1)/2=l/2:=by rw[Nat.xor_div_two];simp
 omega
theorem N'F (C:LP' O ro c)(L:O.Law)(x:SQ O ro w h q S bW bH bV vA vC vT vS vK lv wv)(B:Bd S)(fallen:Nat)(hf:fallen<most){S':Srch}{clash:Option Nat}(hs:E'Z S fallen=some (S',clash)):
  ∃vT' wv' h' w',c 214 [ptr q,ni fallen] h=some (rv clash,h')∧SQ O ro w' h' q S' bW bH bV vA vC vT' vS vK lv wv'∧Ch O K11 w h w' h'∧Bd S':=by
 have hm:most=1000000:=rfl;unfold E'Z at hs
 cases hwl:S.watchers[fallen]? with
 | none=>rw[hwl]at hs;simp at hs
 | some wl=>
  rw[hwl]at hs;simp only at hs
  cases hR:B'W fallen wl.length S 0 0 none with
  | none=>rw[hR]at hs;simp at hs
  | some R=>
   rw[hR]at hs;obtain⟨v,hv,cv,sv⟩:=x.getW fallen hwl;have hN:wl.length<=most:=(B.wl wl (getElem?_mem hwl)).1;have hfl:=(l'b.1 hwl).1;have hfl':(fallen:Int)<S.watchers.length:=by omega
   have m4:=x.m.get 4 _ rfl;have key:∃u h',c 214 [ptr q,ni fallen] h=some (u,h')∧(u=rv clash∧∃vT' wv' w',SQ O ro w' h' q S' bW bH bV vA vC vT' vS vK lv wv'∧Ch O K11 w h w' h'∧Bd S'):=by
    refine C.fn (N'v O ro) rfl rfl ?_;unfold R'4;have s1:okE c (A'c (Zha O)) (upd (A'Z [ptr q,ni fallen]) 4 (.int .i64 0),h) (λe t g=>e = .normal∧g=h∧t 0 = .pointer (some ⟨q,0,none⟩)∧t 1=ni fallen∧t 5=v):=by
     refine f'f ?_;simp[Zha,m4,hfl,hfl',cv]
    refine s'f ?_;simp only[Zg9,A'c,reg,to,A'i,mv',nl',fl',ld',ln',mk',ia',ik',ix',ev,l'l,A'g,A'd];refine okE.seq (s1.mono ?_);rintro e t g ⟨rfl,rfl,b0,b1,b5⟩;simp only[A'd];refine s'f ?_;simp only[Zhb,A'c,reg,to,A'i,mv',nl',fl',ld',ln',mk',ia',ik',ix',ev,l'l,A'g,A'd];refine s'f ?_;simp only[Zhc,A'c,reg,to,A'i,mv',nl',fl',ld',ln',mk',ia',ik',ix',ev,l'l,A'g,A'd];refine okE.seq (s'f ?_);simp only[Zhd,A'c,reg,to,A'i,mv',nl',fl',ld',ln',mk',ia',ik',ix',ev,l'l,A'g,A'd];have loop:okE c (A'z 0 (A'1 (D'S O Tryz.prog ro))) (upd (upd (upd t 6 (.int .i64 (-1))) 7 (.int .i64 0)) 8 (.int .i64 0),g) (λe t' g'=>e = .normal∧∃w1 wv1 vT1,VI O ro w g q fallen wl.length bW bH bV vA vC vS vK lv v 0 R.1 wl.length R.2.1 w1 wv1 vT1 g'∧t' 0 = .pointer (some ⟨q,0,none⟩)∧t' 1=ni fallen∧t' 5=v∧t' 6=rv R.2.2∧t' 7=ni R.2.1):=by
     refine okE.blk ?_;refine okE.loop (λn t g'=>∃S1 i kept cl w1 wv1 vT1,VI O ro w g q fallen wl.length bW bH bV vA vC vS vK lv v n S1 i kept w1 wv1 vT1 g'∧B'W fallen n S1 i kept cl=some R∧t 0 = .pointer (some ⟨q,0,none⟩)∧t 1=ni fallen∧t 5=v∧t 6=rv cl∧t 7=ni kept∧t 8=ni i) ?_ wl.length _ _
      ⟨S,0,0,none,w,wv,vT,⟨x,Ch.refl _ _ _,B,hv,⟨wl,hwl,rfl⟩,by omega,by omega⟩,hR,by simp[A'k,b0],by simp[A'k,b1],by simp[A'k,b5],by simp[A'k,rv],by simp[A'k],by simp[A'k]⟩
     rintro n t g' ⟨S1,i,kept,cl,w1,wv1,vT1,I,hRn,d0,d1,d5,d6,d7,d8⟩
     cases n with
     | succ n=>
      refine (K'O C L hf hN I cl hRn t d0 d1 d5 d6 d7 d8).mono ?_;rintro e t' g2 ⟨rfl,S2,kept2,clash2,w2,wv2,vT2,I2,hR2,f0,f1,f5,f6,f7,f8⟩;exact .inl ⟨rfl,n,by omega,S2,i+1,kept2,clash2,w2,wv2,vT2,I2,hR2,f0,f1,f5,f6,f7,f8⟩
     | zero=>
      simp only[B'W,l'a]at hRn;have hin:=I.hi;obtain⟨wl1,hwl1,hlen1⟩:=I.wl;obtain⟨aL,cL,hvv⟩:=(I.x.aW fallen wl1 v hwl1 I.wv).m.len (by omega) wl.length (by simp[hlen1]);have hni:¬((i:Int)<wl.length):=by omega
      have hni':¬(i<wl.length):=by omega
      subst hRn;obtain rfl:i=wl.length:=by omega
      refine f'f ?_;simp[D'S,Zhe,d0,d1,d5,d6,d7,d8,hvv];rw[hvv]at I;exact⟨w1,wv1,vT1,I⟩
    refine loop.mono ?_;rintro e t1 g1 ⟨rfl,w1,wv1,vT1,I,d0,d1,d5,d6,d7⟩;simp only[A'd];obtain⟨R1,kept,cl⟩:=R;simp only at I d6 d7 hs;obtain⟨wl1,hwl1,hlen1⟩:=I.wl;rw[hwl1]at hs;simp only[l'a,l'd]at hs;obtain⟨hS',rfl⟩:=hs;have hk:=I.hk;have sv1:=I.x.aW fallen wl1 v hwl1 I.wv;have hfl1:fallen<R1.watchers.length:=(l'b.1 hwl1).1;have hfl1':(fallen:Int)<R1.watchers.length:=by omega
    have n4:=I.x.m.get 4 _ rfl;have rW:¬bW<ro:=by have:=I.x.xW.lo;omega
    obtain⟨v',hv'1,hv'2,hv'3⟩:∃v',Sz O ro w1 g1 (12,fallen) 1 v' ((wl1.take kept).map ni)∧(A'p 1 (.tmp 74) none (some (.tmp 75)) c (upd (upd (λ_=>undef) 74 v) 75 (ni kept)) g1=some (v',g1))∧(v'.cells = #[v']∧B'f v'=true):=by
     rcases Sz.take sv1 (by omega) wl1.length kept (by simp) (by omega) with ⟨rfl,rfl,h0,hnil⟩|⟨b,rfl,s2⟩
     ·refine⟨.slice none 0 0,?_,by simp,rfl,rfl⟩;have:wl1=[]:=by simpa using hnil
      subst this;exact Sz.nil _ _ _ _
     ·refine⟨_,by simpa [List.map_take]using s2,?_,rfl,rfl⟩;have e1:((kept:Int)<=wl1.length):=by omega
      have e2:kept<=wl1.length:=by omega
      simp[e1,e2]
    obtain⟨h2,p2,x2,c2⟩:=I.x.setW L fallen hfl1 hv'1;have hsl:∀t:Env,t 74=v->t 75=ni kept->A'p 1 (.tmp 74) none (some (.tmp 75)) c t g1=some (v',g1):=by
     intro t e1 e2;rw[<-hv'2];simp only[A'p,ev,e1,e2,A'k,l'l,Option.map_none];rfl
    have B2:Bd S':=by
     rw[<-hS'];have Bo:=I.bd;exact⟨Bo.cls,Bo.nC,by simpa using Bo.nW,Bo.nH,Bo.nV,Bo.nS,Bo.nT,Bo.nA,Bo.nK,λl hl=>by
      rcases List.mem_or_eq_of_mem_set hl with hl|rfl
      ·exact Bo.wl l hl
      ·have:=Bo.wl wl1 (getElem?_mem hwl1);exact⟨by simp;omega,λj hj=>this.2 j (List.mem_of_mem_take hj)⟩,Bo.tr,Bo.st,Bo.asm,Bo.vr,Bo.gv,Bo.dr,Bo.bo,Bo.me⟩
    have s17:okE c (A'c (Zhq O ro)) (t1,g1) (λe t g=>e = .normal∧g=h2∧t 6=rv cl):=by
     refine f'f ?_;simp[Zhq,d0,d1,d5,d6,d7,n4,hfl1,hfl1',rW,hsl,p2,hv'3.1,hv'3.2,-A'p]
    refine okE.seq (s17.mono ?_);rintro e t2 g2 ⟨rfl,rfl,e6⟩;simp only[A'd];refine f'f ?_;have ht:B'j (rv cl)=false:=by cases cl <;> rfl
    simp[Zhr,e6,A'L,A'h,rvE,ht];exact⟨vT1,wv1.set fallen v',w1,by rw[<-hS'];exact x2,I.ch.trans c2,B2⟩
   obtain⟨u,h',e1,rfl,vT',wv',w',e2⟩:=key;exact⟨vT',wv',h',w',e1,e2⟩
def DrI (O:HI H)(ro:Nat)(w:Own)(h:H)(q bW bH bV:Nat)(vA vC vS vK:Value)(lv:List Value)(S':Srch)(clash:Option Nat)(n:Nat)(t:Env)(g:H): Prop:=
 t 0 = .pointer (some ⟨q,0,none⟩)∧∃S1 cl w1 wv1 vT1,t 3=rv cl∧SQ O ro w1 g q S1 bW bH bV vA vC vT1 vS vK lv wv1∧Ch O K11 w h w1 g∧Bd S1∧(cl=none->D'z n S1=some (S',clash))∧(∀k,cl=some k->S1=S'∧clash=some k)
theorem P'L (C:LP' O ro c)(L:O.Law)(x:SQ O ro w h q S bW bH bV vA vC vT vS vK lv wv)(B:Bd S)(f:Nat){S':Srch}{clash:Option Nat}(hs:D'z f S=some (S',clash)):
  ∃vT' wv' h' w',c 203 [ptr q] h=some (rv clash,h')∧SQ O ro w' h' q S' bW bH bV vA vC vT' vS vK lv wv'∧Ch O K11 w h w' h'∧Bd S':=by
 have hm:most=1000000:=rfl;have key:∃u h',c 203 [ptr q] h=some (u,h')∧(u=rv clash∧∃vT' wv' w',SQ O ro w' h' q S' bW bH bV vA vC vT' vS vK lv wv'∧Ch O K11 w h w' h'∧Bd S'):=by
  refine C.fn (N'r O ro) rfl rfl ?_;unfold R'0;refine s'f ?_;simp only[ZgG,A'c,reg,to,A'i,mv',nl',fl',ld',ln',mk',ia',ik',ix',ev,l'l,A'g,A'd];refine s'f ?_;simp only[ZgH,A'c,reg,to,A'i,mv',nl',fl',ld',ln',mk',ia',ik',ix',ev,l'l,A'g,A'd];have loop:okE c (A'z 0 (A'1 (E'Y O Tryz.prog ro))) (upd (upd (A'Z [ptr q]) 2 (.int .i64 0)) 3 (.int .i64 (-1)),h) (λe t' g'=>e = .normal∧t' 3=rv clash∧∃vT' wv' w',SQ O ro w' g' q S' bW bH bV vA vC vT' vS vK lv wv'∧Ch O K11 w h w' g'∧Bd S'):=by
   refine okE.blk ?_;refine okE.loop (DrI O ro w h q bW bH bV vA vC vS vK lv S' clash) ?_ f _ _
    ⟨by simp[A'k,A'Z],S,none,w,wv,vT,by simp[A'k,rv],x,Ch.refl _ _ _,B,λ_=>hs,by simp⟩
   rintro n t g ⟨d0,S1,cl,w1,wv1,vT1,d3,x1,c1,B1,hd,hcl⟩
   cases cl with
   | some k=>
    obtain⟨rfl,rfl⟩:=hcl k rfl;have e1:=F'T k;refine f'f ?_;simp[E'Y,ZgI,d0,d3,rv,e1];exact⟨vT1,wv1,w1,x1,c1,B1⟩
   | none=>
    have hdn:=hd rfl
    cases n with
    | zero=>simp[D'z]at hdn
    | succ n=>
     simp only[D'z]at hdn;have m9:=x1.m.get 9 _ rfl;have m7:=x1.m.get 7 _ rfl
     by_cases hlt:S1.drawn<S1.trail.length
     ·rw[if_pos hlt]at hdn;have hlt':(S1.drawn:Int)<S1.trail.length:=by omega
      cases htr:S1.trail[S1.drawn]? with
      | none=>rw[htr]at hdn;simp at hdn
      | some l=>
       rw[htr]at hdn;simp only at hdn;have hlm:=B1.tr l (getElem?_mem htr);have hT:=B1.nT;obtain⟨bT,hvT,yT⟩:=x1.sT.blk (by omega) S1.trail.length (by simp) (by omega);subst hvT;have hcell:O.cell g bT S1.drawn=some (ni l):=by rw[yT.cell _ (by simpa using hlt)];simp[htr]
       have hxo:=C'v l (by omega);have hwd:=w'1 S1.drawn;obtain⟨h2,p2,x2,c2⟩:=x1.fld L 9 (by omega) (ni (S1.drawn+1)) (g:=S1.given) (d:=S1.drawn+1) (b:=S1.bonus) (m:=S1.met) rfl;have B2:Bd { S1 with drawn:=S1.drawn+1 }:=⟨B1.cls,B1.nC,B1.nW,B1.nH,B1.nV,B1.nS,B1.nT,B1.nA,B1.nK,B1.wl,B1.tr,B1.st,B1.asm,B1.vr,B1.gv,by show S1.drawn+1<=2*most;omega,B1.bo,B1.me⟩;have hfm:=G'z hlm;obtain⟨z,hz⟩:=e' (l ^^^ 1);rw[<-hz]at hdn hxo hfm;obtain⟨d',hd'⟩:=e' (S1.drawn+1);rw[<-hd']at hdn hwd p2 x2 B2;have n9:=x2.m.get 9 _ rfl;have rq:¬q<ro:=by have:=x1.m.lo;omega
       cases hvis:E'Z { S1 with drawn:=d' } z with
       | none=>rw[hvis]at hdn;simp at hdn
       | some p=>
        obtain⟨S3,cl3⟩:=p;rw[hvis]at hdn;obtain⟨vT3,wv3,h3,w3,e3,x3,c3,B3⟩:=N'F C L x2 B2 z hfm hvis;unfold ptr at e3;have c13:=(c1.trans c2).trans c3;refine f'f ?_;clear c1 c2 c3 x2 x1
        cases cl3 with
        | none=>
         simp only at hdn;simp only[rv]at e3;simp[E'Y,ZgI,ZgJ,ZgK,ZgL,d0,d3,rv,m9,m7,hlt,hlt',hcell,hxo,hwd,p2,rq,e3];exact⟨n,by omega,by simp[d0],S3,none,w3,wv3,vT3,by simp[rv],x3,c13,B3,λ_=>hdn,by simp⟩
        | some k=>
         simp only[l'a,l'd]at hdn;simp only[rv]at e3;simp[E'Y,ZgI,ZgJ,ZgK,ZgL,d0,d3,rv,m9,m7,hlt,hlt',hcell,hxo,hwd,p2,rq,e3];exact⟨n,by omega,by simp[d0],S3,some k,w3,wv3,vT3,by simp[rv],x3,c13,B3,by simp,λj hj=>by simp at hj;subst hj;exact⟨hdn.1,hdn.2.symm⟩⟩
     ·rw[if_neg hlt]at hdn;have hlt':¬((S1.drawn:Int)<S1.trail.length):=by omega
      simp only[l'a,l'd]at hdn;obtain⟨rfl,rfl⟩:=hdn;obtain⟨aT,cT,hvT⟩:=x1.sT.m.len (by omega) S1.trail.length (by simp);rw[hvT]at m7;refine f'f ?_;simp[E'Y,ZgI,d0,d3,rv,m9,m7,hlt,hlt'];exact⟨vT1,wv1,w1,x1,c1,B1⟩
  refine okE.seq (loop.mono ?_);rintro e t g ⟨rfl,d3,hq⟩;simp only[A'd];refine f'f ?_;have ht:B'j (rv clash)=false:=by cases clash <;> rfl
  simp[ZgM,d3,A'L,A'h,rvE,ht];exact hq
 obtain⟨u,h',e1,rfl,vT',wv',w',e2⟩:=key;exact⟨vT',wv',h',w',e1,e2⟩
def HvI (q:Nat)(S:Srch)(h:H)(res:Option Nat)(n:Nat)(t:Env)(g:H): Prop:=
 g=h∧t 0 = .pointer (some ⟨q,0,none⟩)∧∃i best,t 4=ni i∧i+n=S.vars.length∧t 3=rv (best.map Prod.fst)∧(∀j w,best=some (j,w)->∃v,S.vars[j]?=some v∧v.weight=w)∧C'Z S.holds (S.vars.drop i) i best=some res
theorem I'1 (C:LP' O ro c)(L:O.Law)(x:SQ O ro w h q S bW bH bV vA vC vT vS vK lv wv)(B:Bd S){res:Option Nat}(hs:F'R S=some res): c 216 [ptr q] h=some (rv res,h):=by
 have hm:most=1000000:=rfl;have hnV:=B.nV;have m5:=x.m.get 5 _ rfl;have m6:=x.m.get 6 _ rfl;have key:∃u h',c 216 [ptr q] h=some (u,h')∧(u=rv res∧h'=h):=by
  refine C.fn (N'x O ro) rfl rfl ?_;unfold R'6;refine s'f ?_;simp only[ZhB,A'c,reg,to,A'i,mv',nl',fl',ld',ln',mk',ia',ik',ix',ev,l'l,A'g,A'd];refine s'f ?_;simp only[ZhC,A'c,reg,to,A'i,mv',nl',fl',ld',ln',mk',ia',ik',ix',ev,l'l,A'g,A'd];refine okE.seq (s'f ?_);simp only[ZhD,A'c,reg,to,A'i,mv',nl',fl',ld',ln',mk',ia',ik',ix',ev,l'l,A'g,A'd];have loop:okE c (A'z 0 (A'1 (D'T O Tryz.prog ro))) (upd (upd (upd (A'Z [ptr q]) 2 (.int .i64 0)) 3 (.int .i64 (-1))) 4 (.int .i64 0),h) (λe t g=>e = .normal∧t 3=rv res∧g=h):=by
   refine okE.blk ?_;refine okE.loop (HvI q S h res) ?_ S.vars.length _ _ ⟨rfl,by simp[A'Z],0,none,by simp,by omega,by simp[rv],by simp,by simpa [F'R]using hs⟩;rintro n t g ⟨rfl,d0,i,best,d4,hin,d3,hbest,hres⟩
   cases n with
   | zero=>
    obtain rfl:i=S.vars.length:=by omega
    simp only[List.drop_length,C'Z,l'a]at hres;refine f'f ?_;simp[D'T,ZhE,d0,d3,d4,m6,hres]
   | succ n=>
    have hi:i<S.vars.length:=by omega
    have hi':(i:Int)<S.vars.length:=by omega
    obtain⟨v,hv⟩:∃v,S.vars[i]?=some v:=⟨_,l'c hi⟩;have hdrop:S.vars.drop i=v :: S.vars.drop (i+1):=by
     have:=(l'b.1 hv).2;rw[<-this];exact l's hi
    rw[hdrop]at hres;simp only[C'Z]at hres;have hwi:=w'1 i;have hw2:IntKind.i64.wrap (2*(i:Int))=((2*i:Nat):Int):=w'i;have hw3:IntKind.i64.wrap (((2*i:Nat):Int)+1)=((2*i+1:Nat):Int):=w'i
    cases ha:S.holds[2*i]? with
    | none=>rw[ha]at hres;simp at hres
    | some a=>
     cases hb:S.holds[2*i+1]? with
     | none=>rw[ha,hb]at hres;simp at hres
     | some b=>
      rw[ha,hb]at hres;simp only at hres;have ga:=x.getH _ ha;have gb:=x.getH _ hb;have la:=(l'b.1 ha).1;have lb:=(l'b.1 hb).1;have la':((2*i:Nat):Int)<S.holds.length:=by omega
      have lb':((2*i+1:Nat):Int)<S.holds.length:=by omega
      obtain⟨i',hi2⟩:=e' (i+1);obtain⟨p,hp⟩:=e' (2*i);obtain⟨p',hp'⟩:=e' (2*i+1);rw[<-hp']at gb lb lb' hw3;rw[<-hp]at ga la la' hw2 hw3;rw[<-hi2]at hwi hres;have hin':i'+n=S.vars.length:=by omega
      have kw:=x.getV i hv 3 (by omega);simp only[vrC,l'x,l'w]at kw
      cases a with
      | true=>
       simp only[Bool.true_or,if_true]at hres;refine f'f ?_;simp[D'T,ZhE,ZhF,ZhI,d0,d3,d4,m5,m6,hi,hi',hw2,hw3,la,la',lb,lb',ga,gb,hwi];exact⟨n,by omega,rfl,by simp[d0],i',best,by simp,hin',by simp[d3],hbest,hres⟩
      | false=>
       cases b with
       | true=>
        simp only[Bool.or_true,if_true]at hres;refine f'f ?_;simp[D'T,ZhE,ZhF,ZhI,d0,d3,d4,m5,m6,hi,hi',hw2,hw3,la,la',lb,lb',ga,gb,hwi];exact⟨n,by omega,rfl,by simp[d0],i',best,by simp,hin',by simp[d3],hbest,hres⟩
       | false=>
        simp only[Bool.or_self,l'y,if_false]at hres
        cases best with
        | none=>
         simp only at hres;simp only[Option.map_none,rv]at d3;refine f'f ?_;simp[D'T,ZhE,ZhF,ZhG,ZhH,ZhI,d0,d3,d4,m5,m6,hi,hi',hw2,hw3,la,la',lb,lb',ga,gb,hwi];exact⟨n,by omega,rfl,by simp[d0],i',some (i,v.weight),by simp,hin',by simp[rv],λj w hj=>by simp at hj;obtain⟨rfl,rfl⟩:=hj;exact⟨v,hv,rfl⟩,hres⟩
        | some p2=>
         obtain⟨j,wj⟩:=p2;obtain⟨vj,hvj,hwj⟩:=hbest j wj rfl;simp only at hres;simp only[l'l,rv]at d3;have kj:=x.getV j hvj 3 (by omega);simp only[vrC,l'x,l'w]at kj;have lj:=(l'b.1 hvj).1;have lj':(j:Int)<S.vars.length:=by omega
         have ej:=F'T j
         by_cases hlt:wj<v.weight
         ·rw[if_pos hlt]at hres;have hlt':(vj.weight:Int)<v.weight:=by omega
          have hlt2:vj.weight<v.weight:=by omega
          refine f'f ?_;simp[D'T,ZhE,ZhF,ZhG,ZhH,ZhI,d0,d3,d4,m5,m6,hi,hi',hw2,hw3,la,la',lb,lb',ga,gb,hwi,ej,kw,kj,lj,lj',hlt',hlt2];exact⟨n,by omega,rfl,by simp[d0],i',some (i,v.weight),by simp,hin',by simp[rv],λj w hj=>by simp at hj;obtain⟨rfl,rfl⟩:=hj;exact⟨v,hv,rfl⟩,hres⟩
         ·rw[if_neg hlt]at hres;have hlt':¬((vj.weight:Int)<v.weight):=by omega
          have hlt2:¬(vj.weight<v.weight):=by omega
          refine f'f ?_;simp[D'T,ZhE,ZhF,ZhG,ZhH,ZhI,d0,d3,d4,m5,m6,hi,hi',hw2,hw3,la,la',lb,lb',ga,gb,hwi,ej,kw,kj,lj,lj',hlt',hlt2];exact⟨n,by omega,rfl,by simp[d0],i',some (j,wj),by simp,hin',by simp[d3,rv],hbest,hres⟩
  refine loop.mono ?_;rintro e t g ⟨rfl,d3,rfl⟩;simp only[A'd];refine f'f ?_;have ht:B'j (rv res)=false:=by cases res <;> rfl
  simp[ZhJ,d3,A'L,A'h,rvE,ht]
 obtain⟨u,h',e1,rfl,rfl⟩:=key;exact e1
theorem C'I (w:Own)(n:Nat): ∃k:Nat,∀b,b<n->w b≠((14,k):Tag):=by
 have:∃m:Nat,∀b,b<n->(w b).2<m:=by
  induction n with
  | zero=>exact⟨0,λb hb=>by omega⟩
  | succ n ih=>
   obtain⟨m,hm⟩:=ih;refine⟨max m ((w n).2+1),λb hb=>?_⟩
   by_cases e:b=n
   ·subst e;omega
   ·have:=hm b (by omega);omega
 obtain⟨m,hm⟩:=this;refine⟨m,λb hb e=>?_⟩;have:=hm b hb;rw[e]at this;simp at this
theorem P'M (r:Option Nat): B'j (rv r)=false:=by cases r <;> rfl
theorem Bx.re {t t0 t1:Tag}{b b0:Nat}{l:List Value}(x:Bx O ro w h t b l)(h0:w b0=t0)(hn:t≠t0): Bx O ro (w.set b0 t1) h t b l:=by
 refine⟨?_,x.lo,x.al,x.cell⟩;have:b≠b0:=by rintro rfl;exact hn (by rw[<-x.tag,h0])
 simp only[Own.set,if_neg this];exact x.tag
theorem Sm.re {t t0 t1:Tag}{b0 sz:Nat}{v:Value}{l:List Value}(x:Sm O ro w h t sz v l)(h0:w b0=t0)(hn:t≠t0): Sm O ro (w.set b0 t1) h t sz v l:=by
 rcases x with x|⟨b,m,cp,e,ec,el,x⟩
 ·exact .inl x
 ·exact .inr ⟨b,m,cp,e,ec,el,x.re h0 hn⟩
theorem Sz.re {t t0 t1:Tag}{b0 sz:Nat}{v:Value}{l:List Value}(x:Sz O ro w h t sz v l)(h0:w b0=t0)(hn:t≠t0): Sz O ro (w.set b0 t1) h t sz v l:=by
 rcases x with x|⟨b,m,e,el,x⟩
 ·exact .inl x
 ·exact .inr ⟨b,m,e,el,x.re h0 hn⟩
theorem SQ.re {t0 t1:Tag}{b0:Nat}(x:SQ O ro w h q S bW bH bV vA vC vT vS vK lv wv)(h0:w b0=t0)(h9:t0.1=14): SQ O ro (w.set b0 t1) h q S bW bH bV vA vC vT vS vK lv wv:=by
 have n:∀t:Tag,t.1≠14->t≠t0:=by rintro t ht rfl;exact ht h9
 exact⟨x.m.re h0 (n _ (by simp)),x.sA.re h0 (n _ (by simp)),x.sC.re h0 (n _ (by simp)),x.lC,λk y v h1 h2=>(x.aC k y v h1 h2).re h0 (n _ (by simp)),x.xW.re h0 (n _ (by simp)),x.lW,λi l v h1 h2=>(x.aW i l v h1 h2).re h0 (n _ (by simp)),x.xH.re h0 (n _ (by simp)),x.xV.re h0 (n _ (by simp)),x.sT.re h0 (n _ (by simp)),x.sS.re h0 (n _ (by simp)),x.sK.re h0 (n _ (by simp)),x.lo⟩
theorem give {k0:Nat}{v:Value}{l:List Value}(a:Ch O (λ_=>False) w h w' h')(hk0:∀b,b<O.next h->w b≠((14,k0):Tag))(x:SQ O ro w' h' q S bW bH bV vA vC vT vS vK lv wv)(s:Sm O ro w' h' (14,k0) 1 v l):
  ∃w2,SQ O ro w2 h' q S bW bH bV vA vC vT vS vK lv wv∧Sm O ro w2 h' (9,0) 1 v l∧Ch O (λ_=>False) w h w2 h':=by
 rcases s with s|⟨b,m,cp,e,ec,el,y⟩
 ·exact⟨w',x,.inl s,a⟩
 ·have hb:¬b<O.next h:=λhb=>hk0 b hb (by rw[<-a.ow b hb,y.tag])
  refine⟨w'.set b (9,0),x.re y.tag rfl,.inr ⟨b,m,cp,e,ec,el,⟨by simp[Own.set],y.lo,y.al,y.cell⟩⟩,⟨a.nx,λb' hb'=>?_,a.fr⟩⟩;have:b'≠b:=by rintro rfl;exact hb hb'
  simp only[Own.set,if_neg this];exact a.ow b' hb'
theorem SQ.appC (L:O.Law)(x:SQ O ro w h q S bW bH bV vA vC vT vS vK lv wv)(y:Cl){vl:Value}(ht:S.clauses.length<most)(sl:Sm O ro w h (9,0) 1 vl (y.lits.map ni)):
  ∃vC' h1 h2 w2,D'd O ro 4 48 vC (.slice (some ⟨O.next h,0,some 4⟩) 1 2) (O.new h [vl,ni y.left,ni y.right,ni y.span])=some (vC',h1)∧A'6 O h1 q 1 [vC']=some h2∧B'f vC'=true∧vC'.cells = #[vC'] ∧
   SQ O ro w2 h2 q { S with clauses:=S.clauses++[y] } bW bH bV vA vC' vT vS vK (lv++[vl]) wv∧Ch O K11 w h w2 h2:=by
 have hm:most=1000000:=rfl;have hlen:((lv.zip S.clauses).flatMap clC).length=S.clauses.length*4:=by rw[A'0 clC 4 D'I];simp[x.lC]
 obtain⟨vT',h1,w1,e1,s1,c1,lo1⟩:=B'0 (bytes:=48) L x.lo x.sC.m (by omega) (show [vl,ni y.left,ni y.right,ni y.span].length=4 from rfl) (by omega) (by omega);have m1:=x.m.ch L c1;have c2:=Ch.put L (K:=λu=>u=(11,1000)) m1 1 (by simp) vT' rfl;have m2:=m1.put L 1 (by simp) vT';obtain⟨f1,f2,f3⟩:=s1.m.flat;have hz:(lv.zip S.clauses).flatMap clC++[vl,ni y.left,ni y.right,ni y.span]=((lv++[vl]).zip (S.clauses++[y])).flatMap clC:=by
  rw[List.zip_append x.lC,List.flatMap_append];simp[clC]
 refine⟨vT',h1,_,w1,e1,A'8 (m1.get 1 _ rfl),f2,f1,⟨m2,?_,?_,by simp[x.lC],λk z v g1 g2=>?_,?_,x.lW,λi l v h1 h2=>?_,?_,?_,?_,?_,?_,?_⟩,?_⟩
 ·exact (x.sA.ch L c1).ch L c2
 ·rw[hz]at s1;exact s1.ch L c2
 ·by_cases hk:k<S.clauses.length
  ·rw[l'e hk]at g1;rw[l'e (by rw[x.lC];exact hk)]at g2;exact ((x.aC k z v g1 g2).ch L c1).ch L c2
  ·have hk2:k=S.clauses.length:=by
    have:=(l'b.1 g1).1;simp at this;omega
   subst hk2;simp at g1;rw[<-x.lC]at g2;simp at g2;subst g1 g2;exact (sl.ch L c1).ch L c2
 ·exact (x.xW.ch L c1).ch L c2
 ·exact ((x.aW i l v h1 h2).ch L c1).ch L c2
 ·exact (x.xH.ch L c1).ch L c2
 ·exact (x.xV.ch L c1).ch L c2
 ·exact (x.sT.ch L c1).ch L c2
 ·exact (x.sS.ch L c1).ch L c2
 ·exact (x.sK.ch L c1).ch L c2
 ·exact l'G lo1 c2.nx
 ·exact (c1.mono (by rintro u rfl;exact .inl rfl)).trans (c2.mono (by rintro u rfl;exact .inl rfl))
theorem K'P (C:LP' O ro c)(L:O.Law)(x:SQ O ro w h q S bW bH bV vA vC vT vS vK lv wv)(B:Bd S)(y:Cl){vl:Value}(hy:y.Ok)(sl:Sm O ro w h (9,0) 1 vl (y.lits.map ni)){S':Srch}(hs:D'm S y=some S'):
  ∃vC' wv' h' w',c 212 [ptr q,.agg #[vl,ni y.left,ni y.right,ni y.span]] h=some (.tuple #[],h')∧SQ O ro w' h' q S' bW bH bV vA vC' vT vS vK (lv++[vl]) wv'∧Ch O K11 w h w' h'∧Bd S':=by
 have hm:most=1000000:=rfl;have hbd:=(H'P hs B hy).1;unfold D'm at hs
 by_cases hlt:S.clauses.length<most
 ·rw[if_pos hlt]at hs;have y1:=Bx.new L (ro:=ro) w h x.lo (13,0) [vl,ni y.left,ni y.right,ni y.span];have c1:=Ch.new L K11 w h (13,0) [vl,ni y.left,ni y.right,ni y.span];have c1':=Ch.new L (λ_=>False) w h (13,0) [vl,ni y.left,ni y.right,ni y.span];have x1:=x.ch L c1';have s1:=sl.ch L c1';obtain⟨vC',h2,h3,w2,e2,p2,f2,g2,x3,c3⟩:=x1.appC L y hlt s1;have hnW:=B.nW;obtain⟨wv',h4,w4,e4,x4,c4⟩:=N'C C L x3 S.clauses.length hs (by simp;omega) hnW;refine⟨vC',wv',h4,w4,?_,x4,(c1.trans c3).trans c4,hbd⟩;refine C.eq (N't O ro) rfl rfl ?_;unfold R'2;have hall:=y1.all;obtain⟨fl1,fl2,fl3⟩:=sl.flat;have m1:=x1.m.get 1 _ rfl;have n1:=x3.m.get 1 _ rfl;obtain⟨aC,cC,hvC⟩:=x3.sC.m.len (by omega) (S.clauses.length+1) (by rw[A'0 clC 4 D'I];simp[x.lC]);have hw:IntKind.i64.wrap (((S.clauses.length+1:Nat):Int)-1)=(S.clauses.length:Int):=w'i;have rq:¬q<ro:=by have:=x.m.lo;omega
  have ln:=L.next_new h [vl,ni y.left,ni y.right,ni y.span];unfold ptr at e4;obtain⟨z,hz⟩:=e' (S.clauses.length+1);rw[<-hz]at hvC hw;rw[hvC]at n1;refine s'f ?_;simp[Zg0,A'd];refine s'f ?_;simp at hall;have hr4:List.range 4=[0,1,2,3]:=rfl;simp[Zg1,A'd,m1,hall,fl1,fl2,rq,hr4,e2,p2,f2,g2];refine f'f ?_;simp[Zg2,n1,hw,e4,A'L,A'h,rvE]
 ·rw[if_neg hlt]at hs;simp at hs
def AnQ (O:HI H)(ro:Nat)(w:Own)(h:H)(q bW bH bV:Nat)(vA:Value)(S':Srch)(g:H): Prop:=
 ∃vC vT vS vK lv wv w',SQ O ro w' g q S' bW bH bV vA vC vT vS vK lv wv∧Ch O K11 w h w' g∧Bd S'
theorem G'5 (C:LP' O ro c)(L:O.Law)(x:SQ O ro w h q S bW bH bV vA vC vT vS vK lv wv)(B:Bd S){k:Nat}{bud:Int}{S':Srch}{an:Nat}(hs:N'A S k bud=some (S',an)):
  ∃h',c 205 [ptr q,ni k,.int .i64 bud] h=some (ni an,h')∧AnQ O ro w h q bW bH bV vA S' h':=by
 simp[N'A]at hs
theorem G'6 {S S':Srch}(hs:E'J S=some S')(B:Bd S): S' = { S with starts:=S.starts++[S.trail.length] }∧Bd S'∧S.starts.length<most:=by
 unfold E'J at hs;split at hs
 ·rename_i hlt
  simp only[l'a]at hs;subst hs;refine⟨rfl,⟨B.cls,B.nC,B.nW,B.nH,B.nV,by simp;omega,B.nT,B.nA,B.nK,B.wl,B.tr,?_,B.asm,B.vr,B.gv,B.dr,B.bo,B.me⟩,hlt⟩;intro s hs;rcases l'E.1 hs with hs|hs
  ·exact B.st s hs
  ·simp at hs;subst hs;exact B.nT
 ·simp at hs
theorem K'Q (C:LP' O ro c)(L:O.Law)(x:SQ O ro w h q S bW bH bV vA vC vT vS vK lv wv)(B:Bd S){l:Nat}(hlm:l<most){S':Srch}{an:Nat}(hs:E'q S l=some (S',an)):
  ∃h',c 215 [ptr q,ni l] h=some (ni an,h')∧AnQ O ro w h q bW bH bV vA S' h':=by
 have hm:most=1000000:=rfl;have key:∃u h',c 215 [ptr q,ni l] h=some (u,h')∧(u=ni an∧AnQ O ro w h q bW bH bV vA S' h'):=by
  refine C.fn (N'w O ro) rfl rfl ?_;unfold E'q at hs;have hnH:=B.nH;have m5:=x.m.get 5 _ rfl;have m7:=x.m.get 7 _ rfl;have m8:=x.m.get 8 _ rfl;have hxo:=C'v l (by omega);have hxm:=G'z hlm;have rq:¬q<ro:=by have:=x.m.lo;omega
  obtain⟨z,hz⟩:=e' (l ^^^ 1);rw[<-hz]at hxo hxm hs;unfold R'5;refine s'f ?_;simp[Zhs,A'd];split at hs
  ·simp at hs
  ·simp at hs
  ·rename_i hh
   have lz:=(l'b.1 hh).1;have lz':(z:Int)<S.holds.length:=by omega
   have kz:=x.getH z hh;split at hs
   ·simp at hs
   rename_i S1 h1
   obtain⟨rfl,B1,hlt⟩:=G'6 h1 B;obtain⟨vS',h2,h3,w2,e2,p2,f2,g2,x2,c2⟩:=x.appS L S.trail.length hlt;have n5:=x2.m.get 5 _ rfl;obtain⟨aT,cT,hvT⟩:=x.sT.m.len (by omega) S.trail.length (by simp);rw[hvT]at m7;refine okE.seq (s'f ?_);simp[Zht,A'd,m5,hxo,lz,lz',kz];refine f'f ?_;simp[A'd];refine s'f ?_;simp[Zhx,A'd,m7,m8,e2,p2,f2,g2,rq];split at hs
   ·simp at hs
   ·rename_i hl
    simp only[l'a,l'd]at hs;obtain⟨rfl,rfl⟩:=hs;have hl':S.holds[l]?=some true:=hl;have ll:=(l'b.1 hl').1;have ll':(l:Int)<S.holds.length:=by omega
    have kl:=x2.getH l hl';refine okE.seq (s'f ?_);simp[Zhy,A'd,n5,ll,ll',kl];refine f'f ?_;simp[A'd];refine f'f ?_;simp[ZhA,A'd,A'L,A'h,rvE];exact⟨_,_,_,_,_,_,_,x2,c2,B1⟩
   ·rename_i hl
    split at hs
    ·simp at hs
    rename_i S3 h3'
    simp only[l'a,l'd]at hs;obtain⟨rfl,rfl⟩:=hs;have hl':S.holds[l]?=some false:=hl;have ll:=(l'b.1 hl').1;have ll':(l:Int)<S.holds.length:=by omega
    have kl:=x2.getH l hl';obtain⟨vT4,g4,w4,e4,x4,c4⟩:=K'M C L x2 l none h3' B1.nV B1.nH;have B4:=(F'k h3' B1 (by simp)).1;unfold ptr at e4;simp only[rv]at e4;refine okE.seq (s'f ?_);simp[Zhy,Zhz,A'd,n5,ll,ll',kl];refine f'f ?_;simp[Zhz,A'd,e4];refine f'f ?_;simp[ZhA,A'd,A'L,A'h,rvE];exact⟨_,_,_,_,_,_,_,x4,c2.trans c4,B4⟩
 obtain⟨u,h',e1,rfl,e2⟩:=key;exact⟨h',e1,e2⟩
theorem I'2 (C:LP' O ro c)(L:O.Law)(x:SQ O ro w h q S bW bH bV vA vC vT vS vK lv wv)(B:Bd S){S':Srch}{an:Nat}(hs:C'H S=some (S',an)):
  ∃h',c 204 [ptr q] h=some (ni an,h')∧AnQ O ro w h q bW bH bV vA S' h':=by
 have hm:most=1000000:=rfl;have key:∃u h',c 204 [ptr q] h=some (u,h')∧(u=ni an∧AnQ O ro w h q bW bH bV vA S' h'):=by
  refine C.fn (N's O ro) rfl rfl ?_;unfold C'H at hs;have hnV:=B.nV;have m0:=x.m.get 0 _ rfl;have m6:=x.m.get 6 _ rfl;have m7:=x.m.get 7 _ rfl;have m8:=x.m.get 8 _ rfl;have rq:¬q<ro:=by have:=x.m.lo;omega
  obtain⟨aS,cS,hvS⟩:=x.sS.m.len (by omega) S.starts.length (by simp);have m8':=m8;rw[hvS]at m8';unfold R'1;refine s'f ?_;simp[ZgN,A'd];refine s'f ?_;simp[ZgO,A'd,m8'];split at hs
  ·rename_i l hl
   have hlt:=(l'b.1 hl).1;have hlt':(S.starts.length:Int)<S.assumed.length:=by omega
   have hlm:=B.asm l (getElem?_mem hl);obtain⟨bA,cp,hvA,hcp,yA⟩:=x.sA.blk (by omega) S.assumed.length (by simp) (by omega);have hcA:O.cell h bA S.starts.length=some (ni l):=by rw[yA.cell _ (by simpa using hlt),List.getElem?_map,hl];rfl
   obtain⟨g2,e2,q2⟩:=K'Q C L x B hlm hs;subst hvA;unfold ptr at e2;refine s'f ?_;simp[ZgP,ZgQ,A'd,m0,hlt,hlt',hcA,e2,A'L,A'h,rvE];exact q2
  ·rename_i hl
   have hlt:¬S.starts.length<S.assumed.length:=by
    intro hh;rw[l'c hh]at hl;simp at hl
   have hlt':¬(S.starts.length:Int)<S.assumed.length:=by omega
   obtain⟨aA,cA,hvA⟩:=x.sA.len (by omega) S.assumed.length (by simp);have m0':=m0;rw[hvA]at m0';refine okE.seq (s'f ?_);simp[ZgP,A'd,m0',hlt,hlt'];refine f'f ?_;simp[A'd];split at hs
   ·simp at hs
   ·rename_i hh
    have eh:=I'1 C L x B hh;simp only[l'a,l'd]at hs;obtain⟨rfl,rfl⟩:=hs;unfold ptr at eh;simp only[rv]at eh;refine s'f ?_;simp[ZgR,A'd,eh];refine s'f ?_;simp[ZgS,ZgT,A'd,A'L,A'h,rvE];exact⟨_,_,_,_,_,_,_,x,Ch.refl _ _ _,B⟩
   ·rename_i v hh
    have eh:=I'1 C L x B hh;unfold ptr at eh;simp only[rv]at eh;have ev1:=F'T v;split at hs
    ·simp at hs
    rename_i y hy
    have lv0:=(l'b.1 hy).1;have lv':(v:Int)<S.vars.length:=by omega
    have k4:=x.getV v hy 4 (by omega);simp only[vrC,l'x,l'w,Nat.add_zero]at k4;split at hs
    ·simp at hs
    rename_i S1 h1
    split at hs
    ·simp at hs
    rename_i S2 h2
    simp only[l'a,l'd]at hs;obtain⟨rfl,rfl⟩:=hs;obtain⟨rfl,B1,hlt2⟩:=G'6 h1 B;obtain⟨vS',h3,h4,w3,e3,p3,f3,g3,x3,c3⟩:=x.appS L S.trail.length hlt2;obtain⟨vT4,g4,w4,e4,x4,c4⟩:=K'M C L x3 _ none h2 B1.nV B1.nH;have B4:=(F'k h2 B1 (by simp)).1;obtain⟨aT,cT,hvT⟩:=x.sT.m.len (by omega) S.trail.length (by simp);have m7':=m7;rw[hvT]at m7';unfold ptr at e4;simp only[rv]at e4;have hw2:IntKind.i64.wrap (2*(v:Int))=((2*v:Nat):Int):=w'i;have hw3:IntKind.i64.wrap (((2*v:Nat):Int)+1)=((2*v+1:Nat):Int):=w'i;obtain⟨l,hl⟩:=e' (2*v);rw[<-hl]at hw2 hw3 e4;obtain⟨l',hl'⟩:=e' (l+1);rw[<-hl']at hw3 e4;refine s'f ?_;simp[ZgR,A'd,eh];refine okE.seq (s'f ?_);simp[ZgS,A'd,ev1];refine f'f ?_;simp[A'd];refine s'f ?_;simp[ZgU,A'd,hw2]
    cases hla:y.last with
    | true=>
     rw[hla]at k4 e4;simp only[if_true]at e4;refine okE.seq (s'f ?_);simp[ZgV,A'd,m6,lv0,lv',k4];refine f'f ?_;simp[A'd];refine s'f ?_;simp[ZgX,A'd,m7',m8,e3,p3,f3,g3,rq];refine f'f ?_;simp[ZgY,ZgZ,e4,A'L,A'h,rvE];exact⟨_,_,_,_,_,_,_,x4,c3.trans c4,B4⟩
    | false=>
     rw[hla]at k4 e4;simp only[l'y,if_false]at e4;refine okE.seq (s'f ?_);simp[ZgV,A'd,m6,lv0,lv',k4];refine f'f ?_;simp[ZgW,A'd,hw3];refine s'f ?_;simp[ZgX,A'd,m7',m8,e3,p3,f3,g3,rq];refine f'f ?_;simp[ZgY,ZgZ,e4,A'L,A'h,rvE];exact⟨_,_,_,_,_,_,_,x4,c3.trans c4,B4⟩
 obtain⟨u,h',e1,rfl,e2⟩:=key;exact⟨h',e1,e2⟩
theorem I'3 {S:Srch}(B:Bd S){y:Cl}(hy:y.Ok)(hlt:S.clauses.length<most): Bd { S with clauses:=S.clauses++[y] }:=
 ⟨λz hz=>by rcases l'E.1 hz with hz|hz;exact B.cls z hz;simp at hz;subst hz;exact hy,by simp;omega,B.nW,B.nH,B.nV,B.nS,B.nT,B.nA,B.nK,B.wl,B.tr,B.st,B.asm,B.vr,B.gv,B.dr,B.bo,B.me⟩
structure Cs (O:HI H) (ro:Nat)(w:Own)(h:H)(tc:Tag)(v:Value)(vs:List Value)(cs:List (List Nat)):Prop where
 s:Sm O ro w h tc 1 v vs
 l:vs.length=cs.length
 a:∀(i:Nat) l u,cs[i]?=some l->vs[i]?=some u->Sm O ro w h (9,0) 1 u (l.map ni)
theorem Cs.ch (L:O.Law){K:Tag->Prop}{tc:Tag}{v:Value}{vs:List Value}{cs:List (List Nat)}(x:Cs O ro w h tc v vs cs)(a:Ch O K w h w' h')(hk:¬K tc:=by simp)(h9:¬K (9,0):=by simp): Cs O ro w' h' tc v vs cs:=
 ⟨x.s.ch L a hk,x.l,λi l u h1 h2=>(x.a i l u h1 h2).ch L a h9⟩
def LdI (O:HI H)(ro:Nat)(w:Own)(h:H)(q bW bH bV:Nat)(vA vcl:Value)(cs:List (List Nat))(res:Srch×Option Nat)(n:Nat)(t:Env)(g:H): Prop:=
 t 0 = .pointer (some ⟨q,0,none⟩)∧t 1=vcl∧∃i clash S1 vC vT vS vK lv wv w1,t 6=ni i∧t 5=rv clash∧i+n=cs.length∧D'H (cs.drop i) i S1 clash=some res∧SQ O ro w1 g q S1 bW bH bV vA vC vT vS vK lv wv∧Ch O K11 w h w1 g∧Bd S1
theorem N'G (C:LP' O ro c)(L:O.Law){tc:Tag}{vcl:Value}{vs:List Value}{cs:List (List Nat)}(X:Cs O ro w h tc vcl vs cs)(htc:¬K11 tc)(hcs:∀l∈cs,(∀a∈l,a<most)∧l.length<=most)(hcl:cs.length<=most){res:Srch×Option Nat}{n:Nat}{t:Env}{g:H}(I:LdI O ro w h q bW bH bV vA vcl cs res n t g):
  okE c (D'R O Tryz.prog ro) (t,g) (λe t' g'=>(e = .normal∧∃n',n'<n∧LdI O ro w h q bW bH bV vA vcl cs res n' t' g')∨(e≠.normal∧(A's 0 e = .normal∧t' 0 = .pointer (some ⟨q,0,none⟩)∧t' 1=vcl∧t' 5=rv res.2∧AnQ O ro w h q bW bH bV vA res.1 g'))):=by
 have hm:most=1000000:=rfl;obtain⟨d0,d1,i,clash,S1,vC,vT,vS,vK,lv,wv,w1,d6,d5,hin,hld,x1,c1,B1⟩:=I;obtain⟨aL,cL,hvl⟩:=X.s.len (by omega) cs.length (by rw[X.l];simp)
 cases n with
 | zero=>
  obtain rfl:i=cs.length:=by omega
  simp only[List.drop_length,D'H,l'a]at hld;subst hld;rw[hvl]at d1;refine f'f ?_;simp[D'R,Zgu,d0,d1,d5,d6,hvl];exact⟨_,_,_,_,_,_,_,x1,c1,B1⟩
 | succ n=>
  have hi:i<cs.length:=by omega
  have hi':(i:Int)<cs.length:=by omega
  have Xg:=X.ch L c1 htc (by simp[K11]);obtain⟨bL,cp,e8,hcp,yl⟩:=Xg.s.blk (by omega) cs.length (by rw[X.l];simp) (by omega);obtain⟨l,hl⟩:∃l,cs[i]?=some l:=⟨_,l'c hi⟩;obtain⟨u,hu⟩:∃u,vs[i]?=some u:=⟨_,l'c (by rw[X.l];exact hi)⟩;have sl:=Xg.a i l u hl hu;have hcell:O.cell g bL i=some u:=by rw[yl.cell i (by rw[X.l];exact hi),hu]
  have hdrop:cs.drop i=l :: cs.drop (i+1):=by
   have:=(l'b.1 hl).2;rw[<-this];exact l's hi
  rw[hdrop]at hld;have d1':=d1;rw[e8]at d1';have hok:=hcs l (getElem?_mem hl);have hwi:=w'1 i;have him:i<2*most:=by omega
  obtain⟨i',hi2⟩:=e' (i+1);have m1:=x1.m.get 1 _ rfl;have rq:¬q<ro:=by have:=x1.m.lo;omega
  have hnH:=B1.nH;obtain⟨fl1,fl2,fl3⟩:=sl.flat;have hr4:List.range 4=[0,1,2,3]:=rfl
  match l,hld,sl,hok,hl,hdrop with
  | a :: b :: r,hld,sl,hok,hl,hdrop=>
   simp only[D'H]at hld;rw[<-hi2]at hwi hld;split at hld
   ·simp at hld
   rename_i S2 h2
   have ha:=hok.1 a (by simp);have hb:=hok.1 b (by simp);obtain⟨bl,cl,hul,hcl2,yu⟩:=sl.blk (by omega) (r.length+2) (by simp) (by omega);have ka:O.cell g bl 0=some (ni a):=by rw[yu.cell 0 (by simp)];rfl
   have kb:O.cell g bl 1=some (ni b):=by rw[yu.cell 1 (by simp)];rfl
   obtain⟨vC',wv',h',w',e2,x2,c2,B2⟩:=K'P C L x1 B1 ⟨a :: b :: r,a,b,0⟩ ⟨hok.1,hok.2,ha,hb,by simp⟩ sl h2;unfold ptr at e2;subst hul;obtain⟨ll,hll⟩:=e' (r.length+2);rw[<-hll]at e2 hcell;have e2':c 212 [.pointer (some ⟨q,0,none⟩),.agg #[.slice (some ⟨bl,0,some 1⟩) ll cl,ni a,ni b,.int .i64 0]] g=some (.tuple #[],h'):=e2;have hl1:(1:Int)<ll:=by omega
   have hl2:1<ll:=by omega
   have hl3:(0:Int)<ll:=by omega
   have hl4:0<ll:=by omega
   have c12:=c1.trans c2;clear c1 c2 x1;refine f'f ?_;simp[D'R,Zgu,Zgv,Zgw,Zgx,ZgD,d0,d1',d5,d6,hi,hi',hcell,hl1,hl2,hl3,hl4,ka,kb,e2',hwi];exact⟨n,by omega,by simp[d0],by simp[d1',e8],i',clash,S2,vC',vT,vS,vK,_,wv',w',by simp,by simp[d5],by omega,hld,x2,c12,B2⟩
  | [a],hld,sl,hok,hl,hdrop=>
   simp only[D'H]at hld;rw[<-hi2]at hwi hld;split at hld
   ·rename_i hlt
    have ha:=hok.1 a (by simp);have hxo:=C'v a (by omega);have hxm:=G'z ha;obtain⟨z,hz⟩:=e' (a ^^^ 1);rw[<-hz]at hxo hxm hld;obtain⟨vC',h2,h3,w2,e2,p2,f2,g2,x2,c2⟩:=x1.appC L ⟨[a],0,0,0⟩ hlt sl;have B2:=I'3 B1 (y:=⟨[a],0,0,0⟩) ⟨hok.1,hok.2,by show 0<most;omega,by show 0<most;omega,by simp⟩ hlt;have sl2:=sl.ch L c2 (by simp[K11]);obtain⟨bl,cl,hul,hcl2,yu⟩:=sl2.blk (by omega) 1 (by simp) (by omega);have ka:O.cell h3 bl 0=some (ni a):=by rw[yu.cell 0 (by simp)];rfl
    have n5:=x2.m.get 5 _ rfl;have c12:=c1.trans c2;subst hul
    cases hzh:S1.holds[z]? with
    | none=>rw[hzh]at hld;simp at hld
    | some bz=>
     cases hah:S1.holds[a]? with
     | none=>rw[hzh,hah]at hld;cases bz <;> simp at hld
     | some ba=>
      rw[hzh,hah]at hld;have lz:=(l'b.1 hzh).1;have lz':(z:Int)<S1.holds.length:=by omega
      have la:=(l'b.1 hah).1;have la':(a:Int)<S1.holds.length:=by omega
      have kz:=x2.getH z hzh;have kah:=x2.getH a hah;have e2':D'd O ro 4 48 vC (.slice (some ⟨O.next g,0,some 4⟩) 1 2) (O.new g [.slice (some ⟨bl,0,some 1⟩) 1 cl,.int .i64 0,.int .i64 0,.int .i64 0])=some (vC',h2):=e2
      cases bz with
      | true=>
       simp only at hld;refine f'f ?_;clear c1 c2 x1;simp[D'R,Zgu,Zgv,Zgw,Zgy,Zgz,ZgA,ZgD,d0,d1',d5,d6,hi,hi',hcell,m1,hr4,e2',p2,f2,g2,rq,n5,ka,hxo,lz,lz',kz,hwi];exact⟨n,by omega,by simp[d0],by simp[d1',e8],i',some i,_,vC',vT,vS,vK,_,wv,w2,by simp,by simp[rv],by omega,hld,x2,c12,B2⟩
      | false=>
       cases ba with
       | true=>
        simp only at hld;refine f'f ?_;clear c1 c2 x1;simp[D'R,Zgu,Zgv,Zgw,Zgy,Zgz,ZgB,ZgD,d0,d1',d5,d6,hi,hi',hcell,m1,hr4,e2',p2,f2,g2,rq,n5,ka,hxo,lz,lz',kz,la,la',kah,hwi];exact⟨n,by omega,by simp[d0],by simp[d1',e8],i',clash,_,vC',vT,vS,vK,_,wv,w2,by simp,by simp[d5],by omega,hld,x2,c12,B2⟩
       | false=>
        simp only at hld;split at hld
        ·simp at hld
        rename_i S3 h3'
        obtain⟨vT4,g4,w4,e4,x4,c4⟩:=K'M C L x2 a (some i) h3' B2.nV B2.nH;have B4:=(F'k h3' B2 (by intro k hk;simp at hk;omega)).1;unfold ptr at e4;simp only[rv]at e4;refine f'f ?_;clear c1 c2 x1;simp[D'R,Zgu,Zgv,Zgw,Zgy,Zgz,ZgB,ZgC,ZgD,d0,d1',d5,d6,hi,hi',hcell,m1,hr4,e2',p2,f2,g2,rq,n5,ka,hxo,lz,lz',kz,la,la',kah,hwi,e4];exact⟨n,by omega,by simp[d0],by simp[d1',e8],i',clash,_,vC',vT4,vS,vK,_,wv,w4,by simp,by simp[d5],by omega,hld,x4,c12.trans c4,B4⟩
   ·simp at hld
  | [],hld,sl,hok,hl,hdrop=>
   simp only[D'H]at hld;rw[<-hi2]at hwi hld;split at hld
   ·rename_i hlt
    obtain⟨vC',h2,h3,w2,e2,p2,f2,g2,x2,c2⟩:=x1.appC L ⟨[],0,0,0⟩ hlt sl;have B2:=I'3 B1 (y:=⟨[],0,0,0⟩) ⟨by simp,by simp,by show 0<most;omega,by show 0<most;omega,by simp⟩ hlt;obtain⟨au,cu,hul⟩:=sl.len (by omega) 0 (by simp);have c12:=c1.trans c2;subst hul;have e2':D'd O ro 4 48 vC (.slice (some ⟨O.next g,0,some 4⟩) 1 2) (O.new g [.slice au 0 cu,.int .i64 0,.int .i64 0,.int .i64 0])=some (vC',h2):=e2;refine f'f ?_;clear c1 c2 x1;simp[D'R,Zgu,Zgv,Zgw,Zgy,Zgz,ZgA,ZgD,d0,d1',d5,d6,hi,hi',hcell,m1,hr4,e2',p2,f2,g2,rq,hwi];exact⟨n,by omega,by simp[d0],by simp[d1',e8],i',some i,_,vC',vT,vS,vK,_,wv,w2,by simp,by simp[rv],by omega,hld,x2,c12,B2⟩
   ·simp at hld
theorem P'N (C:LP' O ro c)(L:O.Law)(x:SQ O ro w h q S bW bH bV vA vC vT vS vK lv wv)(B:Bd S){tc:Tag}{vcl:Value}{vs:List Value}{cs:List (List Nat)}(X:Cs O ro w h tc vcl vs cs)(htc:¬K11 tc)(hcs:∀l∈cs,(∀a∈l,a<most)∧l.length<=most)(hcl:cs.length<=most){S':Srch}{clash:Option Nat}(hs:K'L S cs=some (S',clash)):
  ∃h',c 202 [ptr q,vcl] h=some (rv clash,h')∧AnQ O ro w h q bW bH bV vA S' h':=by
 have hm:most=1000000:=rfl;unfold K'L at hs;split at hs
 ·simp at hs
 rename_i S1 cl1 h1
 simp only[l'a,l'd]at hs;obtain⟨rfl,rfl⟩:=hs;have key:∃u h',c 202 [ptr q,vcl] h=some (u,h')∧(u=rv cl1∧AnQ O ro w h q bW bH bV vA { S1 with given:=cs.length } h'):=by
  refine C.fn (N'q O ro) rfl rfl ?_;unfold R'Z;refine s'f ?_;simp[Zgr,A'd];refine s'f ?_;simp[Zgs,A'd];refine okE.seq (s'f ?_);simp[Zgt,A'd];refine okE.blk ?_;refine okE.mono (okE.loop (Q:=λe t' g'=>A's 0 e = .normal∧t' 0 = .pointer (some ⟨q,0,none⟩)∧t' 1=vcl∧t' 5=rv cl1∧AnQ O ro w h q bW bH bV vA S1 g') (LdI O ro w h q bW bH bV vA vcl cs (S1,cl1)) (λn t g I=>N'G C L X htc hcs hcl I) cs.length _ _ ⟨by simp,by simp,0,none,S,vC,vT,vS,vK,lv,wv,w,by simp,by simp[rv],by omega,by simpa using h1,x,Ch.refl _ _ _,B⟩) ?_;rintro e t g ⟨hr,d0,d1,d5,vC1,vT1,vS1,vK1,lv1,wv1,w1,x1,c1,B1⟩;rw[hr];simp only[A'd];obtain⟨aL,cL,hvl⟩:=X.s.len (by omega) cs.length (by rw[X.l];simp);have rq:¬q<ro:=by have:=x1.m.lo;omega
  obtain⟨h2,p2,x2,c2⟩:=x1.fld L 2 (by omega) (ni cs.length) (g:=cs.length) (d:=S1.drawn) (b:=S1.bonus) (m:=S1.met) rfl;have B2:Bd { S1 with given:=cs.length }:=⟨B1.cls,B1.nC,B1.nW,B1.nH,B1.nV,B1.nS,B1.nT,B1.nA,B1.nK,B1.wl,B1.tr,B1.st,B1.asm,B1.vr,hcl,B1.dr,B1.bo,B1.me⟩;rw[hvl]at d1;have ht:=P'M cl1;refine f'f ?_;simp[ZgE,ZgF,d0,d1,d5,rq,p2,A'L,A'h,rvE,ht];exact⟨_,_,_,_,_,_,_,x2,c1.trans c2,B2⟩
 obtain⟨u,h',e1,rfl,e2⟩:=key;exact⟨h',e1,e2⟩
def AsI (O:HI H)(ro:Nat)(w:Own)(h:H)(q bW bH bV:Nat)(vA:Value)(f:Nat)(bud:Int)(S':Srch)(an:Nat)(n:Nat)(t:Env)(g:H): Prop:=
 t 0 = .pointer (some ⟨q,0,none⟩)∧t 2 = .int .i64 bud∧∃clash a1 S1,t 7=rv clash∧t 8=ni a1∧(a1=0->B'6 f bud n S1 clash=some (S',an))∧(a1≠0->a1=an∧S1=S')∧AnQ O ro w h q bW bH bV vA S1 g
theorem I'4 (C:LP' O ro c)(L:O.Law){f:Nat}{bud:Int}{S':Srch}{an n:Nat}{t:Env}{g:H}(I:AsI O ro w h q bW bH bV vA f bud S' an n t g):
  okE c (D'y O Tryz.prog ro) (t,g) (λe t' g'=>(e = .normal∧∃n',n'<n∧AsI O ro w h q bW bH bV vA f bud S' an n' t' g')∨(e≠.normal∧(A's 0 e = .normal∧t' 8=ni an∧AnQ O ro w h q bW bH bV vA S' g'))):=by
 obtain⟨d0,d2,clash,a1,S1,d7,d8,hz,hnz,vC,vT,vS,vK,lv,wv,w1,x1,c1,B1⟩:=I
 by_cases ha:a1=0
 ·have hans:=hz ha;subst ha
  cases n with
  | zero=>simp[B'6]at hans
  | succ n=>
   simp only[B'6]at hans
   cases clash with
   | some k=>
    simp only at hans;simp only[rv]at d7;have ek:=F'T k;split at hans
    ·simp at hans
    ·rename_i S2 hmt
     obtain⟨g2,e2,vC2,vT2,vS2,vK2,lv2,wv2,w2,x2,c2,B2⟩:=G'5 C L x1 B1 hmt;unfold ptr at e2;refine f'f ?_;simp[D'y,Zgc,Zgd,Zgf,Zgh,Zgi,d0,d2,d7,d8,ek,e2];exact⟨n,by omega,by simp[d0],by simp[d2],none,0,S2,by simp[rv],by simp,λ_=>hans,by simp,_,_,_,_,_,_,_,x2,c1.trans c2,B2⟩
    ·rename_i S2 a2 hne hmt
     obtain⟨g2,e2,vC2,vT2,vS2,vK2,lv2,wv2,w2,x2,c2,B2⟩:=G'5 C L x1 B1 hmt;unfold ptr at e2;simp only[l'a,l'd]at hans;obtain⟨rfl,rfl⟩:=hans;have hne':a2≠0:=λh0=>hne h0;refine f'f ?_;simp[D'y,Zgc,Zgd,Zgf,Zgh,Zgi,d0,d2,d7,d8,ek,e2];exact⟨n,by omega,by simp[d0],by simp[d2],none,a2,S2,by simp[rv],by simp,λh0=>absurd h0 hne',λ_=>⟨rfl,rfl⟩,_,_,_,_,_,_,_,x2,c1.trans c2,B2⟩
   | none=>
    simp only at hans;simp only[rv]at d7
    cases hdr:D'z f S1 with
    | none=>rw[hdr]at hans;simp at hans
    | some p=>
     obtain⟨S2,cl2⟩:=p;rw[hdr]at hans;obtain⟨vT2,wv2,g2,w2,e2,x2,c2,B2⟩:=P'L C L x1 B1 f hdr;unfold ptr at e2;have c12:=c1.trans c2
     cases cl2 with
     | none=>
      simp only at hans;simp only[rv]at e2;split at hans
      ·simp at hans
      ·rename_i S3 hg
       obtain⟨g3,e3,vC3,vT3,vS3,vK3,lv3,wv3,w3,x3,c3,B3⟩:=I'2 C L x2 B2 hg;unfold ptr at e3;refine f'f ?_;simp[D'y,Zgc,Zgd,Zge,Zgf,Zgg,d0,d2,d7,d8,e2,e3];exact⟨n,by omega,by simp[d0],by simp[d2],none,0,S3,by simp[rv],by simp,λ_=>hans,by simp,_,_,_,_,_,_,_,x3,c12.trans c3,B3⟩
      ·rename_i S3 a3 hne hg
       obtain⟨g3,e3,vC3,vT3,vS3,vK3,lv3,wv3,w3,x3,c3,B3⟩:=I'2 C L x2 B2 hg;unfold ptr at e3;simp only[l'a,l'd]at hans;obtain⟨rfl,rfl⟩:=hans;have hne':a3≠0:=λh0=>hne h0;refine f'f ?_;simp[D'y,Zgc,Zgd,Zge,Zgf,Zgg,d0,d2,d7,d8,e2,e3];exact⟨n,by omega,by simp[d0],by simp[d2],none,a3,S3,by simp[rv],by simp,λh0=>absurd h0 hne',λ_=>⟨rfl,rfl⟩,_,_,_,_,_,_,_,x3,c12.trans c3,B3⟩
     | some k=>
      simp only at hans;simp only[rv]at e2;have ek:=F'T k;split at hans
      ·simp at hans
      ·rename_i S3 hg
       obtain⟨g3,e3,vC3,vT3,vS3,vK3,lv3,wv3,w3,x3,c3,B3⟩:=G'5 C L x2 B2 hg;unfold ptr at e3;refine f'f ?_;simp[D'y,Zgc,Zgd,Zge,Zgf,Zgh,Zgi,d0,d2,d7,d8,ek,e2,e3];exact⟨n,by omega,by simp[d0],by simp[d2],none,0,S3,by simp[rv],by simp,λ_=>hans,by simp,_,_,_,_,_,_,_,x3,c12.trans c3,B3⟩
      ·rename_i S3 a3 hne hg
       obtain⟨g3,e3,vC3,vT3,vS3,vK3,lv3,wv3,w3,x3,c3,B3⟩:=G'5 C L x2 B2 hg;unfold ptr at e3;simp only[l'a,l'd]at hans;obtain⟨rfl,rfl⟩:=hans;have hne':a3≠0:=λh0=>hne h0;refine f'f ?_;simp[D'y,Zgc,Zgd,Zge,Zgf,Zgh,Zgi,d0,d2,d7,d8,ek,e2,e3];exact⟨n,by omega,by simp[d0],by simp[d2],none,a3,S3,by simp[rv],by simp,λh0=>absurd h0 hne',λ_=>⟨rfl,rfl⟩,_,_,_,_,_,_,_,x3,c12.trans c3,B3⟩
 ·obtain⟨rfl,rfl⟩:=hnz ha;have ha':((a1:Int)==0)=false:=by rw[l'A];omega
  refine f'f ?_;simp[D'y,Zgc,d0,d2,d7,d8,ha,ha'];exact⟨_,_,_,_,_,_,_,x1,c1,B1⟩
theorem K'R (C:LP' O ro c)(L:O.Law)(x:SQ O ro w h q S bW bH bV vA vC vT vS vK lv wv)(B:Bd S){tc:Tag}{vcl:Value}{vs:List Value}{cs:List (List Nat)}(X:Cs O ro w h tc vcl vs cs)(htc:¬K11 tc)(hcs:∀l∈cs,(∀a∈l,a<most)∧l.length<=most)(hcl:cs.length<=most){f n:Nat}{bud:Int}{S':Srch}{an:Nat}(hs:E'r f n S cs bud=some (S',an)):
  ∃h',c 187 [ptr q,vcl,.int .i64 bud] h=some (ni an,h')∧AnQ O ro w h q bW bH bV vA S' h':=by
 unfold E'r at hs;split at hs
 ·simp at hs
 rename_i S1 clash h1
 obtain⟨g1,e1,q1⟩:=P'N C L x B X htc hcs hcl h1;have key:∃u h',c 187 [ptr q,vcl,.int .i64 bud] h=some (u,h')∧(u=ni an∧AnQ O ro w h q bW bH bV vA S' h'):=by
  refine C.fn (N'o O ro) rfl rfl ?_;unfold ptr at e1;unfold R'X;refine s'f ?_;simp[Zf9,A'd];refine s'f ?_;simp[Zga,A'd,e1];refine s'f ?_;simp[Zgb,A'd];refine okE.seq (okE.blk ?_);refine okE.mono (okE.loop (Q:=λe t' g'=>A's 0 e = .normal∧t' 8=ni an∧AnQ O ro w h q bW bH bV vA S' g') (AsI O ro w h q bW bH bV vA f bud S' an) (λn t g I=>I'4 C L I) n _ _ ⟨by simp,by simp,clash,0,S1,by simp,by simp,λ_=>hs,by simp,q1⟩) ?_;rintro e t g ⟨hr,d8,hq⟩;rw[hr];simp only[A'd];refine f'f ?_;simp[Zgj,d8,A'L,A'h,rvE];exact hq
 obtain⟨u,h',e1,rfl,e2⟩:=key;exact⟨h',e1,e2⟩
structure SV (O:HI H) (ro:Nat)(w:Own)(h:H) (p s:Nat)(Z:Solv)(vE vcl vM vK:Value)(vs:List Value):Prop where
 m:Bx O ro w h (p,0) s [vE,vcl,vM,vK,ni Z.conflicts]
 sE:Sz O ro w h (p,1) 1 vE (Z.early.map Value.bool)
 sC:Cs O ro w h (p,2) vcl vs Z.clauses
 sM:Sm O ro w h (9,1) 1 vM (Z.model.map Value.bool)
 sK:Sm O ro w h (9,1) 1 vK (Z.core.map ni)
 lo:ro<=O.next h
theorem SV.ch (L:O.Law){K:Tag->Prop}{p s:Nat}{Z:Solv}{vE vcl vM vK:Value}{vs:List Value}(x:SV O ro w h p s Z vE vcl vM vK vs)(a:Ch O K w h w' h')(h9:∀i,¬K (9,i):=by simp)(hp:∀i,¬K (p,i):=by simp): SV O ro w' h' p s Z vE vcl vM vK vs:=
 ⟨x.m.ch L a (hp _),x.sE.ch L a (hp _),x.sC.ch L a (hp _) (h9 _),x.sM.ch L a (h9 _),x.sK.ch L a (h9 _),l'G x.lo a.nx⟩
def HaI (s:Nat)(h:H)(vl:Value)(l:List Nat)(n:Nat)(t:Env)(g:H): Prop:=
 g=h∧t 0 = .pointer (some ⟨s,0,none⟩)∧t 1=vl∧∃i,t 5=ni i∧i+n=l.length
theorem L'W (C:LP' O ro c)(L:O.Law){p s:Nat}{Z:Solv}{vE vcl vM vK:Value}{vs:List Value}(x:SV O ro w h p s Z vE vcl vM vK vs)(hE:Z.early.length<=192){tl:Tag}{vl:Value}{l:List Nat}(hl:l.length<=most)(sl:Sm O ro w h tl 1 vl (l.map ni))(hh:E's Z.early.length l=true): c 156 [ptr s,vl] h=some (.bool true,h):=by
 have hm:most=1000000:=rfl;have m0:=x.m.get 0 _ rfl;obtain⟨aE,cE,hvE⟩:=x.sE.m.len (by omega) Z.early.length (by simp);rw[hvE]at m0;have key:∃u h',c 156 [ptr s,vl] h=some (u,h')∧(u = .bool true∧h'=h):=by
  refine C.fn (N'k O ro) rfl rfl ?_;unfold R'T;refine s'f ?_;simp[Zfx,A'd];refine okE.seq (s'f ?_);simp[Zfy,A'd];refine okE.blk ?_;refine okE.mono (okE.loop (Q:=λe t' g'=>A's 0 e = .normal∧g'=h) (HaI s h vl l) ?_ l.length _ _ ⟨rfl,by simp,by simp,0,by simp,by omega⟩) ?_
  ·rintro n t g ⟨rfl,d0,d1,i,d5,hin⟩
   cases n with
   | zero=>
    obtain rfl:i=l.length:=by omega
    obtain⟨aL,cL,hvl⟩:=sl.len (by omega) l.length (by simp);rw[hvl]at d1;refine f'f ?_;simp[I'Y,Zfz,d0,d1,d5]
   | succ n=>
    have hi:i<l.length:=by omega
    have hi':(i:Int)<l.length:=by omega
    obtain⟨bL,cp,e8,hcp,yl⟩:=sl.blk (by omega) l.length (by simp) (by omega);rw[e8]at d1;obtain⟨a,ha⟩:∃a,l[i]?=some a:=⟨_,l'c hi⟩;have hcell:O.cell g bL i=some (ni a):=by rw[yl.cell i (by simpa using hi)];simp[ha]
    have ham:a<2*Z.early.length:=by
     unfold E's at hh;rw[l'D]at hh;have:=hh a (l'f ha);simpa using this
    have hw2:IntKind.i64.wrap (2*(Z.early.length:Int))=((2*Z.early.length:Nat):Int):=w'i;obtain⟨z,hz⟩:=e' (2*Z.early.length);rw[<-hz]at hw2 ham;have hwi:=w'1 i;obtain⟨i',hi2⟩:=e' (i+1);rw[<-hi2]at hwi;have h1:¬(a:Int)<0:=by omega
    have h2:¬(z:Int)<=(a:Int):=by omega
    have h3:¬z<=a:=by omega
    refine f'f ?_;simp[I'Y,Zfz,ZfA,ZfC,d0,d1,d5,hi,hi',hcell,h1,h2,h3,m0,hw2,hwi];exact⟨n,by omega,rfl,by simp[d0],by simp[d1,e8],i',by simp,by omega⟩
  ·rintro e t g ⟨hr,rfl⟩;rw[hr];simp only[A'd];refine f'f ?_;simp[ZfD,A'L,A'h,rvE]
 obtain⟨u,h',e1,rfl,rfl⟩:=key;exact e1
def AlJ (h:H)(vl:Value)(l:List Nat)(i:Nat)(n:Nat)(t:Env)(g:H): Prop:=
 g=h∧t 0=vl∧t 3=ni i∧∃j,t 4=ni j∧j+n=i∧∀j',j'<j->∀x y,l[i]?=some x->l[j']?=some y->y≠x ^^^ 1
def AlI (h:H)(vl:Value)(l:List Nat)(n:Nat)(t:Env)(g:H): Prop:=
 g=h∧t 0=vl∧∃i,t 3=ni i∧i+n=l.length∧∀i',i'<i->K'S l i'
theorem I'5 (L:O.Law){tl:Tag}{vl:Value}{l:List Nat}(hl:l.length<=most)(hlm:∀a∈l,a<most)(sl:Sm O ro w h tl 1 vl (l.map ni)){i n:Nat}(hi:i<l.length){t:Env}{g:H}(I:AlJ h vl l i n t g):
  okE c (F'P O Tryz.prog ro) (t,g) (λe t' g'=>(e = .normal∧∃n',n'<n∧AlJ h vl l i n' t' g')∨(e≠.normal∧(g'=h∧(A's 2 e = .ret∧t' 2 = .bool true∧B's l=true∨A's 2 e = .normal∧t' 0=vl∧t' 3=ni i∧K'S l i)))):=by
 have hm:most=1000000:=rfl;obtain⟨rfl,d0,d3,j,d4,hjn,hno⟩:=I;have hi':(i:Int)<l.length:=by omega
 cases n with
 | zero=>
  obtain rfl:j=i:=by omega
  refine f'f ?_;simp[F'P,ZfS,d0,d3,d4];exact hno
 | succ n=>
  have hj:j<i:=by omega
  have hj':(j:Int)<i:=by omega
  have hjl:j<l.length:=by omega
  have hjl':(j:Int)<l.length:=by omega
  obtain⟨bL,cp,e8,hcp,yl⟩:=sl.blk (by omega) l.length (by simp) (by omega);have d0':=d0;rw[e8]at d0';obtain⟨a,ha⟩:∃a,l[i]?=some a:=⟨_,l'c hi⟩;obtain⟨b,hb⟩:∃b,l[j]?=some b:=⟨_,l'c hjl⟩;have ka:O.cell g bL i=some (ni a):=by rw[yl.cell i (by simpa using hi)];simp[ha]
  have kb:O.cell g bL j=some (ni b):=by rw[yl.cell j (by simpa using hjl)];simp[hb]
  have hxo:=C'v a (by have:=hlm a (l'f ha);omega);have hwj:=w'1 j;obtain⟨z,hz⟩:=e' (a ^^^ 1);rw[<-hz]at hxo;obtain⟨j2,hj2⟩:=e' (j+1);rw[<-hj2]at hwj
  by_cases he:b=z
  ·refine f'f ?_;simp[F'P,ZfS,ZfT,ZfU,d0',d3,d4,hj,hj',hjl,hjl',hi,hi',ka,kb,hxo,he];exact G'A hj ha hb (by rw[he,hz])
  ·have he':¬(b:Int)=(z:Int):=by omega
   have he2:((b:Int)==(z:Int))=false:=by rw[l'A];exact he'
   refine f'f ?_;simp[F'P,ZfS,ZfT,ZfV,d0',d3,d4,hj,hj',hjl,hjl',hi,hi',ka,kb,hxo,he,he',he2,hwj];refine⟨n,by omega,rfl,by simp[d0',e8],by simp[d3],j2,by simp,by omega,?_⟩;intro j' hj' x y hx hy
   by_cases e:j'=j
   ·subst e;rw[ha]at hx;rw[hb]at hy;simp at hx hy;subst hx hy;rw[<-hz];exact he
   ·exact hno j' (by omega) x y hx hy
theorem K'T (C:LP' O ro c)(L:O.Law){tl:Tag}{vl:Value}{l:List Nat}(hl:l.length<=most)(hlm:∀a∈l,a<most)(sl:Sm O ro w h tl 1 vl (l.map ni)): c 158 [vl] h=some (.bool (B's l),h):=by
 have hm:most=1000000:=rfl;have key:∃u h',c 158 [vl] h=some (u,h')∧(u = .bool (B's l)∧h'=h):=by
  refine C.fn (N'm O ro) rfl rfl ?_;unfold R'V;refine s'f ?_;simp[ZfO,A'd];refine okE.seq (s'f ?_);simp[ZfP,A'd];refine okE.blk ?_;refine okE.mono (okE.loop (Q:=λe t' g'=>g'=h∧(A's 0 e = .ret∧t' 2 = .bool true∧B's l=true∨A's 0 e = .normal∧B's l=false)) (AlI h vl l) ?_ l.length _ _ ⟨rfl,by simp,0,by simp,by omega,by simp⟩) ?_
  ·rintro n t g ⟨rfl,d0,i,d3,hin,hno⟩;obtain⟨aL,cL,hvl⟩:=sl.len (by omega) l.length (by simp);have d0':=d0;rw[hvl]at d0'
   cases n with
   | zero=>
    obtain rfl:i=l.length:=by omega
    unfold I'Z;refine s'f ?_;simp[ZfQ,A'd,d0',d3];exact F'U hno
   | succ n=>
    have hi:i<l.length:=by omega
    have hi':(i:Int)<l.length:=by omega
    have hwi:=w'1 i;obtain⟨i',hi2⟩:=e' (i+1);rw[<-hi2]at hwi;unfold I'Z;refine s'f ?_;simp[ZfQ,A'd,d0',d3,hi,hi'];refine okE.seq (okE.blk (s'f ?_));simp[ZfR,A'd];refine okE.blk ?_;refine okE.mono (okE.loop (Q:=λe t' g'=>g'=g∧(A's 2 e = .ret∧t' 2 = .bool true∧B's l=true∨A's 2 e = .normal∧t' 0=vl∧t' 3=ni i∧K'S l i)) (AlJ g vl l i) (λn t g' I=>I'5 L hl hlm sl hi I) i _ _ ⟨rfl,by simp[d0],by simp[d3],0,by simp,by omega,by simp⟩) ?_;rintro e t' g' ⟨rfl,hr⟩;rcases hr with ⟨hr,d2,hal⟩|⟨hr,e0,e3,hnh⟩
    ·rw[hr];simp[A'd,A's,d2,hal]
    ·rw[hr];simp only[A'd,A's];refine f'f ?_;simp[ZfW,e3,hwi];refine⟨n,by omega,rfl,by simp[e0],i',by simp,by omega,?_⟩;intro i2 hi3
     by_cases e:i2=i
     ·subst e;exact hnh
     ·exact hno i2 (by omega)
  ·rintro e t g ⟨rfl,hr⟩;rcases hr with ⟨hr,d2,hal⟩|⟨hr,hal⟩
   ·rw[hr];simp[A'd,A'L,A'h,rvE,d2,hal]
   ·rw[hr];simp only[A'd];refine f'f ?_;simp[ZfX,A'L,A'h,rvE,hal]
 obtain⟨u,h',e1,rfl,rfl⟩:=key;exact e1
end
end Go.Proofs.YtimdkminagnhgabGreatDoor
