import Derived.Test.YtimdkminagnhgaaGreatDoorQ17
set_option linter.all false
namespace Go.Proofs.YtimdkminagnhgaaGreatDoor
open Go.Vm Go.Proofs Go.Ta
set_option maxHeartbeats 4000000
attribute [local simp] A'a A'b reg to too A'd A'q A'h mv' nl' fl' ld' ln' mk' ia' ik' ix' B'F B'G aLd B'h A'w A'4 aUn unA ev A'l isB A'0 A'E A'F A'G A'H A'I A'J A'K A'L A'M cIf A'B A'f A'g aSt A'N A't A'O A'P A'Q A'9 A'R A'u A'S A'T B'a A'U A'v A'V A'W A'X B'b A'p Instr.fill A'e A'n A'x A'j ptr undef B'o B'y A'k B's A's A'D B'C A'y B'p rangeA B'O A'r A'2 A'z B'd A'm A'o chk
section
variable {H:Type}{O:HI H}{ro:Nat}{c:A'Z H}
variable {w w':Own}{h h':H}{q:Nat}{S:Srch}{bW bH bV:Nat}{vA vC vT vS vK:Value}{lv wv:List Value}
theorem E't (k:Nat): (((k:Nat):Int) == -1)=false:=by
 rw[l'A];omega
theorem D'7 {l:Nat}(h:l<most): l ^^^ 1<most:=by
 have hm:most=1000000:=rfl;have h1:(l ^^^ 1)/2=l/2:=by rw[Nat.xor_div_two];simp
 omega
theorem P'7 (C:LP' O ro c)(L:O.Law)(x:SQ O ro w h q S bW bH bV vA vC vT vS vK lv wv)(B:Bd S)(fallen:Nat)(hf:fallen<most){S':Srch}{clash:Option Nat}(hs:E'r S fallen=some (S',clash)):
  ∃vT' wv' h' w',c 209 [ptr q,ni fallen] h=some (rv clash,h')∧SQ O ro w' h' q S' bW bH bV vA vC vT' vS vK lv wv'∧Ch O K11 w h w' h'∧Bd S':=by
 have hm:most=1000000:=rfl;unfold E'r at hs
 cases hwl:S.watchers[fallen]? with
 | none=>rw[hwl]at hs;simp at hs
 | some wl=>
  rw[hwl]at hs;simp only at hs
  cases hR:B'Z fallen wl.length S 0 0 none with
  | none=>rw[hR]at hs;simp at hs
  | some R=>
   rw[hR]at hs;obtain⟨v,hv,cv,sv⟩:=x.getW fallen hwl;have hN:wl.length<=most:=(B.wl wl (getElem?_mem hwl)).1;have hfl:=(l'b.1 hwl).1;have hfl':(fallen:Int)<S.watchers.length:=by omega
   have m4:=x.m.get 4 _ rfl;have key:∃u h',c 209 [ptr q,ni fallen] h=some (u,h')∧(u=rv clash∧∃vT' wv' w',SQ O ro w' h' q S' bW bH bV vA vC vT' vS vK lv wv'∧Ch O K11 w h w' h'∧Bd S'):=by
    refine C.fn (P'S O ro) rfl rfl ?_;unfold U'9;have s1:okE c (A'b (ZgH O)) (upd (A'0 [ptr q,ni fallen]) 4 (.int .i64 0),h) (λe t g=>e = .normal∧g=h∧t 0 = .pointer (some ⟨q,0,none⟩)∧t 1=ni fallen∧t 5=v):=by
     refine f'f ?_;simp[ZgH,m4,hfl,hfl',cv]
    refine s'f ?_;simp only[ZgG,A'b,reg,to,A'h,mv',nl',fl',ld',ln',mk',ia',ik',ix',ev,l'l,A'g,A'c];refine okE.seq (s1.mono ?_);rintro e t g ⟨rfl,rfl,b0,b1,b5⟩;simp only[A'c];refine s'f ?_;simp only[ZgI,A'b,reg,to,A'h,mv',nl',fl',ld',ln',mk',ia',ik',ix',ev,l'l,A'g,A'c];refine s'f ?_;simp only[ZgJ,A'b,reg,to,A'h,mv',nl',fl',ld',ln',mk',ia',ik',ix',ev,l'l,A'g,A'c];refine okE.seq (s'f ?_);simp only[ZgK,A'b,reg,to,A'h,mv',nl',fl',ld',ln',mk',ia',ik',ix',ev,l'l,A'g,A'c];have loop:okE c (A'x 0 (A'Y (E'o O Tryz.prog ro))) (upd (upd (upd t 6 (.int .i64 (-1))) 7 (.int .i64 0)) 8 (.int .i64 0),g) (λe t' g'=>e = .normal∧∃w1 wv1 vT1,VI O ro w g q fallen wl.length bW bH bV vA vC vS vK lv v 0 R.1 wl.length R.2.1 w1 wv1 vT1 g'∧t' 0 = .pointer (some ⟨q,0,none⟩)∧t' 1=ni fallen∧t' 5=v∧t' 6=rv R.2.2∧t' 7=ni R.2.1):=by
     refine okE.blk ?_;refine okE.loop (λn t g'=>∃S1 i kept cl w1 wv1 vT1,VI O ro w g q fallen wl.length bW bH bV vA vC vS vK lv v n S1 i kept w1 wv1 vT1 g'∧B'Z fallen n S1 i kept cl=some R∧t 0 = .pointer (some ⟨q,0,none⟩)∧t 1=ni fallen∧t 5=v∧t 6=rv cl∧t 7=ni kept∧t 8=ni i) ?_ wl.length _ _
      ⟨S,0,0,none,w,wv,vT,⟨x,Ch.refl _ _ _,B,hv,⟨wl,hwl,rfl⟩,by omega,by omega⟩,hR,by simp[A'l,b0],by simp[A'l,b1],by simp[A'l,b5],by simp[A'l,rv],by simp[A'l],by simp[A'l]⟩
     rintro n t g' ⟨S1,i,kept,cl,w1,wv1,vT1,I,hRn,d0,d1,d5,d6,d7,d8⟩
     cases n with
     | succ n=>
      refine (M'2 C L hf hN I cl hRn t d0 d1 d5 d6 d7 d8).mono ?_;rintro e t' g2 ⟨rfl,S2,kept2,clash2,w2,wv2,vT2,I2,hR2,f0,f1,f5,f6,f7,f8⟩;exact .inl ⟨rfl,n,by omega,S2,i+1,kept2,clash2,w2,wv2,vT2,I2,hR2,f0,f1,f5,f6,f7,f8⟩
     | zero=>
      simp only[B'Z,l'a]at hRn;have hin:=I.hi;obtain⟨wl1,hwl1,hlen1⟩:=I.wl;obtain⟨aL,cL,hvv⟩:=(I.x.aW fallen wl1 v hwl1 I.wv).m.len (by omega) wl.length (by simp[hlen1]);have hni:¬((i:Int)<wl.length):=by omega
      have hni':¬(i<wl.length):=by omega
      subst hRn;obtain rfl:i=wl.length:=by omega
      refine f'f ?_;simp[E'o,ZgL,d0,d1,d5,d6,d7,d8,hvv];rw[hvv]at I;exact⟨w1,wv1,vT1,I⟩
    refine loop.mono ?_;rintro e t1 g1 ⟨rfl,w1,wv1,vT1,I,d0,d1,d5,d6,d7⟩;simp only[A'c];obtain⟨R1,kept,cl⟩:=R;simp only at I d6 d7 hs;obtain⟨wl1,hwl1,hlen1⟩:=I.wl;rw[hwl1]at hs;simp only[l'a,l'd]at hs;obtain⟨hS',rfl⟩:=hs;have hk:=I.hk;have sv1:=I.x.aW fallen wl1 v hwl1 I.wv;have hfl1:fallen<R1.watchers.length:=(l'b.1 hwl1).1;have hfl1':(fallen:Int)<R1.watchers.length:=by omega
    have n4:=I.x.m.get 4 _ rfl;have rW:¬bW<ro:=by have:=I.x.xW.lo;omega
    obtain⟨v',hv'1,hv'2,hv'3⟩:∃v',Sz O ro w1 g1 (12,fallen) 1 v' ((wl1.take kept).map ni)∧(A'm 1 (.tmp 74) none (some (.tmp 75)) c (upd (upd (λ_=>undef) 74 v) 75 (ni kept)) g1=some (v',g1))∧(v'.cells = #[v']∧B'g v'=true):=by
     rcases Sz.take sv1 (by omega) wl1.length kept (by simp) (by omega) with ⟨rfl,rfl,h0,hnil⟩|⟨b,rfl,s2⟩
     ·refine⟨.slice none 0 0,?_,by simp,rfl,rfl⟩;have:wl1=[]:=by simpa using hnil
      subst this;exact Sz.nil _ _ _ _
     ·refine⟨_,by simpa [List.map_take]using s2,?_,rfl,rfl⟩;have e1:((kept:Int)<=wl1.length):=by omega
      have e2:kept<=wl1.length:=by omega
      simp[e1,e2]
    obtain⟨h2,p2,x2,c2⟩:=I.x.setW L fallen hfl1 hv'1;have hsl:∀t:Env,t 74=v->t 75=ni kept->A'm 1 (.tmp 74) none (some (.tmp 75)) c t g1=some (v',g1):=by
     intro t e1 e2;rw[<-hv'2];simp only[A'm,ev,e1,e2,A'l,l'l,Option.map_none];rfl
    have B2:Bd S':=by
     rw[<-hS'];have Bo:=I.bd;exact⟨Bo.cls,Bo.nC,by simpa using Bo.nW,Bo.nH,Bo.nV,Bo.nS,Bo.nT,Bo.nA,Bo.nK,λl hl=>by
      rcases List.mem_or_eq_of_mem_set hl with hl|rfl
      ·exact Bo.wl l hl
      ·have:=Bo.wl wl1 (getElem?_mem hwl1);exact⟨by simp;omega,λj hj=>this.2 j (List.mem_of_mem_take hj)⟩,Bo.tr,Bo.st,Bo.asm,Bo.vr,Bo.gv,Bo.dr,Bo.bo,Bo.me⟩
    have s17:okE c (A'b (ZgX O ro)) (t1,g1) (λe t g=>e = .normal∧g=h2∧t 6=rv cl):=by
     refine f'f ?_;simp[ZgX,d0,d1,d5,d6,d7,n4,hfl1,hfl1',rW,hsl,p2,hv'3.1,hv'3.2,-A'm]
    refine okE.seq (s17.mono ?_);rintro e t2 g2 ⟨rfl,rfl,e6⟩;simp only[A'c];refine f'f ?_;have ht:B'q (rv cl)=false:=by cases cl <;> rfl
    simp[ZgY,e6,A'1,A'i,rvE,ht];exact⟨vT1,wv1.set fallen v',w1,by rw[<-hS'];exact x2,I.ch.trans c2,B2⟩
   obtain⟨u,h',e1,rfl,vT',wv',w',e2⟩:=key;exact⟨vT',wv',h',w',e1,e2⟩
def DrI (O:HI H)(ro:Nat)(w:Own)(h:H)(q bW bH bV:Nat)(vA vC vS vK:Value)(lv:List Value)(S':Srch)(clash:Option Nat)(n:Nat)(t:Env)(g:H): Prop:=
 t 0 = .pointer (some ⟨q,0,none⟩)∧∃S1 cl w1 wv1 vT1,t 3=rv cl∧SQ O ro w1 g q S1 bW bH bV vA vC vT1 vS vK lv wv1∧Ch O K11 w h w1 g∧Bd S1∧(cl=none->D'M n S1=some (S',clash))∧(∀k,cl=some k->S1=S'∧clash=some k)
theorem S'J (C:LP' O ro c)(L:O.Law)(x:SQ O ro w h q S bW bH bV vA vC vT vS vK lv wv)(B:Bd S)(f:Nat){S':Srch}{clash:Option Nat}(hs:D'M f S=some (S',clash)):
  ∃vT' wv' h' w',c 200 [ptr q] h=some (rv clash,h')∧SQ O ro w' h' q S' bW bH bV vA vC vT' vS vK lv wv'∧Ch O K11 w h w' h'∧Bd S':=by
 have hm:most=1000000:=rfl;have key:∃u h',c 200 [ptr q] h=some (u,h')∧(u=rv clash∧∃vT' wv' w',SQ O ro w' h' q S' bW bH bV vA vC vT' vS vK lv wv'∧Ch O K11 w h w' h'∧Bd S'):=by
  refine C.fn (P'N O ro) rfl rfl ?_;unfold U'4;refine s'f ?_;simp only[Zf3,A'b,reg,to,A'h,mv',nl',fl',ld',ln',mk',ia',ik',ix',ev,l'l,A'g,A'c];refine s'f ?_;simp only[Zf4,A'b,reg,to,A'h,mv',nl',fl',ld',ln',mk',ia',ik',ix',ev,l'l,A'g,A'c];have loop:okE c (A'x 0 (A'Y (F'F O Tryz.prog ro))) (upd (upd (A'0 [ptr q]) 2 (.int .i64 0)) 3 (.int .i64 (-1)),h) (λe t' g'=>e = .normal∧t' 3=rv clash∧∃vT' wv' w',SQ O ro w' g' q S' bW bH bV vA vC vT' vS vK lv wv'∧Ch O K11 w h w' g'∧Bd S'):=by
   refine okE.blk ?_;refine okE.loop (DrI O ro w h q bW bH bV vA vC vS vK lv S' clash) ?_ f _ _
    ⟨by simp[A'l,A'0],S,none,w,wv,vT,by simp[A'l,rv],x,Ch.refl _ _ _,B,λ_=>hs,by simp⟩
   rintro n t g ⟨d0,S1,cl,w1,wv1,vT1,d3,x1,c1,B1,hd,hcl⟩
   cases cl with
   | some k=>
    obtain⟨rfl,rfl⟩:=hcl k rfl;have e1:=E't k;refine f'f ?_;simp[F'F,Zf5,d0,d3,rv,e1];exact⟨vT1,wv1,w1,x1,c1,B1⟩
   | none=>
    have hdn:=hd rfl
    cases n with
    | zero=>simp[D'M]at hdn
    | succ n=>
     simp only[D'M]at hdn;have m9:=x1.m.get 9 _ rfl;have m7:=x1.m.get 7 _ rfl
     by_cases hlt:S1.drawn<S1.trail.length
     ·rw[if_pos hlt]at hdn;have hlt':(S1.drawn:Int)<S1.trail.length:=by omega
      cases htr:S1.trail[S1.drawn]? with
      | none=>rw[htr]at hdn;simp at hdn
      | some l=>
       rw[htr]at hdn;simp only at hdn;have hlm:=B1.tr l (getElem?_mem htr);have hT:=B1.nT;obtain⟨bT,hvT,yT⟩:=x1.sT.blk (by omega) S1.trail.length (by simp) (by omega);subst hvT;have hcell:O.cell g bT S1.drawn=some (ni l):=by rw[yT.cell _ (by simpa using hlt)];simp[htr]
       have hxo:=B'P l (by omega);have hwd:=w'1 S1.drawn;obtain⟨h2,p2,x2,c2⟩:=x1.fld L 9 (by omega) (ni (S1.drawn+1)) (g:=S1.given) (d:=S1.drawn+1) (b:=S1.bonus) (m:=S1.met) rfl;have B2:Bd { S1 with drawn:=S1.drawn+1 }:=⟨B1.cls,B1.nC,B1.nW,B1.nH,B1.nV,B1.nS,B1.nT,B1.nA,B1.nK,B1.wl,B1.tr,B1.st,B1.asm,B1.vr,B1.gv,by show S1.drawn+1<=2*most;omega,B1.bo,B1.me⟩;have hfm:=D'7 hlm;obtain⟨z,hz⟩:=e' (l ^^^ 1);rw[<-hz]at hdn hxo hfm;obtain⟨d',hd'⟩:=e' (S1.drawn+1);rw[<-hd']at hdn hwd p2 x2 B2;have n9:=x2.m.get 9 _ rfl;have rq:¬q<ro:=by have:=x1.m.lo;omega
       cases hvis:E'r { S1 with drawn:=d' } z with
       | none=>rw[hvis]at hdn;simp at hdn
       | some p=>
        obtain⟨S3,cl3⟩:=p;rw[hvis]at hdn;obtain⟨vT3,wv3,h3,w3,e3,x3,c3,B3⟩:=P'7 C L x2 B2 z hfm hvis;unfold ptr at e3;have c13:=(c1.trans c2).trans c3;refine f'f ?_;clear c1 c2 c3 x2 x1
        cases cl3 with
        | none=>
         simp only at hdn;simp only[rv]at e3;simp[F'F,Zf5,Zf6,Zf7,Zf8,d0,d3,rv,m9,m7,hlt,hlt',hcell,hxo,hwd,p2,rq,e3];exact⟨n,by omega,by simp[d0],S3,none,w3,wv3,vT3,by simp[rv],x3,c13,B3,λ_=>hdn,by simp⟩
        | some k=>
         simp only[l'a,l'd]at hdn;simp only[rv]at e3;simp[F'F,Zf5,Zf6,Zf7,Zf8,d0,d3,rv,m9,m7,hlt,hlt',hcell,hxo,hwd,p2,rq,e3];exact⟨n,by omega,by simp[d0],S3,some k,w3,wv3,vT3,by simp[rv],x3,c13,B3,by simp,λj hj=>by simp at hj;subst hj;exact⟨hdn.1,hdn.2.symm⟩⟩
     ·rw[if_neg hlt]at hdn;have hlt':¬((S1.drawn:Int)<S1.trail.length):=by omega
      simp only[l'a,l'd]at hdn;obtain⟨rfl,rfl⟩:=hdn;obtain⟨aT,cT,hvT⟩:=x1.sT.m.len (by omega) S1.trail.length (by simp);rw[hvT]at m7;refine f'f ?_;simp[F'F,Zf5,d0,d3,rv,m9,m7,hlt,hlt'];exact⟨vT1,wv1,w1,x1,c1,B1⟩
  refine okE.seq (loop.mono ?_);rintro e t g ⟨rfl,d3,hq⟩;simp only[A'c];refine f'f ?_;have ht:B'q (rv clash)=false:=by cases clash <;> rfl
  simp[Zf9,d3,A'1,A'i,rvE,ht];exact hq
 obtain⟨u,h',e1,rfl,vT',wv',w',e2⟩:=key;exact⟨vT',wv',h',w',e1,e2⟩
theorem SQ.getT (x:SQ O ro w h q S bW bH bV vA vC vT vS vK lv wv)(i:Nat){l:Nat}(hl:S.trail[i]?=some l): ∃b,vT = .slice (some ⟨b,0,some 1⟩) S.trail.length 0∧O.cell h b i=some (ni l):=by
 have hi:=(l'b.1 hl).1;obtain⟨b,hb,y⟩:=x.sT.blk (by omega) S.trail.length (by simp) (by omega);exact⟨b,hb,by rw[y.cell i (by simpa using hi)];simp[hl]⟩
def HvI (q:Nat)(S:Srch)(h:H)(res:Option Nat)(n:Nat)(t:Env)(g:H): Prop:=
 g=h∧t 0 = .pointer (some ⟨q,0,none⟩)∧∃i best,t 4=ni i∧i+n=S.vars.length∧t 3=rv (best.map Prod.fst)∧(∀j w,best=some (j,w)->∃v,S.vars[j]?=some v∧v.weight=w)∧D'n S.holds (S.vars.drop i) i best=some res
theorem K'z (C:LP' O ro c)(L:O.Law)(x:SQ O ro w h q S bW bH bV vA vC vT vS vK lv wv)(B:Bd S){res:Option Nat}(hs:I'o S=some res): c 211 [ptr q] h=some (rv res,h):=by
 have hm:most=1000000:=rfl;have hnV:=B.nV;have m5:=x.m.get 5 _ rfl;have m6:=x.m.get 6 _ rfl;have key:∃u h',c 211 [ptr q] h=some (u,h')∧(u=rv res∧h'=h):=by
  refine C.fn (P'U O ro) rfl rfl ?_;unfold V'b;refine s'f ?_;simp only[Zg8,A'b,reg,to,A'h,mv',nl',fl',ld',ln',mk',ia',ik',ix',ev,l'l,A'g,A'c];refine s'f ?_;simp only[Zg9,A'b,reg,to,A'h,mv',nl',fl',ld',ln',mk',ia',ik',ix',ev,l'l,A'g,A'c];refine okE.seq (s'f ?_);simp only[Zha,A'b,reg,to,A'h,mv',nl',fl',ld',ln',mk',ia',ik',ix',ev,l'l,A'g,A'c];have loop:okE c (A'x 0 (A'Y (E'p O Tryz.prog ro))) (upd (upd (upd (A'0 [ptr q]) 2 (.int .i64 0)) 3 (.int .i64 (-1))) 4 (.int .i64 0),h) (λe t g=>e = .normal∧t 3=rv res∧g=h):=by
   refine okE.blk ?_;refine okE.loop (HvI q S h res) ?_ S.vars.length _ _ ⟨rfl,by simp[A'0],0,none,by simp,by omega,by simp[rv],by simp,by simpa [I'o]using hs⟩;rintro n t g ⟨rfl,d0,i,best,d4,hin,d3,hbest,hres⟩
   cases n with
   | zero=>
    obtain rfl:i=S.vars.length:=by omega
    simp only[List.drop_length,D'n,l'a]at hres;refine f'f ?_;simp[E'p,Zhb,d0,d3,d4,m6,hres]
   | succ n=>
    have hi:i<S.vars.length:=by omega
    have hi':(i:Int)<S.vars.length:=by omega
    obtain⟨v,hv⟩:∃v,S.vars[i]?=some v:=⟨_,l'c hi⟩;have hdrop:S.vars.drop i=v :: S.vars.drop (i+1):=by
     have:=(l'b.1 hv).2;rw[<-this];exact l's hi
    rw[hdrop]at hres;simp only[D'n]at hres;have hwi:=w'1 i;have hw2:IntKind.i64.wrap (2*(i:Int))=((2*i:Nat):Int):=w'i;have hw3:IntKind.i64.wrap (((2*i:Nat):Int)+1)=((2*i+1:Nat):Int):=w'i
    cases ha:S.holds[2*i]? with
    | none=>rw[ha]at hres;simp at hres
    | some a=>
     cases hb:S.holds[2*i+1]? with
     | none=>rw[ha,hb]at hres;simp at hres
     | some b=>
      rw[ha,hb]at hres;simp only at hres;have ga:=x.getH _ ha;have gb:=x.getH _ hb;have la:=(l'b.1 ha).1;have lb:=(l'b.1 hb).1;have la':((2*i:Nat):Int)<S.holds.length:=by omega
      have lb':((2*i+1:Nat):Int)<S.holds.length:=by omega
      obtain⟨i',hi2⟩:=e' (i+1);obtain⟨p,hp⟩:=e' (2*i);obtain⟨p',hp'⟩:=e' (2*i+1);rw[<-hp']at gb lb lb' hw3;rw[<-hp]at ga la la' hw2 hw3;rw[<-hi2]at hwi hres;have hin':i'+n=S.vars.length:=by omega
      have kw:=x.getV i hv 3 (by omega);simp only[vrC,l'x,l'w]at kw
      cases a with
      | true=>
       simp only[Bool.true_or,if_true]at hres;refine f'f ?_;simp[E'p,Zhb,Zhc,Zhf,d0,d3,d4,m5,m6,hi,hi',hw2,hw3,la,la',lb,lb',ga,gb,hwi];exact⟨n,by omega,rfl,by simp[d0],i',best,by simp,hin',by simp[d3],hbest,hres⟩
      | false=>
       cases b with
       | true=>
        simp only[Bool.or_true,if_true]at hres;refine f'f ?_;simp[E'p,Zhb,Zhc,Zhf,d0,d3,d4,m5,m6,hi,hi',hw2,hw3,la,la',lb,lb',ga,gb,hwi];exact⟨n,by omega,rfl,by simp[d0],i',best,by simp,hin',by simp[d3],hbest,hres⟩
       | false=>
        simp only[Bool.or_self,l'y,if_false]at hres
        cases best with
        | none=>
         simp only at hres;simp only[Option.map_none,rv]at d3;refine f'f ?_;simp[E'p,Zhb,Zhc,Zhd,Zhe,Zhf,d0,d3,d4,m5,m6,hi,hi',hw2,hw3,la,la',lb,lb',ga,gb,hwi];exact⟨n,by omega,rfl,by simp[d0],i',some (i,v.weight),by simp,hin',by simp[rv],λj w hj=>by simp at hj;obtain⟨rfl,rfl⟩:=hj;exact⟨v,hv,rfl⟩,hres⟩
        | some p2=>
         obtain⟨j,wj⟩:=p2;obtain⟨vj,hvj,hwj⟩:=hbest j wj rfl;simp only at hres;simp only[l'l,rv]at d3;have kj:=x.getV j hvj 3 (by omega);simp only[vrC,l'x,l'w]at kj;have lj:=(l'b.1 hvj).1;have lj':(j:Int)<S.vars.length:=by omega
         have ej:=E't j
         by_cases hlt:wj<v.weight
         ·rw[if_pos hlt]at hres;have hlt':(vj.weight:Int)<v.weight:=by omega
          have hlt2:vj.weight<v.weight:=by omega
          refine f'f ?_;simp[E'p,Zhb,Zhc,Zhd,Zhe,Zhf,d0,d3,d4,m5,m6,hi,hi',hw2,hw3,la,la',lb,lb',ga,gb,hwi,ej,kw,kj,lj,lj',hlt',hlt2];exact⟨n,by omega,rfl,by simp[d0],i',some (i,v.weight),by simp,hin',by simp[rv],λj w hj=>by simp at hj;obtain⟨rfl,rfl⟩:=hj;exact⟨v,hv,rfl⟩,hres⟩
         ·rw[if_neg hlt]at hres;have hlt':¬((vj.weight:Int)<v.weight):=by omega
          have hlt2:¬(vj.weight<v.weight):=by omega
          refine f'f ?_;simp[E'p,Zhb,Zhc,Zhd,Zhe,Zhf,d0,d3,d4,m5,m6,hi,hi',hw2,hw3,la,la',lb,lb',ga,gb,hwi,ej,kw,kj,lj,lj',hlt',hlt2];exact⟨n,by omega,rfl,by simp[d0],i',some (j,wj),by simp,hin',by simp[d3,rv],hbest,hres⟩
  refine loop.mono ?_;rintro e t g ⟨rfl,d3,rfl⟩;simp only[A'c];refine f'f ?_;have ht:B'q (rv res)=false:=by cases res <;> rfl
  simp[Zhg,d3,A'1,A'i,rvE,ht]
 obtain⟨u,h',e1,rfl,rfl⟩:=key;exact e1
def MkI (O:HI H)(ro:Nat)(w:Own)(h:H)(q bW bH bV:Nat)(vA vC vT vS vK:Value)(lv wv:List Value)(vl:Value)(lits:List Nat)(S0 S':Srch)(tot:Nat)(n:Nat)(t:Env)(g:H): Prop:=
 t 0 = .pointer (some ⟨q,0,none⟩)∧t 1=vl∧∃S1 i a m,t 6=ni i∧i+n=lits.length∧t 5=ni a∧a<=i∧C'1 (lits.drop i) S1=some (S',m)∧a+m=tot∧SQ O ro w g q S1 bW bH bV vA vC vT vS vK lv wv∧Ch O K11 w h w g∧Bd S1∧S1.starts=S0.starts∧S1.clauses=S0.clauses∧S1.trail=S0.trail
theorem I'p (C:LP' O ro c)(L:O.Law)(x:SQ O ro w h q S bW bH bV vA vC vT vS vK lv wv)(B:Bd S){lits:List Nat}{vl:Value}(hl1:∀a∈lits,a<most)(hl2:lits.length<=most){tl:Tag}(ht9:¬K11 tl)(sl:Sm O ro w h tl 1 vl (lits.map ni)){S':Srch}{tot:Nat}(hs:C'1 lits S=some (S',tot)):
  ∃h',c 221 [ptr q,vl] h=some (ni tot,h')∧SQ O ro w h' q S' bW bH bV vA vC vT vS vK lv wv∧Ch O K11 w h w h'∧Bd S'∧S'.starts=S.starts∧S'.clauses=S.clauses∧S'.trail=S.trail∧tot<=lits.length:=by
 have hm:most=1000000:=rfl;have key:∃u h',c 221 [ptr q,vl] h=some (u,h')∧(u=ni tot∧SQ O ro w h' q S' bW bH bV vA vC vT vS vK lv wv∧Ch O K11 w h w h'∧Bd S'∧S'.starts=S.starts∧S'.clauses=S.clauses∧S'.trail=S.trail∧tot<=lits.length):=by
  refine C.fn (P'Z O ro) rfl rfl ?_;unfold V'g;refine s'f ?_;simp only[Zh0,A'b,reg,to,A'h,mv',nl',fl',ld',ln',mk',ia',ik',ix',ev,l'l,A'g,A'c];refine s'f ?_;simp only[Zh1,A'b,reg,to,A'h,mv',nl',fl',ld',ln',mk',ia',ik',ix',ev,l'l,A'g,A'c];refine okE.seq (s'f ?_);simp only[Zh2,A'b,reg,to,A'h,mv',nl',fl',ld',ln',mk',ia',ik',ix',ev,l'l,A'g,A'c];have loop:okE c (A'x 0 (A'Y (E'0 O Tryz.prog ro))) (upd (upd (upd (A'0 [ptr q,vl]) 4 (.int .i64 0)) 5 (.int .i64 0)) 6 (.int .i64 0),h) (λe t g=>e = .normal∧t 5=ni tot∧SQ O ro w g q S' bW bH bV vA vC vT vS vK lv wv∧Ch O K11 w h w g∧Bd S'∧S'.starts=S.starts∧S'.clauses=S.clauses∧S'.trail=S.trail∧tot<=lits.length):=by
   refine okE.blk ?_;refine okE.loop (MkI O ro w h q bW bH bV vA vC vT vS vK lv wv vl lits S S' tot) ?_ lits.length _ _ ⟨by simp[A'0],by simp[A'0],S,0,0,tot,by simp,by omega,by simp,by omega,by simpa using hs,by omega,x,Ch.refl _ _ _,B,rfl,rfl,rfl⟩;rintro n t g ⟨d0,d1,S1,i,a,m,d6,hin,d5,hai,hmk,htot,x1,c1,B1,hst,hcl,htr⟩;obtain⟨aL,cL,hvl⟩:=sl.len (by omega) lits.length (by simp)
   cases n with
   | zero=>
    obtain rfl:i=lits.length:=by omega
    simp only[List.drop_length,C'1,l'a,l'd]at hmk;obtain⟨rfl,rfl⟩:=hmk;refine f'f ?_;rw[hvl]at d1;simp[E'0,Zh3,d0,d1,d5,d6];exact⟨by omega,x1,c1,B1,hst,hcl,htr,by omega⟩
   | succ n=>
    have hi:i<lits.length:=by omega
    have hi':(i:Int)<lits.length:=by omega
    have slg:=sl.ch L c1 ht9;obtain⟨bL,cp,e8,hcp,yl⟩:=slg.blk (by omega) lits.length (by simp) (by omega);rw[e8]at d1;obtain⟨l,hl⟩:∃l,lits[i]?=some l:=⟨_,l'c hi⟩;have hcell:O.cell g bL i=some (ni l):=by rw[yl.cell i (by simpa using hi)];simp[hl]
    have hlm:=hl1 l (getElem?_mem hl);have hdrop:lits.drop i=l :: lits.drop (i+1):=by
     have:=(l'b.1 hl).2;rw[<-this];exact l's hi
    rw[hdrop]at hmk;simp only[C'1]at hmk;have hwi:=w'1 i;have hwa:=w'1 a;have hsh:=C'c l;obtain⟨i',hi2⟩:=e' (i+1);obtain⟨a',ha2⟩:=e' (a+1);rw[<-hi2]at hwi hmk;rw[<-ha2]at hwa;have hin':i'+n=lits.length:=by omega
    have m6:=x1.m.get 6 _ rfl;have m10:=x1.m.get 10 _ rfl
    cases hv:S1.vars[l/2]? with
    | none=>rw[hv]at hmk;simp at hmk
    | some v=>
     rw[hv]at hmk;simp only at hmk;have lv0:=(l'b.1 hv).1;have lv':((l/2:Nat):Int)<S1.vars.length:=by omega
     have k2:=x1.getV (l/2) hv 2 (by omega);have k0:=x1.getV (l/2) hv 0 (by omega);have k3:=x1.getV (l/2) hv 3 (by omega);simp only[vrC,l'x,l'w,Nat.add_zero]at k2 k0 k3;have rV:¬bV<ro:=by have:=x1.xV.lo;omega
     have hVok:=B1.vr v (getElem?_mem hv);have hVw:=hVok.weight;have hbo:=B1.bo;have hm62:B'w=4611686018427387904:=rfl
     cases hmk2:v.marked with
     | true=>
      rw[hmk2]at hmk k2;simp only[Bool.true_or,if_true]at hmk;refine f'f ?_;generalize l/2=d at *;simp[E'0,Zh3,Zh4,Zh5,Zia,d0,d1,d5,d6,hi,hi',hcell,hsh,m6,lv0,lv',k2,hwi];exact⟨n,by omega,by simp[d0],by simp[d1,e8],S1,i',a,m,by simp,hin',by simp[d5],by omega,hmk,htot,x1,c1,B1,hst,hcl,htr⟩
     | false=>
      by_cases hlev:v.level=0
      ·rw[hmk2]at hmk k2;simp only[hlev,Bool.false_or,beq_self_eq_true,if_true]at hmk;rw[hlev]at k0;refine f'f ?_;generalize l/2=d at *;simp[E'0,Zh3,Zh4,Zh5,Zia,d0,d1,d5,d6,hi,hi',hcell,hsh,m6,lv0,lv',k2,k0,hwi];exact⟨n,by omega,by simp[d0],by simp[d1,e8],S1,i',a,m,by simp,hin',by simp[d5],by omega,hmk,htot,x1,c1,B1,hst,hcl,htr⟩
      ·have hlev2:(v.level==0)=false:=by simpa using hlev
       have hlev3:((v.level:Int)==0)=false:=by rw[l'A];omega
       rw[hmk2]at hmk k2;simp only[hlev2,Bool.or_self,l'y,if_false]at hmk
       by_cases hw62:v.weight+S1.bonus<B'w
       ·rw[if_pos hw62]at hmk;obtain⟨h2,p2,x2,c2⟩:=x1.putV L (l/2) hv 2 (by omega) (.bool true) { v with marked:=true } rfl;have hv2:(S1.vars.set (l/2) { v with marked:=true })[l/2]?=some { v with marked:=true }:=by simp[lv0]
        obtain⟨h3,p3,x3,c3⟩:=x2.putV L (l/2) hv2 3 (by omega) (ni (v.weight+S1.bonus)) { v with marked:=true,weight:=v.weight+S1.bonus } rfl;simp only[List.set_set]at x3;have hww:IntKind.i64.wrap ((v.weight:Int)+(S1.bonus:Int))=((v.weight+S1.bonus:Nat):Int):=w'i;have n6:=x2.m.get 6 _ rfl;have n10:=x2.m.get 10 _ rfl;have o6:=x3.m.get 6 _ rfl;have o8:=x3.m.get 8 _ rfl;have j3:=x2.getV (l/2) hv2 3 (by omega);have hv3:(S1.vars.set (l/2) { v with marked:=true,weight:=v.weight+S1.bonus })[l/2]?=some { v with marked:=true,weight:=v.weight+S1.bonus }:=by simp[lv0]
        have j0:=x3.getV (l/2) hv3 0 (by omega);simp only[vrC,l'x,l'w,Nat.add_zero]at j3 j0;simp only[List.length_set]at n6 o6;obtain⟨aS,cS,hvS⟩:=x3.sS.m.len (by omega) S1.starts.length (by simp);rw[hvS]at o8;have B3:Bd { S1 with vars:=S1.vars.set (l/2) { v with marked:=true,weight:=v.weight+S1.bonus } }:=⟨B1.cls,B1.nC,B1.nW,B1.nH,by simpa using B1.nV,B1.nS,B1.nT,B1.nA,B1.nK,B1.wl,B1.tr,B1.st,B1.asm,λu hu=>by
         rcases List.mem_or_eq_of_mem_set hu with hu|rfl
         ·exact B1.vr u hu
         ·exact⟨hw62,hVok.reason,hVok.level⟩,B1.gv,B1.dr,B1.bo,B1.me⟩
        have c13:=(c1.trans c2).trans c3
        cases hmm:C'1 (lits.drop i') { S1 with vars:=S1.vars.set (l/2) { v with marked:=true,weight:=v.weight+S1.bonus } } with
        | none=>rw[hmm]at hmk;simp at hmk
        | some pr=>
         obtain⟨S9,m9⟩:=pr;rw[hmm]at hmk;simp only[l'a,l'd]at hmk;obtain⟨rfl,hm9⟩:=hmk;refine f'f ?_;generalize hww2:v.weight+S1.bonus=ww at *
         by_cases hls:v.level=S1.starts.length
         ·rw[if_pos hls]at hm9;have hs4:((S1.starts.length:Int)==0)=false:=by rw[<-hls];exact hlev3
          have hs5:¬(S1.starts.length=0):=by rw[<-hls];exact hlev
          have hs6:¬(S1.starts=[]):=λe=>hs5 (by rw[e];rfl);clear c1 c2 c3 x1 x2;generalize l/2=d at *;simp[E'0,Zh3,Zh4,Zh5,Zh6,Zh7,Zh8,Zh9,Zia,d0,d1,d5,d6,hi,hi',hcell,hsh,m6,lv0,lv',k2,k0,hlev,hlev3,hwi,p2,p3,rV,n6,n10,j3,hww,o6,o8,j0,E'7,hls,hwa,hs4,hs5,hs6];exact⟨n,by omega,by simp[d0],by simp[d1,e8],_,i',a',m9,by simp,hin',by simp,by omega,hmm,by omega,x3,c13,B3,hst,hcl,htr⟩
         ·rw[if_neg hls]at hm9;clear c1 c2 c3 x1 x2;generalize l/2=d at *;simp[E'0,Zh3,Zh4,Zh5,Zh6,Zh7,Zh8,Zh9,Zia,d0,d1,d5,d6,hi,hi',hcell,hsh,m6,lv0,lv',k2,k0,hlev,hlev3,hwi,p2,p3,rV,n6,n10,j3,hww,o6,o8,j0,E'7,hls,hwa];exact⟨n,by omega,by simp[d0],by simp[d1,e8],_,i',a,m9,by simp,hin',by simp[d5],by omega,hmm,by omega,x3,c13,B3,hst,hcl,htr⟩
       ·rw[if_neg hw62]at hmk;simp at hmk
  refine loop.mono ?_;rintro e t g ⟨rfl,d5,hq⟩;simp only[A'c];refine f'f ?_;simp[Zib,d5,A'1,A'i,rvE];exact hq
 obtain⟨u,h',e1,rfl,e2⟩:=key;exact⟨h',e1,e2⟩
def TcI (O:HI H)(ro:Nat)(w:Own)(h:H)(q bW bH bV:Nat)(vA vC vT vS vK:Value)(lv wv:List Value)(S0 S':Srch)(pos:Nat)(n:Nat)(t:Env)(g:H): Prop:=
 t 0 = .pointer (some ⟨q,0,none⟩)∧t 6=ni n∧n<S0.trail.length∧∃S1 op,t 5 = .int .i64 op∧C'7 n S1 op=some (S',pos)∧SQ O ro w g q S1 bW bH bV vA vC vT vS vK lv wv∧Ch O K11 w h w g∧Bd S1∧S1.starts=S0.starts∧S1.clauses=S0.clauses∧S1.trail=S0.trail
def TcQ (O:HI H)(ro:Nat)(w:Own)(h:H)(q bW bH bV:Nat)(vA vC vT vS vK:Value)(lv wv:List Value)(S0 S':Srch)(pos:Nat)(g:H): Prop:=
 pos<S0.trail.length∧SQ O ro w g q S' bW bH bV vA vC vT vS vK lv wv∧Ch O K11 w h w g∧Bd S'∧S'.starts=S0.starts∧S'.clauses=S0.clauses∧S'.trail=S0.trail
theorem M'3 (C:LP' O ro c)(L:O.Law){S0 S':Srch}{pos n:Nat}{t:Env}{g:H}(I:TcI O ro w h q bW bH bV vA vC vT vS vK lv wv S0 S' pos n t g):
  okE c (E'1 O Tryz.prog ro) (t,g) (λe t' g'=>(e = .normal∧∃n',n'<n∧TcI O ro w h q bW bH bV vA vC vT vS vK lv wv S0 S' pos n' t' g')∨(e≠.normal∧((A'j 0 e = .ret∧t' 4=ni pos∨A'j 0 e = .normal∧t' 6=ni pos)∧TcQ O ro w h q bW bH bV vA vC vT vS vK lv wv S0 S' pos g'))):=by
 have hm:most=1000000:=rfl;obtain⟨d0,d6,hn,S1,op,d5,htc,x1,c1,B1,hst,hcl,htr⟩:=I
 cases n with
 | zero=>
  simp only[C'7,l'a,l'd]at htc;obtain⟨rfl,rfl⟩:=htc;refine f'f ?_;simp[E'1,Zif,d0,d5,d6];exact⟨hn,x1,c1,B1,hst,hcl,htr⟩
 | succ d=>
  simp only[C'7]at htc;rw[htr]at htc;obtain⟨l,hl⟩:∃l,S0.trail[d+1]?=some l:=⟨_,l'c hn⟩;rw[hl]at htc;simp only at htc;obtain⟨bT,hvT,hcell⟩:=x1.getT (d+1) (by rw[htr];exact hl);rw[htr]at hvT;have hnT:=B1.nT;rw[htr]at hnT;have hlm:=B1.tr l (by rw[htr];exact getElem?_mem hl);have hwd:IntKind.i64.wrap (((d+1:Nat):Int)-1)=(d:Int):=w'i;obtain⟨i,hi⟩:=e' (d+1);rw[<-hi]at htc hcell hwd d6 hn;have hi0:(0:Int)<i:=by omega
  have hi1:0<i:=by omega
  have hn':(i:Int)<S0.trail.length:=by omega
  have hsh:=C'c l;have m1:=x1.m.get 1 _ rfl;have m6:=x1.m.get 6 _ rfl;have m7:=x1.m.get 7 _ rfl
  cases hv:S1.vars[l/2]? with
  | none=>rw[hv]at htc;simp at htc
  | some v=>
   rw[hv]at htc;simp only at htc;have lv0:=(l'b.1 hv).1;have lv':((l/2:Nat):Int)<S1.vars.length:=by omega
   have k1:=x1.getV (l/2) hv 1 (by omega);have k2:=x1.getV (l/2) hv 2 (by omega);simp only[vrC,l'x,l'w,Nat.add_zero]at k1 k2;have hvr:=B1.vr v (getElem?_mem hv);subst hvT
   cases hmk:v.marked with
   | false=>
    rw[hmk]at htc k2;simp only[l'y,if_false]at htc;refine f'f ?_;generalize l/2=dd at *;simp[E'1,Zif,Zig,Zih,Zii,Zin,d0,d5,d6,hi0,hi1,m7,m6,hn,hn',hcell,hsh,lv0,lv',k1,k2,hwd];exact⟨d,by omega,by simp[d0],by simp,by omega,S1,op,by simp[d5],htc,x1,c1,B1,hst,hcl,htr⟩
   | true=>
    rw[hmk]at htc k2;simp only[if_true]at htc
    by_cases hop:op=1
    ·rw[if_pos hop]at htc;simp only[l'a,l'd]at htc;obtain⟨rfl,rfl⟩:=htc;subst hop;refine f'f ?_;generalize l/2=dd at *;simp[E'1,Zif,Zig,Zih,Zii,Zij,Zik,d0,d5,d6,hi0,hi1,m7,m6,hn,hn',hcell,hsh,lv0,lv',k1,k2,hwd];exact⟨by omega,x1,c1,B1,hst,hcl,htr⟩
    ·rw[if_neg hop]at htc;have hop2:(op==1)=false:=by rw[l'A];exact hop
     cases hrs:v.reason with
     | none=>
      rw[hrs]at htc k1;simp only[l'a,l'd]at htc;obtain⟨rfl,rfl⟩:=htc;simp only[rv]at k1;refine f'f ?_;generalize l/2=dd at *;simp[E'1,Zif,Zig,Zih,Zii,Zij,Zik,d0,d5,d6,hi0,hi1,m7,m6,hn,hn',hcell,hsh,lv0,lv',k1,k2,hwd,hop,hop2];exact⟨by omega,x1,c1,B1,hst,hcl,htr⟩
     | some k=>
      rw[hrs]at htc k1;simp only at htc;simp only[rv]at k1;have ek:=E't k
      cases hy:S1.clauses[k]? with
      | none=>rw[hy]at htc;simp at htc
      | some y=>
       rw[hy]at htc;simp only at htc;have hkl:=(l'b.1 hy).1;have hkl':(k:Int)<S1.clauses.length:=by omega
       have hY:=B1.cls y (getElem?_mem hy);obtain⟨bC,vl,hvC,yC,hlvk,sl,cc0,-⟩:=x1.getC k hy
       cases hmp:C'1 y.lits S1 with
       | none=>rw[hmp]at htc;simp at htc
       | some p=>
        obtain⟨S2,m⟩:=p;rw[hmp]at htc;simp only at htc;obtain⟨h2,e2,x2,c2,B2,hst2,hcl2,htr2,hml⟩:=I'p C L x1 B1 hY.lits hY.len (by simp[K11]) sl hmp;unfold ptr at e2;subst hvC
        by_cases hbb:-most<=op∧op<=most∧m<=most
        ·rw[if_pos hbb]at htc;have c12:=c1.trans c2;obtain⟨m1',hm1⟩:=e' ((m:Int)-1);obtain⟨op2,hop3⟩:=e' (op+m1');have hw1:IntKind.i64.wrap ((m:Int)-1)=m1':=by rw[hm1];exact B'H (by omega) (by omega)
         have hw2:IntKind.i64.wrap (op+m1')=op2:=by rw[hop3];exact B'H (by omega) (by omega)
         rw[<-hm1,<-hop3]at htc;refine f'f ?_;clear c1 c2 x1;generalize l/2=dd at *;simp[E'1,Zif,Zig,Zih,Zii,Zij,Zil,Zim,Zin,d0,d5,d6,hi0,hi1,m7,m6,m1,hn,hn',hcell,hsh,lv0,lv',k1,k2,hwd,hop,hop2,ek,hkl,hkl',cc0,e2,hw1,hw2];exact⟨d,by omega,by simp[d0],by simp,by omega,S2,op2,by simp,htc,x2,c12,B2,hst2.trans hst,hcl2.trans hcl,htr2.trans htr⟩
        ·rw[if_neg hbb]at htc;simp at htc
theorem P'8 (C:LP' O ro c)(L:O.Law)(x:SQ O ro w h q S bW bH bV vA vC vT vS vK lv wv)(B:Bd S){k:Nat}{y:Cl}(hy:S.clauses[k]?=some y){S1 S':Srch}{n pos:Nat}(h1:C'1 y.lits S=some (S1,n))(h2:C'7 (S1.trail.length-1) S1 n=some (S',pos))(h0:1<=S.trail.length):
  ∃h',c 222 [ptr q,ni k] h=some (ni pos,h')∧TcQ O ro w h q bW bH bV vA vC vT vS vK lv wv S S' pos h':=by
 have hm:most=1000000:=rfl;have key:∃u h',c 222 [ptr q,ni k] h=some (u,h')∧(u=ni pos∧TcQ O ro w h q bW bH bV vA vC vT vS vK lv wv S S' pos h'):=by
  refine C.fn (P'0 O ro) rfl rfl ?_;have hkl:=(l'b.1 hy).1;have hkl':(k:Int)<S.clauses.length:=by omega
  have hY:=B.cls y (getElem?_mem hy);have hnT:=B.nT;obtain⟨bC,vl,hvC,yC,hlvk,sl,cc0,-⟩:=x.getC k hy;obtain⟨g1,e1,x1,c1,B1,hst1,hcl1,htr1,hnl⟩:=I'p C L x B hY.lits hY.len (by simp[K11]) sl h1;have m1:=x.m.get 1 _ rfl;have m7:=x1.m.get 7 _ rfl;unfold ptr at e1;unfold V'h;refine s'f ?_;simp only[Zic,A'b,reg,to,A'h,mv',nl',fl',ld',ln',mk',ia',ik',ix',ev,l'l,A'g,A'c];refine s'f ?_;subst hvC;simp[Zid,m1,hkl,hkl',cc0,e1,A'c];obtain⟨aT,cT,hvT⟩:=x1.sT.m.len (by omega) S.trail.length (by simp[htr1]);have hw1:IntKind.i64.wrap ((S.trail.length:Int)-1)=((S.trail.length-1:Nat):Int):=w'i;refine s'f ?_;rw[hvT]at m7;simp[Zie,m7,hw1,A'c];refine okE.seq (okE.blk ?_);rw[htr1]at h2;refine okE.mono (okE.loop (Q:=λe t' g'=>(A'j 0 e = .ret∧t' 4=ni pos∨A'j 0 e = .normal∧t' 6=ni pos)∧TcQ O ro w h q bW bH bV vA _ vT vS vK lv wv S S' pos g') (TcI O ro w h q bW bH bV vA _ vT vS vK lv wv S S' pos) (λn t g I=>M'3 C L I) (S.trail.length-1) _ _ ⟨by simp,by simp,by omega,S1,n,by simp,h2,x1,c1,B1,hst1,hcl1,htr1⟩) ?_;rintro e t g ⟨hr,hq⟩;rcases hr with ⟨hr,d4⟩|⟨hr,d6⟩
  ·rw[hr];simp[A'c,A'1,A'i,rvE,d4];exact hq
  ·rw[hr];simp only[A'c];refine f'f ?_;simp[Zio,d6,A'1,A'i,rvE];exact hq
 obtain⟨u,h',e1,rfl,e2⟩:=key;exact⟨h',e1,e2⟩
theorem B'i (w:Own)(n:Nat): ∃k:Nat,∀b,b<n->w b≠((14,k):Tag):=by
 have:∃m:Nat,∀b,b<n->(w b).2<m:=by
  induction n with
  | zero=>exact⟨0,λb hb=>by omega⟩
  | succ n ih=>
   obtain⟨m,hm⟩:=ih;refine⟨max m ((w n).2+1),λb hb=>?_⟩
   by_cases e:b=n
   ·subst e;omega
   ·have:=hm b (by omega);omega
 obtain⟨m,hm⟩:=this;refine⟨m,λb hb e=>?_⟩;have:=hm b hb;rw[e]at this;simp at this
theorem Ch.old {t:Tag}(a:Ch O (λu=>u=t) w h w' h')(hn:∀b,b<O.next h->w b≠t): Ch O (λ_=>False) w h w' h':=
 ⟨a.nx,a.ow,λb hb _=>a.fr b hb (hn b hb)⟩
theorem P'9 (r:Option Nat): B'g (rv r)=true:=by cases r <;> rfl
theorem S'K (r:Option Nat): B'q (rv r)=false:=by cases r <;> rfl
def NdI (O:HI H)(ro:Nat)(w:Own)(h:H)(q bW bH bV:Nat)(vA vC vT vS vK:Value)(lv wv:List Value)(S:Srch)(tg:Tag)(vl:Value)(lits:List Nat)(r:Bool)(n:Nat)(t:Env)(g:H): Prop:=
 t 0 = .pointer (some ⟨q,0,none⟩)∧t 5=vl∧∃i w1,t 6=ni i∧i+n=lits.length∧H'G S.vars (lits.drop i)=some r∧SQ O ro w1 g q S bW bH bV vA vC vT vS vK lv wv∧Ch O (λu=>u=tg) w h w1 g∧Sm O ro w1 g (9,0) 1 vl (lits.map ni)
def NdQ (O:HI H)(ro:Nat)(w:Own)(h:H)(q bW bH bV:Nat)(vA vC vT vS vK:Value)(lv wv:List Value)(S:Srch)(tg:Tag)(g:H): Prop:=
 ∃w1,SQ O ro w1 g q S bW bH bV vA vC vT vS vK lv wv∧Ch O (λu=>u=tg) w h w1 g
theorem Q'a (L:O.Law){k0:Nat}{tg:Tag}(htg:tg=(14,k0))(B:Bd S){vl:Value}{lits:List Nat}(hl1:∀a∈lits,a<most)(hl2:lits.length<=most){r:Bool}{n:Nat}{t:Env}{g:H}(I:NdI O ro w h q bW bH bV vA vC vT vS vK lv wv S tg vl lits r n t g):
  okE c (F'I O Tryz.prog ro) (t,g) (λe t' g'=>(e = .normal∧∃n',n'<n∧NdI O ro w h q bW bH bV vA vC vT vS vK lv wv S tg vl lits r n' t' g')∨(e≠.normal∧((A'j 0 e = .ret∧t' 4 = .bool false∧r=false∨A'j 0 e = .normal∧r=true)∧NdQ O ro w h q bW bH bV vA vC vT vS vK lv wv S tg g'))):=by
 have hm:most=1000000:=rfl;obtain⟨d0,d5,i,w1,d6,hin,hnd,x1,c1,sl⟩:=I;have hnV:=B.nV
 cases n with
 | zero=>
  obtain rfl:i=lits.length:=by omega
  simp only[List.drop_length,H'G,l'a]at hnd;obtain⟨aL,cL,hvl⟩:=sl.len (by omega) lits.length (by simp);rw[hvl]at d5;refine f'f ?_;simp[F'I,Zjr,d0,d5,d6];exact⟨hnd.symm,w1,x1,c1⟩
 | succ n=>
  have hi:i<lits.length:=by omega
  have hi':(i:Int)<lits.length:=by omega
  obtain⟨bL,cp,e8,hcp,yl⟩:=sl.blk (by omega) lits.length (by simp) (by omega);rw[e8]at d5;obtain⟨l,hl⟩:∃l,lits[i]?=some l:=⟨_,l'c hi⟩;have hcell:O.cell g bL i=some (ni l):=by rw[yl.cell i (by simpa using hi)];simp[hl]
  have hlm:=hl1 l (getElem?_mem hl);have hdrop:lits.drop i=l :: lits.drop (i+1):=by
   have:=(l'b.1 hl).2;rw[<-this];exact l's hi
  rw[hdrop]at hnd;simp only[H'G]at hnd;have hwi:=w'1 i;have hsh:=C'c l;obtain⟨i',hi2⟩:=e' (i+1);rw[<-hi2]at hwi hnd;have hin':i'+n=lits.length:=by omega
  have m6:=x1.m.get 6 _ rfl
  cases hv:S.vars[l/2]? with
  | none=>rw[hv]at hnd;simp at hnd
  | some v=>
   rw[hv]at hnd;simp only at hnd;have lv0:=(l'b.1 hv).1;have lv':((l/2:Nat):Int)<S.vars.length:=by omega
   have hcs:cellsA O g bV (l/2*5) 5=some (vrC v):=by
    refine B'4 5 _ _ rfl λj hj=>?_;have:=x1.getV (l/2) hv j hj;rw[this]
   have z1:=Bx.new L (ro:=ro) w1 g x1.lo tg [.int .i64 0,.int .i64 0,.bool false,.int .i64 0,.bool false];have cz:=Ch.new L (λu=>u=tg) w1 g tg [.int .i64 0,.int .i64 0,.bool false,.int .i64 0,.bool false];obtain⟨h3,p3,z3,c3⟩:=Bx.over L (K:=λu=>u=tg) rfl z1 (show (vrC v).length = _ from rfl);have c13:=cz.trans c3;have x3:=x1.ch L c13 (by simp[htg]) (by simp[htg]) (by simp[htg]);have sl3:=sl.ch L c13 (by simp[htg]);have rz:¬O.next g<ro:=by have:=x1.lo;omega
   have q0:=z3.get 0 _ rfl;have q2:=z3.get 2 _ rfl;simp only[vrC]at q0 q2 p3 hcs;have hfr:=P'9 v.reason
   by_cases hc:(!v.marked&&decide (0<v.level))=true
   ·rw[if_pos hc]at hnd;simp only[l'a]at hnd;simp only[l'k,l'L,l'M]at hc;have hl0:(0:Int)<v.level:=by omega
    have hl1:=hc.2;rw[hc.1]at q2 p3 hcs;refine f'f ?_;generalize l/2=dd at *;simp[F'I,Zjr,Zjs,Zjt,Zju,d0,d5,d6,hi,hi',m6,hcell,hsh,lv0,lv',hcs,p3,rz,hfr,q0,q2,hl0,hl1];exact⟨hnd.symm,_,x3,c1.trans c13⟩
   ·rw[if_neg hc]at hnd;refine f'f ?_
    cases hmk:v.marked with
    | true=>
     rw[hmk]at q2 p3 hcs;generalize l/2=dd at *;simp[F'I,Zjr,Zjs,Zjt,Zju,Zjv,d0,d5,d6,hi,hi',m6,hcell,hsh,lv0,lv',hcs,p3,rz,hfr,q0,q2,hwi];exact⟨n,by omega,by simp[d0],by simp[d5,e8],i',_,by simp,hin',hnd,x3,c1.trans c13,sl3⟩
    | false=>
     rw[hmk]at hc q2 p3 hcs;simp only[Bool.not_false,Bool.true_and,l'M]at hc;have hz0:v.level=0:=by omega
     rw[hz0]at q0 p3 hcs;generalize l/2=dd at *;simp[F'I,Zjr,Zjs,Zjt,Zju,Zjv,d0,d5,d6,hi,hi',m6,hcell,hsh,lv0,lv',hcs,p3,rz,hfr,q0,q2,hwi];exact⟨n,by omega,by simp[d0],by simp[d5,e8],i',_,by simp,hin',hnd,x3,c1.trans c13,sl3⟩
theorem S'L (C:LP' O ro c)(L:O.Law)(x:SQ O ro w h q S bW bH bV vA vC vT vS vK lv wv)(B:Bd S){v:Nat}{r:Bool}(hs:H'H S v=some r):
  ∃h' w',c 234 [ptr q,ni v] h=some (.bool r,h')∧Ch O (λ_=>False) w h w' h':=by
 have hm:most=1000000:=rfl;have hnV:=B.nV;obtain⟨k0,hk0⟩:=B'i w (O.next h);have m6:=x.m.get 6 _ rfl;have m1:=x.m.get 1 _ rfl;unfold H'H at hs;have key:∃u h',c 234 [ptr q,ni v] h=some (u,h')∧(u = .bool r∧∃w',Ch O (λu=>u=((14,k0):Tag)) w h w' h'):=by
  refine C.fn (P'4 O ro) rfl rfl ?_;unfold V'l;refine s'f ?_;simp only[Zjm,A'b,reg,to,A'h,mv',nl',fl',ld',ln',mk',ia',ik',ix',ev,l'l,A'g,A'c]
  cases hv:S.vars[v]? with
  | none=>rw[hv]at hs;simp at hs
  | some y=>
   rw[hv]at hs;simp only at hs;have lv0:=(l'b.1 hv).1;have lv':(v:Int)<S.vars.length:=by omega
   have k1:=x.getV v hv 1 (by omega);simp only[vrC,l'x,l'w,Nat.add_zero]at k1
   cases hrs:y.reason with
   | none=>
    rw[hrs]at hs k1;simp only[l'a]at hs;simp only[rv]at k1;subst hs;refine okE.seq (s'f ?_);simp[Zjn,m6,lv0,lv',k1,A'c];refine f'f ?_;simp[Zjo,A'c,A'1,A'i,rvE];exact⟨w,Ch.refl _ _ _⟩
   | some k=>
    rw[hrs]at hs k1;simp only at hs;simp only[rv]at k1;have ek:=E't k
    cases hy:S.clauses[k]? with
    | none=>rw[hy]at hs;simp at hs
    | some z=>
     rw[hy]at hs;simp only at hs;have hkl:=(l'b.1 hy).1;have hkl':(k:Int)<S.clauses.length:=by omega
     have hY:=B.cls z (getElem?_mem hy);obtain⟨bC,vl,hvC,yC,hlvk,sl,cc0,-⟩:=x.getC k hy;subst hvC;refine okE.seq (s'f ?_);simp[Zjn,m6,lv0,lv',k1,ek,A'c];refine f'f ?_;simp[A'c];refine s'f ?_;simp[Zjp,m6,m1,lv0,lv',k1,ek,hkl,hkl',cc0,A'c];refine okE.seq (s'f ?_);simp[Zjq,A'c];refine okE.blk ?_;refine okE.mono (okE.loop (Q:=λe t' g'=>(A'j 0 e = .ret∧t' 4 = .bool false∧r=false∨A'j 0 e = .normal∧r=true)∧NdQ O ro w h q bW bH bV vA _ vT vS vK lv wv S (14,k0) g') (NdI O ro w h q bW bH bV vA _ vT vS vK lv wv S (14,k0) vl z.lits r) (λn t g I=>Q'a L rfl B hY.lits hY.len I) z.lits.length _ _ ⟨by simp,by simp,0,w,by simp,by omega,by simpa using hs,x,Ch.refl _ _ _,sl⟩) ?_;rintro e t g ⟨hr,w1,hq1,hq2⟩;rcases hr with ⟨hr,d4,rfl⟩|⟨hr,rfl⟩
     ·rw[hr];simp[A'c,A'1,A'i,rvE,d4];exact⟨w1,hq2⟩
     ·rw[hr];simp only[A'c];refine f'f ?_;simp[Zjw,A'1,A'i,rvE];exact⟨w1,hq2⟩
 obtain⟨u,h',e1,rfl,w',e2⟩:=key;exact⟨h',w',e1,e2.old hk0⟩
theorem Bx.re {t t0 t1:Tag}{b b0:Nat}{l:List Value}(x:Bx O ro w h t b l)(h0:w b0=t0)(hn:t≠t0): Bx O ro (w.set b0 t1) h t b l:=by
 refine⟨?_,x.lo,x.al,x.cell⟩;have:b≠b0:=by rintro rfl;exact hn (by rw[<-x.tag,h0])
 simp only[Own.set,if_neg this];exact x.tag
theorem Sm.re {t t0 t1:Tag}{b0 sz:Nat}{v:Value}{l:List Value}(x:Sm O ro w h t sz v l)(h0:w b0=t0)(hn:t≠t0): Sm O ro (w.set b0 t1) h t sz v l:=by
 rcases x with x|⟨b,m,cp,e,ec,el,x⟩
 ·exact .inl x
 ·exact .inr ⟨b,m,cp,e,ec,el,x.re h0 hn⟩
theorem Sz.re {t t0 t1:Tag}{b0 sz:Nat}{v:Value}{l:List Value}(x:Sz O ro w h t sz v l)(h0:w b0=t0)(hn:t≠t0): Sz O ro (w.set b0 t1) h t sz v l:=by
 rcases x with x|⟨b,m,e,el,x⟩
 ·exact .inl x
 ·exact .inr ⟨b,m,e,el,x.re h0 hn⟩
theorem SQ.re {t0 t1:Tag}{b0:Nat}(x:SQ O ro w h q S bW bH bV vA vC vT vS vK lv wv)(h0:w b0=t0)(h9:t0.1=14): SQ O ro (w.set b0 t1) h q S bW bH bV vA vC vT vS vK lv wv:=by
 have n:∀t:Tag,t.1≠14->t≠t0:=by rintro t ht rfl;exact ht h9
 exact⟨x.m.re h0 (n _ (by simp)),x.sA.re h0 (n _ (by simp)),x.sC.re h0 (n _ (by simp)),x.lC,λk y v h1 h2=>(x.aC k y v h1 h2).re h0 (n _ (by simp)),x.xW.re h0 (n _ (by simp)),x.lW,λi l v h1 h2=>(x.aW i l v h1 h2).re h0 (n _ (by simp)),x.xH.re h0 (n _ (by simp)),x.xV.re h0 (n _ (by simp)),x.sT.re h0 (n _ (by simp)),x.sS.re h0 (n _ (by simp)),x.sK.re h0 (n _ (by simp)),x.lo⟩
theorem give {k0:Nat}{v:Value}{l:List Value}(a:Ch O (λ_=>False) w h w' h')(hk0:∀b,b<O.next h->w b≠((14,k0):Tag))(x:SQ O ro w' h' q S bW bH bV vA vC vT vS vK lv wv)(s:Sm O ro w' h' (14,k0) 1 v l):
  ∃w2,SQ O ro w2 h' q S bW bH bV vA vC vT vS vK lv wv∧Sm O ro w2 h' (9,0) 1 v l∧Ch O (λ_=>False) w h w2 h':=by
 rcases s with s|⟨b,m,cp,e,ec,el,y⟩
 ·exact⟨w',x,.inl s,a⟩
 ·have hb:¬b<O.next h:=λhb=>hk0 b hb (by rw[<-a.ow b hb,y.tag])
  refine⟨w'.set b (9,0),x.re y.tag rfl,.inr ⟨b,m,cp,e,ec,el,⟨by simp[Own.set],y.lo,y.al,y.cell⟩⟩,⟨a.nx,λb' hb'=>?_,a.fr⟩⟩;have:b'≠b:=by rintro rfl;exact hb hb'
  simp only[Own.set,if_neg this];exact a.ow b' hb'
def BrI (O:HI H)(ro:Nat)(w:Own)(h:H)(q bW bH bV:Nat)(vA vC vT vS vK:Value)(lv wv:List Value)(S:Srch)(k0:Nat)(pos:Nat)(res:List Nat)(n:Nat)(t:Env)(g:H): Prop:=
 t 0 = .pointer (some ⟨q,0,none⟩)∧t 1=ni pos∧∃i w1 v acc,t 5=v∧t 6=ni i∧i+n=pos∧M'b S ((S.trail.take pos).drop i) acc=some res∧acc.length<=most∧(∀a∈acc,a<most)∧SQ O ro w1 g q S bW bH bV vA vC vT vS vK lv wv∧Ch O (λ_=>False) w h w1 g∧Sm O ro w1 g (14,k0) 1 v (acc.map ni)
def BrQ (O:HI H)(ro:Nat)(w:Own)(h:H)(q bW bH bV:Nat)(vA vC vT vS vK:Value)(lv wv:List Value)(S:Srch)(k0:Nat)(res:List Nat)(v:Value)(g:H): Prop:=
 ∃w1,SQ O ro w1 g q S bW bH bV vA vC vT vS vK lv wv∧Ch O (λ_=>False) w h w1 g∧Sm O ro w1 g (14,k0) 1 v (res.map ni)∧res.length<=most∧(∀a∈res,a<most)
theorem S'M (C:LP' O ro c)(L:O.Law){k0:Nat}(hk0:∀b,b<O.next h->w b≠((14,k0):Tag))(B:Bd S){pos:Nat}(hpos:pos<=S.trail.length){res:List Nat}{n:Nat}{t:Env}{g:H}(I:BrI O ro w h q bW bH bV vA vC vT vS vK lv wv S k0 pos res n t g):
  okE c (F'H O Tryz.prog ro) (t,g) (λe t' g'=>(e = .normal∧∃n',n'<n∧BrI O ro w h q bW bH bV vA vC vT vS vK lv wv S k0 pos res n' t' g')∨(e≠.normal∧(A'j 0 e = .normal∧BrQ O ro w h q bW bH bV vA vC vT vS vK lv wv S k0 res (t' 5) g'))):=by
 have hm:most=1000000:=rfl;have hnV:=B.nV;have hnT:=B.nT;obtain⟨d0,d1,i,w1,v,acc,d5,d6,hin,hbl,hal,ham,x1,c1,sa⟩:=I
 cases n with
 | zero=>
  obtain rfl:i=pos:=by omega
  have:(S.trail.take i).drop i=[]:=by simp
  rw[this]at hbl;simp only[M'b,l'a]at hbl;subst hbl;refine f'f ?_;simp[F'H,Zis,d0,d1,d5,d6];exact⟨w1,x1,c1,sa,hal,ham⟩
 | succ n=>
  have hi:i<pos:=by omega
  have hi':(i:Int)<pos:=by omega
  have hi3:i<S.trail.length:=by omega
  have hi4:(i:Int)<S.trail.length:=by omega
  obtain⟨l,hl⟩:∃l,S.trail[i]?=some l:=⟨_,l'c (by omega)⟩;have hdrop:(S.trail.take pos).drop i=l :: (S.trail.take pos).drop (i+1):=by
   have h1:i<(S.trail.take pos).length:=by simp;omega
   rw[l's h1];congr 1;rw[List.getElem_take];exact (l'b.1 hl).2
  rw[hdrop]at hbl;simp only[M'b]at hbl;obtain⟨bT,hvT,hcell⟩:=x1.getT i hl;have hlm:=B.tr l (getElem?_mem hl);have hwi:=w'1 i;have hsh:=C'c l;have hxo:=B'P l (by omega);have hxm:=D'7 hlm;obtain⟨z,hz⟩:=e' (l ^^^ 1);rw[<-hz]at hxo hxm hbl;obtain⟨i',hi2⟩:=e' (i+1);rw[<-hi2]at hwi hbl;have hin':i'+n=pos:=by omega
  have m6:=x1.m.get 6 _ rfl;have m7:=x1.m.get 7 _ rfl;subst hvT
  cases hv:S.vars[l/2]? with
  | none=>rw[hv]at hbl;simp at hbl
  | some y=>
   rw[hv]at hbl;simp only at hbl;have lv0:=(l'b.1 hv).1;have lv':((l/2:Nat):Int)<S.vars.length:=by omega
   have k2:=x1.getV (l/2) hv 2 (by omega);simp only[vrC,l'x,l'w,Nat.add_zero]at k2
   cases hmk:y.marked with
   | false=>
    rw[hmk]at hbl k2;simp only[l'y,if_false]at hbl;refine f'f ?_;generalize l/2=dd at *;simp[F'H,Zis,Zit,Ziu,Ziw,d0,d1,d5,d6,hi,hi',hi3,hi4,m6,m7,hcell,hsh,lv0,lv',k2,hwi];exact⟨n,by omega,by simp[d0],by simp[d1],i',w1,v,acc,by simp[d5],by simp,hin',hbl,hal,ham,x1,c1,sa⟩
   | true=>
    rw[hmk]at hbl k2;simp only[if_true]at hbl
    cases hnd:H'H S (l/2) with
    | none=>rw[hnd]at hbl;simp at hbl
    | some r=>
     rw[hnd]at hbl;obtain⟨h2,w2,e2,c2⟩:=S'L C L x1 B hnd;unfold ptr at e2;have x2:=x1.ch L c2;have sa2:=sa.ch L c2;have c12:=c1.trans c2
     cases r with
     | true=>
      simp only at hbl;refine f'f ?_;generalize l/2=dd at *;simp[F'H,Zis,Zit,Ziu,Ziw,d0,d1,d5,d6,hi,hi',hi3,hi4,m6,m7,hcell,hsh,lv0,lv',k2,hwi,e2];exact⟨n,by omega,by simp[d0],by simp[d1],i',w2,v,acc,by simp[d5],by simp,hin',hbl,hal,ham,x2,c12,sa2⟩
     | false=>
      simp only at hbl
      by_cases hlt:acc.length<most
      ·rw[if_pos hlt]at hbl;have n7:=x2.m.get 7 _ rfl;obtain⟨bT2,hvT2,hcell2⟩:=x2.getT i hl;simp only[Value.slice.injEq,l'a,Addr.mk.injEq,and_true,true_and]at hvT2;subst hvT2;obtain⟨v3,h3,w3,e3,s3,c3,lo3⟩:=B'D (bytes:=8) (new:=[ni z]) L x2.lo sa2 (by omega) rfl (by simp;omega) (by simp;omega);have hk2:∀b,b<O.next h->w2 b≠((14,k0):Tag):=λb hb=>by rw[c12.ow b hb];exact hk0 b hb
       have c3':Ch O (λ_=>False) w h w3 h3:=by
        refine⟨l'G c12.nx c3.nx,λb hb=>?_,λb hb _=>?_⟩
        ·rw[c3.ow b (Nat.lt_of_lt_of_le hb c12.nx),c12.ow b hb]
        ·have q1:=c12.fr b hb (by simp);have q2:=c3.fr b (Nat.lt_of_lt_of_le hb c12.nx) (hk2 b hb);exact⟨λo=>by rw[q2.1,q1.1],by rw[q2.2,q1.2]⟩
       have x3:=x2.ch L c3;obtain⟨f1,f2,f3⟩:=s3.m.flat;refine f'f ?_;clear c1 c2 c12 c3 x1;generalize l/2=dd at *;simp[F'H,Zis,Zit,Ziu,Ziv,Ziw,d0,d1,d5,d6,hi,hi',hi3,hi4,m6,m7,hcell,hsh,lv0,lv',k2,hwi,e2,n7,hcell2,hxo,e3];exact⟨n,by omega,by simp[d0],by simp[d1],i',w3,v3,acc++[z],by simp,by simp,hin',hbl,by simp;omega,by intro a ha;rcases l'E.1 ha with ha|ha;exact ham a ha;simp at ha;subst ha;exact hxm,x3,c3',by simpa using s3.m⟩
      ·rw[if_neg hlt]at hbl;simp at hbl
theorem U'n (C:LP' O ro c)(L:O.Law)(x:SQ O ro w h q S bW bH bV vA vC vT vS vK lv wv)(B:Bd S){pos:Nat}{res:List Nat}(hs:R'Q S pos=some res):
  ∃v h' w',c 223 [ptr q,ni pos] h=some (v,h')∧SQ O ro w' h' q S bW bH bV vA vC vT vS vK lv wv∧Ch O (λ_=>False) w h w' h'∧Sm O ro w' h' (9,0) 1 v (res.map ni)∧res.length<=most∧(∀a∈res,a<most):=by
 have hm:most=1000000:=rfl;have hnT:=B.nT;obtain⟨k0,hk0⟩:=B'i w (O.next h);have m7:=x.m.get 7 _ rfl;unfold R'Q at hs
 cases hl:S.trail[pos]? with
 | none=>rw[hl]at hs;simp at hs
 | some l=>
  rw[hl]at hs;simp only at hs;have hp:=(l'b.1 hl).1;have hp':(pos:Int)<S.trail.length:=by omega
  obtain⟨bT,hvT,hcell⟩:=x.getT pos hl;subst hvT;have hlm:=B.tr l (getElem?_mem hl);have hxo:=B'P l (by omega);have hxm:=D'7 hlm;obtain⟨z,hz⟩:=e' (l ^^^ 1);rw[<-hz]at hxo hxm hs;have key:∃u h',c 223 [ptr q,ni pos] h=some (u,h')∧BrQ O ro w h q bW bH bV vA vC (.slice (some ⟨bT,0,some 1⟩) S.trail.length 0) vS vK lv wv S k0 res u h':=by
   refine C.fn (P'1 O ro) rfl rfl ?_;unfold V'i;refine s'f ?_;simp only[Zip,A'b,reg,to,A'h,mv',nl',fl',ld',ln',mk',ia',ik',ix',ev,l'l,A'g,A'c];refine s'f ?_;simp[Ziq,m7,hp,hp',hcell,hxo,A'c];refine okE.seq (s'f ?_);simp[Zir,A'c];have y1:=Bx.new L (ro:=ro) w h x.lo (14,k0) [ni z];have c1:=Ch.new L (λ_=>False) w h (14,k0) [ni z];refine okE.blk ?_;refine okE.mono (okE.loop (Q:=λe t' g'=>A'j 0 e = .normal∧BrQ O ro w h q bW bH bV vA vC _ vS vK lv wv S k0 res (t' 5) g') (BrI O ro w h q bW bH bV vA vC _ vS vK lv wv S k0 pos res) (λn t g I=>S'M C L hk0 B (by omega) I) pos _ _ ⟨by simp,by simp,0,_,_,[z],by simp,by simp,by omega,by simpa using hs,by simp;omega,by simpa using hxm,x.ch L c1,c1,.inr ⟨_,1,2,rfl,.inr rfl,by simp,y1⟩⟩) ?_;rintro e t g ⟨hr,hq⟩;rw[hr];simp only[A'c];refine f'f ?_;obtain⟨w1,x1,c1,s1,hq⟩:=hq;obtain⟨f1,f2,f3⟩:=s1.flat;simp[Zix,A'1,A'i,rvE,f3];exact⟨w1,x1,c1,s1,hq⟩
  obtain⟨u,h',e1,w1,x1,c1,s1,hq⟩:=key;obtain⟨w2,x2,s2,c2⟩:=give c1 hk0 x1 s1;exact⟨u,h',w2,e1,x2,c2,s2,hq⟩
theorem G'd (a b:Nat)(ha:a<9223372036854775808)(hb:0<b): C'k .quo .i64 (a:Int) (b:Int)=some (ni (a/b)):=by
 have h1:a/b<=a:=Nat.div_le_self a b;have:C'k .quo .i64 (a:Int) (b:Int)=if (b:Int)=0 then none else some (.int .i64 (IntKind.i64.wrap ((a:Int).tdiv b))):=rfl
 rw[this,if_neg (by omega),Int.tdiv_eq_ediv_of_nonneg (by omega),<-Int.natCast_ediv];generalize a/b=d at h1 ⊢;rw[B'H (by omega) (by omega)]
def SpI (q:Nat)(S:Srch)(h:H)(vl:Value)(lits:List Nat)(res:Nat)(n:Nat)(t:Env)(g:H): Prop:=
 g=h∧t 0 = .pointer (some ⟨q,0,none⟩)∧t 1=vl∧∃i lev sp,t 7=ni i∧1<=i∧i<=most+1∧n=lits.length-i∧t 6=ni lev∧t 5=ni sp∧sp<=i∧H'I S.vars (lits.drop i) lev sp=some res
theorem S'N (C:LP' O ro c)(L:O.Law)(x:SQ O ro w h q S bW bH bV vA vC vT vS vK lv wv)(B:Bd S){lits:List Nat}{vl:Value}(hl1:∀a∈lits,a<most)(hl2:lits.length<=most){tl:Tag}(sl:Sm O ro w h tl 1 vl (lits.map ni)){res:Nat}(hs:M'Z S lits=some res): c 224 [ptr q,vl] h=some (ni res,h)∧res<=2*most:=by
 have hm:most=1000000:=rfl;have hnV:=B.nV;have m6:=x.m.get 6 _ rfl;have key:∃u h',c 224 [ptr q,vl] h=some (u,h')∧(u=ni res∧h'=h∧res<=2*most):=by
  refine C.fn (P'2 O ro) rfl rfl ?_;unfold V'j;refine s'f ?_;simp only[Ziy,A'b,reg,to,A'h,mv',nl',fl',ld',ln',mk',ia',ik',ix',ev,l'l,A'g,A'c];refine s'f ?_;simp only[Ziz,A'b,reg,to,A'h,mv',nl',fl',ld',ln',mk',ia',ik',ix',ev,l'l,A'g,A'c];refine s'f ?_;simp only[ZiA,A'b,reg,to,A'h,mv',nl',fl',ld',ln',mk',ia',ik',ix',ev,l'l,A'g,A'c];refine okE.seq (s'f ?_);simp only[ZiB,A'b,reg,to,A'h,mv',nl',fl',ld',ln',mk',ia',ik',ix',ev,l'l,A'g,A'c];refine okE.blk ?_;refine okE.mono (okE.loop (Q:=λe t' g'=>A'j 0 e = .normal∧t' 5=ni res∧g'=h∧res<=2*most) (SpI q S h vl lits res) ?_ (lits.length-1) _ _ ⟨rfl,by simp,by simp,1,0,1,by simp,by omega,by omega,rfl,by simp,by simp,by omega,by simpa [M'Z]using hs⟩) ?_
  ·rintro n t g ⟨rfl,d0,d1,i,lev,sp,d7,hi1,him,hn,d6,d5,hsp,hres⟩
   by_cases hi:i<lits.length
   ·have hi':(i:Int)<lits.length:=by omega
    obtain⟨bL,cp,e8,hcp,yl⟩:=sl.blk (by omega) lits.length (by simp) (by omega);rw[e8]at d1;obtain⟨l,hl⟩:∃l,lits[i]?=some l:=⟨_,l'c hi⟩;have hcell:O.cell g bL i=some (ni l):=by rw[yl.cell i (by simpa using hi)];simp[hl]
    have hlm:=hl1 l (getElem?_mem hl);have hdrop:lits.drop i=l :: lits.drop (i+1):=by
     have:=(l'b.1 hl).2;rw[<-this];exact l's hi
    rw[hdrop]at hres;simp only[H'I]at hres;have hwi:=w'1 i;have hws:=w'1 sp;have hsh:=C'c l;obtain⟨i',hi2⟩:=e' (i+1);obtain⟨sp',hsp2⟩:=e' (sp+1);rw[<-hi2]at hwi hres;rw[<-hsp2]at hws hres
    cases hv:S.vars[l/2]? with
    | none=>rw[hv]at hres;simp at hres
    | some v=>
     rw[hv]at hres;simp only at hres;have lv0:=(l'b.1 hv).1;have lv':((l/2:Nat):Int)<S.vars.length:=by omega
     have k0:=x.getV (l/2) hv 0 (by omega);simp only[vrC,l'w,Nat.add_zero]at k0
     by_cases hev:v.level=lev
     ·rw[if_pos hev]at hres;refine f'f ?_;generalize l/2=dd at *;simp[I'l,ZiC,ZiD,ZiE,ZiG,ZiH,d0,d1,d5,d6,d7,hi,hi',m6,hcell,hsh,lv0,lv',k0,hev,hwi];exact⟨lits.length-i',by omega,rfl,by simp[d0],by simp[d1,e8],i',v.level,sp,by simp,by omega,by omega,rfl,by simp[hev],by simp[d5],by omega,hres⟩
     ·rw[if_neg hev]at hres;have hne:(((v.level:Nat):Int) != (lev:Int))=true:=by rw[bne_iff_ne];omega
      have hne2:¬((v.level:Int)=(lev:Int)):=by omega
      refine f'f ?_;generalize l/2=dd at *;simp[I'l,ZiC,ZiD,ZiE,ZiF,ZiG,ZiH,d0,d1,d5,d6,d7,hi,hi',m6,hcell,hsh,lv0,lv',k0,hne,hne2,hev,hwi,hws];exact⟨lits.length-i',by omega,rfl,by simp[d0],by simp[d1,e8],i',v.level,sp',by simp,by omega,by omega,rfl,by simp,by simp,by omega,hres⟩
   ·obtain⟨aL,cL,hvl⟩:=sl.len (by omega) lits.length (by simp);rw[hvl]at d1;have hi':¬((i:Int)<lits.length):=by omega
    rw[List.drop_eq_nil_of_le (by omega)]at hres;simp only[H'I,l'a]at hres;subst hres;refine f'f ?_;simp[I'l,ZiC,d0,d1,d5,d6,d7,hi,hi'];omega
  ·rintro e t g ⟨hr,d5,rfl,hb⟩;rw[hr];simp only[A'c];refine f'f ?_;simp[ZiI,d5,A'1,A'i,rvE];exact hb
 obtain⟨u,h',e1,rfl,rfl,e2⟩:=key;exact⟨e1,e2⟩
def unm (v:Vr): Vr:={ v with marked:=false }
def ClI (O:HI H)(ro:Nat)(w:Own)(h:H)(q bW bH bV:Nat)(vA vC vT vS vK:Value)(lv wv:List Value)(S:Srch)(n:Nat)(t:Env)(g:H): Prop:=
 t 0 = .pointer (some ⟨q,0,none⟩)∧∃i,t 2=ni i∧i+n=S.vars.length∧SQ O ro w g q { S with vars:=(S.vars.take i).map unm++S.vars.drop i } bW bH bV vA vC vT vS vK lv wv∧Ch O K11 w h w g
theorem K'A {α:Type}{l:List α}{f:α->α}{i:Nat}{v:α}(hv:l[i]?=some v): ((l.take i).map f++l.drop i)[i]?=some v∧((l.take i).map f++l.drop i).set i (f v)=(l.take (i+1)).map f++l.drop (i+1):=by
 have hi:=(l'b.1 hv).1;have hlen:((l.take i).map f).length=i:=by simp;omega
 have hd:l.drop i=v :: l.drop (i+1):=by
  have:=(l'b.1 hv).2;rw[<-this];exact l's hi
 constructor
 ·rw[l'z (by omega),hlen,Nat.sub_self,hd];rfl
 ·rw[List.set_append_right _ _ (by omega),hlen,Nat.sub_self,hd,l'C,hv];simp
theorem Q'b (C:LP' O ro c)(L:O.Law)(x:SQ O ro w h q S bW bH bV vA vC vT vS vK lv wv)(B:Bd S):
  ∃h',c 225 [ptr q] h=some (.tuple #[],h')∧SQ O ro w h' q (D'V S) bW bH bV vA vC vT vS vK lv wv∧Ch O K11 w h w h'∧Bd (D'V S):=by
 have hm:most=1000000:=rfl;have hnV:=B.nV;have key:∃u h',c 225 [ptr q] h=some (u,h')∧(u = .tuple #[]∧SQ O ro w h' q (D'V S) bW bH bV vA vC vT vS vK lv wv∧Ch O K11 w h w h'):=by
  refine C.fn (P'3 O ro) rfl rfl ?_;unfold V'k;refine s'f ?_;simp only[ZiJ,A'b,reg,to,A'h,mv',nl',fl',ld',ln',mk',ia',ik',ix',ev,l'l,A'g,A'c];refine okE.blk ?_;refine okE.mono (okE.loop (Q:=λe t' g'=>A'j 0 e = .normal∧SQ O ro w g' q (D'V S) bW bH bV vA vC vT vS vK lv wv∧Ch O K11 w h w g') (ClI O ro w h q bW bH bV vA vC vT vS vK lv wv S) ?_ S.vars.length _ _ ⟨by simp,0,by simp,by omega,by simpa using x,Ch.refl _ _ _⟩) ?_
  ·rintro n t g ⟨d0,i,d2,hin,x1,c1⟩;have m6:=x1.m.get 6 _ rfl;have hlen:((S.vars.take i).map unm++S.vars.drop i).length=S.vars.length:=by simp;omega
   simp only[hlen]at m6
   cases n with
   | zero=>
    obtain rfl:i=S.vars.length:=by omega
    refine f'f ?_;simp[K's,ZiK,d0,d2,m6];refine⟨?_,c1⟩;simp only[List.take_length,List.drop_length,List.append_nil]at x1;exact x1
   | succ n=>
    have hi:i<S.vars.length:=by omega
    have hi':(i:Int)<S.vars.length:=by omega
    obtain⟨v,hv⟩:∃v,S.vars[i]?=some v:=⟨_,l'c hi⟩;have hh:=K'A (f:=unm) hv;obtain⟨h2,p2,x2,c2⟩:=x1.putV L i hh.1 2 (by omega) (.bool false) (unm v) rfl;rw[hh.2]at x2;have hwi:=w'1 i;obtain⟨i',hi2⟩:=e' (i+1);rw[<-hi2]at hwi x2;have rV:¬bV<ro:=by have:=x1.xV.lo;omega
    refine f'f ?_;simp[K's,ZiK,ZiL,ZiM,d0,d2,m6,hi,hi',rV,p2,hwi];exact⟨n,by omega,by simp[d0],i',by simp,by omega,x2,c1.trans c2⟩
  ·rintro e t g ⟨hr,hq⟩;rw[hr];simp[A'1,A'i,rvE];exact hq
 obtain⟨u,h',e1,rfl,e2,e3⟩:=key;refine⟨h',e1,e2,e3,⟨B.cls,B.nC,B.nW,B.nH,by simpa [D'V]using B.nV,B.nS,B.nT,B.nA,B.nK,B.wl,B.tr,B.st,B.asm,?_,B.gv,B.dr,B.bo,B.me⟩⟩;intro v hv;simp only[D'V,List.mem_map]at hv;obtain⟨v0,hv0,rfl⟩:=hv;have:=B.vr v0 hv0;exact⟨this.weight,this.reason,this.level⟩
theorem S'O (C:LP' O ro c)(L:O.Law)(x:SQ O ro w h q S bW bH bV vA vC vT vS vK lv wv)(B:Bd S)(h1:S.given<=S.clauses.length)(h2:S.clauses.length-S.given<4000): c 228 [ptr q] h=some (.tuple #[],h):=by
 have hm:most=1000000:=rfl;have hnC:=B.nC;have m1:=x.m.get 1 _ rfl;have m2:=x.m.get 2 _ rfl;have m3:=x.m.get 3 _ rfl;obtain⟨aC,cC,hvC⟩:=x.sC.m.len (by omega) S.clauses.length (by rw[A'A clC 4 B'Q];simp[x.lC]);rw[hvC]at m1;have hw:IntKind.i64.wrap ((S.clauses.length:Int)-(S.given:Int))=((S.clauses.length-S.given:Nat):Int):=w'i;obtain⟨d,hd⟩:=e' (S.clauses.length-S.given);rw[<-hd]at hw h2;have h3:(d:Int)<4000:=by omega
 refine C.eq (K'v O ro) rfl rfl ?_;unfold U'm;refine okE.seq (s'f ?_);simp[Zi3,m1,m2,m3,hw,h2,h3,A'c];refine f'f ?_;simp[A'c,A'1,A'i,rvE]
end
end Go.Proofs.YtimdkminagnhgaaGreatDoor
