import Derived.Test.YtimdkminagnhgaaGreatDoorQ22
set_option linter.all false
namespace Go.Ta
theorem F'L: ∀(l:List Nat)(S S':Srch) (n:Nat),C'1 l S=some (S',n)->S'.trail=S.trail∧S'.starts=S.starts∧S'.clauses=S.clauses∧S'.assumed=S.assumed∧S'.core=S.core∧S'.met=S.met∧S'.given=S.given∧S'.holds=S.holds∧S'.watchers=S.watchers∧S'.drawn=S.drawn∧S'.bonus=S.bonus:=by
 intro l
 induction l with
 | nil=>intro S S' n h;simp[C'1]at h;rw[h.1];simp
 | cons a l ih=>
  intro S S' n h;simp only[C'1]at h;split at h
  ·simp at h
  ·split at h
   ·exact ih _ _ _ h
   ·split at h
    ·split at h
     ·simp at h
     ·rename_i q1 m hm
      simp only[l'a,l'd]at h;obtain⟨rfl,_⟩:=h;have:=ih _ _ _ hm;simpa using this
    ·simp at h
theorem H'L: ∀(d:Nat)(S S':Srch) (op:Int) (pos:Nat),C'7 d S op=some (S',pos)->S'.trail=S.trail∧S'.starts=S.starts∧S'.clauses=S.clauses∧S'.assumed=S.assumed∧S'.core=S.core∧S'.met=S.met∧S'.given=S.given∧S'.holds=S.holds∧S'.watchers=S.watchers∧S'.drawn=S.drawn∧S'.bonus=S.bonus:=by
 intro d
 induction d with
 | zero=>intro S S' op pos h;simp[C'7]at h;rw[h.1];simp
 | succ d ih=>
  intro S S' op pos h;simp only[C'7]at h;split at h
  ·simp at h
  ·split at h
   ·simp at h
   ·split at h
    ·split at h
     ·simp only[l'a,l'd]at h;rw[h.1];simp
     ·split at h
      ·simp only[l'a,l'd]at h;rw[h.1];simp
      ·split at h
       ·simp at h
       ·split at h
        ·simp at h
        ·rename_i q1 m hm
         split at h
         ·have h1:=ih _ _ _ _ h;have h2:=F'L _ _ _ _ hm;obtain⟨a1,a2,a3,a4,a5,a6,a7,a8,a9,a10,a11⟩:=h1;obtain⟨b1,b2,b3,b4,b5,b6,b7,b8,b9,b10,b11⟩:=h2;exact⟨a1.trans b1,a2.trans b2,a3.trans b3,a4.trans b4,a5.trans b5,a6.trans b6,a7.trans b7,a8.trans b8,a9.trans b9,a10.trans b10,a11.trans b11⟩
         ·simp at h
    ·exact ih _ _ _ _ h
end Go.Ta
namespace Go.Ta
def N'd (l:List Nat)(i:Nat): Prop:=∀j,j<i->∀x y,l[i]?=some x->l[j]?=some y->y≠x ^^^ 1
theorem G'W {l:List Nat}(h:∀i,i<l.length->N'd l i): B'Y l=false:=by
 rw[Bool.eq_false_iff];intro ha;unfold B'Y at ha;rw[List.any_eq_true]at ha;obtain⟨⟨x,i⟩,hx,hy⟩:=ha;rw[List.any_eq_true]at hy;obtain⟨y,hy,he⟩:=hy;have hxi:=List.mem_zipIdx_iff_getElem?.1 hx;simp only at hxi;obtain⟨j,hj⟩:=l'i.1 hy;have hjl:=(l'b.1 hj).1;simp at hjl;rw[l'j (by omega)]at hj;exact h i (l'b.1 hxi).1 j (by omega) x y hxi hj (by simpa using he)
theorem H'M {l:List Nat}{i j x y:Nat}(hj:j<i)(hx:l[i]?=some x)(hy:l[j]?=some y)(he:y=x ^^^ 1): B'Y l=true:=by
 unfold B'Y;rw[List.any_eq_true];refine⟨(x,i),List.mem_zipIdx_iff_getElem?.2 hx,?_⟩;rw[List.any_eq_true];refine⟨y,l'i.2 ⟨j,by rw[l'j hj];exact hy⟩,by simpa using he⟩
end Go.Ta
namespace Go.Proofs.YtimdkminagnhgaaGreatDoor
open Go.Vm Go.Proofs Go.Ta
set_option maxHeartbeats 4000000
attribute [local simp] A'a A'b reg to too A'd A'q A'h mv' nl' fl' ld' ln' mk' ia' ik' ix' B'F B'G aLd B'h A'w A'4 aUn unA ev A'l isB A'0 A'E A'F A'G A'H A'I A'J A'K A'L A'M cIf A'B A'f A'g aSt A'N A't A'O A'P A'Q A'9 A'R A'u A'S A'T B'a A'U A'v A'V A'W A'X B'b A'p Instr.fill A'e A'n A'x A'j ptr undef B'o B'y A'k B's A's A'D B'C A'y B'p rangeA B'O A'r A'2 A'z B'd A'm A'o chk
section
variable {H:Type}{O:HI H}{ro:Nat}{c:A'Z H}
variable {w w':Own}{h h':H}{q:Nat}{S:Srch}{bW bH bV:Nat}{vA vC vT vS vK:Value}{lv wv:List Value}
def LnQ (O:HI H)(ro:Nat)(w:Own)(h:H)(q bW bH bV:Nat)(vA vK:Value)(S':Srch)(g:H): Prop:=
 ∃vC' vT' vS' lv' wv' w',SQ O ro w' g q S' bW bH bV vA vC' vT' vS' vK lv' wv'∧Ch O K11 w h w' g∧Bd S'
theorem Q't (C:LP' O ro c)(L:O.Law)(x:SQ O ro w h q S bW bH bV vA vC vT vS vK lv wv)(B:Bd S){k:Nat}{S':Srch}(hs:G'Q S k=some S'):
  ∃h',c 213 [ptr q,ni k] h=some (.tuple #[],h')∧LnQ O ro w h q bW bH bV vA vK S' h':=by
 have hm:most=1000000:=rfl;have key:∃u h',c 213 [ptr q,ni k] h=some (u,h')∧(u = .tuple #[]∧LnQ O ro w h q bW bH bV vA vK S' h'):=by
  refine C.fn (P'W O ro) rfl rfl ?_;unfold G'Q at hs;split at hs
  ·simp at hs
  rename_i y hy
  split at hs
  ·simp at hs
  rename_i S1 n h1
  split at hs
  ·simp at hs
  rename_i S2 pos h2
  split at hs
  ·simp at hs
  rename_i lits h3
  split at hs
  ·simp at hs
  rename_i span h4
  split at hs
  ·simp at hs
  rename_i S3 h5
  have ht0:1<=S.trail.length:=by
   have a1:=(F'L _ _ _ _ h1).1;have a2:=(H'L _ _ _ _ _ h2).1;unfold R'Q at h3;split at h3
   ·simp at h3
   ·rename_i l hl
    have:=(l'b.1 hl).1;rw[a2,a1]at this;omega
  obtain⟨g1,e1,hpos,x1,c1,B1,hst1,hcl1,htr1⟩:=P'8 C L x B hy h1 h2 ht0;obtain⟨vl,g2,w2,e2,x2,c2,sl2,hln,hlm⟩:=U'n C L x1 B1 h3;obtain⟨e3,hspan⟩:=S'N C L x2 B1 hlm hln sl2 h4;obtain⟨g4,e4,x4,c4,B4⟩:=Q'b C L x2 B1;obtain⟨g5,e5,x5,c5,B5,-⟩:=Q'c C L x4 B4 h5;have c15:Ch O K11 w h w2 g5:=((c1.trans (c2.mono (by simp))).trans c4).trans c5;have sl5:=(sl2.ch L c4 (by simp[K11])).ch L c5 (by simp[K11]);clear x x1 x2 x4 c1 c2 c4 c5;unfold ptr at e1 e2 e3 e4 e5;unfold V'd;refine s'f ?_;simp[Zhr,A'c,e1];refine s'f ?_;simp[Zhs,A'c,e2];refine s'f ?_;simp[Zht,A'c,e3];refine s'f ?_;simp[Zhu,A'c,e4];refine s'f ?_;simp[Zhv,A'c,e5];split at hs
  ·simp at hs
  ·rename_i a
   obtain⟨bL,cp,hvl,hcp,yl⟩:=sl5.blk (by omega) 1 (by simp) (by omega);subst hvl;split at hs
   ·simp at hs
   rename_i S6 h6
   obtain⟨vT6,vS6,g6,e6,x6,c6⟩:=O's C L x5 B5 (lev:=0) (by omega) h6;have B6:=(I'q h6 B5).1;have sl6:=sl5.ch L c6 (by simp[K11]);obtain⟨bL',cp',hvl',hcp',yl'⟩:=sl6.blk (by omega) 1 (by simp) (by omega);simp only[Value.slice.injEq,l'a,Addr.mk.injEq,and_true,true_and]at hvl';obtain⟨rfl,rfl⟩:=hvl';have hc0:O.cell g6 bL 0=some (ni a):=by rw[yl'.cell 0 (by simp)];simp
   obtain⟨vT7,g7,w7,e7,x7,c7⟩:=J'f C L x6 a none hs B6.nV B6.nH;have B7:=(D'6 hs B6 (by simp)).1;unfold ptr at e6 e7;simp only[rv]at e7;have e6':c 227 [.pointer (some ⟨q,0,none⟩),.int .i64 0] g5=some (.tuple #[],g6):=e6;refine s'f ?_;simp[Zhw,Zhx,Zhy,A'c,e6',hc0,e7,A'1,A'i,rvE];exact⟨_,_,_,_,_,_,x7,(c15.trans c6).trans c7,B7⟩
  ·rename_i a r hne
   have hr:r≠[]:=by rintro rfl;exact hne rfl
   have hrl:0<r.length:=List.length_pos_iff.2 hr;split at hs
   ·simp at hs
   rename_i v hv
   split at hs
   ·simp at hs
   rename_i S6 h6
   split at hs
   ·simp at hs
   ·rename_i S7 h7
    split at hs
    ·simp at hs
    rename_i S8 h8
    have hlast:(a :: r)[r.length]?=some (r.getLastD 0):=by
     obtain⟨z,hz⟩:∃z,r.length=z+1:=⟨r.length-1,by omega⟩;have h0:r.getLastD 0=(r[z]?).getD 0:=by rw[List.getLastD_eq_getLast?,List.getLast?_eq_getElem?,hz];rfl
     rw[hz,l'x,h0,l'c (by omega)];rfl
    obtain⟨la,hla⟩:=e' (r.getLastD 0);rw[<-hla]at hlast h8 hv;have hlam:=hlm la (getElem?_mem hlast);have ham:=hlm a (by simp);obtain⟨bL,cp,hvl,hcp,yl⟩:=sl5.blk (by omega) (r.length+1) (by simp) (by omega);subst hvl;have hcl:O.cell g5 bL r.length=some (ni la):=by
     rw[yl.cell _ (by simp),List.getElem?_map,hlast];rfl
    have hln':r.length+1<=most:=by simpa using hln
    have hw1:IntKind.i64.wrap (((r.length+1:Nat):Int)-1)=(r.length:Int):=w'i;obtain⟨ll,hll⟩:=e' (r.length+1);rw[<-hll]at hw1;have hne1:(((ll:Nat):Int)==1)=false:=by rw[l'A];omega
    have hne2:¬((ll:Nat)=1):=by omega
    have hlt1:r.length<ll:=by omega
    have hlt1':(r.length:Int)<ll:=by omega
    have h0l:(0:Int)<ll:=by omega
    have h0l2:0<ll:=by omega
    have lv0:=(l'b.1 hv).1;have lv':((la/2:Nat):Int)<S3.vars.length:=by omega
    have k0:=x5.getV (la/2) hv 0 (by omega);simp only[vrC,l'w,Nat.add_zero]at k0;have m6:=x5.m.get 6 _ rfl;have hsh:=C'c la;obtain⟨vT6,vS6,g6,e6,x6,c6⟩:=O's C L x5 B5 (B5.vr v (getElem?_mem hv)).level h6;have B6:=(I'q h6 B5).1;have sl6:=sl5.ch L c6 (by simp[K11]);obtain⟨vC7,lv7,wv7,g7,w7,e7,x7,c7⟩:=Q's C L x6 B6 h7;have B7:=M'9 h7 B6;have sl7:=sl6.ch L c7 (by simp[K11]);obtain⟨vC8,wv8,g8,w8,e8,x8,c8,B8⟩:=I'r C L x7 B7 ⟨a :: r,a,la,span⟩ ⟨hlm,hln,ham,hlam,hspan⟩ sl7 h8;have sl8:=sl7.ch L c8 (by simp[K11]);have c68:=((c15.trans c6).trans c7).trans c8;have hnC8:=B8.nC;have hcl8:=(F'J h8 B7 ⟨hlm,hln,ham,hlam,hspan⟩).2.1;have hcl8':1<=S8.clauses.length:=by rw[hcl8];simp
    obtain⟨vT9,g9,w9,e9,x9,c9⟩:=J'f C L x8 a (some (S8.clauses.length-1)) hs B8.nV B8.nH;have B9:=(D'6 hs B8 (by intro k hk;simp at hk;omega)).1;obtain⟨bL6,cp6,hvl6,hcp6,yl6⟩:=sl7.blk (by omega) (r.length+1) (by simp) (by omega);obtain⟨bL8,cp8,hvl8,hcp8,yl8⟩:=sl8.blk (by omega) (r.length+1) (by simp) (by omega);simp only[Value.slice.injEq,l'a,Addr.mk.injEq,and_true,true_and]at hvl6 hvl8;obtain⟨rfl,rfl⟩:=hvl6;obtain⟨rfl,rfl⟩:=hvl8;have ha6:O.cell g7 bL 0=some (ni a):=by rw[yl6.cell 0 (by simp)];simp
    have ha8:O.cell g8 bL 0=some (ni a):=by rw[yl8.cell 0 (by simp)];simp
    have m81:=x8.m.get 1 _ rfl;obtain⟨aC,cC,hvC⟩:=x8.sC.m.len (by omega) S8.clauses.length (by rw[A'A clC 4 B'Q];simp[x8.lC]);rw[hvC]at m81;have hw8:IntKind.i64.wrap ((S8.clauses.length:Int)-1)=((S8.clauses.length-1:Nat):Int):=w'i;unfold ptr at e6 e7 e8 e9;simp only[rv]at e9;rw[<-hll]at e8;obtain⟨z8,hz8⟩:=e' (S8.clauses.length-1);rw[<-hz8]at hw8 e9;have c9':=c68.trans c9;clear x5 x6 x7 x8 c6 c7 c8 c9 sl5 sl6 sl7 sl8 c68;rw[<-hll];refine okE.seq (s'f ?_);simp[Zhw,A'c,hne1,hne2];refine f'f ?_;simp[A'c];generalize la/2=dd at *;refine s'f ?_;simp[Zhz,A'c,hw1,hlt1,hlt1',hcl];refine s'f ?_;simp[ZhA,A'c,m6,hsh,lv0,lv',k0];refine s'f ?_;simp[ZhB,A'c,e6];refine s'f ?_;simp[ZhC,A'c,e7];refine s'f ?_;simp[ZhD,A'c,h0l,h0l2,ha6,e8];refine f'f ?_;simp[ZhE,h0l,h0l2,ha8,m81,hw8,e9,A'1,A'i,rvE];exact⟨_,_,_,_,_,_,x9,c9',B9⟩
 obtain⟨u,h',e1,rfl,e2⟩:=key;exact⟨h',e1,e2⟩
def BmI (O:HI H)(ro:Nat)(w:Own)(h:H)(q bW bH bV:Nat)(vA vC vT vS:Value)(lv wv:List Value)(S0 S':Srch)(n:Nat)(t:Env)(g:H): Prop:=
 t 0 = .pointer (some ⟨q,0,none⟩)∧n<=S0.trail.length∧∃z S1 vK1 w1,t 4 = .int .i64 z∧z=(n:Int)-1∧D'J (S0.trail.take n).reverse S1=some S'∧SQ O ro w1 g q S1 bW bH bV vA vC vT vS vK1 lv wv∧Ch O K11 w h w1 g∧Bd S1∧S1.trail=S0.trail
def BmQ (O:HI H)(ro:Nat)(w:Own)(h:H)(q bW bH bV:Nat)(vA vC vT vS:Value)(lv wv:List Value)(S':Srch)(g:H): Prop:=
 ∃vK1 w1,SQ O ro w1 g q S' bW bH bV vA vC vT vS vK1 lv wv∧Ch O K11 w h w1 g∧Bd S'
theorem N'a (C:LP' O ro c)(L:O.Law){S0 S':Srch}{n:Nat}{t:Env}{g:H}(I:BmI O ro w h q bW bH bV vA vC vT vS lv wv S0 S' n t g):
  okE c (F'G O Tryz.prog ro) (t,g) (λe t' g'=>(e = .normal∧∃n',n'<n∧BmI O ro w h q bW bH bV vA vC vT vS lv wv S0 S' n' t' g')∨(e≠.normal∧(A'j 0 e = .normal∧BmQ O ro w h q bW bH bV vA vC vT vS lv wv S' g'))):=by
 have hm:most=1000000:=rfl;obtain⟨d0,hn,z,S1,vK1,w1,d4,hz,hbl,x1,c1,B1,htr⟩:=I
 cases n with
 | zero=>
  simp only[List.take_zero,List.reverse_nil,D'J,l'a]at hbl;subst hbl;have hz2:z = -1:=by omega
  subst hz2;refine f'f ?_;simp[F'G,Zhj,d0,d4];exact⟨_,_,x1,c1,B1⟩
 | succ i=>
  have hzi:z=(i:Int):=by omega
  subst hzi;clear hz;have hi:i<S0.trail.length:=by omega
  have hi':(i:Int)<S0.trail.length:=by omega
  obtain⟨l,hl⟩:∃l,S0.trail[i]?=some l:=⟨_,l'c hi⟩;have hrv:(S0.trail.take (i+1)).reverse=l :: (S0.trail.take i).reverse:=by
   rw[l'C,hl];simp
  rw[hrv]at hbl;simp only[D'J]at hbl;obtain⟨bT,hvT,hcell⟩:=x1.getT i (by rw[htr];exact hl);rw[htr]at hvT;subst hvT;have hnT:=B1.nT;rw[htr]at hnT;have hlm:=B1.tr l (by rw[htr];exact getElem?_mem hl);have hwd:IntKind.i64.wrap ((i:Int)-1)=(i:Int)-1:=w'j;have hsh:=C'c l;have m1:=x1.m.get 1 _ rfl;have m6:=x1.m.get 6 _ rfl;have m7:=x1.m.get 7 _ rfl;have m12:=x1.m.get 12 _ rfl
  cases hv:S1.vars[l/2]? with
  | none=>rw[hv]at hbl;simp at hbl
  | some v=>
   rw[hv]at hbl;simp only at hbl;have lv0:=(l'b.1 hv).1;have lv':((l/2:Nat):Int)<S1.vars.length:=by omega
   have k1:=x1.getV (l/2) hv 1 (by omega);have k2:=x1.getV (l/2) hv 2 (by omega);simp only[vrC,l'x,l'w,Nat.add_zero]at k1 k2
   cases hmk:v.marked with
   | false=>
    rw[hmk]at hbl k2;simp only[l'y,if_false]at hbl;refine f'f ?_;generalize l/2=dd at *;simp[F'G,Zhj,Zhk,Zhl,Zhq,d0,d4,m7,m6,hi,hi',hcell,hsh,lv0,lv',k1,k2,hwd];exact⟨i,by omega,by simp[d0],by omega,_,S1,vK1,w1,by simp,rfl,hbl,x1,c1,B1,htr⟩
   | true=>
    rw[hmk]at hbl k2;simp only[if_true]at hbl
    cases hrs:v.reason with
    | none=>
     rw[hrs]at hbl k1;simp only at hbl;simp only[rv]at k1
     by_cases hlt:S1.core.length<most
     ·rw[if_pos hlt]at hbl;obtain⟨vK',h1,h2,w2,e2,p2,f2,g2,x2,c2⟩:=x1.appK L l hlt;have rq:¬q<ro:=by have:=x1.m.lo;omega
      have B2:Bd { S1 with core:=S1.core++[l] }:=⟨B1.cls,B1.nC,B1.nW,B1.nH,B1.nV,B1.nS,B1.nT,B1.nA,by simp;omega,B1.wl,B1.tr,B1.st,B1.asm,B1.vr,B1.gv,B1.dr,B1.bo,B1.me⟩;have c12:=c1.trans c2;clear c1 c2 x1;refine f'f ?_;generalize l/2=dd at *;simp[F'G,Zhj,Zhk,Zhl,Zhm,Zhn,Zho,Zhq,d0,d4,m7,m6,m12,hi,hi',hcell,hsh,lv0,lv',k1,k2,hwd,e2,p2,f2,g2,rq];exact⟨i,by omega,by simp[d0],by omega,_,_,vK',w2,by simp,rfl,hbl,x2,c12,B2,htr⟩
     ·rw[if_neg hlt]at hbl;simp at hbl
    | some k=>
     rw[hrs]at hbl k1;simp only at hbl;simp only[rv]at k1;have ek:=E't k
     cases hy:S1.clauses[k]? with
     | none=>rw[hy]at hbl;simp at hbl
     | some y=>
      rw[hy]at hbl;simp only at hbl;have hkl:=(l'b.1 hy).1;have hkl':(k:Int)<S1.clauses.length:=by omega
      have hY:=B1.cls y (getElem?_mem hy);obtain⟨bC,vl,hvC,yC,hlvk,sl,cc0,-⟩:=x1.getC k hy
      cases hmp:C'1 y.lits S1 with
      | none=>rw[hmp]at hbl;simp at hbl
      | some p=>
       obtain⟨S2,m⟩:=p;rw[hmp]at hbl;simp only at hbl;obtain⟨h2,e2,x2,c2,B2,hst2,hcl2,htr2,hml⟩:=I'p C L x1 B1 hY.lits hY.len (by simp[K11]) sl hmp;unfold ptr at e2;subst hvC;have c12:=c1.trans c2;clear c1 c2 x1;refine f'f ?_;generalize l/2=dd at *;simp[F'G,Zhj,Zhk,Zhl,Zhm,Zhn,Zhp,Zhq,d0,d4,m7,m6,m1,hi,hi',hcell,hsh,lv0,lv',k1,k2,hwd,ek,hkl,hkl',cc0,e2];exact⟨i,by omega,by simp[d0],by omega,_,S2,vK1,w1,by simp,rfl,hbl,x2,c12,B2,htr2.trans htr⟩
theorem K'J (C:LP' O ro c)(L:O.Law)(x:SQ O ro w h q S bW bH bV vA vC vT vS vK lv wv)(B:Bd S){lits:List Nat}{vl:Value}(hl1:∀a∈lits,a<most)(hl2:lits.length<=most){tl:Tag}(ht9:¬K11 tl)(sl:Sm O ro w h tl 1 vl (lits.map ni)){S':Srch}(hs:E'2 S lits=some S'):
  ∃h',c 212 [ptr q,vl] h=some (.tuple #[],h')∧BmQ O ro w h q bW bH bV vA vC vT vS lv wv S' h':=by
 have hm:most=1000000:=rfl;unfold E'2 at hs;split at hs
 ·simp at hs
 rename_i S1 n h1
 obtain⟨g1,e1,x1,c1,B1,hst1,hcl1,htr1,hnl⟩:=I'p C L x B hl1 hl2 ht9 sl h1;have hnT:=B1.nT;have key:∃u h',c 212 [ptr q,vl] h=some (u,h')∧(u = .tuple #[]∧BmQ O ro w h q bW bH bV vA vC vT vS lv wv S' h'):=by
  refine C.fn (P'V O ro) rfl rfl ?_;have m7:=x1.m.get 7 _ rfl;unfold ptr at e1;unfold V'c;refine s'f ?_;simp[Zhh,e1,A'c];obtain⟨aT,cT,hvT⟩:=x1.sT.m.len (by omega) S1.trail.length (by simp);have hw1:IntKind.i64.wrap ((S1.trail.length:Int)-1)=(S1.trail.length:Int)-1:=w'j;refine s'f ?_;rw[hvT]at m7;simp[Zhi,m7,hw1,A'c];refine okE.blk ?_;refine okE.mono (okE.loop (Q:=λe t' g'=>A'j 0 e = .normal∧BmQ O ro w h q bW bH bV vA vC vT vS lv wv S' g') (BmI O ro w h q bW bH bV vA vC vT vS lv wv S1 S') (λn t g I=>N'a C L I) S1.trail.length _ _ ⟨by simp,l'H _,_,S1,vK,w,by simp,rfl,by simpa using hs,x1,c1,B1,rfl⟩) ?_;rintro e t g ⟨hr,hq⟩;rw[hr];simp[A'1,A'i,rvE];exact hq
 obtain⟨u,h',e1,rfl,e2⟩:=key;exact⟨h',e1,e2⟩
def AnQ (O:HI H)(ro:Nat)(w:Own)(h:H)(q bW bH bV:Nat)(vA:Value)(S':Srch)(g:H): Prop:=
 ∃vC vT vS vK lv wv w',SQ O ro w' g q S' bW bH bV vA vC vT vS vK lv wv∧Ch O K11 w h w' g∧Bd S'
theorem I't (C:LP' O ro c)(L:O.Law)(x:SQ O ro w h q S bW bH bV vA vC vT vS vK lv wv)(B:Bd S){k:Nat}{bud:Int}{S':Srch}{an:Nat}(hs:K'w S k bud=some (S',an)):
  ∃h',c 202 [ptr q,ni k,.int .i64 bud] h=some (ni an,h')∧AnQ O ro w h q bW bH bV vA S' h':=by
 have hm:most=1000000:=rfl;have hm62:B'w=4611686018427387904:=rfl;have key:∃u h',c 202 [ptr q,ni k,.int .i64 bud] h=some (u,h')∧(u=ni an∧AnQ O ro w h q bW bH bV vA S' h'):=by
  refine C.fn (P'P O ro) rfl rfl ?_;unfold K'w at hs;split at hs
  ·rename_i hmet
   simp only at hs;have hw:=w'1 S.met;have m11:=x.m.get 11 _ rfl;obtain⟨me,hme⟩:=e' (S.met+1);rw[<-hme]at hw hs;obtain⟨h1,p1,x1,c1⟩:=x.fld L 11 (by omega) (ni me) (g:=S.given) (d:=S.drawn) (b:=S.bonus) (m:=me) rfl;have B1:Bd { S with met:=me }:=⟨B.cls,B.nC,B.nW,B.nH,B.nV,B.nS,B.nT,B.nA,B.nK,B.wl,B.tr,B.st,B.asm,B.vr,B.gv,B.dr,B.bo,by show me<=B'w;omega⟩;have rq:¬q<ro:=by have:=x.m.lo;omega
   have n0:=x1.m.get 0 _ rfl;have n1:=x1.m.get 1 _ rfl;have n8:=x1.m.get 8 _ rfl;have n11:=x1.m.get 11 _ rfl;obtain⟨aA,cA,hvA⟩:=x1.sA.len (by omega) S.assumed.length (by simp);obtain⟨aS,cS,hvS⟩:=x1.sS.m.len (by omega) S.starts.length (by simp);rw[hvA]at n0;rw[hvS]at n8;unfold U'6;refine s'f ?_;simp[Zgn,A'c];refine s'f ?_;simp[Zgo,A'c,m11,hw,p1,rq];refine s'f ?_;simp[Zgp,A'c,n0,n8];split at hs
   ·rename_i hle
    have hle':(S.starts.length:Int)<=S.assumed.length:=by omega
    split at hs
    ·simp at hs
    rename_i y hy
    split at hs
    ·simp at hs
    rename_i S2 h2
    simp only[l'a,l'd]at hs;obtain⟨rfl,rfl⟩:=hs;have hy':S.clauses[k]?=some y:=hy;have hkl:=(l'b.1 hy').1;have hkl':(k:Int)<S.clauses.length:=by omega
    have hY:=B.cls y (getElem?_mem hy');obtain⟨bC,vl,hvC,yC,hlvk,sl,cc0,-⟩:=x1.getC k hy';subst hvC;obtain⟨g2,e2,vK2,w2,x2,c2,B2⟩:=K'J C L x1 B1 hY.lits hY.len (by simp[K11]) sl h2;unfold ptr at e2;refine s'f ?_;simp[Zgq,Zgr,Zgs,A'c,hle,hle',n1,hkl,hkl',cc0,e2,A'1,A'i,rvE];exact⟨_,_,_,_,_,_,_,x2,c1.trans c2,B2⟩
   ·rename_i hle
    have hle':¬(S.starts.length:Int)<=S.assumed.length:=by have hle0:¬S.starts.length<=S.assumed.length:=hle;omega
    have hle2:¬S.starts.length<=S.assumed.length:=hle;refine okE.seq (s'f ?_);simp[Zgq,A'c,hle2,hle'];refine f'f ?_;simp[A'c];split at hs
    ·rename_i hb
     simp only[l'a,l'd]at hs;obtain⟨rfl,rfl⟩:=hs;have hb':bud<(me:Int):=hb;refine s'f ?_;simp[Zgt,Zgu,A'c,n11,hb',A'1,A'i,rvE];exact⟨_,_,_,_,_,_,_,x1,c1,B1⟩
    ·rename_i hb
     have hb':¬bud<(me:Int):=hb;split at hs
     ·simp at hs
     rename_i S2 h2
     simp only[l'a,l'd]at hs;obtain⟨rfl,rfl⟩:=hs;obtain⟨g2,e2,vC2,vT2,vS2,lv2,wv2,w2,x2,c2,B2⟩:=Q't C L x1 B1 h2;unfold ptr at e2;refine okE.seq (s'f ?_);simp[Zgt,A'c,n11,hb'];refine f'f ?_;simp[A'c];refine s'f ?_;simp[Zgv,A'c,e2];refine f'f ?_;simp[Zgw,A'c,A'1,A'i,rvE];exact⟨_,_,_,_,_,_,_,x2,c1.trans c2,B2⟩
  ·simp at hs
 obtain⟨u,h',e1,rfl,e2⟩:=key;exact⟨h',e1,e2⟩
theorem I'u {S S':Srch}(hs:F't S=some S')(B:Bd S): S' = { S with starts:=S.starts++[S.trail.length] }∧Bd S'∧S.starts.length<most:=by
 unfold F't at hs;split at hs
 ·rename_i hlt
  simp only[l'a]at hs;subst hs;refine⟨rfl,⟨B.cls,B.nC,B.nW,B.nH,B.nV,by simp;omega,B.nT,B.nA,B.nK,B.wl,B.tr,?_,B.asm,B.vr,B.gv,B.dr,B.bo,B.me⟩,hlt⟩;intro s hs;rcases l'E.1 hs with hs|hs
  ·exact B.st s hs
  ·simp at hs;subst hs;exact B.nT
 ·simp at hs
theorem N'b (C:LP' O ro c)(L:O.Law)(x:SQ O ro w h q S bW bH bV vA vC vT vS vK lv wv)(B:Bd S){l:Nat}(hlm:l<most){S':Srch}{an:Nat}(hs:E'3 S l=some (S',an)):
  ∃h',c 210 [ptr q,ni l] h=some (ni an,h')∧AnQ O ro w h q bW bH bV vA S' h':=by
 have hm:most=1000000:=rfl;have key:∃u h',c 210 [ptr q,ni l] h=some (u,h')∧(u=ni an∧AnQ O ro w h q bW bH bV vA S' h'):=by
  refine C.fn (P'T O ro) rfl rfl ?_;unfold E'3 at hs;have hnH:=B.nH;have m5:=x.m.get 5 _ rfl;have m7:=x.m.get 7 _ rfl;have m8:=x.m.get 8 _ rfl;have hxo:=B'P l (by omega);have hxm:=D'7 hlm;have rq:¬q<ro:=by have:=x.m.lo;omega
  obtain⟨z,hz⟩:=e' (l ^^^ 1);rw[<-hz]at hxo hxm hs;unfold V'a;refine s'f ?_;simp[ZgZ,A'c];split at hs
  ·simp at hs
  ·rename_i hh
   have lz:=(l'b.1 hh).1;have lz':(z:Int)<S.holds.length:=by omega
   have kz:=x.getH z hh;split at hs
   ·simp at hs
   rename_i S1 h1
   split at hs
   ·rename_i hlt
    simp only[l'a,l'd]at hs;obtain⟨rfl,rfl⟩:=hs;have y0:=Bx.new L (ro:=ro) w h x.lo (13,0) [ni l];have c0:=Ch.new L K11 w h (13,0) [ni l];have c0':=Ch.new L (λ_=>False) w h (13,0) [ni l];have x0:=x.ch L c0';obtain⟨g2,e2,vK2,w2,x2,c2,B2⟩:=K'J C L x0 B (lits:=[l]) (vl:=.slice (some ⟨O.next h,0,some 1⟩) 1 2) (by simpa using hlm) (by simp;omega) (tl:=(13,0)) (by simp[K11]) (.inr ⟨_,1,2,rfl,.inr rfl,by simp,y0⟩) h1;have n12:=x2.m.get 12 _ rfl;obtain⟨vK3,h3,h4,w3,e3,p3,f3,g3,x3,c3⟩:=x2.appK L l hlt;have B3:Bd { S1 with core:=S1.core++[l] }:=⟨B2.cls,B2.nC,B2.nW,B2.nH,B2.nV,B2.nS,B2.nT,B2.nA,by simp;omega,B2.wl,B2.tr,B2.st,B2.asm,B2.vr,B2.gv,B2.dr,B2.bo,B2.me⟩;unfold ptr at e2;refine s'f ?_;simp[Zg0,Zg1,Zg2,Zg3,A'c,m5,hxo,lz,lz',kz,e2,n12,e3,p3,f3,g3,rq,A'1,A'i,rvE];exact⟨_,_,_,_,_,_,_,x3,(c0.trans c2).trans c3,B3⟩
   ·simp at hs
  ·rename_i hh
   have lz:=(l'b.1 hh).1;have lz':(z:Int)<S.holds.length:=by omega
   have kz:=x.getH z hh;split at hs
   ·simp at hs
   rename_i S1 h1
   obtain⟨rfl,B1,hlt⟩:=I'u h1 B;obtain⟨vS',h2,h3,w2,e2,p2,f2,g2,x2,c2⟩:=x.appS L S.trail.length hlt;have n5:=x2.m.get 5 _ rfl;obtain⟨aT,cT,hvT⟩:=x.sT.m.len (by omega) S.trail.length (by simp);rw[hvT]at m7;refine okE.seq (s'f ?_);simp[Zg0,A'c,m5,hxo,lz,lz',kz];refine f'f ?_;simp[A'c];refine s'f ?_;simp[Zg4,A'c,m7,m8,e2,p2,f2,g2,rq];split at hs
   ·simp at hs
   ·rename_i hl
    simp only[l'a,l'd]at hs;obtain⟨rfl,rfl⟩:=hs;have hl':S.holds[l]?=some true:=hl;have ll:=(l'b.1 hl').1;have ll':(l:Int)<S.holds.length:=by omega
    have kl:=x2.getH l hl';refine okE.seq (s'f ?_);simp[Zg5,A'c,n5,ll,ll',kl];refine f'f ?_;simp[A'c];refine f'f ?_;simp[Zg7,A'c,A'1,A'i,rvE];exact⟨_,_,_,_,_,_,_,x2,c2,B1⟩
   ·rename_i hl
    split at hs
    ·simp at hs
    rename_i S3 h3'
    simp only[l'a,l'd]at hs;obtain⟨rfl,rfl⟩:=hs;have hl':S.holds[l]?=some false:=hl;have ll:=(l'b.1 hl').1;have ll':(l:Int)<S.holds.length:=by omega
    have kl:=x2.getH l hl';obtain⟨vT4,g4,w4,e4,x4,c4⟩:=J'f C L x2 l none h3' B1.nV B1.nH;have B4:=(D'6 h3' B1 (by simp)).1;unfold ptr at e4;simp only[rv]at e4;refine okE.seq (s'f ?_);simp[Zg5,Zg6,A'c,n5,ll,ll',kl];refine f'f ?_;simp[Zg6,A'c,e4];refine f'f ?_;simp[Zg7,A'c,A'1,A'i,rvE];exact⟨_,_,_,_,_,_,_,x4,c2.trans c4,B4⟩
 obtain⟨u,h',e1,rfl,e2⟩:=key;exact⟨h',e1,e2⟩
theorem K'K (C:LP' O ro c)(L:O.Law)(x:SQ O ro w h q S bW bH bV vA vC vT vS vK lv wv)(B:Bd S){S':Srch}{an:Nat}(hs:E'4 S=some (S',an)):
  ∃h',c 201 [ptr q] h=some (ni an,h')∧AnQ O ro w h q bW bH bV vA S' h':=by
 have hm:most=1000000:=rfl;have key:∃u h',c 201 [ptr q] h=some (u,h')∧(u=ni an∧AnQ O ro w h q bW bH bV vA S' h'):=by
  refine C.fn (P'O O ro) rfl rfl ?_;unfold E'4 at hs;have hnV:=B.nV;have m0:=x.m.get 0 _ rfl;have m6:=x.m.get 6 _ rfl;have m7:=x.m.get 7 _ rfl;have m8:=x.m.get 8 _ rfl;have rq:¬q<ro:=by have:=x.m.lo;omega
  obtain⟨aS,cS,hvS⟩:=x.sS.m.len (by omega) S.starts.length (by simp);have m8':=m8;rw[hvS]at m8';unfold U'5;refine s'f ?_;simp[Zga,A'c];refine s'f ?_;simp[Zgb,A'c,m8'];split at hs
  ·rename_i l hl
   have hlt:=(l'b.1 hl).1;have hlt':(S.starts.length:Int)<S.assumed.length:=by omega
   have hlm:=B.asm l (getElem?_mem hl);obtain⟨bA,cp,hvA,hcp,yA⟩:=x.sA.blk (by omega) S.assumed.length (by simp) (by omega);have hcA:O.cell h bA S.starts.length=some (ni l):=by rw[yA.cell _ (by simpa using hlt),List.getElem?_map,hl];rfl
   obtain⟨g2,e2,q2⟩:=N'b C L x B hlm hs;subst hvA;unfold ptr at e2;refine s'f ?_;simp[Zgc,Zgd,A'c,m0,hlt,hlt',hcA,e2,A'1,A'i,rvE];exact q2
  ·rename_i hl
   have hlt:¬S.starts.length<S.assumed.length:=by
    intro hh;rw[l'c hh]at hl;simp at hl
   have hlt':¬(S.starts.length:Int)<S.assumed.length:=by omega
   obtain⟨aA,cA,hvA⟩:=x.sA.len (by omega) S.assumed.length (by simp);have m0':=m0;rw[hvA]at m0';refine okE.seq (s'f ?_);simp[Zgc,A'c,m0',hlt,hlt'];refine f'f ?_;simp[A'c];split at hs
   ·simp at hs
   ·rename_i hh
    have eh:=K'z C L x B hh;simp only[l'a,l'd]at hs;obtain⟨rfl,rfl⟩:=hs;unfold ptr at eh;simp only[rv]at eh;refine s'f ?_;simp[Zge,A'c,eh];refine s'f ?_;simp[Zgf,Zgg,A'c,A'1,A'i,rvE];exact⟨_,_,_,_,_,_,_,x,Ch.refl _ _ _,B⟩
   ·rename_i v hh
    have eh:=K'z C L x B hh;unfold ptr at eh;simp only[rv]at eh;have ev1:=E't v;split at hs
    ·simp at hs
    rename_i y hy
    have lv0:=(l'b.1 hy).1;have lv':(v:Int)<S.vars.length:=by omega
    have k4:=x.getV v hy 4 (by omega);simp only[vrC,l'x,l'w,Nat.add_zero]at k4;split at hs
    ·simp at hs
    rename_i S1 h1
    split at hs
    ·simp at hs
    rename_i S2 h2
    simp only[l'a,l'd]at hs;obtain⟨rfl,rfl⟩:=hs;obtain⟨rfl,B1,hlt2⟩:=I'u h1 B;obtain⟨vS',h3,h4,w3,e3,p3,f3,g3,x3,c3⟩:=x.appS L S.trail.length hlt2;obtain⟨vT4,g4,w4,e4,x4,c4⟩:=J'f C L x3 _ none h2 B1.nV B1.nH;have B4:=(D'6 h2 B1 (by simp)).1;obtain⟨aT,cT,hvT⟩:=x.sT.m.len (by omega) S.trail.length (by simp);have m7':=m7;rw[hvT]at m7';unfold ptr at e4;simp only[rv]at e4;have hw2:IntKind.i64.wrap (2*(v:Int))=((2*v:Nat):Int):=w'i;have hw3:IntKind.i64.wrap (((2*v:Nat):Int)+1)=((2*v+1:Nat):Int):=w'i;obtain⟨l,hl⟩:=e' (2*v);rw[<-hl]at hw2 hw3 e4;obtain⟨l',hl'⟩:=e' (l+1);rw[<-hl']at hw3 e4;refine s'f ?_;simp[Zge,A'c,eh];refine okE.seq (s'f ?_);simp[Zgf,A'c,ev1];refine f'f ?_;simp[A'c];refine s'f ?_;simp[Zgh,A'c,hw2]
    cases hla:y.last with
    | true=>
     rw[hla]at k4 e4;simp only[if_true]at e4;refine okE.seq (s'f ?_);simp[Zgi,A'c,m6,lv0,lv',k4];refine f'f ?_;simp[A'c];refine s'f ?_;simp[Zgk,A'c,m7',m8,e3,p3,f3,g3,rq];refine f'f ?_;simp[Zgl,Zgm,e4,A'1,A'i,rvE];exact⟨_,_,_,_,_,_,_,x4,c3.trans c4,B4⟩
    | false=>
     rw[hla]at k4 e4;simp only[l'y,if_false]at e4;refine okE.seq (s'f ?_);simp[Zgi,A'c,m6,lv0,lv',k4];refine f'f ?_;simp[Zgj,A'c,hw3];refine s'f ?_;simp[Zgk,A'c,m7',m8,e3,p3,f3,g3,rq];refine f'f ?_;simp[Zgl,Zgm,e4,A'1,A'i,rvE];exact⟨_,_,_,_,_,_,_,x4,c3.trans c4,B4⟩
 obtain⟨u,h',e1,rfl,e2⟩:=key;exact⟨h',e1,e2⟩
theorem K'L {S:Srch}(B:Bd S){y:Cl}(hy:y.Ok)(hlt:S.clauses.length<most): Bd { S with clauses:=S.clauses++[y] }:=
 ⟨λz hz=>by rcases l'E.1 hz with hz|hz;exact B.cls z hz;simp at hz;subst hz;exact hy,by simp;omega,B.nW,B.nH,B.nV,B.nS,B.nT,B.nA,B.nK,B.wl,B.tr,B.st,B.asm,B.vr,B.gv,B.dr,B.bo,B.me⟩
structure Cs (O:HI H) (ro:Nat)(w:Own)(h:H)(tc:Tag)(v:Value)(vs:List Value)(cs:List (List Nat)):Prop where
 s:Sm O ro w h tc 1 v vs
 l:vs.length=cs.length
 a:∀(i:Nat) l u,cs[i]?=some l->vs[i]?=some u->Sm O ro w h (9,0) 1 u (l.map ni)
theorem Cs.ch (L:O.Law){K:Tag->Prop}{tc:Tag}{v:Value}{vs:List Value}{cs:List (List Nat)}(x:Cs O ro w h tc v vs cs)(a:Ch O K w h w' h')(hk:¬K tc:=by simp)(h9:¬K (9,0):=by simp): Cs O ro w' h' tc v vs cs:=
 ⟨x.s.ch L a hk,x.l,λi l u h1 h2=>(x.a i l u h1 h2).ch L a h9⟩
def LdI (O:HI H)(ro:Nat)(w:Own)(h:H)(q bW bH bV:Nat)(vA vcl:Value)(cs:List (List Nat))(res:Srch×Option Nat)(n:Nat)(t:Env)(g:H): Prop:=
 t 0 = .pointer (some ⟨q,0,none⟩)∧t 1=vcl∧∃i clash S1 vC vT vS vK lv wv w1,t 6=ni i∧t 5=rv clash∧i+n=cs.length∧D'C (cs.drop i) i S1 clash=some res∧SQ O ro w1 g q S1 bW bH bV vA vC vT vS vK lv wv∧Ch O K11 w h w1 g∧Bd S1
theorem Q'u (C:LP' O ro c)(L:O.Law){tc:Tag}{vcl:Value}{vs:List Value}{cs:List (List Nat)}(X:Cs O ro w h tc vcl vs cs)(htc:¬K11 tc)(hcs:∀l∈cs,(∀a∈l,a<most)∧l.length<=most)(hcl:cs.length<=most){res:Srch×Option Nat}{n:Nat}{t:Env}{g:H}(I:LdI O ro w h q bW bH bV vA vcl cs res n t g):
  okE c (E'n O Tryz.prog ro) (t,g) (λe t' g'=>(e = .normal∧∃n',n'<n∧LdI O ro w h q bW bH bV vA vcl cs res n' t' g')∨(e≠.normal∧(A'j 0 e = .normal∧t' 0 = .pointer (some ⟨q,0,none⟩)∧t' 1=vcl∧t' 5=rv res.2∧AnQ O ro w h q bW bH bV vA res.1 g'))):=by
 have hm:most=1000000:=rfl;obtain⟨d0,d1,i,clash,S1,vC,vT,vS,vK,lv,wv,w1,d6,d5,hin,hld,x1,c1,B1⟩:=I;obtain⟨aL,cL,hvl⟩:=X.s.len (by omega) cs.length (by rw[X.l];simp)
 cases n with
 | zero=>
  obtain rfl:i=cs.length:=by omega
  simp only[List.drop_length,D'C,l'a]at hld;subst hld;rw[hvl]at d1;refine f'f ?_;simp[E'n,ZfR,d0,d1,d5,d6,hvl];exact⟨_,_,_,_,_,_,_,x1,c1,B1⟩
 | succ n=>
  have hi:i<cs.length:=by omega
  have hi':(i:Int)<cs.length:=by omega
  have Xg:=X.ch L c1 htc (by simp[K11]);obtain⟨bL,cp,e8,hcp,yl⟩:=Xg.s.blk (by omega) cs.length (by rw[X.l];simp) (by omega);obtain⟨l,hl⟩:∃l,cs[i]?=some l:=⟨_,l'c hi⟩;obtain⟨u,hu⟩:∃u,vs[i]?=some u:=⟨_,l'c (by rw[X.l];exact hi)⟩;have sl:=Xg.a i l u hl hu;have hcell:O.cell g bL i=some u:=by rw[yl.cell i (by rw[X.l];exact hi),hu]
  have hdrop:cs.drop i=l :: cs.drop (i+1):=by
   have:=(l'b.1 hl).2;rw[<-this];exact l's hi
  rw[hdrop]at hld;have d1':=d1;rw[e8]at d1';have hok:=hcs l (getElem?_mem hl);have hwi:=w'1 i;have him:i<2*most:=by omega
  obtain⟨i',hi2⟩:=e' (i+1);have m1:=x1.m.get 1 _ rfl;have rq:¬q<ro:=by have:=x1.m.lo;omega
  have hnH:=B1.nH;obtain⟨fl1,fl2,fl3⟩:=sl.flat;have hr4:List.range 4=[0,1,2,3]:=rfl
  match l,hld,sl,hok,hl,hdrop with
  | a :: b :: r,hld,sl,hok,hl,hdrop=>
   simp only[D'C]at hld;rw[<-hi2]at hwi hld;split at hld
   ·simp at hld
   rename_i S2 h2
   have ha:=hok.1 a (by simp);have hb:=hok.1 b (by simp);obtain⟨bl,cl,hul,hcl2,yu⟩:=sl.blk (by omega) (r.length+2) (by simp) (by omega);have ka:O.cell g bl 0=some (ni a):=by rw[yu.cell 0 (by simp)];rfl
   have kb:O.cell g bl 1=some (ni b):=by rw[yu.cell 1 (by simp)];rfl
   obtain⟨vC',wv',h',w',e2,x2,c2,B2⟩:=I'r C L x1 B1 ⟨a :: b :: r,a,b,0⟩ ⟨hok.1,hok.2,ha,hb,by simp⟩ sl h2;unfold ptr at e2;subst hul;obtain⟨ll,hll⟩:=e' (r.length+2);rw[<-hll]at e2 hcell;have e2':c 207 [.pointer (some ⟨q,0,none⟩),.agg #[.slice (some ⟨bl,0,some 1⟩) ll cl,ni a,ni b,.int .i64 0]] g=some (.tuple #[],h'):=e2;have hl1:(1:Int)<ll:=by omega
   have hl2:1<ll:=by omega
   have hl3:(0:Int)<ll:=by omega
   have hl4:0<ll:=by omega
   have c12:=c1.trans c2;clear c1 c2 x1;refine f'f ?_;simp[E'n,ZfR,ZfS,ZfT,ZfU,Zf0,d0,d1',d5,d6,hi,hi',hcell,hl1,hl2,hl3,hl4,ka,kb,e2',hwi];exact⟨n,by omega,by simp[d0],by simp[d1',e8],i',clash,S2,vC',vT,vS,vK,_,wv',w',by simp,by simp[d5],by omega,hld,x2,c12,B2⟩
  | [a],hld,sl,hok,hl,hdrop=>
   simp only[D'C]at hld;rw[<-hi2]at hwi hld;split at hld
   ·rename_i hlt
    have ha:=hok.1 a (by simp);have hxo:=B'P a (by omega);have hxm:=D'7 ha;obtain⟨z,hz⟩:=e' (a ^^^ 1);rw[<-hz]at hxo hxm hld;obtain⟨vC',h2,h3,w2,e2,p2,f2,g2,x2,c2⟩:=x1.appC L ⟨[a],0,0,0⟩ hlt sl;have B2:=K'L B1 (y:=⟨[a],0,0,0⟩) ⟨hok.1,hok.2,by show 0<most;omega,by show 0<most;omega,by simp⟩ hlt;have sl2:=sl.ch L c2 (by simp[K11]);obtain⟨bl,cl,hul,hcl2,yu⟩:=sl2.blk (by omega) 1 (by simp) (by omega);have ka:O.cell h3 bl 0=some (ni a):=by rw[yu.cell 0 (by simp)];rfl
    have n5:=x2.m.get 5 _ rfl;have c12:=c1.trans c2;subst hul
    cases hzh:S1.holds[z]? with
    | none=>rw[hzh]at hld;simp at hld
    | some bz=>
     cases hah:S1.holds[a]? with
     | none=>rw[hzh,hah]at hld;cases bz <;> simp at hld
     | some ba=>
      rw[hzh,hah]at hld;have lz:=(l'b.1 hzh).1;have lz':(z:Int)<S1.holds.length:=by omega
      have la:=(l'b.1 hah).1;have la':(a:Int)<S1.holds.length:=by omega
      have kz:=x2.getH z hzh;have kah:=x2.getH a hah;have e2':D'd O ro 4 48 vC (.slice (some ⟨O.next g,0,some 4⟩) 1 2) (O.new g [.slice (some ⟨bl,0,some 1⟩) 1 cl,.int .i64 0,.int .i64 0,.int .i64 0])=some (vC',h2):=e2
      cases bz with
      | true=>
       simp only at hld;refine f'f ?_;clear c1 c2 x1;simp[E'n,ZfR,ZfS,ZfT,ZfV,ZfW,ZfX,Zf0,d0,d1',d5,d6,hi,hi',hcell,m1,hr4,e2',p2,f2,g2,rq,n5,ka,hxo,lz,lz',kz,hwi];exact⟨n,by omega,by simp[d0],by simp[d1',e8],i',some i,_,vC',vT,vS,vK,_,wv,w2,by simp,by simp[rv],by omega,hld,x2,c12,B2⟩
      | false=>
       cases ba with
       | true=>
        simp only at hld;refine f'f ?_;clear c1 c2 x1;simp[E'n,ZfR,ZfS,ZfT,ZfV,ZfW,ZfY,Zf0,d0,d1',d5,d6,hi,hi',hcell,m1,hr4,e2',p2,f2,g2,rq,n5,ka,hxo,lz,lz',kz,la,la',kah,hwi];exact⟨n,by omega,by simp[d0],by simp[d1',e8],i',clash,_,vC',vT,vS,vK,_,wv,w2,by simp,by simp[d5],by omega,hld,x2,c12,B2⟩
       | false=>
        simp only at hld;split at hld
        ·simp at hld
        rename_i S3 h3'
        obtain⟨vT4,g4,w4,e4,x4,c4⟩:=J'f C L x2 a (some i) h3' B2.nV B2.nH;have B4:=(D'6 h3' B2 (by intro k hk;simp at hk;omega)).1;unfold ptr at e4;simp only[rv]at e4;refine f'f ?_;clear c1 c2 x1;simp[E'n,ZfR,ZfS,ZfT,ZfV,ZfW,ZfY,ZfZ,Zf0,d0,d1',d5,d6,hi,hi',hcell,m1,hr4,e2',p2,f2,g2,rq,n5,ka,hxo,lz,lz',kz,la,la',kah,hwi,e4];exact⟨n,by omega,by simp[d0],by simp[d1',e8],i',clash,_,vC',vT4,vS,vK,_,wv,w4,by simp,by simp[d5],by omega,hld,x4,c12.trans c4,B4⟩
   ·simp at hld
  | [],hld,sl,hok,hl,hdrop=>
   simp only[D'C]at hld;rw[<-hi2]at hwi hld;split at hld
   ·rename_i hlt
    obtain⟨vC',h2,h3,w2,e2,p2,f2,g2,x2,c2⟩:=x1.appC L ⟨[],0,0,0⟩ hlt sl;have B2:=K'L B1 (y:=⟨[],0,0,0⟩) ⟨by simp,by simp,by show 0<most;omega,by show 0<most;omega,by simp⟩ hlt;obtain⟨au,cu,hul⟩:=sl.len (by omega) 0 (by simp);have c12:=c1.trans c2;subst hul;have e2':D'd O ro 4 48 vC (.slice (some ⟨O.next g,0,some 4⟩) 1 2) (O.new g [.slice au 0 cu,.int .i64 0,.int .i64 0,.int .i64 0])=some (vC',h2):=e2;refine f'f ?_;clear c1 c2 x1;simp[E'n,ZfR,ZfS,ZfT,ZfV,ZfW,ZfX,Zf0,d0,d1',d5,d6,hi,hi',hcell,m1,hr4,e2',p2,f2,g2,rq,hwi];exact⟨n,by omega,by simp[d0],by simp[d1',e8],i',some i,_,vC',vT,vS,vK,_,wv,w2,by simp,by simp[rv],by omega,hld,x2,c12,B2⟩
   ·simp at hld
theorem S'Q (C:LP' O ro c)(L:O.Law)(x:SQ O ro w h q S bW bH bV vA vC vT vS vK lv wv)(B:Bd S){tc:Tag}{vcl:Value}{vs:List Value}{cs:List (List Nat)}(X:Cs O ro w h tc vcl vs cs)(htc:¬K11 tc)(hcs:∀l∈cs,(∀a∈l,a<most)∧l.length<=most)(hcl:cs.length<=most){S':Srch}{clash:Option Nat}(hs:M'0 S cs=some (S',clash)):
  ∃h',c 199 [ptr q,vcl] h=some (rv clash,h')∧AnQ O ro w h q bW bH bV vA S' h':=by
 have hm:most=1000000:=rfl;unfold M'0 at hs;split at hs
 ·simp at hs
 rename_i S1 cl1 h1
 simp only[l'a,l'd]at hs;obtain⟨rfl,rfl⟩:=hs;have key:∃u h',c 199 [ptr q,vcl] h=some (u,h')∧(u=rv cl1∧AnQ O ro w h q bW bH bV vA { S1 with given:=cs.length } h'):=by
  refine C.fn (P'M O ro) rfl rfl ?_;unfold U'3;refine s'f ?_;simp[ZfO,A'c];refine s'f ?_;simp[ZfP,A'c];refine okE.seq (s'f ?_);simp[ZfQ,A'c];refine okE.blk ?_;refine okE.mono (okE.loop (Q:=λe t' g'=>A'j 0 e = .normal∧t' 0 = .pointer (some ⟨q,0,none⟩)∧t' 1=vcl∧t' 5=rv cl1∧AnQ O ro w h q bW bH bV vA S1 g') (LdI O ro w h q bW bH bV vA vcl cs (S1,cl1)) (λn t g I=>Q'u C L X htc hcs hcl I) cs.length _ _ ⟨by simp,by simp,0,none,S,vC,vT,vS,vK,lv,wv,w,by simp,by simp[rv],by omega,by simpa using h1,x,Ch.refl _ _ _,B⟩) ?_;rintro e t g ⟨hr,d0,d1,d5,vC1,vT1,vS1,vK1,lv1,wv1,w1,x1,c1,B1⟩;rw[hr];simp only[A'c];obtain⟨aL,cL,hvl⟩:=X.s.len (by omega) cs.length (by rw[X.l];simp);have rq:¬q<ro:=by have:=x1.m.lo;omega
  obtain⟨h2,p2,x2,c2⟩:=x1.fld L 2 (by omega) (ni cs.length) (g:=cs.length) (d:=S1.drawn) (b:=S1.bonus) (m:=S1.met) rfl;have B2:Bd { S1 with given:=cs.length }:=⟨B1.cls,B1.nC,B1.nW,B1.nH,B1.nV,B1.nS,B1.nT,B1.nA,B1.nK,B1.wl,B1.tr,B1.st,B1.asm,B1.vr,hcl,B1.dr,B1.bo,B1.me⟩;rw[hvl]at d1;have ht:=S'K cl1;refine f'f ?_;simp[Zf1,Zf2,d0,d1,d5,rq,p2,A'1,A'i,rvE,ht];exact⟨_,_,_,_,_,_,_,x2,c1.trans c2,B2⟩
 obtain⟨u,h',e1,rfl,e2⟩:=key;exact⟨h',e1,e2⟩
def AsI (O:HI H)(ro:Nat)(w:Own)(h:H)(q bW bH bV:Nat)(vA:Value)(f:Nat)(bud:Int)(S':Srch)(an:Nat)(n:Nat)(t:Env)(g:H): Prop:=
 t 0 = .pointer (some ⟨q,0,none⟩)∧t 2 = .int .i64 bud∧∃clash a1 S1,t 7=rv clash∧t 8=ni a1∧(a1=0->C'3 f bud n S1 clash=some (S',an))∧(a1≠0->a1=an∧S1=S')∧AnQ O ro w h q bW bH bV vA S1 g
theorem K'M (C:LP' O ro c)(L:O.Law){f:Nat}{bud:Int}{S':Srch}{an n:Nat}{t:Env}{g:H}(I:AsI O ro w h q bW bH bV vA f bud S' an n t g):
  okE c (D'U O Tryz.prog ro) (t,g) (λe t' g'=>(e = .normal∧∃n',n'<n∧AsI O ro w h q bW bH bV vA f bud S' an n' t' g')∨(e≠.normal∧(A'j 0 e = .normal∧t' 8=ni an∧AnQ O ro w h q bW bH bV vA S' g'))):=by
 obtain⟨d0,d2,clash,a1,S1,d7,d8,hz,hnz,vC,vT,vS,vK,lv,wv,w1,x1,c1,B1⟩:=I
 by_cases ha:a1=0
 ·have hans:=hz ha;subst ha
  cases n with
  | zero=>simp[C'3]at hans
  | succ n=>
   simp only[C'3]at hans
   cases clash with
   | some k=>
    simp only at hans;simp only[rv]at d7;have ek:=E't k;split at hans
    ·simp at hans
    ·rename_i S2 hmt
     obtain⟨g2,e2,vC2,vT2,vS2,vK2,lv2,wv2,w2,x2,c2,B2⟩:=I't C L x1 B1 hmt;unfold ptr at e2;refine f'f ?_;simp[D'U,Zfz,ZfA,ZfC,ZfE,ZfF,d0,d2,d7,d8,ek,e2];exact⟨n,by omega,by simp[d0],by simp[d2],none,0,S2,by simp[rv],by simp,λ_=>hans,by simp,_,_,_,_,_,_,_,x2,c1.trans c2,B2⟩
    ·rename_i S2 a2 hne hmt
     obtain⟨g2,e2,vC2,vT2,vS2,vK2,lv2,wv2,w2,x2,c2,B2⟩:=I't C L x1 B1 hmt;unfold ptr at e2;simp only[l'a,l'd]at hans;obtain⟨rfl,rfl⟩:=hans;have hne':a2≠0:=λh0=>hne h0;refine f'f ?_;simp[D'U,Zfz,ZfA,ZfC,ZfE,ZfF,d0,d2,d7,d8,ek,e2];exact⟨n,by omega,by simp[d0],by simp[d2],none,a2,S2,by simp[rv],by simp,λh0=>absurd h0 hne',λ_=>⟨rfl,rfl⟩,_,_,_,_,_,_,_,x2,c1.trans c2,B2⟩
   | none=>
    simp only at hans;simp only[rv]at d7
    cases hdr:D'M f S1 with
    | none=>rw[hdr]at hans;simp at hans
    | some p=>
     obtain⟨S2,cl2⟩:=p;rw[hdr]at hans;obtain⟨vT2,wv2,g2,w2,e2,x2,c2,B2⟩:=S'J C L x1 B1 f hdr;unfold ptr at e2;have c12:=c1.trans c2
     cases cl2 with
     | none=>
      simp only at hans;simp only[rv]at e2;split at hans
      ·simp at hans
      ·rename_i S3 hg
       obtain⟨g3,e3,vC3,vT3,vS3,vK3,lv3,wv3,w3,x3,c3,B3⟩:=K'K C L x2 B2 hg;unfold ptr at e3;refine f'f ?_;simp[D'U,Zfz,ZfA,ZfB,ZfC,ZfD,d0,d2,d7,d8,e2,e3];exact⟨n,by omega,by simp[d0],by simp[d2],none,0,S3,by simp[rv],by simp,λ_=>hans,by simp,_,_,_,_,_,_,_,x3,c12.trans c3,B3⟩
      ·rename_i S3 a3 hne hg
       obtain⟨g3,e3,vC3,vT3,vS3,vK3,lv3,wv3,w3,x3,c3,B3⟩:=K'K C L x2 B2 hg;unfold ptr at e3;simp only[l'a,l'd]at hans;obtain⟨rfl,rfl⟩:=hans;have hne':a3≠0:=λh0=>hne h0;refine f'f ?_;simp[D'U,Zfz,ZfA,ZfB,ZfC,ZfD,d0,d2,d7,d8,e2,e3];exact⟨n,by omega,by simp[d0],by simp[d2],none,a3,S3,by simp[rv],by simp,λh0=>absurd h0 hne',λ_=>⟨rfl,rfl⟩,_,_,_,_,_,_,_,x3,c12.trans c3,B3⟩
     | some k=>
      simp only at hans;simp only[rv]at e2;have ek:=E't k;split at hans
      ·simp at hans
      ·rename_i S3 hg
       obtain⟨g3,e3,vC3,vT3,vS3,vK3,lv3,wv3,w3,x3,c3,B3⟩:=I't C L x2 B2 hg;unfold ptr at e3;refine f'f ?_;simp[D'U,Zfz,ZfA,ZfB,ZfC,ZfE,ZfF,d0,d2,d7,d8,ek,e2,e3];exact⟨n,by omega,by simp[d0],by simp[d2],none,0,S3,by simp[rv],by simp,λ_=>hans,by simp,_,_,_,_,_,_,_,x3,c12.trans c3,B3⟩
      ·rename_i S3 a3 hne hg
       obtain⟨g3,e3,vC3,vT3,vS3,vK3,lv3,wv3,w3,x3,c3,B3⟩:=I't C L x2 B2 hg;unfold ptr at e3;simp only[l'a,l'd]at hans;obtain⟨rfl,rfl⟩:=hans;have hne':a3≠0:=λh0=>hne h0;refine f'f ?_;simp[D'U,Zfz,ZfA,ZfB,ZfC,ZfE,ZfF,d0,d2,d7,d8,ek,e2,e3];exact⟨n,by omega,by simp[d0],by simp[d2],none,a3,S3,by simp[rv],by simp,λh0=>absurd h0 hne',λ_=>⟨rfl,rfl⟩,_,_,_,_,_,_,_,x3,c12.trans c3,B3⟩
 ·obtain⟨rfl,rfl⟩:=hnz ha;have ha':((a1:Int)==0)=false:=by rw[l'A];omega
  refine f'f ?_;simp[D'U,Zfz,d0,d2,d7,d8,ha,ha'];exact⟨_,_,_,_,_,_,_,x1,c1,B1⟩
theorem N'c (C:LP' O ro c)(L:O.Law)(x:SQ O ro w h q S bW bH bV vA vC vT vS vK lv wv)(B:Bd S){tc:Tag}{vcl:Value}{vs:List Value}{cs:List (List Nat)}(X:Cs O ro w h tc vcl vs cs)(htc:¬K11 tc)(hcs:∀l∈cs,(∀a∈l,a<most)∧l.length<=most)(hcl:cs.length<=most){f n:Nat}{bud:Int}{S':Srch}{an:Nat}(hs:E'5 f n S cs bud=some (S',an)):
  ∃h',c 187 [ptr q,vcl,.int .i64 bud] h=some (ni an,h')∧AnQ O ro w h q bW bH bV vA S' h':=by
 unfold E'5 at hs;split at hs
 ·simp at hs
 rename_i S1 clash h1
 obtain⟨g1,e1,q1⟩:=S'Q C L x B X htc hcs hcl h1;have key:∃u h',c 187 [ptr q,vcl,.int .i64 bud] h=some (u,h')∧(u=ni an∧AnQ O ro w h q bW bH bV vA S' h'):=by
  refine C.fn (P'K O ro) rfl rfl ?_;unfold ptr at e1;unfold U'1;refine s'f ?_;simp[Zfw,A'c];refine s'f ?_;simp[Zfx,A'c,e1];refine s'f ?_;simp[Zfy,A'c];refine okE.seq (okE.blk ?_);refine okE.mono (okE.loop (Q:=λe t' g'=>A'j 0 e = .normal∧t' 8=ni an∧AnQ O ro w h q bW bH bV vA S' g') (AsI O ro w h q bW bH bV vA f bud S' an) (λn t g I=>K'M C L I) n _ _ ⟨by simp,by simp,clash,0,S1,by simp,by simp,λ_=>hs,by simp,q1⟩) ?_;rintro e t g ⟨hr,d8,hq⟩;rw[hr];simp only[A'c];refine f'f ?_;simp[ZfG,d8,A'1,A'i,rvE];exact hq
 obtain⟨u,h',e1,rfl,e2⟩:=key;exact⟨h',e1,e2⟩
structure SV (O:HI H) (ro:Nat)(w:Own)(h:H) (p s:Nat)(Z:Solv)(vE vcl vM vK:Value)(vs:List Value):Prop where
 m:Bx O ro w h (p,0) s [vE,vcl,vM,vK,ni Z.conflicts]
 sE:Sz O ro w h (p,1) 1 vE (Z.early.map Value.bool)
 sC:Cs O ro w h (p,2) vcl vs Z.clauses
 sM:Sm O ro w h (9,1) 1 vM (Z.model.map Value.bool)
 sK:Sm O ro w h (9,1) 1 vK (Z.core.map ni)
 lo:ro<=O.next h
theorem SV.ch (L:O.Law){K:Tag->Prop}{p s:Nat}{Z:Solv}{vE vcl vM vK:Value}{vs:List Value}(x:SV O ro w h p s Z vE vcl vM vK vs)(a:Ch O K w h w' h')(h9:∀i,¬K (9,i):=by simp)(hp:∀i,¬K (p,i):=by simp): SV O ro w' h' p s Z vE vcl vM vK vs:=
 ⟨x.m.ch L a (hp _),x.sE.ch L a (hp _),x.sC.ch L a (hp _) (h9 _),x.sM.ch L a (h9 _),x.sK.ch L a (h9 _),l'G x.lo a.nx⟩
def HaI (s:Nat)(h:H)(vl:Value)(l:List Nat)(n:Nat)(t:Env)(g:H): Prop:=
 g=h∧t 0 = .pointer (some ⟨s,0,none⟩)∧t 1=vl∧∃i,t 5=ni i∧i+n=l.length
theorem O't (C:LP' O ro c)(L:O.Law){p s:Nat}{Z:Solv}{vE vcl vM vK:Value}{vs:List Value}(x:SV O ro w h p s Z vE vcl vM vK vs)(hE:Z.early.length<=192){tl:Tag}{vl:Value}{l:List Nat}(hl:l.length<=most)(sl:Sm O ro w h tl 1 vl (l.map ni))(hh:E'6 Z.early.length l=true): c 157 [ptr s,vl] h=some (.bool true,h):=by
 have hm:most=1000000:=rfl;have m0:=x.m.get 0 _ rfl;obtain⟨aE,cE,hvE⟩:=x.sE.m.len (by omega) Z.early.length (by simp);rw[hvE]at m0;have key:∃u h',c 157 [ptr s,vl] h=some (u,h')∧(u = .bool true∧h'=h):=by
  refine C.fn (P'E O ro) rfl rfl ?_;unfold U'V;refine s'f ?_;simp[ZeB,A'c];refine okE.seq (s'f ?_);simp[ZeC,A'c];refine okE.blk ?_;refine okE.mono (okE.loop (Q:=λe t' g'=>A'j 0 e = .normal∧g'=h) (HaI s h vl l) ?_ l.length _ _ ⟨rfl,by simp,by simp,0,by simp,by omega⟩) ?_
  ·rintro n t g ⟨rfl,d0,d1,i,d5,hin⟩
   cases n with
   | zero=>
    obtain rfl:i=l.length:=by omega
    obtain⟨aL,cL,hvl⟩:=sl.len (by omega) l.length (by simp);rw[hvl]at d1;refine f'f ?_;simp[K'q,ZeD,d0,d1,d5]
   | succ n=>
    have hi:i<l.length:=by omega
    have hi':(i:Int)<l.length:=by omega
    obtain⟨bL,cp,e8,hcp,yl⟩:=sl.blk (by omega) l.length (by simp) (by omega);rw[e8]at d1;obtain⟨a,ha⟩:∃a,l[i]?=some a:=⟨_,l'c hi⟩;have hcell:O.cell g bL i=some (ni a):=by rw[yl.cell i (by simpa using hi)];simp[ha]
    have ham:a<2*Z.early.length:=by
     unfold E'6 at hh;rw[l'D]at hh;have:=hh a (l'f ha);simpa using this
    have hw2:IntKind.i64.wrap (2*(Z.early.length:Int))=((2*Z.early.length:Nat):Int):=w'i;obtain⟨z,hz⟩:=e' (2*Z.early.length);rw[<-hz]at hw2 ham;have hwi:=w'1 i;obtain⟨i',hi2⟩:=e' (i+1);rw[<-hi2]at hwi;have h1:¬(a:Int)<0:=by omega
    have h2:¬(z:Int)<=(a:Int):=by omega
    have h3:¬z<=a:=by omega
    refine f'f ?_;simp[K'q,ZeD,ZeE,ZeG,d0,d1,d5,hi,hi',hcell,h1,h2,h3,m0,hw2,hwi];exact⟨n,by omega,rfl,by simp[d0],by simp[d1,e8],i',by simp,by omega⟩
  ·rintro e t g ⟨hr,rfl⟩;rw[hr];simp only[A'c];refine f'f ?_;simp[ZeH,A'1,A'i,rvE]
 obtain⟨u,h',e1,rfl,rfl⟩:=key;exact e1
def AlJ (h:H)(vl:Value)(l:List Nat)(i:Nat)(n:Nat)(t:Env)(g:H): Prop:=
 g=h∧t 0=vl∧t 3=ni i∧∃j,t 4=ni j∧j+n=i∧∀j',j'<j->∀x y,l[i]?=some x->l[j']?=some y->y≠x ^^^ 1
def AlI (h:H)(vl:Value)(l:List Nat)(n:Nat)(t:Env)(g:H): Prop:=
 g=h∧t 0=vl∧∃i,t 3=ni i∧i+n=l.length∧∀i',i'<i->N'd l i'
theorem K'N (L:O.Law){tl:Tag}{vl:Value}{l:List Nat}(hl:l.length<=most)(hlm:∀a∈l,a<most)(sl:Sm O ro w h tl 1 vl (l.map ni)){i n:Nat}(hi:i<l.length){t:Env}{g:H}(I:AlJ h vl l i n t g):
  okE c (G'K O Tryz.prog ro) (t,g) (λe t' g'=>(e = .normal∧∃n',n'<n∧AlJ h vl l i n' t' g')∨(e≠.normal∧(g'=h∧(A'j 2 e = .ret∧t' 2 = .bool true∧B'Y l=true∨A'j 2 e = .normal∧t' 0=vl∧t' 3=ni i∧N'd l i)))):=by
 have hm:most=1000000:=rfl;obtain⟨rfl,d0,d3,j,d4,hjn,hno⟩:=I;have hi':(i:Int)<l.length:=by omega
 cases n with
 | zero=>
  obtain rfl:j=i:=by omega
  refine f'f ?_;simp[G'K,ZeW,d0,d3,d4];exact hno
 | succ n=>
  have hj:j<i:=by omega
  have hj':(j:Int)<i:=by omega
  have hjl:j<l.length:=by omega
  have hjl':(j:Int)<l.length:=by omega
  obtain⟨bL,cp,e8,hcp,yl⟩:=sl.blk (by omega) l.length (by simp) (by omega);have d0':=d0;rw[e8]at d0';obtain⟨a,ha⟩:∃a,l[i]?=some a:=⟨_,l'c hi⟩;obtain⟨b,hb⟩:∃b,l[j]?=some b:=⟨_,l'c hjl⟩;have ka:O.cell g bL i=some (ni a):=by rw[yl.cell i (by simpa using hi)];simp[ha]
  have kb:O.cell g bL j=some (ni b):=by rw[yl.cell j (by simpa using hjl)];simp[hb]
  have hxo:=B'P a (by have:=hlm a (l'f ha);omega);have hwj:=w'1 j;obtain⟨z,hz⟩:=e' (a ^^^ 1);rw[<-hz]at hxo;obtain⟨j2,hj2⟩:=e' (j+1);rw[<-hj2]at hwj
  by_cases he:b=z
  ·refine f'f ?_;simp[G'K,ZeW,ZeX,ZeY,d0',d3,d4,hj,hj',hjl,hjl',hi,hi',ka,kb,hxo,he];exact H'M hj ha hb (by rw[he,hz])
  ·have he':¬(b:Int)=(z:Int):=by omega
   have he2:((b:Int)==(z:Int))=false:=by rw[l'A];exact he'
   refine f'f ?_;simp[G'K,ZeW,ZeX,ZeZ,d0',d3,d4,hj,hj',hjl,hjl',hi,hi',ka,kb,hxo,he,he',he2,hwj];refine⟨n,by omega,rfl,by simp[d0',e8],by simp[d3],j2,by simp,by omega,?_⟩;intro j' hj' x y hx hy
   by_cases e:j'=j
   ·subst e;rw[ha]at hx;rw[hb]at hy;simp at hx hy;subst hx hy;rw[<-hz];exact he
   ·exact hno j' (by omega) x y hx hy
theorem N'e (C:LP' O ro c)(L:O.Law){tl:Tag}{vl:Value}{l:List Nat}(hl:l.length<=most)(hlm:∀a∈l,a<most)(sl:Sm O ro w h tl 1 vl (l.map ni)): c 159 [vl] h=some (.bool (B'Y l),h):=by
 have hm:most=1000000:=rfl;have key:∃u h',c 159 [vl] h=some (u,h')∧(u = .bool (B'Y l)∧h'=h):=by
  refine C.fn (P'G O ro) rfl rfl ?_;unfold U'X;refine s'f ?_;simp[ZeS,A'c];refine okE.seq (s'f ?_);simp[ZeT,A'c];refine okE.blk ?_;refine okE.mono (okE.loop (Q:=λe t' g'=>g'=h∧(A'j 0 e = .ret∧t' 2 = .bool true∧B'Y l=true∨A'j 0 e = .normal∧B'Y l=false)) (AlI h vl l) ?_ l.length _ _ ⟨rfl,by simp,0,by simp,by omega,by simp⟩) ?_
  ·rintro n t g ⟨rfl,d0,i,d3,hin,hno⟩;obtain⟨aL,cL,hvl⟩:=sl.len (by omega) l.length (by simp);have d0':=d0;rw[hvl]at d0'
   cases n with
   | zero=>
    obtain rfl:i=l.length:=by omega
    unfold K'r;refine s'f ?_;simp[ZeU,A'c,d0',d3];exact G'W hno
   | succ n=>
    have hi:i<l.length:=by omega
    have hi':(i:Int)<l.length:=by omega
    have hwi:=w'1 i;obtain⟨i',hi2⟩:=e' (i+1);rw[<-hi2]at hwi;unfold K'r;refine s'f ?_;simp[ZeU,A'c,d0',d3,hi,hi'];refine okE.seq (okE.blk (s'f ?_));simp[ZeV,A'c];refine okE.blk ?_;refine okE.mono (okE.loop (Q:=λe t' g'=>g'=g∧(A'j 2 e = .ret∧t' 2 = .bool true∧B'Y l=true∨A'j 2 e = .normal∧t' 0=vl∧t' 3=ni i∧N'd l i)) (AlJ g vl l i) (λn t g' I=>K'N L hl hlm sl hi I) i _ _ ⟨rfl,by simp[d0],by simp[d3],0,by simp,by omega,by simp⟩) ?_;rintro e t' g' ⟨rfl,hr⟩;rcases hr with ⟨hr,d2,hal⟩|⟨hr,e0,e3,hnh⟩
    ·rw[hr];simp[A'c,A'j,d2,hal]
    ·rw[hr];simp only[A'c,A'j];refine f'f ?_;simp[Ze0,e3,hwi];refine⟨n,by omega,rfl,by simp[e0],i',by simp,by omega,?_⟩;intro i2 hi3
     by_cases e:i2=i
     ·subst e;exact hnh
     ·exact hno i2 (by omega)
  ·rintro e t g ⟨rfl,hr⟩;rcases hr with ⟨hr,d2,hal⟩|⟨hr,hal⟩
   ·rw[hr];simp[A'c,A'1,A'i,rvE,d2,hal]
   ·rw[hr];simp only[A'c];refine f'f ?_;simp[Ze1,A'1,A'i,rvE,hal]
 obtain⟨u,h',e1,rfl,rfl⟩:=key;exact e1
end
end Go.Proofs.YtimdkminagnhgaaGreatDoor
