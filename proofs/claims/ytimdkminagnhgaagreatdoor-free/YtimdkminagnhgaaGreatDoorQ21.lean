import Derived.Test.YtimdkminagnhgaaGreatDoorQ20
set_option linter.all false
namespace Go.Ta
def NoHit (l:List Nat)(i:Nat): Prop:=∀j,j<i->∀x y,l[i]?=some x->l[j]?=some y->y≠x ^^^ 1
theorem always_false {l:List Nat}(h:∀i,i<l.length->NoHit l i): alwaysP l=false:=by
 rw[Bool.eq_false_iff];intro ha;unfold alwaysP at ha;rw[List.any_eq_true]at ha;obtain⟨⟨x,i⟩,hx,hy⟩:=ha;rw[List.any_eq_true]at hy;obtain⟨y,hy,he⟩:=hy;have hxi:=List.mem_zipIdx_iff_getElem?.1 hx;simp only at hxi;obtain⟨j,hj⟩:=l'i.1 hy;have hjl:=(l'b.1 hj).1;simp at hjl;rw[l'j (by omega)]at hj;exact h i (l'b.1 hxi).1 j (by omega) x y hxi hj (by simpa using he)
theorem always_true {l:List Nat}{i j x y:Nat}(hj:j<i)(hx:l[i]?=some x)(hy:l[j]?=some y)(he:y=x ^^^ 1): alwaysP l=true:=by
 unfold alwaysP;rw[List.any_eq_true];refine⟨(x,i),List.mem_zipIdx_iff_getElem?.2 hx,?_⟩;rw[List.any_eq_true];refine⟨y,l'i.2 ⟨j,by rw[l'j hj];exact hy⟩,by simpa using he⟩
end Go.Ta
namespace Go.Proofs.YtimdkminagnhgaaGreatDoor
open Go.Vm Go.Proofs Go.Ta
set_option maxHeartbeats 4000000
attribute [local simp] cSeq cReg reg to too onlyIf onlyIfo aMove mv' nl' fl' ld' ln' mk' ia' ik' ix' aNil aFld aLd aInt aPick aConv aUn unA ev upd_get isB envOf iA_add iA_sub iA_mul iA_eql iA_neq iA_lss iA_leq iA_gtr iA_geq cIf cRet cSkip okc_some aSt vc_int vc_bool vc_agg vc_str vc_ptr vc_sl ft_int ft_bool ft_str ft_ptr ft_sl tp_int tp_bool tp_agg tp_str tp_ptr tp_sl aBuild Instr.fill aCall cExit cBlk outOf ptr undef aNew aBox aIdxArr aLdN aShift aLenSl aIdx aMkSl aApp rangeA aExt aPtrNil aSlNil aBoolEq aMake aSliceSl boundA chk
section
variable {H:Type}{O:HI H}{ro:Nat}{c:CallT H}
variable {w w':Own}{h h':H}{q:Nat}{S:Srch}{bW bH bV:Nat}{vA vC vT vS vK:Value}{lv wv:List Value}
theorem bd_appC {S:Srch}(B:Bd S){y:Cl}(hy:y.Ok)(hlt:S.clauses.length<most): Bd { S with clauses:=S.clauses++[y] }:=
 ⟨λz hz=>by rcases l'E.1 hz with hz|hz;exact B.cls z hz;simp at hz;subst hz;exact hy,by simp;omega,B.nW,B.nH,B.nV,B.nS,B.nT,B.nA,B.nK,B.wl,B.tr,B.st,B.asm,B.vr,B.gv,B.dr,B.bo,B.me⟩
structure Cs (O:HI H) (ro:Nat)(w:Own)(h:H)(tc:Tag)(v:Value)(vs:List Value)(cs:List (List Nat)):Prop where
 s:Sm O ro w h tc 1 v vs
 l:vs.length=cs.length
 a:∀(i:Nat) l u,cs[i]?=some l->vs[i]?=some u->Sm O ro w h (9,0) 1 u (l.map ni)
theorem Cs.ch (L:O.Law){K:Tag->Prop}{tc:Tag}{v:Value}{vs:List Value}{cs:List (List Nat)}(x:Cs O ro w h tc v vs cs)(a:Ch O K w h w' h')(hk:¬K tc:=by simp)(h9:¬K (9,0):=by simp): Cs O ro w' h' tc v vs cs:=
 ⟨x.s.ch L a hk,x.l,λi l u h1 h2=>(x.a i l u h1 h2).ch L a h9⟩
def LdI (O:HI H)(ro:Nat)(w:Own)(h:H)(q bW bH bV:Nat)(vA vcl:Value)(cs:List (List Nat))(res:Srch×Option Nat)(n:Nat)(t:Env)(g:H): Prop:=
 t 0 = .pointer (some ⟨q,0,none⟩)∧t 1=vcl∧∃i clash S1 vC vT vS vK lv wv w1,t 6=ni i∧t 5=rv clash∧i+n=cs.length∧loadL (cs.drop i) i S1 clash=some res∧SQ O ro w1 g q S1 bW bH bV vA vC vT vS vK lv wv∧Ch O K11 w h w1 g∧Bd S1
theorem load1_q (C:LP' O ro c)(L:O.Law){tc:Tag}{vcl:Value}{vs:List Value}{cs:List (List Nat)}(X:Cs O ro w h tc vcl vs cs)(htc:¬K11 tc)(hcs:∀l∈cs,(∀a∈l,a<most)∧l.length<=most)(hcl:cs.length<=most){res:Srch×Option Nat}{n:Nat}{t:Env}{g:H}(I:LdI O ro w h q bW bH bV vA vcl cs res n t g):
  okE c (W199_0 O Tryz.prog ro) (t,g) (λe t' g'=>(e = .normal∧∃n',n'<n∧LdI O ro w h q bW bH bV vA vcl cs res n' t' g')∨(e≠.normal∧(outOf 0 e = .normal∧t' 0 = .pointer (some ⟨q,0,none⟩)∧t' 1=vcl∧t' 5=rv res.2∧AnQ O ro w h q bW bH bV vA res.1 g'))):=by
 have hm:most=1000000:=rfl;obtain⟨d0,d1,i,clash,S1,vC,vT,vS,vK,lv,wv,w1,d6,d5,hin,hld,x1,c1,B1⟩:=I;obtain⟨aL,cL,hvl⟩:=X.s.len (by omega) cs.length (by rw[X.l];simp)
 cases n with
 | zero=>
  obtain rfl:i=cs.length:=by omega
  simp only[List.drop_length,loadL,l'a]at hld;subst hld;rw[hvl]at d1;refine f'f ?_;simp[W199_0,ZgZ,d0,d1,d5,d6,hvl];exact⟨_,_,_,_,_,_,_,x1,c1,B1⟩
 | succ n=>
  have hi:i<cs.length:=by omega
  have hi':(i:Int)<cs.length:=by omega
  have Xg:=X.ch L c1 htc (by simp[K11]);obtain⟨bL,cp,e8,hcp,yl⟩:=Xg.s.blk (by omega) cs.length (by rw[X.l];simp) (by omega);obtain⟨l,hl⟩:∃l,cs[i]?=some l:=⟨_,l'c hi⟩;obtain⟨u,hu⟩:∃u,vs[i]?=some u:=⟨_,l'c (by rw[X.l];exact hi)⟩;have sl:=Xg.a i l u hl hu;have hcell:O.cell g bL i=some u:=by rw[yl.cell i (by rw[X.l];exact hi),hu]
  have hdrop:cs.drop i=l :: cs.drop (i+1):=by
   have:=(l'b.1 hl).2;rw[<-this];exact l's hi
  rw[hdrop]at hld;have d1':=d1;rw[e8]at d1';have hok:=hcs l (getElem?_mem hl);have hwi:=w'1 i;have him:i<2*most:=by omega
  obtain⟨i',hi2⟩:=e' (i+1);have m1:=x1.m.get 1 _ rfl;have rq:¬q<ro:=by have:=x1.m.lo;omega
  have hnH:=B1.nH;obtain⟨fl1,fl2,fl3⟩:=sl.flat;have hr4:List.range 4=[0,1,2,3]:=rfl
  match l,hld,sl,hok,hl,hdrop with
  | a :: b :: r,hld,sl,hok,hl,hdrop=>
   simp only[loadL]at hld;rw[<-hi2]at hwi hld;split at hld
   ·simp at hld
   rename_i S2 h2
   have ha:=hok.1 a (by simp);have hb:=hok.1 b (by simp);obtain⟨bl,cl,hul,hcl2,yu⟩:=sl.blk (by omega) (r.length+2) (by simp) (by omega);have ka:O.cell g bl 0=some (ni a):=by rw[yu.cell 0 (by simp)];rfl
   have kb:O.cell g bl 1=some (ni b):=by rw[yu.cell 1 (by simp)];rfl
   obtain⟨vC',wv',h',w',e2,x2,c2,B2⟩:=attach_q C L x1 B1 ⟨a :: b :: r,a,b,0⟩ ⟨hok.1,hok.2,ha,hb,by simp⟩ sl h2;unfold ptr at e2;subst hul;obtain⟨ll,hll⟩:=e' (r.length+2);rw[<-hll]at e2 hcell;have e2':c 207 [.pointer (some ⟨q,0,none⟩),.agg #[.slice (some ⟨bl,0,some 1⟩) ll cl,ni a,ni b,.int .i64 0]] g=some (.tuple #[],h'):=e2;have hl1:(1:Int)<ll:=by omega
   have hl2:1<ll:=by omega
   have hl3:(0:Int)<ll:=by omega
   have hl4:0<ll:=by omega
   have c12:=c1.trans c2;clear c1 c2 x1;refine f'f ?_;simp[W199_0,ZgZ,Zg0,Zg1,Zg2,Zg8,d0,d1',d5,d6,hi,hi',hcell,hl1,hl2,hl3,hl4,ka,kb,e2',hwi];exact⟨n,by omega,by simp[d0],by simp[d1',e8],i',clash,S2,vC',vT,vS,vK,_,wv',w',by simp,by simp[d5],by omega,hld,x2,c12,B2⟩
  | [a],hld,sl,hok,hl,hdrop=>
   simp only[loadL]at hld;rw[<-hi2]at hwi hld;split at hld
   ·rename_i hlt
    have ha:=hok.1 a (by simp);have hxo:=xor_one a (by omega);have hxm:=xor1_lt ha;obtain⟨z,hz⟩:=e' (a ^^^ 1);rw[<-hz]at hxo hxm hld;obtain⟨vC',h2,h3,w2,e2,p2,f2,g2,x2,c2⟩:=x1.appC L ⟨[a],0,0,0⟩ hlt sl;have B2:=bd_appC B1 (y:=⟨[a],0,0,0⟩) ⟨hok.1,hok.2,by show 0<most;omega,by show 0<most;omega,by simp⟩ hlt;have sl2:=sl.ch L c2 (by simp[K11]);obtain⟨bl,cl,hul,hcl2,yu⟩:=sl2.blk (by omega) 1 (by simp) (by omega);have ka:O.cell h3 bl 0=some (ni a):=by rw[yu.cell 0 (by simp)];rfl
    have n5:=x2.m.get 5 _ rfl;have c12:=c1.trans c2;subst hul
    cases hzh:S1.holds[z]? with
    | none=>rw[hzh]at hld;simp at hld
    | some bz=>
     cases hah:S1.holds[a]? with
     | none=>rw[hzh,hah]at hld;cases bz <;> simp at hld
     | some ba=>
      rw[hzh,hah]at hld;have lz:=(l'b.1 hzh).1;have lz':(z:Int)<S1.holds.length:=by omega
      have la:=(l'b.1 hah).1;have la':(a:Int)<S1.holds.length:=by omega
      have kz:=x2.getH z hzh;have kah:=x2.getH a hah;have e2':appI O ro 4 48 vC (.slice (some ⟨O.next g,0,some 4⟩) 1 2) (O.new g [.slice (some ⟨bl,0,some 1⟩) 1 cl,.int .i64 0,.int .i64 0,.int .i64 0])=some (vC',h2):=e2
      cases bz with
      | true=>
       simp only at hld;refine f'f ?_;clear c1 c2 x1;simp[W199_0,ZgZ,Zg0,Zg1,Zg3,Zg4,Zg5,Zg8,d0,d1',d5,d6,hi,hi',hcell,m1,hr4,e2',p2,f2,g2,rq,n5,ka,hxo,lz,lz',kz,hwi];exact⟨n,by omega,by simp[d0],by simp[d1',e8],i',some i,_,vC',vT,vS,vK,_,wv,w2,by simp,by simp[rv],by omega,hld,x2,c12,B2⟩
      | false=>
       cases ba with
       | true=>
        simp only at hld;refine f'f ?_;clear c1 c2 x1;simp[W199_0,ZgZ,Zg0,Zg1,Zg3,Zg4,Zg6,Zg8,d0,d1',d5,d6,hi,hi',hcell,m1,hr4,e2',p2,f2,g2,rq,n5,ka,hxo,lz,lz',kz,la,la',kah,hwi];exact⟨n,by omega,by simp[d0],by simp[d1',e8],i',clash,_,vC',vT,vS,vK,_,wv,w2,by simp,by simp[d5],by omega,hld,x2,c12,B2⟩
       | false=>
        simp only at hld;split at hld
        ·simp at hld
        rename_i S3 h3'
        obtain⟨vT4,g4,w4,e4,x4,c4⟩:=set_q C L x2 a (some i) h3' B2.nV B2.nH;have B4:=(setP_bd h3' B2 (by intro k hk;simp at hk;omega)).1;unfold ptr at e4;simp only[rv]at e4;refine f'f ?_;clear c1 c2 x1;simp[W199_0,ZgZ,Zg0,Zg1,Zg3,Zg4,Zg6,Zg7,Zg8,d0,d1',d5,d6,hi,hi',hcell,m1,hr4,e2',p2,f2,g2,rq,n5,ka,hxo,lz,lz',kz,la,la',kah,hwi,e4];exact⟨n,by omega,by simp[d0],by simp[d1',e8],i',clash,_,vC',vT4,vS,vK,_,wv,w4,by simp,by simp[d5],by omega,hld,x4,c12.trans c4,B4⟩
   ·simp at hld
  | [],hld,sl,hok,hl,hdrop=>
   simp only[loadL]at hld;rw[<-hi2]at hwi hld;split at hld
   ·rename_i hlt
    obtain⟨vC',h2,h3,w2,e2,p2,f2,g2,x2,c2⟩:=x1.appC L ⟨[],0,0,0⟩ hlt sl;have B2:=bd_appC B1 (y:=⟨[],0,0,0⟩) ⟨by simp,by simp,by show 0<most;omega,by show 0<most;omega,by simp⟩ hlt;obtain⟨au,cu,hul⟩:=sl.len (by omega) 0 (by simp);have c12:=c1.trans c2;subst hul;have e2':appI O ro 4 48 vC (.slice (some ⟨O.next g,0,some 4⟩) 1 2) (O.new g [.slice au 0 cu,.int .i64 0,.int .i64 0,.int .i64 0])=some (vC',h2):=e2;refine f'f ?_;clear c1 c2 x1;simp[W199_0,ZgZ,Zg0,Zg1,Zg3,Zg4,Zg5,Zg8,d0,d1',d5,d6,hi,hi',hcell,m1,hr4,e2',p2,f2,g2,rq,hwi];exact⟨n,by omega,by simp[d0],by simp[d1',e8],i',some i,_,vC',vT,vS,vK,_,wv,w2,by simp,by simp[rv],by omega,hld,x2,c12,B2⟩
   ·simp at hld
theorem load_q (C:LP' O ro c)(L:O.Law)(x:SQ O ro w h q S bW bH bV vA vC vT vS vK lv wv)(B:Bd S){tc:Tag}{vcl:Value}{vs:List Value}{cs:List (List Nat)}(X:Cs O ro w h tc vcl vs cs)(htc:¬K11 tc)(hcs:∀l∈cs,(∀a∈l,a<most)∧l.length<=most)(hcl:cs.length<=most){S':Srch}{clash:Option Nat}(hs:loadP S cs=some (S',clash)):
  ∃h',c 199 [ptr q,vcl] h=some (rv clash,h')∧AnQ O ro w h q bW bH bV vA S' h':=by
 have hm:most=1000000:=rfl;unfold loadP at hs;split at hs
 ·simp at hs
 rename_i S1 cl1 h1
 simp only[l'a,l'd]at hs;obtain⟨rfl,rfl⟩:=hs;have key:∃u h',c 199 [ptr q,vcl] h=some (u,h')∧(u=rv cl1∧AnQ O ro w h q bW bH bV vA { S1 with given:=cs.length } h'):=by
  refine C.fn (F199_fn O ro) rfl rfl ?_;unfold F199;refine s'f ?_;simp[ZgW,thenE];refine s'f ?_;simp[ZgX,thenE];refine okE.seq (s'f ?_);simp[ZgY,thenE];refine okE.blk ?_;refine okE.mono (okE.loop (Q:=λe t' g'=>outOf 0 e = .normal∧t' 0 = .pointer (some ⟨q,0,none⟩)∧t' 1=vcl∧t' 5=rv cl1∧AnQ O ro w h q bW bH bV vA S1 g') (LdI O ro w h q bW bH bV vA vcl cs (S1,cl1)) (λn t g I=>load1_q C L X htc hcs hcl I) cs.length _ _ ⟨by simp,by simp,0,none,S,vC,vT,vS,vK,lv,wv,w,by simp,by simp[rv],by omega,by simpa using h1,x,Ch.refl _ _ _,B⟩) ?_;rintro e t g ⟨hr,d0,d1,d5,vC1,vT1,vS1,vK1,lv1,wv1,w1,x1,c1,B1⟩;rw[hr];simp only[thenE];obtain⟨aL,cL,hvl⟩:=X.s.len (by omega) cs.length (by rw[X.l];simp);have rq:¬q<ro:=by have:=x1.m.lo;omega
  obtain⟨h2,p2,x2,c2⟩:=x1.fld L 2 (by omega) (ni cs.length) (g:=cs.length) (d:=S1.drawn) (b:=S1.bonus) (m:=S1.met) rfl;have B2:Bd { S1 with given:=cs.length }:=⟨B1.cls,B1.nC,B1.nW,B1.nH,B1.nV,B1.nS,B1.nT,B1.nA,B1.nK,B1.wl,B1.tr,B1.st,B1.asm,B1.vr,hcl,B1.dr,B1.bo,B1.me⟩;rw[hvl]at d1;have ht:=rv_tup cl1;refine f'f ?_;simp[Zg9,Zha,d0,d1,d5,rq,p2,resE,resLE,rvE,ht];exact⟨_,_,_,_,_,_,_,x2,c1.trans c2,B2⟩
 obtain⟨u,h',e1,rfl,e2⟩:=key;exact⟨h',e1,e2⟩
def AsI (O:HI H)(ro:Nat)(w:Own)(h:H)(q bW bH bV:Nat)(vA:Value)(f:Nat)(bud:Int)(S':Srch)(an:Nat)(n:Nat)(t:Env)(g:H): Prop:=
 t 0 = .pointer (some ⟨q,0,none⟩)∧t 2 = .int .i64 bud∧∃clash a1 S1,t 7=rv clash∧t 8=ni a1∧(a1=0->answerL f bud n S1 clash=some (S',an))∧(a1≠0->a1=an∧S1=S')∧AnQ O ro w h q bW bH bV vA S1 g
theorem answer1_q (C:LP' O ro c)(L:O.Law){f:Nat}{bud:Int}{S':Srch}{an n:Nat}{t:Env}{g:H}(I:AsI O ro w h q bW bH bV vA f bud S' an n t g):
  okE c (W187_0 O Tryz.prog ro) (t,g) (λe t' g'=>(e = .normal∧∃n',n'<n∧AsI O ro w h q bW bH bV vA f bud S' an n' t' g')∨(e≠.normal∧(outOf 0 e = .normal∧t' 8=ni an∧AnQ O ro w h q bW bH bV vA S' g'))):=by
 obtain⟨d0,d2,clash,a1,S1,d7,d8,hz,hnz,vC,vT,vS,vK,lv,wv,w1,x1,c1,B1⟩:=I
 by_cases ha:a1=0
 ·have hans:=hz ha;subst ha
  cases n with
  | zero=>simp[answerL]at hans
  | succ n=>
   simp only[answerL]at hans
   cases clash with
   | some k=>
    simp only at hans;simp only[rv]at d7;have ek:=rv_eq1 k;split at hans
    ·simp at hans
    ·rename_i S2 hmt
     obtain⟨g2,e2,vC2,vT2,vS2,vK2,lv2,wv2,w2,x2,c2,B2⟩:=meet_q C L x1 B1 hmt;unfold ptr at e2;refine f'f ?_;simp[W187_0,ZgH,ZgI,ZgK,ZgM,ZgN,d0,d2,d7,d8,ek,e2];exact⟨n,by omega,by simp[d0],by simp[d2],none,0,S2,by simp[rv],by simp,λ_=>hans,by simp,_,_,_,_,_,_,_,x2,c1.trans c2,B2⟩
    ·rename_i S2 a2 hne hmt
     obtain⟨g2,e2,vC2,vT2,vS2,vK2,lv2,wv2,w2,x2,c2,B2⟩:=meet_q C L x1 B1 hmt;unfold ptr at e2;simp only[l'a,l'd]at hans;obtain⟨rfl,rfl⟩:=hans;have hne':a2≠0:=λh0=>hne h0;refine f'f ?_;simp[W187_0,ZgH,ZgI,ZgK,ZgM,ZgN,d0,d2,d7,d8,ek,e2];exact⟨n,by omega,by simp[d0],by simp[d2],none,a2,S2,by simp[rv],by simp,λh0=>absurd h0 hne',λ_=>⟨rfl,rfl⟩,_,_,_,_,_,_,_,x2,c1.trans c2,B2⟩
   | none=>
    simp only at hans;simp only[rv]at d7
    cases hdr:drawP f S1 with
    | none=>rw[hdr]at hans;simp at hans
    | some p=>
     obtain⟨S2,cl2⟩:=p;rw[hdr]at hans;obtain⟨vT2,wv2,g2,w2,e2,x2,c2,B2⟩:=draw_q C L x1 B1 f hdr;unfold ptr at e2;have c12:=c1.trans c2
     cases cl2 with
     | none=>
      simp only at hans;simp only[rv]at e2;split at hans
      ·simp at hans
      ·rename_i S3 hg
       obtain⟨g3,e3,vC3,vT3,vS3,vK3,lv3,wv3,w3,x3,c3,B3⟩:=guess_q C L x2 B2 hg;unfold ptr at e3;refine f'f ?_;simp[W187_0,ZgH,ZgI,ZgJ,ZgK,ZgL,d0,d2,d7,d8,e2,e3];exact⟨n,by omega,by simp[d0],by simp[d2],none,0,S3,by simp[rv],by simp,λ_=>hans,by simp,_,_,_,_,_,_,_,x3,c12.trans c3,B3⟩
      ·rename_i S3 a3 hne hg
       obtain⟨g3,e3,vC3,vT3,vS3,vK3,lv3,wv3,w3,x3,c3,B3⟩:=guess_q C L x2 B2 hg;unfold ptr at e3;simp only[l'a,l'd]at hans;obtain⟨rfl,rfl⟩:=hans;have hne':a3≠0:=λh0=>hne h0;refine f'f ?_;simp[W187_0,ZgH,ZgI,ZgJ,ZgK,ZgL,d0,d2,d7,d8,e2,e3];exact⟨n,by omega,by simp[d0],by simp[d2],none,a3,S3,by simp[rv],by simp,λh0=>absurd h0 hne',λ_=>⟨rfl,rfl⟩,_,_,_,_,_,_,_,x3,c12.trans c3,B3⟩
     | some k=>
      simp only at hans;simp only[rv]at e2;have ek:=rv_eq1 k;split at hans
      ·simp at hans
      ·rename_i S3 hg
       obtain⟨g3,e3,vC3,vT3,vS3,vK3,lv3,wv3,w3,x3,c3,B3⟩:=meet_q C L x2 B2 hg;unfold ptr at e3;refine f'f ?_;simp[W187_0,ZgH,ZgI,ZgJ,ZgK,ZgM,ZgN,d0,d2,d7,d8,ek,e2,e3];exact⟨n,by omega,by simp[d0],by simp[d2],none,0,S3,by simp[rv],by simp,λ_=>hans,by simp,_,_,_,_,_,_,_,x3,c12.trans c3,B3⟩
      ·rename_i S3 a3 hne hg
       obtain⟨g3,e3,vC3,vT3,vS3,vK3,lv3,wv3,w3,x3,c3,B3⟩:=meet_q C L x2 B2 hg;unfold ptr at e3;simp only[l'a,l'd]at hans;obtain⟨rfl,rfl⟩:=hans;have hne':a3≠0:=λh0=>hne h0;refine f'f ?_;simp[W187_0,ZgH,ZgI,ZgJ,ZgK,ZgM,ZgN,d0,d2,d7,d8,ek,e2,e3];exact⟨n,by omega,by simp[d0],by simp[d2],none,a3,S3,by simp[rv],by simp,λh0=>absurd h0 hne',λ_=>⟨rfl,rfl⟩,_,_,_,_,_,_,_,x3,c12.trans c3,B3⟩
 ·obtain⟨rfl,rfl⟩:=hnz ha;have ha':((a1:Int)==0)=false:=by rw[l'A];omega
  refine f'f ?_;simp[W187_0,ZgH,d0,d2,d7,d8,ha,ha'];exact⟨_,_,_,_,_,_,_,x1,c1,B1⟩
theorem answer_q (C:LP' O ro c)(L:O.Law)(x:SQ O ro w h q S bW bH bV vA vC vT vS vK lv wv)(B:Bd S){tc:Tag}{vcl:Value}{vs:List Value}{cs:List (List Nat)}(X:Cs O ro w h tc vcl vs cs)(htc:¬K11 tc)(hcs:∀l∈cs,(∀a∈l,a<most)∧l.length<=most)(hcl:cs.length<=most){f n:Nat}{bud:Int}{S':Srch}{an:Nat}(hs:answerP f n S cs bud=some (S',an)):
  ∃h',c 187 [ptr q,vcl,.int .i64 bud] h=some (ni an,h')∧AnQ O ro w h q bW bH bV vA S' h':=by
 unfold answerP at hs;split at hs
 ·simp at hs
 rename_i S1 clash h1
 obtain⟨g1,e1,q1⟩:=load_q C L x B X htc hcs hcl h1;have key:∃u h',c 187 [ptr q,vcl,.int .i64 bud] h=some (u,h')∧(u=ni an∧AnQ O ro w h q bW bH bV vA S' h'):=by
  refine C.fn (F187_fn O ro) rfl rfl ?_;unfold ptr at e1;unfold F187;refine s'f ?_;simp[ZgE,thenE];refine s'f ?_;simp[ZgF,thenE,e1];refine s'f ?_;simp[ZgG,thenE];refine okE.seq (okE.blk ?_);refine okE.mono (okE.loop (Q:=λe t' g'=>outOf 0 e = .normal∧t' 8=ni an∧AnQ O ro w h q bW bH bV vA S' g') (AsI O ro w h q bW bH bV vA f bud S' an) (λn t g I=>answer1_q C L I) n _ _ ⟨by simp,by simp,clash,0,S1,by simp,by simp,λ_=>hs,by simp,q1⟩) ?_;rintro e t g ⟨hr,d8,hq⟩;rw[hr];simp only[thenE];refine f'f ?_;simp[ZgO,d8,resE,resLE,rvE];exact hq
 obtain⟨u,h',e1,rfl,e2⟩:=key;exact⟨h',e1,e2⟩
structure SV (O:HI H) (ro:Nat)(w:Own)(h:H) (p s:Nat)(Z:Solv)(vE vcl vM vK:Value)(vs:List Value):Prop where
 m:Bx O ro w h (p,0) s [vE,vcl,vM,vK,ni Z.conflicts]
 sE:Sz O ro w h (p,1) 1 vE (Z.early.map Value.bool)
 sC:Cs O ro w h (p,2) vcl vs Z.clauses
 sM:Sm O ro w h (9,1) 1 vM (Z.model.map Value.bool)
 sK:Sm O ro w h (9,1) 1 vK (Z.core.map ni)
 lo:ro<=O.next h
theorem SV.ch (L:O.Law){K:Tag->Prop}{p s:Nat}{Z:Solv}{vE vcl vM vK:Value}{vs:List Value}(x:SV O ro w h p s Z vE vcl vM vK vs)(a:Ch O K w h w' h')(h9:∀i,¬K (9,i):=by simp)(hp:∀i,¬K (p,i):=by simp): SV O ro w' h' p s Z vE vcl vM vK vs:=
 ⟨x.m.ch L a (hp _),x.sE.ch L a (hp _),x.sC.ch L a (hp _) (h9 _),x.sM.ch L a (h9 _),x.sK.ch L a (h9 _),l'G x.lo a.nx⟩
def HaI (s:Nat)(h:H)(vl:Value)(l:List Nat)(n:Nat)(t:Env)(g:H): Prop:=
 g=h∧t 0 = .pointer (some ⟨s,0,none⟩)∧t 1=vl∧∃i,t 5=ni i∧i+n=l.length
theorem have_q (C:LP' O ro c)(L:O.Law){p s:Nat}{Z:Solv}{vE vcl vM vK:Value}{vs:List Value}(x:SV O ro w h p s Z vE vcl vM vK vs)(hE:Z.early.length<=192){tl:Tag}{vl:Value}{l:List Nat}(hl:l.length<=most)(sl:Sm O ro w h tl 1 vl (l.map ni))(hh:haveP Z.early.length l=true): c 157 [ptr s,vl] h=some (.bool true,h):=by
 have hm:most=1000000:=rfl;have m0:=x.m.get 0 _ rfl;obtain⟨aE,cE,hvE⟩:=x.sE.m.len (by omega) Z.early.length (by simp);rw[hvE]at m0;have key:∃u h',c 157 [ptr s,vl] h=some (u,h')∧(u = .bool true∧h'=h):=by
  refine C.fn (F157_fn O ro) rfl rfl ?_;unfold F157;refine s'f ?_;simp[ZfJ,thenE];refine okE.seq (s'f ?_);simp[ZfK,thenE];refine okE.blk ?_;refine okE.mono (okE.loop (Q:=λe t' g'=>outOf 0 e = .normal∧g'=h) (HaI s h vl l) ?_ l.length _ _ ⟨rfl,by simp,by simp,0,by simp,by omega⟩) ?_
  ·rintro n t g ⟨rfl,d0,d1,i,d5,hin⟩
   cases n with
   | zero=>
    obtain rfl:i=l.length:=by omega
    obtain⟨aL,cL,hvl⟩:=sl.len (by omega) l.length (by simp);rw[hvl]at d1;refine f'f ?_;simp[W157_0,ZfL,d0,d1,d5]
   | succ n=>
    have hi:i<l.length:=by omega
    have hi':(i:Int)<l.length:=by omega
    obtain⟨bL,cp,e8,hcp,yl⟩:=sl.blk (by omega) l.length (by simp) (by omega);rw[e8]at d1;obtain⟨a,ha⟩:∃a,l[i]?=some a:=⟨_,l'c hi⟩;have hcell:O.cell g bL i=some (ni a):=by rw[yl.cell i (by simpa using hi)];simp[ha]
    have ham:a<2*Z.early.length:=by
     unfold haveP at hh;rw[l'D]at hh;have:=hh a (l'f ha);simpa using this
    have hw2:IntKind.i64.wrap (2*(Z.early.length:Int))=((2*Z.early.length:Nat):Int):=w'i;obtain⟨z,hz⟩:=e' (2*Z.early.length);rw[<-hz]at hw2 ham;have hwi:=w'1 i;obtain⟨i',hi2⟩:=e' (i+1);rw[<-hi2]at hwi;have h1:¬(a:Int)<0:=by omega
    have h2:¬(z:Int)<=(a:Int):=by omega
    have h3:¬z<=a:=by omega
    refine f'f ?_;simp[W157_0,ZfL,ZfM,ZfO,d0,d1,d5,hi,hi',hcell,h1,h2,h3,m0,hw2,hwi];exact⟨n,by omega,rfl,by simp[d0],by simp[d1,e8],i',by simp,by omega⟩
  ·rintro e t g ⟨hr,rfl⟩;rw[hr];simp only[thenE];refine f'f ?_;simp[ZfP,resE,resLE,rvE]
 obtain⟨u,h',e1,rfl,rfl⟩:=key;exact e1
def AlJ (h:H)(vl:Value)(l:List Nat)(i:Nat)(n:Nat)(t:Env)(g:H): Prop:=
 g=h∧t 0=vl∧t 3=ni i∧∃j,t 4=ni j∧j+n=i∧∀j',j'<j->∀x y,l[i]?=some x->l[j']?=some y->y≠x ^^^ 1
def AlI (h:H)(vl:Value)(l:List Nat)(n:Nat)(t:Env)(g:H): Prop:=
 g=h∧t 0=vl∧∃i,t 3=ni i∧i+n=l.length∧∀i',i'<i->NoHit l i'
theorem always1_q (L:O.Law){tl:Tag}{vl:Value}{l:List Nat}(hl:l.length<=most)(hlm:∀a∈l,a<most)(sl:Sm O ro w h tl 1 vl (l.map ni)){i n:Nat}(hi:i<l.length){t:Env}{g:H}(I:AlJ h vl l i n t g):
  okE c (W159_0 O Tryz.prog ro) (t,g) (λe t' g'=>(e = .normal∧∃n',n'<n∧AlJ h vl l i n' t' g')∨(e≠.normal∧(g'=h∧(outOf 2 e = .ret∧t' 2 = .bool true∧alwaysP l=true∨outOf 2 e = .normal∧t' 0=vl∧t' 3=ni i∧NoHit l i)))):=by
 have hm:most=1000000:=rfl;obtain⟨rfl,d0,d3,j,d4,hjn,hno⟩:=I;have hi':(i:Int)<l.length:=by omega
 cases n with
 | zero=>
  obtain rfl:j=i:=by omega
  refine f'f ?_;simp[W159_0,Zf4,d0,d3,d4];exact hno
 | succ n=>
  have hj:j<i:=by omega
  have hj':(j:Int)<i:=by omega
  have hjl:j<l.length:=by omega
  have hjl':(j:Int)<l.length:=by omega
  obtain⟨bL,cp,e8,hcp,yl⟩:=sl.blk (by omega) l.length (by simp) (by omega);have d0':=d0;rw[e8]at d0';obtain⟨a,ha⟩:∃a,l[i]?=some a:=⟨_,l'c hi⟩;obtain⟨b,hb⟩:∃b,l[j]?=some b:=⟨_,l'c hjl⟩;have ka:O.cell g bL i=some (ni a):=by rw[yl.cell i (by simpa using hi)];simp[ha]
  have kb:O.cell g bL j=some (ni b):=by rw[yl.cell j (by simpa using hjl)];simp[hb]
  have hxo:=xor_one a (by have:=hlm a (l'f ha);omega);have hwj:=w'1 j;obtain⟨z,hz⟩:=e' (a ^^^ 1);rw[<-hz]at hxo;obtain⟨j2,hj2⟩:=e' (j+1);rw[<-hj2]at hwj
  by_cases he:b=z
  ·refine f'f ?_;simp[W159_0,Zf4,Zf5,Zf6,d0',d3,d4,hj,hj',hjl,hjl',hi,hi',ka,kb,hxo,he];exact always_true hj ha hb (by rw[he,hz])
  ·have he':¬(b:Int)=(z:Int):=by omega
   have he2:((b:Int)==(z:Int))=false:=by rw[l'A];exact he'
   refine f'f ?_;simp[W159_0,Zf4,Zf5,Zf7,d0',d3,d4,hj,hj',hjl,hjl',hi,hi',ka,kb,hxo,he,he',he2,hwj];refine⟨n,by omega,rfl,by simp[d0',e8],by simp[d3],j2,by simp,by omega,?_⟩;intro j' hj' x y hx hy
   by_cases e:j'=j
   ·subst e;rw[ha]at hx;rw[hb]at hy;simp at hx hy;subst hx hy;rw[<-hz];exact he
   ·exact hno j' (by omega) x y hx hy
theorem always_q (C:LP' O ro c)(L:O.Law){tl:Tag}{vl:Value}{l:List Nat}(hl:l.length<=most)(hlm:∀a∈l,a<most)(sl:Sm O ro w h tl 1 vl (l.map ni)): c 159 [vl] h=some (.bool (alwaysP l),h):=by
 have hm:most=1000000:=rfl;have key:∃u h',c 159 [vl] h=some (u,h')∧(u = .bool (alwaysP l)∧h'=h):=by
  refine C.fn (F159_fn O ro) rfl rfl ?_;unfold F159;refine s'f ?_;simp[Zf0,thenE];refine okE.seq (s'f ?_);simp[Zf1,thenE];refine okE.blk ?_;refine okE.mono (okE.loop (Q:=λe t' g'=>g'=h∧(outOf 0 e = .ret∧t' 2 = .bool true∧alwaysP l=true∨outOf 0 e = .normal∧alwaysP l=false)) (AlI h vl l) ?_ l.length _ _ ⟨rfl,by simp,0,by simp,by omega,by simp⟩) ?_
  ·rintro n t g ⟨rfl,d0,i,d3,hin,hno⟩;obtain⟨aL,cL,hvl⟩:=sl.len (by omega) l.length (by simp);have d0':=d0;rw[hvl]at d0'
   cases n with
   | zero=>
    obtain rfl:i=l.length:=by omega
    unfold W159_1;refine s'f ?_;simp[Zf2,thenE,d0',d3];exact always_false hno
   | succ n=>
    have hi:i<l.length:=by omega
    have hi':(i:Int)<l.length:=by omega
    have hwi:=w'1 i;obtain⟨i',hi2⟩:=e' (i+1);rw[<-hi2]at hwi;unfold W159_1;refine s'f ?_;simp[Zf2,thenE,d0',d3,hi,hi'];refine okE.seq (okE.blk (s'f ?_));simp[Zf3,thenE];refine okE.blk ?_;refine okE.mono (okE.loop (Q:=λe t' g'=>g'=g∧(outOf 2 e = .ret∧t' 2 = .bool true∧alwaysP l=true∨outOf 2 e = .normal∧t' 0=vl∧t' 3=ni i∧NoHit l i)) (AlJ g vl l i) (λn t g' I=>always1_q L hl hlm sl hi I) i _ _ ⟨rfl,by simp[d0],by simp[d3],0,by simp,by omega,by simp⟩) ?_;rintro e t' g' ⟨rfl,hr⟩;rcases hr with ⟨hr,d2,hal⟩|⟨hr,e0,e3,hnh⟩
    ·rw[hr];simp[thenE,outOf,d2,hal]
    ·rw[hr];simp only[thenE,outOf];refine f'f ?_;simp[Zf8,e3,hwi];refine⟨n,by omega,rfl,by simp[e0],i',by simp,by omega,?_⟩;intro i2 hi3
     by_cases e:i2=i
     ·subst e;exact hnh
     ·exact hno i2 (by omega)
  ·rintro e t g ⟨rfl,hr⟩;rcases hr with ⟨hr,d2,hal⟩|⟨hr,hal⟩
   ·rw[hr];simp[thenE,resE,resLE,rvE,d2,hal]
   ·rw[hr];simp only[thenE];refine f'f ?_;simp[Zf9,resE,resLE,rvE,hal]
 obtain⟨u,h',e1,rfl,rfl⟩:=key;exact e1
theorem rangeA1 (v:Value)(n:Nat): Vm.rangeA #[v] n=List.replicate n v:=by
 unfold Vm.rangeA;apply List.ext_getElem
 ·simp
 ·intro i h1 h2;simp[Nat.mod_one]
theorem rangeA5 (a b d e f:Value)(n:Nat): Vm.rangeA #[a,b,d,e,f] (n*5)=(List.replicate n ()).flatMap λ_=>[a,b,d,e,f]:=by
 unfold Vm.rangeA
 induction n with
 | zero=>rfl
 | succ n ih=>
  rw[Nat.succ_mul,List.range_add,List.map_append,ih,List.replicate_succ',List.flatMap_append];congr 1;have hr:List.range 5=[0,1,2,3,4]:=rfl;rw[hr];simp only[l'J,l'K,List.flatMap_cons,List.flatMap_nil,List.append_nil];have h5:(#[a,b,d,e,f]:Array Value).size=5:=rfl;rw[h5];have e0:(n*5+0)%5=0:=by omega
  have e1:(n*5+1)%5=1:=by omega
  have e2:(n*5+2)%5=2:=by omega
  have e3:(n*5+3)%5=3:=by omega
  have e4:(n*5+4)%5=4:=by omega
  rw[e0,e1,e2,e3,e4];rfl
theorem fresh_big (w:Own)(n:Nat): ∃m:Nat,∀b,b<n->(w b).2<m:=by
 induction n with
 | zero=>exact⟨0,λb hb=>by omega⟩
 | succ n ih=>
  obtain⟨m,hm⟩:=ih;refine⟨max m ((w n).2+1),λb hb=>?_⟩
  by_cases e:b=n
  ·subst e;omega
  ·have:=hm b (by omega);omega
def seenL (n:Nat)(acc:List Nat): List Bool:=(List.range n).map λa=>decide (a∈acc)
theorem seenL_get {n a:Nat}(acc:List Nat)(ha:a<n): (seenL n acc)[a]?=some (decide (a∈acc)):=by
 simp[seenL,ha]
theorem seenL_set {n a:Nat}(acc:List Nat)(ha:a<n): (seenL n acc).set a true=seenL n (acc++[a]):=by
 apply List.ext_getElem
 ·simp[seenL]
 ·intro i h1 h2;rw[List.getElem_set];simp only[seenL,List.getElem_map,List.getElem_range,l'E,l'm]
  by_cases e:a=i
  ·subst e;simp
  ·have e':¬i=a:=λh=>e h.symm;simp[e,e']
theorem seenL_nil (n:Nat): (seenL n []).map Value.bool=List.replicate n (.bool false):=by
 apply List.ext_getElem
 ·simp[seenL]
 ·intro i h1 h2;simp[seenL]
def DiI (O:HI H)(ro:Nat)(w:Own)(h:H)(s N k0:Nat)(vl:Value)(l res:List Nat)(n:Nat)(t:Env)(g:H): Prop:=
 t 0 = .pointer (some ⟨s,0,none⟩)∧t 1=vl∧∃i bs v acc w1,t 5 = .slice (some ⟨bs,0,some 1⟩) N (N+1)∧t 6=v∧t 7=ni i∧i+n=l.length∧distL (l.drop i) acc=res∧acc.length<=i∧(∀a∈acc,a<most)∧Bx O ro w1 g (14,k0) bs ((seenL N acc).map Value.bool)∧Sm O ro w1 g (14,k0+1) 1 v (acc.map ni)∧Ch O (λ_=>False) w h w1 g∧ro<=O.next g
def DiQ (O:HI H)(ro:Nat)(w:Own)(h:H)(k0:Nat)(res:List Nat)(v:Value)(g:H): Prop:=
 ∃w1,Sm O ro w1 g (14,k0+1) 1 v (res.map ni)∧Ch O (λ_=>False) w h w1 g∧ro<=O.next g∧res.length<=most∧(∀a∈res,a<most)
theorem Ch.own {k:Nat}{t:Tag}(a:Ch O (λ_=>False) w h w' h'){w2:Own}{h2:H}(b:Ch O (λu=>u=t) w' h' w2 h2)(hk:∀b,b<O.next h->w b≠t): Ch O (λ_=>False) w h w2 h2:=by
 refine⟨l'G a.nx b.nx,λx hx=>?_,λx hx _=>?_⟩
 ·rw[b.ow x (Nat.lt_of_lt_of_le hx a.nx),a.ow x hx]
 ·have q1:=a.fr x hx (by simp);have q2:=b.fr x (Nat.lt_of_lt_of_le hx a.nx) (by rw[a.ow x hx];exact hk x hx);exact⟨λo=>by rw[q2.1,q1.1],by rw[q2.2,q1.2]⟩
theorem dist1_q (C:LP' O ro c)(L:O.Law){s N k0:Nat}(hk:∀b,b<O.next h->(w b).2<k0){tl:Tag}{vl:Value}{l res:List Nat}(hl:l.length<=most)(hlm:∀a∈l,a<N)(hN:N<=384)(sl:Sm O ro w h tl 1 vl (l.map ni)){n:Nat}{t:Env}{g:H}(I:DiI O ro w h s N k0 vl l res n t g):
  okE c (W158_0 O Tryz.prog ro) (t,g) (λe t' g'=>(e = .normal∧∃n',n'<n∧DiI O ro w h s N k0 vl l res n' t' g')∨(e≠.normal∧(outOf 0 e = .normal∧DiQ O ro w h k0 res (t' 6) g'))):=by
 have hm:most=1000000:=rfl;have hk0:∀b,b<O.next h->w b≠((14,k0):Tag):=λb hb e=>by have:=hk b hb;rw[e]at this;simp at this
 have hk1:∀b,b<O.next h->w b≠((14,k0+1):Tag):=λb hb e=>by have:=hk b hb;rw[e]at this;simp at this;omega
 obtain⟨d0,d1,i,bs,v,acc,w1,d5,d6,d7,hin,hdl,hal,ham,xs,sa,c1,lo⟩:=I;have slg:=sl.ch L c1
 cases n with
 | zero=>
  obtain rfl:i=l.length:=by omega
  simp only[List.drop_length,distL]at hdl;subst hdl;obtain⟨aL,cL,hvl⟩:=sl.len (by omega) l.length (by simp);rw[hvl]at d1;refine f'f ?_;simp[W158_0,ZfU,d0,d1,d5,d6,d7];exact⟨w1,sa,c1,lo,by omega,ham⟩
 | succ n=>
  have hi:i<l.length:=by omega
  have hi':(i:Int)<l.length:=by omega
  obtain⟨bL,cp,e8,hcp,yl⟩:=slg.blk (by omega) l.length (by simp) (by omega);have d1':=d1;rw[e8]at d1';obtain⟨a,ha⟩:∃a,l[i]?=some a:=⟨_,l'c hi⟩;have hcell:O.cell g bL i=some (ni a):=by rw[yl.cell i (by simpa using hi)];simp[ha]
  have haN:=hlm a (l'f ha);have haN':(a:Int)<N:=by omega
  have hdrop:l.drop i=a :: l.drop (i+1):=by
   have:=(l'b.1 ha).2;rw[<-this];exact l's hi
  rw[hdrop]at hdl;simp only[distL]at hdl;have hwi:=w'1 i;obtain⟨i',hi2⟩:=e' (i+1);rw[<-hi2]at hwi hdl;have hsl:(seenL N acc).length=N:=by simp[seenL]
  have ks:O.cell g bs a=some (.bool (decide (a∈acc))):=by
   rw[xs.cell a (by simp[hsl,haN]),List.getElem?_map,seenL_get acc haN];rfl
  by_cases hmem:a∈acc
  ·rw[if_pos hmem]at hdl;have ks':O.cell g bs a=some (.bool true):=by rw[ks];simp[hmem]
   refine f'f ?_;simp[W158_0,ZfU,ZfV,ZfY,d0,d1',d5,d6,d7,hi,hi',hcell,haN,haN',ks',hwi];exact⟨n,by omega,by simp[d0],by simp[d1',e8],i',bs,v,acc,w1,by simp[d5],by simp[d6],by simp,by omega,hdl,by omega,ham,xs,sa,c1,lo⟩
  ·rw[if_neg hmem]at hdl;have ks':O.cell g bs a=some (.bool false):=by rw[ks];simp[hmem]
   have hlt:a<((seenL N acc).map Value.bool).length:=by simp[hsl,haN]
   have xs2:=xs.put L a hlt (.bool true);have c2:=Ch.put L (K:=λu=>u=((14,k0):Tag)) xs a hlt (.bool true) rfl;have hp2:=puts_one (v:=.bool true) ks';rw[<-List.map_set,seenL_set acc haN]at xs2;have sa2:=sa.ch L c2;have sl2:=λhx=>slg.ch L (Ch.put L (K:=λu=>u=((14,k0):Tag)) xs a hlt (.bool true) rfl) hx;have c12:=Ch.own (k:=k0) c1 c2 hk0;have lo2:ro<=O.next (O.put g bs a (.bool true)):=l'G lo c2.nx
   have slg2:=sl.ch L c12;obtain⟨bL2,cp2,e82,hcp2,yl2⟩:=slg2.blk (by omega) l.length (by simp) (by omega);rw[e8]at e82;simp only[Value.slice.injEq,l'a,Addr.mk.injEq,and_true,true_and]at e82;obtain⟨rfl,rfl⟩:=e82;have hcell2:O.cell (O.put g bs a (.bool true)) bL i=some (ni a):=by rw[yl2.cell i (by simpa using hi)];simp[ha]
   obtain⟨v3,h3,w3,e3,s3,c3,lo3⟩:=appM_one (bytes:=8) (new:=[ni a]) L lo2 sa2 (by omega) rfl (by simp;omega) (by simp;omega);have c13:=Ch.own (k:=k0) c12 c3 hk1;have xs3:=xs2.ch L c3;have rs:¬bs<ro:=by have:=xs.lo;omega
   obtain⟨f1,f2,f3⟩:=s3.m.flat;generalize O.put g bs a (.bool true)=g2 at *;refine f'f ?_;clear c1 c2 c12 c3 sl2;simp[W158_0,ZfU,ZfV,ZfW,ZfX,ZfY,d0,d1',d5,d6,d7,hi,hi',hcell,haN,haN',ks',hp2,rs,hcell2,e3,hwi];exact⟨n,by omega,by simp[d0],by simp[d1',e8],i',bs,v3,acc++[a],w3,by simp[d5],by simp,by simp,by omega,hdl,by simp;omega,by intro b hb;rcases l'E.1 hb with hb|hb;exact ham b hb;simp at hb;subst hb;omega,xs3,by simpa using s3.m,c13,lo3⟩
theorem give2 {k0 sz:Nat}{t1:Tag}{v:Value}{l:List Value}(a:Ch O (λ_=>False) w h w' h')(hk0:∀b,b<O.next h->w b≠((14,k0):Tag))(s:Sm O ro w' h' (14,k0) sz v l):
  ∃w2,Sm O ro w2 h' t1 sz v l∧Ch O (λ_=>False) w h w2 h':=by
 rcases s with s|⟨b,m,cp,e,ec,el,y⟩
 ·exact⟨w',.inl s,a⟩
 ·have hb:¬b<O.next h:=λhb=>hk0 b hb (by rw[<-a.ow b hb,y.tag])
  refine⟨w'.set b t1,.inr ⟨b,m,cp,e,ec,el,⟨by simp[Own.set],y.lo,y.al,y.cell⟩⟩,⟨a.nx,λb' hb'=>?_,a.fr⟩⟩;have:b'≠b:=by rintro rfl;exact hb hb'
  simp only[Own.set,if_neg this];exact a.ow b' hb'
theorem dist_q (C:LP' O ro c)(L:O.Law){p s:Nat}{Z:Solv}{vE vcl vM vK:Value}{vs:List Value}(x:SV O ro w h p s Z vE vcl vM vK vs)(hE:Z.early.length<=192){tl:Tag}{vl:Value}{l:List Nat}(hl:l.length<=most)(sl:Sm O ro w h tl 1 vl (l.map ni))(hh:haveP Z.early.length l=true)(t1:Tag):
  ∃v h' w',c 158 [ptr s,vl] h=some (v,h')∧Sm O ro w' h' t1 1 v ((dist l).map ni)∧Ch O (λ_=>False) w h w' h'∧ro<=O.next h'∧(dist l).length<=most∧(∀a∈dist l,a<most):=by
 have hm:most=1000000:=rfl;have hlm:∀a∈l,a<2*Z.early.length:=by
  intro a ha;unfold haveP at hh;rw[l'D]at hh;simpa using hh a ha
 obtain⟨k0,hk⟩:=fresh_big w (O.next h);have hk1:∀b,b<O.next h->w b≠((14,k0+1):Tag):=λb hb e=>by have:=hk b hb;rw[e]at this;simp at this;omega
 have m0:=x.m.get 0 _ rfl;obtain⟨aE,cE,hvE⟩:=x.sE.m.len (by omega) Z.early.length (by simp);rw[hvE]at m0;have key:∃u h',c 158 [ptr s,vl] h=some (u,h')∧DiQ O ro w h k0 (dist l) u h':=by
  refine C.fn (F158_fn O ro) rfl rfl ?_;unfold F158;have hw2:IntKind.i64.wrap (2*(Z.early.length:Int))=((2*Z.early.length:Nat):Int):=w'i;obtain⟨N,hN⟩:=e' (2*Z.early.length);rw[<-hN]at hw2 hlm;have hN1:(N:Int)<=140737488355328:=by omega
  have hN2:N<=140737488355328:=by omega
  have hrA:=rangeA1 (.bool false) N;refine s'f ?_;simp[ZfQ,thenE];refine s'f ?_;simp[-rangeA,ZfR,thenE,m0,hw2,hN1,hN2,hrA];have y1:=Bx.new L (ro:=ro) w h x.lo (14,k0) (List.replicate N (.bool false));have c1:=Ch.new L (λ_=>False) w h (14,k0) (List.replicate N (.bool false));have lo1:ro<=O.next (O.new h (List.replicate N (.bool false))):=l'G x.lo c1.nx
  have y2:=Bx.new L (ro:=ro) (w.set (O.next h) (14,k0)) (O.new h (List.replicate N (.bool false))) lo1 (14,k0+1) [];have c2:=Ch.new L (λ_=>False) (w.set (O.next h) (14,k0)) (O.new h (List.replicate N (.bool false))) (14,k0+1) [];have y1':=y1.ch L c2;have lo2:=l'G lo1 c2.nx;refine s'f ?_;simp[ZfS,thenE];refine okE.seq (s'f ?_);simp[ZfT,thenE];refine okE.blk ?_;refine okE.mono (okE.loop (Q:=λe t' g'=>outOf 0 e = .normal∧DiQ O ro w h k0 (dist l) (t' 6) g') (DiI O ro w h s N k0 vl l (dist l)) (λn t g I=>dist1_q C L hk hl hlm (by omega) sl I) l.length _ _ ⟨by simp,by simp,0,O.next h,_,[],_,by simp,by simp,by simp,by omega,by simp[dist],by simp,by simp,(by rw[seenL_nil];exact y1'),.inr ⟨_,0,1,rfl,.inr rfl,by simp,y2⟩,c1.trans c2,lo2⟩) ?_;rintro e t g ⟨hr,hq⟩;rw[hr];simp only[thenE];obtain⟨w1,s1,hq⟩:=hq;obtain⟨f1,f2,f3⟩:=s1.flat;refine f'f ?_;simp[ZfZ,resE,resLE,rvE,f3];exact⟨w1,s1,hq⟩
 obtain⟨u,h',e1,w1,s1,c1,lo1,hq⟩:=key;obtain⟨w2,s2,c2⟩:=give2 (t1:=t1) c1 hk1 s1;exact⟨u,h',w2,e1,s2,c2,lo1,hq⟩
def V0: Vr:=⟨0,some 0,false,0,false⟩
def VE (e:Bool): Vr:=⟨0,some 0,false,if e then 1 else 0,false⟩
def varsI (early:List Bool)(i:Nat): List Vr:=(early.take i).map VE++(early.drop i).map λ_=>V0
theorem varsI_len (early:List Bool)(i:Nat): (varsI early i).length=early.length:=by simp[varsI];omega
theorem varsI_at {early:List Bool}{i:Nat}{e:Bool}(he:early[i]?=some e): (varsI early i)[i]?=some V0∧(varsI early i).set i (VE e)=varsI early (i+1):=by
 have hi:=(l'b.1 he).1;have hlen:((early.take i).map VE).length=i:=by simp;omega
 have hd:early.drop i=e :: early.drop (i+1):=by
  have:=(l'b.1 he).2;rw[<-this];exact l's hi
 unfold varsI;constructor
 ·rw[l'z (by omega),hlen,Nat.sub_self,hd];rfl
 ·rw[List.set_append_right _ _ (by omega),hlen,Nat.sub_self,hd,l'C,he];simp
theorem varsI_same {early:List Bool}{i:Nat}(he:early[i]?=some false): varsI early (i+1)=varsI early i:=by
 have h:=varsI_at he;rw[<-h.2];apply List.ext_getElem?;intro j
 by_cases e:j=i
 ·subst e;rw[h.1,l'g (by rw[varsI_len];exact (l'b.1 he).1)];rfl
 ·rw[l'h (λh=>e h.symm)]
def NwI (O:HI H)(ro:Nat)(w:Own)(h:H)(q bW bH bV:Nat)(vA vE:Value)(early:List Bool)(asm:List Nat)(w1:Own)(wv:List Value)(n:Nat)(t:Env)(g:H): Prop:=
 t 0=vE∧t 5 = .pointer (some ⟨q,0,none⟩)∧∃i,t 6=ni i∧i+n=early.length∧SQ O ro w1 g q { newP early asm with vars:=varsI early i } bW bH bV vA (.slice none 0 0) (.slice none 0 0) (.slice none 0 0) (.slice none 0 0) [] wv∧Ch O K11 w h w1 g
theorem new1_q (L:O.Law){vE:Value}{early:List Bool}{asm:List Nat}{tE:Tag}(htE:¬K11 tE)(sE:Sm O ro w h tE 1 vE (early.map Value.bool))(hE:early.length<=192){w1:Own}{n:Nat}{t:Env}{g:H}(I:NwI O ro w h q bW bH bV vA vE early asm w1 wv n t g):
  okE c (W186_0 O Tryz.prog ro) (t,g) (λe t' g'=>(e = .normal∧∃n',n'<n∧NwI O ro w h q bW bH bV vA vE early asm w1 wv n' t' g')∨(e≠.normal∧(outOf 0 e = .normal∧t' 5 = .pointer (some ⟨q,0,none⟩)∧SQ O ro w1 g' q (newP early asm) bW bH bV vA (.slice none 0 0) (.slice none 0 0) (.slice none 0 0) (.slice none 0 0) [] wv∧Ch O K11 w h w1 g'))):=by
 obtain⟨d0,d5,i,d6,hin,x1,c1⟩:=I
 cases n with
 | zero=>
  obtain rfl:i=early.length:=by omega
  obtain⟨aE,cE,hvE⟩:=sE.len (by omega) early.length (by simp);rw[hvE]at d0;refine f'f ?_;simp[W186_0,Zgz,d0,d5,d6];refine⟨?_,c1⟩;have:varsI early early.length=(newP early asm).vars:=by unfold varsI newP;simp only[List.take_length,List.drop_length,l'K,List.append_nil];rfl
  rw[this]at x1;exact x1
 | succ n=>
  have hi:i<early.length:=by omega
  have hi':(i:Int)<early.length:=by omega
  have sg:=sE.ch L c1 htE;obtain⟨bE,cp,e8,hcp,yE⟩:=sg.blk (by omega) early.length (by simp) (by omega);have d0':=d0;rw[e8]at d0';obtain⟨e,he⟩:∃e,early[i]?=some e:=⟨_,l'c hi⟩;have hcell:O.cell g bE i=some (.bool e):=by rw[yE.cell i (by simpa using hi)];simp[he]
  have hwi:=w'1 i;have hva:=varsI_at he;have m6:=x1.m.get 6 _ rfl;simp only[varsI_len]at m6
  cases e with
  | true=>
   obtain⟨h2,p2,x2,c2⟩:=x1.putV L i hva.1 3 (by omega) (ni 1) (VE true) rfl;rw[hva.2]at x2;obtain⟨i',hi2⟩:=e' (i+1);rw[<-hi2]at hwi x2;have rV:¬bV<ro:=by have:=x1.xV.lo;omega
   have p2':putsA O g bV (i*5+3) [.int .i64 1]=some h2:=p2;refine f'f ?_;simp[W186_0,Zgz,ZgA,ZgB,ZgC,d0',d5,d6,hi,hi',hcell,m6,rV,p2',hwi];exact⟨n,by omega,by simp[d0',e8],by simp[d5],i',by simp,by omega,x2,c1.trans c2⟩
  | false=>
   have hsm:=varsI_same he;rw[<-hsm]at x1;obtain⟨i',hi2⟩:=e' (i+1);rw[<-hi2]at hwi x1;refine f'f ?_;simp[W186_0,Zgz,ZgA,ZgC,d0',d5,d6,hi,hi',hcell,hwi];exact⟨n,by omega,by simp[d0',e8],by simp[d5],i',by simp,by omega,x1,c1⟩
theorem mk_put (L:O.Law){l:List Value}(m:Bx O ro w h (11,1000) q l)(lo:ro<=O.next h)(i:Nat)(hi:i<l.length)(v:Value)(t:Tag)(ht:t≠(11,1000))(cells:List Value):
  ∃h2 w2,putsA O (O.new h cells) q i [v]=some h2∧Bx O ro w2 h2 (11,1000) q (l.set i v)∧Bx O ro w2 h2 t (O.next h) cells∧Ch O (λu=>u=(11,1000)) w h w2 h2∧ro<=O.next h2:=by
 have y:=Bx.new L (ro:=ro) w h lo t cells;have c1:=Ch.new L (λu=>u=((11,1000):Tag)) w h t cells;have c1':=Ch.new L (λ_=>False) w h t cells;have m1:=m.ch L c1';have c2:=Ch.put L (K:=λu=>u=((11,1000):Tag)) m1 i hi v rfl;have m2:=m1.put L i hi v;refine⟨_,_,puts_one (m1.get i _ (l'c hi)),m2,y.ch L c2 ht,c1.trans c2,?_⟩;exact l'G lo (l'G c1.nx c2.nx)
def NwQ (O:HI H)(ro:Nat)(w:Own)(h:H)(vA:Value)(early:List Bool)(asm:List Nat)(u:Value)(g:H): Prop:=
 ∃q bW bH bV w1 wv,u=ptr q∧SQ O ro w1 g q (newP early asm) bW bH bV vA (.slice none 0 0) (.slice none 0 0) (.slice none 0 0) (.slice none 0 0) [] wv∧Ch O K11 w h w1 g
theorem new_q (C:LP' O ro c)(L:O.Law)(lo:ro<=O.next h){vE vA:Value}{early:List Bool}{asm:List Nat}{tE:Tag}(htE:¬K11 tE)(sE:Sm O ro w h tE 1 vE (early.map Value.bool))(hE:early.length<=192)(sA:Sm O ro w h (9,0) 1 vA (asm.map ni)):
  ∃u h',c 186 [vE,vA] h=some (u,h')∧NwQ O ro w h vA early asm u h':=by
 refine C.fn (F186_fn O ro) rfl rfl ?_;obtain⟨aE,cE,hvE⟩:=sE.len (by omega) early.length (by simp);obtain⟨fA1,fA2,fA3⟩:=sA.flat;have hw2:IntKind.i64.wrap (2*(early.length:Int))=((2*early.length:Nat):Int):=w'i;obtain⟨N,hN⟩:=e' (2*early.length);rw[<-hN]at hw2;have hN1:(N:Int)<=140737488355328:=by omega
 have hN2:N<=140737488355328:=by omega
 have hN3:(N:Int)*24<=140737488355328:=by omega
 have hE1:(early.length:Int)*40<=140737488355328:=by omega
 have hE2:(early.length:Int)<=140737488355328:=by omega
 have rA1:=rangeA1 (.bool false) N;have rA2:=rangeA1 (.slice none 0 0) N;have rA5:=rangeA5 (.int .i64 0) (.int .i64 0) (.bool false) (.int .i64 0) (.bool false) early.length;have vz:((List.replicate early.length ()).flatMap λ_=>[Value.int .i64 0,.int .i64 0,.bool false,.int .i64 0,.bool false])=(varsI early 0).flatMap vrC:=by
  have:varsI early 0=(List.replicate early.length ()).map λ_=>V0:=by
   simp[varsI,List.map_const']
  rw[this,List.flatMap_map];rfl
 rw[vz]at rA5;obtain⟨h1,q,hh1,hq,y1,c1,lo1⟩:∃h1 q,O.new h [vA,.slice none 0 0,.int .i64 0,.int .i64 4000,.slice none 0 0,.slice none 0 0,.slice none 0 0,.slice none 0 0,.slice none 0 0,.int .i64 0,.int .i64 16,.int .i64 0,.slice none 0 0]=h1∧O.next h=q∧Bx O ro (w.set q (11,1000)) h1 (11,1000) q [vA,.slice none 0 0,.int .i64 0,.int .i64 4000,.slice none 0 0,.slice none 0 0,.slice none 0 0,.slice none 0 0,.slice none 0 0,.int .i64 0,.int .i64 16,.int .i64 0,.slice none 0 0]∧Ch O (λu=>u=(11,1000)) w h (w.set q (11,1000)) h1∧ro<=O.next h1:=
  ⟨_,_,rfl,rfl,Bx.new L (ro:=ro) w h lo (11,1000) _,Ch.new L _ w h (11,1000) _,by rw[L.next_new];omega⟩
 obtain⟨h2,w2,p2,m2,y2,c2,lo2⟩:=mk_put L y1 lo1 4 (by simp) (.slice (some ⟨O.next h1,0,some 1⟩) N (N+1)) (11,4) (by simp) (List.replicate N (.slice none 0 0));obtain⟨h3,w3,p3,m3,y3,c3,lo3⟩:=mk_put L m2 lo2 5 (by simp) (.slice (some ⟨O.next h2,0,some 1⟩) N (N+1)) (11,5) (by simp) (List.replicate N (.bool false));obtain⟨h4,w4,p4,m4,y4,c4,lo4⟩:=mk_put L m3 lo3 6 (by simp) (.slice (some ⟨O.next h3,0,some 5⟩) early.length (early.length+1)) (11,6) (by simp) ((varsI early 0).flatMap vrC);have c24:=(c2.trans c3).trans c4;have c34:=c3.trans c4;have c14:Ch O (λu=>u=(11,1000)) w h w4 h4:=c1.trans c24;have cK:Ch O K11 w h w4 h4:=c14.mono (by rintro u rfl;exact .inl rfl);have x4:SQ O ro w4 h4 q { newP early asm with vars:=varsI early 0 } (O.next h1) (O.next h2) (O.next h3) vA (.slice none 0 0) (.slice none 0 0) (.slice none 0 0) (.slice none 0 0) [] (List.replicate N (.slice none 0 0)):=by
  refine⟨?_,sA.ch L c14,Sz.nil _ _ _ _,rfl,by simp[newP],y2.ch L c34,by simp[newP,hN],λi l v g1 g2=>?_,?_,y4,Sz.nil _ _ _ _,Sz.nil _ _ _ _,Sz.nil _ _ _ _,lo4⟩
  ·have e1:(newP early asm).watchers.length=N:=by simp[newP,hN]
   have e2:(newP early asm).holds.length=N:=by simp[newP,hN]
   simp only[varsI_len,e1,e2];exact m4
  ·simp only[newP,<-hN]at g1;have h1':=List.eq_of_mem_replicate (l'f g1);have h2':=List.eq_of_mem_replicate (l'f g2);subst h1' h2';exact Sz.nil _ _ _ _
  ·have:=y3.ch L c4;simp only[newP,<-hN,List.map_replicate];exact this
 have rq:¬q<ro:=by have:=y1.lo;omega
 have hr13:List.range 13=[0,1,2,3,4,5,6,7,8,9,10,11,12]:=rfl;have htE':=htE;subst hvE;unfold F186;refine s'f ?_;simp[Zgt,thenE];refine s'f ?_;simp[Zgu,thenE,fA1,fA2,fA3,hh1,hq];refine s'f ?_;simp[-rangeA,Zgv,thenE,hw2,hN1,hN2,hN3,rA2,rq,p2];refine s'f ?_;simp[-rangeA,Zgw,thenE,hw2,hN1,hN2,hN3,rA1,rq,p3];refine s'f ?_;simp[-rangeA,Zgx,thenE,hE1,hE2,rA5,rq,p4];refine okE.seq (s'f ?_);simp[Zgy,thenE];refine okE.blk ?_;refine okE.mono (okE.loop (Q:=λe t' g'=>outOf 0 e = .normal∧t' 5 = .pointer (some ⟨q,0,none⟩)∧SQ O ro w4 g' q (newP early asm) (O.next h1) (O.next h2) (O.next h3) vA (.slice none 0 0) (.slice none 0 0) (.slice none 0 0) (.slice none 0 0) [] (List.replicate N (.slice none 0 0))∧Ch O K11 w h w4 g') (NwI O ro w h q (O.next h1) (O.next h2) (O.next h3) vA _ early asm w4 (List.replicate N (.slice none 0 0))) (λn t g I=>new1_q L htE sE hE I) early.length _ _ ⟨by simp,by simp,0,by simp,by omega,x4,cK⟩) ?_;rintro e t g ⟨hr,d5,x5,c5⟩;rw[hr];simp only[thenE];refine f'f ?_;simp[ZgD,d5,resE,resLE,rvE];exact⟨q,_,_,_,w4,_,rfl,x5,c5⟩
def MoI (O:HI H)(ro:Nat)(w:Own)(h:H)(q k0:Nat)(S:Srch)(n:Nat)(t:Env)(g:H): Prop:=
 t 0 = .pointer (some ⟨q,0,none⟩)∧∃i v w1,t 3=v∧t 4=ni i∧i+n=S.vars.length∧Sm O ro w1 g (14,k0) 1 v (((List.range i).map λv=>S.holds.getD (2*v) false).map Value.bool)∧Ch O (λ_=>False) w h w1 g∧ro<=O.next g
def MoQ (O:HI H)(ro:Nat)(w:Own)(h:H)(k0:Nat)(S:Srch)(v:Value)(g:H): Prop:=
 ∃w1,Sm O ro w1 g (14,k0) 1 v (((List.range S.vars.length).map λv=>S.holds.getD (2*v) false).map Value.bool)∧Ch O (λ_=>False) w h w1 g∧ro<=O.next g
theorem model1_q (L:O.Law)(x:SQ O ro w h q S bW bH bV vA vC vT vS vK lv wv)(hV:S.vars.length<=192)(hH:S.holds.length=2*S.vars.length){k0:Nat}(hk0:∀b,b<O.next h->w b≠((14,k0):Tag)){n:Nat}{t:Env}{g:H}(I:MoI O ro w h q k0 S n t g):
  okE c (W188_0 O Tryz.prog ro) (t,g) (λe t' g'=>(e = .normal∧∃n',n'<n∧MoI O ro w h q k0 S n' t' g')∨(e≠.normal∧(outOf 0 e = .normal∧MoQ O ro w h k0 S (t' 3) g'))):=by
 obtain⟨d0,i,v,w1,d3,d4,hin,s1,c1,lo1⟩:=I;have x1:=x.ch L c1;have m6:=x1.m.get 6 _ rfl;have m5:=x1.m.get 5 _ rfl
 cases n with
 | zero=>
  obtain rfl:i=S.vars.length:=by omega
  refine f'f ?_;simp[W188_0,ZgS,d0,d3,d4,m6];exact⟨w1,s1,c1,lo1⟩
 | succ n=>
  have hi:i<S.vars.length:=by omega
  have hi':(i:Int)<S.vars.length:=by omega
  have hwi:=w'1 i;have hw2:IntKind.i64.wrap (2*(i:Int))=((2*i:Nat):Int):=w'i;obtain⟨b,hb⟩:∃b,S.holds[2*i]?=some b:=⟨_,l'c (by omega)⟩;have hgd:S.holds.getD (2*i) false=b:=by rw[l'r,hb];rfl
  have kb:=x1.getH _ hb;obtain⟨v3,h3,w3,e3,s3,c3,lo3⟩:=appM_one (bytes:=1) (new:=[Value.bool b]) L lo1 s1 (by omega) rfl (by simp;omega) (by simp;omega);have hst:((List.range i).map λv=>S.holds.getD (2*v) false).map Value.bool++[Value.bool b]=((List.range (i+1)).map λv=>S.holds.getD (2*v) false).map Value.bool:=by
   rw[l'B,List.map_append,List.map_append];simp only[l'J,l'K,hgd]
  rw[hst]at s3;have c13:=Ch.own (k:=k0) c1 c3 hk0;have lz:2*i<S.holds.length:=by omega
  have lz':((2*i:Nat):Int)<S.holds.length:=by omega
  obtain⟨z,hz⟩:=e' (2*i);rw[<-hz]at hw2 kb lz lz';obtain⟨i',hi2⟩:=e' (i+1);rw[<-hi2]at hwi s3;refine f'f ?_;clear c1 c3 x1 hst;simp[W188_0,ZgS,ZgT,ZgU,d0,d3,d4,m6,m5,hi,hi',hw2,lz,lz',kb,e3,hwi];exact⟨n,by omega,by simp[d0],i',v3,w3,by simp,by simp,by omega,s3.m,c13,lo3⟩
theorem model_q (C:LP' O ro c)(L:O.Law)(x:SQ O ro w h q S bW bH bV vA vC vT vS vK lv wv)(hV:S.vars.length<=192)(hH:S.holds.length=2*S.vars.length)(t1:Tag):
  ∃v h' w',c 188 [ptr q] h=some (v,h')∧Sm O ro w' h' t1 1 v (((List.range S.vars.length).map λv=>S.holds.getD (2*v) false).map Value.bool)∧Ch O (λ_=>False) w h w' h'∧ro<=O.next h':=by
 obtain⟨k0,hk0⟩:=fresh_tag w (O.next h);have key:∃u h',c 188 [ptr q] h=some (u,h')∧MoQ O ro w h k0 S u h':=by
  refine C.fn (F188_fn O ro) rfl rfl ?_;unfold F188;have y2:=Bx.new L (ro:=ro) w h x.lo (14,k0) [];have c2:=Ch.new L (λ_=>False) w h (14,k0) [];have lo2:=l'G x.lo c2.nx;refine s'f ?_;simp[ZgP,thenE];refine s'f ?_;simp[ZgQ,thenE];refine okE.seq (s'f ?_);simp[ZgR,thenE];refine okE.blk ?_;refine okE.mono (okE.loop (Q:=λe t' g'=>outOf 0 e = .normal∧MoQ O ro w h k0 S (t' 3) g') (MoI O ro w h q k0 S) (λn t g I=>model1_q L x hV hH hk0 I) S.vars.length _ _ ⟨by simp,0,_,_,by simp,by simp,by omega,.inr ⟨_,0,1,rfl,.inr rfl,by simp,y2⟩,c2,lo2⟩) ?_;rintro e t g ⟨hr,w1,s1,hq⟩;rw[hr];simp only[thenE];obtain⟨f1,f2,f3⟩:=s1.flat;refine f'f ?_;simp[ZgV,resE,resLE,rvE,f3];exact⟨w1,s1,hq⟩
 obtain⟨u,h',e1,w1,s1,c1,lo1⟩:=key;obtain⟨w2,s2,c2⟩:=give2 (t1:=t1) c1 hk0 s1;exact⟨u,h',w2,e1,s2,c2,lo1⟩
variable {p s:Nat}{Z:Solv}{vE vcl vM:Value}{vs:List Value}
def Ks (p:Nat)(u:Tag): Prop:=u.1=p
def Own.hide (w:Own): Own:=λb=>if (w b).1=11∨(w b).1=12 then (15,0) else w b
def Own.join (w w':Own)(n:Nat): Own:=λb=>if b<n then w b else if (w' b).1=11∨(w' b).1=12 then (15,0) else w' b
theorem Bx.hide {t:Tag}{b:Nat}{l:List Value}(x:Bx O ro w h t b l)(ht:¬K11 t): Bx O ro w.hide h t b l:=by
 refine⟨?_,x.lo,x.al,x.cell⟩;have:=x.tag;simp only[Own.hide,this];exact if_neg ht
theorem Sm.hide {t:Tag}{sz:Nat}{v:Value}{l:List Value}(x:Sm O ro w h t sz v l)(ht:¬K11 t): Sm O ro w.hide h t sz v l:=by
 rcases x with x|⟨b,m,cp,e,ec,el,x⟩
 ·exact .inl x
 ·exact .inr ⟨b,m,cp,e,ec,el,x.hide ht⟩
theorem Sz.hide {t:Tag}{sz:Nat}{v:Value}{l:List Value}(x:Sz O ro w h t sz v l)(ht:¬K11 t): Sz O ro w.hide h t sz v l:=by
 rcases x with x|⟨b,m,e,el,x⟩
 ·exact .inl x
 ·exact .inr ⟨b,m,e,el,x.hide ht⟩
theorem Cs.hide {t:Tag}{v:Value}{cs:List (List Nat)}(x:Cs O ro w h t v vs cs)(ht:¬K11 t): Cs O ro w.hide h t v vs cs:=
 ⟨x.s.hide ht,x.l,λi l u h1 h2=>(x.a i l u h1 h2).hide (by simp[K11])⟩
theorem SV.hide (x:SV O ro w h p s Z vE vcl vM vK vs)(hp:20<=p): SV O ro w.hide h p s Z vE vcl vM vK vs:=by
 have n:∀i,¬K11 (p,i):=λi=>by simp[K11];omega
 exact⟨x.m.hide (n _),x.sE.hide (n _),x.sC.hide (n _),x.sM.hide (by simp[K11]),x.sK.hide (by simp[K11]),x.lo⟩
theorem hide_no (w:Own)(b:Nat): ¬K11 (w.hide b):=by
 unfold Own.hide K11;split
 ·simp
 ·assumption
theorem Bx.join (L:O.Law){K:Tag->Prop}{t:Tag}{b:Nat}{l:List Value}(a:Ch O K w.hide h w' h')(x:Bx O ro w' h' t b l)(ht:¬K11 t)(h15:t≠(15,0)): Bx O ro (w.join w' (O.next h)) h' t b l:=by
 refine⟨?_,x.lo,x.al,x.cell⟩;unfold Own.join
 by_cases hb:b<O.next h
 ·rw[if_pos hb];have h1:=a.ow b hb;rw[x.tag]at h1;unfold Own.hide at h1;split at h1
  ·exact absurd h1 h15
  ·exact h1.symm
 ·rw[if_neg hb,x.tag];exact if_neg ht
theorem Sm.join (L:O.Law){K:Tag->Prop}{t:Tag}{sz:Nat}{v:Value}{l:List Value}(a:Ch O K w.hide h w' h')(x:Sm O ro w' h' t sz v l)(ht:¬K11 t)(h15:t≠(15,0)): Sm O ro (w.join w' (O.next h)) h' t sz v l:=by
 rcases x with x|⟨b,m,cp,e,ec,el,x⟩
 ·exact .inl x
 ·exact .inr ⟨b,m,cp,e,ec,el,x.join L a ht h15⟩
theorem Sz.join (L:O.Law){K:Tag->Prop}{t:Tag}{sz:Nat}{v:Value}{l:List Value}(a:Ch O K w.hide h w' h')(x:Sz O ro w' h' t sz v l)(ht:¬K11 t)(h15:t≠(15,0)): Sz O ro (w.join w' (O.next h)) h' t sz v l:=by
 rcases x with x|⟨b,m,e,el,x⟩
 ·exact .inl x
 ·exact .inr ⟨b,m,e,el,x.join L a ht h15⟩
theorem SV.join (L:O.Law){K:Tag->Prop}(a:Ch O K w.hide h w' h')(x:SV O ro w' h' p s Z vE vcl vM vK vs)(hp:20<=p): SV O ro (w.join w' (O.next h)) h' p s Z vE vcl vM vK vs:=by
 have n:∀i,¬K11 (p,i):=λi=>by simp[K11];omega
 have m:∀i,((p,i):Tag)≠(15,0):=λi=>by simp;omega
 exact⟨x.m.join L a (n _) (m _),x.sE.join L a (n _) (m _),⟨x.sC.s.join L a (n _) (m _),x.sC.l,λi l u h1 h2=>(x.sC.a i l u h1 h2).join L a (by simp[K11]) (by simp)⟩,x.sM.join L a (by simp[K11]) (by simp),x.sK.join L a (by simp[K11]) (by simp),x.lo⟩
theorem Ch.join (a:Ch O (λu=>K11 u∨Ks p u) w.hide h w' h')(hp:20<=p): Ch O (Ks p) w h (w.join w' (O.next h)) h':=by
 refine⟨a.nx,λb hb=>by simp[Own.join,hb],λb hb hn=>a.fr b hb ?_⟩;rintro (h1|h1)
 ·exact hide_no w b h1
 ·unfold Own.hide Ks at h1;split at h1
  ·simp at h1;omega
  ·exact hn h1
theorem SV.put (L:O.Law)(hp:20<=p)(x:SV O ro w h p s Z vE vcl vM vK vs)(i:Nat)(hi:i<5)(v:Value){vM' vK':Value}{m':List Bool}{k':List Nat}{cf:Nat}
  (hm : [vE, vcl, vM, vK, ni Z.conflicts].set i v = [vE, vcl, vM', vK', ni cf])(sM : Sm O ro w h (9, 1) 1 vM' (m'.map Value.bool))(sK : Sm O ro w h (9, 1) 1 vK' (k'.map ni)):
  ∃h1,putsA O h s i [v]=some h1∧SV O ro w h1 p s { Z with model:=m',core:=k',conflicts:=cf } vE vcl vM' vK' vs∧Ch O (Ks p) w h w h1:=by
 have c1:=Ch.put L (K:=λu=>u=((p,0):Tag)) x.m i (by simpa using hi) v rfl;have m1:=x.m.put L i (by simpa using hi) v;rw[hm]at m1;have n9:∀i,¬((9,i):Tag)=(p,0):=λi=>by simp;omega
 exact⟨_,puts_one (x.m.get i _ (l'c (by simpa using hi))),⟨m1,x.sE.ch L c1,x.sC.ch L c1 (by simp) (n9 _),sM.ch L c1 (n9 _),sK.ch L c1 (n9 _),l'G x.lo c1.nx⟩,c1.mono (by rintro u rfl;rfl)⟩
theorem add_q (C:LP' O ro c)(L:O.Law)(hp:20<=p)(x:SV O ro w h p s Z vE vcl vM vK vs)(hE:Z.early.length<=192){tl:Tag}{vl:Value}{l:List Nat}(sl:Sm O ro w h tl 1 vl (l.map ni)){Z':Solv}(hs:addP Z l=some Z'):
  ∃vcl' vs' h' w',c 105 [ptr s,vl] h=some (ni 0,h')∧SV O ro w' h' p s Z' vE vcl' vM vK vs'∧Ch O (Ks p) w h w' h':=by
 have hm:most=1000000:=rfl;unfold addP at hs;split at hs
 ·rename_i hc
  obtain⟨hh,hll,hcl⟩:=hc;simp only[l'a]at hs;have e1:=have_q C L x hE (by omega) sl hh;obtain⟨v2,h2,w2,e2,s2,c2,lo2,hd1,hd2⟩:=dist_q C L x hE (by omega) sl hh (9,0);have e3:=always_q C L hd1 hd2 s2;have x2:=x.ch L c2;unfold ptr at e1 e2;obtain⟨f1,f2,f3⟩:=s2.flat
  cases hal:alwaysP (dist l) with
  | true=>
   rw[hal]at hs e3;simp only[if_true]at hs;subst hs;refine⟨vcl,vs,h2,w2,?_,x2,c2.mono (by simp)⟩;refine C.eq (F105_fn O ro) rfl rfl ?_;unfold F105;refine s'f ?_;simp[Zfu,thenE];refine okE.seq (s'f ?_);simp[Zfv,thenE,e1];refine f'f ?_;simp[thenE];refine s'f ?_;simp[Zfx,thenE,e2];refine f'f ?_;simp[Zfy,ZfA,thenE,e3,resE,resLE,rvE]
  | false=>
   rw[hal]at hs e3;simp only[l'y,if_false]at hs;subst hs;obtain⟨v4,h4,w4,e4,s4,c4,lo4⟩:=appM_one (bytes:=24) (new:=[v2]) L lo2 x2.sC.s (by omega) rfl (by rw[x2.sC.l];omega) (by rw[x2.sC.l];omega);have n9:∀i,¬((9,i):Tag)=(p,2):=λi=>by simp;omega
   have m4:=x2.m.ch L c4;have c5:=Ch.put L (K:=λu=>u=((p,0):Tag)) m4 1 (by simp) v4 rfl;have m5:=m4.put L 1 (by simp) v4;have n90:∀i,¬((9,i):Tag)=(p,0):=λi=>by simp;omega
   have p5:=puts_one (v:=v4) (m4.get 1 _ rfl);obtain⟨g1,g2,g3⟩:=s4.m.flat;have rs:¬s<ro:=by have:=x.m.lo;omega
   have n1:=x2.m.get 1 _ rfl;refine⟨v4,vs++[v2],_,w4,?_,⟨m5,(x2.sE.ch L c4).ch L c5,⟨(s4.m).ch L c5,by simp[x2.sC.l],λi l u q1 q2=>?_⟩,(x2.sM.ch L c4 (n9 _)).ch L c5 (n90 _),(x2.sK.ch L c4 (n9 _)).ch L c5 (n90 _),l'G lo4 c5.nx⟩,((c2.mono (by simp)).trans (c4.mono (by rintro u rfl;rfl))).trans (c5.mono (by rintro u rfl;rfl))⟩
   ·generalize O.put h4 s 1 v4=h5 at *;refine C.eq (F105_fn O ro) rfl rfl ?_;unfold F105;refine s'f ?_;simp[Zfu,thenE];refine okE.seq (s'f ?_);simp[Zfv,thenE,e1];refine f'f ?_;simp[thenE];refine s'f ?_;simp[Zfx,thenE,e2];refine f'f ?_;simp[Zfy,Zfz,ZfA,thenE,e3,n1,f1,f2,f3,e4,p5,g1,g2,rs,resE,resLE,rvE]
   ·by_cases hk:i<Z.clauses.length
    ·rw[l'e hk]at q1;rw[l'e (by rw[x2.sC.l];exact hk)]at q2;exact ((x2.sC.a i l u q1 q2).ch L c4 (n9 _)).ch L c5 (n90 _)
    ·have hk2:i=Z.clauses.length:=by
      have:=(l'b.1 q1).1;simp at this;omega
     subst hk2;simp at q1;rw[<-x2.sC.l]at q2;simp at q2;subst q1 q2;exact (s2.ch L c4 (n9 _)).ch L c5 (n90 _)
 ·simp at hs
end
end Go.Proofs.YtimdkminagnhgaaGreatDoor
