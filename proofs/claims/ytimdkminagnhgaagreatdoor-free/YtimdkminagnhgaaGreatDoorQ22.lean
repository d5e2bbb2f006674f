import Derived.Test.YtimdkminagnhgaaGreatDoorQ21
set_option linter.all false
namespace Go.Ta
theorem newP_bd {early:List Bool}{l:List Nat}(hE:early.length<=192)(h1:l.length<=most)(h2:∀a∈l,a<most): Bd (newP early l):=by
 have hm:most=1000000:=rfl;have hm62:most62=4611686018427387904:=rfl;refine⟨by simp[newP],by simp[newP],by simp[newP];omega,by simp[newP];omega,by simp[newP];omega,by simp[newP],by simp[newP],h1,by simp[newP],?_,by simp[newP],by simp[newP],h2,?_,by simp[newP],by simp[newP],by simp[newP];omega,by simp[newP]⟩
 ·intro l hl;simp only[newP]at hl;rw[List.eq_of_mem_replicate hl];simp
 ·intro v hv;simp only[newP,List.mem_map]at hv;obtain⟨e,_,rfl⟩:=hv;refine⟨?_,by intro k hk;simp at hk;omega,by simp⟩;show (if e=true then 1 else 0)<most62;split <;> omega
end Go.Ta
namespace Go.Proofs.YtimdkminagnhgaaGreatDoor
open Go.Vm Go.Proofs Go.Ta
set_option maxHeartbeats 4000000
attribute [local simp] cSeq cReg reg to too onlyIf onlyIfo aMove mv' nl' fl' ld' ln' mk' ia' ik' ix' aNil aFld aLd aInt aPick aConv aUn unA ev upd_get isB envOf iA_add iA_sub iA_mul iA_eql iA_neq iA_lss iA_leq iA_gtr iA_geq cIf cRet cSkip okc_some aSt vc_int vc_bool vc_agg vc_str vc_ptr vc_sl ft_int ft_bool ft_str ft_ptr ft_sl tp_int tp_bool tp_agg tp_str tp_ptr tp_sl aBuild Instr.fill aCall cExit cBlk outOf ptr undef aNew aBox aIdxArr aLdN aShift aLenSl aIdx aMkSl aApp rangeA aExt aPtrNil aSlNil aBoolEq aMake aSliceSl boundA chk
section
variable {H:Type}{O:HI H}{ro:Nat}{c:CallT H}
variable {w w':Own}{h h':H}{q:Nat}{S:Srch}{bW bH bV:Nat}{vA vC vT vS vK:Value}{lv wv:List Value}
variable {p s:Nat}{Z:Solv}{vE vcl vM:Value}{vs:List Value}
theorem make_q (C:LP' O ro c)(L:O.Law)(lo:ro<=O.next h)(p:Nat):
  ∃s h' w',c 81 [] h=some (ptr s,h')∧SV O ro w' h' p s ⟨[],[],[],[],0⟩ (.slice none 0 0) (.slice none 0 0) (.slice none 0 0) (.slice none 0 0) []∧Ch O (λ_=>False) w h w' h':=by
 have y1:=Bx.new L (ro:=ro) w h lo (p,0) [.slice none 0 0,.slice none 0 0,.slice none 0 0,.slice none 0 0,.int .i64 0];have c1:=Ch.new L (λ_=>False) w h (p,0) [.slice none 0 0,.slice none 0 0,.slice none 0 0,.slice none 0 0,.int .i64 0];refine⟨O.next h,_,_,?_,⟨y1,Sz.nil _ _ _ _,⟨Sm.nil _ _ _ _,rfl,by simp⟩,Sm.nil _ _ _ _,Sm.nil _ _ _ _,l'G lo c1.nx⟩,c1⟩;refine C.eq (F81_fn O ro) rfl rfl (f'f ?_);simp[F81,Zfn,Zfo,resE,resLE,rvE]
theorem newvar_q (C:LP' O ro c)(L:O.Law)(hp:20<=p)(x:SV O ro w h p s Z vE vcl vM vK vs)(e:Bool)(hE:Z.early.length<192):
  ∃vE' h' w',c 104 [ptr s,.bool e] h=some (.tuple #[ni Z.early.length,ni 0],h')∧SV O ro w' h' p s { Z with early:=Z.early++[e] } vE' vcl vM vK vs∧Ch O (Ks p) w h w' h':=by
 obtain⟨v4,h4,w4,e4,s4,c4,lo4⟩:=appM_one (bytes:=1) (new:=[Value.bool e]) L x.lo x.sE.m (by omega) rfl (by simp;omega) (by simp;omega);have n9:∀i,¬((9,i):Tag)=(p,1):=λi=>by simp;omega
 have n90:∀i,¬((9,i):Tag)=(p,0):=λi=>by simp;omega
 have m4:=x.m.ch L c4;have c5:=Ch.put L (K:=λu=>u=((p,0):Tag)) m4 0 (by simp) v4 rfl;have m5:=m4.put L 0 (by simp) v4;have p5:=puts_one (v:=v4) (m4.get 0 _ rfl);have rs:¬s<ro:=by have:=x.m.lo;omega
 have m0:=x.m.get 0 _ rfl;have s5:=s4.ch L c5;have hst:Z.early.map Value.bool++[Value.bool e]=(Z.early++[e]).map Value.bool:=by simp
 rw[hst]at s5;obtain⟨g1,g2,g3⟩:=s4.m.flat;obtain⟨aE,cE,hvE⟩:=x.sE.m.len (by omega) Z.early.length (by simp);obtain⟨a5,q5,hv5⟩:=s5.m.len (by omega) (Z.early.length+1) (by simp);have n0:=m5.get 0 v4 (by simp);have hw:IntKind.i64.wrap (((Z.early.length+1:Nat):Int)-1)=(Z.early.length:Int):=w'i;refine⟨v4,_,w4,?_,⟨m5,s5,(x.sC.ch L c4 (by simp) (n9 _)).ch L c5 (by simp) (n90 _),(x.sM.ch L c4 (n9 _)).ch L c5 (n90 _),(x.sK.ch L c4 (n9 _)).ch L c5 (n90 _),l'G lo4 c5.nx⟩,(c4.mono (by rintro u rfl;rfl)).trans (c5.mono (by rintro u rfl;rfl))⟩;generalize O.put h4 s 0 v4=h5 at *;have m0':=m0;rw[hvE]at m0';have n0':=n0;rw[hv5]at n0';obtain⟨z,hz⟩:=e' (Z.early.length+1);rw[<-hz]at n0' hw;have h1:¬(192:Int)<=Z.early.length:=by omega
 have h2:¬192<=Z.early.length:=by omega
 refine C.eq (F104_fn O ro) rfl rfl ?_;unfold F104;refine s'f ?_;simp[Zfp,thenE];refine okE.seq (s'f ?_);simp[Zfq,thenE,m0',h1,h2];refine f'f ?_;simp[thenE];refine s'f ?_;simp[Zfs,thenE,m0,e4,p5,g1,g2,rs];refine f'f ?_;simp[Zft,n0',hw,resE,resLE,rvE]
theorem value_q (C:LP' O ro c)(L:O.Law)(x:SV O ro w h p s Z vE vcl vM vK vs){v:Nat}{b:Bool}(hv:Z.model[v]?=some b)(hl:Z.model.length<=192): c 183 [ptr s,ni v] h=some (.tuple #[.bool b,ni 0],h):=by
 have m2:=x.m.get 2 _ rfl;have hlt:=(l'b.1 hv).1;have hlt':(v:Int)<Z.model.length:=by omega
 have h1:¬(v:Int)<0:=by omega
 have h2:¬(Z.model.length:Int)<=v:=by omega
 have h3:¬Z.model.length<=v:=by omega
 obtain⟨bM,cp,hvM,hcp,yM⟩:=x.sM.blk (by omega) Z.model.length (by simp) (by omega);have hc:O.cell h bM v=some (.bool b):=by rw[yM.cell v (by simpa using hlt)];simp[hv]
 subst hvM;refine C.eq (F183_fn O ro) rfl rfl ?_;unfold F183;refine s'f ?_;simp[Zgp,thenE];refine okE.seq (s'f ?_);simp[Zgq,thenE,m2,h1,h2,h3];refine f'f ?_;simp[thenE];refine f'f ?_;simp[Zgs,m2,hlt,hlt',hc,resE,resLE,rvE]
theorem conflicts_q (C:LP' O ro c)(L:O.Law)(x:SV O ro w h p s Z vE vcl vM vK vs): c 146 [ptr s] h=some (ni Z.conflicts,h):=by
 have m4:=x.m.get 4 _ rfl;refine C.eq (F146_fn O ro) rfl rfl (f'f ?_);simp[F146,ZfF,ZfG,ZfI,m4,resE,resLE,rvE]
theorem core_q (C:LP' O ro c)(L:O.Law)(x:SV O ro w h p s Z vE vcl vM vK vs)(hl:Z.core.length<=most)(t1:Tag):
  ∃v h' w',c 145 [ptr s] h=some (v,h')∧Sm O ro w' h' t1 1 v (Z.core.map ni)∧Ch O (λ_=>False) w h w' h'∧ro<=O.next h':=by
 have hm:most=1000000:=rfl;have m3:=x.m.get 3 _ rfl;have hap:∃v h' w',appI O ro 1 8 (.slice none 0 0) vK h=some (v,h')∧Sm O ro w' h' t1 1 v (Z.core.map ni)∧Ch O (λ_=>False) w h w' h'∧ro<=O.next h':=by
  obtain⟨aK,cK,hvK⟩:=x.sK.len (by omega) Z.core.length (by simp)
  by_cases h0:Z.core.length=0
  ·have hnil:Z.core=[]:=List.eq_nil_of_length_eq_zero h0;rw[hnil];refine⟨.slice none 0 0,h,w,?_,Sm.nil _ _ _ _,Ch.refl _ _ _,x.lo⟩;rw[hvK,h0]
   cases aK <;> simp[appI,cellsA]
  ·obtain⟨bK,cp,hvK2,hcp,yK⟩:=x.sK.blk (by omega) Z.core.length (by simp) (by omega);have hall:=yK.all;simp only[List.length_map]at hall;refine⟨.slice (some ⟨O.next h,0,some 1⟩) Z.core.length 0,O.new h (Z.core.map ni),_,?_,.inr ⟨_,Z.core.length,0,rfl,.inl rfl,by simp,Bx.new L w h x.lo t1 _⟩,Ch.new L _ w h t1 _,by rw[L.next_new];have:=x.lo;omega⟩;have hb:¬(Z.core.length*8>140737488355328∨Z.core.length>140737488355328):=by omega
   rw[hvK2];simp only[appI,l'F,hb,if_false,Nat.mul_one,hall,and_self,if_true,h0]
 obtain⟨v,h',w',e1,s1,c1,lo1⟩:=hap;refine⟨v,h',w',?_,s1,c1,lo1⟩;obtain⟨f1,f2,f3⟩:=s1.flat;refine C.eq (F145_fn O ro) rfl rfl (f'f ?_);simp[F145,ZfB,ZfC,ZfE,m3,e1,f3,resE,resLE,rvE]
theorem SV.re {t1:Tag}{b0 i0:Nat}(x:SV O ro w h p s Z vE vcl vM vK vs)(hp:20<=p)(h0:w b0=(11,i0)): SV O ro (w.set b0 t1) h p s Z vE vcl vM vK vs:=by
 have n:∀i,((p,i):Tag)≠(11,i0):=λi=>by simp;omega
 have m:∀i,((9,i):Tag)≠(11,i0):=λi=>by simp
 exact⟨x.m.re h0 (n _),x.sE.re h0 (n _),⟨x.sC.s.re h0 (n _),x.sC.l,λi l u h1 h2=>(x.sC.a i l u h1 h2).re h0 (m _)⟩,x.sM.re h0 (m _),x.sK.re h0 (m _),x.lo⟩
def SlQ (O:HI H)(ro:Nat)(w:Own)(h:H)(p s:Nat)(Z':Solv)(vE vcl:Value)(vs:List Value)(g:H): Prop:=
 ∃vM' vK' w',SV O ro w' g p s Z' vE vcl vM' vK' vs∧Ch O (Ks p) w h w' g
theorem solve_q (C:LP' O ro c)(L:O.Law)(hp:20<=p)(x:SV O ro w h p s Z vE vcl vM vK vs)(hZ:∀l∈Z.clauses,(∀a∈l,a<most)∧l.length<=most){tl:Tag}(htl:¬K11 tl){vl:Value}{l:List Nat}(sl:Sm O ro w h tl 1 vl (l.map ni)){f n:Nat}{bud:Int}{Z':Solv}{an:Nat}(hs:solveP f n Z l bud=some (Z',an)):
  ∃h',c 160 [ptr s,vl,.int .i64 bud] h=some (ni an,h')∧SlQ O ro w h p s Z' vE vcl vs h':=by
 have hm:most=1000000:=rfl;have hm62:most62=4611686018427387904:=rfl;unfold solveP at hs;split at hs
 ·rename_i hc
  obtain⟨hh,hll,hb0,hE0,hE,hcl⟩:=hc;split at hs
  ·simp at hs
  rename_i S' an' ha
  split at hs
  ·rename_i hc2
   obtain⟨hcf,hmet,hvl,hhl⟩:=hc2;simp only[l'a,l'd]at hs;obtain⟨hZ',rfl⟩:=hs;have np:∀i,¬K11 (p,i):=λi=>by simp[K11];omega
   have x0:=x.hide hp;have sl0:=sl.hide htl;have e1:=have_q C L x0 hE (by omega) sl0 hh;obtain⟨v2,h2,w2,e2,s2,c2,lo2,hd1,hd2⟩:=dist_q C L x0 hE (by omega) sl0 hh (9,0);have x2:=x0.ch L c2;obtain⟨u3,h3,e3,q,bW,bH,bV,w3,wv3,rfl,y3,c3⟩:=new_q C L lo2 (np 1) x2.sE.m hE s2;have x3:=x2.ch L c3 (by simp[K11]) np;obtain⟨h4,e4,vC4,vT4,vS4,vK4,lv4,wv4,w4,y4,c4,B4⟩:=answer_q C L y3 (newP_bd hE hd1 hd2) x3.sC (np 2) hZ (by omega) ha;have x4:=x3.ch L c4 (by simp[K11]) np;have cA:Ch O (λu=>K11 u∨Ks p u) w.hide h w4 h4:=((c2.mono (by simp)).trans (c3.mono (λ_ h=>.inl h))).trans (c4.mono (λ_ h=>.inl h));have hw:IntKind.i64.wrap ((Z.conflicts:Int)+(S'.met:Int))=((Z.conflicts+S'.met:Nat):Int):=w'i;obtain⟨cf,hcf2⟩:=e' (Z.conflicts+S'.met);rw[<-hcf2]at hw hZ';obtain⟨h5,p5,x5,c5⟩:=x4.put L hp 4 (by omega) (ni cf) (vM':=vM) (vK':=vK) (m':=Z.model) (k':=Z.core) (cf:=cf) rfl x4.sM x4.sK;obtain⟨h6,p6,x6,c6⟩:=x5.put L hp 2 (by omega) (.slice none 0 0) (vM':=.slice none 0 0) (vK':=vK) (m':=[]) (k':=Z.core) (cf:=cf) rfl (Sm.nil _ _ _ _) x5.sK;obtain⟨h7,p7,x7,c7⟩:=x6.put L hp 3 (by omega) (.slice none 0 0) (vM':=.slice none 0 0) (vK':=.slice none 0 0) (m':=[]) (k':=[]) (cf:=cf) rfl (Sm.nil _ _ _ _) (Sm.nil _ _ _ _);have c57:=(c5.trans c6).trans c7;have k9:∀i,¬Ks p (9,i):=λi=>by simp[Ks];omega
   have k11:∀i,¬Ks p (11,i):=λi=>by simp[Ks];omega
   have k12:∀i,¬Ks p (12,i):=λi=>by simp[Ks];omega
   have y7:=y4.ch L c57 (k9 _) k11 k12;have cB:Ch O (λu=>K11 u∨Ks p u) w.hide h w4 h7:=cA.trans (c57.mono (λ_ h=>.inr h));have rs:¬s<ro:=by have:=x.m.lo;omega
   have m0:=x2.m.get 0 _ rfl;have m1:=x3.m.get 1 _ rfl;have m4:=x4.m.get 4 _ rfl;have q11:=y4.m.get 11 _ rfl;have q12:=y7.m.get 12 _ rfl;unfold ptr at e1 e2 e3 e4;have hb1:¬bud<0:=by omega
   have key:∃u h',c 160 [ptr s,vl,.int .i64 bud] h=some (u,h')∧(u=ni an'∧SlQ O ro w h p s Z' vE vcl vs h'):=by
    refine C.fn (F160_fn O ro) rfl rfl ?_;unfold F160;refine s'f ?_;simp[Zga,thenE];refine okE.seq (s'f ?_);simp[Zgb,thenE,hb1,e1];refine f'f ?_;simp[thenE];refine s'f ?_;simp[Zgd,thenE,e2];refine s'f ?_;simp[Zge,thenE,m0,e3];refine s'f ?_;simp[Zgf,thenE,m1,e4];refine s'f ?_;simp[Zgg,thenE,m4,q11,hw,p5,rs];refine s'f ?_;simp[Zgh,thenE,p6,rs];refine s'f ?_;simp[Zgi,thenE,p7,rs]
    by_cases h1:an'=1
    ·subst h1;obtain⟨v8,h8,w8,e8,s8,c8,lo8⟩:=model_q C L y7 (by omega) (by omega) (9,1);rw[hvl]at s8;have x8:=x7.ch L c8;obtain⟨h9,p9,x9,c9⟩:=x8.put L hp 2 (by omega) v8 (vM':=v8) (vK':=.slice none 0 0) (k':=[]) (cf:=cf) rfl s8 (Sm.nil _ _ _ _);obtain⟨f1,f2,f3⟩:=s8.flat;have cC:Ch O (λu=>K11 u∨Ks p u) w.hide h w8 h9:=(cB.trans (c8.mono (by simp))).trans (c9.mono (λ_ h=>.inr h));unfold ptr at e8;simp only[if_true,show ¬(1:Nat)=2 by omega,if_false]at hZ';refine f'f ?_;simp[Zgj,Zgk,Zgl,Zgo,e8,p9,f1,f2,rs,resE,resLE,rvE];have xf:=x9.join L cC hp;have cf':=cC.join hp;rw[<-hZ'];exact⟨_,_,_,xf,cf'⟩
    ·by_cases h2:an'=2
     ·subst h2;simp only[if_true,show ¬(2:Nat)=1 by omega,if_false]at hZ';obtain⟨w8,s8,x8,cC⟩:∃w8,Sm O ro w8 h7 (9,1) 1 vK4 (S'.core.map ni)∧SV O ro w8 h7 p s _ vE vcl _ _ vs∧Ch O (λu=>K11 u∨Ks p u) w.hide h w8 h7:=by
       rcases y7.sK.m with e|⟨b,mm,cp,e,ec,el,yb⟩
       ·exact⟨w4,.inl e,x7,cB⟩
       ·have hb:¬b<O.next h:=λhb=>hide_no w b (by rw[<-cB.ow b hb,yb.tag];exact .inl rfl)
        refine⟨w4.set b (9,1),.inr ⟨b,mm,cp,e,ec,el,⟨by simp[Own.set],yb.lo,yb.al,yb.cell⟩⟩,x7.re hp yb.tag,⟨cB.nx,λb' hb'=>?_,cB.fr⟩⟩;have:b'≠b:=by rintro rfl;exact hb hb'
        simp only[Own.set,if_neg this];exact cB.ow b' hb'
      obtain⟨h9,p9,x9,c9⟩:=x8.put L hp 3 (by omega) vK4 (vM':=.slice none 0 0) (vK':=vK4) (m':=[]) (k':=S'.core) (cf:=cf) rfl (Sm.nil _ _ _ _) s8;have cD:Ch O (λu=>K11 u∨Ks p u) w.hide h w8 h9:=cC.trans (c9.mono (λ_ h=>.inr h));obtain⟨f1,f2,f3⟩:=s8.flat;refine f'f ?_;simp[Zgj,Zgk,Zgm,Zgn,Zgo,q12,p9,f1,f2,rs,resE,resLE,rvE];have xf:=x9.join L cD hp;have cf':=cD.join hp;rw[<-hZ'];exact⟨_,_,_,xf,cf'⟩
     ·simp only[h1,h2,if_false]at hZ';have h1':((an':Int)==1)=false:=by rw[l'A];omega
      have h2':((an':Int)==2)=false:=by rw[l'A];omega
      refine f'f ?_;simp[Zgj,Zgk,Zgm,Zgo,h1,h2,h1',h2',resE,resLE,rvE];have xf:=x7.join L cB hp;have cf':=cB.join hp;rw[<-hZ'];exact⟨_,_,_,xf,cf'⟩
   obtain⟨u,h',e1,rfl,e2⟩:=key;exact⟨h',e1,e2⟩
  ·simp at hs
 ·simp at hs
end
end Go.Proofs.YtimdkminagnhgaaGreatDoor
