import Derived.Test.YtimdkminagnhgabGreatDoorQ25
set_option linter.unusedVariables false
set_option linter.unusedSimpArgs false
namespace Go.Ta
theorem distL_mem: ∀(l acc:List Nat),(∀a∈distL l acc,a∈l∨a∈acc)∧(distL l acc).length<=acc.length+l.length:=by
 intro l
 induction l with
 | nil=>intro acc;simp[distL]
 | cons b l ih=>
  intro acc;simp only[distL];split
  ·obtain⟨h1,h2⟩:=ih acc;refine⟨λa ha=>?_,by simp;omega⟩;rcases h1 a ha with h|h
   ·exact .inl (List.mem_cons_of_mem _ h)
   ·exact .inr h
  ·obtain⟨h1,h2⟩:=ih (acc++[b]);refine⟨λa ha=>?_,by simp at h2 ⊢;omega⟩;rcases h1 a ha with h|h
   ·exact .inl (List.mem_cons_of_mem _ h)
   ·rcases l'E.1 h with h|h
    ·exact .inr h
    ·simp at h;subst h;exact .inl (List.mem_cons_self ..)
def ZOk (Z:Solv): Prop:=Z.early.length<=192∧∀l∈Z.clauses,(∀a∈l,a<most)∧l.length<=most
theorem addP_ok {Z Z':Solv}{l:List Nat}(hs:addP Z l=some Z')(h:ZOk Z): ZOk Z'∧Z'.early=Z.early∧Z'.model=Z.model∧Z'.core=Z.core∧Z'.conflicts=Z.conflicts:=by
 have hm:most=1000000:=rfl;unfold addP at hs;split at hs
 ·rename_i hc
  simp only[l'a]at hs;have hE:=h.1;split at hs
  ·subst hs;exact⟨h,rfl,rfl,rfl,rfl⟩
  ·subst hs;refine⟨⟨h.1,λx hx=>?_⟩,rfl,rfl,rfl,rfl⟩;rcases l'E.1 hx with hx|hx
   ·exact h.2 x hx
   ·simp at hx;subst hx;obtain⟨h1,h2⟩:=distL_mem l [];refine⟨λa ha=>?_,by unfold dist;simp at h2;omega⟩;rcases h1 a ha with h3|h3
    ·have h4:=hc.1;unfold haveP at h4;rw[l'D]at h4;have:=h4 a h3;simp at this;omega
    ·simp at h3
 ·simp at hs
end Go.Ta
namespace Go.Ta
end Go.Ta
namespace Go.Ta
theorem places_get {l w:List Nat}{j x:Nat}(hx:l[j]?=some x): (placesP l w)[j]?=some (decide (x∈w) && !(decide (x∈l.take j))):=by
 have hj:=(l'b.1 hx).1;unfold placesP;rw[List.getElem?_map,List.getElem?_range hj];simp[hx]
theorem places_len (l w:List Nat): (placesP l w).length=l.length:=by simp[placesP]
theorem places_ext {l:List Nat}{a b:List Bool}(ha:a.length=l.length)(hb:b.length=l.length)(h:∀(j y:Nat),l[j]?=some y->a[j]?=b[j]?): a=b:=by
 apply List.ext_getElem?;intro j
 by_cases hj:j<l.length
 ·exact h j _ (l'c hj)
 ·rw[List.getElem?_eq_none (by omega),List.getElem?_eq_none (by omega)]
theorem places_set {l w:List Nat}{i k x:Nat}(hk:l[k]?=some x)(hno:x∉l.take k)(hw:w[i]?=some x): (placesP l (w.take i)).set k true=placesP l (w.take (i+1)):=by
 have hkl:=(l'b.1 hk).1;refine places_ext (l:=l) (by simp[places_len]) (places_len _ _) λj y hy=>?_;rw[places_get hy]
 by_cases e:j=k
 ·subst e;rw[hk]at hy;simp at hy;subst hy;rw[l'g (by rw[places_len];exact hkl),l'C,hw];simp[hno]
 ·rw[l'h (λh=>e h.symm),places_get hy,l'C,hw]
  by_cases hyx:y=x
  ·subst hyx;have hin:y∈l.take j↔True:=by
    simp only[iff_true];have hjk:k<j:=by
     have:¬j<k:=λhjk=>hno (l'i.2 ⟨j,by rw[l'j hjk];exact hy⟩);omega
    exact l'i.2 ⟨k,by rw[l'j hjk];exact hk⟩
   simp[hin]
  ·simp[hyx]
theorem places_skip {l w:List Nat}{i x:Nat}(hno:x∉l)(hw:w[i]?=some x): placesP l (w.take i)=placesP l (w.take (i+1)):=by
 refine places_ext (l:=l) (places_len _ _) (places_len _ _) λj y hy=>?_;rw[places_get hy,places_get hy,l'C,hw];have hyx:¬y=x:=by rintro rfl;exact hno (l'f hy)
 simp[hyx]
end Go.Ta
namespace Go.Proofs.YtimdkminagnhgabGreatDoor
open Go.Vm Go.Proofs Go.Ta
set_option maxHeartbeats 4000000
attribute [local simp] cSeq cReg reg to too onlyIf onlyIfo aMove mv' nl' fl' ld' ln' mk' ia' ik' ix' aNil aFld aLd aInt aPick aConv aUn unA ev upd_get isB envOf iA_add iA_sub iA_mul iA_eql iA_neq iA_lss iA_leq iA_gtr iA_geq cIf cRet cSkip okc_some aSt vc_int vc_bool vc_agg vc_str vc_ptr vc_sl ft_int ft_bool ft_str ft_ptr ft_sl tp_int tp_bool tp_agg tp_str tp_ptr tp_sl aBuild Instr.fill aCall cExit cBlk outOf ptr undef aNew aBox aIdxArr aLdN aShift aLenSl aIdx aMkSl aApp rangeA aExt aPtrNil aSlNil aBoolEq aMake aSliceSl boundA chk
section
variable {H:Type}{O:HI H}{ro:Nat}{c:CallT H}
variable {w w':Own}{h h':H}{q:Nat}{S:Srch}{bW bH bV:Nat}{vA vC vT vS vK:Value}{lv wv:List Value}
variable {p s:Nat}{Z:Solv}{vE vcl vM:Value}{vs:List Value}{cp:Nat}{N:Ck}{v1 v2:Value}
theorem addn_q (C:LP' O ro c)(L:O.Law)(hp:20<=p)(x:SV O ro w h p s Z vE vcl vM vK vs)(hZ:Go.Ta.ZOk Z){l:List Nat}{Z':Solv}(hs:addP Z l=some Z'):
  ∃vcl' vs' h' w',c 122 [ptr s,.slice (some ⟨O.next h,0,some 1⟩) l.length (l.length+1)] (O.new h (l.map ni))=some (ni 0,h')∧SV O ro w' h' p s Z' vE vcl' vM vK vs'∧Ch O (Ks p) w h w' h'∧Go.Ta.ZOk Z':=by
 have y0:=Bx.new L (ro:=ro) w h x.lo (13,0) (l.map ni);have c0:=Ch.new L (λ_=>False) w h (13,0) (l.map ni);have x0:=x.ch L c0 (by simp) (by simp);obtain⟨vcl',vs',h',w',e,x1,c1⟩:=add_q C L hp x0 hZ.1 (.inr ⟨_,l.length,l.length+1,rfl,.inr rfl,by simp,y0⟩) hs;exact⟨vcl',vs',h',w',e,x1,(c0.mono (by simp)).trans c1,(addP_ok hs hZ).1⟩
def earlyL (N:Ck)(i:Nat): List Bool:=(List.range i).map λv=>decide (v<=N.ni+N.las.length)
def FvI (O:HI H)(ro:Nat)(w:Own)(h:H)(cp p s:Nat)(N:Ck)(vr:Value)(n:Nat)(t:Env)(g:H): Prop:=
 t 0 = .pointer (some ⟨cp,0,none⟩)∧t 2=vr∧t 3 = .pointer (some ⟨s,0,none⟩)∧∃i vE w1,t 4=ni i∧i+n=N.nv∧SV O ro w1 g p s ⟨earlyL N i,[],[],[],0⟩ vE (.slice none 0 0) (.slice none 0 0) (.slice none 0 0) []∧Ch O (Ks p) w h w1 g
theorem frame1_q (C:LP' O ro c)(L:O.Law)(hp:20<=p)(X:CN O ro w h cp N v1 v2){vr:Value}{n:Nat}{t:Env}{g:H}(I:FvI O ro w h cp p s N vr n t g):
  okE c (W82_0 O Tryz.prog ro) (t,g) (λe t' g'=>(e = .normal∧∃n',n'<n∧FvI O ro w h cp p s N vr n' t' g')∨(e≠.normal∧(outOf 0 e = .normal∧t' 0 = .pointer (some ⟨cp,0,none⟩)∧t' 2=vr∧t' 3 = .pointer (some ⟨s,0,none⟩)∧∃vE w1,SV O ro w1 g' p s ⟨earlyL N N.nv,[],[],[],0⟩ vE (.slice none 0 0) (.slice none 0 0) (.slice none 0 0) []∧Ch O (Ks p) w h w1 g'))):=by
 obtain⟨d0,d2,d3,i,vE,w1,d4,hin,x1,c1⟩:=I;have k4:∀i,¬Ks p (4,i):=λi=>by simp[Ks];omega
 have X1:=X.ch L c1 k4;have e1:=nvars_q C L X1;unfold ptr at e1;have hn:=X.nv
 cases n with
 | zero=>
  obtain rfl:i=N.nv:=by omega
  refine f'f ?_;simp[W82_0,ZlD,d0,d2,d3,d4,e1];exact⟨_,_,x1,c1⟩
 | succ n=>
  have hi:i<N.nv:=by omega
  have hi':(i:Int)<N.nv:=by omega
  have m0:=X1.m.get 0 _ rfl;have m1:=X1.m.get 1 _ rfl;obtain⟨a1,q1,f1⟩:=X1.len1;rw[f1]at m1;have hn2:=hn;unfold Ck.nv at hn2;have h2:IntKind.i64.wrap ((N.ni:Int)+N.las.length)=((N.ni+N.las.length:Nat):Int):=by rw[wrap_id (by omega) (by omega)];omega
  have hwi:IntKind.i64.wrap ((i:Int)+1)=((i+1:Nat):Int):=by rw[wrap_id (by omega) (by omega)];omega
  have hel:(earlyL N i).length=i:=by simp[earlyL]
  obtain⟨vE2,h3,w3,e3,x3,c3⟩:=newvar_q C L hp x1 (decide (i<=N.ni+N.las.length)) (by show (earlyL N i).length<192;omega);have hst:earlyL N i++[decide (i<=N.ni+N.las.length)]=earlyL N (i+1):=by simp[earlyL,l'B]
  simp only[hst]at x3;obtain⟨z,hz⟩:∃z,z=N.ni+N.las.length:=⟨_,rfl⟩;rw[<-hz]at h2 e3;obtain⟨i',hi2⟩:∃i',i'=i+1:=⟨_,rfl⟩;rw[<-hi2]at hwi x3;unfold ptr at e3;refine f'f ?_;simp[W82_0,ZlD,ZlE,ZlF,d0,d2,d3,d4,e1,hi,hi',m0,m1,h2,e3,hwi];exact⟨n,by omega,by simp[d0],by simp[d2],by simp[d3],i',vE2,w3,by simp,by omega,x3,c1.trans c3⟩
def FgI (O:HI H)(ro:Nat)(w:Own)(h:H)(cp p s k0:Nat)(N:Ck)(vr:Value)(Zf:Solv)(n:Nat)(t:Env)(g:H): Prop:=
 t 0 = .pointer (some ⟨cp,0,none⟩)∧t 2=vr∧t 3 = .pointer (some ⟨s,0,none⟩)∧∃i Z1 vE vcl vM vK vs w1,t 5=ni i∧i+n=N.gts.length∧addsP (gateCl N (N.gts.drop i) i) Z1=some Zf∧Go.Ta.ZOk Z1∧SV O ro w1 g p s Z1 vE vcl vM vK vs∧Ch O (λu=>Ks p u∨u=(14,k0)) w h w1 g
def FgQ (O:HI H)(ro:Nat)(w:Own)(h:H)(p s k0:Nat)(Zf:Solv)(g:H): Prop:=
 ∃vE vcl vM vK vs w1,Go.Ta.ZOk Zf∧SV O ro w1 g p s Zf vE vcl vM vK vs∧Ch O (λu=>Ks p u∨u=(14,k0)) w h w1 g
theorem addsP_cons {l:List Nat}{r:List (List Nat)}{Z Zf:Solv}(h:addsP (l :: r) Z=some Zf): ∃Z1,addP Z l=some Z1∧addsP r Z1=some Zf:=by
 simp only[addsP]at h;split at h
 ·simp at h
 ·rename_i Z1 h1;exact⟨Z1,h1,h⟩
theorem frame2_q (C:LP' O ro c)(L:O.Law)(hp:20<=p){k0:Nat}(X:CN O ro w h cp N v1 v2){vr:Value}{Zf:Solv}{n:Nat}{t:Env}{g:H}(I:FgI O ro w h cp p s k0 N vr Zf n t g):
  okE c (W82_1 O Tryz.prog ro) (t,g) (λe t' g'=>(e = .normal∧∃n',n'<n∧FgI O ro w h cp p s k0 N vr Zf n' t' g')∨(e≠.normal∧(outOf 2 e = .normal∧t' 2=vr∧t' 3 = .pointer (some ⟨s,0,none⟩)∧FgQ O ro w h p s k0 Zf g'))):=by
 have hm:most=1000000:=rfl;obtain⟨d0,d2,d3,i,Z1,vE,vcl,vM,vK,vs,w1,d5,hin,had,hZ1,x1,c1⟩:=I;have k4:∀i,¬(Ks p (4,i)∨((4,i):Tag)=(14,k0)):=λi=>by simp[Ks];omega
 have X1:=X.ch L c1 k4;have m2:=X1.m.get 2 _ rfl;have hn:=X.nv;unfold Ck.nv at hn
 cases n with
 | zero=>
  obtain rfl:i=N.gts.length:=by omega
  simp only[List.drop_length,gateCl,addsP,l'a]at had;subst had;obtain⟨a2,q2,f2⟩:=X1.len2;rw[f2]at m2;refine f'f ?_;simp[W82_1,ZlI,d0,d2,d3,d5,m2];exact⟨_,_,_,_,_,_,hZ1,x1,c1⟩
 | succ n=>
  have hi:i<N.gts.length:=by omega
  have hi':(i:Int)<N.gts.length:=by omega
  obtain⟨y,hy⟩:∃y,N.gts[i]?=some y:=⟨_,l'c hi⟩;have hdrop:N.gts.drop i=y :: N.gts.drop (i+1):=by
   have:=(l'b.1 hy).2;rw[<-this];exact l's hi
  rw[hdrop]at had;obtain⟨ya,yb⟩:=y;simp only[gateCl]at had;have hb:=X.b2 _ (l'f hy);obtain⟨bG,qG,fG,hcs⟩:=X1.getG i hy;have eg:=gateLit_q C L X1 i (by omega);have hlg:N.lgt i<1000:=by unfold Ck.lgt;omega
  have hx1:=xor_one (N.lgt i) (by omega);have hx2:=xor_one ya (by omega);have hx3:=xor_one yb (by omega);obtain⟨gl,hgl⟩:∃gl,gl=N.lgt i:=⟨_,rfl⟩;rw[<-hgl]at had eg hx1;obtain⟨gx,hgx⟩:∃gx,gx=gl ^^^ 1:=⟨_,rfl⟩;obtain⟨ax,hax⟩:∃ax,ax=ya ^^^ 1:=⟨_,rfl⟩;obtain⟨bx,hbx⟩:∃bx,bx=yb ^^^ 1:=⟨_,rfl⟩;rw[<-hgx]at had hx1;rw[<-hax]at had hx2;rw[<-hbx]at had hx3;obtain⟨Z2,a2,had⟩:=addsP_cons had;obtain⟨Z3,a3,had⟩:=addsP_cons had;obtain⟨Z4,a4,had⟩:=addsP_cons had;have z1:=Bx.new L (ro:=ro) w1 g x1.lo (14,k0) [.int .i64 0,.int .i64 0];have cz:=Ch.new L (λu=>u=((14,k0):Tag)) w1 g (14,k0) [.int .i64 0,.int .i64 0];obtain⟨g2,p2,y2,cy⟩:=Bx.over L (K:=λu=>u=((14,k0):Tag)) rfl z1 (show [ni ya,ni yb].length = _ from rfl);have c2:=cz.trans cy;have k9:∀i,¬((9,i):Tag)=(14,k0):=λi=>by simp
  have kp:∀i,¬((p,i):Tag)=(14,k0):=λi=>by simp;omega
  have x2:=x1.ch L c2 k9 kp;obtain⟨vcl3,vs3,g3,w3,e3,x3,c3,hZ3⟩:=addn_q C L hp x2 hZ1 a2;obtain⟨vcl4,vs4,g4,w4,e4,x4,c4,hZ4⟩:=addn_q C L hp x3 hZ3 a3;obtain⟨vcl5,vs5,g5,w5,e5,x5,c5,hZ5⟩:=addn_q C L hp x4 hZ4 a4;have n14:¬Ks p (14,k0):=by simp[Ks];omega
  have y3:=y2.ch L c3 n14;have y4:=y3.ch L c4 n14;have q20:=y2.get 0 _ rfl;have q31:=y3.get 1 _ rfl;have q40:=y4.get 0 _ rfl;have q41:=y4.get 1 _ rfl;have rz:¬O.next g<ro:=by have:=x1.lo;omega
  have c15:=((c1.trans (c2.mono (λ_ h=>.inr h))).trans (c3.mono (λ_ h=>.inl h))).trans ((c4.trans c5).mono (λ_ h=>.inl h));have hwi:IntKind.i64.wrap ((i:Int)+1)=((i+1:Nat):Int):=by rw[wrap_id (by omega) (by omega)];omega
  obtain⟨i',hi2⟩:∃i',i'=i+1:=⟨_,rfl⟩;rw[<-hi2]at hwi had;unfold ptr at eg e3 e4 e5;simp only[l'n,l'o,l'J,l'K,l'F,Nat.reduceAdd]at e3 e4 e5;rw[fG]at m2;clear c1 c2 c3 c4 c5 cz cy;have hr2:List.range 2=[0,1]:=rfl;have hr3:List.range 3=[0,1,2]:=rfl;refine f'f ?_;simp[hr2,hr3,W82_1,ZlI,ZlJ,ZlK,ZlL,ZlM,ZlN,ZlO,d0,d2,d3,d5,m2,hi,hi',eg,hcs,p2,rz,hx1,hx2,hx3,q20,q31,q40,q41,e3,e4,e5,hwi];exact⟨n,by omega,by simp[d0],by simp[d2],by simp[d3],i',Z4,_,_,_,_,_,w5,by simp,by omega,had,hZ5,x5,c15⟩
end
section
variable {H:Type}{O:HI H}{ro:Nat}{c:CallT H}
variable {w w':Own}{h h':H}{q:Nat}{S:Srch}{bW bH bV:Nat}{vA vC vT vS vK:Value}{lv wv:List Value}
variable {p s:Nat}{Z:Solv}{vE vcl vM:Value}{vs:List Value}{cp:Nat}{N:Ck}{v1 v2:Value}
theorem load92 (h:H)(b:Nat): loadA Tryz.prog O 135 (.pointer (some ⟨b,0,none⟩)) h=(cellsA O h b 0 2).map λl=>.agg l.toArray:=by
 have hi:(Tryz.prog.info? 135).map (·.size)=some 2:=by kernel_rfl
 cases hx:Tryz.prog.info? 135 with
 | none=>rw[hx]at hi;simp at hi
 | some i=>
  rw[hx]at hi;simp only[l'l,l'a]at hi;simp only[loadA,Tryz.underlying135,hx,hi]
def FrQ (O:HI H)(ro:Nat)(w:Own)(h:H)(p:Nat)(Zf:Solv)(u:Value)(g:H): Prop:=
 ∃s vE vcl vM vK vs w1,u = .agg #[ptr s,.slice none 0 0]∧Go.Ta.ZOk Zf∧SV O ro w1 g p s Zf vE vcl vM vK vs∧Ch O (Ks p) w h w1 g
theorem frame_q (C:LP' O ro c)(L:O.Law)(lo:ro<=O.next h)(hp:20<=p)(X:CN O ro w h cp N v1 v2){F:Go.Ta.Fr}(hs:newFrP N=some F):
  ∃u h',c 82 [ptr cp] h=some (u,h')∧FrQ O ro w h p F.s u h':=by
 have hn:=X.nv;unfold newFrP at hs;split at hs
 ·simp at hs
 rename_i Zf had
 simp only[l'a]at hs;subst hs;obtain⟨k0,hk⟩:=fresh_big w (O.next h);have hk0:∀b,b<O.next h->w b≠((14,k0):Tag):=λb hb e=>by have:=hk b hb;rw[e]at this;simp at this
 have hk1:∀b,b<O.next h->w b≠((14,k0+1):Tag):=λb hb e=>by have:=hk b hb;rw[e]at this;simp at this;omega
 have yr:=Bx.new L (ro:=ro) w h lo (14,k0+1) [.pointer none,.slice none 0 0];have cr:=Ch.new L (λ_=>False) w h (14,k0+1) [.pointer none,.slice none 0 0];have rr:¬O.next h<ro:=by omega
 have lo1:=l'G lo cr.nx;obtain⟨s,hB,wB,eB,xB,cB⟩:=make_q (w:=w.set (O.next h) (14,k0+1)) C L lo1 p;have XB:=(X.ch L cr (by simp)).ch L cB (by simp);have yB:=yr.ch L cB (by simp);obtain⟨Z1,a1,had⟩:=addsP_cons had;have ok0:Go.Ta.ZOk ⟨earlyL N N.nv,[],[],[],0⟩:=⟨by simp[earlyL];exact hn,by simp⟩;unfold ptr at eB;refine C.fn (F82_fn O ro) rfl rfl ?_;unfold F82;refine s'f ?_;simp[ZlA,thenE];refine s'f ?_;simp[ZlB,thenE,eB];refine okE.seq (s'f ?_);simp[ZlC,thenE];refine okE.blk ?_;refine okE.mono (okE.loop (Q:=λe t' g'=>outOf 0 e = .normal∧t' 0 = .pointer (some ⟨cp,0,none⟩)∧t' 2 = .pointer (some ⟨O.next h,0,none⟩)∧t' 3 = .pointer (some ⟨s,0,none⟩)∧∃vE w1,SV O ro w1 g' p s ⟨earlyL N N.nv,[],[],[],0⟩ vE (.slice none 0 0) (.slice none 0 0) (.slice none 0 0) []∧Ch O (Ks p) wB hB w1 g') (FvI O ro wB hB cp p s N (.pointer (some ⟨O.next h,0,none⟩))) (λn t g I=>frame1_q C L hp XB I) N.nv _ _ ⟨by simp,by simp,by simp,0,_,wB,by simp,by omega,by simpa [earlyL]using xB,Ch.refl _ _ _⟩) ?_;rintro e t g ⟨hr,d0,d2,d3,vE1,w1,x1,c1⟩;rw[hr];simp only[thenE];obtain⟨vcl2,vs2,g2,w2,e2,x2,c2,hZ2⟩:=addn_q C L hp x1 ok0 (l:=[1]) a1;unfold ptr at e2;have e2':c 122 [.pointer (some ⟨s,0,none⟩),.slice (some ⟨O.next g,0,some 1⟩) 1 2] (O.new g [.int .i64 1])=some (ni 0,g2):=e2;refine s'f ?_;simp[ZlG,thenE,d3,e2'];refine okE.seq (s'f ?_);simp[ZlH,thenE];refine okE.blk ?_;refine okE.mono (okE.loop (Q:=λe t' g'=>outOf 2 e = .normal∧t' 2 = .pointer (some ⟨O.next h,0,none⟩)∧t' 3 = .pointer (some ⟨s,0,none⟩)∧FgQ O ro wB hB p s k0 Zf g') (FgI O ro wB hB cp p s k0 N (.pointer (some ⟨O.next h,0,none⟩)) Zf) (λn t g I=>frame2_q C L hp XB I) N.gts.length _ _ ⟨by simp[d0],by simp[d2],by simp[d3],0,Z1,_,_,_,_,_,w2,by simp,by omega,by simpa using had,hZ2,x2,(c1.trans c2).mono (λ_ h=>.inl h)⟩) ?_;rintro e t' g' ⟨hr,d2,d3,vE3,vcl3,vM3,vK3,vs3,w3,hZ3,x3,c3⟩;rw[hr];simp only[thenE];have n1:¬(Ks p (14,k0+1)∨((14,k0+1):Tag)=(14,k0)):=by simp[Ks];omega
 have y3:=yB.ch L c3 n1;obtain⟨g4,p4,y4,c4⟩:=Bx.over L (K:=λu=>u=((14,k0+1):Tag)) rfl y3 (show [ptr s,.slice none 0 0].length = _ from rfl);have k9:∀i,¬((9,i):Tag)=(14,k0+1):=λi=>by simp
 have kp:∀i,¬((p,i):Tag)=(14,k0+1):=λi=>by simp;omega
 have x4:=x3.ch L c4 k9 kp;have hall:=y4.all;simp only[l'n,l'o]at hall;unfold ptr at p4 hall;have hl:=load92 (O:=O) g4 (O.next h);have cc:Ch O (Ks p) w h w3 g4:=by
  have ca:Ch O (λu=>Ks p u∨u=(14,k0)∨u=(14,k0+1)) w h w3 g4:=(((cr.trans cB).mono (by simp)).trans (c3.mono (λu h=>by rcases h with h|h;exact .inl h;exact .inr (.inl h)))).trans (c4.mono (λu h=>.inr (.inr h)));exact⟨ca.nx,ca.ow,λb hb hn=>ca.fr b hb (by rintro (h1|h1|h1);exact hn h1;exact hk0 b hb h1;exact hk1 b hb h1)⟩
 refine f'f ?_;simp[ZlP,d2,d3,rr,p4,resE,resLE,rvE,hl,hall];exact⟨s,_,_,_,_,_,w3,rfl,hZ3,x4,cc⟩
end
section
variable {H:Type}{O:HI H}{ro:Nat}{c:CallT H}
variable {w w':Own}{h h':H}{q:Nat}{S:Srch}{bW bH bV:Nat}{vA vC vT vS vK:Value}{lv wv:List Value}
variable {p s:Nat}{Z:Solv}{vE vcl vM:Value}{vs:List Value}{cp:Nat}{N:Ck}{v1 v2:Value}
def RsI (O:HI H)(ro:Nat)(w:Own)(h:H)(cp p s b o:Nat)(N:Ck)(Zf:Solv)(n:Nat)(t:Env)(g:H): Prop:=
 t 0 = .pointer (some ⟨b,o,none⟩)∧t 1 = .pointer (some ⟨cp,0,none⟩)∧∃i Z1 vE vcl vM vK vs w1,t 4=ni i∧i+n=N.las.length∧addsP (resetCl N (N.las.drop i) i) Z1=some Zf∧Go.Ta.ZOk Z1∧SV O ro w1 g p s Z1 vE vcl vM vK vs∧Ch O (Ks p) w h w1 g
def RsQ (O:HI H)(ro:Nat)(w:Own)(h:H)(p s:Nat)(Zf:Solv)(g:H): Prop:=
 ∃vE vcl vM vK vs w1,Go.Ta.ZOk Zf∧SV O ro w1 g p s Zf vE vcl vM vK vs∧Ch O (Ks p) w h w1 g
theorem resets1_q (C:LP' O ro c)(L:O.Law)(hp:20<=p)(X:CN O ro w h cp N v1 v2){b o:Nat}{tb:Tag}{lb:List Value}(yb:Bx O ro w h tb b lb)(htb:¬Ks p tb)(hb:lb[o]?=some (ptr s)){Zf:Solv}{n:Nat}{t:Env}{g:H}(I:RsI O ro w h cp p s b o N Zf n t g):
  okE c (W83_0 O Tryz.prog ro) (t,g) (λe t' g'=>(e = .normal∧∃n',n'<n∧RsI O ro w h cp p s b o N Zf n' t' g')∨(e≠.normal∧(outOf 0 e = .normal∧RsQ O ro w h p s Zf g'))):=by
 have hm:most=1000000:=rfl;obtain⟨d0,d1,i,Z1,vE,vcl,vM,vK,vs,w1,d4,hin,had,hZ1,x1,c1⟩:=I;have k4:∀i,¬Ks p (4,i):=λi=>by simp[Ks];omega
 have X1:=X.ch L c1 k4;have m1:=X1.m.get 1 _ rfl;have hn:=X.nv;unfold Ck.nv at hn
 cases n with
 | zero=>
  obtain rfl:i=N.las.length:=by omega
  simp only[List.drop_length,resetCl,addsP,l'a]at had;subst had;obtain⟨a2,q2,f2⟩:=X1.len1;rw[f2]at m1;refine f'f ?_;simp[W83_0,ZlR,d0,d1,d4,m1];exact⟨_,_,_,_,_,_,hZ1,x1,c1⟩
 | succ n=>
  have hi:i<N.las.length:=by omega
  have hi':(i:Int)<N.las.length:=by omega
  obtain⟨y,hy⟩:∃y,N.las[i]?=some y:=⟨_,l'c hi⟩;have hdrop:N.las.drop i=y :: N.las.drop (i+1):=by
   have:=(l'b.1 hy).2;rw[<-this];exact l's hi
  rw[hdrop]at had;obtain⟨ya,yr⟩:=y;simp only[resetCl]at had;obtain⟨bG,qG,fG,hc0,hc1⟩:=X1.getL i hy;have eg:=latLit_q C L X1 i (by omega);have hlg:N.lla i<1000:=by unfold Ck.lla;omega
  have hx1:=xor_one (N.lla i) (by omega);obtain⟨gl,hgl⟩:∃gl,gl=N.lla i:=⟨_,rfl⟩;rw[<-hgl]at had eg hx1;obtain⟨gx,hgx⟩:∃gx,gx=gl ^^^ 1:=⟨_,rfl⟩;rw[<-hgx]at had hx1;have hwi:IntKind.i64.wrap ((i:Int)+1)=((i+1:Nat):Int):=by rw[wrap_id (by omega) (by omega)];omega
  obtain⟨i',hi2⟩:∃i',i'=i+1:=⟨_,rfl⟩;rw[<-hi2]at hwi had;have yb1:=yb.ch L c1 htb;have kb:=yb1.get o _ hb;unfold ptr at eg kb;rw[fG]at m1
  by_cases h0:yr=0
  ·subst h0;simp only[if_true]at had;obtain⟨Z2,a2,had⟩:=addsP_cons had;obtain⟨vcl3,vs3,g3,w3,e3,x3,c3,hZ3⟩:=addn_q C L hp x1 hZ1 a2;unfold ptr at e3;simp only[l'n,l'o,l'J,l'K,l'F,Nat.reduceAdd]at e3;have hc1':O.cell g bG (i*2+1)=some (.int .i64 0):=hc1;refine f'f ?_;simp[W83_0,ZlR,ZlS,ZlT,ZlU,ZlV,ZlY,d0,d1,d4,m1,hi,hi',eg,hc1',kb,hx1,e3,hwi];exact⟨n,by omega,by simp[d0],by simp[d1],i',Z2,_,_,_,_,_,w3,by simp,by omega,had,hZ3,x3,c1.trans c3⟩
  ·by_cases h1:yr=1
   ·subst h1;simp only[h0,if_false,if_true]at had;obtain⟨Z2,a2,had⟩:=addsP_cons had;obtain⟨vcl3,vs3,g3,w3,e3,x3,c3,hZ3⟩:=addn_q C L hp x1 hZ1 a2;unfold ptr at e3;simp only[l'n,l'o,l'J,l'K,l'F,Nat.reduceAdd]at e3;have hc1':O.cell g bG (i*2+1)=some (.int .i64 1):=hc1;refine f'f ?_;simp[W83_0,ZlR,ZlS,ZlT,ZlU,ZlW,ZlX,ZlY,d0,d1,d4,m1,hi,hi',eg,hc1',kb,hx1,e3,hwi];exact⟨n,by omega,by simp[d0],by simp[d1],i',Z2,_,_,_,_,_,w3,by simp,by omega,had,hZ3,x3,c1.trans c3⟩
   ·simp only[h0,h1,if_false,List.nil_append]at had;have g0:((yr:Int)==0)=false:=by rw[l'A];omega
    have g1:((yr:Int)==1)=false:=by rw[l'A];omega
    refine f'f ?_;simp[W83_0,ZlR,ZlS,ZlT,ZlU,ZlW,ZlY,d0,d1,d4,m1,hi,hi',eg,hc1,h0,h1,g0,g1,hwi];exact⟨n,by omega,by simp[d0],by simp[d1],i',Z1,_,_,_,_,_,w1,by simp,by omega,had,hZ1,x1,c1⟩
theorem resets_q (C:LP' O ro c)(L:O.Law)(hp:20<=p)(X:CN O ro w h cp N v1 v2){b o:Nat}{tb:Tag}{lb:List Value}(yb:Bx O ro w h tb b lb)(htb:¬Ks p tb)(hb:lb[o]?=some (ptr s))(x:SV O ro w h p s Z vE vcl vM vK vs)(hZ:Go.Ta.ZOk Z){Zf:Solv}(hs:addsP (resetCl N N.las 0) Z=some Zf):
  ∃h',c 83 [.pointer (some ⟨b,o,none⟩),ptr cp] h=some (.tuple #[],h')∧RsQ O ro w h p s Zf h':=by
 have key:∃u h',c 83 [.pointer (some ⟨b,o,none⟩),ptr cp] h=some (u,h')∧(u = .tuple #[]∧RsQ O ro w h p s Zf h'):=by
  refine C.fn (F83_fn O ro) rfl rfl ?_;unfold F83;refine s'f ?_;simp[ZlQ,thenE];refine okE.blk ?_;refine okE.mono (okE.loop (Q:=λe t' g'=>outOf 0 e = .normal∧RsQ O ro w h p s Zf g') (RsI O ro w h cp p s b o N Zf) (λn t g I=>resets1_q C L hp X yb htb hb I) N.las.length _ _ ⟨by simp,by simp,0,Z,_,_,_,_,_,w,by simp,by omega,by simpa using hs,hZ,x,Ch.refl _ _ _⟩) ?_;rintro e t g ⟨hr,hq⟩;rw[hr];simp[resE,resLE,rvE];exact hq
 obtain⟨u,h',e1,rfl,e2⟩:=key;exact⟨h',e1,e2⟩
theorem or_nat (a b:Nat)(ha:a<9223372036854775808)(hb:b<9223372036854775808): intA .or .i64 (a:Int) (b:Int)=some (ni (a ||| b))∧a ||| b<9223372036854775808:=by
 have h1:(BitVec.ofInt 64 (a:Int) ||| BitVec.ofInt 64 (b:Int)).toNat=a ||| b:=by
  rw[BitVec.toNat_or];have e1:(BitVec.ofInt 64 (a:Int)).toNat=a:=by rw[BitVec.toNat_ofInt];omega
  have e2:(BitVec.ofInt 64 (b:Int)).toNat=b:=by rw[BitVec.toNat_ofInt];omega
  rw[e1,e2]
 have hx:a ||| b<9223372036854775808:=Nat.or_lt_two_pow (n:=63) ha hb;have h2:intA .or .i64 (a:Int) (b:Int)=some (.int .i64 (IntKind.i64.wrap ((BitVec.ofInt 64 (a:Int) ||| BitVec.ofInt 64 (b:Int)).toNat:Int))):=rfl;exact⟨by rw[h2,h1,wrap_id (by omega) (by omega)],hx⟩
theorem shl_one (j:Nat)(hj:j<=60): shiftA .shl .i64 1 (j:Int)=some (ni (2^j))∧2^j<9223372036854775808:=by
 have hlt:2^j<9223372036854775808:=Nat.lt_of_le_of_lt (Nat.pow_le_pow_right (by omega) hj) (by decide);refine⟨?_,hlt⟩;have h1:shiftA .shl .i64 1 (j:Int)=if (j:Int)<0 then none else some (.int .i64 (IntKind.i64.wrap (1*2^(min ((j:Int).toNat) 64)))):=rfl
 rw[h1,if_neg (by omega),Int.toNat_natCast,Nat.min_eq_left (by omega),Int.one_mul];have h2:((2:Int)^j)=((2^j:Nat):Int):=by simp
 rw[h2];generalize 2^j=d at hlt ⊢;rw[wrap_id (by omega) (by omega)]
def bitsF (Z:Solv)(first i:Nat): Nat:=(List.range i).foldl (λn j=>if Z.model.getD (first+j) false then n ||| 2^j else n) 0
theorem bitsF_succ (Z:Solv)(first i:Nat): bitsF Z first (i+1)=if Z.model.getD (first+i) false then bitsF Z first i ||| 2^i else bitsF Z first i:=by
 unfold bitsF;rw[l'B,List.foldl_append];rfl
def BtI (b o first count:Nat)(Z:Solv)(h:H)(n:Nat)(t:Env)(g:H): Prop:=
 g=h∧t 0 = .pointer (some ⟨b,o,none⟩)∧t 1=ni first∧t 2=ni count∧∃i,t 8=ni i∧i+n=count∧t 7=ni (bitsF Z first i)∧bitsF Z first i<9223372036854775808
theorem bits_q (C:LP' O ro c)(L:O.Law){b o:Nat}{tb:Tag}{lb:List Value}(yb:Bx O ro w h tb b lb)(hb:lb[o]?=some (ptr s))(x:SV O ro w h p s Z vE vcl vM vK vs){first count:Nat}(hc:count<=60)(hM:first+count<=Z.model.length)(hM2:Z.model.length<=192):
  c 191 [.pointer (some ⟨b,o,none⟩),ni first,ni count] h=some (ni (bitsP Z first count),h)∧bitsP Z first count<9223372036854775808:=by
 have key:∃u h',c 191 [.pointer (some ⟨b,o,none⟩),ni first,ni count] h=some (u,h')∧(u=ni (bitsF Z first count)∧h'=h∧bitsF Z first count<9223372036854775808):=by
  refine C.fn (F191_fn O ro) rfl rfl ?_;unfold F191;have kb:=yb.get o _ hb;unfold ptr at kb;refine s'f ?_;simp[ZoE,thenE];refine s'f ?_;simp[ZoF,thenE];refine okE.seq (s'f ?_);simp[ZoG,thenE];refine okE.blk ?_;refine okE.mono (okE.loop (Q:=λe t' g'=>outOf 0 e = .normal∧t' 7=ni (bitsF Z first count)∧g'=h∧bitsF Z first count<9223372036854775808) (BtI b o first count Z h) ?_ count _ _ ⟨rfl,by simp,by simp,by simp,0,by simp,by omega,by simp[bitsF],by simp[bitsF]⟩) ?_
  ·rintro n t g ⟨rfl,d0,d1,d2,i,d8,hin,d7,hlt⟩
   cases n with
   | zero=>
    obtain rfl:i=count:=by omega
    refine f'f ?_;simp[W191_0,ZoH,d0,d1,d2,d7,d8];exact hlt
   | succ n=>
    have hi:i<count:=by omega
    have hi':(i:Int)<count:=by omega
    have hwf:IntKind.i64.wrap ((first:Int)+i)=((first+i:Nat):Int):=by rw[wrap_id (by omega) (by omega)];omega
    have hwi:IntKind.i64.wrap ((i:Int)+1)=((i+1:Nat):Int):=by rw[wrap_id (by omega) (by omega)];omega
    obtain⟨e,he⟩:∃e,Z.model[first+i]?=some e:=⟨_,l'c (by omega)⟩;have hgd:Z.model.getD (first+i) false=e:=by rw[l'r,he];rfl
    have hsu:=bitsF_succ Z first i
    rw[hgd]at hsu;have ev:=value_q C L x he hM2;obtain⟨fi,hfi⟩:∃fi,fi=first+i:=⟨_,rfl⟩
    rw[<-hfi]at hwf ev;have hsh:=shl_one i (by omega);have hor:=or_nat (bitsF Z first i) (2^i) hlt hsh.2;obtain⟨i',hi2⟩:∃i',i'=i+1:=⟨_,rfl⟩;rw[<-hi2]at hwi hsu;obtain⟨pw,hpw⟩:∃pw,pw=2^i:=⟨_,rfl⟩;rw[<-hpw]at hsh hor hsu;unfold ptr at ev
    cases e with
    | true=>
     simp only[if_true]at hsu;rw[<-hsu]at hor;refine f'f ?_;simp[W191_0,ZoH,ZoI,ZoJ,ZoK,ZoL,d0,d1,d2,d7,d8,hi,hi',kb,hwf,ev,hsh.1,hor.1,hwi];exact⟨n,by omega,rfl,by simp[d0],by simp[d1],by simp[d2],i',by simp,by omega,by simp,hor.2⟩
    | false=>
     simp only[l'y,if_false]at hsu;refine f'f ?_;simp[W191_0,ZoH,ZoI,ZoJ,ZoL,d0,d1,d2,d7,d8,hi,hi',kb,hwf,ev,hwi];exact⟨n,by omega,rfl,by simp[d0],by simp[d1],by simp[d2],i',by simp,by omega,by simp[d7,hsu],by rw[hsu];exact hlt⟩
  ·rintro e t g ⟨hr,d7,rfl,hlt⟩;rw[hr];simp only[thenE];refine f'f ?_;simp[ZoM,d7,resE,resLE,rvE];exact hlt
 obtain⟨u,h',e1,rfl,rfl,e2⟩:=key;exact⟨e1,e2⟩
end
theorem xor_nat (a b:Nat)(ha:a<9223372036854775808)(hb:b<9223372036854775808): intA .xor .i64 (a:Int) (b:Int)=some (ni (a ^^^ b)):=by
 have h1:(BitVec.ofInt 64 (a:Int) ^^^ BitVec.ofInt 64 (b:Int)).toNat=a ^^^ b:=by
  rw[BitVec.toNat_xor];have e1:(BitVec.ofInt 64 (a:Int)).toNat=a:=by rw[BitVec.toNat_ofInt];omega
  have e2:(BitVec.ofInt 64 (b:Int)).toNat=b:=by rw[BitVec.toNat_ofInt];omega
  rw[e1,e2]
 have hx:a ^^^ b<9223372036854775808:=Nat.xor_lt_two_pow (n:=63) ha hb;have h2:intA .xor .i64 (a:Int) (b:Int)=some (.int .i64 (IntKind.i64.wrap ((BitVec.ofInt 64 (a:Int) ^^^ BitVec.ofInt 64 (b:Int)).toNat:Int))):=rfl;rw[h2,h1,wrap_id (by omega) (by omega)]
theorem shr_nat (a j:Nat)(hj:j<=60): shiftA .shr .i64 (a:Int) (j:Int)=some (ni (a/2^j)):=by
 have h1:shiftA .shr .i64 (a:Int) (j:Int)=if (j:Int)<0 then none else some (.int .i64 ((a:Int).fdiv (2^(min ((j:Int).toNat) 64)))):=rfl
 rw[h1,if_neg (by omega),Int.toNat_natCast,Nat.min_eq_left (by omega)];have h2:((2:Int)^j)=((2^j:Nat):Int):=by simp
 rw[h2,Int.fdiv_eq_ediv_of_nonneg _ (Int.natCast_nonneg _),<-Int.natCast_ediv]
section
variable {H:Type}{O:HI H}{ro:Nat}{c:CallT H}
variable {w w':Own}{h h':H}{q:Nat}{S:Srch}{bW bH bV:Nat}{vA vC vT vS vK:Value}{lv wv:List Value}
variable {p s:Nat}{Z:Solv}{vE vcl vM:Value}{vs:List Value}{cp:Nat}{N:Ck}{v1 v2:Value}
def GrI (O:HI H)(ro:Nat)(w:Own)(h:H)(k0:Nat)(v:Value)(l:List Nat)(g:H): Prop:=
 ∃w1,Sm O ro w1 g (14,k0) 1 v (l.map ni)∧Ch O (λ_=>False) w h w1 g∧ro<=O.next g
theorem GrI.new (L:O.Law){k0:Nat}(lo:ro<=O.next h): GrI O ro w h k0 (.slice (some ⟨O.next h,0,some 1⟩) 0 1) [] (O.new h []):=
 ⟨_,.inr ⟨_,0,1,rfl,.inr rfl,by simp,Bx.new L (ro:=ro) w h lo (14,k0) []⟩,Ch.new L _ w h (14,k0) [],by rw[L.next_new];omega⟩
theorem GrI.app (L:O.Law){k0:Nat}(hk0:∀b,b<O.next h->w b≠((14,k0):Tag)){v:Value}{l:List Nat}{g:H}(x:GrI O ro w h k0 v l g)(a:Nat)(hl:l.length<1000000):
  ∃v' g',appI O ro 1 8 v (.slice (some ⟨O.next g,0,some 1⟩) 1 2) (O.new g [ni a])=some (v',g')∧GrI O ro w h k0 v' (l++[a]) g':=by
 obtain⟨w1,s1,c1,lo1⟩:=x;obtain⟨v3,h3,w3,e3,s3,c3,lo3⟩:=appM_one (bytes:=8) (new:=[ni a]) L lo1 s1 (by omega) rfl (by simp;omega) (by simp;omega);exact⟨v3,h3,e3,w3,by simpa using s3.m,Ch.own (k:=k0) c1 c3 hk0,lo3⟩
theorem GrI.give {k0:Nat}(hk0:∀b,b<O.next h->w b≠((14,k0):Tag)){v:Value}{l:List Nat}{g:H}(x:GrI O ro w h k0 v l g)(t1:Tag):
  ∃w',Sm O ro w' g t1 1 v (l.map ni)∧Ch O (λ_=>False) w h w' g∧ro<=O.next g:=by
 obtain⟨w1,s1,c1,lo1⟩:=x;obtain⟨w2,s2,c2⟩:=give2 (t1:=t1) c1 hk0 s1;exact⟨w2,s2,c2,lo1⟩
theorem GrI.tup {k0:Nat}{v:Value}{l:List Nat}{g:H}(x:GrI O ro w h k0 v l g): isTup v=false:=by
 obtain⟨w1,s1,_⟩:=x;exact s1.flat.2.2
def AgI (O:HI H)(ro:Nat)(w:Own)(h:H)(k0 cp st:Nat)(N:Ck)(n:Nat)(t:Env)(g:H): Prop:=
 t 0 = .pointer (some ⟨cp,0,none⟩)∧t 1=ni st∧∃i v,t 5=v∧t 6=ni i∧i+n=N.las.length∧GrI O ro w h k0 v ((List.range i).map λj=>2*j+st/2^j%2) g
theorem against_q (C:LP' O ro c)(L:O.Law)(lo:ro<=O.next h)(X:CN O ro w h cp N v1 v2){st:Nat}(hst:st<9223372036854775808)(hl:N.las.length<=60)(t1:Tag):
  ∃v h' w',c 160 [ptr cp,ni st] h=some (v,h')∧Sm O ro w' h' t1 1 v ((againstP N st).map ni)∧Ch O (λ_=>False) w h w' h'∧ro<=O.next h':=by
 obtain⟨k0,hk0⟩:=fresh_tag w (O.next h);have key:∃u h',c 160 [ptr cp,ni st] h=some (u,h')∧GrI O ro w h k0 u (againstP N st) h':=by
  refine C.fn (F160_fn O ro) rfl rfl ?_;unfold F160;refine s'f ?_;simp[ZnZ,thenE];refine s'f ?_;simp[Zn0,thenE];refine okE.seq (s'f ?_);simp[Zn1,thenE];refine okE.blk ?_;refine okE.mono (okE.loop (Q:=λe t' g'=>outOf 0 e = .normal∧GrI O ro w h k0 (t' 5) (againstP N st) g') (AgI O ro w h k0 cp st N) ?_ N.las.length _ _ ⟨by simp,by simp,0,_,by simp,by simp,by omega,GrI.new L lo⟩) ?_
  ·rintro n t g ⟨d0,d1,i,v,d5,d6,hin,gr⟩;obtain⟨w1,s1,c1,lo1⟩:=id gr;have X1:=X.ch L c1 (by simp);have m1:=X1.m.get 1 _ rfl;obtain⟨a1,q1,f1⟩:=X1.len1;rw[f1]at m1
   cases n with
   | zero=>
    obtain rfl:i=N.las.length:=by omega
    refine f'f ?_;simp[W160_0,Zn2,d0,d1,d5,d6,m1];exact gr
   | succ n=>
    have hi:i<N.las.length:=by omega
    have hi':(i:Int)<N.las.length:=by omega
    have hw2:IntKind.i64.wrap (2*(i:Int))=((2*i:Nat):Int):=by rw[wrap_id (by omega) (by omega)];omega
    have hsh:=shr_nat st i (by omega);have hle:st/2^i<=st:=Nat.div_le_self _ _;obtain⟨q,hq⟩:∃q,q=st/2^i:=⟨_,rfl⟩;rw[<-hq]at hsh hle;have hand:=and_one q (by omega);obtain⟨b,hb⟩:∃b,b=q%2:=⟨_,rfl⟩;have hb2:b<2:=by omega
    rw[<-hb]at hand;have hw3:IntKind.i64.wrap (((2*i:Nat):Int)+b)=((2*i+b:Nat):Int):=by rw[wrap_id (by omega) (by omega)];omega
    have hwi:IntKind.i64.wrap ((i:Int)+1)=((i+1:Nat):Int):=by rw[wrap_id (by omega) (by omega)];omega
    obtain⟨v3,g3,e3,gr3⟩:=gr.app L hk0 (2*i+b) (by simp;omega);have hst2:((List.range i).map λj=>2*j+st/2^j%2)++[2*i+b]=(List.range (i+1)).map λj=>2*j+st/2^j%2:=by
     rw[l'B,List.map_append];simp[hb,hq]
    rw[hst2]at gr3;obtain⟨z,hz⟩:∃z,z=2*i:=⟨_,rfl⟩;rw[<-hz]at hw2 hw3 e3;obtain⟨z2,hz2⟩:∃z2,z2=z+b:=⟨_,rfl⟩;rw[<-hz2]at hw3 e3;obtain⟨i',hi2⟩:∃i',i'=i+1:=⟨_,rfl⟩;rw[<-hi2]at hwi gr3;refine f'f ?_;simp[W160_0,Zn2,Zn3,Zn4,d0,d1,d5,d6,m1,hi,hi',hw2,hsh,hand,hw3,e3,hwi];exact⟨n,by omega,by simp[d0],by simp[d1],i',v3,by simp,by simp,by omega,gr3⟩
  ·rintro e t g ⟨hr,hq⟩;rw[hr];simp only[thenE];have f3:=hq.tup;refine f'f ?_;simp[Zn5,resE,resLE,rvE,f3];exact hq
 obtain⟨u,h',e1,gr⟩:=key;obtain⟨w2,s2,c2,lo2⟩:=gr.give hk0 t1;exact⟨u,h',w2,e1,s2,c2,lo2⟩
def BkI2 (O:HI H)(ro:Nat)(w:Own)(h:H)(k0 cp:Nat)(N:Ck)(vl:Value)(cl:List Nat)(n:Nat)(t:Env)(g:H): Prop:=
 t 0 = .pointer (some ⟨cp,0,none⟩)∧t 1=vl∧∃i v,t 5=v∧t 6=ni i∧i+n=cl.length∧GrI O ro w h k0 v (brokenP N (cl.take i)) g
theorem broken_q (C:LP' O ro c)(L:O.Law)(lo:ro<=O.next h)(X:CN O ro w h cp N v1 v2){tl:Tag}{vl:Value}{cl:List Nat}(hcl:cl.length<=192)(hx:∀x∈cl,x/2<N.las.length)(hl:N.las.length<=192)(sl:Sm O ro w h tl 1 vl (cl.map ni))(t1:Tag):
  ∃v h' w',c 161 [ptr cp,vl] h=some (v,h')∧Sm O ro w' h' t1 1 v ((brokenP N cl).map ni)∧Ch O (λ_=>False) w h w' h'∧ro<=O.next h':=by
 have hm:most=1000000:=rfl;obtain⟨k0,hk0⟩:=fresh_tag w (O.next h);have key:∃u h',c 161 [ptr cp,vl] h=some (u,h')∧GrI O ro w h k0 u (brokenP N cl) h':=by
  refine C.fn (F161_fn O ro) rfl rfl ?_;unfold F161;refine s'f ?_;simp[Zn6,thenE];refine s'f ?_;simp[Zn7,thenE];refine okE.seq (s'f ?_);simp[Zn8,thenE];refine okE.blk ?_;refine okE.mono (okE.loop (Q:=λe t' g'=>outOf 0 e = .normal∧GrI O ro w h k0 (t' 5) (brokenP N cl) g') (BkI2 O ro w h k0 cp N vl cl) ?_ cl.length _ _ ⟨by simp,by simp,0,_,by simp,by simp,by omega,GrI.new L lo⟩) ?_
  ·rintro n t g ⟨d0,d1,i,v,d5,d6,hin,gr⟩;obtain⟨w1,s1,c1,lo1⟩:=id gr;have X1:=X.ch L c1 (by simp);have slg:=sl.ch L c1 (by simp);have m1:=X1.m.get 1 _ rfl
   cases n with
   | zero=>
    obtain rfl:i=cl.length:=by omega
    obtain⟨aL,cL,hvl⟩:=sl.len (by omega) cl.length (by simp);rw[hvl]at d1;rw[List.take_length]at gr;refine f'f ?_;simp[W161_0,Zn9,d0,d1,d5,d6];exact gr
   | succ n=>
    have hi:i<cl.length:=by omega
    have hi':(i:Int)<cl.length:=by omega
    obtain⟨bL,cpp,e8,hcp,yl⟩:=slg.blk (by omega) cl.length (by simp) (by omega);have d1':=d1;rw[e8]at d1';obtain⟨a,ha⟩:∃a,cl[i]?=some a:=⟨_,l'c hi⟩;have hcell:O.cell g bL i=some (ni a):=by rw[yl.cell i (by simpa using hi)];simp[ha]
    have hxa:=hx a (l'f ha);obtain⟨y,hy⟩:∃y,N.las[a/2]?=some y:=⟨_,l'c hxa⟩;have hyb:=(X.b1 y (l'f hy)).1;obtain⟨bG,qG,fG,hc0,hc1⟩:=X1.getL (a/2) hy;rw[fG]at m1;have hxa':((a/2:Nat):Int)<N.las.length:=by omega
    have hsh:=shr_one a;have hand:=and_one a (by omega);have hx1:=xor_one y.1 (by omega);have hx1m:=xor1_lt hyb;obtain⟨y1,hy1⟩:∃y1,y1=y.1 ^^^ 1:=⟨_,rfl⟩;rw[<-hy1]at hx1 hx1m;have hx2:=xor_nat y1 (a%2) (by omega) (by omega);obtain⟨z,hz⟩:∃z,z=y1 ^^^ (a%2):=⟨_,rfl⟩;rw[<-hz]at hx2;have hwi:IntKind.i64.wrap ((i:Int)+1)=((i+1:Nat):Int):=by rw[wrap_id (by omega) (by omega)];omega
    obtain⟨v3,g3,e3,gr3⟩:=gr.app L hk0 z (by simp[brokenP];omega);have hst2:brokenP N (cl.take i)++[z]=brokenP N (cl.take (i+1)):=by
     unfold brokenP;rw[l'C,ha,List.map_append];simp[l'r,hy,hz,hy1]
    rw[hst2]at gr3;obtain⟨i',hi2⟩:∃i',i'=i+1:=⟨_,rfl⟩;rw[<-hi2]at hwi gr3;generalize a/2=dd at *;generalize a%2=ee at *;refine f'f ?_;simp[W161_0,Zn9,Zoa,Zob,Zoc,d0,d1',d5,d6,m1,hi,hi',hcell,hsh,hxa,hxa',hc0,hx1,hand,hx2,e3,hwi];exact⟨n,by omega,by simp[d0],by simp[d1',e8],i',v3,by simp,by simp,by omega,gr3⟩
  ·rintro e t g ⟨hr,hq⟩;rw[hr];simp only[thenE];have f3:=hq.tup;refine f'f ?_;simp[Zod,resE,resLE,rvE,f3];exact hq
 obtain⟨u,h',e1,gr⟩:=key;obtain⟨w2,s2,c2,lo2⟩:=gr.give hk0 t1;exact⟨u,h',w2,e1,s2,c2,lo2⟩
end
section
variable {H:Type}{O:HI H}{ro:Nat}{c:CallT H}
variable {w w':Own}{h h':H}{q:Nat}{S:Srch}{bW bH bV:Nat}{vA vC vT vS vK:Value}{lv wv:List Value}
variable {p s:Nat}{Z:Solv}{vE vcl vM:Value}{vs:List Value}{cp:Nat}{N:Ck}{v1 v2:Value}
theorem load159 (h:H)(b:Nat): loadA Tryz.prog O 162 (.pointer (some ⟨b,0,none⟩)) h=(cellsA O h b 0 2).map λl=>.agg l.toArray:=by
 have hi:(Tryz.prog.info? 162).map (·.size)=some 2:=by kernel_rfl
 cases hx:Tryz.prog.info? 162 with
 | none=>rw[hx]at hi;simp at hi
 | some i=>
  rw[hx]at hi;simp only[l'l,l'a]at hi;simp only[loadA,Tryz.underlying162,hx,hi]
theorem found_q (C:LP' O ro c)(L:O.Law)(X:CN O ro w h cp N v1 v2){b o:Nat}{tb:Tag}{lb:List Value}(yb:Bx O ro w h tb b lb)(hb:lb[o]?=some (ptr s))(x:SV O ro w h p s Z vE vcl vM vK vs)(hM:1+N.ni+N.las.length<=Z.model.length)(hM2:Z.model.length<=192)(h1:N.ni<=60)(h2:N.las.length<=60):
  ∃h' w',c 159 [.pointer (some ⟨b,o,none⟩),ptr cp] h=some (.agg #[ni (foundP N Z).1,ni (foundP N Z).2],h')∧Ch O (λ_=>False) w h w' h'∧ro<=O.next h'∧(foundP N Z).1<9223372036854775808∧(foundP N Z).2<9223372036854775808:=by
 obtain⟨k0,hk0⟩:=fresh_tag w (O.next h);have y1:=Bx.new L (ro:=ro) w h x.lo (14,k0) [.int .i64 0,.int .i64 0];have c1:=Ch.new L (λ_=>False) w h (14,k0) [.int .i64 0,.int .i64 0];have X1:=X.ch L c1 (by simp);have x1:=x.ch L c1 (by simp) (by simp);have yb1:=yb.ch L c1 (by simp);obtain⟨e2,l2⟩:=bits_q C L yb1 hb x1 (first:=1) (count:=N.ni) h1 (by omega) hM2;obtain⟨e3,l3⟩:=bits_q C L yb1 hb x1 (first:=1+N.ni) (count:=N.las.length) h2 (by omega) hM2;obtain⟨g4,p4,y4,c4⟩:=Bx.over L (K:=λu=>u=((14,k0):Tag)) rfl y1 (show [ni (foundP N Z).1,ni (foundP N Z).2].length = _ from rfl);have cc:=Ch.own (k:=k0) c1 c4 hk0;refine⟨g4,_,?_,cc,l'G x.lo cc.nx,l3,l2⟩;have m0:=X1.m.get 0 _ rfl;have m1:=X1.m.get 1 _ rfl;obtain⟨a1,q1,f1⟩:=X1.len1;rw[f1]at m1;have hw1:IntKind.i64.wrap (1+(N.ni:Int))=((1+N.ni:Nat):Int):=by rw[wrap_id (by omega) (by omega)];omega
 obtain⟨z1,hz1⟩:∃z1,z1=1+N.ni:=⟨_,rfl⟩;have hf1:(foundP N Z).1=bitsP Z z1 N.las.length:=by rw[hz1];rfl
 have hf2:(foundP N Z).2=bitsP Z 1 N.ni:=rfl;rw[<-hz1]at hw1 e3;rw[<-hf1]at e3;rw[<-hf2]at e2;generalize (foundP N Z).1=r1 at *;generalize (foundP N Z).2=r2 at *;have rr:¬O.next h<ro:=by have:=x.lo;omega
 have hall:=y4.all;simp only[l'n,l'o]at hall;have hl:=load159 (O:=O) g4 (O.next h);have e2':c 191 [.pointer (some ⟨b,o,none⟩),.int .i64 1,ni N.ni] (O.new h [.int .i64 0,.int .i64 0])=some (ni r2,O.new h [.int .i64 0,.int .i64 0]):=e2;refine C.eq (F159_fn O ro) rfl rfl ?_;unfold F159;refine s'f ?_;simp[ZnV,thenE];refine s'f ?_;simp[ZnW,thenE,m0,e2'];refine s'f ?_;simp[ZnX,thenE,m0,m1,hw1,e3];refine f'f ?_;simp[ZnY,rr,p4,resE,resLE,rvE,hl,hall]
theorem begt_q (C:LP' O ro c)(L:O.Law)(X:CN O ro w h cp N v1 v2){a:Nat}(ha:a/2<N.las.length): c 193 [ptr cp,ni a] h=some (.bool (beginsTrue N a),h):=by
 have hn:=X.nv;unfold Ck.nv at hn;obtain⟨y,hy⟩:∃y,N.las[a/2]?=some y:=⟨_,l'c ha⟩;obtain⟨bG,qG,fG,hc0,hc1⟩:=X.getL (a/2) hy;have m1:=X.m.get 1 _ rfl;rw[fG]at m1;have ha':((a/2:Nat):Int)<N.las.length:=by omega
 have hsh:=shr_one a;have hand:=and_one a (by omega);have hbt:beginsTrue N a=(decide (y.2≠2)&&decide (y.2≠a%2)):=by
  unfold beginsTrue;simp only[l'r,hy,Option.getD_some]
 rw[hbt];generalize a/2=dd at *;generalize a%2=ee at *;have n2:=cast_ne y.2 2;have n3:=cast_ne y.2 ee;have n2':((y.2:Int) != 2) = !decide (y.2=2):=n2;refine C.eq (F193_fn O ro) rfl rfl ?_;unfold F193;refine s'f ?_;simp[ZoY,thenE];refine s'f ?_;simp[ZoZ,thenE,m1,hsh,ha,ha',hc1]
 by_cases h2:y.2=2
 ·have n4:((y.2:Int) != 2)=false:=by rw[n2'];simp[h2]
  have n5:(y.2:Int)=2:=by omega
  refine f'f ?_;simp[Zo0,n4,n5,h2,hand,resE,resLE,rvE]
 ·have n4:((y.2:Int) != 2)=true:=by rw[n2'];simp[h2]
  have n5:¬(y.2:Int)=2:=by omega
  refine f'f ?_;simp[Zo0,n4,n5,h2,hand,n3,resE,resLE,rvE]
def EqI (h:H)(va vb:Value)(a b:List Nat)(n:Nat)(t:Env)(g:H): Prop:=
 g=h∧t 0=va∧t 1=vb∧∃i,t 5=ni i∧i+n=a.length∧a.take i=b.take i
theorem equal_q (C:LP' O ro c)(L:O.Law){ta tb:Tag}{va vb:Value}{a b:List Nat}(ha:a.length<=most)(hb:b.length<=most)(sa:Sm O ro w h ta 1 va (a.map ni))(sb:Sm O ro w h tb 1 vb (b.map ni)): c 208 [va,vb] h=some (.bool (a==b),h):=by
 have hm:most=1000000:=rfl;obtain⟨a1,q1,f1⟩:=sa.len (by omega) a.length (by simp);obtain⟨a2,q2,f2⟩:=sb.len (by omega) b.length (by simp);have key:∃u h',c 208 [va,vb] h=some (u,h')∧(u = .bool (a==b)∧h'=h):=by
  refine C.fn (F208_fn O ro) rfl rfl ?_;unfold F208;refine s'f ?_;simp[Zpi,thenE]
  by_cases hl:a.length=b.length
  ·have n1:((a.length:Int) != (b.length:Int))=false:=by rw[cast_ne];simp[hl]
   have n2:(a.length:Int)=b.length:=by omega
   refine okE.seq (s'f ?_);simp[Zpj,thenE,f1,f2,n1,n2,hl];refine f'f ?_;simp[thenE];refine okE.seq (s'f ?_);simp[Zpl,thenE];refine okE.blk ?_;refine okE.mono (okE.loop (Q:=λe t' g'=>g'=h∧(outOf 0 e = .ret∧t' 4 = .bool false∧(a==b)=false∨outOf 0 e = .normal∧(a==b)=true)) (EqI h va vb a b) ?_ a.length _ _ ⟨rfl,by simp[f1,hl],by simp[f2],0,by simp,by omega,by simp⟩) ?_
   ·rintro n t g ⟨rfl,d0,d1,i,d5,hin,htk⟩
    cases n with
    | zero=>
     obtain rfl:i=a.length:=by omega
     rw[f1]at d0;rw[List.take_length,hl,List.take_length]at htk;refine f'f ?_;simp[W208_0,Zpm,d0,d1,d5];exact htk
    | succ n=>
     have hi:i<a.length:=by omega
     have hi':(i:Int)<a.length:=by omega
     have hj:i<b.length:=by omega
     have hj':(i:Int)<b.length:=by omega
     obtain⟨bA,pA,eA,_,yA⟩:=sa.blk (by omega) a.length (by simp) (by omega);obtain⟨bB,pB,eB,_,yB⟩:=sb.blk (by omega) b.length (by simp) (by omega);obtain⟨x,hx⟩:∃x,a[i]?=some x:=⟨_,l'c hi⟩;obtain⟨y,hy⟩:∃y,b[i]?=some y:=⟨_,l'c hj⟩;have kx:O.cell g bA i=some (ni x):=by rw[yA.cell i (by simpa using hi)];simp[hx]
     have ky:O.cell g bB i=some (ni y):=by rw[yB.cell i (by simpa using hj)];simp[hy]
     have d0':=d0;have d1':=d1;rw[eA]at d0';rw[eB]at d1';have hwi:IntKind.i64.wrap ((i:Int)+1)=((i+1:Nat):Int):=by rw[wrap_id (by omega) (by omega)];omega
     by_cases he:x=y
     ·have n1:((x:Int) != (y:Int))=false:=by rw[cast_ne];simp[he]
      have htk2:a.take (i+1)=b.take (i+1):=by rw[l'C,l'C,hx,hy,htk,he]
      obtain⟨i',hi2⟩:∃i',i'=i+1:=⟨_,rfl⟩;rw[<-hi2]at hwi htk2;refine f'f ?_;simp[W208_0,Zpm,Zpn,Zpp,d0',d1',d5,hi,hi',hj,hj',kx,ky,he,n1,hwi];exact⟨n,by omega,rfl,by simp[d0',eA],by simp[d1',eB],i',by simp,by omega,htk2⟩
     ·have n1:((x:Int) != (y:Int))=true:=by rw[cast_ne];simp[he]
      have n2:¬(x:Int)=(y:Int):=by omega
      refine f'f ?_;simp[W208_0,Zpm,Zpn,Zpo,d0',d1',d5,hi,hi',hj,hj',kx,ky,he,n1,n2];rintro rfl;rw[hx]at hy;simp at hy;exact he hy
   ·rintro e t g ⟨rfl,hr⟩;rcases hr with ⟨hr,d4,hab⟩|⟨hr,hab⟩
    ·rw[hr];simp only[thenE,resE,resLE,rvE,d4,hab];simp
    ·rw[hr];simp only[thenE];refine f'f ?_;simp only[hab];simp[Zpq,resE,resLE,rvE]
  ·have n1:((a.length:Int) != (b.length:Int))=true:=by rw[cast_ne];simp[hl]
   have n2:¬(a.length:Int)=b.length:=by omega
   have hab:(a==b)=false:=by rw[l'A];rintro rfl;exact hl rfl
   refine s'f ?_;simp only[hab];simp[Zpj,Zpk,thenE,f1,f2,n1,n2,hl,resE,resLE,rvE]
 obtain⟨u,h',e1,rfl,rfl⟩:=key;exact e1
end
section
variable {H:Type}{O:HI H}{ro:Nat}{c:CallT H}
variable {w w':Own}{h h':H}{q:Nat}{S:Srch}{bW bH bV:Nat}{vA vC vT vS vK:Value}{lv wv:List Value}
variable {p s:Nat}{Z:Solv}{vE vcl vM:Value}{vs:List Value}{cp:Nat}{N:Ck}{v1 v2:Value}
def FaI (O:HI H)(ro:Nat)(w:Own)(h:H)(k0 cp b o:Nat)(N:Ck)(vl:Value)(cl:List Nat)(n:Nat)(t:Env)(g:H): Prop:=
 t 0 = .pointer (some ⟨b,o,none⟩)∧t 1 = .pointer (some ⟨cp,0,none⟩)∧t 2=vl∧∃i v,t 6=v∧t 7=ni i∧i+n=cl.length∧GrI O ro w h k0 v (overP N (cl.take i)) g
theorem fradd_q (C:LP' O ro c)(L:O.Law)(hp:20<=p)(X:CN O ro w h cp N v1 v2){tl:Tag}{vl:Value}{cl:List Nat}(hcl:cl.length<=192)(hx:∀x∈cl,x/2<N.las.length)(sl:Sm O ro w h tl 1 vl (cl.map ni)){b o:Nat}{tb:Tag}{lb:List Value}(yb:Bx O ro w h tb b lb)(hb:lb[o]?=some (ptr s))(x:SV O ro w h p s Z vE vcl vM vK vs)(hZ:Go.Ta.ZOk Z){Z':Solv}(hs:addP Z (overP N cl)=some Z'):
  ∃h',c 195 [.pointer (some ⟨b,o,none⟩),ptr cp,vl] h=some (.tuple #[],h')∧RsQ O ro w h p s Z' h':=by
 have hm:most=1000000:=rfl;have hn:=X.nv;unfold Ck.nv at hn;obtain⟨k0,hk0⟩:=fresh_tag w (O.next h);have key:∃u h',c 195 [.pointer (some ⟨b,o,none⟩),ptr cp,vl] h=some (u,h')∧(u = .tuple #[]∧RsQ O ro w h p s Z' h'):=by
  refine C.fn (F195_fn O ro) rfl rfl ?_;unfold F195;refine s'f ?_;simp[Zpb,thenE];refine okE.seq (s'f ?_);simp[Zpc,thenE];refine okE.blk ?_;refine okE.mono (okE.loop (Q:=λe t' g'=>outOf 0 e = .normal∧t' 0 = .pointer (some ⟨b,o,none⟩)∧GrI O ro w h k0 (t' 6) (overP N cl) g') (FaI O ro w h k0 cp b o N vl cl) ?_ cl.length _ _ ⟨by simp,by simp,by simp,0,_,by simp,by simp,by omega,GrI.new L x.lo⟩) ?_
  ·rintro n t g ⟨d0,d1,d2,i,v,d6,d7,hin,gr⟩;obtain⟨w1,s1,c1,lo1⟩:=id gr;have X1:=X.ch L c1 (by simp);have slg:=sl.ch L c1 (by simp)
   cases n with
   | zero=>
    obtain rfl:i=cl.length:=by omega
    obtain⟨aL,cL,hvl⟩:=sl.len (by omega) cl.length (by simp);rw[hvl]at d2;rw[List.take_length]at gr;refine f'f ?_;simp[W195_0,Zpd,d0,d1,d2,d6,d7];exact gr
   | succ n=>
    have hi:i<cl.length:=by omega
    have hi':(i:Int)<cl.length:=by omega
    obtain⟨bL,cpp,e8,hcp,yl⟩:=slg.blk (by omega) cl.length (by simp) (by omega);have d2':=d2;rw[e8]at d2';obtain⟨a,ha⟩:∃a,cl[i]?=some a:=⟨_,l'c hi⟩;have hcell:O.cell g bL i=some (ni a):=by rw[yl.cell i (by simpa using hi)];simp[ha]
    have hxa:=hx a (l'f ha);have eg:=latLit_q C L X1 (a/2) (by omega);have hlg:N.lla (a/2)<1000:=by unfold Ck.lla;omega
    have hsh:=shr_one a;have hand:=and_one a (by omega);obtain⟨y1,hy1⟩:∃y1,y1=N.lla (a/2):=⟨_,rfl⟩;rw[<-hy1]at eg hlg;have hx2:=xor_nat y1 (a%2) (by omega) (by omega);obtain⟨z,hz⟩:∃z,z=y1 ^^^ (a%2):=⟨_,rfl⟩;rw[<-hz]at hx2;have hwi:IntKind.i64.wrap ((i:Int)+1)=((i+1:Nat):Int):=by rw[wrap_id (by omega) (by omega)];omega
    obtain⟨v3,g3,e3,gr3⟩:=gr.app L hk0 z (by simp[overP];omega);have hst2:overP N (cl.take i)++[z]=overP N (cl.take (i+1)):=by
     unfold overP;rw[l'C,ha,List.map_append];simp[hz,hy1]
    rw[hst2]at gr3;obtain⟨i',hi2⟩:∃i',i'=i+1:=⟨_,rfl⟩;rw[<-hi2]at hwi gr3;unfold ptr at eg;generalize a/2=dd at *;generalize a%2=ee at *;refine f'f ?_;simp[W195_0,Zpd,Zpe,Zpf,Zpg,d0,d1,d2',d6,d7,hi,hi',hcell,hsh,eg,hand,hx2,e3,hwi];exact⟨n,by omega,by simp[d0],by simp[d1],by simp[d2',e8],i',v3,by simp,by simp,by omega,gr3⟩
  ·rintro e t g ⟨hr,d0,hq⟩;rw[hr];simp only[thenE];obtain⟨w1,s1,c1,lo1⟩:=hq;have x1:=x.ch L c1 (by simp) (by simp);have yb1:=yb.ch L c1 (by simp);have kb:=yb1.get o _ hb;obtain⟨vcl',vs',h',w',e2,x2,c2⟩:=add_q C L hp x1 hZ.1 s1 hs;unfold ptr at e2 kb;refine f'f ?_;simp[Zph,d0,kb,e2,resE,resLE,rvE];exact⟨_,_,_,_,_,w',(addP_ok hs hZ).1,x2,(c1.mono (by simp)).trans c2⟩
 obtain⟨u,h',e1,rfl,e2⟩:=key;exact⟨h',e1,e2⟩
end
section
variable {H:Type}{O:HI H}{ro:Nat}{c:CallT H}
variable {w w':Own}{h h':H}{q:Nat}{S:Srch}{bW bH bV:Nat}{vA vC vT vS vK:Value}{lv wv:List Value}
def PlQ (O:HI H)(ro:Nat)(w:Own)(h:H)(k0 bs:Nat)(m:List Bool)(g:H): Prop:=
 ∃w1,Bx O ro w1 g (14,k0) bs (m.map Value.bool)∧Ch O (λ_=>False) w h w1 g∧ro<=O.next g
def PlJ (O:HI H)(ro:Nat)(w:Own)(h:H)(k0 bs:Nat)(va vb:Value)(l wd:List Nat)(i:Nat)(n:Nat)(t:Env)(g:H): Prop:=
 t 0=va∧t 1=vb∧t 5 = .slice (some ⟨bs,0,some 1⟩) l.length (l.length+1)∧t 6=ni i∧∃k,t 7=ni k∧k+n=l.length∧(∀x,wd[i]?=some x->x∉l.take k)∧PlQ O ro w h k0 bs (placesP l (wd.take i)) g
theorem places1_q (L:O.Law){k0 bs:Nat}(hk0:∀b,b<O.next h->w b≠((14,k0):Tag)){ta tb:Tag}{va vb:Value}{l wd:List Nat}(hl:l.length<=most)(hwd:wd.length<=most)(sa:Sm O ro w h ta 1 va (l.map ni))(sb:Sm O ro w h tb 1 vb (wd.map ni)){i n:Nat}(hi:i<wd.length){t:Env}{g:H}(I:PlJ O ro w h k0 bs va vb l wd i n t g):
  okE c (W192_0 O Tryz.prog ro) (t,g) (λe t' g'=>(e = .normal∧∃n',n'<n∧PlJ O ro w h k0 bs va vb l wd i n' t' g')∨(e≠.normal∧(outOf 2 e = .normal∧t' 0=va∧t' 1=vb∧t' 5 = .slice (some ⟨bs,0,some 1⟩) l.length (l.length+1)∧t' 6=ni i∧PlQ O ro w h k0 bs (placesP l (wd.take (i+1))) g'))):=by
 have hm:most=1000000:=rfl;obtain⟨d0,d1,d5,d6,k,d7,hkn,hno,pq⟩:=I;have hi':(i:Int)<wd.length:=by omega
 obtain⟨x,hx⟩:∃x,wd[i]?=some x:=⟨_,l'c hi⟩;obtain⟨w1,yb,c1,lo1⟩:=id pq;have sag:=sa.ch L c1 (by simp);have sbg:=sb.ch L c1 (by simp)
 cases n with
 | zero=>
  obtain rfl:k=l.length:=by omega
  have h1:=hno x hx;rw[List.take_length]at h1;rw[places_skip h1 hx]at pq;obtain⟨a1,q1,f1⟩:=sa.len (by omega) l.length (by simp);have d0':=d0;rw[f1]at d0';refine f'f ?_;simp[W192_0,ZoS,d0',d1,d5,d6,d7,f1];exact pq
 | succ n=>
  have hk:k<l.length:=by omega
  have hk':(k:Int)<l.length:=by omega
  obtain⟨bA,pA,eA,_,yA⟩:=sag.blk (by omega) l.length (by simp) (by omega);obtain⟨bB,pB,eB,_,yB⟩:=sbg.blk (by omega) wd.length (by simp) (by omega);obtain⟨y,hy⟩:∃y,l[k]?=some y:=⟨_,l'c hk⟩;have ky:O.cell g bA k=some (ni y):=by rw[yA.cell k (by simpa using hk)];simp[hy]
  have kx:O.cell g bB i=some (ni x):=by rw[yB.cell i (by simpa using hi)];simp[hx]
  have d0':=d0;have d1':=d1;rw[eA]at d0';rw[eB]at d1';have hwk:IntKind.i64.wrap ((k:Int)+1)=((k+1:Nat):Int):=by rw[wrap_id (by omega) (by omega)];omega
  by_cases he:y=x
  ·subst he;have hlt:k<((placesP l (wd.take i)).map Value.bool).length:=by simp[places_len,hk]
   have yb2:=yb.put L k hlt (.bool true);have c2:=Ch.put L (K:=λu=>u=((14,k0):Tag)) yb k hlt (.bool true) rfl;rw[<-List.map_set,places_set hy (hno y hx) hx]at yb2;have hp2:=puts_one (O:=O) (h:=g) (b:=bs) (i:=k) (v:=.bool true) (yb.get k _ (l'c hlt));have c12:=Ch.own (k:=k0) c1 c2 hk0;have rs:¬bs<ro:=by have:=yb.lo;omega
   have lo2:=l'G lo1 c2.nx;generalize O.put g bs k (.bool true)=g2 at *;refine f'f ?_;simp[W192_0,ZoS,ZoT,ZoU,d0',d1',d5,d6,d7,hk,hk',hi,hi',kx,ky,rs,hp2,eA,eB];exact⟨w1,yb2,c12,lo2⟩
  ·have n1:((y:Int)==(x:Int))=false:=by rw[l'A];omega
   have n2:¬(y:Int)=(x:Int):=by omega
   obtain⟨k',hk2⟩:∃k',k'=k+1:=⟨_,rfl⟩;have hno2:∀z,wd[i]?=some z->z∉l.take k':=by
    intro z hz;rw[hx]at hz;simp at hz;subst hz;rw[hk2,l'C,hy];simp only[Option.toList_some,l'E,l'm,not_or];exact⟨hno x hx,λh=>he h.symm⟩
   rw[<-hk2]at hwk;refine f'f ?_;simp[W192_0,ZoS,ZoT,ZoV,d0',d1',d5,d6,d7,hk,hk',hi,hi',kx,ky,he,n1,n2,hwk];exact⟨n,by omega,by simp[d0',eA],by simp[d1',eB],by simp[d5],by simp[d6],k',by simp,by omega,hno2,pq⟩
def PlI (O:HI H)(ro:Nat)(w:Own)(h:H)(k0 bs:Nat)(va vb:Value)(l wd:List Nat)(n:Nat)(t:Env)(g:H): Prop:=
 t 0=va∧t 1=vb∧t 5 = .slice (some ⟨bs,0,some 1⟩) l.length (l.length+1)∧∃i,t 6=ni i∧i+n=wd.length∧PlQ O ro w h k0 bs (placesP l (wd.take i)) g
theorem places_q (C:LP' O ro c)(L:O.Law)(lo:ro<=O.next h){ta tb:Tag}{va vb:Value}{l wd:List Nat}(hl:l.length<=most)(hwd:wd.length<=most)(sa:Sm O ro w h ta 1 va (l.map ni))(sb:Sm O ro w h tb 1 vb (wd.map ni))(t1:Tag):
  ∃bs h' w',c 192 [va,vb] h=some (.slice (some ⟨bs,0,some 1⟩) l.length (l.length+1),h')∧Bx O ro w' h' t1 bs ((placesP l wd).map Value.bool)∧Ch O (λ_=>False) w h w' h'∧ro<=O.next h':=by
 have hm:most=1000000:=rfl;obtain⟨k0,hk0⟩:=fresh_tag w (O.next h);obtain⟨a1,q1,f1⟩:=sa.len (by omega) l.length (by simp);have key:∃u h',c 192 [va,vb] h=some (u,h')∧(u = .slice (some ⟨O.next h,0,some 1⟩) l.length (l.length+1)∧PlQ O ro w h k0 (O.next h) (placesP l wd) h'):=by
  refine C.fn (F192_fn O ro) rfl rfl ?_;unfold F192;have hN1:(l.length:Int)<=140737488355328:=by omega
  have hN2:l.length<=140737488355328:=by omega
  have hrA:=rangeA1 (.bool false) l.length;have hp0:(placesP l (wd.take 0)).map Value.bool=List.replicate l.length (.bool false):=by
   apply List.ext_getElem
   ·simp[places_len]
   ·intro j h1 h2;simp only[List.getElem_map,List.getElem_replicate];have hj:j<l.length:=by simpa using h2
    have:=places_get (w:=wd.take 0) (l'c hj);simp only[List.take_zero,List.not_mem_nil,decide_false,Bool.false_and]at this ⊢;rw[l'b]at this;rw[this.2]
  have y1:=Bx.new L (ro:=ro) w h lo (14,k0) (List.replicate l.length (.bool false));have c1:=Ch.new L (λ_=>False) w h (14,k0) (List.replicate l.length (.bool false));have lo1:=l'G lo c1.nx;refine s'f ?_;simp[ZoN,thenE];refine s'f ?_;simp[-rangeA,ZoO,thenE,f1,hN1,hN2,hrA];refine okE.seq (s'f ?_);simp[ZoP,thenE];refine okE.blk ?_;refine okE.mono (okE.loop (Q:=λe t' g'=>outOf 0 e = .normal∧t' 5 = .slice (some ⟨O.next h,0,some 1⟩) l.length (l.length+1)∧PlQ O ro w h k0 (O.next h) (placesP l wd) g') (PlI O ro w h k0 (O.next h) va vb l wd) ?_ wd.length _ _ ⟨by simp[f1],by simp,by simp,0,by simp,by omega,_,by rw[hp0];exact y1,c1,lo1⟩) ?_
  ·rintro n t g ⟨d0,d1,d5,i,d6,hin,pq⟩;obtain⟨a2,q2,f2⟩:=sb.len (by omega) wd.length (by simp);have d1':=d1;rw[f2]at d1'
   cases n with
   | zero=>
    obtain rfl:i=wd.length:=by omega
    rw[List.take_length]at pq;unfold W192_1;refine s'f ?_;simp[ZoQ,thenE,d0,d1',d5,d6];exact pq
   | succ n=>
    have hi:i<wd.length:=by omega
    have hi':(i:Int)<wd.length:=by omega
    have hwi:IntKind.i64.wrap ((i:Int)+1)=((i+1:Nat):Int):=by rw[wrap_id (by omega) (by omega)];omega
    unfold W192_1;refine s'f ?_;simp[ZoQ,thenE,d1',d6,hi,hi'];refine okE.seq (okE.blk (s'f ?_));simp[ZoR,thenE];refine okE.blk ?_;refine okE.mono (okE.loop (Q:=λe t' g'=>outOf 2 e = .normal∧t' 0=va∧t' 1=vb∧t' 5 = .slice (some ⟨O.next h,0,some 1⟩) l.length (l.length+1)∧t' 6=ni i∧PlQ O ro w h k0 (O.next h) (placesP l (wd.take (i+1))) g') (PlJ O ro w h k0 (O.next h) va vb l wd i) (λn t g' I=>places1_q L hk0 hl hwd sa sb hi I) l.length _ _ ⟨by simp[d0],by simp[d1],by simp[d5],by simp[d6],0,by simp,by omega,by simp,pq⟩) ?_;rintro e t' g' ⟨hr,e0,e1,e5,e6,pq2⟩;rw[hr];simp only[thenE,outOf];obtain⟨i',hi2⟩:∃i',i'=i+1:=⟨_,rfl⟩;rw[<-hi2]at hwi pq2;refine f'f ?_;simp[ZoW,e6,hwi];exact⟨n,by omega,by simp[e0],by simp[e1],by simp[e5],i',by simp,by omega,pq2⟩
  ·rintro e t g ⟨hr,d5,hq⟩;rw[hr];simp only[thenE];refine f'f ?_;simp[ZoX,d5,resE,resLE,rvE];exact hq
 obtain⟨u,h',e1,rfl,w1,y1,c1,lo1⟩:=key;have hb:¬O.next h<O.next h:=by omega
 refine⟨O.next h,h',w1.set (O.next h) t1,e1,⟨by simp[Own.set],y1.lo,y1.al,y1.cell⟩,⟨c1.nx,λb' hb'=>?_,c1.fr⟩,lo1⟩;have:b'≠O.next h:=by omega
 simp only[Own.set,if_neg this];exact c1.ow b' hb'
end
end Go.Proofs.YtimdkminagnhgabGreatDoor
