import Derived.Test.YtimdkminagnhgabGreatDoorQ26
set_option linter.unusedVariables false
set_option linter.unusedSimpArgs false
namespace Go.Proofs.YtimdkminagnhgabGreatDoor
open Go.Vm Go.Proofs Go.Ta
set_option maxHeartbeats 4000000
section
variable {H:Type}{O:HI H}{ro:Nat}{c:CallT H}
attribute [local simp] cSeq cReg reg to too onlyIf onlyIfo aMove mv' nl' fl' ld' ln' mk' ia' ik' ix' aNil aFld aLd aInt aPick aConv aUn unA ev upd_get isB envOf iA_add iA_sub iA_mul iA_eql iA_neq iA_lss iA_leq iA_gtr iA_geq cIf cRet cSkip okc_some aSt vc_int vc_bool vc_agg vc_str vc_ptr vc_sl ft_int ft_bool ft_str ft_ptr ft_sl tp_int tp_bool tp_agg tp_str tp_ptr tp_sl aBuild Instr.fill aCall cExit cBlk outOf ptr undef aNew aBox aIdxArr aLdN aShift aLenSl aIdx aMkSl aApp rangeA aExt aPtrNil aSlNil aBoolEq aMake aSliceSl boundA chk
variable {w w':Own}{h h':H}{q:Nat}{S:Srch}{bW bH bV:Nat}{vA vC vT vS vK:Value}{lv wv:List Value}
variable {cp:Nat}{N:Ck}{v1 v2:Value}
def lackF (N:Ck)(z:List (Nat×Bool)): Bool:=!(z.any λp=>p.2&&beginsTrue N p.1)
theorem lackF_app (N:Ck)(a:List (Nat×Bool))(x:Nat)(b:Bool): lackF N (a++[(x,b)])=(lackF N a && !(b&&beginsTrue N x)):=by
 simp[lackF,List.any_append]
def ShI (cp bs:Nat)(h:H)(N:Ck)(vl:Value)(cl:List Nat)(nm:List Bool)(n:Nat)(t:Env)(g:H): Prop:=
 g=h∧t 0 = .pointer (some ⟨cp,0,none⟩)∧t 1=vl∧t 8 = .slice (some ⟨bs,0,some 1⟩) cl.length (cl.length+1)∧∃i,t 10=ni i∧i+n=cl.length∧t 9 = .bool (lackF N ((cl.zip nm).take i))
theorem zip_take {cl:List Nat}{nm:List Bool}{i x:Nat}{b:Bool}(hx:cl[i]?=some x)(hb:nm[i]?=some b): (cl.zip nm).take (i+1)=(cl.zip nm).take i++[(x,b)]:=by
 rw[l'C];have:(cl.zip nm)[i]?=some (x,b):=by rw[List.getElem?_zip_eq_some];exact⟨hx,hb⟩
 rw[this];rfl
theorem zip_drop {cl:List Nat}{nm:List Bool}{i x:Nat}{b:Bool}(hx:cl[i]?=some x)(hb:nm[i]?=some b): (cl.zip nm).drop i=(x,b) :: (cl.zip nm).drop (i+1):=by
 have h1:(cl.zip nm)[i]?=some (x,b):=by rw[List.getElem?_zip_eq_some];exact⟨hx,hb⟩
 obtain⟨h2,h3⟩:=l'b.1 h1;rw[l's h2,h3]
theorem short1_q (C:LP' O ro c)(L:O.Law)(X:CN O ro w h cp N v1 v2){tl ts:Tag}{vl:Value}{cl:List Nat}{nm:List Bool}{bs:Nat}(hcl:cl.length<=192)(hx:∀x∈cl,x/2<N.las.length)(sl:Sm O ro w h tl 1 vl (cl.map ni))(ys:Bx O ro w h ts bs (nm.map Value.bool))(hnm:nm.length=cl.length){n:Nat}{t:Env}{g:H}(I:ShI cp bs h N vl cl nm n t g):
  okE c (W162_0 O Tryz.prog ro) (t,g) (λe t' g'=>(e = .normal∧∃n',n'<n∧ShI cp bs h N vl cl nm n' t' g')∨(e≠.normal∧(outOf 0 e = .normal∧g'=h∧t' 0 = .pointer (some ⟨cp,0,none⟩)∧t' 1=vl∧t' 8 = .slice (some ⟨bs,0,some 1⟩) cl.length (cl.length+1)∧t' 9 = .bool (lackF N (cl.zip nm))))):=by
 obtain⟨rfl,d0,d1,d8,i,d10,hin,d9⟩:=I
 cases n with
 | zero=>
  obtain rfl:i=cl.length:=by omega
  obtain⟨aL,cL,hvl⟩:=sl.len (by omega) cl.length (by simp);have d1':=d1;rw[hvl]at d1';have htk:(cl.zip nm).take cl.length=cl.zip nm:=List.take_of_length_le (by simp;omega);rw[htk]at d9;refine f'f ?_;simp[W162_0,Zoj,d0,d1',d8,d9,d10,hvl]
 | succ n=>
  have hi:i<cl.length:=by omega
  have hi':(i:Int)<cl.length:=by omega
  obtain⟨bL,pL,eL,_,yl⟩:=sl.blk (by omega) cl.length (by simp) (by omega);obtain⟨x,hxx⟩:∃x,cl[i]?=some x:=⟨_,l'c hi⟩;obtain⟨b,hb⟩:∃b,nm[i]?=some b:=⟨_,l'c (by omega)⟩;have kx:O.cell g bL i=some (ni x):=by rw[yl.cell i (by simpa using hi)];simp[hxx]
  have kb:O.cell g bs i=some (.bool b):=by rw[ys.cell i (by simp;omega)];simp[hb]
  have d1':=d1;rw[eL]at d1';have hwi:IntKind.i64.wrap ((i:Int)+1)=((i+1:Nat):Int):=by rw[wrap_id (by omega) (by omega)];omega
  have eb:=begt_q C L X (hx x (l'f hxx));have hz:=zip_take hxx hb;have hlk:=lackF_app N ((cl.zip nm).take i) x b;rw[<-hz]at hlk;obtain⟨i',hi2⟩:∃i',i'=i+1:=⟨_,rfl⟩;rw[<-hi2]at hwi hlk;unfold ptr at eb
  cases b with
  | false=>
   simp only[Bool.false_and,Bool.not_false,Bool.and_true]at hlk;refine f'f ?_;simp[W162_0,Zoj,Zok,Zom,d0,d1',d8,d9,d10,hi,hi',kx,kb,hwi];exact⟨n,by omega,rfl,by simp[d0],by simp[d1',eL],by simp[d8],i',by simp,by omega,by simp[d9,hlk]⟩
  | true=>
   cases hbt:beginsTrue N x with
   | true=>
    rw[hbt]at eb hlk;simp only[Bool.and_self,Bool.not_true,Bool.and_false]at hlk;refine f'f ?_;simp[W162_0,Zoj,Zok,Zol,Zom,d0,d1',d8,d9,d10,hi,hi',kx,kb,eb,hwi];exact⟨n,by omega,rfl,by simp[d0],by simp[d1',eL],by simp[d8],i',by simp,by omega,by simp[hlk]⟩
   | false=>
    rw[hbt]at eb hlk;simp only[Bool.and_false,Bool.not_false,Bool.and_true]at hlk;refine f'f ?_;simp[W162_0,Zoj,Zok,Zom,d0,d1',d8,d9,d10,hi,hi',kx,kb,eb,hwi];exact⟨n,by omega,rfl,by simp[d0],by simp[d1',eL],by simp[d8],i',by simp,by omega,by simp[d9,hlk]⟩
def ShJ (O:HI H)(ro:Nat)(w:Own)(h:H)(k0 cp bs:Nat)(N:Ck)(vl:Value)(cl:List Nat)(nm:List Bool)(res:List Nat)(n:Nat)(t:Env)(g:H): Prop:=
 t 0 = .pointer (some ⟨cp,0,none⟩)∧t 1=vl∧t 8 = .slice (some ⟨bs,0,some 1⟩) cl.length (cl.length+1)∧∃(i:Nat)(v:Value)(lk:Bool)(acc:List Nat)(m:List Bool)(w1:Own),t 12=ni i∧i+n=cl.length∧t 9 = .bool lk∧t 11=v∧acc++shortL N ((cl.zip nm).drop i) lk=res∧acc.length<=i∧m.length=cl.length∧(∀j:Nat,i<=j->m[j]?=nm[j]?)∧Bx O ro w1 g (14,k0+1) bs (m.map Value.bool)∧Sm O ro w1 g (14,k0) 1 v (acc.map ni)∧Ch O (λu=>u=(14,k0)∨u=(14,k0+1)) w h w1 g∧ro<=O.next g
def ShQ (O:HI H)(ro:Nat)(w:Own)(h:H)(k0:Nat)(res:List Nat)(v:Value)(g:H): Prop:=
 ∃w1,Sm O ro w1 g (14,k0) 1 v (res.map ni)∧Ch O (λu=>u=(14,k0)∨u=(14,k0+1)) w h w1 g∧ro<=O.next g
theorem short2_q (C:LP' O ro c)(L:O.Law){k0:Nat}(X:CN O ro w h cp N v1 v2){tl:Tag}{vl:Value}{cl:List Nat}{nm:List Bool}{bs:Nat}(hcl:cl.length<=192)(hx:∀x∈cl,x/2<N.las.length)(htl:tl.1≠14)(sl:Sm O ro w h tl 1 vl (cl.map ni))(hnm:nm.length=cl.length){res:List Nat}{n:Nat}{t:Env}{g:H}(I:ShJ O ro w h k0 cp bs N vl cl nm res n t g):
  okE c (W162_1 O Tryz.prog ro) (t,g) (λe t' g'=>(e = .normal∧∃n',n'<n∧ShJ O ro w h k0 cp bs N vl cl nm res n' t' g')∨(e≠.normal∧(outOf 2 e = .normal∧ShQ O ro w h k0 res (t' 11) g'))):=by
 obtain⟨d0,d1,d8,i,v,lk,acc,m,w1,d12,hin,d9,d11,hres,hal,hml,hmn,ys,sv,c1,lo1⟩:=I;have nt:¬(tl=(14,k0)∨tl=(14,k0+1)):=by rintro (h|h) <;> rw[h]at htl <;> simp at htl
 have slg:=sl.ch L c1 nt;have X1:=X.ch L c1 (by simp)
 cases n with
 | zero=>
  obtain rfl:i=cl.length:=by omega
  have hdr:(cl.zip nm).drop cl.length=[]:=List.drop_eq_nil_of_le (by simp;omega);rw[hdr]at hres;simp only[shortL,List.append_nil]at hres;subst hres;obtain⟨aL,cL,hvl⟩:=sl.len (by omega) cl.length (by simp);rw[hvl]at d1;refine f'f ?_;simp[W162_1,Zop,d0,d1,d8,d9,d11,d12];exact⟨w1,sv,c1,lo1⟩
 | succ n=>
  have hi:i<cl.length:=by omega
  have hi':(i:Int)<cl.length:=by omega
  obtain⟨bL,pL,eL,_,yl⟩:=slg.blk (by omega) cl.length (by simp) (by omega);obtain⟨x,hxx⟩:∃x,cl[i]?=some x:=⟨_,l'c hi⟩;obtain⟨b,hb⟩:∃b,nm[i]?=some b:=⟨_,l'c (by omega)⟩;have hmb:m[i]?=some b:=by rw[hmn i (by omega),hb]
  have kx:O.cell g bL i=some (ni x):=by rw[yl.cell i (by simpa using hi)];simp[hxx]
  have kb:O.cell g bs i=some (.bool b):=by rw[ys.cell i (by simp;omega)];simp[hmb]
  have d1':=d1;rw[eL]at d1';have hwi:IntKind.i64.wrap ((i:Int)+1)=((i+1:Nat):Int):=by rw[wrap_id (by omega) (by omega)];omega
  have eb:=begt_q C L X1 (hx x (l'f hxx));rw[zip_drop hxx hb]at hres;simp only[shortL]at hres;obtain⟨i',hi2⟩:∃i',i'=i+1:=⟨_,rfl⟩;rw[<-hi2]at hwi hres;have hmn':∀j:Nat,i'<=j->m[j]?=nm[j]?:=λj hj=>hmn j (by omega);have rs:¬bs<ro:=by have:=ys.lo;omega
  unfold ptr at eb
  cases b with
  | true=>
   simp only[if_true]at hres;obtain⟨v3,g3,w3,e3,s3,c3,lo3⟩:=appM_one (bytes:=8) (new:=[ni x]) L lo1 sv (by omega) rfl (by simp;omega) (by simp;omega);have ys3:=ys.ch L c3 (by simp);have c13:=c1.trans (c3.mono (K':=λu=>u=(14,k0)∨u=(14,k0+1)) (λ_ h=>.inl h));refine f'f ?_;clear c1 c3;simp[W162_1,Zop,Zoq,Zot,Zou,Zov,d0,d1',d8,d9,d11,d12,hi,hi',kx,kb,e3,hwi];exact⟨n,by omega,by simp[d0],by simp[d1',eL],by simp[d8],i',v3,lk,acc++[x],m,w3,by simp,by omega,by simp[d9],by simp,by simpa using hres,by simp;omega,hml,hmn',ys3,by simpa using s3.m,c13,lo3⟩
  | false=>
   simp only[l'y,if_false]at hres
   cases lk with
   | false=>
    simp only[Bool.false_and,l'y,if_false]at hres;refine f'f ?_;simp[W162_1,Zop,Zoq,Zot,Zov,d0,d1',d8,d9,d11,d12,hi,hi',kx,kb,hwi];exact⟨n,by omega,by simp[d0],by simp[d1',eL],by simp[d8],i',v,false,acc,m,w1,by simp,by omega,by simp[d9],by simp[d11],hres,by omega,hml,hmn',ys,sv,c1,lo1⟩
   | true=>
    cases hbt:beginsTrue N x with
    | false=>
     rw[hbt]at eb hres;simp only[Bool.and_false,l'y,if_false]at hres;refine f'f ?_;simp[W162_1,Zop,Zoq,Zot,Zov,d0,d1',d8,d9,d11,d12,hi,hi',kx,kb,eb,hwi];exact⟨n,by omega,by simp[d0],by simp[d1',eL],by simp[d8],i',v,true,acc,m,w1,by simp,by omega,by simp[d9],by simp[d11],hres,by omega,hml,hmn',ys,sv,c1,lo1⟩
    | true=>
     rw[hbt]at eb hres;simp only[Bool.and_self,if_true]at hres;have hlt:i<(m.map Value.bool).length:=by simp;omega
     have ys2:=ys.put L i hlt (.bool true);have c2:=Ch.put L (K:=λu=>u=((14,k0+1):Tag)) ys i hlt (.bool true) rfl;rw[<-List.map_set]at ys2;have hp2:=puts_one (v:=.bool true) kb;have kb2:O.cell (O.put g bs i (.bool true)) bs i=some (.bool true):=by rw[ys2.cell i (by simp;omega),List.getElem?_map,l'g (by omega)];rfl
     have sv2:=sv.ch L c2 (by simp);have nt2:¬tl=(14,k0+1):=λh=>nt (.inr h);have sl2:=slg.ch L c2 nt2;obtain⟨bL2,pL2,eL2,_,yl2⟩:=sl2.blk (by omega) cl.length (by simp) (by omega);rw[eL]at eL2;simp only[Value.slice.injEq,l'a,Addr.mk.injEq,and_true,true_and]at eL2;obtain⟨rfl,rfl⟩:=eL2;have kx2:O.cell (O.put g bs i (.bool true)) bL i=some (ni x):=by rw[yl2.cell i (by simpa using hi)];simp[hxx]
     have lo2:=l'G lo1 c2.nx;obtain⟨v3,g3,w3,e3,s3,c3,lo3⟩:=appM_one (bytes:=8) (new:=[ni x]) L lo2 sv2 (by omega) rfl (by simp;omega) (by simp;omega);have ys3:=ys2.ch L c3 (by simp);have c13:=(c1.trans (c2.mono (K':=λu=>u=(14,k0)∨u=(14,k0+1)) (λ_ h=>.inr h))).trans (c3.mono (λ_ h=>.inl h));have hmn2:∀j:Nat,i'<=j->(m.set i true)[j]?=nm[j]?:=λj hj=>by rw[l'h (by omega)];exact hmn j (by omega)
     generalize O.put g bs i (.bool true)=g2 at *;refine f'f ?_;clear c1 c2 c3;simp[W162_1,Zop,Zoq,Zor,Zos,Zot,Zou,Zov,d0,d1',d8,d9,d11,d12,hi,hi',kx,kb,eb,rs,hp2,kb2,kx2,e3,hwi];exact⟨n,by omega,by simp[d0],by simp[d1',eL],by simp[d8],i',v3,false,acc++[x],m.set i true,w3,by simp,by omega,by simp,by simp,by simpa using hres,by simp;omega,by simp[hml],hmn2,ys3,by simpa using s3.m,c13,lo3⟩
theorem short_q (C:LP' O ro c)(L:O.Law)(lo:ro<=O.next h)(X:CN O ro w h cp N v1 v2){tl tc:Tag}{vl vc:Value}{cl core:List Nat}(hcl:cl.length<=192)(hx:∀x∈cl,x/2<N.las.length)(hla:N.las.length<=192)(htl:tl.1≠14)(sl:Sm O ro w h tl 1 vl (cl.map ni))(hco:core.length<=most)(sc:Sm O ro w h tc 1 vc (core.map ni))(t1:Tag):
  ∃v h' w',c 162 [ptr cp,vl,vc] h=some (v,h')∧Sm O ro w' h' t1 1 v ((shortP N cl core).map ni)∧Ch O (λ_=>False) w h w' h'∧ro<=O.next h':=by
 have hm:most=1000000:=rfl;obtain⟨k0,hk⟩:=fresh_big w (O.next h);have hk0:∀b,b<O.next h->w b≠((14,k0):Tag):=λb hb e=>by have:=hk b hb;rw[e]at this;simp at this
 have hk1:∀b,b<O.next h->w b≠((14,k0+1):Tag):=λb hb e=>by have:=hk b hb;rw[e]at this;simp at this;omega
 obtain⟨vb,h2,w2,e2,s2,c2,lo2⟩:=broken_q C L lo X hcl hx hla sl (13,0);have sc2:=sc.ch L c2 (by simp);have hbl:(brokenP N cl).length=cl.length:=by simp[brokenP]
 obtain⟨bs,h3,w3,e3,y3,c3,lo3⟩:=places_q C L lo2 (by rw[hbl];omega) hco s2 sc2 (14,k0+1);have c23:=c2.trans c3;rw[hbl]at e3;have X3:=X.ch L c23 (by simp);have sl3:=sl.ch L c23 (by simp);have hnm:(placesP (brokenP N cl) core).length=cl.length:=by rw[places_len,hbl]
 obtain⟨nm,hnm2⟩:∃nm,nm=placesP (brokenP N cl) core:=⟨_,rfl⟩;rw[<-hnm2]at hnm y3;have hsh:shortP N cl core=shortL N (cl.zip nm) (lackF N (cl.zip nm)):=by rw[hnm2];rfl
 have key:∃u h',c 162 [ptr cp,vl,vc] h=some (u,h')∧ShQ O ro w3 h3 k0 (shortP N cl core) u h':=by
  refine C.fn (F162_fn O ro) rfl rfl ?_;unfold ptr at e2;unfold F162;refine s'f ?_;simp[Zoe,thenE];refine s'f ?_;simp[Zof,thenE,e2];refine s'f ?_;simp[Zog,thenE,e3];refine s'f ?_;simp[Zoh,thenE];refine okE.seq (s'f ?_);simp[Zoi,thenE];refine okE.blk ?_;refine okE.mono (okE.loop (Q:=λe t' g'=>outOf 0 e = .normal∧g'=h3∧t' 0 = .pointer (some ⟨cp,0,none⟩)∧t' 1=vl∧t' 8 = .slice (some ⟨bs,0,some 1⟩) cl.length (cl.length+1)∧t' 9 = .bool (lackF N (cl.zip nm))) (ShI cp bs h3 N vl cl nm) (λn t g I=>short1_q C L X3 hcl hx sl3 y3 hnm I) cl.length _ _ ⟨rfl,by simp,by simp,by simp,0,by simp,by omega,by simp[lackF]⟩) ?_;rintro e t g ⟨hr,rfl,d0,d1,d8,d9⟩;rw[hr];simp only[thenE];refine s'f ?_;simp[Zon,thenE];have y4:=Bx.new L (ro:=ro) w3 g lo3 (14,k0) [];have c4:=Ch.new L (λ_=>False) w3 g (14,k0) [];have y34:=y3.ch L c4 (by simp);have lo4:=l'G lo3 c4.nx;refine okE.seq (s'f ?_);simp[Zoo,thenE];refine okE.blk ?_;refine okE.mono (okE.loop (Q:=λe t' g'=>outOf 2 e = .normal∧ShQ O ro w3 g k0 (shortP N cl core) (t' 11) g') (ShJ O ro w3 g k0 cp bs N vl cl nm (shortP N cl core)) (λn t g' I=>short2_q C L X3 hcl hx htl sl3 hnm I) cl.length _ _ ⟨by simp[d0],by simp[d1],by simp[d8],0,_,lackF N (cl.zip nm),[],nm,_,by simp,by omega,by simp[d9],by simp,by simp[hsh],by simp,hnm,λ_ _=>rfl,y34,.inr ⟨_,0,1,rfl,.inr rfl,by simp,y4⟩,c4.mono (by simp),lo4⟩) ?_;rintro e t' g' ⟨hr,hq⟩;rw[hr];simp only[thenE];obtain⟨w5,s5,hq⟩:=hq;obtain⟨f1,f2,f3⟩:=s5.flat;refine f'f ?_;simp[Zow,resE,resLE,rvE,f3];exact⟨w5,s5,hq⟩
 obtain⟨u,h',e1,w5,s5,c5,lo5⟩:=key;have cc:Ch O (λ_=>False) w h w5 h':=by
  refine⟨l'G c23.nx c5.nx,λb hb=>?_,λb hb _=>?_⟩
  ·rw[c5.ow b (Nat.lt_of_lt_of_le hb c23.nx),c23.ow b hb]
  ·have q1:=c23.fr b hb (by simp);have q2:=c5.fr b (Nat.lt_of_lt_of_le hb c23.nx) (by rw[c23.ow b hb];rintro (h1|h1);exact hk0 b hb h1;exact hk1 b hb h1);exact⟨λo=>by rw[q2.1,q1.1],by rw[q2.2,q1.2]⟩
 obtain⟨w6,s6,c6⟩:=give2 (t1:=t1) cc hk0 s5;exact⟨u,h',w6,e1,s6,c6,lo5⟩
end
end Go.Proofs.YtimdkminagnhgabGreatDoor
namespace Go.Ta
theorem begins_true {N:Ck}{st:Nat}(h:∀(j:Nat)(y:Nat×Nat),N.las[j]?=some y->y.2=2∨y.2=st/2^j%2): beginsP N st=true:=by
 unfold beginsP;rw[l'D];rintro⟨⟨a,r⟩,j⟩ hm;have:=h j (a,r) (by have:=List.mem_zipIdx_iff_getElem?.1 hm;simpa using this);simpa using this
theorem begins_false {N:Ck}{st j:Nat}{y:Nat×Nat}(hy:N.las[j]?=some y)(h1:y.2≠2)(h2:y.2≠st/2^j%2): beginsP N st=false:=by
 rw[Bool.eq_false_iff];intro h;unfold beginsP at h;rw[l'D]at h;have:=h (y,j) (List.mem_zipIdx_iff_getElem?.2 hy);simp[h1,h2]at this
end Go.Ta
namespace Go.Proofs.YtimdkminagnhgabGreatDoor
open Go.Vm Go.Proofs Go.Ta
set_option maxHeartbeats 4000000
section
variable {H:Type}{O:HI H}{ro:Nat}{c:CallT H}
attribute [local simp] cSeq cReg reg to too onlyIf onlyIfo aMove mv' nl' fl' ld' ln' mk' ia' ik' ix' aNil aFld aLd aInt aPick aConv aUn unA ev upd_get isB envOf iA_add iA_sub iA_mul iA_eql iA_neq iA_lss iA_leq iA_gtr iA_geq cIf cRet cSkip okc_some aSt vc_int vc_bool vc_agg vc_str vc_ptr vc_sl ft_int ft_bool ft_str ft_ptr ft_sl tp_int tp_bool tp_agg tp_str tp_ptr tp_sl aBuild Instr.fill aCall cExit cBlk outOf ptr undef aNew aBox aIdxArr aLdN aShift aLenSl aIdx aMkSl aApp rangeA aExt aPtrNil aSlNil aBoolEq aMake aSliceSl boundA chk
variable {w w':Own}{h h':H}{q:Nat}{S:Srch}{bW bH bV:Nat}{vA vC vT vS vK:Value}{lv wv:List Value}
variable {cp:Nat}{N:Ck}{v1 v2:Value}
def BgI (cp st:Nat)(h:H)(N:Ck)(n:Nat)(t:Env)(g:H): Prop:=
 g=h∧t 0 = .pointer (some ⟨cp,0,none⟩)∧t 1=ni st∧∃i,t 5=ni i∧i+n=N.las.length∧∀(j:Nat)(y:Nat×Nat),j<i->N.las[j]?=some y->y.2=2∨y.2=st/2^j%2
theorem begins_q (C:LP' O ro c)(L:O.Law)(X:CN O ro w h cp N v1 v2){st:Nat}(hst:st<9223372036854775808)(hl:N.las.length<=60): c 99 [ptr cp,ni st] h=some (.bool (beginsP N st),h):=by
 have m1:=X.m.get 1 _ rfl;have key:∃u h',c 99 [ptr cp,ni st] h=some (u,h')∧(u = .bool (beginsP N st)∧h'=h):=by
  refine C.fn (F99_fn O ro) rfl rfl ?_;unfold F99;refine s'f ?_;simp[ZkR,thenE];refine okE.seq (s'f ?_);simp[ZkS,thenE];refine f'f ?_;simp[thenE];refine okE.seq (s'f ?_);simp[ZkU,thenE];refine okE.blk ?_;refine okE.mono (okE.loop (Q:=λe t' g'=>g'=h∧(outOf 0 e = .ret∧t' 4 = .bool false∧beginsP N st=false∨outOf 0 e = .normal∧beginsP N st=true)) (BgI cp st h N) ?_ N.las.length _ _ ⟨rfl,by simp,by simp,0,by simp,by omega,λj y hj=>by omega⟩) ?_
  ·rintro n t g ⟨rfl,d0,d1,i,d5,hin,hok⟩
   cases n with
   | zero=>
    obtain rfl:i=N.las.length:=by omega
    obtain⟨a1,q1,f1⟩:=X.len1;have m1':=m1;rw[f1]at m1';refine f'f ?_;simp[W99_0,ZkV,d0,d1,d5,m1'];exact begins_true λj y hy=>hok j y (l'b.1 hy).1 hy
   | succ n=>
    have hi:i<N.las.length:=by omega
    have hi':(i:Int)<N.las.length:=by omega
    obtain⟨y,hy⟩:∃y,N.las[i]?=some y:=⟨_,l'c hi⟩;obtain⟨bG,qG,fG,hc0,hc1⟩:=X.getL i hy;have m1':=m1;rw[fG]at m1';have hsh:=shr_nat st i (by omega);have hle:st/2^i<=st:=Nat.div_le_self _ _;have hand:=and_one (st/2^i) (by omega);obtain⟨b,hb⟩:∃b,b=st/2^i%2:=⟨_,rfl⟩;obtain⟨q,hq⟩:∃q,q=st/2^i:=⟨_,rfl⟩;rw[<-hb]at hand;rw[<-hq]at hand hsh;have hwi:IntKind.i64.wrap ((i:Int)+1)=((i+1:Nat):Int):=by rw[wrap_id (by omega) (by omega)];omega
    obtain⟨i',hi2⟩:∃i',i'=i+1:=⟨_,rfl⟩;rw[<-hi2]at hwi;have n2:((y.2:Int) != 2) = !decide (y.2=2):=cast_ne y.2 2;have n3:=cast_ne y.2 b;have hnext:(y.2=2∨y.2=b)->∀(j:Nat)(z:Nat×Nat),j<i'->N.las[j]?=some z->z.2=2∨z.2=st/2^j%2:=by
     intro h0 j z hj hz
     by_cases e:j=i
     ·subst e;rw[hy]at hz;simp at hz;subst hz;rw[<-hb];exact h0
     ·exact hok j z (by omega) hz
    by_cases h2:y.2=2
    ·have n4:((y.2:Int) != 2)=false:=by rw[n2];simp[h2]
     have n5:(y.2:Int)=2:=by omega
     refine f'f ?_;simp[W99_0,ZkV,ZkW,ZkX,ZkZ,d0,d1,d5,m1',hi,hi',hc1,n4,n5,h2,hwi];exact⟨n,by omega,rfl,by simp[d0],by simp[d1],i',by simp,by omega,hnext (.inl h2)⟩
    ·have n4:((y.2:Int) != 2)=true:=by rw[n2];simp[h2]
     have n5:¬(y.2:Int)=2:=by omega
     by_cases h3:y.2=b
     ·have n6:((y.2:Int) != (b:Int))=false:=by rw[n3];simp[h3]
      have n7:(y.2:Int)=b:=by omega
      have n8:((b:Int) != 2)=true:=by rw[<-n7];exact n4
      have n9:¬(b:Int)=2:=by rw[<-n7];exact n5
      have n10:¬b=2:=by omega
      have hc1b:O.cell g bG (i*2+1)=some (ni b):=by rw[hc1,h3]
      refine f'f ?_;simp[W99_0,ZkV,ZkW,ZkX,ZkZ,d0,d1,d5,m1',hi,hi',hc1b,n8,n9,n10,hsh,hand,hwi];exact⟨n,by omega,rfl,by simp[d0],by simp[d1],i',by simp,by omega,hnext (.inr h3)⟩
     ·have n6:((y.2:Int) != (b:Int))=true:=by rw[n3];simp[h3]
      have n7:¬(y.2:Int)=b:=by omega
      refine f'f ?_;simp[W99_0,ZkV,ZkW,ZkX,ZkY,d0,d1,d5,m1',hi,hi',hc1,n4,n5,h2,hsh,hand,n6,n7,h3];exact begins_false hy h2 (by rw[<-hb];exact h3)
  ·rintro e t g ⟨rfl,hr⟩;rcases hr with ⟨hr,d4,hab⟩|⟨hr,hab⟩
   ·rw[hr];simp only[thenE,resE,resLE,rvE,d4,hab];simp
   ·rw[hr];simp only[thenE];refine f'f ?_;simp only[hab];simp[Zk0,resE,resLE,rvE]
 obtain⟨u,h',e1,rfl,rfl⟩:=key;exact e1
end
end Go.Proofs.YtimdkminagnhgabGreatDoor
namespace Go.Proofs.YtimdkminagnhgabGreatDoor
open Go.Vm Go.Proofs Go.Ta
set_option maxHeartbeats 4000000
section
variable {H:Type}{O:HI H}{ro:Nat}{c:CallT H}
attribute [local simp] cSeq cReg reg to too onlyIf onlyIfo aMove mv' nl' fl' ld' ln' mk' ia' ik' ix' aNil aFld aLd aInt aPick aConv aUn unA ev upd_get isB envOf iA_add iA_sub iA_mul iA_eql iA_neq iA_lss iA_leq iA_gtr iA_geq cIf cRet cSkip okc_some aSt vc_int vc_bool vc_agg vc_str vc_ptr vc_sl ft_int ft_bool ft_str ft_ptr ft_sl tp_int tp_bool tp_agg tp_str tp_ptr tp_sl aBuild Instr.fill aCall cExit cBlk outOf ptr undef aNew aBox aIdxArr aLdN aShift aLenSl aIdx aMkSl aApp rangeA aExt aPtrNil aSlNil aBoolEq aMake aSliceSl boundA chk
variable {w w':Own}{h h':H}{q:Nat}{S:Srch}{bW bH bV:Nat}{vA vC vT vS vK:Value}{lv wv:List Value}
theorem Cs.app (L:O.Law){t:Tag}(ht:t≠(9,0)){v:Value}{vs:List Value}{cs:List (List Nat)}(lo:ro<=O.next h)(x:Cs O ro w h t v vs cs){u:Value}{l:List Nat}(su:Sm O ro w h (9,0) 1 u (l.map ni))(hl:cs.length<1000000):
  ∃v' h' w',appI O ro 1 24 v (.slice (some ⟨O.next h,0,some 1⟩) 1 2) (O.new h [u])=some (v',h')∧Cs O ro w' h' t v' (vs++[u]) (cs++[l])∧Ch O (λy=>y=t) w h w' h'∧ro<=O.next h':=by
 obtain⟨v4,h4,w4,e4,s4,c4,lo4⟩:=appM_one (bytes:=24) (new:=[u]) L lo x.s (by omega) rfl (by rw[x.l];omega) (by rw[x.l];omega);have n9:¬((9,0):Tag)=t:=λe=>ht e.symm;refine⟨v4,h4,w4,e4,⟨s4.m,by simp[x.l],λi l' u' q1 q2=>?_⟩,c4,lo4⟩
 by_cases hk:i<cs.length
 ·rw[l'e hk]at q1;rw[l'e (by rw[x.l];exact hk)]at q2;exact (x.a i l' u' q1 q2).ch L c4 n9
 ·have hk2:i=cs.length:=by
   have:=(l'b.1 q1).1;simp at this;omega
  subst hk2;simp at q1;rw[<-x.l]at q2;simp at q2;subst q1 q2;exact su.ch L c4 n9
def DpI (O:HI H)(ro:Nat)(w:Own)(h:H)(k0 b o:Nat)(vl:Value)(cl:List Nat)(own:List (List Nat))(n:Nat)(t:Env)(g:H): Prop:=
 t 0 = .pointer (some ⟨b,o,none⟩)∧t 1=vl∧∃(i:Nat)(v:Value)(us:List Value)(w1:Own),t 5=v∧t 6=ni i∧i+n=own.length∧Cs O ro w1 g (14,k0) v us ((own.take i).filter λx=>x != cl)∧Ch O (λ_=>False) w h w1 g∧ro<=O.next g
theorem drop_q (C:LP' O ro c)(L:O.Law)(lo:ro<=O.next h){p b o:Nat}{tb tl:Tag}{lb vos:List Value}{vo vl:Value}{own:List (List Nat)}{cl:List Nat}(hp:20<=p)(htb:tb.1<9)(yb:Bx O ro w h tb b lb)(hb:lb[o+1]?=some vo)(X:Cs O ro w h (p,3) vo vos own)(hown:own.length<=most)(hol:∀l∈own,l.length<=most)(hcl:cl.length<=most)(sl:Sm O ro w h tl 1 vl (cl.map ni)):
  ∃v us h' w',c 194 [.pointer (some ⟨b,o,none⟩),vl] h=some (.bool (decide ((own.filter λx=>x != cl).length<own.length)),h')∧Cs O ro w' h' (p,3) v us (own.filter λx=>x != cl)∧Bx O ro w' h' tb b (lb.set (o+1) v)∧Ch O (λu=>u=tb) w h w' h'∧ro<=O.next h':=by
 have hm:most=1000000:=rfl;obtain⟨k0,hk0⟩:=fresh_tag w (O.next h);have hob:=(l'b.1 hb).1;have rb:¬b<ro:=by have:=yb.lo;omega
 have nb:¬tb=(14,k0):=by intro e;rw[e]at htb;simp at htb
 obtain⟨left,hleft⟩:∃left,left=(own.filter λx=>x != cl):=⟨_,rfl⟩;rw[<-hleft];have key:∃u h',c 194 [.pointer (some ⟨b,o,none⟩),vl] h=some (u,h')∧(u = .bool (decide (left.length<own.length))∧∃v us g w1,Cs O ro w1 g (14,k0) v us left∧Ch O (λ_=>False) w h w1 g∧ro<=O.next g∧putsA O g b (o+1) [v]=some h'):=by
  refine C.fn (F194_fn O ro) rfl rfl ?_;unfold F194;have y4:=Bx.new L (ro:=ro) w h lo (14,k0) [];have c4:=Ch.new L (λ_=>False) w h (14,k0) [];have lo4:=l'G lo c4.nx;refine s'f ?_;simp[Zo1,thenE];refine s'f ?_;simp[Zo2,thenE];refine okE.seq (s'f ?_);simp[Zo3,thenE];refine okE.blk ?_;refine okE.mono (okE.loop (Q:=λe t' g'=>outOf 0 e = .normal∧t' 0 = .pointer (some ⟨b,o,none⟩)∧∃us w1,Cs O ro w1 g' (14,k0) (t' 5) us left∧Ch O (λ_=>False) w h w1 g'∧ro<=O.next g') (DpI O ro w h k0 b o vl cl own) ?_ own.length _ _ ⟨by simp,by simp,0,_,[],_,by simp,by simp,by omega,⟨.inr ⟨_,0,1,rfl,.inr rfl,by simp,y4⟩,rfl,by simp⟩,c4,lo4⟩) ?_
  ·rintro n t g ⟨d0,d1,i,v,us,w1,d5,d6,hin,cs,c1,lo1⟩;have yb1:=yb.ch L c1 (by simp);have kb:=yb1.get (o+1) _ hb;have X1:=X.ch L c1 (by simp) (by simp);have sl1:=sl.ch L c1 (by simp)
   cases n with
   | zero=>
    obtain rfl:i=own.length:=by omega
    rw[List.take_length,<-hleft]at cs;obtain⟨a1,q1,f1⟩:=X1.s.len (by omega) own.length (by rw[X.l];simp);rw[f1]at kb;refine f'f ?_;simp[W194_0,Zo4,d0,d1,d5,d6,kb];exact⟨us,w1,cs,c1,lo1⟩
   | succ n=>
    have hi:i<own.length:=by omega
    have hi':(i:Int)<own.length:=by omega
    obtain⟨bO,pO,eO,_,yO⟩:=X1.s.blk (by omega) own.length (by rw[X.l];simp) (by omega);obtain⟨l,hl⟩:∃l,own[i]?=some l:=⟨_,l'c hi⟩;obtain⟨u,hu⟩:∃u,vos[i]?=some u:=⟨_,l'c (by rw[X.l];exact hi)⟩;have su:=X1.a i l u hl hu;have ku:O.cell g bO i=some u:=by rw[yO.cell i (by rw[X.l];exact hi),hu]
    have eq:=equal_q C L (hol l (l'f hl)) hcl su sl1;rw[eO]at kb;have hwi:IntKind.i64.wrap ((i:Int)+1)=((i+1:Nat):Int):=by rw[wrap_id (by omega) (by omega)];omega
    obtain⟨f1,f2,f3⟩:=su.flat;have htk:(own.take (i+1)).filter (λx=>x != cl)=(own.take i).filter (λx=>x != cl)++(if l != cl then [l] else []):=by
     rw[l'C,hl,List.filter_append];simp[List.filter_cons]
    obtain⟨i',hi2⟩:∃i',i'=i+1:=⟨_,rfl⟩;rw[<-hi2]at hwi htk
    cases he:(l==cl) with
    | true=>
     rw[he]at eq;have hne:(l != cl)=false:=by simp[bne,he]
     rw[hne]at htk;simp only[l'y,if_false,List.append_nil]at htk;rw[<-htk]at cs;refine f'f ?_;simp[W194_0,Zo4,Zo5,Zo7,d0,d1,d5,d6,kb,hi,hi',ku,eq,hwi];exact⟨n,by omega,by simp[d0],by simp[d1],i',v,us,w1,by simp[d5],by simp,by omega,cs,c1,lo1⟩
    | false=>
     rw[he]at eq;have hne:(l != cl)=true:=by simp[bne,he]
     rw[hne]at htk;simp only[if_true]at htk;have hfl:=List.length_filter_le (λx=>x != cl) (own.take i);have htl:(own.take i).length<=i:=by simp;omega
     obtain⟨v3,g3,w3,e3,cs3,c3,lo3⟩:=cs.app L (by simp) lo1 su (by omega);rw[<-htk]at cs3;have c13:=Ch.own (k:=k0) c1 c3 hk0;refine f'f ?_;simp[W194_0,Zo4,Zo5,Zo6,Zo7,d0,d1,d5,d6,kb,hi,hi',ku,eq,f1,f2,f3,e3,hwi];exact⟨n,by omega,by simp[d0],by simp[d1],i',v3,_,w3,by simp,by simp,by omega,cs3,c13,lo3⟩
  ·rintro e t g ⟨hr,d0,us,w1,cs,c1,lo1⟩;rw[hr];simp only[thenE];have yb1:=yb.ch L c1 (by simp);have kb:=yb1.get (o+1) _ hb;have X1:=X.ch L c1 (by simp) (by simp);obtain⟨a1,q1,f1⟩:=X1.s.len (by omega) own.length (by rw[X.l];simp);obtain⟨a2,q2,f2⟩:=cs.s.len (by omega) left.length (by rw[cs.l];simp);rw[f1]at kb;have p5:=puts_one (O:=O) (v:=t 5) kb;obtain⟨g1,g2,g3⟩:=cs.s.flat;obtain⟨va,hva⟩:∃va,va=t 5:=⟨_,rfl⟩;rw[<-hva]at p5 f2 g1 g2 g3 cs;have d5:=hva.symm;generalize hpg:O.put g b (o+1) va=g5 at p5;have d5':=d5;rw[f2]at d5';refine s'f ?_;simp[Zo8,thenE,d0,d5',kb];refine f'f ?_;simp[Zo9,Zpa,d0,d5,rb,p5,g1,g2,resE,resLE,rvE];exact⟨va,us,g,w1,cs,c1,lo1,p5⟩
 obtain⟨u,h',e1,rfl,v,us,g,w1,cs,c1,lo1,p5⟩:=key;have yb1:=yb.ch L c1 (by simp);have hp5:=puts_one (O:=O) (v:=v) (yb1.get (o+1) _ hb);rw[hp5]at p5;simp only[l'a]at p5;subst p5;have nb9:¬((9,0):Tag)=tb:=by intro e;rw[<-e]at htb;simp at htb
 have nbp:¬((p,3):Tag)=tb:=by intro e;rw[<-e]at htb;simp at htb;omega
 obtain⟨w2,cs2,yb2,c2⟩:∃w2,Cs O ro w2 g (p,3) v us left∧Bx O ro w2 g tb b lb∧Ch O (λ_=>False) w h w2 g:=by
  rcases id cs.s with e|⟨b0,m,cp,e,ec,el,y⟩
  ·exact⟨w1,⟨.inl e,cs.l,cs.a⟩,yb1,c1⟩
  ·have hb0:¬b0<O.next h:=λhb0=>hk0 b0 hb0 (by rw[<-c1.ow b0 hb0,y.tag])
   refine⟨w1.set b0 (p,3),⟨.inr ⟨b0,m,cp,e,ec,el,⟨by simp[Own.set],y.lo,y.al,y.cell⟩⟩,cs.l,λi l u h1 h2=>(cs.a i l u h1 h2).re y.tag (by simp)⟩,yb1.re y.tag nb,⟨c1.nx,λb' hb'=>?_,c1.fr⟩⟩;have:b'≠b0:=by rintro rfl;exact hb0 hb'
   simp only[Own.set,if_neg this];exact c1.ow b' hb'
 have c5:=Ch.put L (K:=λu=>u=tb) yb2 (o+1) hob v rfl;exact⟨v,us,_,w2,e1,cs2.ch L c5 nbp nb9,yb2.put L (o+1) hob v,(c2.mono (by simp)).trans c5,l'G lo1 c5.nx⟩
end
end Go.Proofs.YtimdkminagnhgabGreatDoor
namespace Go.Ta
theorem solveP_ok {f n:Nat}{Z Z':Solv}{l:List Nat}{bud:Int}{a:Nat}(hs:solveP f n Z l bud=some (Z',a))(h:ZOk Z): ZOk Z'∧Z'.early=Z.early∧Z'.clauses=Z.clauses∧0<=bud∧Z.conflicts<=Z'.conflicts∧Z'.conflicts-Z.conflicts<=most62∧Z'.conflicts<2*most62+1:=by
 unfold solveP at hs;split at hs
 ·rename_i hc
  split at hs
  ·simp at hs
  ·split at hs
   ·rename_i hc2
    simp only[l'a,l'd]at hs;obtain⟨rfl,rfl⟩:=hs;exact⟨h,rfl,rfl,hc.2.2.1,by simp,by simp;omega,by simp;omega⟩
   ·simp at hs
 ·simp at hs
end Go.Ta
namespace Go.Proofs.YtimdkminagnhgabGreatDoor
open Go.Vm Go.Proofs Go.Ta
set_option maxHeartbeats 4000000
section
variable {H:Type}{O:HI H}{ro:Nat}{c:CallT H}
attribute [local simp] cSeq cReg reg to too onlyIf onlyIfo aMove mv' nl' fl' ld' ln' mk' ia' ik' ix' aNil aFld aLd aInt aPick aConv aUn unA ev upd_get isB envOf iA_add iA_sub iA_mul iA_eql iA_neq iA_lss iA_leq iA_gtr iA_geq cIf cRet cSkip okc_some aSt vc_int vc_bool vc_agg vc_str vc_ptr vc_sl ft_int ft_bool ft_str ft_ptr ft_sl tp_int tp_bool tp_agg tp_str tp_ptr tp_sl aBuild Instr.fill aCall cExit cBlk outOf ptr undef aNew aBox aIdxArr aLdN aShift aLenSl aIdx aMkSl aApp rangeA aExt aPtrNil aSlNil aBoolEq aMake aSliceSl boundA chk
variable {w w':Own}{h h':H}{q:Nat}{S:Srch}{bW bH bV:Nat}{vA vC vT vS vK:Value}{lv wv:List Value}
variable {cp:Nat}{N:Ck}{v1 v2:Value}
def frC (x:Nat×Value): List Value:=[ptr x.1,x.2]
theorem frC_len (x:Nat×Value): (frC x).length=2:=rfl
def FM (O:HI H)(ro:Nat)(w:Own)(h:H)(i:Nat)(F:Go.Ta.Fr)(s:Nat)(vo:Value): Prop:=
 Go.Ta.ZOk F.s∧(∃vE vcl vM vK vs,SV O ro w h (1000+2*i) s F.s vE vcl vM vK vs)∧∃us,Cs O ro w h (1001+2*i,3) vo us F.own
theorem FM.ch (L:O.Law){K:Tag->Prop}{p s:Nat}{F:Go.Ta.Fr}{vo:Value}(x:FM O ro w h p F s vo)(a:Ch O K w h w' h')(h9:∀i,¬K (9,i))(hp:∀i,¬K (1000+2*p,i))(hq:∀i,¬K (1001+2*p,i)): FM O ro w' h' p F s vo:=by
 obtain⟨z,⟨vE,vcl,vM,vK,vs,y⟩,us,u⟩:=x;exact⟨z,⟨_,_,_,_,_,y.ch L a h9 hp⟩,us,u.ch L a (hq _) (h9 _)⟩
structure RN (O:HI H) (ro:Nat)(w:Own)(h:H) (r:Nat)(R:Rn) (bud:Int) (cp:Nat)(N:Ck)(v1 v2 vF vW vP:Value)(fs:List (Nat×Value)):Prop where
 m:Bx O ro w h (5,0) r [ptr cp,.int .i64 bud,.int .i64 R.spent,vF,vW,vP]
 X:CN O ro w h cp N v1 v2
 sF:Sm O ro w h (5,1) 2 vF (fs.flatMap frC)
 lF:fs.length=R.frames.length
 fr:∀(i:Nat)(F:Go.Ta.Fr)(y:Nat×Value),R.frames[i]?=some F->fs[i]?=some y->FM O ro w h i F y.1 y.2
 sW:Sz O ro w h (5,2) 2 vW (R.way.flatMap prC)
 lo:ro<=O.next h
theorem RN.getF {r:Nat}{R:Rn}{bud:Int}{vF vW vP:Value}{fs:List (Nat×Value)}(x:RN O ro w h r R bud cp N v1 v2 vF vW vP fs)(i:Nat){y:Nat×Value}(hy:fs[i]?=some y):
  ∃b c,vF = .slice (some ⟨b,0,some 2⟩) R.frames.length c∧Bx O ro w h (5,1) b (fs.flatMap frC)∧(fs.flatMap frC)[i*2]?=some (ptr y.1)∧(fs.flatMap frC)[i*2+1]?=some y.2:=by
 obtain⟨hj,hjy⟩:=l'b.1 hy;have hlen:=flat_len frC 2 frC_len fs;obtain⟨b,c,e,hc,yb⟩:=x.sF.blk (by omega) fs.length hlen (by omega);rw[x.lF]at e;have c0:=flat_at frC 2 frC_len fs i hj 0 (by omega);have c1:=flat_at frC 2 frC_len fs i hj 1 (by omega);rw[hjy]at c0 c1;exact⟨b,c,e,yb,by simpa [frC]using c0,by simpa [frC]using c1⟩
theorem ask_q (C:LP' O ro c)(L:O.Law){r:Nat}{R R1:Rn}{bud:Int}{vF vW vP:Value}{fs:List (Nat×Value)}(x:RN O ro w h r R bud cp N v1 v2 vF vW vP fs)(hb:bud<=2305843009213693952)(h0:0<=R.spent){level f n a:Nat}{l:List Nat}{tl:Tag}(htl:¬K11 tl){vl:Value}(sl:Sm O ro w h tl 1 vl (l.map ni))(hs:askP f n bud R level l=some (R1,a)):
  ∃h' w',c 123 [ptr r,ni level,vl] h=some (ni a,h')∧RN O ro w' h' r R1 bud cp N v1 v2 vF vW vP fs∧Ch O (λu=>u=(5,0)∨Ks (1000+2*level) u) w h w' h'∧0<=R1.spent:=by
 have hm62:most62=4611686018427387904:=rfl;unfold askP at hs;split at hs
 ·simp at hs
 rename_i F hF
 split at hs
 ·simp at hs
 rename_i Z' a' hsv
 simp only[l'a,l'd]at hs;obtain⟨hR1,ha⟩:=hs;have hlv:=(l'b.1 hF).1;have hlv':(level:Int)<R.frames.length:=by omega
 obtain⟨y,hy⟩:∃y,fs[level]?=some y:=⟨_,l'c (by rw[x.lF];exact hlv)⟩;obtain⟨s,vo⟩:=y;obtain⟨hZ,⟨vE,vcl,vM,vK,vs,S0⟩,us,o0⟩:=x.fr level F _ hF hy;obtain⟨b,q,eF,yb,hk0,hk1⟩:=x.getF level hy;obtain⟨ok',-,-,hbs,hc1,hc2,hc3⟩:=solveP_ok hsv hZ;have e1:=conflicts_q C L S0;obtain⟨g2,e2,vM',vK',w2,S2,c2⟩:=solve_q C L (by omega) S0 hZ.2 htl sl hsv;have e3:=conflicts_q C L S2;have kk:∀t:Tag,t.1<20->¬Ks (1000+2*level) t:=λt ht=>by unfold Ks;omega
 have m0:=x.m;have m2:=x.m.ch L c2 (kk _ (by simp));obtain⟨sp,hsp⟩:∃sp,sp=R.spent+((Z'.conflicts-F.s.conflicts:Nat):Int):=⟨_,rfl⟩;have c3:=Ch.put L (K:=λu=>u=((5,0):Tag)) m2 2 (by simp) (.int .i64 sp) rfl;have m3:=m2.put L 2 (by simp) (.int .i64 sp);have p3:=puts_one (O:=O) (v:=.int .i64 sp) (m2.get 2 _ rfl);have cc:Ch O (λu=>u=(5,0)∨Ks (1000+2*level) u) w h w2 (O.put g2 r 2 (.int .i64 sp)):=(c2.mono (λ_ h=>.inr h)).trans (c3.mono (λ_ h=>.inl h));have kc:∀t:Tag,t.1<20->t≠(5,0)->¬(t=(5,0)∨Ks (1000+2*level) t):=λt h1 h2=>by rintro (h|h);exact h2 h;exact kk t h1 h
 refine⟨_,w2,?_,⟨?_,x.X.ch L cc (λi=>kc _ (by simp) (by simp)),x.sF.ch L cc (kc _ (by simp) (by simp)),?_,?_,?_,l'G x.lo cc.nx⟩,cc,?_⟩
 ·have hfl:=S2.m;have kb:=yb.get _ _ hk0;have r1:=x.m.get 1 _ rfl;have r2:=x.m.get 2 _ rfl;have r3:=x.m.get 3 _ rfl;rw[eF]at r3;have q2:=m2.get 2 _ rfl;have q3:=m3.get 2 _ rfl;have q4:=m3.get 1 _ rfl;have rr:¬r<ro:=by have:=x.m.lo;omega
  have hw2:IntKind.i64.wrap ((Z'.conflicts:Int)-(F.s.conflicts:Int))=((Z'.conflicts-F.s.conflicts:Nat):Int):=by rw[wrap_id (by omega) (by omega)];omega
  have hw3:IntKind.i64.wrap (R.spent+((Z'.conflicts-F.s.conflicts:Nat):Int))=sp:=by rw[hsp];exact wrap_id (by omega) (by omega)
  obtain⟨dd,hdd⟩:∃dd,dd=Z'.conflicts-F.s.conflicts:=⟨_,rfl⟩;rw[<-hdd]at hw2 hw3;obtain⟨bs,hbs2⟩:∃bs,bs=bud-R.spent:=⟨_,rfl⟩;have hw1:IntKind.i64.wrap (bud-R.spent)=bs:=by rw[hbs2];exact wrap_id (by omega) (by omega)
  rw[<-hbs2]at e2;unfold ptr at e1 e2 e3 kb;have ha2:(if bud<sp then 3 else a')=a:=by rw[hsp];exact ha
  generalize O.put g2 r 2 (.int .i64 sp)=g3 at *;simp only[Nat.add_zero]at kb;refine C.eq (F123_fn O ro) rfl rfl ?_;unfold F123;refine s'f ?_;simp[ZmQ,thenE];refine s'f ?_;simp[ZmR,thenE,r3,hlv,hlv',kb];refine s'f ?_;simp[ZmS,thenE,e1];refine s'f ?_;simp[ZmT,thenE,r1,r2,hw1,e2];refine s'f ?_;simp[ZmU,thenE,q2,e3,hw2,hw3,p3,rr]
  by_cases hbb:bud<sp
  ·rw[if_pos hbb]at ha2;subst ha2;refine s'f ?_;simp[ZmV,ZmW,thenE,q3,q4,hbb,resE,resLE,rvE]
  ·rw[if_neg hbb]at ha2;subst ha2;refine f'f ?_;simp[ZmV,ZmX,q3,q4,hbb,resE,resLE,rvE]
 ·rw[<-hR1];simp only[<-hsp];exact m3
 ·rw[<-hR1];simp[x.lF]
 ·intro i F' y' hF' hy';rw[<-hR1]at hF';simp only at hF'
  by_cases e:i=level
  ·subst e;rw[l'g hlv]at hF';rw[hy]at hy';simp only[l'a]at hF' hy';subst hF' hy';have k5:∀t:Tag,t≠(5,0)->¬t=(5,0):=λt h=>h;exact⟨ok',⟨_,_,_,_,_,S2.ch L c3 (λi=>by simp) (λi=>by simp;omega)⟩,us,o0.ch L cc (by rintro (h|h);simp at h;unfold Ks at h;simp at h) (kc _ (by simp) (by simp))⟩
  ·rw[l'h (λh=>e h.symm)]at hF';exact (x.fr i F' y' hF' hy').ch L cc (λj=>kc _ (by simp) (by simp)) (λj=>by rintro (h|h);simp at h;omega;unfold Ks at h;simp at h;omega) (λj=>by rintro (h|h);simp at h;omega;unfold Ks at h;simp at h;omega)
 ·rw[<-hR1];exact x.sW.ch L cc (kc _ (by simp) (by simp))
 ·rw[<-hR1];simp only;omega
end
end Go.Proofs.YtimdkminagnhgabGreatDoor
namespace Go.Proofs.YtimdkminagnhgabGreatDoor
open Go.Vm Go.Proofs Go.Ta
set_option maxHeartbeats 4000000
section
variable {H:Type}{O:HI H}{ro:Nat}{c:CallT H}
attribute [local simp] cSeq cReg reg to too onlyIf onlyIfo aMove mv' nl' fl' ld' ln' mk' ia' ik' ix' aNil aFld aLd aInt aPick aConv aUn unA ev upd_get isB envOf iA_add iA_sub iA_mul iA_eql iA_neq iA_lss iA_leq iA_gtr iA_geq cIf cRet cSkip okc_some aSt vc_int vc_bool vc_agg vc_str vc_ptr vc_sl ft_int ft_bool ft_str ft_ptr ft_sl tp_int tp_bool tp_agg tp_str tp_ptr tp_sl aBuild Instr.fill aCall cExit cBlk outOf ptr undef aNew aBox aIdxArr aLdN aShift aLenSl aIdx aMkSl aApp rangeA aExt aPtrNil aSlNil aBoolEq aMake aSliceSl boundA chk
variable {w w':Own}{h h':H}{q:Nat}{S:Srch}{bW bH bV:Nat}{vA vC vT vS vK:Value}{lv wv:List Value}
variable {cp:Nat}{N:Ck}{v1 v2:Value}
theorem lengthen_q (C:LP' O ro c)(L:O.Law){r:Nat}{R R1:Rn}{bud:Int}{vF vW vP:Value}{fs:List (Nat×Value)}(x:RN O ro w h r R bud cp N v1 v2 vF vW vP fs)(h0:0<=R.spent)(h00:R.spent<9223372036854775000)(hni:N.ni<=60)(hla:N.las.length<=60){level:Nat}{F:Go.Ta.Fr}(hF:R.frames[level]?=some F)(hM:1+N.ni+N.las.length<=F.s.model.length)(hM2:F.s.model.length<=192)(hs:lengthenP N R level=some R1):
  ∃vW' h' w',c 124 [ptr r,ni level] h=some (.tuple #[],h')∧RN O ro w' h' r R1 bud cp N v1 v2 vF vW' vP fs∧Ch O (λu=>u=(5,0)∨u=(5,2)) w h w' h':=by
 have hm:most=1000000:=rfl;unfold lengthenP at hs;rw[hF]at hs;simp only at hs;split at hs
 ·rename_i hwl
  simp only[l'a]at hs;have hlv:=(l'b.1 hF).1;have hlv':(level:Int)<R.frames.length:=by omega
  obtain⟨y,hy⟩:∃y,fs[level]?=some y:=⟨_,l'c (by rw[x.lF];exact hlv)⟩;obtain⟨s,vo⟩:=y;obtain⟨hZ,⟨vE,vcl,vM,vK,vs,S0⟩,us,o0⟩:=x.fr level F _ hF hy;obtain⟨b,q,eF,yb,hk0,hk1⟩:=x.getF level hy;obtain⟨g1,w1,e1,c1,lo1,l1,l2⟩:=found_q C L x.X yb hk0 S0 hM hM2 hni hla;obtain⟨k0,hkk⟩:=fresh_tag w (O.next h);have y2:=Bx.new L (ro:=ro) w1 g1 lo1 (14,k0) [.int .i64 0,.int .i64 0];have c2:=Ch.new L (λ_=>False) w1 g1 (14,k0) [.int .i64 0,.int .i64 0];obtain⟨st,hst⟩:∃st,st=(foundP N F.s).1:=⟨_,rfl⟩;obtain⟨inp,hin⟩:∃inp,inp=(foundP N F.s).2:=⟨_,rfl⟩;rw[<-hst,<-hin]at e1;obtain⟨g3,p3,y3,c3⟩:=Bx.over L (K:=λu=>u=((14,k0):Tag)) rfl y2 (show [ni st,ni inp].length = _ from rfl);have c13:=Ch.own (k:=k0) (c1.trans c2) c3 hkk;have lo3:ro<=O.next g3:=l'G x.lo c13.nx
  have sW3:=x.sW.ch L c13 (by simp);have m3:=x.m.ch L c13 (by simp);have hwlen:=flat_len prC 2 prC_len R.way;obtain⟨vW',g4,w4,e4,s4,c4,lo4⟩:=appM_one (bytes:=16) (new:=[ni st,ni inp]) L lo3 sW3.m (by omega) rfl (by omega) (by omega);have m4:=m3.ch L c4 (by simp);have c5:=Ch.put L (K:=λu=>u=((5,0):Tag)) m4 4 (by simp) vW' rfl;have m5:=m4.put L 4 (by simp) vW';have p5:=puts_one (O:=O) (v:=vW') (m4.get 4 _ rfl);have c6:=Ch.put L (K:=λu=>u=((5,0):Tag)) m5 2 (by simp) (.int .i64 (R.spent+1)) rfl;have m6:=m5.put L 2 (by simp) (.int .i64 (R.spent+1));have p6:=puts_one (O:=O) (v:=.int .i64 (R.spent+1)) (m5.get 2 _ rfl);have cc:Ch O (λu=>u=(5,0)∨u=(5,2)) w h w4 (O.put (O.put g4 r 4 vW') r 2 (.int .i64 (R.spent+1))):=(((c13.mono (by simp)).trans (c4.mono (λ_ h=>.inr h))).trans (c5.mono (λ_ h=>.inl h))).trans (c6.mono (λ_ h=>.inl h));have hway:R.way.flatMap prC++[ni st,ni inp]=(R.way++[foundP N F.s]).flatMap prC:=by
   rw[List.flatMap_append];simp[prC,hst,hin]
  rw[hway]at s4;refine⟨vW',_,w4,?_,⟨?_,x.X.ch L cc (by simp),x.sF.ch L cc (by simp),?_,?_,?_,l'G x.lo cc.nx⟩,cc⟩
  ·have r0:=x.m.get 0 _ rfl;have r3:=x.m.get 3 _ rfl;rw[eF]at r3;have q4:=m3.get 4 _ rfl;have q2:=m5.get 2 _ rfl;have hall:=y3.all;have rr:¬r<ro:=by have:=x.m.lo;omega
   have r1:¬O.next g1<ro:=by omega
   have hw:IntKind.i64.wrap (R.spent+1)=R.spent+1:=wrap_id (by omega) (by omega);obtain⟨sp,hsp⟩:∃sp,sp=R.spent+1:=⟨_,rfl⟩;have hw':IntKind.i64.wrap (R.spent+1)=sp:=by rw[hw,hsp]
   rw[<-hsp]at p6 ⊢;obtain⟨f1,f2,f3⟩:=s4.m.flat;generalize O.put (O.put g4 r 4 vW') r 2 (.int .i64 sp)=g6 at *;generalize O.put g4 r 4 vW'=g5 at *;simp only[l'n,l'o]at hall;have hr2:List.range 2=[0,1]:=rfl;unfold ptr at e1 r0;refine C.eq (F124_fn O ro) rfl rfl ?_;unfold F124;refine s'f ?_;simp[ZmY,thenE,r3,r0,hlv,hlv',e1,r1,p3];refine s'f ?_;simp[ZmZ,thenE,q4,hall,hr2,e4,p5,f1,f2,rr];refine f'f ?_;simp[Zm0,q2,hw',p6,rr,resE,resLE,rvE]
  ·rw[<-hs];exact m6
  ·rw[<-hs];exact x.lF
  ·intro i F' y' hF' hy';rw[<-hs]at hF';exact (x.fr i F' y' hF' hy').ch L cc (λj=>by simp) (λj=>by simp;omega) (λj=>by simp;omega)
  ·rw[<-hs];exact ((s4.ch L c5 (by simp)).ch L c6 (by simp))
 ·simp at hs
end
end Go.Proofs.YtimdkminagnhgabGreatDoor
namespace Go.Ta
def ClK (N:Ck)(l:List Nat): Prop:=l.length<=192∧∀x∈l,x/2<N.las.length
def FrK (N:Ck)(F:Fr): Prop:=ZOk F.s∧F.s.early.length=N.nv∧F.own.length<=most∧∀l∈F.own,ClK N l
structure RnK (N:Ck)(R:Rn):Prop where
 sp:0<=R.spent
 fr:∀F∈R.frames,FrK N F
 wy:∀m∈R.way,m.1<1152921504606846976∧m.2<1152921504606846976
 wl:R.way.length<=most
 fl:R.frames.length<=most
theorem bitsP_lt (s:Solv)(first:Nat): ∀count,bitsP s first count<2^count:=by
 intro count
 induction count with
 | zero=>simp[bitsP]
 | succ n ih=>
  unfold bitsP at ih ⊢;rw[l'B,List.foldl_append];simp only[List.foldl_cons,List.foldl_nil];generalize (List.range n).foldl (λn j=>if s.model.getD (first+j) false then n ||| 2^j else n) 0=x at ih;have h2:2^n<2^(n+1):=Nat.pow_lt_pow_right (by omega) (by omega);split
  ·exact Nat.or_lt_two_pow (by omega) h2
  ·omega
theorem found_lt (N:Ck)(s:Solv)(h:N.las.length<=60)(hi:N.ni<=60): (foundP N s).1<1152921504606846976∧(foundP N s).2<1152921504606846976:=by
 have h1:=bitsP_lt s (1+N.ni) N.las.length;have h2:2^N.las.length<=2^60:=Nat.pow_le_pow_right (by omega) h;have h3:=bitsP_lt s 1 N.ni;have h4:2^N.ni<=2^60:=Nat.pow_le_pow_right (by omega) hi;unfold foundP;simp only;omega
theorem set_all {α:Type}{P:α->Prop}{l:List α}{i:Nat}{y:α}(h:∀x∈l,P x)(hy:P y): ∀x∈l.set i y,P x:=by
 intro x hx;rcases List.mem_or_eq_of_mem_set hx with h1|h1
 ·exact h x h1
 ·subst h1;exact hy
theorem askP_k {N:Ck}{f n:Nat}{bud:Int}{R R1:Rn}{level a:Nat}{l:List Nat}(hs:askP f n bud R level l=some (R1,a))(k:RnK N R):
  RnK N R1∧R1.way=R.way∧R1.kept=R.kept∧R1.frames.length=R.frames.length∧(a=1->∀F,R1.frames[level]?=some F->F.s.model.length=N.nv)∧(a≠3->R1.spent<=bud):=by
 unfold askP at hs;split at hs
 ·simp at hs
 rename_i F hF
 split at hs
 ·simp at hs
 rename_i Z' a' hsv
 simp only[l'a,l'd]at hs;obtain⟨rfl,ha⟩:=hs;have hlv:=(l'b.1 hF).1;have kF:=k.fr F (l'f hF);obtain⟨ok',he,hc,-⟩:=solveP_ok hsv kF.1;have sp:=k.sp;refine⟨⟨by simp only;omega,set_all k.fr ⟨ok',by simp only[he];exact kF.2.1,kF.2.2⟩,k.wy,k.wl,by simp[k.fl]⟩,rfl,rfl,by simp,?_,?_⟩
 ·intro h1 F' hF';simp only[l'g hlv,l'a]at hF';subst hF';have ha':a'=1:=by
   subst h1;split at ha
   ·omega
   ·exact ha
  subst ha';have hE:=kF.2.1;unfold solveP at hsv;split at hsv
  ·split at hsv
   ·simp at hsv
   ·split at hsv
    ·simp only[l'a,l'd]at hsv;obtain⟨rfl,rfl⟩:=hsv;simp[hE]
    ·simp at hsv
  ·simp at hsv
 ·intro h3;simp only;split at ha
  ·omega
  ·omega
theorem lengthenP_k {N:Ck}{R R1:Rn}{level:Nat}(hs:lengthenP N R level=some R1)(h6:N.las.length<=60)(h7:N.ni<=60)(k:RnK N R): RnK N R1∧R1.frames=R.frames∧R1.kept=R.kept:=by
 unfold lengthenP at hs;split at hs
 ·simp at hs
 split at hs
 ·simp only[l'a]at hs;subst hs;have sp:=k.sp
  rename_i hwl
  refine⟨⟨by simp only;omega,k.fr,?_,by simp;omega,k.fl⟩,rfl,rfl⟩;intro m hm;simp only[l'E,l'm]at hm;rcases hm with hm|rfl
  ·exact k.wy m hm
  ·exact found_lt N _ h6 h7
 ·simp at hs
theorem learnRL_k {N:Ck}{cl:List Nat}: ∀(k:Nat)(fs fs':List Fr),learnRL N cl k fs=some fs'->(∀F∈fs,FrK N F)->(∀F∈fs',FrK N F)∧fs'.length=fs.length:=by
 intro k
 induction k with
 | zero=>intro fs fs' hs h;simp only[learnRL,l'a]at hs;subst hs;exact⟨h,rfl⟩
 | succ k ih=>
  intro fs fs' hs h;unfold learnRL at hs;split at hs
  ·simp at hs
  rename_i F hF
  have kF:=h F (l'f hF);have hfl:=List.length_filter_le (λx=>x != cl) F.own;simp only at hs;have hown:∀l∈F.own.filter (λx=>x != cl),ClK N l:=λl hl=>kF.2.2.2 l (List.mem_filter.1 hl).1;split at hs
  ·simp only[l'a]at hs;subst hs;exact⟨set_all h ⟨kF.1,kF.2.1,by simp only;have:=kF.2.2.1;omega,hown⟩,by simp⟩
  ·split at hs
   ·simp at hs
   rename_i F1 hF1
   unfold frAddP at hF1;split at hF1
   ·simp at hF1
   rename_i s1 hs1
   simp only[l'a]at hF1;subst hF1;obtain⟨z,e,-⟩:=addP_ok hs1 kF.1;have:=ih _ _ hs (set_all h ⟨z,by simp only[e];exact kF.2.1,by simp only;have:=kF.2.2.1;omega,hown⟩);simpa using this
theorem learnRP_k {N:Ck}{cl:List Nat}{R R1:Rn}{level:Nat}(hcl:ClK N cl)(hs:learnRP N R level cl=some R1)(k:RnK N R): RnK N R1∧R1.frames.length=R.frames.length∧R1.way=R.way∧R1.kept=R.kept∧R1.spent=R.spent:=by
 unfold learnRP at hs;split at hs
 ·simp at hs
 rename_i fs hfs
 obtain⟨k1,l1⟩:=learnRL_k _ _ _ hfs k.fr;split at hs
 ·simp at hs
 rename_i F hF
 split at hs
 ·rename_i hlt
  simp only[l'a]at hs;subst hs;have kF:=k1 F (l'f hF);refine⟨⟨k.sp,set_all k1 ⟨kF.1,kF.2.1,by simp;omega,?_⟩,k.wy,k.wl,by simp[l1,k.fl]⟩,by simp[l1],rfl,rfl,rfl⟩;intro l hl;simp only[l'E,l'm]at hl;rcases hl with hl|rfl
  ·exact kF.2.2.2 l hl
  ·exact hcl
 ·simp at hs
theorem drop_k {N:Ck}{R:Rn}(k:RnK N R): RnK N { R with way:=R.way.dropLast }:=
 ⟨k.sp,k.fr,λm hm=>k.wy m (List.dropLast_subset _ hm),by have:=k.wl;simp;omega,k.fl⟩
theorem against_k (N:Ck)(st:Nat)(h:N.las.length<=60): ClK N (againstP N st):=by
 refine⟨by simp[againstP];omega,?_⟩;intro x hx;simp only[againstP,List.mem_map,List.mem_range]at hx;obtain⟨j,hj,rfl⟩:=hx;have:st/2^j%2<2:=Nat.mod_lt _ (by omega);generalize st/2^j%2=b at *;omega
theorem shortL_sub (N:Ck): ∀(z:List (Nat×Bool))(b:Bool),(∀x∈shortL N z b,∃y,(x,y)∈z)∧(shortL N z b).length<=z.length:=by
 intro z
 induction z with
 | nil=>intro b;simp[shortL]
 | cons p r ih=>
  intro b;obtain⟨x,nm⟩:=p;have i1:=ih b;have i2:=ih false;unfold shortL;split
  ·refine⟨?_,by simp;exact i1.2⟩;intro y hy;rcases l'I.1 hy with rfl|hy
   ·exact⟨nm,by simp⟩
   ·obtain⟨q,hq⟩:=i1.1 y hy;exact⟨q,by simp[hq]⟩
  ·split
   ·refine⟨?_,by simp;exact i2.2⟩;intro y hy;rcases l'I.1 hy with rfl|hy
    ·exact⟨nm,by simp⟩
    ·obtain⟨q,hq⟩:=i2.1 y hy;exact⟨q,by simp[hq]⟩
   ·refine⟨?_,by have:=i1.2;simp;omega⟩;intro y hy;obtain⟨q,hq⟩:=i1.1 y hy;exact⟨q,by simp[hq]⟩
theorem short_k {N:Ck}{cl core:List Nat}(h:ClK N cl): ClK N (shortP N cl core):=by
 have:=shortL_sub N (cl.zip (placesP (brokenP N cl) core)) (!((cl.zip (placesP (brokenP N cl) core)).any λp=>p.2&&beginsTrue N p.1));refine⟨?_,?_⟩
 ·have h1:=this.2;have h2:=h.1;unfold shortP;simp only;have:(cl.zip (placesP (brokenP N cl) core)).length<=cl.length:=by simp[List.length_zip];omega
  omega
 ·intro x hx;obtain⟨y,hy⟩:=this.1 x hx;exact h.2 x (List.of_mem_zip hy).1
end Go.Ta
namespace Go.Proofs.YtimdkminagnhgabGreatDoor
open Go.Vm Go.Proofs Go.Ta
set_option maxHeartbeats 4000000
section
variable {H:Type}{O:HI H}{ro:Nat}{c:CallT H}
attribute [local simp] cSeq cReg reg to too onlyIf onlyIfo aMove mv' nl' fl' ld' ln' mk' ia' ik' ix' aNil aFld aLd aInt aPick aConv aUn unA ev upd_get isB envOf iA_add iA_sub iA_mul iA_eql iA_neq iA_lss iA_leq iA_gtr iA_geq cIf cRet cSkip okc_some aSt vc_int vc_bool vc_agg vc_str vc_ptr vc_sl ft_int ft_bool ft_str ft_ptr ft_sl tp_int tp_bool tp_agg tp_str tp_ptr tp_sl aBuild Instr.fill aCall cExit cBlk outOf ptr undef aNew aBox aIdxArr aLdN aShift aLenSl aIdx aMkSl aApp rangeA aExt aPtrNil aSlNil aBoolEq aMake aSliceSl boundA chk
variable {w w':Own}{h h':H}{q:Nat}{S:Srch}{bW bH bV:Nat}{vA vC vT vS vK:Value}{lv wv:List Value}
variable {cp:Nat}{N:Ck}{v1 v2:Value}
def Kl (u:Tag): Prop:=u=(5,1)∨1000<=u.1
theorem RN.own (L:O.Law){K:Tag->Prop}{r:Nat}{R:Rn}{bud:Int}{vF vW vP:Value}{fs:List (Nat×Value)}(x:RN O ro w h r R bud cp N v1 v2 vF vW vP fs){i:Nat}{F:Go.Ta.Fr}{s:Nat}{vo v:Value}{us:List Value}{own:List (List Nat)}(hF:R.frames[i]?=some F)(hy:fs[i]?=some (s,vo))(a:Ch O K w h w' h')(hK:∀u,K u->u=(5,1)∨u=(1001+2*i,3)){b n q:Nat}(eF:vF = .slice (some ⟨b,0,some 2⟩) n q)(yb:Bx O ro w' h' (5,1) b ((fs.flatMap frC).set (i*2+1) v))(cs:Cs O ro w' h' (1001+2*i,3) v us own):
  RN O ro w' h' r { R with frames:=R.frames.set i { F with own:=own } } bud cp N v1 v2 vF vW vP (fs.set i (s,v)):=by
 have hlen:=flat_len frC 2 frC_len fs;obtain⟨hj,hjy⟩:=l'b.1 hy;have hi:=(l'b.1 hF).1;have hset:(fs.flatMap frC).set (i*2+1) v=(fs.set i (s,v)).flatMap frC:=flat_set frC 2 frC_len fs i hj 1 v (s,v) (by omega) (by rw[hjy];rfl);have kc:∀t:Tag,t≠(5,1)->t≠(1001+2*i,3)->¬K t:=λt h1 h2 h3=>by rcases hK t h3 with h|h;exact h1 h;exact h2 h
 refine⟨x.m.ch L a (kc _ (by simp) (by simp <;> omega)),x.X.ch L a (λi=>kc _ (by simp) (by simp <;> omega)),?_,by simp[x.lF],?_,x.sW.ch L a (kc _ (by simp) (by simp <;> omega)),l'G x.lo a.nx⟩
 ·rcases x.sF with e|⟨b',m,cp',e,ec,el,y⟩
  ·rw[e.2]at hlen;simp at hlen;omega
  ·rw[eF]at e ⊢;simp at e;obtain⟨rfl,rfl,rfl⟩:=e;rw[hset]at yb;exact .inr ⟨_,_,_,rfl,ec,by rw[<-el,<-hset];simp,yb⟩
 ·intro j F' y' hF' hy';simp only at hF'
  by_cases e:j=i
  ·subst e;rw[l'g hi]at hF';rw[l'g hj]at hy';simp only[l'a]at hF' hy';subst hF' hy';obtain⟨z,⟨vE,vcl,vM,vK,vs,y⟩,us',u⟩:=x.fr j F _ hF hy;exact⟨z,⟨_,_,_,_,_,y.ch L a (λi=>kc _ (by simp) (by simp <;> omega)) (λi=>kc _ (by simp <;> omega) (by simp <;> omega))⟩,us,cs⟩
  ·rw[l'h (λh=>e h.symm)]at hF' hy';exact (x.fr j F' y' hF' hy').ch L a (λi=>kc _ (by simp) (by simp <;> omega)) (λk=>kc _ (by simp <;> omega) (by simp <;> omega)) (λk=>kc _ (by simp <;> omega) (by simp <;> omega))
theorem RN.slv (L:O.Law){r:Nat}{R:Rn}{bud:Int}{vF vW vP:Value}{fs:List (Nat×Value)}(x:RN O ro w h r R bud cp N v1 v2 vF vW vP fs){i:Nat}{F:Go.Ta.Fr}{s:Nat}{vo vE vcl vM vK:Value}{vs:List Value}{Z:Solv}(hF:R.frames[i]?=some F)(hy:fs[i]?=some (s,vo))(a:Ch O (Ks (1000+2*i)) w h w' h')(z:ZOk Z)(sv:SV O ro w' h' (1000+2*i) s Z vE vcl vM vK vs):
  RN O ro w' h' r { R with frames:=R.frames.set i { F with s:=Z } } bud cp N v1 v2 vF vW vP fs:=by
 have hi:=(l'b.1 hF).1;have kk:∀t:Tag,t.1<1000->¬Ks (1000+2*i) t:=λt ht=>by unfold Ks;omega
 refine⟨x.m.ch L a (kk _ (by simp)),x.X.ch L a (λi=>kk _ (by simp)),x.sF.ch L a (kk _ (by simp)),by simp[x.lF],?_,x.sW.ch L a (kk _ (by simp)),l'G x.lo a.nx⟩;intro j F' y' hF' hy';simp only at hF'
 by_cases e:j=i
 ·subst e;rw[l'g hi]at hF';rw[hy]at hy';simp only[l'a]at hF' hy';subst hF' hy';obtain⟨z',⟨vE,vcl,vM,vK,vs,y⟩,us',u⟩:=x.fr j F _ hF hy;exact⟨z,⟨_,_,_,_,_,sv⟩,us',u.ch L a (by unfold Ks;simp) (kk _ (by simp))⟩
 ·rw[l'h (λh=>e h.symm)]at hF';exact (x.fr j F' y' hF' hy').ch L a (λi=>kk _ (by simp)) (λk=>by unfold Ks;simp;omega) (λk=>by unfold Ks;simp;omega)
def LrI (O:HI H)(ro:Nat)(w:Own)(h:H)(r:Nat)(R:Rn)(bud:Int)(cp:Nat)(N:Ck)(v1 v2 vF vW vP:Value)(level:Nat)(vl:Value)(cl:List Nat)(fin:List Go.Ta.Fr)(n:Nat)(t:Env)(g:H): Prop:=
 t 0 = .pointer (some ⟨r,0,none⟩)∧t 1=ni level∧t 2=vl∧t 6=ni n∧∃fr fs w1,learnRL N cl n fr=some fin∧RN O ro w1 g r { R with frames:=fr } bud cp N v1 v2 vF vW vP fs∧(∀F∈fr,FrK N F)∧n<=level∧fr.length=R.frames.length∧Ch O Kl w h w1 g
def LrQ (O:HI H)(ro:Nat)(w:Own)(h:H)(r:Nat)(R:Rn)(bud:Int)(cp:Nat)(N:Ck)(v1 v2 vF vW vP:Value)(fin:List Go.Ta.Fr)(g:H): Prop:=
 ∃fs w1,RN O ro w1 g r { R with frames:=fin } bud cp N v1 v2 vF vW vP fs∧Ch O Kl w h w1 g
theorem learn1_q (C:LP' O ro c)(L:O.Law){r:Nat}{R:Rn}{bud:Int}{vF vW vP:Value}{level:Nat}(hlv:level<R.frames.length)(hfm:R.frames.length<=most){cl:List Nat}(hcl:ClK N cl){vl:Value}(sl:Sm O ro w h (9,0) 1 vl (cl.map ni)){fin:List Go.Ta.Fr}{n:Nat}{t:Env}{g:H}(I:LrI O ro w h r R bud cp N v1 v2 vF vW vP level vl cl fin n t g):
  okE c (W163_0 O Tryz.prog ro) (t,g) (λe t' g'=>(e = .normal∧∃n',n'<n∧LrI O ro w h r R bud cp N v1 v2 vF vW vP level vl cl fin n' t' g')∨(e≠.normal∧(outOf 0 e = .normal∧t' 0 = .pointer (some ⟨r,0,none⟩)∧t' 1=ni level∧t' 2=vl∧LrQ O ro w h r R bud cp N v1 v2 vF vW vP fin g'))):=by
 have hm:most=1000000:=rfl;obtain⟨d0,d1,d2,d6,fr,fs,w1,hl,x,kF,hnl,hfl,c1⟩:=I
 cases n with
 | zero=>
  simp only[learnRL,l'a]at hl;subst hl;refine f'f ?_;simp[W163_0,Zoy,d0,d1,d2,d6];exact⟨fs,w1,x,c1⟩
 | succ m=>
  unfold learnRL at hl;split at hl
  ·simp at hl
  rename_i F hF
  have kl:∀t:Tag,t.1<1000->t≠(5,1)->¬Kl t:=λt h1 h2=>by unfold Kl;rintro (h|h);exact h2 h;omega
  have hmi:=(l'b.1 hF).1;obtain⟨⟨s,vo⟩,hy⟩:∃y,fs[m+1]?=some y:=⟨_,l'c (by rw[x.lF];exact hmi)⟩;obtain⟨z,⟨vE,vcl,vM,vK,vs,S0⟩,us,o0⟩:=x.fr (m+1) F _ hF hy;obtain⟨b,q,eF,yb,hk0,hk1⟩:=x.getF (m+1) hy;have kFF:=kF F (l'f hF);have sl1:=sl.ch L c1 (kl _ (by simp) (by simp));obtain⟨v,us',g2,w2,e2,cs2,yb2,c2,lo2⟩:=drop_q C L x.lo (p:=1001+2*(m+1)) (by omega) (by simp) yb hk1 o0 kFF.2.2.1 (λl hl=>by have:=(kFF.2.2.2 l hl).1;omega) (by have:=hcl.1;omega) sl1;have x2:=x.own L hF hy c2 (λu hu=>.inl hu) eF yb2 cs2;have c12:Ch O Kl w h w2 g2:=c1.trans (c2.mono (λu hu=>.inl hu));have r3:=x.m.get 3 _ rfl;rw[eF]at r3;simp only at hl;have hfl2:(F.own.filter λx=>x != cl).length<=F.own.length:=List.length_filter_le _ _;have hown:∀l∈F.own.filter (λx=>x != cl),ClK N l:=λl hl=>kFF.2.2.2 l (List.mem_filter.1 hl).1;obtain⟨left,hleft⟩:∃left,left=(F.own.filter λx=>x != cl):=⟨_,rfl⟩;rw[<-hleft]at e2 cs2 x2 hl hfl2 hown;have hm1:m+1<fr.length:=hmi;have hm2:(m:Int)+1<fr.length:=by omega
  have hw:IntKind.i64.wrap (m:Int)=(m:Int):=wrap_id (by omega) (by omega);have hgt:(0:Int)<(m:Int)+1:=by omega
  have hge:(0:Int)<=(m:Int)+1:=by omega
  unfold ptr at *;split at hl
  ·rename_i hlt
   simp only[l'a]at hl;rw[decide_eq_true hlt]at e2;refine s'f ?_;simp[Zoy,thenE,d0,d1,d2,d6,hgt];refine f'f ?_;simp[Zoz,ZoA,d0,d1,d2,d6,r3,hm1,hm2,hge,e2];exact⟨_,w2,by rw[<-hl];exact x2,c12⟩
  ·rename_i hlt
   rw[decide_eq_false hlt]at e2;split at hl
   ·simp at hl
   rename_i F1 hF1
   unfold frAddP at hF1;split at hF1
   ·simp at hF1
   rename_i Z1 hZ1
   simp only[l'a]at hF1;subst hF1;simp only at hZ1 hl;have hfi:(fr.set (m+1) { F with own:=left })[m+1]?=some { F with own:=left }:=l'g hmi;have hyi:(fs.set (m+1) (s,v))[m+1]?=some (s,v):=l'g (by rw[x.lF];exact hmi);obtain⟨b',q',eF',yb',hk0',hk1'⟩:=x2.getF (m+1) hyi;obtain⟨z2,⟨vE2,vcl2,vM2,vK2,vs2,S2⟩,us2,o2⟩:=x2.fr (m+1) _ _ hfi hyi;have sl2:=sl.ch L c12 (kl _ (by simp) (by simp));obtain⟨h3,e3,vE3,vcl3,vM3,vK3,vs3,w3,z3,S3,c3⟩:=fradd_q C L (p:=1000+2*(m+1)) (by omega) x2.X hcl.1 hcl.2 sl2 yb' hk0' S2 z2 hZ1;have x3:=x2.slv L hfi hyi c3 z3 S3;have c13:Ch O Kl w h w3 h3:=c12.trans (c3.mono (λu hu=>.inr (by unfold Ks at hu;omega)));have r3':=x2.m.get 3 _ rfl;rw[eF']at r3';have r0':=x2.m.get 0 _ rfl;unfold ptr at *;have hfr2:(fr.set (m+1) { F with own:=left }).length=fr.length:=by simp
   simp only[hfr2]at r3';refine s'f ?_;simp[Zoy,thenE,d0,d1,d2,d6,hgt];refine f'f ?_;simp[Zoz,ZoA,ZoB,ZoC,d0,d1,d2,d6,r3,r3',r0',hm1,hm2,hge,e2,e3,hw];refine⟨m,by omega,by simp[d0],by simp[d1],by simp[d2],by simp,fr.set (m+1) ⟨Z1,left⟩,fs.set (m+1) (s,v),w3,hl,?_,?_,by omega,by simp[hfl],c13⟩
   ·simpa using x3
   ·obtain⟨zz,ee,-⟩:=addP_ok hZ1 kFF.1;exact set_all kF ⟨zz,by simp only[ee];exact kFF.2.1,by simp only;have:=kFF.2.2.1;omega,hown⟩
theorem Sm.sep {t:Tag}{r o sz:Nat}{v:Value}{l lr:List Value}(x:Bx O ro w h (5,0) r lr)(s:Sm O ro w h t sz v l)(ht:t≠(5,0)): sepA (.pointer (some ⟨r,o,none⟩)) v=true:=by
 rcases s with e|⟨b,m,cp,e,ec,el,y⟩
 ·rw[e.1];rfl
 ·rw[e];have:¬r=b:=by rintro rfl;exact ht (by rw[<-y.tag,x.tag])
  have hb:Nat.beq r b=false:=by
   cases hq:Nat.beq r b with
   | false=>rfl
   | true=>exact absurd (Nat.eq_of_beq_eq_true hq) this
  simp[sepA,hb]
theorem learn_q2 (C:LP' O ro c)(L:O.Law){r:Nat}{R R1:Rn}{bud:Int}{vF vW vP:Value}{fs:List (Nat×Value)}(x:RN O ro w h r R bud cp N v1 v2 vF vW vP fs)(k:RnK N R){level:Nat}(hlv:level<R.frames.length){cl:List Nat}(hcl:ClK N cl){vl:Value}(sl:Sm O ro w h (9,0) 1 vl (cl.map ni))(hs:learnRP N R level cl=some R1):
  ∃fs' h' w',c 163 [ptr r,ni level,vl] h=some (.tuple #[],h')∧RN O ro w' h' r R1 bud cp N v1 v2 vF vW vP fs'∧Ch O Kl w h w' h':=by
 have hm:most=1000000:=rfl;have kl:∀t:Tag,t.1<1000->t≠(5,1)->¬Kl t:=λt h1 h2=>by unfold Kl;rintro (h|h);exact h2 h;omega
 unfold learnRP at hs;split at hs
 ·simp at hs
 rename_i fin hfin
 obtain⟨kf,lf⟩:=learnRL_k _ _ _ hfin k.fr;split at hs
 ·simp at hs
 rename_i F hF
 split at hs
 ·rename_i hlt
  simp only[l'a]at hs;have key:∃u h',c 163 [ptr r,ni level,vl] h=some (u,h')∧(u = .tuple #[]∧∃fs' w',RN O ro w' h' r R1 bud cp N v1 v2 vF vW vP fs'∧Ch O Kl w h w' h'):=by
   refine C.fn (F163_fn O ro) rfl rfl ?_;unfold F163;refine okE.seq (s'f ?_);simp[Zox,thenE];refine okE.blk ?_;refine okE.mono (okE.loop (Q:=λe t' g'=>outOf 0 e = .normal∧t' 0 = .pointer (some ⟨r,0,none⟩)∧t' 1=ni level∧t' 2=vl∧LrQ O ro w h r R bud cp N v1 v2 vF vW vP fin g') (LrI O ro w h r R bud cp N v1 v2 vF vW vP level vl cl fin) (λn t g I=>learn1_q C L hlv k.fl hcl sl I) level _ _ ⟨by simp,by simp,by simp,by simp,R.frames,fs,w,hfin,x,k.fr,l'H _,rfl,Ch.refl _ _ _⟩) ?_;rintro e t g ⟨hr,d0,d1,d2,fs1,w1,x1,c1⟩;rw[hr];simp only[thenE];have hi:=(l'b.1 hF).1;obtain⟨⟨s,vo⟩,hy⟩:∃y,fs1[level]?=some y:=⟨_,l'c (by rw[x1.lF];exact hi)⟩;obtain⟨z,S0,us,o0⟩:=x1.fr level F _ hF hy;obtain⟨b,q,eF,yb,hk0,hk1⟩:=x1.getF level hy;have sl1:=sl.ch L c1 (kl _ (by simp) (by simp));obtain⟨v',g2,w2,e2,cs2,c2,lo2⟩:=o0.app L (by simp <;> omega) x1.lo sl1 (by omega);have yb2:=yb.ch L c2 (by simp <;> omega);have hlen:=flat_len frC 2 frC_len fs1;have hfl:=(l'b.1 hk1).1;have yb3:=yb2.put L (level*2+1) hfl v';have c3:=Ch.put L (K:=λu=>u=((5,1):Tag)) yb2 (level*2+1) hfl v' rfl;have p3:=puts_one (O:=O) (v:=v') (yb2.get _ _ hk1);have cs3:=cs2.ch L c3 (by simp <;> omega) (by simp);have c23:Ch O (λu=>u=(5,1)∨u=(1001+2*level,3)) w1 g w2 (O.put g2 b (level*2+1) v'):=(c2.mono (λu hu=>.inr hu)).trans (c3.mono (λu hu=>.inl hu));have x3:=x1.own L hF hy c23 (λu hu=>hu) eF yb3 cs3;have sp:=Sm.sep (o:=3) x1.m o0.s (by simp <;> omega);have r3:=x1.m.get 3 _ rfl;rw[eF]at r3;have kb:=yb.get _ _ hk1;obtain⟨f1,f2,f3⟩:=cs2.s.flat;obtain⟨f4,f5,f6⟩:=o0.s.flat;obtain⟨f7,f8,f9⟩:=sl1.flat;have rb:¬b<ro:=by have:=yb.lo;omega
   have hi':(level:Int)<fin.length:=by omega
   generalize hg3:O.put g2 b (level*2+1) v'=g3 at *;refine f'f ?_;simp[ZoD,d0,d1,d2,r3,hi,hi',kb,f1,f2,f3,f4,f5,f6,f7,f8,f9,e2,p3,rb,sp,resE,resLE,rvE];exact⟨_,w2,by rw[<-hs];exact x3,c1.trans (c23.mono (λu hu=>by rcases hu with h|h;exact .inl h;exact .inr (by rw[h];simp;omega)))⟩
  obtain⟨u,h',e1,rfl,fs',w',x',c'⟩:=key;exact⟨fs',h',w',e1,x',c'⟩
 ·simp at hs
end
end Go.Proofs.YtimdkminagnhgabGreatDoor
