import Derived.Test.YtimdkminagnhgaaGreatDoorQ40
import Derived.KernelRfl
import Derived.Test.YtimdkminagnhgaaGreatDoorQ09
set_option linter.unusedVariables false
set_option linter.unusedSimpArgs false
namespace Go.Ta
def ringN (la i j:Nat): Ck:=⟨0,(List.range la).map λk=>(2*(1+(k+1)%la),if k=0 then 1 else 0),[(2*(1+max i j),2*(1+min i j))],2*(1+la)⟩
def ringB (la i j:Nat): Bool:=
 ((List.range (2 ^ la)).all fun st => !(beginsP (ringN la i j) st) || st == 1) && beginsP (ringN la i j) 1 &&
 ((List.range la).all λp=>nxt (ringN la i j) (2^p) 0==2^((p+la-1)%la)&&badS (ringN la i j) (2^p) 0==(p==i&&p==j))
theorem noin {N:Ck}(h:N.ni=0)(st inp:Nat): nxt N st inp=nxt N st 0∧badS N st inp=badS N st 0:=by
 have:val N st inp=val N st 0:=by
  unfold val baseV;rw[h];rfl
 unfold nxt badS;rw[this];exact⟨rfl,rfl⟩
def rpos (la:Nat): Nat->Nat
 | 0=>0
 | t+1=>(rpos la t+la-1)%la
theorem rpos_ok {la:Nat}(h:0<la): ∀t,rpos la t<la∧(rpos la t+t)%la=0:=by
 intro t
 induction t with
 | zero=>exact⟨h,by simp[rpos]⟩
 | succ t ih=>
  refine⟨Nat.mod_lt _ h,?_⟩;simp only[rpos];have h1:((rpos la t+la-1)%la+(t+1))%la=(rpos la t+la-1+(t+1))%la:=Nat.mod_add_mod _ _ _;rw[h1,show rpos la t+la-1+(t+1)=(rpos la t+t)+la by omega,Nat.add_mod_right];exact ih.2
theorem mod_zero {la i t:Nat}(hi:i<la)(h:(i+t)%la=0): t%la=(la-i)%la:=by
 have h1:=Nat.div_add_mod (i+t) la;have h2:=Nat.div_add_mod t la;have h3:=Nat.mod_lt t (show 0<la by omega);rw[h,Nat.add_zero]at h1
 by_cases h0:i=0
 ·subst h0;rw[l'F]at h;rw[h,Nat.sub_zero,Nat.mod_self]
 ·rw[Nat.mod_eq_of_lt (show la-i<la by omega)];have h4:i+t%la<2*la:=by omega
  have h5:(i+t%la)%la=0:=by
   rw[Nat.add_mod_mod];exact h
  rcases Nat.lt_or_ge (i+t%la) la with h6|h6
  ·rw[Nat.mod_eq_of_lt h6]at h5;omega
  ·rw[Nat.mod_eq_sub_mod h6,Nat.mod_eq_of_lt (by omega)]at h5;omega
structure RgK (la i j:Nat):Prop where
 h0:2<=la
 hi:i<la
 hj:j<la
 b:ringB la i j=true
theorem RgK.facts {la i j:Nat}(x:RgK la i j): (∀st,st<2^la->beginsP (ringN la i j) st=true->st=1)∧beginsP (ringN la i j) 1=true∧∀p inp,p<la->nxt (ringN la i j) (2^p) inp=2^((p+la-1)%la)∧badS (ringN la i j) (2^p) inp=(p==i&&p==j):=by
 have h:=x.b;unfold ringB at h;simp only[l'k,l'D,List.mem_range,Bool.or_eq_true,l'L,beq_iff_eq]at h;obtain⟨⟨h1,h2⟩,h3⟩:=h;refine⟨λst hs hb=>?_,h2,λp inp hp=>?_⟩
 ·rcases h1 st hs with h|h
  ·rw[h]at hb;simp at hb
  ·exact h
 ·obtain⟨a,b⟩:=noin (N:=ringN la i j) rfl (2^p) inp;rw[a,b];exact h3 p hp
theorem ring_len (la i j:Nat): (ringN la i j).las.length=la:=by simp[ringN]
theorem ring_at {la i j:Nat}(x:RgK la i j)(ins:List Nat): ∀t,stAt (ringN la i j) 1 ins t=2^rpos la t:=by
 obtain⟨-,-,h3⟩:=x.facts;intro t
 induction t with
 | zero=>rfl
 | succ t ih=>
  simp only[stAt,rpos];rw[ih,(h3 _ _ (rpos_ok (by have:=x.h0;omega) t).1).1]
theorem ring_uns {la i j:Nat}(x:RgK la i j){st:Nat}{ins:List Nat}(h:UnsN (ringN la i j) st ins): st=1∧0<ins.length∧i=j∧(ins.length-1)%la=(la-i)%la:=by
 obtain⟨h1,h2,h3⟩:=x.facts;obtain⟨u1,u2,u3,u4⟩:=h;rw[ring_len]at u2;have:=h1 st u2 u3;subst this;obtain⟨p1,p2⟩:=rpos_ok (show 0<la by have:=x.h0;omega) (ins.length-1);rw[ring_at x,(h3 _ _ p1).2]at u4;simp only[l'k,beq_iff_eq]at u4;refine⟨rfl,u1,by omega,?_⟩;rw[u4.1]at p2;exact mod_zero x.hi p2
theorem ring_bad {la i:Nat}(x:RgK la i i): ¬SafeN (ringN la i i):=by
 obtain⟨h1,h2,h3⟩:=x.facts;rintro⟨S,s1,s2,s3⟩;have hla:0<la:=by have:=x.h0;omega
 have hp:∀p,p<la->2^p<2^la:=λp h=>Nat.pow_lt_pow_right (by omega) h;have key:∀t,S (2^rpos la t):=by
  intro t
  induction t with
  | zero=>exact s1 1 (by rw[ring_len];exact hp 0 hla) h2
  | succ t ih=>
   have:=s2 (2^rpos la t) 0 (by rw[ring_len];exact hp _ (rpos_ok hla t).1) ih;rw[(h3 _ _ (rpos_ok hla t).1).1]at this;exact this
 obtain⟨p1,p2⟩:=rpos_ok hla (la-i);have h5:rpos la (la-i)=i:=by
  have hi:=x.hi;rcases Nat.lt_or_ge (rpos la (la-i)+(la-i)) la with h6|h6
  ·rw[Nat.mod_eq_of_lt h6]at p2;omega
  ·rw[Nat.mod_eq_sub_mod h6,Nat.mod_eq_of_lt (by omega)]at p2;omega
 have h6:=s3 (2^i) 0 (by rw[ring_len];exact hp i x.hi) (by rw[<-h5];exact key _);rw[(h3 i 0 x.hi).2]at h6;simp at h6
theorem ring_w {la i j:Nat}(h0:2<=la)(hl:la<=6)(hi:i<la)(hj:j<la): CkW (ringN la i j):=by
 refine⟨?_,?_,?_⟩
 ·intro k g l h
  cases k with
  | zero=>
   simp[ringN]at h;obtain⟨rfl,rfl⟩:=h;rw[ring_len];simp only[ringN];omega
  | succ k=>simp[ringN]at h
 ·intro k x r h;have hk:=(l'b.1 h).1;rw[ring_len]at hk;simp[ringN,hk]at h;obtain⟨rfl,rfl⟩:=h;have:=Nat.mod_lt (k+1) (show 0<la by omega);refine⟨?_,by split <;> omega⟩;unfold Ck.nv;rw[ring_len];simp[ringN];omega
 ·unfold Ck.nv;rw[ring_len];simp[ringN]
end Go.Ta
namespace Go.Proofs.YtimdkminagnhgaaGreatDoor
open Go.Vm Go.Proofs Go.Ta
set_option maxHeartbeats 4000000
attribute [local simp] cSeq cReg reg to too onlyIf onlyIfo aMove mv' nl' fl' ld' ln' mk' ia' ik' ix' aNil aFld aLd aInt aPick aConv aUn unA ev upd_get isB envOf iA_add iA_sub iA_mul iA_eql iA_neq iA_lss iA_leq iA_gtr iA_geq cIf cRet cSkip okc_some aSt vc_int vc_bool vc_agg vc_str vc_ptr vc_sl ft_int ft_bool ft_str ft_ptr ft_sl tp_int tp_bool tp_agg tp_str tp_ptr tp_sl aBuild Instr.fill aCall cExit cBlk outOf ptr undef aNew aBox aIdxArr aLdN aShift aLenSl aIdx aMkSl aApp rangeA aExt aPtrNil aSlNil aBoolEq aMake aSliceSl boundA chk
section
variable {H:Type}{O:HI H}{ro:Nat}{c:CallT H}
variable {w w':Own}{h h':H}{q:Nat}{S:Srch}{bW bH bV:Nat}{vA vC vT vS vK:Value}{lv wv:List Value}
attribute [local simp] aStr strA aLenStr aB2S bytesA aAggEq intsA
theorem pick_q (C:LP' O ro c)(a:Int)(ha:I64 a)(n:Nat)(hn:0<n): ∃k:Nat,k<n∧∀h,c 33 [.int .i64 a,ni n] h=some (ni k,h):=by
 obtain⟨ha1,ha2⟩:=ha;have key:∀x:Int,0<=x->∃k:Nat,k<n∧intA .rem .i64 x (n:Int)=some (.int .i64 (k:Int)):=by
  intro x hx;refine⟨x.toNat%n,Nat.mod_lt _ hn,?_⟩;have hb:(n:Int)≠0:=by omega
  obtain⟨m,rfl⟩:∃m:Nat,x=m:=⟨x.toNat,by omega⟩;simp only[intA,if_neg hb,Int.ofNat_tmod,Int.toNat_natCast]
 by_cases h0:a<0
 ·have w1:IntKind.i64.wrap (a+1)=a+1:=wrap_id (by omega) (by omega);have w2:IntKind.i64.wrap (0-(a+1)) = -(a+1):=by rw[wrap_id (by omega) (by omega)];omega
  have w2':IntKind.i64.wrap (-(a+1)) = -(a+1):=wrap_id (by omega) (by omega);obtain⟨k,hk,e⟩:=key (-(a+1)) (by omega);refine⟨k,hk,λh=>C.eq (F33_fn O ro) rfl rfl (f'f ?_)⟩;generalize hx:-(a+1)=x at *;simp[F33,Zp5,Zp6,Zp7,Zp8,resE,resLE,rvE,h0,w1,w2,w2',hx,e]
 ·obtain⟨k,hk,e⟩:=key a (by omega);refine⟨k,hk,λh=>C.eq (F33_fn O ro) rfl rfl (f'f ?_)⟩;simp[F33,Zp5,Zp6,Zp8,resE,resLE,rvE,h0,e]
def ckB (T T':CkT): Bool:=decide (T.ni=T'.ni)&&decide (T.las=T'.las)&&decide (T.gts=T'.gts)&&decide (T.bad=T'.bad)
theorem ckB_eq {T T':CkT}(h:ckB T T'=true): T=T':=by
 unfold ckB at h;simp only[l'k,l'M]at h;obtain⟨⟨⟨a,b⟩,c⟩,d⟩:=h
 cases T;cases T'
 simp_all
def rdB (s:ByteArray)(N:Ck): Bool:=match rdS s with | .ok T=>ckB T (ckT N) | .error _=>false
theorem rdB_eq {s:ByteArray}{N:Ck}(h:rdB s N=true): rdS s = .ok (ckT N):=by
 unfold rdB at h;split at h
 ·rename_i T hT;rw[hT,ckB_eq h]
 ·simp at h
def ringX (la i j:Nat): Nt:=⟨0,la,[2*(1+i),2*(1+j)],(List.range la).map λk=>2*(1+(k+1)%la),1 :: List.replicate (la-1) 0,2*(la+1)⟩
def ringAll: Bool:=(List.range 5).all λk=>(List.range (k+2)).all λi=>(List.range (k+2)).all λj=>rdB (txS (ringX (k+2) i j)) (ringN (k+2) i j)&&ringB (k+2) i j
theorem ring_all: ringAll=true:=by kernel_rfl
theorem ring_case {la i j:Nat}(h0:2<=la)(hl:la<=6)(hi:i<la)(hj:j<la): rdS (txS (ringX la i j)) = .ok (ckT (ringN la i j))∧RgK la i j:=by
 have h:=ring_all;unfold ringAll at h;rw[l'D]at h;have h1:=h (la-2) (by simp;omega);rw[show la-2+2=la by omega,l'D]at h1;have h2:=h1 i (by simpa using hi);rw[l'D]at h2;have h3:=h2 j (by simpa using hj);rw[l'k]at h3;exact⟨rdB_eq h3.1,h0,hi,hj,h3.2⟩
theorem ring_s {la i j:Nat}(h0:2<=la)(hl:la<=6)(hi:i<la)(hj:j<la): CkS (ringN la i j):=by
 have hm:most=1000000:=rfl;have hnv:(ringN la i j).nv=la+2:=by unfold Ck.nv;rw[ring_len];simp[ringN];omega
 refine⟨⟨by simp[ringN],by rw[ring_len];omega,by rw[hnv];omega,?_,?_,by simp[ringN];omega⟩,ring_w h0 hl hi hj,by rw[hnv];omega,?_,by rw[ring_len];omega⟩
 ·intro x hx;simp[ringN]at hx;obtain⟨k,hk,rfl⟩:=hx;have:=Nat.mod_lt (k+1) (show 0<la by omega);simp only;refine⟨by omega,by split <;> omega⟩
 ·intro x hx;simp[ringN]at hx;subst hx;simp only;omega
 ·rw[hnv];have:2^(la+2-1)<=2^7:=Nat.pow_le_pow_right (by omega) (by omega);omega
end
section
variable {H:Type}{O:HI H}{ro:Nat}{c:CallT H}
variable {w w':Own}{h h':H}{q:Nat}{S:Srch}{bW bH bV:Nat}{vA vC vT vS vK:Value}{lv wv:List Value}
attribute [local simp] aStr strA aLenStr aB2S bytesA aAggEq intsA
def rnext (la k:Nat): List Nat:=(List.range k).map (λk=>2*(1+(k+1)%la))++List.replicate (la-k) 0
theorem rnext_set {la k:Nat}(h:k<la): (rnext la k).set k (2*(1+(k+1)%la))=rnext la (k+1):=by
 unfold rnext;rw[List.set_append_right _ _ (by simp),l'B,List.map_append,List.length_map,List.length_range,Nat.sub_self];obtain⟨m,hm⟩:∃m,la-k=m+1:=⟨la-k-1,by omega⟩;rw[hm,show la-(k+1)=m by omega,List.replicate_succ];simp
def RgI (O:HI H)(ro:Nat)(p la i j:Nat)(n:Nat)(t:Env)(g:H): Prop:=
 t 7=ni la∧t 8=ni i∧t 9=ni j∧t 10 = .pointer (some ⟨p,0,none⟩)∧∃k vg vn vr w1,t 11=ni k∧k+n=la∧NT O ro w1 g p ⟨0,la,[],rnext la k,List.replicate la 0,0⟩ vg vn vr
def RgQ (O:HI H)(ro:Nat)(p la i j:Nat)(t:Env)(g:H): Prop:=
 t 7=ni la∧t 8=ni i∧t 9=ni j∧t 10 = .pointer (some ⟨p,0,none⟩)∧∃vg vn vr w1,NT O ro w1 g p ⟨0,la,[],rnext la la,List.replicate la 0,0⟩ vg vn vr
theorem ring1_q (C:LP' O ro c)(L:O.Law){p la i j n:Nat}(hl:la<=6){t:Env}{g:H}(I:RgI O ro p la i j n t g):
  okE c (W22_0 O Tryz.prog ro) (t,g) (λe t' g'=>(e = .normal∧∃n',n'<n∧RgI O ro p la i j n' t' g')∨(e≠.normal∧(outOf 0 e = .normal∧RgQ O ro p la i j t' g'))):=by
 obtain⟨d7,d8,d9,d10,k,vg,vn,vr,w1,d11,hkn,x⟩:=I
 cases n with
 | zero=>
  obtain rfl:k=la:=by omega
  refine f'f ?_;simp[W22_0,ZpT,d7,d11];exact⟨d7,d8,d9,d10,vg,vn,vr,w1,x⟩
 | succ n=>
  have hk:k<la:=by omega
  have hk':(k:Int)<la:=by omega
  have m3:=x.m.get 3 _ rfl;have hlen:(rnext la k).length=la:=by simp[rnext];omega
  obtain⟨bn,qn,en,hqn,yn⟩:=x.sn.blk (by omega) la (by simp[hlen]) (by omega);rw[en]at m3;have hm:=Nat.mod_lt (k+1) (show 0<la by omega);have e1:=latch_q C L x (by simp) (j:=(k+1)%la) (by omega);simp only[Nat.add_zero]at e1;have hknl:k<(List.map ni (rnext la k)).length:=by simp[hlen];exact hk
  obtain⟨z,hz⟩:∃z,z=2*(1+(k+1)%la):=⟨_,rfl⟩;have c2:=Ch.put L (K:=λu=>u=((17,2):Tag)) yn k hknl (ni z) rfl;have y2:=yn.put L k hknl (ni z);have hset:(List.map ni (rnext la k)).set k (ni z)=(rnext la (k+1)).map ni:=by
   rw[<-List.map_set,hz,rnext_set hk]
  rw[hset]at y2;obtain⟨v0,hv0⟩:∃v0,(List.map ni (rnext la k))[k]?=some v0:=⟨_,l'c hknl⟩;have p2:=puts_one (O:=O) (v:=ni z) (yn.get k v0 hv0);obtain⟨g2,hg2⟩:∃g2,g2=O.put g bn k (ni z):=⟨_,rfl⟩;rw[<-hg2]at c2 y2 p2;have hlen2:(rnext la (k+1)).length=la:=by simp[rnext];omega
  have x2:NT O ro w1 g2 p ⟨0,la,[],rnext la (k+1),List.replicate la 0,0⟩ vg vn vr:=by
   refine⟨x.m.ch L c2 (by simp),x.sg.ch L c2 (by simp),?_,x.sr.ch L c2 (by simp),l'G x.lo c2.nx⟩;rw[en];exact .inr ⟨bn,la,qn,rfl,hqn,by simp[hlen2],y2⟩
  have hwi:IntKind.i64.wrap ((k:Int)+1)=((k+1:Nat):Int):=by rw[wrap_id (by omega) (by omega)];omega
  have q1:=iA_rem .i64 (k+1) la (by omega);rw[<-hz]at e1;obtain⟨k',hk2⟩:∃k',k'=k+1:=⟨_,rfl⟩;rw[<-hk2]at hwi q1 e1 x2;generalize k'%la=r at *;have rb:¬bn<ro:=by have:=yn.lo;omega
  unfold ptr at e1;refine f'f ?_;simp[W22_0,ZpT,ZpU,ZpV,d7,d10,d11,hk,hk',m3,hwi,q1,e1,rb,p2];exact⟨n,by omega,by simp[d7],by simp[d8],by simp[d9],by simp[d10],k',vg,vn,vr,w1,by simp,by omega,x2⟩
theorem ring_q (C:LP' O ro c)(L:O.Law)(lo:ro<=O.next h){a b d:Int}(ha:I64 a)(hb:I64 b)(hd:I64 d): ∃h',c 22 [.int .i64 a,.int .i64 b,.int .i64 d] h=some (.bool true,h'):=by
 obtain⟨k5,hk5,e5⟩:=pick_q C a ha 5 (by omega);obtain⟨la,hla⟩:∃la,la=2+k5:=⟨_,rfl⟩;have h0:2<=la:=by omega
 have hl:la<=6:=by omega
 obtain⟨i,hi,ei⟩:=pick_q C b hb la (by omega);obtain⟨j,hj,ej⟩:=pick_q C d hd la (by omega);obtain⟨w,-⟩:∃w:Own,True:=⟨λ_=>(0,0),trivial⟩;obtain⟨p,vg,vn,vr,h1,w1,e1,x1,-⟩:=blank_q (w:=w) C L lo (a:=0) (b:=la) (by omega);obtain⟨hrd,K⟩:=ring_case h0 hl hi hj;have hS:=ring_s h0 hl hi hj;have key:∃u h',c 22 [.int .i64 a,.int .i64 b,.int .i64 d] h=some (u,h')∧u = .bool true:=by
  refine C.fn (F22_fn O ro) rfl rfl ?_;unfold F22;have wl:IntKind.i64.wrap (2+(k5:Int))=(la:Int):=by rw[wrap_id (by omega) (by omega)];omega
  have e5':=e5 h;have ei':=ei h;have ej':=ej h;have hni5:ni 5=Value.int .i64 5:=rfl;rw[hni5]at e5';have hni0:ni 0=Value.int .i64 0:=rfl;rw[hni0]at e1;unfold ptr at e1;refine s'f ?_;simp[ZpN,thenE];refine s'f ?_;simp[ZpO,thenE,e5',wl];refine s'f ?_;simp[ZpP,thenE,ei'];refine s'f ?_;simp[ZpQ,thenE,ej'];refine s'f ?_;simp[ZpR,thenE,e1];refine okE.seq (s'f ?_);simp[ZpS,thenE];refine okE.blk ?_;refine okE.mono (okE.loop (Q:=λe t' g'=>outOf 0 e = .normal∧RgQ O ro p la i j t' g') (RgI O ro p la i j) (λn t g I=>ring1_q C L hl I) la _ _ ⟨by simp,by simp,by simp,by simp,0,vg,vn,vr,w1,by simp,by omega,by simpa [rnext]using x1⟩) ?_;rintro e t g ⟨hr,d7,d8,d9,d10,vg2,vn2,vr2,w2,x2⟩;rw[hr];simp only[thenE];have m4:=x2.m.get 4 _ rfl;obtain⟨br,qr,er,hqr,yr⟩:=x2.sr.blk (by omega) la (by simp) (by omega);rw[er]at m4;have hrl:0<(List.map ni (List.replicate la 0)).length:=by simp;omega
  have c3:=Ch.put L (K:=λu=>u=((17,3):Tag)) yr 0 hrl (.int .i64 1) rfl;have y3:=yr.put L 0 hrl (.int .i64 1);have hset:(List.map ni (List.replicate la 0)).set 0 (.int .i64 1)=(1 :: List.replicate (la-1) 0).map ni:=by
   obtain⟨m,hm⟩:∃m,la=m+1:=⟨la-1,by omega⟩;rw[hm,List.replicate_succ];rfl
  simp only at y3 hset;rw[hset]at y3;obtain⟨v0,hv0⟩:∃v0,(List.map ni (List.replicate la 0))[0]?=some v0:=⟨_,l'c hrl⟩;have p3:=puts_one (O:=O) (v:=.int .i64 1) (yr.get 0 v0 hv0);obtain⟨g3,hg3⟩:∃g3,g3=O.put g br 0 (.int .i64 1):=⟨_,rfl⟩;rw[<-hg3]at c3 y3 p3;have x3:NT O ro w2 g3 p ⟨0,la,[],rnext la la,1 :: List.replicate (la-1) 0,0⟩ vg2 vn2 vr2:=by
   refine⟨x2.m.ch L c3 (by simp),x2.sg.ch L c3 (by simp),x2.sn.ch L c3 (by simp),?_,l'G x2.lo c3.nx⟩;rw[er];exact .inr ⟨br,la,qr,rfl,hqr,by simp;omega,y3⟩
  have rb:¬br<ro:=by have:=yr.lo;omega
  have hla1:0<la:=by omega
  have hla1':(0:Int)<la:=by omega
  have e4:=latch_q C L x3 (by simp) (j:=i) (by omega);have e6:=latch_q C L x3 (by simp) (j:=j) (by omega);simp only[Nat.add_zero]at e4 e6;obtain⟨vg4,g4,w4,e7,x4,-⟩:=and_q C L x3 (by simp) (by simp only;omega) (by simp) (2*(1+i)) (2*(1+j));simp only[l'o,l'F,List.nil_append]at e7 x4;have hg1:2*(la+2/2)=2*(la+1):=by omega
  rw[hg1]at e7;have c5:=Ch.put L (K:=λu=>u=((17,0):Tag)) x4.m 5 (by simp) (ni (2*(la+1))) rfl;have m5:=x4.m.put L 5 (by simp) (ni (2*(la+1)));have p5:=puts_one (O:=O) (v:=ni (2*(la+1))) (x4.m.get 5 _ rfl);obtain⟨g5,hg5⟩:∃g5,g5=O.put g4 p 5 (ni (2*(la+1))):=⟨_,rfl⟩;rw[<-hg5]at c5 m5 p5;have hnx:rnext la la=(List.range la).map λk=>2*(1+(k+1)%la):=by simp[rnext]
  have x5:NT O ro w4 g5 p (ringX la i j) vg4 vn2 vr2:=by
   unfold ringX;rw[<-hnx];exact⟨m5,x4.sg.ch L c5 (by simp),x4.sn.ch L c5 (by simp),x4.sr.ch L c5 (by simp),l'G x4.lo c5.nx⟩
  have KX:NtK (ringX la i j):=by
   refine⟨by simp[ringX],hl,by simp[ringX,Nt.a],by simp[ringX,Nt.a];omega,by simp[ringX],by simp[ringX];omega,?_,?_,?_,by simp[ringX];omega⟩
   ·intro y hy;simp[ringX]at hy;omega
   ·intro y hy;simp[ringX]at hy;obtain⟨k,hk,rfl⟩:=hy;have:=Nat.mod_lt (k+1) (show 0<la by omega);omega
   ·intro y hy;simp[ringX]at hy;omega
  obtain⟨g6,w6,e8,c6,lo6⟩:=text_q C L x5 KX;have rp:¬p<ro:=by have:=x4.m.lo;omega
  obtain⟨za,hza⟩:∃za,za=2*(1+i):=⟨_,rfl⟩;obtain⟨zb,hzb⟩:∃zb,zb=2*(1+j):=⟨_,rfl⟩;obtain⟨zc,hzc⟩:∃zc,zc=2*(la+1):=⟨_,rfl⟩;rw[<-hza]at e4 e7;rw[<-hzb]at e6 e7;rw[<-hzc]at e7 p5;obtain⟨tx,htx⟩:∃tx,tx=txS (ringX la i j):=⟨_,rfl⟩;rw[<-htx]at e8 hrd;unfold ptr at e4 e6 e7 e8;refine s'f ?_;simp[ZpW,thenE,d10,m4,hla1,hla1',rb,p3];refine s'f ?_;simp[ZpX,thenE,d8,d10,e4];refine s'f ?_;simp[ZpY,thenE,d9,d10,e6];refine s'f ?_;simp[ZpZ,thenE,d10,e7,rp,p5];refine s'f ?_;simp[Zp0,thenE,d10,e8]
  by_cases hij:i=j
  ·subst hij;obtain⟨vI,init,ins,g7,w7,e9,u9,l9,s9,c9,lo9⟩:=unsf_law (w:=w6) C L lo6 hS hrd (ring_bad K);obtain⟨r1,r2,-,r4⟩:=ring_uns K u9;subst r1;obtain⟨aI,cI,hvI⟩:=s9.len (by omega) ins.length (by simp);obtain⟨n1,hn1⟩:∃n1,ins.length=n1+1:=⟨ins.length-1,by omega⟩;rw[hvI,hn1]at e9;rw[hn1,Nat.add_sub_cancel]at r4;have wn:IntKind.i64.wrap (n1:Int)=(n1:Int):=wrap_id (by omega) (by omega);have wi:IntKind.i64.wrap ((la:Int)-(i:Int))=((la-i:Nat):Int):=by rw[wrap_id (by omega) (by omega)];omega
   have q1:=iA_rem .i64 n1 la (by omega);have q2:=iA_rem .i64 (la-i) la (by omega);rw[r4]at q1;generalize la-i=di at *;generalize di%la=dm at *;have hgt:(0:Int)<(n1:Int)+1:=by omega
   refine s'f ?_;simp[Zp1,thenE,d8,d9];refine s'f ?_;simp[Zp3,thenE,e9];refine f'f ?_;simp[Zp4,d7,d8,hgt,wn,wi,q1,q2,resE,resLE,rvE]
  ·obtain⟨g7,e9⟩:=safe_law C L lo6 hS hrd (λst ins hu=>hij (ring_uns K hu).2.2.1);have hne:((i:Int) != (j:Int))=true:=bne_iff_ne.2 (by omega);have hne2:¬((i:Int)=(j:Int)):=by omega
   refine s'f ?_;simp[Zp1,Zp2,thenE,d8,d9,hij,hne,hne2,e9,resE,resLE,rvE]
 obtain⟨u,h',e1,rfl⟩:=key;exact⟨h',e1⟩
end
end Go.Proofs.YtimdkminagnhgaaGreatDoor
