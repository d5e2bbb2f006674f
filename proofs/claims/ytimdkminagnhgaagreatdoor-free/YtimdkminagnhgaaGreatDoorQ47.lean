import Derived.Test.YtimdkminagnhgaaGreatDoorQ42
import Derived.Test.YtimdkminagnhgaaGreatDoorQ43
import Derived.Test.YtimdkminagnhgaaGreatDoorQ44
import Derived.Test.YtimdkminagnhgaaGreatDoorQ45
import Derived.Test.YtimdkminagnhgaaGreatDoorQ46
set_option linter.all false
namespace Go.Proofs.YtimdkminagnhgaaGreatDoor
open Go.Vm Go.Proofs Go.Ta
set_option maxHeartbeats 4000000
section
variable {H:Type}{O:HI H}{ro:Nat}{c:CallT H}
attribute [local simp] cSeq cReg reg to too onlyIf onlyIfo aMove mv' nl' fl' ld' ln' mk' ia' ik' ix' aNil aFld aLd aInt aPick aConv aUn unA ev upd_get isB envOf iA_add iA_sub iA_mul iA_eql iA_neq iA_lss iA_leq iA_gtr iA_geq cIf cRet cSkip okc_some aSt vc_int vc_bool vc_agg vc_str vc_ptr vc_sl ft_int ft_bool ft_str ft_ptr ft_sl tp_int tp_bool tp_agg tp_str tp_ptr tp_sl aBuild Instr.fill aCall cExit cBlk outOf ptr undef aNew aBox aIdxArr aLdN aShift aLenSl aIdx aMkSl aApp rangeA aExt aPtrNil aSlNil aBoolEq aMake aSliceSl boundA chk
variable {w w':Own}{h h':H}{p:Nat}{X:Nt}{vg vn vr:Value}
attribute [local simp] aStr strA aLenStr aB2S bytesA aAggEq intsA
theorem safe2_law (C:LP' O ro c)(L:O.Law)(lo:ro<=O.next h){s:ByteArray}{N:Ck}(hN:CkS N)(hr:rdS s = .ok (ckT N))(hno:∀st ins,¬UnsN N st ins): ∃h' w',c 41 [.string s] h=some (.bool true,h')∧Ch O (λ_=>False) w h w' h'∧ro<=O.next h':=by
 obtain⟨f,n,m,R0,R,v,a1,a2,a3,a4,a5,a6⟩:=run_full hN.w hN.n hN.h4 hN.l (bud:=1152921504606846976) (by omega) (by omega);obtain⟨f',n',m',R0',R',v',b1,b2,b3,b4,b5,b6⟩:=run_full hN.w hN.n hN.h4 hN.l (bud:=0) (by omega) (by omega);have hv:v=1:=by
  rcases a3 with h|h|h
  ·exact h
  ·exact absurd (a5 h).1 (hno _ _)
  ·exact absurd h (a6 (by omega))
 have hv':v'=1∨v'=3:=by
  rcases b3 with h|h|h
  ·exact .inl h
  ·exact absurd (b5 h).1 (hno _ _)
  ·exact .inr h
 subst hv;obtain⟨p,vC,vI,us,h1,w1,e1,q1,c1,lo1⟩:=run_q (w:=w) C L lo hN.k hr (bud:=1152921504606846976) (by omega) (by omega) a3 ⟨R0,a1,a2⟩;obtain⟨p',vC',vI',us',h2,w2,e2,q2,c2,lo2⟩:=run_q (w:=w1) C L lo1 hN.k hr (bud:=0) (by omega) (by omega) b3 ⟨R0',b1,b2⟩;have q1':=q1.ch L c2;have k0:=q1'.m.get 0 _ rfl;have k1:=q1'.m.get 1 _ rfl;have k2:=q1'.m.get 2 _ rfl;have j0:=q2.m.get 0 _ rfl;have kk:cellsA O h2 p 1 2=some [.int .i64 0,.int .i64 0]:=by
  refine cellsA_get 2 1 _ rfl λi hi=>?_;rcases (show i=0∨i=1 by omega) with rfl|rfl
  ·exact k1
  ·exact k2
 unfold ptr at e1 e2;refine⟨h2,w2,C.eq (F41_fn O ro) rfl rfl ?_,c1.trans c2,lo2⟩;unfold F41;refine s'f ?_;simp[Zq5,thenE];refine s'f ?_;simp[Zq6,thenE,e1];refine s'f ?_;simp[Zq7,thenE,e2];refine s'f ?_;simp[Zq8,thenE];refine s'f ?_;simp[Zra,thenE,kk];refine f'f ?_;rcases hv' with rfl|rfl
 ·simp[Zrb,k0,j0,resE,resLE,rvE]
 ·simp[Zrb,k0,j0,resE,resLE,rvE]
theorem free_A {la k:Nat}(h0:1<=la)(hl:la<=6)(hk:k<2^la): rdS (txS (freeX la (bitsL la k) k)) = .ok (ckT (freeN la (bitsL la k) k)):=by
 have h:chkA la=true:=by
  rcases (show la=1∨la=2∨la=3∨la=4∨la=5∨la=6 by omega) with rfl|rfl|rfl|rfl|rfl|rfl
  ·exact cA1
  ·exact cA2
  ·exact cA3
  ·exact cA4
  ·exact cA5
  ·exact cA6
 unfold chkA at h;rw[l'D]at h;exact rdQ_eq (h k (by simpa using hk))
theorem free_BC {la i:Nat}(h0:1<=la)(hl:la<=6)(hi:i<la): chkB la i=true∧chkC la i=true:=by
 rcases (show la=1∨la=2∨la=3∨la=4∨la=5∨la=6 by omega) with rfl|rfl|rfl|rfl|rfl|rfl
 ·obtain rfl:i=0:=by omega
  exact⟨cB10,cC10⟩
 ·rcases (show i=0∨i=1 by omega) with rfl|rfl
  ·exact⟨cB20,cC20⟩
  ·exact⟨cB21,cC21⟩
 ·rcases (show i=0∨i=1∨i=2 by omega) with rfl|rfl|rfl
  ·exact⟨cB30,cC30⟩
  ·exact⟨cB31,cC31⟩
  ·exact⟨cB32,cC32⟩
 ·rcases (show i=0∨i=1∨i=2∨i=3 by omega) with rfl|rfl|rfl|rfl
  ·exact⟨cB40,cC40⟩
  ·exact⟨cB41,cC41⟩
  ·exact⟨cB42,cC42⟩
  ·exact⟨cB43,cC43⟩
 ·rcases (show i=0∨i=1∨i=2∨i=3∨i=4 by omega) with rfl|rfl|rfl|rfl|rfl
  ·exact⟨cB50,cC50⟩
  ·exact⟨cB51,cC51⟩
  ·exact⟨cB52,cC52⟩
  ·exact⟨cB53,cC53⟩
  ·exact⟨cB54,cC54⟩
 ·rcases (show i=0∨i=1∨i=2∨i=3∨i=4∨i=5 by omega) with rfl|rfl|rfl|rfl|rfl|rfl
  ·exact⟨cB60,cC60⟩
  ·exact⟨cB61,cC61⟩
  ·exact⟨cB62,cC62⟩
  ·exact⟨cB63,cC63⟩
  ·exact⟨cB64,cC64⟩
  ·exact⟨cB65,cC65⟩
theorem free_B {la k i:Nat}(h0:1<=la)(hl:la<=6)(hi:i<la)(hk:k<2^la): rdS (txS (freeX la (bitsL la k) (k ^^^ 2^i))) = .ok (ckT (freeN la (bitsL la k) (k ^^^ 2^i))):=by
 have h:=(free_BC h0 hl hi).1;unfold chkB at h;rw[l'D]at h;exact rdQ_eq (h k (by simpa using hk))
theorem free_C {la k i:Nat}(h0:1<=la)(hl:la<=6)(hi:i<la)(hk:k<2^la): rdS (txS (freeX la ((bitsL la k).set i 2) (k ^^^ 2^i))) = .ok (ckT (freeN la ((bitsL la k).set i 2) (k ^^^ 2^i))):=by
 have h:=(free_BC h0 hl hi).2;unfold chkC at h;rw[l'D]at h;exact rdQ_eq (h k (by simpa using hk))
def frR (la:Nat)(r:List Nat): List Nat:=(List.range la).map λj=>if r.getD j 0=2 then 2*(1+j) else r.getD j 0
theorem frR_bits (la k:Nat): (List.range la).map (λj=>k/2^j%2)=frR la (bitsL la k):=by
 unfold frR;refine List.map_congr_left λj hj=>?_;rw[bitsL_get (by simpa using hj)];have:=Nat.mod_lt (k/2^j) (show 0<2 by omega);rw[if_neg (by omega)]
theorem frR_set {la k i:Nat}(hi:i<la): (frR la (bitsL la k)).set i (2*(1+i))=frR la ((bitsL la k).set i 2):=by
 refine List.ext_getElem? λj=>?_;have hl:∀r,(frR la r).length=la:=λr=>by simp[frR]
 by_cases hj:j<la
 ·have hr:(frR la ((bitsL la k).set i 2))[j]?=some (if ((bitsL la k).set i 2).getD j 0=2 then 2*(1+j) else ((bitsL la k).set i 2).getD j 0):=by
   unfold frR;simp only[List.getElem?_map,List.getElem?_range hj,l'l]
  have hr2:(frR la (bitsL la k))[j]?=some (if (bitsL la k).getD j 0=2 then 2*(1+j) else (bitsL la k).getD j 0):=by
   unfold frR;simp only[List.getElem?_map,List.getElem?_range hj,l'l]
  rw[hr,bitsS_get hi hj]
  by_cases e:j=i
  ·subst e;rw[l'g (by rw[hl];exact hj),if_pos rfl,if_pos rfl]
  ·rw[l'h (λh=>e h.symm),hr2,if_neg e,bitsL_get hj]
 ·rw[List.getElem?_eq_none (by rw[List.length_set,hl];omega),List.getElem?_eq_none (by rw[hl];omega)]
theorem free_q (C:LP' O ro c)(L:O.Law)(lo:ro<=O.next h){a b d:Int}(ha:I64 a)(hb:I64 b)(hd:I64 d): ∃h',c 23 [.int .i64 a,.int .i64 b,.int .i64 d] h=some (.bool true,h'):=by
 obtain⟨k6,hk6,e6⟩:=pick_q C a ha 6 (by omega);obtain⟨la,hla⟩:=e' (1+k6);have h0:1<=la:=by omega
 have hl:la<=6:=by omega
 obtain⟨k,hk⟩:=e' ((b%2^la).toNat);have hp6:2^la<=2^6:=Nat.pow_le_pow_right (by omega) hl;have hk2:k<2^la:=by
  have hp:(0:Int)<2^la:=Int.pow_pos (by decide);have:=Int.emod_lt_of_pos b hp;have h1:=Int.emod_nonneg b (show (2:Int)^la≠0 by omega);have h3:((2^la:Nat):Int)=2^la:=by simp
  omega
 obtain⟨i,hi,ei⟩:=pick_q C d hd la (by omega);obtain⟨kk,hkk⟩:=e' (k ^^^ 2^i);have hkk2:kk<2^la:=by rw[hkk];exact flip_lt hk2 hi
 have hrA:=free_A h0 hl hk2;have hrB:=free_B h0 hl hi hk2;have hrC:=free_C h0 hl hi hk2;rw[<-hkk]at hrB hrC;obtain⟨w,-⟩:∃w:Own,True:=⟨λ_=>(0,0),trivial⟩;obtain⟨p,vg,vn,vr,h1,w1,e1,x1,-⟩:=blank_q (w:=w) C L lo (a:=0) (b:=la) (by omega);have x1':NT O ro w1 h1 p (frX la k 0) vg vn vr:=by
  have r:∀f,List.replicate la 0=row [] f la 0:=λf=>by simp[row]
  unfold frX;rw[<-r,<-r];exact x1
 have key:∃u h',c 23 [.int .i64 a,.int .i64 b,.int .i64 d] h=some (u,h')∧u = .bool true:=by
  refine C.fn (F23_fn O ro) rfl rfl ?_;unfold F23;have wl:IntKind.i64.wrap (1+(k6:Int))=(la:Int):=w'i;have e6':=e6 h;have hni6:ni 6=Value.int .i64 6:=rfl;rw[hni6]at e6';have hni0:ni 0=Value.int .i64 0:=rfl;rw[hni0]at e1;have sh:=(shl_one la (by omega)).1;have hpp:0<2^la:=Nat.pow_pos (by omega);have wm:IntKind.i64.wrap (((2^la:Nat):Int)-1)=((2^la-1:Nat):Int):=w'i;have am:=and_mask b hl;rw[<-hk]at am;generalize 2^la-1=msk at wm am;generalize hpw:2^la=pw at sh wm;unfold ptr at e1;refine s'f ?_;simp[ZpN,thenE];refine s'f ?_;simp[ZpO,thenE,e6',wl];refine s'f ?_;simp[ZpP,thenE,sh,wm,am];refine s'f ?_;simp[ZpQ,thenE,e1];refine okE.seq (s'f ?_);simp[ZpR,thenE];refine okE.blk ?_;refine okE.mono (okE.loop (Q:=λe t' g'=>outOf 0 e = .normal∧FreQ O ro p la k d t' g') (FreI O ro p la k d) (λn t g I=>free1_q C L hl (by omega) I) la _ _ ⟨by simp,by simp,by simp,by simp,0,vg,vn,vr,w1,by simp,by omega,x1'⟩) ?_;rintro e t g ⟨hr,d2,d7,d8,d9,vg2,vn2,vr2,w2,x2⟩;rw[hr];simp only[thenE];obtain⟨vg3,g3,w3,e3,x3⟩:=is_q C L (g0:=0) (kk:=k) x2 (by simp[frX]) (by simp only[frX];omega) (by simp[frX]) (by omega) (by omega);have hv:isV (frX la k la).inn (frX la k la).la 0 (frX la k la).la=4*la:=by
   show isV 0 la 0 la=4*la;unfold isV;rw[if_neg (by omega)];omega
  rw[hv]at e3;obtain⟨g4,rp4,p4,x4⟩:=x3.setB L (4*la);have hX:∀r kk',({ (isX ⟨0,la,[],(List.range la).map (λj=>2*(1+j)),frR la r,0⟩ 0 kk' la) with bad:=4*la }:Nt)=freeX la r kk':=by
   intro r kk';simp only[isX,freeX,List.nil_append,frR]
  have hfr:frX la k la=⟨0,la,[],(List.range la).map (λj=>2*(1+j)),frR la (bitsL la k),0⟩:=by
   unfold frX;rw[row_end,row_end,List.nil_append,List.nil_append,frR_bits]
  have x5:NT O ro w3 g4 p (freeX la (bitsL la k) k) vg3 vn2 vr2:=by
   rw[<-hX,<-hfr];exact x4
  obtain⟨g5,w5,e5,c5,lo5⟩:=text_q C L x5 (free_ntk h0 hl (bitsL_le la k));obtain⟨vI,init,ins,g6,w6,e7,u6,l6,s6,c6,lo6⟩:=unsf_law (w:=w5) C L lo5 (free_s h0 hl (bitsL_le la k)) hrA (free_open h0 (bitsL_le la k) hk2 free_k);obtain⟨r1,r2,-⟩:=free_uns h0 (bitsL_le la k) hk2 u6;have r1:=r1.symm;subst r1;have x6:=(x5.ch L c5).ch L c6;obtain⟨aI,cI,hvI⟩:=s6.len (by omega) ins.length (by simp);obtain⟨n1,hn1⟩:∃n1,ins.length=n1+1:=⟨ins.length-1,by omega⟩;rw[hvI,hn1]at e7;obtain⟨p',ug,un,ur,h7,w7,e8,y7,x7⟩:=blank2_q C L x6 (a:=0) (b:=la) (by omega);obtain⟨b1,q1,b1',q1',g8,m1,m1',rb1,cl1,pt1,y8,k4,sr8⟩:=x7.copyN L y7 (m:=la) (by omega) (by simp[freeX]) (by simp);have hc4:O.cell g8 p 4=some vr2:=by rw[k4];exact x7.m.get 4 _ rfl
  obtain⟨b2,q2,b2',q2',g9,m2,m2',rb2,cl2,pt2,y9⟩:=NT.copyR (p:=p) L hc4 sr8 y8 (m:=la) (by omega) (by simp[freeX]) (by simp);obtain⟨vg10,g10,w10,e10,y10⟩:=is_q C L (g0:=0) (kk:=kk) y9 (by simp) (by simp only;omega) (by simp) (by omega) (by omega);have hv2:isV 0 la 0 la=4*la:=hv;simp only[hv2]at e10;obtain⟨g11,rp11,p11,y11⟩:=y10.setB L (4*la);have y12:NT O ro w10 g11 p' (freeX la (bitsL la k) kk) vg10 un ur:=by
   rw[<-hX];exact y11
  obtain⟨g12,w12,e12,c12,lo12⟩:=text_q C L y12 (free_ntk h0 hl (bitsL_le la k));obtain⟨g13,w13,e13,c13,lo13⟩:=safe2_law (w:=w12) C L lo12 (free_s h0 hl (bitsL_le la k)) hrB (λst ins hu=>by
   obtain⟨r1,r2,r3⟩:=free_uns h0 (bitsL_le la k) hkk2 hu;subst r1;have:=free_is hk2 hkk2 r3;exact flip_ne k i (by rw[<-hkk];exact this))
  have y13:=(y12.ch L c12).ch L c13;have hrl:(freeX la (bitsL la k) kk).reset.length=la:=by simp[freeX]
  obtain⟨b3,q3,g14,m14,rb14,p14,y14⟩:=y13.setR L (o:=i) (by rw[hrl];exact hi) (2*(1+i));rw[hrl]at m14;have e14:=latch_q C L y13 (by simp[freeX]) (j:=i) (by omega);rw[show 2*(1+(freeX la (bitsL la k) kk).inn+i)=2*(1+i) by simp[freeX]]at e14;have y15:NT O ro w13 g14 p' (freeX la ((bitsL la k).set i 2) kk) vg10 un ur:=by
   have hs:freeX la ((bitsL la k).set i 2) kk = { freeX la (bitsL la k) kk with reset:=(freeX la (bitsL la k) kk).reset.set i (2*(1+i)) }:=by
    have:=frR_set (k:=k) hi;unfold frR at this;simp only[freeX];rw[this]
   rw[hs];exact y14
  obtain⟨g15,w15,e15,c15,lo15⟩:=text_q C L y15 (free_ntk h0 hl (bitsS_le la k hi));obtain⟨vJ,jnit,jns,g16,w16,e16,u16,l16,s16,c16,lo16⟩:=unsf_law (w:=w15) C L lo15 (free_s h0 hl (bitsS_le la k hi)) hrC (free_open h0 (bitsS_le la k hi) hkk2 (by rw[hkk];exact free_i hi));obtain⟨r3,r4,-⟩:=free_uns h0 (bitsS_le la k hi) hkk2 u16;have r3:=r3.symm;subst r3;obtain⟨aJ,cJ,hvJ⟩:=s16.len (by omega) jns.length (by simp);obtain⟨n2,hn2⟩:∃n2,jns.length=n2+1:=⟨jns.length-1,by omega⟩;rw[hvJ,hn2]at e16;have ei':=ei g6;have si:=(shl_one i (by omega)).1;have xi:=xor_nat k (2^i) (by omega) (by have:=(shl_one i (by omega)).2;omega);rw[<-hkk]at xi;generalize 2^i=pi at si xi;obtain⟨i3,hi3,hsz⟩:=inf3;have und40:Tryz.prog.underlying 40=some (.slice 3):=by kernel_rfl
  have hmin:Nat.min la la=la:=Nat.min_self la;obtain⟨ln1,hln1⟩:=e' (List.map ni (freeX la (bitsL la k) k).next);obtain⟨ln2,hln2⟩:=e' (List.map ni (freeX la (bitsL la k) k).reset);rw[<-hln1]at cl1 pt1;rw[<-hln2]at cl2 pt2;have hni:ni 0=Value.int .i64 0:=rfl;rw[hni]at e8;obtain⟨t1,ht1⟩:=e' (txS (freeX la (bitsL la k) k));obtain⟨t2,ht2⟩:=e' (txS (freeX la (bitsL la k) kk));obtain⟨t3,ht3⟩:=e' (txS (freeX la ((bitsL la k).set i 2) kk));rw[<-ht1]at e5 e7;rw[<-ht2]at e12 e13;rw[<-ht3]at e15 e16;obtain⟨zv,hzv⟩:=e' (4*la);rw[<-hzv]at e3 p4 e10 p11;obtain⟨zi,hzi⟩:=e' (2*(1+i));rw[<-hzi]at e14 p14;unfold ptr at e3 e5 e8 e10 e12 e14 e15;have hi1:(i:Int)<la:=by omega
  have hne1:¬((n1:Int)+1=0):=by omega
  have hgt2:(0:Int)<(n2:Int)+1:=by omega
  refine s'f ?_;simp[ZpW,thenE,d8,d9,e3,rp4,p4];refine s'f ?_;simp[ZpX,thenE,d9,e5];refine s'f ?_;simp[ZpY,thenE,e7];refine s'f ?_;simp[ZpZ,thenE,d8,hne1];refine s'f ?_;simp[Zp1,thenE,d2,d7,ei'];refine s'f ?_;simp[Zp2,thenE,d7,e8];refine s'f ?_;simp[Zp3,thenE,d9,m1,m1',aAny,opA,cls,effA,copyA,und40,hi3,hsz,rb1,hmin,cl1,pt1];refine s'f ?_;simp[Zp4,thenE,d9,m2,m2',aAny,opA,cls,effA,copyA,und40,hi3,hsz,rb2,hmin,cl2,pt2];refine s'f ?_;simp[Zp5,thenE,d8,si,xi,e10,rp11,p11];refine s'f ?_;simp[Zp6,thenE,e12];refine s'f ?_;simp[Zp7,thenE,e13];refine s'f ?_;simp[Zp8,thenE];refine s'f ?_;simp[Zqa,thenE,m14,e14,hi,hi1,rb14,p14];refine s'f ?_;simp[Zqb,thenE,e15];refine s'f ?_;simp[Zqc,thenE,e16];refine f'f ?_;simp[Zqd,d8,si,xi,hgt2,resE,resLE,rvE]
 obtain⟨u,h',e1,rfl⟩:=key;exact⟨h',e1⟩
end
end Go.Proofs.YtimdkminagnhgaaGreatDoor
namespace Go.Proofs.YtimdkminagnhgaaGreatDoor
open Go.Vm Go.Proofs Go.Ta
section
attribute [local simp] cSeq cReg reg to too aMove mv' nl' fl' ld' ln' mk' ia' ik' ix' ev upd_get envOf cRet okc_some aCall
theorem law14: LawI 14:=by
 intro a b d ha hb hd c C;obtain⟨h',e⟩:=free_q (O:=hpO) (h:=hp0) C hpL (show 3<=3 from l'H 3) ha hb hd;refine⟨h',C.eq (F14_fn hpO 3) rfl rfl ?_⟩;refine f'f ?_;simp[F14,ZpL,ZpM,e,resE,resLE,rvE,vc_bool,ft_bool,tp_bool]
end
end Go.Proofs.YtimdkminagnhgaaGreatDoor
