import Derived.Test.YtimdkminagnhgabGreatDoorQ41
set_option linter.unusedVariables false
set_option linter.unusedSimpArgs false
namespace Go.Ta
theorem tr_odd (σ:Nat->Bool)(v:Nat): tr σ (2*v+1) = !σ v:=by
 unfold tr;rw[show (2*v+1)/2=v by omega,show (2*v+1)%2=1 by omega];simp
def row (pre:List Nat)(f:Nat->Nat)(m k:Nat): List Nat:=pre++((List.range k).map f++List.replicate (m-k) 0)
theorem row_len {pre:List Nat}{f:Nat->Nat}{m k:Nat}(h:k<=m): (row pre f m k).length=pre.length+m:=by simp[row];omega
theorem row_set {pre:List Nat}{f:Nat->Nat}{m k:Nat}(h:k<m): (row pre f m k).set (pre.length+k) (f k)=row pre f m (k+1):=by
 unfold row;rw[List.set_append_right _ _ (by omega),Nat.add_sub_cancel_left,List.set_append_right _ _ (by simp),l'B,List.map_append,List.length_map,List.length_range,Nat.sub_self];obtain⟨n,hn⟩:∃n,m-k=n+1:=⟨m-k-1,by omega⟩;rw[hn,show m-(k+1)=n by omega,List.replicate_succ];simp
theorem row_end {pre:List Nat}{f:Nat->Nat}{m:Nat}: row pre f m m=pre++(List.range m).map f:=by simp[row]
def idleN (i m c:Nat): Ck:=⟨i,[(2*i,0),(2*(1+i),0)]++(List.range m).map (λj=>(2*(3+i+j)+1,c/2^j%2)),[(2*(2+i)+1,2*(1+i))],2*(3+i+m)⟩
variable {i m c:Nat}
theorem idle_len: (idleN i m c).las.length=2+m:=by simp[idleN];omega
theorem idle_nv: (idleN i m c).nv=4+i+m:=by unfold Ck.nv;rw[idle_len];simp[idleN];omega
theorem idle_la {j x r:Nat}(h:(idleN i m c).las[j]?=some (x,r)): (j=0∧x=2*i∧r=0)∨(j=1∧x=2*(1+i)∧r=0)∨∃k,k<m∧j=2+k∧x=2*(3+i+k)+1∧r=c/2^k%2:=by
 match j with
 | 0=>simp[idleN]at h;exact .inl ⟨rfl,h.1.symm,h.2.symm⟩
 | 1=>simp[idleN]at h;exact .inr (.inl ⟨rfl,h.1.symm,h.2.symm⟩)
 | k+2=>
  have hk:=(l'b.1 h).1;rw[idle_len]at hk;have hk2:k<m:=by omega
  simp[idleN,hk2]at h;exact .inr (.inr ⟨k,hk2,by omega,h.1.symm,h.2.symm⟩)
theorem idle_w (hi:1<=i): CkW (idleN i m c):=by
 refine⟨?_,?_,?_⟩
 ·intro k g l h
  cases k with
  | zero=>
   simp[idleN]at h;obtain⟨rfl,rfl⟩:=h;rw[idle_len];simp only[idleN];omega
  | succ k=>simp[idleN]at h
 ·intro j x r h;rw[idle_nv];rcases idle_la h with ⟨-,rfl,rfl⟩|⟨-,rfl,rfl⟩|⟨k,hk,-,rfl,rfl⟩
  ·omega
  ·omega
  ·have:=Nat.mod_lt (c/2^k) (show 0<2 by omega);omega
 ·rw[idle_nv];simp[idleN]
theorem idle_nx (hi:1<=i)(st inp:Nat): (nxt (idleN i m c) st inp).testBit 0=inp.testBit (i-1)∧(nxt (idleN i m c) st inp).testBit 1=st.testBit 0:=by
 obtain⟨-,v2,v3⟩:=val_ok (idle_w (m:=m) (c:=c) hi) st inp;have a:=v2 (i-1) (by simp only[idleN];omega);have b:=v3 0 (by rw[idle_len];omega);unfold nxt;rw[numL_bit _ _ 0 (by rw[idle_len];omega),numL_bit _ _ 1 (by rw[idle_len];omega)];have e0:((idleN i m c).las.getD 0 (0,0)).1=2*i:=rfl;have e1:((idleN i m c).las.getD 1 (0,0)).1=2*(1+i):=rfl;rw[e0,e1,tr_even,tr_even];rw[show 1+(i-1)=i by omega]at a;exact⟨a,b⟩
theorem idle_bad (hi:1<=i)(st inp:Nat): badS (idleN i m c) st inp=(!st.testBit 1&&st.testBit 0):=by
 obtain⟨v1,-,v3⟩:=val_ok (idle_w (m:=m) (c:=c) hi) st inp;have a:=v3 0 (by rw[idle_len];omega);have b:=v3 1 (by rw[idle_len];omega);have g:=v1.2 0 (2*(2+i)+1) (2*(1+i)) rfl;rw[idle_len,tr_odd,tr_even]at g;unfold badS;have e:(idleN i m c).bad=2*(3+i+m):=rfl;have en:(idleN i m c).ni=i:=rfl;rw[en]at a b g;rw[Nat.add_zero]at a g;rw[show 1+i+1=2+i by omega]at b;rw[show 1+i+(2+m)=3+i+m by omega]at g;rw[e,tr_even,g,a,b]
theorem idle_begin {st:Nat}(h:beginsP (idleN i m c) st=true): st.testBit 0=false∧st.testBit 1=false∧∀k,k<m->st/2^(2+k)%2=c/2^k%2:=by
 rw[begins_iff]at h;have h0:=h 0 (2*i) 0 rfl;have h1:=h 1 (2*(1+i)) 0 rfl;rw[div_bit]at h0 h1;refine⟨?_,?_,λk hk=>?_⟩
 ·cases hb:st.testBit 0 <;> simp[hb]at h0 ⊢
 ·cases hb:st.testBit 1 <;> simp[hb]at h1 ⊢
 ·have h2:=h (2+k) (2*(3+i+k)+1) (c/2^k%2) (by rw[Nat.add_comm 2 k];simp[idleN,hk]);have:=Nat.mod_lt (c/2^k) (show 0<2 by omega);omega
theorem idle_uns (hi:1<=i){st:Nat}{ins:List Nat}(h:UnsN (idleN i m c) st ins): st%4=0∧2<=ins.length∧(∀k,k<m->st/2^(2+k)%2=c/2^k%2)∧ins.getD (ins.length-2) 0/2^(i-1)%2=1:=by
 obtain⟨u1,u2,u3,u4⟩:=h;obtain⟨b0,b1,b2⟩:=idle_begin u3;rw[idle_bad hi]at u4;have hd0:=div_bit st 0;have hd1:=div_bit st 1;rw[b0]at hd0;rw[b1]at hd1;simp at hd0 hd1;obtain⟨n,hn⟩:∃n,ins.length=n+1:=⟨ins.length-1,by omega⟩;rw[hn,Nat.add_sub_cancel]at u4
 cases n with
 | zero=>simp[stAt,b0]at u4
 | succ n=>
  simp only[stAt,l'k]at u4;rw[(idle_nx hi _ _).1]at u4;refine⟨by omega,by omega,b2,?_⟩;rw[hn,show n+1+1-2=n by omega,div_bit,u4.2];rfl
theorem idle_unsf (hi:1<=i): ¬SafeN (idleN i m c):=by
 rintro⟨S,s1,s2,s3⟩;obtain⟨st,h1,h2⟩:=init_ex (idle_w (m:=m) (c:=c) hi);obtain⟨b0,b1,-⟩:=idle_begin h2;have h3:=s2 st (2^(i-1)) h1 (s1 st h1 h2);have h4:=s3 _ 0 (nxt_lt _ _ _) h3;rw[idle_bad hi,(idle_nx hi _ _).1,(idle_nx hi _ _).2,b0,Nat.testBit_two_pow]at h4;simp at h4
end Go.Ta
namespace Go.Proofs.YtimdkminagnhgabGreatDoor
open Go.Vm Go.Proofs Go.Ta
theorem andI_one (x:Int): intA .and .i64 x 1=some (.int .i64 (x%2)):=by
 have h2:intA .and .i64 x 1=some (.int .i64 (IntKind.i64.wrap ((BitVec.ofInt 64 x &&& BitVec.ofInt 64 1).toNat:Int))):=rfl;rw[h2,BitVec.toNat_and,BitVec.toNat_ofInt,show (BitVec.ofInt 64 (1:Int)).toNat=1 by decide,Nat.and_one_is_mod,wrap_id (by omega) (by omega)];congr 2;omega
theorem andI_three (x:Int): intA .and .i64 x 3=some (.int .i64 (x%4)):=by
 have h2:intA .and .i64 x 3=some (.int .i64 (IntKind.i64.wrap ((BitVec.ofInt 64 x &&& BitVec.ofInt 64 3).toNat:Int))):=rfl;have h3:∀n:Nat,n &&& 3=n%4:=λn=>Nat.and_two_pow_sub_one_eq_mod n 2;rw[h2,BitVec.toNat_and,BitVec.toNat_ofInt,show (BitVec.ofInt 64 (3:Int)).toNat=3 by decide,h3,wrap_id (by omega) (by omega)];congr 2;omega
theorem shr_int (x:Int)(j:Nat)(hj:j<=60): shiftA .shr .i64 x (j:Int)=some (.int .i64 (x/2^j)):=by
 have h1:shiftA .shr .i64 x (j:Int)=if (j:Int)<0 then none else some (.int .i64 (x.fdiv (2^(min ((j:Int).toNat) 64)))):=rfl
 rw[h1,if_neg (by omega),Int.toNat_natCast,Nat.min_eq_left (by omega)];have h2:((2:Int)^j)=((2^j:Nat):Int):=by simp
 rw[h2,Int.fdiv_eq_ediv_of_nonneg _ (Int.natCast_nonneg _)]
theorem cbit (x:Int){m j:Nat}(hj:j<m): x/2^j%2=(((x%2^m).toNat/2^j%2:Nat):Int):=by
 obtain⟨d,rfl⟩:∃d,m=j+(d+1):=⟨m-j-1,by omega⟩;have hp:(0:Int)<2^j:=Int.pow_pos (by decide);have h0:0<=x%2^(j+(d+1)):=Int.emod_nonneg _ (by have:=Int.pow_pos (n:=2) (m:=j+(d+1)) (by decide);omega);rw[Int.natCast_emod,Int.natCast_ediv,Int.toNat_of_nonneg h0];simp only[Int.natCast_pow,Int.cast_ofNat_Int];have h1:=Int.emod_add_mul_ediv x (2^(j+(d+1)));generalize x%2^(j+(d+1))=r at *;generalize x/2^(j+(d+1))=k at *;subst h1;rw[Int.pow_add,Int.mul_assoc,Int.add_mul_ediv_left _ _ (by omega),Int.pow_succ,Int.mul_comm (2^d) 2,Int.mul_assoc,Int.add_mul_emod_self_left]
section
variable {H:Type}{O:HI H}{ro:Nat}{c:CallT H}{w w':Own}{h h':H}{p:Nat}{X:Nt}{vg vn vr:Value}
theorem NT.setN (L:O.Law)(x:NT O ro w h p X vg vn vr){o:Nat}(ho:o<X.next.length)(z:Nat): ∃b q g,O.cell h p 3=some (.slice (some ⟨b,0,some 1⟩) X.next.length q)∧¬b<ro∧putsA O h b o [ni z]=some g∧NT O ro w g p { X with next:=X.next.set o z } vg vn vr:=by
 obtain⟨b,q,e,hq,y⟩:=x.sn.blk (by omega) X.next.length (by simp) (by omega)
 have hl:o<(X.next.map ni).length:=by simpa using ho
 have c2:=Ch.put L (K:=λu=>u=((17,2):Tag)) y o hl (ni z) rfl;have y2:=y.put L o hl (ni z);rw[<-List.map_set]at y2;obtain⟨v0,hv0⟩:∃v0,(X.next.map ni)[o]?=some v0:=⟨_,l'c hl⟩;have m3:=x.m.get 3 _ rfl;refine⟨b,q,_,by rw[<-e];exact m3,by have:=y.lo;omega,puts_one (y.get o v0 hv0),x.m.ch L c2 (by simp),x.sg.ch L c2 (by simp),?_,x.sr.ch L c2 (by simp),l'G x.lo c2.nx⟩;rw[e];exact .inr ⟨b,X.next.length,q,rfl,hq,by simp,y2⟩
theorem NT.setR (L:O.Law)(x:NT O ro w h p X vg vn vr){o:Nat}(ho:o<X.reset.length)(z:Nat): ∃b q g,O.cell h p 4=some (.slice (some ⟨b,0,some 1⟩) X.reset.length q)∧¬b<ro∧putsA O h b o [ni z]=some g∧NT O ro w g p { X with reset:=X.reset.set o z } vg vn vr:=by
 obtain⟨b,q,e,hq,y⟩:=x.sr.blk (by omega) X.reset.length (by simp) (by omega);have hl:o<(X.reset.map ni).length:=by simpa using ho
 have c2:=Ch.put L (K:=λu=>u=((17,3):Tag)) y o hl (ni z) rfl;have y2:=y.put L o hl (ni z);rw[<-List.map_set]at y2;obtain⟨v0,hv0⟩:∃v0,(X.reset.map ni)[o]?=some v0:=⟨_,l'c hl⟩;have m3:=x.m.get 4 _ rfl;refine⟨b,q,_,by rw[<-e];exact m3,by have:=y.lo;omega,puts_one (y.get o v0 hv0),x.m.ch L c2 (by simp),x.sg.ch L c2 (by simp),x.sn.ch L c2 (by simp),?_,l'G x.lo c2.nx⟩;rw[e];exact .inr ⟨b,X.reset.length,q,rfl,hq,by simp,y2⟩
theorem NT.setB (L:O.Law)(x:NT O ro w h p X vg vn vr)(z:Nat): ∃g,¬p<ro∧putsA O h p 5 [ni z]=some g∧NT O ro w g p { X with bad:=z } vg vn vr:=by
 have c5:=Ch.put L (K:=λu=>u=((17,0):Tag)) x.m 5 (by simp) (ni z) rfl;exact⟨_,by have:=x.m.lo;omega,puts_one (x.m.get 5 _ rfl),x.m.put L 5 (by simp) (ni z),x.sg.ch L c5 (by simp),x.sn.ch L c5 (by simp),x.sr.ch L c5 (by simp),l'G x.lo c5.nx⟩
end
end Go.Proofs.YtimdkminagnhgabGreatDoor
namespace Go.Proofs.YtimdkminagnhgabGreatDoor
open Go.Vm Go.Proofs Go.Ta
set_option maxHeartbeats 4000000
section
variable {H:Type}{O:HI H}{ro:Nat}{c:CallT H}
attribute [local simp] cSeq cReg reg to too onlyIf onlyIfo aMove mv' nl' fl' ld' ln' mk' ia' ik' ix' aNil aFld aLd aInt aPick aConv aUn unA ev upd_get isB envOf iA_add iA_sub iA_mul iA_eql iA_neq iA_lss iA_leq iA_gtr iA_geq cIf cRet cSkip okc_some aSt vc_int vc_bool vc_agg vc_str vc_ptr vc_sl ft_int ft_bool ft_str ft_ptr ft_sl tp_int tp_bool tp_agg tp_str tp_ptr tp_sl aBuild Instr.fill aCall cExit cBlk outOf ptr undef aNew aBox aIdxArr aLdN aShift aLenSl aIdx aMkSl aApp rangeA aExt aPtrNil aSlNil aBoolEq aMake aSliceSl boundA chk
variable {w w':Own}{h h':H}{q:Nat}
attribute [local simp] aStr strA aLenStr aB2S bytesA aAggEq intsA
def idF (i:Nat)(j:Nat): Nat:=2*(3+i+j)+1
def idB (cn:Nat)(j:Nat): Nat:=cn/2^j%2
def idX (i m cn k:Nat)(gs:List Nat)(bad:Nat): Nt:=⟨i,2+m,gs,row [2*i,2*(1+i)] (idF i) m k,row [0,0] (idB cn) m k,bad⟩
def idleX (i m cn:Nat): Nt:=idX i m cn m [2*(1+i),2*(2+i)+1] (2*(3+i+m))
def idleOne (i:Nat): Bool:=(List.range 5).all λm=>(List.range (2^m)).all λcn=>rdB (txS (idleX i m cn)) (idleN i m cn)
theorem idle_1: idleOne 1=true:=by kernel_rfl
theorem idle_2: idleOne 2=true:=by kernel_rfl
theorem idle_3: idleOne 3=true:=by kernel_rfl
theorem idle_4: idleOne 4=true:=by kernel_rfl
theorem idle_case {i m cn:Nat}(h1:1<=i)(h2:i<=4)(hm:m<=4)(hc:cn<2^m): rdS (txS (idleX i m cn)) = .ok (ckT (idleN i m cn)):=by
 have h:idleOne i=true:=by
  have:i=1∨i=2∨i=3∨i=4:=by omega
  rcases this with rfl|rfl|rfl|rfl
  ·exact idle_1
  ·exact idle_2
  ·exact idle_3
  ·exact idle_4
 unfold idleOne at h;rw[l'D]at h;have h4:=h m (by simp;omega);rw[l'D]at h4;exact rdB_eq (h4 cn (by simpa using hc))
theorem idB_lt (cn j:Nat): idB cn j<=1:=by have:=Nat.mod_lt (cn/2^j) (show 0<2 by omega);unfold idB;omega
theorem idle_s {i m cn:Nat}(h1:1<=i)(h2:i<=4)(hm:m<=4): CkS (idleN i m cn):=by
 have hmo:most=1000000:=rfl;refine⟨⟨by simp only[idleN];omega,by rw[idle_len];omega,by rw[idle_nv];omega,?_,?_,by simp only[idleN];omega⟩,idle_w h1,by rw[idle_nv];omega,?_,by rw[idle_len];omega⟩
 ·intro x hx;obtain⟨j,hj⟩:=l'i.1 hx;obtain⟨a,r⟩:=x;rcases idle_la hj with ⟨-,rfl,rfl⟩|⟨-,rfl,rfl⟩|⟨k,hk,-,rfl,rfl⟩
  ·simp only;omega
  ·simp only;omega
  ·have:=idB_lt cn k;unfold idB at this;simp only;omega
 ·intro x hx;simp[idleN]at hx;subst hx;simp only;omega
 ·rw[idle_nv];have:2^(4+i+m-1)<=2^11:=Nat.pow_le_pow_right (by omega) (by omega);omega
theorem idle_k {i m cn:Nat}(h1:1<=i)(h2:i<=4)(hm:m<=4): NtK (idleX i m cn):=by
 refine⟨h2,by simp only[idleX,idX];omega,by simp[idleX,idX,Nt.a],by simp only[idleX,idX,Nt.a,l'n,l'o];omega,?_,?_,?_,?_,?_,by simp only[idleX,idX];omega⟩
 ·simp only[idleX,idX];rw[row_len (l'H _)];rfl
 ·simp only[idleX,idX];rw[row_len (l'H _)];rfl
 ·intro y hy;simp[idleX,idX]at hy;omega
 ·intro y hy;simp only[idleX,idX,row_end]at hy;simp[idF]at hy;rcases hy with h|h|⟨k,hk,h⟩ <;> omega
 ·intro y hy;simp only[idleX,idX,row_end]at hy;simp at hy;rcases hy with h|⟨k,hk,h⟩
  ·omega
  ·have:=idB_lt cn k;omega
def IdI (O:HI H)(ro:Nat)(p i m cn:Nat)(cI:Int)(n:Nat)(t:Env)(g:H): Prop:=
 t 2 = .int .i64 cI∧t 7=ni m∧t 8=ni i∧t 9 = .pointer (some ⟨p,0,none⟩)∧t 11=ni (2*(1+i))∧∃k vg vn vr w1,t 12=ni k∧k+n=m∧NT O ro w1 g p (idX i m cn k [] 0) vg vn vr
def IdQ (O:HI H)(ro:Nat)(p i m cn:Nat)(cI:Int)(t:Env)(g:H): Prop:=
 t 2 = .int .i64 cI∧t 7=ni m∧t 8=ni i∧t 9 = .pointer (some ⟨p,0,none⟩)∧t 11=ni (2*(1+i))∧∃vg vn vr w1,NT O ro w1 g p (idX i m cn m [] 0) vg vn vr
theorem idle1_q (C:LP' O ro c)(L:O.Law){p i m cn n:Nat}{cI:Int}(hi:i<=4)(hm:m<=4)(hcn:cn=(cI%2^m).toNat){t:Env}{g:H}(I:IdI O ro p i m cn cI n t g):
  okE c (W10_0 O Tryz.prog ro) (t,g) (λe t' g'=>(e = .normal∧∃n',n'<n∧IdI O ro p i m cn cI n' t' g')∨(e≠.normal∧(outOf 0 e = .normal∧IdQ O ro p i m cn cI t' g'))):=by
 obtain⟨d2,d7,d8,d9,d11,k,vg,vn,vr,w1,d12,hkn,x⟩:=I
 cases n with
 | zero=>
  obtain rfl:k=m:=by omega
  refine f'f ?_;simp[W10_0,ZpW,d7,d12];exact⟨d2,d7,d8,d9,d11,vg,vn,vr,w1,x⟩
 | succ n=>
  have hk:k<m:=by omega
  have hk':(k:Int)<m:=by omega
  have e1:=latch_q C L x (by simp only[idX];omega) (j:=2+k) (by omega);rw[show 2*(1+(idX i m cn k [] 0).inn+(2+k))=2*(3+i+k) by simp only[idX];omega]at e1;obtain⟨z,hz⟩:∃z,z=2*(3+i+k):=⟨_,rfl⟩;rw[<-hz]at e1;have hx:=xor_one z (by omega);have hzx:z ^^^ 1=idF i k:=by rw[x1_eq,if_pos (by omega)];unfold idF;omega
  rw[hzx]at hx;have hnl:(idX i m cn k [] 0).next.length=2+m:=by simp only[idX];rw[row_len (by omega)];rfl
  have hrl:(idX i m cn k [] 0).reset.length=2+m:=by simp only[idX];rw[row_len (by omega)];rfl
  obtain⟨b1,q1,g1,m3,rb1,p1,x1⟩:=x.setN L (o:=2+k) (by rw[hnl];omega) (idF i k);obtain⟨b2,q2,g2,m4,rb2,p2,x2⟩:=x1.setR L (o:=2+k) (by show 2+k<(idX i m cn k [] 0).reset.length;rw[hrl];omega) (idB cn k);rw[hnl]at m3;have m4':O.cell g1 p 4=some (.slice (some ⟨b2,0,some 1⟩) ((2+m:Nat):Nat) q2):=by rw[<-hrl];exact m4
  have x3:NT O ro w1 g2 p (idX i m cn (k+1) [] 0) vg vn vr:=by
   have r1:=row_set (pre:=[2*i,2*(1+i)]) (f:=idF i) hk;have r2:=row_set (pre:=[0,0]) (f:=idB cn) hk;unfold idX;rw[<-r1,<-r2];exact x2
  have s1:=shr_int cI k (by omega);have hb:=cbit cI hk;rw[<-hcn]at hb;generalize cI/2^k=y at s1 hb;have a1:=andI_one y;rw[hb]at a1;have hB:cn/2^k%2=idB cn k:=rfl;rw[hB]at a1;have hwi:IntKind.i64.wrap ((k:Int)+1)=((k+1:Nat):Int):=by rw[wrap_id (by omega) (by omega)];omega
  have hwo:IntKind.i64.wrap (2+(k:Int))=((2+k:Nat):Int):=by rw[wrap_id (by omega) (by omega)];omega
  obtain⟨o,ho⟩:∃o,o=2+k:=⟨_,rfl⟩;obtain⟨l2,hl2⟩:∃l2,l2=2+m:=⟨_,rfl⟩;obtain⟨k',hk2⟩:∃k',k'=k+1:=⟨_,rfl⟩;rw[<-ho]at e1 p1 p2 hwo;rw[<-hl2]at m3 m4';rw[<-hk2]at hwi x3;have ho1:o<l2:=by omega
  have ho2:(o:Int)<l2:=by omega
  generalize idF i k=zf at *;generalize idB cn k=zb at *;unfold ptr at e1;refine f'f ?_;simp[W10_0,ZpW,ZpX,ZpY,ZpZ,Zp0,d2,d7,d9,d12,hk,hk',hwo,hwi,e1,hx,m3,rb1,p1,m4',rb2,p2,s1,a1,ho1,ho2];exact⟨n,by omega,by simp[d2],by simp[d7],by simp[d8],by simp[d9],by simp[d11],k',vg,vn,vr,w1,by simp,by omega,x3⟩
def IeI (cI:Int)(st i m:Nat)(vI:Value)(h:H)(n:Nat)(t:Env)(g:H): Prop:=
 t 2 = .int .i64 cI∧t 7=ni m∧t 8=ni i∧t 16=vI∧t 17=ni st∧g=h∧∃k,t 19=ni k∧k+n=m
theorem idle2_q {m cn n st i:Nat}{cI:Int}{vI:Value}(hm:m<=4)(hcn:cn=(cI%2^m).toNat)(hst:∀k,k<m->st/2^(2+k)%2=cn/2^k%2){t:Env}{g:H}(I:IeI cI st i m vI h n t g):
  okE c (W10_1 O Tryz.prog ro) (t,g) (λe t' g'=>(e = .normal∧∃n',n'<n∧IeI cI st i m vI h n' t' g')∨(e≠.normal∧(outOf 2 e = .normal∧t' 8=ni i∧t' 16=vI∧g'=h))):=by
 obtain⟨d2,d7,d8,d16,d17,hg,k,d19,hkn⟩:=I
 cases n with
 | zero=>
  obtain rfl:k=m:=by omega
  refine f'f ?_;simp[W10_1,Zp8,d7,d19];exact⟨d8,d16,hg⟩
 | succ n=>
  have hk:k<m:=by omega
  have hk':(k:Int)<m:=by omega
  have s1:=shr_int cI k (by omega);have hb:=cbit cI hk;rw[<-hcn,<-hst k hk]at hb;generalize cI/2^k=y at s1 hb;have a1:=andI_one y;have s2:=shr_nat st (2+k) (by omega);have a2:=andI_one ((st/2^(2+k):Nat):Int);rw[hb,Int.natCast_emod]at a1;have hwi:IntKind.i64.wrap ((k:Int)+1)=((k+1:Nat):Int):=by rw[wrap_id (by omega) (by omega)];omega
  have hwo:IntKind.i64.wrap (2+(k:Int))=((2+k:Nat):Int):=by rw[wrap_id (by omega) (by omega)];omega
  obtain⟨k',hk2⟩:∃k',k'=k+1:=⟨_,rfl⟩;obtain⟨o,ho⟩:∃o,o=2+k:=⟨_,rfl⟩;rw[<-ho]at s2 a2 hwo a1;rw[<-hk2]at hwi;generalize st/2^o=u at s2 a2 a1;have h22:((2:Nat):Int)=2:=rfl;rw[h22]at a1;refine f'f ?_;simp[W10_1,Zp8,Zp9,Zqb,d2,d7,d17,d19,hk,hk',hwo,hwi,s1,s2,a1,a2];exact⟨n,by omega,by simp[d2],by simp[d7],by simp[d8],by simp[d16],by simp[d17],hg,k',by simp,by omega⟩
theorem idle_q (C:LP' O ro c)(L:O.Law)(lo:ro<=O.next h){a b d:Int}(ha:I64 a)(hb:I64 b)(hd:I64 d): ∃h',c 10 [.int .i64 a,.int .i64 b,.int .i64 d] h=some (.bool true,h'):=by
 obtain⟨m,hm,em⟩:=pick_q C a ha 5 (by omega);obtain⟨i0,hi0,ei⟩:=pick_q C b hb 4 (by omega);obtain⟨i,hi⟩:∃i,i=1+i0:=⟨_,rfl⟩;have h1:1<=i:=by omega
 have h2:i<=4:=by omega
 have hm4:m<=4:=by omega
 obtain⟨cn,hcn⟩:∃cn,cn=(d%2^m).toNat:=⟨_,rfl⟩;have hc:cn<2^m:=by
  have hp:(0:Int)<2^m:=Int.pow_pos (by decide);have:=Int.emod_lt_of_pos d hp;have h0:=Int.emod_nonneg d (show (2:Int)^m≠0 by omega);have h3:((2^m:Nat):Int)=2^m:=by simp
  omega
 obtain⟨w,-⟩:∃w:Own,True:=⟨λ_=>(0,0),trivial⟩;obtain⟨p,vg,vn,vr,h3,w1,e1,x1,-⟩:=blank_q (w:=w) C L lo (a:=i) (b:=2+m) (by omega);have hrd:=idle_case h1 h2 hm4 hc;have hS:=idle_s (cn:=cn) h1 h2 hm4;have key:∃u h',c 10 [.int .i64 a,.int .i64 b,.int .i64 d] h=some (u,h')∧u = .bool true:=by
  refine C.fn (F10_fn O ro) rfl rfl ?_;unfold F10;have wi:IntKind.i64.wrap (1+(i0:Int))=(i:Int):=by rw[wrap_id (by omega) (by omega)];omega
  have wm:IntKind.i64.wrap (2+(m:Int))=((2+m:Nat):Int):=by rw[wrap_id (by omega) (by omega)];omega
  have em':=em h;have ei':=ei h;have hni5:ni 5=Value.int .i64 5:=rfl;have hni4:ni 4=Value.int .i64 4:=rfl;rw[hni5]at em';rw[hni4]at ei';obtain⟨b1,q1,g1,n1,rb1,p1,x2⟩:=x1.setN L (o:=0) (by simp;omega) (2*i);obtain⟨b2,q2,g2,n2,rb2,p2,x3⟩:=x2.setN L (o:=1) (by simp;omega) (2*(1+i));have hl1:(List.replicate (2+m) 0).length=2+m:=by simp
  have n1':O.cell h3 p 3=some (.slice (some ⟨b1,0,some 1⟩) (2+m) q1):=by rw[n1];simp
  have n2':O.cell g1 p 3=some (.slice (some ⟨b2,0,some 1⟩) (2+m) q2):=by rw[n2];simp
  have x4:NT O ro w1 g2 p (idX i m cn 0 [] 0) vg vn vr:=by
   have r1:((List.replicate (2+m) 0).set 0 (2*i)).set 1 (2*(1+i))=row [2*i,2*(1+i)] (idF i) m 0:=by
    rw[Nat.add_comm,List.replicate_succ,List.replicate_succ];simp[row]
   have r2:List.replicate (2+m) 0=row [0,0] (idB cn) m 0:=by
    rw[Nat.add_comm,List.replicate_succ,List.replicate_succ];simp[row]
   unfold idX;rw[<-r1,<-r2];exact x3
  have ein:=input_q (O:=O) (h:=h3) (p:=p) C (j:=i-1) (by omega);rw[show 2*(1+(i-1))=2*i by omega]at ein;have wi1:IntKind.i64.wrap ((i:Int)-1)=((i-1:Nat):Int):=by rw[wrap_id (by omega) (by omega)];omega
  have ela:=latch_q C L x1 (by simp only;omega) (j:=0) (by omega);simp only[Nat.add_zero]at ela;obtain⟨i1,hi1⟩:∃i1,i1=i-1:=⟨_,rfl⟩;rw[<-hi1]at ein wi1;obtain⟨l2,hl2⟩:∃l2,l2=2+m:=⟨_,rfl⟩;rw[<-hl2]at e1 wm n1' n2';have ho1:0<l2:=by omega
  have ho2:(0:Int)<l2:=by omega
  have ho3:1<l2:=by omega
  have ho4:(1:Int)<l2:=by omega
  obtain⟨zi,hzi⟩:∃zi,zi=2*i:=⟨_,rfl⟩;obtain⟨zl,hzl⟩:∃zl,zl=2*(1+i):=⟨_,rfl⟩;rw[<-hzi]at ein p1;rw[<-hzl]at ela p2;have hni0:ni 0=Value.int .i64 0:=rfl;rw[hni0]at ela;unfold ptr at e1 ein ela;refine s'f ?_;simp[ZpN,thenE];refine s'f ?_;simp[ZpO,thenE,em'];refine s'f ?_;simp[ZpP,thenE,ei',wi];refine s'f ?_;simp[ZpQ,thenE,wm,e1];refine s'f ?_;simp[ZpR,thenE,wi1,ein];refine s'f ?_;simp[ZpS,thenE,ela];refine s'f ?_;simp[ZpT,thenE,n1',ho1,ho2,rb1,p1];refine s'f ?_;simp[ZpU,thenE,n2',ho3,ho4,rb2,p2];refine okE.seq (s'f ?_);simp[ZpV,thenE];refine okE.blk ?_;refine okE.mono (okE.loop (Q:=λe t' g'=>outOf 0 e = .normal∧IdQ O ro p i m cn d t' g') (IdI O ro p i m cn d) (λn t g I=>idle1_q C L h2 hm4 hcn I) m _ _ ⟨by simp,by simp,by simp,by simp,by simp[hzl],0,vg,vn,vr,w1,by simp,by omega,x4⟩) ?_;rintro e t g ⟨hr,d2,d7,d8,d9,d11,vg2,vn2,vr2,w2,x5⟩;rw[hr];simp only[thenE];have e2:=latch_q C L x5 (by simp only[idX];omega) (j:=1) (by omega);rw[show 2*(1+(idX i m cn m [] 0).inn+1)=2*(2+i) by simp only[idX];omega]at e2;obtain⟨zm,hzm⟩:∃zm,zm=2*(2+i):=⟨_,rfl⟩;rw[<-hzm]at e2;have hx:=xor_one zm (by omega);have hzx:zm ^^^ 1=2*(2+i)+1:=by rw[x1_eq,if_pos (by omega)];omega
  rw[hzx]at hx;obtain⟨vg4,g4,w4,e7,x6,-⟩:=and_q C L x5 (by simp only[idX];omega) (by simp only[idX];omega) (by simp[idX]) (2*(1+i)) (2*(2+i)+1);rw[show 2*((idX i m cn m [] 0).inn+(idX i m cn m [] 0).la+((idX i m cn m [] 0).gates.length+2)/2)=2*(3+i+m) by simp only[idX,l'o];omega]at e7;obtain⟨g5,rp,p5,x7⟩:=x6.setB L (2*(3+i+m));have x8:NT O ro w4 g5 p (idleX i m cn) vg4 vn2 vr2:=x7;obtain⟨g6,w6,e8,c6,lo6⟩:=text_q C L x8 (idle_k h1 h2 hm4);obtain⟨vI,init,ins,g7,w7,e9,u9,l9,s9,c9,lo9⟩:=unsf_law (w:=w6) C L lo6 hS hrd (idle_unsf h1);obtain⟨r1,r2,r3,r4⟩:=idle_uns h1 u9;obtain⟨tx,htx⟩:∃tx,tx=txS (idleX i m cn):=⟨_,rfl⟩;rw[<-htx]at e8 e9;obtain⟨zn,hzn⟩:∃zn,zn=2*(2+i)+1:=⟨_,rfl⟩;obtain⟨zb,hzb⟩:∃zb,zb=2*(3+i+m):=⟨_,rfl⟩;rw[<-hzn]at hx e7;rw[<-hzb]at e7 p5;rw[<-hzl]at e7 d11;have hni1:ni 1=Value.int .i64 1:=rfl;rw[hni1]at e2;unfold ptr at e2 e7 e8;obtain⟨n1,hn1⟩:∃n1,ins.length=n1+2:=⟨ins.length-2,by omega⟩;obtain⟨bI,cI,hvI,-,yI⟩:=s9.blk (by omega) (n1+2) (by simp[hn1]) (by omega);have a3:=andI_three ((init:Nat):Int);rw[show ((init:Nat):Int)%4=0 by omega]at a3;refine s'f ?_;simp[Zp1,thenE,d9,e2];refine s'f ?_;simp[Zp2,thenE,d9,d11,hx,e7,rp,p5];refine s'f ?_;simp[Zp3,thenE,d9,e8];refine s'f ?_;simp[Zp4,thenE,e9];have hlt:¬((n1:Int)+2<2):=by omega
  rw[hvI];refine s'f ?_;simp[Zp5,thenE,a3,hlt];refine okE.seq (s'f ?_);simp[Zp7,thenE];refine okE.blk ?_;refine okE.mono (okE.loop (Q:=λe t' g'=>outOf 2 e = .normal∧t' 8=ni i∧t' 16 = .slice (some ⟨bI,0,some 1⟩) (n1+2) cI∧g'=g7) (IeI d init i m (.slice (some ⟨bI,0,some 1⟩) (n1+2) cI) g7) (λn t g I=>idle2_q hm4 hcn r3 I) m _ _ ⟨by simp[d2],by simp[d7],by simp[d8],by simp,by simp,rfl,0,by simp,by omega⟩) ?_;rintro e t' g' ⟨hr2,f8,f16,rfl⟩;rw[hr2];simp only[thenE];rw[hn1,show n1+2-2=n1 by omega]at r4;obtain⟨av,hav⟩:∃av,ins[n1]?=some av:=⟨_,l'c (by omega)⟩;rw[l'r,hav,Option.getD_some,<-hi1]at r4;have hcell:=yI.get n1 (ni av) (by rw[List.getElem?_map,hav];rfl);have s3:=shr_nat av i1 (by omega);have a4:=andI_one ((av/2^i1:Nat):Int);rw[show ((av/2^i1:Nat):Int)%2=1 by omega]at a4;generalize av/2^i1=u at s3 a4;have wn:IntKind.i64.wrap ((n1:Int)+2-2)=(n1:Int):=by rw[wrap_id (by omega) (by omega)];omega
  have wn2:IntKind.i64.wrap (n1:Int)=(n1:Int):=wrap_id (by omega) (by omega);have hn2:n1<n1+2:=by omega
  have hn3:(n1:Int)<(n1:Int)+2:=by omega
  refine f'f ?_;simp[Zqc,f8,f16,wn,wn2,hn2,hn3,hcell,wi1,s3,a4,resE,resLE,rvE]
 obtain⟨u,h',e1,rfl⟩:=key;exact⟨h',e1⟩
end
end Go.Proofs.YtimdkminagnhgabGreatDoor
