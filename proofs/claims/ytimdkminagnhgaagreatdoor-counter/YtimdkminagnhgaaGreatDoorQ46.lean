import Derived.Test.YtimdkminagnhgaaGreatDoorQ45
set_option linter.all false
namespace Go.Proofs.YtimdkminagnhgaaGreatDoor
open Go.Vm Go.Proofs Go.Ta
set_option maxRecDepth 100000
def mks: List Nat:=[0,12297829382473034410,14757395258967641292,17361641481138401520,18374966859414961920,18446462603027742720,18446744069414584320]
def trM (vs:List Nat)(x:Nat): Nat:=if x%2=1 then 18446744073709551615 ^^^ vs.getD (x/2) 0 else vs.getD (x/2) 0
def T'S: List (Nat×Nat)->List Nat->List Nat
 | [],vs=>vs
 | (g, l) :: r, vs => fN (trM vs g &&& trM vs l) fun z => fL fN (vs ++ [z]) fun vs => T'S r vs
def bM (st:Nat)(vs:List Nat): List Bool:=vs.map (·.testBit st)
variable {st:Nat}
theorem O'e (h:st<64): (18446744073709551615:Nat).testBit st=true:=by
 have:=Nat.testBit_two_pow_sub_one 64 st;simpa [h]using this
theorem L'8 (h:st<64)(vs:List Nat)(x:Nat): (trM vs x).testBit st=trL (bM st vs) x:=by
 have e:(bM st vs).getD (x/2) false=(vs.getD (x/2) 0).testBit st:=by
  unfold bM;rw[l'r,l'r,List.getElem?_map]
  cases vs[x/2]? <;> simp
 unfold trM trL tr;simp only[e];rcases Nat.mod_two_eq_zero_or_one (x/1) with h2|h2 <;> rw[Nat.div_one]at h2
 ·simp[h2]
 ·simp[h2,Nat.testBit_xor,O'e h]
theorem O'f (h:st<64): ∀gs vs,bM st (T'S gs vs)=L'O gs (bM st vs):=by
 intro gs
 induction gs with
 | nil=>intro vs;rfl
 | cons a r ih=>
  intro vs;obtain⟨g,l⟩:=a;simp only[T'S,L'O,C'y,D'Z C'y,ih];congr 1;simp only[bM,List.map_append,l'J,l'K,Nat.testBit_and,L'8 h]
def mkB: Bool:=(List.range 7).all λla=>(List.range 64).all λst=>(bM st (mks.take (la+1)))==false :: (List.range la).map st.testBit
theorem T'T: mkB=true:=by kernel_rfl
theorem R'K {N:Ck}(h0:N.ni=0)(hl:N.las.length<=6)(h:st<64): F'u N st 0=bM st (mks.take (N.las.length+1)):=by
 have:=T'T;unfold mkB at this;rw[l'D]at this;have h1:=this N.las.length (by simp;omega);rw[l'D]at h1;rw[eq_of_beq (h1 st (by simpa using h))];unfold F'u;rw[h0];rfl
def U'C (la:Nat)(N:Ck): Bool:=Nat.beq N.ni 0&&Nat.beq N.las.length la&&Nat.ble N.nv 37&&N.las.all (λx=>Nat.blt (x.1/2) N.nv&&Nat.beq x.2 0)&&N.gts.zipIdx.all (λx=>Nat.blt (x.1.1/2) (1+la+x.2)&&Nat.blt (x.1.2/2) (1+la+x.2))&&Nat.blt (N.bad/2) N.nv
theorem T'U {la:Nat}{N:Ck}(hl:la<=6)(h:U'C la N=true): CkS N∧N.ni=0∧N.las.length=la∧∀x∈N.las,x.2=0:=by
 have hmo:most=1000000:=rfl;unfold U'C at h;simp only[l'k,l'D,Nat.beq_eq,Nat.ble_eq,Nat.blt_eq]at h;obtain⟨⟨⟨⟨⟨h1,h2⟩,h3⟩,h4⟩,h5⟩,h6⟩:=h;have g:∀(p a b:Nat),N.gts[p]?=some (a,b)->a/2<1+N.ni+N.las.length+p∧b/2<1+N.ni+N.las.length+p:=by
  intro p a b hp;rw[h1,h2];exact h5 ((a,b),p) (List.mk_mem_zipIdx_iff_getElem?.2 hp)
 have hnv:N.nv=1+N.ni+N.las.length+N.gts.length:=rfl;refine⟨⟨⟨by omega,by omega,by omega,λx hx=>?_,λx hx=>?_,by omega⟩,⟨g,λj x r hj=>?_,h6⟩,h3,by omega⟩,h1,h2,λx hx=>(h4 x hx).2⟩
 ·have:=h4 x hx;omega
 ·obtain⟨p,hp⟩:=l'i.1 hx;have:=(l'b.1 hp).1;have:=g p x.1 x.2 hp;omega
 ·have:=h4 _ (l'f hj);exact⟨this.1,l'G (Nat.le_of_eq this.2) (by omega)⟩
def T'4 (la s k:Nat)(N:Ck): Bool:=U'C la N&&fL fN (T'S N.gts (mks.take (la+1))) λvs=>(List.range (2^la)).all λst=>Nat.beq (Ta.numL (λj=>(trM vs (N.las.getD j (0,0)).1).testBit st) la) ((st+2^s)%2^la)&&((trM vs N.bad).testBit st==Nat.beq st k)
structure Cnt (la s k:Nat)(N:Ck):Prop where
 c:CkS N
 i:N.ni=0
 l:N.las.length=la
 z:∀x∈N.las,x.2=0
 n:∀st inp,st<2^la->nxt N st inp=(st+2^s)%2^la∧(L'S N st inp=true↔st=k)
theorem O'M {la s k:Nat}{N:Ck}(hl:la<=6)(h:T'4 la s k N=true): Cnt la s k N:=by
 unfold T'4 at h;rw[l'k,D'Z C'y,l'D]at h;obtain⟨a,b,c,d⟩:=T'U hl h.1;refine⟨a,b,c,d,λst inp hst=>?_⟩;have h1:=h.2 st (by simpa using hst);have h64:st<64:=Nat.lt_of_lt_of_le hst (Nat.pow_le_pow_right (by omega) hl:2^la<=2^6);rw[(V'O b st inp).1,(V'O b st inp).2];have e:∀x,tr (val N st 0) x=(trM (T'S N.gts (mks.take (la+1))) x).testBit st:=by
  intro x;rw[L'8 h64,O'f h64,<-c,<-R'K b (by omega) h64];rfl
 unfold nxt L'S;simp only[e,c];rw[l'k,Nat.beq_eq,beq_iff_eq]at h1;rw[h1.2,Nat.beq_eq];exact⟨h1.1,Iff.rfl⟩
def ckO (T:CkT): Ck:=⟨T.ni,T.las.map λx=>(x.1.toNat,x.2),T.gts.map λx=>(x.1.toNat,x.2.toNat),T.bad.toNat⟩
def fNN {β:Type}(x:Nat×Nat)(k:Nat×Nat->β): β:=fN x.1 λa=>fN x.2 λb=>k (a,b)
theorem O'N {β:Type}(x:Nat×Nat)(k:Nat×Nat->β): fNN x k=k x:=by unfold fNN;rw[C'y,C'y]
def cnQ (P:Ck->Bool)(s:ByteArray): Bool:=fS s λs=>(match rF s with | .ok T=>fL fNN (ckO T).las λa=>fL fNN (ckO T).gts λb=>fN (ckO T).bad λc=>(λN=>ckB T (ckT N)&&P N) ⟨T.ni,a,b,c⟩ | .error _=>false)&&U'x s
theorem O'O {P:Ck->Bool}{s:ByteArray}(h:cnQ P s=true): ∃N,P N=true∧rdS s = .ok (ckT N)∧Asc s:=by
 unfold cnQ at h;rw[U'z,U'w,l'k]at h;obtain⟨h1,h2⟩:=h;split at h1
 ·rename_i T hT
  rw[D'Z O'N,D'Z O'N,C'y,l'k]at h1;exact⟨_,h1.2,hT.trans (congrArg _ (T'E h1.1)),R'J h2⟩
 ·simp at h1
def ntB (X:Nt): Bool:=decide (X.inn<=4)&&decide (X.la<=6)&&decide (X.gates.length=2*X.a)&&decide (2*(1+X.inn+X.la+X.a)<=100)&&decide (X.next.length=X.la)&&decide (X.reset.length=X.la)&&X.gates.all (Nat.blt · 100)&&X.next.all (Nat.blt · 100)&&X.reset.all (Nat.blt · 100)&&Nat.blt X.bad 100
theorem O'P {X:Nt}(h:ntB X=true): NtK X:=by
 unfold ntB at h;simp only[l'k,l'D,l'M,Nat.blt_eq]at h;obtain⟨⟨⟨⟨⟨⟨⟨⟨⟨a,b⟩,c⟩,d⟩,e⟩,f⟩,g⟩,i⟩,j⟩,k⟩:=h;exact⟨a,b,c,d,e,f,g,i,j,k⟩
def cnC (la j:Nat): Nat:=if j=0 then 1 else 2*(la+4*j)
def cnG (la s j:Nat): List Nat:=(List.range j).flatMap λt=>[2*(1+(s+t)),cnC la t,2*(1+(s+t)) ^^^ 1,cnC la t ^^^ 1,2*(la+4*t+1) ^^^ 1,2*(la+4*t+2) ^^^ 1,2*(1+(s+t)),cnC la t]
def cnX (la s j bad:Nat): Nt:=⟨0,la,cnG la s j,row ((List.range s).map λj=>2*(1+j)) (λj=>2*(la+4*j+3)) (la-s) j,List.replicate la 0,bad⟩
def cnF (la s k:Nat): Nt:={ isX (cnX la s (la-s) 0) (4*(la-s)) k la with bad:=isV 0 la (4*(la-s)) la }
def H'n (la s:Nat): Bool:=(List.range (2^(la-s))).all λk=>ntB (cnF la s (2^s*k+s))&&cnQ (T'4 la s (2^s*k+s)) (txS (cnF la s (2^s*k+s)))
theorem U'D {la s k:Nat}(hl:la<=6)(h:H'n la s=true)(hk:k<2^(la-s)): NtK (cnF la s (2^s*k+s))∧∃N,Cnt la s (2^s*k+s) N∧rdS (txS (cnF la s (2^s*k+s))) = .ok (ckT N)∧Asc (txS (cnF la s (2^s*k+s))):=by
 unfold H'n at h;rw[l'D]at h;have h1:=h k (by simpa using hk);rw[l'k]at h1;obtain⟨N,a,b,c⟩:=O'O h1.2;exact⟨O'P h1.1,N,O'M hl a,b,c⟩
end Go.Proofs.YtimdkminagnhgaaGreatDoor
namespace Go.Proofs.YtimdkminagnhgaaGreatDoor
open Go.Vm Go.Proofs Go.Ta
section
variable {la s k st:Nat}{N:Ck}{ins:List Nat}
theorem Cnt.begins (x:Cnt la s k N)(hst:st<2^la): B'j N st=true↔st=0:=by
 rw[C'W];constructor
 ·intro h;refine F'n hst (Nat.two_pow_pos la) λj hj=>?_;obtain⟨y,hy⟩:∃y,N.las[j]?=some y:=⟨_,l'c (by rw[x.l];exact hj)⟩;have h1:=h j y.1 y.2 hy;rw[x.z y (l'f hy),E'f]at h1
  cases hb:st.testBit j
  ·simp
  ·simp[hb]at h1
 ·rintro rfl j a r hj;have:=x.z _ (l'f hj);simp only at this;simp[this]
theorem Cnt.at (x:Cnt la s k N)(ins:List Nat): ∀t,O'I N 0 ins t=t*2^s%2^la:=by
 intro t
 induction t with
 | zero=>simp[O'I]
 | succ t ih=>
  simp only[O'I];rw[ih,(x.n _ _ (Nat.mod_lt _ (Nat.two_pow_pos la))).1,Nat.mod_add_mod,Nat.succ_mul]
theorem Cnt.uns (x:Cnt la s k N)(h:R'R N st ins): st=0∧0<ins.length∧(ins.length-1)*2^s%2^la=k:=by
 obtain⟨u1,u2,u3,u4⟩:=h;rw[x.l]at u2;obtain rfl:=(x.begins u2).1 u3;rw[x.at]at u4;exact⟨rfl,u1,(x.n _ _ (Nat.mod_lt _ (Nat.two_pow_pos la))).2.1 u4⟩
theorem Cnt.hit (x:Cnt la 0 k N)(hk:k<2^la): ¬L'Y N:=by
 rintro⟨S,s1,s2,s3⟩;rw[x.l]at s1 s2 s3;have key:∀t,S (t%2^la):=by
  intro t
  induction t with
  | zero=>rw[Nat.zero_mod];exact s1 0 (Nat.two_pow_pos la) ((x.begins (Nat.two_pow_pos la)).2 rfl)
  | succ t ih=>
   have h1:=Nat.mod_lt t (Nat.two_pow_pos la);have:=s2 _ 0 h1 ih;rw[(x.n _ 0 h1).1,Nat.pow_zero,Nat.mod_add_mod]at this;exact this
 have h2:=key k;rw[Nat.mod_eq_of_lt hk]at h2;have:=s3 k 0 hk h2;rw[(x.n k 0 hk).2.2 rfl]at this;simp at this
end
section
variable {H:Type}{O:HI H}{ro:Nat}{c:A'Z H}{w:Own}{h:H}{p:Nat}{vg vn vr:Value}{la s j:Nat}
theorem I'V (la s j:Nat): cnG la s (j+1)=cnG la s j++[2*(1+(s+j)),cnC la j,2*(1+(s+j)) ^^^ 1,cnC la j ^^^ 1,2*(la+4*j+1) ^^^ 1,2*(la+4*j+2) ^^^ 1,2*(1+(s+j)),cnC la j]:=by
 unfold cnG;rw[l'B,List.flatMap_append];simp
theorem E'i (la s:Nat): ∀j,(cnG la s j).length=8*j:=by
 intro j
 induction j with
 | zero=>rfl
 | succ j ih=>rw[I'V,l'p,ih];simp;omega
theorem R'L (C:LP' O ro c)(L:O.Law)(hl:la<=6)(hj:s+j<la)(x:NT O ro w h p (cnX la s j 0) vg vn vr): ∃b q g1 g2 g3 vg' w',c 35 [ptr p,ni (s+j)] h=some (ni (2*(1+(s+j))),h)∧c 36 [ptr p,ni (2*(1+(s+j))),ni (cnC la j)] h=some (ni (2*(la+4*j+3)),g1)∧O.cell g1 p 3=some (.slice (some ⟨b,0,some 1⟩) la q)∧¬b<ro∧A'8 O g1 b (s+j) [ni (2*(la+4*j+3))]=some g2∧c 37 [ptr p,ni (2*(1+(s+j))),ni (cnC la j)] g2=some (ni (cnC la (j+1)),g3)∧NT O ro w' g3 p (cnX la s (j+1) 0) vg' vn vr:=by
 have hc:cnC la j<1000000:=by unfold cnC;split <;> omega
 have hi:(cnX la s j 0).inn=0:=rfl;have ha:(cnX la s j 0).la=la:=rfl;have hg:(cnX la s j 0).gates=cnG la s j:=rfl;have e1:=H'R C L x (by rw[hi];omega) (j:=s+j) (by omega);rw[hi]at e1;obtain⟨vg1,g1,w1,e2,x1⟩:=U'B C L x (by rw[hi];omega) (by rw[ha];omega) (by rw[hg,E'i];omega) (a:=2*(1+(s+j))) (b:=cnC la j) (by omega) hc;rw[hi,ha,hg,E'i,show 2*(0+la+(8*j+6)/2)=2*(la+4*j+3) by omega]at e2;have hnl:({ cnX la s j 0 with gates:=(cnX la s j 0).gates++L'7 (cnX la s j 0) (2*(1+(s+j))) (cnC la j) }:Nt).next.length=la:=by simp only[cnX];rw[R'E (by omega)];simp;omega
 obtain⟨b,q,g2,m3,rb,p2,x2⟩:=x1.setN L (o:=s+j) (by rw[hnl];omega) (2*(la+4*j+3));rw[hnl]at m3;obtain⟨vg3,g3,w3,e4,x4,-⟩:=L'j C L x2 (by show 0<=100;omega) (by show la<=100;omega) (by show (cnG la s j++L'7 (cnX la s j 0) _ _).length<=1000;rw[l'p,E'i];simp[L'7];omega) (2*(1+(s+j))) (cnC la j);have hz:2*(0+la+((cnG la s j++L'7 (cnX la s j 0) (2*(1+(s+j))) (cnC la j)).length+2)/2)=cnC la (j+1):=by
  rw[l'p,E'i];simp only[L'7,cnC,l'n,l'o];rw[if_neg (by omega)];omega
 refine⟨b,q,g1,g2,g3,vg3,w3,e1,e2,m3,rb,p2,by rw[<-hz];exact e4,?_⟩;have r1:=R'F (pre:=(List.range s).map λj=>2*(1+j)) (f:=λj=>2*(la+4*j+3)) (m:=la-s) (k:=j) (by omega);rw[List.length_map,List.length_range]at r1;have hgs:cnG la s j++L'7 (cnX la s j 0) (2*(1+(s+j))) (cnC la j)++[2*(1+(s+j)),cnC la j]=cnG la s (j+1):=by
  rw[I'V];simp only[L'7,hi,ha,hg,E'i,List.append_assoc,List.cons_append,List.nil_append];rw[show 2*(0+la+(8*j+2)/2)=2*(la+4*j+1) by omega,show 2*(0+la+(8*j+4)/2)=2*(la+4*j+2) by omega]
 unfold cnX;rw[<-r1,<-hgs];exact x4
end
end Go.Proofs.YtimdkminagnhgaaGreatDoor
namespace Go.Proofs.YtimdkminagnhgaaGreatDoor
open Go.Vm Go.Proofs Go.Ta
set_option maxRecDepth 100000
theorem U'E: H'n 1 0=true:=by kernel_rfl
theorem U'F: H'n 2 0=true:=by kernel_rfl
theorem U'G: H'n 3 0=true:=by kernel_rfl
theorem U'H: H'n 4 0=true:=by kernel_rfl
theorem U'I: H'n 5 0=true:=by kernel_rfl
def R'T (i:Nat): Bool:=(List.range 16).all λk=>fN (16*i+k) λk=>ntB (cnF 6 0 k)&&cnQ (T'4 6 0 k) (txS (cnF 6 0 k))
theorem U'J: R'T 0=true:=by kernel_rfl
theorem U'K: R'T 1=true:=by kernel_rfl
theorem U'L: R'T 2=true:=by kernel_rfl
theorem U'M: R'T 3=true:=by kernel_rfl
theorem cnp {i k:Nat}(h:R'T i=true)(hk:k/16=i): NtK (cnF 6 0 k)∧∃N,Cnt 6 0 k N∧rdS (txS (cnF 6 0 k)) = .ok (ckT N)∧Asc (txS (cnF 6 0 k)):=by
 unfold R'T at h;rw[l'D]at h;have h1:=h (k%16) (List.mem_range.2 (Nat.mod_lt _ (by decide)));rw[C'y,show 16*i+k%16=k by omega,l'k]at h1;obtain⟨N,a,b,c⟩:=O'O h1.2;exact⟨O'P h1.1,N,O'M (l'H 6) a,b,c⟩
theorem O'g {la k:Nat}(h0:1<=la)(hl:la<=6)(hk:k<2^la): NtK (cnF la 0 k)∧∃N,Cnt la 0 k N∧rdS (txS (cnF la 0 k)) = .ok (ckT N)∧Asc (txS (cnF la 0 k)):=by
 have key:H'n la 0=true->NtK (cnF la 0 k)∧∃N,Cnt la 0 k N∧rdS (txS (cnF la 0 k)) = .ok (ckT N)∧Asc (txS (cnF la 0 k)):=λh=>by
  have:=U'D hl h (k:=k) hk;rw[show 2^0*k+0=k by omega]at this;exact this
 rcases (show la=1∨la=2∨la=3∨la=4∨la=5∨la=6 by omega) with rfl|rfl|rfl|rfl|rfl|rfl
 ·exact key U'E
 ·exact key U'F
 ·exact key U'G
 ·exact key U'H
 ·exact key U'I
 ·rcases (show k/16=0∨k/16=1∨k/16=2∨k/16=3 by omega) with h|h|h|h
  ·exact cnp U'J h
  ·exact cnp U'K h
  ·exact cnp U'L h
  ·exact cnp U'M h
end Go.Proofs.YtimdkminagnhgaaGreatDoor
namespace Go.Proofs.YtimdkminagnhgaaGreatDoor
open Go.Vm Go.Proofs Go.Ta
set_option maxHeartbeats 4000000
section
variable {H:Type}{O:HI H}{ro:Nat}{c:A'Z H}
attribute [local simp] A'a A'b reg to too A'd A'q A'h mv' nl' fl' ld' ln' mk' ia' ik' ix' B'F B'G aLd B'h A'w A'4 aUn unA ev A'l isB A'0 A'E A'F A'G A'H A'I A'J A'K A'L A'M cIf A'B A'f A'g aSt A'N A't A'O A'P A'Q A'9 A'R A'u A'S A'T B'a A'U A'v A'V A'W A'X B'b A'p Instr.fill A'e A'n A'x A'j ptr undef B'o B'y A'k B's A's A'D B'C A'y B'p rangeA B'O A'r A'2 A'z B'd A'm A'o chk
variable {w w':Own}{h h':H}{p:Nat}
def CoI (O:HI H)(ro:Nat)(p la k:Nat)(n:Nat)(t:Env)(g:H): Prop:=
 t 5=ni la∧t 6=ni k∧t 7 = .pointer (some ⟨p,0,none⟩)∧∃j vg vn vr w1,t 8=ni (cnC la j)∧t 9=ni j∧j+n=la∧NT O ro w1 g p (cnX la 0 j 0) vg vn vr
def CoQ (O:HI H)(ro:Nat)(p la k:Nat)(t:Env)(g:H): Prop:=
 t 5=ni la∧t 6=ni k∧t 7 = .pointer (some ⟨p,0,none⟩)∧∃vg vn vr w1,NT O ro w1 g p (cnX la 0 la 0) vg vn vr
theorem O'h (C:LP' O ro c)(L:O.Law){la k n:Nat}(hl:la<=6){t:Env}{g:H}(I:CoI O ro p la k n t g):
  okE c (N'G O Tryz.prog ro) (t,g) (λe t' g'=>(e = .normal∧∃n',n'<n∧CoI O ro p la k n' t' g')∨(e≠.normal∧(A'j 0 e = .normal∧CoQ O ro p la k t' g'))):=by
 obtain⟨d5,d6,d7,j,vg,vn,vr,w1,d8,d9,hjn,x⟩:=I
 cases n with
 | zero=>
  obtain rfl:j=la:=by omega
  refine f'f ?_;simp[N'G,Zpo,d5,d9];exact⟨by simp[d5],by simp[d6],by simp[d7],vg,vn,vr,w1,x⟩
 | succ n=>
  have hj:j<la:=by omega
  have hj':(j:Int)<la:=by omega
  obtain⟨b,q,g1,g2,g3,vg',w2,e1,e2,m3,rb,p2,e4,x4⟩:=R'L C L hl (by omega) x;rw[l'F]at e1 e2 p2 e4;have hwi:=w'1 j;obtain⟨j',hj2⟩:=e' (j+1);rw[<-hj2]at hwi e4 x4;generalize cnC la j=va at *;generalize hva:cnC la j'=vb at e4;generalize 2*(la+4*j+3)=zz at *;generalize 2*(1+j)=zl at *;unfold ptr at e1 e2 e4;refine f'f ?_;simp[N'G,Zpo,Zpp,Zpq,Zpr,Zps,Zpt,d5,d7,d8,d9,hj,hj',e1,e2,m3,rb,p2,e4,hwi];exact⟨n,by omega,by simp[d5],by simp[d6],by simp[d7],j',vg',vn,vr,w2,by simp[hva],by simp,by omega,x4⟩
def CpI (vI:Value)(ln:Nat)(h:H)(n:Nat)(t:Env)(g:H): Prop:=
 t 13=vI∧g=h∧∃j,t 16=ni j∧j+n=ln
theorem O'i {n ln bI cI:Nat}{ins:List Nat}{w:Own}(hln:ins.length=ln)(hl2:ln<=1000)(yI:Bx O ro w h (6,1) bI (ins.map ni))(hi:∀x∈ins,x=0){t:Env}{g:H}(I:CpI (.slice (some ⟨bI,0,some 1⟩) ln cI) ln h n t g):
  okE c (N'H O Tryz.prog ro) (t,g) (λe t' g'=>(e = .normal∧∃n',n'<n∧CpI (.slice (some ⟨bI,0,some 1⟩) ln cI) ln h n' t' g')∨(e≠.normal∧(A'j 2 e = .normal∧g'=h))):=by
 obtain⟨d13,hg,j,d16,hjn⟩:=I;subst hg
 cases n with
 | zero=>
  obtain rfl:j=ln:=by omega
  refine f'f ?_;simp[N'H,ZpA,d13,d16]
 | succ n=>
  have hj:j<ln:=by omega
  have hj':(j:Int)<ln:=by omega
  obtain⟨av,hav⟩:∃av,ins[j]?=some av:=⟨_,l'c (by omega)⟩;obtain rfl:=hi av (l'f hav);have hcell:=yI.get j (ni 0) (by rw[List.getElem?_map,hav];rfl);have hni0:ni 0=Value.int .i64 0:=rfl;rw[hni0]at hcell;have hwi:=w'1 j;obtain⟨j',hj2⟩:=e' (j+1);rw[<-hj2]at hwi;refine f'f ?_;simp[N'H,ZpA,ZpB,ZpD,d13,d16,hj,hj',hcell,hwi];exact⟨n,by omega,by simp[d13],rfl,j',by simp,by omega⟩
theorem R'M (m n:Nat)(hn:0<n): C'k .rem .i64 (m:Int) (n:Int)=some (ni (m%n)):=by
 have hb:¬(n:Int)=0:=by omega
 unfold ni;simp only[C'k,if_neg hb,Int.ofNat_tmod]
theorem L'9 (C:LP' O ro c)(L:O.Law)(lo:ro<=O.next h){a b:Int}(ha:I64 a)(hb:I64 b): ∃h',c 18 [.int .i64 a,.int .i64 b] h=some (.bool true,h'):=by
 obtain⟨k6,hk6,e5⟩:=O'J C a ha 6 (by omega);obtain⟨la,hla⟩:=e' (1+k6);have h0:1<=la:=by omega
 have hl:la<=6:=by omega
 obtain⟨s1,s2⟩:=K'7 la (by omega);obtain⟨k,hk,e6⟩:=O'J C b hb (2^la) (Nat.two_pow_pos la);obtain⟨hnt,N,xN,hrd,hasc⟩:=O'g h0 hl hk;obtain⟨w,-⟩:∃w:Own,True:=⟨λ_=>(0,0),trivial⟩;obtain⟨p,vg,vn,vr,h1,w1,e1,x1,-⟩:=R'l (w:=w) C L lo (a:=0) (b:=la) (by omega);have x3:NT O ro w1 h1 p (cnX la 0 0 0) vg vn vr:=by
  have r:∀f,row ((List.range 0).map λj=>2*(1+j)) f (la-0) 0=List.replicate la 0:=λf=>by simp[row]
  unfold cnX;rw[r];exact x1
 have key:∃u h',c 18 [.int .i64 a,.int .i64 b] h=some (u,h')∧u = .bool true:=by
  refine C.fn (T'h O ro) rfl rfl ?_;unfold F18;have wl:IntKind.i64.wrap (1+(k6:Int))=(la:Int):=w'i;have e5':=e5 h;have e6':=e6 h;have hp6:2^la<=2^6:=Nat.pow_le_pow_right (by omega) hl;have hit:=xN.hit hk;have huns:∀{st ins},R'R N st ins->st=0∧0<ins.length∧(ins.length-1)%2^la=k:=λh=>by
   have:=xN.uns h;rw[Nat.pow_zero,Nat.mul_one]at this;exact this
  have hrem:∀m:Nat,C'k .rem .i64 (m:Int) ((2^la:Nat):Int)=some (ni (m%2^la)):=λm=>R'M m _ (Nat.two_pow_pos la);generalize 2^la=pl at *;have hkb:k<1000000:=by omega
  have hni6:ni 6=Value.int .i64 6:=rfl;rw[hni6]at e5';have hni0:ni 0=Value.int .i64 0:=rfl;rw[hni0]at e1;unfold ptr at e1;refine s'f ?_;simp[Zpi,A'c];refine s'f ?_;simp[Zpj,A'c,e5',wl];refine s'f ?_;simp[Zpk,A'c,s1,e6'];refine s'f ?_;simp[Zpl,A'c,e1];refine s'f ?_;simp[Zpm,A'c];refine okE.seq (s'f ?_);simp[Zpn,A'c];refine okE.blk ?_;refine okE.mono (okE.loop (Q:=λe t' g'=>A'j 0 e = .normal∧CoQ O ro p la k t' g') (CoI O ro p la k) (λn t g I=>O'h C L hl I) la _ _ ⟨by simp,by simp,by simp,0,vg,vn,vr,w1,by simp[cnC],by simp,by omega,x3⟩) ?_;rintro e t g ⟨hr,d5,d6,d7,vg4,vn4,vr4,w4,x4⟩;rw[hr];simp only[A'c];obtain⟨vg5,g5,w5,e7,x5⟩:=W'd C L (g0:=4*la) (kk:=k) x4 (Nat.zero_le _) (by show la<=60;omega) (by show (cnG la 0 la).length = _;rw[E'i];omega) (by omega) hkb;obtain⟨g6,rp6,p6,x6⟩:=x5.setB L (isV 0 la (4*la) la);obtain⟨g7,w7,e8,c7,lo7⟩:=T'v C L x6 hnt;obtain⟨vI,init,ins,g8,w8,e9,u8,⟨l8,z8⟩,s8,c8,lo8⟩:=O'd (w:=w7) C L lo7 xN.c hrd hasc hit;obtain⟨r1,r2,r3⟩:=huns u8;subst r1;have hz:∀x∈ins,x=0:=λx hx=>by
   have:=z8 x hx;rw[xN.i]at this;omega
  obtain⟨ln,hln⟩:∃ln,ins.length=ln:=⟨_,rfl⟩;rw[hln]at r2 r3 l8;obtain⟨bI,cI,hvI,-,yI⟩:=s8.blk (by omega) ln (by simp[hln]) (by omega);rw[hvI]at e9;have e7':c 38 [ptr p,ni k] g=some (ni (isV 0 la (4*la) la),g5):=e7;have e8':c 39 [ptr p] g6=some (.string (txS (cnF la 0 k)),g7):=e8;generalize txS (cnF la 0 k)=tx at e8' e9;generalize isV 0 la (4*la) la=zb at e7' p6;obtain⟨l1,hl1⟩:=e' (ln-1);have w1':IntKind.i64.wrap ((ln:Int)-1)=(l1:Int):=w'i;have hrm:=hrem l1;rw[hl1,r3,<-hl1]at hrm;have hln0:¬ln=0:=by omega
  have hln1:¬(ln:Int)=0:=by omega
  rw[hni0]at e9;unfold ptr at e7' e8';refine s'f ?_;simp[Zpu,A'c,d6,d7,e7',rp6,p6];refine s'f ?_;simp[Zpv,A'c,d7,e8'];refine s'f ?_;simp[Zpw,A'c,e9];refine okE.seq (s'f ?_);simp[Zpx,A'c,d5,d6,hln0,hln1,w1',s1,hrm];refine okE.cond false (by simp) ?_;simp only[l'y,if_false];refine f'f ?_;simp only[A'f,A'g,A'c];refine okE.seq (s'f ?_);simp[Zpz,A'c];refine okE.blk ?_;refine okE.mono (okE.loop (Q:=λe t' g'=>A'j 2 e = .normal∧g'=g8) (CpI (.slice (some ⟨bI,0,some 1⟩) ln cI) ln g8) (λn t g I=>O'i hln l8 yI hz I) ln _ _ ⟨by simp,rfl,0,by simp,by omega⟩) ?_;rintro e t' g' ⟨hr2,rfl⟩;rw[hr2];simp only[A'c];refine f'f ?_;simp[ZpE,A'1,A'i,rvE]
 obtain⟨u,h',e1,rfl⟩:=key;exact⟨h',e1⟩
end
end Go.Proofs.YtimdkminagnhgaaGreatDoor
