import Derived.Test.YtimdkminagnhgaaGreatDoorQ45
set_option linter.all false
namespace Go.Proofs.YtimdkminagnhgaaGreatDoor
open Go.Vm Go.Proofs Go.Ta
set_option maxRecDepth 100000
def mks: List Nat:=[0,12297829382473034410,14757395258967641292,17361641481138401520,18374966859414961920,18446462603027742720,18446744069414584320]
def trM (vs:List Nat)(x:Nat): Nat:=if x%2=1 then 18446744073709551615 ^^^ vs.getD (x/2) 0 else vs.getD (x/2) 0
def T'K: List (Nat×Nat)->List Nat->List Nat
 | [],vs=>vs
 | (g, l) :: r, vs => fN (trM vs g &&& trM vs l) fun z => fL fN (vs ++ [z]) fun vs => T'K r vs
def bM (st:Nat)(vs:List Nat): List Bool:=vs.map (·.testBit st)
variable {st:Nat}
theorem O'a (h:st<64): (18446744073709551615:Nat).testBit st=true:=by
 have:=Nat.testBit_two_pow_sub_one 64 st;simpa [h]using this
theorem L'7 (h:st<64)(vs:List Nat)(x:Nat): (trM vs x).testBit st=trL (bM st vs) x:=by
 have e:(bM st vs).getD (x/2) false=(vs.getD (x/2) 0).testBit st:=by
  unfold bM;rw[l'r,l'r,List.getElem?_map]
  cases vs[x/2]? <;> simp
 unfold trM trL tr;simp only[e];rcases Nat.mod_two_eq_zero_or_one (x/1) with h2|h2 <;> rw[Nat.div_one]at h2
 ·simp[h2]
 ·simp[h2,Nat.testBit_xor,O'a h]
theorem O'b (h:st<64): ∀gs vs,bM st (T'K gs vs)=L'O gs (bM st vs):=by
 intro gs
 induction gs with
 | nil=>intro vs;rfl
 | cons a r ih=>
  intro vs;obtain⟨g,l⟩:=a;simp only[T'K,L'O,C'H,D'Z C'H,ih];congr 1;simp only[bM,List.map_append,l'J,l'K,Nat.testBit_and,L'7 h]
def mkB: Bool:=(List.range 7).all λla=>(List.range 64).all λst=>(bM st (mks.take (la+1)))==false :: (List.range la).map st.testBit
theorem T'L: mkB=true:=by kernel_rfl
theorem R'D {N:Ck}(h0:N.ni=0)(hl:N.las.length<=6)(h:st<64): F't N st 0=bM st (mks.take (N.las.length+1)):=by
 have:=T'L;unfold mkB at this;rw[l'D]at this;have h1:=this N.las.length (by simp;omega);rw[l'D]at h1;rw[eq_of_beq (h1 st (by simpa using h))];unfold F't;rw[h0];rfl
def U'w (la:Nat)(N:Ck): Bool:=Nat.beq N.ni 0&&Nat.beq N.las.length la&&Nat.ble N.nv 37&&N.las.all (λx=>Nat.blt (x.1/2) N.nv&&Nat.beq x.2 0)&&N.gts.zipIdx.all (λx=>Nat.blt (x.1.1/2) (1+la+x.2)&&Nat.blt (x.1.2/2) (1+la+x.2))&&Nat.blt (N.bad/2) N.nv
theorem T'M {la:Nat}{N:Ck}(hl:la<=6)(h:U'w la N=true): CkS N∧N.ni=0∧N.las.length=la∧∀x∈N.las,x.2=0:=by
 have hmo:most=1000000:=rfl;unfold U'w at h;simp only[l'k,l'D,Nat.beq_eq,Nat.ble_eq,Nat.blt_eq]at h;obtain⟨⟨⟨⟨⟨h1,h2⟩,h3⟩,h4⟩,h5⟩,h6⟩:=h;have g:∀(p a b:Nat),N.gts[p]?=some (a,b)->a/2<1+N.ni+N.las.length+p∧b/2<1+N.ni+N.las.length+p:=by
  intro p a b hp;rw[h1,h2];exact h5 ((a,b),p) (List.mk_mem_zipIdx_iff_getElem?.2 hp)
 have hnv:N.nv=1+N.ni+N.las.length+N.gts.length:=rfl;refine⟨⟨⟨by omega,by omega,by omega,λx hx=>?_,λx hx=>?_,by omega⟩,⟨g,λj x r hj=>?_,h6⟩,h3,by omega⟩,h1,h2,λx hx=>(h4 x hx).2⟩
 ·have:=h4 x hx;omega
 ·obtain⟨p,hp⟩:=l'i.1 hx;have:=(l'b.1 hp).1;have:=g p x.1 x.2 hp;omega
 ·have:=h4 _ (l'f hj);exact⟨this.1,l'G (Nat.le_of_eq this.2) (by omega)⟩
def U'x (la s k:Nat)(N:Ck): Bool:=U'w la N&&fL fN (T'K N.gts (mks.take (la+1))) λvs=>(List.range (2^la)).all λst=>Nat.beq (Ta.numL (λj=>(trM vs (N.las.getD j (0,0)).1).testBit st) la) ((st+2^s)%2^la)&&((trM vs N.bad).testBit st==Nat.beq st k)
structure Cnt (la s k:Nat)(N:Ck):Prop where
 c:CkS N
 i:N.ni=0
 l:N.las.length=la
 z:∀x∈N.las,x.2=0
 n:∀st inp,st<2^la->nxt N st inp=(st+2^s)%2^la∧(L'S N st inp=true↔st=k)
theorem T'N {la s k:Nat}{N:Ck}(hl:la<=6)(h:U'x la s k N=true): Cnt la s k N:=by
 unfold U'x at h;rw[l'k,D'Z C'H,l'D]at h;obtain⟨a,b,c,d⟩:=T'M hl h.1;refine⟨a,b,c,d,λst inp hst=>?_⟩;have h1:=h.2 st (by simpa using hst);have h64:st<64:=Nat.lt_of_lt_of_le hst (Nat.pow_le_pow_right (by omega) hl:2^la<=2^6);rw[(V'G b st inp).1,(V'G b st inp).2];have e:∀x,tr (val N st 0) x=(trM (T'K N.gts (mks.take (la+1))) x).testBit st:=by
  intro x;rw[L'7 h64,O'b h64,<-c,<-R'D b (by omega) h64];rfl
 unfold nxt L'S;simp only[e,c];rw[l'k,Nat.beq_eq,beq_iff_eq]at h1;rw[h1.2,Nat.beq_eq];exact⟨h1.1,Iff.rfl⟩
def ckO (T:CkT): Ck:=⟨T.ni,T.las.map λx=>(x.1.toNat,x.2),T.gts.map λx=>(x.1.toNat,x.2.toNat),T.bad.toNat⟩
def fNN {β:Type}(x:Nat×Nat)(k:Nat×Nat->β): β:=fN x.1 λa=>fN x.2 λb=>k (a,b)
theorem O'H {β:Type}(x:Nat×Nat)(k:Nat×Nat->β): fNN x k=k x:=by unfold fNN;rw[C'H,C'H]
def cnQ (P:Ck->Bool)(s:ByteArray): Bool:=fS s λs=>(match rF s with | .ok T=>fL fNN (ckO T).las λa=>fL fNN (ckO T).gts λb=>fN (ckO T).bad λc=>(λN=>ckB T (ckT N)&&P N) ⟨T.ni,a,b,c⟩ | .error _=>false)&&U'r s
theorem T'O {P:Ck->Bool}{s:ByteArray}(h:cnQ P s=true): ∃N,P N=true∧rdS s = .ok (ckT N)∧Asc s:=by
 unfold cnQ at h;rw[U't,U'q,l'k]at h;obtain⟨h1,h2⟩:=h;split at h1
 ·rename_i T hT
  rw[D'Z O'H,D'Z O'H,C'H,l'k]at h1;exact⟨_,h1.2,hT.trans (congrArg _ (T'w h1.1)),R'C h2⟩
 ·simp at h1
def ntB (X:Nt): Bool:=decide (X.inn<=4)&&decide (X.la<=6)&&decide (X.gates.length=2*X.a)&&decide (2*(1+X.inn+X.la+X.a)<=100)&&decide (X.next.length=X.la)&&decide (X.reset.length=X.la)&&X.gates.all (Nat.blt · 100)&&X.next.all (Nat.blt · 100)&&X.reset.all (Nat.blt · 100)&&Nat.blt X.bad 100
theorem T'P {X:Nt}(h:ntB X=true): NtK X:=by
 unfold ntB at h;simp only[l'k,l'D,l'M,Nat.blt_eq]at h;obtain⟨⟨⟨⟨⟨⟨⟨⟨⟨a,b⟩,c⟩,d⟩,e⟩,f⟩,g⟩,i⟩,j⟩,k⟩:=h;exact⟨a,b,c,d,e,f,g,i,j,k⟩
def cnC (la j:Nat): Nat:=if j=0 then 1 else 2*(la+4*j)
def cnG (la s j:Nat): List Nat:=(List.range j).flatMap λt=>[2*(1+(s+t)),cnC la t,2*(1+(s+t)) ^^^ 1,cnC la t ^^^ 1,2*(la+4*t+1) ^^^ 1,2*(la+4*t+2) ^^^ 1,2*(1+(s+t)),cnC la t]
def cnX (la s j bad:Nat): Nt:=⟨0,la,cnG la s j,row ((List.range s).map λj=>2*(1+j)) (λj=>2*(la+4*j+3)) (la-s) j,List.replicate la 0,bad⟩
def cnF (la s k:Nat): Nt:={ isX (cnX la s (la-s) 0) (4*(la-s)) k la with bad:=isV 0 la (4*(la-s)) la }
def H'5 (la s:Nat): Bool:=(List.range (2^(la-s))).all λk=>ntB (cnF la s (2^s*k+s))&&cnQ (U'x la s (2^s*k+s)) (txS (cnF la s (2^s*k+s)))
theorem U'y {la s k:Nat}(hl:la<=6)(h:H'5 la s=true)(hk:k<2^(la-s)): NtK (cnF la s (2^s*k+s))∧∃N,Cnt la s (2^s*k+s) N∧rdS (txS (cnF la s (2^s*k+s))) = .ok (ckT N)∧Asc (txS (cnF la s (2^s*k+s))):=by
 unfold H'5 at h;rw[l'D]at h;have h1:=h k (by simpa using hk);rw[l'k]at h1;obtain⟨N,a,b,c⟩:=T'O h1.2;exact⟨T'P h1.1,N,T'N hl a,b,c⟩
end Go.Proofs.YtimdkminagnhgaaGreatDoor
namespace Go.Proofs.YtimdkminagnhgaaGreatDoor
open Go.Vm Go.Proofs Go.Ta
section
variable {la s k st:Nat}{N:Ck}{ins:List Nat}
theorem Cnt.begins (x:Cnt la s k N)(hst:st<2^la): B'j N st=true↔st=0:=by
 rw[C'W];constructor
 ·intro h;refine F'm hst (Nat.two_pow_pos la) λj hj=>?_;obtain⟨y,hy⟩:∃y,N.las[j]?=some y:=⟨_,l'c (by rw[x.l];exact hj)⟩;have h1:=h j y.1 y.2 hy;rw[x.z y (l'f hy),E'f]at h1
  cases hb:st.testBit j
  ·simp
  ·simp[hb]at h1
 ·rintro rfl j a r hj;have:=x.z _ (l'f hj);simp only at this;simp[this]
theorem Cnt.at (x:Cnt la s k N)(ins:List Nat): ∀t,O'D N 0 ins t=t*2^s%2^la:=by
 intro t
 induction t with
 | zero=>simp[O'D]
 | succ t ih=>
  simp only[O'D];rw[ih,(x.n _ _ (Nat.mod_lt _ (Nat.two_pow_pos la))).1,Nat.mod_add_mod,Nat.succ_mul]
theorem Cnt.uns (x:Cnt la s k N)(h:T'v N st ins): st=0∧0<ins.length∧(ins.length-1)*2^s%2^la=k:=by
 obtain⟨u1,u2,u3,u4⟩:=h;rw[x.l]at u2;obtain rfl:=(x.begins u2).1 u3;rw[x.at]at u4;exact⟨rfl,u1,(x.n _ _ (Nat.mod_lt _ (Nat.two_pow_pos la))).2.1 u4⟩
theorem Cnt.odd (x:Cnt la 1 (2^1*k+1) N)(h0:1<=la): ∀st ins,¬T'v N st ins:=by
 intro st ins h;obtain⟨-,-,h1⟩:=x.uns h;obtain⟨m,rfl⟩:∃m,la=m+1:=⟨la-1,by omega⟩;rw[Nat.pow_one,Nat.pow_succ,Nat.mul_mod_mul_right]at h1;omega
end
section
variable {H:Type}{O:HI H}{ro:Nat}{c:A'Z H}{w:Own}{h:H}{p:Nat}{vg vn vr:Value}{la s j:Nat}
theorem I'V (la s j:Nat): cnG la s (j+1)=cnG la s j++[2*(1+(s+j)),cnC la j,2*(1+(s+j)) ^^^ 1,cnC la j ^^^ 1,2*(la+4*j+1) ^^^ 1,2*(la+4*j+2) ^^^ 1,2*(1+(s+j)),cnC la j]:=by
 unfold cnG;rw[l'B,List.flatMap_append];simp
theorem E'i (la s:Nat): ∀j,(cnG la s j).length=8*j:=by
 intro j
 induction j with
 | zero=>rfl
 | succ j ih=>rw[I'V,l'p,ih];simp;omega
theorem R'E (C:LP' O ro c)(L:O.Law)(hl:la<=6)(hj:s+j<la)(x:NT O ro w h p (cnX la s j 0) vg vn vr): ∃b q g1 g2 g3 vg' w',c 35 [ptr p,ni (s+j)] h=some (ni (2*(1+(s+j))),h)∧c 36 [ptr p,ni (2*(1+(s+j))),ni (cnC la j)] h=some (ni (2*(la+4*j+3)),g1)∧O.cell g1 p 3=some (.slice (some ⟨b,0,some 1⟩) la q)∧¬b<ro∧A'8 O g1 b (s+j) [ni (2*(la+4*j+3))]=some g2∧c 37 [ptr p,ni (2*(1+(s+j))),ni (cnC la j)] g2=some (ni (cnC la (j+1)),g3)∧NT O ro w' g3 p (cnX la s (j+1) 0) vg' vn vr:=by
 have hc:cnC la j<1000000:=by unfold cnC;split <;> omega
 have hi:(cnX la s j 0).inn=0:=rfl;have ha:(cnX la s j 0).la=la:=rfl;have hg:(cnX la s j 0).gates=cnG la s j:=rfl;have e1:=G'h C L x (by rw[hi];omega) (j:=s+j) (by omega);rw[hi]at e1;obtain⟨vg1,g1,w1,e2,x1⟩:=U'v C L x (by rw[hi];omega) (by rw[ha];omega) (by rw[hg,E'i];omega) (a:=2*(1+(s+j))) (b:=cnC la j) (by omega) hc;rw[hi,ha,hg,E'i,show 2*(0+la+(8*j+6)/2)=2*(la+4*j+3) by omega]at e2;have hnl:({ cnX la s j 0 with gates:=(cnX la s j 0).gates++L'6 (cnX la s j 0) (2*(1+(s+j))) (cnC la j) }:Nt).next.length=la:=by simp only[cnX];rw[R'x (by omega)];simp;omega
 obtain⟨b,q,g2,m3,rb,p2,x2⟩:=x1.setN L (o:=s+j) (by rw[hnl];omega) (2*(la+4*j+3));rw[hnl]at m3;obtain⟨vg3,g3,w3,e4,x4,-⟩:=L'j C L x2 (by show 0<=100;omega) (by show la<=100;omega) (by show (cnG la s j++L'6 (cnX la s j 0) _ _).length<=1000;rw[l'p,E'i];simp[L'6];omega) (2*(1+(s+j))) (cnC la j);have hz:2*(0+la+((cnG la s j++L'6 (cnX la s j 0) (2*(1+(s+j))) (cnC la j)).length+2)/2)=cnC la (j+1):=by
  rw[l'p,E'i];simp only[L'6,cnC,l'n,l'o];rw[if_neg (by omega)];omega
 refine⟨b,q,g1,g2,g3,vg3,w3,e1,e2,m3,rb,p2,by rw[<-hz];exact e4,?_⟩;have r1:=R'y (pre:=(List.range s).map λj=>2*(1+j)) (f:=λj=>2*(la+4*j+3)) (m:=la-s) (k:=j) (by omega);rw[List.length_map,List.length_range]at r1;have hgs:cnG la s j++L'6 (cnX la s j 0) (2*(1+(s+j))) (cnC la j)++[2*(1+(s+j)),cnC la j]=cnG la s (j+1):=by
  rw[I'V];simp only[L'6,hi,ha,hg,E'i,List.append_assoc,List.cons_append,List.nil_append];rw[show 2*(0+la+(8*j+2)/2)=2*(la+4*j+1) by omega,show 2*(0+la+(8*j+4)/2)=2*(la+4*j+2) by omega]
 unfold cnX;rw[<-r1,<-hgs];exact x4
end
end Go.Proofs.YtimdkminagnhgaaGreatDoor
namespace Go.Proofs.YtimdkminagnhgaaGreatDoor
open Go.Vm Go.Proofs Go.Ta
set_option maxRecDepth 100000
theorem U'z: H'5 2 1=true:=by kernel_rfl
theorem U'A: H'5 3 1=true:=by kernel_rfl
theorem U'B: H'5 4 1=true:=by kernel_rfl
theorem U'C: H'5 5 1=true:=by kernel_rfl
theorem U'D: H'5 6 1=true:=by kernel_rfl
theorem O'c {la k:Nat}(h0:2<=la)(hl:la<=6)(hk:k<2^(la-1)): NtK (cnF la 1 (2^1*k+1))∧∃N,Cnt la 1 (2^1*k+1) N∧rdS (txS (cnF la 1 (2^1*k+1))) = .ok (ckT N)∧Asc (txS (cnF la 1 (2^1*k+1))):=by
 refine U'y hl ?_ hk;rcases (show la=2∨la=3∨la=4∨la=5∨la=6 by omega) with rfl|rfl|rfl|rfl|rfl
 ·exact U'z
 ·exact U'A
 ·exact U'B
 ·exact U'C
 ·exact U'D
end Go.Proofs.YtimdkminagnhgaaGreatDoor
namespace Go.Proofs.YtimdkminagnhgaaGreatDoor
open Go.Vm Go.Proofs Go.Ta
set_option maxHeartbeats 4000000
section
variable {H:Type}{O:HI H}{ro:Nat}{c:A'Z H}
attribute [local simp] A'a A'b reg to too A'd A'q A'h mv' nl' fl' ld' ln' mk' ia' ik' ix' B'F B'G aLd B'h A'y A'4 aUn unA ev A'l isB A'0 A'E A'F A'G A'H A'I A'J A'K A'L A'M cIf A'B A'f A'g aSt A'N A't A'O A'P A'Q A'9 A'R A'u A'S A'T B'a A'U A'v A'V A'W A'X B'b A'p Instr.fill A'e A'n A'w A'j ptr undef B'o B'y A'k B'r A'r A'D B'C A'x B'p rangeA B'R A's A'2 A'z B'd A'm A'o chk
variable {w w':Own}{h h':H}{p:Nat}
def EvI (O:HI H)(ro:Nat)(p la k:Nat)(n:Nat)(t:Env)(g:H): Prop:=
 t 5=ni la∧t 6=ni k∧t 7 = .pointer (some ⟨p,0,none⟩)∧∃j vg vn vr w1,t 8=ni (cnC la j)∧t 9=ni (1+j)∧1+j+n=la∧NT O ro w1 g p (cnX la 1 j 0) vg vn vr
def EvQ (O:HI H)(ro:Nat)(p la k:Nat)(t:Env)(g:H): Prop:=
 t 6=ni k∧t 7 = .pointer (some ⟨p,0,none⟩)∧∃vg vn vr w1,NT O ro w1 g p (cnX la 1 (la-1) 0) vg vn vr
theorem R'F (C:LP' O ro c)(L:O.Law){la k n:Nat}(hl:la<=6){t:Env}{g:H}(I:EvI O ro p la k n t g):
  okE c (N'D O Tryz.prog ro) (t,g) (λe t' g'=>(e = .normal∧∃n',n'<n∧EvI O ro p la k n' t' g')∨(e≠.normal∧(A'j 0 e = .normal∧EvQ O ro p la k t' g'))):=by
 obtain⟨d5,d6,d7,j,vg,vn,vr,w1,d8,d9,hjn,x⟩:=I;obtain⟨i,hi⟩:=e' (1+j);rw[<-hi]at d9
 cases n with
 | zero=>
  obtain rfl:i=la:=by omega
  refine f'f ?_;simp[N'D,Zpp,d5,d9];exact⟨d6,d7,vg,vn,vr,w1,by rw[hi,Nat.add_sub_cancel_left,<-hi];exact x⟩
 | succ n=>
  have hj:i<la:=by omega
  have hj':(i:Int)<la:=by omega
  obtain⟨b,q,g1,g2,g3,vg',w2,e1,e2,m3,rb,p2,e4,x4⟩:=R'E C L hl (by omega) x;rw[<-hi]at e1 e2 p2 e4;have hwi:=w'1 i;obtain⟨i',hi2⟩:=e' (i+1);rw[<-hi2]at hwi;generalize cnC la j=va at *;generalize hva:cnC la (j+1)=vb at e4;generalize 2*(la+4*j+3)=zz at *;generalize 2*(1+i)=zl at *;unfold ptr at e1 e2 e4;refine f'f ?_;simp[N'D,Zpp,Zpq,Zpr,Zps,Zpt,Zpu,d5,d7,d8,d9,hj,hj',e1,e2,m3,rb,p2,e4,hwi];exact⟨n,by omega,by simp[d5],by simp[d6],by simp[d7],j+1,vg',vn,vr,w2,by simp[hva],by simp[hi2,hi];omega,by omega,x4⟩
theorem T'Q (C:LP' O ro c)(L:O.Law)(lo:ro<=O.next h){a b:Int}(ha:I64 a)(hb:I64 b): ∃h',c 19 [.int .i64 a,.int .i64 b] h=some (.bool true,h'):=by
 obtain⟨k5,hk5,e5⟩:=O'E C a ha 5 (by omega);obtain⟨la,hla⟩:=e' (2+k5);have h0:2<=la:=by omega
 have hl:la<=6:=by omega
 obtain⟨s1,s2⟩:=K'7 la (by omega);obtain⟨k0,hk0,e6⟩:=O'E C b hb (2^la) (Nat.two_pow_pos la);have o1:=(O'r k0 1 (by omega) (by omega)).1;obtain⟨k,hk⟩:=e' (k0/2);have hor:k0 ||| 1=2^1*k+1:=by
  rw[hk];refine Nat.eq_of_testBit_eq λi=>?_
  cases i with
  | zero=>simp
  | succ i=>rw[Nat.testBit_or,show 2^1*(k0/2)+1=2*(k0/2)+1 from rfl,Nat.testBit_succ,Nat.testBit_succ,Nat.testBit_succ];simp;congr 1;omega
 rw[hor]at o1;have hk2:k<2^(la-1):=by
  have:2^la=2^(la-1)*2:=by rw[<-Nat.pow_succ];congr 1;omega
  omega
 obtain⟨hnt,N,xN,hrd,hasc⟩:=O'c h0 hl hk2;obtain⟨w,-⟩:∃w:Own,True:=⟨λ_=>(0,0),trivial⟩;obtain⟨p,vg,vn,vr,h1,w1,e1,x1,-⟩:=R'd (w:=w) C L lo (a:=0) (b:=la) (by omega);have e2:c 35 [ptr p,ni 0] h1=some (.int .i64 2,h1):=G'h C L x1 (Nat.zero_le _) (j:=0) (by omega);obtain⟨bn,qn,g2,m3,rb,p2,x2⟩:=x1.setN L (o:=0) (by simp;omega) 2;simp only[List.length_replicate]at m3;have x3:NT O ro w1 g2 p (cnX la 1 0 0) vg vn vr:=by
  have r:row ((List.range 1).map λj=>2*(1+j)) (λj=>2*(la+4*j+3)) (la-1) 0=(List.replicate la 0).set 0 2:=by
   obtain⟨m,rfl⟩:∃m,la=m+1:=⟨la-1,by omega⟩;simp[row,List.replicate_succ]
  unfold cnX;rw[r];exact x2
 have key:∃u h',c 19 [.int .i64 a,.int .i64 b] h=some (u,h')∧u = .bool true:=by
  refine C.fn (S'9 O ro) rfl rfl ?_;unfold F19;have wl:IntKind.i64.wrap (2+(k5:Int))=(la:Int):=w'i;have e5':=e5 h;have e6':=e6 h;have hp6:2^la<=2^6:=Nat.pow_le_pow_right (by omega) hl;generalize 2^la=pl at *;generalize hkk:2^1*k+1=kk at *;have o2:C'n .or .i64 (k0:Int) 1=some (ni kk):=o1;have hkb:kk<1000000:=by omega
  have hni5:ni 5=Value.int .i64 5:=rfl;rw[hni5]at e5';have hni0:ni 0=Value.int .i64 0:=rfl;rw[hni0]at e1 e2;have hni2':ni 2=Value.int .i64 2:=rfl;rw[hni2']at p2;have hlp:0<la:=by omega
  have hlp':(0:Int)<la:=by omega
  unfold ptr at e1 e2;refine s'f ?_;simp[Zpi,A'c];refine s'f ?_;simp[Zpj,A'c,e5',wl];refine s'f ?_;simp[Zpk,A'c,s1,e6',o2];refine s'f ?_;simp[Zpl,A'c,e1];refine s'f ?_;simp[Zpm,A'c];refine s'f ?_;simp[Zpn,A'c,e2,m3,rb,p2,hlp,hlp'];refine okE.seq (s'f ?_);simp[Zpo,A'c];refine okE.blk ?_;refine okE.mono (okE.loop (Q:=λe t' g'=>A'j 0 e = .normal∧EvQ O ro p la kk t' g') (EvI O ro p la kk) (λn t g I=>R'F C L hl I) (la-1) _ _ ⟨by simp,by simp,by simp,0,vg,vn,vr,w1,by simp[cnC],by simp,by omega,x3⟩) ?_;rintro e t g ⟨hr,d6,d7,vg4,vn4,vr4,w4,x4⟩;rw[hr];simp only[A'c];obtain⟨vg5,g5,w5,e7,x5⟩:=V'5 C L (g0:=4*(la-1)) (kk:=kk) x4 (Nat.zero_le _) (by show la<=60;omega) (by show (cnG la 1 (la-1)).length = _;rw[E'i];omega) (by omega) hkb;obtain⟨g6,rp6,p6,x6⟩:=x5.setB L (isV 0 la (4*(la-1)) la);obtain⟨g7,w7,e8,c7,lo7⟩:=T'm C L x6 hnt;obtain⟨g8,e9⟩:=N'9 C L lo7 xN.c hrd hasc (by subst hkk;exact xN.odd (by omega));have e7':c 38 [ptr p,ni kk] g=some (ni (isV 0 la (4*(la-1)) la),g5):=e7;have e8':c 39 [ptr p] g6=some (.string (txS (cnF la 1 kk)),g7):=e8;generalize txS (cnF la 1 kk)=tx at e8' e9;generalize isV 0 la (4*(la-1)) la=zb at e7' p6;unfold ptr at e7' e8';refine s'f ?_;simp[Zpv,A'c,d6,d7,e7',rp6,p6];refine s'f ?_;simp[Zpw,A'c,d7,e8'];refine f'f ?_;simp[Zpx,e9,A'1,A'i,rvE]
 obtain⟨u,h',e1,rfl⟩:=key;exact⟨h',e1⟩
end
end Go.Proofs.YtimdkminagnhgaaGreatDoor
