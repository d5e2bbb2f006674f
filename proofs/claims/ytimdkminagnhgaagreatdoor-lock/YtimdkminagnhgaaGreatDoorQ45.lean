import Derived.Test.YtimdkminagnhgaaGreatDoorQ44
set_option linter.all false
namespace Go.Ta
def lkA (j:Nat): Nat:=if j=0 then 1 else 2*(1+j)
def lkB (k j:Nat): Nat:=2+(1-k/2^j%2)
def B'H (la k:Nat): Ck:=⟨1,(List.range la).map (λj=>(2*(1+2*la-j),0)),(List.range la).map (λp=>if la-1-p=0 then (lkB k 0,1) else (lkA (la-1-p),lkB k (la-1-p))),2*(1+la)⟩
variable {la k:Nat}
theorem B'E: (B'H la k).las.length=la:=by simp[B'H]
theorem G't: (B'H la k).nv=2+2*la:=by unfold Ck.nv;rw[B'E];simp[B'H];omega
theorem M'e {j x y:Nat}(h:(B'H la k).las[j]?=some (x,y)): j<la∧x=2*(1+2*la-j)∧y=0:=by
 have hj:=(l'b.1 h).1;rw[B'E]at hj;unfold B'H at h;simp only[List.getElem?_map,List.getElem?_range hj,l'l,l'a,l'd]at h;exact⟨hj,h.1.symm,h.2.symm⟩
theorem H's (k j:Nat): lkB k j<=3∧2<=lkB k j:=by unfold lkB;omega
theorem M'f {p x y:Nat}(h:(B'H la k).gts[p]?=some (x,y)): p<la∧((la-1-p=0∧x=lkB k 0∧y=1)∨(0<la-1-p∧x=2*(1+(la-1-p))∧y=lkB k (la-1-p))):=by
 have hp:=(l'b.1 h).1;have hl:(B'H la k).gts.length=la:=by simp[B'H]
 rw[hl]at hp;unfold B'H at h;simp only[List.getElem?_map,List.getElem?_range hp,l'l,l'a]at h;refine⟨hp,?_⟩
 by_cases e:la-1-p=0
 ·rw[if_pos e]at h;simp only[l'd]at h;exact .inl ⟨e,h.1.symm,h.2.symm⟩
 ·rw[if_neg e]at h;simp only[l'd,lkA,e,if_false]at h;exact .inr ⟨by omega,h.1.symm,h.2.symm⟩
theorem O'n {p:Nat}(hp:p<la): (B'H la k).gts[p]?=some (if la-1-p=0 then (lkB k 0,1) else (lkA (la-1-p),lkB k (la-1-p))):=by
 unfold B'H;simp only[List.getElem?_map,List.getElem?_range hp,l'l]
theorem I'Z (h0:1<=la): CkW (B'H la k):=by
 refine⟨?_,?_,?_⟩
 ·intro p g l h;rw[B'E];have hn:(B'H la k).ni=1:=rfl;rw[hn];rcases M'f h with ⟨h1,⟨h2,rfl,rfl⟩|⟨h2,rfl,rfl⟩⟩
  ·have:=H's k 0;omega
  ·have:=H's k (la-1-p);omega
 ·intro j x y h;rw[G't];obtain⟨h1,rfl,rfl⟩:=M'e h;omega
 ·rw[G't];simp only[B'H];omega
theorem O'o (h0:1<=la)(st inp:Nat){j:Nat}(hj:j<la): val (B'H la k) st inp (1+2*la-j)=((decide (j=0)||st.testBit (j-1))&&(inp.testBit 0==k.testBit j)):=by
 obtain⟨v1,v2,v3⟩:=H'j (I'Z (k:=k) h0) st inp;have hn:(B'H la k).ni=1:=rfl;rw[hn]at v2 v3;rw[B'E]at v3;have hg:=O'n (la:=la) (k:=k) (p:=la-1-j) (by omega);have hpj:la-1-(la-1-j)=j:=by omega
 rw[hpj]at hg;have hb:tr (val (B'H la k) st inp) (lkB k j)=(inp.testBit 0==k.testBit j):=by
  have h1:=T'W (val (B'H la k) st inp) 1 k j;have h2:=v2 0 (by omega);rw[Nat.add_zero]at h2;rw[h2]at h1;exact h1
 have hi:1+1+la+(la-1-j)=1+2*la-j:=by omega
 by_cases e:j=0
 ·subst e;rw[if_pos rfl]at hg;have g:=v1.2 (la-1-0) _ _ hg;rw[hn,B'E,hi,hb]at g;have h1:tr (val (B'H la k) st inp) 1=true:=by
   have:=O'R (val (B'H la k) st inp) 0;rw[v1.1]at this;exact this
  rw[g,h1];simp
 ·rw[if_neg e]at hg;have g:=v1.2 (la-1-j) _ _ hg;rw[hn,B'E,hi,hb]at g;have h1:tr (val (B'H la k) st inp) (lkA j)=st.testBit (j-1):=by
   have h2:=v3 (j-1) (by omega);unfold lkA;rw[if_neg e,D'T,show 1+j=1+1+(j-1) by omega];exact h2
  rw[g,h1];simp[e]
theorem M'g (h0:1<=la)(st inp:Nat){j:Nat}(hj:j<la): (nxt (B'H la k) st inp).testBit j=((decide (j=0)||st.testBit (j-1))&&(inp.testBit 0==k.testBit j)):=by
 unfold nxt;rw[C'f _ _ j (by rw[B'E];exact hj)];have hl:(B'H la k).las.getD j (0,0)=(2*(1+2*la-j),0):=by
  unfold B'H;rw[l'r];simp only[List.getElem?_map,List.getElem?_range hj,l'l,Option.getD_some]
 rw[hl,D'T,O'o h0 st inp hj]
theorem I'0 (h0:1<=la)(st inp:Nat): O'P (B'H la k) st inp=st.testBit (la-1):=by
 obtain⟨-,-,v3⟩:=H'j (I'Z (k:=k) h0) st inp;have hn:(B'H la k).ni=1:=rfl;have h1:=v3 (la-1) (by rw[B'E];omega);rw[hn,show 1+1+(la-1)=1+la by omega]at h1;unfold O'P;have e:(B'H la k).bad=2*(1+la):=rfl;rw[e,D'T,h1]
theorem J'P {st:Nat}(hst:st<2^la)(h:B'j (B'H la k) st=true): st=0:=by
 rw[C'Y]at h;refine F'n hst (Nat.pow_pos (by omega)) λj hj=>?_;have h1:=h j (2*(1+2*la-j)) 0 (by unfold B'H;simp only[List.getElem?_map,List.getElem?_range hj,l'l]);rw[C'J]at h1
 cases hb:st.testBit j
 ·simp
 ·simp[hb]at h1
theorem R'N (h0:1<=la)(ins:List Nat): ∀(t j:Nat),j<la->(O'Q (B'H la k) 0 ins t).testBit j=true->j<t∧∀i,i<=j->((ins.getD (t-1-j+i) 0).testBit 0==k.testBit i)=true:=by
 intro t
 induction t with
 | zero=>intro j hj h;simp[O'Q]at h
 | succ t ih=>
  intro j hj h;simp only[O'Q]at h;rw[M'g h0 _ _ hj,l'k,Bool.or_eq_true,l'M]at h;obtain⟨h1,h2⟩:=h
  by_cases e:j=0
  ·subst e;refine⟨by omega,λi hi=>?_⟩;obtain rfl:i=0:=by omega
   rw[show t+1-1-0+0=t by omega];exact h2
  ·obtain⟨g1,g2⟩:=ih (j-1) (by omega) (h1.resolve_left e);refine⟨by omega,λi hi=>?_⟩
   by_cases e2:i=j
   ·subst e2;rw[show t+1-1-i+i=t by omega];exact h2
   ·have:=g2 i (by omega);rw[show t-1-(j-1)+i=t+1-1-j+i by omega]at this;exact this
theorem O'p (h0:1<=la){st:Nat}{ins:List Nat}(h:T'E (B'H la k) st ins): st=0∧la<ins.length∧∀i,i<la->ins.getD (ins.length-1-la+i) 0%2=k/2^i%2:=by
 obtain⟨u1,u2,u3,u4⟩:=h;rw[B'E]at u2;have:=J'P u2 u3;subst this;rw[I'0 h0]at u4;obtain⟨g1,g2⟩:=R'N h0 ins (ins.length-1) (la-1) (by omega) u4;refine⟨rfl,by omega,λi hi=>?_⟩;have h1:=g2 i (by omega);rw[show ins.length-1-1-(la-1)+i=ins.length-1-la+i by omega]at h1;have h2:=C'J (ins.getD (ins.length-1-la+i) 0) 0;rw[Nat.pow_zero,Nat.div_one]at h2;rw[h2,C'J];have h3:(ins.getD (ins.length-1-la+i) 0).testBit 0=k.testBit i:=by simpa using h1
 rw[h3]
theorem M'h (h0:1<=la): ¬L'3 (B'H la k):=by
 rintro⟨S,s1,s2,s3⟩;have key:∀t,t<=la->∃st,st<2^la∧S st∧(t=0∨st.testBit (t-1)=true):=by
  intro t
  induction t with
  | zero=>
   intro _;obtain⟨st,h1,h2⟩:=L'4 (I'Z (k:=k) h0);rw[B'E]at h1;exact⟨st,h1,s1 st (by rw[B'E];exact h1) h2,.inl rfl⟩
  | succ t ih=>
   intro ht;obtain⟨st,h1,h2,h3⟩:=ih (by omega);have hlt:=L'X (B'H la k) st (k/2^t%2);rw[B'E]at hlt;refine⟨nxt (B'H la k) st (k/2^t%2),hlt,s2 st _ (by rw[B'E];exact h1) h2,.inr ?_⟩;rw[Nat.add_sub_cancel,M'g h0 _ _ (by omega)];have hb:(k/2^t%2).testBit 0=k.testBit t:=by
    rw[C'J]
    cases k.testBit t <;> simp
   rw[hb];rcases h3 with rfl|h3
   ·simp
   ·simp[h3]
 obtain⟨st,h1,h2,h3⟩:=key la (l'H _);have h4:=s3 st 0 (by rw[B'E];exact h1) h2;rw[I'0 h0]at h4;rcases h3 with h3|h3
 ·omega
 ·rw[h3]at h4;simp at h4
def lkG (k j:Nat): List Nat:=(List.range j).flatMap λt=>[lkA t,lkB k t]
theorem I'1 (k j:Nat): lkG k (j+1)=lkG k j++[lkA j,lkB k j]:=by
 unfold lkG;rw[l'B,List.flatMap_append];simp
theorem G'u (k:Nat): ∀j,(lkG k j).length=2*j:=by
 intro j
 induction j with
 | zero=>rfl
 | succ j ih=>rw[I'1,l'p,ih];simp;omega
end Go.Ta
namespace Go.Proofs.YtimdkminagnhgaaGreatDoor
open Go.Vm Go.Proofs Go.Ta
set_option maxRecDepth 100000
def lkX (la k j bad:Nat): Nt:=⟨1,la,lkG k j,row [] (λj=>2*(2+la+j)) la j,List.replicate la 0,bad⟩
def D'w (la:Nat): Bool:=(List.range (2^la)).all λk=>rdQ (txS (lkX la k la (2*(1+la)))) (B'H la k)
theorem T'X: D'w 1=true:=by kernel_rfl
theorem T'Y: D'w 2=true:=by kernel_rfl
theorem T'Z: D'w 3=true:=by kernel_rfl
theorem T'0: D'w 4=true:=by kernel_rfl
theorem T'1: D'w 5=true:=by kernel_rfl
theorem T'2: D'w 6=true:=by kernel_rfl
theorem M'i {la k:Nat}(h0:1<=la)(hl:la<=6)(hk:k<2^la): rdS (txS (lkX la k la (2*(1+la)))) = .ok (ckT (B'H la k))∧Asc (txS (lkX la k la (2*(1+la)))):=by
 have h:D'w la=true:=by
  rcases (show la=1∨la=2∨la=3∨la=4∨la=5∨la=6 by omega) with rfl|rfl|rfl|rfl|rfl|rfl
  ·exact T'X
  ·exact T'Y
  ·exact T'Z
  ·exact T'0
  ·exact T'1
  ·exact T'2
 unfold D'w at h;rw[l'D]at h;exact T'V (h k (by simpa using hk))
theorem T'3 {la k:Nat}(h0:1<=la)(hl:la<=6): CkS (B'H la k):=by
 have hmo:most=1000000:=rfl;refine⟨⟨by simp only[B'H];omega,by rw[B'E];omega,by rw[G't];omega,?_,?_,by simp only[B'H];omega⟩,I'Z h0,by rw[G't];omega,by rw[B'E];omega⟩
 ·intro x hx;obtain⟨j,hj⟩:=l'i.1 hx;obtain⟨a,b⟩:=x;obtain⟨h1,rfl,rfl⟩:=M'e hj;simp only;omega
 ·intro x hx;obtain⟨j,hj⟩:=l'i.1 hx;obtain⟨a,b⟩:=x;rcases M'f hj with ⟨h1,⟨h2,rfl,rfl⟩|⟨h2,rfl,rfl⟩⟩
  ·have:=H's k 0;simp only;omega
  ·have:=H's k (la-1-j);simp only;omega
theorem O'q {la k:Nat}(h0:1<=la)(hl:la<=6): NtK (lkX la k la (2*(1+la))):=by
 refine⟨by simp only[lkX];omega,hl,?_,?_,?_,by simp[lkX],?_,?_,?_,by simp only[lkX];omega⟩
 ·simp only[Nt.a,lkX,G'u];omega
 ·simp only[Nt.a,lkX,G'u];omega
 ·simp only[lkX];rw[L'6 (l'H _)];simp
 ·intro y hy;simp only[lkX,lkG,List.mem_flatMap,List.mem_range]at hy;obtain⟨t,ht,hy⟩:=hy;simp only[l'I,List.not_mem_nil,or_false]at hy;rcases hy with h|h
  ·unfold lkA at h;split at h <;> omega
  ·have:=H's k t;omega
 ·intro y hy;simp only[lkX,R'I]at hy;simp at hy;obtain⟨t,ht,rfl⟩:=hy;omega
 ·intro y hy;simp[lkX]at hy;omega
end Go.Proofs.YtimdkminagnhgaaGreatDoor
namespace Go.Proofs.YtimdkminagnhgaaGreatDoor
open Go.Vm Go.Proofs Go.Ta
set_option maxHeartbeats 4000000
section
variable {H:Type}{O:HI H}{ro:Nat}{c:A'Z H}
attribute [local simp] A'a A'b reg to too A'd A'q A'h mv' nl' fl' ld' ln' mk' ia' ik' ix' B'I B'J aLd B'h A'w A'4 aUn unA ev A'l isB A'0 A'E A'F A'G A'H A'I A'J A'K A'L A'M cIf A'B A'f A'g aSt A'N A't A'O A'P A'Q A'9 A'R A'u A'S A'T B'a A'U A'v A'V A'W A'X B'b A'p Instr.fill A'e A'n A'x A'j ptr undef B'p B'y A'k B'u A's A'D B'C A'y B'q rangeA B'T A'r A'3 A'z B'd A'm A'o chk
variable {w w':Own}{h h':H}{p:Nat}
attribute [local simp] D'h H'x A'7 J'd C'k D'n C'h
def LkI (O:HI H)(ro:Nat)(p la k:Nat)(b:Int)(n:Nat)(t:Env)(g:H): Prop:=
 t 1 = .int .i64 b∧t 5=ni la∧t 6 = .pointer (some ⟨p,0,none⟩)∧∃j vg vn vr w1,t 7=ni (lkA j)∧t 8=ni j∧j+n=la∧NT O ro w1 g p (lkX la k j 0) vg vn vr
def LkQ (O:HI H)(ro:Nat)(p la k:Nat)(b:Int)(t:Env)(g:H): Prop:=
 t 1 = .int .i64 b∧t 5=ni la∧t 6 = .pointer (some ⟨p,0,none⟩)∧∃vg vn vr w1,t 7=ni (lkA la)∧NT O ro w1 g p (lkX la k la 0) vg vn vr
theorem R'O (C:LP' O ro c)(L:O.Law){la k n:Nat}{b:Int}(hl:la<=6)(hk:k=(b%2^la).toNat){t:Env}{g:H}(I:LkI O ro p la k b n t g):
  okE c (N'P O Tryz.prog ro) (t,g) (λe t' g'=>(e = .normal∧∃n',n'<n∧LkI O ro p la k b n' t' g')∨(e≠.normal∧(A'j 0 e = .normal∧LkQ O ro p la k b t' g'))):=by
 obtain⟨d1,d5,d6,j,vg,vn,vr,w1,d7,d8,hjn,x⟩:=I
 cases n with
 | zero=>
  obtain rfl:j=la:=by omega
  refine f'f ?_;simp[N'P,Zpn,d5,d8];exact⟨d1,d5,d6,vg,vn,vr,w1,d7,x⟩
 | succ n=>
  have hj:j<la:=by omega
  have hj':(j:Int)<la:=by omega
  have ein:=L'q (O:=O) (h:=g) (p:=p) C (j:=0) (by omega);have hx1:=C'd 2 (by omega);have h23:2 ^^^ 1=3:=by decide
  rw[h23]at hx1;have s1:=L'7 b j (by omega);have hb:=V'L b hj;rw[<-hk]at hb;have hb2:=Nat.mod_lt (k/2^j) (show 0<2 by omega);have hx2:=H'T 3 (k/2^j%2) (by omega) (by omega);have hz2:3 ^^^ (k/2^j%2)=lkB k j:=by
   unfold lkB;rcases (show k/2^j%2=0∨k/2^j%2=1 by omega) with h|h <;> rw[h] <;> decide
  rw[hz2]at hx2;generalize b/2^j=y at s1 hb;have a1:=G'r y;rw[hb]at a1;obtain⟨vg2,g2,w2,e2,x2,-⟩:=U'C C L x (by simp[lkX]) (show la<=100 by omega) (by simp only[lkX,G'u];omega) (lkA j) (lkB k j);have hv:2*((lkX la k j 0).inn+(lkX la k j 0).la+((lkX la k j 0).gates.length+2)/2)=2*(2+la+j):=by simp only[lkX,G'u];omega
  rw[hv]at e2;have hnl:({ lkX la k j 0 with gates:=(lkX la k j 0).gates++[lkA j,lkB k j] }:Nt).next.length=la:=by simp only[lkX];rw[L'6 (by omega)];simp
  obtain⟨b3,q3,g3,m3,rb3,p3,x3⟩:=x2.setN L (o:=j) (by rw[hnl];exact hj) (2*(2+la+j));rw[hnl]at m3;have x4:NT O ro w2 g3 p (lkX la k (j+1) 0) vg2 vn vr:=by
   have r1:=R'H (pre:=[]) (f:=λj=>2*(2+la+j)) hj;rw[l'o,l'F]at r1;unfold lkX;rw[I'1,<-r1];exact x3
  have e5:=L'p C L x4 (by simp[lkX]) (j:=j) (by omega);rw[show 2*(1+(lkX la k (j+1) 0).inn+j)=lkA (j+1) by simp only[lkX,lkA];rw[if_neg (by omega)];omega]at e5;have hwi:=w'1 j;obtain⟨j',hj2⟩:=e' (j+1);rw[<-hj2]at hwi x4 e5;generalize lkA j=va at *;generalize hva:lkA j'=vb at e5;generalize lkB k j=vc at *;generalize k/2^j%2=kb at *;generalize 2*(2+la+j)=zz at *;have hni0:ni 0=Value.int .i64 0:=rfl;have hni2:ni (2*(1+0))=Value.int .i64 2:=rfl;rw[hni0,hni2]at ein;have hc2:((2:Nat):Int)=2:=rfl;have hc3:ni 3=Value.int .i64 3:=rfl;have hc3':((3:Nat):Int)=3:=rfl;rw[hc2,hc3]at hx1;rw[hc3']at hx2;unfold ptr at ein e2 e5;refine f'f ?_;simp[N'P,Zpn,Zpo,Zpp,Zpq,Zpr,Zps,d1,d5,d6,d7,d8,hj,hj',ein,hx1,s1,a1,hx2,e2,m3,rb3,p3,e5,hwi];exact⟨n,by omega,by simp[d1],by simp[d5],by simp[d6],j',vg2,vn,vr,w2,by simp[hva],by simp,by omega,x4⟩
def LmI (b:Int)(la:Nat)(vI:Value)(h:H)(n:Nat)(t:Env)(g:H): Prop:=
 t 1 = .int .i64 b∧t 5=ni la∧t 12=vI∧g=h∧∃j,t 15=ni j∧j+n=la
theorem R'P {la k n n1 bI cI:Nat}{b:Int}{ins:List Nat}{w:Own}(hl:la<=6)(hk:k=(b%2^la).toNat)(hn1:ins.length=n1+la+1)(hn2:n1<=1000)(yI:Bx O ro w h (6,1) bI (ins.map ni))(hi:∀i,i<la->ins.getD (n1+i) 0%2=k/2^i%2){t:Env}{g:H}(I:LmI b la (.slice (some ⟨bI,0,some 1⟩) (n1+la+1) cI) h n t g):
  okE c (N'Q O Tryz.prog ro) (t,g) (λe t' g'=>(e = .normal∧∃n',n'<n∧LmI b la (.slice (some ⟨bI,0,some 1⟩) (n1+la+1) cI) h n' t' g')∨(e≠.normal∧(A'j 2 e = .normal∧g'=h))):=by
 obtain⟨d1,d5,d12,hg,j,d15,hjn⟩:=I;subst hg
 cases n with
 | zero=>
  obtain rfl:j=la:=by omega
  refine f'f ?_;simp[N'Q,Zpz,d5,d15]
 | succ n=>
  have hj:j<la:=by omega
  have hj':(j:Int)<la:=by omega
  obtain⟨av,hav⟩:∃av,ins[n1+j]?=some av:=⟨_,l'c (by omega)⟩;have hbit:=hi j hj;rw[l'r,hav,Option.getD_some]at hbit;have hcell:=yI.get (n1+j) (ni av) (by rw[List.getElem?_map,hav];rfl);have s1:=L'7 b j (by omega);have hb:=V'L b hj;rw[<-hk,<-hbit]at hb;generalize b/2^j=y at s1 hb;have a1:=G'r y;rw[hb,Int.natCast_emod]at a1;have a2:=G'r (av:Int);have h22:((2:Nat):Int)=2:=rfl;rw[h22]at a1;have hwi:=w'1 j;have w1:IntKind.i64.wrap (((n1+la+1:Nat):Int)-1)=((n1+la:Nat):Int):=w'i;have w2:IntKind.i64.wrap (((n1+la:Nat):Int)-(la:Int))=(n1:Int):=w'i;have w3:IntKind.i64.wrap ((n1:Int)+(j:Int))=((n1+j:Nat):Int):=w'i;obtain⟨ln,hln⟩:=e' (n1+la+1);obtain⟨l1,hl1⟩:=e' (n1+la);obtain⟨o,ho⟩:=e' (n1+j);obtain⟨j',hj2⟩:=e' (j+1);rw[<-hj2]at hwi;rw[<-hln,<-hl1]at w1;rw[<-hl1]at w2;rw[<-ho]at w3 hcell;rw[<-hln]at d12;have ho1:o<ln:=by omega
  have ho2:(o:Int)<ln:=by omega
  refine f'f ?_;simp[N'Q,Zpz,ZpA,ZpC,d1,d5,d12,d15,hj,hj',w1,w2,w3,ho1,ho2,hcell,s1,a1,a2,hwi];exact⟨n,by omega,by simp[d1],by simp[d5],by simp[d12,hln],rfl,j',by simp,by omega⟩
theorem T'4 (C:LP' O ro c)(L:O.Law)(lo:ro<=O.next h){a b:Int}(ha:I64 a)(hb:I64 b): ∃h',c 21 [.int .i64 a,.int .i64 b] h=some (.bool true,h'):=by
 obtain⟨k6,hk6,e6⟩:=T'F C a ha 6 (by omega);obtain⟨la,hla⟩:=e' (1+k6);have h0:1<=la:=by omega
 have hl:la<=6:=by omega
 obtain⟨k,hk⟩:=e' ((b%2^la).toNat);have hk2:k<2^la:=by
  have hp:(0:Int)<2^la:=Int.pow_pos (by decide);have:=Int.emod_lt_of_pos b hp;have h1:=Int.emod_nonneg b (show (2:Int)^la≠0 by omega);have h3:((2^la:Nat):Int)=2^la:=by simp
  omega
 obtain⟨hrd,hasc⟩:=M'i h0 hl hk2;obtain⟨w,-⟩:∃w:Own,True:=⟨λ_=>(0,0),trivial⟩;obtain⟨p,vg,vn,vr,h1,w1,e1,x1,-⟩:=R'p (w:=w) C L lo (a:=1) (b:=la) (by omega);have x1':NT O ro w1 h1 p (lkX la k 0 0) vg vn vr:=by
  have r:∀f,List.replicate la 0=row [] f la 0:=λf=>by simp[row]
  unfold lkX;rw[<-r];exact x1
 have key:∃u h',c 21 [.int .i64 a,.int .i64 b] h=some (u,h')∧u = .bool true:=by
  refine C.fn (T'j O ro) rfl rfl ?_;unfold F21;have wl:IntKind.i64.wrap (1+(k6:Int))=(la:Int):=w'i;have e6':=e6 h;have hni6:ni 6=Value.int .i64 6:=rfl;rw[hni6]at e6';have hni1:ni 1=Value.int .i64 1:=rfl;rw[hni1]at e1;unfold ptr at e1;refine s'f ?_;simp[Zpi,A'c];refine s'f ?_;simp[Zpj,A'c,e6',wl];refine s'f ?_;simp[Zpk,A'c,e1];refine s'f ?_;simp[Zpl,A'c];refine okE.seq (s'f ?_);simp[Zpm,A'c];refine okE.blk ?_;refine okE.mono (okE.loop (Q:=λe t' g'=>A'j 0 e = .normal∧LkQ O ro p la k b t' g') (LkI O ro p la k b) (λn t g I=>R'O C L hl hk I) la _ _ ⟨by simp,by simp,by simp,0,vg,vn,vr,w1,by simp[lkA],by simp,by omega,x1'⟩) ?_;rintro e t g ⟨hr,d1,d5,d6,vg2,vn2,vr2,w2,d7,x2⟩;rw[hr];simp only[A'c];have hlA:lkA la=2*(1+la):=by unfold lkA;rw[if_neg (by omega)]
  rw[hlA]at d7;obtain⟨g3,rp3,p3,x3⟩:=x2.setB L (2*(1+la));have x4:NT O ro w2 g3 p (lkX la k la (2*(1+la))) vg2 vn2 vr2:=x3;obtain⟨g5,w5,e5,c5,lo5⟩:=T'v C L x4 (O'q h0 hl);obtain⟨vI,init,ins,g6,w6,e7,u6,l6,s6,c6,lo6⟩:=O'm (w:=w5) C L lo5 (T'3 h0 hl) hrd hasc (M'h h0);obtain⟨r1,r2,r3⟩:=O'p h0 u6;subst r1;obtain⟨n1,hn1⟩:∃n1,ins.length=n1+la+1:=⟨ins.length-1-la,by omega⟩;obtain⟨bI,cI,hvI,-,yI⟩:=s6.blk (by omega) (n1+la+1) (by simp[hn1]) (by omega);rw[hvI]at e7;have hi:∀i,i<la->ins.getD (n1+i) 0%2=k/2^i%2:=λi hi=>by
   have:=r3 i hi;rw[show ins.length-1-la+i=n1+i by omega]at this;exact this
  obtain⟨tx,htx⟩:=e' (txS (lkX la k la (2*(1+la))));rw[<-htx]at e5 e7;obtain⟨zb,hzb⟩:=e' (2*(1+la));rw[<-hzb]at d7 p3;have hle:¬((n1:Int)+(la:Int)+1<=(la:Int)):=by omega
  have hle2:¬(((n1+la+1:Nat):Int)<=(la:Int)):=by omega
  have hle3:¬(n1+la+1<=la):=by omega
  unfold ptr at e5;refine s'f ?_;simp[Zpt,A'c,d6,d7,rp3,p3];refine s'f ?_;simp[Zpu,A'c,d6,e5];refine s'f ?_;simp[Zpv,A'c,e7];refine s'f ?_;simp[Zpw,A'c,d5,hle,hle2,hle3];refine okE.seq (s'f ?_);simp[Zpy,A'c];refine okE.blk ?_;refine okE.mono (okE.loop (Q:=λe t' g'=>A'j 2 e = .normal∧g'=g6) (LmI b la (.slice (some ⟨bI,0,some 1⟩) (n1+la+1) cI) g6) (λn t g I=>R'P hl hk hn1 (by omega) yI hi I) la _ _ ⟨by simp[d1],by simp[d5],by simp,rfl,0,by simp,by omega⟩) ?_;rintro e t' g' ⟨hr2,rfl⟩;rw[hr2];simp only[A'c];refine f'f ?_;simp[ZpD,A'1,A'i,rvE]
 obtain⟨u,h',e1,rfl⟩:=key;exact⟨h',e1⟩
end
end Go.Proofs.YtimdkminagnhgaaGreatDoor
