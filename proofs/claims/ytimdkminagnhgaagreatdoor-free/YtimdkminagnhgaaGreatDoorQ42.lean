import Derived.Test.YtimdkminagnhgaaGreatDoorQ41
set_option linter.all false
namespace Go.Proofs.YtimdkminagnhgaaGreatDoor
open Go.Vm Go.Proofs Go.Ta
set_option maxHeartbeats 4000000
section
variable {H:Type}{O:HI H}{ro:Nat}{c:CallT H}
attribute [local simp] cSeq cReg reg to too onlyIf onlyIfo aMove mv' nl' fl' ld' ln' mk' ia' ik' ix' aNil aFld aLd aInt aPick aConv aUn unA ev upd_get isB envOf iA_add iA_sub iA_mul iA_eql iA_neq iA_lss iA_leq iA_gtr iA_geq cIf cRet cSkip okc_some aSt vc_int vc_bool vc_agg vc_str vc_ptr vc_sl ft_int ft_bool ft_str ft_ptr ft_sl tp_int tp_bool tp_agg tp_str tp_ptr tp_sl aBuild Instr.fill aCall cExit cBlk outOf ptr undef aNew aBox aIdxArr aLdN aShift aLenSl aIdx aMkSl aApp rangeA aExt aPtrNil aSlNil aBoolEq aMake aSliceSl boundA chk
variable {w w':Own}{h h':H}{p:Nat}{X:Nt}{vg vn vr:Value}
attribute [local simp] aStr strA aLenStr aB2S bytesA aAggEq intsA
def isX (X:Nt)(g0 kk j:Nat): Nt:={ X with gates:=X.gates++isG X.inn X.la g0 kk j }
def IsI (O:HI H)(ro:Nat)(p:Nat)(X:Nt)(g0 kk:Nat)(vn vr:Value)(n:Nat)(t:Env)(g:H): Prop:=
 t 0 = .pointer (some ⟨p,0,none⟩)∧t 1=ni kk∧∃j vg w1,t 6=ni j∧j+n=X.la∧t 5=ni (isV X.inn X.la g0 j)∧NT O ro w1 g p (isX X g0 kk j) vg vn vr
theorem is1_q (C:LP' O ro c)(L:O.Law){g0 kk n:Nat}(hi:X.inn<=100)(hla:X.la<=60)(hg:X.gates.length=2*g0)(hg0:g0<=100)(hkk:kk<1000000){t:Env}{g:H}(I:IsI O ro p X g0 kk vn vr n t g):
  okE c (W38_0 O Tryz.prog ro) (t,g) (λe t' g'=>(e = .normal∧∃n',n'<n∧IsI O ro p X g0 kk vn vr n' t' g')∨(e≠.normal∧(outOf 0 e = .normal∧t' 5=ni (isV X.inn X.la g0 X.la)∧∃vg w1,NT O ro w1 g' p (isX X g0 kk X.la) vg vn vr))):=by
 obtain⟨d0,d1,j,vg,w1,d6,hjn,d5,x⟩:=I;have m1:O.cell g p 1=some (ni X.la):=x.m.get 1 _ rfl
 cases n with
 | zero=>
  have hj:j=X.la:=by omega
  subst hj;refine f'f ?_;simp[W38_0,Zqv,d0,d6,m1];exact⟨d5,vg,w1,x⟩
 | succ n=>
  have hj:j<X.la:=by omega
  have hj':(j:Int)<X.la:=by omega
  have e1:=latch_q C L x hi (j:=j) (by omega);have hin:(isX X g0 kk j).inn=X.inn:=rfl;rw[hin]at e1;obtain⟨z,hz⟩:=e' (2*(1+X.inn+j));rw[<-hz]at e1;have hx1:=xor_one z (by omega);have hz1:z ^^^ 1=z+1:=by rw[x1_eq,if_pos (by omega)]
  rw[hz1]at hx1;have s1:=shr_nat kk j (by omega);have hdv:kk/2^j<=kk:=Nat.div_le_self _ _;have a1:=and_one (kk/2^j) (by omega);have hb2:=Nat.mod_lt (kk/2^j) (show 0<2 by omega);have hx2:=xor_nat (z+1) (kk/2^j%2) (by omega) (by omega);have hz2:(z+1) ^^^ (kk/2^j%2)=z+(1-kk/2^j%2):=by
   rcases (show kk/2^j%2=0∨kk/2^j%2=1 by omega) with h|h
   ·rw[h];simp
   ·rw[h,x1_eq,if_neg (by omega)];omega
  rw[hz2]at hx2;obtain⟨vg2,g2,w2,e2,x2,-⟩:=and_q C L x hi (show X.la<=100 by omega) (by show (X.gates++isG X.inn X.la g0 kk j).length<=1000;rw[l'p,isG_len,hg];omega) (isV X.inn X.la g0 j) (z+(1-kk/2^j%2));have hv:2*((isX X g0 kk j).inn+(isX X g0 kk j).la+((isX X g0 kk j).gates.length+2)/2)=isV X.inn X.la g0 (j+1):=by
   show 2*(X.inn+X.la+((X.gates++isG X.inn X.la g0 kk j).length+2)/2) = _;rw[l'p,isG_len,hg];unfold isV;rw[if_neg (by omega)];omega
  rw[hv]at e2;have x3:NT O ro w2 g2 p (isX X g0 kk (j+1)) vg2 vn vr:=by
   unfold isX;rw[isG_succ,<-List.append_assoc,<-hz];exact x2
  have hwi:=w'1 j;obtain⟨j',hj2⟩:=e' (j+1);rw[<-hj2]at hwi x3 e2;generalize z+(1-kk/2^j%2)=zz at *;generalize kk/2^j%2=bb at *;generalize kk/2^j=kj at *;obtain⟨z1,hzz⟩:=e' (z+1);rw[<-hzz]at hx1 hx2;generalize isV X.inn X.la g0 j=v0 at *;generalize hvv:isV X.inn X.la g0 j'=v1 at e2;unfold ptr at e1 e2;refine f'f ?_;simp[W38_0,Zqv,Zqw,Zqx,Zqy,d0,d1,d5,d6,m1,hj,hj',e1,hx1,s1,a1,hx2,e2,hwi];exact⟨n,by omega,by simp[d0],by simp[d1],j',vg2,w2,by simp,by omega,by simp[hvv],x3⟩
theorem is_q (C:LP' O ro c)(L:O.Law){g0 kk:Nat}(x:NT O ro w h p X vg vn vr)(hi:X.inn<=100)(hla:X.la<=60)(hg:X.gates.length=2*g0)(hg0:g0<=100)(hkk:kk<1000000):
  ∃vg' h' w',c 38 [ptr p,ni kk] h=some (ni (isV X.inn X.la g0 X.la),h')∧NT O ro w' h' p (isX X g0 kk X.la) vg' vn vr:=by
 have key:∃u h',c 38 [ptr p,ni kk] h=some (u,h')∧(u=ni (isV X.inn X.la g0 X.la)∧∃vg w1,NT O ro w1 h' p (isX X g0 kk X.la) vg vn vr):=by
  refine C.fn (F38_fn O ro) rfl rfl ?_;unfold F38;refine s'f ?_;simp[Zqs,thenE];refine s'f ?_;simp[Zqt,thenE];refine okE.seq (s'f ?_);simp[Zqu,thenE];refine okE.blk ?_;have x0:NT O ro w h p (isX X g0 kk 0) vg vn vr:=by
   unfold isX;have:X.gates++isG X.inn X.la g0 kk 0=X.gates:=by simp[isG]
   rw[this];exact x
  refine okE.mono (okE.loop (Q:=λe t' g'=>outOf 0 e = .normal∧t' 5=ni (isV X.inn X.la g0 X.la)∧∃vg w1,NT O ro w1 g' p (isX X g0 kk X.la) vg vn vr) (IsI O ro p X g0 kk vn vr) (λn t g I=>is1_q C L hi hla hg hg0 hkk I) X.la _ _ ⟨by simp,by simp,0,vg,w,by simp,by omega,by simp[isV],x0⟩) ?_;rintro e t g ⟨hr,d5,vg2,w2,x2⟩;rw[hr];simp only[thenE];refine f'f ?_;simp[Zqz,d5,resE,resLE,rvE];exact⟨vg2,w2,x2⟩
 obtain⟨u,h',e1,rfl,vg2,w2,x2⟩:=key;exact⟨vg2,h',w2,e1,x2⟩
def frX (la k j:Nat): Nt:=⟨0,la,[],row [] (λj=>2*(1+j)) la j,row [] (λj=>k/2^j%2) la j,0⟩
def FreI (O:HI H)(ro:Nat)(p la k:Nat)(dI:Int)(n:Nat)(t:Env)(g:H): Prop:=
 t 2 = .int .i64 dI∧t 7=ni la∧t 8=ni k∧t 9 = .pointer (some ⟨p,0,none⟩)∧∃j vg vn vr w1,t 10=ni j∧j+n=la∧NT O ro w1 g p (frX la k j) vg vn vr
def FreQ (O:HI H)(ro:Nat)(p la k:Nat)(dI:Int)(t:Env)(g:H): Prop:=
 t 2 = .int .i64 dI∧t 7=ni la∧t 8=ni k∧t 9 = .pointer (some ⟨p,0,none⟩)∧∃vg vn vr w1,NT O ro w1 g p (frX la k la) vg vn vr
theorem free1_q (C:LP' O ro c)(L:O.Law){la k n:Nat}{dI:Int}(hl:la<=6)(hk6:k<1000000){t:Env}{g:H}(I:FreI O ro p la k dI n t g):
  okE c (W23_0 O Tryz.prog ro) (t,g) (λe t' g'=>(e = .normal∧∃n',n'<n∧FreI O ro p la k dI n' t' g')∨(e≠.normal∧(outOf 0 e = .normal∧FreQ O ro p la k dI t' g'))):=by
 obtain⟨d2,d7,d8,d9,j,vg,vn,vr,w1,d10,hjn,x⟩:=I
 cases n with
 | zero=>
  obtain rfl:j=la:=by omega
  refine f'f ?_;simp[W23_0,ZpS,d7,d10];exact⟨d2,d7,d8,d9,vg,vn,vr,w1,x⟩
 | succ n=>
  have hj:j<la:=by omega
  have hj':(j:Int)<la:=by omega
  have e1:=latch_q C L x (by simp[frX]) (j:=j) (by omega);rw[show 2*(1+(frX la k j).inn+j)=2*(1+j) by simp[frX]]at e1;have hnl:(frX la k j).next.length=la:=by simp only[frX];rw[row_len (by omega)];simp
  have hrl:(frX la k j).reset.length=la:=by simp only[frX];rw[row_len (by omega)];simp
  obtain⟨b1,q1,g1,m3,rb1,p1,x1⟩:=x.setN L (o:=j) (by rw[hnl];omega) (2*(1+j));obtain⟨b2,q2,g2,m4,rb2,p2,x2⟩:=x1.setR L (o:=j) (by show j<(frX la k j).reset.length;rw[hrl];omega) (k/2^j%2);rw[hnl]at m3;have m4':O.cell g1 p 4=some (.slice (some ⟨b2,0,some 1⟩) la q2):=by
   have:=m4;rw[show ({ frX la k j with next:=(frX la k j).next.set j (2*(1+j)) }:Nt).reset=(frX la k j).reset from rfl,hrl]at this;exact this
  have x3:NT O ro w1 g2 p (frX la k (j+1)) vg vn vr:=by
   have r1:=row_set (pre:=[]) (f:=λj=>2*(1+j)) hj;have r2:=row_set (pre:=[]) (f:=λj=>k/2^j%2) hj;rw[l'o,l'F]at r1 r2;unfold frX;rw[<-r1,<-r2];exact x2
  have s1:=shr_nat k j (by omega);have hdv:k/2^j<=k:=Nat.div_le_self _ _;have a1:=and_one (k/2^j) (by omega);have hwi:=w'1 j;obtain⟨j',hj2⟩:=e' (j+1);rw[<-hj2]at hwi x3;generalize k/2^j%2=bb at *;generalize k/2^j=kj at *;generalize 2*(1+j)=zz at *;unfold ptr at e1;refine f'f ?_;simp[W23_0,ZpS,ZpT,ZpU,ZpV,d7,d8,d9,d10,hj,hj',e1,m3,rb1,p1,m4',rb2,p2,s1,a1,hwi];exact⟨n,by omega,by simp[d2],by simp[d7],by simp[d8],by simp[d9],j',vg,vn,vr,w1,by simp,by omega,x3⟩
theorem inf3: ∃i,Tryz.prog.info? 3=some i∧i.size=1:=by
 have hi:(Tryz.prog.info? 3).map (·.size)=some 1:=by kernel_rfl
 cases hx:Tryz.prog.info? 3 with
 | none=>rw[hx]at hi;simp at hi
 | some i=>rw[hx]at hi;exact⟨i,rfl,by simpa using hi⟩
theorem NT.copyN (L:O.Law){X Y:Nt}{p':Nat}{ug un ur:Value}(x:NT O ro w h p X vg vn vr)(y:NT O ro w h p' Y ug un ur){m:Nat}(hm:0<m)(h1:X.next.length=m)(h2:Y.next.length=m):
  ∃b q b' q' g,O.cell h p 3=some (.slice (some ⟨b,0,some 1⟩) m q)∧O.cell h p' 3=some (.slice (some ⟨b',0,some 1⟩) m q')∧¬b'<ro∧cellsA O h b 0 m=some (X.next.map ni)∧putsA O h b' 0 (X.next.map ni)=some g∧NT O ro w g p' { Y with next:=X.next } ug un ur∧O.cell g p 4=O.cell h p 4∧Sm O ro w g (17,3) 1 vr (X.reset.map ni):=by
 obtain⟨b,q,e,hq,yb⟩:=x.sn.blk (by omega) m (by simp[h1]) hm;obtain⟨b',q',e',hq',yb'⟩:=y.sn.blk (by omega) m (by simp[h2]) hm;obtain⟨g,e1,y1,c1⟩:=Bx.over L (K:=λu=>u=((17,2):Tag)) rfl yb' (new:=X.next.map ni) (by simp[h1,h2]);have m3:=x.m.get 3 _ rfl;have m3':=y.m.get 3 _ rfl;have hc:=yb.all;rw[List.length_map,h1]at hc;have xm:=x.m.ch L c1;refine⟨b,q,b',q',g,by rw[<-e];exact m3,by rw[<-e'];exact m3',by have:=yb'.lo;omega,hc,e1,⟨y.m.ch L c1,y.sg.ch L c1,?_,y.sr.ch L c1,l'G y.lo c1.nx⟩,by rw[xm.get 4 _ rfl,x.m.get 4 _ rfl],x.sr.ch L c1⟩;rw[e'];exact .inr ⟨b',m,q',rfl,hq',by simp[h1],y1⟩
theorem NT.copyR (L:O.Law){Y:Nt}{p':Nat}{ug un ur vr:Value}{rs:List Nat}(hc4:O.cell h p 4=some vr)(sr:Sm O ro w h (17,3) 1 vr (rs.map ni))(y:NT O ro w h p' Y ug un ur){m:Nat}(hm:0<m)(h1:rs.length=m)(h2:Y.reset.length=m):
  ∃b q b' q' g,O.cell h p 4=some (.slice (some ⟨b,0,some 1⟩) m q)∧O.cell h p' 4=some (.slice (some ⟨b',0,some 1⟩) m q')∧¬b'<ro∧cellsA O h b 0 m=some (rs.map ni)∧putsA O h b' 0 (rs.map ni)=some g∧NT O ro w g p' { Y with reset:=rs } ug un ur:=by
 obtain⟨b,q,e,hq,yb⟩:=sr.blk (by omega) m (by simp[h1]) hm;obtain⟨b',q',e',hq',yb'⟩:=y.sr.blk (by omega) m (by simp[h2]) hm;obtain⟨g,e1,y1,c1⟩:=Bx.over L (K:=λu=>u=((17,3):Tag)) rfl yb' (new:=rs.map ni) (by simp[h1,h2]);have m3':=y.m.get 4 _ rfl;have hc:=yb.all;rw[List.length_map,h1]at hc;refine⟨b,q,b',q',g,by rw[<-e];exact hc4,by rw[<-e'];exact m3',by have:=yb'.lo;omega,hc,e1,⟨y.m.ch L c1,y.sg.ch L c1,y.sn.ch L c1,?_,l'G y.lo c1.nx⟩⟩;rw[e'];exact .inr ⟨b',m,q',rfl,hq',by simp[h1],y1⟩
theorem blank2_q (C:LP' O ro c)(L:O.Law)(x:NT O ro w h p X vg vn vr){a b:Nat}(hb:b<=100): ∃p' ug un ur h' w',c 34 [ni a,ni b] h=some (ptr p',h')∧NT O ro w' h' p' ⟨a,b,[],List.replicate b 0,List.replicate b 0,0⟩ ug un ur∧NT O ro w' h' p X vg vn vr:=by
 obtain⟨p',ug,un,ur,h',w',e,y,o⟩:=blank_q (w:=w.past (O.next h)) C L x.lo (a:=a) (b:=b) hb;have ch:=past_old o;exact⟨p',ug,un,ur,h',_,e,⟨y.m.back o (by simp),y.sg.back o (by simp),y.sn.back o (by simp),y.sr.back o (by simp),y.lo⟩,x.ch L ch⟩
end
end Go.Proofs.YtimdkminagnhgaaGreatDoor
