import Derived.Test.YtimdkminagnhgabGreatDoorQ22
set_option linter.all false
namespace Go.Proofs.YtimdkminagnhgabGreatDoor
open Go.Vm Go.Proofs Go.Ta
set_option maxHeartbeats 4000000
theorem G'C (a j:Nat)(hj:j<=60): B'w .shr .i64 (a:Int) (j:Int)=some (ni (a/2^j)):=by
 have h1:B'w .shr .i64 (a:Int) (j:Int)=if (j:Int)<0 then none else some (.int .i64 ((a:Int).fdiv (2^(min ((j:Int).toNat) 64)))):=rfl
 rw[h1,if_neg (by omega),Int.toNat_natCast,Nat.min_eq_left (by omega)];have h2:((2:Int)^j)=((2^j:Nat):Int):=by simp
 rw[h2,Int.fdiv_eq_ediv_of_nonneg _ (Int.natCast_nonneg _),<-Int.natCast_ediv]
section
variable {H:Type}{O:HI H}{ro:Nat}{c:A'X H}
attribute [local simp] A'b A'c reg to too A'a A'n A'i mv' nl' fl' ld' ln' mk' ia' ik' ix' B'C B'D aLd A'5 A'q A'2 aUn unA ev A'k isB A'Z A'C A'D A'E A'F A'G A'H A'I A'J A'K cIf A'y A'f A'g aSt A'M A't A'N A'O A'P B'c A'Q A'u A'R A'S B'd A'T A'v A'U A'V A'W B'e A'l Instr.fill A'e A'r A'z A's ptr undef B'o B'r A'j B'n A'w A'B B'A A'x B'p rangeA B'E A'o A'4 A'A B'i A'p A'm chk
variable {w w':Own}{h h':H}{q:Nat}{S:Srch}{bW bH bV:Nat}{vA vC vT vS vK:Value}{lv wv:List Value}
variable {p s:Nat}{Z:Solv}{vE vcl vM:Value}{vs:List Value}{cp:Nat}{N:Ck}{v1 v2:Value}
def GrI (O:HI H)(ro:Nat)(w:Own)(h:H)(k0:Nat)(v:Value)(l:List Nat)(g:H): Prop:=
 ∃w1,Sm O ro w1 g (14,k0) 1 v (l.map ni)∧Ch O (λ_=>False) w h w1 g∧ro<=O.next g
theorem GrI.new (L:O.Law){k0:Nat}(lo:ro<=O.next h): GrI O ro w h k0 (.slice (some ⟨O.next h,0,some 1⟩) 0 1) [] (O.new h []):=
 ⟨_,.inr ⟨_,0,1,rfl,.inr rfl,by simp,Bx.new L (ro:=ro) w h lo (14,k0) []⟩,Ch.new L _ w h (14,k0) [],by rw[L.next_new];omega⟩
theorem GrI.app (L:O.Law){k0:Nat}(hk0:∀b,b<O.next h->w b≠((14,k0):Tag)){v:Value}{l:List Nat}{g:H}(x:GrI O ro w h k0 v l g)(a:Nat)(hl:l.length<1000000):
  ∃v' g',D'd O ro 1 8 v (.slice (some ⟨O.next g,0,some 1⟩) 1 2) (O.new g [ni a])=some (v',g')∧GrI O ro w h k0 v' (l++[a]) g':=by
 obtain⟨w1,s1,c1,lo1⟩:=x;obtain⟨v3,h3,w3,e3,s3,c3,lo3⟩:=B'0 (bytes:=8) (new:=[ni a]) L lo1 s1 (by omega) rfl (by simp;omega) (by simp;omega);exact⟨v3,h3,e3,w3,by simpa using s3.m,Ch.own (k:=k0) c1 c3 hk0,lo3⟩
theorem GrI.give {k0:Nat}(hk0:∀b,b<O.next h->w b≠((14,k0):Tag)){v:Value}{l:List Nat}{g:H}(x:GrI O ro w h k0 v l g)(t1:Tag):
  ∃w',Sm O ro w' g t1 1 v (l.map ni)∧Ch O (λ_=>False) w h w' g∧ro<=O.next g:=by
 obtain⟨w1,s1,c1,lo1⟩:=x;obtain⟨w2,s2,c2⟩:=N'J (t1:=t1) c1 hk0 s1;exact⟨w2,s2,c2,lo1⟩
theorem GrI.tup {k0:Nat}{v:Value}{l:List Nat}{g:H}(x:GrI O ro w h k0 v l g): B'j v=false:=by
 obtain⟨w1,s1,_⟩:=x;exact s1.flat.2.2
end
end Go.Proofs.YtimdkminagnhgabGreatDoor
namespace Go.Proofs.YtimdkminagnhgabGreatDoor
open Go.Vm Go.Proofs Go.Ta
set_option maxHeartbeats 4000000
section
variable {H:Type}{O:HI H}{ro:Nat}{c:A'X H}
attribute [local simp] A'b A'c reg to too A'a A'n A'i mv' nl' fl' ld' ln' mk' ia' ik' ix' B'C B'D aLd A'5 A'q A'2 aUn unA ev A'k isB A'Z A'C A'D A'E A'F A'G A'H A'I A'J A'K cIf A'y A'f A'g aSt A'M A't A'N A'O A'P B'c A'Q A'u A'R A'S B'd A'T A'v A'U A'V A'W B'e A'l Instr.fill A'e A'r A'z A's ptr undef B'o B'r A'j B'n A'w A'B B'A A'x B'p rangeA B'E A'o A'4 A'A B'i A'p A'm chk
variable {w w':Own}{h h':H}{q:Nat}{S:Srch}{bW bH bV:Nat}{vA vC vT vS vK:Value}{lv wv:List Value}
variable {p s:Nat}{Z:Solv}{vE vcl vM:Value}{vs:List Value}{cp:Nat}{N:Ck}{v1 v2:Value}
theorem N'0 (h:H)(b:Nat): B'1 Tryz.prog O 162 (.pointer (some ⟨b,0,none⟩)) h=(cellsA O h b 0 2).map λl=>.agg l.toArray:=by
 have hi:(Tryz.prog.info? 162).map (·.size)=some 2:=by kernel_rfl
 cases hx:Tryz.prog.info? 162 with
 | none=>rw[hx]at hi;simp at hi
 | some i=>
  rw[hx]at hi;simp only[l'l,l'a]at hi;simp only[B'1,Tryz.underlying162,hx,hi]
theorem N'1 (C:LP' O ro c)(L:O.Law)(X:CN O ro w h cp N v1 v2){b o:Nat}{tb:Tag}{lb:List Value}(yb:Bx O ro w h tb b lb)(hb:lb[o]?=some (ptr s))(x:SV O ro w h p s Z vE vcl vM vK vs)(hM:1+N.ni+N.las.length<=Z.model.length)(hM2:Z.model.length<=192)(h1:N.ni<=60)(h2:N.las.length<=60):
  ∃h' w',c 159 [.pointer (some ⟨b,o,none⟩),ptr cp] h=some (.agg #[ni (B'X N Z).1,ni (B'X N Z).2],h')∧Ch O (λ_=>False) w h w' h'∧ro<=O.next h'∧(B'X N Z).1<9223372036854775808∧(B'X N Z).2<9223372036854775808:=by
 obtain⟨k0,hk0⟩:=C'I w (O.next h);have y1:=Bx.new L (ro:=ro) w h x.lo (14,k0) [.int .i64 0,.int .i64 0];have c1:=Ch.new L (λ_=>False) w h (14,k0) [.int .i64 0,.int .i64 0];have X1:=X.ch L c1;have x1:=x.ch L c1;have yb1:=yb.ch L c1;obtain⟨e2,l2⟩:=L'5 C L yb1 hb x1 (first:=1) (count:=N.ni) h1 (by omega) hM2;obtain⟨e3,l3⟩:=L'5 C L yb1 hb x1 (first:=1+N.ni) (count:=N.las.length) h2 (by omega) hM2;obtain⟨g4,p4,y4,c4⟩:=Bx.over L (K:=λu=>u=((14,k0):Tag)) rfl y1 (show [ni (B'X N Z).1,ni (B'X N Z).2].length = _ from rfl);have cc:=Ch.own (k:=k0) c1 c4 hk0;refine⟨g4,_,?_,cc,l'G x.lo cc.nx,l3,l2⟩;have m0:=X1.m.get 0 _ rfl;have m1:=X1.m.get 1 _ rfl;obtain⟨a1,q1,f1⟩:=X1.len1;rw[f1]at m1;have hw1:IntKind.i64.wrap (1+(N.ni:Int))=((1+N.ni:Nat):Int):=w'i;obtain⟨z1,hz1⟩:=e' (1+N.ni);have hf1:(B'X N Z).1=B'7 Z z1 N.las.length:=by rw[hz1];rfl
 have hf2:(B'X N Z).2=B'7 Z 1 N.ni:=rfl;rw[<-hz1]at hw1 e3;rw[<-hf1]at e3;rw[<-hf2]at e2;generalize (B'X N Z).1=r1 at *;generalize (B'X N Z).2=r2 at *;have rr:¬O.next h<ro:=by have:=x.lo;omega
 have hall:=y4.all;simp only[l'n,l'o]at hall;have hl:=N'0 (O:=O) g4 (O.next h);have e2':c 191 [.pointer (some ⟨b,o,none⟩),.int .i64 1,ni N.ni] (O.new h [.int .i64 0,.int .i64 0])=some (ni r2,O.new h [.int .i64 0,.int .i64 0]):=e2;refine C.eq (N'V O ro) rfl rfl ?_;unfold S'd;refine s'f ?_;simp[ZlA,A'd];refine s'f ?_;simp[ZlB,A'd,m0,e2'];refine s'f ?_;simp[ZlC,A'd,m0,m1,hw1,e3];refine f'f ?_;simp[ZlD,rr,p4,A'L,A'h,rvE,hl,hall]
end
end Go.Proofs.YtimdkminagnhgabGreatDoor
namespace Go.Proofs.YtimdkminagnhgabGreatDoor
open Go.Vm Go.Proofs Go.Ta
set_option maxHeartbeats 4000000
section
variable {H:Type}{O:HI H}{ro:Nat}{c:A'X H}
attribute [local simp] A'b A'c reg to too A'a A'n A'i mv' nl' fl' ld' ln' mk' ia' ik' ix' B'C B'D aLd A'5 A'q A'2 aUn unA ev A'k isB A'Z A'C A'D A'E A'F A'G A'H A'I A'J A'K cIf A'y A'f A'g aSt A'M A't A'N A'O A'P B'c A'Q A'u A'R A'S B'd A'T A'v A'U A'V A'W B'e A'l Instr.fill A'e A'r A'z A's ptr undef B'o B'r A'j B'n A'w A'B B'A A'x B'p rangeA B'E A'o A'4 A'A B'i A'p A'm chk
variable {w w':Own}{h h':H}{q:Nat}{S:Srch}{bW bH bV:Nat}{vA vC vT vS vK:Value}{lv wv:List Value}
variable {p s:Nat}{Z:Solv}{vE vcl vM:Value}{vs:List Value}{cp:Nat}{N:Ck}{v1 v2:Value}
end
end Go.Proofs.YtimdkminagnhgabGreatDoor
namespace Go.Ta
end Go.Ta
namespace Go.Proofs.YtimdkminagnhgabGreatDoor
open Go.Vm Go.Proofs Go.Ta
set_option maxHeartbeats 4000000
section
variable {H:Type}{O:HI H}{ro:Nat}{c:A'X H}
attribute [local simp] A'b A'c reg to too A'a A'n A'i mv' nl' fl' ld' ln' mk' ia' ik' ix' B'C B'D aLd A'5 A'q A'2 aUn unA ev A'k isB A'Z A'C A'D A'E A'F A'G A'H A'I A'J A'K cIf A'y A'f A'g aSt A'M A't A'N A'O A'P B'c A'Q A'u A'R A'S B'd A'T A'v A'U A'V A'W B'e A'l Instr.fill A'e A'r A'z A's ptr undef B'o B'r A'j B'n A'w A'B B'A A'x B'p rangeA B'E A'o A'4 A'A B'i A'p A'm chk
variable {w w':Own}{h h':H}{q:Nat}{S:Srch}{bW bH bV:Nat}{vA vC vT vS vK:Value}{lv wv:List Value}
end
end Go.Proofs.YtimdkminagnhgabGreatDoor
namespace Go.Proofs.YtimdkminagnhgabGreatDoor
open Go.Vm Go.Proofs Go.Ta
set_option maxHeartbeats 4000000
section
variable {H:Type}{O:HI H}{ro:Nat}{c:A'X H}
attribute [local simp] A'b A'c reg to too A'a A'n A'i mv' nl' fl' ld' ln' mk' ia' ik' ix' B'C B'D aLd A'5 A'q A'2 aUn unA ev A'k isB A'Z A'C A'D A'E A'F A'G A'H A'I A'J A'K cIf A'y A'f A'g aSt A'M A't A'N A'O A'P B'c A'Q A'u A'R A'S B'd A'T A'v A'U A'V A'W B'e A'l Instr.fill A'e A'r A'z A's ptr undef B'o B'r A'j B'n A'w A'B B'A A'x B'p rangeA B'E A'o A'4 A'A B'i A'p A'm chk
variable {w w':Own}{h h':H}{q:Nat}{S:Srch}{bW bH bV:Nat}{vA vC vT vS vK:Value}{lv wv:List Value}
variable {cp:Nat}{N:Ck}{v1 v2:Value}
end
end Go.Proofs.YtimdkminagnhgabGreatDoor
namespace Go.Ta
theorem G'D {N:Ck}{st:Nat}(h:∀(j:Nat)(y:Nat×Nat),N.las[j]?=some y->y.2=2∨y.2=st/2^j%2): B'N N st=true:=by
 unfold B'N;rw[l'D];rintro⟨⟨a,r⟩,j⟩ hm;have:=h j (a,r) (by have:=List.mem_zipIdx_iff_getElem?.1 hm;simpa using this);simpa using this
theorem F'W {N:Ck}{st j:Nat}{y:Nat×Nat}(hy:N.las[j]?=some y)(h1:y.2≠2)(h2:y.2≠st/2^j%2): B'N N st=false:=by
 rw[Bool.eq_false_iff];intro h;unfold B'N at h;rw[l'D]at h;have:=h (y,j) (List.mem_zipIdx_iff_getElem?.2 hy);simp[h1,h2]at this
end Go.Ta
namespace Go.Proofs.YtimdkminagnhgabGreatDoor
open Go.Vm Go.Proofs Go.Ta
set_option maxHeartbeats 4000000
section
variable {H:Type}{O:HI H}{ro:Nat}{c:A'X H}
attribute [local simp] A'b A'c reg to too A'a A'n A'i mv' nl' fl' ld' ln' mk' ia' ik' ix' B'C B'D aLd A'5 A'q A'2 aUn unA ev A'k isB A'Z A'C A'D A'E A'F A'G A'H A'I A'J A'K cIf A'y A'f A'g aSt A'M A't A'N A'O A'P B'c A'Q A'u A'R A'S B'd A'T A'v A'U A'V A'W B'e A'l Instr.fill A'e A'r A'z A's ptr undef B'o B'r A'j B'n A'w A'B B'A A'x B'p rangeA B'E A'o A'4 A'A B'i A'p A'm chk
variable {w w':Own}{h h':H}{q:Nat}{S:Srch}{bW bH bV:Nat}{vA vC vT vS vK:Value}{lv wv:List Value}
variable {cp:Nat}{N:Ck}{v1 v2:Value}
def BgI (cp st:Nat)(h:H)(N:Ck)(n:Nat)(t:Env)(g:H): Prop:=
 g=h∧t 0 = .pointer (some ⟨cp,0,none⟩)∧t 1=ni st∧∃i,t 5=ni i∧i+n=N.las.length∧∀(j:Nat)(y:Nat×Nat),j<i->N.las[j]?=some y->y.2=2∨y.2=st/2^j%2
theorem K'8 (C:LP' O ro c)(L:O.Law)(X:CN O ro w h cp N v1 v2){st:Nat}(hst:st<9223372036854775808)(hl:N.las.length<=60): c 99 [ptr cp,ni st] h=some (.bool (B'N N st),h):=by
 have m1:=X.m.get 1 _ rfl;have key:∃u h',c 99 [ptr cp,ni st] h=some (u,h')∧(u = .bool (B'N N st)∧h'=h):=by
  refine C.fn (P'V O ro) rfl rfl ?_;unfold F99;refine s'f ?_;simp[Zji,A'd];refine okE.seq (s'f ?_);simp[Zjj,A'd];refine f'f ?_;simp[A'd];refine okE.seq (s'f ?_);simp[Zjl,A'd];refine okE.blk ?_;refine okE.mono (okE.loop (Q:=λe t' g'=>g'=h∧(A's 0 e = .ret∧t' 4 = .bool false∧B'N N st=false∨A's 0 e = .normal∧B'N N st=true)) (BgI cp st h N) ?_ N.las.length _ _ ⟨rfl,by simp,by simp,0,by simp,by omega,λj y hj=>by omega⟩) ?_
  ·rintro n t g ⟨rfl,d0,d1,i,d5,hin,hok⟩
   cases n with
   | zero=>
    obtain rfl:i=N.las.length:=by omega
    obtain⟨a1,q1,f1⟩:=X.len1;have m1':=m1;rw[f1]at m1';refine f'f ?_;simp[J'c,Zjm,d0,d1,d5,m1'];exact G'D λj y hy=>hok j y (l'b.1 hy).1 hy
   | succ n=>
    have hi:i<N.las.length:=by omega
    have hi':(i:Int)<N.las.length:=by omega
    obtain⟨y,hy⟩:∃y,N.las[i]?=some y:=⟨_,l'c hi⟩;obtain⟨bG,qG,fG,hc0,hc1⟩:=X.getL i hy;have m1':=m1;rw[fG]at m1';have hsh:=G'C st i (by omega);have hle:st/2^i<=st:=Nat.div_le_self _ _;have hand:=E'k (st/2^i) (by omega);obtain⟨b,hb⟩:=e' (st/2^i%2);obtain⟨q,hq⟩:=e' (st/2^i);rw[<-hb]at hand;rw[<-hq]at hand hsh;have hwi:=w'1 i;obtain⟨i',hi2⟩:=e' (i+1);rw[<-hi2]at hwi;have n2:((y.2:Int) != 2) = !decide (y.2=2):=E't y.2 2;have n3:=E't y.2 b;have hnext:(y.2=2∨y.2=b)->∀(j:Nat)(z:Nat×Nat),j<i'->N.las[j]?=some z->z.2=2∨z.2=st/2^j%2:=by
     intro h0 j z hj hz
     by_cases e:j=i
     ·subst e;rw[hy]at hz;simp at hz;subst hz;rw[<-hb];exact h0
     ·exact hok j z (by omega) hz
    by_cases h2:y.2=2
    ·have n4:((y.2:Int) != 2)=false:=by rw[n2];simp[h2]
     have n5:(y.2:Int)=2:=by omega
     refine f'f ?_;simp[J'c,Zjm,Zjn,Zjo,Zjq,d0,d1,d5,m1',hi,hi',hc1,n4,n5,h2,hwi];exact⟨n,by omega,rfl,by simp[d0],by simp[d1],i',by simp,by omega,hnext (.inl h2)⟩
    ·have n4:((y.2:Int) != 2)=true:=by rw[n2];simp[h2]
     have n5:¬(y.2:Int)=2:=by omega
     by_cases h3:y.2=b
     ·have n6:((y.2:Int) != (b:Int))=false:=by rw[n3];simp[h3]
      have n7:(y.2:Int)=b:=by omega
      have n8:((b:Int) != 2)=true:=by rw[<-n7];exact n4
      have n9:¬(b:Int)=2:=by rw[<-n7];exact n5
      have n10:¬b=2:=by omega
      have hc1b:O.cell g bG (i*2+1)=some (ni b):=by rw[hc1,h3]
      refine f'f ?_;simp[J'c,Zjm,Zjn,Zjo,Zjq,d0,d1,d5,m1',hi,hi',hc1b,n8,n9,n10,hsh,hand,hwi];exact⟨n,by omega,rfl,by simp[d0],by simp[d1],i',by simp,by omega,hnext (.inr h3)⟩
     ·have n6:((y.2:Int) != (b:Int))=true:=by rw[n3];simp[h3]
      have n7:¬(y.2:Int)=b:=by omega
      refine f'f ?_;simp[J'c,Zjm,Zjn,Zjo,Zjp,d0,d1,d5,m1',hi,hi',hc1,n4,n5,h2,hsh,hand,n6,n7,h3];exact F'W hy h2 (by rw[<-hb];exact h3)
  ·rintro e t g ⟨rfl,hr⟩;rcases hr with ⟨hr,d4,hab⟩|⟨hr,hab⟩
   ·rw[hr];simp only[A'd,A'L,A'h,rvE,d4,hab];simp
   ·rw[hr];simp only[A'd];refine f'f ?_;simp only[hab];simp[Zjr,A'L,A'h,rvE]
 obtain⟨u,h',e1,rfl,rfl⟩:=key;exact e1
end
end Go.Proofs.YtimdkminagnhgabGreatDoor
namespace Go.Proofs.YtimdkminagnhgabGreatDoor
open Go.Vm Go.Proofs Go.Ta
set_option maxHeartbeats 4000000
section
variable {H:Type}{O:HI H}{ro:Nat}{c:A'X H}
attribute [local simp] A'b A'c reg to too A'a A'n A'i mv' nl' fl' ld' ln' mk' ia' ik' ix' B'C B'D aLd A'5 A'q A'2 aUn unA ev A'k isB A'Z A'C A'D A'E A'F A'G A'H A'I A'J A'K cIf A'y A'f A'g aSt A'M A't A'N A'O A'P B'c A'Q A'u A'R A'S B'd A'T A'v A'U A'V A'W B'e A'l Instr.fill A'e A'r A'z A's ptr undef B'o B'r A'j B'n A'w A'B B'A A'x B'p rangeA B'E A'o A'4 A'A B'i A'p A'm chk
variable {w w':Own}{h h':H}{q:Nat}{S:Srch}{bW bH bV:Nat}{vA vC vT vS vK:Value}{lv wv:List Value}
end
end Go.Proofs.YtimdkminagnhgabGreatDoor
namespace Go.Ta
theorem F'X {f n:Nat}{Z Z':Solv}{l:List Nat}{bud:Int}{a:Nat}(hs:D'A f n Z l bud=some (Z',a))(h:ZOk Z): ZOk Z'∧Z'.early=Z.early∧Z'.clauses=Z.clauses∧0<=bud∧Z.conflicts<=Z'.conflicts∧Z'.conflicts-Z.conflicts<=B'9∧Z'.conflicts<2*B'9+1:=by
 unfold D'A at hs;split at hs
 ·rename_i hc
  split at hs
  ·simp at hs
  ·split at hs
   ·rename_i hc2
    simp only[l'a,l'd]at hs;obtain⟨rfl,rfl⟩:=hs;exact⟨h,rfl,rfl,hc.2.2.1,by simp,by simp;omega,by simp;omega⟩
   ·simp at hs
 ·simp at hs
end Go.Ta
namespace Go.Proofs.YtimdkminagnhgabGreatDoor
open Go.Vm Go.Proofs Go.Ta
set_option maxHeartbeats 4000000
section
variable {H:Type}{O:HI H}{ro:Nat}{c:A'X H}
attribute [local simp] A'b A'c reg to too A'a A'n A'i mv' nl' fl' ld' ln' mk' ia' ik' ix' B'C B'D aLd A'5 A'q A'2 aUn unA ev A'k isB A'Z A'C A'D A'E A'F A'G A'H A'I A'J A'K cIf A'y A'f A'g aSt A'M A't A'N A'O A'P B'c A'Q A'u A'R A'S B'd A'T A'v A'U A'V A'W B'e A'l Instr.fill A'e A'r A'z A's ptr undef B'o B'r A'j B'n A'w A'B B'A A'x B'p rangeA B'E A'o A'4 A'A B'i A'p A'm chk
variable {w w':Own}{h h':H}{q:Nat}{S:Srch}{bW bH bV:Nat}{vA vC vT vS vK:Value}{lv wv:List Value}
variable {cp:Nat}{N:Ck}{v1 v2:Value}
def frC (x:Nat×Value): List Value:=[ptr x.1,x.2]
theorem D'o (x:Nat×Value): (frC x).length=2:=rfl
def FM (O:HI H)(ro:Nat)(w:Own)(h:H)(i:Nat)(F:Go.Ta.Fr)(s:Nat)(vo:Value): Prop:=
 Go.Ta.ZOk F.s∧(∃vE vcl vM vK vs,SV O ro w h (1000+2*i) s F.s vE vcl vM vK vs)∧∃us,Cs O ro w h (1001+2*i,3) vo us F.own
theorem FM.ch (L:O.Law){K:Tag->Prop}{p s:Nat}{F:Go.Ta.Fr}{vo:Value}(x:FM O ro w h p F s vo)(a:Ch O K w h w' h')(h9:∀i,¬K (9,i):=by simp)(hp:∀i,¬K (1000+2*p,i):=by simp)(hq:∀i,¬K (1001+2*p,i):=by simp): FM O ro w' h' p F s vo:=by
 obtain⟨z,⟨vE,vcl,vM,vK,vs,y⟩,us,u⟩:=x;exact⟨z,⟨_,_,_,_,_,y.ch L a h9 hp⟩,us,u.ch L a (hq _) (h9 _)⟩
structure RN (O:HI H) (ro:Nat)(w:Own)(h:H) (r:Nat)(R:Rn) (bud:Int) (cp:Nat)(N:Ck)(v1 v2 vF vW vP:Value)(fs:List (Nat×Value)):Prop where
 m:Bx O ro w h (5,0) r [ptr cp,.int .i64 bud,.int .i64 R.spent,vF,vW,vP]
 X:CN O ro w h cp N v1 v2
 sF:Sm O ro w h (5,1) 2 vF (fs.flatMap frC)
 lF:fs.length=R.frames.length
 fr:∀(i:Nat)(F:Go.Ta.Fr)(y:Nat×Value),R.frames[i]?=some F->fs[i]?=some y->FM O ro w h i F y.1 y.2
 sW:Sz O ro w h (5,2) 2 vW (R.way.flatMap prC)
 lo:ro<=O.next h
theorem RN.getF {r:Nat}{R:Rn}{bud:Int}{vF vW vP:Value}{fs:List (Nat×Value)}(x:RN O ro w h r R bud cp N v1 v2 vF vW vP fs)(i:Nat){y:Nat×Value}(hy:fs[i]?=some y):
  ∃b c,vF = .slice (some ⟨b,0,some 2⟩) R.frames.length c∧Bx O ro w h (5,1) b (fs.flatMap frC)∧(fs.flatMap frC)[i*2]?=some (ptr y.1)∧(fs.flatMap frC)[i*2+1]?=some y.2:=by
 obtain⟨hj,hjy⟩:=l'b.1 hy;have hlen:=A'0 frC 2 D'o fs;obtain⟨b,c,e,hc,yb⟩:=x.sF.blk (by omega) fs.length hlen (by omega);rw[x.lF]at e;have c0:=B'z frC 2 D'o fs i hj 0 (by omega);have c1:=B'z frC 2 D'o fs i hj 1 (by omega);rw[hjy]at c0 c1;exact⟨b,c,e,yb,by simpa [frC]using c0,by simpa [frC]using c1⟩
theorem R'p (C:LP' O ro c)(L:O.Law){r:Nat}{R R1:Rn}{bud:Int}{vF vW vP:Value}{fs:List (Nat×Value)}(x:RN O ro w h r R bud cp N v1 v2 vF vW vP fs)(hb:bud<=2305843009213693952)(h0:0<=R.spent){level f n a:Nat}{l:List Nat}{tl:Tag}(htl:¬K11 tl){vl:Value}(sl:Sm O ro w h tl 1 vl (l.map ni))(hs:N'O f n bud R level l=some (R1,a)):
  ∃h' w',c 123 [ptr r,ni level,vl] h=some (ni a,h')∧RN O ro w' h' r R1 bud cp N v1 v2 vF vW vP fs∧Ch O (λu=>u=(5,0)∨Ks (1000+2*level) u) w h w' h'∧0<=R1.spent:=by
 have hm62:B'9=4611686018427387904:=rfl;unfold N'O at hs;split at hs
 ·simp at hs
 rename_i F hF
 split at hs
 ·simp at hs
 rename_i Z' a' hsv
 simp only[l'a,l'd]at hs;obtain⟨hR1,ha⟩:=hs;have hlv:=(l'b.1 hF).1;have hlv':(level:Int)<R.frames.length:=by omega
 obtain⟨y,hy⟩:∃y,fs[level]?=some y:=⟨_,l'c (by rw[x.lF];exact hlv)⟩;obtain⟨s,vo⟩:=y;obtain⟨hZ,⟨vE,vcl,vM,vK,vs,S0⟩,us,o0⟩:=x.fr level F _ hF hy;obtain⟨b,q,eF,yb,hk0,hk1⟩:=x.getF level hy;obtain⟨ok',-,-,hbs,hc1,hc2,hc3⟩:=F'X hsv hZ;have e1:=E'v C L S0;obtain⟨g2,e2,vM',vK',w2,S2,c2⟩:=N'N C L (by omega) S0 hZ.2 htl sl hsv;have e3:=E'v C L S2;have kk:∀t:Tag,t.1<20->¬Ks (1000+2*level) t:=λt ht=>by unfold Ks;omega
 have m0:=x.m;have m2:=x.m.ch L c2 (kk _ (by simp));obtain⟨sp,hsp⟩:=e' (R.spent+((Z'.conflicts-F.s.conflicts:Nat):Int));have c3:=Ch.put L (K:=λu=>u=((5,0):Tag)) m2 2 (by simp) (.int .i64 sp) rfl;have m3:=m2.put L 2 (by simp) (.int .i64 sp);have p3:=A'8 (O:=O) (v:=.int .i64 sp) (m2.get 2 _ rfl);have cc:Ch O (λu=>u=(5,0)∨Ks (1000+2*level) u) w h w2 (O.put g2 r 2 (.int .i64 sp)):=(c2.mono (λ_ h=>.inr h)).trans (c3.mono (λ_ h=>.inl h));have kc:∀t:Tag,t.1<20->t≠(5,0)->¬(t=(5,0)∨Ks (1000+2*level) t):=λt h1 h2=>by rintro (h|h);exact h2 h;exact kk t h1 h
 refine⟨_,w2,?_,⟨?_,x.X.ch L cc (λi=>kc _ (by simp) (by simp)),x.sF.ch L cc (kc _ (by simp) (by simp)),?_,?_,?_,l'G x.lo cc.nx⟩,cc,?_⟩
 ·have hfl:=S2.m;have kb:=yb.get _ _ hk0;have r1:=x.m.get 1 _ rfl;have r2:=x.m.get 2 _ rfl;have r3:=x.m.get 3 _ rfl;rw[eF]at r3;have q2:=m2.get 2 _ rfl;have q3:=m3.get 2 _ rfl;have q4:=m3.get 1 _ rfl;have rr:¬r<ro:=by have:=x.m.lo;omega
  have hw2:IntKind.i64.wrap ((Z'.conflicts:Int)-(F.s.conflicts:Int))=((Z'.conflicts-F.s.conflicts:Nat):Int):=w'i;have hw3:IntKind.i64.wrap (R.spent+((Z'.conflicts-F.s.conflicts:Nat):Int))=sp:=by rw[hsp];exact B'J (by omega) (by omega)
  obtain⟨dd,hdd⟩:=e' (Z'.conflicts-F.s.conflicts);rw[<-hdd]at hw2 hw3;obtain⟨bs,hbs2⟩:=e' (bud-R.spent);have hw1:IntKind.i64.wrap (bud-R.spent)=bs:=by rw[hbs2];exact B'J (by omega) (by omega)
  rw[<-hbs2]at e2;unfold ptr at e1 e2 e3 kb;have ha2:(if bud<sp then 3 else a')=a:=by rw[hsp];exact ha
  generalize O.put g2 r 2 (.int .i64 sp)=g3 at *;simp only[Nat.add_zero]at kb;refine C.eq (N'R O ro) rfl rfl ?_;unfold R'9;refine s'f ?_;simp[ZkW,A'd];refine s'f ?_;simp[ZkX,A'd,r3,hlv,hlv',kb];refine s'f ?_;simp[ZkY,A'd,e1];refine s'f ?_;simp[ZkZ,A'd,r1,r2,hw1,e2];refine s'f ?_;simp[Zk0,A'd,q2,e3,hw2,hw3,p3,rr]
  by_cases hbb:bud<sp
  ·rw[if_pos hbb]at ha2;subst ha2;refine s'f ?_;simp[Zk1,Zk2,A'd,q3,q4,hbb,A'L,A'h,rvE]
  ·rw[if_neg hbb]at ha2;subst ha2;refine f'f ?_;simp[Zk1,Zk3,q3,q4,hbb,A'L,A'h,rvE]
 ·rw[<-hR1];simp only[<-hsp];exact m3
 ·rw[<-hR1];simp[x.lF]
 ·intro i F' y' hF' hy';rw[<-hR1]at hF';simp only at hF'
  by_cases e:i=level
  ·subst e;rw[l'g hlv]at hF';rw[hy]at hy';simp only[l'a]at hF' hy';subst hF' hy';have k5:∀t:Tag,t≠(5,0)->¬t=(5,0):=λt h=>h;exact⟨ok',⟨_,_,_,_,_,S2.ch L c3 (λi=>by simp) (λi=>by simp;omega)⟩,us,o0.ch L cc (by rintro (h|h);simp at h;unfold Ks at h;simp at h) (kc _ (by simp) (by simp))⟩
  ·rw[l'h (λh=>e h.symm)]at hF';exact (x.fr i F' y' hF' hy').ch L cc (λj=>kc _ (by simp) (by simp)) (λj=>by rintro (h|h);simp at h;omega;unfold Ks at h;simp at h;omega) (λj=>by rintro (h|h);simp at h;omega;unfold Ks at h;simp at h;omega)
 ·rw[<-hR1];exact x.sW.ch L cc (kc _ (by simp) (by simp))
 ·rw[<-hR1];simp only;omega
end
end Go.Proofs.YtimdkminagnhgabGreatDoor
namespace Go.Proofs.YtimdkminagnhgabGreatDoor
open Go.Vm Go.Proofs Go.Ta
set_option maxHeartbeats 4000000
section
variable {H:Type}{O:HI H}{ro:Nat}{c:A'X H}
attribute [local simp] A'b A'c reg to too A'a A'n A'i mv' nl' fl' ld' ln' mk' ia' ik' ix' B'C B'D aLd A'5 A'q A'2 aUn unA ev A'k isB A'Z A'C A'D A'E A'F A'G A'H A'I A'J A'K cIf A'y A'f A'g aSt A'M A't A'N A'O A'P B'c A'Q A'u A'R A'S B'd A'T A'v A'U A'V A'W B'e A'l Instr.fill A'e A'r A'z A's ptr undef B'o B'r A'j B'n A'w A'B B'A A'x B'p rangeA B'E A'o A'4 A'A B'i A'p A'm chk
variable {w w':Own}{h h':H}{q:Nat}{S:Srch}{bW bH bV:Nat}{vA vC vT vS vK:Value}{lv wv:List Value}
variable {cp:Nat}{N:Ck}{v1 v2:Value}
theorem H'T (C:LP' O ro c)(L:O.Law){r:Nat}{R R1:Rn}{bud:Int}{vF vW vP:Value}{fs:List (Nat×Value)}(x:RN O ro w h r R bud cp N v1 v2 vF vW vP fs)(h0:0<=R.spent)(h00:R.spent<9223372036854775000)(hni:N.ni<=60)(hla:N.las.length<=60){level:Nat}{F:Go.Ta.Fr}(hF:R.frames[level]?=some F)(hM:1+N.ni+N.las.length<=F.s.model.length)(hM2:F.s.model.length<=192)(hs:B'3 N R level=some R1):
  ∃vW' h' w',c 124 [ptr r,ni level] h=some (.tuple #[],h')∧RN O ro w' h' r R1 bud cp N v1 v2 vF vW' vP fs∧Ch O (λu=>u=(5,0)∨u=(5,2)) w h w' h':=by
 have hm:most=1000000:=rfl;unfold B'3 at hs;rw[hF]at hs;simp only at hs;split at hs
 ·rename_i hwl
  simp only[l'a]at hs;have hlv:=(l'b.1 hF).1;have hlv':(level:Int)<R.frames.length:=by omega
  obtain⟨y,hy⟩:∃y,fs[level]?=some y:=⟨_,l'c (by rw[x.lF];exact hlv)⟩;obtain⟨s,vo⟩:=y;obtain⟨hZ,⟨vE,vcl,vM,vK,vs,S0⟩,us,o0⟩:=x.fr level F _ hF hy;obtain⟨b,q,eF,yb,hk0,hk1⟩:=x.getF level hy;obtain⟨g1,w1,e1,c1,lo1,l1,l2⟩:=N'1 C L x.X yb hk0 S0 hM hM2 hni hla;obtain⟨k0,hkk⟩:=C'I w (O.next h);have y2:=Bx.new L (ro:=ro) w1 g1 lo1 (14,k0) [.int .i64 0,.int .i64 0];have c2:=Ch.new L (λ_=>False) w1 g1 (14,k0) [.int .i64 0,.int .i64 0];obtain⟨st,hst⟩:=e' ((B'X N F.s).1);obtain⟨inp,hin⟩:=e' ((B'X N F.s).2);rw[<-hst,<-hin]at e1;obtain⟨g3,p3,y3,c3⟩:=Bx.over L (K:=λu=>u=((14,k0):Tag)) rfl y2 (show [ni st,ni inp].length = _ from rfl);have c13:=Ch.own (k:=k0) (c1.trans c2) c3 hkk;have lo3:ro<=O.next g3:=l'G x.lo c13.nx
  have sW3:=x.sW.ch L c13;have m3:=x.m.ch L c13;have hwlen:=A'0 prC 2 C'n R.way;obtain⟨vW',g4,w4,e4,s4,c4,lo4⟩:=B'0 (bytes:=16) (new:=[ni st,ni inp]) L lo3 sW3.m (by omega) rfl (by omega) (by omega);have m4:=m3.ch L c4;have c5:=Ch.put L (K:=λu=>u=((5,0):Tag)) m4 4 (by simp) vW' rfl;have m5:=m4.put L 4 (by simp) vW';have p5:=A'8 (O:=O) (v:=vW') (m4.get 4 _ rfl);have c6:=Ch.put L (K:=λu=>u=((5,0):Tag)) m5 2 (by simp) (.int .i64 (R.spent+1)) rfl;have m6:=m5.put L 2 (by simp) (.int .i64 (R.spent+1));have p6:=A'8 (O:=O) (v:=.int .i64 (R.spent+1)) (m5.get 2 _ rfl);have cc:Ch O (λu=>u=(5,0)∨u=(5,2)) w h w4 (O.put (O.put g4 r 4 vW') r 2 (.int .i64 (R.spent+1))):=(((c13.mono (by simp)).trans (c4.mono (λ_ h=>.inr h))).trans (c5.mono (λ_ h=>.inl h))).trans (c6.mono (λ_ h=>.inl h));have hway:R.way.flatMap prC++[ni st,ni inp]=(R.way++[B'X N F.s]).flatMap prC:=by
   rw[List.flatMap_append];simp[prC,hst,hin]
  rw[hway]at s4;refine⟨vW',_,w4,?_,⟨?_,x.X.ch L cc,x.sF.ch L cc,?_,?_,?_,l'G x.lo cc.nx⟩,cc⟩
  ·have r0:=x.m.get 0 _ rfl;have r3:=x.m.get 3 _ rfl;rw[eF]at r3;have q4:=m3.get 4 _ rfl;have q2:=m5.get 2 _ rfl;have hall:=y3.all;have rr:¬r<ro:=by have:=x.m.lo;omega
   have r1:¬O.next g1<ro:=by omega
   have hw:IntKind.i64.wrap (R.spent+1)=R.spent+1:=w'j;obtain⟨sp,hsp⟩:=e' (R.spent+1);have hw':IntKind.i64.wrap (R.spent+1)=sp:=by rw[hw,hsp]
   rw[<-hsp]at p6 ⊢;obtain⟨f1,f2,f3⟩:=s4.m.flat;generalize O.put (O.put g4 r 4 vW') r 2 (.int .i64 sp)=g6 at *;generalize O.put g4 r 4 vW'=g5 at *;simp only[l'n,l'o]at hall;have hr2:List.range 2=[0,1]:=rfl;unfold ptr at e1 r0;refine C.eq (N'S O ro) rfl rfl ?_;unfold S'a;refine s'f ?_;simp[Zk4,A'd,r3,r0,hlv,hlv',e1,r1,p3];refine s'f ?_;simp[Zk5,A'd,q4,hall,hr2,e4,p5,f1,f2,rr];refine f'f ?_;simp[Zk6,q2,hw',p6,rr,A'L,A'h,rvE]
  ·rw[<-hs];exact m6
  ·rw[<-hs];exact x.lF
  ·intro i F' y' hF' hy';rw[<-hs]at hF';exact (x.fr i F' y' hF' hy').ch L cc (λj=>by simp) (λj=>by simp;omega) (λj=>by simp;omega)
  ·rw[<-hs];exact ((s4.ch L c5).ch L c6)
 ·simp at hs
end
end Go.Proofs.YtimdkminagnhgabGreatDoor
namespace Go.Ta
def ClK (N:Ck)(l:List Nat): Prop:=l.length<=192∧∀x∈l,x/2<N.las.length
def FrK (N:Ck)(F:Fr): Prop:=ZOk F.s∧F.s.early.length=N.nv∧F.own.length<=most∧∀l∈F.own,ClK N l
structure RnK (N:Ck)(R:Rn):Prop where
 sp:0<=R.spent
 fr:∀F∈R.frames,FrK N F
 wy:∀m∈R.way,m.1<1152921504606846976∧m.2<1152921504606846976
 wl:R.way.length<=most
 fl:R.frames.length<=most
theorem G'9 (s:Solv)(first:Nat): ∀count,B'7 s first count<2^count:=by
 intro count
 induction count with
 | zero=>simp[B'7]
 | succ n ih=>
  unfold B'7 at ih ⊢;rw[l'B,List.foldl_append];simp only[List.foldl_cons,List.foldl_nil];generalize (List.range n).foldl (λn j=>if s.model.getD (first+j) false then n ||| 2^j else n) 0=x at ih;have h2:2^n<2^(n+1):=Nat.pow_lt_pow_right (by omega) (by omega);split
  ·exact Nat.or_lt_two_pow (by omega) h2
  ·omega
theorem K'9 (N:Ck)(s:Solv)(h:N.las.length<=60)(hi:N.ni<=60): (B'X N s).1<1152921504606846976∧(B'X N s).2<1152921504606846976:=by
 have h1:=G'9 s (1+N.ni) N.las.length;have h2:2^N.las.length<=2^60:=Nat.pow_le_pow_right (by omega) h;have h3:=G'9 s 1 N.ni;have h4:2^N.ni<=2^60:=Nat.pow_le_pow_right (by omega) hi;unfold B'X;simp only;omega
theorem N'2 {α:Type}{P:α->Prop}{l:List α}{i:Nat}{y:α}(h:∀x∈l,P x)(hy:P y): ∀x∈l.set i y,P x:=by
 intro x hx;rcases List.mem_or_eq_of_mem_set hx with h1|h1
 ·exact h x h1
 ·subst h1;exact hy
theorem P'8 {N:Ck}{f n:Nat}{bud:Int}{R R1:Rn}{level a:Nat}{l:List Nat}(hs:N'O f n bud R level l=some (R1,a))(k:RnK N R):
  RnK N R1∧R1.way=R.way∧R1.kept=R.kept∧R1.frames.length=R.frames.length∧(a=1->∀F,R1.frames[level]?=some F->F.s.model.length=N.nv)∧(a≠3->R1.spent<=bud):=by
 unfold N'O at hs;split at hs
 ·simp at hs
 rename_i F hF
 split at hs
 ·simp at hs
 rename_i Z' a' hsv
 simp only[l'a,l'd]at hs;obtain⟨rfl,ha⟩:=hs;have hlv:=(l'b.1 hF).1;have kF:=k.fr F (l'f hF);obtain⟨ok',he,hc,-⟩:=F'X hsv kF.1;have sp:=k.sp;refine⟨⟨by simp only;omega,N'2 k.fr ⟨ok',by simp only[he];exact kF.2.1,kF.2.2⟩,k.wy,k.wl,by simp[k.fl]⟩,rfl,rfl,by simp,?_,?_⟩
 ·intro h1 F' hF';simp only[l'g hlv,l'a]at hF';subst hF';have ha':a'=1:=by
   subst h1;split at ha
   ·omega
   ·exact ha
  subst ha';have hE:=kF.2.1;unfold D'A at hsv;split at hsv
  ·split at hsv
   ·simp at hsv
   ·split at hsv
    ·simp only[l'a,l'd]at hsv;obtain⟨rfl,rfl⟩:=hsv;simp[hE]
    ·simp at hsv
  ·simp at hsv
 ·intro h3;simp only;split at ha
  ·omega
  ·omega
theorem G'E {N:Ck}{R R1:Rn}{level:Nat}(hs:B'3 N R level=some R1)(h6:N.las.length<=60)(h7:N.ni<=60)(k:RnK N R): RnK N R1∧R1.frames=R.frames∧R1.kept=R.kept:=by
 unfold B'3 at hs;split at hs
 ·simp at hs
 split at hs
 ·simp only[l'a]at hs;subst hs;have sp:=k.sp
  rename_i hwl
  refine⟨⟨by simp only;omega,k.fr,?_,by simp;omega,k.fl⟩,rfl,rfl⟩;intro m hm;simp only[l'E,l'm]at hm;rcases hm with hm|rfl
  ·exact k.wy m hm
  ·exact K'9 N _ h6 h7
 ·simp at hs
end Go.Ta
namespace Go.Proofs.YtimdkminagnhgabGreatDoor
open Go.Vm Go.Proofs Go.Ta
set_option maxHeartbeats 4000000
section
variable {H:Type}{O:HI H}{ro:Nat}{c:A'X H}
attribute [local simp] A'b A'c reg to too A'a A'n A'i mv' nl' fl' ld' ln' mk' ia' ik' ix' B'C B'D aLd A'5 A'q A'2 aUn unA ev A'k isB A'Z A'C A'D A'E A'F A'G A'H A'I A'J A'K cIf A'y A'f A'g aSt A'M A't A'N A'O A'P B'c A'Q A'u A'R A'S B'd A'T A'v A'U A'V A'W B'e A'l Instr.fill A'e A'r A'z A's ptr undef B'o B'r A'j B'n A'w A'B B'A A'x B'p rangeA B'E A'o A'4 A'A B'i A'p A'm chk
variable {w w':Own}{h h':H}{q:Nat}{S:Srch}{bW bH bV:Nat}{vA vC vT vS vK:Value}{lv wv:List Value}
variable {cp:Nat}{N:Ck}{v1 v2:Value}
theorem RN.own (L:O.Law){K:Tag->Prop}{r:Nat}{R:Rn}{bud:Int}{vF vW vP:Value}{fs:List (Nat×Value)}(x:RN O ro w h r R bud cp N v1 v2 vF vW vP fs){i:Nat}{F:Go.Ta.Fr}{s:Nat}{vo v:Value}{us:List Value}{own:List (List Nat)}(hF:R.frames[i]?=some F)(hy:fs[i]?=some (s,vo))(a:Ch O K w h w' h')(hK:∀u,K u->u=(5,1)∨u=(1001+2*i,3)){b n q:Nat}(eF:vF = .slice (some ⟨b,0,some 2⟩) n q)(yb:Bx O ro w' h' (5,1) b ((fs.flatMap frC).set (i*2+1) v))(cs:Cs O ro w' h' (1001+2*i,3) v us own):
  RN O ro w' h' r { R with frames:=R.frames.set i { F with own:=own } } bud cp N v1 v2 vF vW vP (fs.set i (s,v)):=by
 have hlen:=A'0 frC 2 D'o fs;obtain⟨hj,hjy⟩:=l'b.1 hy;have hi:=(l'b.1 hF).1;have hset:(fs.flatMap frC).set (i*2+1) v=(fs.set i (s,v)).flatMap frC:=F'i frC 2 D'o fs i hj 1 v (s,v) (by omega) (by rw[hjy];rfl);have kc:∀t:Tag,t≠(5,1)->t≠(1001+2*i,3)->¬K t:=λt h1 h2 h3=>by rcases hK t h3 with h|h;exact h1 h;exact h2 h
 refine⟨x.m.ch L a (kc _ (by simp) (by simp <;> omega)),x.X.ch L a (λi=>kc _ (by simp) (by simp <;> omega)),?_,by simp[x.lF],?_,x.sW.ch L a (kc _ (by simp) (by simp <;> omega)),l'G x.lo a.nx⟩
 ·rcases x.sF with e|⟨b',m,cp',e,ec,el,y⟩
  ·rw[e.2]at hlen;simp at hlen;omega
  ·rw[eF]at e ⊢;simp at e;obtain⟨rfl,rfl,rfl⟩:=e;rw[hset]at yb;exact .inr ⟨_,_,_,rfl,ec,by rw[<-el,<-hset];simp,yb⟩
 ·intro j F' y' hF' hy';simp only at hF'
  by_cases e:j=i
  ·subst e;rw[l'g hi]at hF';rw[l'g hj]at hy';simp only[l'a]at hF' hy';subst hF' hy';obtain⟨z,⟨vE,vcl,vM,vK,vs,y⟩,us',u⟩:=x.fr j F _ hF hy;exact⟨z,⟨_,_,_,_,_,y.ch L a (λi=>kc _ (by simp) (by simp <;> omega)) (λi=>kc _ (by simp <;> omega) (by simp <;> omega))⟩,us,cs⟩
  ·rw[l'h (λh=>e h.symm)]at hF' hy';exact (x.fr j F' y' hF' hy').ch L a (λi=>kc _ (by simp) (by simp <;> omega)) (λk=>kc _ (by simp <;> omega) (by simp <;> omega)) (λk=>kc _ (by simp <;> omega) (by simp <;> omega))
end
end Go.Proofs.YtimdkminagnhgabGreatDoor
namespace Go.Proofs.YtimdkminagnhgabGreatDoor
open Go.Vm Go.Proofs Go.Ta
set_option maxHeartbeats 4000000
section
variable {H:Type}{O:HI H}{ro:Nat}{c:A'X H}
attribute [local simp] A'b A'c reg to too A'a A'n A'i mv' nl' fl' ld' ln' mk' ia' ik' ix' B'C B'D aLd A'5 A'q A'2 aUn unA ev A'k isB A'Z A'C A'D A'E A'F A'G A'H A'I A'J A'K cIf A'y A'f A'g aSt A'M A't A'N A'O A'P B'c A'Q A'u A'R A'S B'd A'T A'v A'U A'V A'W B'e A'l Instr.fill A'e A'r A'z A's ptr undef B'o B'r A'j B'n A'w A'B B'A A'x B'p rangeA B'E A'o A'4 A'A B'i A'p A'm chk
variable {w w':Own}{h h':H}{q:Nat}{S:Srch}{bW bH bV:Nat}{vA vC vT vS vK:Value}{lv wv:List Value}
variable {cp:Nat}{N:Ck}{v1 v2:Value}
def Kb (u:Tag): Prop:=u.1=5∨1000<=u.1
theorem Kb.no {t:Tag}(h1:t.1<1000)(h2:t.1≠5): ¬Kb t:=by unfold Kb;omega
theorem RN.wayL (L:O.Law){r:Nat}{R:Rn}{bud:Int}{vF vW vP:Value}{fs:List (Nat×Value)}(x:RN O ro w h r R bud cp N v1 v2 vF vW vP fs)(h0:0<R.way.length){st inp:Nat}(hl:R.way.getLast?=some (st,inp)):
  ∃b,vW = .slice (some ⟨b,0,some 2⟩) R.way.length 0∧O.cell h b ((R.way.length-1)*2)=some (ni st)∧Sz O ro w h (5,2) 2 (.slice (some ⟨b,0,some 2⟩) (R.way.length-1) 0) (R.way.dropLast.flatMap prC):=by
 have hlen:=A'0 prC 2 C'n R.way;have hd:R.way=R.way.dropLast++[(st,inp)]:=by
  obtain⟨ys,hys⟩:=List.getLast?_eq_some_iff.1 hl;rw[hys];simp
 have hlen2:=A'0 prC 2 C'n R.way.dropLast;simp only[List.length_dropLast]at hlen2;rcases x.sW.take (by omega) R.way.length (R.way.length-1) hlen (by omega) with ⟨h1,h2,h3,h4⟩|⟨b,e,s⟩
 ·omega
 ·refine⟨b,e,?_,?_⟩
  ·obtain⟨b',e',y⟩:=x.sW.blk (by omega) R.way.length hlen (by omega);rw[e]at e';simp only[Value.slice.injEq,l'a,Addr.mk.injEq,and_true,true_and]at e';subst e';rw[y.cell _ (by omega),hd,List.flatMap_append];have:(R.way.dropLast++[(st,inp)]).length-1=R.way.length-1:=by simp
   rw[this,l'z (by omega)];simp[hlen2,prC]
  ·have ht:(R.way.flatMap prC).take ((R.way.length-1)*2)=R.way.dropLast.flatMap prC:=by
    rw[<-hlen2]
    conv=>lhs;rw[hd,List.flatMap_append]
    simp only[List.dropLast_concat];rw[List.take_left]
   rw[ht]at s;exact s
def J'T (O:HI H)(ro:Nat)(w:Own)(h:H)(r:Nat)(bud:Int)(cp:Nat)(N:Ck)(v1 v2 vF vP:Value)(Rf:Rn)(FL:Nat)(g:H): Prop:=
 ∃fs vW w1,RN O ro w1 g r Rf bud cp N v1 v2 vF vW vP fs∧RnK N Rf∧Rf.frames.length=FL∧Ch O Kb w h w1 g
def R'q (O:HI H)(ro:Nat)(w:Own)(h:H)(r:Nat)(bud:Int)(cp:Nat)(N:Ck)(v1 v2 vF vP:Value)(Rf:Rn)(FL f nn v:Nat)(n:Nat)(t:Env)(g:H): Prop:=
 t 0 = .pointer (some ⟨r,0,none⟩)∧∃R,E'K f nn N bud n R=some (Rf,v)∧J'T O ro w h r bud cp N v1 v2 vF vP R FL g
theorem N'3 (C:LP' O ro c)(L:O.Law){r:Nat}{bud:Int}{vF vP:Value}(hb:bud<=2305843009213693952)(hni:N.ni<=60)(hla:N.las.length<=60){Rf:Rn}{FL f nn v n:Nat}{t:Env}{g:H}(I:R'q O ro w h r bud cp N v1 v2 vF vP Rf FL f nn v n t g):
  okE c (J'd O Tryz.prog ro) (t,g) (λe t' g'=>(e = .normal∧∃n',n'<n∧R'q O ro w h r bud cp N v1 v2 vF vP Rf FL f nn v n' t' g')∨(e≠.normal∧((A's 0 e = .normal∧v=0∨A's 0 e = .ret∧t' 2=ni v)∧J'T O ro w h r bud cp N v1 v2 vF vP Rf FL g'))):=by
 have hm:most=1000000:=rfl;obtain⟨d0,R,hs,fs,vW,w1,x,k,hFL,c1⟩:=I
 cases n with
 | zero=>simp[E'K]at hs
 | succ m=>
 rw[E'K]at hs;have hn:=x.X.nv;unfold Ck.nv at hn;have m1:=x.m.get 1 _ rfl;have m2:=x.m.get 2 _ rfl;have m3:=x.m.get 3 _ rfl;have m4:=x.m.get 4 _ rfl;have m0:=x.m.get 0 _ rfl;split at hs
 ·rename_i hw
  simp only[l'a,l'd]at hs;obtain⟨rfl,rfl⟩:=hs;have hw0:R.way=[]:=by simpa using hw
  obtain⟨aW,cW,hvW⟩:=x.sW.m.len (by omega) 0 (by rw[hw0];rfl);rw[hvW]at m4;refine f'f ?_;simp[J'd,Zk8,d0,m4];exact⟨fs,_,w1,x,k,hFL,c1⟩
 ·rename_i st inp hw
  have h0:0<R.way.length:=by
   rcases Nat.eq_zero_or_pos R.way.length with h|h
   ·rw[List.eq_nil_of_length_eq_zero h]at hw;simp at hw
   ·exact h
  obtain⟨bw,hvW,hst,sw⟩:=x.wayL L h0 hw;have hmem:(st,inp)∈R.way:=List.mem_of_getLast? hw;have hstb:=(k.wy _ hmem).1;simp only at hstb;have wl:=k.wl;have fl:=k.fl;obtain⟨n1,hn1⟩:∃n1,R.way.length=n1+1:=⟨R.way.length-1,by omega⟩;rw[hvW,hn1]at m4;have hn2:R.way.length-1=n1:=by omega
  rw[hn2]at hst sw;have hwn:IntKind.i64.wrap (n1:Int)=(n1:Int):=w'j;have hgt:(0:Int)<(n1:Int)+1:=by omega
  refine s'f ?_;simp[Zk8,A'd,d0,m4,hgt];refine okE.blk ?_;split at hs
  ·rename_i hlt
   simp only[l'a,l'd]at hs;obtain⟨rfl,rfl⟩:=hs;refine f'f ?_;simp[Zk9,Zla,d0,m1,m2,hlt];exact⟨fs,_,w1,x,k,hFL,c1⟩
  rename_i hlt
  obtain⟨aF,cF,hvF⟩:=x.sF.len (by omega) R.frames.length (by rw[A'0 frC 2 D'o,x.lF]);rw[hvF]at m3;have hw3:IntKind.i64.wrap ((R.frames.length:Int)-((n1:Int)+1))=(R.frames.length:Int)-((n1:Int)+1):=w'j;obtain⟨lev,hlev⟩:∃lev:Int,lev=(R.frames.length:Int)-((n1:Int)+1):=⟨_,rfl⟩;have hw3':IntKind.i64.wrap ((R.frames.length:Int)-((n1:Int)+1))=lev:=by rw[hw3,hlev]
  have hn1':(n1:Int)<(n1:Int)+1:=by omega
  refine s'f ?_;simp[Zk9,A'd,d0,m1,m2,hlt];refine s'f ?_;simp[Zlb,A'd,d0,m3,m4,hw3'];refine s'f ?_;simp[Zlc,A'd,d0,m4,hwn,hn1',hst];have eb:=K'8 C L x.X (show st<9223372036854775808 by omega) hla;unfold ptr at eb m0;split at hs
  ·rename_i hor
   simp only[l'a,l'd]at hs;obtain⟨rfl,rfl⟩:=hs
   by_cases hl0:lev<=0
   ·refine f'f ?_;simp[Zld,Zle,d0,hl0];exact⟨fs,_,w1,by rw[hvW,hn1]at x;exact x,k,hFL,c1⟩
   ·have hbt:B'N N st=true:=by
     rcases hor with h|h
     ·omega
     ·exact h
    rw[hbt]at eb;refine f'f ?_;simp[Zld,Zle,d0,hl0,m0,eb];exact⟨fs,_,w1,by rw[hvW,hn1]at x;exact x,k,hFL,c1⟩
  ·simp at hs
theorem P'9 (C:LP' O ro c)(L:O.Law){r:Nat}{R Rf:Rn}{bud:Int}{vF vW vP:Value}{fs:List (Nat×Value)}(x:RN O ro w h r R bud cp N v1 v2 vF vW vP fs)(k:RnK N R)(hb:bud<=2305843009213693952)(hni:N.ni<=60)(hla:N.las.length<=60){f nn m v:Nat}(hs:E'K f nn N bud m R=some (Rf,v)):
  ∃h',c 125 [ptr r] h=some (ni v,h')∧J'T O ro w h r bud cp N v1 v2 vF vP Rf R.frames.length h':=by
 have key:∃u h',c 125 [ptr r] h=some (u,h')∧(u=ni v∧J'T O ro w h r bud cp N v1 v2 vF vP Rf R.frames.length h'):=by
  refine C.fn (N'T O ro) rfl rfl ?_;unfold S'b;refine s'f ?_;simp[Zk7,A'd];refine okE.seq (okE.blk ?_);refine okE.mono (okE.loop (Q:=λe t' g'=>(A's 0 e = .normal∧v=0∨A's 0 e = .ret∧t' 2=ni v)∧J'T O ro w h r bud cp N v1 v2 vF vP Rf R.frames.length g') (R'q O ro w h r bud cp N v1 v2 vF vP Rf R.frames.length f nn v) (λn t g I=>N'3 C L hb hni hla I) m _ _ ⟨by simp,R,hs,fs,vW,w,x,k,rfl,Ch.refl _ _ _⟩) ?_;rintro e t g ⟨h1,h2⟩;rcases h1 with ⟨hr,rfl⟩|⟨hr,h3⟩
  ·rw[hr];simp only[A'd];refine f'f ?_;simp[Zls,A'L,A'h,rvE];exact h2
  ·rw[hr];simp[A'd,A'L,A'h,rvE,h3];exact h2
 obtain⟨u,h',e1,rfl,e2⟩:=key;exact⟨h',e1,e2⟩
end
end Go.Proofs.YtimdkminagnhgabGreatDoor
namespace Go.Proofs.YtimdkminagnhgabGreatDoor
open Go.Vm Go.Proofs Go.Ta
set_option maxHeartbeats 4000000
section
variable {H:Type}{O:HI H}{ro:Nat}{c:A'X H}
attribute [local simp] A'b A'c reg to too A'a A'n A'i mv' nl' fl' ld' ln' mk' ia' ik' ix' B'C B'D aLd A'5 A'q A'2 aUn unA ev A'k isB A'Z A'C A'D A'E A'F A'G A'H A'I A'J A'K cIf A'y A'f A'g aSt A'M A't A'N A'O A'P B'c A'Q A'u A'R A'S B'd A'T A'v A'U A'V A'W B'e A'l Instr.fill A'e A'r A'z A's ptr undef B'o B'r A'j B'n A'w A'B B'A A'x B'p rangeA B'E A'o A'4 A'A B'i A'p A'm chk
variable {w w':Own}{h h':H}{q:Nat}{S:Srch}{bW bH bV:Nat}{vA vC vT vS vK:Value}{lv wv:List Value}
variable {cp:Nat}{N:Ck}{v1 v2:Value}
theorem Kb.ask {lv:Nat}(u:Tag)(hu:u=(5,0)∨Ks (1000+2*lv) u): Kb u:=by
 rcases hu with h|h
 ·left;rw[h]
 ·right;unfold Ks at h;omega
theorem RN.keep (L:O.Law){r:Nat}{R:Rn}{bud:Int}{vF vW vP:Value}{fs:List (Nat×Value)}(x:RN O ro w h r R bud cp N v1 v2 vF vW vP fs)(a:Ch O (λ_=>False) w h w' h'): RN O ro w' h' r R bud cp N v1 v2 vF vW vP fs:=
 ⟨x.m.ch L a,x.X.ch L a,x.sF.ch L a,x.lF,λi F y h1 h2=>(x.fr i F y h1 h2).ch L a,x.sW.ch L a,l'G x.lo a.nx⟩
def RcI (O:HI H)(ro:Nat)(w:Own)(h:H)(r:Nat)(bud:Int)(cp:Nat)(N:Ck)(v1 v2 vF vP:Value)(Rf:Rn)(FL f nn v:Nat)(n:Nat)(t:Env)(g:H): Prop:=
 t 0 = .pointer (some ⟨r,0,none⟩)∧t 3=ni (FL-1)∧∃R,C'N f nn N bud n R=some (Rf,v)∧J'T O ro w h r bud cp N v1 v2 vF vP R FL g
theorem J'i (C:LP' O ro c)(L:O.Law){r:Nat}{bud:Int}{vF vP:Value}(hb:bud<=2305843009213693952)(hni:N.ni<=60)(hla:N.las.length<=60){Rf:Rn}{FL f nn v n:Nat}(hFp:0<FL){t:Env}{g:H}(I:RcI O ro w h r bud cp N v1 v2 vF vP Rf FL f nn v n t g):
  okE c (P'2 O Tryz.prog ro) (t,g) (λe t' g'=>(e = .normal∧∃n',n'<n∧RcI O ro w h r bud cp N v1 v2 vF vP Rf FL f nn v n' t' g')∨(e≠.normal∧((A's 0 e = .ret∧t' 2=ni v)∧J'T O ro w h r bud cp N v1 v2 vF vP Rf FL g'))):=by
 have hm:most=1000000:=rfl;obtain⟨d0,d3,R,hs,fs,vW,w1,x,k,hFL,c1⟩:=I
 cases n with
 | zero=>simp[C'N]at hs
 | succ m=>
 rw[C'N]at hs;have m0:=x.m.get 0 _ rfl;have x3:=x.X.m.get 3 _ rfl;have y0:=Bx.new L (ro:=ro) w1 g x.lo (8,0) [ni N.bad];have c0:=Ch.new L (λ_=>False) w1 g (8,0) [ni N.bad];have x0:=x.keep L c0;have sl:Sm O ro (w1.set (O.next g) (8,0)) (O.new g [ni N.bad]) (8,0) 1 (.slice (some ⟨O.next g,0,some 1⟩) 1 2) ([N.bad].map ni):=.inr ⟨_,1,2,rfl,.inr rfl,rfl,y0⟩;unfold ptr at m0;rw[hFL]at hs;have hr1:List.range 1=[0]:=rfl;refine okE.blk ?_;split at hs
 ·simp at hs
 ·rename_i R1 hask
  obtain⟨g4,w4,e4,x4,c4,h4⟩:=R'p C L x0 hb k.sp (by unfold K11;simp) sl hask;obtain⟨k4,kw,kk,kfl,kmod,ksp⟩:=P'8 hask k;rw[kfl,hFL]at hs;have ksp:=ksp (by omega);split at hs
  ·simp at hs
  rename_i R2 hlen
  obtain⟨F,hF⟩:∃F,R1.frames[FL-1]?=some F:=by
   unfold B'3 at hlen;split at hlen
   ·simp at hlen
   ·rename_i F hF;exact⟨F,hF⟩
  have hmod:=kmod rfl F hF;have hnv:=x.X.nv;have hnv2:N.nv=1+N.ni+N.las.length+N.gts.length:=rfl;obtain⟨vW5,g5,w5,e5,x5,c5⟩:=H'T C L x4 h4 (by omega) hni hla hF (by omega) (by omega) hlen;obtain⟨k5,kf5,-⟩:=G'E hlen hla hni k4;have cc:Ch O Kb w h w5 g5:=c1.trans ((c0.mono (by simp)).trans ((c4.mono Kb.ask).trans (c5.mono (λu hu=>by rcases hu with h|h <;> (left;rw[h])))));have hf5:R2.frames.length=FL:=by rw[kf5];omega
  unfold ptr at e4 e5;split at hs
  ·simp at hs
  ·simp at hs
  ·rename_i R3 v3 hv3 hbar
   simp only[l'a,l'd]at hs;obtain⟨rfl,rfl⟩:=hs;have hne:v3≠0:=λh=>by subst h;simp at hv3
   have hne':((v3:Int) != 0)=true:=bne_iff_ne.2 (by omega);obtain⟨g6,e6,fs6,vW6,w6,x6,k6,hf6,c6⟩:=P'9 C L x5 k5 hb hni hla hbar;unfold ptr at e6;refine s'f ?_;simp[Zks,A'd,d0,d3,m0,x3,hr1,e4];refine s'f ?_;simp[Zkt,Zku,Zkw,A'd];refine s'f ?_;simp[Zky,A'd,d0,d3,e5];refine s'f ?_;simp[Zkz,A'd,d0,e6];refine f'f ?_;simp[ZkA,ZkB,hne,hne'];exact⟨fs6,_,w6,x6,k6,by omega,cc.trans c6⟩
 ·simp at hs
theorem L'a (C:LP' O ro c)(L:O.Law){r:Nat}{R Rf:Rn}{bud:Int}{vF vW vP:Value}{fs:List (Nat×Value)}(x:RN O ro w h r R bud cp N v1 v2 vF vW vP fs)(k:RnK N R)(hFp:0<R.frames.length)(hb:bud<=2305843009213693952)(hni:N.ni<=60)(hla:N.las.length<=60){f nn m v:Nat}(hs:C'N f nn N bud m R=some (Rf,v)):
  ∃h',c 84 [ptr r] h=some (ni v,h')∧J'T O ro w h r bud cp N v1 v2 vF vP Rf R.frames.length h':=by
 have hm:most=1000000:=rfl;have key:∃u h',c 84 [ptr r] h=some (u,h')∧(u=ni v∧J'T O ro w h r bud cp N v1 v2 vF vP Rf R.frames.length h'):=by
  refine C.fn (P'3 O ro) rfl rfl ?_;unfold F84;have m3:=x.m.get 3 _ rfl;obtain⟨aF,cF,hvF⟩:=x.sF.len (by omega) R.frames.length (by rw[A'0 frC 2 D'o,x.lF]);rw[hvF]at m3;have fl:=k.fl;obtain⟨n1,hn1⟩:∃n1,R.frames.length=n1+1:=⟨R.frames.length-1,by omega⟩;have hw:IntKind.i64.wrap ((R.frames.length:Int)-1)=(n1:Int):=w'i;refine s'f ?_;simp[Zkq,A'd];refine s'f ?_;simp[Zkr,A'd,m3,hw];refine okE.blk ?_;refine okE.mono (okE.loop (Q:=λe t' g'=>(A's 0 e = .ret∧t' 2=ni v)∧J'T O ro w h r bud cp N v1 v2 vF vP Rf R.frames.length g') (RcI O ro w h r bud cp N v1 v2 vF vP Rf R.frames.length f nn v) (λn t g I=>J'i C L hb hni hla hFp I) m _ _ ⟨by simp,by simp <;> omega,R,hs,fs,vW,w,x,k,rfl,Ch.refl _ _ _⟩) ?_;rintro e t g ⟨⟨hr,h3⟩,h2⟩;rw[hr];simp[A'd,A'L,A'h,rvE,h3];exact h2
 obtain⟨u,h',e1,rfl,e2⟩:=key;exact⟨h',e1,e2⟩
end
end Go.Proofs.YtimdkminagnhgabGreatDoor
namespace Go.Proofs.YtimdkminagnhgabGreatDoor
open Go.Vm Go.Proofs Go.Ta
set_option maxHeartbeats 4000000
section
variable {H:Type}{O:HI H}{ro:Nat}{c:A'X H}
attribute [local simp] A'b A'c reg to too A'a A'n A'i mv' nl' fl' ld' ln' mk' ia' ik' ix' B'C B'D aLd A'5 A'q A'2 aUn unA ev A'k isB A'Z A'C A'D A'E A'F A'G A'H A'I A'J A'K cIf A'y A'f A'g aSt A'M A't A'N A'O A'P B'c A'Q A'u A'R A'S B'd A'T A'v A'U A'V A'W B'e A'l Instr.fill A'e A'r A'z A's ptr undef B'o B'r A'j B'n A'w A'B B'A A'x B'p rangeA B'E A'o A'4 A'A B'i A'p A'm chk
variable {w w':Own}{h h':H}{q:Nat}{S:Srch}{bW bH bV:Nat}{vA vC vT vS vK:Value}{lv wv:List Value}
variable {cp:Nat}{N:Ck}{v1 v2:Value}
theorem L'b (L:O.Law){t t2:Tag}{sz bytes:Nat}{v u:Value}{l l2:List Value}(hro:ro<=O.next h)(x:Sm O ro w h t sz v l)(y:Sm O ro w h t2 sz u l2)(hsz:0<sz)(n1 n2:Nat)(hn1:l.length=n1*sz)(hn2:l2.length=n2*sz)(hsize:¬((n1+n2)*bytes>140737488355328∨n1+n2>140737488355328)):
  ∃v' h' w',D'd O ro sz bytes v u h=some (v',h')∧Sm O ro w' h' t sz v' (l++l2)∧Ch O (λu=>u=t) w h w' h'∧ro<=O.next h':=by
 obtain⟨a1,q1,e1⟩:=x.len hsz n1 hn1;have hs2:(u = .slice none 0 0∧n2=0∧l2=[])∨∃b2 q2,u = .slice (some ⟨b2,0,some sz⟩) n2 q2∧cellsA O h b2 0 (n2*sz)=some l2:=by
  rcases y with ⟨f1,f2⟩|⟨b,m,cp,f,fc,fl,yb⟩
  ·left;rw[f2]at hn2;have:n2=0:=by
    rcases Nat.mul_eq_zero.1 hn2.symm with h|h <;> omega
   exact⟨f1,this,f2⟩
  ·right;have hm:m=n2:=Nat.eq_of_mul_eq_mul_right hsz (by omega);have:=yb.all;rw[hn2]at this;exact⟨b,cp,by rw[f,hm],this⟩
 rcases x with ⟨rfl,rfl⟩|⟨b,m,cp,rfl,hcp,el,x⟩
 ·simp only[Value.slice.injEq]at e1;obtain⟨rfl,h0,rfl⟩:=e1;have h1:n1=0:=by omega
  subst h1
  by_cases h2:n2=0
  ·subst h2;have:l2=[]:=List.eq_nil_of_length_eq_zero (by omega);subst this;refine⟨.slice none 0 0,h,w,?_,Sm.nil _ _ _ _,Ch.refl _ _ _,hro⟩;rcases hs2 with ⟨rfl,_,_⟩|⟨b2,q2,rfl,hc2⟩
   ·simp[D'd]
   ·simp only[D'd];rw[if_neg hsize,hc2];simp
  ·refine⟨.slice (some ⟨O.next h,0,some sz⟩) n2 0,O.new h l2,_,?_,.inr ⟨_,n2,0,rfl,.inl rfl,by simp[hn2],by simpa using Bx.new L w h hro t l2⟩,Ch.new L _ w h t l2,by rw[L.next_new];omega⟩;rcases hs2 with ⟨_,hz,_⟩|⟨b2,q2,rfl,hc2⟩
   ·exact absurd hz h2
   ·simp only[D'd];rw[if_neg hsize,hc2];simp[h2]
 ·simp only[Value.slice.injEq]at e1;obtain⟨rfl,h0,rfl⟩:=e1;have hm:m=n1:=by omega
  subst hm;have hold:cellsA O h b 0 (m*sz)=some l:=by rw[<-hn1];exact x.all
  have hbro:¬b<ro:=by have:=x.lo;omega
  have hal:=x.al;rcases hcp with rfl|rfl
  ·have nk:O.next (O.kill h b)=O.next h:=L.next_kill _ _
   refine⟨.slice (some ⟨O.next h,0,some sz⟩) (m+n2) 0,O.new (O.kill h b) (l++l2),w.set (O.next h) t,?_,.inr ⟨O.next h,m+n2,0,rfl,.inl rfl,by simp[hn1,hn2,Nat.add_mul],?_⟩,?_,?_⟩
   ·rcases hs2 with ⟨rfl,rfl,rfl⟩|⟨b2,q2,rfl,hc2⟩
    ·simp only[D'd];rw[if_neg hsize];simp[hbro,hal,hold]
    ·simp only[D'd];rw[if_neg hsize,hc2];simp[hbro,hal,hold]
   ·have:=Bx.new L (ro:=ro) w (O.kill h b) (by rw[nk];exact hro) t (l++l2);rw[nk]at this;exact this
   ·have c2:=Ch.kill L (K:=λu=>u=t) x rfl;have c3:=Ch.new L (λu=>u=t) w (O.kill h b) t (l++l2);rw[nk]at c3;exact c2.trans c3
   ·rw[L.next_new,nk];omega
  ·by_cases h2:n2=0
   ·subst h2;have:l2=[]:=List.eq_nil_of_length_eq_zero (by omega);subst this;refine⟨.slice (some ⟨b,0,some sz⟩) m (m+1),h,w,?_,.inr ⟨b,m,m+1,rfl,.inr rfl,by simp[hn1],by simpa using x⟩,Ch.refl _ _ _,hro⟩;rcases hs2 with ⟨rfl,_,_⟩|⟨b2,q2,rfl,hc2⟩
    ·simp only[D'd];rw[if_neg hsize];simp[hbro,hal,hold,A'6]
    ·simp only[D'd];rw[if_neg hsize,hc2];simp[hbro,hal,hold,A'6]
   ·refine⟨.slice (some ⟨O.next h,0,some sz⟩) (m+n2) 0,O.new h (l++l2),w.set (O.next h) t,?_,.inr ⟨O.next h,m+n2,0,rfl,.inl rfl,by simp[hn1,hn2,Nat.add_mul],Bx.new L w h hro t _⟩,Ch.new L _ w h t _,by rw[L.next_new];omega⟩;have h3:¬(m+n2<m+1):=by omega
    rcases hs2 with ⟨_,hz,_⟩|⟨b2,q2,rfl,hc2⟩
    ·exact absurd hz h2
    ·simp only[D'd];rw[if_neg hsize,hc2];simp[hbro,hal,hold,h3]
theorem Cs.give {k0:Nat}{v:Value}{us:List Value}{l:List (List Nat)}{g:H}{w1:Own}(cs:Cs O ro w1 g (14,k0) v us l)(c1:Ch O (λ_=>False) w h w1 g)(hk0:∀b,b<O.next h->w b≠((14,k0):Tag))(t1:Tag): ∃w2,Cs O ro w2 g t1 v us l∧Ch O (λ_=>False) w h w2 g:=by
 rcases id cs.s with e|⟨b0,m,cp,e,ec,el,y⟩
 ·exact⟨w1,⟨.inl e,cs.l,cs.a⟩,c1⟩
 ·have hb0:¬b0<O.next h:=λhb0=>hk0 b0 hb0 (by rw[<-c1.ow b0 hb0,y.tag])
  refine⟨w1.set b0 t1,⟨.inr ⟨b0,m,cp,e,ec,el,⟨by simp[Own.set],y.lo,y.al,y.cell⟩⟩,cs.l,λi l u h1 h2=>(cs.a i l u h1 h2).re y.tag (by simp)⟩,⟨c1.nx,λb' hb'=>?_,c1.fr⟩⟩;have:b'≠b0:=by rintro rfl;exact hb0 hb'
  simp only[Own.set,if_neg this];exact c1.ow b' hb'
end
end Go.Proofs.YtimdkminagnhgabGreatDoor
namespace Go.Ta
theorem L'c {N:Ck}{F:Fr}(hs:D'V N=some F)(hn:N.nv<=192): FrK N F∧F.own=[]:=by
 unfold D'V at hs;split at hs
 ·simp at hs
 ·rename_i s hs1
  simp only[l'a]at hs;subst hs;have key:∀(l:List (List Nat))(Z Z':Solv),C'm l Z=some Z'->ZOk Z->ZOk Z'∧Z'.early=Z.early:=by
   intro l
   induction l with
   | nil=>intro Z Z' h z;simp only[C'm,l'a]at h;subst h;exact⟨z,rfl⟩
   | cons a r ih=>
    intro Z Z' h z;unfold C'm at h;split at h
    ·simp at h
    ·rename_i Z1 h1
     obtain⟨z1,e1,-⟩:=G'B h1 z;obtain⟨z2,e2⟩:=ih _ _ h z1;exact⟨z2,by rw[e2,e1]⟩
  obtain⟨z,e⟩:=key _ _ _ hs1 ⟨by simpa using hn,by simp⟩;refine⟨⟨z,by simp only[e];simp,by simp,by simp⟩,rfl⟩
theorem L'd {f nn:Nat}{N:Ck}{bud:Int}: ∀(m:Nat)(R Rf:Rn) (v:Nat),E'K f nn N bud m R=some (Rf,v)->v≠1:=by
 intro m
 induction m with
 | zero=>intro R Rf v h;simp[E'K]at h
 | succ m ih=>
  intro R Rf v h;rw[E'K]at h;split at h
  ·simp only[l'a,l'd]at h;omega
  ·split at h
   ·simp only[l'a,l'd]at h;omega
   ·split at h
    ·simp only[l'a,l'd]at h;omega
    ·simp at h
theorem H'U {f nn:Nat}{N:Ck}{bud:Int}: ∀(m:Nat)(R Rf:Rn) (v:Nat),C'N f nn N bud m R=some (Rf,v)->v≠1:=by
 intro m
 induction m with
 | zero=>intro R Rf v h;simp[C'N]at h
 | succ m ih=>
  intro R Rf v h;rw[C'N]at h;split at h
  ·simp at h
  ·split at h
   ·simp at h
   ·split at h
    ·simp at h
    ·simp at h
    ·rename_i R3 v3 _ hb
     simp only[l'a,l'd]at h;have:=L'd _ _ _ _ hb;omega
  ·simp at h
end Go.Ta
namespace Go.Proofs.YtimdkminagnhgabGreatDoor
open Go.Vm Go.Proofs Go.Ta
set_option maxHeartbeats 4000000
section
variable {H:Type}{O:HI H}{ro:Nat}{c:A'X H}
attribute [local simp] A'b A'c reg to too A'a A'n A'i mv' nl' fl' ld' ln' mk' ia' ik' ix' B'C B'D aLd A'5 A'q A'2 aUn unA ev A'k isB A'Z A'C A'D A'E A'F A'G A'H A'I A'J A'K cIf A'y A'f A'g aSt A'M A't A'N A'O A'P B'c A'Q A'u A'R A'S B'd A'T A'v A'U A'V A'W B'e A'l Instr.fill A'e A'r A'z A's ptr undef B'o B'r A'j B'n A'w A'B B'A A'x B'p rangeA B'E A'o A'4 A'A B'i A'p A'm chk
variable {w w':Own}{h h':H}{q:Nat}{S:Srch}{bW bH bV:Nat}{vA vC vT vS vK:Value}{lv wv:List Value}
variable {cp:Nat}{N:Ck}{v1 v2:Value}
def DeQ (O:HI H)(ro:Nat)(w:Own)(h:H)(r:Nat)(bud:Int)(cp:Nat)(N:Ck)(v1 v2:Value)(Rf:Rn)(v:Nat)(g:H): Prop:=
 ∃fs vF vW vP w1,RN O ro w1 g r Rf bud cp N v1 v2 vF vW vP fs∧RnK N Rf∧0<Rf.frames.length∧Ch O Kb w h w1 g∧(v=1->(∃us,Cs O ro w1 g (5,3) vP us Rf.kept)∧(∀l∈Rf.kept,ClK N l)∧Rf.kept.length<=1000000000000)
def DeI (O:HI H)(ro:Nat)(w:Own)(h:H)(r:Nat)(bud:Int)(cp:Nat)(N:Ck)(v1 v2:Value)(Rf:Rn)(f nn v:Nat)(n:Nat)(t:Env)(g:H): Prop:=
 t 0 = .pointer (some ⟨r,0,none⟩)∧((v≠0∧t 3=ni v∧n=0∧DeQ O ro w h r bud cp N v1 v2 Rf v g)∨∃R m,n=m+1∧t 3=ni 0∧D'n f nn N bud m R=some (Rf,v)∧DeQ O ro w h r bud cp N v1 v2 R 0 g)
theorem L'e (C:LP' O ro c)(L:O.Law){r:Nat}{R Rf:Rn}{bud:Int}{vF vW vP:Value}{fs:List (Nat×Value)}(x:RN O ro w h r R bud cp N v1 v2 vF vW vP fs)(k:RnK N R)(hFp:0<R.frames.length)(hb:bud<=2305843009213693952)(hni:N.ni<=60)(hla:N.las.length<=60){f nn m v:Nat}(hs:D'n f nn N bud m R=some (Rf,v)):
  ∃h',c 43 [ptr r] h=some (ni v,h')∧DeQ O ro w h r bud cp N v1 v2 Rf v h':=by
 have key:∃u h',c 43 [ptr r] h=some (u,h')∧(u=ni v∧DeQ O ro w h r bud cp N v1 v2 Rf v h'):=by
  refine C.fn (P'Z O ro) rfl rfl ?_;unfold F43;refine s'f ?_;simp[ZjH,A'd];refine s'f ?_;simp[ZjI,A'd];refine okE.seq (okE.blk ?_);refine okE.mono (okE.loop (Q:=λe t' g'=>A's 0 e = .normal∧t' 3=ni v∧DeQ O ro w h r bud cp N v1 v2 Rf v g') (DeI O ro w h r bud cp N v1 v2 Rf f nn v) ?_ (m+1) _ _ ⟨by simp,.inr ⟨R,m,rfl,by simp,hs,fs,vF,vW,vP,w,x,k,hFp,Ch.refl _ _ _,by simp⟩⟩) ?_
  ·rintro n t g ⟨d0,hI⟩;rcases hI with ⟨hv,d3,rfl,hq⟩|⟨R,m,rfl,d3,hs,fs,vF,vW,vP,w1,x1,k1,hF1,c1,-⟩
   ·have hv':¬((v:Int)=0):=by omega
    have hv2:((v:Int)==0)=false:=by rw[l'A];exact hv'
    refine f'f ?_;simp[P'Y,ZjJ,d0,d3,hv,hv',hv2];exact hq
   ·cases m with
    | zero=>simp[D'n]at hs
    | succ m=>
    rw[D'n]at hs;refine s'f ?_;simp[ZjJ,A'd,d0,d3];refine okE.blk ?_;split at hs
    ·simp at hs
    ·simp at hs
    ·rename_i R1 v2 hne hcl
     simp only[l'a,l'd]at hs;obtain⟨rfl,rfl⟩:=hs;obtain⟨g2,e2,fs2,vW2,w2,x2,k2,hf2,c2⟩:=L'a C L x1 k1 hF1 hb hni hla hcl;have hv:v2≠0:=λh=>by subst h;simp at hne
     have hv':¬((v2:Int)=0):=by omega
     have hv2:((v2:Int)==0)=false:=by rw[l'A];exact hv'
     unfold ptr at e2;refine f'f ?_;simp[ZjK,ZjL,d0,e2,hv,hv',hv2];exact⟨0,by omega,by simp[d0],.inl ⟨hv,by simp,rfl,fs2,vF,vW2,vP,w2,x2,k2,by omega,c1.trans c2,λh1=>absurd h1 (H'U _ _ _ _ hcl)⟩⟩
  ·rintro e t g ⟨hr,h3,h2⟩;rw[hr];simp only[A'd];refine f'f ?_;simp[ZjN,h3,A'L,A'h,rvE];exact h2
 obtain⟨u,h',e1,rfl,e2⟩:=key;exact⟨h',e1,e2⟩
end
end Go.Proofs.YtimdkminagnhgabGreatDoor
