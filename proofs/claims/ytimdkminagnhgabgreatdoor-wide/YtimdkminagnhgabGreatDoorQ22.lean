import Derived.Test.YtimdkminagnhgabGreatDoorQ19
import Derived.Test.YtimdkminagnhgabGreatDoorQ20
import Derived.Test.YtimdkminagnhgabGreatDoorQ21
set_option linter.all false
namespace Go.Ta
theorem J'g: ∀(l acc:List Nat),(∀a∈C'M l acc,a∈l∨a∈acc)∧(C'M l acc).length<=acc.length+l.length:=by
 intro l
 induction l with
 | nil=>intro acc;simp[C'M]
 | cons b l ih=>
  intro acc;simp only[C'M];split
  ·obtain⟨h1,h2⟩:=ih acc;refine⟨λa ha=>?_,by simp;omega⟩;rcases h1 a ha with h|h
   ·exact .inl (List.mem_cons_of_mem _ h)
   ·exact .inr h
  ·obtain⟨h1,h2⟩:=ih (acc++[b]);refine⟨λa ha=>?_,by simp at h2 ⊢;omega⟩;rcases h1 a ha with h|h
   ·exact .inl (List.mem_cons_of_mem _ h)
   ·rcases l'E.1 h with h|h
    ·exact .inr h
    ·simp at h;subst h;exact .inl (List.mem_cons_self ..)
def ZOk (Z:Solv): Prop:=Z.early.length<=192∧∀l∈Z.clauses,(∀a∈l,a<most)∧l.length<=most
theorem G'B {Z Z':Solv}{l:List Nat}(hs:H'O Z l=some Z')(h:ZOk Z): ZOk Z'∧Z'.early=Z.early∧Z'.model=Z.model∧Z'.core=Z.core∧Z'.conflicts=Z.conflicts:=by
 have hm:most=1000000:=rfl;unfold H'O at hs;split at hs
 ·rename_i hc
  simp only[l'a]at hs;have hE:=h.1;split at hs
  ·subst hs;exact⟨h,rfl,rfl,rfl,rfl⟩
  ·subst hs;refine⟨⟨h.1,λx hx=>?_⟩,rfl,rfl,rfl,rfl⟩;rcases l'E.1 hx with hx|hx
   ·exact h.2 x hx
   ·simp at hx;subst hx;obtain⟨h1,h2⟩:=J'g l [];refine⟨λa ha=>?_,by unfold D'D;simp at h2;omega⟩;rcases h1 a ha with h3|h3
    ·have h4:=hc.1;unfold E's at h4;rw[l'D]at h4;have:=h4 a h3;simp at this;omega
    ·simp at h3
 ·simp at hs
end Go.Ta
namespace Go.Ta
end Go.Ta
namespace Go.Proofs.YtimdkminagnhgabGreatDoor
open Go.Vm Go.Proofs Go.Ta
set_option maxHeartbeats 4000000
attribute [local simp] A'b A'c reg to too A'a A'n A'i mv' nl' fl' ld' ln' mk' ia' ik' ix' B'C B'D aLd A'5 A'q A'2 aUn unA ev A'k isB A'Z A'C A'D A'E A'F A'G A'H A'I A'J A'K cIf A'y A'f A'g aSt A'M A't A'N A'O A'P B'c A'Q A'u A'R A'S B'd A'T A'v A'U A'V A'W B'e A'l Instr.fill A'e A'r A'z A's ptr undef B'o B'r A'j B'n A'w A'B B'A A'x B'p rangeA B'E A'o A'4 A'A B'i A'p A'm chk
section
variable {H:Type}{O:HI H}{ro:Nat}{c:A'X H}
variable {w w':Own}{h h':H}{q:Nat}{S:Srch}{bW bH bV:Nat}{vA vC vT vS vK:Value}{lv wv:List Value}
variable {p s:Nat}{Z:Solv}{vE vcl vM:Value}{vs:List Value}{cp:Nat}{N:Ck}{v1 v2:Value}
def prC (x:Nat×Nat): List Value:=[ni x.1,ni x.2]
theorem C'n (x:Nat×Nat): (prC x).length=2:=rfl
structure CN (O:HI H) (ro:Nat)(w:Own)(h:H) (cp:Nat)(N:Ck)(v1 v2:Value):Prop where
 m:Bx O ro w h (4,1000) cp [ni N.ni,v1,v2,ni N.bad]
 s1:Sm O ro w h (4,1) 2 v1 (N.las.flatMap prC)
 s2:Sm O ro w h (4,2) 2 v2 (N.gts.flatMap prC)
 nv:N.nv<=192
 b1:∀x∈N.las,x.1<most∧x.2<most
 b2:∀x∈N.gts,x.1<most∧x.2<most
 bb:N.bad<most
theorem CN.ch (L:O.Law){K:Tag->Prop}(x:CN O ro w h cp N v1 v2)(a:Ch O K w h w' h')(hk:∀i,¬K (4,i):=by simp): CN O ro w' h' cp N v1 v2:=
 ⟨x.m.ch L a (hk _),x.s1.ch L a (hk _),x.s2.ch L a (hk _),x.nv,x.b1,x.b2,x.bb⟩
theorem CN.len1 (x:CN O ro w h cp N v1 v2): ∃a c,v1 = .slice a N.las.length c:=x.s1.len (by omega) _ (by rw[A'0 prC 2 C'n])
theorem CN.len2 (x:CN O ro w h cp N v1 v2): ∃a c,v2 = .slice a N.gts.length c:=x.s2.len (by omega) _ (by rw[A'0 prC 2 C'n])
theorem CN.getL (x:CN O ro w h cp N v1 v2)(j:Nat){y:Nat×Nat}(hy:N.las[j]?=some y): ∃b c,v1 = .slice (some ⟨b,0,some 2⟩) N.las.length c∧O.cell h b (j*2)=some (ni y.1)∧O.cell h b (j*2+1)=some (ni y.2):=by
 obtain⟨hj,hjy⟩:=l'b.1 hy;have hlen:=A'0 prC 2 C'n N.las;obtain⟨b,c,e,hc,yb⟩:=x.s1.blk (by omega) N.las.length hlen (by omega);have cell:∀i,i<2->O.cell h b (j*2+i)=(prC y)[i]?:=λi hi=>by
  rw[yb.cell _ (by rw[hlen];omega),B'z prC 2 C'n N.las j hj i hi,hjy]
 exact⟨b,c,e,by simpa [prC]using cell 0 (by omega),by simpa [prC]using cell 1 (by omega)⟩
theorem CN.getG (x:CN O ro w h cp N v1 v2)(j:Nat){y:Nat×Nat}(hy:N.gts[j]?=some y): ∃b c,v2 = .slice (some ⟨b,0,some 2⟩) N.gts.length c∧cellsA O h b (j*2) 2=some [ni y.1,ni y.2]:=by
 obtain⟨hj,hjy⟩:=l'b.1 hy;have hlen:=A'0 prC 2 C'n N.gts;obtain⟨b,c,e,hc,yb⟩:=x.s2.blk (by omega) N.gts.length hlen (by omega);refine⟨b,c,e,C'G 2 _ _ rfl λi hi=>?_⟩;rw[yb.cell _ (by rw[hlen];omega),B'z prC 2 C'n N.gts j hj i hi,hjy];rfl
theorem N'X (C:LP' O ro c)(L:O.Law)(x:CN O ro w h cp N v1 v2): c 98 [ptr cp] h=some (ni N.nv,h):=by
 have hn:=x.nv;have m0:=x.m.get 0 _ rfl;have m1:=x.m.get 1 _ rfl;have m2:=x.m.get 2 _ rfl;obtain⟨a1,c1,e1⟩:=x.len1;obtain⟨a2,c2,e2⟩:=x.len2;rw[e1]at m1;rw[e2]at m2;unfold Ck.nv at hn;have h1:IntKind.i64.wrap (1+(N.ni:Int))=((1+N.ni:Nat):Int):=w'i;have h2:IntKind.i64.wrap (((1+N.ni:Nat):Int)+N.las.length)=((1+N.ni+N.las.length:Nat):Int):=w'i;have h3:IntKind.i64.wrap (((1+N.ni+N.las.length:Nat):Int)+N.gts.length)=((N.nv:Nat):Int):=by unfold Ck.nv;rw[B'J (by omega) (by omega)];omega
 obtain⟨z1,hz1⟩:=e' (1+N.ni);rw[<-hz1]at h1 h2 h3;obtain⟨z2,hz2⟩:=e' (z1+N.las.length);rw[<-hz2]at h2 h3;refine C.eq (P'U O ro) rfl rfl (f'f ?_);simp[F98,Zje,Zjf,Zjh,m0,m1,m2,h1,h2,h3,A'L,A'h,rvE]
theorem K'4 (C:LP' O ro c)(L:O.Law)(x:CN O ro w h cp N v1 v2)(j:Nat)(hj:j<most): c 47 [ptr cp,ni j] h=some (ni (N.lla j),h):=by
 have hm:most=1000000:=rfl;have hn:=x.nv;have m0:=x.m.get 0 _ rfl;unfold Ck.nv at hn;have h1:IntKind.i64.wrap (1+(N.ni:Int))=((1+N.ni:Nat):Int):=w'i;have h2:IntKind.i64.wrap (((1+N.ni:Nat):Int)+j)=((1+N.ni+j:Nat):Int):=w'i;have h3:IntKind.i64.wrap (2*((1+N.ni+j:Nat):Int))=((N.lla j:Nat):Int):=by unfold Ck.lla;rw[B'J (by omega) (by omega)];omega
 obtain⟨z1,hz1⟩:=e' (1+N.ni);rw[<-hz1]at h1 h2 h3;obtain⟨z2,hz2⟩:=e' (z1+j);rw[<-hz2]at h2 h3;refine C.eq (L'Y O ro) rfl rfl (f'f ?_);simp[F47,ZiU,ZiV,m0,h1,h2,h3,A'L,A'h,rvE]
theorem J'f (C:LP' O ro c)(L:O.Law)(x:CN O ro w h cp N v1 v2)(j:Nat)(hj:j<most): c 50 [ptr cp,ni j] h=some (ni (N.lgt j),h):=by
 have hm:most=1000000:=rfl;have hn:=x.nv;have m0:=x.m.get 0 _ rfl;have m1:=x.m.get 1 _ rfl;obtain⟨a1,c1,e1⟩:=x.len1;rw[e1]at m1;unfold Ck.nv at hn;have h1:IntKind.i64.wrap (1+(N.ni:Int))=((1+N.ni:Nat):Int):=w'i;have h2:IntKind.i64.wrap (((1+N.ni:Nat):Int)+N.las.length)=((1+N.ni+N.las.length:Nat):Int):=w'i;have h4:IntKind.i64.wrap (((1+N.ni+N.las.length:Nat):Int)+j)=((1+N.ni+N.las.length+j:Nat):Int):=w'i;have h3:IntKind.i64.wrap (2*((1+N.ni+N.las.length+j:Nat):Int))=((N.lgt j:Nat):Int):=by unfold Ck.lgt;rw[B'J (by omega) (by omega)];omega
 obtain⟨z1,hz1⟩:=e' (1+N.ni);rw[<-hz1]at h1 h2 h3 h4;obtain⟨z2,hz2⟩:=e' (z1+N.las.length);rw[<-hz2]at h2 h3 h4;obtain⟨z3,hz3⟩:=e' (z2+j);rw[<-hz3]at h3 h4;refine C.eq (L'0 O ro) rfl rfl (f'f ?_);simp[F50,Zi6,Zi7,m0,m1,h1,h2,h3,h4,A'L,A'h,rvE]
theorem E'1 (C:LP' O ro c)(L:O.Law)(hp:20<=p)(x:SV O ro w h p s Z vE vcl vM vK vs)(hZ:Go.Ta.ZOk Z){l:List Nat}{Z':Solv}(hs:H'O Z l=some Z'):
  ∃vcl' vs' h' w',c 122 [ptr s,.slice (some ⟨O.next h,0,some 1⟩) l.length (l.length+1)] (O.new h (l.map ni))=some (ni 0,h')∧SV O ro w' h' p s Z' vE vcl' vM vK vs'∧Ch O (Ks p) w h w' h'∧Go.Ta.ZOk Z':=by
 have y0:=Bx.new L (ro:=ro) w h x.lo (13,0) (l.map ni);have c0:=Ch.new L (λ_=>False) w h (13,0) (l.map ni);have x0:=x.ch L c0;obtain⟨vcl',vs',h',w',e,x1,c1⟩:=R'o C L hp x0 hZ.1 (.inr ⟨_,l.length,l.length+1,rfl,.inr rfl,by simp,y0⟩) hs;exact⟨vcl',vs',h',w',e,x1,(c0.mono (by simp)).trans c1,(G'B hs hZ).1⟩
def C'S (N:Ck)(i:Nat): List Bool:=(List.range i).map λv=>decide (v<=N.ni+N.las.length)
def FvI (O:HI H)(ro:Nat)(w:Own)(h:H)(cp p s:Nat)(N:Ck)(vr:Value)(n:Nat)(t:Env)(g:H): Prop:=
 t 0 = .pointer (some ⟨cp,0,none⟩)∧t 2=vr∧t 3 = .pointer (some ⟨s,0,none⟩)∧∃i vE w1,t 4=ni i∧i+n=N.nv∧SV O ro w1 g p s ⟨C'S N i,[],[],[],0⟩ vE (.slice none 0 0) (.slice none 0 0) (.slice none 0 0) []∧Ch O (Ks p) w h w1 g
theorem K'5 (C:LP' O ro c)(L:O.Law)(hp:20<=p)(X:CN O ro w h cp N v1 v2){vr:Value}{n:Nat}{t:Env}{g:H}(I:FvI O ro w h cp p s N vr n t g):
  okE c (K'2 O Tryz.prog ro) (t,g) (λe t' g'=>(e = .normal∧∃n',n'<n∧FvI O ro w h cp p s N vr n' t' g')∨(e≠.normal∧(A's 0 e = .normal∧t' 0 = .pointer (some ⟨cp,0,none⟩)∧t' 2=vr∧t' 3 = .pointer (some ⟨s,0,none⟩)∧∃vE w1,SV O ro w1 g' p s ⟨C'S N N.nv,[],[],[],0⟩ vE (.slice none 0 0) (.slice none 0 0) (.slice none 0 0) []∧Ch O (Ks p) w h w1 g'))):=by
 obtain⟨d0,d2,d3,i,vE,w1,d4,hin,x1,c1⟩:=I;have k4:∀i,¬Ks p (4,i):=λi=>by simp[Ks];omega
 have X1:=X.ch L c1 k4;have e1:=N'X C L X1;unfold ptr at e1;have hn:=X.nv
 cases n with
 | zero=>
  obtain rfl:i=N.nv:=by omega
  refine f'f ?_;simp[K'2,Zj4,d0,d2,d3,d4,e1];exact⟨_,_,x1,c1⟩
 | succ n=>
  have hi:i<N.nv:=by omega
  have hi':(i:Int)<N.nv:=by omega
  have m0:=X1.m.get 0 _ rfl;have m1:=X1.m.get 1 _ rfl;obtain⟨a1,q1,f1⟩:=X1.len1;rw[f1]at m1;have hn2:=hn;unfold Ck.nv at hn2;have h2:IntKind.i64.wrap ((N.ni:Int)+N.las.length)=((N.ni+N.las.length:Nat):Int):=w'i;have hwi:=w'1 i;have hel:(C'S N i).length=i:=by simp[C'S]
  obtain⟨vE2,h3,w3,e3,x3,c3⟩:=K'V C L hp x1 (decide (i<=N.ni+N.las.length)) (by show (C'S N i).length<192;omega);have hst:C'S N i++[decide (i<=N.ni+N.las.length)]=C'S N (i+1):=by simp[C'S,l'B]
  simp only[hst]at x3;obtain⟨z,hz⟩:=e' (N.ni+N.las.length);rw[<-hz]at h2 e3;obtain⟨i',hi2⟩:=e' (i+1);rw[<-hi2]at hwi x3;unfold ptr at e3;refine f'f ?_;simp[K'2,Zj4,Zj5,Zj6,d0,d2,d3,d4,e1,hi,hi',m0,m1,h2,e3,hwi];exact⟨n,by omega,by simp[d0],by simp[d2],by simp[d3],i',vE2,w3,by simp,by omega,x3,c1.trans c3⟩
def FgI (O:HI H)(ro:Nat)(w:Own)(h:H)(cp p s k0:Nat)(N:Ck)(vr:Value)(Zf:Solv)(n:Nat)(t:Env)(g:H): Prop:=
 t 0 = .pointer (some ⟨cp,0,none⟩)∧t 2=vr∧t 3 = .pointer (some ⟨s,0,none⟩)∧∃i Z1 vE vcl vM vK vs w1,t 5=ni i∧i+n=N.gts.length∧C'm (B'x N (N.gts.drop i) i) Z1=some Zf∧Go.Ta.ZOk Z1∧SV O ro w1 g p s Z1 vE vcl vM vK vs∧Ch O (λu=>Ks p u∨u=(14,k0)) w h w1 g
def FgQ (O:HI H)(ro:Nat)(w:Own)(h:H)(p s k0:Nat)(Zf:Solv)(g:H): Prop:=
 ∃vE vcl vM vK vs w1,Go.Ta.ZOk Zf∧SV O ro w1 g p s Zf vE vcl vM vK vs∧Ch O (λu=>Ks p u∨u=(14,k0)) w h w1 g
theorem C'i {l:List Nat}{r:List (List Nat)}{Z Zf:Solv}(h:C'm (l :: r) Z=some Zf): ∃Z1,H'O Z l=some Z1∧C'm r Z1=some Zf:=by
 simp only[C'm]at h;split at h
 ·simp at h
 ·rename_i Z1 h1;exact⟨Z1,h1,h⟩
theorem K'6 (C:LP' O ro c)(L:O.Law)(hp:20<=p){k0:Nat}(X:CN O ro w h cp N v1 v2){vr:Value}{Zf:Solv}{n:Nat}{t:Env}{g:H}(I:FgI O ro w h cp p s k0 N vr Zf n t g):
  okE c (K'3 O Tryz.prog ro) (t,g) (λe t' g'=>(e = .normal∧∃n',n'<n∧FgI O ro w h cp p s k0 N vr Zf n' t' g')∨(e≠.normal∧(A's 2 e = .normal∧t' 2=vr∧t' 3 = .pointer (some ⟨s,0,none⟩)∧FgQ O ro w h p s k0 Zf g'))):=by
 have hm:most=1000000:=rfl;obtain⟨d0,d2,d3,i,Z1,vE,vcl,vM,vK,vs,w1,d5,hin,had,hZ1,x1,c1⟩:=I;have k4:∀i,¬(Ks p (4,i)∨((4,i):Tag)=(14,k0)):=λi=>by simp[Ks];omega
 have X1:=X.ch L c1 k4;have m2:=X1.m.get 2 _ rfl;have hn:=X.nv;unfold Ck.nv at hn
 cases n with
 | zero=>
  obtain rfl:i=N.gts.length:=by omega
  simp only[List.drop_length,B'x,C'm,l'a]at had;subst had;obtain⟨a2,q2,f2⟩:=X1.len2;rw[f2]at m2;refine f'f ?_;simp[K'3,Zj9,d0,d2,d3,d5,m2];exact⟨_,_,_,_,_,_,hZ1,x1,c1⟩
 | succ n=>
  have hi:i<N.gts.length:=by omega
  have hi':(i:Int)<N.gts.length:=by omega
  obtain⟨y,hy⟩:∃y,N.gts[i]?=some y:=⟨_,l'c hi⟩;have hdrop:N.gts.drop i=y :: N.gts.drop (i+1):=by
   have:=(l'b.1 hy).2;rw[<-this];exact l's hi
  rw[hdrop]at had;obtain⟨ya,yb⟩:=y;simp only[B'x]at had;have hb:=X.b2 _ (l'f hy);obtain⟨bG,qG,fG,hcs⟩:=X1.getG i hy;have eg:=J'f C L X1 i (by omega);have hlg:N.lgt i<1000:=by unfold Ck.lgt;omega
  have hx1:=C'v (N.lgt i) (by omega);have hx2:=C'v ya (by omega);have hx3:=C'v yb (by omega);obtain⟨gl,hgl⟩:=e' (N.lgt i);rw[<-hgl]at had eg hx1;obtain⟨gx,hgx⟩:=e' (gl ^^^ 1);obtain⟨ax,hax⟩:=e' (ya ^^^ 1);obtain⟨bx,hbx⟩:=e' (yb ^^^ 1);rw[<-hgx]at had hx1;rw[<-hax]at had hx2;rw[<-hbx]at had hx3;obtain⟨Z2,a2,had⟩:=C'i had;obtain⟨Z3,a3,had⟩:=C'i had;obtain⟨Z4,a4,had⟩:=C'i had;have z1:=Bx.new L (ro:=ro) w1 g x1.lo (14,k0) [.int .i64 0,.int .i64 0];have cz:=Ch.new L (λu=>u=((14,k0):Tag)) w1 g (14,k0) [.int .i64 0,.int .i64 0];obtain⟨g2,p2,y2,cy⟩:=Bx.over L (K:=λu=>u=((14,k0):Tag)) rfl z1 (show [ni ya,ni yb].length = _ from rfl);have c2:=cz.trans cy;have k9:∀i,¬((9,i):Tag)=(14,k0):=λi=>by simp
  have kp:∀i,¬((p,i):Tag)=(14,k0):=λi=>by simp;omega
  have x2:=x1.ch L c2 k9 kp;obtain⟨vcl3,vs3,g3,w3,e3,x3,c3,hZ3⟩:=E'1 C L hp x2 hZ1 a2;obtain⟨vcl4,vs4,g4,w4,e4,x4,c4,hZ4⟩:=E'1 C L hp x3 hZ3 a3;obtain⟨vcl5,vs5,g5,w5,e5,x5,c5,hZ5⟩:=E'1 C L hp x4 hZ4 a4;have n14:¬Ks p (14,k0):=by simp[Ks];omega
  have y3:=y2.ch L c3 n14;have y4:=y3.ch L c4 n14;have q20:=y2.get 0 _ rfl;have q31:=y3.get 1 _ rfl;have q40:=y4.get 0 _ rfl;have q41:=y4.get 1 _ rfl;have rz:¬O.next g<ro:=by have:=x1.lo;omega
  have c15:=((c1.trans (c2.mono (λ_ h=>.inr h))).trans (c3.mono (λ_ h=>.inl h))).trans ((c4.trans c5).mono (λ_ h=>.inl h));have hwi:=w'1 i;obtain⟨i',hi2⟩:=e' (i+1);rw[<-hi2]at hwi had;unfold ptr at eg e3 e4 e5;simp only[l'n,l'o,l'J,l'K,l'F,Nat.reduceAdd]at e3 e4 e5;rw[fG]at m2;clear c1 c2 c3 c4 c5 cz cy;have hr2:List.range 2=[0,1]:=rfl;have hr3:List.range 3=[0,1,2]:=rfl;refine f'f ?_;simp[hr2,hr3,K'3,Zj9,Zka,Zkb,Zkc,Zkd,Zke,Zkf,d0,d2,d3,d5,m2,hi,hi',eg,hcs,p2,rz,hx1,hx2,hx3,q20,q31,q40,q41,e3,e4,e5,hwi];exact⟨n,by omega,by simp[d0],by simp[d2],by simp[d3],i',Z4,_,_,_,_,_,w5,by simp,by omega,had,hZ5,x5,c15⟩
theorem P'6 (h:H)(b:Nat): B'1 Tryz.prog O 135 (.pointer (some ⟨b,0,none⟩)) h=(cellsA O h b 0 2).map λl=>.agg l.toArray:=by
 have hi:(Tryz.prog.info? 135).map (·.size)=some 2:=by kernel_rfl
 cases hx:Tryz.prog.info? 135 with
 | none=>rw[hx]at hi;simp at hi
 | some i=>
  rw[hx]at hi;simp only[l'l,l'a]at hi;simp only[B'1,Tryz.underlying135,hx,hi]
def FrQ (O:HI H)(ro:Nat)(w:Own)(h:H)(p:Nat)(Zf:Solv)(u:Value)(g:H): Prop:=
 ∃s vE vcl vM vK vs w1,u = .agg #[ptr s,.slice none 0 0]∧Go.Ta.ZOk Zf∧SV O ro w1 g p s Zf vE vcl vM vK vs∧Ch O (Ks p) w h w1 g
theorem N'Y (C:LP' O ro c)(L:O.Law)(lo:ro<=O.next h)(hp:20<=p)(X:CN O ro w h cp N v1 v2){F:Go.Ta.Fr}(hs:D'V N=some F):
  ∃u h',c 82 [ptr cp] h=some (u,h')∧FrQ O ro w h p F.s u h':=by
 have hn:=X.nv;unfold D'V at hs;split at hs
 ·simp at hs
 rename_i Zf had
 simp only[l'a]at hs;subst hs;obtain⟨k0,hk⟩:=F'V w (O.next h);have hk0:∀b,b<O.next h->w b≠((14,k0):Tag):=λb hb e=>by have:=hk b hb;rw[e]at this;simp at this
 have hk1:∀b,b<O.next h->w b≠((14,k0+1):Tag):=λb hb e=>by have:=hk b hb;rw[e]at this;simp at this;omega
 have yr:=Bx.new L (ro:=ro) w h lo (14,k0+1) [.pointer none,.slice none 0 0];have cr:=Ch.new L (λ_=>False) w h (14,k0+1) [.pointer none,.slice none 0 0];have rr:¬O.next h<ro:=by omega
 have lo1:=l'G lo cr.nx;obtain⟨s,hB,wB,eB,xB,cB⟩:=P'P (w:=w.set (O.next h) (14,k0+1)) C L lo1 p;have XB:=(X.ch L cr).ch L cB;have yB:=yr.ch L cB;obtain⟨Z1,a1,had⟩:=C'i had;have ok0:Go.Ta.ZOk ⟨C'S N N.nv,[],[],[],0⟩:=⟨by simp[C'S];exact hn,by simp⟩;unfold ptr at eB;refine C.fn (P'0 O ro) rfl rfl ?_;unfold F82;refine s'f ?_;simp[Zj1,A'd];refine s'f ?_;simp[Zj2,A'd,eB];refine okE.seq (s'f ?_);simp[Zj3,A'd];refine okE.blk ?_;refine okE.mono (okE.loop (Q:=λe t' g'=>A's 0 e = .normal∧t' 0 = .pointer (some ⟨cp,0,none⟩)∧t' 2 = .pointer (some ⟨O.next h,0,none⟩)∧t' 3 = .pointer (some ⟨s,0,none⟩)∧∃vE w1,SV O ro w1 g' p s ⟨C'S N N.nv,[],[],[],0⟩ vE (.slice none 0 0) (.slice none 0 0) (.slice none 0 0) []∧Ch O (Ks p) wB hB w1 g') (FvI O ro wB hB cp p s N (.pointer (some ⟨O.next h,0,none⟩))) (λn t g I=>K'5 C L hp XB I) N.nv _ _ ⟨by simp,by simp,by simp,0,_,wB,by simp,by omega,by simpa [C'S]using xB,Ch.refl _ _ _⟩) ?_;rintro e t g ⟨hr,d0,d2,d3,vE1,w1,x1,c1⟩;rw[hr];simp only[A'd];obtain⟨vcl2,vs2,g2,w2,e2,x2,c2,hZ2⟩:=E'1 C L hp x1 ok0 (l:=[1]) a1;unfold ptr at e2;have e2':c 122 [.pointer (some ⟨s,0,none⟩),.slice (some ⟨O.next g,0,some 1⟩) 1 2] (O.new g [.int .i64 1])=some (ni 0,g2):=e2;refine s'f ?_;simp[Zj7,A'd,d3,e2'];refine okE.seq (s'f ?_);simp[Zj8,A'd];refine okE.blk ?_;refine okE.mono (okE.loop (Q:=λe t' g'=>A's 2 e = .normal∧t' 2 = .pointer (some ⟨O.next h,0,none⟩)∧t' 3 = .pointer (some ⟨s,0,none⟩)∧FgQ O ro wB hB p s k0 Zf g') (FgI O ro wB hB cp p s k0 N (.pointer (some ⟨O.next h,0,none⟩)) Zf) (λn t g I=>K'6 C L hp XB I) N.gts.length _ _ ⟨by simp[d0],by simp[d2],by simp[d3],0,Z1,_,_,_,_,_,w2,by simp,by omega,by simpa using had,hZ2,x2,(c1.trans c2).mono (λ_ h=>.inl h)⟩) ?_;rintro e t' g' ⟨hr,d2,d3,vE3,vcl3,vM3,vK3,vs3,w3,hZ3,x3,c3⟩;rw[hr];simp only[A'd];have n1:¬(Ks p (14,k0+1)∨((14,k0+1):Tag)=(14,k0)):=by simp[Ks];omega
 have y3:=yB.ch L c3 n1;obtain⟨g4,p4,y4,c4⟩:=Bx.over L (K:=λu=>u=((14,k0+1):Tag)) rfl y3 (show [ptr s,.slice none 0 0].length = _ from rfl);have k9:∀i,¬((9,i):Tag)=(14,k0+1):=λi=>by simp
 have kp:∀i,¬((p,i):Tag)=(14,k0+1):=λi=>by simp;omega
 have x4:=x3.ch L c4 k9 kp;have hall:=y4.all;simp only[l'n,l'o]at hall;unfold ptr at p4 hall;have hl:=P'6 (O:=O) g4 (O.next h);have cc:Ch O (Ks p) w h w3 g4:=by
  have ca:Ch O (λu=>Ks p u∨u=(14,k0)∨u=(14,k0+1)) w h w3 g4:=(((cr.trans cB).mono (by simp)).trans (c3.mono (λu h=>by rcases h with h|h;exact .inl h;exact .inr (.inl h)))).trans (c4.mono (λu h=>.inr (.inr h)));exact⟨ca.nx,ca.ow,λb hb hn=>ca.fr b hb (by rintro (h1|h1|h1);exact hn h1;exact hk0 b hb h1;exact hk1 b hb h1)⟩
 refine f'f ?_;simp[Zkg,d2,d3,rr,p4,A'L,A'h,rvE,hl,hall];exact⟨s,_,_,_,_,_,w3,rfl,hZ3,x4,cc⟩
def RsI (O:HI H)(ro:Nat)(w:Own)(h:H)(cp p s b o:Nat)(N:Ck)(Zf:Solv)(n:Nat)(t:Env)(g:H): Prop:=
 t 0 = .pointer (some ⟨b,o,none⟩)∧t 1 = .pointer (some ⟨cp,0,none⟩)∧∃i Z1 vE vcl vM vK vs w1,t 4=ni i∧i+n=N.las.length∧C'm (B'm N (N.las.drop i) i) Z1=some Zf∧Go.Ta.ZOk Z1∧SV O ro w1 g p s Z1 vE vcl vM vK vs∧Ch O (Ks p) w h w1 g
def RsQ (O:HI H)(ro:Nat)(w:Own)(h:H)(p s:Nat)(Zf:Solv)(g:H): Prop:=
 ∃vE vcl vM vK vs w1,Go.Ta.ZOk Zf∧SV O ro w1 g p s Zf vE vcl vM vK vs∧Ch O (Ks p) w h w1 g
theorem J'h (C:LP' O ro c)(L:O.Law)(hp:20<=p)(X:CN O ro w h cp N v1 v2){b o:Nat}{tb:Tag}{lb:List Value}(yb:Bx O ro w h tb b lb)(htb:¬Ks p tb)(hb:lb[o]?=some (ptr s)){Zf:Solv}{n:Nat}{t:Env}{g:H}(I:RsI O ro w h cp p s b o N Zf n t g):
  okE c (H'R O Tryz.prog ro) (t,g) (λe t' g'=>(e = .normal∧∃n',n'<n∧RsI O ro w h cp p s b o N Zf n' t' g')∨(e≠.normal∧(A's 0 e = .normal∧RsQ O ro w h p s Zf g'))):=by
 have hm:most=1000000:=rfl;obtain⟨d0,d1,i,Z1,vE,vcl,vM,vK,vs,w1,d4,hin,had,hZ1,x1,c1⟩:=I;have k4:∀i,¬Ks p (4,i):=λi=>by simp[Ks];omega
 have X1:=X.ch L c1 k4;have m1:=X1.m.get 1 _ rfl;have hn:=X.nv;unfold Ck.nv at hn
 cases n with
 | zero=>
  obtain rfl:i=N.las.length:=by omega
  simp only[List.drop_length,B'm,C'm,l'a]at had;subst had;obtain⟨a2,q2,f2⟩:=X1.len1;rw[f2]at m1;refine f'f ?_;simp[H'R,Zki,d0,d1,d4,m1];exact⟨_,_,_,_,_,_,hZ1,x1,c1⟩
 | succ n=>
  have hi:i<N.las.length:=by omega
  have hi':(i:Int)<N.las.length:=by omega
  obtain⟨y,hy⟩:∃y,N.las[i]?=some y:=⟨_,l'c hi⟩;have hdrop:N.las.drop i=y :: N.las.drop (i+1):=by
   have:=(l'b.1 hy).2;rw[<-this];exact l's hi
  rw[hdrop]at had;obtain⟨ya,yr⟩:=y;simp only[B'm]at had;obtain⟨bG,qG,fG,hc0,hc1⟩:=X1.getL i hy;have eg:=K'4 C L X1 i (by omega);have hlg:N.lla i<1000:=by unfold Ck.lla;omega
  have hx1:=C'v (N.lla i) (by omega);obtain⟨gl,hgl⟩:=e' (N.lla i);rw[<-hgl]at had eg hx1;obtain⟨gx,hgx⟩:=e' (gl ^^^ 1);rw[<-hgx]at had hx1;have hwi:=w'1 i;obtain⟨i',hi2⟩:=e' (i+1);rw[<-hi2]at hwi had;have yb1:=yb.ch L c1 htb;have kb:=yb1.get o _ hb;unfold ptr at eg kb;rw[fG]at m1
  by_cases h0:yr=0
  ·subst h0;simp only[if_true]at had;obtain⟨Z2,a2,had⟩:=C'i had;obtain⟨vcl3,vs3,g3,w3,e3,x3,c3,hZ3⟩:=E'1 C L hp x1 hZ1 a2;unfold ptr at e3;simp only[l'n,l'o,l'J,l'K,l'F,Nat.reduceAdd]at e3;have hc1':O.cell g bG (i*2+1)=some (.int .i64 0):=hc1;refine f'f ?_;simp[H'R,Zki,Zkj,Zkk,Zkl,Zkm,Zkp,d0,d1,d4,m1,hi,hi',eg,hc1',kb,hx1,e3,hwi];exact⟨n,by omega,by simp[d0],by simp[d1],i',Z2,_,_,_,_,_,w3,by simp,by omega,had,hZ3,x3,c1.trans c3⟩
  ·by_cases h1:yr=1
   ·subst h1;simp only[h0,if_false,if_true]at had;obtain⟨Z2,a2,had⟩:=C'i had;obtain⟨vcl3,vs3,g3,w3,e3,x3,c3,hZ3⟩:=E'1 C L hp x1 hZ1 a2;unfold ptr at e3;simp only[l'n,l'o,l'J,l'K,l'F,Nat.reduceAdd]at e3;have hc1':O.cell g bG (i*2+1)=some (.int .i64 1):=hc1;refine f'f ?_;simp[H'R,Zki,Zkj,Zkk,Zkl,Zkn,Zko,Zkp,d0,d1,d4,m1,hi,hi',eg,hc1',kb,hx1,e3,hwi];exact⟨n,by omega,by simp[d0],by simp[d1],i',Z2,_,_,_,_,_,w3,by simp,by omega,had,hZ3,x3,c1.trans c3⟩
   ·simp only[h0,h1,if_false,List.nil_append]at had;have g0:((yr:Int)==0)=false:=by rw[l'A];omega
    have g1:((yr:Int)==1)=false:=by rw[l'A];omega
    refine f'f ?_;simp[H'R,Zki,Zkj,Zkk,Zkl,Zkn,Zkp,d0,d1,d4,m1,hi,hi',eg,hc1,h0,h1,g0,g1,hwi];exact⟨n,by omega,by simp[d0],by simp[d1],i',Z1,_,_,_,_,_,w1,by simp,by omega,had,hZ1,x1,c1⟩
theorem K'7 (C:LP' O ro c)(L:O.Law)(hp:20<=p)(X:CN O ro w h cp N v1 v2){b o:Nat}{tb:Tag}{lb:List Value}(yb:Bx O ro w h tb b lb)(htb:¬Ks p tb)(hb:lb[o]?=some (ptr s))(x:SV O ro w h p s Z vE vcl vM vK vs)(hZ:Go.Ta.ZOk Z){Zf:Solv}(hs:C'm (B'm N N.las 0) Z=some Zf):
  ∃h',c 83 [.pointer (some ⟨b,o,none⟩),ptr cp] h=some (.tuple #[],h')∧RsQ O ro w h p s Zf h':=by
 have key:∃u h',c 83 [.pointer (some ⟨b,o,none⟩),ptr cp] h=some (u,h')∧(u = .tuple #[]∧RsQ O ro w h p s Zf h'):=by
  refine C.fn (P'1 O ro) rfl rfl ?_;unfold F83;refine s'f ?_;simp[Zkh,A'd];refine okE.blk ?_;refine okE.mono (okE.loop (Q:=λe t' g'=>A's 0 e = .normal∧RsQ O ro w h p s Zf g') (RsI O ro w h cp p s b o N Zf) (λn t g I=>J'h C L hp X yb htb hb I) N.las.length _ _ ⟨by simp,by simp,0,Z,_,_,_,_,_,w,by simp,by omega,by simpa using hs,hZ,x,Ch.refl _ _ _⟩) ?_;rintro e t g ⟨hr,hq⟩;rw[hr];simp[A'L,A'h,rvE];exact hq
 obtain⟨u,h',e1,rfl,e2⟩:=key;exact⟨h',e1,e2⟩
theorem P'7 (a b:Nat)(ha:a<9223372036854775808)(hb:b<9223372036854775808): C'f .or .i64 (a:Int) (b:Int)=some (ni (a ||| b))∧a ||| b<9223372036854775808:=by
 have h1:(BitVec.ofInt 64 (a:Int) ||| BitVec.ofInt 64 (b:Int)).toNat=a ||| b:=by
  rw[BitVec.toNat_or];have e1:(BitVec.ofInt 64 (a:Int)).toNat=a:=by rw[BitVec.toNat_ofInt];omega
  have e2:(BitVec.ofInt 64 (b:Int)).toNat=b:=by rw[BitVec.toNat_ofInt];omega
  rw[e1,e2]
 have hx:a ||| b<9223372036854775808:=Nat.or_lt_two_pow (n:=63) ha hb;have h2:C'f .or .i64 (a:Int) (b:Int)=some (.int .i64 (IntKind.i64.wrap ((BitVec.ofInt 64 (a:Int) ||| BitVec.ofInt 64 (b:Int)).toNat:Int))):=rfl;exact⟨by rw[h2,h1,B'J (by omega) (by omega)],hx⟩
theorem N'Z (j:Nat)(hj:j<=60): B'w .shl .i64 1 (j:Int)=some (ni (2^j))∧2^j<9223372036854775808:=by
 have hlt:2^j<9223372036854775808:=Nat.lt_of_le_of_lt (Nat.pow_le_pow_right (by omega) hj) (by decide);refine⟨?_,hlt⟩;have h1:B'w .shl .i64 1 (j:Int)=if (j:Int)<0 then none else some (.int .i64 (IntKind.i64.wrap (1*2^(min ((j:Int).toNat) 64)))):=rfl
 rw[h1,if_neg (by omega),Int.toNat_natCast,Nat.min_eq_left (by omega),Int.one_mul];have h2:((2:Int)^j)=((2^j:Nat):Int):=by simp
 rw[h2];generalize 2^j=d at hlt ⊢;rw[B'J (by omega) (by omega)]
def D'K (Z:Solv)(first i:Nat): Nat:=(List.range i).foldl (λn j=>if Z.model.getD (first+j) false then n ||| 2^j else n) 0
theorem H'S (Z:Solv)(first i:Nat): D'K Z first (i+1)=if Z.model.getD (first+i) false then D'K Z first i ||| 2^i else D'K Z first i:=by
 unfold D'K;rw[l'B,List.foldl_append];rfl
def BtI (b o first count:Nat)(Z:Solv)(h:H)(n:Nat)(t:Env)(g:H): Prop:=
 g=h∧t 0 = .pointer (some ⟨b,o,none⟩)∧t 1=ni first∧t 2=ni count∧∃i,t 8=ni i∧i+n=count∧t 7=ni (D'K Z first i)∧D'K Z first i<9223372036854775808
theorem L'5 (C:LP' O ro c)(L:O.Law){b o:Nat}{tb:Tag}{lb:List Value}(yb:Bx O ro w h tb b lb)(hb:lb[o]?=some (ptr s))(x:SV O ro w h p s Z vE vcl vM vK vs){first count:Nat}(hc:count<=60)(hM:first+count<=Z.model.length)(hM2:Z.model.length<=192):
  c 191 [.pointer (some ⟨b,o,none⟩),ni first,ni count] h=some (ni (B'7 Z first count),h)∧B'7 Z first count<9223372036854775808:=by
 have key:∃u h',c 191 [.pointer (some ⟨b,o,none⟩),ni first,ni count] h=some (u,h')∧(u=ni (D'K Z first count)∧h'=h∧D'K Z first count<9223372036854775808):=by
  refine C.fn (N'W O ro) rfl rfl ?_;unfold S'e;have kb:=yb.get o _ hb;unfold ptr at kb;refine s'f ?_;simp[ZlE,A'd];refine s'f ?_;simp[ZlF,A'd];refine okE.seq (s'f ?_);simp[ZlG,A'd];refine okE.blk ?_;refine okE.mono (okE.loop (Q:=λe t' g'=>A's 0 e = .normal∧t' 7=ni (D'K Z first count)∧g'=h∧D'K Z first count<9223372036854775808) (BtI b o first count Z h) ?_ count _ _ ⟨rfl,by simp,by simp,by simp,0,by simp,by omega,by simp[D'K],by simp[D'K]⟩) ?_
  ·rintro n t g ⟨rfl,d0,d1,d2,i,d8,hin,d7,hlt⟩
   cases n with
   | zero=>
    obtain rfl:i=count:=by omega
    refine f'f ?_;simp[G'8,ZlH,d0,d1,d2,d7,d8];exact hlt
   | succ n=>
    have hi:i<count:=by omega
    have hi':(i:Int)<count:=by omega
    have hwf:IntKind.i64.wrap ((first:Int)+i)=((first+i:Nat):Int):=w'i;have hwi:=w'1 i;obtain⟨e,he⟩:∃e,Z.model[first+i]?=some e:=⟨_,l'c (by omega)⟩;have hgd:Z.model.getD (first+i) false=e:=by rw[l'r,he];rfl
    have hsu:=H'S Z first i
    rw[hgd]at hsu;have ev:=N'M C L x he hM2;obtain⟨fi,hfi⟩:=e' (first+i);rw[<-hfi]at hwf ev;have hsh:=N'Z i (by omega);have hor:=P'7 (D'K Z first i) (2^i) hlt hsh.2;obtain⟨i',hi2⟩:=e' (i+1);rw[<-hi2]at hwi hsu;obtain⟨pw,hpw⟩:=e' (2^i);rw[<-hpw]at hsh hor hsu;unfold ptr at ev
    cases e with
    | true=>
     simp only[if_true]at hsu;rw[<-hsu]at hor;refine f'f ?_;simp[G'8,ZlH,ZlI,ZlJ,ZlK,ZlL,d0,d1,d2,d7,d8,hi,hi',kb,hwf,ev,hsh.1,hor.1,hwi];exact⟨n,by omega,rfl,by simp[d0],by simp[d1],by simp[d2],i',by simp,by omega,by simp,hor.2⟩
    | false=>
     simp only[l'y,if_false]at hsu;refine f'f ?_;simp[G'8,ZlH,ZlI,ZlJ,ZlL,d0,d1,d2,d7,d8,hi,hi',kb,hwf,ev,hwi];exact⟨n,by omega,rfl,by simp[d0],by simp[d1],by simp[d2],i',by simp,by omega,by simp[d7,hsu],by rw[hsu];exact hlt⟩
  ·rintro e t g ⟨hr,d7,rfl,hlt⟩;rw[hr];simp only[A'd];refine f'f ?_;simp[ZlM,d7,A'L,A'h,rvE];exact hlt
 obtain⟨u,h',e1,rfl,rfl,e2⟩:=key;exact⟨e1,e2⟩
end
end Go.Proofs.YtimdkminagnhgabGreatDoor
