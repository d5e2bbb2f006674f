import Derived.Test.YtimdkminagnhgabGreatDoorQ18
set_option linter.all false
namespace Go.Ta
theorem N'L {early:List Bool}{l:List Nat}(hE:early.length<=192)(h1:l.length<=most)(h2:∀a∈l,a<most): Bd (B'V early l):=by
 have hm:most=1000000:=rfl;have hm62:B'9=4611686018427387904:=rfl;refine⟨by simp[B'V],by simp[B'V],by simp[B'V];omega,by simp[B'V];omega,by simp[B'V];omega,by simp[B'V],by simp[B'V],h1,by simp[B'V],?_,by simp[B'V],by simp[B'V],h2,?_,by simp[B'V],by simp[B'V],by simp[B'V];omega,by simp[B'V]⟩
 ·intro l hl;simp only[B'V]at hl;rw[List.eq_of_mem_replicate hl];simp
 ·intro v hv;simp only[B'V,List.mem_map]at hv;obtain⟨e,_,rfl⟩:=hv;refine⟨?_,by intro k hk;simp at hk;omega,by simp⟩;show (if e=true then 1 else 0)<B'9;split <;> omega
end Go.Ta
namespace Go.Proofs.YtimdkminagnhgabGreatDoor
open Go.Vm Go.Proofs Go.Ta
set_option maxHeartbeats 4000000
attribute [local simp] A'b A'c reg to too A'a A'n A'i mv' nl' fl' ld' ln' mk' ia' ik' ix' B'C B'D aLd A'5 A'q A'2 aUn unA ev A'k isB A'Z A'C A'D A'E A'F A'G A'H A'I A'J A'K cIf A'y A'f A'g aSt A'M A't A'N A'O A'P B'c A'Q A'u A'R A'S B'd A'T A'v A'U A'V A'W B'e A'l Instr.fill A'e A'r A'z A's ptr undef B'o B'r A'j B'n A'w A'B B'A A'x B'p rangeA B'E A'o A'4 A'A B'i A'p A'm chk
section
variable {H:Type}{O:HI H}{ro:Nat}{c:A'X H}
variable {w w':Own}{h h':H}{q:Nat}{S:Srch}{bW bH bV:Nat}{vA vC vT vS vK:Value}{lv wv:List Value}
theorem F'l (v:Value)(n:Nat): Vm.rangeA #[v] n=List.replicate n v:=by
 unfold Vm.rangeA;apply List.ext_getElem
 ·simp
 ·intro i h1 h2;simp[Nat.mod_one]
theorem Ch.own {k:Nat}{t:Tag}(a:Ch O (λ_=>False) w h w' h'){w2:Own}{h2:H}(b:Ch O (λu=>u=t) w' h' w2 h2)(hk:∀b,b<O.next h->w b≠t): Ch O (λ_=>False) w h w2 h2:=by
 refine⟨l'G a.nx b.nx,λx hx=>?_,λx hx _=>?_⟩
 ·rw[b.ow x (Nat.lt_of_lt_of_le hx a.nx),a.ow x hx]
 ·have q1:=a.fr x hx (by simp);have q2:=b.fr x (Nat.lt_of_lt_of_le hx a.nx) (by rw[a.ow x hx];exact hk x hx);exact⟨λo=>by rw[q2.1,q1.1],by rw[q2.2,q1.2]⟩
theorem N'H (a b d e f:Value)(n:Nat): Vm.rangeA #[a,b,d,e,f] (n*5)=(List.replicate n ()).flatMap λ_=>[a,b,d,e,f]:=by
 unfold Vm.rangeA
 induction n with
 | zero=>rfl
 | succ n ih=>
  rw[Nat.succ_mul,List.range_add,List.map_append,ih,List.replicate_succ',List.flatMap_append];congr 1;have hr:List.range 5=[0,1,2,3,4]:=rfl;rw[hr];simp only[l'J,l'K,List.flatMap_cons,List.flatMap_nil,List.append_nil];have h5:(#[a,b,d,e,f]:Array Value).size=5:=rfl;rw[h5];have e0:(n*5+0)%5=0:=by omega
  have e1:(n*5+1)%5=1:=by omega
  have e2:(n*5+2)%5=2:=by omega
  have e3:(n*5+3)%5=3:=by omega
  have e4:(n*5+4)%5=4:=by omega
  rw[e0,e1,e2,e3,e4];rfl
theorem F'V (w:Own)(n:Nat): ∃m:Nat,∀b,b<n->(w b).2<m:=by
 induction n with
 | zero=>exact⟨0,λb hb=>by omega⟩
 | succ n ih=>
  obtain⟨m,hm⟩:=ih;refine⟨max m ((w n).2+1),λb hb=>?_⟩
  by_cases e:b=n
  ·subst e;omega
  ·have:=hm b (by omega);omega
def D'J (n:Nat)(acc:List Nat): List Bool:=(List.range n).map λa=>decide (a∈acc)
theorem I'6 {n a:Nat}(acc:List Nat)(ha:a<n): (D'J n acc)[a]?=some (decide (a∈acc)):=by
 simp[D'J,ha]
theorem I'7 {n a:Nat}(acc:List Nat)(ha:a<n): (D'J n acc).set a true=D'J n (acc++[a]):=by
 apply List.ext_getElem
 ·simp[D'J]
 ·intro i h1 h2;rw[List.getElem_set];simp only[D'J,List.getElem_map,List.getElem_range,l'E,l'm]
  by_cases e:a=i
  ·subst e;simp
  ·have e':¬i=a:=λh=>e h.symm;simp[e,e']
theorem I'8 (n:Nat): (D'J n []).map Value.bool=List.replicate n (.bool false):=by
 apply List.ext_getElem
 ·simp[D'J]
 ·intro i h1 h2;simp[D'J]
def DiI (O:HI H)(ro:Nat)(w:Own)(h:H)(s N k0:Nat)(vl:Value)(l res:List Nat)(n:Nat)(t:Env)(g:H): Prop:=
 t 0 = .pointer (some ⟨s,0,none⟩)∧t 1=vl∧∃i bs v acc w1,t 5 = .slice (some ⟨bs,0,some 1⟩) N (N+1)∧t 6=v∧t 7=ni i∧i+n=l.length∧C'M (l.drop i) acc=res∧acc.length<=i∧(∀a∈acc,a<most)∧Bx O ro w1 g (14,k0) bs ((D'J N acc).map Value.bool)∧Sm O ro w1 g (14,k0+1) 1 v (acc.map ni)∧Ch O (λ_=>False) w h w1 g∧ro<=O.next g
def DiQ (O:HI H)(ro:Nat)(w:Own)(h:H)(k0:Nat)(res:List Nat)(v:Value)(g:H): Prop:=
 ∃w1,Sm O ro w1 g (14,k0+1) 1 v (res.map ni)∧Ch O (λ_=>False) w h w1 g∧ro<=O.next g∧res.length<=most∧(∀a∈res,a<most)
theorem N'I (C:LP' O ro c)(L:O.Law){s N k0:Nat}(hk:∀b,b<O.next h->(w b).2<k0){tl:Tag}{vl:Value}{l res:List Nat}(hl:l.length<=most)(hlm:∀a∈l,a<N)(hN:N<=384)(sl:Sm O ro w h tl 1 vl (l.map ni)){n:Nat}{t:Env}{g:H}(I:DiI O ro w h s N k0 vl l res n t g):
  okE c (F'O O Tryz.prog ro) (t,g) (λe t' g'=>(e = .normal∧∃n',n'<n∧DiI O ro w h s N k0 vl l res n' t' g')∨(e≠.normal∧(A's 0 e = .normal∧DiQ O ro w h k0 res (t' 6) g'))):=by
 have hm:most=1000000:=rfl;have hk0:∀b,b<O.next h->w b≠((14,k0):Tag):=λb hb e=>by have:=hk b hb;rw[e]at this;simp at this
 have hk1:∀b,b<O.next h->w b≠((14,k0+1):Tag):=λb hb e=>by have:=hk b hb;rw[e]at this;simp at this;omega
 obtain⟨d0,d1,i,bs,v,acc,w1,d5,d6,d7,hin,hdl,hal,ham,xs,sa,c1,lo⟩:=I;have slg:=sl.ch L c1
 cases n with
 | zero=>
  obtain rfl:i=l.length:=by omega
  simp only[List.drop_length,C'M]at hdl;subst hdl;obtain⟨aL,cL,hvl⟩:=sl.len (by omega) l.length (by simp);rw[hvl]at d1;refine f'f ?_;simp[F'O,ZfI,d0,d1,d5,d6,d7];exact⟨w1,sa,c1,lo,by omega,ham⟩
 | succ n=>
  have hi:i<l.length:=by omega
  have hi':(i:Int)<l.length:=by omega
  obtain⟨bL,cp,e8,hcp,yl⟩:=slg.blk (by omega) l.length (by simp) (by omega);have d1':=d1;rw[e8]at d1';obtain⟨a,ha⟩:∃a,l[i]?=some a:=⟨_,l'c hi⟩;have hcell:O.cell g bL i=some (ni a):=by rw[yl.cell i (by simpa using hi)];simp[ha]
  have haN:=hlm a (l'f ha);have haN':(a:Int)<N:=by omega
  have hdrop:l.drop i=a :: l.drop (i+1):=by
   have:=(l'b.1 ha).2;rw[<-this];exact l's hi
  rw[hdrop]at hdl;simp only[C'M]at hdl;have hwi:=w'1 i;obtain⟨i',hi2⟩:=e' (i+1);rw[<-hi2]at hwi hdl;have hsl:(D'J N acc).length=N:=by simp[D'J]
  have ks:O.cell g bs a=some (.bool (decide (a∈acc))):=by
   rw[xs.cell a (by simp[hsl,haN]),List.getElem?_map,I'6 acc haN];rfl
  by_cases hmem:a∈acc
  ·rw[if_pos hmem]at hdl;have ks':O.cell g bs a=some (.bool true):=by rw[ks];simp[hmem]
   refine f'f ?_;simp[F'O,ZfI,ZfJ,ZfM,d0,d1',d5,d6,d7,hi,hi',hcell,haN,haN',ks',hwi];exact⟨n,by omega,by simp[d0],by simp[d1',e8],i',bs,v,acc,w1,by simp[d5],by simp[d6],by simp,by omega,hdl,by omega,ham,xs,sa,c1,lo⟩
  ·rw[if_neg hmem]at hdl;have ks':O.cell g bs a=some (.bool false):=by rw[ks];simp[hmem]
   have hlt:a<((D'J N acc).map Value.bool).length:=by simp[hsl,haN]
   have xs2:=xs.put L a hlt (.bool true);have c2:=Ch.put L (K:=λu=>u=((14,k0):Tag)) xs a hlt (.bool true) rfl;have hp2:=A'8 (v:=.bool true) ks';rw[<-List.map_set,I'7 acc haN]at xs2;have sa2:=sa.ch L c2;have sl2:=λhx=>slg.ch L (Ch.put L (K:=λu=>u=((14,k0):Tag)) xs a hlt (.bool true) rfl) hx;have c12:=Ch.own (k:=k0) c1 c2 hk0;have lo2:ro<=O.next (O.put g bs a (.bool true)):=l'G lo c2.nx
   have slg2:=sl.ch L c12;obtain⟨bL2,cp2,e82,hcp2,yl2⟩:=slg2.blk (by omega) l.length (by simp) (by omega);rw[e8]at e82;simp only[Value.slice.injEq,l'a,Addr.mk.injEq,and_true,true_and]at e82;obtain⟨rfl,rfl⟩:=e82;have hcell2:O.cell (O.put g bs a (.bool true)) bL i=some (ni a):=by rw[yl2.cell i (by simpa using hi)];simp[ha]
   obtain⟨v3,h3,w3,e3,s3,c3,lo3⟩:=B'0 (bytes:=8) (new:=[ni a]) L lo2 sa2 (by omega) rfl (by simp;omega) (by simp;omega);have c13:=Ch.own (k:=k0) c12 c3 hk1;have xs3:=xs2.ch L c3;have rs:¬bs<ro:=by have:=xs.lo;omega
   obtain⟨f1,f2,f3⟩:=s3.m.flat;generalize O.put g bs a (.bool true)=g2 at *;refine f'f ?_;clear c1 c2 c12 c3 sl2;simp[F'O,ZfI,ZfJ,ZfK,ZfL,ZfM,d0,d1',d5,d6,d7,hi,hi',hcell,haN,haN',ks',hp2,rs,hcell2,e3,hwi];exact⟨n,by omega,by simp[d0],by simp[d1',e8],i',bs,v3,acc++[a],w3,by simp[d5],by simp,by simp,by omega,hdl,by simp;omega,by intro b hb;rcases l'E.1 hb with hb|hb;exact ham b hb;simp at hb;subst hb;omega,xs3,by simpa using s3.m,c13,lo3⟩
theorem N'J {k0 sz:Nat}{t1:Tag}{v:Value}{l:List Value}(a:Ch O (λ_=>False) w h w' h')(hk0:∀b,b<O.next h->w b≠((14,k0):Tag))(s:Sm O ro w' h' (14,k0) sz v l):
  ∃w2,Sm O ro w2 h' t1 sz v l∧Ch O (λ_=>False) w h w2 h':=by
 rcases s with s|⟨b,m,cp,e,ec,el,y⟩
 ·exact⟨w',.inl s,a⟩
 ·have hb:¬b<O.next h:=λhb=>hk0 b hb (by rw[<-a.ow b hb,y.tag])
  refine⟨w'.set b t1,.inr ⟨b,m,cp,e,ec,el,⟨by simp[Own.set],y.lo,y.al,y.cell⟩⟩,⟨a.nx,λb' hb'=>?_,a.fr⟩⟩;have:b'≠b:=by rintro rfl;exact hb hb'
  simp only[Own.set,if_neg this];exact a.ow b' hb'
theorem L'X (C:LP' O ro c)(L:O.Law){p s:Nat}{Z:Solv}{vE vcl vM vK:Value}{vs:List Value}(x:SV O ro w h p s Z vE vcl vM vK vs)(hE:Z.early.length<=192){tl:Tag}{vl:Value}{l:List Nat}(hl:l.length<=most)(sl:Sm O ro w h tl 1 vl (l.map ni))(hh:E's Z.early.length l=true)(t1:Tag):
  ∃v h' w',c 157 [ptr s,vl] h=some (v,h')∧Sm O ro w' h' t1 1 v ((D'D l).map ni)∧Ch O (λ_=>False) w h w' h'∧ro<=O.next h'∧(D'D l).length<=most∧(∀a∈D'D l,a<most):=by
 have hm:most=1000000:=rfl;have hlm:∀a∈l,a<2*Z.early.length:=by
  intro a ha;unfold E's at hh;rw[l'D]at hh;simpa using hh a ha
 obtain⟨k0,hk⟩:=F'V w (O.next h);have hk1:∀b,b<O.next h->w b≠((14,k0+1):Tag):=λb hb e=>by have:=hk b hb;rw[e]at this;simp at this;omega
 have m0:=x.m.get 0 _ rfl;obtain⟨aE,cE,hvE⟩:=x.sE.m.len (by omega) Z.early.length (by simp);rw[hvE]at m0;have key:∃u h',c 157 [ptr s,vl] h=some (u,h')∧DiQ O ro w h k0 (D'D l) u h':=by
  refine C.fn (N'l O ro) rfl rfl ?_;unfold R'U;have hw2:IntKind.i64.wrap (2*(Z.early.length:Int))=((2*Z.early.length:Nat):Int):=w'i;obtain⟨N,hN⟩:=e' (2*Z.early.length);rw[<-hN]at hw2 hlm;have hN1:(N:Int)<=140737488355328:=by omega
  have hN2:N<=140737488355328:=by omega
  have hrA:=F'l (.bool false) N;refine s'f ?_;simp[ZfE,A'd];refine s'f ?_;simp[-rangeA,ZfF,A'd,m0,hw2,hN1,hN2,hrA];have y1:=Bx.new L (ro:=ro) w h x.lo (14,k0) (List.replicate N (.bool false));have c1:=Ch.new L (λ_=>False) w h (14,k0) (List.replicate N (.bool false));have lo1:ro<=O.next (O.new h (List.replicate N (.bool false))):=l'G x.lo c1.nx
  have y2:=Bx.new L (ro:=ro) (w.set (O.next h) (14,k0)) (O.new h (List.replicate N (.bool false))) lo1 (14,k0+1) [];have c2:=Ch.new L (λ_=>False) (w.set (O.next h) (14,k0)) (O.new h (List.replicate N (.bool false))) (14,k0+1) [];have y1':=y1.ch L c2;have lo2:=l'G lo1 c2.nx;refine s'f ?_;simp[ZfG,A'd];refine okE.seq (s'f ?_);simp[ZfH,A'd];refine okE.blk ?_;refine okE.mono (okE.loop (Q:=λe t' g'=>A's 0 e = .normal∧DiQ O ro w h k0 (D'D l) (t' 6) g') (DiI O ro w h s N k0 vl l (D'D l)) (λn t g I=>N'I C L hk hl hlm (by omega) sl I) l.length _ _ ⟨by simp,by simp,0,O.next h,_,[],_,by simp,by simp,by simp,by omega,by simp[D'D],by simp,by simp,(by rw[I'8];exact y1'),.inr ⟨_,0,1,rfl,.inr rfl,by simp,y2⟩,c1.trans c2,lo2⟩) ?_;rintro e t g ⟨hr,hq⟩;rw[hr];simp only[A'd];obtain⟨w1,s1,hq⟩:=hq;obtain⟨f1,f2,f3⟩:=s1.flat;refine f'f ?_;simp[ZfN,A'L,A'h,rvE,f3];exact⟨w1,s1,hq⟩
 obtain⟨u,h',e1,w1,s1,c1,lo1,hq⟩:=key;obtain⟨w2,s2,c2⟩:=N'J (t1:=t1) c1 hk1 s1;exact⟨u,h',w2,e1,s2,c2,lo1,hq⟩
def V0: Vr:=⟨0,some 0,false,0,false⟩
def VE (e:Bool): Vr:=⟨0,some 0,false,if e then 1 else 0,false⟩
def D'f (early:List Bool)(i:Nat): List Vr:=(early.take i).map VE++(early.drop i).map λ_=>V0
theorem E'u (early:List Bool)(i:Nat): (D'f early i).length=early.length:=by simp[D'f];omega
theorem G'7 {early:List Bool}{i:Nat}{e:Bool}(he:early[i]?=some e): (D'f early i)[i]?=some V0∧(D'f early i).set i (VE e)=D'f early (i+1):=by
 have hi:=(l'b.1 he).1;have hlen:((early.take i).map VE).length=i:=by simp;omega
 have hd:early.drop i=e :: early.drop (i+1):=by
  have:=(l'b.1 he).2;rw[<-this];exact l's hi
 unfold D'f;constructor
 ·rw[l'z (by omega),hlen,Nat.sub_self,hd];rfl
 ·rw[List.set_append_right _ _ (by omega),hlen,Nat.sub_self,hd,l'C,he];simp
theorem H'Q {early:List Bool}{i:Nat}(he:early[i]?=some false): D'f early (i+1)=D'f early i:=by
 have h:=G'7 he;rw[<-h.2];apply List.ext_getElem?;intro j
 by_cases e:j=i
 ·subst e;rw[h.1,l'g (by rw[E'u];exact (l'b.1 he).1)];rfl
 ·rw[l'h (λh=>e h.symm)]
def NwI (O:HI H)(ro:Nat)(w:Own)(h:H)(q bW bH bV:Nat)(vA vE:Value)(early:List Bool)(asm:List Nat)(w1:Own)(wv:List Value)(n:Nat)(t:Env)(g:H): Prop:=
 t 0=vE∧t 5 = .pointer (some ⟨q,0,none⟩)∧∃i,t 6=ni i∧i+n=early.length∧SQ O ro w1 g q { B'V early asm with vars:=D'f early i } bW bH bV vA (.slice none 0 0) (.slice none 0 0) (.slice none 0 0) (.slice none 0 0) [] wv∧Ch O K11 w h w1 g
theorem P'O (L:O.Law){vE:Value}{early:List Bool}{asm:List Nat}{tE:Tag}(htE:¬K11 tE)(sE:Sm O ro w h tE 1 vE (early.map Value.bool))(hE:early.length<=192){w1:Own}{n:Nat}{t:Env}{g:H}(I:NwI O ro w h q bW bH bV vA vE early asm w1 wv n t g):
  okE c (F'Q O Tryz.prog ro) (t,g) (λe t' g'=>(e = .normal∧∃n',n'<n∧NwI O ro w h q bW bH bV vA vE early asm w1 wv n' t' g')∨(e≠.normal∧(A's 0 e = .normal∧t' 5 = .pointer (some ⟨q,0,none⟩)∧SQ O ro w1 g' q (B'V early asm) bW bH bV vA (.slice none 0 0) (.slice none 0 0) (.slice none 0 0) (.slice none 0 0) [] wv∧Ch O K11 w h w1 g'))):=by
 obtain⟨d0,d5,i,d6,hin,x1,c1⟩:=I
 cases n with
 | zero=>
  obtain rfl:i=early.length:=by omega
  obtain⟨aE,cE,hvE⟩:=sE.len (by omega) early.length (by simp);rw[hvE]at d0;refine f'f ?_;simp[F'Q,Zf4,d0,d5,d6];refine⟨?_,c1⟩;have:D'f early early.length=(B'V early asm).vars:=by unfold D'f B'V;simp only[List.take_length,List.drop_length,l'K,List.append_nil];rfl
  rw[this]at x1;exact x1
 | succ n=>
  have hi:i<early.length:=by omega
  have hi':(i:Int)<early.length:=by omega
  have sg:=sE.ch L c1 htE;obtain⟨bE,cp,e8,hcp,yE⟩:=sg.blk (by omega) early.length (by simp) (by omega);have d0':=d0;rw[e8]at d0';obtain⟨e,he⟩:∃e,early[i]?=some e:=⟨_,l'c hi⟩;have hcell:O.cell g bE i=some (.bool e):=by rw[yE.cell i (by simpa using hi)];simp[he]
  have hwi:=w'1 i;have hva:=G'7 he;have m6:=x1.m.get 6 _ rfl;simp only[E'u]at m6
  cases e with
  | true=>
   obtain⟨h2,p2,x2,c2⟩:=x1.putV L i hva.1 3 (by omega) (ni 1) (VE true) rfl;rw[hva.2]at x2;obtain⟨i',hi2⟩:=e' (i+1);rw[<-hi2]at hwi x2;have rV:¬bV<ro:=by have:=x1.xV.lo;omega
   have p2':A'6 O g bV (i*5+3) [.int .i64 1]=some h2:=p2;refine f'f ?_;simp[F'Q,Zf4,Zf5,Zf6,Zf7,d0',d5,d6,hi,hi',hcell,m6,rV,p2',hwi];exact⟨n,by omega,by simp[d0',e8],by simp[d5],i',by simp,by omega,x2,c1.trans c2⟩
  | false=>
   have hsm:=H'Q he;rw[<-hsm]at x1;obtain⟨i',hi2⟩:=e' (i+1);rw[<-hi2]at hwi x1;refine f'f ?_;simp[F'Q,Zf4,Zf5,Zf7,d0',d5,d6,hi,hi',hcell,hwi];exact⟨n,by omega,by simp[d0',e8],by simp[d5],i',by simp,by omega,x1,c1⟩
theorem I'9 (L:O.Law){l:List Value}(m:Bx O ro w h (11,1000) q l)(lo:ro<=O.next h)(i:Nat)(hi:i<l.length)(v:Value)(t:Tag)(ht:t≠(11,1000))(cells:List Value):
  ∃h2 w2,A'6 O (O.new h cells) q i [v]=some h2∧Bx O ro w2 h2 (11,1000) q (l.set i v)∧Bx O ro w2 h2 t (O.next h) cells∧Ch O (λu=>u=(11,1000)) w h w2 h2∧ro<=O.next h2:=by
 have y:=Bx.new L (ro:=ro) w h lo t cells;have c1:=Ch.new L (λu=>u=((11,1000):Tag)) w h t cells;have c1':=Ch.new L (λ_=>False) w h t cells;have m1:=m.ch L c1';have c2:=Ch.put L (K:=λu=>u=((11,1000):Tag)) m1 i hi v rfl;have m2:=m1.put L i hi v;refine⟨_,_,A'8 (m1.get i _ (l'c hi)),m2,y.ch L c2 ht,c1.trans c2,?_⟩;exact l'G lo (l'G c1.nx c2.nx)
def NwQ (O:HI H)(ro:Nat)(w:Own)(h:H)(vA:Value)(early:List Bool)(asm:List Nat)(u:Value)(g:H): Prop:=
 ∃q bW bH bV w1 wv,u=ptr q∧SQ O ro w1 g q (B'V early asm) bW bH bV vA (.slice none 0 0) (.slice none 0 0) (.slice none 0 0) (.slice none 0 0) [] wv∧Ch O K11 w h w1 g
theorem R'n (C:LP' O ro c)(L:O.Law)(lo:ro<=O.next h){vE vA:Value}{early:List Bool}{asm:List Nat}{tE:Tag}(htE:¬K11 tE)(sE:Sm O ro w h tE 1 vE (early.map Value.bool))(hE:early.length<=192)(sA:Sm O ro w h (9,0) 1 vA (asm.map ni)):
  ∃u h',c 186 [vE,vA] h=some (u,h')∧NwQ O ro w h vA early asm u h':=by
 refine C.fn (N'n O ro) rfl rfl ?_;obtain⟨aE,cE,hvE⟩:=sE.len (by omega) early.length (by simp);obtain⟨fA1,fA2,fA3⟩:=sA.flat;have hw2:IntKind.i64.wrap (2*(early.length:Int))=((2*early.length:Nat):Int):=w'i;obtain⟨N,hN⟩:=e' (2*early.length);rw[<-hN]at hw2;have hN1:(N:Int)<=140737488355328:=by omega
 have hN2:N<=140737488355328:=by omega
 have hN3:(N:Int)*24<=140737488355328:=by omega
 have hE1:(early.length:Int)*40<=140737488355328:=by omega
 have hE2:(early.length:Int)<=140737488355328:=by omega
 have rA1:=F'l (.bool false) N;have rA2:=F'l (.slice none 0 0) N;have rA5:=N'H (.int .i64 0) (.int .i64 0) (.bool false) (.int .i64 0) (.bool false) early.length;have vz:((List.replicate early.length ()).flatMap λ_=>[Value.int .i64 0,.int .i64 0,.bool false,.int .i64 0,.bool false])=(D'f early 0).flatMap vrC:=by
  have:D'f early 0=(List.replicate early.length ()).map λ_=>V0:=by
   simp[D'f,List.map_const']
  rw[this,List.flatMap_map];rfl
 rw[vz]at rA5;obtain⟨h1,q,hh1,hq,y1,c1,lo1⟩:∃h1 q,O.new h [vA,.slice none 0 0,.int .i64 0,.int .i64 4000,.slice none 0 0,.slice none 0 0,.slice none 0 0,.slice none 0 0,.slice none 0 0,.int .i64 0,.int .i64 16,.int .i64 0,.slice none 0 0]=h1∧O.next h=q∧Bx O ro (w.set q (11,1000)) h1 (11,1000) q [vA,.slice none 0 0,.int .i64 0,.int .i64 4000,.slice none 0 0,.slice none 0 0,.slice none 0 0,.slice none 0 0,.slice none 0 0,.int .i64 0,.int .i64 16,.int .i64 0,.slice none 0 0]∧Ch O (λu=>u=(11,1000)) w h (w.set q (11,1000)) h1∧ro<=O.next h1:=
  ⟨_,_,rfl,rfl,Bx.new L (ro:=ro) w h lo (11,1000) _,Ch.new L _ w h (11,1000) _,by rw[L.next_new];omega⟩
 obtain⟨h2,w2,p2,m2,y2,c2,lo2⟩:=I'9 L y1 lo1 4 (by simp) (.slice (some ⟨O.next h1,0,some 1⟩) N (N+1)) (11,4) (by simp) (List.replicate N (.slice none 0 0));obtain⟨h3,w3,p3,m3,y3,c3,lo3⟩:=I'9 L m2 lo2 5 (by simp) (.slice (some ⟨O.next h2,0,some 1⟩) N (N+1)) (11,5) (by simp) (List.replicate N (.bool false));obtain⟨h4,w4,p4,m4,y4,c4,lo4⟩:=I'9 L m3 lo3 6 (by simp) (.slice (some ⟨O.next h3,0,some 5⟩) early.length (early.length+1)) (11,6) (by simp) ((D'f early 0).flatMap vrC);have c24:=(c2.trans c3).trans c4;have c34:=c3.trans c4;have c14:Ch O (λu=>u=(11,1000)) w h w4 h4:=c1.trans c24;have cK:Ch O K11 w h w4 h4:=c14.mono (by rintro u rfl;exact .inl rfl);have x4:SQ O ro w4 h4 q { B'V early asm with vars:=D'f early 0 } (O.next h1) (O.next h2) (O.next h3) vA (.slice none 0 0) (.slice none 0 0) (.slice none 0 0) (.slice none 0 0) [] (List.replicate N (.slice none 0 0)):=by
  refine⟨?_,sA.ch L c14,Sz.nil _ _ _ _,rfl,by simp[B'V],y2.ch L c34,by simp[B'V,hN],λi l v g1 g2=>?_,?_,y4,Sz.nil _ _ _ _,Sz.nil _ _ _ _,Sz.nil _ _ _ _,lo4⟩
  ·have e1:(B'V early asm).watchers.length=N:=by simp[B'V,hN]
   have e2:(B'V early asm).holds.length=N:=by simp[B'V,hN]
   simp only[E'u,e1,e2];exact m4
  ·simp only[B'V,<-hN]at g1;have h1':=List.eq_of_mem_replicate (l'f g1);have h2':=List.eq_of_mem_replicate (l'f g2);subst h1' h2';exact Sz.nil _ _ _ _
  ·have:=y3.ch L c4;simp only[B'V,<-hN,List.map_replicate];exact this
 have rq:¬q<ro:=by have:=y1.lo;omega
 have hr13:List.range 13=[0,1,2,3,4,5,6,7,8,9,10,11,12]:=rfl;have htE':=htE;subst hvE;unfold R'W;refine s'f ?_;simp[ZfY,A'd];refine s'f ?_;simp[ZfZ,A'd,fA1,fA2,fA3,hh1,hq];refine s'f ?_;simp[-rangeA,Zf0,A'd,hw2,hN1,hN2,hN3,rA2,rq,p2];refine s'f ?_;simp[-rangeA,Zf1,A'd,hw2,hN1,hN2,hN3,rA1,rq,p3];refine s'f ?_;simp[-rangeA,Zf2,A'd,hE1,hE2,rA5,rq,p4];refine okE.seq (s'f ?_);simp[Zf3,A'd];refine okE.blk ?_;refine okE.mono (okE.loop (Q:=λe t' g'=>A's 0 e = .normal∧t' 5 = .pointer (some ⟨q,0,none⟩)∧SQ O ro w4 g' q (B'V early asm) (O.next h1) (O.next h2) (O.next h3) vA (.slice none 0 0) (.slice none 0 0) (.slice none 0 0) (.slice none 0 0) [] (List.replicate N (.slice none 0 0))∧Ch O K11 w h w4 g') (NwI O ro w h q (O.next h1) (O.next h2) (O.next h3) vA _ early asm w4 (List.replicate N (.slice none 0 0))) (λn t g I=>P'O L htE sE hE I) early.length _ _ ⟨by simp,by simp,0,by simp,by omega,x4,cK⟩) ?_;rintro e t g ⟨hr,d5,x5,c5⟩;rw[hr];simp only[A'd];refine f'f ?_;simp[Zf8,d5,A'L,A'h,rvE];exact⟨q,_,_,_,w4,_,rfl,x5,c5⟩
def MoI (O:HI H)(ro:Nat)(w:Own)(h:H)(q k0:Nat)(S:Srch)(n:Nat)(t:Env)(g:H): Prop:=
 t 0 = .pointer (some ⟨q,0,none⟩)∧∃i v w1,t 3=v∧t 4=ni i∧i+n=S.vars.length∧Sm O ro w1 g (14,k0) 1 v (((List.range i).map λv=>S.holds.getD (2*v) false).map Value.bool)∧Ch O (λ_=>False) w h w1 g∧ro<=O.next g
def MoQ (O:HI H)(ro:Nat)(w:Own)(h:H)(k0:Nat)(S:Srch)(v:Value)(g:H): Prop:=
 ∃w1,Sm O ro w1 g (14,k0) 1 v (((List.range S.vars.length).map λv=>S.holds.getD (2*v) false).map Value.bool)∧Ch O (λ_=>False) w h w1 g∧ro<=O.next g
theorem K'U (L:O.Law)(x:SQ O ro w h q S bW bH bV vA vC vT vS vK lv wv)(hV:S.vars.length<=192)(hH:S.holds.length=2*S.vars.length){k0:Nat}(hk0:∀b,b<O.next h->w b≠((14,k0):Tag)){n:Nat}{t:Env}{g:H}(I:MoI O ro w h q k0 S n t g):
  okE c (G'3 O Tryz.prog ro) (t,g) (λe t' g'=>(e = .normal∧∃n',n'<n∧MoI O ro w h q k0 S n' t' g')∨(e≠.normal∧(A's 0 e = .normal∧MoQ O ro w h k0 S (t' 3) g'))):=by
 obtain⟨d0,i,v,w1,d3,d4,hin,s1,c1,lo1⟩:=I;have x1:=x.ch L c1;have m6:=x1.m.get 6 _ rfl;have m5:=x1.m.get 5 _ rfl
 cases n with
 | zero=>
  obtain rfl:i=S.vars.length:=by omega
  refine f'f ?_;simp[G'3,Zgn,d0,d3,d4,m6];exact⟨w1,s1,c1,lo1⟩
 | succ n=>
  have hi:i<S.vars.length:=by omega
  have hi':(i:Int)<S.vars.length:=by omega
  have hwi:=w'1 i;have hw2:IntKind.i64.wrap (2*(i:Int))=((2*i:Nat):Int):=w'i;obtain⟨b,hb⟩:∃b,S.holds[2*i]?=some b:=⟨_,l'c (by omega)⟩;have hgd:S.holds.getD (2*i) false=b:=by rw[l'r,hb];rfl
  have kb:=x1.getH _ hb;obtain⟨v3,h3,w3,e3,s3,c3,lo3⟩:=B'0 (bytes:=1) (new:=[Value.bool b]) L lo1 s1 (by omega) rfl (by simp;omega) (by simp;omega);have hst:((List.range i).map λv=>S.holds.getD (2*v) false).map Value.bool++[Value.bool b]=((List.range (i+1)).map λv=>S.holds.getD (2*v) false).map Value.bool:=by
   rw[l'B,List.map_append,List.map_append];simp only[l'J,l'K,hgd]
  rw[hst]at s3;have c13:=Ch.own (k:=k0) c1 c3 hk0;have lz:2*i<S.holds.length:=by omega
  have lz':((2*i:Nat):Int)<S.holds.length:=by omega
  obtain⟨z,hz⟩:=e' (2*i);rw[<-hz]at hw2 kb lz lz';obtain⟨i',hi2⟩:=e' (i+1);rw[<-hi2]at hwi s3;refine f'f ?_;clear c1 c3 x1 hst;simp[G'3,Zgn,Zgo,Zgp,d0,d3,d4,m6,m5,hi,hi',hw2,lz,lz',kb,e3,hwi];exact⟨n,by omega,by simp[d0],i',v3,w3,by simp,by simp,by omega,s3.m,c13,lo3⟩
theorem N'K (C:LP' O ro c)(L:O.Law)(x:SQ O ro w h q S bW bH bV vA vC vT vS vK lv wv)(hV:S.vars.length<=192)(hH:S.holds.length=2*S.vars.length)(t1:Tag):
  ∃v h' w',c 188 [ptr q] h=some (v,h')∧Sm O ro w' h' t1 1 v (((List.range S.vars.length).map λv=>S.holds.getD (2*v) false).map Value.bool)∧Ch O (λ_=>False) w h w' h'∧ro<=O.next h':=by
 obtain⟨k0,hk0⟩:=C'I w (O.next h);have key:∃u h',c 188 [ptr q] h=some (u,h')∧MoQ O ro w h k0 S u h':=by
  refine C.fn (N'p O ro) rfl rfl ?_;unfold R'Y;have y2:=Bx.new L (ro:=ro) w h x.lo (14,k0) [];have c2:=Ch.new L (λ_=>False) w h (14,k0) [];have lo2:=l'G x.lo c2.nx;refine s'f ?_;simp[Zgk,A'd];refine s'f ?_;simp[Zgl,A'd];refine okE.seq (s'f ?_);simp[Zgm,A'd];refine okE.blk ?_;refine okE.mono (okE.loop (Q:=λe t' g'=>A's 0 e = .normal∧MoQ O ro w h k0 S (t' 3) g') (MoI O ro w h q k0 S) (λn t g I=>K'U L x hV hH hk0 I) S.vars.length _ _ ⟨by simp,0,_,_,by simp,by simp,by omega,.inr ⟨_,0,1,rfl,.inr rfl,by simp,y2⟩,c2,lo2⟩) ?_;rintro e t g ⟨hr,w1,s1,hq⟩;rw[hr];simp only[A'd];obtain⟨f1,f2,f3⟩:=s1.flat;refine f'f ?_;simp[Zgq,A'L,A'h,rvE,f3];exact⟨w1,s1,hq⟩
 obtain⟨u,h',e1,w1,s1,c1,lo1⟩:=key;obtain⟨w2,s2,c2⟩:=N'J (t1:=t1) c1 hk0 s1;exact⟨u,h',w2,e1,s2,c2,lo1⟩
variable {p s:Nat}{Z:Solv}{vE vcl vM:Value}{vs:List Value}
def Ks (p:Nat)(u:Tag): Prop:=u.1=p
def Own.hide (w:Own): Own:=λb=>if (w b).1=11∨(w b).1=12 then (15,0) else w b
def Own.join (w w':Own)(n:Nat): Own:=λb=>if b<n then w b else if (w' b).1=11∨(w' b).1=12 then (15,0) else w' b
theorem Bx.hide {t:Tag}{b:Nat}{l:List Value}(x:Bx O ro w h t b l)(ht:¬K11 t): Bx O ro w.hide h t b l:=by
 refine⟨?_,x.lo,x.al,x.cell⟩;have:=x.tag;simp only[Own.hide,this];exact if_neg ht
theorem Sm.hide {t:Tag}{sz:Nat}{v:Value}{l:List Value}(x:Sm O ro w h t sz v l)(ht:¬K11 t): Sm O ro w.hide h t sz v l:=by
 rcases x with x|⟨b,m,cp,e,ec,el,x⟩
 ·exact .inl x
 ·exact .inr ⟨b,m,cp,e,ec,el,x.hide ht⟩
theorem Sz.hide {t:Tag}{sz:Nat}{v:Value}{l:List Value}(x:Sz O ro w h t sz v l)(ht:¬K11 t): Sz O ro w.hide h t sz v l:=by
 rcases x with x|⟨b,m,e,el,x⟩
 ·exact .inl x
 ·exact .inr ⟨b,m,e,el,x.hide ht⟩
theorem Cs.hide {t:Tag}{v:Value}{cs:List (List Nat)}(x:Cs O ro w h t v vs cs)(ht:¬K11 t): Cs O ro w.hide h t v vs cs:=
 ⟨x.s.hide ht,x.l,λi l u h1 h2=>(x.a i l u h1 h2).hide (by simp[K11])⟩
theorem SV.hide (x:SV O ro w h p s Z vE vcl vM vK vs)(hp:20<=p): SV O ro w.hide h p s Z vE vcl vM vK vs:=by
 have n:∀i,¬K11 (p,i):=λi=>by simp[K11];omega
 exact⟨x.m.hide (n _),x.sE.hide (n _),x.sC.hide (n _),x.sM.hide (by simp[K11]),x.sK.hide (by simp[K11]),x.lo⟩
theorem J'a (w:Own)(b:Nat): ¬K11 (w.hide b):=by
 unfold Own.hide K11;split
 ·simp
 ·assumption
theorem Bx.join (L:O.Law){K:Tag->Prop}{t:Tag}{b:Nat}{l:List Value}(a:Ch O K w.hide h w' h')(x:Bx O ro w' h' t b l)(ht:¬K11 t)(h15:t≠(15,0)): Bx O ro (w.join w' (O.next h)) h' t b l:=by
 refine⟨?_,x.lo,x.al,x.cell⟩;unfold Own.join
 by_cases hb:b<O.next h
 ·rw[if_pos hb];have h1:=a.ow b hb;rw[x.tag]at h1;unfold Own.hide at h1;split at h1
  ·exact absurd h1 h15
  ·exact h1.symm
 ·rw[if_neg hb,x.tag];exact if_neg ht
theorem Sm.join (L:O.Law){K:Tag->Prop}{t:Tag}{sz:Nat}{v:Value}{l:List Value}(a:Ch O K w.hide h w' h')(x:Sm O ro w' h' t sz v l)(ht:¬K11 t)(h15:t≠(15,0)): Sm O ro (w.join w' (O.next h)) h' t sz v l:=by
 rcases x with x|⟨b,m,cp,e,ec,el,x⟩
 ·exact .inl x
 ·exact .inr ⟨b,m,cp,e,ec,el,x.join L a ht h15⟩
theorem Sz.join (L:O.Law){K:Tag->Prop}{t:Tag}{sz:Nat}{v:Value}{l:List Value}(a:Ch O K w.hide h w' h')(x:Sz O ro w' h' t sz v l)(ht:¬K11 t)(h15:t≠(15,0)): Sz O ro (w.join w' (O.next h)) h' t sz v l:=by
 rcases x with x|⟨b,m,e,el,x⟩
 ·exact .inl x
 ·exact .inr ⟨b,m,e,el,x.join L a ht h15⟩
theorem SV.join (L:O.Law){K:Tag->Prop}(a:Ch O K w.hide h w' h')(x:SV O ro w' h' p s Z vE vcl vM vK vs)(hp:20<=p): SV O ro (w.join w' (O.next h)) h' p s Z vE vcl vM vK vs:=by
 have n:∀i,¬K11 (p,i):=λi=>by simp[K11];omega
 have m:∀i,((p,i):Tag)≠(15,0):=λi=>by simp;omega
 exact⟨x.m.join L a (n _) (m _),x.sE.join L a (n _) (m _),⟨x.sC.s.join L a (n _) (m _),x.sC.l,λi l u h1 h2=>(x.sC.a i l u h1 h2).join L a (by simp[K11]) (by simp)⟩,x.sM.join L a (by simp[K11]) (by simp),x.sK.join L a (by simp[K11]) (by simp),x.lo⟩
theorem Ch.join (a:Ch O (λu=>K11 u∨Ks p u) w.hide h w' h')(hp:20<=p): Ch O (Ks p) w h (w.join w' (O.next h)) h':=by
 refine⟨a.nx,λb hb=>by simp[Own.join,hb],λb hb hn=>a.fr b hb ?_⟩;rintro (h1|h1)
 ·exact J'a w b h1
 ·unfold Own.hide Ks at h1;split at h1
  ·simp at h1;omega
  ·exact hn h1
theorem SV.put (L:O.Law)(hp:20<=p)(x:SV O ro w h p s Z vE vcl vM vK vs)(i:Nat)(hi:i<5)(v:Value){vM' vK':Value}{m':List Bool}{k':List Nat}{cf:Nat}
  (hm : [vE, vcl, vM, vK, ni Z.conflicts].set i v = [vE, vcl, vM', vK', ni cf])(sM : Sm O ro w h (9, 1) 1 vM' (m'.map Value.bool))(sK : Sm O ro w h (9, 1) 1 vK' (k'.map ni)):
  ∃h1,A'6 O h s i [v]=some h1∧SV O ro w h1 p s { Z with model:=m',core:=k',conflicts:=cf } vE vcl vM' vK' vs∧Ch O (Ks p) w h w h1:=by
 have c1:=Ch.put L (K:=λu=>u=((p,0):Tag)) x.m i (by simpa using hi) v rfl;have m1:=x.m.put L i (by simpa using hi) v;rw[hm]at m1;have n9:∀i,¬((9,i):Tag)=(p,0):=λi=>by simp;omega
 exact⟨_,A'8 (x.m.get i _ (l'c (by simpa using hi))),⟨m1,x.sE.ch L c1,x.sC.ch L c1 (by simp) (n9 _),sM.ch L c1 (n9 _),sK.ch L c1 (n9 _),l'G x.lo c1.nx⟩,c1.mono (by rintro u rfl;rfl)⟩
theorem R'o (C:LP' O ro c)(L:O.Law)(hp:20<=p)(x:SV O ro w h p s Z vE vcl vM vK vs)(hE:Z.early.length<=192){tl:Tag}{vl:Value}{l:List Nat}(sl:Sm O ro w h tl 1 vl (l.map ni)){Z':Solv}(hs:H'O Z l=some Z'):
  ∃vcl' vs' h' w',c 122 [ptr s,vl] h=some (ni 0,h')∧SV O ro w' h' p s Z' vE vcl' vM vK vs'∧Ch O (Ks p) w h w' h':=by
 have hm:most=1000000:=rfl;unfold H'O at hs;split at hs
 ·rename_i hc
  obtain⟨hh,hll,hcl⟩:=hc;simp only[l'a]at hs;have e1:=L'W C L x hE (by omega) sl hh;obtain⟨v2,h2,w2,e2,s2,c2,lo2,hd1,hd2⟩:=L'X C L x hE (by omega) sl hh (9,0);have e3:=K'T C L hd1 hd2 s2;have x2:=x.ch L c2;unfold ptr at e1 e2;obtain⟨f1,f2,f3⟩:=s2.flat
  cases hal:B's (D'D l) with
  | true=>
   rw[hal]at hs e3;simp only[if_true]at hs;subst hs;refine⟨vcl,vs,h2,w2,?_,x2,c2.mono (by simp)⟩;refine C.eq (I'X O ro) rfl rfl ?_;unfold R'k;refine s'f ?_;simp[Ze7,A'd];refine okE.seq (s'f ?_);simp[Ze8,A'd,e1];refine f'f ?_;simp[A'd];refine s'f ?_;simp[Zfa,A'd,e2];refine f'f ?_;simp[Zfb,Zfd,A'd,e3,A'L,A'h,rvE]
  | false=>
   rw[hal]at hs e3;simp only[l'y,if_false]at hs;subst hs;obtain⟨v4,h4,w4,e4,s4,c4,lo4⟩:=B'0 (bytes:=24) (new:=[v2]) L lo2 x2.sC.s (by omega) rfl (by rw[x2.sC.l];omega) (by rw[x2.sC.l];omega);have n9:∀i,¬((9,i):Tag)=(p,2):=λi=>by simp;omega
   have m4:=x2.m.ch L c4;have c5:=Ch.put L (K:=λu=>u=((p,0):Tag)) m4 1 (by simp) v4 rfl;have m5:=m4.put L 1 (by simp) v4;have n90:∀i,¬((9,i):Tag)=(p,0):=λi=>by simp;omega
   have p5:=A'8 (v:=v4) (m4.get 1 _ rfl);obtain⟨g1,g2,g3⟩:=s4.m.flat;have rs:¬s<ro:=by have:=x.m.lo;omega
   have n1:=x2.m.get 1 _ rfl;refine⟨v4,vs++[v2],_,w4,?_,⟨m5,(x2.sE.ch L c4).ch L c5,⟨(s4.m).ch L c5,by simp[x2.sC.l],λi l u q1 q2=>?_⟩,(x2.sM.ch L c4 (n9 _)).ch L c5 (n90 _),(x2.sK.ch L c4 (n9 _)).ch L c5 (n90 _),l'G lo4 c5.nx⟩,((c2.mono (by simp)).trans (c4.mono (by rintro u rfl;rfl))).trans (c5.mono (by rintro u rfl;rfl))⟩
   ·generalize O.put h4 s 1 v4=h5 at *;refine C.eq (I'X O ro) rfl rfl ?_;unfold R'k;refine s'f ?_;simp[Ze7,A'd];refine okE.seq (s'f ?_);simp[Ze8,A'd,e1];refine f'f ?_;simp[A'd];refine s'f ?_;simp[Zfa,A'd,e2];refine f'f ?_;simp[Zfb,Zfc,Zfd,A'd,e3,n1,f1,f2,f3,e4,p5,g1,g2,rs,A'L,A'h,rvE]
   ·by_cases hk:i<Z.clauses.length
    ·rw[l'e hk]at q1;rw[l'e (by rw[x2.sC.l];exact hk)]at q2;exact ((x2.sC.a i l u q1 q2).ch L c4 (n9 _)).ch L c5 (n90 _)
    ·have hk2:i=Z.clauses.length:=by
      have:=(l'b.1 q1).1;simp at this;omega
     subst hk2;simp at q1;rw[<-x2.sC.l]at q2;simp at q2;subst q1 q2;exact (s2.ch L c4 (n9 _)).ch L c5 (n90 _)
 ·simp at hs
variable {p s:Nat}{Z:Solv}{vE vcl vM:Value}{vs:List Value}
theorem P'P (C:LP' O ro c)(L:O.Law)(lo:ro<=O.next h)(p:Nat):
  ∃s h' w',c 58 [] h=some (ptr s,h')∧SV O ro w' h' p s ⟨[],[],[],[],0⟩ (.slice none 0 0) (.slice none 0 0) (.slice none 0 0) (.slice none 0 0) []∧Ch O (λ_=>False) w h w' h':=by
 have y1:=Bx.new L (ro:=ro) w h lo (p,0) [.slice none 0 0,.slice none 0 0,.slice none 0 0,.slice none 0 0,.int .i64 0];have c1:=Ch.new L (λ_=>False) w h (p,0) [.slice none 0 0,.slice none 0 0,.slice none 0 0,.slice none 0 0,.int .i64 0];refine⟨O.next h,_,_,?_,⟨y1,Sz.nil _ _ _ _,⟨Sm.nil _ _ _ _,rfl,by simp⟩,Sm.nil _ _ _ _,Sm.nil _ _ _ _,l'G lo c1.nx⟩,c1⟩;refine C.eq (P'H O ro) rfl rfl (f'f ?_);simp[F58,ZeW,ZeX,A'L,A'h,rvE]
theorem K'V (C:LP' O ro c)(L:O.Law)(hp:20<=p)(x:SV O ro w h p s Z vE vcl vM vK vs)(e:Bool)(hE:Z.early.length<192):
  ∃vE' h' w',c 105 [ptr s,.bool e] h=some (.tuple #[ni Z.early.length,ni 0],h')∧SV O ro w' h' p s { Z with early:=Z.early++[e] } vE' vcl vM vK vs∧Ch O (Ks p) w h w' h':=by
 obtain⟨v4,h4,w4,e4,s4,c4,lo4⟩:=B'0 (bytes:=1) (new:=[Value.bool e]) L x.lo x.sE.m (by omega) rfl (by simp;omega) (by simp;omega);have n9:∀i,¬((9,i):Tag)=(p,1):=λi=>by simp;omega
 have n90:∀i,¬((9,i):Tag)=(p,0):=λi=>by simp;omega
 have m4:=x.m.ch L c4;have c5:=Ch.put L (K:=λu=>u=((p,0):Tag)) m4 0 (by simp) v4 rfl;have m5:=m4.put L 0 (by simp) v4;have p5:=A'8 (v:=v4) (m4.get 0 _ rfl);have rs:¬s<ro:=by have:=x.m.lo;omega
 have m0:=x.m.get 0 _ rfl;have s5:=s4.ch L c5;have hst:Z.early.map Value.bool++[Value.bool e]=(Z.early++[e]).map Value.bool:=by simp
 rw[hst]at s5;obtain⟨g1,g2,g3⟩:=s4.m.flat;obtain⟨aE,cE,hvE⟩:=x.sE.m.len (by omega) Z.early.length (by simp);obtain⟨a5,q5,hv5⟩:=s5.m.len (by omega) (Z.early.length+1) (by simp);have n0:=m5.get 0 v4 (by simp);have hw:IntKind.i64.wrap (((Z.early.length+1:Nat):Int)-1)=(Z.early.length:Int):=w'i;refine⟨v4,_,w4,?_,⟨m5,s5,(x.sC.ch L c4 (by simp) (n9 _)).ch L c5 (by simp) (n90 _),(x.sM.ch L c4 (n9 _)).ch L c5 (n90 _),(x.sK.ch L c4 (n9 _)).ch L c5 (n90 _),l'G lo4 c5.nx⟩,(c4.mono (by rintro u rfl;rfl)).trans (c5.mono (by rintro u rfl;rfl))⟩;generalize O.put h4 s 0 v4=h5 at *;have m0':=m0;rw[hvE]at m0';have n0':=n0;rw[hv5]at n0';obtain⟨z,hz⟩:=e' (Z.early.length+1);rw[<-hz]at n0' hw;have h1:¬(192:Int)<=Z.early.length:=by omega
 have h2:¬192<=Z.early.length:=by omega
 refine C.eq (N'g O ro) rfl rfl ?_;unfold R'P;refine s'f ?_;simp[ZeY,A'd];refine okE.seq (s'f ?_);simp[ZeZ,A'd,m0',h1,h2];refine f'f ?_;simp[A'd];refine s'f ?_;simp[Ze1,A'd,m0,e4,p5,g1,g2,rs];refine f'f ?_;simp[Ze2,n0',hw,A'L,A'h,rvE]
theorem N'M (C:LP' O ro c)(L:O.Law)(x:SV O ro w h p s Z vE vcl vM vK vs){v:Nat}{b:Bool}(hv:Z.model[v]?=some b)(hl:Z.model.length<=192): c 153 [ptr s,ni v] h=some (.tuple #[.bool b,ni 0],h):=by
 have m2:=x.m.get 2 _ rfl;have hlt:=(l'b.1 hv).1;have hlt':(v:Int)<Z.model.length:=by omega
 have h1:¬(v:Int)<0:=by omega
 have h2:¬(Z.model.length:Int)<=v:=by omega
 have h3:¬Z.model.length<=v:=by omega
 obtain⟨bM,cp,hvM,hcp,yM⟩:=x.sM.blk (by omega) Z.model.length (by simp) (by omega);have hc:O.cell h bM v=some (.bool b):=by rw[yM.cell v (by simpa using hlt)];simp[hv]
 subst hvM;refine C.eq (N'j O ro) rfl rfl ?_;unfold R'S;refine s'f ?_;simp[Zft,A'd];refine okE.seq (s'f ?_);simp[Zfu,A'd,m2,h1,h2,h3];refine f'f ?_;simp[A'd];refine f'f ?_;simp[Zfw,m2,hlt,hlt',hc,A'L,A'h,rvE]
theorem E'v (C:LP' O ro c)(L:O.Law)(x:SV O ro w h p s Z vE vcl vM vK vs): c 111 [ptr s] h=some (ni Z.conflicts,h):=by
 have m4:=x.m.get 4 _ rfl;refine C.eq (N'h O ro) rfl rfl (f'f ?_);simp[R'Q,Ze3,Ze4,Ze6,m4,A'L,A'h,rvE]
variable {p s:Nat}{Z:Solv}{vE vcl vM:Value}{vs:List Value}
theorem SV.re {t1:Tag}{b0 i0:Nat}(x:SV O ro w h p s Z vE vcl vM vK vs)(hp:20<=p)(h0:w b0=(11,i0)): SV O ro (w.set b0 t1) h p s Z vE vcl vM vK vs:=by
 have n:∀i,((p,i):Tag)≠(11,i0):=λi=>by simp;omega
 have m:∀i,((9,i):Tag)≠(11,i0):=λi=>by simp
 exact⟨x.m.re h0 (n _),x.sE.re h0 (n _),⟨x.sC.s.re h0 (n _),x.sC.l,λi l u h1 h2=>(x.sC.a i l u h1 h2).re h0 (m _)⟩,x.sM.re h0 (m _),x.sK.re h0 (m _),x.lo⟩
def SlQ (O:HI H)(ro:Nat)(w:Own)(h:H)(p s:Nat)(Z':Solv)(vE vcl:Value)(vs:List Value)(g:H): Prop:=
 ∃vM' vK' w',SV O ro w' g p s Z' vE vcl vM' vK' vs∧Ch O (Ks p) w h w' g
theorem N'N (C:LP' O ro c)(L:O.Law)(hp:20<=p)(x:SV O ro w h p s Z vE vcl vM vK vs)(hZ:∀l∈Z.clauses,(∀a∈l,a<most)∧l.length<=most){tl:Tag}(htl:¬K11 tl){vl:Value}{l:List Nat}(sl:Sm O ro w h tl 1 vl (l.map ni)){f n:Nat}{bud:Int}{Z':Solv}{an:Nat}(hs:D'A f n Z l bud=some (Z',an)):
  ∃h',c 151 [ptr s,vl,.int .i64 bud] h=some (ni an,h')∧SlQ O ro w h p s Z' vE vcl vs h':=by
 have hm:most=1000000:=rfl;have hm62:B'9=4611686018427387904:=rfl;unfold D'A at hs;split at hs
 ·rename_i hc
  obtain⟨hh,hll,hb0,hE0,hE,hcl⟩:=hc;split at hs
  ·simp at hs
  rename_i S' an' ha
  split at hs
  ·rename_i hc2
   obtain⟨hcf,hmet,hvl,hhl⟩:=hc2;simp only[l'a,l'd]at hs;obtain⟨hZ',rfl⟩:=hs;have np:∀i,¬K11 (p,i):=λi=>by simp[K11];omega
   have x0:=x.hide hp;have sl0:=sl.hide htl;have e1:=L'W C L x0 hE (by omega) sl0 hh;obtain⟨v2,h2,w2,e2,s2,c2,lo2,hd1,hd2⟩:=L'X C L x0 hE (by omega) sl0 hh (9,0);have x2:=x0.ch L c2;obtain⟨u3,h3,e3,q,bW,bH,bV,w3,wv3,rfl,y3,c3⟩:=R'n C L lo2 (np 1) x2.sE.m hE s2;have x3:=x2.ch L c3 (by simp[K11]) np;obtain⟨h4,e4,vC4,vT4,vS4,vK4,lv4,wv4,w4,y4,c4,B4⟩:=K'R C L y3 (N'L hE hd1 hd2) x3.sC (np 2) hZ (by omega) ha;have x4:=x3.ch L c4 (by simp[K11]) np;have cA:Ch O (λu=>K11 u∨Ks p u) w.hide h w4 h4:=((c2.mono (by simp)).trans (c3.mono (λ_ h=>.inl h))).trans (c4.mono (λ_ h=>.inl h));have hw:IntKind.i64.wrap ((Z.conflicts:Int)+(S'.met:Int))=((Z.conflicts+S'.met:Nat):Int):=w'i;obtain⟨cf,hcf2⟩:=e' (Z.conflicts+S'.met);rw[<-hcf2]at hw hZ';obtain⟨h5,p5,x5,c5⟩:=x4.put L hp 4 (by omega) (ni cf) (vM':=vM) (vK':=vK) (m':=Z.model) (k':=Z.core) (cf:=cf) rfl x4.sM x4.sK;obtain⟨h6,p6,x6,c6⟩:=x5.put L hp 2 (by omega) (.slice none 0 0) (vM':=.slice none 0 0) (vK':=vK) (m':=[]) (k':=Z.core) (cf:=cf) rfl (Sm.nil _ _ _ _) x5.sK;obtain⟨h7,p7,x7,c7⟩:=x6.put L hp 3 (by omega) (.slice none 0 0) (vM':=.slice none 0 0) (vK':=.slice none 0 0) (m':=[]) (k':=[]) (cf:=cf) rfl (Sm.nil _ _ _ _) (Sm.nil _ _ _ _);have c57:=(c5.trans c6).trans c7;have k9:∀i,¬Ks p (9,i):=λi=>by simp[Ks];omega
   have k11:∀i,¬Ks p (11,i):=λi=>by simp[Ks];omega
   have k12:∀i,¬Ks p (12,i):=λi=>by simp[Ks];omega
   have y7:=y4.ch L c57 (k9 _) k11 k12;have cB:Ch O (λu=>K11 u∨Ks p u) w.hide h w4 h7:=cA.trans (c57.mono (λ_ h=>.inr h));have rs:¬s<ro:=by have:=x.m.lo;omega
   have m0:=x2.m.get 0 _ rfl;have m1:=x3.m.get 1 _ rfl;have m4:=x4.m.get 4 _ rfl;have q11:=y4.m.get 11 _ rfl;have q12:=y7.m.get 12 _ rfl;unfold ptr at e1 e2 e3 e4;have hb1:¬bud<0:=by omega
   have key:∃u h',c 151 [ptr s,vl,.int .i64 bud] h=some (u,h')∧(u=ni an'∧SlQ O ro w h p s Z' vE vcl vs h'):=by
    refine C.fn (N'i O ro) rfl rfl ?_;unfold R'R;refine s'f ?_;simp[Zfe,A'd];refine okE.seq (s'f ?_);simp[Zff,A'd,hb1,e1];refine f'f ?_;simp[A'd];refine s'f ?_;simp[Zfh,A'd,e2];refine s'f ?_;simp[Zfi,A'd,m0,e3];refine s'f ?_;simp[Zfj,A'd,m1,e4];refine s'f ?_;simp[Zfk,A'd,m4,q11,hw,p5,rs];refine s'f ?_;simp[Zfl,A'd,p6,rs];refine s'f ?_;simp[Zfm,A'd,p7,rs]
    by_cases h1:an'=1
    ·subst h1;obtain⟨v8,h8,w8,e8,s8,c8,lo8⟩:=N'K C L y7 (by omega) (by omega) (9,1);rw[hvl]at s8;have x8:=x7.ch L c8;obtain⟨h9,p9,x9,c9⟩:=x8.put L hp 2 (by omega) v8 (vM':=v8) (vK':=.slice none 0 0) (k':=[]) (cf:=cf) rfl s8 (Sm.nil _ _ _ _);obtain⟨f1,f2,f3⟩:=s8.flat;have cC:Ch O (λu=>K11 u∨Ks p u) w.hide h w8 h9:=(cB.trans (c8.mono (by simp))).trans (c9.mono (λ_ h=>.inr h));unfold ptr at e8;simp only[if_true,show ¬(1:Nat)=2 by omega,if_false]at hZ';refine f'f ?_;simp[Zfn,Zfo,Zfp,Zfs,e8,p9,f1,f2,rs,A'L,A'h,rvE];have xf:=x9.join L cC hp;have cf':=cC.join hp;rw[<-hZ'];exact⟨_,_,_,xf,cf'⟩
    ·by_cases h2:an'=2
     ·subst h2;simp only[if_true,show ¬(2:Nat)=1 by omega,if_false]at hZ';obtain⟨w8,s8,x8,cC⟩:∃w8,Sm O ro w8 h7 (9,1) 1 vK4 (S'.core.map ni)∧SV O ro w8 h7 p s _ vE vcl _ _ vs∧Ch O (λu=>K11 u∨Ks p u) w.hide h w8 h7:=by
       rcases y7.sK.m with e|⟨b,mm,cp,e,ec,el,yb⟩
       ·exact⟨w4,.inl e,x7,cB⟩
       ·have hb:¬b<O.next h:=λhb=>J'a w b (by rw[<-cB.ow b hb,yb.tag];exact .inl rfl)
        refine⟨w4.set b (9,1),.inr ⟨b,mm,cp,e,ec,el,⟨by simp[Own.set],yb.lo,yb.al,yb.cell⟩⟩,x7.re hp yb.tag,⟨cB.nx,λb' hb'=>?_,cB.fr⟩⟩;have:b'≠b:=by rintro rfl;exact hb hb'
        simp only[Own.set,if_neg this];exact cB.ow b' hb'
      obtain⟨h9,p9,x9,c9⟩:=x8.put L hp 3 (by omega) vK4 (vM':=.slice none 0 0) (vK':=vK4) (m':=[]) (k':=S'.core) (cf:=cf) rfl (Sm.nil _ _ _ _) s8;have cD:Ch O (λu=>K11 u∨Ks p u) w.hide h w8 h9:=cC.trans (c9.mono (λ_ h=>.inr h));obtain⟨f1,f2,f3⟩:=s8.flat;refine f'f ?_;simp[Zfn,Zfo,Zfq,Zfr,Zfs,q12,p9,f1,f2,rs,A'L,A'h,rvE];have xf:=x9.join L cD hp;have cf':=cD.join hp;rw[<-hZ'];exact⟨_,_,_,xf,cf'⟩
     ·simp only[h1,h2,if_false]at hZ';have h1':((an':Int)==1)=false:=by rw[l'A];omega
      have h2':((an':Int)==2)=false:=by rw[l'A];omega
      refine f'f ?_;simp[Zfn,Zfo,Zfq,Zfs,h1,h2,h1',h2',A'L,A'h,rvE];have xf:=x7.join L cB hp;have cf':=cB.join hp;rw[<-hZ'];exact⟨_,_,_,xf,cf'⟩
   obtain⟨u,h',e1,rfl,e2⟩:=key;exact⟨h',e1,e2⟩
  ·simp at hs
 ·simp at hs
end
end Go.Proofs.YtimdkminagnhgabGreatDoor
