import Derived.Test.YtimdkminagnhgaaGreatDoorQ27
set_option linter.all false
namespace Go.Ta
theorem C'U {l w:List Nat}{j x:Nat}(hx:l[j]?=some x): (B'f l w)[j]?=some (decide (x∈w) && !(decide (x∈l.take j))):=by
 have hj:=(l'b.1 hx).1;unfold B'f;rw[List.getElem?_map,List.getElem?_range hj];simp[hx]
theorem B'8 (l w:List Nat): (B'f l w).length=l.length:=by simp[B'f]
theorem F'P {l:List Nat}{a b:List Bool}(ha:a.length=l.length)(hb:b.length=l.length)(h:∀(j y:Nat),l[j]?=some y->a[j]?=b[j]?): a=b:=by
 apply List.ext_getElem?;intro j
 by_cases hj:j<l.length
 ·exact h j _ (l'c hj)
 ·rw[List.getElem?_eq_none (by omega),List.getElem?_eq_none (by omega)]
theorem J'k {l w:List Nat}{i k x:Nat}(hk:l[k]?=some x)(hno:x∉l.take k)(hw:w[i]?=some x): (B'f l (w.take i)).set k true=B'f l (w.take (i+1)):=by
 have hkl:=(l'b.1 hk).1;refine F'P (l:=l) (by simp[B'8]) (B'8 _ _) λj y hy=>?_;rw[C'U hy]
 by_cases e:j=k
 ·subst e;rw[hk]at hy;simp at hy;subst hy;rw[l'g (by rw[B'8];exact hkl),l'C,hw];simp[hno]
 ·rw[l'h (λh=>e h.symm),C'U hy,l'C,hw]
  by_cases hyx:y=x
  ·subst hyx;have hin:y∈l.take j↔True:=by
    simp only[iff_true];have hjk:k<j:=by
     have:¬j<k:=λhjk=>hno (l'i.2 ⟨j,by rw[l'j hjk];exact hy⟩);omega
    exact l'i.2 ⟨k,by rw[l'j hjk];exact hk⟩
   simp[hin]
  ·simp[hyx]
theorem H'O {l w:List Nat}{i x:Nat}(hno:x∉l)(hw:w[i]?=some x): B'f l (w.take i)=B'f l (w.take (i+1)):=by
 refine F'P (l:=l) (B'8 _ _) (B'8 _ _) λj y hy=>?_;rw[C'U hy,C'U hy,l'C,hw];have hyx:¬y=x:=by rintro rfl;exact hno (l'f hy)
 simp[hyx]
end Go.Ta
namespace Go.Ta
theorem H'P {N:Ck}{st:Nat}(h:∀(j:Nat)(y:Nat×Nat),N.las[j]?=some y->y.2=2∨y.2=st/2^j%2): B'j N st=true:=by
 unfold B'j;rw[l'D];rintro⟨⟨a,r⟩,j⟩ hm;have:=h j (a,r) (by have:=List.mem_zipIdx_iff_getElem?.1 hm;simpa using this);simpa using this
theorem G'0 {N:Ck}{st j:Nat}{y:Nat×Nat}(hy:N.las[j]?=some y)(h1:y.2≠2)(h2:y.2≠st/2^j%2): B'j N st=false:=by
 rw[Bool.eq_false_iff];intro h;unfold B'j at h;rw[l'D]at h;have:=h (y,j) (List.mem_zipIdx_iff_getElem?.2 hy);simp[h1,h2]at this
end Go.Ta
namespace Go.Proofs.YtimdkminagnhgaaGreatDoor
open Go.Vm Go.Proofs Go.Ta
set_option maxHeartbeats 4000000
attribute [local simp] A'a A'b reg to too A'd A'q A'h mv' nl' fl' ld' ln' mk' ia' ik' ix' B'F B'G aLd B'h A'w A'4 aUn unA ev A'l isB A'0 A'E A'F A'G A'H A'I A'J A'K A'L A'M cIf A'B A'f A'g aSt A'N A't A'O A'P A'Q A'9 A'R A'u A'S A'T B'a A'U A'v A'V A'W A'X B'b A'p Instr.fill A'e A'n A'x A'j ptr undef B'o B'y A'k B's A's A'D B'C A'y B'p rangeA B'O A'r A'2 A'z B'd A'm A'o chk
theorem H'N (a b:Nat)(ha:a<9223372036854775808)(hb:b<9223372036854775808): C'k .xor .i64 (a:Int) (b:Int)=some (ni (a ^^^ b)):=by
 have h1:(BitVec.ofInt 64 (a:Int) ^^^ BitVec.ofInt 64 (b:Int)).toNat=a ^^^ b:=by
  rw[BitVec.toNat_xor];have e1:(BitVec.ofInt 64 (a:Int)).toNat=a:=by rw[BitVec.toNat_ofInt];omega
  have e2:(BitVec.ofInt 64 (b:Int)).toNat=b:=by rw[BitVec.toNat_ofInt];omega
  rw[e1,e2]
 have hx:a ^^^ b<9223372036854775808:=Nat.xor_lt_two_pow (n:=63) ha hb;have h2:C'k .xor .i64 (a:Int) (b:Int)=some (.int .i64 (IntKind.i64.wrap ((BitVec.ofInt 64 (a:Int) ^^^ BitVec.ofInt 64 (b:Int)).toNat:Int))):=rfl;rw[h2,h1,B'H (by omega) (by omega)]
theorem G'e (a j:Nat)(hj:j<=60): B'T .shr .i64 (a:Int) (j:Int)=some (ni (a/2^j)):=by
 have h1:B'T .shr .i64 (a:Int) (j:Int)=if (j:Int)<0 then none else some (.int .i64 ((a:Int).fdiv (2^(min ((j:Int).toNat) 64)))):=rfl
 rw[h1,if_neg (by omega),Int.toNat_natCast,Nat.min_eq_left (by omega)];have h2:((2:Int)^j)=((2^j:Nat):Int):=by simp
 rw[h2,Int.fdiv_eq_ediv_of_nonneg _ (Int.natCast_nonneg _),<-Int.natCast_ediv]
section
variable {H:Type}{O:HI H}{ro:Nat}{c:A'Z H}
variable {w w':Own}{h h':H}{q:Nat}{S:Srch}{bW bH bV:Nat}{vA vC vT vS vK:Value}{lv wv:List Value}
variable {p s:Nat}{Z:Solv}{vE vcl vM:Value}{vs:List Value}{cp:Nat}{N:Ck}{v1 v2:Value}
def GrI (O:HI H)(ro:Nat)(w:Own)(h:H)(k0:Nat)(v:Value)(l:List Nat)(g:H): Prop:=
 ∃w1,Sm O ro w1 g (14,k0) 1 v (l.map ni)∧Ch O (λ_=>False) w h w1 g∧ro<=O.next g
theorem GrI.new (L:O.Law){k0:Nat}(lo:ro<=O.next h): GrI O ro w h k0 (.slice (some ⟨O.next h,0,some 1⟩) 0 1) [] (O.new h []):=
 ⟨_,.inr ⟨_,0,1,rfl,.inr rfl,by simp,Bx.new L (ro:=ro) w h lo (14,k0) []⟩,Ch.new L _ w h (14,k0) [],by rw[L.next_new];omega⟩
theorem GrI.app (L:O.Law){k0:Nat}(hk0:∀b,b<O.next h->w b≠((14,k0):Tag)){v:Value}{l:List Nat}{g:H}(x:GrI O ro w h k0 v l g)(a:Nat)(hl:l.length<1000000):
  ∃v' g',D'd O ro 1 8 v (.slice (some ⟨O.next g,0,some 1⟩) 1 2) (O.new g [ni a])=some (v',g')∧GrI O ro w h k0 v' (l++[a]) g':=by
 obtain⟨w1,s1,c1,lo1⟩:=x;obtain⟨v3,h3,w3,e3,s3,c3,lo3⟩:=B'D (bytes:=8) (new:=[ni a]) L lo1 s1 (by omega) rfl (by simp;omega) (by simp;omega);exact⟨v3,h3,e3,w3,by simpa using s3.m,Ch.own (k:=k0) c1 c3 hk0,lo3⟩
theorem GrI.give {k0:Nat}(hk0:∀b,b<O.next h->w b≠((14,k0):Tag)){v:Value}{l:List Nat}{g:H}(x:GrI O ro w h k0 v l g)(t1:Tag):
  ∃w',Sm O ro w' g t1 1 v (l.map ni)∧Ch O (λ_=>False) w h w' g∧ro<=O.next g:=by
 obtain⟨w1,s1,c1,lo1⟩:=x;obtain⟨w2,s2,c2⟩:=N'f (t1:=t1) c1 hk0 s1;exact⟨w2,s2,c2,lo1⟩
theorem GrI.tup {k0:Nat}{v:Value}{l:List Nat}{g:H}(x:GrI O ro w h k0 v l g): B'q v=false:=by
 obtain⟨w1,s1,_⟩:=x;exact s1.flat.2.2
def AgI (O:HI H)(ro:Nat)(w:Own)(h:H)(k0 cp st:Nat)(N:Ck)(n:Nat)(t:Env)(g:H): Prop:=
 t 0 = .pointer (some ⟨cp,0,none⟩)∧t 1=ni st∧∃i v,t 5=v∧t 6=ni i∧i+n=N.las.length∧GrI O ro w h k0 v ((List.range i).map λj=>2*j+st/2^j%2) g
theorem K'8 (C:LP' O ro c)(L:O.Law)(lo:ro<=O.next h)(X:CN O ro w h cp N v1 v2){st:Nat}(hst:st<9223372036854775808)(hl:N.las.length<=60)(t1:Tag):
  ∃v h' w',c 162 [ptr cp,ni st] h=some (v,h')∧Sm O ro w' h' t1 1 v ((B't N st).map ni)∧Ch O (λ_=>False) w h w' h'∧ro<=O.next h':=by
 obtain⟨k0,hk0⟩:=B'i w (O.next h);have key:∃u h',c 162 [ptr cp,ni st] h=some (u,h')∧GrI O ro w h k0 u (B't N st) h':=by
  refine C.fn (Q'U O ro) rfl rfl ?_;unfold V'D;refine s'f ?_;simp[Znu,A'c];refine s'f ?_;simp[Znv,A'c];refine okE.seq (s'f ?_);simp[Znw,A'c];refine okE.blk ?_;refine okE.mono (okE.loop (Q:=λe t' g'=>A'j 0 e = .normal∧GrI O ro w h k0 (t' 5) (B't N st) g') (AgI O ro w h k0 cp st N) ?_ N.las.length _ _ ⟨by simp,by simp,0,_,by simp,by simp,by omega,GrI.new L lo⟩) ?_
  ·rintro n t g ⟨d0,d1,i,v,d5,d6,hin,gr⟩;obtain⟨w1,s1,c1,lo1⟩:=id gr;have X1:=X.ch L c1;have m1:=X1.m.get 1 _ rfl;obtain⟨a1,q1,f1⟩:=X1.len1;rw[f1]at m1
   cases n with
   | zero=>
    obtain rfl:i=N.las.length:=by omega
    refine f'f ?_;simp[K'Y,Znx,d0,d1,d5,d6,m1];exact gr
   | succ n=>
    have hi:i<N.las.length:=by omega
    have hi':(i:Int)<N.las.length:=by omega
    have hw2:IntKind.i64.wrap (2*(i:Int))=((2*i:Nat):Int):=w'i;have hsh:=G'e st i (by omega);have hle:st/2^i<=st:=Nat.div_le_self _ _;obtain⟨q,hq⟩:=e' (st/2^i);rw[<-hq]at hsh hle;have hand:=C'r q (by omega);obtain⟨b,hb⟩:=e' (q%2);have hb2:b<2:=by omega
    rw[<-hb]at hand;have hw3:IntKind.i64.wrap (((2*i:Nat):Int)+b)=((2*i+b:Nat):Int):=w'i;have hwi:=w'1 i;obtain⟨v3,g3,e3,gr3⟩:=gr.app L hk0 (2*i+b) (by simp;omega);have hst2:((List.range i).map λj=>2*j+st/2^j%2)++[2*i+b]=(List.range (i+1)).map λj=>2*j+st/2^j%2:=by
     rw[l'B,List.map_append];simp[hb,hq]
    rw[hst2]at gr3;obtain⟨z,hz⟩:=e' (2*i);rw[<-hz]at hw2 hw3 e3;obtain⟨z2,hz2⟩:=e' (z+b);rw[<-hz2]at hw3 e3;obtain⟨i',hi2⟩:=e' (i+1);rw[<-hi2]at hwi gr3;refine f'f ?_;simp[K'Y,Znx,Zny,Znz,d0,d1,d5,d6,m1,hi,hi',hw2,hsh,hand,hw3,e3,hwi];exact⟨n,by omega,by simp[d0],by simp[d1],i',v3,by simp,by simp,by omega,gr3⟩
  ·rintro e t g ⟨hr,hq⟩;rw[hr];simp only[A'c];have f3:=hq.tup;refine f'f ?_;simp[ZnA,A'1,A'i,rvE,f3];exact hq
 obtain⟨u,h',e1,gr⟩:=key;obtain⟨w2,s2,c2,lo2⟩:=gr.give hk0 t1;exact⟨u,h',w2,e1,s2,c2,lo2⟩
def W'a (O:HI H)(ro:Nat)(w:Own)(h:H)(k0 cp:Nat)(N:Ck)(vl:Value)(cl:List Nat)(n:Nat)(t:Env)(g:H): Prop:=
 t 0 = .pointer (some ⟨cp,0,none⟩)∧t 1=vl∧∃i v,t 5=v∧t 6=ni i∧i+n=cl.length∧GrI O ro w h k0 v (A'6 N (cl.take i)) g
theorem G'f (C:LP' O ro c)(L:O.Law)(lo:ro<=O.next h)(X:CN O ro w h cp N v1 v2){tl:Tag}{vl:Value}{cl:List Nat}(hcl:cl.length<=192)(hx:∀x∈cl,x/2<N.las.length)(hl:N.las.length<=192)(sl:Sm O ro w h tl 1 vl (cl.map ni))(t1:Tag):
  ∃v h' w',c 163 [ptr cp,vl] h=some (v,h')∧Sm O ro w' h' t1 1 v ((A'6 N cl).map ni)∧Ch O (λ_=>False) w h w' h'∧ro<=O.next h':=by
 have hm:most=1000000:=rfl;obtain⟨k0,hk0⟩:=B'i w (O.next h);have key:∃u h',c 163 [ptr cp,vl] h=some (u,h')∧GrI O ro w h k0 u (A'6 N cl) h':=by
  refine C.fn (Q'V O ro) rfl rfl ?_;unfold V'E;refine s'f ?_;simp[ZnB,A'c];refine s'f ?_;simp[ZnC,A'c];refine okE.seq (s'f ?_);simp[ZnD,A'c];refine okE.blk ?_;refine okE.mono (okE.loop (Q:=λe t' g'=>A'j 0 e = .normal∧GrI O ro w h k0 (t' 5) (A'6 N cl) g') (W'a O ro w h k0 cp N vl cl) ?_ cl.length _ _ ⟨by simp,by simp,0,_,by simp,by simp,by omega,GrI.new L lo⟩) ?_
  ·rintro n t g ⟨d0,d1,i,v,d5,d6,hin,gr⟩;obtain⟨w1,s1,c1,lo1⟩:=id gr;have X1:=X.ch L c1;have slg:=sl.ch L c1;have m1:=X1.m.get 1 _ rfl
   cases n with
   | zero=>
    obtain rfl:i=cl.length:=by omega
    obtain⟨aL,cL,hvl⟩:=sl.len (by omega) cl.length (by simp);rw[hvl]at d1;rw[List.take_length]at gr;refine f'f ?_;simp[K'Z,ZnE,d0,d1,d5,d6];exact gr
   | succ n=>
    have hi:i<cl.length:=by omega
    have hi':(i:Int)<cl.length:=by omega
    obtain⟨bL,cpp,e8,hcp,yl⟩:=slg.blk (by omega) cl.length (by simp) (by omega);have d1':=d1;rw[e8]at d1';obtain⟨a,ha⟩:∃a,cl[i]?=some a:=⟨_,l'c hi⟩;have hcell:O.cell g bL i=some (ni a):=by rw[yl.cell i (by simpa using hi)];simp[ha]
    have hxa:=hx a (l'f ha);obtain⟨y,hy⟩:∃y,N.las[a/2]?=some y:=⟨_,l'c hxa⟩;have hyb:=(X.b1 y (l'f hy)).1;obtain⟨bG,qG,fG,hc0,hc1⟩:=X1.getL (a/2) hy;rw[fG]at m1;have hxa':((a/2:Nat):Int)<N.las.length:=by omega
    have hsh:=C'c a;have hand:=C'r a (by omega);have hx1:=B'P y.1 (by omega);have hx1m:=D'7 hyb;obtain⟨y1,hy1⟩:=e' (y.1 ^^^ 1);rw[<-hy1]at hx1 hx1m;have hx2:=H'N y1 (a%2) (by omega) (by omega);obtain⟨z,hz⟩:=e' (y1 ^^^ (a%2));rw[<-hz]at hx2;have hwi:=w'1 i;obtain⟨v3,g3,e3,gr3⟩:=gr.app L hk0 z (by simp[A'6];omega);have hst2:A'6 N (cl.take i)++[z]=A'6 N (cl.take (i+1)):=by
     unfold A'6;rw[l'C,ha,List.map_append];simp[l'r,hy,hz,hy1]
    rw[hst2]at gr3;obtain⟨i',hi2⟩:=e' (i+1);rw[<-hi2]at hwi gr3;generalize a/2=dd at *;generalize a%2=ee at *;refine f'f ?_;simp[K'Z,ZnE,ZnF,ZnG,ZnH,d0,d1',d5,d6,m1,hi,hi',hcell,hsh,hxa,hxa',hc0,hx1,hand,hx2,e3,hwi];exact⟨n,by omega,by simp[d0],by simp[d1',e8],i',v3,by simp,by simp,by omega,gr3⟩
  ·rintro e t g ⟨hr,hq⟩;rw[hr];simp only[A'c];have f3:=hq.tup;refine f'f ?_;simp[ZnI,A'1,A'i,rvE,f3];exact hq
 obtain⟨u,h',e1,gr⟩:=key;obtain⟨w2,s2,c2,lo2⟩:=gr.give hk0 t1;exact⟨u,h',w2,e1,s2,c2,lo2⟩
theorem Q'5 (h:H)(b:Nat): C'e Tryz.prog O 159 (.pointer (some ⟨b,0,none⟩)) h=(cellsA O h b 0 2).map λl=>.agg l.toArray:=by
 have hi:(Tryz.prog.info? 159).map (·.size)=some 2:=by kernel_rfl
 cases hx:Tryz.prog.info? 159 with
 | none=>rw[hx]at hi;simp at hi
 | some i=>
  rw[hx]at hi;simp only[l'l,l'a]at hi;simp only[C'e,Tryz.underlying159,hx,hi]
theorem Q'6 (C:LP' O ro c)(L:O.Law)(X:CN O ro w h cp N v1 v2){b o:Nat}{tb:Tag}{lb:List Value}(yb:Bx O ro w h tb b lb)(hb:lb[o]?=some (ptr s))(x:SV O ro w h p s Z vE vcl vM vK vs)(hM:1+N.ni+N.las.length<=Z.model.length)(hM2:Z.model.length<=192)(h1:N.ni<=60)(h2:N.las.length<=60):
  ∃h' w',c 161 [.pointer (some ⟨b,o,none⟩),ptr cp] h=some (.agg #[ni (A'7 N Z).1,ni (A'7 N Z).2],h')∧Ch O (λ_=>False) w h w' h'∧ro<=O.next h'∧(A'7 N Z).1<9223372036854775808∧(A'7 N Z).2<9223372036854775808:=by
 obtain⟨k0,hk0⟩:=B'i w (O.next h);have y1:=Bx.new L (ro:=ro) w h x.lo (14,k0) [.int .i64 0,.int .i64 0];have c1:=Ch.new L (λ_=>False) w h (14,k0) [.int .i64 0,.int .i64 0];have X1:=X.ch L c1;have x1:=x.ch L c1;have yb1:=yb.ch L c1;obtain⟨e2,l2⟩:=O'x C L yb1 hb x1 (first:=1) (count:=N.ni) h1 (by omega) hM2;obtain⟨e3,l3⟩:=O'x C L yb1 hb x1 (first:=1+N.ni) (count:=N.las.length) h2 (by omega) hM2;obtain⟨g4,p4,y4,c4⟩:=Bx.over L (K:=λu=>u=((14,k0):Tag)) rfl y1 (show [ni (A'7 N Z).1,ni (A'7 N Z).2].length = _ from rfl);have cc:=Ch.own (k:=k0) c1 c4 hk0;refine⟨g4,_,?_,cc,l'G x.lo cc.nx,l3,l2⟩;have m0:=X1.m.get 0 _ rfl;have m1:=X1.m.get 1 _ rfl;obtain⟨a1,q1,f1⟩:=X1.len1;rw[f1]at m1;have hw1:IntKind.i64.wrap (1+(N.ni:Int))=((1+N.ni:Nat):Int):=w'i;obtain⟨z1,hz1⟩:=e' (1+N.ni);have hf1:(A'7 N Z).1=D'p Z z1 N.las.length:=by rw[hz1];rfl
 have hf2:(A'7 N Z).2=D'p Z 1 N.ni:=rfl;rw[<-hz1]at hw1 e3;rw[<-hf1]at e3;rw[<-hf2]at e2;generalize (A'7 N Z).1=r1 at *;generalize (A'7 N Z).2=r2 at *;have rr:¬O.next h<ro:=by have:=x.lo;omega
 have hall:=y4.all;simp only[l'n,l'o]at hall;have hl:=Q'5 (O:=O) g4 (O.next h);have e2':c 189 [.pointer (some ⟨b,o,none⟩),.int .i64 1,ni N.ni] (O.new h [.int .i64 0,.int .i64 0])=some (ni r2,O.new h [.int .i64 0,.int .i64 0]):=e2;refine C.eq (Q'T O ro) rfl rfl ?_;unfold V'C;refine s'f ?_;simp[Znq,A'c];refine s'f ?_;simp[Znr,A'c,m0,e2'];refine s'f ?_;simp[Zns,A'c,m0,m1,hw1,e3];refine f'f ?_;simp[Znt,rr,p4,A'1,A'i,rvE,hl,hall]
theorem O'y (C:LP' O ro c)(L:O.Law)(X:CN O ro w h cp N v1 v2){a:Nat}(ha:a/2<N.las.length): c 191 [ptr cp,ni a] h=some (.bool (A'5 N a),h):=by
 have hn:=X.nv;unfold Ck.nv at hn;obtain⟨y,hy⟩:∃y,N.las[a/2]?=some y:=⟨_,l'c ha⟩;obtain⟨bG,qG,fG,hc0,hc1⟩:=X.getL (a/2) hy;have m1:=X.m.get 1 _ rfl;rw[fG]at m1;have ha':((a/2:Nat):Int)<N.las.length:=by omega
 have hsh:=C'c a;have hand:=C'r a (by omega);have hbt:A'5 N a=(decide (y.2≠2)&&decide (y.2≠a%2)):=by
  unfold A'5;simp only[l'r,hy,Option.getD_some]
 rw[hbt];generalize a/2=dd at *;generalize a%2=ee at *;have n2:=C't y.2 2;have n3:=C't y.2 ee;have n2':((y.2:Int) != 2) = !decide (y.2=2):=n2;refine C.eq (Q'0 O ro) rfl rfl ?_;unfold V'J;refine s'f ?_;simp[Zot,A'c];refine s'f ?_;simp[Zou,A'c,m1,hsh,ha,ha',hc1]
 by_cases h2:y.2=2
 ·have n4:((y.2:Int) != 2)=false:=by rw[n2'];simp[h2]
  have n5:(y.2:Int)=2:=by omega
  refine f'f ?_;simp[Zov,n4,n5,h2,hand,A'1,A'i,rvE]
 ·have n4:((y.2:Int) != 2)=true:=by rw[n2'];simp[h2]
  have n5:¬(y.2:Int)=2:=by omega
  refine f'f ?_;simp[Zov,n4,n5,h2,hand,n3,A'1,A'i,rvE]
def EqI (h:H)(va vb:Value)(a b:List Nat)(n:Nat)(t:Env)(g:H): Prop:=
 g=h∧t 0=va∧t 1=vb∧∃i,t 5=ni i∧i+n=a.length∧a.take i=b.take i
theorem Q'7 (C:LP' O ro c)(L:O.Law){ta tb:Tag}{va vb:Value}{a b:List Nat}(ha:a.length<=most)(hb:b.length<=most)(sa:Sm O ro w h ta 1 va (a.map ni))(sb:Sm O ro w h tb 1 vb (b.map ni)): c 203 [va,vb] h=some (.bool (a==b),h):=by
 have hm:most=1000000:=rfl;obtain⟨a1,q1,f1⟩:=sa.len (by omega) a.length (by simp);obtain⟨a2,q2,f2⟩:=sb.len (by omega) b.length (by simp);have key:∃u h',c 203 [va,vb] h=some (u,h')∧(u = .bool (a==b)∧h'=h):=by
  refine C.fn (Q'3 O ro) rfl rfl ?_;unfold V'M;refine s'f ?_;simp[ZoN,A'c]
  by_cases hl:a.length=b.length
  ·have n1:((a.length:Int) != (b.length:Int))=false:=by rw[C't];simp[hl]
   have n2:(a.length:Int)=b.length:=by omega
   refine okE.seq (s'f ?_);simp[ZoO,A'c,f1,f2,n1,n2,hl];refine f'f ?_;simp[A'c];refine okE.seq (s'f ?_);simp[ZoQ,A'c];refine okE.blk ?_;refine okE.mono (okE.loop (Q:=λe t' g'=>g'=h∧(A'j 0 e = .ret∧t' 4 = .bool false∧(a==b)=false∨A'j 0 e = .normal∧(a==b)=true)) (EqI h va vb a b) ?_ a.length _ _ ⟨rfl,by simp[f1,hl],by simp[f2],0,by simp,by omega,by simp⟩) ?_
   ·rintro n t g ⟨rfl,d0,d1,i,d5,hin,htk⟩
    cases n with
    | zero=>
     obtain rfl:i=a.length:=by omega
     rw[f1]at d0;rw[List.take_length,hl,List.take_length]at htk;refine f'f ?_;simp[I'y,ZoR,d0,d1,d5];exact htk
    | succ n=>
     have hi:i<a.length:=by omega
     have hi':(i:Int)<a.length:=by omega
     have hj:i<b.length:=by omega
     have hj':(i:Int)<b.length:=by omega
     obtain⟨bA,pA,eA,_,yA⟩:=sa.blk (by omega) a.length (by simp) (by omega);obtain⟨bB,pB,eB,_,yB⟩:=sb.blk (by omega) b.length (by simp) (by omega);obtain⟨x,hx⟩:∃x,a[i]?=some x:=⟨_,l'c hi⟩;obtain⟨y,hy⟩:∃y,b[i]?=some y:=⟨_,l'c hj⟩;have kx:O.cell g bA i=some (ni x):=by rw[yA.cell i (by simpa using hi)];simp[hx]
     have ky:O.cell g bB i=some (ni y):=by rw[yB.cell i (by simpa using hj)];simp[hy]
     have d0':=d0;have d1':=d1;rw[eA]at d0';rw[eB]at d1';have hwi:=w'1 i
     by_cases he:x=y
     ·have n1:((x:Int) != (y:Int))=false:=by rw[C't];simp[he]
      have htk2:a.take (i+1)=b.take (i+1):=by rw[l'C,l'C,hx,hy,htk,he]
      obtain⟨i',hi2⟩:=e' (i+1);rw[<-hi2]at hwi htk2;refine f'f ?_;simp[I'y,ZoR,ZoS,ZoU,d0',d1',d5,hi,hi',hj,hj',kx,ky,he,n1,hwi];exact⟨n,by omega,rfl,by simp[d0',eA],by simp[d1',eB],i',by simp,by omega,htk2⟩
     ·have n1:((x:Int) != (y:Int))=true:=by rw[C't];simp[he]
      have n2:¬(x:Int)=(y:Int):=by omega
      refine f'f ?_;simp[I'y,ZoR,ZoS,ZoT,d0',d1',d5,hi,hi',hj,hj',kx,ky,he,n1,n2];rintro rfl;rw[hx]at hy;simp at hy;exact he hy
   ·rintro e t g ⟨rfl,hr⟩;rcases hr with ⟨hr,d4,hab⟩|⟨hr,hab⟩
    ·rw[hr];simp only[A'c,A'1,A'i,rvE,d4,hab];simp
    ·rw[hr];simp only[A'c];refine f'f ?_;simp only[hab];simp[ZoV,A'1,A'i,rvE]
  ·have n1:((a.length:Int) != (b.length:Int))=true:=by rw[C't];simp[hl]
   have n2:¬(a.length:Int)=b.length:=by omega
   have hab:(a==b)=false:=by rw[l'A];rintro rfl;exact hl rfl
   refine s'f ?_;simp only[hab];simp[ZoO,ZoP,A'c,f1,f2,n1,n2,hl,A'1,A'i,rvE]
 obtain⟨u,h',e1,rfl,rfl⟩:=key;exact e1
def FaI (O:HI H)(ro:Nat)(w:Own)(h:H)(k0 cp b o:Nat)(N:Ck)(vl:Value)(cl:List Nat)(n:Nat)(t:Env)(g:H): Prop:=
 t 0 = .pointer (some ⟨b,o,none⟩)∧t 1 = .pointer (some ⟨cp,0,none⟩)∧t 2=vl∧∃i v,t 6=v∧t 7=ni i∧i+n=cl.length∧GrI O ro w h k0 v (D'9 N (cl.take i)) g
theorem Q'8 (C:LP' O ro c)(L:O.Law)(hp:20<=p)(X:CN O ro w h cp N v1 v2){tl:Tag}{vl:Value}{cl:List Nat}(hcl:cl.length<=192)(hx:∀x∈cl,x/2<N.las.length)(sl:Sm O ro w h tl 1 vl (cl.map ni)){b o:Nat}{tb:Tag}{lb:List Value}(yb:Bx O ro w h tb b lb)(hb:lb[o]?=some (ptr s))(x:SV O ro w h p s Z vE vcl vM vK vs)(hZ:Go.Ta.ZOk Z){Z':Solv}(hs:J'e Z (D'9 N cl)=some Z'):
  ∃h',c 193 [.pointer (some ⟨b,o,none⟩),ptr cp,vl] h=some (.tuple #[],h')∧RsQ O ro w h p s Z' h':=by
 have hm:most=1000000:=rfl;have hn:=X.nv;unfold Ck.nv at hn;obtain⟨k0,hk0⟩:=B'i w (O.next h);have key:∃u h',c 193 [.pointer (some ⟨b,o,none⟩),ptr cp,vl] h=some (u,h')∧(u = .tuple #[]∧RsQ O ro w h p s Z' h'):=by
  refine C.fn (Q'2 O ro) rfl rfl ?_;unfold V'L;refine s'f ?_;simp[ZoG,A'c];refine okE.seq (s'f ?_);simp[ZoH,A'c];refine okE.blk ?_;refine okE.mono (okE.loop (Q:=λe t' g'=>A'j 0 e = .normal∧t' 0 = .pointer (some ⟨b,o,none⟩)∧GrI O ro w h k0 (t' 6) (D'9 N cl) g') (FaI O ro w h k0 cp b o N vl cl) ?_ cl.length _ _ ⟨by simp,by simp,by simp,0,_,by simp,by simp,by omega,GrI.new L x.lo⟩) ?_
  ·rintro n t g ⟨d0,d1,d2,i,v,d6,d7,hin,gr⟩;obtain⟨w1,s1,c1,lo1⟩:=id gr;have X1:=X.ch L c1;have slg:=sl.ch L c1
   cases n with
   | zero=>
    obtain rfl:i=cl.length:=by omega
    obtain⟨aL,cL,hvl⟩:=sl.len (by omega) cl.length (by simp);rw[hvl]at d2;rw[List.take_length]at gr;refine f'f ?_;simp[K'2,ZoI,d0,d1,d2,d6,d7];exact gr
   | succ n=>
    have hi:i<cl.length:=by omega
    have hi':(i:Int)<cl.length:=by omega
    obtain⟨bL,cpp,e8,hcp,yl⟩:=slg.blk (by omega) cl.length (by simp) (by omega);have d2':=d2;rw[e8]at d2';obtain⟨a,ha⟩:∃a,cl[i]?=some a:=⟨_,l'c hi⟩;have hcell:O.cell g bL i=some (ni a):=by rw[yl.cell i (by simpa using hi)];simp[ha]
    have hxa:=hx a (l'f ha);have eg:=I'z C L X1 (a/2) (by omega);have hlg:N.lla (a/2)<1000:=by unfold Ck.lla;omega
    have hsh:=C'c a;have hand:=C'r a (by omega);obtain⟨y1,hy1⟩:=e' (N.lla (a/2));rw[<-hy1]at eg hlg;have hx2:=H'N y1 (a%2) (by omega) (by omega);obtain⟨z,hz⟩:=e' (y1 ^^^ (a%2));rw[<-hz]at hx2;have hwi:=w'1 i;obtain⟨v3,g3,e3,gr3⟩:=gr.app L hk0 z (by simp[D'9];omega);have hst2:D'9 N (cl.take i)++[z]=D'9 N (cl.take (i+1)):=by
     unfold D'9;rw[l'C,ha,List.map_append];simp[hz,hy1]
    rw[hst2]at gr3;obtain⟨i',hi2⟩:=e' (i+1);rw[<-hi2]at hwi gr3;unfold ptr at eg;generalize a/2=dd at *;generalize a%2=ee at *;refine f'f ?_;simp[K'2,ZoI,ZoJ,ZoK,ZoL,d0,d1,d2',d6,d7,hi,hi',hcell,hsh,eg,hand,hx2,e3,hwi];exact⟨n,by omega,by simp[d0],by simp[d1],by simp[d2',e8],i',v3,by simp,by simp,by omega,gr3⟩
  ·rintro e t g ⟨hr,d0,hq⟩;rw[hr];simp only[A'c];obtain⟨w1,s1,c1,lo1⟩:=hq;have x1:=x.ch L c1;have yb1:=yb.ch L c1;have kb:=yb1.get o _ hb;obtain⟨vcl',vs',h',w',e2,x2,c2⟩:=S'S C L hp x1 hZ.1 s1 hs;unfold ptr at e2 kb;refine f'f ?_;simp[ZoM,d0,kb,e2,A'1,A'i,rvE];exact⟨_,_,_,_,_,w',(E'a hs hZ).1,x2,(c1.mono (by simp)).trans c2⟩
 obtain⟨u,h',e1,rfl,e2⟩:=key;exact⟨h',e1,e2⟩
end
section
variable {H:Type}{O:HI H}{ro:Nat}{c:A'Z H}
variable {w w':Own}{h h':H}{q:Nat}{S:Srch}{bW bH bV:Nat}{vA vC vT vS vK:Value}{lv wv:List Value}
def PlQ (O:HI H)(ro:Nat)(w:Own)(h:H)(k0 bs:Nat)(m:List Bool)(g:H): Prop:=
 ∃w1,Bx O ro w1 g (14,k0) bs (m.map Value.bool)∧Ch O (λ_=>False) w h w1 g∧ro<=O.next g
def PlJ (O:HI H)(ro:Nat)(w:Own)(h:H)(k0 bs:Nat)(va vb:Value)(l wd:List Nat)(i:Nat)(n:Nat)(t:Env)(g:H): Prop:=
 t 0=va∧t 1=vb∧t 5 = .slice (some ⟨bs,0,some 1⟩) l.length (l.length+1)∧t 6=ni i∧∃k,t 7=ni k∧k+n=l.length∧(∀x,wd[i]?=some x->x∉l.take k)∧PlQ O ro w h k0 bs (B'f l (wd.take i)) g
theorem K'9 (L:O.Law){k0 bs:Nat}(hk0:∀b,b<O.next h->w b≠((14,k0):Tag)){ta tb:Tag}{va vb:Value}{l wd:List Nat}(hl:l.length<=most)(hwd:wd.length<=most)(sa:Sm O ro w h ta 1 va (l.map ni))(sb:Sm O ro w h tb 1 vb (wd.map ni)){i n:Nat}(hi:i<wd.length){t:Env}{g:H}(I:PlJ O ro w h k0 bs va vb l wd i n t g):
  okE c (G'Z O Tryz.prog ro) (t,g) (λe t' g'=>(e = .normal∧∃n',n'<n∧PlJ O ro w h k0 bs va vb l wd i n' t' g')∨(e≠.normal∧(A'j 2 e = .normal∧t' 0=va∧t' 1=vb∧t' 5 = .slice (some ⟨bs,0,some 1⟩) l.length (l.length+1)∧t' 6=ni i∧PlQ O ro w h k0 bs (B'f l (wd.take (i+1))) g'))):=by
 have hm:most=1000000:=rfl;obtain⟨d0,d1,d5,d6,k,d7,hkn,hno,pq⟩:=I;have hi':(i:Int)<wd.length:=by omega
 obtain⟨x,hx⟩:∃x,wd[i]?=some x:=⟨_,l'c hi⟩;obtain⟨w1,yb,c1,lo1⟩:=id pq;have sag:=sa.ch L c1;have sbg:=sb.ch L c1
 cases n with
 | zero=>
  obtain rfl:k=l.length:=by omega
  have h1:=hno x hx;rw[List.take_length]at h1;rw[H'O h1 hx]at pq;obtain⟨a1,q1,f1⟩:=sa.len (by omega) l.length (by simp);have d0':=d0;rw[f1]at d0';refine f'f ?_;simp[G'Z,Zon,d0',d1,d5,d6,d7,f1];exact pq
 | succ n=>
  have hk:k<l.length:=by omega
  have hk':(k:Int)<l.length:=by omega
  obtain⟨bA,pA,eA,_,yA⟩:=sag.blk (by omega) l.length (by simp) (by omega);obtain⟨bB,pB,eB,_,yB⟩:=sbg.blk (by omega) wd.length (by simp) (by omega);obtain⟨y,hy⟩:∃y,l[k]?=some y:=⟨_,l'c hk⟩;have ky:O.cell g bA k=some (ni y):=by rw[yA.cell k (by simpa using hk)];simp[hy]
  have kx:O.cell g bB i=some (ni x):=by rw[yB.cell i (by simpa using hi)];simp[hx]
  have d0':=d0;have d1':=d1;rw[eA]at d0';rw[eB]at d1';have hwk:=w'1 k
  by_cases he:y=x
  ·subst he;have hlt:k<((B'f l (wd.take i)).map Value.bool).length:=by simp[B'8,hk]
   have yb2:=yb.put L k hlt (.bool true);have c2:=Ch.put L (K:=λu=>u=((14,k0):Tag)) yb k hlt (.bool true) rfl;rw[<-List.map_set,J'k hy (hno y hx) hx]at yb2;have hp2:=A'C (O:=O) (h:=g) (b:=bs) (i:=k) (v:=.bool true) (yb.get k _ (l'c hlt));have c12:=Ch.own (k:=k0) c1 c2 hk0;have rs:¬bs<ro:=by have:=yb.lo;omega
   have lo2:=l'G lo1 c2.nx;generalize O.put g bs k (.bool true)=g2 at *;refine f'f ?_;simp[G'Z,Zon,Zoo,Zop,d0',d1',d5,d6,d7,hk,hk',hi,hi',kx,ky,rs,hp2,eA,eB];exact⟨w1,yb2,c12,lo2⟩
  ·have n1:((y:Int)==(x:Int))=false:=by rw[l'A];omega
   have n2:¬(y:Int)=(x:Int):=by omega
   obtain⟨k',hk2⟩:=e' (k+1);have hno2:∀z,wd[i]?=some z->z∉l.take k':=by
    intro z hz;rw[hx]at hz;simp at hz;subst hz;rw[hk2,l'C,hy];simp only[Option.toList_some,l'E,l'm,not_or];exact⟨hno x hx,λh=>he h.symm⟩
   rw[<-hk2]at hwk;refine f'f ?_;simp[G'Z,Zon,Zoo,Zoq,d0',d1',d5,d6,d7,hk,hk',hi,hi',kx,ky,he,n1,n2,hwk];exact⟨n,by omega,by simp[d0',eA],by simp[d1',eB],by simp[d5],by simp[d6],k',by simp,by omega,hno2,pq⟩
def PlI (O:HI H)(ro:Nat)(w:Own)(h:H)(k0 bs:Nat)(va vb:Value)(l wd:List Nat)(n:Nat)(t:Env)(g:H): Prop:=
 t 0=va∧t 1=vb∧t 5 = .slice (some ⟨bs,0,some 1⟩) l.length (l.length+1)∧∃i,t 6=ni i∧i+n=wd.length∧PlQ O ro w h k0 bs (B'f l (wd.take i)) g
theorem N'o (C:LP' O ro c)(L:O.Law)(lo:ro<=O.next h){ta tb:Tag}{va vb:Value}{l wd:List Nat}(hl:l.length<=most)(hwd:wd.length<=most)(sa:Sm O ro w h ta 1 va (l.map ni))(sb:Sm O ro w h tb 1 vb (wd.map ni))(t1:Tag):
  ∃bs h' w',c 190 [va,vb] h=some (.slice (some ⟨bs,0,some 1⟩) l.length (l.length+1),h')∧Bx O ro w' h' t1 bs ((B'f l wd).map Value.bool)∧Ch O (λ_=>False) w h w' h'∧ro<=O.next h':=by
 have hm:most=1000000:=rfl;obtain⟨k0,hk0⟩:=B'i w (O.next h);obtain⟨a1,q1,f1⟩:=sa.len (by omega) l.length (by simp);have key:∃u h',c 190 [va,vb] h=some (u,h')∧(u = .slice (some ⟨O.next h,0,some 1⟩) l.length (l.length+1)∧PlQ O ro w h k0 (O.next h) (B'f l wd) h'):=by
  refine C.fn (Q'Z O ro) rfl rfl ?_;unfold V'I;have hN1:(l.length:Int)<=140737488355328:=by omega
  have hN2:l.length<=140737488355328:=by omega
  have hrA:=D'O (.bool false) l.length;have hp0:(B'f l (wd.take 0)).map Value.bool=List.replicate l.length (.bool false):=by
   apply List.ext_getElem
   ·simp[B'8]
   ·intro j h1 h2;simp only[List.getElem_map,List.getElem_replicate];have hj:j<l.length:=by simpa using h2
    have:=C'U (w:=wd.take 0) (l'c hj);simp only[List.take_zero,List.not_mem_nil,decide_false,Bool.false_and]at this ⊢;rw[l'b]at this;rw[this.2]
  have y1:=Bx.new L (ro:=ro) w h lo (14,k0) (List.replicate l.length (.bool false));have c1:=Ch.new L (λ_=>False) w h (14,k0) (List.replicate l.length (.bool false));have lo1:=l'G lo c1.nx;refine s'f ?_;simp[Zoi,A'c];refine s'f ?_;simp[-rangeA,Zoj,A'c,f1,hN1,hN2,hrA];refine okE.seq (s'f ?_);simp[Zok,A'c];refine okE.blk ?_;refine okE.mono (okE.loop (Q:=λe t' g'=>A'j 0 e = .normal∧t' 5 = .slice (some ⟨O.next h,0,some 1⟩) l.length (l.length+1)∧PlQ O ro w h k0 (O.next h) (B'f l wd) g') (PlI O ro w h k0 (O.next h) va vb l wd) ?_ wd.length _ _ ⟨by simp[f1],by simp,by simp,0,by simp,by omega,_,by rw[hp0];exact y1,c1,lo1⟩) ?_
  ·rintro n t g ⟨d0,d1,d5,i,d6,hin,pq⟩;obtain⟨a2,q2,f2⟩:=sb.len (by omega) wd.length (by simp);have d1':=d1;rw[f2]at d1'
   cases n with
   | zero=>
    obtain rfl:i=wd.length:=by omega
    rw[List.take_length]at pq;unfold K'1;refine s'f ?_;simp[Zol,A'c,d0,d1',d5,d6];exact pq
   | succ n=>
    have hi:i<wd.length:=by omega
    have hi':(i:Int)<wd.length:=by omega
    have hwi:=w'1 i;unfold K'1;refine s'f ?_;simp[Zol,A'c,d1',d6,hi,hi'];refine okE.seq (okE.blk (s'f ?_));simp[Zom,A'c];refine okE.blk ?_;refine okE.mono (okE.loop (Q:=λe t' g'=>A'j 2 e = .normal∧t' 0=va∧t' 1=vb∧t' 5 = .slice (some ⟨O.next h,0,some 1⟩) l.length (l.length+1)∧t' 6=ni i∧PlQ O ro w h k0 (O.next h) (B'f l (wd.take (i+1))) g') (PlJ O ro w h k0 (O.next h) va vb l wd i) (λn t g' I=>K'9 L hk0 hl hwd sa sb hi I) l.length _ _ ⟨by simp[d0],by simp[d1],by simp[d5],by simp[d6],0,by simp,by omega,by simp,pq⟩) ?_;rintro e t' g' ⟨hr,e0,e1,e5,e6,pq2⟩;rw[hr];simp only[A'c,A'j];obtain⟨i',hi2⟩:=e' (i+1);rw[<-hi2]at hwi pq2;refine f'f ?_;simp[Zor,e6,hwi];exact⟨n,by omega,by simp[e0],by simp[e1],by simp[e5],i',by simp,by omega,pq2⟩
  ·rintro e t g ⟨hr,d5,hq⟩;rw[hr];simp only[A'c];refine f'f ?_;simp[Zos,d5,A'1,A'i,rvE];exact hq
 obtain⟨u,h',e1,rfl,w1,y1,c1,lo1⟩:=key;have hb:¬O.next h<O.next h:=by omega
 refine⟨O.next h,h',w1.set (O.next h) t1,e1,⟨by simp[Own.set],y1.lo,y1.al,y1.cell⟩,⟨c1.nx,λb' hb'=>?_,c1.fr⟩,lo1⟩;have:b'≠O.next h:=by omega
 simp only[Own.set,if_neg this];exact c1.ow b' hb'
variable {cp:Nat}{N:Ck}{v1 v2:Value}
def G'g (N:Ck)(z:List (Nat×Bool)): Bool:=!(z.any λp=>p.2&&A'5 N p.1)
theorem L'a (N:Ck)(a:List (Nat×Bool))(x:Nat)(b:Bool): G'g N (a++[(x,b)])=(G'g N a && !(b&&A'5 N x)):=by
 simp[G'g,List.any_append]
def ShI (cp bs:Nat)(h:H)(N:Ck)(vl:Value)(cl:List Nat)(nm:List Bool)(n:Nat)(t:Env)(g:H): Prop:=
 g=h∧t 0 = .pointer (some ⟨cp,0,none⟩)∧t 1=vl∧t 8 = .slice (some ⟨bs,0,some 1⟩) cl.length (cl.length+1)∧∃i,t 10=ni i∧i+n=cl.length∧t 9 = .bool (G'g N ((cl.zip nm).take i))
theorem N'p {cl:List Nat}{nm:List Bool}{i x:Nat}{b:Bool}(hx:cl[i]?=some x)(hb:nm[i]?=some b): (cl.zip nm).take (i+1)=(cl.zip nm).take i++[(x,b)]:=by
 rw[l'C];have:(cl.zip nm)[i]?=some (x,b):=by rw[List.getElem?_zip_eq_some];exact⟨hx,hb⟩
 rw[this];rfl
theorem N'q {cl:List Nat}{nm:List Bool}{i x:Nat}{b:Bool}(hx:cl[i]?=some x)(hb:nm[i]?=some b): (cl.zip nm).drop i=(x,b) :: (cl.zip nm).drop (i+1):=by
 have h1:(cl.zip nm)[i]?=some (x,b):=by rw[List.getElem?_zip_eq_some];exact⟨hx,hb⟩
 obtain⟨h2,h3⟩:=l'b.1 h1;rw[l's h2,h3]
theorem N'r (C:LP' O ro c)(L:O.Law)(X:CN O ro w h cp N v1 v2){tl ts:Tag}{vl:Value}{cl:List Nat}{nm:List Bool}{bs:Nat}(hcl:cl.length<=192)(hx:∀x∈cl,x/2<N.las.length)(sl:Sm O ro w h tl 1 vl (cl.map ni))(ys:Bx O ro w h ts bs (nm.map Value.bool))(hnm:nm.length=cl.length){n:Nat}{t:Env}{g:H}(I:ShI cp bs h N vl cl nm n t g):
  okE c (F'N O Tryz.prog ro) (t,g) (λe t' g'=>(e = .normal∧∃n',n'<n∧ShI cp bs h N vl cl nm n' t' g')∨(e≠.normal∧(A'j 0 e = .normal∧g'=h∧t' 0 = .pointer (some ⟨cp,0,none⟩)∧t' 1=vl∧t' 8 = .slice (some ⟨bs,0,some 1⟩) cl.length (cl.length+1)∧t' 9 = .bool (G'g N (cl.zip nm))))):=by
 obtain⟨rfl,d0,d1,d8,i,d10,hin,d9⟩:=I
 cases n with
 | zero=>
  obtain rfl:i=cl.length:=by omega
  obtain⟨aL,cL,hvl⟩:=sl.len (by omega) cl.length (by simp);have d1':=d1;rw[hvl]at d1';have htk:(cl.zip nm).take cl.length=cl.zip nm:=List.take_of_length_le (by simp;omega);rw[htk]at d9;refine f'f ?_;simp[F'N,ZnO,d0,d1',d8,d9,d10,hvl]
 | succ n=>
  have hi:i<cl.length:=by omega
  have hi':(i:Int)<cl.length:=by omega
  obtain⟨bL,pL,eL,_,yl⟩:=sl.blk (by omega) cl.length (by simp) (by omega);obtain⟨x,hxx⟩:∃x,cl[i]?=some x:=⟨_,l'c hi⟩;obtain⟨b,hb⟩:∃b,nm[i]?=some b:=⟨_,l'c (by omega)⟩;have kx:O.cell g bL i=some (ni x):=by rw[yl.cell i (by simpa using hi)];simp[hxx]
  have kb:O.cell g bs i=some (.bool b):=by rw[ys.cell i (by simp;omega)];simp[hb]
  have d1':=d1;rw[eL]at d1';have hwi:=w'1 i;have eb:=O'y C L X (hx x (l'f hxx));have hz:=N'p hxx hb;have hlk:=L'a N ((cl.zip nm).take i) x b;rw[<-hz]at hlk;obtain⟨i',hi2⟩:=e' (i+1);rw[<-hi2]at hwi hlk;unfold ptr at eb
  cases b with
  | false=>
   simp only[Bool.false_and,Bool.not_false,Bool.and_true]at hlk;refine f'f ?_;simp[F'N,ZnO,ZnP,ZnR,d0,d1',d8,d9,d10,hi,hi',kx,kb,hwi];exact⟨n,by omega,rfl,by simp[d0],by simp[d1',eL],by simp[d8],i',by simp,by omega,by simp[d9,hlk]⟩
  | true=>
   cases hbt:A'5 N x with
   | true=>
    rw[hbt]at eb hlk;simp only[Bool.and_self,Bool.not_true,Bool.and_false]at hlk;refine f'f ?_;simp[F'N,ZnO,ZnP,ZnQ,ZnR,d0,d1',d8,d9,d10,hi,hi',kx,kb,eb,hwi];exact⟨n,by omega,rfl,by simp[d0],by simp[d1',eL],by simp[d8],i',by simp,by omega,by simp[hlk]⟩
   | false=>
    rw[hbt]at eb hlk;simp only[Bool.and_false,Bool.not_false,Bool.and_true]at hlk;refine f'f ?_;simp[F'N,ZnO,ZnP,ZnR,d0,d1',d8,d9,d10,hi,hi',kx,kb,eb,hwi];exact⟨n,by omega,rfl,by simp[d0],by simp[d1',eL],by simp[d8],i',by simp,by omega,by simp[d9,hlk]⟩
def ShJ (O:HI H)(ro:Nat)(w:Own)(h:H)(k0 cp bs:Nat)(N:Ck)(vl:Value)(cl:List Nat)(nm:List Bool)(res:List Nat)(n:Nat)(t:Env)(g:H): Prop:=
 t 0 = .pointer (some ⟨cp,0,none⟩)∧t 1=vl∧t 8 = .slice (some ⟨bs,0,some 1⟩) cl.length (cl.length+1)∧∃(i:Nat)(v:Value)(lk:Bool)(acc:List Nat)(m:List Bool)(w1:Own),t 12=ni i∧i+n=cl.length∧t 9 = .bool lk∧t 11=v∧acc++B'6 N ((cl.zip nm).drop i) lk=res∧acc.length<=i∧m.length=cl.length∧(∀j:Nat,i<=j->m[j]?=nm[j]?)∧Bx O ro w1 g (14,k0+1) bs (m.map Value.bool)∧Sm O ro w1 g (14,k0) 1 v (acc.map ni)∧Ch O (λu=>u=(14,k0)∨u=(14,k0+1)) w h w1 g∧ro<=O.next g
def ShQ (O:HI H)(ro:Nat)(w:Own)(h:H)(k0:Nat)(res:List Nat)(v:Value)(g:H): Prop:=
 ∃w1,Sm O ro w1 g (14,k0) 1 v (res.map ni)∧Ch O (λu=>u=(14,k0)∨u=(14,k0+1)) w h w1 g∧ro<=O.next g
theorem N's (C:LP' O ro c)(L:O.Law){k0:Nat}(X:CN O ro w h cp N v1 v2){tl:Tag}{vl:Value}{cl:List Nat}{nm:List Bool}{bs:Nat}(hcl:cl.length<=192)(hx:∀x∈cl,x/2<N.las.length)(htl:tl.1≠14)(sl:Sm O ro w h tl 1 vl (cl.map ni))(hnm:nm.length=cl.length){res:List Nat}{n:Nat}{t:Env}{g:H}(I:ShJ O ro w h k0 cp bs N vl cl nm res n t g):
  okE c (F'd O Tryz.prog ro) (t,g) (λe t' g'=>(e = .normal∧∃n',n'<n∧ShJ O ro w h k0 cp bs N vl cl nm res n' t' g')∨(e≠.normal∧(A'j 2 e = .normal∧ShQ O ro w h k0 res (t' 11) g'))):=by
 obtain⟨d0,d1,d8,i,v,lk,acc,m,w1,d12,hin,d9,d11,hres,hal,hml,hmn,ys,sv,c1,lo1⟩:=I;have nt:¬(tl=(14,k0)∨tl=(14,k0+1)):=by rintro (h|h) <;> rw[h]at htl <;> simp at htl
 have slg:=sl.ch L c1 nt;have X1:=X.ch L c1
 cases n with
 | zero=>
  obtain rfl:i=cl.length:=by omega
  have hdr:(cl.zip nm).drop cl.length=[]:=List.drop_eq_nil_of_le (by simp;omega);rw[hdr]at hres;simp only[B'6,List.append_nil]at hres;subst hres;obtain⟨aL,cL,hvl⟩:=sl.len (by omega) cl.length (by simp);rw[hvl]at d1;refine f'f ?_;simp[F'd,ZnU,d0,d1,d8,d9,d11,d12];exact⟨w1,sv,c1,lo1⟩
 | succ n=>
  have hi:i<cl.length:=by omega
  have hi':(i:Int)<cl.length:=by omega
  obtain⟨bL,pL,eL,_,yl⟩:=slg.blk (by omega) cl.length (by simp) (by omega);obtain⟨x,hxx⟩:∃x,cl[i]?=some x:=⟨_,l'c hi⟩;obtain⟨b,hb⟩:∃b,nm[i]?=some b:=⟨_,l'c (by omega)⟩;have hmb:m[i]?=some b:=by rw[hmn i (by omega),hb]
  have kx:O.cell g bL i=some (ni x):=by rw[yl.cell i (by simpa using hi)];simp[hxx]
  have kb:O.cell g bs i=some (.bool b):=by rw[ys.cell i (by simp;omega)];simp[hmb]
  have d1':=d1;rw[eL]at d1';have hwi:=w'1 i;have eb:=O'y C L X1 (hx x (l'f hxx));rw[N'q hxx hb]at hres;simp only[B'6]at hres;obtain⟨i',hi2⟩:=e' (i+1);rw[<-hi2]at hwi hres;have hmn':∀j:Nat,i'<=j->m[j]?=nm[j]?:=λj hj=>hmn j (by omega);have rs:¬bs<ro:=by have:=ys.lo;omega
  unfold ptr at eb
  cases b with
  | true=>
   simp only[if_true]at hres;obtain⟨v3,g3,w3,e3,s3,c3,lo3⟩:=B'D (bytes:=8) (new:=[ni x]) L lo1 sv (by omega) rfl (by simp;omega) (by simp;omega);have ys3:=ys.ch L c3;have c13:=c1.trans (c3.mono (K':=λu=>u=(14,k0)∨u=(14,k0+1)) (λ_ h=>.inl h));refine f'f ?_;clear c1 c3;simp[F'd,ZnU,ZnV,ZnY,ZnZ,Zn0,d0,d1',d8,d9,d11,d12,hi,hi',kx,kb,e3,hwi];exact⟨n,by omega,by simp[d0],by simp[d1',eL],by simp[d8],i',v3,lk,acc++[x],m,w3,by simp,by omega,by simp[d9],by simp,by simpa using hres,by simp;omega,hml,hmn',ys3,by simpa using s3.m,c13,lo3⟩
  | false=>
   simp only[l'y,if_false]at hres
   cases lk with
   | false=>
    simp only[Bool.false_and,l'y,if_false]at hres;refine f'f ?_;simp[F'd,ZnU,ZnV,ZnY,Zn0,d0,d1',d8,d9,d11,d12,hi,hi',kx,kb,hwi];exact⟨n,by omega,by simp[d0],by simp[d1',eL],by simp[d8],i',v,false,acc,m,w1,by simp,by omega,by simp[d9],by simp[d11],hres,by omega,hml,hmn',ys,sv,c1,lo1⟩
   | true=>
    cases hbt:A'5 N x with
    | false=>
     rw[hbt]at eb hres;simp only[Bool.and_false,l'y,if_false]at hres;refine f'f ?_;simp[F'd,ZnU,ZnV,ZnY,Zn0,d0,d1',d8,d9,d11,d12,hi,hi',kx,kb,eb,hwi];exact⟨n,by omega,by simp[d0],by simp[d1',eL],by simp[d8],i',v,true,acc,m,w1,by simp,by omega,by simp[d9],by simp[d11],hres,by omega,hml,hmn',ys,sv,c1,lo1⟩
    | true=>
     rw[hbt]at eb hres;simp only[Bool.and_self,if_true]at hres;have hlt:i<(m.map Value.bool).length:=by simp;omega
     have ys2:=ys.put L i hlt (.bool true);have c2:=Ch.put L (K:=λu=>u=((14,k0+1):Tag)) ys i hlt (.bool true) rfl;rw[<-List.map_set]at ys2;have hp2:=A'C (v:=.bool true) kb;have kb2:O.cell (O.put g bs i (.bool true)) bs i=some (.bool true):=by rw[ys2.cell i (by simp;omega),List.getElem?_map,l'g (by omega)];rfl
     have sv2:=sv.ch L c2;have nt2:¬tl=(14,k0+1):=λh=>nt (.inr h);have sl2:=slg.ch L c2 nt2;obtain⟨bL2,pL2,eL2,_,yl2⟩:=sl2.blk (by omega) cl.length (by simp) (by omega);rw[eL]at eL2;simp only[Value.slice.injEq,l'a,Addr.mk.injEq,and_true,true_and]at eL2;obtain⟨rfl,rfl⟩:=eL2;have kx2:O.cell (O.put g bs i (.bool true)) bL i=some (ni x):=by rw[yl2.cell i (by simpa using hi)];simp[hxx]
     have lo2:=l'G lo1 c2.nx;obtain⟨v3,g3,w3,e3,s3,c3,lo3⟩:=B'D (bytes:=8) (new:=[ni x]) L lo2 sv2 (by omega) rfl (by simp;omega) (by simp;omega);have ys3:=ys2.ch L c3;have c13:=(c1.trans (c2.mono (K':=λu=>u=(14,k0)∨u=(14,k0+1)) (λ_ h=>.inr h))).trans (c3.mono (λ_ h=>.inl h));have hmn2:∀j:Nat,i'<=j->(m.set i true)[j]?=nm[j]?:=λj hj=>by rw[l'h (by omega)];exact hmn j (by omega)
     generalize O.put g bs i (.bool true)=g2 at *;refine f'f ?_;clear c1 c2 c3;simp[F'd,ZnU,ZnV,ZnW,ZnX,ZnY,ZnZ,Zn0,d0,d1',d8,d9,d11,d12,hi,hi',kx,kb,eb,rs,hp2,kb2,kx2,e3,hwi];exact⟨n,by omega,by simp[d0],by simp[d1',eL],by simp[d8],i',v3,false,acc++[x],m.set i true,w3,by simp,by omega,by simp,by simp,by simpa using hres,by simp;omega,by simp[hml],hmn2,ys3,by simpa using s3.m,c13,lo3⟩
theorem Q'9 (C:LP' O ro c)(L:O.Law)(lo:ro<=O.next h)(X:CN O ro w h cp N v1 v2){tl tc:Tag}{vl vc:Value}{cl core:List Nat}(hcl:cl.length<=192)(hx:∀x∈cl,x/2<N.las.length)(hla:N.las.length<=192)(htl:tl.1≠14)(sl:Sm O ro w h tl 1 vl (cl.map ni))(hco:core.length<=most)(sc:Sm O ro w h tc 1 vc (core.map ni))(t1:Tag):
  ∃v h' w',c 164 [ptr cp,vl,vc] h=some (v,h')∧Sm O ro w' h' t1 1 v ((B'7 N cl core).map ni)∧Ch O (λ_=>False) w h w' h'∧ro<=O.next h':=by
 have hm:most=1000000:=rfl;obtain⟨k0,hk⟩:=F'a w (O.next h);have hk0:∀b,b<O.next h->w b≠((14,k0):Tag):=λb hb e=>by have:=hk b hb;rw[e]at this;simp at this
 have hk1:∀b,b<O.next h->w b≠((14,k0+1):Tag):=λb hb e=>by have:=hk b hb;rw[e]at this;simp at this;omega
 obtain⟨vb,h2,w2,e2,s2,c2,lo2⟩:=G'f C L lo X hcl hx hla sl (13,0);have sc2:=sc.ch L c2;have hbl:(A'6 N cl).length=cl.length:=by simp[A'6]
 obtain⟨bs,h3,w3,e3,y3,c3,lo3⟩:=N'o C L lo2 (by rw[hbl];omega) hco s2 sc2 (14,k0+1);have c23:=c2.trans c3;rw[hbl]at e3;have X3:=X.ch L c23;have sl3:=sl.ch L c23;have hnm:(B'f (A'6 N cl) core).length=cl.length:=by rw[B'8,hbl]
 obtain⟨nm,hnm2⟩:=e' (B'f (A'6 N cl) core);rw[<-hnm2]at hnm y3;have hsh:B'7 N cl core=B'6 N (cl.zip nm) (G'g N (cl.zip nm)):=by rw[hnm2];rfl
 have key:∃u h',c 164 [ptr cp,vl,vc] h=some (u,h')∧ShQ O ro w3 h3 k0 (B'7 N cl core) u h':=by
  refine C.fn (Q'W O ro) rfl rfl ?_;unfold ptr at e2;unfold V'F;refine s'f ?_;simp[ZnJ,A'c];refine s'f ?_;simp[ZnK,A'c,e2];refine s'f ?_;simp[ZnL,A'c,e3];refine s'f ?_;simp[ZnM,A'c];refine okE.seq (s'f ?_);simp[ZnN,A'c];refine okE.blk ?_;refine okE.mono (okE.loop (Q:=λe t' g'=>A'j 0 e = .normal∧g'=h3∧t' 0 = .pointer (some ⟨cp,0,none⟩)∧t' 1=vl∧t' 8 = .slice (some ⟨bs,0,some 1⟩) cl.length (cl.length+1)∧t' 9 = .bool (G'g N (cl.zip nm))) (ShI cp bs h3 N vl cl nm) (λn t g I=>N'r C L X3 hcl hx sl3 y3 hnm I) cl.length _ _ ⟨rfl,by simp,by simp,by simp,0,by simp,by omega,by simp[G'g]⟩) ?_;rintro e t g ⟨hr,rfl,d0,d1,d8,d9⟩;rw[hr];simp only[A'c];refine s'f ?_;simp[ZnS,A'c];have y4:=Bx.new L (ro:=ro) w3 g lo3 (14,k0) [];have c4:=Ch.new L (λ_=>False) w3 g (14,k0) [];have y34:=y3.ch L c4;have lo4:=l'G lo3 c4.nx;refine okE.seq (s'f ?_);simp[ZnT,A'c];refine okE.blk ?_;refine okE.mono (okE.loop (Q:=λe t' g'=>A'j 2 e = .normal∧ShQ O ro w3 g k0 (B'7 N cl core) (t' 11) g') (ShJ O ro w3 g k0 cp bs N vl cl nm (B'7 N cl core)) (λn t g' I=>N's C L X3 hcl hx htl sl3 hnm I) cl.length _ _ ⟨by simp[d0],by simp[d1],by simp[d8],0,_,G'g N (cl.zip nm),[],nm,_,by simp,by omega,by simp[d9],by simp,by simp[hsh],by simp,hnm,λ_ _=>rfl,y34,.inr ⟨_,0,1,rfl,.inr rfl,by simp,y4⟩,c4.mono (by simp),lo4⟩) ?_;rintro e t' g' ⟨hr,hq⟩;rw[hr];simp only[A'c];obtain⟨w5,s5,hq⟩:=hq;obtain⟨f1,f2,f3⟩:=s5.flat;refine f'f ?_;simp[Zn1,A'1,A'i,rvE,f3];exact⟨w5,s5,hq⟩
 obtain⟨u,h',e1,w5,s5,c5,lo5⟩:=key;have cc:Ch O (λ_=>False) w h w5 h':=by
  refine⟨l'G c23.nx c5.nx,λb hb=>?_,λb hb _=>?_⟩
  ·rw[c5.ow b (Nat.lt_of_lt_of_le hb c23.nx),c23.ow b hb]
  ·have q1:=c23.fr b hb (by simp);have q2:=c5.fr b (Nat.lt_of_lt_of_le hb c23.nx) (by rw[c23.ow b hb];rintro (h1|h1);exact hk0 b hb h1;exact hk1 b hb h1);exact⟨λo=>by rw[q2.1,q1.1],by rw[q2.2,q1.2]⟩
 obtain⟨w6,s6,c6⟩:=N'f (t1:=t1) cc hk0 s5;exact⟨u,h',w6,e1,s6,c6,lo5⟩
variable {cp:Nat}{N:Ck}{v1 v2:Value}
def BgI (cp st:Nat)(h:H)(N:Ck)(n:Nat)(t:Env)(g:H): Prop:=
 g=h∧t 0 = .pointer (some ⟨cp,0,none⟩)∧t 1=ni st∧∃i,t 5=ni i∧i+n=N.las.length∧∀(j:Nat)(y:Nat×Nat),j<i->N.las[j]?=some y->y.2=2∨y.2=st/2^j%2
theorem N't (C:LP' O ro c)(L:O.Law)(X:CN O ro w h cp N v1 v2){st:Nat}(hst:st<9223372036854775808)(hl:N.las.length<=60): c 139 [ptr cp,ni st] h=some (.bool (B'j N st),h):=by
 have m1:=X.m.get 1 _ rfl;have key:∃u h',c 139 [ptr cp,ni st] h=some (u,h')∧(u = .bool (B'j N st)∧h'=h):=by
  refine C.fn (Q'F O ro) rfl rfl ?_;unfold V's;refine s'f ?_;simp[Zki,A'c];refine okE.seq (s'f ?_);simp[Zkj,A'c];refine f'f ?_;simp[A'c];refine okE.seq (s'f ?_);simp[Zkl,A'c];refine okE.blk ?_;refine okE.mono (okE.loop (Q:=λe t' g'=>g'=h∧(A'j 0 e = .ret∧t' 4 = .bool false∧B'j N st=false∨A'j 0 e = .normal∧B'j N st=true)) (BgI cp st h N) ?_ N.las.length _ _ ⟨rfl,by simp,by simp,0,by simp,by omega,λj y hj=>by omega⟩) ?_
  ·rintro n t g ⟨rfl,d0,d1,i,d5,hin,hok⟩
   cases n with
   | zero=>
    obtain rfl:i=N.las.length:=by omega
    obtain⟨a1,q1,f1⟩:=X.len1;have m1':=m1;rw[f1]at m1';refine f'f ?_;simp[G'Y,Zkm,d0,d1,d5,m1'];exact H'P λj y hy=>hok j y (l'b.1 hy).1 hy
   | succ n=>
    have hi:i<N.las.length:=by omega
    have hi':(i:Int)<N.las.length:=by omega
    obtain⟨y,hy⟩:∃y,N.las[i]?=some y:=⟨_,l'c hi⟩;obtain⟨bG,qG,fG,hc0,hc1⟩:=X.getL i hy;have m1':=m1;rw[fG]at m1';have hsh:=G'e st i (by omega);have hle:st/2^i<=st:=Nat.div_le_self _ _;have hand:=C'r (st/2^i) (by omega);obtain⟨b,hb⟩:=e' (st/2^i%2);obtain⟨q,hq⟩:=e' (st/2^i);rw[<-hb]at hand;rw[<-hq]at hand hsh;have hwi:=w'1 i;obtain⟨i',hi2⟩:=e' (i+1);rw[<-hi2]at hwi;have n2:((y.2:Int) != 2) = !decide (y.2=2):=C't y.2 2;have n3:=C't y.2 b;have hnext:(y.2=2∨y.2=b)->∀(j:Nat)(z:Nat×Nat),j<i'->N.las[j]?=some z->z.2=2∨z.2=st/2^j%2:=by
     intro h0 j z hj hz
     by_cases e:j=i
     ·subst e;rw[hy]at hz;simp at hz;subst hz;rw[<-hb];exact h0
     ·exact hok j z (by omega) hz
    by_cases h2:y.2=2
    ·have n4:((y.2:Int) != 2)=false:=by rw[n2];simp[h2]
     have n5:(y.2:Int)=2:=by omega
     refine f'f ?_;simp[G'Y,Zkm,Zkn,Zko,Zkq,d0,d1,d5,m1',hi,hi',hc1,n4,n5,h2,hwi];exact⟨n,by omega,rfl,by simp[d0],by simp[d1],i',by simp,by omega,hnext (.inl h2)⟩
    ·have n4:((y.2:Int) != 2)=true:=by rw[n2];simp[h2]
     have n5:¬(y.2:Int)=2:=by omega
     by_cases h3:y.2=b
     ·have n6:((y.2:Int) != (b:Int))=false:=by rw[n3];simp[h3]
      have n7:(y.2:Int)=b:=by omega
      have n8:((b:Int) != 2)=true:=by rw[<-n7];exact n4
      have n9:¬(b:Int)=2:=by rw[<-n7];exact n5
      have n10:¬b=2:=by omega
      have hc1b:O.cell g bG (i*2+1)=some (ni b):=by rw[hc1,h3]
      refine f'f ?_;simp[G'Y,Zkm,Zkn,Zko,Zkq,d0,d1,d5,m1',hi,hi',hc1b,n8,n9,n10,hsh,hand,hwi];exact⟨n,by omega,rfl,by simp[d0],by simp[d1],i',by simp,by omega,hnext (.inr h3)⟩
     ·have n6:((y.2:Int) != (b:Int))=true:=by rw[n3];simp[h3]
      have n7:¬(y.2:Int)=b:=by omega
      refine f'f ?_;simp[G'Y,Zkm,Zkn,Zko,Zkp,d0,d1,d5,m1',hi,hi',hc1,n4,n5,h2,hsh,hand,n6,n7,h3];exact G'0 hy h2 (by rw[<-hb];exact h3)
  ·rintro e t g ⟨rfl,hr⟩;rcases hr with ⟨hr,d4,hab⟩|⟨hr,hab⟩
   ·rw[hr];simp only[A'c,A'1,A'i,rvE,d4,hab];simp
   ·rw[hr];simp only[A'c];refine f'f ?_;simp only[hab];simp[Zkr,A'1,A'i,rvE]
 obtain⟨u,h',e1,rfl,rfl⟩:=key;exact e1
theorem Cs.app (L:O.Law){t:Tag}(ht:t≠(9,0)){v:Value}{vs:List Value}{cs:List (List Nat)}(lo:ro<=O.next h)(x:Cs O ro w h t v vs cs){u:Value}{l:List Nat}(su:Sm O ro w h (9,0) 1 u (l.map ni))(hl:cs.length<1000000):
  ∃v' h' w',D'd O ro 1 24 v (.slice (some ⟨O.next h,0,some 1⟩) 1 2) (O.new h [u])=some (v',h')∧Cs O ro w' h' t v' (vs++[u]) (cs++[l])∧Ch O (λy=>y=t) w h w' h'∧ro<=O.next h':=by
 obtain⟨v4,h4,w4,e4,s4,c4,lo4⟩:=B'D (bytes:=24) (new:=[u]) L lo x.s (by omega) rfl (by rw[x.l];omega) (by rw[x.l];omega);have n9:¬((9,0):Tag)=t:=λe=>ht e.symm;refine⟨v4,h4,w4,e4,⟨s4.m,by simp[x.l],λi l' u' q1 q2=>?_⟩,c4,lo4⟩
 by_cases hk:i<cs.length
 ·rw[l'e hk]at q1;rw[l'e (by rw[x.l];exact hk)]at q2;exact (x.a i l' u' q1 q2).ch L c4 n9
 ·have hk2:i=cs.length:=by
   have:=(l'b.1 q1).1;simp at this;omega
  subst hk2;simp at q1;rw[<-x.l]at q2;simp at q2;subst q1 q2;exact su.ch L c4 n9
def DpI (O:HI H)(ro:Nat)(w:Own)(h:H)(k0 b o:Nat)(vl:Value)(cl:List Nat)(own:List (List Nat))(n:Nat)(t:Env)(g:H): Prop:=
 t 0 = .pointer (some ⟨b,o,none⟩)∧t 1=vl∧∃(i:Nat)(v:Value)(us:List Value)(w1:Own),t 5=v∧t 6=ni i∧i+n=own.length∧Cs O ro w1 g (14,k0) v us ((own.take i).filter λx=>x != cl)∧Ch O (λ_=>False) w h w1 g∧ro<=O.next g
theorem S'9 (C:LP' O ro c)(L:O.Law)(lo:ro<=O.next h){p b o:Nat}{tb tl:Tag}{lb vos:List Value}{vo vl:Value}{own:List (List Nat)}{cl:List Nat}(hp:20<=p)(htb:tb.1<9)(yb:Bx O ro w h tb b lb)(hb:lb[o+1]?=some vo)(X:Cs O ro w h (p,3) vo vos own)(hown:own.length<=most)(hol:∀l∈own,l.length<=most)(hcl:cl.length<=most)(sl:Sm O ro w h tl 1 vl (cl.map ni)):
  ∃v us h' w',c 192 [.pointer (some ⟨b,o,none⟩),vl] h=some (.bool (decide ((own.filter λx=>x != cl).length<own.length)),h')∧Cs O ro w' h' (p,3) v us (own.filter λx=>x != cl)∧Bx O ro w' h' tb b (lb.set (o+1) v)∧Ch O (λu=>u=tb) w h w' h'∧ro<=O.next h':=by
 have hm:most=1000000:=rfl;obtain⟨k0,hk0⟩:=B'i w (O.next h);have hob:=(l'b.1 hb).1;have rb:¬b<ro:=by have:=yb.lo;omega
 have nb:¬tb=(14,k0):=by intro e;rw[e]at htb;simp at htb
 obtain⟨left,hleft⟩:=e' ((own.filter λx=>x != cl));rw[<-hleft];have key:∃u h',c 192 [.pointer (some ⟨b,o,none⟩),vl] h=some (u,h')∧(u = .bool (decide (left.length<own.length))∧∃v us g w1,Cs O ro w1 g (14,k0) v us left∧Ch O (λ_=>False) w h w1 g∧ro<=O.next g∧A'8 O g b (o+1) [v]=some h'):=by
  refine C.fn (Q'1 O ro) rfl rfl ?_;unfold V'K;have y4:=Bx.new L (ro:=ro) w h lo (14,k0) [];have c4:=Ch.new L (λ_=>False) w h (14,k0) [];have lo4:=l'G lo c4.nx;refine s'f ?_;simp[Zow,A'c];refine s'f ?_;simp[Zox,A'c];refine okE.seq (s'f ?_);simp[Zoy,A'c];refine okE.blk ?_;refine okE.mono (okE.loop (Q:=λe t' g'=>A'j 0 e = .normal∧t' 0 = .pointer (some ⟨b,o,none⟩)∧∃us w1,Cs O ro w1 g' (14,k0) (t' 5) us left∧Ch O (λ_=>False) w h w1 g'∧ro<=O.next g') (DpI O ro w h k0 b o vl cl own) ?_ own.length _ _ ⟨by simp,by simp,0,_,[],_,by simp,by simp,by omega,⟨.inr ⟨_,0,1,rfl,.inr rfl,by simp,y4⟩,rfl,by simp⟩,c4,lo4⟩) ?_
  ·rintro n t g ⟨d0,d1,i,v,us,w1,d5,d6,hin,cs,c1,lo1⟩;have yb1:=yb.ch L c1;have kb:=yb1.get (o+1) _ hb;have X1:=X.ch L c1;have sl1:=sl.ch L c1
   cases n with
   | zero=>
    obtain rfl:i=own.length:=by omega
    rw[List.take_length,<-hleft]at cs;obtain⟨a1,q1,f1⟩:=X1.s.len (by omega) own.length (by rw[X.l];simp);rw[f1]at kb;refine f'f ?_;simp[I'x,Zoz,d0,d1,d5,d6,kb];exact⟨us,w1,cs,c1,lo1⟩
   | succ n=>
    have hi:i<own.length:=by omega
    have hi':(i:Int)<own.length:=by omega
    obtain⟨bO,pO,eO,_,yO⟩:=X1.s.blk (by omega) own.length (by rw[X.l];simp) (by omega);obtain⟨l,hl⟩:∃l,own[i]?=some l:=⟨_,l'c hi⟩;obtain⟨u,hu⟩:∃u,vos[i]?=some u:=⟨_,l'c (by rw[X.l];exact hi)⟩;have su:=X1.a i l u hl hu;have ku:O.cell g bO i=some u:=by rw[yO.cell i (by rw[X.l];exact hi),hu]
    have eq:=Q'7 C L (hol l (l'f hl)) hcl su sl1;rw[eO]at kb;have hwi:=w'1 i;obtain⟨f1,f2,f3⟩:=su.flat;have htk:(own.take (i+1)).filter (λx=>x != cl)=(own.take i).filter (λx=>x != cl)++(if l != cl then [l] else []):=by
     rw[l'C,hl,List.filter_append];simp[List.filter_cons]
    obtain⟨i',hi2⟩:=e' (i+1);rw[<-hi2]at hwi htk
    cases he:(l==cl) with
    | true=>
     rw[he]at eq;have hne:(l != cl)=false:=by simp[bne,he]
     rw[hne]at htk;simp only[l'y,if_false,List.append_nil]at htk;rw[<-htk]at cs;refine f'f ?_;simp[I'x,Zoz,ZoA,ZoC,d0,d1,d5,d6,kb,hi,hi',ku,eq,hwi];exact⟨n,by omega,by simp[d0],by simp[d1],i',v,us,w1,by simp[d5],by simp,by omega,cs,c1,lo1⟩
    | false=>
     rw[he]at eq;have hne:(l != cl)=true:=by simp[bne,he]
     rw[hne]at htk;simp only[if_true]at htk;have hfl:=List.length_filter_le (λx=>x != cl) (own.take i);have htl:(own.take i).length<=i:=by simp;omega
     obtain⟨v3,g3,w3,e3,cs3,c3,lo3⟩:=cs.app L (by simp) lo1 su (by omega);rw[<-htk]at cs3;have c13:=Ch.own (k:=k0) c1 c3 hk0;refine f'f ?_;simp[I'x,Zoz,ZoA,ZoB,ZoC,d0,d1,d5,d6,kb,hi,hi',ku,eq,f1,f2,f3,e3,hwi];exact⟨n,by omega,by simp[d0],by simp[d1],i',v3,_,w3,by simp,by simp,by omega,cs3,c13,lo3⟩
  ·rintro e t g ⟨hr,d0,us,w1,cs,c1,lo1⟩;rw[hr];simp only[A'c];have yb1:=yb.ch L c1;have kb:=yb1.get (o+1) _ hb;have X1:=X.ch L c1;obtain⟨a1,q1,f1⟩:=X1.s.len (by omega) own.length (by rw[X.l];simp);obtain⟨a2,q2,f2⟩:=cs.s.len (by omega) left.length (by rw[cs.l];simp);rw[f1]at kb;have p5:=A'C (O:=O) (v:=t 5) kb;obtain⟨g1,g2,g3⟩:=cs.s.flat;obtain⟨va,hva⟩:=e' (t 5);rw[<-hva]at p5 f2 g1 g2 g3 cs;have d5:=hva.symm;generalize hpg:O.put g b (o+1) va=g5 at p5;have d5':=d5;rw[f2]at d5';refine s'f ?_;simp[ZoD,A'c,d0,d5',kb];refine f'f ?_;simp[ZoE,ZoF,d0,d5,rb,p5,g1,g2,A'1,A'i,rvE];exact⟨va,us,g,w1,cs,c1,lo1,p5⟩
 obtain⟨u,h',e1,rfl,v,us,g,w1,cs,c1,lo1,p5⟩:=key;have yb1:=yb.ch L c1;have hp5:=A'C (O:=O) (v:=v) (yb1.get (o+1) _ hb);rw[hp5]at p5;simp only[l'a]at p5;subst p5;have nb9:¬((9,0):Tag)=tb:=by intro e;rw[<-e]at htb;simp at htb
 have nbp:¬((p,3):Tag)=tb:=by intro e;rw[<-e]at htb;simp at htb;omega
 obtain⟨w2,cs2,yb2,c2⟩:∃w2,Cs O ro w2 g (p,3) v us left∧Bx O ro w2 g tb b lb∧Ch O (λ_=>False) w h w2 g:=by
  rcases id cs.s with e|⟨b0,m,cp,e,ec,el,y⟩
  ·exact⟨w1,⟨.inl e,cs.l,cs.a⟩,yb1,c1⟩
  ·have hb0:¬b0<O.next h:=λhb0=>hk0 b0 hb0 (by rw[<-c1.ow b0 hb0,y.tag])
   refine⟨w1.set b0 (p,3),⟨.inr ⟨b0,m,cp,e,ec,el,⟨by simp[Own.set],y.lo,y.al,y.cell⟩⟩,cs.l,λi l u h1 h2=>(cs.a i l u h1 h2).re y.tag (by simp)⟩,yb1.re y.tag nb,⟨c1.nx,λb' hb'=>?_,c1.fr⟩⟩;have:b'≠b0:=by rintro rfl;exact hb0 hb'
   simp only[Own.set,if_neg this];exact c1.ow b' hb'
 have c5:=Ch.put L (K:=λu=>u=tb) yb2 (o+1) hob v rfl;exact⟨v,us,_,w2,e1,cs2.ch L c5 nbp nb9,yb2.put L (o+1) hob v,(c2.mono (by simp)).trans c5,l'G lo1 c5.nx⟩
end
end Go.Proofs.YtimdkminagnhgaaGreatDoor
