import Derived.Test.YtimdkminagnhgaaGreatDoorQ40
set_option linter.all false
namespace Go.Ta
variable {N:Ck}
def ClW (N:Ck)(l:List Nat): Prop:=l.length<=N.las.length∧∀x∈l,x/2<N.las.length
def inS (st:Nat)(cl:List Nat): Prop:=clT st.testBit cl
theorem L'T (σ:Nat->Bool){x:Nat}(hx:x/2<N.las.length): tr σ (N.lla (x/2) ^^^ (x%2))=tr (G's N σ).testBit x:=by
 rw[T'A _ _ _ (Nat.mod_lt _ (by omega))];unfold Ck.lla;rw[H'U];unfold tr;unfold G's;rw[C'h _ _ _ hx];rcases Nat.mod_two_eq_zero_or_one x with h|h <;> rw[h] <;> cases σ (1+N.ni+x/2) <;> rfl
theorem R'z (σ:Nat->Bool){cl:List Nat}(h:∀x∈cl,x/2<N.las.length): clT σ (D'9 N cl)↔inS (G's N σ) cl:=by
 unfold inS clT D'9;constructor
 ·rintro⟨y,hy,ht⟩;obtain⟨x,hx,rfl⟩:=List.mem_map.1 hy;exact⟨x,hx,by rw[<-L'T σ (h x hx)];exact ht⟩
 ·rintro⟨x,hx,ht⟩;exact⟨_,List.mem_map.2 ⟨x,hx,rfl⟩,by rw[L'T σ (h x hx)];exact ht⟩
theorem F'X {F:Fr}{S:Nat->Prop}(x:FrS N F S){cl:List Nat}(hc:ClW N cl)(hL:N.las.length<=60)(hl:F.s.clauses.length<900000):
  ∃F',G'X N F cl=some F'∧F'.own=F.own∧F'.s.conflicts=F.s.conflicts∧F'.s.clauses.length<=F.s.clauses.length+1∧FrS N F' (λst=>S st∧inS st cl):=by
 have hm:most=1000000:=rfl;have hob:∀y∈D'9 N cl,y<2*N.nv:=by
  intro y hy;obtain⟨x',hx',rfl⟩:=List.mem_map.1 hy;have h1:=hc.2 x' hx';have h2:N.lla (x'/2)<2*N.nv:=by unfold Ck.lla Ck.nv;omega
  rcases (show x'%2=0∨x'%2=1 by omega) with h|h
  ·rw[h];simpa using h2
  ·rw[h];exact D'r h2
 have hol:(D'9 N cl).length<most:=by have:=hc.1;simp[D'9];omega
 obtain⟨s',e1,e2,-,-,e3,e4,e5,e6,e7⟩:=F'm x.s.e x.s.c hob hol (by omega);refine⟨⟨s',F.own⟩,by unfold G'X;rw[e1],rfl,e3,e4,⟨by rw[e2];exact x.s.e,e5,by simp only;omega,?_⟩,?_⟩
 ·obtain⟨l,hl'⟩:=x.s.u;exact⟨l,e6 _ hl'⟩
 ·intro σ;rw[e7,x.m,R'z σ hc.2,and_assoc]
theorem E'I {j x r:Nat}(h:N.las[j]?=some (x,r)): N.las.getD j (0,0)=(x,r):=by rw[l'r,h];rfl
theorem R'A (st inp:Nat){j:Nat}(hj:j<N.las.length): (nxt N st inp).testBit j=tr (val N st inp) (N.las.getD j (0,0)).1:=by
 unfold nxt;rw[C'h _ _ _ hj]
theorem F'o (st inp:Nat){x:Nat}(hx:x/2<N.las.length): tr (val N st inp) (((N.las.getD (x/2) (0,0)).1 ^^^ 1) ^^^ (x%2)) = !tr (nxt N st inp).testBit x:=by
 rw[T'A _ _ _ (Nat.mod_lt _ (by omega)),C'9,<-R'A st inp hx];unfold tr;rcases Nat.mod_two_eq_zero_or_one x with h|h <;> rw[h] <;> cases (nxt N st inp).testBit (x/2) <;> rfl
theorem E'g (st inp:Nat){cl:List Nat}(h:∀x∈cl,x/2<N.las.length): (∀y∈A'6 N cl,tr (val N st inp) y=true)↔¬inS (nxt N st inp) cl:=by
 unfold inS clT A'6;constructor
 ·rintro h1 ⟨x,hx,ht⟩;have:=h1 _ (List.mem_map.2 ⟨x,hx,rfl⟩);rw[F'o st inp (h x hx),ht]at this;simp at this
 ·intro h1 y hy;obtain⟨x,hx,rfl⟩:=List.mem_map.1 hy;rw[F'o st inp (h x hx)]
  cases ht:tr (nxt N st inp).testBit x with
  | false=>rfl
  | true=>exact absurd ⟨x,hx,ht⟩ h1
theorem H'g (W:CkW N){cl:List Nat}(h:∀x∈cl,x/2<N.las.length): ∀y∈A'6 N cl,y<2*N.nv:=by
 intro y hy;obtain⟨x,hx,rfl⟩:=List.mem_map.1 hy;obtain⟨⟨a,r⟩,ha⟩:∃z,N.las[x/2]?=some z:=⟨_,l'c (h x hx)⟩;have:=(W.la _ _ _ ha).1;rw[E'I ha];simp only;have h2:a ^^^ 1<2*N.nv:=D'r (by omega);rcases (show x%2=0∨x%2=1 by omega) with h|h
 ·rw[h];simpa using h2
 ·rw[h];exact D'r h2
theorem L'U (st:Nat): ClW N (B't N st):=by
 refine⟨by simp[B't],?_⟩;intro x hx;simp only[B't,List.mem_map,List.mem_range]at hx;obtain⟨j,hj,rfl⟩:=hx;have:st/2^j%2<2:=Nat.mod_lt _ (by omega);generalize st/2^j%2=b at *;omega
theorem F'Y {st st':Nat}(h:st<2^N.las.length)(h':st'<2^N.las.length): inS st' (B't N st)↔st'≠st:=by
 have key:∀j,tr st'.testBit (2*j+st/2^j%2)=(st'.testBit j != st.testBit j):=by
  intro j;rw[E'f];unfold tr
  cases hb:st.testBit j with
  | true=>
   simp only[if_true];rw[show (2*j+1)/2=j by omega,show (2*j+1)%2=1 by omega]
   cases st'.testBit j <;> rfl
  | false=>
   simp only[l'y,if_false];rw[show (2*j+0)/2=j by omega,show (2*j+0)%2=0 by omega]
   cases st'.testBit j <;> rfl
 unfold inS clT B't;constructor
 ·rintro⟨x,hx,ht⟩ e;obtain⟨j,hj,rfl⟩:=List.mem_map.1 hx;rw[key,e]at ht;simp at ht
 ·intro hne;apply Classical.byContradiction;intro hno;refine hne (F'n h' h λj hj=>?_);apply Classical.byContradiction;intro hb;exact hno ⟨_,List.mem_map.2 ⟨j,by simpa using hj,rfl⟩,by rw[key];simpa using hb⟩
theorem E'x (N:Ck): ∀(z:List (Nat×Bool))(b:Bool) (x:Nat),(x,true)∈z->x∈B'6 N z b:=by
 intro z
 induction z with
 | nil=>intro b x h;simp at h
 | cons p r ih=>
  intro b x h;obtain⟨y,nm⟩:=p;unfold B'6;rcases l'I.1 h with e|h
  ·simp only[l'd]at e;obtain⟨rfl,rfl⟩:=e;simp
  ·split
   ·exact l'I.2 (.inr (ih b x h))
   ·split
    ·exact l'I.2 (.inr (ih false x h))
    ·exact ih b x h
theorem H'h (N:Ck): ∀(z:List (Nat×Bool)) (x:Nat)(nm:Bool),(x,nm)∈z->A'5 N x=true->∃y∈B'6 N z true,A'5 N y=true:=by
 intro z
 induction z with
 | nil=>intro x nm h;simp at h
 | cons p r ih=>
  intro x nm h hb;obtain⟨y,m⟩:=p;unfold B'6
  by_cases e1:m=true
  ·rw[if_pos e1]
   by_cases e2:A'5 N y=true
   ·exact⟨y,by simp,e2⟩
   ·rcases l'I.1 h with e|h
    ·simp only[l'd]at e;exact absurd (e.1 ▸ hb) e2
    ·obtain⟨y',h1,h2⟩:=ih x nm h hb;exact⟨y',by simp[h1],h2⟩
  ·rw[if_neg e1]
   by_cases e2:A'5 N y=true
   ·rw[if_pos (by simp[e2])];exact⟨y,by simp,e2⟩
   ·rw[if_neg (by simp[e2])];rcases l'I.1 h with e|h
    ·simp only[l'd]at e;exact absurd (e.1 ▸ hb) e2
    ·exact ih x nm h hb
theorem H'V (N:Ck): ∀(z:List (Nat×Bool))(b:Bool),(∀x∈B'6 N z b,∃y,(x,y)∈z)∧(B'6 N z b).length<=z.length:=by
 intro z
 induction z with
 | nil=>intro b;simp[B'6]
 | cons p r ih=>
  intro b;obtain⟨x,nm⟩:=p;have i1:=ih b;have i2:=ih false;unfold B'6;split
  ·refine⟨?_,by simp;exact i1.2⟩;intro y hy;rcases l'I.1 hy with rfl|hy
   ·exact⟨nm,by simp⟩
   ·obtain⟨q,hq⟩:=i1.1 y hy;exact⟨q,by simp[hq]⟩
  ·split
   ·refine⟨?_,by simp;exact i2.2⟩;intro y hy;rcases l'I.1 hy with rfl|hy
    ·exact⟨nm,by simp⟩
    ·obtain⟨q,hq⟩:=i2.1 y hy;exact⟨q,by simp[hq]⟩
   ·refine⟨?_,by have:=i1.2;simp;omega⟩;intro y hy;obtain⟨q,hq⟩:=i1.1 y hy;exact⟨q,by simp[hq]⟩
theorem H'W (l w:List Nat): (B'f l w).length=l.length:=by simp[B'f]
theorem H'i {cl core:List Nat}: (∀x∈B'7 N cl core,x∈cl)∧(B'7 N cl core).length<=cl.length:=by
 have:=H'V N (cl.zip (B'f (A'6 N cl) core)) (!((cl.zip (B'f (A'6 N cl) core)).any λp=>p.2&&A'5 N p.1));refine⟨λx hx=>?_,?_⟩
 ·obtain⟨y,hy⟩:=this.1 x hx;exact (List.of_mem_zip hy).1
 ·have h1:=this.2;have h2:(cl.zip (B'f (A'6 N cl) core)).length<=cl.length:=by simp[List.length_zip];omega
  unfold B'7;simp only;omega
theorem R'B {cl core:List Nat}(h:ClW N cl): ClW N (B'7 N cl core):=by
 obtain⟨h1,h2⟩:=H'i (N:=N) (cl:=cl) (core:=core);exact⟨l'G h2 h.1,λx hx=>h.2 x (h1 x hx)⟩
theorem J'A {cl core:List Nat}{c:Nat}(hc:c∈core)(hb:c∈A'6 N cl): ∃x∈B'7 N cl core,c=((N.las.getD (x/2) (0,0)).1 ^^^ 1) ^^^ (x%2):=by
 have first:∀(l:List Nat),c∈l->∃k,l[k]?=some c∧c∉l.take k:=by
  intro l
  induction l with
  | nil=>intro h;simp at h
  | cons a r ih=>
   intro h
   by_cases e:a=c
   ·exact⟨0,by simp[e],by simp⟩
   ·rcases l'I.1 h with h|h
    ·exact absurd h.symm e
    ·obtain⟨k,h1,h2⟩:=ih h;refine⟨k+1,by simpa using h1,?_⟩;simp only[List.take_succ_cons,l'I,not_or];exact⟨λh=>e h.symm,h2⟩
 obtain⟨k,hk1,hk2⟩:=first _ hb
 have hkl:=(l'b.1 hk1).1;have hlen:(A'6 N cl).length=cl.length:=by simp[A'6]
 obtain⟨x,hx⟩:∃x,cl[k]?=some x:=⟨_,l'c (by omega)⟩;have hcx:c=((N.las.getD (x/2) (0,0)).1 ^^^ 1) ^^^ (x%2):=by
  unfold A'6 at hk1;rw[List.getElem?_map,hx]at hk1;simp only[l'l,l'a]at hk1;exact hk1.symm
 have hnm:(B'f (A'6 N cl) core)[k]?=some true:=by
  unfold B'f;rw[List.getElem?_map,List.getElem?_range (by omega)];simp only[l'l,hk1,l'a];simp[hc,hk2]
 refine⟨x,?_,hcx⟩;unfold B'7;simp only;refine E'x N _ _ x ?_;refine l'f (i:=k) ?_;rw[List.getElem?_zip_eq_some];exact⟨hx,hnm⟩
theorem H'X {cl core:List Nat}{x:Nat}(hx:x∈cl)(hb:A'5 N x=true): ∃y∈B'7 N cl core,A'5 N y=true:=by
 unfold B'7;simp only
 cases hany:(cl.zip (B'f (A'6 N cl) core)).any λp=>p.2&&A'5 N p.1 with
 | true=>
  rw[List.any_eq_true]at hany;obtain⟨⟨y,m⟩,h1,h2⟩:=hany;simp only[l'k]at h2;obtain⟨rfl,h3⟩:=h2;exact⟨y,E'x N _ _ y h1,h3⟩
 | false=>
  obtain⟨k,hk⟩:=l'i.1 hx;have hkl:=(l'b.1 hk).1;obtain⟨m,hm⟩:∃m,(B'f (A'6 N cl) core)[k]?=some m:=⟨_,l'c (by rw[H'W];simp[A'6];exact hkl)⟩;have hz:(x,m)∈cl.zip (B'f (A'6 N cl) core):=by
   refine l'f (i:=k) ?_;rw[List.getElem?_zip_eq_some];exact⟨hk,hm⟩
  simp only[Bool.not_false];exact H'h N _ x m hz hb
theorem C'W (st:Nat): B'j N st=true↔∀(j x r:Nat),N.las[j]?=some (x,r)->r=2∨r=st/2^j%2:=by
 unfold B'j;rw[l'D];constructor
 ·intro h j x r hj;have:=h ((x,r),j) (List.mem_zipIdx_iff_getElem?.2 hj);simpa using this
 ·rintro h ⟨⟨x,r⟩,j⟩ hm;have:=h j x r (List.mem_zipIdx_iff_getElem?.1 hm);simpa using this
theorem J'B (W:CkW N){st x:Nat}(hx:x/2<N.las.length)(hs:B'j N st=true)(hb:A'5 N x=true): tr st.testBit x=true:=by
 obtain⟨⟨a,r⟩,ha⟩:∃z,N.las[x/2]?=some z:=⟨_,l'c hx⟩;have h1:=(C'W st).1 hs _ _ _ ha;have h3:=(W.la _ _ _ ha).2;unfold A'5 at hb;rw[E'I ha]at hb;simp only[l'k,l'M]at hb;rw[E'f]at h1;unfold tr;rcases Nat.mod_two_eq_zero_or_one x with h|h
 ·rw[h]at hb ⊢
  cases hbit:st.testBit (x/2) with
  | true=>rfl
  | false=>rw[hbit]at h1;simp at h1;omega
 ·rw[h]at hb ⊢
  cases hbit:st.testBit (x/2) with
  | true=>rw[hbit]at h1;simp at h1;omega
  | false=>rfl
theorem J'C {st:Nat}(hs:¬B'j N st=true): ∃x∈B't N st,A'5 N x=true:=by
 apply Classical.byContradiction;intro hno;apply hs;rw[C'W];intro j x r hj;have hjl:=(l'b.1 hj).1;apply Classical.byContradiction;intro h;simp only[not_or]at h;refine hno ⟨2*j+st/2^j%2,by unfold B't;exact List.mem_map.2 ⟨j,by simpa using hjl,rfl⟩,?_⟩;have hm:st/2^j%2<2:=Nat.mod_lt _ (by omega);unfold A'5;generalize st/2^j%2=b at *;rw[show (2*j+b)/2=j by omega,show (2*j+b)%2=b by omega,E'I hj];simp[h.1,h.2]
end Go.Ta
namespace Go.Ta
variable {N:Ck}
structure Hyp (N:Ck) (f m:Nat):Prop where
 W:CkW N
 n:N.nv<=61
 L:N.las.length<=6
 f:N.nv<f
 m:D'b N.nv 1000<=m
theorem H'Y {n a b:Nat}(h:a<=b): D'b n a<=D'b n b:=by
 unfold D'b;have:2^n*(a+n+1)<=2^n*(b+n+1):=Nat.mul_le_mul_left _ (by omega);omega
theorem G'o {f m:Nat}(Hy:Hyp N f m){bud:Int}(hbud:bud<=1152921504606846976){R:Rn}{level:Nat}{F:Fr}(hF:R.frames[level]?=some F){S:Nat->Prop}(x:FrS N F S)(hsp:R.spent<=bud)(hc:(F.s.conflicts:Int)<=R.spent){as:List Nat}(hab:∀l∈as,l<2*N.nv)(hal:as.length<=1000):
  ∃(R1:Rn) (a:Nat)(F':Fr),N'i f m bud R level as=some (R1,a)∧R1.frames=R.frames.set level F'∧R1.way=R.way∧R1.kept=R.kept∧F'.own=F.own∧FrS N F' S∧F'.s.clauses=F.s.clauses∧R.spent<=R1.spent∧R1.spent<=R.spent+(2^N.nv:Nat)∧(F'.s.conflicts:Int)<=R1.spent∧(a=1∨a=2∨a=3)∧(a=3->bud<R1.spent)∧(a≠3->R1.spent<=bud)
   ∧ (a=1->(A'7 N F'.s).1<2^N.las.length∧S (A'7 N F'.s).1∧∀l∈as,tr (val N (A'7 N F'.s).1 (A'7 N F'.s).2) l=true)
   ∧ (a=2->F'.s.core.length<=1000∧(∀l∈F'.s.core,l∈as)∧∀st inp,st<2^N.las.length->S st->¬∀l∈F'.s.core,tr (val N st inp) l=true):=by
 have hm62:B'w=4611686018427387904:=rfl;have hn0:0<N.nv:=by unfold Ck.nv;omega
 obtain⟨s',a,e1,e2,e3,e4,e5,e6,e7,e8,e9⟩:=H'T hn0 Hy.n x.s hab hal (budget:=bud-R.spent) (by omega) (by omega) Hy.f (l'G (H'Y hal) Hy.m);have hL:=(l'b.1 hF).1;have fs':FrS N { F with s:=s' } S:=⟨⟨by simp only[e2];exact x.s.e,by simp only[e3];exact x.s.c,by simp only[e3];exact x.s.l,by simp only[e3];exact x.s.u⟩,by simp only[e3];exact x.m⟩;refine⟨{ R with spent:=R.spent+((s'.conflicts-F.s.conflicts:Nat):Int),frames:=R.frames.set level { F with s:=s' } },(if bud<R.spent+((s'.conflicts-F.s.conflicts:Nat):Int) then 3 else a),{ F with s:=s' },?_,rfl,rfl,rfl,rfl,fs',e3,by simp only;omega,by simp only;omega,by simp only;omega,?_,?_,?_,?_,?_⟩
 ·unfold N'i;rw[hF];simp only[e1]
 ·split
  ·exact .inr (.inr rfl)
  ·exact e6
 ·intro h;simp only;split at h
  ·assumption
  ·have:=e9 h;omega
 ·intro h;simp only;split at h
  ·exact absurd rfl h
  ·omega
 ·intro h;have ha:a=1:=by
   split at h
   ·omega
   ·exact h
  obtain⟨σ,g1,g2,g3⟩:=e7 ha;simp only;have hg:=(x.m σ).1 g2;have hst:(A'7 N s').1=G's N σ:=by
   refine F'n (D't _ _ _) (D'Q _ _) λj hj=>?_;unfold A'7 G's;simp only;rw[H'e _ _ _ _ hj,C'h _ _ _ hj,g1,l'r,List.getElem?_map,List.getElem?_range (by unfold Ck.nv;omega)];rfl
  have hin:(A'7 N s').2=L'N N σ:=by
   refine F'n (D't _ _ _) (D'Q _ _) λj hj=>?_;unfold A'7 L'N;simp only;rw[H'e _ _ _ _ hj,C'h _ _ _ hj,g1,l'r,List.getElem?_map,List.getElem?_range (by unfold Ck.nv;omega)];rfl
  rw[hst,hin];refine⟨D'Q _ _,hg.2,λl hl=>?_⟩;rw[<-R'y Hy.W hg.1 l (by have:=hab l hl;omega)];exact g3 l hl
 ·intro h;have ha:a=2:=by
   split at h
   ·omega
   ·exact h
  obtain⟨g1,g2,g3⟩:=e8 ha;simp only;refine⟨g2,g1,λst inp hst hS hall=>?_⟩;refine g3 (val N st inp) ?_ hall;rw[x.m];exact⟨(L'R Hy.W st inp).1,by rw[N'8 Hy.W hst];exact hS⟩
theorem FrS.own {F:Fr}{S:Nat->Prop}(x:FrS N F S)(o:List (List Nat)): FrS N { F with own:=o } S:=⟨x.s,x.m⟩
theorem FrS.iff {F:Fr}{S S':Nat->Prop}(x:FrS N F S)(h:∀st,S st↔S' st): FrS N F S':=⟨x.s,λσ=>by rw[x.m σ,h]⟩
theorem C'X {α:Type}[BEq α][LawfulBEq α]{l:List α}{c:α}(h:c∉l): l.filter (λx=>x != c)=l:=by
 rw[List.filter_eq_self];intro a ha;have:a≠c:=λe=>h (e ▸ ha);simpa using this
theorem F'p {l:List (List Nat)}{c:List Nat}: (l.filter λx=>x != c).length<l.length↔c∈l:=by
 constructor
 ·intro h;apply Classical.byContradiction;intro hn;rw[C'X hn]at h;omega
 ·intro h;rcases Nat.lt_or_eq_of_le (List.length_filter_le (λx=>x != c) l) with h1|h1
  ·exact h1
  ·rw[List.length_filter_eq_length_iff]at h1;have:=h1 c h;simp at this
theorem H'j (hL:N.las.length<=6){cl:List Nat}(hcl:ClW N cl): ∀(k:Nat)(fs:List Fr),k<fs.length->(∀(i:Nat)(F:Fr),i<=k->fs[i]?=some F->(∃S,FrS N F S)∧F.s.clauses.length<900000)->(∀(i j:Nat)(F G:Fr),fs[i]?=some F->fs[j]?=some G->cl∈F.own->cl∈G.own->i=j) ->
  ∃fs',C'H N cl k fs=some fs'∧fs'.length=fs.length∧∀(i:Nat)(F:Fr),fs[i]?=some F->∃F':Fr,fs'[i]?=some F'∧F'.own=(if 1<=i∧i<=k then F.own.filter (λx=>x != cl) else F.own)∧F'.s.conflicts=F.s.conflicts∧F'.s.clauses.length<=F.s.clauses.length+1∧((F'.s=F.s∧(1<=i∧i<=k->∃(h:Nat)(G:Fr),i<=h∧h<=k∧fs[h]?=some G∧cl∈G.own))∨(1<=i∧i<=k∧∀S,FrS N F S->FrS N F' (λst=>S st∧inS st cl))):=by
 intro k
 induction k with
 | zero=>
  intro fs hk hf hu;refine⟨fs,rfl,rfl,λi F hF=>⟨F,hF,by rw[if_neg (by omega)],rfl,by omega,.inl ⟨rfl,λh=>by omega⟩⟩⟩
 | succ k ih=>
  intro fs hk hf hu;obtain⟨F,hF⟩:∃F,fs[k+1]?=some F:=⟨_,l'c hk⟩;unfold C'H;rw[hF];simp only
  by_cases hlt:(F.own.filter λx=>x != cl).length<F.own.length
  ·rw[if_pos hlt];have hin:=F'p.1 hlt;refine⟨_,rfl,by simp,λi Fi hFi=>?_⟩
   by_cases e:i=k+1
   ·subst e;rw[hF]at hFi;simp only[l'a]at hFi;subst hFi;exact⟨_,l'g hk,by rw[if_pos (by omega)],rfl,by simp only;omega,.inl ⟨rfl,λ_=>⟨k+1,F,l'H _,l'H _,hF,hin⟩⟩⟩
   ·refine⟨Fi,by rw[l'h (λh=>e h.symm)];exact hFi,?_,rfl,by omega,.inl ⟨rfl,λh=>⟨k+1,F,by omega,l'H _,hF,hin⟩⟩⟩;split
    ·rw[C'X];intro hm;exact e (hu i (k+1) Fi F hFi hF hm hin)
    ·rfl
  ·rw[if_neg hlt];have hnin:cl∉F.own:=λh=>hlt (F'p.2 h);rw[C'X hnin];obtain⟨⟨S,hS⟩,hcl9⟩:=hf (k+1) F (l'H _) hF;obtain⟨F1,e1,e2,e3,e4,-⟩:=F'X hS hcl (by omega) hcl9;have hadd:∀S,FrS N F S->FrS N F1 (λst=>S st∧inS st cl):=by
    intro S' hS';obtain⟨F2,g1,-,-,-,g5⟩:=F'X hS' hcl (by omega) hcl9;rw[e1]at g1;simp only[l'a]at g1;subst g1;exact g5
   rw[show (⟨F.s,F.own⟩:Fr)=F from rfl,e1];simp only;have hset:∀(i:Nat),i≠k+1->(fs.set (k+1) F1)[i]?=fs[i]?:=λi h=>l'h (λe=>h e.symm);have hself:(fs.set (k+1) F1)[k+1]?=some F1:=l'g hk;obtain⟨fs',f1,f2,f3⟩:=ih (fs.set (k+1) F1) (by simp;omega) (λi G hi hG=>by
    rw[hset i (by omega)]at hG;exact hf i G (by omega) hG) (λi j G G' hG hG' h1 h2=>by
    have tr:∀(i:Nat)(G:Fr),(fs.set (k+1) F1)[i]?=some G->cl∈G.own->∃G0,fs[i]?=some G0∧cl∈G0.own:=by
     intro i G hG h
     by_cases e:i=k+1
     ·subst e;rw[hself]at hG;simp only[l'a]at hG;subst hG;exact⟨F,hF,by rw[<-e2];exact h⟩
     ·rw[hset i e]at hG;exact⟨G,hG,h⟩
    obtain⟨A,a1,a2⟩:=tr i G hG h1;obtain⟨B,b1,b2⟩:=tr j G' hG' h2;exact hu i j A B a1 b1 a2 b2)
   refine⟨fs',f1,by rw[f2];simp,λi Fi hFi=>?_⟩
   by_cases e:i=k+1
   ·subst e;rw[hF]at hFi;simp only[l'a]at hFi;subst hFi;obtain⟨F',g1,g2,g3,g4,g5⟩:=f3 (k+1) F1 hself;rw[if_neg (by omega)]at g2;have hs:F'.s=F1.s:=by
     rcases g5 with ⟨h,-⟩|⟨-,h,-⟩
     ·exact h
     ·omega
    refine⟨F',g1,by rw[if_pos (by omega),C'X hnin,g2,e2],by rw[g3,e3],by rw[hs];omega,.inr ⟨by omega,l'H _,λS' hS'=>?_⟩⟩;have h:=hadd S' hS';exact⟨by rw[hs];exact h.s,by rw[hs];exact h.m⟩
   ·obtain⟨F',g1,g2,g3,g4,g5⟩:=f3 i Fi (by rw[hset i e];exact hFi);have hif:(1<=i∧i<=k)↔(1<=i∧i<=k+1):=by omega
    refine⟨F',g1,by simp only[hif]at g2;exact g2,g3,g4,?_⟩;rcases g5 with ⟨h1,h2⟩|⟨h1,h2,h3⟩
    ·refine .inl ⟨h1,λh=>?_⟩;obtain⟨h',G,q1,q2,q3,q4⟩:=h2 (by omega);rw[hset h' (by omega)]at q3;exact⟨h',G,q1,by omega,q3,q4⟩
    ·exact .inr ⟨h1,by omega,h3⟩
end Go.Ta
namespace Go.Ta
variable {N:Ck}
def inB (st:Nat)(cl:List Nat): Bool:=cl.any λx=>tr st.testBit x
theorem C'5 {st:Nat}{cl:List Nat}: inB st cl=true↔inS st cl:=by
 unfold inB inS clT;rw[List.any_eq_true]
def B'3 (fs:List Fr)(i st:Nat): Bool:=(fs.drop i).all λF=>F.own.all (inB st)
theorem B'J {fs:List Fr}{i st:Nat}: B'3 fs i st=true↔∀(k:Nat)(F:Fr),i<=k->fs[k]?=some F->∀cl∈F.own,inS st cl:=by
 unfold B'3;rw[l'D];constructor
 ·intro h k F hk hF cl hcl;have:=h F (l'i.2 ⟨k-i,by rw[List.getElem?_drop,show i+(k-i)=k by omega];exact hF⟩);rw[l'D]at this;exact C'5.1 (this cl hcl)
 ·intro h F hF;obtain⟨j,hj⟩:=l'i.1 hF;rw[List.getElem?_drop]at hj;rw[l'D];intro cl hcl;exact C'5.2 (h (i+j) F (by omega) hj cl hcl)
theorem D'Y {fs:List Fr}{i j st:Nat}(h:i<=j)(x:B'3 fs i st=true): B'3 fs j st=true:=by
 rw[B'J]at x ⊢;exact λk F hk hF=>x k F (by omega) hF
def Sx (N:Ck)(fs:List Fr)(i st:Nat): Prop:=if i=0 then B'j N st=true else B'3 fs i st=true
def card (N:Ck)(fs:List Fr)(i:Nat): Nat:=(List.range (2^N.las.length)).countP λst=>B'3 fs i st
def D'1 (g w:Nat->Nat): Nat->Nat
 | 0=>0
 | n+1=>D'1 g w n+g n*w n
def ind (j:Nat)(i:Nat): Nat:=if i=j then 1 else 0
theorem G'p {g g' u d w:Nat->Nat}: ∀n,(∀i,i<n->g' i+d i<=g i+u i)->D'1 g' w n+D'1 d w n<=D'1 g w n+D'1 u w n:=by
 intro n
 induction n with
 | zero=>intro _;simp[D'1]
 | succ n ih=>
  intro h;have h1:=ih (λi hi=>h i (by omega));have h2:=Nat.mul_le_mul_right (w n) (h n (by omega));rw[Nat.add_mul,Nat.add_mul]at h2;simp only[D'1];omega
theorem E'J (w:Nat->Nat)(j:Nat): ∀n,D'1 (ind j) w n=if j<n then w j else 0:=by
 intro n
 induction n with
 | zero=>simp[D'1]
 | succ n ih=>
  simp only[D'1,ih,ind]
  by_cases e:n=j
  ·subst e;simp
  ·by_cases h:j<n
   ·rw[if_pos h,if_neg e,if_pos (by omega)];omega
   ·rw[if_neg h,if_neg e,if_neg (by omega)];omega
theorem F'q (w:Nat->Nat): ∀n,D'1 (λ_=>0) w n=0:=by
 intro n
 induction n with
 | zero=>rfl
 | succ n ih=>simp[D'1,ih]
theorem D'z {g g' w:Nat->Nat}: ∀n,(∀i,i<n->g' i=g i)->D'1 g' w n=D'1 g w n:=by
 intro n
 induction n with
 | zero=>intro _;rfl
 | succ n ih=>intro h;simp only[D'1,ih (λi hi=>h i (by omega)),h n (by omega)]
theorem N'9 {g w:Nat->Nat}{j:Nat}: ∀n,j<n->g j*w j<=D'1 g w n:=by
 intro n
 induction n with
 | zero=>intro h;omega
 | succ n ih=>
  intro h;simp only[D'1]
  by_cases e:j=n
  ·subst e;omega
  ·have:=ih (by omega);omega
def olen (fs:List Fr)(i:Nat): Nat:=(fs[i]?.map (·.own.length)).getD 0
def psi (N:Ck)(fs:List Fr): Nat:=D'1 (λi=>if i=0 then 0 else card N fs i) (λ_=>1) fs.length
def VP (N:Ck)(FM:Nat)(fs:List Fr): Nat:=(psi N fs+(FM-fs.length)*2^N.las.length)*(FM+2)+D'1 (olen fs) (λi=>FM-i) fs.length
structure RI (N:Ck) (FM:Nat)(R:Rn):Prop where
 fi:∀(i:Nat)(F:Fr),R.frames[i]?=some F->FrS N F (Sx N R.frames i)
 ps:0<R.frames.length
 fl:R.frames.length<=FM
 o0:∀F:Fr,R.frames[0]?=some F->F.own=[]
 cw:∀(i:Nat)(F:Fr),R.frames[i]?=some F->∀cl∈F.own,ClW N cl
 nd:∀(i:Nat)(F:Fr),R.frames[i]?=some F->F.own.Nodup
 dj:∀(i j:Nat)(F G:Fr),R.frames[i]?=some F->R.frames[j]?=some G->∀cl,cl∈F.own->cl∈G.own->i=j
 ini:∀st,st<2^N.las.length->B'j N st=true->B'3 R.frames 1 st=true
 stp:∀i st inp,st<2^N.las.length->Sx N R.frames i st->B'3 R.frames (i+1) (nxt N st inp)=true
 cf:∀(i:Nat)(F:Fr),R.frames[i]?=some F->(F.s.conflicts:Int)<=R.spent
 sp:0<=R.spent
def cc (N:Ck)(R:Rn)(b:Nat): Prop:=∀(i:Nat)(F:Fr),R.frames[i]?=some F->F.s.clauses.length<=b
theorem RI.mono {FM:Nat}{R:Rn}(x:RI N FM R){i j st:Nat}(h:i<=j)(hs:st<2^N.las.length)(hx:Sx N R.frames i st): Sx N R.frames j st:=by
 unfold Sx at hx ⊢
 by_cases e:i=0
 ·rw[if_pos e]at hx
  by_cases e2:j=0
  ·rw[if_pos e2];exact hx
  ·rw[if_neg e2];exact D'Y (by omega) (x.ini st hs hx)
 ·rw[if_neg e]at hx;rw[if_neg (by omega)];exact D'Y h hx
theorem H'Z {fs:List Fr}{i:Nat}{F:Fr}(h:fs[i]?=some F): olen fs i=F.own.length:=by simp[olen,h]
theorem T'B {FM:Nat}{fs:List Fr}{i:Nat}{F:Fr}(h:fs[i]?=some F)(hl:fs.length<=FM): F.own.length<=VP N FM fs:=by
 have hi:=(l'b.1 h).1;have h1:=N'9 (g:=olen fs) (w:=λi=>FM-i) (j:=i) fs.length hi;rw[H'Z h]at h1;have h2:F.own.length*1<=F.own.length*(FM-i):=Nat.mul_le_mul_left _ (by omega);unfold VP;omega
structure LrO (N:Ck)(fs fs':List Fr) (lv:Nat)(cl:List Nat):Prop where
 len:fs'.length=fs.length
 lo:∀i st,1<=i->i<=lv->B'3 fs' i st=(B'3 fs i st&&inB st cl)
 hi:∀i st,lv<i->B'3 fs' i st=B'3 fs i st
 ow:∀(i:Nat)(F:Fr),fs[i]?=some F->∃F':Fr,fs'[i]?=some F'∧F'.own=(if i=lv then F.own++[cl] else F.own.filter (λx=>x != cl))∧F'.s.conflicts=F.s.conflicts∧F'.s.clauses.length<=F.s.clauses.length+1
theorem H'k {FM:Nat}{R:Rn}(hL:N.las.length<=6)(x:RI N FM R){b:Nat}(hc:cc N R b)(hb:b<900000)(hv:VP N FM R.frames<=900000){lv:Nat}(h1:1<=lv)(h2:lv<R.frames.length){cl:List Nat}(hcl:ClW N cl)(hno:∀(k:Nat)(F:Fr),lv<=k->R.frames[k]?=some F->cl∉F.own)(hin:∀st,st<2^N.las.length->B'j N st=true->inS st cl)(hst:∀st inp,st<2^N.las.length->Sx N R.frames (lv-1) st->inS (nxt N st inp) cl):
  ∃R1,D'q N R lv cl=some R1∧R1.way=R.way∧R1.kept=R.kept∧R1.spent=R.spent∧LrO N R.frames R1.frames lv cl∧RI N FM R1:=by
 have hm:most=1000000:=rfl;obtain⟨fs',e1,e2,e3⟩:=H'j hL hcl lv R.frames h2 (λi F _ hF=>⟨⟨_,x.fi i F hF⟩,by have:=hc i F hF;omega⟩) (λi j F G hF hG a b=>x.dj i j F G hF hG cl a b);obtain⟨Fl,hFl⟩:∃F,R.frames[lv]?=some F:=⟨_,l'c h2⟩;obtain⟨Fl',g1,g2,g3,g4,g5⟩:=e3 lv Fl hFl;rw[if_pos ⟨h1,l'H _⟩,C'X (hno lv Fl (l'H _) hFl)]at g2;have hol:Fl'.own.length<most:=by
  have:=T'B (N:=N) hFl x.fl;rw[g2];omega
 have hl':lv<fs'.length:=by omega
 obtain⟨fr,hfr⟩:∃fr,fr=fs'.set lv { Fl' with own:=Fl'.own++[cl] }:=⟨_,rfl⟩;have hget:∀(i:Nat)(F:Fr),R.frames[i]?=some F->∃F':Fr,fr[i]?=some F'∧F'.own=(if i=lv then F.own++[cl] else F.own.filter (λx=>x != cl))∧F'.s.conflicts=F.s.conflicts∧F'.s.clauses.length<=F.s.clauses.length+1∧((F'.s=F.s∧(1<=i∧i<=lv->∃(h:Nat)(G:Fr),i<=h∧h<=lv∧R.frames[h]?=some G∧cl∈G.own))∨(1<=i∧i<=lv∧∀S,FrS N F S->FrS N F' (λst=>S st∧inS st cl))):=by
  intro i F hF
  by_cases e:i=lv
  ·subst e;rw[hFl]at hF;simp only[l'a]at hF;subst hF;refine⟨{ Fl' with own:=Fl'.own++[cl] },by rw[hfr];exact l'g hl',by rw[if_pos rfl,g2],g3,g4,?_⟩;rcases g5 with h|⟨a,b,c⟩
   ·exact .inl h
   ·exact .inr ⟨a,b,λS hS=>(c S hS).own _⟩
  ·obtain⟨F',q1,q2,q3,q4,q5⟩:=e3 i F hF;refine⟨F',by rw[hfr,l'h (λh=>e h.symm)];exact q1,?_,q3,q4,q5⟩;rw[if_neg e,q2];split
   ·rfl
   ·rename_i hni
    rw[C'X];rcases Nat.lt_or_ge i lv with h|h
    ·have:i=0:=by omega
     subst this;rw[x.o0 F hF];simp
    ·exact hno i F h hF
 have hlen:fr.length=R.frames.length:=by rw[hfr];simp[e2]
 have hback:∀(i:Nat)(F':Fr),fr[i]?=some F'->∃F:Fr,R.frames[i]?=some F∧F'.own=(if i=lv then F.own++[cl] else F.own.filter (λx=>x != cl))∧F'.s.conflicts=F.s.conflicts∧F'.s.clauses.length<=F.s.clauses.length+1∧((F'.s=F.s∧(1<=i∧i<=lv->∃(h:Nat)(G:Fr),i<=h∧h<=lv∧R.frames[h]?=some G∧cl∈G.own))∨(1<=i∧i<=lv∧∀S,FrS N F S->FrS N F' (λst=>S st∧inS st cl))):=by
  intro i F' hF';have hi:=(l'b.1 hF').1;obtain⟨F,hF⟩:∃F,R.frames[i]?=some F:=⟨_,l'c (by omega)⟩;obtain⟨F2,q1,q2⟩:=hget i F hF;rw[hF']at q1;simp only[l'a]at q1;subst q1;exact⟨F,hF,q2⟩
 have lo:∀i st,i<=lv->B'3 fr i st=(B'3 R.frames i st&&inB st cl):=by
  intro i st hi;rw[Bool.eq_iff_iff,l'k,B'J,B'J,C'5];constructor
  ·intro h;have hclS:inS st cl:=by
    obtain⟨F',q1,q2,-⟩:=hget lv Fl hFl;exact h lv F' hi q1 cl (by rw[q2,if_pos rfl];simp)
   refine⟨λk F hk hF c hcF=>?_,hclS⟩
   by_cases e:c=cl
   ·rw[e];exact hclS
   ·obtain⟨F',q1,q2,-⟩:=hget k F hF;refine h k F' hk q1 c ?_;rw[q2];split
    ·simp[hcF]
    ·exact List.mem_filter.2 ⟨hcF,by simpa using e⟩
  ·rintro⟨h,hclS⟩ k F' hk hF' c hc;obtain⟨F,q1,q2,-⟩:=hback k F' hF';rw[q2]at hc;split at hc
   ·simp only[l'E,l'm]at hc;rcases hc with h3|rfl
    ·exact h k F hk q1 c h3
    ·exact hclS
   ·exact h k F hk q1 c (List.mem_filter.1 hc).1
 have hi:∀i st,lv<i->B'3 fr i st=B'3 R.frames i st:=by
  intro i st hlt;rw[Bool.eq_iff_iff,B'J,B'J];constructor
  ·intro h k F hk hF c hc;obtain⟨F',q1,q2,-⟩:=hget k F hF;refine h k F' hk q1 c ?_;rw[q2,if_neg (by omega)];refine List.mem_filter.2 ⟨hc,?_⟩;have:c≠cl:=λe=>hno k F (by omega) hF (e ▸ hc);simpa using this
  ·intro h k F' hk hF' c hc;obtain⟨F,q1,q2,-⟩:=hback k F' hF';rw[q2,if_neg (by omega)]at hc;exact h k F hk q1 c (List.mem_filter.1 hc).1
 refine⟨{ R with frames:=fr },?_,rfl,rfl,rfl,⟨hlen,λi st _ h=>lo i st h,hi,λi F hF=>?_⟩,?_⟩
 ·unfold D'q;rw[e1];simp only[g1];rw[if_pos hol,hfr]
 ·obtain⟨F',q1,q2,q3,q4,-⟩:=hget i F hF;exact⟨F',q1,q2,q3,q4⟩
 ·refine⟨?_,by simp only;rw[hlen];exact x.ps,by simp only;rw[hlen];exact x.fl,?_,?_,?_,?_,?_,?_,?_,x.sp⟩
  ·intro i F' hF';obtain⟨F,q1,q2,q3,q4,q5⟩:=hback i F' hF';have hS:=x.fi i F q1;simp only;rcases q5 with ⟨hs,hh⟩|⟨a1,a2,a3⟩
   ·have h0:FrS N F' (Sx N R.frames i):=⟨by rw[hs];exact hS.s,by rw[hs];exact hS.m⟩;refine h0.iff λst=>?_;unfold Sx
    by_cases e0:i=0
    ·simp[e0]
    ·simp only[e0,if_false]
     by_cases hle:i<=lv
     ·rw[lo i st hle];obtain⟨h',Gh,p1,p2,p3,p4⟩:=hh ⟨by omega,hle⟩;rw[l'k];exact⟨λh=>⟨h,C'5.2 (B'J.1 h h' Gh p1 p3 cl p4)⟩,λh=>h.1⟩
     ·rw[hi i st (by omega)]
   ·refine (a3 _ hS).iff λst=>?_;unfold Sx;rw[if_neg (by omega),if_neg (by omega),lo i st a2,l'k,C'5]
  ·intro F' hF';obtain⟨F,q1,q2,-⟩:=hback 0 F' hF';rw[q2,if_neg (by omega),x.o0 F q1];rfl
  ·intro i F' hF' c hc;obtain⟨F,q1,q2,-⟩:=hback i F' hF';rw[q2]at hc;split at hc
   ·simp only[l'E,l'm]at hc;rcases hc with h|rfl
    ·exact x.cw i F q1 c h
    ·exact hcl
   ·exact x.cw i F q1 c (List.mem_filter.1 hc).1
  ·intro i F' hF';obtain⟨F,q1,q2,-⟩:=hback i F' hF';have h:=x.nd i F q1;rw[q2];split
   ·rename_i e
    rw[List.nodup_append];refine⟨h,by simp,λa ha b hb=>?_⟩;simp only[l'm]at hb;subst hb;exact λe2=>hno i F (by omega) q1 (e2 ▸ ha)
   ·exact List.Nodup.sublist List.filter_sublist h
  ·intro i j F' G' hF' hG' c hcF hcG;obtain⟨F,q1,q2,-⟩:=hback i F' hF';obtain⟨G,p1,p2,-⟩:=hback j G' hG';rw[q2]at hcF;rw[p2]at hcG
   by_cases ec:c=cl
   ·subst ec;have hi':i=lv:=by
     apply Classical.byContradiction;intro hne;rw[if_neg hne]at hcF;have:=(List.mem_filter.1 hcF).2;simp at this
    have hj':j=lv:=by
     apply Classical.byContradiction;intro hne;rw[if_neg hne]at hcG;have:=(List.mem_filter.1 hcG).2;simp at this
    rw[hi',hj']
   ·have mF:c∈F.own:=by
     split at hcF
     ·simpa [ec]using hcF
     ·exact (List.mem_filter.1 hcF).1
    have mG:c∈G.own:=by
     split at hcG
     ·simpa [ec]using hcG
     ·exact (List.mem_filter.1 hcG).1
    exact x.dj i j F G q1 p1 c mF mG
  ·intro st hs hb;simp only;rw[lo 1 st h1,l'k];exact⟨x.ini st hs hb,C'5.2 (hin st hs hb)⟩
  ·intro i st inp hs hS;simp only at hS ⊢;have hS0:Sx N R.frames i st:=by
    unfold Sx at hS ⊢
    by_cases e0:i=0
    ·simp only[e0,if_true]at hS ⊢;exact hS
    ·simp only[e0,if_false]at hS ⊢
     by_cases hle:i<=lv
     ·rw[lo i st hle,l'k]at hS;exact hS.1
     ·rw[hi i st (by omega)]at hS;exact hS
   have h3:=x.stp i st inp hs hS0
   by_cases hle:i+1<=lv
   ·rw[lo (i+1) _ hle,l'k];exact⟨h3,C'5.2 (hst st inp hs (x.mono (by omega) hs hS0))⟩
   ·rw[hi (i+1) _ (by omega)];exact h3
  ·intro i F' hF';obtain⟨F,q1,-,q3,-⟩:=hback i F' hF';rw[q3];exact x.cf i F q1
end Go.Ta
namespace Go.Ta
variable {N:Ck}
theorem H'l {α:Type}{p p':α->Bool}: ∀(l:List α),(∀x∈l,p' x=true->p x=true)->(∃x∈l,p x=true∧p' x=false)->l.countP p'+1<=l.countP p:=by
 intro l
 induction l with
 | nil=>rintro _ ⟨x,h,_⟩;simp at h
 | cons a r ih=>
  rintro h ⟨x,hx,h1,h2⟩;have hle:r.countP p'<=r.countP p:=List.countP_mono_left λy hy=>h y (by simp[hy]);rw[List.countP_cons,List.countP_cons];rcases l'I.1 hx with rfl|hx
  ·rw[h1,h2];simp;omega
  ·have:=ih (λy hy=>h y (by simp[hy])) ⟨x,hx,h1,h2⟩
   cases ha:p' a with
   | true=>rw[h a (by simp) ha];simp;omega
   | false=>cases p a <;> simp <;> omega
theorem L'V {fs fs':List Fr}{i:Nat}(h:∀st,B'3 fs' i st=true->B'3 fs i st=true): card N fs' i<=card N fs i:=List.countP_mono_left λx _=>h x
theorem LrO.le {fs fs':List Fr}{lv:Nat}{cl:List Nat}(x:LrO N fs fs' lv cl){i:Nat}(hi:1<=i)(st:Nat)(h:B'3 fs' i st=true): B'3 fs i st=true:=by
 rcases Nat.lt_or_ge lv i with h1|h1
 ·rw[x.hi i st h1]at h;exact h
 ·rw[x.lo i st hi h1,l'k]at h;exact h.1
theorem LrO.olen {fs fs':List Fr}{lv:Nat}{cl:List Nat}(x:LrO N fs fs' lv cl){i:Nat}(hi:i<fs.length): olen fs' i<=olen fs i+ind lv i∧∀F:Fr,fs[i]?=some F->cl∈F.own->i≠lv->olen fs' i+1<=olen fs i:=by
 obtain⟨F,hF⟩:∃F,fs[i]?=some F:=⟨_,l'c hi⟩;obtain⟨F',q1,q2,-⟩:=x.ow i F hF;rw[H'Z hF,H'Z q1,q2];refine⟨?_,?_⟩
 ·unfold ind;split
  ·rename_i e;simp
  ·rename_i e;exact List.length_filter_le _ _
 ·intro G hG hm hne;rw[hF]at hG;simp only[l'a]at hG;subst hG;rw[if_neg hne];exact F'p.2 hm
theorem T'C {FM:Nat}{fs fs':List Fr}{lv:Nat}{cl:List Nat}(x:LrO N fs fs' lv cl)(h1:1<=lv)(h2:lv<fs.length)(h3:fs.length<=FM){st:Nat}(hst:st<2^N.las.length)(ho:B'3 fs lv st=true)(hn:inB st cl=false): VP N FM fs'+2<=VP N FM fs:=by
 have hp:psi N fs'+1<=psi N fs:=by
  unfold psi;rw[x.len];have h:=G'p (g:=λi=>if i=0 then 0 else card N fs i) (g':=λi=>if i=0 then 0 else card N fs' i) (d:=ind lv) (u:=λ_=>0) (w:=λ_=>1) fs.length (λi hi=>by
   unfold ind
   by_cases e0:i=0
   ·subst e0;simp;omega
   ·simp only[e0,if_false]
    by_cases e:i=lv
    ·subst e;simp only[if_true];refine H'l _ (λs _ h=>x.le h1 s h) ⟨st,by simpa using hst,ho,?_⟩;rw[x.lo i st h1 (l'H _),hn];simp
    ·simp only[e,if_false];exact L'V λs h=>x.le (by omega) s h)
  rw[E'J,F'q,if_pos h2]at h;omega
 have hw:D'1 (olen fs') (λi=>FM-i) fs.length<=D'1 (olen fs) (λi=>FM-i) fs.length+(FM-lv):=by
  have h:=G'p (g:=olen fs) (g':=olen fs') (d:=λ_=>0) (u:=ind lv) (w:=λi=>FM-i) fs.length (λi hi=>by have:=(x.olen hi).1;omega);rw[E'J,F'q,if_pos h2]at h;omega
 have hmul:(psi N fs'+(FM-fs.length)*2^N.las.length)*(FM+2)+(FM+2)<=(psi N fs+(FM-fs.length)*2^N.las.length)*(FM+2):=by
  have:=Nat.mul_le_mul_right (FM+2) (show psi N fs'+(FM-fs.length)*2^N.las.length+1<=psi N fs+(FM-fs.length)*2^N.las.length by omega);rw[Nat.add_mul,Nat.one_mul]at this;exact this
 unfold VP;rw[x.len];omega
theorem O'a {FM:Nat}{fs fs':List Fr}{lv:Nat}{cl:List Nat}(x:LrO N fs fs' (lv+1) cl)(h2:lv+1<fs.length)(h3:fs.length<=FM){F:Fr}(hF:fs[lv]?=some F)(hm:cl∈F.own): VP N FM fs'+1<=VP N FM fs:=by
 have hp:psi N fs'<=psi N fs:=by
  unfold psi;rw[x.len];have h:=G'p (g:=λi=>if i=0 then 0 else card N fs i) (g':=λi=>if i=0 then 0 else card N fs' i) (d:=λ_=>0) (u:=λ_=>0) (w:=λ_=>1) fs.length (λi hi=>by
   by_cases e0:i=0
   ·subst e0;simp
   ·simp only[e0,if_false];have:=L'V (N:=N) (fs:=fs) (fs':=fs') (i:=i) λs h=>x.le (by omega) s h;omega)
  rw[F'q]at h;omega
 have hw:D'1 (olen fs') (λi=>FM-i) fs.length+1<=D'1 (olen fs) (λi=>FM-i) fs.length:=by
  have h:=G'p (g:=olen fs) (g':=olen fs') (d:=ind lv) (u:=ind (lv+1)) (w:=λi=>FM-i) fs.length (λi hi=>by
   obtain⟨a,b⟩:=x.olen hi
   by_cases e:i=lv
   ·subst e;have:=b F hF hm (by omega);unfold ind;simp;omega
   ·have h0:ind lv i=0:=by unfold ind;rw[if_neg e]
    omega)
  rw[E'J,E'J,if_pos h2,if_pos (by omega)]at h;omega
 have hmul:(psi N fs'+(FM-fs.length)*2^N.las.length)*(FM+2)<=(psi N fs+(FM-fs.length)*2^N.las.length)*(FM+2):=Nat.mul_le_mul_right _ (by omega);unfold VP;rw[x.len];omega
theorem E'h {fs:List Fr}{k:Nat}{F F':Fr}(hF:fs[k]?=some F)(ho:F'.own=F.own): (∀i st,B'3 (fs.set k F') i st=B'3 fs i st)∧(∀i,olen (fs.set k F') i=olen fs i)∧∀(i:Nat)(G:Fr),(fs.set k F')[i]?=some G->∃G0:Fr,fs[i]?=some G0∧G.own=G0.own∧(i≠k->G=G0)∧(i=k->G=F'):=by
 have hk:=(l'b.1 hF).1;have back:∀(i:Nat)(G:Fr),(fs.set k F')[i]?=some G->∃G0:Fr,fs[i]?=some G0∧G.own=G0.own∧(i≠k->G=G0)∧(i=k->G=F'):=by
  intro i G hG
  by_cases e:i=k
  ·subst e;rw[l'g hk]at hG;simp only[l'a]at hG;subst hG;exact⟨F,hF,ho,λh=>absurd rfl h,λ_=>rfl⟩
  ·rw[l'h (λh=>e h.symm)]at hG;exact⟨G,hG,rfl,λ_=>rfl,λh=>absurd h e⟩
 refine⟨λi st=>?_,λi=>?_,back⟩
 ·rw[Bool.eq_iff_iff,B'J,B'J];constructor
  ·intro h j G hj hG c hc
   by_cases e:j=k
   ·subst e;rw[hF]at hG;simp only[l'a]at hG;subst hG;exact h j F' hj (l'g hk) c (by rw[ho];exact hc)
   ·exact h j G hj (by rw[l'h (λh=>e h.symm)];exact hG) c hc
  ·intro h j G hj hG c hc;obtain⟨G0,q1,q2,-⟩:=back j G hG;exact h j G0 hj q1 c (by rw[<-q2];exact hc)
 ·unfold olen
  by_cases e:i=k
  ·subst e;rw[l'g hk,hF];simp[ho]
  ·rw[l'h (λh=>e h.symm)]
theorem L'W {FM:Nat}{fs:List Fr}{k:Nat}{F F':Fr}(hF:fs[k]?=some F)(ho:F'.own=F.own): VP N FM (fs.set k F')=VP N FM fs:=by
 obtain⟨h1,h2,-⟩:=E'h hF ho;have hc:∀i,card N (fs.set k F') i=card N fs i:=λi=>by
  unfold card;exact List.countP_congr λst _=>by rw[h1]
 unfold VP psi;rw[List.length_set,D'z fs.length (λi _=>h2 i),D'z (g:=λi=>if i=0 then 0 else card N fs i) fs.length (λi _=>by rw[hc])]
theorem RI.ask {FM:Nat}{R R1:Rn}(x:RI N FM R){k:Nat}{F F':Fr}(hF:R.frames[k]?=some F)(h1:R1.frames=R.frames.set k F')(h2:F'.own=F.own)(h3:FrS N F' (Sx N R.frames k))(h4:R.spent<=R1.spent)(h5:(F'.s.conflicts:Int)<=R1.spent): RI N FM R1∧∀i st,Sx N R1.frames i st↔Sx N R.frames i st:=by
 obtain⟨o1,o2,o3⟩:=E'h hF h2;have sx:∀i st,Sx N R1.frames i st↔Sx N R.frames i st:=λi st=>by
  unfold Sx;rw[h1,o1]
 refine⟨⟨?_,by rw[h1,List.length_set];exact x.ps,by rw[h1,List.length_set];exact x.fl,?_,?_,?_,?_,?_,?_,?_,by have:=x.sp;omega⟩,sx⟩
 ·intro i G hG;rw[h1]at hG;obtain⟨G0,q1,q2,q3,q4⟩:=o3 i G hG
  by_cases e:i=k
  ·rw[q4 e];subst e;exact h3.iff λst=>(sx i st).symm
  ·rw[q3 e];exact (x.fi i G0 q1).iff λst=>(sx i st).symm
 ·intro G hG;rw[h1]at hG;obtain⟨G0,q1,q2,-⟩:=o3 0 G hG;rw[q2];exact x.o0 G0 q1
 ·intro i G hG;rw[h1]at hG;obtain⟨G0,q1,q2,-⟩:=o3 i G hG;rw[q2];exact x.cw i G0 q1
 ·intro i G hG;rw[h1]at hG;obtain⟨G0,q1,q2,-⟩:=o3 i G hG;rw[q2];exact x.nd i G0 q1
 ·intro i j A B hA hB c a b;rw[h1]at hA hB;obtain⟨A0,p1,p2,-⟩:=o3 i A hA;obtain⟨B0,q1,q2,-⟩:=o3 j B hB;exact x.dj i j A0 B0 p1 q1 c (by rw[<-p2];exact a) (by rw[<-q2];exact b)
 ·intro st hs hb;rw[h1,o1];exact x.ini st hs hb
 ·intro i st inp hs hS;rw[h1,o1];exact x.stp i st inp hs ((sx i st).1 hS)
 ·intro i G hG;rw[h1]at hG;obtain⟨G0,q1,q2,q3,q4⟩:=o3 i G hG
  by_cases e:i=k
  ·rw[q4 e];exact h5
  ·rw[q3 e];have:=x.cf i G0 q1;omega
theorem D'c {R R1:Rn}{b k:Nat}{F F':Fr}(hc:cc N R b)(hF:R.frames[k]?=some F)(h1:R1.frames=R.frames.set k F')(h2:F'.s.clauses=F.s.clauses): cc N R1 b:=by
 intro i G hG;rw[h1]at hG;have hk:=(l'b.1 hF).1
 by_cases e:i=k
 ·subst e;rw[l'g hk]at hG;simp only[l'a]at hG;subst hG;rw[h2];exact hc i F hF
 ·rw[l'h (λh=>e h.symm)]at hG;exact hc i G hG
structure WyI (N:Ck)(R:Rn):Prop where
 wl:R.way.length<=R.frames.length
 ws:∀(w st inp:Nat),R.way[w]?=some (st,inp)->(st<2^N.las.length∧inp<2^N.ni)∧Sx N R.frames (R.frames.length-1-w) st
 wc:∀(w st inp st' inp':Nat),R.way[w]?=some (st,inp)->R.way[w+1]?=some (st',inp')->nxt N st' inp'=st
 w0:∀(st inp:Nat),R.way[0]?=some (st,inp)->L'S N st inp=true
def VR (N:Ck)(FM:Nat)(R:Rn): Nat:=VP N FM R.frames+(FM-R.way.length)
end Go.Ta
namespace Go.Ta
variable {N:Ck}
def B'A (N:Ck): Nat:=2^N.nv
theorem H'0 {R:Rn}{b b':Nat}(h:cc N R b)(hb:b<=b'): cc N R b':=λi F hF=>l'G (h i F hF) hb
structure BrO (N:Ck) (FM:Nat) (bud:Int)(R Rf:Rn) (v:Nat):Prop where
 vv:v=0∨v=2∨v=3
 ri:RI N FM Rf
 fl:Rf.frames.length=R.frames.length
 ty:Rf.spent+((VR N FM Rf*(B'A N+1):Nat):Int)<=R.spent+((VR N FM R*(B'A N+1):Nat):Int)+(if v=3 then (B'A N:Int) else 0)
 vp:VP N FM Rf.frames<=VP N FM R.frames
 c:∀b,cc N R b->cc N Rf (b+(VP N FM R.frames-VP N FM Rf.frames))
 z:v=0->Rf.way=[]∧Rf.spent<=bud∧VP N FM Rf.frames+R.way.length<=VP N FM R.frames
 u:v=2->WyI N Rf∧∃st inp,Rf.way.getLast?=some (st,inp)∧B'j N st=true
 s:v=3->bud<Rf.spent
 up:∀i st,R.frames.length<=i->B'3 Rf.frames i st=B'3 R.frames i st
 su:∀i st,1<=i->B'3 Rf.frames i st=true->B'3 R.frames i st=true
theorem E'K {V V' K:Nat}(h:V'+1<=V): V'*(K+1)+(K+1)<=V*(K+1):=by
 have:=Nat.mul_le_mul_right (K+1) h;rw[Nat.add_mul,Nat.one_mul]at this;exact this
theorem L'X {α:Type}{l:List α}{x:α}(h:l.getLast?=some x): l[l.length-1]?=some x∧0<l.length:=by
 rw[List.getLast?_eq_getElem?]at h;have:=(l'b.1 h).1;exact⟨h,by omega⟩
theorem O'b {f n FM:Nat}(Hy:Hyp N f n)(hFM:FM<=1000){bud:Int}(hbud:bud<=1152921504606846976): ∀(m:Nat)(R:Rn),RI N FM R->WyI N R->(∃b,cc N R b∧b+VP N FM R.frames<=850000)->R.spent<=bud+1->(R.way=[]->R.spent<=bud)->VR N FM R<m->∃Rf v,E'C f n N bud m R=some (Rf,v)∧BrO N FM bud R Rf v:=by
 have hmm:most=1000000:=rfl;intro m
 induction m with
 | zero=>intro R _ _ _ _ _ h;omega
 | succ m ih=>
  intro R x w hcb hsp hsp0 hm;obtain⟨b,hcc,hbv⟩:=hcb;unfold E'C
  cases hw:R.way.getLast? with
  | none=>
   simp only;have hw0:R.way=[]:=by simpa using hw
   exact⟨R,0,rfl,⟨.inl rfl,x,rfl,by simp,l'H _,λb h=>by simpa using h,λ_=>⟨hw0,hsp0 hw0,by rw[hw0];simp⟩,by simp,by simp,λ_ _ _=>rfl,λ_ _ _ h=>h⟩⟩
  | some p=>
   obtain⟨st,inp⟩:=p;simp only;obtain⟨hlast,hpos⟩:=L'X hw
   by_cases hlt:bud<R.spent
   ·rw[if_pos hlt];exact⟨R,3,rfl,⟨.inr (.inr rfl),x,rfl,by rw[if_pos rfl];omega,l'H _,λb h=>by simpa using h,by simp,by simp,λ_=>hlt,λ_ _ _=>rfl,λ_ _ _ h=>h⟩⟩
   ·rw[if_neg hlt];obtain⟨⟨hst,-⟩,hsx⟩:=w.ws _ _ _ hlast;have hwl:=w.wl;have hfl:=x.fl
    by_cases hor:R.frames.length<=R.way.length∨B'j N st=true
    ·rw[if_pos hor];refine⟨R,2,rfl,⟨.inr (.inl rfl),x,rfl,by simp,l'H _,λb h=>by simpa using h,by simp,λ_=>⟨w,st,inp,hw,?_⟩,by simp,λ_ _ _=>rfl,λ_ _ _ h=>h⟩⟩;rcases hor with h|h
     ·rw[show R.frames.length-1-(R.way.length-1)=0 by omega]at hsx;unfold Sx at hsx;rw[if_pos rfl]at hsx;exact hsx
     ·exact h
    ·rw[if_neg hor];simp only[not_or]at hor;obtain⟨hor1,hor2⟩:=hor;obtain⟨lv,hlv⟩:∃lv,R.frames.length-R.way.length=lv:=⟨_,rfl⟩;rw[hlv];have hlv1:1<=lv:=by omega
     have hlv2:lv<R.frames.length:=by omega
     rw[show R.frames.length-1-(R.way.length-1)=lv by omega]at hsx;have hsx':B'3 R.frames lv st=true:=by unfold Sx at hsx;rw[if_neg (by omega)]at hsx;exact hsx
     obtain⟨F,hF⟩:∃F,R.frames[lv-1]?=some F:=⟨_,l'c (by omega)⟩;have hcw:=L'U (N:=N) st;have hL:=Hy.L;have hbl:(A'6 N (B't N st)).length<=1000:=by simp[A'6,B't];omega
     obtain⟨R1,a,F',e1,e2,e3,e4,e5,e6,e7,e8,e9,e10,e11,e12,e13,e14,e15⟩:=G'o Hy hbud hF (x.fi _ _ hF) (by omega) (x.cf _ _ hF) (H'g Hy.W hcw.2) hbl;have e9':R1.spent<=R.spent+(B'A N:Nat):=e9;clear e9;obtain⟨x1,sx1⟩:=x.ask hF e2 e5 e6 e8 e10;have cc1:cc N R1 b:=D'c hcc hF e2 e7;have vp1:VP N FM R1.frames=VP N FM R.frames:=by rw[e2];exact L'W hF e5
     have fl1:R1.frames.length=R.frames.length:=by rw[e2,List.length_set]
     have ow1:∀i st,B'3 R1.frames i st=B'3 R.frames i st:=by rw[e2];exact (E'h hF e5).1
     have w1:WyI N R1:=⟨by rw[e3,fl1];exact w.wl,by rw[e3,fl1];exact λw' s i h=>⟨(w.ws w' s i h).1,(sx1 _ _).2 (w.ws w' s i h).2⟩,by rw[e3];exact w.wc,by rw[e3];exact w.w0⟩;have vr1:VR N FM R1=VR N FM R:=by unfold VR;rw[vp1,e3]
     rw[e1];rcases e11 with rfl|rfl|rfl
     ·-- the way goes on
      simp only;obtain⟨s1,s2,s3⟩:=e14 rfl;have hF1:R1.frames[lv-1]?=some F':=by rw[e2];exact l'g (by omega)
      have hnx:nxt N (A'7 N F'.s).1 (A'7 N F'.s).2=st:=by
       have h1:=(E'g (N:=N) (A'7 N F'.s).1 (A'7 N F'.s).2 hcw.2).1 s3;apply Classical.byContradiction;intro hne;exact h1 ((F'Y hst (O'H _ _ _)).2 hne)
      have hlen:B'L N R1 (lv-1)=some { R1 with way:=R1.way++[A'7 N F'.s],spent:=R1.spent+1 }:=by
       unfold B'L;rw[hF1];simp only;rw[if_pos (by rw[e3];omega)]
      rw[hlen];simp only;have e13':=e13 (by omega);have w2:WyI N { R1 with way:=R1.way++[A'7 N F'.s],spent:=R1.spent+1 }:=by
       refine⟨by simp only[l'p,l'n,l'o];rw[e3,fl1];omega,?_,?_,?_⟩
       ·intro w' s i h;simp only at h ⊢;rcases B'u h with h|⟨h,h'⟩
        ·exact w1.ws w' s i h
        ·have h9:i=(A'7 N F'.s).2:=by rw[<-h']
         rw[<-h']at s1 s2;simp only at s1 s2;refine⟨⟨s1,by rw[h9];exact D't _ _ _⟩,?_⟩;rw[h,fl1,e3,show R.frames.length-1-R.way.length=lv-1 by omega];exact (sx1 _ _).2 s2
       ·intro w' s i s' i' h h';simp only at h h';rcases B'u h' with h'|⟨h1,h2⟩
        ·have:=(l'b.1 h').1;rw[l'e (by omega)]at h;exact w1.wc w' s i s' i' h h'
        ·rw[l'e (by omega)]at h;have hw':w'=R.way.length-1:=by rw[e3]at h1;omega
         rw[e3,hw',hlast]at h;simp only[l'a,l'd]at h;rw[<-h.1,<-hnx,<-h2]
       ·intro s i h;simp only at h;rw[l'e (by rw[e3];omega)]at h;exact w1.w0 s i h
      have x2:RI N FM { R1 with way:=R1.way++[A'7 N F'.s],spent:=R1.spent+1 }:=⟨x1.fi,x1.ps,x1.fl,x1.o0,x1.cw,x1.nd,x1.dj,x1.ini,x1.stp,λi G hG=>by have:=x1.cf i G hG;simp only;omega,by have:=x1.sp;simp only;omega⟩;have vr2:VR N FM { R1 with way:=R1.way++[A'7 N F'.s],spent:=R1.spent+1 } + 1<=VR N FM R:=by
       unfold VR;simp only[l'p,l'n,l'o];rw[vp1,e3];omega
      obtain⟨Rf,v,f1,f2⟩:=ih _ x2 w2 ⟨b,cc1,by simp only;omega⟩ (by simp only;omega) (λh=>by simp at h) (by omega);refine⟨Rf,v,f1,⟨f2.vv,f2.ri,by rw[f2.fl];exact fl1,?_,by have:=f2.vp;simp only at this;omega,λb' h=>?_,λh=>?_,f2.u,f2.s,λi s hi=>by rw[f2.up i s (by simp only;omega)];simp only;exact ow1 i s,λi s hi h=>by rw[<-ow1];exact f2.su i s hi h⟩⟩
      ·have h1:=f2.ty;have h2:=E'K (K:=B'A N) vr2;simp only at h1;omega
      ·have:=f2.c b' (D'c (by
        intro i G hG;exact h i G hG) hF e2 e7)
       simp only at this;rw[vp1]at this;exact this
      ·obtain⟨h1,h2,h3⟩:=f2.z h;simp only[l'p,l'n,l'o]at h3;rw[vp1,e3]at h3;exact⟨h1,h2,by omega⟩
     ·-- a clause
      simp only;obtain⟨c1,c2,c3⟩:=e15 rfl;have hF1:R1.frames[lv-1]?=some F':=by rw[e2];exact l'g (by omega)
      rw[hF1];simp only;rw[if_pos (by omega)];have hsc:=R'B (core:=F'.s.core) hcw;have hfalse:¬inS st (B'7 N (B't N st) F'.s.core):=by
       rintro⟨y,hy,ht⟩;exact (F'Y hst hst).1 ⟨y,H'i.1 y hy,ht⟩ rfl
      have hno:∀(k:Nat)(G:Fr),lv<=k->R1.frames[k]?=some G->B'7 N (B't N st) F'.s.core∉G.own:=by
       intro k G hk hG hm;obtain⟨G0,q1,q2,-⟩:=(E'h hF e5).2.2 k G (by rw[<-e2];exact hG);exact hfalse (B'J.1 hsx' k G0 hk q1 _ (by rw[<-q2];exact hm))
      have hfB:inB st (B'7 N (B't N st) F'.s.core)=false:=by
       cases h:inB st (B'7 N (B't N st) F'.s.core) with
       | false=>rfl
       | true=>exact absurd (C'5.1 h) hfalse
      obtain⟨R2,g1,g2,g3,g4,g5,g6⟩:=H'k Hy.L x1 cc1 (by omega) (by rw[vp1];omega) hlv1 (by omega) hsc hno (λs hs hb=>by
        obtain⟨y,hy,hyb⟩:=J'C hor2;obtain⟨z,hz,hzb⟩:=H'X (core:=F'.s.core) hy hyb;exact⟨z,hz,J'B Hy.W (hsc.2 z hz) hb hzb⟩) (λs i hs hS=>by
        apply Classical.byContradiction;intro hno;refine c3 s i hs ((sx1 _ _).1 hS) λl hl=>?_;obtain⟨y,hy,hyl⟩:=J'A hl (c2 l hl);rw[hyl,F'o s i (hsc.2 y hy)]
        cases ht:tr (nxt N s i).testBit y with
        | false=>rfl
        | true=>exact absurd ⟨y,hy,ht⟩ hno)
      rw[g1];simp only;have e13':=e13 (by omega);have vp2:VP N FM R2.frames+2<=VP N FM R1.frames:=T'C g5 hlv1 (by omega) x1.fl hst (by rw[ow1];exact hsx') hfB;have fl2:R2.frames.length=R1.frames.length:=g5.len;have hway:R2.way=R.way:=by rw[g2,e3]
      have ccs:∀b',cc N R1 b'->cc N R2 (b'+1):=by
       intro b' h i G hG;have hi:=(l'b.1 hG).1;obtain⟨G0,hG0⟩:∃G0,R1.frames[i]?=some G0:=⟨_,l'c (by omega)⟩;obtain⟨G',q1,-,-,q4⟩:=g5.ow i G0 hG0;rw[hG]at q1;simp only[l'a]at q1;subst q1;have:=h i G0 hG0;omega
      have x3:RI N FM { R2 with way:=R2.way.dropLast }:=⟨g6.fi,g6.ps,g6.fl,g6.o0,g6.cw,g6.nd,g6.dj,g6.ini,g6.stp,g6.cf,g6.sp⟩;have dl:∀(w':Nat)(p:Nat×Nat),R2.way.dropLast[w']?=some p->w'+1<R.way.length∧R.way[w']?=some p:=by
       intro w' p h;have hl:=(l'b.1 h).1;rw[hway]at h hl;simp at hl;rw[List.getElem?_dropLast,if_pos (by omega)]at h;exact⟨by omega,h⟩
      have w3:WyI N { R2 with way:=R2.way.dropLast }:=by
       refine⟨by simp only[List.length_dropLast];rw[hway,fl2,fl1];omega,?_,?_,?_⟩
       ·intro w' s i h;simp only at h ⊢;obtain⟨h1,h2⟩:=dl w' _ h;obtain⟨h3,h4⟩:=w.ws w' s i h2;refine⟨h3,?_⟩;rw[fl2,fl1];unfold Sx at h4 ⊢;rw[if_neg (by omega)]at h4 ⊢;rw[g5.hi _ _ (by omega),ow1];exact h4
       ·intro w' s i s' i' h h';exact w.wc w' s i s' i' (dl _ _ h).2 (dl _ _ h').2
       ·intro s i h;exact w.w0 s i (dl _ _ h).2
      have vr3:VR N FM { R2 with way:=R2.way.dropLast } + 1<=VR N FM R:=by
       unfold VR;simp only[List.length_dropLast];rw[hway];omega
      obtain⟨Rf,v,f1,f2⟩:=ih _ x3 w3 ⟨b+1,ccs b cc1,by simp only;omega⟩ (by simp only;omega) (λ_=>by simp only;omega) (by omega);refine⟨Rf,v,f1,⟨f2.vv,f2.ri,by rw[f2.fl];simp only;omega,?_,by have:=f2.vp;simp only at this;omega,λb' h=>?_,λh=>?_,f2.u,f2.s,λi s hi=>by rw[f2.up i s (by simp only;omega)];simp only;rw[g5.hi i s (by omega)];exact ow1 i s,λi s hi h=>by rw[<-ow1];exact g5.le hi s (f2.su i s hi h)⟩⟩
      ·have h1:=f2.ty;have h2:=E'K (K:=B'A N) vr3;simp only at h1;omega
      ·have h1:=f2.c (b'+1) (ccs b' (D'c h hF e2 e7));have h2:=f2.vp;simp only at h1 h2;exact H'0 h1 (by omega)
      ·obtain⟨h1,h2,h3⟩:=f2.z h;simp only[List.length_dropLast]at h3;rw[hway]at h3;exact⟨h1,h2,by omega⟩
     ·-- spent
      simp only;exact⟨R1,3,rfl,⟨.inr (.inr rfl),x1,fl1,by rw[vr1,if_pos rfl];omega,by omega,λb' h=>by
       rw[vp1];simp only[Nat.sub_self,Nat.add_zero];exact D'c h hF e2 e7,by simp,by simp,λ_=>e12 rfl,λi s _=>ow1 i s,λi s _ h=>by rw[<-ow1];exact h⟩⟩
end Go.Ta
namespace Go.Ta
variable {N:Ck}
structure ClO (N:Ck) (FM:Nat) (bud:Int)(R Rf:Rn) (v:Nat):Prop where
 vv:v=0∨v=2∨v=3
 ri:RI N FM Rf
 fl:Rf.frames.length=R.frames.length
 ty:Rf.spent+((VR N FM Rf*(B'A N+1):Nat):Int)<=R.spent+((VR N FM R*(B'A N+1):Nat):Int)+(B'A N:Int)
 vp:VP N FM Rf.frames<=VP N FM R.frames
 c:∀b,cc N R b->cc N Rf (b+(VP N FM R.frames-VP N FM Rf.frames))
 z:v=0->Rf.way=[]∧Rf.spent<=bud∧∀st inp,st<2^N.las.length->Sx N Rf.frames (R.frames.length-1) st->L'S N st inp=false
 u:v=2->WyI N Rf∧∃st inp,Rf.way.getLast?=some (st,inp)∧B'j N st=true
 s:v=3->bud<Rf.spent
 su:∀i st,1<=i->B'3 Rf.frames i st=true->B'3 R.frames i st=true
theorem J'D {f n FM:Nat}(Hy:Hyp N f n)(hFM:FM<=1000){bud:Int}(hbud:bud<=1152921504606846976): ∀(m:Nat)(R:Rn),RI N FM R->R.way=[]->(∃b,cc N R b∧b+VP N FM R.frames<=850000)->R.spent<=bud->VP N FM R.frames<m->VP N FM R.frames+FM<n->∃Rf v,C'u f n N bud m R=some (Rf,v)∧ClO N FM bud R Rf v:=by
 have hmm:most=1000000:=rfl;intro m
 induction m with
 | zero=>intro R _ _ _ _ h;omega
 | succ m ih=>
  intro R x hw hcb hsp hm hn;obtain⟨b,hcc,hbv⟩:=hcb;have hps:=x.ps;have hfl:=x.fl;unfold C'u;obtain⟨F,hF⟩:∃F,R.frames[R.frames.length-1]?=some F:=⟨_,l'c (by omega)⟩;have hbd:=Hy.W.bd;obtain⟨R1,a,F',e1,e2,e3,e4,e5,e6,e7,e8,e9,e10,e11,e12,e13,e14,e15⟩:=G'o Hy hbud hF (x.fi _ _ hF) hsp (x.cf _ _ hF) (as:=[N.bad]) (by simp;omega) (by simp);have e9':R1.spent<=R.spent+(B'A N:Nat):=e9;clear e9;obtain⟨x1,sx1⟩:=x.ask hF e2 e5 e6 e8 e10;have cc1:cc N R1 b:=D'c hcc hF e2 e7;have vp1:VP N FM R1.frames=VP N FM R.frames:=by rw[e2];exact L'W hF e5
  have fl1:R1.frames.length=R.frames.length:=by rw[e2,List.length_set]
  have vr1:VR N FM R1=VR N FM R:=by unfold VR;rw[vp1,e3]
  have ow1:∀i st,B'3 R1.frames i st=B'3 R.frames i st:=by rw[e2];exact (E'h hF e5).1
  rw[e1];rcases e11 with rfl|rfl|rfl
  ·simp only;obtain⟨s1,s2,s3⟩:=e14 rfl;have hF1:R1.frames[R.frames.length-1]?=some F':=by rw[e2];exact l'g (by omega)
   have e13':=e13 (by omega);have hlen:B'L N R1 (R1.frames.length-1)=some { R1 with way:=R1.way++[A'7 N F'.s],spent:=R1.spent+1 }:=by
    unfold B'L;rw[fl1,hF1];simp only;rw[if_pos (by rw[e3,hw];simp;omega)]
   rw[hlen];simp only;have hway:R1.way++[A'7 N F'.s]=[A'7 N F'.s]:=by rw[e3,hw];rfl
   rw[hway];have w2:WyI N { R1 with way:=[A'7 N F'.s],spent:=R1.spent+1 }:=by
    refine⟨by simp only[l'n,l'o];omega,?_,?_,?_⟩
    ·intro w' s i h;simp only at h ⊢
     cases w' with
     | zero=>
      simp only[l'w,l'a]at h;have h9:(A'7 N F'.s).2=i:=by rw[h]
      rw[h]at s1 s2;refine⟨⟨s1,by rw[<-h9];exact D't _ _ _⟩,?_⟩;rw[fl1];exact (sx1 _ _).2 s2
     | succ w'=>simp at h
    ·intro w' s i s' i' h h';simp at h'
    ·intro s i h;simp only[l'w,l'a]at h;rw[h]at s3;exact s3 N.bad (by simp)
   have x2:RI N FM { R1 with way:=[A'7 N F'.s],spent:=R1.spent+1 }:=⟨x1.fi,x1.ps,x1.fl,x1.o0,x1.cw,x1.nd,x1.dj,x1.ini,x1.stp,λi G hG=>by have:=x1.cf i G hG;simp only;omega,by have:=x1.sp;simp only;omega⟩;have vr2:VR N FM { R1 with way:=[A'7 N F'.s],spent:=R1.spent+1 } + 1<=VR N FM R:=by
    unfold VR;simp only[l'n,l'o];rw[vp1,hw];simp;omega
   obtain⟨R3,v3,f1,f2⟩:=O'b Hy hFM hbud n _ x2 w2 ⟨b,cc1,by simp only;omega⟩ (by simp only;omega) (λh=>by simp at h) (by unfold VR;simp only;rw[vp1];omega);rw[f1];have hty:=f2.ty;have hms:=E'K (K:=B'A N) vr2;have hfl3:=f2.fl;have hvp3:=f2.vp;simp only at hty hfl3 hvp3;have hc3:∀b',cc N R b'->cc N R3 (b'+(VP N FM R.frames-VP N FM R3.frames)):=λb' h=>by
    have:=f2.c b' (D'c h hF e2 e7);simp only at this;rw[vp1]at this;exact this
   have su3:∀i st,1<=i->B'3 R3.frames i st=true->B'3 R.frames i st=true:=λi st h1 h=>by rw[<-ow1];exact f2.su i st h1 h
   rcases f2.vv with rfl|rfl|rfl
   ·simp only;obtain⟨z1,z2,z3⟩:=f2.z rfl;simp only[l'n,l'o]at z3;obtain⟨Rf,v,g1,g2⟩:=ih R3 f2.ri z1 ⟨_,hc3 b hcc,by omega⟩ z2 (by omega) (by omega);refine⟨Rf,v,g1,⟨g2.vv,g2.ri,by rw[g2.fl];omega,?_,by have:=g2.vp;omega,λb' h=>?_,λh=>?_,g2.u,g2.s,λi st h1 h=>su3 i st h1 (g2.su i st h1 h)⟩⟩
    ·have h1:=g2.ty;simp only[show (0:Nat)=3↔False by simp,if_false]at hty;omega
    ·have h1:=g2.c _ (hc3 b' h);have h2:=g2.vp;exact H'0 h1 (by omega)
    ·obtain⟨q1,q2,q3⟩:=g2.z h;refine⟨q1,q2,?_⟩;rw[hfl3,fl1]at q3;exact q3
   ·simp only;refine⟨R3,2,rfl,⟨.inr (.inl rfl),f2.ri,by omega,?_,by omega,hc3,by simp,f2.u,by simp,su3⟩⟩;simp only[show (2:Nat)=3↔False by simp,if_false]at hty;omega
   ·simp only;refine⟨R3,3,rfl,⟨.inr (.inr rfl),f2.ri,by omega,?_,by omega,hc3,by simp,by simp,f2.s,su3⟩⟩;rw[if_pos rfl]at hty;omega
  ·simp only;obtain⟨c1,c2,c3⟩:=e15 rfl;have e13':=e13 (by omega);refine⟨R1,0,rfl,⟨.inl rfl,x1,fl1,by rw[vr1];omega,by omega,λb' h=>by rw[vp1];simp only[Nat.sub_self,Nat.add_zero];exact D'c h hF e2 e7,λ_=>⟨by rw[e3];exact hw,e13',?_⟩,by simp,by simp,λi st _ h=>by rw[<-ow1];exact h⟩⟩;intro st inp hst hS
   cases hb:L'S N st inp with
   | false=>rfl
   | true=>
    exfalso;refine c3 st inp hst ((sx1 _ _).1 hS) λl hl=>?_;have:=c2 l hl;simp only[l'm]at this;rw[this];exact hb
  ·simp only;exact⟨R1,3,rfl,⟨.inr (.inr rfl),x1,fl1,by rw[vr1];omega,by omega,λb' h=>by rw[vp1];simp only[Nat.sub_self,Nat.add_zero];exact D'c h hF e2 e7,by simp,by simp,λ_=>e12 rfl,λi st _ h=>by rw[<-ow1];exact h⟩⟩
structure CaO (N:Ck) (FM:Nat) (bud:Int) (k:Nat)(R Rf:Rn) (v:Nat):Prop where
 vv:v=1∨v=2∨v=3
 ri:RI N FM Rf
 fl:Rf.frames.length=R.frames.length
 wy:Rf.way=R.way
 ty:Rf.spent+((VP N FM Rf.frames*(B'A N+1):Nat):Int)<=R.spent+((VP N FM R.frames*(B'A N+1):Nat):Int)+(B'A N:Int)
 vp:VP N FM Rf.frames<=VP N FM R.frames
 c:∀b,cc N R b->cc N Rf (b+(VP N FM R.frames-VP N FM Rf.frames))
 lo:∀i st,1<=i->i<=k->B'3 Rf.frames i st=B'3 R.frames i st
 su:∀i st,1<=i->B'3 Rf.frames i st=true->B'3 R.frames i st=true
 z:v≠3->Rf.spent<=bud
 e:v=2->∀F:Fr,Rf.frames[k]?=some F->F.own=[]
 t:v=1->∃st,st<2^N.las.length∧B'3 Rf.frames (k+1) st=true∧B'3 Rf.frames k st=false
 s:v=3->bud<Rf.spent
theorem J'E {f n FM:Nat}(Hy:Hyp N f n)(hFM:FM<=1000){bud:Int}(hbud:bud<=1152921504606846976){k:Nat}(hk1:1<=k): ∀(m:Nat)(R:Rn),RI N FM R->k+1<R.frames.length->(∃b,cc N R b∧b+VP N FM R.frames<=850000)->R.spent<=bud->VP N FM R.frames<m->∃Rf v,E'v f n N bud k m R=some (Rf,v)∧CaO N FM bud k R Rf v:=by
 have hmm:most=1000000:=rfl;intro m
 induction m with
 | zero=>intro R _ _ _ _ h;omega
 | succ m ih=>
  intro R x hk2 hcb hsp hm;obtain⟨b,hcc,hbv⟩:=hcb;have hfl:=x.fl;unfold E'v;obtain⟨F,hF⟩:∃F,R.frames[k]?=some F:=⟨_,l'c (by omega)⟩;rw[hF];simp only
  cases hown:F.own with
  | nil=>
   simp only;refine⟨R,2,rfl,⟨.inr (.inl rfl),x,rfl,rfl,by omega,l'H _,λb h=>by simpa using h,λ_ _ _ _=>rfl,λ_ _ _ h=>h,λ_=>hsp,λ_ G hG=>?_,by simp,by simp⟩⟩;rw[hF]at hG;simp only[l'a]at hG;rw[<-hG];exact hown
  | cons cl rest=>
   simp only;have hclm:cl∈F.own:=by rw[hown];simp
   have hcw:=x.cw k F hF cl hclm;have hL:=Hy.L;have hbl:(A'6 N cl).length<=1000:=by have:=hcw.1;simp[A'6];omega
   obtain⟨R1,a,F',e1,e2,e3,e4,e5,e6,e7,e8,e9,e10,e11,e12,e13,e14,e15⟩:=G'o Hy hbud hF (x.fi _ _ hF) hsp (x.cf _ _ hF) (H'g Hy.W hcw.2) hbl;have e9':R1.spent<=R.spent+(B'A N:Nat):=e9;clear e9;obtain⟨x1,sx1⟩:=x.ask hF e2 e5 e6 e8 e10;have cc1:cc N R1 b:=D'c hcc hF e2 e7;have vp1:VP N FM R1.frames=VP N FM R.frames:=by rw[e2];exact L'W hF e5
   have fl1:R1.frames.length=R.frames.length:=by rw[e2,List.length_set]
   have ow1:∀i st,B'3 R1.frames i st=B'3 R.frames i st:=by rw[e2];exact (E'h hF e5).1
   have hF1:R1.frames[k]?=some F':=by rw[e2];exact l'g (by omega)
   have hclm1:cl∈F'.own:=by rw[e5];exact hclm
   have hS0:Sx N R.frames k=λst=>B'3 R.frames k st=true:=by funext st;unfold Sx;rw[if_neg (by omega)]
   rw[e1];rcases e11 with rfl|rfl|rfl
   ·simp only;obtain⟨s1,s2,s3⟩:=e14 rfl;have e13':=e13 (by omega);refine⟨R1,1,rfl,⟨.inl rfl,x1,fl1,e3,by rw[vp1];omega,by omega,λb' h=>by rw[vp1];simp only[Nat.sub_self,Nat.add_zero];exact D'c h hF e2 e7,λi st _ _=>ow1 i st,λi st _ h=>by rw[<-ow1];exact h,λ_=>e13',by simp,λ_=>⟨nxt N (A'7 N F'.s).1 (A'7 N F'.s).2,O'H _ _ _,?_,?_⟩,by simp⟩⟩
    ·rw[ow1];exact x.stp k _ _ s1 s2
    ·have hno:=(E'g (N:=N) (A'7 N F'.s).1 (A'7 N F'.s).2 hcw.2).1 s3
     cases h:B'3 R1.frames k (nxt N (A'7 N F'.s).1 (A'7 N F'.s).2) with
     | false=>rfl
     | true=>exact absurd (B'J.1 h k F' (l'H _) hF1 cl hclm1) hno
   ·simp only;obtain⟨c1,c2,c3⟩:=e15 rfl;have e13':=e13 (by omega);obtain⟨R2,g1,g2,g3,g4,g5,g6⟩:=H'k Hy.L x1 cc1 (by omega) (by rw[vp1];omega) (lv:=k+1) (by omega) (by omega) hcw (λj G hj hG hm=>by
      have:=x1.dj k j F' G hF1 hG cl hclm1 hm;omega) (λs hs hb=>B'J.1 (x1.ini s hs hb) k F' hk1 hF1 cl hclm1) (λs i hs hS=>by
      apply Classical.byContradiction;intro hno;refine c3 s i hs ((sx1 _ _).1 hS) λl hl=>?_;exact (E'g (N:=N) s i hcw.2).2 hno l (c2 l hl))
    rw[g1];simp only;have vp2:VP N FM R2.frames+1<=VP N FM R1.frames:=O'a g5 (by omega) x1.fl hF1 hclm1;have fl2:R2.frames.length=R1.frames.length:=g5.len;have ccs:∀b',cc N R1 b'->cc N R2 (b'+1):=by
     intro b' h i G hG;have hi:=(l'b.1 hG).1;obtain⟨G0,hG0⟩:∃G0,R1.frames[i]?=some G0:=⟨_,l'c (by omega)⟩;obtain⟨G',q1,-,-,q4⟩:=g5.ow i G0 hG0;rw[hG]at q1;simp only[l'a]at q1;subst q1;have:=h i G0 hG0;omega
    have lo2:∀i st,1<=i->i<=k->B'3 R2.frames i st=B'3 R.frames i st:=by
     intro i st h1 h2;rw[g5.lo i st h1 (by omega),ow1]
     cases h:B'3 R.frames i st with
     | false=>rfl
     | true=>
      rw[Bool.true_and];exact C'5.2 (B'J.1 h k F h2 hF cl hclm)
    have su2:∀i st,1<=i->B'3 R2.frames i st=true->B'3 R.frames i st=true:=λi st h1 h=>by rw[<-ow1];exact g5.le h1 st h
    obtain⟨Rf,v,f1,f2⟩:=ih R2 g6 (by omega) ⟨b+1,ccs b cc1,by omega⟩ (by omega) (by omega);refine⟨Rf,v,f1,⟨f2.vv,f2.ri,by rw[f2.fl];omega,by rw[f2.wy,g2,e3],?_,by have:=f2.vp;omega,λb' h=>?_,λi st h1 h2=>by rw[f2.lo i st h1 h2];exact lo2 i st h1 h2,λi st h1 h=>su2 i st h1 (f2.su i st h1 h),f2.z,f2.e,f2.t,f2.s⟩⟩
    ·have h1:=f2.ty;have h2:=E'K (K:=B'A N) (show VP N FM R2.frames+1<=VP N FM R.frames by omega);omega
    ·have h1:=f2.c (b'+1) (ccs b' (D'c h hF e2 e7));have h2:=f2.vp;exact H'0 h1 (by omega)
   ·simp only;exact⟨R1,3,rfl,⟨.inr (.inr rfl),x1,fl1,e3,by rw[vp1];omega,by omega,λb' h=>by rw[vp1];simp only[Nat.sub_self,Nat.add_zero];exact D'c h hF e2 e7,λi st _ _=>ow1 i st,λi st _ h=>by rw[<-ow1];exact h,by simp,by simp,by simp,λ_=>e12 rfl⟩⟩
end Go.Ta
