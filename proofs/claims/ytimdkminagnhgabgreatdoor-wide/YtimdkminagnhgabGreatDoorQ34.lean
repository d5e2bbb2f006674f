import Derived.Test.YtimdkminagnhgabGreatDoorQ33
import Derived.Test.YtimdkminagnhgabGreatDoorQ20
set_option linter.all false
namespace Go.Ta
theorem H'0: ∀(l acc:List Nat) (x:Nat),x∈C'M l acc↔x∈l∨x∈acc:=by
 intro l
 induction l with
 | nil=>intro acc x;simp[C'M]
 | cons a r ih=>
  intro acc x;unfold C'M;split
  ·rw[ih,l'I];constructor
   ·rintro (h|h)
    ·exact .inl (.inr h)
    ·exact .inr h
   ·rintro ((h|h)|h)
    ·subst h;rename_i h1;exact .inr h1
    ·exact .inl h
    ·exact .inr h
  ·rw[ih,l'I,l'E,l'm];constructor
   ·rintro (h|h|h)
    ·exact .inl (.inr h)
    ·exact .inr h
    ·exact .inl (.inl h)
   ·rintro ((h|h)|h)
    ·exact .inr (.inr h)
    ·exact .inl h
    ·exact .inr (.inl h)
theorem L't: ∀(l acc:List Nat),acc.Nodup->(C'M l acc).Nodup:=by
 intro l
 induction l with
 | nil=>intro acc h;exact h
 | cons a r ih=>
  intro acc h;unfold C'M;split
  ·exact ih acc h
  ·rename_i hn
   refine ih _ ?_;rw[List.nodup_append];exact⟨h,by simp,λx hx y hy=>by simp only[l'm]at hy;subst hy;exact λe=>hn (e ▸ hx)⟩
theorem H'1: ∀(l acc:List Nat),(C'M l acc).length<=acc.length+l.length:=by
 intro l
 induction l with
 | nil=>intro acc;simp[C'M]
 | cons a r ih=>
  intro acc;unfold C'M;split
  ·have:=ih acc;simp;omega
  ·have:=ih (acc++[a]);simp at this ⊢;omega
theorem C'O (l:List Nat)(x:Nat): x∈D'D l↔x∈l:=by unfold D'D;rw[H'0];simp
theorem O'p (l:List Nat): (D'D l).Nodup:=L't l [] (by simp)
theorem L'u (l:List Nat): (D'D l).length<=l.length:=by have:=H'1 l [];unfold D'D;simpa using this
structure SOk (n:Nat)(s:Solv):Prop where
 e:s.early.length=n
 c:∀c∈s.clauses,c.Nodup∧∀l∈c,l<2*n
 l:s.clauses.length<=900000
 u:∃l,[l]∈s.clauses
theorem F'2 (n:Nat)(l:List Nat): E's n l=true↔∀x∈l,x<2*n:=by
 unfold E's;rw[l'D];simp
theorem H'2 {l:List Nat}(h:B's l=true)(σ:Nat->Bool): clT σ l:=by
 unfold B's at h;rw[List.any_eq_true]at h;obtain⟨⟨x,i⟩,hx,hy⟩:=h;rw[List.any_eq_true]at hy;obtain⟨y,hy,he⟩:=hy;simp only[beq_iff_eq]at he;have hxl:x∈l:=l'f (List.mem_zipIdx_iff_getElem?.1 hx);have hyl:y∈l:=List.mem_of_mem_take hy
 cases hs:tr σ x with
 | true=>exact⟨x,hxl,hs⟩
 | false=>
  refine⟨y,hyl,?_⟩;rw[he,E'A,hs];rfl
theorem F'3 {n:Nat}{s:Solv}(he:s.early.length=n)(hc:∀c∈s.clauses,c.Nodup∧∀l∈c,l<2*n){l:List Nat}(hl:∀x∈l,x<2*n)(hll:l.length<most)(hcl:s.clauses.length<most):
  ∃s',H'O s l=some s'∧s'.early=s.early∧s'.model=s.model∧s'.core=s.core∧s'.conflicts=s.conflicts∧s'.clauses.length<=s.clauses.length+1∧(∀c∈s'.clauses,c.Nodup∧∀l∈c,l<2*n)∧(∀c∈s.clauses,c∈s'.clauses)∧∀σ,C'p σ s'.clauses↔C'p σ s.clauses∧clT σ l:=by
 have hcond:E's s.early.length l=true∧l.length<most∧s.clauses.length<most:=⟨by rw[he];exact (F'2 _ _).2 hl,hll,hcl⟩;have hd:∀σ,clT σ (D'D l)↔clT σ l:=by
  intro σ;unfold clT;constructor
  ·rintro⟨x,h1,h2⟩;exact⟨x,(C'O _ _).1 h1,h2⟩
  ·rintro⟨x,h1,h2⟩;exact⟨x,(C'O _ _).2 h1,h2⟩
 unfold H'O;rw[if_pos hcond]
 by_cases ha:B's (D'D l)=true
 ·rw[if_pos ha];exact⟨s,rfl,rfl,rfl,rfl,rfl,by omega,hc,λc h=>h,λσ=>⟨λh=>⟨h,(hd σ).1 (H'2 ha σ)⟩,λh=>h.1⟩⟩
 ·rw[if_neg ha];refine⟨_,rfl,rfl,rfl,rfl,rfl,by simp,?_,λc h=>by simp[h],λσ=>?_⟩
  ·intro c hc';simp only[l'E,l'm]at hc';rcases hc' with h|rfl
   ·exact hc c h
   ·exact⟨O'p l,λx hx=>hl x ((C'O _ _).1 hx)⟩
  ·unfold C'p;simp only[l'E,l'm];constructor
   ·intro h;exact⟨λc hc=>h c (.inl hc),(hd σ).1 (h _ (.inr rfl))⟩
   ·rintro⟨h1,h2⟩ c (h|rfl)
    ·exact h1 c h
    ·exact (hd σ).2 h2
theorem D'M {n:Nat}: ∀(ls:List (List Nat))(s:Solv),s.early.length=n->(∀c∈s.clauses,c.Nodup∧∀l∈c,l<2*n)->(∀l∈ls,(∀x∈l,x<2*n)∧l.length<most)->s.clauses.length+ls.length<=900000 ->
  ∃s',C'm ls s=some s'∧s'.early=s.early∧s'.conflicts=s.conflicts∧s'.clauses.length<=s.clauses.length+ls.length∧(∀c∈s'.clauses,c.Nodup∧∀l∈c,l<2*n)∧(∀c∈s.clauses,c∈s'.clauses)∧∀σ,C'p σ s'.clauses↔C'p σ s.clauses∧C'p σ ls:=by
 have hm:most=1000000:=rfl;intro ls
 induction ls with
 | nil=>intro s he hc _ _;exact⟨s,rfl,rfl,rfl,by simp,hc,λc h=>h,λσ=>by simp[C'p]⟩
 | cons l r ih=>
  intro s he hc hl hlen;simp at hlen;obtain⟨s1,e1,e2,-,-,e3,e4,e5,e6,e7⟩:=F'3 he hc (hl l (by simp)).1 (hl l (by simp)).2 (by omega);obtain⟨s2,f1,f2,f3,f4,f5,f6,f7⟩:=ih s1 (by rw[e2];exact he) e5 (λl' h=>hl l' (by simp[h])) (by omega);refine⟨s2,by unfold C'm;rw[e1];exact f1,by rw[f2,e2],by rw[f3,e3],by simp;omega,f5,λc h=>f6 c (e6 c h),λσ=>?_⟩;rw[f7,e7];unfold C'p;simp only[l'I,forall_eq_or_imp];constructor
  ·rintro⟨⟨a,b⟩,c⟩;exact⟨a,b,c⟩
  ·rintro⟨a,b,c⟩;exact⟨⟨a,b⟩,c⟩
end Go.Ta
namespace Go.Ta
def numL (f:Nat->Bool): Nat->Nat
 | 0=>0
 | k+1=>(if f k then 2^k else 0)+numL f k
theorem E'C (f:Nat->Bool): ∀k,numL f k<2^k:=by
 intro k
 induction k with
 | zero=>simp[numL]
 | succ k ih=>simp only[numL,Nat.pow_succ];split <;> omega
theorem C'8 (f:Nat->Bool): ∀k j,j<k->(numL f k).testBit j=f j:=by
 intro k
 induction k with
 | zero=>intro j h;omega
 | succ k ih=>
  intro j h;have hlt:=E'C f k;simp only[numL]
  by_cases e:j=k
  ·subst e
   cases hf:f j with
   | true=>simp only[if_true];rw[Nat.testBit_two_pow_add_eq,Nat.testBit_lt_two_pow hlt];rfl
   | false=>simp only[l'y,if_false,l'F];exact Nat.testBit_lt_two_pow hlt
  ·cases hf:f k with
   | true=>simp only[if_true];rw[Nat.testBit_two_pow_add_gt (by omega)];exact ih j (by omega)
   | false=>simp only[l'y,if_false,l'F];exact ih j (by omega)
theorem F'o {a b k:Nat}(ha:a<2^k)(hb:b<2^k)(h:∀j,j<k->a.testBit j=b.testBit j): a=b:=by
 apply Nat.eq_of_testBit_eq;intro j
 by_cases hj:j<k
 ·exact h j hj
 ·have h1:2^k<=2^j:=Nat.pow_le_pow_right (by omega) (by omega);rw[Nat.testBit_lt_two_pow (Nat.lt_of_lt_of_le ha h1),Nat.testBit_lt_two_pow (Nat.lt_of_lt_of_le hb h1)]
theorem E'D (st j:Nat): st/2^j%2=if st.testBit j then 1 else 0:=by
 rw[Nat.testBit_eq_decide_div_mod_eq];rcases Nat.mod_two_eq_zero_or_one (st/2^j) with h|h <;> simp[h]
theorem E'E (s:Solv)(first:Nat): ∀count,B'7 s first count<2^count:=by
 intro count
 induction count with
 | zero=>simp[B'7]
 | succ n ih=>
  unfold B'7 at ih ⊢;rw[l'B,List.foldl_append];simp only[List.foldl_cons,List.foldl_nil];generalize (List.range n).foldl (λn j=>if s.model.getD (first+j) false then n ||| 2^j else n) 0=x at ih;have h2:2^n<2^(n+1):=Nat.pow_lt_pow_right (by omega) (by omega);split
  ·exact Nat.or_lt_two_pow (by omega) h2
  ·omega
theorem F'4 (s:Solv)(first:Nat): ∀count j,j<count->(B'7 s first count).testBit j=s.model.getD (first+j) false:=by
 intro count
 induction count with
 | zero=>intro j h;omega
 | succ n ih=>
  intro j h;have hlt:=E'E s first n
  have hs:B'7 s first (n+1)=if s.model.getD (first+n) false then B'7 s first n ||| 2^n else B'7 s first n:=by
   unfold B'7;rw[l'B,List.foldl_append];rfl
  rw[hs]
  by_cases e:j=n
  ·subst e;split
   ·rename_i hm
    rw[Nat.testBit_or,Nat.testBit_two_pow,hm];simp
   ·rename_i hm
    rw[Nat.testBit_lt_two_pow hlt];simpa using hm
  ·split
   ·rw[Nat.testBit_or,Nat.testBit_two_pow,ih j (by omega)];have:¬n=j:=λh=>e h.symm;simp[this]
   ·exact ih j (by omega)
structure CkW (N:Ck):Prop where
 gt:∀(k:Nat) (g l:Nat),N.gts[k]?=some (g,l)->g/2<1+N.ni+N.las.length+k∧l/2<1+N.ni+N.las.length+k
 la:∀(j:Nat) (x r:Nat),N.las[j]?=some (x,r)->x/2<N.nv∧r<=2
 bd:N.bad/2<N.nv
def F'5 (N:Ck)(σ:Nat->Bool): Prop:=σ 0=false∧∀(k g l:Nat),N.gts[k]?=some (g,l)->σ (1+N.ni+N.las.length+k)=(tr σ g&&tr σ l)
def G'j (N:Ck)(σ:Nat->Bool): Nat:=numL (λj=>σ (1+N.ni+j)) N.las.length
def trL (vs:List Bool)(x:Nat): Bool:=tr (λv=>vs.getD v false) x
def S'h: List (Nat×Nat)->List Bool->List Bool
 | [],vs=>vs
 | (g,l) :: r,vs=>S'h r (vs++[trL vs g&&trL vs l])
def R'B (N:Ck)(st inp:Nat): List Bool:=false :: ((List.range N.ni).map inp.testBit++(List.range N.las.length).map st.testBit)
def val (N:Ck)(st inp:Nat): Nat->Bool:=λv=>(S'h N.gts (R'B N st inp)).getD v false
theorem C'1 (σ:Nat->Bool)(v:Nat): tr σ (2*v) = σ v:=by
 unfold tr;rw[show 2*v/2=v by omega,show 2*v%2=0 by omega]
 cases σ v <;> rfl
theorem H'3 (N:Ck): ∀(gs:List (Nat×Nat)) (k0:Nat)(σ:Nat->Bool),C'p σ (B'x N gs k0)↔∀(k g l:Nat),gs[k]?=some (g,l)->σ (1+N.ni+N.las.length+(k0+k))=(tr σ g&&tr σ l):=by
 intro gs
 induction gs with
 | nil=>intro k0 σ;simp[B'x,C'p]
 | cons p r ih=>
  intro k0 σ;obtain⟨g0,l0⟩:=p;have hlit:tr σ (N.lgt k0) = σ (1+N.ni+N.las.length+k0):=by unfold Ck.lgt;rw[C'1]
  have h3:C'p σ (B'x N ((g0,l0) :: r) k0)↔(clT σ [N.lgt k0 ^^^ 1,g0]∧clT σ [N.lgt k0 ^^^ 1,l0]∧clT σ [N.lgt k0,g0 ^^^ 1,l0 ^^^ 1])∧C'p σ (B'x N r (k0+1)):=by
   rw[show B'x N ((g0,l0) :: r) k0=[N.lgt k0 ^^^ 1,g0] :: [N.lgt k0 ^^^ 1,l0] :: [N.lgt k0,g0 ^^^ 1,l0 ^^^ 1] :: B'x N r (k0+1) from rfl];unfold C'p;simp only[l'I,forall_eq_or_imp];constructor
   ·rintro⟨a,b,c,d⟩;exact⟨⟨a,b,c⟩,d⟩
   ·rintro⟨⟨a,b,c⟩,d⟩;exact⟨a,b,c,d⟩
  have h4:(clT σ [N.lgt k0 ^^^ 1,g0]∧clT σ [N.lgt k0 ^^^ 1,l0]∧clT σ [N.lgt k0,g0 ^^^ 1,l0 ^^^ 1])↔σ (1+N.ni+N.las.length+k0)=(tr σ g0&&tr σ l0):=by
   unfold clT;simp only[l'I,List.not_mem_nil,or_false,exists_eq_or_imp,exists_eq_left,E'A,hlit]
   cases σ (1+N.ni+N.las.length+k0) <;> cases tr σ g0 <;> cases tr σ l0 <;> simp
  rw[h3,h4,ih (k0+1) σ];constructor
  ·rintro⟨a,b⟩ k g l h
   cases k with
   | zero=>
    simp only[l'w,l'a,l'd]at h;obtain⟨rfl,rfl⟩:=h;exact a
   | succ k=>
    have:=b k g l (by simpa using h)
    rwa [show k0+1+k=k0+(k+1) by omega]at this
  ·intro h;refine⟨h 0 g0 l0 rfl,λk g l hk=>?_⟩;have:=h (k+1) g l (by simpa using hk)
   rwa [show k0+(k+1)=k0+1+k by omega]at this
theorem F'6 {N:Ck}(W:CkW N): ∀(gs:List (Nat×Nat)) (k0:Nat),(∀(k g l:Nat),gs[k]?=some (g,l)->N.gts[k0+k]?=some (g,l))->∀c∈B'x N gs k0,(∀x∈c,x<2*N.nv)∧c.length<most:=by
 have hm:most=1000000:=rfl;intro gs
 induction gs with
 | nil=>intro k0 _ c h;simp[B'x]at h
 | cons p r ih=>
  intro k0 hg c hc;obtain⟨g0,l0⟩:=p;have h0:=hg 0 g0 l0 rfl;have hb:=W.gt _ _ _ h0;have hk:=(l'b.1 h0).1;have hl1:N.lgt k0<2*N.nv:=by unfold Ck.lgt Ck.nv;omega
  have hg1:g0<2*N.nv:=by unfold Ck.nv;omega
  have hg2:l0<2*N.nv:=by unfold Ck.nv;omega
  unfold B'x at hc;simp only[l'I]at hc;rcases hc with rfl|rfl|rfl|hc
  ·refine⟨λx hx=>?_,by simp;omega⟩;simp only[l'I,List.not_mem_nil,or_false]at hx;rcases hx with rfl|rfl
   ·exact D'Z hl1
   ·exact hg1
  ·refine⟨λx hx=>?_,by simp;omega⟩;simp only[l'I,List.not_mem_nil,or_false]at hx;rcases hx with rfl|rfl
   ·exact D'Z hl1
   ·exact hg2
  ·refine⟨λx hx=>?_,by simp;omega⟩;simp only[l'I,List.not_mem_nil,or_false]at hx;rcases hx with rfl|rfl|rfl
   ·exact hl1
   ·exact D'Z hg1
   ·exact D'Z hg2
  ·exact ih (k0+1) (λk g l h=>by rw[show k0+1+k=k0+(k+1) by omega];exact hg (k+1) g l (by simpa using h)) c hc
theorem H'4 (N:Ck): ∀(gs:List (Nat×Nat)) (k0:Nat),(B'x N gs k0).length=3*gs.length:=by
 intro gs
 induction gs with
 | nil=>intro k0;rfl
 | cons p r ih=>
  intro k0;obtain⟨g0,l0⟩:=p;simp only[B'x,l'n,ih];omega
structure FrS (N:Ck)(F:Fr)(S:Nat->Prop):Prop where
 s:SOk N.nv F.s
 m:∀σ,C'p σ F.s.clauses↔F'5 N σ∧S (G'j N σ)
theorem H'5 {N:Ck}(W:CkW N)(hn:N.nv<=192): ∃F,D'V N=some F∧F.own=[]∧F.s.conflicts=0∧F.s.clauses.length<=600∧FrS N F (λ_=>True):=by
 have hm:most=1000000:=rfl;have hnv:1<=N.nv:=by unfold Ck.nv;omega
 have hgl:N.gts.length<=192:=by unfold Ck.nv at hn;omega
 have hlen:=H'4 N N.gts 0;obtain⟨s,e1,e2,e3,e4,e5,e6,e7⟩:=D'M (n:=N.nv) ([1] :: B'x N N.gts 0) ⟨(List.range N.nv).map λv=>decide (v<=N.ni+N.las.length),[],[],[],0⟩ (by simp) (by simp) (λl hl=>by
  rcases l'I.1 hl with rfl|h
  ·exact⟨λx hx=>by simp only[l'm]at hx;omega,by simp;omega⟩
  ·exact F'6 W N.gts 0 (λk g l h=>by simpa using h) l h) (by simp;omega)
 have hone:[1]∈s.clauses:=by
  unfold C'm at e1
  cases h:H'O ⟨(List.range N.nv).map λv=>decide (v<=N.ni+N.las.length),[],[],[],0⟩ [1]with
  | none=>rw[h]at e1;simp at e1
  | some s1=>
   rw[h]at e1;simp only at e1;have hs1:[1]∈s1.clauses:=by
    unfold H'O at h;split at h
    ·simp only[l'a]at h;rw[<-h];have:B's (D'D [1])=false:=by decide
     rw[if_neg (by rw[this];simp)];have:D'D [1]=[1]:=by decide
     simp[this]
    ·simp at h
   obtain⟨f1,f2,f3,-,-,f4,f5,f6,-,-⟩:=F'3 (n:=N.nv) (s:=⟨(List.range N.nv).map λv=>decide (v<=N.ni+N.las.length),[],[],[],0⟩) (by simp) (by simp) (l:=[1]) (by simp;omega) (by simp;omega) (by simp;omega);rw[h]at f2;simp only[l'a]at f2;subst f2;obtain⟨s2,g1,g2,g3,g4,g5,g6,g7⟩:=D'M (n:=N.nv) (B'x N N.gts 0) s1 (by rw[f3];simp) f6 (λl hl=>F'6 W N.gts 0 (λk g l h=>by simpa using h) l hl) (by simp at f5;omega);rw[e1]at g1;simp only[l'a]at g1;subst g1;exact g6 _ hs1
 refine⟨⟨s,[]⟩,?_,rfl,e3,by simp at e4;simp only;omega,⟨by rw[e2];simp,e5,by simp at e4;simp only;omega,⟨1,hone⟩⟩,?_⟩
 ·unfold D'V;rw[e1]
 ·intro σ;simp only;rw[e7];unfold F'5;have h1:C'p σ ([1] :: B'x N N.gts 0)↔tr σ 1=true∧C'p σ (B'x N N.gts 0):=by
   unfold C'p clT;simp only[l'I,forall_eq_or_imp,l'm,exists_eq_left];simp
  have h2:tr σ 1=true↔σ 0=false:=by unfold tr;cases σ 0 <;> simp
  rw[h1,h2,H'3];simp[C'p]
end Go.Ta
