import Derived.Test.YtimdkminagnhgabGreatDoorQ35
import Derived.Test.YtimdkminagnhgabGreatDoorQ36
import Derived.Test.YtimdkminagnhgabGreatDoorQ32
set_option linter.all false
namespace Go.Ta
def wdI (ps:List Nat)(j:Nat): Nat:=2*(1+ps.getD j 0)
def wdP (ps:List Nat)(j:Nat): Nat×Nat:=if j=0 then (wdI ps 0,1) else (2*(10+j),wdI ps j)
def wdN (ps:List Nat): Ck:=⟨4,List.replicate 6 (0,0),(List.range (ps.length+1)).map (wdP ps),2*(11+ps.length)⟩
section
variable {ps:List Nat}
theorem L'w (ps:List Nat): (wdN ps).nv=12+ps.length:=by simp[Ck.nv,wdN];omega
theorem B'Y (ps:List Nat): (wdN ps).las.length=6:=by simp[wdN]
theorem D'X (hp:∀p∈ps,p<4)(j:Nat): ps.getD j 0<4:=by
 rw[l'r]
 cases h:ps[j]? with
 | none=>simp
 | some x=>simpa using hp x (l'f h)
theorem J'C {k g l:Nat}(h:(wdN ps).gts[k]?=some (g,l)): k<=ps.length∧(g,l)=wdP ps k:=by
 simp only[wdN,List.getElem?_map]at h
 cases hk:(List.range (ps.length+1))[k]? with
 | none=>rw[hk]at h;simp at h
 | some j=>
  rw[hk]at h;have:=(l'b.1 hk);obtain⟨h1,h2⟩:=this;simp at h1 h2;subst h2;simp at h;exact⟨by omega,h.symm⟩
theorem L'x {k:Nat}(h:k<=ps.length): (wdN ps).gts[k]?=some (wdP ps k):=by
 simp only[wdN,List.getElem?_map];rw[List.getElem?_range (by omega)];rfl
theorem S'i (hp:∀p∈ps,p<4): CkW (wdN ps):=by
 refine⟨λk g l h=>?_,λj x r h=>?_,?_⟩
 ·obtain⟨h1,h2⟩:=J'C h;have h3:=D'X hp k;have h4:(wdN ps).ni=4:=rfl;rw[B'Y,h4];unfold wdP wdI at h2;split at h2
  ·rename_i e;subst e
   simp only[l'd]at h2;omega
  ·simp only[l'd]at h2;omega
 ·simp only[wdN,List.getElem?_replicate]at h;split at h
  ·simp only[l'a,l'd]at h;rw[L'w];omega
  ·simp at h
 ·rw[L'w];simp only[wdN];omega
def wdS (ps:List Nat): Nat->Bool:=λv=>decide (1<=v∧v<=4∨11<=v)
theorem L'y (hp:∀p∈ps,p<4): F'5 (wdN ps) (wdS ps):=by
 refine⟨rfl,λk g l h=>?_⟩;obtain⟨h1,h2⟩:=J'C h;have h3:=D'X hp k;have h4:(wdN ps).ni=4:=rfl;rw[B'Y,h4];have e0:wdS ps (1+4+6+k)=true:=by simp only[wdS,l'M];omega
 have ei:tr (wdS ps) (wdI ps k)=true:=by
  unfold wdI;rw[C'1];simp only[wdS,l'M];omega
 rw[e0];unfold wdP at h2;split at h2
 ·rename_i e;subst e
  simp only[l'd]at h2;rw[h2.1,h2.2,ei];rfl
 ·rename_i e
  simp only[l'd]at h2;have e2:tr (wdS ps) (2*(10+k))=true:=by
   rw[C'1];simp only[wdS,l'M];omega
  rw[h2.1,h2.2,ei,e2];rfl
theorem L'z (ps:List Nat): G'j (wdN ps) (wdS ps)=0:=by
 unfold G'j;refine F'o (k:=6) (by rw[B'Y];exact E'C _ _) (by decide) λj hj=>?_;rw[C'8 _ _ _ (by rw[B'Y];exact hj)];have:(wdN ps).ni=4:=rfl;rw[this,Nat.zero_testBit];simp only[wdS,decide_eq_false_iff_not];omega
theorem G'b {st:Nat}(h:st<64): B'N (wdN ps) st=true↔st=0:=by
 unfold B'N;simp only[wdN];constructor
 ·intro h1;refine F'o (k:=6) h (by decide) λj hj=>?_;rw[l'D]at h1;have:=h1 ((0,0),j) (by
   rw[List.mk_mem_zipIdx_iff_getElem?,List.getElem?_replicate];simp[hj])
  simp only[Bool.or_eq_true,l'M]at this;rw[E'D]at this
  cases hb:st.testBit j
  ·simp
  ·simp[hb]at this
 ·rintro rfl;rfl
theorem Q'B (hl:ps.length<=59)(hp:∀p∈ps,p<4): ∃s:Solv,E'0 (wdN ps)=some ⟨0,[⟨s,[]⟩],[],[]⟩∧SOk (12+ps.length) s∧s.conflicts=0∧(∀σ,C'p σ s.clauses↔F'5 (wdN ps) σ∧G'j (wdN ps) σ=0)∧(∀l∈[1] :: (B'x (wdN ps) (wdN ps).gts 0++B'm (wdN ps) (wdN ps).las 0),D'D l=l->B's l=false->l∈s.clauses):=by
 have W:=S'i hp;have hnv:=L'w ps;obtain⟨F,f1,f2,f3,f4,f5⟩:=H'5 W (by omega);obtain⟨r1,r2⟩:=H'7 (wdN ps) (wdN ps).las 0 (by omega);obtain⟨s,e1,e2,e3,e4,e5,e6,e7⟩:=D'M (n:=(wdN ps).nv) (B'm (wdN ps) (wdN ps).las 0) F.s f5.s.e f5.s.c r1 (by rw[B'Y]at r2;omega);rw[B'Y]at r2;refine⟨s,?_,⟨by rw[e2,f5.s.e,hnv],by rw[<-hnv];exact e5,by omega,?_⟩,by rw[e3,f3],λσ=>?_,?_⟩
 ·unfold E'0;rw[f1];simp only[e1,f2]
 ·obtain⟨l,hl⟩:=f5.s.u;exact⟨l,e6 _ hl⟩
 ·have hc:G'j (wdN ps) σ<64:=by
   have:=E'C (λj=>σ (1+(wdN ps).ni+j)) (wdN ps).las.length;rw[B'Y]at this;unfold G'j;rw[B'Y];exact this
  rw[e7,f5.m,G'a W,G'b hc];simp
 ·have h1:=F'9 _ e1;unfold D'V at f1;split at f1
  ·simp at f1
  ·rename_i s0 h0
   simp only[l'a]at f1;subst f1;have h2:=F'9 _ h0;intro l hl a b;rcases l'I.1 hl with rfl|hl
   ·exact h1.1 _ (h2.2 _ (by simp) a b)
   ·rcases l'E.1 hl with h|h
    ·exact h1.1 _ (h2.2 _ (by simp[h]) a b)
    ·exact h1.2 _ h a b
theorem G'M (N:Ck): ∀(gs:List (Nat×Nat)) (k0 k g l:Nat),gs[k]?=some (g,l)->[N.lgt (k0+k) ^^^ 1,g]∈B'x N gs k0∧[N.lgt (k0+k) ^^^ 1,l]∈B'x N gs k0:=by
 intro gs
 induction gs with
 | nil=>intro k0 k g l h;simp at h
 | cons p r ih=>
  intro k0 k g l h;obtain⟨g0,l0⟩:=p
  cases k with
  | zero=>
   simp only[l'w,l'a,l'd]at h;obtain⟨rfl,rfl⟩:=h;simp[B'x]
  | succ k=>
   simp only[l'x]at h;have:=ih (k0+1) k g l h;rw[show k0+1+k=k0+(k+1) by omega]at this;simp only[B'x,l'I];exact⟨.inr (.inr (.inr this.1)),.inr (.inr (.inr this.2))⟩
theorem G'c (N:Ck): ∀(ls:List (Nat×Nat)) (j0 j x:Nat),ls[j]?=some (x,0)->[N.lla (j0+j) ^^^ 1]∈B'm N ls j0:=by
 intro ls
 induction ls with
 | nil=>intro j0 j x h;simp at h
 | cons p r ih=>
  intro j0 j x h;obtain⟨x0,r0⟩:=p
  cases j with
  | zero=>
   simp only[l'w,l'a,l'd]at h;obtain⟨rfl,rfl⟩:=h;simp[B'm]
  | succ j=>
   simp only[l'x]at h;have:=ih (j0+1) j x h;rw[show j0+1+j=j0+(j+1) by omega]at this;simp only[B'm,l'E];exact .inr this
theorem L'A {a b:Nat}(h:a≠b): D'D [a,b]=[a,b]:=by
 have h':¬b=a:=λe=>h e.symm;simp[D'D,C'M,h']
theorem H'8 {a b:Nat}(h:a≠b ^^^ 1): B's [a,b]=false:=by
 simp[B's,h]
theorem M'h {σ:Nat->Bool}{v:Nat}{b:Bool}{x:Nat}(h:x/2≠v): tr (λw=>if w=v then b else σ w) x=tr σ x:=by
 unfold tr;simp only[if_neg h]
theorem Q'C (hl:ps.length<=59)(hp:∀p∈ps,p<4){s:Solv}(x:SOk (12+ps.length) s)(h0:s.conflicts=0)(hm:∀σ,C'p σ s.clauses↔F'5 (wdN ps) σ∧G'j (wdN ps) σ=0)(hc:∀l∈[1] :: (B'x (wdN ps) (wdN ps).gts 0++B'm (wdN ps) (wdN ps).las 0),D'D l=l->B's l=false->l∈s.clauses):
  ∃τ:Nat->Bool,C'p τ s.clauses∧tr τ (wdN ps).bad=true∧∀budget:Int,0<=budget->D'A 200 200 s [(wdN ps).bad] budget=some ({ s with model:=(List.range (12+ps.length)).map τ,core:=[] },1):=by
 have hbad:(wdN ps).bad=2*(11+ps.length):=rfl;have h4:(wdN ps).ni=4:=rfl;obtain⟨τ,a,b,c⟩:=G'K (σ:=wdS ps) (by omega) (by omega) x (asm:=[(wdN ps).bad]) (λl hl=>by simp only[l'm]at hl;subst hl;rw[hbad];omega) (by simp) (by rw[h0];decide) (f:=200) (m:=200) (by omega) (by simp;omega) ((hm _).2 ⟨L'y hp,L'z ps⟩) (λl hl=>by
   simp only[l'm]at hl;subst hl;rw[hbad,C'1];simp only[wdS,l'M];omega) (by
  intro q xq hli hasT v hv hno σ bb hσ;have hbT:=hasT (wdN ps).bad (by simp);rw[hbad]at hbT;have two:∀(k g l:Nat),(wdN ps).gts[k]?=some (g,l)->2*(11+k)∈q.trail->g∈q.trail∧l∈q.trail:=by
   intro k g l hk hT;obtain⟨m1,m2⟩:=G'M (wdN ps) _ 0 k g l hk;have hlg:(wdN ps).lgt (0+k)=2*(11+k):=by unfold Ck.lgt;rw[B'Y,h4];omega
   rw[hlg]at m1 m2;have hw:=(S'i hp).gt k g l hk;rw[B'Y,h4]at hw;have hx:(2*(11+k)) ^^^ 1=2*(11+k)+1:=by rw[E'z,if_pos (by omega)]
   rw[hx]at m1 m2;have key:∀y,y/2<1+4+6+k->[2*(11+k)+1,y]∈[1] :: (B'x (wdN ps) (wdN ps).gts 0++B'm (wdN ps) (wdN ps).las 0)->y∈q.trail:=by
    intro y hy hmem;have hne:2*(11+k)+1≠y:=by omega
    have hne2:2*(11+k)+1≠y ^^^ 1:=λe=>by
     have:=congrArg (· / 2) e;simp only[J's]at this;omega
    refine O'q xq hli hne (hc _ hmem (L'A hne) (H'8 hne2)) ?_;rw[<-hx,J'r];exact hT
   exact⟨key g hw.1 (by simp[m1]),key l hw.2 (by simp[m2])⟩
  have down:∀d,d<=ps.length->2*(11+(ps.length-d))∈q.trail:=by
   intro d
   induction d with
   | zero=>intro _;rw[Nat.sub_zero];exact hbT
   | succ d ih=>
    intro hd;have h1:=ih (by omega);have h2:=L'x (ps:=ps) (k:=ps.length-d) (by omega);unfold wdP at h2;rw[if_neg (by omega)]at h2;have:=(two _ _ _ h2 h1).1;rw[show 2*(10+(ps.length-d))=2*(11+(ps.length-(d+1))) by omega]at this;exact this
  have gate:∀k,k<=ps.length->2*(11+k)∈q.trail:=λk hk=>by
   have:=down (ps.length-k) (by omega)
   rwa [show ps.length-(ps.length-k)=k by omega]at this
  have inpu:∀k,k<=ps.length->wdI ps k∈q.trail:=λk hk=>by
   have h2:=L'x (ps:=ps) hk;unfold wdP at h2;split at h2
   ·rename_i e;subst e
    exact (two _ _ _ h2 (gate _ hk)).1
   ·exact (two _ _ _ h2 (gate _ hk)).2
  have unit:∀l,[l]∈s.clauses->l∈q.trail:=λl hl=>by
   obtain⟨i,hi,-⟩:=xq.u l hl;exact l'f hi
  have one:1∈q.trail:=unit 1 (hc _ (by simp) (by decide) (by decide));have lat:∀j,j<6->2*(5+j)+1∈q.trail:=λj hj=>by
   have:=G'c (wdN ps) (wdN ps).las 0 j 0 (by simp only[wdN,List.getElem?_replicate];rw[if_pos hj]);have hx:(wdN ps).lla (0+j) ^^^ 1=2*(5+j)+1:=by
    unfold Ck.lla;rw[h4,E'z,if_pos (by omega)];omega
   rw[hx]at this;exact unit _ (hc _ (by simp[this]) rfl rfl)
  unfold G'I at hno;have hv0:v≠0:=λe=>hno (.inr (by rw[e];exact one));have hvl:¬(5<=v∧v<11):=λh=>hno (.inr (by
   have:=lat (v-5) (by omega)
   rwa [show 2*(5+(v-5))+1=2*v+1 by omega]at this))
  have hvg:¬(11<=v):=λh=>hno (.inl (by
   have:=gate (v-11) (by omega)
   rwa [show 2*(11+(v-11))=2*v by omega]at this))
  have hvi:∀k,k<=ps.length->wdI ps k/2≠v:=λk hk e=>hno (.inl (by
   have:=inpu k hk;unfold wdI at this e
   rwa [show 2*(1+ps.getD k 0)=2*v by omega]at this))
  obtain⟨⟨g1,g2⟩,g3⟩:=(hm σ).1 hσ;refine (hm _).2 ⟨⟨by simp only;rw[if_neg (λe=>hv0 e.symm)];exact g1,λk g l hk=>?_⟩,?_⟩
  ·have:=g2 k g l hk;obtain⟨k1,k2⟩:=J'C hk;have hi:=hvi k k1;have hgl:g/2≠v∧l/2≠v:=by
    unfold wdP at k2;split at k2
    ·rename_i e;subst e
     simp only[l'd]at k2;rw[k2.1,k2.2];exact⟨hi,λe=>hv0 e.symm⟩
    ·simp only[l'd]at k2;rw[k2.1,k2.2];exact⟨by omega,hi⟩
   rw[M'h hgl.1,M'h hgl.2];simp only;rw[if_neg (by rw[B'Y,h4];omega)];exact this
  ·rw[<-g3];unfold G'j;refine F'o (E'C _ _) (E'C _ _) λj hj=>?_;rw[C'8 _ _ _ hj,C'8 _ _ _ hj];rw[B'Y]at hj;have hv9:1+(wdN ps).ni+j≠v:=by rw[h4];omega
   simp only[if_neg hv9])
 exact⟨τ,a,b (wdN ps).bad (by simp),c⟩
theorem Q'D (hl:ps.length<=59)(hp:∀p∈ps,p<4): ∃(inp:Nat)(R0 R:Rn),inp<16∧(∀k,k<=ps.length->inp.testBit (ps.getD k 0)=true)∧E'0 (wdN ps)=some R0∧R.way=[(0,inp)]∧R.spent=1∧∀bud:Int,0<=bud->D'n 200 200 (wdN ps) bud 1 R0=some (R,if bud=0 then 3 else 2):=by
 obtain⟨s,e1,e2,e3,e4,e5⟩:=Q'B hl hp;obtain⟨τ,t1,t2,t3⟩:=Q'C hl hp e2 e3 e4 e5;have h4:(wdN ps).ni=4:=rfl;have hbad:(wdN ps).bad=2*(11+ps.length):=rfl;obtain⟨⟨g1,g2⟩,g3⟩:=(e4 τ).1 t1;have hmod:∀v,v<12+ps.length->((List.range (12+ps.length)).map τ).getD v false = τ v:=by
  intro v hv;rw[l'r,List.getElem?_map,List.getElem?_range hv];rfl
 obtain⟨s',hs'⟩:∃s':Solv,s' = { s with model:=(List.range (12+ps.length)).map τ,core:=[] }:=⟨_,rfl⟩;rw[<-hs']at t3;have hmm:s'.model=(List.range (12+ps.length)).map τ:=by rw[hs']
 have f1:B'7 s' (1+(wdN ps).ni) (wdN ps).las.length=0:=by
  refine F'o (k:=6) (by have:=E'E s' (1+(wdN ps).ni) (wdN ps).las.length;rw[B'Y]at this ⊢;exact this) (by decide) λj hj=>?_;rw[F'4 _ _ _ _ (by rw[B'Y];exact hj),hmm,h4,hmod _ (by omega)];have:=congrArg (Nat.testBit · j) g3;simp only[G'j]at this;rw[C'8 _ _ _ (by rw[B'Y];exact hj),h4]at this;exact this
 have f2:∀k,k<=ps.length->(B'7 s' 1 (wdN ps).ni).testBit (ps.getD k 0)=true:=by
  have down:∀d,d<=ps.length->τ (11+(ps.length-d))=true:=by
   intro d
   induction d with
   | zero=>intro _;rw[hbad,C'1]at t2;exact t2
   | succ d ih=>
    intro hd;have h1:=ih (by omega);have h2:=L'x (ps:=ps) (k:=ps.length-d) (by omega);unfold wdP at h2;rw[if_neg (by omega)]at h2;have h3:=g2 _ _ _ h2;rw[B'Y,h4,show 1+4+6+(ps.length-d)=11+(ps.length-d) by omega,h1]at h3;have h5:=(l'k _ _).mp h3.symm;rw[C'1,show 10+(ps.length-d)=11+(ps.length-(d+1)) by omega]at h5;exact h5.1
  intro k hk;have h1:=down (ps.length-k) (by omega);rw[show ps.length-(ps.length-k)=k by omega]at h1;have h2:=L'x (ps:=ps) hk;have h3:tr τ (wdI ps k)=true:=by
   unfold wdP at h2;split at h2
   ·rename_i e;subst e
    have h3:=g2 _ _ _ h2;rw[B'Y,h4,show 1+4+6+0=11+0 by omega,h1]at h3;exact ((l'k _ _).mp h3.symm).1
   ·have h3:=g2 _ _ _ h2;rw[B'Y,h4,show 1+4+6+k=11+k by omega,h1]at h3;exact ((l'k _ _).mp h3.symm).2
  unfold wdI at h3;rw[C'1]at h3;have:=D'X hp k;rw[F'4 _ _ _ _ (by rw[h4];exact this),hmm,hmod _ (by omega)];exact h3
 have f3:B'7 s' 1 (wdN ps).ni<16:=by
  have:=E'E s' 1 (wdN ps).ni;rw[h4]at this ⊢;exact this
 refine⟨B'7 s' 1 (wdN ps).ni,⟨0,[⟨s,[]⟩],[],[]⟩,⟨1,[⟨s',[]⟩],[(0,B'7 s' 1 (wdN ps).ni)],[]⟩,f3,f2,e1,rfl,rfl,λbud hb=>?_⟩;have hcf:s'.conflicts=s.conflicts:=by rw[hs']
 have ask:N'O 200 200 bud ⟨0,[⟨s,[]⟩],[],[]⟩ 0 [(wdN ps).bad]=some (⟨0,[⟨s',[]⟩],[],[]⟩,1):=by
  unfold N'O;simp only[l'w,Int.sub_zero];rw[t3 bud hb];simp only[hcf,Nat.sub_self,List.set_cons_zero];rw[if_neg (by simp;omega)];simp
 have len:B'3 (wdN ps) ⟨0,[⟨s',[]⟩],[],[]⟩ 0=some ⟨1,[⟨s',[]⟩],[(0,B'7 s' 1 (wdN ps).ni)],[]⟩:=by
  unfold B'3;simp only[l'w,l'o];rw[if_pos (by decide)];unfold B'X;rw[f1];rfl
 have hb0:B'N (wdN ps) 0=true:=(G'b (by decide)).2 rfl;have bar:E'K 200 200 (wdN ps) bud 200 ⟨1,[⟨s',[]⟩],[(0,B'7 s' 1 (wdN ps).ni)],[]⟩=some (⟨1,[⟨s',[]⟩],[(0,B'7 s' 1 (wdN ps).ni)],[]⟩,if bud=0 then 3 else 2):=by
  rw[E'K];simp only[List.getLast?_singleton]
  by_cases e:bud=0
  ·subst e;rfl
  ·rw[if_neg (show ¬bud<1 by omega),if_pos (.inr hb0),if_neg e]
 rw[D'n,C'N];simp only[l'n,l'o,l'F,Nat.sub_self];rw[ask];simp only[l'n,l'o,l'F,Nat.sub_self];rw[len];simp only;rw[bar]
 by_cases e:bud=0
 ·simp[e]
 ·simp[e]
end
end Go.Ta
namespace Go.Proofs.YtimdkminagnhgabGreatDoor
open Go.Vm Go.Proofs Go.Ta
set_option maxRecDepth 4000
def B'a (s:ByteArray): List Nat:=s.data.toList.map UInt8.toNat
theorem B'b (a b:ByteArray): B'a (a++b)=B'a a++B'a b:=by simp[B'a]
theorem D'N (s:ByteArray): (B'a s).length=s.size:=by simp[B'a]
theorem J'D (s:ByteArray)(p:Nat): G'u s p=(B'a s).getD p 0:=by
 unfold G'u B'a;rw[l'r,List.getElem?_map,Array.getElem?_toList];rfl
def At (s:ByteArray)(p:Nat)(bs:List Nat): Prop:=∀(i b:Nat),bs[i]?=some b->p+i<s.size∧G'u s (p+i)=b
theorem At.all (s:ByteArray): At s 0 (B'a s):=by
 intro i b h;have h1:=(l'b.1 h).1;rw[D'N]at h1;rw[l'F,J'D,l'r,h];exact⟨h1,rfl⟩
variable {s:ByteArray}{p:Nat}
theorem At.cons {b:Nat}{bs:List Nat}: At s p (b :: bs)↔(p<s.size∧G'u s p=b)∧At s (p+1) bs:=by
 constructor
 ·intro h;refine⟨h 0 b rfl,λi b' h'=>?_⟩;have:=h (i+1) b' (by simpa using h');rw[show p+(i+1)=p+1+i by omega]at this;exact this
 ·rintro⟨h1,h2⟩ i b' h'
  cases i with
  | zero=>simp at h';subst h';exact h1
  | succ i=>
   have:=h2 i b' (by simpa using h');rw[show p+1+i=p+(i+1) by omega]at this;exact this
theorem At.app {a b:List Nat}: At s p (a++b)↔At s p a∧At s (p+a.length) b:=by
 constructor
 ·intro h;refine⟨λi x hx=>h i x (by rw[l'e (l'b.1 hx).1];exact hx),λi x hx=>?_⟩;have:=h (a.length+i) x (by rw[l'z (by omega)];simpa using hx);rw[<-Nat.add_assoc]at this;exact this
 ·rintro⟨h1,h2⟩ i x hx;rcases Nat.lt_or_ge i a.length with h|h
  ·rw[l'e h]at hx;exact h1 i x hx
  ·rw[l'z h]at hx;have:=h2 (i-a.length) x hx;rw[show p+a.length+(i-a.length)=p+i by omega]at this;exact this
theorem E'L {b:Nat}{bs:List Nat}(h:At s p (b :: bs)): pk s ⟨p,0,0⟩=(b:Int):=by
 obtain⟨⟨h1,h2⟩,-⟩:=At.cons.1 h;unfold pk;rw[if_pos ⟨rfl,h1⟩,h2]
theorem C'o {b:Nat}{bs:List Nat}(h:At s p (b :: bs)): exS s ⟨p,0,0⟩ b=⟨p+1,0,0⟩:=by
 unfold exS;rw[if_pos (E'L h)]
def dgL (v:Nat): List Nat:=if v<10 then [48+v] else if v<100 then [48+v/10,48+v%10] else [48+v/100,48+v/10%10,48+v%10]
theorem C'9 {n st d v:Nat}{bs:List Nat}(h:At s p ((48+d) :: bs))(hd:d<=9)(h4:p-st≠4)(hz:p=st∨v≠0): Proofs.YtimdkminagnhgabGreatDoor.numL (n+1) s st ⟨p,0,0⟩ v=Proofs.YtimdkminagnhgabGreatDoor.numL n s st ⟨p+1,0,0⟩ (10*v+d):=by
 have h1:=E'L h;have h2:I'J (pk s ⟨p,0,0⟩)=true:=by
  rw[h1];simp only[I'J,l'k,l'M];omega
 rw[Proofs.YtimdkminagnhgabGreatDoor.numL];simp only;rw[if_pos h2,if_neg (by omega),h1];have:10*v+((48+d:Nat):Int).toNat-48=10*v+d:=by omega
 rw[this]
theorem F'q {n st t v:Nat}{bs:List Nat}(h:At s p (t :: bs))(ht:t<48∨57<t)(hne:p≠st): Proofs.YtimdkminagnhgabGreatDoor.numL (n+1) s st ⟨p,0,0⟩ v=(v,⟨p,0,0⟩):=by
 have h1:=E'L h;have h2:I'J (pk s ⟨p,0,0⟩)=false:=by
  rw[h1];simp only[I'J,Bool.and_eq_false_iff,decide_eq_false_iff_not];omega
 rw[Proofs.YtimdkminagnhgabGreatDoor.numL];simp only;rw[if_neg (by rw[h2];simp),if_neg hne]
theorem G'N {v t:Nat}{bs:List Nat}(hv:v<1000)(h:At s p (dgL v++t :: bs))(ht:t<48∨57<t): E'i s ⟨p,0,0⟩=(v,⟨p+(dgL v).length,0,0⟩):=by
 unfold E'i;simp only;unfold dgL at h ⊢;split at h
 ·rename_i h1
  rw[if_pos h1];rw[List.cons_append,List.nil_append]at h;rw[C'9 h (by omega) (by omega) (.inl rfl),F'q (At.cons.1 h).2 ht (by omega),Nat.mul_zero,l'F];rfl
 ·rename_i h1
  rw[if_neg h1];split at h
  ·rename_i h2
   rw[if_pos h2];rw[List.cons_append,List.cons_append,List.nil_append]at h;have h3:=(At.cons.1 h).2;rw[C'9 h (by omega) (by omega) (.inl rfl),C'9 h3 (by omega) (by omega) (.inr (by omega)),F'q (At.cons.1 h3).2 ht (by omega)];have:10*(10*0+v/10)+v%10=v:=by omega
   rw[this];rfl
  ·rename_i h2
   rw[if_neg h2];rw[List.cons_append,List.cons_append,List.cons_append,List.nil_append]at h;have h3:=(At.cons.1 h).2;have h4:=(At.cons.1 h3).2;rw[C'9 h (by omega) (by omega) (.inl rfl),C'9 h3 (by omega) (by omega) (.inr (by omega)),C'9 h4 (by omega) (by omega) (.inr (by omega)),F'q (At.cons.1 h4).2 ht (by omega)];have:10*(10*(10*0+v/100)+v/10%10)+v%10=v:=by omega
   rw[this];rfl
structure NX (N:Net) (top:Nat)(giv:Nat->Bool)(ins:List Int)(las:List (Int×Int×Nat))(bads:List Int)(gts:List (Int×Int×Int)):Prop where
 g:N.given=(List.range (top+1)).map giv
 i:N.ins=ins
 l:N.las.map (λx=>(x.l,x.n.l,x.z))=las
 o:N.outs=[]
 b:N.bads.map (·.l)=bads
 t:N.gates.map (λx=>(x.g.l,x.a.l,x.b.l))=gts
section
variable {N:Net}{top:Nat}{giv:Nat->Bool}{ins:List Int}{las:List (Int×Int×Nat)}{bads:List Int}{gts:List (Int×Int×Int)}
theorem NX.has (x:NX N top giv ins las bads gts)(v:Nat): N.has (v:Int)=decide (v/2<=top):=by
 unfold Net.has;rw[x.g];simp;omega
theorem NX.given (x:NX N top giv ins las bads gts){v:Nat}(h:v/2<=top): N.isGiven (v:Int)=giv (v/2):=by
 unfold Net.isGiven;rw[x.has];have:((v:Int)/2).toNat=v/2:=by omega
 rw[this,x.g,List.getElem?_map,List.getElem?_range (by omega)];simp[h]
theorem NX.give (x:NX N top giv ins las bads gts){v:Nat}(h:v/2<=top): NX (N.give (v:Int)) top (λw=>giv w||w==v/2) ins las bads gts:=by
 unfold Net.give;rw[x.has,if_pos (by simpa using h)];refine⟨?_,x.i,x.l,x.o,x.b,x.t⟩;have:((v:Int)/2).toNat=v/2:=by omega
 simp only;rw[this,x.g];refine List.ext_getElem? λi=>?_;rw[List.getElem?_map]
 by_cases e:i=v/2
 ·subst e;rw[l'g (by simp;omega),List.getElem?_range (by omega)];simp
 ·rw[l'h (λh=>e h.symm),List.getElem?_map]
  cases h3:(List.range (top+1))[i]? with
  | none=>rfl
  | some y=>
   obtain⟨h4,h5⟩:=l'b.1 h3;simp at h5;subst h5;simp[e]
theorem D'q (x:NX N top giv ins las bads gts){v t:Nat}{bs:List Nat}(hv:v<1000)(hvt:v/2<=top)(h:At s p (dgL v++t :: bs))(ht:t<48∨57<t): B'5 N s ⟨p,0,0⟩=(⟨v,p⟩,⟨p+(dgL v).length,0,0⟩):=by
 unfold B'5;simp only[G'N hv h ht];rw[x.has,if_pos (by simpa using hvt)]
theorem F'r (x:NX N top giv ins las bads gts){v t:Nat}{bs:List Nat}(hv:v<1000)(hvt:v/2<=top)(he:v%2=0)(hg:giv (v/2)=false)(h:At s p (dgL v++t :: bs))(ht:t<48∨57<t): C'U N s ⟨p,0,0⟩=(⟨v,p⟩,N.give (v:Int),⟨p+(dgL v).length,0,0⟩):=by
 unfold C'U;simp only[D'q x hv hvt h ht];rw[if_neg];rw[x.given hvt,hg];simp;omega
theorem E'M {N:Net}{a b:Nat}(h:a=b): (N,(⟨a,0,0⟩:RS))=(N,⟨b,0,0⟩):=by rw[h]
def ln1 (a:Nat): List Nat:=dgL a++[10]
def ln2 (a b:Nat): List Nat:=dgL a++32 :: (dgL b++[10])
def ln3 (a b c:Nat): List Nat:=dgL a++32 :: (dgL b++32 :: (dgL c++[10]))
theorem Q'E (x:NX N top giv ins las bads gts){v k:Nat}(hv:v<1000)(hvt:v/2<=top)(he:v%2=0)(hg:giv (v/2)=false)(h:At s p (ln1 v)): ∃N',E'n s k (N,⟨p,0,0⟩)=(N',⟨p+(ln1 v).length,0,0⟩)∧NX N' top (λw=>giv w||w==v/2) (ins++[(v:Int)]) las bads gts:=by
 unfold ln1 at h;have h1:=F'r x hv hvt he hg h (.inl (by omega));have h2:=C'o (At.app.1 h).2;have y:=x.give hvt;unfold E'n;simp only[h1,h2];refine⟨_,E'M (by simp[ln1];omega),⟨y.g,?_,y.l,y.o,y.b,y.t⟩⟩;simp only;rw[y.i]
theorem O'r (x:NX N top giv ins las bads gts){v n k:Nat}(hv:v<1000)(hvt:v/2<=top)(he:v%2=0)(hg:giv (v/2)=false)(hn:n<1000)(hnt:n/2<=top)(h:At s p (ln3 v n 0)): ∃N',D'Y s k (N,⟨p,0,0⟩)=(N',⟨p+(ln3 v n 0).length,0,0⟩)∧NX N' top (λw=>giv w||w==v/2) ins (las++[((v:Int),(n:Int),0)]) bads gts:=by
 unfold ln3 at h;have h1:=F'r x hv hvt he hg h (.inl (by omega));have a2:=(At.app.1 h).2;have h2:=C'o a2;have a3:=(At.cons.1 a2).2;have y:=x.give hvt;have h3:=D'q y hn hnt a3 (.inl (by omega));have a4:=(At.app.1 a3).2;have h4:=E'L a4;have a5:=(At.cons.1 a4).2;have h5:=G'N (v:=0) (by omega) a5 (.inl (by omega));have h6:=C'o (At.app.1 a5).2;unfold D'Y laS laZ rsS;simp only[h1,h2,h3,h4];rw[if_pos (by rfl)];simp only[h5,if_true,h6];refine⟨_,E'M (by simp[ln3];omega),⟨y.g,y.i,?_,y.o,y.b,y.t⟩⟩;simp only[List.map_append,l'J,l'K];rw[y.l]
theorem O's (x:NX N top giv ins las bads gts){v n k:Nat}(hv:v<1000)(hvt:v/2<=top)(he:v%2=0)(hg:giv (v/2)=false)(hn:n<1000)(hnt:n/2<=top)(h:At s p (ln2 v n)): ∃N',D'Y s k (N,⟨p,0,0⟩)=(N',⟨p+(ln2 v n).length,0,0⟩)∧NX N' top (λw=>giv w||w==v/2) ins (las++[((v:Int),(n:Int),0)]) bads gts:=by
 unfold ln2 at h;have h1:=F'r x hv hvt he hg h (.inl (by omega));have a2:=(At.app.1 h).2;have h2:=C'o a2;have a3:=(At.cons.1 a2).2;have y:=x.give hvt;have h3:=D'q y hn hnt a3 (.inl (by omega));have a4:=(At.app.1 a3).2;have h4:=E'L a4;have h6:=C'o a4;unfold D'Y laS laZ;simp only[h1,h2,h3,h4];rw[if_neg (by decide)];simp only[h6];refine⟨_,E'M (by simp[ln2];omega),⟨y.g,y.i,?_,y.o,y.b,y.t⟩⟩;simp only[List.map_append,l'J,l'K];rw[y.l]
theorem M'i (x:NX N top giv ins las bads gts){v a b k:Nat}(hv:v<1000)(hvt:v/2<=top)(he:v%2=0)(hg:giv (v/2)=false)(ha:a<1000)(hat:a/2<=top)(hb:b<1000)(hbt:b/2<=top)(h:At s p (ln3 v a b)): ∃N',F'x s k (N,⟨p,0,0⟩)=(N',⟨p+(ln3 v a b).length,0,0⟩)∧NX N' top (λw=>giv w||w==v/2) ins las bads (gts++[((v:Int),(a:Int),(b:Int))]):=by
 unfold ln3 at h;have h1:=F'r x hv hvt he hg h (.inl (by omega));have a2:=(At.app.1 h).2;have h2:=C'o a2;have a3:=(At.cons.1 a2).2;have y:=x.give hvt;have h3:=D'q y ha hat a3 (.inl (by omega));have a4:=(At.app.1 a3).2;have h4:=C'o a4;have a5:=(At.cons.1 a4).2;have h5:=D'q y hb hbt a5 (.inl (by omega));have h6:=C'o (At.app.1 a5).2;unfold F'x pgS;simp only[h1,h2,h3,h4,h5,h6];refine⟨_,E'M (by simp[ln3];omega),⟨y.g,y.i,y.l,y.o,y.b,?_⟩⟩;simp only[List.map_append,l'J,l'K];rw[y.t]
theorem M'j {D:HD}(hD:D.nou=0)(hb:D.nbs=1)(x:NX N top giv ins las [] gts){v:Nat}(hv:v<1000)(hvt:v/2<=top)(h:At s p (ln1 v)): ∃N',prF s D (N,⟨p,0,0⟩)=(N',⟨p+(ln1 v).length,0,0⟩)∧NX N' top giv ins las [(v:Int)] gts:=by
 unfold ln1 at h;have y:NX { N with outs:=[] } top giv ins las [] gts:=⟨x.g,x.i,x.l,rfl,x.b,x.t⟩;have h1:=D'q y hv hvt h (.inl (by omega));have h2:=C'o (At.app.1 h).2;unfold prF;simp only[hD,hb,prL,h1,h2];exact⟨_,E'M (by simp[ln1];omega),⟨x.g,x.i,x.l,rfl,rfl,x.t⟩⟩
end
end Go.Proofs.YtimdkminagnhgabGreatDoor
namespace Go.Proofs.YtimdkminagnhgabGreatDoor
open Go.Vm Go.Proofs Go.Ta
set_option maxRecDepth 4000
def PW (M c:Nat): Ord:=⟨(List.range (M+1)).map λv=>if v<c then (v:Int) else -1,c⟩
section
variable {M c:Nat}
theorem L'B {l:Nat}(h:l/2<=M): (PW M c).at (l:Int)=if l/2<c then ((l/2:Nat):Int) else -1:=by
 unfold Ord.at PW;simp only[List.length_map,List.length_range];rw[if_neg (by omega)];have:((l:Int)/2).toNat=l/2:=by omega
 rw[this,List.getElem?_map,List.getElem?_range (by omega)];rfl
theorem J'E (h:c<=M): (PW M c).lay ((2*c:Nat):Int)=PW M (c+1):=by
 unfold Ord.lay PW;simp only[List.length_map,List.length_range];rw[if_neg (by omega)];have:(((2*c:Nat):Int)/2).toNat=c:=by omega
 rw[this];congr 1;refine List.ext_getElem? λi=>?_
 by_cases e:i=c
 ·subst e;rw[l'g (by simp;omega),List.getElem?_map,List.getElem?_range (by omega)];simp
 ·rw[l'h (λh=>e h.symm),List.getElem?_map,List.getElem?_map]
  cases h3:(List.range (M+1))[i]? with
  | none=>rfl
  | some y=>
   obtain⟨h4,h5⟩:=l'b.1 h3;simp at h5;subst h5;have:(i<c)↔(i<c+1):=by omega
   simp[this]
theorem H'l {l:Nat}(h:l/2<c)(hc:c<=M+1): (PW M c).lit (l:Int)=(l:Int):=by
 unfold Ord.lit;rw[L'B (by omega),if_pos h];omega
theorem J'F: ∀(m c:Nat)(ls:List Int),c+m<=M+1->ls=(List.range m).map (λj=>((2*(c+j):Nat):Int))->ls.foldl Ord.lay (PW M c)=PW M (c+m):=by
 intro m
 induction m with
 | zero=>intro c ls _ h;subst h;rfl
 | succ m ih=>
  intro c ls hc h;rw[List.range_succ_eq_map,l'J,List.map_map]at h;subst h;rw[List.foldl_cons,Nat.add_zero,J'E (by omega),ih (c+1) _ (by omega),show c+1+m=c+(m+1) by omega];refine List.map_congr_left λj _=>?_;simp only[Function.comp];congr 2;omega
end
def GtW (ps:List Nat)(j:Nat)(T:Int×Int×Int): Prop:=T.1=((2*(11+j):Nat):Int)∧((T.2.1=((wdP ps j).1:Int)∧T.2.2=((wdP ps j).2:Int))∨(T.2.1=((wdP ps j).2:Int)∧T.2.2=((wdP ps j).1:Int)))
structure GtsW (ps:List Nat)(T:List (Int×Int×Int)):Prop where
 len:T.length=ps.length+1
 a:∀(i:Nat)(t:Int×Int×Int),T[i]?=some t->∃j,j<=ps.length∧GtW ps j t
 b:∀j,j<=ps.length->∃(i:Nat)(t:Int×Int×Int),T[i]?=some t∧GtW ps j t
section
variable {ps:List Nat}{N:Net}
theorem Q'F {P:Ord}(R:Nat->Prop): ∀(gs:List GaL) (k0:Nat),(∀(i:Nat)(g:GaL),gs[i]?=some g->(R i↔(P.at g.g.l = -1∧P.at g.a.l≠-1∧P.at g.b.l≠-1)))->(∃i,i<gs.length∧R i)->∃i,i<gs.length∧R i∧frL P gs k0=((k0+i:Nat):Int):=by
 intro gs
 induction gs generalizing R with
 | nil=>intro k0 _ h;obtain⟨i,h,-⟩:=h;simp at h
 | cons g r ih=>
  intro k0 hR hex;unfold frL;have h0:=hR 0 g rfl
  by_cases e:P.at g.g.l = -1∧P.at g.a.l≠-1∧P.at g.b.l≠-1
  ·rw[if_pos e];exact⟨0,by simp,h0.2 e,by simp⟩
  ·rw[if_neg e];obtain⟨i,h1,h2⟩:=hex
   cases i with
   | zero=>exact absurd (h0.1 h2) e
   | succ i=>
    obtain⟨i',q1,q2,q3⟩:=ih (λi=>R (i+1)) (k0+1) (λi g' hg=>hR (i+1) g' (by simpa using hg)) ⟨i,by simpa using h1,h2⟩;exact⟨i'+1,by simpa using q1,q2,by rw[q3];congr 1;omega⟩
theorem D'i (hp:∀p∈ps,p<4)(j:Nat): (wdP ps j).1/2<11+j∧(wdP ps j).2/2<11∧(wdP ps j).2<(wdP ps j).1∧(0<j->(wdP ps j).1=2*(10+j))∧(j=0->(wdP ps j).1/2<11):=by
 have h3:=D'X hp j;unfold wdP wdI;split
 ·rename_i e;subst e
  exact⟨by simp only;omega,by simp only;omega,by simp only;omega,λh=>absurd h (by omega),λ_=>by simp only;omega⟩
 ·rename_i e
  exact⟨by simp only;omega,by simp only;omega,by simp only;omega,λ_=>rfl,λh=>absurd h e⟩
theorem J'G (hp:∀p∈ps,p<4){gs:List GaL}(x:GtsW ps (gs.map λx=>(x.g.l,x.a.l,x.b.l))): ∀(m j:Nat),j+m=ps.length+1->arL gs m (PW (11+ps.length) (11+j)) ⟨4,[],((List.range j).map (wdP ps)).map λx=>((x.1:Int),(x.2:Int)),0⟩ = .ok (PW (11+ps.length) (12+ps.length),⟨4,[],((List.range (ps.length+1)).map (wdP ps)).map λx=>((x.1:Int),(x.2:Int)),0⟩):=by
 intro m
 induction m with
 | zero=>
  intro j hj;obtain rfl:j=ps.length+1:=by omega
  unfold arL;rw[show 11+(ps.length+1)=12+ps.length by omega]
 | succ m ih=>
  intro j hj;have hlen:gs.length=ps.length+1:=by have:=x.len;simpa using this
  have rdy:∀(t:Nat)(T:Int×Int×Int),t<=ps.length->GtW ps t T->((PW (11+ps.length) (11+j)).at T.1 = -1∧(PW (11+ps.length) (11+j)).at T.2.1≠-1∧(PW (11+ps.length) (11+j)).at T.2.2≠-1↔t=j):=by
   intro t T ht hT;obtain⟨q1,q2⟩:=hT;obtain⟨w1,w2,w3,w4,w5⟩:=D'i hp t;have hg:(PW (11+ps.length) (11+j)).at T.1=if 11+t<11+j then ((11+t:Nat):Int) else -1:=by
    rw[q1,L'B (by omega)];have:2*(11+t)/2=11+t:=by omega
    rw[this]
   have ha:(PW (11+ps.length) (11+j)).at ((wdP ps t).1:Int)≠-1↔t<=j:=by
    rw[L'B (by omega)];rcases Nat.eq_zero_or_pos t with e|e
    ·have:=w5 e;rw[if_pos (by omega)];omega
    ·have:=w4 e;split <;> omega
   have hb:(PW (11+ps.length) (11+j)).at ((wdP ps t).2:Int)≠-1:=by
    rw[L'B (by omega),if_pos (by omega)];omega
   rw[hg];rcases q2 with ⟨e1,e2⟩|⟨e1,e2⟩
   ·rw[e1,e2,ha];constructor
    ·rintro⟨h1,h2,-⟩;split at h1 <;> omega
    ·rintro rfl;exact⟨by rw[if_neg (by omega)],by omega,hb⟩
   ·rw[e1,e2,ha];constructor
    ·rintro⟨h1,-,h2⟩;split at h1 <;> omega
    ·rintro rfl;exact⟨by rw[if_neg (by omega)],hb,by omega⟩
  obtain⟨i,h1,h2,h3⟩:=Q'F (P:=PW (11+ps.length) (11+j)) (λi=>∃g,gs[i]?=some g∧GtW ps j (g.g.l,g.a.l,g.b.l)) gs 0 (λi g hg=>by
   obtain⟨t,ht,hT⟩:=x.a i (g.g.l,g.a.l,g.b.l) (by rw[List.getElem?_map,hg];rfl);have:=rdy t _ ht hT;simp only at this;rw[this];constructor
   ·rintro⟨g',hg',hT'⟩;rw[hg]at hg';simp only[l'a]at hg';subst hg';have e1:=hT.1;have e2:=hT'.1;simp only at e1 e2;omega
   ·rintro rfl;exact⟨g,hg,hT⟩) (by
   obtain⟨i,t,hi,hT⟩:=x.b j (by omega);rw[List.getElem?_map]at hi
   cases hg:gs[i]? with
   | none=>rw[hg]at hi;simp at hi
   | some g=>
    rw[hg]at hi;simp only[l'l,l'a]at hi;subst hi;exact⟨i,(l'b.1 hg).1,⟨g,hg,hT⟩⟩)
  obtain⟨g,hg,hT⟩:=h2;rw[l'F]at h3;unfold arL;rw[h3];simp only[Int.toNat_natCast,hg];rw[if_neg (by omega)];obtain⟨q1,q2⟩:=hT;simp only at q1 q2;obtain⟨w1,w2,w3,w4,w5⟩:=D'i hp j;have l1:=H'l (M:=11+ps.length) (c:=11+j) (l:=(wdP ps j).1) w1 (by omega);have l2:=H'l (M:=11+ps.length) (c:=11+j) (l:=(wdP ps j).2) (by omega) (by omega);have hgp:F'N (PW (11+ps.length) (11+j)) g=(((wdP ps j).1:Int),((wdP ps j).2:Int)):=by
   unfold F'N;rcases q2 with ⟨e1,e2⟩|⟨e1,e2⟩
   ·rw[e1,e2,l1,l2,if_neg (by omega)]
   ·rw[e1,e2,l1,l2,if_pos (by omega)]
  rw[q1,J'E (by omega),hgp];have:=ih (j+1) (by omega);rw[l'B,List.map_append,List.map_append]at this;exact this
theorem H'm (hp:∀p∈ps,p<4){giv:Nat->Bool}{gts:List (Int×Int×Int)}(x:NX N (11+ps.length) giv [2,4,6,8] ((List.range 6).map λj=>(((2*(5+j):Nat):Int),((0:Nat):Int),0)) [((2*(11+ps.length):Nat):Int)] gts)(y:GtsW ps gts): arS N = .ok (ckT (wdN ps)):=by
 have hn0:nw0 N=PW (11+ps.length) 0:=by
  unfold nw0 PW;rw[x.g];congr 1;simp[List.map_const']
 have hn1:nwS N=PW (11+ps.length) 11:=by
  unfold nwS;have a1:(nw0 N).lay 0=PW (11+ps.length) 1:=by rw[hn0];exact J'E (c:=0) (by omega)
  have a2:N.ins.foldl Ord.lay (PW (11+ps.length) 1)=PW (11+ps.length) 5:=J'F 4 1 _ (by omega) (by rw[x.i];rfl);have a3:N.las.foldl (λP x=>P.lay x.l) (PW (11+ps.length) 5)=PW (11+ps.length) 11:=by
   have e:N.las.map (·.l)=(List.range 6).map (λj=>((2*(5+j):Nat):Int)):=by
    have:=congrArg (List.map (·.1)) x.l;rw[List.map_map,List.map_map]at this;exact this
   have:=J'F (M:=11+ps.length) 6 5 (N.las.map (·.l)) (by omega) e;rw[List.foldl_map]at this;exact this
  rw[a1,a2,a3]
 have hgl:N.gates.length=ps.length+1:=by
  have:=y.len;rw[<-x.t]at this;simpa using this
 have hT:GtsW ps (N.gates.map λx=>(x.g.l,x.a.l,x.b.l)):=by rw[x.t];exact y
 have ar:=J'G hp hT (ps.length+1) 0 (by omega);unfold arS;have hil:N.ins.length=4:=by rw[x.i];rfl
 rw[hgl,hn1,hil];rw[Nat.add_zero]at ar;simp only[List.range_zero,l'K]at ar;rw[ar];simp only;have hb:D'l N=((2*(11+ps.length):Nat):Int):=by
  have:=x.b;unfold D'l
  cases hb:N.bads with
  | nil=>rw[hb]at this;simp at this
  | cons u r=>
   rw[hb]at this;simp only[l'J,List.cons.injEq]at this;exact this.1
 have hl:N.las.map (λy=>((PW (11+ps.length) (12+ps.length)).lit y.n.l,y.z))=List.replicate 6 (0,0):=by
  have e:N.las.map (λy=>(y.n.l,y.z))=List.replicate 6 (0,0):=by
   have:=congrArg (List.map (·.2)) x.l;rw[List.map_map,List.map_map]at this;exact this
  have:=congrArg (List.map λz:Int×Nat=>((PW (11+ps.length) (12+ps.length)).lit z.1,z.2)) e;rw[List.map_map]at this;have z:=H'l (M:=11+ps.length) (c:=12+ps.length) (l:=0) (by omega) (by omega);refine Eq.trans this ?_;rw[List.map_replicate];exact congrArg (List.replicate 6) (Prod.ext z rfl)
 rw[hb,hl,H'l (by omega) (by omega)];unfold ckT;simp[wdN]
theorem E'4 {R:RS}{u:Us}(h:N.isGiven u.l=true): ju1 N R u=R:=by
 unfold ju1;rw[if_pos h]
theorem F's {α β:Type}(f:β->α->β)(b:β): ∀(l:List α),(∀x∈l,f b x=b)->l.foldl f b=b:=by
 intro l
 induction l with
 | nil=>intro _;rfl
 | cons a r ih=>intro h;rw[List.foldl_cons,h a (by simp)];exact ih λx hx=>h x (by simp[hx])
theorem H'n {giv:Nat->Bool}{gts:List (Int×Int×Int)}(x:NX N (11+ps.length) giv [2,4,6,8] ((List.range 6).map λj=>(((2*(5+j):Nat):Int),((0:Nat):Int),0)) [((2*(11+ps.length):Nat):Int)] gts)(hp:∀p∈ps,p<4)(y:GtsW ps gts)(hg:∀w,w<=11+ps.length->giv w=true)(R:RS): juS N R=R:=by
 have giv':∀v:Nat,v/2<=11+ps.length->N.isGiven (v:Int)=true:=λv hv=>by rw[x.given hv];exact hg _ hv
 have e1:N.las.foldl (λR x=>ju1 N R x.n) R=R:=by
  refine F's _ R _ λz hz=>E'4 ?_;have:(z.l,z.n.l,z.z)∈N.las.map (λx=>(x.l,x.n.l,x.z)):=List.mem_map_of_mem hz;rw[x.l,List.mem_map]at this;obtain⟨j,-,hj⟩:=this;simp only[l'd]at hj;rw[<-hj.2.1];exact giv' 0 (by omega)
 have e3:N.bads.foldl (ju1 N) R=R:=by
  refine F's _ R _ λz hz=>E'4 ?_;have:z.l∈N.bads.map (·.l):=List.mem_map_of_mem hz;rw[x.b,l'm]at this;rw[this];exact giv' _ (by omega)
 have e4:N.gates.foldl (λR x=>ju1 N (ju1 N R x.a) x.b) R=R:=by
  refine F's _ R _ λz hz=>?_;have:(z.g.l,z.a.l,z.b.l)∈N.gates.map (λx=>(x.g.l,x.a.l,x.b.l)):=List.mem_map_of_mem hz;rw[x.t]at this;obtain⟨i,hi⟩:=l'i.1 this;obtain⟨j,hj,-,q2⟩:=y.a i _ hi;simp only at q2;obtain⟨w1,w2,w3,-,-⟩:=D'i hp j;have b1:=giv' (wdP ps j).1 (by omega);have b2:=giv' (wdP ps j).2 (by omega);rcases q2 with ⟨e1,e2⟩|⟨e1,e2⟩
  ·rw[E'4 (u:=z.a) (by rw[e1];exact b1),E'4 (by rw[e2];exact b2)]
  ·rw[E'4 (u:=z.a) (by rw[e1];exact b2),E'4 (by rw[e2];exact b1)]
 unfold juS;rw[e1,x.o,List.foldl_nil,e3,e4]
end
end Go.Proofs.YtimdkminagnhgabGreatDoor
namespace Go.Proofs.YtimdkminagnhgabGreatDoor
open Go.Vm Go.Proofs Go.Ta
set_option maxRecDepth 4000
def cat (f:Nat->List Nat): Nat->Nat->List Nat
 | _,0=>[]
 | j,m+1=>f j++cat f (j+1) m
theorem F't (f:Nat->List Nat): ∀m j,cat f j (m+1)=cat f j m++f (j+m):=by
 intro m
 induction m with
 | zero=>intro j;simp[cat]
 | succ m ih=>
  intro j;rw[cat,ih (j+1),cat,List.append_assoc,show j+1+m=j+(m+1) by omega]
theorem C'3 {f g:Nat->List Nat}: ∀m j,(∀i,j<=i->i<j+m->f i=g i)->cat f j m=cat g j m:=by
 intro m
 induction m with
 | zero=>intro j _;rfl
 | succ m ih=>
  intro j h;rw[cat,cat,h j (by omega) (by omega),ih (j+1) λi h1 h2=>h i (by omega) (by omega)]
variable {s:ByteArray}{p:Nat}
theorem E'5 {f:Nat->Net×RS->Net×RS}{P:Nat->Net->Prop}{len:Nat->List Nat}{tot:Nat}(h:∀(j:Nat)(N:Net) (p:Nat),j<tot->P j N->At s p (len j)->∃N',f j (N,⟨p,0,0⟩)=(N',⟨p+(len j).length,0,0⟩)∧P (j+1) N'): ∀(m j:Nat)(N:Net) (p:Nat),j+m<=tot->P j N->At s p (cat len j m)->∃N',itK f j m (N,⟨p,0,0⟩)=(N',⟨p+(cat len j m).length,0,0⟩)∧P (j+m) N':=by
 intro m
 induction m with
 | zero=>intro j N p _ x _;exact⟨N,rfl,x⟩
 | succ m ih=>
  intro j N p ht x a;rw[cat]at a;obtain⟨a1,a2⟩:=At.app.1 a;obtain⟨N1,e1,x1⟩:=h j N p (by omega) x a1;obtain⟨N2,e2,x2⟩:=ih (j+1) N1 _ (by omega) x1 a2;refine⟨N2,?_,by rw[show j+(m+1)=j+1+m by omega];exact x2⟩;rw[itK,e1,e2];exact E'M (by rw[cat,l'p];omega)
theorem D'a {n k v t:Nat}{ns:List Nat}{bs:List Nat}(hv:v<1000)(h:At s p (32 :: (dgL v++t :: bs)))(ht:t<48∨57<t): hdL (n+1) s k ⟨p,0,0⟩ ns=hdL n s (k+1) ⟨p+1+(dgL v).length,0,0⟩ (ns.set k v):=by
 have h1:=E'L h;rw[hdL];rw[if_neg (by rw[h1];simp),C'o h,G'N hv (At.cons.1 h).2 ht]
theorem L'C {n k:Nat}{ns:List Nat}{bs:List Nat}(hk:5<=k)(h:At s p (10 :: bs)): hdL (n+1) s k ⟨p,0,0⟩ ns=(ns,⟨p,0,0⟩):=by
 have h1:=E'L h;rw[hdL];rw[if_pos ⟨hk,by rw[h1];decide⟩]
def hdr (b M A:Nat): List Nat:=97 :: b :: 103 :: 32 :: (dgL M++32 :: (dgL 4++32 :: (dgL 6++32 :: (dgL 0++32 :: (dgL A++32 :: (dgL 1++[10]))))))
theorem L'D {b M A:Nat}(hb:b=97∨b=105)(hM:M<1000)(hA:A<1000)(h:At s 0 (hdr b M A)): hdS s ⟨0,0,0⟩=(b==105,[M,4,6,0,A,1,0,0,0],⟨(hdr b M A).length,0,0⟩):=by
 unfold hdr at h;have a1:=(At.cons.1 h).2;have a2:=(At.cons.1 a1).2;have a3:=(At.cons.1 a2).2;have a4:=(At.app.1 (At.cons.1 a3).2).2;have a5:=(At.app.1 (At.cons.1 a4).2).2;have a6:=(At.app.1 (At.cons.1 a5).2).2;have a7:=(At.app.1 (At.cons.1 a6).2).2;have a8:=(At.app.1 (At.cons.1 a7).2).2;have a9:=(At.app.1 (At.cons.1 a8).2).2;have e0:=C'o h;have e1:=E'L a1;have e2:=C'o a1;have e3:=C'o a2;have hd0:P'f s ⟨0,0,0⟩=(b==105,⟨3,0,0⟩):=by
  unfold P'f;simp only[e0,e1];rcases hb with rfl|rfl
  ·rw[if_neg (by decide),e2,e3];rfl
  ·rw[if_pos (by rfl),e3];rfl
 unfold hdS;simp only[hd0];rw[D'a hM a3 (.inl (by omega)),D'a (by omega) a4 (.inl (by omega)),D'a (by omega) a5 (.inl (by omega)),D'a (by omega) a6 (.inl (by omega)),D'a hA a7 (.inl (by omega)),D'a (by omega) a8 (.inl (by omega)),L'C (by omega) a9];simp only[C'o a9];congr 1;congr 1;simp[hdr];omega
theorem L'E {D:HD}{R:RS}{A:Nat}(hA:A<=60)(h1:D.top=10+A)(h2:D.nin=4)(h3:D.nla=6)(h4:D.nou=0)(h5:D.nan=A)(h6:D.nbs=1)(h7:D.oth=0): jdS D R=R:=by
 unfold jdS jd1 jd2 jd3 jd4;rw[if_neg (by omega),if_neg (by omega),if_neg (by omega),if_neg (by omega)]
section
variable {N:Net}{top:Nat}{giv giv':Nat->Bool}{ins:List Int}{las:List (Int×Int×Nat)}{bads:List Int}{gts:List (Int×Int×Int)}
theorem NX.congr (x:NX N top giv ins las bads gts)(h:∀w,w<=top->giv w=giv' w): NX N top giv' ins las bads gts:=by
 refine⟨?_,x.i,x.l,x.o,x.b,x.t⟩;rw[x.g];exact List.map_congr_left λw hw=>h w (by simp at hw;omega)
theorem M'k (top:Nat): NX (E'X top) top (λw=>decide (w<=0)) [] [] [] []:=by
 refine⟨?_,rfl,rfl,rfl,rfl,rfl⟩;unfold E'X;exact List.map_congr_left λw _=>by
  rw[Bool.eq_iff_iff];simp
end
section
variable {ps:List Nat}
def O'K (j:Nat): List Int:=(List.range j).map λi=>((2*(1+i):Nat):Int)
def J'H (j:Nat): List (Int×Int×Nat):=(List.range j).map λi=>(((2*(5+i):Nat):Int),((0:Nat):Int),0)
theorem G'd (j:Nat): J'H (j+1)=J'H j++[(((2*(5+j):Nat):Int),((0:Nat):Int),0)]:=by unfold J'H;rw[l'B,List.map_append];rfl
theorem G'e (j:Nat): O'K (j+1)=O'K j++[((2*(1+j):Nat):Int)]:=by unfold O'K;rw[l'B,List.map_append];rfl
theorem L'F {top:Nat}(ht:4<=top)(a:At s p (cat (λj=>ln1 (2*(1+j))) 0 4)): ∃N',itK (E'n s) 0 4 (E'X top,⟨p,0,0⟩)=(N',⟨p+(cat (λj=>ln1 (2*(1+j))) 0 4).length,0,0⟩)∧NX N' top (λw=>decide (w<=4)) [2,4,6,8] [] [] []:=by
 obtain⟨N,e,x⟩:=E'5 (f:=E'n s) (P:=λj N=>NX N top (λw=>decide (w<=j)) (O'K j) [] [] []) (len:=λj=>ln1 (2*(1+j))) (tot:=4) (λj N p hj x a=>by
  obtain⟨N',e,y⟩:=Q'E (k:=j) x (v:=2*(1+j)) (by omega) (by omega) (by omega) (by simp) a;refine⟨N',e,?_⟩;rw[G'e];refine y.congr λw _=>?_;rw[Bool.eq_iff_iff];simp;omega) 4 0 (E'X top) p (by omega) (M'k top) a
 exact⟨N,e,x⟩
theorem L'G {top:Nat}(ht:10<=top)(three:Bool){N:Net}(x:NX N top (λw=>decide (w<=4)) [2,4,6,8] [] [] [])(a:At s p (cat (λj=>if three then ln3 (2*(5+j)) 0 0 else ln2 (2*(5+j)) 0) 0 6)): ∃N',itK (D'Y s) 0 6 (N,⟨p,0,0⟩)=(N',⟨p+(cat (λj=>if three then ln3 (2*(5+j)) 0 0 else ln2 (2*(5+j)) 0) 0 6).length,0,0⟩)∧NX N' top (λw=>decide (w<=10)) [2,4,6,8] (J'H 6) [] []:=by
 obtain⟨N,e,x⟩:=E'5 (f:=D'Y s) (P:=λj N=>NX N top (λw=>decide (w<=4+j)) [2,4,6,8] (J'H j) [] []) (len:=λj=>if three then ln3 (2*(5+j)) 0 0 else ln2 (2*(5+j)) 0) (tot:=6) (λj N p hj x a=>by
  have key:∃N',D'Y s j (N,⟨p,0,0⟩)=(N',⟨p+(if three then ln3 (2*(5+j)) 0 0 else ln2 (2*(5+j)) 0).length,0,0⟩)∧NX N' top (λw=>decide (w<=4+j)||w==2*(5+j)/2) [2,4,6,8] (J'H j++[(((2*(5+j):Nat):Int),((0:Nat):Int),0)]) [] []:=by
   cases three with
   | true=>exact O'r (k:=j) x (v:=2*(5+j)) (n:=0) (by omega) (by omega) (by omega) (by simp) (by omega) (by omega) a
   | false=>exact O's (k:=j) x (v:=2*(5+j)) (n:=0) (by omega) (by omega) (by omega) (by simp) (by omega) (by omega) a
  obtain⟨N',e,y⟩:=key;refine⟨N',e,?_⟩;rw[G'd];refine y.congr λw _=>?_;rw[Bool.eq_iff_iff];simp;omega) 6 0 N p (by omega) x a
 exact⟨N,e,x⟩
theorem L'H (hl:ps.length<=59)(hp:∀p∈ps,p<4)(three:Bool)(swap:Nat->Bool)(ν:Nat->Nat)(hν:∀j,j<=ps.length->ν j<=ps.length)(hν2:∀i j,i<=ps.length->j<=ps.length->ν i = ν j->i=j)(hν3:∀j,j<=ps.length->∃i,i<=ps.length∧ν i=j)
  (a:At s 0 (hdr 97 (11+ps.length) (ps.length+1)++(cat (λj=>ln1 (2*(1+j))) 0 4++(cat (λj=>if three then ln3 (2*(5+j)) 0 0 else ln2 (2*(5+j)) 0) 0 6++(ln1 (2*(11+ps.length))++cat (λj=>if swap (ν j) then ln3 (2*(11 + ν j)) (wdP ps (ν j)).2 (wdP ps (ν j)).1 else ln3 (2*(11 + ν j)) (wdP ps (ν j)).1 (wdP ps (ν j)).2) 0 (ps.length+1))))))
  (hs : s.size = (hdr 97 (11 + ps.length) (ps.length + 1) ++ (cat (fun j => ln1 (2 * (1 + j))) 0 4 ++ (cat (fun j => if three then ln3 (2 * (5 + j)) 0 0 else ln2 (2 * (5 + j)) 0) 0 6 ++ (ln1 (2 * (11 + ps.length)) ++ cat (fun j => if swap (ν j) then ln3 (2 * (11 + ν j)) (wdP ps (ν j)).2 (wdP ps (ν j)).1 else ln3 (2 * (11 + ν j)) (wdP ps (ν j)).1 (wdP ps (ν j)).2) 0 (ps.length + 1))))).length)(hs2 : s.size ≤ 1000): rdS s = .ok (ckT (wdN ps)) ∧ ¬ ((D'2 (hdD false [11 + ps.length, 4, 6, 0, ps.length + 1, 1, 0, 0, 0]) s ⟨(hdr 97 (11 + ps.length) (ps.length + 1)).length, 0, 0⟩).2.pos < s.size ∧ (D'2 (hdD false [11 + ps.length, 4, 6, 0, ps.length + 1, 1, 0, 0, 0]) s ⟨(hdr 97 (11 + ps.length) (ps.length + 1)).length, 0, 0⟩).2.e = 0) := by
 obtain⟨a0,a1⟩:=At.app.1 a;obtain⟨a1,a2⟩:=At.app.1 a1;obtain⟨a2,a3⟩:=At.app.1 a2;obtain⟨a3,a4⟩:=At.app.1 a3;rw[l'F]at a1 a2 a3 a4;have e0:=L'D (.inl rfl) (by omega) (by omega) a0;obtain⟨D,hD⟩:=e' (hdD false [11+ps.length,4,6,0,ps.length+1,1,0,0,0]);have d1:D.top=11+ps.length:=by rw[hD];rfl
 have d2:D.nin=4:=by rw[hD];rfl
 have d3:D.nla=6:=by rw[hD];rfl
 have d4:D.nou=0:=by rw[hD];rfl
 have d5:D.nan=ps.length+1:=by rw[hD];rfl
 have d6:D.nbs=1:=by rw[hD];rfl
 have d7:D.oth=0:=by rw[hD];rfl
 have d8:D.bin=false:=by rw[hD];rfl
 obtain⟨N1,e1,x1⟩:=L'F (top:=11+ps.length) (by omega) a1;obtain⟨N2,e2,x2⟩:=L'G (by omega) three x1 a2;obtain⟨N3,e3,x3⟩:=M'j d4 d6 x2 (by omega) (by omega) a3;obtain⟨N4,e4,x4⟩:=E'5 (f:=F'x s) (P:=λj N=>∃giv gts,NX N (11+ps.length) giv [2,4,6,8] (J'H 6) [((2*(11+ps.length):Nat):Int)] gts∧(∀w,w<=11+ps.length->(giv w=true↔w<=10∨∃i,i<j∧w=11 + ν i))∧gts.length=j∧∀i,i<j->∃t,gts[i]?=some t∧GtW ps (ν i) t) (len:=λj=>if swap (ν j) then ln3 (2*(11 + ν j)) (wdP ps (ν j)).2 (wdP ps (ν j)).1 else ln3 (2*(11 + ν j)) (wdP ps (ν j)).1 (wdP ps (ν j)).2) (tot:=ps.length+1) (λj N p hj x a=>by
  obtain⟨giv,gts,x,g1,g2,g3⟩:=x;have hj1:=hν j (by omega);obtain⟨w1,w2,w3,-,-⟩:=D'i hp (ν j);have hgv:giv (2*(11 + ν j)/2)=false:=by
   cases hg:giv (2*(11 + ν j)/2) with
   | false=>rfl
   | true=>
    rw[g1 _ (by omega)]at hg;rcases hg with h|⟨i,h1,h2⟩
    ·omega
    ·have:=hν2 i j (by omega) (by omega) (by omega);omega
  have key:∃N' t,F'x s j (N,⟨p,0,0⟩)=(N',⟨p+(if swap (ν j) then ln3 (2*(11 + ν j)) (wdP ps (ν j)).2 (wdP ps (ν j)).1 else ln3 (2*(11 + ν j)) (wdP ps (ν j)).1 (wdP ps (ν j)).2).length,0,0⟩)∧GtW ps (ν j) t∧NX N' (11+ps.length) (λw=>giv w||w==2*(11 + ν j)/2) [2,4,6,8] (J'H 6) [((2*(11+ps.length):Nat):Int)] (gts++[t]):=by
   cases hsw:swap (ν j) with
   | true=>
    rw[hsw]at a;obtain⟨N',e,y⟩:=M'i (k:=j) x (v:=2*(11 + ν j)) (a:=(wdP ps (ν j)).2) (b:=(wdP ps (ν j)).1) (by omega) (by omega) (by omega) hgv (by omega) (by omega) (by omega) (by omega) a;exact⟨N',_,e,⟨rfl,.inr ⟨rfl,rfl⟩⟩,y⟩
   | false=>
    rw[hsw]at a;obtain⟨N',e,y⟩:=M'i (k:=j) x (v:=2*(11 + ν j)) (a:=(wdP ps (ν j)).1) (b:=(wdP ps (ν j)).2) (by omega) (by omega) (by omega) hgv (by omega) (by omega) (by omega) (by omega) a;exact⟨N',_,e,⟨rfl,.inl ⟨rfl,rfl⟩⟩,y⟩
  obtain⟨N',t,e,ht,y⟩:=key;refine⟨N',e,_,gts++[t],y,?_,by simp[g2],?_⟩
  ·intro w hw;rw[Bool.or_eq_true,g1 w hw,beq_iff_eq];constructor
   ·rintro ((h|⟨i,h1,h2⟩)|h)
    ·exact .inl h
    ·exact .inr ⟨i,by omega,h2⟩
    ·exact .inr ⟨j,by omega,by omega⟩
   ·rintro (h|⟨i,h1,h2⟩)
    ·exact .inl (.inl h)
    ·rcases Nat.lt_or_ge i j with h3|h3
     ·exact .inl (.inr ⟨i,h3,h2⟩)
     ·obtain rfl:i=j:=by omega
      exact .inr (by omega)
  ·intro i hi;rcases Nat.lt_or_ge i j with h3|h3
   ·obtain⟨t',h4,h5⟩:=g3 i h3;exact⟨t',by rw[l'e (by omega)];exact h4,h5⟩
   ·obtain rfl:i=j:=by omega
    exact⟨t,by rw[l'z (by omega)];simp[g2],ht⟩) (ps.length+1) 0 N3 _ (by omega) ⟨_,[],x3,λw _=>by simp,rfl,λi hi=>by omega⟩ a4
 obtain⟨giv,gts,x4,g1,g2,g3⟩:=x4;rw[l'F]at g1 g2 g3;have hbod:D'2 D s ⟨(hdr 97 (11+ps.length) (ps.length+1)).length,0,0⟩=(N4,⟨s.size,0,0⟩):=by
  unfold D'2;rw[if_neg (by rw[d8];simp)];unfold rpS;rw[d1,d2,d3,d5,e1,e2,e3,e4];exact E'M (by rw[hs];simp only[l'p];omega)
 rw[<-hD];refine⟨?_,by rw[hbod];simp⟩;have gall:∀w,w<=11+ps.length->giv w=true:=λw hw=>by
  rw[g1 w hw];rcases Nat.lt_or_ge w 11 with h|h
  ·exact .inl (by omega)
  ·obtain⟨i,h1,h2⟩:=hν3 (w-11) (by omega);exact .inr ⟨i,by omega,by omega⟩
 have y:GtsW ps gts:=by
  refine⟨g2,λi t hi=>?_,λj hj=>?_⟩
  ·have hil:=(l'b.1 hi).1;obtain⟨t',h1,h2⟩:=g3 i (by omega);rw[hi]at h1;simp only[l'a]at h1;subst h1;exact⟨ν i,hν i (by omega),h2⟩
  ·obtain⟨i,h1,h2⟩:=hν3 j hj;obtain⟨t',h3,h4⟩:=g3 i (by omega);exact⟨i,t',h3,by rw[<-h2];exact h4⟩
 unfold rdS;rw[if_neg (by omega)];simp only[e0];rw[show ((97:Nat)==105)=false from rfl,<-hD,L'E (A:=ps.length+1) (by omega) (by omega) d2 d3 d4 d5 d6 d7];simp only[if_true];unfold rd2;rw[hbod];simp only;have hsy:E'j D s ⟨s.size,0,0⟩=⟨s.size,0,0⟩:=by
  unfold E'j H'N;rw[if_neg (by simp)]
 rw[hsy,H'n x4 hp y gall];unfold rd3;simp only[if_true];rw[H'm hp x4 y]
end
end Go.Proofs.YtimdkminagnhgabGreatDoor
namespace Go.Proofs.YtimdkminagnhgabGreatDoor
open Go.Vm Go.Proofs Go.Ta
set_option maxRecDepth 4000
variable {s:ByteArray}{p:Nat}
def H'9 (n:Nat): List Nat:=if n<128 then [n] else [128+n%128,n/128]
theorem O't {x b:Nat}{bs:List Nat}(h:At s p (x :: bs))(hx:x<b): bbS s ⟨p,0,0⟩ b=(x,⟨p+1,0,0⟩):=by
 have h1:=E'L h;unfold bbS;rw[h1,if_neg (by omega)];rfl
theorem Q'G {d:Nat}(hd:d<16384)(h:At s p (H'9 d)): diS s ⟨p,0,0⟩=(d,⟨p+(H'9 d).length,0,0⟩):=by
 unfold H'9 at h ⊢;unfold diS;split at h
 ·rename_i h1
  rw[if_pos h1,O't h (by omega)];simp only;rw[if_pos h1];rfl
 ·rename_i h1
  rw[if_neg h1,O't h (by omega)];simp only;rw[if_neg (by omega),O't (At.cons.1 h).2 (by omega)];simp only;have:128+d%128-128+128*(d/128)=d:=by omega
  rw[this];rfl
section
variable {N:Net}{top:Nat}{giv:Nat->Bool}{ins:List Int}{las:List (Int×Int×Nat)}{bads:List Int}{gts:List (Int×Int×Int)}
theorem Q'H {D:HD}(h2:D.nin=4)(h3:D.nla=6)(x:NX N top giv ins las bads gts){k a b:Nat}(hk:k<=60)(hvt:11+k<=top)(ha:a<2*(11+k))(hb:b<=a)(h:At s p (H'9 (2*(11+k)-a)++H'9 (a-b))): ∃N',F'h D s k (N,⟨p,0,0⟩)=(N',⟨p+(H'9 (2*(11+k)-a)++H'9 (a-b)).length,0,0⟩)∧NX N' top (λw=>giv w||w==11+k) ins las bads (gts++[(((2*(11+k):Nat):Int),(a:Int),(b:Int))]):=by
 obtain⟨a1,a2⟩:=At.app.1 h;have e1:=Q'G (by omega) a1;have e2:=Q'G (by omega) a2;have y:=x.give (v:=2*(11+k)) (by omega);rw[show 2*(11+k)/2=11+k by omega]at y;unfold F'h;rw[h2,h3,show 2*(1+4+6+k)=2*(11+k) by omega];unfold bgS bgA;simp only[e1];rw[if_neg (by omega)];unfold bgB;simp only[e2];rw[if_neg (by omega)];refine⟨_,E'M (by rw[l'p];omega),⟨y.g,y.i,y.l,y.o,y.b,?_⟩⟩;simp only[List.map_append,l'J,l'K];rw[y.t];congr 1;simp only[List.cons.injEq,l'd,and_true,true_and];omega
theorem Q'I {D:HD}(h2:D.nin=4)(x:NX N top giv ins las bads gts){k:Nat}(hk:k<6)(hvt:5+k<=top)(h:At s p (ln1 0)): ∃N',E'p D s k (N,⟨p,0,0⟩)=(N',⟨p+(ln1 0).length,0,0⟩)∧NX N' top (λw=>giv w||w==5+k) ins (las++[(((2*(5+k):Nat):Int),((0:Nat):Int),0)]) bads gts:=by
 unfold ln1 at h;have y:=x.give (v:=2*(5+k)) (by omega);rw[show 2*(5+k)/2=5+k by omega]at y;have h3:=D'q y (v:=0) (by omega) (by omega) h (.inl (by omega));have a4:=(At.app.1 h).2;have h4:=E'L a4;have h6:=C'o a4;unfold E'p;rw[h2,show 2*(1+4+k)=2*(5+k) by omega];unfold laS laZ;simp only[h3,h4];rw[if_neg (by decide)];simp only[h6];refine⟨_,E'M (by simp[ln1];omega),⟨y.g,y.i,?_,y.o,y.b,y.t⟩⟩;simp only[List.map_append,l'J,l'K];rw[y.l]
end
section
variable {ps:List Nat}
def gbW (ps:List Nat)(j:Nat): List Nat:=H'9 (2*(11+j)-(wdP ps j).1)++H'9 ((wdP ps j).1-(wdP ps j).2)
def M'l (ps:List Nat): List Nat:=hdr 105 (11+ps.length) (ps.length+1)++(cat (λ_=>ln1 0) 0 6++(ln1 (2*(11+ps.length))++cat (gbW ps) 0 (ps.length+1)))
theorem Q'J (hl:ps.length<=59)(hp:∀p∈ps,p<4)(a:At s 0 (M'l ps))(hs:s.size=(M'l ps).length)(hs2:s.size<=1000): rdS s = .ok (ckT (wdN ps))∧¬((D'2 (hdD true [11+ps.length,4,6,0,ps.length+1,1,0,0,0]) s ⟨(hdr 105 (11+ps.length) (ps.length+1)).length,0,0⟩).2.pos<s.size∧(D'2 (hdD true [11+ps.length,4,6,0,ps.length+1,1,0,0,0]) s ⟨(hdr 105 (11+ps.length) (ps.length+1)).length,0,0⟩).2.e=0):=by
 unfold M'l at a hs;obtain⟨a0,a2⟩:=At.app.1 a;obtain⟨a2,a3⟩:=At.app.1 a2;obtain⟨a3,a4⟩:=At.app.1 a3;rw[l'F]at a2 a3 a4;have e0:=L'D (.inr rfl) (by omega) (by omega) a0;obtain⟨D,hD⟩:=e' (hdD true [11+ps.length,4,6,0,ps.length+1,1,0,0,0]);have d1:D.top=11+ps.length:=by rw[hD];rfl
 have d2:D.nin=4:=by rw[hD];rfl
 have d3:D.nla=6:=by rw[hD];rfl
 have d4:D.nou=0:=by rw[hD];rfl
 have d5:D.nan=ps.length+1:=by rw[hD];rfl
 have d6:D.nbs=1:=by rw[hD];rfl
 have d7:D.oth=0:=by rw[hD];rfl
 have d8:D.bin=true:=by rw[hD];rfl
 obtain⟨N1,e1,x1⟩:=E'5 (s:=s) (f:=E'o) (P:=λj N=>NX N (11+ps.length) (λw=>decide (w<=j)) (O'K j) [] [] []) (len:=λ_=>[]) (tot:=4) (λj N p hj x _=>by
  have y:=x.give (v:=2*(1+j)) (by omega);refine⟨_,rfl,?_⟩;rw[G'e];have z:NX { N.give ((2*(1+j):Nat):Int) with ins:=(N.give ((2*(1+j):Nat):Int)).ins++[((2*(1+j):Nat):Int)] } (11+ps.length) (λw=>decide (w<=j)||w==2*(1+j)/2) (O'K j++[((2*(1+j):Nat):Int)]) [] [] []:=⟨y.g,by simp only;rw[y.i],y.l,y.o,y.b,y.t⟩;refine z.congr λw _=>?_;rw[Bool.eq_iff_iff];simp;omega) 4 0 (E'X (11+ps.length)) (hdr 105 (11+ps.length) (ps.length+1)).length (by omega) (M'k _) (λi b h=>by simp[cat]at h)
 have x1':NX N1 (11+ps.length) (λw=>decide (w<=4)) [2,4,6,8] [] [] []:=x1;obtain⟨N2,e2,x2⟩:=E'5 (f:=E'p D s) (P:=λj N=>NX N (11+ps.length) (λw=>decide (w<=4+j)) [2,4,6,8] (J'H j) [] []) (len:=λ_=>ln1 0) (tot:=6) (λj N p hj x a=>by
  obtain⟨N',e,y⟩:=Q'I d2 x hj (by omega) a;refine⟨N',e,?_⟩;rw[G'd];refine y.congr λw _=>?_;rw[Bool.eq_iff_iff];simp;omega) 6 0 N1 _ (by omega) x1' a2
 have x2':NX N2 (11+ps.length) (λw=>decide (w<=10)) [2,4,6,8] (J'H 6) [] []:=x2;obtain⟨N3,e3,x3⟩:=M'j d4 d6 x2' (by omega) (by omega) a3;obtain⟨N4,e4,x4⟩:=E'5 (f:=F'h D s) (P:=λj N=>∃gts,NX N (11+ps.length) (λw=>decide (w<=10+j)) [2,4,6,8] (J'H 6) [((2*(11+ps.length):Nat):Int)] gts∧gts.length=j∧∀i,i<j->∃t,gts[i]?=some t∧GtW ps i t) (len:=gbW ps) (tot:=ps.length+1) (λj N p hj x a=>by
  obtain⟨gts,x,g2,g3⟩:=x;obtain⟨w1,w2,w3,-,-⟩:=D'i hp j;obtain⟨N',e,y⟩:=Q'H d2 d3 x (k:=j) (a:=(wdP ps j).1) (b:=(wdP ps j).2) (by omega) (by omega) (by omega) (by omega) a;refine⟨N',e,gts++[_],y.congr λw _=>?_,by simp[g2],?_⟩
  ·rw[Bool.eq_iff_iff];simp;omega
  ·intro i hi;rcases Nat.lt_or_ge i j with h3|h3
   ·obtain⟨t',h4,h5⟩:=g3 i h3;exact⟨t',by rw[l'e (by omega)];exact h4,h5⟩
   ·obtain rfl:i=j:=by omega
    exact⟨(((2*(11+i):Nat):Int),((wdP ps i).1:Int),((wdP ps i).2:Int)),by rw[l'z (by omega)];simp[g2],⟨rfl,.inl ⟨rfl,rfl⟩⟩⟩) (ps.length+1) 0 N3 _ (by omega) ⟨[],x3,rfl,λi hi=>by omega⟩ a4
 obtain⟨gts,x4,g2,g3⟩:=x4;rw[l'F]at x4 g2 g3;have hbod:D'2 D s ⟨(hdr 105 (11+ps.length) (ps.length+1)).length,0,0⟩=(N4,⟨s.size,0,0⟩):=by
  unfold D'2;rw[if_pos d8];unfold rbS;have e1':itK E'o 0 4 (E'X (11+ps.length),⟨(hdr 105 (11+ps.length) (ps.length+1)).length,0,0⟩)=(N1,⟨(hdr 105 (11+ps.length) (ps.length+1)).length,0,0⟩):=e1;rw[d1,d2,d3,d5,e1',e2,e3,e4];exact E'M (by rw[hs];simp only[l'p];omega)
 rw[<-hD];refine⟨?_,by rw[hbod];simp⟩;have gall:∀w,w<=11+ps.length->(λw=>decide (w<=10+(ps.length+1))) w=true:=λw hw=>by simp;omega
 have y:GtsW ps gts:=by
  refine⟨g2,λi t hi=>?_,λj hj=>?_⟩
  ·have hil:=(l'b.1 hi).1;obtain⟨t',h1,h2⟩:=g3 i (by omega);rw[hi]at h1;simp only[l'a]at h1;subst h1;exact⟨i,by omega,h2⟩
  ·obtain⟨t',h3,h4⟩:=g3 j (by omega);exact⟨j,t',h3,h4⟩
 unfold rdS;rw[if_neg (by omega)];simp only[e0];rw[show ((105:Nat)==105)=true from rfl,<-hD,L'E (A:=ps.length+1) (by omega) (by omega) d2 d3 d4 d5 d6 d7];simp only[if_true];unfold rd2;rw[hbod];simp only;have hsy:E'j D s ⟨s.size,0,0⟩=⟨s.size,0,0⟩:=by
  unfold E'j H'N;rw[if_neg (by simp)]
 rw[hsy,H'n x4 hp y gall];unfold rd3;simp only[if_true];rw[H'm hp x4 y]
end
end Go.Proofs.YtimdkminagnhgabGreatDoor
