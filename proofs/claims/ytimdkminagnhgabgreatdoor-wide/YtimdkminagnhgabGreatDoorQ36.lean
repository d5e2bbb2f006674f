import Derived.Test.YtimdkminagnhgabGreatDoorQ34
set_option linter.all false
namespace Go.Ta
variable {N:Ck}
theorem H'6 (st:Nat): B'N N st=true↔∀(j x r:Nat),N.las[j]?=some (x,r)->r=2∨r=st/2^j%2:=by
 unfold B'N;rw[l'D];constructor
 ·intro h j x r hj;have:=h ((x,r),j) (List.mem_zipIdx_iff_getElem?.2 hj);simpa using this
 ·rintro h ⟨⟨x,r⟩,j⟩ hm;have:=h j x r (List.mem_zipIdx_iff_getElem?.1 hm);simpa using this
end Go.Ta
namespace Go.Ta
variable {N:Ck}
theorem G'L (N:Ck): ∀(ls:List (Nat×Nat)) (j0:Nat)(σ:Nat->Bool),C'p σ (B'm N ls j0)↔∀(j x r:Nat),ls[j]?=some (x,r)->(r=0->σ (1+N.ni+(j0+j))=false)∧(r=1->σ (1+N.ni+(j0+j))=true):=by
 intro ls
 induction ls with
 | nil=>intro j0 σ;simp[B'm,C'p]
 | cons p t ih=>
  intro j0 σ;obtain⟨x0,r0⟩:=p;have hlit:tr σ (N.lla j0) = σ (1+N.ni+j0):=by unfold Ck.lla;rw[C'1]
  have h1:C'p σ (B'm N ((x0,r0) :: t) j0)↔((r0=0->σ (1+N.ni+j0)=false)∧(r0=1->σ (1+N.ni+j0)=true))∧C'p σ (B'm N t (j0+1)):=by
   rw[show B'm N ((x0,r0) :: t) j0=(if r0=0 then [[N.lla j0 ^^^ 1]] else if r0=1 then [[N.lla j0]] else [])++B'm N t (j0+1) from rfl];unfold C'p;simp only[l'E,or_imp,forall_and];refine and_congr ?_ Iff.rfl
   by_cases e0:r0=0
   ·subst e0;simp only[if_true,l'm,forall_eq,clT,exists_eq_left,E'A,hlit]
    cases σ (1+N.ni+j0) <;> simp
   ·by_cases e1:r0=1
    ·subst e1;simp only[show (1:Nat)=0↔False by simp,if_false,if_true,l'm,forall_eq,clT,exists_eq_left,hlit]
     cases σ (1+N.ni+j0) <;> simp
    ·simp[e0,e1]
  rw[h1,ih];constructor
  ·rintro⟨a,b⟩ j x r h
   cases j with
   | zero=>
    simp only[l'w,l'a,l'd]at h;obtain⟨rfl,rfl⟩:=h;exact a
   | succ j=>
    have:=b j x r (by simpa using h)
    rwa [show j0+1+j=j0+(j+1) by omega]at this
  ·intro h;refine⟨h 0 x0 r0 rfl,λj x r hj=>?_⟩;have:=h (j+1) x r (by simpa using hj)
   rwa [show j0+(j+1)=j0+1+j by omega]at this
theorem H'7 (N:Ck): ∀(ls:List (Nat×Nat)) (j0:Nat),j0+ls.length<=N.las.length->(∀c∈B'm N ls j0,(∀x∈c,x<2*N.nv)∧c.length<most)∧(B'm N ls j0).length<=ls.length:=by
 have hm:most=1000000:=rfl;intro ls
 induction ls with
 | nil=>intro j0 _;simp[B'm]
 | cons p t ih=>
  intro j0 h;obtain⟨x0,r0⟩:=p;simp only[l'n]at h;obtain⟨i1,i2⟩:=ih (j0+1) (by omega);have hl:N.lla j0<2*N.nv:=by unfold Ck.lla Ck.nv;omega
  rw[show B'm N ((x0,r0) :: t) j0=(if r0=0 then [[N.lla j0 ^^^ 1]] else if r0=1 then [[N.lla j0]] else [])++B'm N t (j0+1) from rfl];refine⟨λc hc=>?_,?_⟩
  ·rcases l'E.1 hc with h1|h1
   ·split at h1
    ·simp only[l'm]at h1;subst h1;exact⟨λx hx=>by simp only[l'm]at hx;rw[hx];exact D'Z hl,by simp;omega⟩
    ·split at h1
     ·simp only[l'm]at h1;subst h1;exact⟨λx hx=>by simp only[l'm]at hx;rw[hx];exact hl,by simp;omega⟩
     ·simp at h1
   ·exact i1 c h1
  ·rw[l'p,l'n];split
   ·simp;omega
   ·split
    ·simp;omega
    ·simp;omega
theorem G'a (W:CkW N)(σ:Nat->Bool): C'p σ (B'm N N.las 0)↔B'N N (G'j N σ)=true:=by
 rw[G'L,H'6];constructor
 ·intro h j x r hj;have hjl:=(l'b.1 hj).1;obtain⟨h1,h2⟩:=h j x r hj;have hr:=(W.la j x r hj).2;rw[E'D];unfold G'j;rw[C'8 _ _ _ hjl];rw[l'F]at h1 h2;rcases (show r=0∨r=1∨r=2 by omega) with rfl|rfl|rfl
  ·rw[h1 rfl];simp
  ·rw[h2 rfl];simp
  ·exact .inl rfl
 ·intro h j x r hj;have hjl:=(l'b.1 hj).1;have h1:=h j x r hj;rw[E'D]at h1;unfold G'j at h1;rw[C'8 _ _ _ hjl]at h1;rw[l'F];refine⟨λe=>?_,λe=>?_⟩
  ·subst e
   cases hb:σ (1+N.ni+j) with
   | false=>rfl
   | true=>rw[hb]at h1;simp at h1
  ·subst e
   cases hb:σ (1+N.ni+j) with
   | true=>rfl
   | false=>rw[hb]at h1;simp at h1
end Go.Ta
