import Derived.Test.YtimdkminagnhgaaGreatDoorQ19
import Derived.Test.YtimdkminagnhgaaGreatDoorQ20
set_option linter.all false
namespace Go.Ta
theorem K'D {q q':Srch}{k:Nat}(h:C'C q k=some q'): q' = { q with watchers:=q'.watchers }∧q'.watchers.length=q.watchers.length:=by
 unfold C'C at h;split at h
 ·simp at h
 ·split at h
  ·simp at h
  ·split at h
   ·split at h
    ·simp at h
    ·split at h
     ·simp only[l'a]at h;subst h;exact⟨rfl,by simp⟩
     ·simp at h
   ·simp at h
end Go.Ta
namespace Go.Ta
theorem H'K {st:List Bool}{k:Nat}{b:Bool}(h:st[k]?=some b): B'm st (k+1)=B'm st k+if b then 1 else 0:=by
 unfold B'm;rw[l'C,h,List.count_append]
 cases b <;> simp
theorem E'9 (st:List Bool)(k:Nat): B'm st k<=k:=by
 unfold B'm;have:=List.count_le_length (a:=true) (l:=st.take k);simp at this;omega
theorem J'g: ∀(l:List Cl)(s:List Bool)(y:Cl)(b:Bool),l.length=s.length->B'v (l++[y]) (s++[b])=B'v l s++if b then [y] else []:=by
 intro l
 induction l with
 | nil=>
  intro s y b h;have:s=[]:=List.length_eq_zero_iff.1 h.symm;subst this
  cases b <;> simp[B'v]
 | cons c l ih=>
  intro s y b h
  cases s with
  | nil=>simp at h
  | cons a s=>
   simp only[l'n,Nat.add_right_cancel_iff]at h;have:=ih s y b h
   cases a <;> simp[B'v,this]
end Go.Ta
namespace Go.Proofs.YtimdkminagnhgaaGreatDoor
open Go.Vm Go.Proofs Go.Ta
set_option maxRecDepth 4000
set_option maxHeartbeats 4000000
attribute [local simp] A'a A'b reg to too A'd A'q A'h mv' nl' fl' ld' ln' mk' ia' ik' ix' B'F B'G aLd B'h A'w A'4 aUn unA ev A'l isB A'0 A'E A'F A'G A'H A'I A'J A'K A'L A'M cIf A'B A'f A'g aSt A'N A't A'O A'P A'Q A'9 A'R A'u A'S A'T B'a A'U A'v A'V A'W A'X B'b A'p Instr.fill A'e A'n A'x A'j ptr undef B'o B'y A'k B's A's A'D B'C A'y B'p rangeA B'O A'r A'2 A'z B'd A'm A'o chk
section
variable {H:Type}{O:HI H}{ro:Nat}{c:A'Z H}
variable {w w':Own}{h h':H}{q:Nat}{S:Srch}{bW bH bV:Nat}{vA vC vT vS vK:Value}{lv wv:List Value}
theorem D'O (v:Value)(n:Nat): Vm.rangeA #[v] n=List.replicate n v:=by
 unfold Vm.rangeA;apply List.ext_getElem
 ·simp
 ·intro i h1 h2;simp[Nat.mod_one]
theorem Ch.own {k:Nat}{t:Tag}(a:Ch O (λ_=>False) w h w' h'){w2:Own}{h2:H}(b:Ch O (λu=>u=t) w' h' w2 h2)(hk:∀b,b<O.next h->w b≠t): Ch O (λ_=>False) w h w2 h2:=by
 refine⟨l'G a.nx b.nx,λx hx=>?_,λx hx _=>?_⟩
 ·rw[b.ow x (Nat.lt_of_lt_of_le hx a.nx),a.ow x hx]
 ·have q1:=a.fr x hx (by simp);have q2:=b.fr x (Nat.lt_of_lt_of_le hx a.nx) (by rw[a.ow x hx];exact hk x hx);exact⟨λo=>by rw[q2.1,q1.1],by rw[q2.2,q1.2]⟩
theorem Q'h (h:H)(b:Nat): C'e Tryz.prog O 233 (.pointer (some ⟨b,0,none⟩)) h=(cellsA O h b 0 193).map λl=>.agg l.toArray:=by
 have hi:(Tryz.prog.info? 233).map (·.size)=some 193:=by kernel_rfl
 cases hx:Tryz.prog.info? 233 with
 | none=>rw[hx]at hi;simp at hi
 | some i=>
  rw[hx]at hi;simp only[l'l,l'a]at hi;have hu:∃n e,Tryz.prog.underlying 233=some (.array n e):=by
   have:(match Tryz.prog.underlying 233 with|some (.array _ _)=>true|_=>false)=true:=by kernel_rfl
   revert this
   cases hy:Tryz.prog.underlying 233 with
   | none=>simp
   | some u=>cases u <;> simp
  obtain⟨n,e,hu⟩:=hu;simp only[C'e,hu,hx,hi]
theorem E'8: ∀(r:List Int) (f:Int),(D'o r f).length=r.length:=by
 intro r
 induction r with
 | nil=>intro f;rfl
 | cons x r ih=>intro f;simp[D'o,ih]
def rB (O:HI H)(ro:Nat)(w:Own)(h:H)(q:Nat)(S:Srch)(b2 b3 k1:Nat)(rF:List Int)(n:Nat)(t:Env)(g:H): Prop:=
 t 0 = .pointer (some ⟨q,0,none⟩)∧t 2 = .pointer (some ⟨b2,0,none⟩)∧t 3 = .pointer (some ⟨b3,0,none⟩)∧∃(k:Nat)(r:List Int),t 4=ni k∧k+n=S.clauses.length∧C'2 (S.clauses.drop k) r=some rF∧r.length=193∧(∀(i:Nat) (x:Int),r[i]?=some x->0<=x∧x<=(k:Int))∧Bx O ro w g (14,k1) b3 (r.map iv)∧Ch O (λu=>u=((14,k1):Tag)) w h w g
def rBQ (O:HI H)(ro:Nat)(w:Own)(h:H)(q:Nat)(S:Srch)(b2 b3 k1:Nat)(rF:List Int)(t:Env)(g:H): Prop:=
 t 0 = .pointer (some ⟨q,0,none⟩)∧t 2 = .pointer (some ⟨b2,0,none⟩)∧t 3 = .pointer (some ⟨b3,0,none⟩)∧rF.length=193∧(∀(i:Nat) (x:Int),rF[i]?=some x->0<=x∧x<=(S.clauses.length:Int))∧Bx O ro w g (14,k1) b3 (rF.map iv)∧Ch O (λu=>u=((14,k1):Tag)) w h w g
theorem Q'i (L:O.Law)(x:SQ O ro w h q S bW bH bV vA vC vT vS vK lv wv){b2 b3 k1 n:Nat}{rF:List Int}(hC:S.clauses.length<=1000000){t:Env}{g:H}(I:rB O ro w h q S b2 b3 k1 rF n t g):
  okE c (I's O Tryz.prog ro) (t,g) (λe t' g'=>(e = .normal∧∃n',n'<n∧rB O ro w h q S b2 b3 k1 rF n' t' g')∨(e≠.normal∧(A'j 0 e = .normal∧rBQ O ro w h q S b2 b3 k1 rF t' g'))):=by
 obtain⟨d0,d2,d3,k,r,d4,hkn,hsp,hrl,hrb,yb,ch⟩:=I;have x1:=x.ch L ch;have m1:=x1.m.get 1 _ rfl
 cases n with
 | zero=>
  have hk:k=S.clauses.length:=by omega
  rw[hk,List.drop_length]at hsp;simp only[C'2,l'a]at hsp;subst hsp;obtain⟨aC,cC,hvC⟩:=x1.sC.m.len (by omega) S.clauses.length (by rw[A'A clC 4 B'Q];simp[x1.lC]);rw[hvC]at m1;refine f'f ?_;rw[hk]at d4;simp[I's,ZjZ,d0,d4,m1];exact⟨d0,d2,d3,hrl,by rw[<-hk];exact hrb,yb,ch⟩
 | succ n=>
  have hk:k<S.clauses.length:=by omega
  have hk':(k:Int)<S.clauses.length:=by omega
  obtain⟨y,hy⟩:∃y,S.clauses[k]?=some y:=⟨_,l'c hk⟩;obtain⟨bC,v,hvC,yC,-,-,-,-,-,hsp3⟩:=x1.getC k hy;rw[hvC]at m1;have hd:S.clauses.drop k=y :: S.clauses.drop (k+1):=by
   rw[l's hk];rw[l'c hk,l'a]at hy;rw[hy]
  rw[hd]at hsp;unfold C'2 at hsp;obtain⟨a,ha⟩:∃a,r[y.span]?=some a:=by
   cases hx:r[y.span]? with
   | none=>rw[hx]at hsp;simp at hsp
   | some a=>exact⟨a,rfl⟩
  rw[ha]at hsp;simp only at hsp;have hsl:y.span<193:=by rw[<-hrl];exact (l'b.1 ha).1
  have hsl':(y.span:Int)<193:=by omega
  obtain⟨a1,a2⟩:=hrb _ _ ha;have hgl:y.span<(r.map iv).length:=by simp[hrl];exact hsl
  have hcell:=yb.get y.span (iv a) (by rw[List.getElem?_map,ha];rfl);have c2:=Ch.put L (K:=λu=>u=((14,k1):Tag)) yb y.span hgl (iv (a+1)) rfl;have y2:=yb.put L y.span hgl (iv (a+1));rw[<-List.map_set]at y2;have p2:=A'C (O:=O) (v:=iv (a+1)) hcell;obtain⟨g2,hg2⟩:=e' (O.put g b3 y.span (iv (a+1)));rw[<-hg2]at c2 y2 p2;have hw:IntKind.i64.wrap (a+1)=a+1:=w'j;have hwi:=w'1 k;obtain⟨k',hk2⟩:=e' (k+1);rw[<-hk2]at hwi hsp;have rb3:¬b3<ro:=by have:=yb.lo;omega
  unfold iv at hcell p2;generalize y.span=sp at *;refine f'f ?_;simp[I's,ZjZ,Zj0,Zj1,d0,d3,d4,m1,hk,hk',hsp3,hsl,hsl',hcell,hw,rb3,p2,hwi];exact⟨n,by omega,by simp[d0],by simp[d2],by simp[d3],k',_,by simp,by omega,hsp,by simp[hrl],λi u hu=>by
   by_cases e:i=sp
   ·subst e;rw[l'g (by rw[hrl];exact hsl)]at hu;simp only[l'a]at hu;omega
   ·rw[l'h (λh=>e h.symm)]at hu;have:=hrb i u hu;omega,y2,ch.trans c2⟩
def rC (O:HI H)(ro:Nat)(w:Own)(h:H)(b2 b3 k1:Nat)(cap:List Int)(n:Nat)(t:Env)(g:H): Prop:=
 t 2 = .pointer (some ⟨b2,0,none⟩)∧t 3 = .pointer (some ⟨b3,0,none⟩)∧∃(i:Nat)(pre rest:List Int) (free:Int),t 5=iv free∧t 6=ni i∧i+n=193∧pre.length=i∧rest.length=n∧cap=pre++D'o rest free∧0<=free∧free<=2000∧(∀x∈rest,0<=x∧x<=1000000)∧Bx O ro w g (14,k1) b3 ((pre++rest).map iv)∧Ch O (λu=>u=((14,k1):Tag)) w h w g
def rCQ (O:HI H)(ro:Nat)(w:Own)(h:H)(b2 b3 k1:Nat)(cap:List Int)(t:Env)(g:H): Prop:=
 t 2 = .pointer (some ⟨b2,0,none⟩)∧t 3 = .pointer (some ⟨b3,0,none⟩)∧Bx O ro w g (14,k1) b3 (cap.map iv)∧Ch O (λu=>u=((14,k1):Tag)) w h w g
theorem Q'j (L:O.Law){b2 b3 k1 n:Nat}{cap:List Int}{t:Env}{g:H}(I:rC O ro w h b2 b3 k1 cap n t g):
  okE c (G'V O Tryz.prog ro) (t,g) (λe t' g'=>(e = .normal∧∃n',n'<n∧rC O ro w h b2 b3 k1 cap n' t' g')∨(e≠.normal∧(A'j 2 e = .normal∧rCQ O ro w h b2 b3 k1 cap t' g'))):=by
 obtain⟨d2,d3,i,pre,rest,free,d5,d6,hin,hpl,hrl,hcap,f0,f1,hrb,yb,ch⟩:=I
 cases n with
 | zero=>
  have hi:i=193:=by omega
  have hr:rest=[]:=List.length_eq_zero_iff.1 hrl;subst hr;rw[List.append_nil]at yb;simp only[D'o,List.append_nil]at hcap;subst hcap;refine f'f ?_;rw[hi]at d6;simp[G'V,Zj4,d6];exact⟨d2,d3,yb,ch⟩
 | succ n=>
  obtain⟨x,rs,rfl⟩:∃x rs,rest=x :: rs:=by
   cases rest with
   | nil=>simp at hrl
   | cons x rs=>exact⟨x,rs,rfl⟩
  have hi:i<193:=by omega
  have hi':(i:Int)<193:=by omega
  have hx:=hrb x (by simp);have hgl:i<((pre++x :: rs).map iv).length:=by simp;omega
  have hcell:=yb.get i (iv x) (by rw[List.getElem?_map,l'z (by omega),hpl,Nat.sub_self];rfl);have rb3:¬b3<ro:=by have:=yb.lo;omega
  have hwi:=w'1 i;obtain⟨i',hi2⟩:=e' (i+1);rw[<-hi2]at hwi
  by_cases hf:free<x
  ·have c2:=Ch.put L (K:=λu=>u=((14,k1):Tag)) yb i hgl (iv free) rfl;have y2:=yb.put L i hgl (iv free);have p2:=A'C (O:=O) (v:=iv free) hcell;obtain⟨g2,hg2⟩:=e' (O.put g b3 i (iv free));rw[<-hg2]at c2 y2 p2;have hset:((pre++x :: rs).map iv).set i (iv free)=((pre++[free])++rs).map iv:=by
    rw[<-List.map_set,List.set_append_right _ _ (by omega),hpl,Nat.sub_self];simp
   rw[hset]at y2;have hcell2:=y2.get i (iv free) (by rw[List.getElem?_map,List.append_assoc,l'z (by omega),hpl,Nat.sub_self];rfl);have hw:IntKind.i64.wrap (free-free)=free-free:=w'j;have hw0:IntKind.i64.wrap 0=0:=w'j;unfold iv at hcell p2 hcell2 d5;refine f'f ?_;simp[G'V,Zj4,Zj5,Zj6,Zj7,Zj8,d3,d5,d6,hi,hi',hcell,hf,rb3,p2,hcell2,hw,hw0,hwi];simp only[D'o,hf,if_true]at hcap;exact⟨n,by omega,by simp[d2],by simp[d3],i',pre++[free],rs,0,by simp[iv],by simp,by omega,by simp;omega,by simpa using hrl,by rw[hcap];simp,by omega,by omega,λz hz=>hrb z (by simp[hz]),y2,ch.trans c2⟩
  ·have hw:IntKind.i64.wrap (free-x)=free-x:=w'j;unfold iv at hcell d5;refine f'f ?_;simp[G'V,Zj4,Zj5,Zj7,Zj8,d3,d5,d6,hi,hi',hcell,hf,hw,hwi];simp only[D'o,hf,if_false]at hcap;exact⟨n,by omega,by simp[d2],by simp[d3],i',pre++[x],rs,free-x,by simp[iv],by simp,by omega,by simp;omega,by simpa using hrl,by rw[hcap];simp,by omega,by omega,λz hz=>hrb z (by simp[hz]),by rw[List.append_assoc];exact yb,ch⟩
theorem Q'k (C:LP' O ro c)(L:O.Law)(x:SQ O ro w h q S bW bH bV vA vC vT vS vK lv wv)(hC:S.clauses.length<=1000000)(hg:S.given<=S.clauses.length){rF:List Int}(hs:C'2 (S.clauses.drop S.given) (List.replicate 193 0)=some rF):
  ∃h' w',c 239 [ptr q] h=some (.agg ((D'o rF 2000).map iv).toArray,h')∧Ch O (λ_=>False) w h w' h':=by
 obtain⟨Z,hZ⟩:∃Z:List Value,Z=List.replicate 193 (.int .i64 0):=⟨_,rfl⟩;have hR0:ZjW O=[to 2 (B'o O Z)]:=by rw[hZ];rfl
 have hR1:ZjX O=[to 3 (B'o O Z)]:=by rw[hZ];rfl
 have hZl:Z.length=193:=by rw[hZ];exact List.length_replicate
 obtain⟨k0,hk0⟩:=B'i w (O.next h);have n1:=Bx.new L (ro:=ro) w h x.lo (14,k0) Z;have c1:=Ch.new L (λ_=>False) w h (14,k0) Z;have lo1:ro<=O.next (O.new h Z):=l'G x.lo c1.nx
 obtain⟨w1,hw1⟩:=e' (w.set (O.next h) (14,k0));obtain⟨b2,hb2⟩:=e' (O.next h);obtain⟨h1,hh1⟩:=e' (O.new h Z);rw[<-hw1]at n1 c1;rw[<-hh1]at n1 c1 lo1;rw[<-hb2]at n1;obtain⟨k1,hk1⟩:=B'i w1 (O.next h1);have n2:=Bx.new L (ro:=ro) w1 h1 lo1 (14,k1) Z;have c2:=Ch.new L (λ_=>False) w1 h1 (14,k1) Z;obtain⟨w2,hw2⟩:=e' (w1.set (O.next h1) (14,k1));obtain⟨b3,hb3⟩:=e' (O.next h1);obtain⟨h2,hh2⟩:=e' (O.new h1 Z);rw[<-hw2]at n2 c2;rw[<-hh2]at n2 c2;rw[<-hb3]at n2;have n1':=n1.ch L c2;have x2:=x.ch L (c1.trans c2) (by simp) (by simp) (by simp);have hkk:((14,k0):Tag)≠(14,k1):=by
  have:=hk1 b2 (n1.lt L);rw[n1.tag]at this;exact this
 have m2:=x2.m.get 2 _ rfl;have key:∃u h',c 239 [ptr q] h=some (u,h')∧(u = .agg ((D'o rF 2000).map iv).toArray∧∃w',Ch O (λ_=>False) w h w' h'):=by
  refine C.fn (Q'g O ro) rfl rfl ?_;unfold V'o;have hz:List.map iv (List.replicate 193 0)=Z:=by rw[List.map_replicate,hZ];rfl
  have hzb:∀(i:Nat) (y:Int),(List.replicate 193 (0:Int))[i]?=some y->0<=y∧y<=(S.given:Int):=by
   intro i y hy;rw[List.getElem?_replicate]at hy;split at hy
   ·simp only[l'a]at hy;omega
   ·simp at hy
  refine s'f ?_;rw[hR0];simp[A'c,<-hh1,<-hb2];refine s'f ?_;rw[hR1];simp[A'c,<-hh2,<-hb3];refine okE.seq (s'f ?_);simp[ZjY,A'c,m2];refine okE.blk ?_;refine okE.mono (okE.loop (Q:=λe t' g'=>A'j 0 e = .normal∧rBQ O ro w2 h2 q S b2 b3 k1 rF t' g') (rB O ro w2 h2 q S b2 b3 k1 rF) (λn t g I=>Q'i L x2 hC I) (S.clauses.length-S.given) _ _ ⟨by simp,by simp,by simp,S.given,List.replicate 193 0,by simp,by omega,hs,List.length_replicate,hzb,by rw[hz];exact n2,Ch.refl _ _ _⟩) ?_;rintro e t g ⟨hr,d0,d2,d3,hl,hb,yb,ch⟩;rw[hr];simp only[A'c];have x3:=x2.ch L ch;have m3:=x3.m.get 3 _ rfl;have hq:=G'd 4000 2 (by omega) (by omega);have e4:((4000:Nat):Int)=4000:=rfl;have e2:((2:Nat):Int)=2:=rfl;rw[e4,e2]at hq;refine s'f ?_;simp[Zj2,A'c,d0,m3,hq];refine okE.seq (s'f ?_);simp[Zj3,A'c];refine okE.blk ?_;refine okE.mono (okE.loop (Q:=λe t' g'=>A'j 2 e = .normal∧rCQ O ro w2 h2 b2 b3 k1 (D'o rF 2000) t' g') (rC O ro w2 h2 b2 b3 k1 (D'o rF 2000)) (λn t g I=>Q'j L I) 193 _ _ ⟨by simp[d2],by simp[d3],0,[],rF,2000,by simp[iv],by simp,rfl,rfl,hl,rfl,by omega,by omega,λy hy=>by
   obtain⟨i,hi⟩:=l'i.1 hy;have:=hb i y hi;omega,yb,ch⟩) ?_
  rintro e t g ⟨hr,d2,d3,yb,ch⟩;rw[hr];simp only[A'c];have hcl:((D'o rF 2000).map iv).length=193:=by rw[List.length_map,E'8];exact hl
  have hcells:=yb.all;rw[hcl]at hcells;have y2:=n1'.ch L ch (by simpa using hkk);obtain⟨g2,e2,y3,c3⟩:=Bx.over L (K:=λu=>u=((14,k0):Tag)) rfl y2 (new:=(D'o rF 2000).map iv) (by rw[hcl,hZl]);have hres:=y3.all;rw[hcl]at hres;have rb2:¬b2<ro:=by have:=y2.lo;omega
  have hfl:(∀v,v∈(D'o rF 2000).map iv->B'g v=true)=True:=eq_true λv hv=>by
   obtain⟨a,-,rfl⟩:=List.mem_map.1 hv;rfl
  generalize (D'o rF 2000).map iv=cl at *;refine f'f ?_;simp[Zj9,d2,d3,hcells,rb2,e2,hfl,A'1,A'i,rvE,Q'h,hres,hcl];exact⟨w2,((c1.trans c2).own (k:=0) ch (λb hb=>by
   have h3:=hk1 b (Nat.lt_of_lt_of_le hb c1.nx);rw[c1.ow b hb]at h3;exact h3)).own (k:=0) c3 hk0⟩
 obtain⟨u,h',e1,rfl,w',c'⟩:=key;exact⟨h',w',e1,c'⟩
def K2 (k1 k2:Nat)(u:Tag): Prop:=u=(14,k1)∨u=(14,k2)
def sB (O:HI H)(ro:Nat)(w:Own)(h:H)(q:Nat)(S:Srch)(b1 b4 k1 k2:Nat)(st0:List Bool)(n:Nat)(t:Env)(g:H): Prop:=
 t 0 = .pointer (some ⟨q,0,none⟩)∧t 3 = .slice (some ⟨b1,0,some 1⟩) S.clauses.length (S.clauses.length+1)∧t 4 = .pointer (some ⟨b4,0,none⟩)∧t 5 = .int .i64 ((n:Int)-1)∧n<=S.clauses.length∧∃(room:List Int)(acc:List Bool),D'N S.clauses S.given n room acc=some st0∧room.length=193∧acc.length+n=S.clauses.length∧(∀(i:Nat) (x:Int),room[i]?=some x->(n:Int)-S.clauses.length<=x∧x<=1000000)∧Bx O ro w g (14,k1) b1 ((List.replicate n false++acc).map .bool)∧Bx O ro w g (14,k2) b4 (room.map iv)∧Ch O (K2 k1 k2) w h w g
def sBQ (O:HI H)(ro:Nat)(w:Own)(h:H)(q:Nat)(S:Srch)(b1 k1 k2:Nat)(st0:List Bool)(t:Env)(g:H): Prop:=
 t 0 = .pointer (some ⟨q,0,none⟩)∧t 3 = .slice (some ⟨b1,0,some 1⟩) S.clauses.length (S.clauses.length+1)∧st0.length=S.clauses.length∧Bx O ro w g (14,k1) b1 (st0.map .bool)∧Ch O (K2 k1 k2) w h w g
theorem Q'l (L:O.Law)(x:SQ O ro w h q S bW bH bV vA vC vT vS vK lv wv){b1 b4 k1 k2 n:Nat}(hkk:k1≠k2){st0:List Bool}(hC:S.clauses.length<=1000000){t:Env}{g:H}(I:sB O ro w h q S b1 b4 k1 k2 st0 n t g):
  okE c (G'R O Tryz.prog ro) (t,g) (λe t' g'=>(e = .normal∧∃n',n'<n∧sB O ro w h q S b1 b4 k1 k2 st0 n' t' g')∨(e≠.normal∧(A'j 0 e = .normal∧sBQ O ro w h q S b1 k1 k2 st0 t' g'))):=by
 obtain⟨d0,d3,d4,d5,hn,room,acc,hst,hrl,hal,hrb,y1,y4,ch⟩:=I;have x1:=x.ch L ch (by simp[K2]) (by simp[K2]) (by simp[K2]);have m1:=x1.m.get 1 _ rfl;have m2:=x1.m.get 2 _ rfl
 cases n with
 | zero=>
  simp only[D'N,l'a]at hst;subst hst;refine f'f ?_;simp[G'R,ZjB,d5];exact⟨d0,d3,by omega,by simpa using y1,ch⟩
 | succ k=>
  have hk:k<S.clauses.length:=by omega
  have hk':(k:Int)<S.clauses.length:=by omega
  have d5':t 5 = .int .i64 (k:Int):=by rw[d5];congr 1;omega
  obtain⟨y,hy⟩:∃y,S.clauses[k]?=some y:=⟨_,l'c hk⟩;obtain⟨bC,v,hvC,yC,-,-,-,-,-,hsp3⟩:=x1.getC k hy;rw[hvC]at m1;unfold D'N at hst;rw[hy]at hst;simp only at hst;obtain⟨a,ha⟩:∃a,room[y.span]?=some a:=by
   cases hx:room[y.span]? with
   | none=>rw[hx]at hst;simp at hst
   | some a=>exact⟨a,rfl⟩
  rw[ha]at hst;simp only at hst;have hsl:y.span<193:=by rw[<-hrl];exact (l'b.1 ha).1
  have hsl':(y.span:Int)<193:=by omega
  obtain⟨a1,a2⟩:=hrb _ _ ha;obtain⟨bb,hbb⟩:=e' ((decide (k<S.given)||decide (0<a)));rw[<-hbb]at hst;have hg1:k<((List.replicate (k+1) false++acc).map Value.bool).length:=by simp;omega
  have hc1:=y1.get k (.bool false) (by rw[List.getElem?_map,l'e (by simp)];simp);have c2:=Ch.put L (K:=K2 k1 k2) y1 k hg1 (.bool bb) (.inl rfl);have z1:=y1.put L k hg1 (.bool bb);have hset:((List.replicate (k+1) false++acc).map Value.bool).set k (.bool bb)=(List.replicate k false++(bb :: acc)).map .bool:=by
   rw[<-List.map_set,List.set_append_left _ _ (by simp),List.replicate_succ',List.set_append_right _ _ (by simp)];simp
  rw[hset]at z1;have p1:=A'C (O:=O) (v:=.bool bb) hc1;obtain⟨g1,hg1e⟩:=e' (O.put g b1 k (.bool bb));rw[<-hg1e]at c2 z1 p1;have hc2':Ch O (λu=>u=((14,k1):Tag)) w g w g1:=by rw[hg1e];exact Ch.put L (K:=λu=>u=((14,k1):Tag)) y1 k (by simp;omega) (.bool bb) rfl
  have z4:=y4.ch L hc2' (by simpa using λh=>hkk h.symm);have hg4:y.span<(room.map iv).length:=by simp[hrl];exact hsl
  have hcell0:=y4.get y.span (iv a) (by rw[List.getElem?_map,ha];rfl);have hcell:=z4.get y.span (iv a) (by rw[List.getElem?_map,ha];rfl);have c3:=Ch.put L (K:=K2 k1 k2) z4 y.span hg4 (iv (a-1)) (.inr rfl);have z5:=z4.put L y.span hg4 (iv (a-1));rw[<-List.map_set]at z5;have p2:=A'C (O:=O) (v:=iv (a-1)) hcell;obtain⟨g2,hg2e⟩:=e' (O.put g1 b4 y.span (iv (a-1)));have hc3':Ch O (λu=>u=((14,k2):Tag)) w g1 w g2:=by rw[hg2e];exact Ch.put L (K:=λu=>u=((14,k2):Tag)) z4 y.span hg4 (iv (a-1)) rfl
  rw[<-hg2e]at c3 z5 p2;have z1':=z1.ch L hc3' (by simpa using hkk);have hw:IntKind.i64.wrap (a-1)=a-1:=w'j;have hwi:IntKind.i64.wrap ((k:Int)-1)=(k:Int)-1:=w'j;have rb1:¬b1<ro:=by have:=y1.lo;omega
  have rb4:¬b4<ro:=by have:=y4.lo;omega
  have hfin:sB O ro w h q S b1 b4 k1 k2 st0 k (upd (upd (upd (upd (upd t 6 (ni y.span)) 50 (ni y.span)) 25 (ni k)) 26 (ni k)) 5 (.int .i64 ((k:Int)-1))) g2:=by
   refine⟨by simp[d0],by simp[d3],by simp[d4],by simp,by omega,room.set y.span (a-1),bb :: acc,hst,by simp[hrl],by simp;omega,λi u hu=>?_,z1',z5,(ch.trans c2).trans c3⟩
   by_cases e:i=y.span
   ·subst e;rw[l'g (by rw[hrl];exact hsl)]at hu;simp only[l'a]at hu;omega
   ·rw[l'h (λh=>e h.symm)]at hu;have:=hrb i u hu;omega
  obtain⟨-,-,-,-,-,room',acc',f1,f2,f3,f4,f5,f6,f7⟩:=hfin;unfold iv at hcell hcell0 p2;generalize y.span=sp at *;refine f'f ?_
  by_cases hkg:k<S.given
  ·have hkg':(k:Int)<S.given:=by omega
   have hb1:bb=true:=by rw[hbb];simp[hkg]
   subst hb1;simp[G'R,ZjB,ZjC,ZjD,ZjE,ZjF,d0,d3,d4,d5',m1,m2,hk,hk',hsp3,hsl,hsl',hkg,hkg',rb1,p1,hcell,hw,rb4,p2,hwi];exact⟨k,by omega,by simp[d0],by simp[d3],by simp[d4],by simp,by omega,room',acc',f1,f2,f3,f4,f5,f6,f7⟩
  ·have hkg':¬(k:Int)<S.given:=by omega
   have hb1:bb=decide (0<a):=by rw[hbb];simp[hkg]
   subst hb1;simp[G'R,ZjB,ZjC,ZjD,ZjE,ZjF,d0,d3,d4,d5',m1,m2,hk,hk',hsp3,hsl,hsl',hkg,hkg',rb1,p1,hcell0,hcell,hw,rb4,p2,hwi];exact⟨k,by omega,by simp[d0],by simp[d3],by simp[d4],by simp,by omega,room',acc',f1,f2,f3,f4,f5,f6,f7⟩
def sC (O:HI H)(ro:Nat)(w:Own)(h:H)(q:Nat)(S:Srch)(b1 k1 k2:Nat)(st:List Bool)(n:Nat)(t:Env)(g:H): Prop:=
 t 0 = .pointer (some ⟨q,0,none⟩)∧t 3 = .slice (some ⟨b1,0,some 1⟩) S.clauses.length (S.clauses.length+1)∧∃(i:Nat)(st1:List Bool),t 7=ni i∧i+n=S.trail.length∧D'D S.vars (S.trail.drop i) st1=some st∧st1.length=S.clauses.length∧Bx O ro w g (14,k1) b1 (st1.map .bool)∧Ch O (K2 k1 k2) w h w g
theorem Q'm (L:O.Law)(x:SQ O ro w h q S bW bH bV vA vC vT vS vK lv wv){b1 k1 k2 n:Nat}{st:List Bool}(hC:S.clauses.length<=1000000)(hT:S.trail.length<=1000000)(hB:∀l∈S.trail,l<1000000){t:Env}{g:H}(I:sC O ro w h q S b1 k1 k2 st n t g):
  okE c (G'S O Tryz.prog ro) (t,g) (λe t' g'=>(e = .normal∧∃n',n'<n∧sC O ro w h q S b1 k1 k2 st n' t' g')∨(e≠.normal∧(A'j 2 e = .normal∧sBQ O ro w h q S b1 k1 k2 st t' g'))):=by
 obtain⟨d0,d3,i,st1,d7,hin,hst,hl1,y1,ch⟩:=I;have x1:=x.ch L ch (by simp[K2]) (by simp[K2]) (by simp[K2]);have m6:=x1.m.get 6 _ rfl;have m7:=x1.m.get 7 _ rfl
 cases n with
 | zero=>
  have hi:i=S.trail.length:=by omega
  rw[hi,List.drop_length]at hst;simp only[D'D,l'a]at hst;subst hst;obtain⟨aT,cT,hvT⟩:=x1.sT.m.len (by omega) S.trail.length (by simp);rw[hvT]at m7;rw[hi]at d7;refine f'f ?_;simp[G'S,ZjH,d0,d7,m7];exact⟨d0,d3,hl1,y1,ch⟩
 | succ n=>
  have hi:i<S.trail.length:=by omega
  have hi':(i:Int)<S.trail.length:=by omega
  obtain⟨l,hl⟩:∃l,S.trail[i]?=some l:=⟨_,l'c hi⟩;have hlb:=hB l (l'f hl);have hd:S.trail.drop i=l :: S.trail.drop (i+1):=by
   rw[l's hi];rw[l'c hi,l'a]at hl;rw[hl]
  rw[hd]at hst;unfold D'D at hst;obtain⟨v,hv⟩:∃v,S.vars[l/2]?=some v:=by
   cases hx:S.vars[l/2]? with
   | none=>rw[hx]at hst;simp at hst
   | some v=>exact⟨v,rfl⟩
  rw[hv]at hst;simp only at hst;have hvl:=(l'b.1 hv).1;obtain⟨bT,hvT,yT⟩:=x1.sT.blk (by omega) S.trail.length (by simp) (by omega);rw[hvT]at m7;have hcT:=yT.get i (ni l) (by rw[List.getElem?_map,hl];rfl);have k1c:=x1.getV (l/2) hv 1 (by omega);have hvr:(vrC v)[1]?=some (rv v.reason):=rfl;rw[hvr]at k1c;have hsh:=C'c l;have hvl':((l/2:Nat):Int)<S.vars.length:=by omega
  have hwi:=w'1 i;obtain⟨i',hi2⟩:=e' (i+1);rw[<-hi2]at hwi hst;have rb1:¬b1<ro:=by have:=y1.lo;omega
  generalize l/2=lh at *;refine f'f ?_
  cases hr:v.reason with
  | none=>
   rw[hr]at hst k1c;simp only[rv]at hst k1c;simp[G'S,ZjH,ZjI,ZjJ,ZjL,d0,d7,m6,m7,hi,hi',hcT,hsh,hvl,hvl',k1c,hwi];exact⟨n,by omega,by simp[d0],by simp[d3],i',st1,by simp,by omega,hst,hl1,y1,ch⟩
  | some k=>
   rw[hr]at hst k1c;simp only[rv]at hst k1c
   by_cases hks:k<st1.length
   ·rw[if_pos hks]at hst;have hkC:k<S.clauses.length:=by omega
    have hkC':(k:Int)<S.clauses.length:=by omega
    have hgl:k<(st1.map Value.bool).length:=by simpa using hks
    obtain⟨u,hu⟩:∃u,(st1.map Value.bool)[k]?=some u:=⟨_,l'c hgl⟩;have c2:=Ch.put L (K:=K2 k1 k2) y1 k hgl (.bool true) (.inl rfl);have z1:=y1.put L k hgl (.bool true);rw[<-List.map_set]at z1;have p1:=A'C (O:=O) (v:=.bool true) (y1.get k u hu);obtain⟨g1,hg1⟩:=e' (O.put g b1 k (.bool true));rw[<-hg1]at c2 z1 p1;have hne:((k:Int) != -1)=true:=bne_iff_ne.2 (by omega);simp[G'S,ZjH,ZjI,ZjJ,ZjK,ZjL,d0,d3,d7,m6,m7,hi,hi',hcT,hsh,hvl,hvl',k1c,hne,hkC,hkC',rb1,p1,hwi];exact⟨n,by omega,by simp[d0],by simp[d3],i',st1.set k true,by simp,by omega,hst,by simp[hl1],z1,ch.trans c2⟩
   ·rw[if_neg hks]at hst;simp at hst
theorem K'C (C:LP' O ro c)(L:O.Law)(x:SQ O ro w h q S bW bH bV vA vC vT vS vK lv wv)(hC:S.clauses.length<=1000000)(hC0:0<S.clauses.length)(hT:S.trail.length<=1000000)(hB:∀l∈S.trail,l<1000000)(hg:S.given<=S.clauses.length){rF:List Int}(hs:C'2 (S.clauses.drop S.given) (List.replicate 193 0)=some rF)(hrF:rF.length=193)(hrb:∀(i:Nat) (x:Int),(D'o rF 2000)[i]?=some x->0<=x∧x<=1000000){st0 st:List Bool}(h0:D'N S.clauses S.given S.clauses.length (D'o rF 2000) []=some st0)(h1:D'D S.vars S.trail st0=some st):
  ∃b1 k1 h' w',c 235 [ptr q] h=some (.slice (some ⟨b1,0,some 1⟩) S.clauses.length (S.clauses.length+1),h')∧st.length=S.clauses.length∧Bx O ro w' h' (14,k1) b1 (st.map .bool)∧(∀b,b<O.next h->w b≠((14,k1):Tag))∧Ch O (λ_=>False) w h w' h':=by
 obtain⟨Z,hZ⟩:∃Z:List Value,Z=List.replicate 193 (.int .i64 0):=⟨_,rfl⟩;have hR2:Zjz O ro=[to 15 (A'h (.tmp 0)),to 16 (A'e 239 [.tmp 15]),to 4 (B'o O Z),too (aSt O ro 193 (.tmp 4) (.tmp 16))]:=by rw[hZ];rfl
 have hZl:Z.length=193:=by rw[hZ];exact List.length_replicate
 obtain⟨N,hN⟩:=e' (S.clauses.length);obtain⟨k1,hk1⟩:=B'i w (O.next h);have n1:=Bx.new L (ro:=ro) w h x.lo (14,k1) (List.replicate N (.bool false));have c1:=Ch.new L (λ_=>False) w h (14,k1) (List.replicate N (.bool false));obtain⟨w1,hw1⟩:=e' (w.set (O.next h) (14,k1));obtain⟨b1,hb1⟩:=e' (O.next h);obtain⟨g1,hg1⟩:=e' (O.new h (List.replicate N (.bool false)));rw[<-hw1]at n1 c1;rw[<-hg1]at n1 c1;rw[<-hb1]at n1;have x1:=x.ch L c1;obtain⟨g2,w2,e2,c2⟩:=Q'k C L x1 hC hg hs;have x2:=x1.ch L c2;have n1a:=n1.ch L c2;obtain⟨k2,hk2⟩:=B'i w2 (O.next g2);have n2:=Bx.new L (ro:=ro) w2 g2 x2.lo (14,k2) Z;have c3:=Ch.new L (λ_=>False) w2 g2 (14,k2) Z;obtain⟨w3,hw3⟩:=e' (w2.set (O.next g2) (14,k2));obtain⟨b4,hb4⟩:=e' (O.next g2);obtain⟨g3,hg3⟩:=e' (O.new g2 Z);rw[<-hw3]at n2 c3;rw[<-hg3]at n2 c3;rw[<-hb4]at n2;have hkk:k1≠k2:=λe=>by
  have:=hk2 b1 (n1a.lt L);rw[n1a.tag,e]at this;exact this rfl
 have n1b:=n1a.ch L c3;have x3:=x2.ch L c3;have hcl:((D'o rF 2000).map iv).length=193:=by rw[List.length_map,E'8];exact hrF
 obtain⟨g4,e4,n4,c4⟩:=Bx.over L (K:=λu=>u=((14,k2):Tag)) rfl n2 (new:=(D'o rF 2000).map iv) (by rw[hcl,hZl]);have n1c:=n1b.ch L c4 (by simpa using hkk);have x4:=x3.ch L c4;have hfl:(∀v,v∈(D'o rF 2000).map iv->B'g v=true)=True:=eq_true λv hv=>by
  obtain⟨a,-,rfl⟩:=List.mem_map.1 hv;rfl
 have key:∃u h',c 235 [ptr q] h=some (u,h')∧(u = .slice (some ⟨b1,0,some 1⟩) S.clauses.length (S.clauses.length+1)∧st.length=S.clauses.length∧Bx O ro w3 h' (14,k1) b1 (st.map .bool)∧Ch O (K2 k1 k2) w3 g4 w3 h'):=by
  refine C.fn (Q'e O ro) rfl rfl ?_;unfold V'm;have m1:=x.m.get 1 _ rfl;obtain⟨bC,hvC,-⟩:=x.sC.blk (by omega) N (by rw[A'A clC 4 B'Q];simp[x.lC,hN]) (by omega);rw[hvC]at m1;have r1:=D'O (.bool false) N;have hbb:(N:Int)<=140737488355328:=by omega
  have hb3:N<=140737488355328:=by omega
  have rb4:¬b4<ro:=by have:=n2.lo;omega
  have m1':=x4.m.get 1 _ rfl;rw[hvC]at m1';have hwn:IntKind.i64.wrap ((N:Int)-1)=(N:Int)-1:=w'j;unfold ptr at e2;refine s'f ?_;simp[Zjx,A'c];refine s'f ?_;simp[-rangeA,Zjy,A'c,m1,r1,hbb,hb3,<-hg1,<-hb1];refine s'f ?_;rw[hR2];generalize hcL:(D'o rF 2000).map iv=cl at *;simp[A'c,e2,<-hg3,<-hb4,rb4,e4,hfl,hcl];refine okE.seq (s'f ?_);simp[ZjA,A'c,m1',hwn];refine okE.blk ?_;refine okE.mono (okE.loop (Q:=λe t' g'=>A'j 0 e = .normal∧sBQ O ro w3 g4 q S b1 k1 k2 st0 t' g') (sB O ro w3 g4 q S b1 b4 k1 k2 st0) (λn t g I=>Q'l L x4 hkk hC I) N _ _ ⟨by simp,by simp[hN],by simp,by simp,by omega,D'o rF 2000,[],by rw[hN];exact h0,by rw[E'8];exact hrF,by simp[hN],λi y hy=>by
   have:=hrb i y hy;omega,by rw[List.append_nil,List.map_replicate];exact n1c,by rw[hcL];exact n4,Ch.refl _ _ _⟩) ?_
  rintro e t g ⟨hr,d0,d3,hl,yb,ch⟩;rw[hr];simp only[A'c];refine okE.seq (s'f ?_);simp[ZjG,A'c];refine okE.blk ?_;refine okE.mono (okE.loop (Q:=λe t' g'=>A'j 2 e = .normal∧sBQ O ro w3 g4 q S b1 k1 k2 st t' g') (sC O ro w3 g4 q S b1 k1 k2 st) (λn t g I=>Q'm L x4 hC hT hB I) S.trail.length _ _ ⟨by simp[d0],by simp[d3],0,st0,by simp,by omega,by simpa using h1,hl,yb,ch⟩) ?_;rintro e t g ⟨hr,d0,d3,hl,yb,ch⟩;rw[hr];simp only[A'c];refine f'f ?_;simp[ZjM,d3,A'1,A'i,rvE];exact⟨hl,yb,ch⟩
 obtain⟨u,h',e1,rfl,hl,yb,ch⟩:=key;refine⟨b1,k1,h',w3,e1,hl,yb,hk1,?_⟩;have f2:∀b,b<O.next h->w b≠((14,k2):Tag):=λb hb=>by
  have h3:=hk2 b (Nat.lt_of_lt_of_le hb (c1.trans c2).nx);rw[(c1.trans c2).ow b hb]at h3;exact h3
 have c5:=((c1.trans c2).trans c3).own (k:=0) c4 f2;refine⟨l'G c5.nx ch.nx,λb hb=>?_,λb hb _=>?_⟩
 ·rw[ch.ow b (Nat.lt_of_lt_of_le hb c5.nx),c5.ow b hb]
 ·have q1:=c5.fr b hb (by simp);have q2:=ch.fr b (Nat.lt_of_lt_of_le hb c5.nx) (by
   rw[c5.ow b hb];rintro (h|h)
   ·exact hk1 b hb h
   ·exact f2 b hb h)
  exact⟨λo=>by rw[q2.1,q1.1],by rw[q2.2,q1.2]⟩
def wZ (S:Srch)(i:Nat): Srch:={ S with watchers:=(S.watchers.take i).map (λ_=>[])++S.watchers.drop i }
def aB (O:HI H)(ro:Nat)(w:Own)(h:H)(q:Nat)(S:Srch)(bW bH bV:Nat)(vA vC vT vS vK:Value)(lv:List Value)(n:Nat)(t:Env)(g:H): Prop:=
 t 0 = .pointer (some ⟨q,0,none⟩)∧∃i wv1,t 2=ni i∧i+n=S.watchers.length∧SQ O ro w g q (wZ S i) bW bH bV vA vC vT vS vK lv wv1∧Ch O K11 w h w g
theorem Q'n (L:O.Law)(hW:S.watchers.length<most){n:Nat}{t:Env}{g:H}(I:aB O ro w h q S bW bH bV vA vC vT vS vK lv n t g):
  okE c (G'T O Tryz.prog ro) (t,g) (λe t' g'=>(e = .normal∧∃n',n'<n∧aB O ro w h q S bW bH bV vA vC vT vS vK lv n' t' g')∨(e≠.normal∧(A'j 0 e = .normal∧t' 0 = .pointer (some ⟨q,0,none⟩)∧∃wv1,SQ O ro w g' q (wZ S S.watchers.length) bW bH bV vA vC vT vS vK lv wv1∧Ch O K11 w h w g'))):=by
 have hm:most=1000000:=rfl;obtain⟨d0,i,wv1,d2,hin,x,ch⟩:=I;have hzl:(wZ S i).watchers.length=S.watchers.length:=by simp[wZ];omega
 have m4:=x.m.get 4 _ rfl;rw[hzl]at m4
 cases n with
 | zero=>
  have hi:i=S.watchers.length:=by omega
  subst hi;refine f'f ?_;simp[G'T,ZjO,d0,d2,m4];exact⟨⟨wv1,x⟩,ch⟩
 | succ n=>
  have hi:i<S.watchers.length:=by omega
  have hi':(i:Int)<S.watchers.length:=by omega
  obtain⟨l,hl⟩:∃l,(wZ S i).watchers[i]?=some l:=⟨_,l'c (by omega)⟩;obtain⟨v,hv,cv,sv⟩:=x.getW i hl;have hwi:=w'1 i;obtain⟨i',hi2⟩:=e' (i+1);rw[<-hi2]at hwi;have rbW:¬bW<ro:=by have:=x.xW.lo;omega
  have hnext:({ wZ S i with watchers:=(wZ S i).watchers.set i [] }:Srch)=wZ S i':=by
   unfold wZ;simp only;congr 1;have h1:i-(List.map (λ_=>([]:List Nat)) (List.take i S.watchers)).length=0:=by rw[List.length_map,List.length_take];omega
   rw[List.set_append_right _ _ (by rw[List.length_map,List.length_take];omega),h1,l's hi,hi2,l'C,l'c hi,List.map_append,List.append_assoc];rfl
  rcases sv.take (by omega) l.length 0 (by simp) (by omega) with ⟨rfl,-,hl0,hl1⟩|⟨b,rfl,sz⟩
  ·obtain⟨g1,e1,x1,c1⟩:=x.setW L i (l:=[]) (v:=.slice none 0 0) (by omega) (.inl ⟨rfl,rfl⟩);rw[hnext]at x1;refine f'f ?_;simp[G'T,ZjO,ZjP,ZjQ,d0,d2,m4,hi,hi',cv,rbW,e1,hwi];exact⟨n,by omega,by simp[d0],i',_,by simp,by omega,x1,ch.trans c1⟩
  ·rw[Nat.zero_mul,List.take_zero]at sz;obtain⟨g1,e1,x1,c1⟩:=x.setW L i (l:=[]) (by omega) sz;rw[hnext]at x1;refine f'f ?_;simp[G'T,ZjO,ZjP,ZjQ,d0,d2,m4,hi,hi',cv,rbW,e1,hwi];exact⟨n,by omega,by simp[d0],i',_,by simp,by omega,x1,ch.trans c1⟩
def aC (O:HI H)(ro:Nat)(w:Own)(h:H)(q:Nat)(S S':Srch)(bW bH bV:Nat)(vA vC vT vS vK:Value)(lv:List Value)(n:Nat)(t:Env)(g:H): Prop:=
 t 0 = .pointer (some ⟨q,0,none⟩)∧∃k S2 wv2 w2,t 3=ni k∧k+n=S.clauses.length∧E'B n k S2=some S'∧S2.clauses=S.clauses∧S2.watchers.length=S.watchers.length∧SQ O ro w2 g q S2 bW bH bV vA vC vT vS vK lv wv2∧Ch O K11 w h w2 g
theorem Q'o (C:LP' O ro c)(L:O.Law){S':Srch}(hC:S.clauses.length<=most)(hL:∀y∈S.clauses,y.lits.length<=most)(hW:S.watchers.length<most){n:Nat}{t:Env}{g:H}(I:aC O ro w h q S S' bW bH bV vA vC vT vS vK lv n t g):
  okE c (G'U O Tryz.prog ro) (t,g) (λe t' g'=>(e = .normal∧∃n',n'<n∧aC O ro w h q S S' bW bH bV vA vC vT vS vK lv n' t' g')∨(e≠.normal∧(A'j 2 e = .normal∧∃wv2 w2,SQ O ro w2 g' q S' bW bH bV vA vC vT vS vK lv wv2∧Ch O K11 w h w2 g'))):=by
 have hm:most=1000000:=rfl;obtain⟨d0,k,S2,wv2,w2,d3,hkn,ha,hcl,hwl,x,ch⟩:=I;have m1:=x.m.get 1 _ rfl
 cases n with
 | zero=>
  have hk:k=S.clauses.length:=by omega
  simp only[E'B,l'a]at ha;subst ha;obtain⟨aC',cC',hvC⟩:=x.sC.m.len (by omega) S2.clauses.length (by rw[A'A clC 4 B'Q];simp[x.lC]);rw[hvC,hcl]at m1;rw[hk]at d3;refine f'f ?_;simp[G'U,ZjS,d0,d3,m1];exact⟨wv2,w2,x,ch⟩
 | succ n=>
  have hk:k<S.clauses.length:=by omega
  have hk':(k:Int)<S.clauses.length:=by omega
  obtain⟨y,hy⟩:∃y,S2.clauses[k]?=some y:=⟨_,l'c (by rw[hcl];exact hk)⟩;obtain⟨bC,v,hvC,yC,hv,sv,hc0,-,-,-⟩:=x.getC k hy;rw[hvC,hcl]at m1;obtain⟨aL,cL,hvl⟩:=sv.len (by omega) y.lits.length (by simp);rw[hvl]at hc0;unfold E'B at ha;rw[hy]at ha;simp only at ha;have hyl:=hL y (by rw[<-hcl];exact l'f hy);have hwi:=w'1 k;obtain⟨k',hk2⟩:=e' (k+1);rw[<-hk2]at hwi ha
  by_cases hl:1<y.lits.length
  ·rw[if_pos hl]at ha;have hl':(1:Int)<y.lits.length:=by omega
   cases he:C'C S2 k with
   | none=>rw[he]at ha;simp at ha
   | some S3=>
    rw[he]at ha;simp only at ha;obtain⟨q1,q2⟩:=K'D he;obtain⟨wv3,g3,w3,e3,x3,c3⟩:=K'x C L x k he (by rw[hcl];omega) (by rw[hwl];exact hW);unfold ptr at e3;refine f'f ?_;simp[G'U,ZjS,ZjT,ZjU,ZjV,d0,d3,m1,hk,hk',hc0,hl,hl',e3,hwi];exact⟨n,by omega,by simp[d0],k',S3,wv3,w3,by simp,by omega,ha,by rw[q1];exact hcl,by rw[q2];exact hwl,x3,ch.trans c3⟩
  ·rw[if_neg hl]at ha;have hl':¬(1:Int)<y.lits.length:=by omega
   refine f'f ?_;simp[G'U,ZjS,ZjT,ZjV,d0,d3,m1,hk,hk',hc0,hl,hl',hwi];exact⟨n,by omega,by simp[d0],k',S2,wv2,w2,by simp,by omega,ha,hcl,hwl,x,ch⟩
theorem S'P (C:LP' O ro c)(L:O.Law)(x:SQ O ro w h q S bW bH bV vA vC vT vS vK lv wv){S':Srch}(hC:S.clauses.length<=most)(hL:∀y∈S.clauses,y.lits.length<=most)(hW:S.watchers.length<most)(hs:E'B S.clauses.length 0 { S with watchers:=S.watchers.map λ_=>[] } = some S'):
  ∃wv' h' w',c 236 [ptr q] h=some (.tuple #[],h')∧SQ O ro w' h' q S' bW bH bV vA vC vT vS vK lv wv'∧Ch O K11 w h w' h':=by
 have key:∃u h',c 236 [ptr q] h=some (u,h')∧(u = .tuple #[]∧∃wv' w',SQ O ro w' h' q S' bW bH bV vA vC vT vS vK lv wv'∧Ch O K11 w h w' h'):=by
  refine C.fn (Q'f O ro) rfl rfl ?_;unfold V'n;refine okE.seq (s'f ?_);simp[ZjN,A'c];refine okE.blk ?_;have hz0:wZ S 0=S:=by simp[wZ]
  have hzE:wZ S S.watchers.length = { S with watchers:=S.watchers.map λ_=>[] }:=by simp[wZ]
  refine okE.mono (okE.loop (Q:=λe t' g'=>A'j 0 e = .normal∧t' 0 = .pointer (some ⟨q,0,none⟩)∧∃wv1,SQ O ro w g' q (wZ S S.watchers.length) bW bH bV vA vC vT vS vK lv wv1∧Ch O K11 w h w g') (aB O ro w h q S bW bH bV vA vC vT vS vK lv) (λn t g I=>Q'n L hW I) S.watchers.length _ _ ⟨by simp,0,wv,by simp,by omega,by rw[hz0];exact x,Ch.refl _ _ _⟩) ?_;rintro e t g ⟨hr,d0,wv1,x1,ch⟩;rw[hr];simp only[A'c];rw[hzE]at x1;refine s'f ?_;simp[ZjR,A'c];refine okE.blk ?_;refine okE.mono (okE.loop (Q:=λe t' g'=>A'j 2 e = .normal∧∃wv2 w2,SQ O ro w2 g' q S' bW bH bV vA vC vT vS vK lv wv2∧Ch O K11 w h w2 g') (aC O ro w h q S S' bW bH bV vA vC vT vS vK lv) (λn t g I=>Q'o C L hC hL hW I) S.clauses.length _ _ ⟨by simp[d0],0,_,wv1,w,by simp,by omega,hs,rfl,by simp,x1,ch⟩) ?_;rintro e t g ⟨hr,wv2,w2,x2,ch2⟩;rw[hr];simp[A'1,A'i];exact⟨wv2,w2,x2,ch2⟩
 obtain⟨u,h',e1,rfl,wv',w',x',c'⟩:=key;exact⟨wv',h',w',e1,x',c'⟩
end
theorem K'E {α:Type}(f:α->List Value)(k:Nat)(hf:∀x,(f x).length=k): ∀(l:List α) (j:Nat),j<l.length->∀y,(l.flatMap f).take (j*k)++f y++(l.flatMap f).drop (j*k+k)=(l.set j y).flatMap f:=by
 intro l
 induction l with
 | nil=>intro j hj;simp at hj
 | cons a l ih=>
  intro j hj y
  cases j with
  | zero=>
   simp only[Nat.zero_mul,List.take_zero,List.nil_append,l'F,List.set_cons_zero,List.flatMap_cons];rw[List.drop_append_of_le_length (by rw[hf];exact l'H _),List.drop_of_length_le (by rw[hf];exact l'H _),List.nil_append]
  | succ j=>
   have h1:=ih j (by simpa using hj) y;simp only[List.set_cons_succ,List.flatMap_cons];have e1:(j+1)*k=k+j*k:=by rw[Nat.succ_mul];omega
   rw[e1,<-h1,List.take_append,List.drop_append,hf,List.take_of_length_le (by rw[hf];omega),List.drop_of_length_le (by rw[hf];omega)];simp only[List.nil_append,List.append_assoc];rw[show k+j*k-k=j*k by omega,show k+j*k+k-k=j*k+k by omega]
section
variable {H:Type}{O:HI H}{ro:Nat}{c:A'Z H}
variable {w w':Own}{h h':H}{q:Nat}{S:Srch}{bW bH bV:Nat}{vA vC vT vS vK:Value}{lv wv:List Value}
theorem SQ.putAll (L:O.Law)(x:SQ O ro w h q S bW bH bV vA vC vT vS vK lv wv)(j:Nat)(hj:j<S.clauses.length){b:Nat}(hb:vC = .slice (some ⟨b,0,some 4⟩) S.clauses.length 0)(z:Cl){v:Value}(sv:Sm O ro w h (9,0) 1 v (z.lits.map ni)):
  ∃h1,A'8 O h b (j*4) [v,ni z.left,ni z.right,ni z.span]=some h1∧SQ O ro w h1 q { S with clauses:=S.clauses.set j z } bW bH bV vA vC vT vS vK (lv.set j v) wv∧Ch O (λu=>u=((11,1):Tag)) w h w h1:=by
 have hz:(lv.zip S.clauses).length=S.clauses.length:=by simp[x.lC]
 have hlen:((lv.zip S.clauses).flatMap clC).length=S.clauses.length*4:=by rw[A'A clC 4 B'Q,hz]
 obtain⟨b',hb',y0⟩:=x.sC.blk (by omega) S.clauses.length hlen (by omega);have hbb:b'=b:=by rw[hb]at hb';simp at hb';exact hb'.symm
 subst hbb;obtain⟨h1,e1,e2,e3⟩:=Bx.puts L (K:=λu=>u=((11,1):Tag)) (ro:=ro) rfl [v,ni z.left,ni z.right,ni z.span] (j*4) h _ y0 (by rw[hlen];simp;omega);have hf:((lv.zip S.clauses).flatMap clC).take (j*4)++[v,ni z.left,ni z.right,ni z.span]++((lv.zip S.clauses).flatMap clC).drop (j*4+[v,ni z.left,ni z.right,ni z.span].length)=((lv.set j v).zip (S.clauses.set j z)).flatMap clC:=by
  have:=K'E clC 4 B'Q (lv.zip S.clauses) j (by rw[hz];exact hj) (v,z);have h2:(lv.zip S.clauses).set j (v,z)=(lv.set j v).zip (S.clauses.set j z):=by
   apply List.ext_getElem
   ·simp
   ·intro i g1 g2;simp only[List.getElem_set,List.getElem_zip];split <;> rfl
  rw[h2]at this;exact this
 rw[hf]at e2;have m0:=x.m.ch L e3;refine⟨h1,e1,⟨?_,x.sA.ch L e3,?_,by simp[x.lC],λk y u g1 g2=>?_,x.xW.ch L e3,x.lW,λi l v h1 h2=>(x.aW i l v h1 h2).ch L e3,x.xH.ch L e3,x.xV.ch L e3,x.sT.ch L e3,x.sS.ch L e3,x.sK.ch L e3,l'G x.lo e3.nx⟩,e3⟩
 ·exact m0
 ·rw[hb];exact .inr ⟨_,S.clauses.length,rfl,by rw[A'A clC 4 B'Q];simp[x.lC],e2⟩
 ·simp only at g1
  by_cases e:k=j
  ·subst e;rw[l'g hj]at g1;rw[l'g (by rw[x.lC];exact hj)]at g2;simp only[l'a]at g1 g2;subst g1 g2;exact sv.ch L e3
  ·rw[l'h (λh=>e h.symm)]at g1 g2;exact (x.aC k y u g1 g2).ch L e3
theorem SQ.takeC (L:O.Law)(x:SQ O ro w h q S bW bH bV vA vC vT vS vK lv wv){k b:Nat}(hk:k<=S.clauses.length)(hb:vC = .slice (some ⟨b,0,some 4⟩) S.clauses.length 0):
  ∃h1,A'8 O h q 1 [.slice (some ⟨b,0,some 4⟩) k 0]=some h1∧SQ O ro w h1 q { S with clauses:=S.clauses.take k } bW bH bV vA (.slice (some ⟨b,0,some 4⟩) k 0) vT vS vK (lv.take k) wv∧Ch O K11 w h w h1:=by
 have hz:(lv.zip S.clauses).length=S.clauses.length:=by simp[x.lC]
 have hlen:((lv.zip S.clauses).flatMap clC).length=S.clauses.length*4:=by rw[A'A clC 4 B'Q,hz]
 have c2:=Ch.put L (K:=λu=>u=((11,1000):Tag)) x.m 1 (by simp) (.slice (some ⟨b,0,some 4⟩) k 0) rfl;have m2:=x.m.put L 1 (by simp) (.slice (some ⟨b,0,some 4⟩) k 0);have sC:Sz O ro w h (11,1) 4 (.slice (some ⟨b,0,some 4⟩) k 0) (((lv.take k).zip (S.clauses.take k)).flatMap clC):=by
  have hfl:((lv.take k).zip (S.clauses.take k)).flatMap clC=((lv.zip S.clauses).flatMap clC).take (k*4):=by
   have h1:lv.zip S.clauses=(lv.take k).zip (S.clauses.take k)++(lv.drop k).zip (S.clauses.drop k):=by
    rw[<-List.zip_append (by simp[x.lC]),List.take_append_drop,List.take_append_drop]
   have hA:((lv.take k).zip (S.clauses.take k)).length=k:=by simp[x.lC];omega
   rw[h1];generalize (lv.take k).zip (S.clauses.take k)=A at *;have hAl:(A.flatMap clC).length=k*4:=by rw[A'A clC 4 B'Q,hA]
   rw[List.flatMap_append,List.take_append_of_le_length (by omega),List.take_of_length_le (by omega)]
  rw[hfl];rcases x.sC.take (by omega) S.clauses.length k hlen hk with ⟨hv,hk0,-,hl⟩|⟨b',hv,s⟩
  ·rw[hb]at hv;simp at hv
  ·rw[hb]at hv;simp at hv;subst hv;exact s
 refine⟨_,A'C (x.m.get 1 _ rfl),⟨m2,x.sA.ch L c2,sC.ch L c2,by simp[x.lC],λj y u g1 g2=>?_,x.xW.ch L c2,x.lW,λi l v h1 h2=>(x.aW i l v h1 h2).ch L c2,x.xH.ch L c2,x.xV.ch L c2,x.sT.ch L c2,x.sS.ch L c2,x.sK.ch L c2,l'G x.lo c2.nx⟩,c2.mono (λt ht=>by rw[ht];exact .inl rfl)⟩;simp only at g1;have hjk:j<k:=by
  have:=(l'b.1 g1).1;simp at this;omega
 rw[l'j hjk]at g1 g2;exact (x.aC j y u g1 g2).ch L c2
def K5 (k5:Nat)(u:Tag): Prop:=K11 u∨u=(14,k5)
def mB (O:HI H)(ro:Nat)(w:Own)(h:H)(q:Nat)(S:Srch)(bW bH bV:Nat)(vA vC vT vS vK:Value)(wv:List Value)(b1 b5 k1 k5:Nat)(st:List Bool)(n:Nat)(t:Env)(g:H): Prop:=
 t 0 = .pointer (some ⟨q,0,none⟩)∧t 2 = .slice (some ⟨b1,0,some 1⟩) S.clauses.length (S.clauses.length+1)∧t 3 = .slice (some ⟨b5,0,some 1⟩) S.clauses.length (S.clauses.length+1) ∧
 ∃(k:Nat)(M:List Cl)(V:List Value)(P:List Nat),t 4=ni (B'm st k)∧t 5=ni k∧k+n=S.clauses.length∧M.length=S.clauses.length∧M.take (B'm st k)=B'v (S.clauses.take k) (st.take k)∧(∀j,k<=j->M[j]?=S.clauses[j]?)∧P.length=S.clauses.length∧(∀j,j<k->st[j]?=some true->P[j]?=some (B'm st j)) ∧
 SQ O ro w g q { S with clauses:=M } bW bH bV vA vC vT vS vK V wv∧Bx O ro w g (14,k1) b1 (st.map .bool)∧Bx O ro w g (14,k5) b5 (P.map ni)∧Ch O (K5 k5) w h w g
def mBQ (O:HI H)(ro:Nat)(w:Own)(h:H)(q:Nat)(S:Srch)(bW bH bV:Nat)(vA vC vT vS vK:Value)(wv:List Value)(b5 k5:Nat)(st:List Bool)(t:Env)(g:H): Prop:=
 t 0 = .pointer (some ⟨q,0,none⟩)∧t 3 = .slice (some ⟨b5,0,some 1⟩) S.clauses.length (S.clauses.length+1) ∧
 ∃(M:List Cl)(V:List Value)(P:List Nat),t 4=ni (B'm st S.clauses.length)∧M.length=S.clauses.length∧M.take (B'm st S.clauses.length)=B'v S.clauses st∧P.length=S.clauses.length∧(∀j:Nat,st[j]?=some true->P[j]?=some (B'm st j)) ∧
 SQ O ro w g q { S with clauses:=M } bW bH bV vA vC vT vS vK V wv∧Bx O ro w g (14,k5) b5 (P.map ni)∧Ch O (K5 k5) w h w g
theorem Q'p (L:O.Law){b1 b5 k1 k5 n:Nat}(hkk:k1≠k5){st:List Bool}(hC:S.clauses.length<=1000000)(hst:st.length=S.clauses.length){t:Env}{g:H}(I:mB O ro w h q S bW bH bV vA vC vT vS vK wv b1 b5 k1 k5 st n t g):
  okE c (G'M O Tryz.prog ro) (t,g) (λe t' g'=>(e = .normal∧∃n',n'<n∧mB O ro w h q S bW bH bV vA vC vT vS vK wv b1 b5 k1 k5 st n' t' g')∨(e≠.normal∧(A'j 0 e = .normal∧mBQ O ro w h q S bW bH bV vA vC vT vS vK wv b5 k5 st t' g'))):=by
 obtain⟨d0,d2,d3,k,M,V,P,d4,d5,hkn,hMl,hMt,hMj,hPl,hPj,x,y1,y5,ch⟩:=I;have m1:=x.m.get 1 _ rfl
 cases n with
 | zero=>
  have hk:k=S.clauses.length:=by omega
  obtain⟨aC,cC,hvC⟩:=x.sC.m.len (by omega) S.clauses.length (by rw[A'A clC 4 B'Q];have:=x.lC;simp only at this;simp[this,hMl]);rw[hvC]at m1;rw[hk]at d5;refine f'f ?_;simp[G'M,Zi8,d0,d5,m1];have t2:st.take S.clauses.length=st:=List.take_of_length_le (by omega);rw[hk,List.take_length,t2]at hMt;refine⟨d0,d3,M,V,P,by rw[<-hk];exact d4,hMl,hMt,hPl,λj hj=>hPj j ?_ hj,x,y5,ch⟩;have:=(l'b.1 hj).1;omega
 | succ n=>
  have hk:k<S.clauses.length:=by omega
  have hk':(k:Int)<S.clauses.length:=by omega
  obtain⟨bs,hbs⟩:∃b,st[k]?=some b:=⟨_,l'c (by omega)⟩;obtain⟨y,hy⟩:∃y,S.clauses[k]?=some y:=⟨_,l'c hk⟩;have hyM:M[k]?=some y:=by rw[hMj k (l'H _)];exact hy
  have hc1:=y1.get k (.bool bs) (by rw[List.getElem?_map,hbs];rfl);obtain⟨bC,v,hvC,yC,hv,sv,c0,c1,c2,c3⟩:=x.getC k (y:=y) hyM;simp only[hMl]at hvC;rw[hvC]at m1;have hple:=E'9 st k;have hps:=H'K hbs;have htk:S.clauses.take (k+1)=S.clauses.take k++[y]:=by rw[l'C,hy];rfl
  have hsk:st.take (k+1)=st.take k++[bs]:=by rw[l'C,hbs];rfl
  have hkeep:B'v (S.clauses.take (k+1)) (st.take (k+1))=B'v (S.clauses.take k) (st.take k)++if bs then [y] else []:=by rw[htk,hsk,J'g _ _ _ _ (by simp;omega)]
  have hwi:=w'1 k;have hwp:IntKind.i64.wrap ((B'm st k:Int)+1)=((B'm st k+1:Nat):Int):=w'i;obtain⟨k',hk2⟩:=e' (k+1);rw[<-hk2]at hwi hps hkeep
  cases bs with
  | false=>
   simp only[l'y,if_false,Nat.add_zero,List.append_nil]at hps hkeep;refine f'f ?_;simp[G'M,Zi8,Zi9,Zjd,d0,d2,d5,m1,hk,hk',hc1,hwi];refine⟨n,by omega,by simp[d0],by simp[d2],by simp[d3],k',M,V,P,by simp[d4,hps],by simp,by omega,hMl,by rw[hps,hkeep];exact hMt,λj hj=>hMj j (by omega),hPl,λj hj hs=>?_,x,y1,y5,ch⟩
   by_cases e:j=k
   ·subst e;rw[hbs]at hs;simp at hs
   ·exact hPj j (by omega) hs
  | true=>
   simp only[if_true]at hps hkeep;obtain⟨cn,hcn⟩:=e' (B'm st k);obtain⟨cn',hcn'⟩:=e' (cn+1);rw[<-hcn]at d4 hMt hple hps hwp;rw[<-hcn']at hps hwp;have hcl:cn<S.clauses.length:=by omega
   have hcl':(cn:Int)<S.clauses.length:=by omega
   have hcells:cellsA O g bC (k*4) 4=some [v,ni y.left,ni y.right,ni y.span]:=by
    refine B'4 4 (k*4) _ rfl λi hi=>?_;rcases (show i=0∨i=1∨i=2∨i=3 by omega) with rfl|rfl|rfl|rfl
    ·exact c0
    ·exact c1
    ·exact c2
    ·exact c3
   obtain⟨g1,e1,x1,ch1⟩:=x.putAll L cn (by simp only[hMl];exact hcl) (by simp only[hMl];exact hvC) y sv;have z5:=y5.ch L ch1;have z1:=y1.ch L ch1;have hg5:k<(P.map ni).length:=by simp[hPl];exact hk
   obtain⟨u,hu⟩:∃u,(P.map ni)[k]?=some u:=⟨_,l'c hg5⟩;have ch2:=Ch.put L (K:=λu=>u=((14,k5):Tag)) z5 k hg5 (ni cn) rfl;have z6:=z5.put L k hg5 (ni cn);rw[<-List.map_set]at z6;have p2:=A'C (O:=O) (v:=ni cn) (z5.get k u hu);obtain⟨g2,hg2⟩:=e' (O.put g1 b5 k (ni cn));rw[<-hg2]at ch2 z6 p2;have x2:=x1.ch L ch2;have z2:=z1.ch L ch2 (by simpa using hkk);have rbC:¬bC<ro:=by have:=yC.lo;omega
   have rb5:¬b5<ro:=by have:=y5.lo;omega
   obtain⟨fv1,fv2,-⟩:=sv.flat;have hch:Ch O (K5 k5) w h w g2:=(ch.trans (ch1.mono λt ht=>by rw[ht];exact .inl (.inl rfl))).trans (ch2.mono λt ht=>.inr ht);refine f'f ?_;simp[G'M,Zi8,Zi9,Zja,Zjb,Zjc,Zjd,d0,d2,d3,d4,d5,m1,hk,hk',hcl,hcl',hc1,hcells,fv2,rbC,e1,rb5,p2,hwi,hwp];refine⟨n,by omega,by simp[d0],by simp[d2],by simp[d3],k',M.set cn y,V.set cn v,P.set k cn,by simp[hps],by simp,by omega,by simp[hMl],?_,λj hj=>?_,by simp[hPl],λj hj hs=>?_,x2,z2,z6,hch⟩
   ·rw[hps,hkeep,hcn',l'C,l'g (by rw[hMl];exact hcl),List.take_set_of_le (l'H _),hMt];rfl
   ·rw[l'h (by omega)];exact hMj j (by omega)
   ·by_cases e:j=k
    ·subst e;rw[l'g (by rw[hPl];exact hk),hcn]
    ·rw[l'h (λh=>e h.symm)];exact hPj j (by omega) hs
def mC (O:HI H)(ro:Nat)(w:Own)(h:H)(q:Nat)(S:Srch)(bW bH bV:Nat)(vA vC vT vS vK:Value)(lv wv:List Value)(b5 N k5:Nat)(st:List Bool)(P:List Nat)(vF:List Vr)(n:Nat)(t:Env)(g:H): Prop:=
 t 0 = .pointer (some ⟨q,0,none⟩)∧t 3 = .slice (some ⟨b5,0,some 1⟩) N (N+1)∧∃(i:Nat)(vs:List Vr),t 6=ni i∧i+n=S.trail.length∧D'5 st (S.trail.drop i) vs=some vF ∧
 SQ O ro w g q { S with vars:=vs } bW bH bV vA vC vT vS vK lv wv∧Bx O ro w g (14,k5) b5 (P.map ni)∧Ch O (K5 k5) w h w g
theorem Q'q (L:O.Law){b5 N k5 n:Nat}{st:List Bool}{P:List Nat}{vF:List Vr}(hN:N<=1000000)(hPl:P.length=N)(hP:∀j:Nat,st[j]?=some true->P[j]?=some (B'm st j))(hT:S.trail.length<=1000000)(hB:∀l∈S.trail,l<1000000){t:Env}{g:H}(I:mC O ro w h q S bW bH bV vA vC vT vS vK lv wv b5 N k5 st P vF n t g):
  okE c (G'N O Tryz.prog ro) (t,g) (λe t' g'=>(e = .normal∧∃n',n'<n∧mC O ro w h q S bW bH bV vA vC vT vS vK lv wv b5 N k5 st P vF n' t' g')∨(e≠.normal∧(A'j 2 e = .normal∧t' 0 = .pointer (some ⟨q,0,none⟩)∧SQ O ro w g' q { S with vars:=vF } bW bH bV vA vC vT vS vK lv wv∧Ch O (K5 k5) w h w g'))):=by
 obtain⟨d0,d3,i,vs,d6,hin,hmv,x,y5,ch⟩:=I;have m6:=x.m.get 6 _ rfl;have m7:=x.m.get 7 _ rfl;simp only at m6 m7
 cases n with
 | zero=>
  have hi:i=S.trail.length:=by omega
  rw[hi,List.drop_length]at hmv;simp only[D'5,l'a]at hmv;subst hmv;obtain⟨aT,cT,hvT⟩:=x.sT.m.len (by omega) S.trail.length (by simp);rw[hvT]at m7;rw[hi]at d6;refine f'f ?_;simp[G'N,Zjg,d0,d6,m7];exact⟨x,ch⟩
 | succ n=>
  have hi:i<S.trail.length:=by omega
  have hi':(i:Int)<S.trail.length:=by omega
  obtain⟨l,hl⟩:∃l,S.trail[i]?=some l:=⟨_,l'c hi⟩;have hlb:=hB l (l'f hl);have hd:S.trail.drop i=l :: S.trail.drop (i+1):=by
   rw[l's hi];rw[l'c hi,l'a]at hl;rw[hl]
  rw[hd]at hmv;unfold D'5 at hmv;obtain⟨v,hv⟩:∃v,vs[l/2]?=some v:=by
   cases hx:vs[l/2]? with
   | none=>rw[hx]at hmv;simp at hmv
   | some v=>exact⟨v,rfl⟩
  rw[hv]at hmv;simp only at hmv;have hvl:=(l'b.1 hv).1;obtain⟨bT,hvT,yT⟩:=x.sT.blk (by omega) S.trail.length (by simp) (by omega);rw[hvT]at m7;have hcT:=yT.get i (ni l) (by rw[List.getElem?_map];simp only;rw[hl];rfl);have k1c:=x.getV (l/2) (y:=v) hv 1 (by omega);have hvr:(vrC v)[1]?=some (rv v.reason):=rfl;rw[hvr]at k1c;have hsh:=C'c l;have hvl':((l/2:Nat):Int)<vs.length:=by omega
  have hwi:=w'1 i;obtain⟨i',hi2⟩:=e' (i+1);rw[<-hi2]at hwi hmv;obtain⟨lh,hlh⟩:=e' (l/2);rw[<-hlh]at hmv hv hvl k1c hsh hvl'
  cases hr:v.reason with
  | none=>
   rw[hr]at hmv k1c;simp only[rv]at hmv k1c;refine f'f ?_;simp[G'N,Zjg,Zjh,Zji,Zjk,d0,d6,m6,m7,hi,hi',hcT,hsh,hvl,hvl',k1c,hwi];exact⟨n,by omega,by simp[d0],by simp[d3],i',vs,by simp,by omega,hmv,x,y5,ch⟩
  | some k=>
   rw[hr]at hmv k1c;simp only[rv]at hmv k1c
   by_cases hks:st[k]?=some true
   ·rw[if_pos hks]at hmv;have hpk:=hP k hks;have hkN:k<N:=by rw[<-hPl];exact (l'b.1 hpk).1
    have hkN':(k:Int)<N:=by omega
    have hcp:=y5.get k (ni (B'm st k)) (by rw[List.getElem?_map,hpk];rfl);obtain⟨g1,e1,x1,c1⟩:=x.putV L lh (y:=v) hv 1 (by omega) (ni (B'm st k)) { v with reason:=some (B'm st k) } rfl;have z5:=y5.ch L c1 (by simp[K11]);have rbV:¬bV<ro:=by have:=x.xV.lo;omega
    have hne:((k:Int) != -1)=true:=bne_iff_ne.2 (by omega);generalize B'm st k=pk at *;refine f'f ?_;simp[G'N,Zjg,Zjh,Zji,Zjj,Zjk,d0,d3,d6,m6,m7,hi,hi',hcT,hsh,hvl,hvl',k1c,hne,hkN,hkN',hcp,rbV,e1,hwi];exact⟨n,by omega,by simp[d0],by simp[d3],i',_,by simp,by omega,hmv,x1,z5,ch.trans (c1.mono λt ht=>.inl ht)⟩
   ·rw[if_neg hks]at hmv;simp at hmv
end
end Go.Proofs.YtimdkminagnhgaaGreatDoor
