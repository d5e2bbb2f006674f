import Derived.Test.YtimdkminagnhgabGreatDoorQ14
import Derived.Test.YtimdkminagnhgabGreatDoorQ15
import Derived.Test.YtimdkminagnhgabGreatDoorQ16
set_option linter.all false
namespace Go.Proofs.YtimdkminagnhgabGreatDoor
open Go.Vm Go.Proofs Go.Ta
set_option maxHeartbeats 1000000
abbrev ni (n:Nat): Value:=.int .i64 (n:Int)
def rv: Option Nat->Value
 | none=>.int .i64 (-1)
 | some k=>.int .i64 (k:Int)
section
variable {H:Type}{O:HI H}{ro:Nat}{c:A'X H}
def Sm (O:HI H)(ro:Nat)(w:Own)(h:H)(t:Tag)(sz:Nat)(v:Value)(l:List Value): Prop:=
 (v = .slice none 0 0 ∧ l = []) ∨ ∃ b m cp, v = .slice (some ⟨b, 0, some sz⟩) m cp ∧ (cp = 0 ∨ cp = m + 1) ∧ l.length = m * sz ∧ Bx O ro w h t b l
def Sz (O:HI H)(ro:Nat)(w:Own)(h:H)(t:Tag)(sz:Nat)(v:Value)(l:List Value): Prop:=
 (v = .slice none 0 0 ∧ l = []) ∨ ∃ b m, v = .slice (some ⟨b, 0, some sz⟩) m 0 ∧ l.length = m * sz ∧ Bx O ro w h t b l
theorem Sz.m {w:Own}{h:H}{t:Tag}{sz:Nat}{v:Value}{l:List Value}(x:Sz O ro w h t sz v l): Sm O ro w h t sz v l:=by
 rcases x with x|⟨b,m,e,el,x⟩
 ·exact .inl x
 ·exact .inr ⟨b,m,0,e,.inl rfl,el,x⟩
theorem Sz.nil (w:Own)(h:H)(t:Tag)(sz:Nat): Sz O ro w h t sz (.slice none 0 0) []:=.inl ⟨rfl,rfl⟩
theorem Sz.ch (L:O.Law){K:Tag->Prop}{w w':Own}{h h':H}{t:Tag}{sz:Nat}{v:Value}{l:List Value}(x:Sz O ro w h t sz v l)(a:Ch O K w h w' h')(hk:¬K t:=by simp): Sz O ro w' h' t sz v l:=by
 rcases x with x|⟨b,m,e,el,x⟩
 ·exact .inl x
 ·exact .inr ⟨b,m,e,el,x.ch L a hk⟩
theorem Sm.nil (w:Own)(h:H)(t:Tag)(sz:Nat): Sm O ro w h t sz (.slice none 0 0) []:=.inl ⟨rfl,rfl⟩
theorem Sm.ch (L:O.Law){K:Tag->Prop}{w w':Own}{h h':H}{t:Tag}{sz:Nat}{v:Value}{l:List Value}(x:Sm O ro w h t sz v l)(a:Ch O K w h w' h')(hk:¬K t:=by simp): Sm O ro w' h' t sz v l:=by
 rcases x with x|⟨b,m,cp,e,ec,el,x⟩
 ·exact .inl x
 ·exact .inr ⟨b,m,cp,e,ec,el,x.ch L a hk⟩
theorem Sm.flat {w:Own}{h:H}{t:Tag}{sz:Nat}{v:Value}{l:List Value}(x:Sm O ro w h t sz v l): v.cells = #[v]∧B'f v=true∧B'j v=false:=by
 rcases x with ⟨rfl,_⟩|⟨b,m,cp,rfl,_⟩ <;> exact⟨rfl,rfl,rfl⟩
theorem Sm.len {w:Own}{h:H}{t:Tag}{sz:Nat}{v:Value}{l:List Value}(x:Sm O ro w h t sz v l)(hsz:0<sz)(n:Nat)(hn:l.length=n*sz): ∃a cp,v = .slice a n cp:=by
 rcases x with ⟨rfl,rfl⟩|⟨b,m,cp,rfl,_,el,_⟩
 ·have:n=0:=by
   simp only[l'o]at hn;rcases Nat.mul_eq_zero.1 hn.symm with h|h <;> omega
  subst this;exact⟨_,_,rfl⟩
 ·have:m=n:=Nat.eq_of_mul_eq_mul_right hsz (by omega);subst this;exact⟨_,_,rfl⟩
theorem Sm.blk {w:Own}{h:H}{t:Tag}{sz:Nat}{v:Value}{l:List Value}(x:Sm O ro w h t sz v l)(hsz:0<sz)(n:Nat)(hn:l.length=n*sz)(h0:0<n): ∃b cp,v = .slice (some ⟨b,0,some sz⟩) n cp∧(cp=0∨cp=n+1)∧Bx O ro w h t b l:=by
 rcases x with ⟨rfl,rfl⟩|⟨b,m,cp,rfl,hcp,el,x⟩
 ·simp only[l'o]at hn;rcases Nat.mul_eq_zero.1 hn.symm with h|h <;> omega
 ·have:m=n:=Nat.eq_of_mul_eq_mul_right hsz (by omega);subst this;exact⟨_,_,rfl,hcp,x⟩
theorem B'0 (L:O.Law){w:Own}{h:H}{t:Tag}{sz bytes:Nat}{v:Value}{l new:List Value}(hro:ro<=O.next h)(x:Sm O ro w h t sz v l)(hsz:0<sz)(hn:new.length=sz)(hsize:(l.length+1)*bytes<=140737488355328)(hl:l.length<=5000000):
  ∃v' h' w',D'd O ro sz bytes v (.slice (some ⟨O.next h,0,some sz⟩) 1 2) (O.new h new)=some (v',h')∧Sz O ro w' h' t sz v' (l++new)∧Ch O (λu=>u=t) w h w' h'∧ro<=O.next h':=by
 have hnew:cellsA O (O.new h new) (O.next h) 0 (1*sz)=some new:=by
  rw[Nat.one_mul];exact C'G sz 0 new hn λi hi=>by rw[L.cell_new,if_pos rfl];simp
 have hne:new≠[]:=by intro e;subst e;simp at hn;omega
 rcases x with ⟨rfl,rfl⟩|⟨b,m,cp,rfl,hcp,el,x⟩
 ·have hb1:¬((0+1)*bytes>140737488355328∨0+1>140737488355328):=by simp at hsize;omega
  refine⟨.slice (some ⟨O.next h+1,0,some sz⟩) 1 0,O.new (O.new h new) new,(w.set (O.next h) t).set (O.next h+1) t,?_,?_,?_,?_⟩
  ·simp only[D'd,hb1,if_false,hnew,true_and,and_self,if_true,L.next_new];simp
  ·refine .inr ⟨O.next h+1,1,rfl,by simp[hn],?_⟩;have:=Bx.new L (ro:=ro) (w.set (O.next h) t) (O.new h new) (by rw[L.next_new];omega) t new;rw[L.next_new]at this;simpa using this
  ·have h1:=Ch.new L (λu=>u=t) w h t new;have h2:=Ch.new L (λu=>u=t) (w.set (O.next h) t) (O.new h new) t new;rw[L.next_new]at h2;exact h1.trans h2
  ·simp only[L.next_new];omega
 ·have hb1:¬((m+1)*bytes>140737488355328∨m+1>140737488355328):=by
   have h1:m<=l.length:=by rw[el];exact Nat.le_mul_of_pos_right m hsz
   have h2:(m+1)*bytes<=(l.length+1)*bytes:=Nat.mul_le_mul_right _ (by omega);omega
  have hlt:=x.lt L;have x1:Bx O ro (w.set (O.next h) t) (O.new h new) t b l:=x.ch L (Ch.new L (λ_=>False) w h t new) (by simp);have c1:=Ch.new L (λu=>u=t) w h t new;have hold:cellsA O (O.new h new) b 0 (m*sz)=some l:=by rw[<-el];exact x1.all
  have hbro:¬b<ro:=by have:=x.lo;omega
  rcases hcp with rfl|rfl
  ·have nk:O.next (O.kill (O.new h new) b)=O.next h+1:=by rw[L.next_kill,L.next_new]
   refine⟨.slice (some ⟨O.next h+1,0,some sz⟩) (m+1) 0,O.new (O.kill (O.new h new) b) (l++new),(w.set (O.next h) t).set (O.next h+1) t,?_,?_,?_,?_⟩
   ·simp only[D'd,hb1,if_false,hnew,hbro,x1.al,and_self,if_true,hold,L.next_new]
   ·refine .inr ⟨O.next h+1,m+1,rfl,by simp[hn,el,Nat.add_mul],?_⟩;have:=Bx.new L (ro:=ro) (w.set (O.next h) t) (O.kill (O.new h new) b) (by rw[nk];omega) t (l++new);rw[nk]at this;exact this
   ·have c2:=Ch.kill L (K:=λu=>u=t) x1 rfl;have c3:=Ch.new L (λu=>u=t) (w.set (O.next h) t) (O.kill (O.new h new) b) t (l++new);rw[nk]at c3;exact (c1.trans c2).trans c3
   ·rw[L.next_new,nk];omega
  ·refine⟨.slice (some ⟨O.next h+1,0,some sz⟩) (m+1) 0,O.new (O.new h new) (l++new),(w.set (O.next h) t).set (O.next h+1) t,?_,?_,?_,?_⟩
   ·simp only[D'd,hb1,if_false,hnew,hbro,x1.al,and_self,if_true,hold,L.next_new];rw[if_neg (by omega),if_neg (by omega)]
   ·refine .inr ⟨O.next h+1,m+1,rfl,by simp[hn,el,Nat.add_mul],?_⟩;have:=Bx.new L (ro:=ro) (w.set (O.next h) t) (O.new h new) (by rw[L.next_new];omega) t (l++new);rw[L.next_new]at this;exact this
   ·have c3:=Ch.new L (λu=>u=t) (w.set (O.next h) t) (O.new h new) t (l++new);rw[L.next_new]at c3;exact c1.trans c3
   ·simp only[L.next_new];omega
theorem Sz.take {w:Own}{h:H}{t:Tag}{sz:Nat}{v:Value}{l:List Value}(x:Sz O ro w h t sz v l)(hsz:0<sz)(n k:Nat)(hn:l.length=n*sz)(hk:k<=n):
  (v = .slice none 0 0 ∧ k = 0 ∧ n = 0 ∧ l = []) ∨ ∃ b, v = .slice (some ⟨b, 0, some sz⟩) n 0 ∧ Sz O ro w h t sz (.slice (some ⟨b, 0, some sz⟩) k 0) (l.take (k * sz)) := by
 rcases x with ⟨rfl,rfl⟩|⟨b,m,rfl,el,x⟩
 ·left;simp only[l'o]at hn;have:n=0:=by rcases Nat.mul_eq_zero.1 hn.symm with h|h <;> omega
  exact⟨rfl,by omega,this,rfl⟩
 ·right;have hm:m=n:=Nat.eq_of_mul_eq_mul_right hsz (by omega);subst hm;have hle:k*sz<=m*sz:=Nat.mul_le_mul_right _ hk;refine⟨b,rfl,.inr ⟨b,k,rfl,by simp;omega,⟨x.tag,x.lo,x.al,λi hi=>?_⟩⟩⟩;simp only[List.length_take]at hi;rw[x.cell i (by omega),List.getElem?_take,if_pos (by omega)]
theorem Sz.put (L:O.Law){w:Own}{h:H}{t:Tag}{sz m b:Nat}{l:List Value}(hl:l.length=m*sz)(x:Bx O ro w h t b l)(i:Nat)(hi:i<l.length)(v:Value):
  Sz O ro w (O.put h b i v) t sz (.slice (some ⟨b,0,some sz⟩) m 0) (l.set i v)∧Ch O (λu=>u=t) w h w (O.put h b i v):=
 ⟨.inr ⟨b,m,rfl,by simpa using hl,x.put L i hi v⟩,Ch.put L x i hi v rfl⟩
theorem Sz.blk {w:Own}{h:H}{t:Tag}{sz:Nat}{v:Value}{l:List Value}(x:Sz O ro w h t sz v l)(hsz:0<sz)(n:Nat)(hn:l.length=n*sz)(h0:0<n): ∃b,v = .slice (some ⟨b,0,some sz⟩) n 0∧Bx O ro w h t b l:=by
 rcases x with ⟨rfl,rfl⟩|⟨b,m,rfl,el,x⟩
 ·simp only[l'o]at hn;rcases Nat.mul_eq_zero.1 hn.symm with h|h <;> omega
 ·have:m=n:=Nat.eq_of_mul_eq_mul_right hsz (by omega);subst this;exact⟨_,rfl,x⟩
end
end Go.Proofs.YtimdkminagnhgabGreatDoor
namespace Go.Proofs.YtimdkminagnhgabGreatDoor
open Go.Vm Go.Proofs Go.Ta
set_option maxHeartbeats 1000000
def clC (p:Value×Cl): List Value:=[p.1,ni p.2.left,ni p.2.right,ni p.2.span]
def vrC (x:Vr): List Value:=[ni x.level,rv x.reason,.bool x.marked,ni x.weight,.bool x.last]
def K11 (u:Tag): Prop:=u.1=11∨u.1=12
theorem C'v (a:Nat)(ha:a<9223372036854775808): C'f .xor .i64 (a:Int) 1=some (ni (a ^^^ 1)):=by
 have h1:(BitVec.ofInt 64 (a:Int) ^^^ BitVec.ofInt 64 1).toNat=a ^^^ 1:=by
  rw[BitVec.toNat_xor];have e1:(BitVec.ofInt 64 (a:Int)).toNat=a:=by rw[BitVec.toNat_ofInt];omega
  have e2:(BitVec.ofInt 64 (1:Int)).toNat=1:=by decide
  rw[e1,e2]
 have hx:a ^^^ 1<9223372036854775808:=Nat.xor_lt_two_pow (n:=63) ha (by decide);have h2:C'f .xor .i64 (a:Int) 1=some (.int .i64 (IntKind.i64.wrap ((BitVec.ofInt 64 (a:Int) ^^^ BitVec.ofInt 64 1).toNat:Int))):=rfl;rw[h2,h1,B'J (by omega) (by omega)]
theorem N'B (a:Nat): B'w .shr .i64 (a:Int) 1=some (ni (a/2)):=by
 have:B'w .shr .i64 (a:Int) 1=some (.int .i64 ((a:Int).fdiv (2^1))):=rfl;rw[this,Int.fdiv_eq_ediv_of_nonneg _ (by decide)];rfl
theorem F'i {α:Type}(f:α->List Value)(k:Nat)(hf:∀x,(f x).length=k): ∀(l:List α) (j:Nat)(hj:j<l.length) (i:Nat)(v:Value)(y:α),i<k->f y=(f l[j]).set i v->(l.flatMap f).set (j*k+i) v=(l.set j y).flatMap f:=by
 intro l
 induction l with
 | nil=>intro j hj;simp at hj
 | cons x l ih=>
  intro j hj i v y hi hy
  cases j with
  | zero=>
   simp only[List.getElem_cons_zero]at hy;simp only[List.flatMap_cons,List.set_cons_zero,Nat.zero_mul,l'F];rw[List.set_append_left _ _ (by rw[hf];exact hi),hy]
  | succ j=>
   simp only[List.getElem_cons_succ]at hy;simp only[List.flatMap_cons,List.set_cons_succ];rw[List.set_append_right _ _ (by rw[hf,Nat.succ_mul];omega),hf,show (j+1)*k+i-k=j*k+i by rw[Nat.succ_mul];omega,ih j (by simpa using hj) i v y hi hy]
section
variable {H:Type}{O:HI H}{ro:Nat}{c:A'X H}
structure SQ (O:HI H) (ro:Nat)(w:Own)(h:H) (q:Nat)(S:Srch) (bW bH bV:Nat)(vA vC vT vS vK:Value)(lv wv:List Value):Prop where
 m:Bx O ro w h (11,1000) q [vA,vC,ni S.given,ni 4000,.slice (some ⟨bW,0,some 1⟩) S.watchers.length (S.watchers.length+1),.slice (some ⟨bH,0,some 1⟩) S.holds.length (S.holds.length+1),.slice (some ⟨bV,0,some 5⟩) S.vars.length (S.vars.length+1),vT,vS,ni S.drawn,ni S.bonus,ni S.met,vK]
 sA:Sm O ro w h (9,0) 1 vA (S.assumed.map ni)
 sC:Sz O ro w h (11,1) 4 vC ((lv.zip S.clauses).flatMap clC)
 lC:lv.length=S.clauses.length
 aC:∀(k:Nat) x v,S.clauses[k]?=some x->lv[k]?=some v->Sm O ro w h (9,0) 1 v (x.lits.map ni)
 xW:Bx O ro w h (11,4) bW wv
 lW:wv.length=S.watchers.length
 aW:∀(i:Nat) l v,S.watchers[i]?=some l->wv[i]?=some v->Sz O ro w h (12,i) 1 v (l.map ni)
 xH:Bx O ro w h (11,5) bH (S.holds.map Value.bool)
 xV:Bx O ro w h (11,6) bV (S.vars.flatMap vrC)
 sT:Sz O ro w h (11,7) 1 vT (S.trail.map ni)
 sS:Sz O ro w h (11,8) 1 vS (S.starts.map ni)
 sK:Sz O ro w h (11,12) 1 vK (S.core.map ni)
 lo:ro<=O.next h
variable {w w':Own}{h h':H}{q:Nat}{S:Srch}{bW bH bV:Nat}{vA vC vT vS vK:Value}{lv wv:List Value}
theorem SQ.ch (L:O.Law){K:Tag->Prop}(x:SQ O ro w h q S bW bH bV vA vC vT vS vK lv wv)(a:Ch O K w h w' h')(h9:¬K (9,0):=by simp)(h11:∀i,¬K (11,i):=by simp)(h12:∀i,¬K (12,i):=by simp): SQ O ro w' h' q S bW bH bV vA vC vT vS vK lv wv:=
 ⟨x.m.ch L a (h11 _),x.sA.ch L a h9,x.sC.ch L a (h11 _),x.lC,λk y v h1 h2=>(x.aC k y v h1 h2).ch L a h9,x.xW.ch L a (h11 _),x.lW,λi l v h1 h2=>(x.aW i l v h1 h2).ch L a (h12 _),x.xH.ch L a (h11 _),x.xV.ch L a (h11 _),x.sT.ch L a (h11 _),x.sS.ch L a (h11 _),x.sK.ch L a (h11 _),l'G x.lo a.nx⟩
theorem A'8 {h:H}{b i:Nat}{u v:Value}(hc:O.cell h b i=some u): A'6 O h b i [v]=some (O.put h b i v):=by
 simp[A'6,hc]
theorem SQ.fld (L:O.Law)(x:SQ O ro w h q S bW bH bV vA vC vT vS vK lv wv)(i:Nat)(hi:i<13)(v:Value){g d b m:Nat}
  (hm : [vA, vC, ni S.given, ni 4000, .slice (some ⟨bW, 0, some 1⟩) S.watchers.length (S.watchers.length + 1), .slice (some ⟨bH, 0, some 1⟩) S.holds.length (S.holds.length + 1), .slice (some ⟨bV, 0, some 5⟩) S.vars.length (S.vars.length + 1), vT, vS, ni S.drawn, ni S.bonus, ni S.met, vK].set i v = [vA, vC, ni g, ni 4000, .slice (some ⟨bW, 0, some 1⟩) S.watchers.length (S.watchers.length + 1), .slice (some ⟨bH, 0, some 1⟩) S.holds.length (S.holds.length + 1), .slice (some ⟨bV, 0, some 5⟩) S.vars.length (S.vars.length + 1), vT, vS, ni d, ni b, ni m, vK]):
  ∃h1,A'6 O h q i [v]=some h1∧SQ O ro w h1 q { S with given:=g,drawn:=d,bonus:=b,met:=m } bW bH bV vA vC vT vS vK lv wv∧Ch O K11 w h w h1:=by
 have c1:=Ch.put L (K:=λu=>u=(11,1000)) x.m i (by simpa using hi) v rfl;have m1:=x.m.put L i (by simpa using hi) v;have hc:∃u,O.cell h q i=some u:=⟨_,by rw[x.m.cell i (by simpa using hi)];exact l'c (by simpa using hi)⟩;obtain⟨u,hc⟩:=hc;rw[hm]at m1;exact⟨_,A'8 hc,⟨m1,x.sA.ch L c1,x.sC.ch L c1,x.lC,λk y v h1 h2=>(x.aC k y v h1 h2).ch L c1,x.xW.ch L c1,x.lW,λi l v h1 h2=>(x.aW i l v h1 h2).ch L c1,x.xH.ch L c1,x.xV.ch L c1,x.sT.ch L c1,x.sS.ch L c1,x.sK.ch L c1,l'G x.lo c1.nx⟩,c1.mono (by rintro u rfl;exact .inl rfl)⟩
theorem SQ.putH (L:O.Law)(x:SQ O ro w h q S bW bH bV vA vC vT vS vK lv wv)(l:Nat)(hl:l<S.holds.length)(b:Bool):
  ∃h1,A'6 O h bH l [.bool b]=some h1∧SQ O ro w h1 q { S with holds:=S.holds.set l b } bW bH bV vA vC vT vS vK lv wv∧Ch O K11 w h w h1:=by
 have c1:=Ch.put L (K:=λu=>u=(11,5)) x.xH l (by simpa using hl) (.bool b) rfl;have m1:=x.xH.put L l (by simpa using hl) (.bool b);have m0:=x.m.ch L c1;have hc:O.cell h bH l=some (.bool S.holds[l]):=by rw[x.xH.cell l (by simpa using hl)];simp[hl]
 exact⟨_,A'8 hc,⟨by simpa using m0,x.sA.ch L c1,x.sC.ch L c1,x.lC,λk y v h1 h2=>(x.aC k y v h1 h2).ch L c1,x.xW.ch L c1,x.lW,λi l v h1 h2=>(x.aW i l v h1 h2).ch L c1,by simpa [List.map_set]using m1,x.xV.ch L c1,x.sT.ch L c1,x.sS.ch L c1,x.sK.ch L c1,l'G x.lo c1.nx⟩,c1.mono (by rintro u rfl;exact .inl rfl)⟩
theorem F'j (x:Vr): (vrC x).length=5:=rfl
theorem D'I (p:Value×Cl): (clC p).length=4:=rfl
theorem SQ.putV (L:O.Law)(x:SQ O ro w h q S bW bH bV vA vC vT vS vK lv wv)(v:Nat){y:Vr}(hy:S.vars[v]?=some y)(i:Nat)(hi:i<5)(u:Value)(z:Vr)(hz:vrC z=(vrC y).set i u):
  ∃h1,A'6 O h bV (v*5+i) [u]=some h1∧SQ O ro w h1 q { S with vars:=S.vars.set v z } bW bH bV vA vC vT vS vK lv wv∧Ch O K11 w h w h1:=by
 obtain⟨hv,hyv⟩:=l'b.1 hy;have hlen:=A'0 vrC 5 F'j S.vars;have hlt:v*5+i<(S.vars.flatMap vrC).length:=by rw[hlen];omega
 have c1:=Ch.put L (K:=λu=>u=(11,6)) x.xV (v*5+i) hlt u rfl;have m1:=x.xV.put L (v*5+i) hlt u;rw[F'i vrC 5 F'j S.vars v hv i u z hi (by rw[hyv];exact hz)]at m1;have m0:=x.m.ch L c1;have hc:∃z,O.cell h bV (v*5+i)=some z:=⟨_,by rw[x.xV.cell _ hlt];exact l'c hlt⟩;obtain⟨z0,hc⟩:=hc;exact⟨_,A'8 hc,⟨by simpa using m0,x.sA.ch L c1,x.sC.ch L c1,x.lC,λk y v h1 h2=>(x.aC k y v h1 h2).ch L c1,x.xW.ch L c1,x.lW,λi l v h1 h2=>(x.aW i l v h1 h2).ch L c1,x.xH.ch L c1,m1,x.sT.ch L c1,x.sS.ch L c1,x.sK.ch L c1,l'G x.lo c1.nx⟩,c1.mono (by rintro u rfl;exact .inl rfl)⟩
theorem SQ.getV (x:SQ O ro w h q S bW bH bV vA vC vT vS vK lv wv)(v:Nat){y:Vr}(hy:S.vars[v]?=some y)(i:Nat)(hi:i<5): O.cell h bV (v*5+i)=(vrC y)[i]?:=by
 obtain⟨hv,hyv⟩:=l'b.1 hy;have hlen:=A'0 vrC 5 F'j S.vars;rw[x.xV.cell _ (by rw[hlen];omega),B'z vrC 5 F'j S.vars v hv i hi,hyv]
theorem SQ.getH (x:SQ O ro w h q S bW bH bV vA vC vT vS vK lv wv)(l:Nat){b:Bool}(hb:S.holds[l]?=some b): O.cell h bH l=some (.bool b):=by
 have hl:=(l'b.1 hb).1;rw[x.xH.cell _ (by simpa using hl)];simp[hb]
theorem SQ.appT (L:O.Law)(x:SQ O ro w h q S bW bH bV vA vC vT vS vK lv wv)(l:Nat)(ht:S.trail.length<most):
  ∃vT' h1 h2 w2,D'd O ro 1 8 vT (.slice (some ⟨O.next h,0,some 1⟩) 1 2) (O.new h [ni l])=some (vT',h1)∧A'6 O h1 q 7 [vT']=some h2∧B'f vT'=true∧vT'.cells = #[vT'] ∧
   SQ O ro w2 h2 q { S with trail:=S.trail++[l] } bW bH bV vA vC vT' vS vK lv wv∧Ch O K11 w h w2 h2:=by
 have hb:S.trail.length<1000000:=ht;obtain⟨vT',h1,w1,e1,s1,c1,lo1⟩:=B'0 (bytes:=8) L x.lo x.sT.m (by omega) (show [ni l].length=1 from rfl) (by simp;omega) (by simp;omega);have m1:=x.m.ch L c1;have c2:=Ch.put L (K:=λu=>u=(11,1000)) m1 7 (by simp) vT' rfl;have m2:=m1.put L 7 (by simp) vT';obtain⟨f1,f2,f3⟩:=s1.m.flat;refine⟨vT',h1,_,w1,e1,A'8 (m1.get 7 _ rfl),f2,f1,⟨m2,?_,?_,x.lC,λk y v h1 h2=>?_,?_,x.lW,λi l v h1 h2=>?_,?_,?_,?_,?_,?_,?_⟩,?_⟩
 ·exact (x.sA.ch L c1).ch L c2
 ·exact (x.sC.ch L c1).ch L c2
 ·exact ((x.aC k y v h1 h2).ch L c1).ch L c2
 ·exact (x.xW.ch L c1).ch L c2
 ·exact ((x.aW i l v h1 h2).ch L c1).ch L c2
 ·exact (x.xH.ch L c1).ch L c2
 ·exact (x.xV.ch L c1).ch L c2
 ·have:=s1.ch L c2;simpa using this
 ·exact (x.sS.ch L c1).ch L c2
 ·exact (x.sK.ch L c1).ch L c2
 ·exact l'G lo1 c2.nx
 ·exact (c1.mono (by rintro u rfl;exact .inl rfl)).trans (c2.mono (by rintro u rfl;exact .inl rfl))
theorem SQ.appS (L:O.Law)(x:SQ O ro w h q S bW bH bV vA vC vT vS vK lv wv)(l:Nat)(ht:S.starts.length<most):
  ∃vS' h1 h2 w2,D'd O ro 1 8 vS (.slice (some ⟨O.next h,0,some 1⟩) 1 2) (O.new h [ni l])=some (vS',h1)∧A'6 O h1 q 8 [vS']=some h2∧B'f vS'=true∧vS'.cells = #[vS'] ∧
   SQ O ro w2 h2 q { S with starts:=S.starts++[l] } bW bH bV vA vC vT vS' vK lv wv∧Ch O K11 w h w2 h2:=by
 have hb:S.starts.length<1000000:=ht;obtain⟨vT',h1,w1,e1,s1,c1,lo1⟩:=B'0 (bytes:=8) L x.lo x.sS.m (by omega) (show [ni l].length=1 from rfl) (by simp;omega) (by simp;omega);have m1:=x.m.ch L c1;have c2:=Ch.put L (K:=λu=>u=(11,1000)) m1 8 (by simp) vT' rfl;have m2:=m1.put L 8 (by simp) vT';obtain⟨f1,f2,f3⟩:=s1.m.flat;refine⟨vT',h1,_,w1,e1,A'8 (m1.get 8 _ rfl),f2,f1,⟨m2,?_,?_,x.lC,λk y v h1 h2=>?_,?_,x.lW,λi l v h1 h2=>?_,?_,?_,?_,?_,?_,?_⟩,?_⟩
 ·exact (x.sA.ch L c1).ch L c2
 ·exact (x.sC.ch L c1).ch L c2
 ·exact ((x.aC k y v h1 h2).ch L c1).ch L c2
 ·exact (x.xW.ch L c1).ch L c2
 ·exact ((x.aW i l v h1 h2).ch L c1).ch L c2
 ·exact (x.xH.ch L c1).ch L c2
 ·exact (x.xV.ch L c1).ch L c2
 ·exact (x.sT.ch L c1).ch L c2
 ·have:=s1.ch L c2;simpa using this
 ·exact (x.sK.ch L c1).ch L c2
 ·exact l'G lo1 c2.nx
 ·exact (c1.mono (by rintro u rfl;exact .inl rfl)).trans (c2.mono (by rintro u rfl;exact .inl rfl))
theorem SQ.getC (x:SQ O ro w h q S bW bH bV vA vC vT vS vK lv wv)(k:Nat){y:Cl}(hy:S.clauses[k]?=some y):
  ∃b v,vC = .slice (some ⟨b,0,some 4⟩) S.clauses.length 0∧Bx O ro w h (11,1) b ((lv.zip S.clauses).flatMap clC)∧lv[k]?=some v∧Sm O ro w h (9,0) 1 v (y.lits.map ni) ∧
   O.cell h b (k*4)=some v∧O.cell h b (k*4+1)=some (ni y.left)∧O.cell h b (k*4+2)=some (ni y.right)∧O.cell h b (k*4+3)=some (ni y.span):=by
 have hk:=(l'b.1 hy).1;have hz:(lv.zip S.clauses).length=S.clauses.length:=by simp[x.lC]
 have hlen:((lv.zip S.clauses).flatMap clC).length=S.clauses.length*4:=by rw[A'0 clC 4 D'I,hz]
 obtain⟨b,hb,y0⟩:=x.sC.blk (by omega) S.clauses.length hlen (by omega);have hlv:lv[k]?=some (lv[k]'(by rw[x.lC];exact hk)):=l'c _;have hzk:(lv.zip S.clauses)[k]'(by rw[hz];exact hk)=(lv[k]'(by rw[x.lC];exact hk),y):=by
  rw[List.getElem_zip];congr 1;exact (l'b.1 hy).2
 have cell:∀i,i<4->O.cell h b (k*4+i)=(clC (lv[k]'(by rw[x.lC];exact hk),y))[i]?:=by
  intro i hi;rw[y0.cell _ (by rw[hlen];omega),B'z clC 4 D'I _ k (by rw[hz];exact hk) i hi,hzk]
 exact⟨b,_,hb,y0,hlv,x.aC k y _ hy hlv,by simpa [clC]using cell 0 (by omega),by simpa [clC]using cell 1 (by omega),by simpa [clC]using cell 2 (by omega),by simpa [clC]using cell 3 (by omega)⟩
theorem SQ.putC (L:O.Law)(x:SQ O ro w h q S bW bH bV vA vC vT vS vK lv wv)(k:Nat){y:Cl}(hy:S.clauses[k]?=some y){b:Nat}(hb:vC = .slice (some ⟨b,0,some 4⟩) S.clauses.length 0)(i:Nat)(hi:i<4)(u:Value)(z:Cl)(hl:z.lits=y.lits)(hz0:∀v,clC (v,z)=(clC (v,y)).set i u):
  ∃h1,A'6 O h b (k*4+i) [u]=some h1∧SQ O ro w h1 q { S with clauses:=S.clauses.set k z } bW bH bV vA vC vT vS vK lv wv∧Ch O K11 w h w h1:=by
 have hk:=(l'b.1 hy).1;have hz:(lv.zip S.clauses).length=S.clauses.length:=by simp[x.lC]
 have hlen:((lv.zip S.clauses).flatMap clC).length=S.clauses.length*4:=by rw[A'0 clC 4 D'I,hz]
 obtain⟨b',hb',y0⟩:=x.sC.blk (by omega) S.clauses.length hlen (by omega);have hbb:b'=b:=by rw[hb]at hb';simp at hb';exact hb'.symm
 subst hbb;have hlt:k*4+i<((lv.zip S.clauses).flatMap clC).length:=by rw[hlen];omega
 have hzk:(lv.zip S.clauses)[k]'(by rw[hz];exact hk)=(lv[k]'(by rw[x.lC];exact hk),y):=by
  rw[List.getElem_zip];congr 1;exact (l'b.1 hy).2
 have hset:((lv.zip S.clauses).flatMap clC).set (k*4+i) u=(lv.zip (S.clauses.set k z)).flatMap clC:=by
  rw[F'i clC 4 D'I (lv.zip S.clauses) k (by rw[hz];exact hk) i u (lv[k]'(by rw[x.lC];exact hk),z) hi (by rw[hzk];exact hz0 _)];congr 1;apply List.ext_getElem
  ·simp
  ·intro j h1 h2;simp only[List.getElem_set,List.getElem_zip]
   by_cases e:k=j
   ·subst e;simp
   ·simp[e]
 obtain⟨s1,c1⟩:=Sz.put L (sz:=4) (m:=S.clauses.length) hlen y0 (k*4+i) hlt u;rw[hset,<-hb]at s1;have hc:∃z,O.cell h b' (k*4+i)=some z:=⟨_,by rw[y0.cell _ hlt];exact l'c hlt⟩;obtain⟨z0,hc⟩:=hc;have m0:=x.m.ch L c1;refine⟨_,A'8 hc,⟨m0,x.sA.ch L c1,s1,by simp[x.lC],λj y' v h1 h2=>?_,x.xW.ch L c1,x.lW,λi l v h1 h2=>(x.aW i l v h1 h2).ch L c1,x.xH.ch L c1,x.xV.ch L c1,x.sT.ch L c1,x.sS.ch L c1,x.sK.ch L c1,l'G x.lo c1.nx⟩,c1.mono (by rintro u rfl;exact .inl rfl)⟩
 by_cases e:j=k
 ·subst e;simp only[l'g hk,l'a]at h1;subst h1;rw[hl];exact (x.aC j y v hy h2).ch L c1
 ·have h1':S.clauses[j]?=some y':=by rw[<-h1,l'h (λq=>e q.symm)]
  exact (x.aC j y' v h1' h2).ch L c1
end
end Go.Proofs.YtimdkminagnhgabGreatDoor
namespace Go.Proofs.YtimdkminagnhgabGreatDoor
open Go.Vm Go.Proofs Go.Ta
set_option maxHeartbeats 1000000
section
variable {H:Type}{O:HI H}{ro:Nat}{c:A'X H}
attribute [local simp] A'b A'c reg to too A'a A'n A'i mv' nl' fl' ld' ln' mk' ia' ik' ix' B'C B'D aLd A'5 A'q A'2 aUn unA ev A'k isB A'Z A'C A'D A'E A'F A'G A'H A'I A'J A'K cIf A'y A'f A'g A'L A'h rvE aSt A'M A't A'N A'O A'P B'c A'Q A'u A'R A'S B'd A'T A'v A'U A'V A'W B'e A'l Instr.fill A'e A'r A'z A's ptr undef B'o B'r A'j B'n A'w A'B B'A A'x B'p rangeA B'E A'o A'4 A'A B'i A'p A'm chk J'W
variable {w w':Own}{h h':H}{q:Nat}{S:Srch}{bW bH bV:Nat}{vA vC vT vS vK:Value}{lv wv:List Value}
theorem K'M (C:LP' O ro c)(L:O.Law)(x:SQ O ro w h q S bW bH bV vA vC vT vS vK lv wv)(l:Nat)(r:Option Nat){S':Srch}(hs:G'4 S l r=some S')(hV:S.vars.length<most)(hH:S.holds.length<most):
  ∃vT' h' w',c 213 [ptr q,ni l,rv r] h=some (.tuple #[],h')∧SQ O ro w' h' q S' bW bH bV vA vC vT' vS vK lv wv∧Ch O K11 w h w' h':=by
 unfold G'4 at hs
 cases hv:S.vars[l/2]? with
 | none=>rw[hv]at hs;simp at hs
 | some v=>
  rw[hv]at hs;simp only at hs
  by_cases hb:l<S.holds.length∧S.trail.length<most
  ·rw[if_pos hb]at hs;simp only[l'a]at hs;obtain⟨hbl,hbt⟩:=hb;have hvl:=(l'b.1 hv).1;obtain⟨h1,p1,x1,c1⟩:=x.putH L l hbl true;have hv1:({ S with holds:=S.holds.set l true }:Srch).vars[l/2]?=some v:=hv;obtain⟨h2,p2,x2,c2⟩:=x1.putV L (l/2) hv1 0 (by omega) (ni S.starts.length) { v with level:=S.starts.length } rfl;have hv2:(S.vars.set (l/2) { v with level:=S.starts.length })[l/2]?=some { v with level:=S.starts.length }:=by simp[hvl]
   obtain⟨h3,p3,x3,c3⟩:=x2.putV L (l/2) hv2 1 (by omega) (rv r) { v with level:=S.starts.length,reason:=r } rfl;have hv3:(S.vars.set (l/2) { v with level:=S.starts.length,reason:=r })[l/2]?=some { v with level:=S.starts.length,reason:=r }:=by simp[hvl]
   simp only[List.set_set]at x3;obtain⟨h4,p4,x4,c4⟩:=x3.putV L (l/2) hv3 4 (by omega) (.bool (l%2==0)) { v with level:=S.starts.length,reason:=r,last:=l%2==0 } rfl;simp only[List.set_set]at x4;obtain⟨vT',h5,h6,w5,e5,p5,f5,g5,x5,c5⟩:=x4.appT L l hbt;have m0:=x.m.get 5 _ rfl;have m1:=x1.m.get 6 _ rfl;have m1s:=x1.m.get 8 _ rfl;have m2:=x2.m.get 6 _ rfl;have m3:=x3.m.get 6 _ rfl;have m4:=x4.m.get 7 _ rfl;obtain⟨aS,cS,rfl⟩:=x.sS.m.len (by omega) S.starts.length (by simp);have r0:¬bH<ro:=by have:=x.xH.lo;omega
   have r1:¬bV<ro:=by have:=x.xV.lo;omega
   have r2:¬q<ro:=by have:=x.m.lo;omega
   have hm:most=1000000:=rfl;have hsh:=N'B l;have hand:=E'k l (by omega);have i1:(l:Int)<S.holds.length:=by omega
   have i2:((l/2:Nat):Int)<S.vars.length:=by omega
   have hmod:(((l%2:Nat):Int)==0)=(l%2==0):=by
    rw[Bool.eq_iff_iff];simp;omega
   refine⟨vT',_,w5,?_,by rw[<-hs];exact x5,(((c1.trans c2).trans c3).trans c4).trans c5⟩;refine C.eq (N'u O ro) rfl rfl (f'f ?_);have rc:(rv r).cells = #[rv r]∧B'f (rv r)=true:=by cases r <;> exact⟨rfl,rfl⟩
   simp only[List.length_set,Nat.add_zero]at m1 m2 m3 p2;clear x x1 x2 x3 x4 x5 c1 c2 c3 c4 c5 hs hv hv1 hv2 hv3;generalize l/2=d at *;generalize l%2=e at *;simp[R'3,rc.1,rc.2,Zg3,Zg4,Zg5,Zg6,Zg7,Zg8,hsh,hand,m0,m1,m1s,m2,m3,m4,p1,p2,p3,p4,p5,r0,r1,r2,i1,i2,hbl,hvl,e5,f5,g5,hmod]
  ·rw[if_neg hb]at hs;simp at hs
end
end Go.Proofs.YtimdkminagnhgabGreatDoor
namespace Go.Proofs.YtimdkminagnhgabGreatDoor
open Go.Vm Go.Proofs Go.Ta
set_option maxHeartbeats 1000000
section
variable {H:Type}{O:HI H}{ro:Nat}{c:A'X H}
attribute [local simp] A'b A'c reg to too A'a A'n A'i mv' nl' fl' ld' ln' mk' ia' ik' ix' B'C B'D aLd A'5 A'q A'2 aUn unA ev A'k isB A'Z A'C A'D A'E A'F A'G A'H A'I A'J A'K cIf A'y A'f A'g A'L A'h rvE aSt A'M A't A'N A'O A'P B'c A'Q A'u A'R A'S B'd A'T A'v A'U A'V A'W B'e A'l Instr.fill A'e A'r A'z A's ptr undef B'o B'r A'j B'n A'w A'B B'A A'x B'p rangeA B'E A'o A'4 A'A B'i A'p A'm chk
variable {w w':Own}{h h':H}{q:Nat}{S:Srch}{bW bH bV:Nat}{vA vC vT vS vK:Value}{lv wv:List Value}
theorem SQ.getW (x:SQ O ro w h q S bW bH bV vA vC vT vS vK lv wv)(i:Nat){l:List Nat}(hl:S.watchers[i]?=some l): ∃v,wv[i]?=some v∧O.cell h bW i=some v∧Sz O ro w h (12,i) 1 v (l.map ni):=by
 have hi:=(l'b.1 hl).1;have hv:wv[i]?=some (wv[i]'(by rw[x.lW];exact hi)):=l'c _;exact⟨_,hv,by rw[x.xW.cell i (by rw[x.lW];exact hi)];exact hv,x.aW i l _ hl hv⟩
theorem SQ.sep (x:SQ O ro w h q S bW bH bV vA vC vT vS vK lv wv){i o:Nat}{v:Value}{l:List Value}(s:Sz O ro w h (12,i) 1 v l): J'W (.pointer (some ⟨q,o,none⟩)) v=true:=by
 rcases s with ⟨rfl,_⟩|⟨b,m,rfl,_,y⟩
 ·rfl
 ·have:q≠b:=by
   rintro rfl;have h1:=x.m.tag;rw[y.tag]at h1;simp at h1
  have hb:Nat.beq q b=false:=by
   cases hq:Nat.beq q b with
   | false=>rfl
   | true=>exact absurd (Nat.eq_of_beq_eq_true hq) this
  simp[J'W,hb]
theorem SQ.appW (L:O.Law)(x:SQ O ro w h q S bW bH bV vA vC vT vS vK lv wv)(i k:Nat){l:List Nat}{v:Value}(hl:S.watchers[i]?=some l)(hv:wv[i]?=some v)(ht:l.length<most):
  ∃v' h1 h2 w2,D'd O ro 1 8 v (.slice (some ⟨O.next h,0,some 1⟩) 1 2) (O.new h [ni k])=some (v',h1)∧A'6 O h1 bW i [v']=some h2∧B'f v'=true∧v'.cells = #[v'] ∧
   SQ O ro w2 h2 q { S with watchers:=S.watchers.set i (l++[k]) } bW bH bV vA vC vT vS vK lv (wv.set i v')∧Ch O K11 w h w2 h2:=by
 have hb:l.length<1000000:=ht;have hi:=(l'b.1 hl).1;obtain⟨v',h1,w1,e1,s1,c1,lo1⟩:=B'0 (bytes:=8) L x.lo (x.aW i l v hl hv).m (by omega) (show [ni k].length=1 from rfl) (by simp;omega) (by simp;omega);have m1:=x.xW.ch L c1;have hiw:i<wv.length:=by rw[x.lW];exact hi
 have c2:=Ch.put L (K:=λu=>u=(11,4)) m1 i hiw v' rfl;have m2:=m1.put L i hiw v';obtain⟨f1,f2,f3⟩:=s1.m.flat;refine⟨v',h1,_,w1,e1,A'8 (m1.get i _ hv),f2,f1,⟨?_,?_,?_,x.lC,λk y v h1 h2=>?_,m2,by simp[x.lW],λj l' u g1 g2=>?_,?_,?_,?_,?_,?_,?_⟩,?_⟩
 ·have:=(x.m.ch L c1).ch L c2;simpa using this
 ·exact (x.sA.ch L c1).ch L c2
 ·exact (x.sC.ch L c1).ch L c2
 ·exact ((x.aC k y v h1 h2).ch L c1).ch L c2
 ·by_cases e:j=i
  ·subst e;simp only[l'g hi,l'a]at g1;simp only[l'g hiw,l'a]at g2;subst g1 g2;have:=s1.ch L c2;simpa using this
  ·have g1':S.watchers[j]?=some l':=by rw[<-g1,l'h (λq=>e q.symm)]
   have g2':wv[j]?=some u:=by rw[<-g2,l'h (λq=>e q.symm)]
   exact ((x.aW j l' u g1' g2').ch L c1 (by simp[e])).ch L c2
 ·exact (x.xH.ch L c1).ch L c2
 ·exact (x.xV.ch L c1).ch L c2
 ·exact (x.sT.ch L c1).ch L c2
 ·exact (x.sS.ch L c1).ch L c2
 ·exact (x.sK.ch L c1).ch L c2
 ·exact l'G lo1 c2.nx
 ·exact (c1.mono (by rintro u rfl;exact .inr rfl)).trans (c2.mono (by rintro u rfl;exact .inl rfl))
theorem N'C (C:LP' O ro c)(L:O.Law)(x:SQ O ro w h q S bW bH bV vA vC vT vS vK lv wv)(k:Nat){S':Srch}(hs:F'S S k=some S')(hC:S.clauses.length<2000000)(hW:S.watchers.length<most):
  ∃wv' h' w',c 220 [ptr q,ni k] h=some (.tuple #[],h')∧SQ O ro w' h' q S' bW bH bV vA vC vT vS vK lv wv'∧Ch O K11 w h w' h':=by
 unfold F'S at hs
 cases hy:S.clauses[k]? with
 | none=>rw[hy]at hs;simp at hs
 | some y=>
  rw[hy]at hs;simp only at hs
  cases ha:S.watchers[y.left]? with
  | none=>rw[ha]at hs;simp at hs
  | some a=>
   rw[ha]at hs;simp only at hs
   by_cases hla:a.length<most
   ·rw[if_pos hla]at hs
    cases hb:(S.watchers.set y.left (a++[k]))[y.right]? with
    | none=>rw[hb]at hs;simp at hs
    | some b=>
     rw[hb]at hs;simp only at hs
     by_cases hlb:b.length<most
     ·rw[if_pos hlb]at hs;simp only[l'a]at hs;obtain⟨bC,vl,hvC,y0,_,_,k0,k1,k2,k3⟩:=x.getC k hy;obtain⟨v1,hv1,cv1,s1⟩:=x.getW y.left ha;have sep1:=x.sep (o:=4) s1;obtain⟨v1',h1,h2,w2,e1,p1,f1,g1,x2,c2⟩:=x.appW L y.left k ha hv1 hla;obtain⟨v2,hv2,cv2,s2⟩:=x2.getW y.right hb;have sep2:=x2.sep (o:=4) s2;obtain⟨v2',h3,h4,w4,e2,p2,f2,g2,x4,c4⟩:=x2.appW L y.right k hb hv2 hlb;have m1:=x.m.get 1 _ rfl;have m4:=x.m.get 4 _ rfl;have n4:=x2.m.get 4 _ rfl;rw[hvC]at m1;have hk:=(l'b.1 hy).1;have hl1:=(l'b.1 ha).1;have hl2:=(l'b.1 hb).1;simp only[List.length_set]at hl2 n4;have r1:¬bW<ro:=by have:=x.xW.lo;omega
      have hm:most=1000000:=rfl;have i0:(k:Int)<S.clauses.length:=by omega
      have i1:(y.left:Int)<S.watchers.length:=by omega
      have i2:(y.right:Int)<S.watchers.length:=by omega
      refine⟨_,_,w4,?_,by rw[<-hs];exact x4,c2.trans c4⟩;refine C.eq (N'y O ro) rfl rfl (f'f ?_);clear x x2 x4 c2 c4 hs;simp[R'7,ZhK,ZhL,ZhM,ZhN,m1,m4,n4,k1,k2,i0,i1,i2,hk,hl1,hl2,cv1,cv2,e1,p1,f1,g1,e2,p2,f2,g2,r1,sep1,sep2]
     ·rw[if_neg hlb]at hs;simp at hs
   ·rw[if_neg hla]at hs;simp at hs
end
end Go.Proofs.YtimdkminagnhgabGreatDoor
namespace Go.Proofs.YtimdkminagnhgabGreatDoor
open Go.Vm Go.Proofs Go.Ta
set_option maxHeartbeats 2000000
section
variable {H:Type}{O:HI H}{ro:Nat}{c:A'X H}
attribute [local simp] A'b A'c reg to too A'a A'n A'i mv' nl' fl' ld' ln' mk' ia' ik' ix' B'C B'D aLd A'5 A'q A'2 aUn unA ev A'k isB A'Z A'C A'D A'E A'F A'G A'H A'I A'J A'K cIf A'y A'f A'g aSt A'M A't A'N A'O A'P B'c A'Q A'u A'R A'S B'd A'T A'v A'U A'V A'W B'e A'l Instr.fill A'e A'r A'z A's ptr undef B'o B'r A'j B'n A'w A'B B'A A'x B'p rangeA B'E A'o A'4 A'A B'i A'p A'm chk
variable {w w':Own}{h h':H}{q:Nat}{S:Srch}{bW bH bV:Nat}{vA vC vT vS vK:Value}{lv wv:List Value}
theorem G'y (a b:Nat): (((a:Nat):Int)==(b:Int))=decide (a=b):=by
 rw[Bool.eq_iff_iff];simp;omega
theorem E't (a b:Nat): (((a:Nat):Int) != (b:Int)) = !decide (a=b):=by
 rw[bne,G'y]
theorem N'D (L:O.Law)(x:SQ O ro w h q S bW bH bV vA vC vT vS vK lv wv)(k fallen:Nat){y:Cl}(hy:S.clauses[k]?=some y)(hC:S.clauses.length<2000000)(t:Env)(a0:t 0=ptr q)(a1:t 1=ni k)(a2:t 2=ni fallen):
  okE c (A'b (A'c (ZhP O)) (cIf (.tmp 20) (A'b (A'c (ZhQ O ro)) (A'c (ZhR O ro))) A'f)) (t,h)
   (fun e t' g => e = .normal ∧ t' 0 = ptr q ∧ t' 1 = ni k ∧ t' 2 = ni fallen ∧ SQ O ro w g q { S with clauses := S.clauses.set k (if y.left = fallen then { y with left := y.right, right := fallen } else y) } bW bH bV vA vC vT vS vK lv wv ∧ Ch O K11 w h w g) := by
 have hk:=(l'b.1 hy).1;obtain⟨bC,vl,hvC,y0,_,_,k0,k1,k2,k3⟩:=x.getC k hy;have m1:=x.m.get 1 _ rfl;rw[hvC]at m1;have i0:(k:Int)<S.clauses.length:=by omega
 have r1:¬bC<ro:=by have:=y0.lo;omega
 unfold ptr at a0 ⊢
 by_cases he:y.left=fallen
 ·rw[if_pos he];obtain⟨h1,p1,x1,c1⟩:=x.putC L k hy hvC 1 (by omega) (ni y.right) { y with left:=y.right } rfl (λ_=>rfl);have hy1:(S.clauses.set k { y with left:=y.right })[k]?=some { y with left:=y.right }:=by simp[hk]
  have hvC1:vC = .slice (some ⟨bC,0,some 4⟩) (S.clauses.set k { y with left:=y.right }).length 0:=by simpa using hvC
  obtain⟨h2,p2,x2,c2⟩:=x1.putC L k hy1 hvC1 2 (by omega) (ni fallen) { y with left:=y.right,right:=fallen } rfl (λ_=>rfl);simp only[List.set_set]at x2;have n1:=x1.m.get 1 _ rfl;rw[hvC]at n1;refine f'f ?_;have c12:=c1.trans c2;clear c1 c2 x x1;simp[ZhP,ZhQ,ZhR,a0,a1,a2,m1,n1,i0,hk,k1,k2,G'y,he,r1,p1,p2];exact⟨x2,c12⟩
 ·rw[if_neg he];have hself:S.clauses.set k y=S.clauses:=by
   apply List.ext_getElem?;intro j
   by_cases e:k=j
   ·subst e;rw[l'g hk,hy]
   ·rw[l'h e]
  rw[hself];refine f'f ?_;simp[ZhP,a0,a1,a2,m1,i0,hk,k1,G'y,he];exact⟨x,Ch.refl _ _ _⟩
theorem N'E (L:O.Law)(x:SQ O ro w h q S bW bH bV vA vC vT vS vK lv wv)(k:Nat){y:Cl}(hy:S.clauses[k]?=some y)(hC:S.clauses.length<2000000)(hW:S.watchers.length<most)(hH:S.holds.length<most)
  (hl1:∀a∈y.lits,a<most)(hl2:y.lits.length<2000000){vl:Value}(sl:Sm O ro w h (9,0) 1 vl (y.lits.map ni)){res:Option Nat}(hres:D'e S.holds y.left y.lits=some res)
  (happ : ∀ o, res = some o → ∃ wl, S.watchers[o]? = some wl ∧ wl.length < most):
  ∀(t:Env),t 0=ptr q->t 1=ni k->t 7=ni y.left->t 8=vl->t 9=ni 0 ->
  okE c (A'z 0 (A'1 (D'U O Tryz.prog ro))) (t,h) (λe t' g=>(e = .normal∧res=none∧g=h)∨(e = .ret∧t' 6 = .bool true∧∃o wl w' v',res=some o∧S.watchers[o]?=some wl∧SQ O ro w' g q { S with clauses:=S.clauses.set k { y with right:=o },watchers:=S.watchers.set o (wl++[k]) } bW bH bV vA vC vT vS vK lv (wv.set o v')∧Ch O K11 w h w' g)):=by
 intro t0 a0 a1 a7 a8 a9;have hm:most=1000000:=rfl;have hk:=(l'b.1 hy).1;obtain⟨bC,vl0,hvC,y0,_,_,k0,k1,k2,k3⟩:=x.getC k hy;have m1:=x.m.get 1 _ rfl;have m5:=x.m.get 5 _ rfl;rw[hvC]at m1;have i0:(k:Int)<S.clauses.length:=by omega
 have r1:¬bC<ro:=by have:=y0.lo;omega
 have r2:¬bW<ro:=by have:=x.xW.lo;omega
 unfold ptr at a0;obtain⟨aL,cL,rfl⟩:=sl.len (by omega) y.lits.length (by simp);refine okE.blk ?_;refine okE.loop (λn t g=>g=h∧t 0 = .pointer (some ⟨q,0,none⟩)∧t 1=ni k∧t 7=ni y.left∧t 8 = .slice aL y.lits.length cL∧∃i,t 9=ni i∧n=y.lits.length-i∧i<=y.lits.length∧D'e S.holds y.left (y.lits.drop i)=some res) ?_ y.lits.length t0 h ⟨rfl,a0,a1,a7,a8,0,a9,by omega,by omega,by simpa using hres⟩;rintro n t g ⟨rfl,b0,b1,b7,b8,i,b9,hn,hi,hfi⟩;rcases Nat.lt_or_ge i y.lits.length with hlt|hge
 ·have hlt':(i:Int)<y.lits.length:=by omega
  obtain⟨bL,cp,e8,hcp,yl⟩:=sl.blk (by omega) y.lits.length (by simp) (by omega);simp only[Value.slice.injEq,and_true,true_and]at e8;obtain⟨rfl,rfl⟩:=e8;obtain⟨o,ho⟩:=e' (y.lits[i]);have hcell:O.cell g bL i=some (ni o):=by rw[yl.cell i (by simpa using hlt)];simp[hlt,ho]
  have hdrop:y.lits.drop i=o :: y.lits.drop (i+1):=by rw[ho];exact l's hlt
  have hom:o<most:=hl1 o (by rw[ho];exact List.getElem_mem hlt);rw[hdrop]at hfi;simp only[D'e]at hfi;have hw:=w'1 i;obtain⟨i',hi'⟩:=e' (i+1);rw[<-hi']at hw;have hxo:=C'v o (by omega);have next:okE c (D'U O Tryz.prog ro) (t,g) (λe t' g'=>e = .normal∧g'=g∧t' 0 = .pointer (some ⟨q,0,none⟩)∧t' 1=ni k∧t' 7=ni y.left∧t' 8 = .slice (some ⟨bL,0,some 1⟩) y.lits.length cL∧t' 9=ni i')->D'e S.holds y.left (y.lits.drop i')=some res ->
    okE c (D'U O Tryz.prog ro) (t,g) (λe t' g'=>(e = .normal∧∃n',n'<n∧(g'=g∧t' 0 = .pointer (some ⟨q,0,none⟩)∧t' 1=ni k∧t' 7=ni y.left∧t' 8 = .slice (some ⟨bL,0,some 1⟩) y.lits.length cL∧∃i,t' 9=ni i∧n'=y.lits.length-i∧i<=y.lits.length∧D'e S.holds y.left (y.lits.drop i)=some res))∨(e≠.normal∧((A's 0 e = .normal∧res=none∧g'=g)∨(A's 0 e = .ret∧t' 6 = .bool true∧∃o wl w' v',res=some o∧S.watchers[o]?=some wl∧SQ O ro w' g' q { S with clauses:=S.clauses.set k { y with right:=o },watchers:=S.watchers.set o (wl++[k]) } bW bH bV vA vC vT vS vK lv (wv.set o v')∧Ch O K11 w g w' g')))):=by
   intro hok hfin;refine hok.mono ?_;rintro e t' g' ⟨rfl,rfl,d0,d1,d7,d8,d9⟩;exact .inl ⟨rfl,y.lits.length-i',by omega,rfl,d0,d1,d7,d8,i',d9,rfl,by omega,hfin⟩
  by_cases hol:o=y.left
  ·rw[if_pos hol]at hfi;refine next ?_ (by rw[hi'];exact hfi)
   refine f'f ?_;simp[D'U,ZhX,ZhY,ZhZ,Zh3,b0,b1,b7,b8,b9,hlt,hlt',hcell,E't,hol,hw]
  ·rw[if_neg hol]at hfi
   cases hho:S.holds[o ^^^ 1]? with
   | none=>rw[hho]at hfi;simp at hfi
   | some bb=>
    rw[hho]at hfi;have hhc:=x.getH _ hho;have hxl:=(l'b.1 hho).1;have hxl':((o ^^^ 1:Nat):Int)<S.holds.length:=by omega
    obtain⟨z,hz⟩:=e' (o ^^^ 1);rw[<-hz]at hxo hhc hxl hxl'
    cases bb with
    | true=>
     refine next ?_ (by rw[hi'];exact hfi)
     refine f'f ?_;simp[D'U,ZhX,ZhY,ZhZ,Zh3,b0,b1,b7,b8,b9,hlt,hlt',hcell,E't,hol,hw,m5,hxo,hxl,hxl',hhc]
    | false=>
     simp only[l'a]at hfi;obtain⟨wl,hwl,hwm⟩:=happ o hfi.symm;obtain⟨h1,p1,x1,c1⟩:=x.putC L k hy hvC 2 (by omega) (ni o) { y with right:=o } rfl (λ_=>rfl);obtain⟨v1,hv1,cv1,s1⟩:=x1.getW o (l:=wl) hwl;have sep1:=x1.sep (o:=4) s1;obtain⟨v',h2,h3,w3,e2,p2,f2,g2,x3,c3⟩:=x1.appW L o k (l:=wl) hwl hv1 hwm;have n4:=x1.m.get 4 _ rfl;have how:=(l'b.1 hwl).1;have how':(o:Int)<S.watchers.length:=by omega
     have c13:=c1.trans c3;refine f'f ?_;clear c1 c3 x1;simp[D'U,ZhX,ZhY,ZhZ,Zh0,Zh1,Zh2,b0,b1,b7,b8,b9,hlt,hlt',hcell,E't,hol,hw,m5,hxo,hxl,hxl',hhc,m1,i0,hk,r1,r2,p1,n4,how,how',cv1,e2,p2,f2,g2,sep1];exact⟨o,hfi.symm,wl,hwl,w3,⟨v',x3⟩,c13⟩
 ·have hge':¬((i:Int)<y.lits.length):=by omega
  have hlt:¬(i<y.lits.length):=by omega
  have:y.lits.drop i=[]:=List.drop_eq_nil_of_le hge;rw[this]at hfi;simp only[D'e,l'a]at hfi;refine f'f ?_;simp[D'U,ZhX,b8,b9,hge',hlt,<-hfi]
theorem P'K (C:LP' O ro c)(L:O.Law)(x:SQ O ro w h q S bW bH bV vA vC vT vS vK lv wv)(k fallen:Nat){S':Srch}{mv:Bool}(hs:E'I S k fallen=some (S',mv))(hC:S.clauses.length<2000000)(hW:S.watchers.length<most)(hH:S.holds.length<most)
  (hl : ∀ y, S.clauses[k]? = some y → (∀ a ∈ y.lits, a < most) ∧ y.lits.length < 2000000 ∧ y.left < most ∧ y.right < most)(hf : fallen < most):
  ∃wv' h' w',c 221 [ptr q,ni k,ni fallen] h=some (.bool mv,h')∧SQ O ro w' h' q S' bW bH bV vA vC vT vS vK lv wv'∧Ch O K11 w h w' h'∧wv'[fallen]?=wv[fallen]?:=by
 have hm:most=1000000:=rfl;unfold E'I at hs
 cases hy:S.clauses[k]? with
 | none=>rw[hy]at hs;simp at hs
 | some y=>
  rw[hy]at hs;simp only at hs;obtain⟨hl1,hl2,hl3,hl4⟩:=hl y hy;have hk:=(l'b.1 hy).1;have key:∃v h',c 221 [ptr q,ni k,ni fallen] h=some (v,h')∧(v = .bool mv∧∃wv' w',SQ O ro w' h' q S' bW bH bV vA vC vT vS vK lv wv'∧Ch O K11 w h w' h'∧wv'[fallen]?=wv[fallen]?):=by
   refine C.fn (N'z O ro) rfl rfl ?_;unfold R'8;refine s'f ?_;simp only[ZhO,A'c,reg,to,A'i,mv',nl',fl',ld',ln',mk',ia',ik',ix',ev,l'l,A'g,A'd];refine okE.seq ((N'D L x k fallen hy hC _ rfl rfl rfl).mono ?_);generalize hc1:(if y.left=fallen then { y with left:=y.right,right:=fallen } else y:Cl)=c1 at hs ⊢;have hlits:c1.lits=y.lits:=by rw[<-hc1];split <;> rfl
   have hleft:c1.left<most:=by rw[<-hc1];split;exact hl4;exact hl3
   rintro e t g ⟨rfl,a0,a1,a2,x1,cc1⟩;simp only[A'd];have hy1:(S.clauses.set k c1)[k]?=some c1:=by simp[hk]
   obtain⟨bC,vl,hvC,y0,hlv,sl,k0,k1,k2,k3⟩:=x1.getC k hy1;have m1:=x1.m.get 1 _ rfl;have m5:=x1.m.get 5 _ rfl;rw[hvC]at m1;simp only[List.length_set]at m1;have i0:(k:Int)<S.clauses.length:=by omega
   unfold ptr at a0;have s4:okE c (A'c (ZhS O)) (t,g) (λe t' g'=>e = .normal∧g'=g∧t' 0 = .pointer (some ⟨q,0,none⟩)∧t' 1=ni k∧t' 7=ni c1.left):=by
    refine f'f ?_;simp[ZhS,a0,a1,m1,i0,hk,k1]
   refine okE.seq (s4.mono ?_);rintro e t4 g4 ⟨rfl,rfl,b0,b1,b7⟩;simp only[A'd]
   cases hhl:S.holds[c1.left]? with
   | none=>rw[hhl]at hs;simp at hs
   | some bb=>
    rw[hhl]at hs;have hhc:=x1.getH (S:={ S with clauses:=S.clauses.set k c1 }) c1.left (b:=bb) hhl;have hxl:=(l'b.1 hhl).1;have hxl':(c1.left:Int)<S.holds.length:=by omega
    cases bb with
    | true=>
     simp only[l'a,l'd]at hs;have s5:okE c (A'b (A'c (ZhT O)) (cIf (.tmp 58) (A'b (A'c ZhU) A'y) A'f)) (t4,g4) (λe t' g'=>e = .ret∧g'=g4∧t' 6 = .bool false):=by
      refine f'f ?_;simp[ZhT,ZhU,b0,b1,b7,m5,hxl,hxl',hhc]
     refine okE.seq (s5.mono ?_);rintro e t5 g5 ⟨rfl,rfl,b6⟩;simp only[A'd];refine⟨by simp,.bool false,by simp[A'L,A'h,rvE,b6],by rw[hs.2],wv,w,by rw[<-hs.1];exact x1,cc1,rfl⟩
    | false=>
     simp only at hs;have s5:okE c (A'b (A'c (ZhT O)) (cIf (.tmp 58) (A'b (A'c ZhU) A'y) A'f)) (t4,g4) (λe t' g'=>e = .normal∧g'=g4∧t' 0 = .pointer (some ⟨q,0,none⟩)∧t' 1=ni k∧t' 7=ni c1.left):=by
      refine f'f ?_;simp[ZhT,ZhU,b0,b1,b7,m5,hxl,hxl',hhc]
     refine okE.seq (s5.mono ?_);rintro e t5 g5 ⟨rfl,rfl,d0,d1,d7⟩;simp only[A'd];have s7:okE c (A'c (ZhV O)) (t5,g5) (λe t' g'=>e = .normal∧g'=g5∧t' 0 = .pointer (some ⟨q,0,none⟩)∧t' 1=ni k∧t' 7=ni c1.left∧t' 8=vl):=by
      refine f'f ?_;simp[ZhV,d0,d1,d7,m1,i0,hk,k0]
     refine okE.seq (s7.mono ?_);rintro e t7 g7 ⟨rfl,rfl,d0,d1,d7,d8⟩;simp only[A'd];have s8:okE c (A'c ZhW) (t7,g7) (λe t' g'=>e = .normal∧g'=g7∧t' 0 = .pointer (some ⟨q,0,none⟩)∧t' 1=ni k∧t' 7=ni c1.left∧t' 8=vl∧t' 9=ni 0):=by
      refine f'f ?_;simp[ZhW,d0,d1,d7,d8]
     refine okE.seq (okE.seq (s8.mono ?_));rintro e t8 g8 ⟨rfl,rfl,d0,d1,d7,d8,d9⟩;simp only[A'd]
     cases hfd:D'e S.holds c1.left c1.lits with
     | none=>rw[hfd]at hs;simp at hs
     | some res=>
      rw[hfd]at hs;have loop:=N'E (c:=c) L x1 k (y:=c1) hy1 (by simpa using hC) hW hH (by rw[hlits];exact hl1) (by rw[hlits];exact hl2) sl (res:=res) hfd (by
       rintro o rfl;simp only at hs
       cases hwo:S.watchers[o]? with
       | none=>rw[hwo]at hs;simp at hs
       | some wl=>
        rw[hwo]at hs;simp only at hs
        by_cases hcond:wl.length<most∧o≠fallen
        ·exact⟨wl,rfl,hcond.1⟩
        ·rw[if_neg hcond]at hs;simp at hs) t8 d0 d1 d7 d8 d9
      refine loop.mono ?_;rintro e t9 g9 (⟨rfl,rfl,rfl⟩|⟨rfl,d6,o,wl,w2,v',rfl,hwo,x2,c2⟩)
      ·simp only[A'd];simp only[l'a,l'd]at hs;refine f'f ?_;simp[Zh4,A'L,A'h,rvE,<-hs.2];exact⟨wv,w,by rw[<-hs.1];exact x1,cc1,rfl⟩
      ·simp only[A'd];simp only[hwo]at hs
       by_cases hcond:wl.length<most∧o≠fallen
       ·rw[if_pos hcond]at hs;simp only[l'a,l'd]at hs;refine⟨by simp,.bool true,by simp[A'L,A'h,rvE,d6],by rw[hs.2],wv.set o v',w2,?_,cc1.trans c2,?_⟩
        ·rw[<-hs.1];simpa only[List.set_set]using x2
        ·rw[l'h hcond.2]
       ·rw[if_neg hcond]at hs;simp at hs
  obtain⟨v,h',e1,rfl,wv',w',e2⟩:=key;exact⟨wv',h',w',e1,e2⟩
end
end Go.Proofs.YtimdkminagnhgabGreatDoor
namespace Go.Ta
structure Cl.Ok (y:Cl):Prop where
 lits:∀a∈y.lits,a<most
 len:y.lits.length<=most
 left:y.left<most
 right:y.right<most
 span:y.span<=2*most
structure Vr.Ok (v:Vr):Prop where
 weight:v.weight<B'9
 reason:∀k,v.reason=some k->k<2*most
 level:v.level<=most
structure Bd (S:Srch):Prop where
 cls:∀y∈S.clauses,y.Ok
 nC:S.clauses.length<=most
 nW:S.watchers.length<most
 nH:S.holds.length<most
 nV:S.vars.length<most
 nS:S.starts.length<=most
 nT:S.trail.length<=most
 nA:S.assumed.length<=most
 nK:S.core.length<=most
 wl:∀l∈S.watchers,l.length<=most∧∀k∈l,k<2*most
 tr:∀l∈S.trail,l<most
 st:∀s∈S.starts,s<=most
 asm:∀l∈S.assumed,l<most
 vr:∀v∈S.vars,v.Ok
 gv:S.given<=most
 dr:S.drawn<=2*most
 bo:S.bonus<B'9
 me:S.met<=B'9
theorem getElem?_mem {α:Type}{l:List α}{i:Nat}{x:α}(h:l[i]?=some x): x∈l:=l'f h
theorem F'k {S S':Srch}{l:Nat}{r:Option Nat}(hs:G'4 S l r=some S')(B:Bd S)(hr:∀k,r=some k->k<2*most): Bd S'∧S'.watchers=S.watchers∧S'.clauses=S.clauses∧S'.starts=S.starts∧S'.assumed=S.assumed∧S'.core=S.core∧S'.met=S.met∧S'.given=S.given:=by
 unfold G'4 at hs
 cases hv:S.vars[l/2]? with
 | none=>rw[hv]at hs;simp at hs
 | some v=>
  rw[hv]at hs;simp only at hs
  by_cases hb:l<S.holds.length∧S.trail.length<most
  ·rw[if_pos hb]at hs;simp only[l'a]at hs;subst hs;have hV:=B.vr v (getElem?_mem hv);refine⟨⟨B.cls,B.nC,B.nW,by simpa using B.nH,by simpa using B.nV,B.nS,by simp;omega,B.nA,B.nK,B.wl,?_,B.st,B.asm,?_,B.gv,B.dr,B.bo,B.me⟩,rfl,rfl,rfl,rfl,rfl,rfl,rfl⟩
   ·intro a ha;rcases l'E.1 ha with ha|ha
    ·exact B.tr a ha
    ·simp at ha;subst ha;have:=B.nH;omega
   ·intro a ha;rcases List.mem_or_eq_of_mem_set ha with ha|rfl
    ·exact B.vr a ha
    ·exact⟨hV.weight,hr,B.nS⟩
  ·rw[if_neg hb]at hs;simp at hs
theorem I'0 {holds:List Bool}{left:Nat}: ∀{l:List Nat}{o:Nat},D'e holds left l=some (some o)->o∈l:=by
 intro l
 induction l with
 | nil=>intro o h;simp[D'e]at h
 | cons a l ih=>
  intro o h;simp only[D'e]at h;split at h
  ·exact List.mem_cons_of_mem _ (ih h)
  ·split at h
   ·simp at h
   ·exact List.mem_cons_of_mem _ (ih h)
   ·simp at h;subst h;exact List.mem_cons_self ..
theorem K'N {S S':Srch}{k fallen:Nat}{mv:Bool}(hs:E'I S k fallen=some (S',mv))(B:Bd S)(hf:fallen<most): Bd S'∧S'.watchers[fallen]?=S.watchers[fallen]?∧S'.clauses.length=S.clauses.length∧k<S.clauses.length∧S'.starts=S.starts∧S'.assumed=S.assumed∧S'.core=S.core∧S'.trail=S.trail∧S'.met=S.met∧S'.given=S.given:=by
 unfold E'I at hs
 cases hy:S.clauses[k]? with
 | none=>rw[hy]at hs;simp at hs
 | some y=>
  rw[hy]at hs;simp only at hs;have hk:=(l'b.1 hy).1;have hY:=B.cls y (getElem?_mem hy);generalize hc1:(if y.left=fallen then { y with left:=y.right,right:=fallen } else y:Cl)=c1 at hs;have h1:c1.Ok:=by
   rw[<-hc1];split
   ·exact⟨hY.lits,hY.len,hY.right,hf,hY.span⟩
   ·exact hY
  have cl:∀(z:Cl),z.Ok->∀y∈S.clauses.set k z,y.Ok:=by
   intro z hz y hy;rcases List.mem_or_eq_of_mem_set hy with hy|rfl
   ·exact B.cls y hy
   ·exact hz
  have base:Bd { S with clauses:=S.clauses.set k c1 }:=⟨cl c1 h1,by simpa using B.nC,B.nW,B.nH,B.nV,B.nS,B.nT,B.nA,B.nK,B.wl,B.tr,B.st,B.asm,B.vr,B.gv,B.dr,B.bo,B.me⟩;split at hs
  ·simp at hs
  ·simp only[l'a,l'd]at hs;obtain⟨rfl,rfl⟩:=hs;exact⟨base,rfl,by simp,hk,rfl,rfl,rfl,rfl,rfl,rfl⟩
  ·split at hs
   ·simp at hs
   ·simp only[l'a,l'd]at hs;obtain⟨rfl,rfl⟩:=hs;exact⟨base,rfl,by simp,hk,rfl,rfl,rfl,rfl,rfl,rfl⟩
   ·rename_i o ho
    have hom:=h1.lits o (I'0 ho);split at hs
    ·simp at hs
    ·rename_i wl hwl
     by_cases hc:wl.length<most∧o≠fallen
     ·rw[if_pos hc]at hs;simp only[l'a,l'd]at hs;obtain⟨rfl,rfl⟩:=hs;refine⟨⟨cl _ ⟨h1.lits,h1.len,h1.left,hom,h1.span⟩,by simpa using B.nC,by simpa using B.nW,B.nH,B.nV,B.nS,B.nT,B.nA,B.nK,?_,B.tr,B.st,B.asm,B.vr,B.gv,B.dr,B.bo,B.me⟩,?_,by simp,hk,rfl,rfl,rfl,rfl,rfl,rfl⟩
      ·intro l hl;rcases List.mem_or_eq_of_mem_set hl with hl|rfl
       ·exact B.wl l hl
       ·refine⟨by simp;omega,λj hj=>?_⟩;rcases l'E.1 hj with hj|hj
        ·exact (B.wl wl (getElem?_mem hwl)).2 j hj
        ·simp at hj;subst hj;have:=B.nC;have:most=1000000:=rfl;omega
      ·rw[l'h hc.2]
     ·rw[if_neg hc]at hs;simp at hs
end Go.Ta
namespace Go.Proofs.YtimdkminagnhgabGreatDoor
open Go.Vm Go.Proofs Go.Ta
set_option maxHeartbeats 2000000
section
variable {H:Type}{O:HI H}{ro:Nat}{c:A'X H}
attribute [local simp] A'b A'c reg to too A'a A'n A'i mv' nl' fl' ld' ln' mk' ia' ik' ix' B'C B'D aLd A'5 A'q A'2 aUn unA ev A'k isB A'Z A'C A'D A'E A'F A'G A'H A'I A'J A'K cIf A'y A'f A'g aSt A'M A't A'N A'O A'P B'c A'Q A'u A'R A'S B'd A'T A'v A'U A'V A'W B'e A'l Instr.fill A'e A'r A'z A's ptr undef B'o B'r A'j B'n A'w A'B B'A A'x B'p rangeA B'E A'o A'4 A'A B'i A'p A'm chk
variable {w w':Own}{h h':H}{q:Nat}{S:Srch}{bW bH bV:Nat}{vA vC vT vS vK:Value}{lv wv:List Value}
theorem SQ.putL (L:O.Law)(x:SQ O ro w h q S bW bH bV vA vC vT vS vK lv wv)(i:Nat){l:List Nat}{b m:Nat}(hl:S.watchers[i]?=some l)(hv:wv[i]?=some (.slice (some ⟨b,0,some 1⟩) m 0))(j k:Nat)(hj:j<l.length):
  ∃h1,A'6 O h b j [ni k]=some h1∧SQ O ro w h1 q { S with watchers:=S.watchers.set i (l.set j k) } bW bH bV vA vC vT vS vK lv wv∧Ch O K11 w h w h1:=by
 have hi:=(l'b.1 hl).1;rcases x.aW i l _ hl hv with ⟨e,_⟩|⟨b',m',e,el,y⟩
 ·simp at e
 ·simp only[Value.slice.injEq,l'a,Addr.mk.injEq,and_true]at e;obtain⟨rfl,rfl⟩:=e;have hjl:j<(l.map ni).length:=by simpa using hj
  obtain⟨s1,c1⟩:=Sz.put L (sz:=1) (m:=m) el y j hjl (ni k);have hc:O.cell h b j=some (ni l[j]):=by rw[y.cell j hjl];simp[hj]
  refine⟨_,A'8 hc,⟨?_,x.sA.ch L c1,x.sC.ch L c1,x.lC,λk y v h1 h2=>(x.aC k y v h1 h2).ch L c1,x.xW.ch L c1,by simpa using x.lW,λi' l' v g1 g2=>?_,x.xH.ch L c1,x.xV.ch L c1,x.sT.ch L c1,x.sS.ch L c1,x.sK.ch L c1,l'G x.lo c1.nx⟩,c1.mono (by rintro u rfl;exact .inr rfl)⟩
  ·have:=x.m.ch L c1;simpa using this
  ·by_cases e:i'=i
   ·subst e;simp only[l'g hi,l'a]at g1;rw[hv]at g2;simp only[l'a]at g2;subst g1 g2;simpa [List.map_set]using s1
   ·have g1':S.watchers[i']?=some l':=by rw[<-g1,l'h (λq=>e q.symm)]
    exact (x.aW i' l' v g1' g2).ch L c1 (by simp[e])
theorem SQ.setW (L:O.Law)(x:SQ O ro w h q S bW bH bV vA vC vT vS vK lv wv)(i:Nat){l:List Nat}{v:Value}(hi:i<S.watchers.length)(s:Sz O ro w h (12,i) 1 v (l.map ni)):
  ∃h1,A'6 O h bW i [v]=some h1∧SQ O ro w h1 q { S with watchers:=S.watchers.set i l } bW bH bV vA vC vT vS vK lv (wv.set i v)∧Ch O K11 w h w h1:=by
 have hiw:i<wv.length:=by rw[x.lW];exact hi
 have c2:=Ch.put L (K:=λu=>u=(11,4)) x.xW i hiw v rfl;have m2:=x.xW.put L i hiw v;refine⟨_,A'8 (x.xW.get i _ (l'c hiw)),⟨?_,x.sA.ch L c2,x.sC.ch L c2,x.lC,λk y v h1 h2=>(x.aC k y v h1 h2).ch L c2,m2,by simp[x.lW],λj l' u g1 g2=>?_,x.xH.ch L c2,x.xV.ch L c2,x.sT.ch L c2,x.sS.ch L c2,x.sK.ch L c2,l'G x.lo c2.nx⟩,c2.mono (by rintro u rfl;exact .inl rfl)⟩
 ·have:=x.m.ch L c2;simpa using this
 ·by_cases e:j=i
  ·subst e;simp only[l'g hi,l'a]at g1;simp only[l'g hiw,l'a]at g2;subst g1 g2;exact s.ch L c2
  ·have g1':S.watchers[j]?=some l':=by rw[<-g1,l'h (λq=>e q.symm)]
   have g2':wv[j]?=some u:=by rw[<-g2,l'h (λq=>e q.symm)]
   exact (x.aW j l' u g1' g2').ch L c2
structure VI (O:HI H) (ro:Nat)(w0:Own)(h0:H) (q fallen N:Nat) (bW bH bV:Nat)(vA vC vS vK:Value)(lv:List Value)(v:Value) (n:Nat)(S1:Srch) (i kept:Nat)(w1:Own)(wv1:List Value)(vT1:Value)(g:H):Prop where
 x:SQ O ro w1 g q S1 bW bH bV vA vC vT1 vS vK lv wv1
 ch:Ch O K11 w0 h0 w1 g
 bd:Bd S1
 wv:wv1[fallen]?=some v
 wl:∃wl,S1.watchers[fallen]?=some wl∧wl.length=N
 hi:i+n=N
 hk:kept<=i
theorem K'O (C:LP' O ro c)(L:O.Law){w0:Own}{h0:H}{fallen N n:Nat}(hf:fallen<most)(hN:N<=most){v:Value}{S1:Srch}{i kept:Nat}{w1:Own}{wv1:List Value}{vT1:Value}{g:H}
  (I:VI O ro w0 h0 q fallen N bW bH bV vA vC vS vK lv v (n+1) S1 i kept w1 wv1 vT1 g)(clash:Option Nat){R:Srch×Nat×Option Nat}(hR:B'W fallen (n+1) S1 i kept clash=some R)
  (t : Env)(b0 : t 0 = .pointer (some ⟨q, 0, none⟩))(b1 : t 1 = ni fallen)(b5 : t 5 = v)(b6 : t 6 = rv clash)(b7 : t 7 = ni kept)(b8 : t 8 = ni i):
  okE c (D'S O Tryz.prog ro) (t,g) (λe t' g'=>e = .normal∧∃S2 kept2 clash2 w2 wv2 vT2,VI O ro w0 h0 q fallen N bW bH bV vA vC vS vK lv v n S2 (i+1) kept2 w2 wv2 vT2 g'∧B'W fallen n S2 (i+1) kept2 clash2=some R∧t' 0 = .pointer (some ⟨q,0,none⟩)∧t' 1=ni fallen∧t' 5=v∧t' 6=rv clash2∧t' 7=ni kept2∧t' 8=ni (i+1)):=by
 have hm:most=1000000:=rfl;obtain⟨wl,hwl,hlen⟩:=I.wl;have hin:=I.hi;have hki:=I.hk;simp only[B'W,hwl]at hR;have hil:i<wl.length:=by omega
 obtain⟨k,hk⟩:∃k,wl[i]?=some k:=⟨_,l'c hil⟩;rw[hk]at hR;simp only at hR;obtain⟨bL,rfl,yl⟩:=(I.x.aW fallen wl v hwl I.wv).blk (by omega) N (by simp[hlen]) (by omega);have hcell:O.cell g bL i=some (ni k):=by rw[yl.cell i (by simpa using hil)];simp[hk]
 have i1:(i:Int)<N:=by omega
 have hiN:i<N:=by omega
 have hkN:kept<N:=by omega
 have kN':(kept:Int)<N:=by omega
 have hwi:=w'1 i;obtain⟨i',hi'⟩:=e' (i+1);have hwk:=w'1 kept;obtain⟨kp',hkp'⟩:=e' (kept+1);have rL:¬bL<ro:=by have:=yl.lo;omega
 rw[<-hi']at hwi ⊢;rw[<-hkp']at hwk
 cases hlk:E'I S1 k fallen with
 | none=>rw[hlk]at hR;simp at hR
 | some p=>
  obtain⟨S2,mv⟩:=p;rw[hlk]at hR;obtain⟨B2,hw2,hc2,hkc,_⟩:=K'N hlk I.bd hf;have hY:∀y,S1.clauses[k]?=some y->(∀a∈y.lits,a<most)∧y.lits.length<2000000∧y.left<most∧y.right<most:=λy hy=>by
   have:=I.bd.cls y (getElem?_mem hy);exact⟨this.lits,by have:=this.len;omega,this.left,this.right⟩
  obtain⟨wv2,h2,w2,e2,x2,c2,hwv2⟩:=P'K C L I.x k fallen hlk (by have:=I.bd.nC;omega) I.bd.nW I.bd.nH hY hf;rw[I.wv]at hwv2;rw[hwl]at hw2;unfold ptr at e2
  cases mv with
  | true=>
   simp only at hR;refine f'f ?_;simp[D'S,Zhe,Zhf,Zhg,Zhh,Zhp,b0,b1,b5,b6,b7,b8,i1,hiN,hcell,e2,hwi];rw[<-hi']at hR;exact⟨S2,kept,⟨w2,wv2,vT1,x2,I.ch.trans c2,B2,hwv2,⟨wl,hw2,hlen⟩,by omega,by omega⟩,clash,hR,rfl,rfl⟩
  | false=>
   simp only at hR;obtain⟨h3,p3,x3,c3⟩:=x2.putL L fallen hw2 hwv2 kept k (by omega);have hc3:({ S2 with watchers:=S2.watchers.set fallen (wl.set kept k) }:Srch).clauses[k]?=S2.clauses[k]?:=rfl
   cases hy:S2.clauses[k]? with
   | none=>rw[hy]at hR;simp at hR
   | some y=>
    rw[hy]at hR;simp only at hR;obtain⟨bC,vl,hvC,y0,_,_,k0,k1,k2,k3⟩:=x3.getC k (y:=y) hy;have hYb:=B2.cls y (getElem?_mem hy);have hkc2:=(l'b.1 hy).1;have m1:=x3.m.get 1 _ rfl;have m5:=x3.m.get 5 _ rfl;rw[hvC]at m1;simp only at m1 m5;have i2:(k:Int)<S2.clauses.length:=by omega
    have hxo:=C'v y.left (by have:=hYb.left;omega);have B3:Bd { S2 with watchers:=S2.watchers.set fallen (wl.set kept k) }:=⟨B2.cls,B2.nC,by simpa using B2.nW,B2.nH,B2.nV,B2.nS,B2.nT,B2.nA,B2.nK,λl hl=>by
      rcases List.mem_or_eq_of_mem_set hl with hl|rfl
      ·exact B2.wl l hl
      ·refine⟨by simp;omega,λj hj=>?_⟩;rcases List.mem_or_eq_of_mem_set hj with hj|rfl
       ·exact (B2.wl wl (getElem?_mem hw2)).2 j hj
       ·have:=I.bd.nC;omega,B2.tr,B2.st,B2.asm,B2.vr,B2.gv,B2.dr,B2.bo,B2.me⟩
    have hfw:fallen<S2.watchers.length:=(l'b.1 hw2).1;have W3:({ S2 with watchers:=S2.watchers.set fallen (wl.set kept k) }:Srch).watchers[fallen]?=some (wl.set kept k):=by simp[hfw]
    have c23:=(I.ch.trans c2).trans c3
    cases hh:S2.holds[y.left ^^^ 1]? with
    | none=>rw[hh]at hR;simp at hR
    | some bb=>
     rw[hh]at hR;have g1:=x3.getH (y.left ^^^ 1) (b:=bb) hh;have hxl:=(l'b.1 hh).1;have hxl':((y.left ^^^ 1:Nat):Int)<S2.holds.length:=by omega
     obtain⟨z,hz⟩:=e' (y.left ^^^ 1);rw[<-hz]at hxo g1 hxl hxl'
     cases bb with
     | true=>
      simp only at hR;refine f'f ?_;simp[D'S,Zhe,Zhf,Zhg,Zhh,Zhi,Zhj,Zhk,Zhl,Zhm,Zhp,b0,b1,b5,b6,b7,b8,i1,hiN,hcell,e2,hwi,hkN,kN',rL,p3,hwk,m1,i2,hkc2,k1,m5,hxo,hxl,hxl',g1];rw[<-hi',<-hkp']at hR;exact⟨_,kp',⟨w2,wv2,vT1,x3,c23,B3,hwv2,⟨_,W3,by simpa using hlen⟩,by omega,by omega⟩,some k,hR,rfl,rfl⟩
     | false=>
      cases hh2:S2.holds[y.left]? with
      | none=>rw[hh2]at hR;simp at hR
      | some cc=>
       rw[hh2]at hR;have g2:=x3.getH y.left (b:=cc) hh2;have hxl2:=(l'b.1 hh2).1;have hxl2':(y.left:Int)<S2.holds.length:=by omega
       cases cc with
       | true=>
        simp only at hR;refine f'f ?_;simp[D'S,Zhe,Zhf,Zhg,Zhh,Zhi,Zhj,Zhk,Zhl,Zhn,Zhp,b0,b1,b5,b6,b7,b8,i1,hiN,hcell,e2,hwi,hkN,kN',rL,p3,hwk,m1,i2,hkc2,k1,m5,hxo,hxl,hxl',g1,g2,hxl2,hxl2'];rw[<-hi',<-hkp']at hR;exact⟨_,kp',⟨w2,wv2,vT1,x3,c23,B3,hwv2,⟨_,W3,by simpa using hlen⟩,by omega,by omega⟩,clash,hR,rfl,rfl⟩
       | false=>
        simp only at hR
        cases hst:G'4 { S2 with watchers:=S2.watchers.set fallen (wl.set kept k) } y.left (some k) with
        | none=>rw[hst]at hR;simp at hR
        | some S4=>
         rw[hst]at hR;obtain⟨B4,hw4,_⟩:=F'k hst B3 (λj hj=>by simp at hj;subst hj;have:=I.bd.nC;omega);obtain⟨vT4,h4,w4,e4,x4,c4⟩:=K'M C L x3 y.left (some k) hst B3.nV B3.nH;unfold ptr at e4;simp only[rv]at e4;refine f'f ?_;have c24:=c23.trans c4;rw[<-hw4]at W3;clear c23 c4 c3 c2;simp[D'S,Zhe,Zhf,Zhg,Zhh,Zhi,Zhj,Zhk,Zhl,Zhn,Zho,Zhp,b0,b1,b5,b6,b7,b8,i1,hiN,hcell,e2,hwi,hkN,kN',rL,p3,hwk,m1,i2,hkc2,k1,m5,hxo,hxl,hxl',g1,g2,hxl2,hxl2',e4];rw[<-hi',<-hkp']at hR;exact⟨_,kp',⟨w4,wv2,vT4,x4,c24,B4,hwv2,⟨_,W3,by simpa using hlen⟩,by omega,by omega⟩,clash,hR,rfl,rfl⟩
end
end Go.Proofs.YtimdkminagnhgabGreatDoor
