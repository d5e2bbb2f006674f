import Derived.Test.YtimdkminagnhgaaGreatDoorQ11
set_option linter.all false
namespace Go.Proofs.YtimdkminagnhgaaGreatDoor
open Go.Vm Go.Proofs
set_option maxHeartbeats 1000000
abbrev Tag:= Nat×Nat
abbrev Own:= Nat->Tag
def Own.set (w:Own)(b:Nat)(t:Tag): Own:=λi=>if i=b then t else w i
section
variable {H:Type}{O:HI H}{ro:Nat}{c:CallT H}
structure Ch (O:HI H)(K:Tag->Prop)(w:Own)(h:H)(w':Own)(h':H):Prop where
 nx:O.next h<=O.next h'
 ow:∀b,b<O.next h->w' b=w b
 fr:∀b,b<O.next h->¬K (w b)->(∀o,O.cell h' b o=O.cell h b o)∧O.alive h' b=O.alive h b
theorem Ch.refl (K:Tag->Prop)(w:Own)(h:H): Ch O K w h w h:=⟨l'H _,λ_ _=>rfl,λ_ _ _=>⟨λ_=>rfl,rfl⟩⟩
theorem Ch.trans {K:Tag->Prop}{w1 w2 w3:Own}{h1 h2 h3:H}(a:Ch O K w1 h1 w2 h2)(b:Ch O K w2 h2 w3 h3): Ch O K w1 h1 w3 h3:=by
 refine⟨l'G a.nx b.nx,λx hx=>?_,λx hx hk=>?_⟩
 ·rw[b.ow x (Nat.lt_of_lt_of_le hx a.nx),a.ow x hx]
 ·have h1:=a.fr x hx hk;have h2:=b.fr x (Nat.lt_of_lt_of_le hx a.nx) (by rw[a.ow x hx];exact hk);exact⟨λo=>(h2.1 o).trans (h1.1 o),h2.2.trans h1.2⟩
theorem Ch.mono {K K':Tag->Prop}{w w':Own}{h h':H}(a:Ch O K w h w' h')(hk:∀t,K t->K' t): Ch O K' w h w' h':=
 ⟨a.nx,a.ow,λb hb hn=>a.fr b hb λhx=>hn (hk _ hx)⟩
structure Bx (O:HI H) (ro:Nat)(w:Own)(h:H)(t:Tag) (b:Nat)(l:List Value):Prop where
 tag:w b=t
 lo:ro<=b
 al:O.alive h b=true
 cell:∀i,i<l.length->O.cell h b i=l[i]?
theorem Bx.lt (L:O.Law){w:Own}{h:H}{t:Tag}{b:Nat}{l:List Value}(x:Bx O ro w h t b l): b<O.next h:=L.alive_lt _ _ x.al
theorem Bx.ch (L:O.Law){K:Tag->Prop}{w w':Own}{h h':H}{t:Tag}{b:Nat}{l:List Value}(x:Bx O ro w h t b l)(a:Ch O K w h w' h')(hk:¬K t:=by simp): Bx O ro w' h' t b l:=by
 have hb:=x.lt L;have:=a.fr b hb (by rw[x.tag];exact hk);exact⟨by rw[a.ow b hb,x.tag],x.lo,by rw[this.2,x.al],λi hi=>by rw[this.1,x.cell i hi]⟩
theorem Bx.get {w:Own}{h:H}{t:Tag}{b:Nat}{l:List Value}(x:Bx O ro w h t b l)(i:Nat)(v:Value)(hv:l[i]?=some v): O.cell h b i=some v:=by
 rw[x.cell i (by by_cases hi:i<l.length;exact hi;rw[List.getElem?_eq_none (by omega)]at hv;simp at hv),hv]
theorem Bx.new (L:O.Law)(w:Own)(h:H)(hro:ro<=O.next h)(t:Tag)(l:List Value): Bx O ro (w.set (O.next h) t) (O.new h l) t (O.next h) l:=by
 refine⟨by simp[Own.set],hro,?_,λi hi=>?_⟩
 ·rw[L.alive_new,if_pos rfl]
 ·rw[L.cell_new,if_pos rfl]
theorem Ch.new (L:O.Law)(K:Tag->Prop)(w:Own)(h:H)(t:Tag)(l:List Value): Ch O K w h (w.set (O.next h) t) (O.new h l):=by
 refine⟨by rw[L.next_new];omega,λb hb=>?_,λb hb _=>⟨λo=>?_,?_⟩⟩
 ·simp only[Own.set];rw[if_neg (by omega)]
 ·rw[L.cell_new,if_neg (by omega)]
 ·rw[L.alive_new,if_neg (by omega)]
theorem Bx.put (L:O.Law){w:Own}{h:H}{t:Tag}{b:Nat}{l:List Value}(x:Bx O ro w h t b l)(i:Nat)(hi:i<l.length)(v:Value): Bx O ro w (O.put h b i v) t b (l.set i v):=by
 have hc:O.cell h b i=some l[i]:=by rw[x.cell i hi];simp
 refine⟨x.tag,x.lo,by rw[L.alive_put,x.al],λj hj=>?_⟩;rw[L.cell_put _ _ _ _ _ hc];simp only[List.length_set]at hj
 by_cases e:j=i
 ·subst e;simp[hj]
 ·rw[if_neg (by simp[e]),x.cell j hj,l'h (λq=>e q.symm)]
theorem Ch.put (L:O.Law){K:Tag->Prop}{w:Own}{h:H}{t:Tag}{b:Nat}{l:List Value}(x:Bx O ro w h t b l)(i:Nat)(hi:i<l.length)(v:Value)(hk:K t): Ch O K w h w (O.put h b i v):=by
 have hc:O.cell h b i=some l[i]:=by rw[x.cell i hi];simp
 refine⟨by rw[L.next_put];exact l'H _,λ_ _=>rfl,λb' hb hn=>⟨λo=>?_,?_⟩⟩
 ·rw[L.cell_put _ _ _ _ _ hc,if_neg];rintro⟨rfl,_⟩;rw[x.tag]at hn;exact hn hk
 ·rw[L.alive_put]
theorem Ch.kill (L:O.Law){K:Tag->Prop}{w:Own}{h:H}{t:Tag}{b:Nat}{l:List Value}(x:Bx O ro w h t b l)(hk:K t): Ch O K w h w (O.kill h b):=by
 refine⟨by rw[L.next_kill];exact l'H _,λ_ _=>rfl,λb' hb hn=>?_⟩;have:b'≠b:=by rintro rfl;rw[x.tag]at hn;exact hn hk
 exact⟨λo=>by rw[L.cell_kill,if_neg this],by rw[L.alive_kill,if_neg this]⟩
theorem cellsA_get {h:H}{b:Nat}: ∀(n o:Nat)(l:List Value),l.length=n->(∀i,i<n->O.cell h b (o+i)=l[i]?)->cellsA O h b o n=some l:=by
 intro n
 induction n with
 | zero=>intro o l hl _;cases l with|nil=>rfl|cons _ _=>simp at hl
 | succ n ih=>
  intro o l hl hc
  cases l with
  | nil=>simp at hl
  | cons v l=>
   have h0:=hc 0 (by omega);have h1:=ih (o+1) l (by simpa using hl) (λi hi=>by have:=hc (i+1) (by omega);rw[show o+1+i=o+(i+1) by omega,this];simp);simp only[Nat.add_zero]at h0;simp[cellsA,h0,h1]
theorem Bx.cells {w:Own}{h:H}{t:Tag}{b:Nat}{l:List Value}(x:Bx O ro w h t b l)(o n:Nat)(hn:o+n<=l.length): cellsA O h b o n=some ((l.drop o).take n):=by
 refine cellsA_get n o _ (by simp;omega) λi hi=>?_;rw[x.cell _ (by omega),l'j hi,List.getElem?_drop]
theorem Bx.all {w:Own}{h:H}{t:Tag}{b:Nat}{l:List Value}(x:Bx O ro w h t b l): cellsA O h b 0 l.length=some l:=by
 rw[x.cells 0 l.length (by omega)];simp
theorem Bx.puts (L:O.Law){K:Tag->Prop}{w:Own}{t:Tag}{b:Nat}(hk:K t): ∀(new:List Value) (o:Nat)(h:H)(l:List Value),Bx O ro w h t b l->o+new.length<=l.length ->
  ∃h',putsA O h b o new=some h'∧Bx O ro w h' t b (l.take o++new++l.drop (o+new.length))∧Ch O K w h w h':=by
 intro new
 induction new with
 | nil=>intro o h l x ho;exact⟨h,rfl,by simpa using x,Ch.refl _ _ _⟩
 | cons v new ih=>
  intro o h l x ho;simp only[l'n]at ho;obtain⟨h',e1,e2,e3⟩:=ih (o+1) (O.put h b o v) (l.set o v) (x.put L o (by omega) v) (by simp;omega);have hc:O.cell h b o=some l[o]:=by rw[x.cell o (by omega)];simp
  refine⟨h',by simp[putsA,hc,e1],?_,(Ch.put L x o (by omega) v hk).trans e3⟩;have:(l.set o v).take (o+1)++new++(l.set o v).drop (o+1+new.length)=l.take o++(v :: new)++l.drop (o+(v :: new).length):=by
   rw[l'C];have h1:(l.set o v)[o]?=some v:=by simp[show o<l.length by omega]
   rw[h1,List.take_set_of_le (l'H o),List.drop_set_of_lt (by omega)];simp[Nat.add_assoc,Nat.add_comm 1]
  rw[<-this];exact e2
def Sl (O:HI H)(ro:Nat)(w:Own)(h:H)(t:Tag)(sz:Nat)(v:Value)(l:List Value): Prop:=
 (v = .slice none 0 0 ∧ l = []) ∨ ∃ b m cp, v = .slice (some ⟨b, 0, some sz⟩) m cp ∧ (cp = 0 ∨ cp = m + 1) ∧ l.length = m * sz ∧ l ≠ [] ∧ Bx O ro w h t b l
theorem Sl.nil (w:Own)(h:H)(t:Tag)(sz:Nat): Sl O ro w h t sz (.slice none 0 0) []:=.inl ⟨rfl,rfl⟩
theorem Sl.ch (L:O.Law){K:Tag->Prop}{w w':Own}{h h':H}{t:Tag}{sz:Nat}{v:Value}{l:List Value}(x:Sl O ro w h t sz v l)(a:Ch O K w h w' h')(hk:¬K t:=by simp): Sl O ro w' h' t sz v l:=by
 rcases x with x|⟨b,m,cp,e,ec,el,en,x⟩
 ·exact .inl x
 ·exact .inr ⟨b,m,cp,e,ec,el,en,x.ch L a hk⟩
theorem Sl.flat {w:Own}{h:H}{t:Tag}{sz:Nat}{v:Value}{l:List Value}(x:Sl O ro w h t sz v l): v.cells = #[v]∧isFlat v=true∧isTup v=false:=by
 rcases x with ⟨rfl,_⟩|⟨b,m,cp,rfl,_⟩ <;> exact⟨rfl,rfl,rfl⟩
theorem Sl.len {w:Own}{h:H}{t:Tag}{sz:Nat}{v:Value}{l:List Value}(x:Sl O ro w h t sz v l)(hsz:0<sz)(n:Nat)(hn:l.length=n*sz): ∃a cp,v = .slice a n cp:=by
 rcases x with ⟨rfl,rfl⟩|⟨b,m,cp,rfl,_,el,_⟩
 ·have:n=0:=by
   simp only[l'o]at hn;rcases Nat.mul_eq_zero.1 hn.symm with h|h <;> omega
  subst this;exact⟨_,_,rfl⟩
 ·have:m=n:=Nat.eq_of_mul_eq_mul_right hsz (by omega);subst this;exact⟨_,_,rfl⟩
theorem Sl.blk {w:Own}{h:H}{t:Tag}{sz:Nat}{v:Value}{l:List Value}(x:Sl O ro w h t sz v l)(hsz:0<sz)(n:Nat)(hn:l.length=n*sz)(h0:0<n): ∃b cp,v = .slice (some ⟨b,0,some sz⟩) n cp∧Bx O ro w h t b l:=by
 rcases x with ⟨rfl,rfl⟩|⟨b,m,cp,rfl,_,el,_,x⟩
 ·simp only[l'o]at hn;rcases Nat.mul_eq_zero.1 hn.symm with h|h <;> omega
 ·have:m=n:=Nat.eq_of_mul_eq_mul_right hsz (by omega);subst this;exact⟨_,_,rfl,x⟩
theorem appI_one (L:O.Law){w:Own}{h:H}{t:Tag}{sz bytes:Nat}{v:Value}{l new:List Value}(hro:ro<=O.next h)(x:Sl O ro w h t sz v l)(hsz:0<sz)(hn:new.length=sz)(hsize:(l.length+1)*bytes<=140737488355328)(hl:l.length<1000000):
  ∃v' h' w',appI O ro sz bytes v (.slice (some ⟨O.next h,0,some sz⟩) 1 2) (O.new h new)=some (v',h')∧Sl O ro w' h' t sz v' (l++new)∧Ch O (λu=>u=t) w h w' h'∧ro<=O.next h':=by
 have hnew:cellsA O (O.new h new) (O.next h) 0 (1*sz)=some new:=by
  rw[Nat.one_mul];exact cellsA_get sz 0 new hn λi hi=>by rw[L.cell_new,if_pos rfl];simp
 have hne:new≠[]:=by intro e;subst e;simp at hn;omega
 rcases x with ⟨rfl,rfl⟩|⟨b,m,cp,rfl,hcp,el,en,x⟩
 ·have hb1:¬((0+1)*bytes>140737488355328∨0+1>140737488355328):=by simp at hsize;omega
  refine⟨.slice (some ⟨O.next h+1,0,some sz⟩) 1 0,O.new (O.new h new) new,(w.set (O.next h) t).set (O.next h+1) t,?_,?_,?_,?_⟩
  ·simp only[appI,hb1,if_false,hnew,true_and,and_self,if_true,L.next_new];simp
  ·refine .inr ⟨O.next h+1,1,0,rfl,.inl rfl,by simp[hn],by simpa using hne,?_⟩;have:=Bx.new L (ro:=ro) (w.set (O.next h) t) (O.new h new) (by rw[L.next_new];omega) t new;rw[L.next_new]at this;simpa using this
  ·have h1:=Ch.new L (λu=>u=t) w h t new;have h2:=Ch.new L (λu=>u=t) (w.set (O.next h) t) (O.new h new) t new;rw[L.next_new]at h2;exact h1.trans h2
  ·simp only[L.next_new];omega
 ·have hb1:¬((m+1)*bytes>140737488355328∨m+1>140737488355328):=by
   have h1:m<=l.length:=by rw[el];exact Nat.le_mul_of_pos_right m hsz
   have h2:(m+1)*bytes<=(l.length+1)*bytes:=Nat.mul_le_mul_right _ (by omega);omega
  have hlt:=x.lt L;have x1:Bx O ro (w.set (O.next h) t) (O.new h new) t b l:=x.ch L (Ch.new L (λ_=>False) w h t new) (by simp);have c1:=Ch.new L (λu=>u=t) w h t new;have hold:cellsA O (O.new h new) b 0 (m*sz)=some l:=by rw[<-el];exact x1.all
  have hbro:¬b<ro:=by have:=x.lo;omega
  rcases hcp with rfl|rfl
  ·have nk:O.next (O.kill (O.new h new) b)=O.next h+1:=by rw[L.next_kill,L.next_new]
   refine⟨.slice (some ⟨O.next h+1,0,some sz⟩) (m+1) 0,O.new (O.kill (O.new h new) b) (l++new),(w.set (O.next h) t).set (O.next h+1) t,?_,?_,?_,?_⟩
   ·simp only[appI,hb1,if_false,hnew,hbro,x1.al,and_self,if_true,hold,L.next_new]
   ·refine .inr ⟨O.next h+1,m+1,0,rfl,.inl rfl,by simp[hn,el,Nat.add_mul],by simp[hne],?_⟩;have:=Bx.new L (ro:=ro) (w.set (O.next h) t) (O.kill (O.new h new) b) (by rw[nk];omega) t (l++new);rw[nk]at this;exact this
   ·have c2:=Ch.kill L (K:=λu=>u=t) x1 rfl;have c3:=Ch.new L (λu=>u=t) (w.set (O.next h) t) (O.kill (O.new h new) b) t (l++new);rw[nk]at c3;exact (c1.trans c2).trans c3
   ·rw[L.next_new,nk];omega
  ·refine⟨.slice (some ⟨O.next h+1,0,some sz⟩) (m+1) 0,O.new (O.new h new) (l++new),(w.set (O.next h) t).set (O.next h+1) t,?_,?_,?_,?_⟩
   ·simp only[appI,hb1,if_false,hnew,hbro,x1.al,and_self,if_true,hold,L.next_new];rw[if_neg (by omega),if_neg (by omega)]
   ·refine .inr ⟨O.next h+1,m+1,0,rfl,.inl rfl,by simp[hn,el,Nat.add_mul],by simp[hne],?_⟩;have:=Bx.new L (ro:=ro) (w.set (O.next h) t) (O.new h new) (by rw[L.next_new];omega) t (l++new);rw[L.next_new]at this;exact this
   ·have c3:=Ch.new L (λu=>u=t) (w.set (O.next h) t) (O.new h new) t (l++new);rw[L.next_new]at c3;exact c1.trans c3
   ·simp only[L.next_new];omega
def rdv (s:ByteArray)(R:RS): List Value:=[.string s,.int .i64 R.pos,.int .i64 R.e,.int .i64 R.ep]
abbrev RB (O:HI H)(ro:Nat)(w:Own)(h:H)(r:Nat)(s:ByteArray)(R:RS): Prop:=Bx O ro w h (1,1000) r (rdv s R)
theorem RB.rd {w:Own}{h:H}{r:Nat}{s:ByteArray}{R:RS}(x:RB O ro w h r s R): Rd O h r s R:=
 ⟨x.get 0 _ rfl,x.get 1 _ rfl,x.get 2 _ rfl,x.get 3 _ rfl⟩
theorem RB.up {w:Own}{h h':H}{r:Nat}{s:ByteArray}{R R':RS}(L:O.Law)(x:RB O ro w h r s R)(d:Rd O h' r s R')(f:Fr O [r] h h'): RB O ro w h' r s R'∧Ch O (λu=>u=(1,1000)) w h w h':=by
 refine⟨⟨x.tag,x.lo,L.cell_alive _ _ _ _ d.c0,λi hi=>?_⟩,⟨f.1,λ_ _=>rfl,λb hb hk=>f.2 b hb ?_⟩⟩
 ·obtain⟨c0,c1,c2,c3⟩:=d
  match i,hi with
  | 0,_=>exact c0
  | 1,_=>exact c1
  | 2,_=>exact c2
  | 3,_=>exact c3
  | n+4,h=>simp[rdv]at h;omega
 ·simp only[l'm];rintro rfl;exact hk x.tag
theorem fail_w (C:LP' O ro c)(L:O.Law){w:Own}{h:H}{r:Nat}{s:ByteArray}{R:RS}(x:RB O ro w h r s R)(e p:Nat):
  ∃h',c 88 [ptr r,.int .i64 e,.int .i64 p] h=some (.tuple #[],h')∧RB O ro w h' r s (fl R e p)∧Ch O (λu=>u=(1,1000)) w h w h':=by
 obtain⟨h',e1,d,f⟩:=fail_sp C L x.rd x.lo e p;exact⟨h',e1,RB.up L x d f⟩
theorem take_w (C:LP' O ro c)(L:O.Law){w:Own}{h:H}{r:Nat}{s:ByteArray}{R:RS}(x:RB O ro w h r s R)(hs:s.size<=1000)(b:Nat):
  ∃h',c 85 [ptr r,.int .i64 b] h=some (.bool (decide (pk s R=b)),h')∧RB O ro w h' r s (if pk s R=b then ⟨R.pos+1,R.e,R.ep⟩ else R)∧Ch O (λu=>u=(1,1000)) w h w h':=by
 obtain⟨h',e1,d,f⟩:=take_sp C L x.rd x.lo hs b;exact⟨h',e1,RB.up L x d f⟩
theorem expect_w (C:LP' O ro c)(L:O.Law){w:Own}{h:H}{r:Nat}{s:ByteArray}{R:RS}(x:RB O ro w h r s R)(hs:s.size<=1000)(b:Nat):
  ∃h',c 84 [ptr r,.int .i64 b] h=some (.tuple #[],h')∧RB O ro w h' r s (exS s R b)∧Ch O (λu=>u=(1,1000)) w h w h':=by
 obtain⟨h',e1,d,f⟩:=expect_sp C L x.rd x.lo hs b;exact⟨h',e1,RB.up L x d f⟩
theorem num_w (C:LP' O ro c)(L:O.Law){w:Own}{h:H}{r:Nat}{s:ByteArray}{R:RS}(x:RB O ro w h r s R)(hs:s.size<=1000)(hp:R.pos<=s.size):
  ∃h',c 87 [ptr r] h=some (.int .i64 (numS s R).1,h')∧RB O ro w h' r s (numS s R).2∧Ch O (λu=>u=(1,1000)) w h w h':=by
 obtain⟨h',e1,d,f⟩:=num_sp C L x.rd x.lo hs hp;exact⟨h',e1,RB.up L x d f⟩
theorem di_w (C:LP' O ro c)(L:O.Law){w:Own}{h:H}{r:Nat}{s:ByteArray}{R:RS}(x:RB O ro w h r s R)(hs:s.size<=1000):
  ∃h',c 152 [ptr r] h=some (.int .i64 (diS s R).1,h')∧RB O ro w h' r s (diS s R).2∧Ch O (λu=>u=(1,1000)) w h w h':=by
 obtain⟨h',e1,d,f⟩:=di_sp C L x.rd x.lo hs;exact⟨h',e1,RB.up L x d f⟩
theorem sym_w (C:LP' O ro c)(L:O.Law){w:Own}{h:H}{r:Nat}{s:ByteArray}{R:RS}{D:HD}(x:RB O ro w h r s R)(hs:s.size<=1000)(hp:R.pos<=s.size):
  ∃h',c 95 [ptr r,D.val] h=some (.tuple #[],h')∧RB O ro w h' r s (symS D s R)∧Ch O (λu=>u=(1,1000)) w h w h':=by
 obtain⟨h',e1,d,f⟩:=sym_sp C L x.rd x.lo hs hp;exact⟨h',e1,RB.up L x d f⟩
end
end Go.Proofs.YtimdkminagnhgaaGreatDoor
namespace Go.Proofs.YtimdkminagnhgaaGreatDoor
open Go.Vm Go.Proofs
set_option maxHeartbeats 1000000
section
variable {H:Type}{O:HI H}{ro:Nat}{c:CallT H}
attribute [local simp] cSeq cReg reg to too onlyIf onlyIfo aMove mv' nl' fl' ld' ln' mk' ia' ik' ix' aNil aFld aLd aInt aPick aLenStr aIdxStr aConv aUn unA ev upd_get isB envOf intA cIf cRet cSkip okc_some resE resLE rvE isTup aSt putsA Value.cells isFlat aBuild Instr.fill aCall cExit cBlk outOf ptr undef aNew aBox aIdxArr aLdN
theorem exS_mono (s:ByteArray)(R:RS)(b:Nat): R.pos<=(exS s R b).pos:=by
 unfold exS;split
 ·simp only;omega
 ·rw[fl_pos];exact l'H _
theorem numL_mono (s:ByteArray): ∀(n st:Nat)(R:RS) (v:Nat),R.pos<=(numL n s st R v).2.pos:=by
 intro n
 induction n with
 | zero=>intro st R v;exact l'H _
 | succ n ih=>
  intro st R v;simp only[numL];split
  ·split
   ·simp only[fl_pos];exact l'H _
   ·have:=ih st ⟨R.pos+1,R.e,R.ep⟩ (10*v+(pk s R).toNat-48);simp only at this;omega
  ·simp only;split
   ·rw[fl_pos];exact l'H _
   ·exact l'H _
theorem numS_mono (s:ByteArray)(R:RS): R.pos<=(numS s R).2.pos:=numL_mono s _ _ _ _
theorem nmS_mono {s:ByteArray}{R:RS}(hp:R.pos<=s.size): R.pos<=(nmS s R).pos∧(nmS s R).pos<=s.size:=by
 have h1:=nmL_pos (s:=s) (s.size+1-R.pos) R hp;unfold nmS;simp only;generalize nmL (s.size+1-R.pos) s R=R1 at h1;generalize hR2:(if R1.pos=R.pos then fl R1 2 R1.pos else R1)=R2;have h2:R2.pos=R1.pos:=by rw[<-hR2];split;rw[fl_pos];rfl
 have h3:=exS_mono s R2 10;have h4:=exS_pos (s:=s) (R:=R2) 10 (by omega);omega
theorem symS_pos {s:ByteArray}{R:RS}(D:HD)(hp:R.pos<=s.size): (symS D s R).pos<=s.size:=by
 unfold symS;split
 ·rename_i hk
  have hpos:=pk_lt (s:=s) (R:=R) (by omega);simp only;have h1:=numS_pos (s:=s) (R:=⟨R.pos+1,R.e,R.ep⟩) (by simp only;omega);refine (nmS_mono (exS_pos 32 ?_)).2;generalize hn:(if pk s R=105 then D.nin else if pk s R=108 then D.nla else if pk s R=111 then D.nou else D.nbs)=n;split
  ·rw[fl_pos];exact h1
  ·exact h1
 ·rw[fl_pos];exact hp
theorem symS_step {s:ByteArray}{R:RS}(D:HD)(hp:R.pos<=s.size)(he:R.e=0): (symS D s R).e≠0∨R.pos<(symS D s R).pos:=by
 unfold symS;split
 ·rename_i hk
  right;have hpos:=pk_lt (s:=s) (R:=R) (by omega);simp only;have h1:=numS_pos (s:=s) (R:=⟨R.pos+1,R.e,R.ep⟩) (by simp only;omega);have h2:=numS_mono s ⟨R.pos+1,R.e,R.ep⟩;simp only at h2;generalize numS s ⟨R.pos+1,R.e,R.ep⟩=u at h1 h2;generalize hn:(if pk s R=105 then D.nin else if pk s R=108 then D.nla else if pk s R=111 then D.nou else D.nbs)=n;generalize hR2:(if n<=u.1 then fl u.2 2 (R.pos+1) else u.2)=R2;have h3:R2.pos=u.2.pos:=by rw[<-hR2];split;rw[fl_pos];rfl
  have h4:=exS_mono s R2 32;have h5:=exS_pos (s:=s) (R:=R2) 32 (by omega);have h6:=nmS_mono (R:=exS s R2 32) h5;omega
 ·left;simp[fl,he]
def symsL: Nat->HD->ByteArray->RS->RS
 | 0,_,_,R=>R
 | n+1,D,s,R=>if R.pos<s.size∧R.e=0 then (if pk s R=99 then exS s ⟨R.pos+1,R.e,R.ep⟩ 10 else symsL n D s (symS D s R)) else R
def symsS (D:HD)(s:ByteArray)(R:RS): RS:=symsL 1002 D s R
theorem syms_w (C:LP' O ro c)(L:O.Law){w:Own}{h:H}{r:Nat}{s:ByteArray}{R:RS}{D:HD}(x:RB O ro w h r s R)(hro:ro<=O.next h)(hs:s.size<=1000)(hp:R.pos<=s.size):
  ∃w' h',c 51 [ptr r,D.val] h=some (.tuple #[],h')∧RB O ro w' h' r s (symsS D s R)∧Ch O (λu=>u=(1,1000)) w h w' h':=by
 have htv:isTup D.val=false:=rfl;obtain⟨b,hb⟩:=e' (O.next h);obtain⟨h1,hh1⟩:=e' (O.new h D.val.cells.toList);obtain⟨w1,hw1⟩:=e' (w.set b (9,0));have c1:Ch O (λu=>u=(1,1000)) w h w1 h1:=by rw[hh1,hw1,hb];exact Ch.new L _ _ _ _ _
 have y1:Bx O ro w1 h1 (9,0) b D.val.cells.toList:=by rw[hh1,hw1,hb];exact Bx.new L _ _ hro _ _
 have x1:RB O ro w1 h1 r s R:=x.ch L (K:=λ_=>False) (by rw[hh1,hw1,hb];exact Ch.new L _ _ _ _ _) (by simp);have key:∃v h',c 51 [ptr r,D.val] h=some (v,h')∧(v = .tuple #[]∧∃w',RB O ro w' h' r s (symsS D s R)∧Ch O (λu=>u=(1,1000)) w h w' h'):=by
  refine C.fn (F51_fn O ro) rfl rfl ?_;obtain⟨e0,he0⟩:=e' (envOf [ptr r,D.val]);have a0:e0 0=ptr r:=by subst he0;rfl
  have a1:e0 1=D.val:=by subst he0;rfl
  rw[<-he0];unfold F51;refine s'f ?_;simp[ZbB,a1,htv,<-hb,<-hh1,thenE,-isTup,-Value.cells,-resE,-resLE,-rvE];refine okE.blk ?_;refine okE.loop (λn t g=>∃R',RB O ro w1 g r s R'∧Bx O ro w1 g (9,0) b D.val.cells.toList∧Ch O (λu=>u=(1,1000)) w h w1 g∧t 0=ptr r∧t 3=ptr b∧R'.pos<=s.size∧0<n∧(R'.e=0->s.size<n+R'.pos)∧symsL n D s R'=symsS D s R) ?_ 1002 _ _ ⟨R,x1,y1,c1,by simp[a0],by simp,hp,by omega,λ_=>by omega,by unfold symsS;rfl⟩;intro n t g hI;obtain⟨R',x',y',c',t0,t3,hp',hn0,hn,hfin⟩:=hI;obtain⟨m,rfl⟩:∃m,n=m+1:=⟨n-1,by omega⟩;simp only[symsL]at hfin;obtain⟨d0,d1,d2,d3⟩:=x'.rd;have hfl:=failed_sp C x'.rd;unfold ptr at t0 t3 hfl
  by_cases hgo:R'.pos<s.size∧R'.e=0
  ·rw[if_pos hgo]at hfin;have k1:(R'.pos:Int)<s.size:=by omega
   have ke:(R'.e != 0)=false:=by simp[hgo.2]
   obtain⟨h2,hc2,x2,c2⟩:=take_w C L x' hs 99;have hc2':c 85 [Value.pointer (some ⟨r,0,none⟩),.int .i64 99] g=some (.bool (decide (pk s R'=99)),h2):=hc2
   by_cases h99:pk s R'=99
   ·rw[if_pos (show pk s R'=((99:Nat):Int) from h99)]at x2;rw[if_pos h99]at hfin;obtain⟨h3,hc3,x3,c3⟩:=expect_w C L x2 hs 10;have hc3':c 84 [Value.pointer (some ⟨r,0,none⟩),.int .i64 10] h2=some (.tuple #[],h3):=hc3;rw[hfin]at x3;refine f'f ?_;simp[W51_0,ZbC,ZbD,ZbE,t0,t3,d0,d1,hfl,k1,ke,hgo.1,hc2',hc3',h99,x3];exact⟨w1,x3,(c'.trans c2).trans c3⟩
   ·rw[if_neg (show ¬pk s R'=((99:Nat):Int) from h99)]at x2;rw[if_neg h99]at hfin;obtain⟨h3,hc3,x3,c3⟩:=sym_w C L (D:=D) x2 hs hp';have y3:=(y'.ch L c2).ch L c3;have hld:cellsA O h2 b 0 8=some D.val.cells.toList:=(y'.ch L c2).all;have hc3':c 95 [Value.pointer (some ⟨r,0,none⟩),.agg D.val.cells.toList.toArray] h2=some (.tuple #[],h3):=hc3;have hk:=symS_step (s:=s) (R:=R') D hp' hgo.2;have hpp:=symS_pos (s:=s) (R:=R') D hp';refine f'f ?_;simp[W51_0,ZbC,ZbD,ZbF,t0,t3,d0,d1,hfl,k1,ke,hgo.1,hc2',hc3',h99,hld,-Value.cells];have:=hn hgo.2;exact⟨m,by omega,_,x3,y3,(c'.trans c2).trans c3,hpp,by omega,λhe=>by rcases hk with hk|hk;exact absurd he hk;omega,hfin⟩
  ·rw[if_neg hgo]at hfin;have x9:=x';rw[hfin]at x9;refine f'f ?_
   by_cases h1:R'.pos<s.size
   ·have k1:(R'.pos:Int)<s.size:=by omega
    have ke:(R'.e != 0)=true:=by simp;omega
    simp[W51_0,ZbC,t0,t3,d0,d1,hfl,k1,ke,h1];exact⟨w1,x9,c'⟩
   ·have k1:¬(R'.pos:Int)<s.size:=by omega
    simp[W51_0,ZbC,t0,t3,d0,d1,hfl,k1,h1];exact⟨w1,x9,c'⟩
 obtain⟨v,h',e1,rfl,w',e2⟩:=key;exact⟨w',h',e1,e2⟩
end
end Go.Proofs.YtimdkminagnhgaaGreatDoor
namespace Go.Proofs.YtimdkminagnhgaaGreatDoor
open Go.Vm Go.Proofs
set_option maxHeartbeats 1000000
section
variable {H:Type}{O:HI H}{ro:Nat}{c:CallT H}
theorem wrap_nat {n:Nat}(h:n<9223372036854775808): IntKind.i64.wrap (n:Int)=n:=w'j
theorem and_one (a:Nat)(ha:a<9223372036854775808): intA .and .i64 (a:Int) 1=some (.int .i64 ((a%2:Nat):Int)):=by
 have h1:(BitVec.ofInt IntKind.i64.bits (a:Int) &&& BitVec.ofInt IntKind.i64.bits 1).toNat=a%2:=by
  have e1:BitVec.ofInt IntKind.i64.bits (a:Int)=BitVec.ofNat 64 a:=by
   change BitVec.ofInt 64 (a:Int) = _;exact BitVec.ofInt_natCast 64 a
  have e2:BitVec.ofInt IntKind.i64.bits 1=BitVec.ofNat 64 1:=rfl;rw[e1,e2];change (BitVec.ofNat 64 a &&& BitVec.ofNat 64 1).toNat = _;rw[BitVec.toNat_and,BitVec.toNat_ofNat,BitVec.toNat_ofNat];have:a%2^64=a:=Nat.mod_eq_of_lt (by omega);rw[this];exact Nat.and_one_is_mod a
 simp only[intA];rw[h1,wrap_nat (by omega)]
theorem load137 (h:H)(b:Nat): loadA Tryz.prog O 132 (.pointer (some ⟨b,0,none⟩)) h=(cellsA O h b 0 2).map λl=>.agg l.toArray:=by
 have hi:(Tryz.prog.info? 132).map (·.size)=some 2:=by kernel_rfl
 cases hx:Tryz.prog.info? 132 with
 | none=>rw[hx]at hi;simp at hi
 | some i=>
  rw[hx]at hi;simp only[l'l,l'a]at hi;simp only[loadA,Tryz.underlying132,hx,hi]
theorem load58 (h:H)(b:Nat): loadA Tryz.prog O 37 (.pointer (some ⟨b,0,none⟩)) h=(cellsA O h b 0 2).map λl=>.agg l.toArray:=by
 have hi:(Tryz.prog.info? 37).map (·.size)=some 2:=by kernel_rfl
 cases hx:Tryz.prog.info? 37 with
 | none=>rw[hx]at hi;simp at hi
 | some i=>
  rw[hx]at hi;simp only[l'l,l'a]at hi;simp only[loadA,Tryz.underlying37,hx,hi]
theorem local2 (L:O.Law)(w:Own)(h:H)(hro:ro<=O.next h)(z1 z2 x y:Value)(t:Tag):
  ∃h',putsA O (O.new h [z1,z2]) (O.next h) 0 [x,y]=some h'∧Bx O ro (w.set (O.next h) t) h' t (O.next h) [x,y]∧(∀K,Ch O K w h (w.set (O.next h) t) h')∧ro<=O.next h':=by
 obtain⟨h',e1,e2,e3⟩:=Bx.puts L (K:=λ_=>True) (ro:=ro) trivial [x,y] 0 (O.new h [z1,z2]) [z1,z2] (Bx.new L w h hro t [z1,z2]) (by simp);refine⟨h',e1,by simpa using e2,λK=>?_,l'G hro (l'G (by rw[L.next_new];omega) e3.nx)⟩;have hb:=(Bx.new L (ro:=ro) w h hro t [z1,z2]);obtain⟨h2,f1,f2,f3⟩:=Bx.puts L (K:=λu=>u=t) (ro:=ro) rfl [x,y] 0 (O.new h [z1,z2]) [z1,z2] hb (by simp);rw[e1]at f1;simp only[l'a]at f1;subst f1;have key:∀b,b<O.next h->(∀o,O.cell h' b o=O.cell (O.new h [z1,z2]) b o)∧O.alive h' b=O.alive (O.new h [z1,z2]) b:=by
  intro b hb';have p1:putsA O (O.new h [z1,z2]) (O.next h) 0 [x,y]=some (O.put (O.put (O.new h [z1,z2]) (O.next h) 0 x) (O.next h) 1 y):=by
   have k0:O.cell (O.new h [z1,z2]) (O.next h) 0=some z1:=by rw[L.cell_new,if_pos rfl];rfl
   have k1:O.cell (O.put (O.new h [z1,z2]) (O.next h) 0 x) (O.next h) 1=some z2:=by rw[L.cell_put _ _ _ _ _ k0,if_neg (by simp),L.cell_new,if_pos rfl];rfl
   simp[putsA,k0,k1]
  rw[e1]at p1;simp only[l'a]at p1;have k0:O.cell (O.new h [z1,z2]) (O.next h) 0=some z1:=by rw[L.cell_new,if_pos rfl];rfl
  have k1:O.cell (O.put (O.new h [z1,z2]) (O.next h) 0 x) (O.next h) 1=some z2:=by rw[L.cell_put _ _ _ _ _ k0,if_neg (by simp),L.cell_new,if_pos rfl];rfl
  rw[p1];refine⟨λo=>?_,by rw[L.alive_put,L.alive_put]⟩;rw[L.cell_put _ _ _ _ _ k1,if_neg (by intro q;omega),L.cell_put _ _ _ _ _ k0,if_neg (by intro q;omega)]
 have cn:=Ch.new L K w h t [z1,z2];refine⟨l'G cn.nx e3.nx,cn.ow,λb hb' hk=>?_⟩;have a1:=cn.fr b hb' hk;have a2:=key b hb';exact⟨λo=>(a2.1 o).trans (a1.1 o),a2.2.trans a1.2⟩
structure Us where
 l:Int
 p:Nat
structure LaL where
 l:Int
 n:Us
 z:Nat
structure GaL where
 g:Us
 a:Us
 b:Us
structure Net where
 given:List Bool
 ins:List Int
 las:List LaL
 outs:List Us
 bads:List Us
 gates:List GaL
def iv (n:Int): Value:=.int .i64 n
def Us.cells (u:Us): List Value:=[.int .i64 u.l,.int .i64 u.p]
def Us.val (u:Us): Value:=.agg #[.int .i64 u.l,.int .i64 u.p]
def LaL.cells (x:LaL): List Value:=[.int .i64 x.l,.int .i64 x.n.l,.int .i64 x.n.p,.int .i64 x.z]
def GaL.cells (x:GaL): List Value:=[.int .i64 x.g.l,.int .i64 x.g.p,.int .i64 x.a.l,.int .i64 x.a.p,.int .i64 x.b.l,.int .i64 x.b.p]
structure NL (O:HI H) (ro:Nat)(w:Own)(h:H) (n:Nat)(N:Net)(v0 v1 v2 v3 v4 v5:Value):Prop where
 m:Bx O ro w h (2,1000) n [v0,v1,v2,v3,v4,v5]
 s0:Sl O ro w h (2,0) 1 v0 (N.given.map Value.bool)
 s1:Sl O ro w h (2,1) 1 v1 (N.ins.map iv)
 s2:Sl O ro w h (2,2) 4 v2 (N.las.flatMap LaL.cells)
 s3:Sl O ro w h (2,3) 2 v3 (N.outs.flatMap Us.cells)
 s4:Sl O ro w h (2,4) 2 v4 (N.bads.flatMap Us.cells)
 s5:Sl O ro w h (2,5) 6 v5 (N.gates.flatMap GaL.cells)
theorem NL.ch (L:O.Law){K:Tag->Prop}{w w':Own}{h h':H}{n:Nat}{N:Net}{v0 v1 v2 v3 v4 v5:Value}(x:NL O ro w h n N v0 v1 v2 v3 v4 v5)(a:Ch O K w h w' h')(hk:∀o,¬K (2,o):=by simp): NL O ro w' h' n N v0 v1 v2 v3 v4 v5:=
 ⟨x.m.ch L a (hk _),x.s0.ch L a (hk _),x.s1.ch L a (hk _),x.s2.ch L a (hk _),x.s3.ch L a (hk _),x.s4.ch L a (hk _),x.s5.ch L a (hk _)⟩
structure ST (O:HI H) (ro:Nat)(w:Own)(h:H) (r:Nat)(s:ByteArray)(R:RS) (n:Nat)(N:Net):Prop where
 rb:RB O ro w h r s R
 nl:∃v0 v1 v2 v3 v4 v5,NL O ro w h n N v0 v1 v2 v3 v4 v5
 lo:ro<=O.next h
def Kc (cs:List Nat)(n:Nat)(u:Tag): Prop:=u.1∈cs∨(100<=u.1∧u.1<100+n)
abbrev KN (n:Nat): Tag->Prop:=Kc [1,2] n
theorem Kc.mono {cs cs':List Nat}{n n':Nat}{w w':Own}{h h':H}(a:Ch O (Kc cs n) w h w' h')(h1:cs.all (cs'.contains ·)=true)(h2:n<=n'): Ch O (Kc cs' n') w h w' h':=by
 refine a.mono λt ht=>?_;rcases ht with ht|ht
 ·left;have:=l'D.1 h1 _ ht;simpa using this
 ·right;omega
theorem Kc.one {cs:List Nat}{n:Nat}{t:Tag}{w w':Own}{h h':H}(a:Ch O (λu=>u=t) w h w' h')(h1:Kc cs n t): Ch O (Kc cs n) w h w' h':=a.mono (by rintro u rfl;exact h1)
theorem ST.ch (L:O.Law){K:Tag->Prop}{w w':Own}{h h':H}{r:Nat}{s:ByteArray}{R:RS}{n:Nat}{N:Net}(x:ST O ro w h r s R n N)(a:Ch O K w h w' h')(h1:∀o,¬K (1,o):=by simp)(h2:∀o,¬K (2,o):=by simp): ST O ro w' h' r s R n N:=by
 obtain⟨rb,⟨v0,v1,v2,v3,v4,v5,nl⟩,lo⟩:=x;exact⟨rb.ch L a (h1 _),⟨v0,v1,v2,v3,v4,v5,nl.ch L a h2⟩,l'G lo a.nx⟩
theorem ST.rd (L:O.Law){w w':Own}{h h':H}{r:Nat}{s:ByteArray}{R R':RS}{n:Nat}{N:Net}(x:ST O ro w h r s R n N)(y:RB O ro w' h' r s R')(a:Ch O (λu=>u=(1,1000)) w h w' h'): ST O ro w' h' r s R' n N:=by
 obtain⟨rb,⟨v0,v1,v2,v3,v4,v5,nl⟩,lo⟩:=x;exact⟨y,⟨v0,v1,v2,v3,v4,v5,nl.ch L a⟩,l'G lo a.nx⟩
theorem chR {w w':Own}{h h':H}(a:Ch O (λu=>u=(1,1000)) w h w' h')(n:Nat){cs:List Nat}(h1:1∈cs:=by decide): Ch O (Kc cs n) w h w' h':=Kc.one a (.inl h1)
theorem chN {w w':Own}{h h':H}{o:Nat}(a:Ch O (λu=>u=(2,o)) w h w' h')(n:Nat): Ch O (KN n) w h w' h':=Kc.one a (.inl (by simp))
theorem chL {w w':Own}{h h':H}{d o:Nat}(a:Ch O (λu=>u=(d,o)) w h w' h')(n:Nat)(hd:100<=d∧d<100+n){cs:List Nat}: Ch O (Kc cs n) w h w' h':=Kc.one a (.inr hd)
def Net.has (N:Net)(l:Int): Bool:=decide (0<=l)&&decide (l/2<(N.given.length:Int))
def Net.isGiven (N:Net)(l:Int): Bool:=N.has l&&(N.given[(l/2).toNat]?).getD false
def Net.give (N:Net)(l:Int): Net:=if N.has l then { N with given:=N.given.set (l/2).toNat true } else N
attribute [local simp] cSeq cReg reg to too onlyIf onlyIfo aMove mv' nl' fl' ld' ln' mk' ia' ik' ix' aNil aFld aLd aInt aPick aLenStr aIdxStr aConv aUn unA ev upd_get isB envOf intA cIf cRet cSkip okc_some resE resLE rvE isTup aSt Value.cells isFlat aBuild Instr.fill aCall cExit cBlk outOf ptr undef aNew aBox aIdxArr aLdN aShift shiftA aLenSl aIdx
theorem has_w (C:LP' O ro c){w:Own}{h:H}{n:Nat}{N:Net}{v0 v1 v2 v3 v4 v5:Value}(x:NL O ro w h n N v0 v1 v2 v3 v4 v5)(l:Int): c 149 [ptr n,.int .i64 l] h=some (.bool (N.has l),h):=by
 refine C.eq (F149_fn O ro) rfl rfl (f'f ?_);obtain⟨a,cp,rfl⟩:=x.s0.len (by omega) N.given.length (by simp);have m0:=x.m.get 0 _ rfl;unfold Net.has
 by_cases h0:0<=l
 ·have e1:l.fdiv 2=l/2:=Int.fdiv_eq_ediv_of_nonneg l (by omega)
  by_cases h1:l/2<(N.given.length:Int)
  ·simp[F149,Zey,Zez,h0,m0,IntKind.bits,e1,h1]
  ·simp[F149,Zey,Zez,h0,m0,IntKind.bits,e1,h1]
 ·simp[F149,Zey,Zez,h0]
theorem isGiven_w (C:LP' O ro c){w:Own}{h:H}{n:Nat}{N:Net}{v0 v1 v2 v3 v4 v5:Value}(x:NL O ro w h n N v0 v1 v2 v3 v4 v5)(l:Int): c 153 [ptr n,.int .i64 l] h=some (.bool (N.isGiven l),h):=by
 refine C.eq (F153_fn O ro) rfl rfl (f'f ?_);have hh:=has_w C x l;have m0:=x.m.get 0 _ rfl;unfold ptr at hh;unfold Net.isGiven
 by_cases h0:N.has l=true
 ·have h1:0<=l∧l/2<(N.given.length:Int):=by simpa [Net.has]using h0
  have e1:l.fdiv 2=l/2:=Int.fdiv_eq_ediv_of_nonneg l (by omega);obtain⟨b,cp,rfl,y⟩:=x.s0.blk (by omega) N.given.length (by simp) (by omega);have hq:(l/2).toNat<N.given.length:=by omega
  have hc:=y.get (l/2).toNat (.bool N.given[(l/2).toNat]) (by simp[hq]);have k0:0<=l/2:=by omega
  simp[F153,ZeX,ZeY,hh,h0,m0,IntKind.bits,e1,k0,h1.2,hc,hq]
 ·simp[F153,ZeX,ZeY,hh,h0]
theorem give_w (C:LP' O ro c)(L:O.Law){w:Own}{h:H}{r n:Nat}{s:ByteArray}{R:RS}{N:Net}(x:ST O ro w h r s R n N)(l:Int):
  ∃h',c 89 [ptr n,.int .i64 l] h=some (.tuple #[],h')∧ST O ro w h' r s R n (N.give l)∧Ch O (KN 0) w h w h':=by
 obtain⟨rb,⟨v0,v1,v2,v3,v4,v5,nl⟩,lo⟩:=x;have hh:=has_w C nl l;have m0:=nl.m.get 0 _ rfl;unfold ptr at hh;unfold Net.give
 by_cases h0:N.has l=true
 ·have h1:0<=l∧l/2<(N.given.length:Int):=by simpa [Net.has]using h0
  have e1:l.fdiv 2=l/2:=Int.fdiv_eq_ediv_of_nonneg l (by omega);obtain⟨m,s0,s1,s2,s3,s4,s5⟩:=nl;have hs0:=s0;obtain⟨b,cp,rfl,y⟩:=s0.blk (by omega) N.given.length (by simp) (by omega);have hq:(l/2).toNat<N.given.length:=by omega
  have hc:=y.get (l/2).toNat (.bool N.given[(l/2).toNat]) (by simp[hq]);have k0:0<=l/2:=by omega
  have hro:¬b<ro:=by have:=y.lo;omega
  have y2:=y.put L (l/2).toNat (by simpa using hq) (.bool true);have c2:=Ch.put L (K:=λu=>u=(2,0)) y (l/2).toNat (by simpa using hq) (.bool true) rfl;refine⟨O.put h b (l/2).toNat (.bool true),?_,?_,chN c2 0⟩
  ·refine C.eq (F89_fn O ro) rfl rfl (f'f ?_);simp[F89,ZcH,ZcI,hh,h0,m0,IntKind.bits,e1,k0,h1.2,hc,hq,hro,putsA]
  ·rw[if_pos h0];refine⟨rb.ch L c2,⟨_,v1,v2,v3,v4,v5,⟨m.ch L c2,?_,s1.ch L c2,s2.ch L c2,s3.ch L c2,s4.ch L c2,s5.ch L c2⟩⟩,by rw[L.next_put];exact lo⟩;rcases hs0 with ⟨e,_⟩|⟨b',m',cp',e,ec,el,en,y'⟩
   ·simp at e
   ·simp only[Value.slice.injEq,l'a,Addr.mk.injEq]at e;obtain⟨⟨rfl,_⟩,rfl,rfl⟩:=e;refine .inr ⟨b,N.given.length,cp,rfl,ec,by simp,?_,?_⟩
    ·intro q;have:=congrArg List.length q;simp only[List.length_map,List.length_set,l'o]at this;omega
    ·simpa [List.map_set]using y2
 ·rw[if_neg h0];refine⟨h,?_,⟨rb,⟨v0,v1,v2,v3,v4,v5,nl⟩,lo⟩,Ch.refl _ _ _⟩;refine C.eq (F89_fn O ro) rfl rfl (f'f ?_);simp[F89,ZcH,ZcI,hh,h0]
def litS (N:Net)(s:ByteArray)(R:RS): Us×RS:=
 let q:=numS s R
 (⟨q.1,R.pos⟩,if N.has q.1 then q.2 else fl q.2 7 R.pos)
theorem lit_w (C:LP' O ro c)(L:O.Law){w:Own}{h:H}{r n:Nat}{s:ByteArray}{R:RS}{N:Net}(x:ST O ro w h r s R n N)(hs:s.size<=1000)(hp:R.pos<=s.size):
  ∃w' h',c 150 [ptr n,ptr r] h=some ((litS N s R).1.val,h')∧ST O ro w' h' r s (litS N s R).2 n N∧Ch O (Kc [1] 1) w h w' h':=by
 obtain⟨b,hb⟩:=e' (O.next h);obtain⟨h1,hh1⟩:=e' (O.new h [.int .i64 0,.int .i64 0]);obtain⟨w1,hw1⟩:=e' (w.set b (100,0));have c1:∀K,Ch O K w h w1 h1:=λK=>by rw[hh1,hw1,hb];exact Ch.new L _ _ _ _ _
 have y1:Bx O ro w1 h1 (100,0) b [.int .i64 0,.int .i64 0]:=by rw[hh1,hw1,hb];exact Bx.new L _ _ x.lo _ _
 have x1:=x.ch L (c1 λ_=>False) (by simp) (by simp);have d1:=x1.rb.get 1 _ rfl;obtain⟨h2,hc2,rb2,c2⟩:=num_w C L x1.rb hs hp;have x2:=x1.rd L rb2 c2;have y2:=y1.ch L c2;have hle:=numS_le s R;obtain⟨v0,v1,v2,v3,v4,v5,nl2⟩:=x2.nl;have hhas:=has_w C nl2 (numS s R).1;unfold litS;simp only;generalize numS s R=q at hc2 rb2 x2 hle hhas;unfold ptr at hc2 hhas
 by_cases hq:N.has q.1=true
 ·obtain⟨h3,e3,y3,c3⟩:=Bx.puts L (K:=λu=>u=(100,0)) rfl [.int .i64 q.1,.int .i64 R.pos] 0 h2 _ y2 (by simp);refine⟨w1,h3,?_,by rw[if_pos hq];exact x2.ch L c3,((c1 _).trans (chR c2 _)).trans (chL c3 1 (by omega))⟩;refine C.eq (F150_fn O ro) rfl rfl (f'f ?_);have hl:cellsA O h3 b 0 2=some [.int .i64 q.1,.int .i64 R.pos]:=by simpa using y3.all
  have hro:¬b<ro:=by have:=y3.lo;omega
  simp[F150,ZeA,ZeB,ZeC,ZeD,ZeE,ZeF,<-hb,<-hh1,d1,hc2,hhas,hq,e3,hro,load137,hl,Us.val,List.zipIdx]
 ·obtain⟨h4,hc4,rb4,c4⟩:=fail_w C L rb2 7 R.pos;have x4:=x2.rd L rb4 c4;have y4:=y2.ch L c4;obtain⟨h3,e3,y3,c3⟩:=Bx.puts L (K:=λu=>u=(100,0)) rfl [.int .i64 q.1,.int .i64 R.pos] 0 h4 _ y4 (by simp);refine⟨w1,h3,?_,by rw[if_neg hq];exact x4.ch L c3,(((c1 _).trans (chR c2 _)).trans (chR c4 _)).trans (chL c3 1 (by omega))⟩;refine C.eq (F150_fn O ro) rfl rfl (f'f ?_);have hl:cellsA O h3 b 0 2=some [.int .i64 q.1,.int .i64 R.pos]:=by simpa using y3.all
  have hro:¬b<ro:=by have:=y3.lo;omega
  have hc4':c 88 [Value.pointer (some ⟨r,0,none⟩),.int .i64 7,.int .i64 R.pos] h2=some (.tuple #[],h4):=hc4;simp[F150,ZeA,ZeB,ZeC,ZeD,ZeE,ZeF,<-hb,<-hh1,d1,hc2,hhas,hq,hc4',e3,hro,load137,hl,Us.val,List.zipIdx]
end
end Go.Proofs.YtimdkminagnhgaaGreatDoor
namespace Go.Proofs.YtimdkminagnhgaaGreatDoor
open Go.Vm Go.Proofs
set_option maxHeartbeats 1000000
theorem iA_add (k:IntKind)(a b:Int): intA .add k a b=some (.int k (k.wrap (a+b))):=rfl
theorem iA_sub (k:IntKind)(a b:Int): intA .sub k a b=some (.int k (k.wrap (a-b))):=rfl
theorem iA_mul (k:IntKind)(a b:Int): intA .mul k a b=some (.int k (k.wrap (a*b))):=rfl
theorem iA_eql (k:IntKind)(a b:Int): intA .eql k a b=some (.bool (a==b)):=rfl
theorem iA_neq (k:IntKind)(a b:Int): intA .neq k a b=some (.bool (a != b)):=rfl
theorem iA_lss (k:IntKind)(a b:Int): intA .lss k a b=some (.bool (decide (a<b))):=rfl
theorem iA_leq (k:IntKind)(a b:Int): intA .leq k a b=some (.bool (decide (a<=b))):=rfl
theorem iA_gtr (k:IntKind)(a b:Int): intA .gtr k a b=some (.bool (decide (b<a))):=rfl
theorem iA_geq (k:IntKind)(a b:Int): intA .geq k a b=some (.bool (decide (b<=a))):=rfl
theorem vc_int (k:IntKind)(a:Int): (Value.int k a).cells = #[.int k a]:=rfl
theorem vc_bool (b:Bool): (Value.bool b).cells = #[.bool b]:=rfl
theorem vc_agg (x:Array Value): (Value.agg x).cells=x:=rfl
theorem vc_str (x:ByteArray): (Value.string x).cells = #[.string x]:=rfl
theorem vc_ptr (x:Option Addr): (Value.pointer x).cells = #[.pointer x]:=rfl
theorem vc_sl (x:Option Addr)(n m:Nat): (Value.slice x n m).cells = #[.slice x n m]:=rfl
theorem ft_int (k:IntKind)(a:Int): isFlat (Value.int k a)=true:=rfl
theorem ft_bool (b:Bool): isFlat (Value.bool b)=true:=rfl
theorem ft_str (x:ByteArray): isFlat (Value.string x)=true:=rfl
theorem ft_ptr (x:Option Addr): isFlat (Value.pointer x)=true:=rfl
theorem ft_sl (x:Option Addr)(n m:Nat): isFlat (Value.slice x n m)=true:=rfl
theorem tp_int (k:IntKind)(a:Int): isTup (Value.int k a)=false:=rfl
theorem tp_bool (b:Bool): isTup (Value.bool b)=false:=rfl
theorem tp_agg (x:Array Value): isTup (Value.agg x)=false:=rfl
theorem tp_str (x:ByteArray): isTup (Value.string x)=false:=rfl
theorem tp_ptr (x:Option Addr): isTup (Value.pointer x)=false:=rfl
theorem tp_sl (x:Option Addr)(n m:Nat): isTup (Value.slice x n m)=false:=rfl
section
variable {H:Type}{O:HI H}{ro:Nat}{c:CallT H}
attribute [local simp] cSeq cReg reg to too onlyIf onlyIfo aMove mv' nl' fl' ld' ln' mk' ia' ik' ix' aNil aFld aLd aInt aPick aLenStr aIdxStr aConv aUn unA ev upd_get isB envOf iA_add iA_sub iA_mul iA_eql iA_neq iA_lss iA_leq iA_gtr iA_geq cIf cRet cSkip okc_some resE resLE rvE isTup aSt Value.cells isFlat aBuild Instr.fill aCall cExit cBlk outOf ptr undef aNew aBox aIdxArr aLdN aShift shiftA aLenSl aIdx aMkSl aApp rangeA
theorem flat_len {α:Type}(f:α->List Value)(k:Nat)(hf:∀x,(f x).length=k): ∀l:List α,(l.flatMap f).length=l.length*k:=by
 intro l
 induction l with
 | nil=>simp
 | cons x l ih=>simp[List.flatMap_cons,ih,hf,Nat.add_mul,Nat.add_comm]
theorem ST.app1 (L:O.Law){w:Own}{h:H}{r n:Nat}{s:ByteArray}{R:RS}{N:Net}(x:ST O ro w h r s R n N)(e:Int)(hl:N.ins.length<=10000):
  ∃v v' h1 w1,O.cell h n 1=some v∧appI O ro 1 8 v (.slice (some ⟨O.next h,0,some 1⟩) 1 2) (O.new h [.int .i64 e])=some (v',h1)∧(v'.cells = #[v']∧isFlat v'=true∧isTup v'=false)∧O.cell h1 n 1=some v∧¬n<ro ∧
   ST O ro w1 (O.put h1 n 1 v') r s R n { N with ins:=N.ins++[e] }∧Ch O (KN 0) w h w1 (O.put h1 n 1 v'):=by
 obtain⟨rb,⟨v0,v1,v2,v3,v4,v5,⟨m,s0,s1,s2,s3,s4,s5⟩⟩,lo⟩:=x;obtain⟨v',h1,w1,e1,e2,c1,lo1⟩:=appI_one L (bytes:=8) lo s1 (new:=[.int .i64 e]) (by omega) rfl (by simp;omega) (by simp;omega);have m1:=m.ch L c1;have m2:=m1.put L 1 (by simp) v';have c2:=Ch.put L (K:=λu=>u=(2,1000)) m1 1 (by simp) v' rfl;refine⟨v1,v',h1,w1,m.get 1 _ rfl,e1,e2.flat,m1.get 1 _ rfl,by have:=m.lo;omega,⟨(rb.ch L c1).ch L c2,⟨v0,v',v2,v3,v4,v5,⟨by simpa using m2,(s0.ch L c1).ch L c2,?_,(s2.ch L c1).ch L c2,(s3.ch L c1).ch L c2,(s4.ch L c1).ch L c2,(s5.ch L c1).ch L c2⟩⟩,by rw[L.next_put];exact lo1⟩,(chN c1 0).trans (chN c2 0)⟩;have:=e2.ch L c2;simpa [iv]using this
theorem ST.app2 (L:O.Law){w:Own}{h:H}{r n:Nat}{s:ByteArray}{R:RS}{N:Net}(x:ST O ro w h r s R n N)(e:LaL)(hl:N.las.length<=10000):
  ∃v v' h1 w1,O.cell h n 2=some v∧appI O ro 4 32 v (.slice (some ⟨O.next h,0,some 4⟩) 1 2) (O.new h e.cells)=some (v',h1)∧(v'.cells = #[v']∧isFlat v'=true∧isTup v'=false)∧O.cell h1 n 2=some v∧¬n<ro ∧
   ST O ro w1 (O.put h1 n 2 v') r s R n { N with las:=N.las++[e] }∧Ch O (KN 0) w h w1 (O.put h1 n 2 v'):=by
 obtain⟨rb,⟨v0,v1,v2,v3,v4,v5,⟨m,s0,s1,s2,s3,s4,s5⟩⟩,lo⟩:=x;have hlen:=flat_len LaL.cells 4 (λ_=>rfl) N.las;obtain⟨v',h1,w1,e1,e2,c1,lo1⟩:=appI_one L (bytes:=32) lo s2 (new:=e.cells) (by omega) rfl (by omega) (by omega);have m1:=m.ch L c1;have m2:=m1.put L 2 (by simp) v';have c2:=Ch.put L (K:=λu=>u=(2,1000)) m1 2 (by simp) v' rfl;refine⟨v2,v',h1,w1,m.get 2 _ rfl,e1,e2.flat,m1.get 2 _ rfl,by have:=m.lo;omega,⟨(rb.ch L c1).ch L c2,⟨v0,v1,v',v3,v4,v5,⟨by simpa using m2,(s0.ch L c1).ch L c2,(s1.ch L c1).ch L c2,?_,(s3.ch L c1).ch L c2,(s4.ch L c1).ch L c2,(s5.ch L c1).ch L c2⟩⟩,by rw[L.next_put];exact lo1⟩,(chN c1 0).trans (chN c2 0)⟩;have:=e2.ch L c2;simpa using this
theorem ST.app5 (L:O.Law){w:Own}{h:H}{r n:Nat}{s:ByteArray}{R:RS}{N:Net}(x:ST O ro w h r s R n N)(e:GaL)(hl:N.gates.length<=10000):
  ∃v v' h1 w1,O.cell h n 5=some v∧appI O ro 6 48 v (.slice (some ⟨O.next h,0,some 6⟩) 1 2) (O.new h e.cells)=some (v',h1)∧(v'.cells = #[v']∧isFlat v'=true∧isTup v'=false)∧O.cell h1 n 5=some v∧¬n<ro ∧
   ST O ro w1 (O.put h1 n 5 v') r s R n { N with gates:=N.gates++[e] }∧Ch O (KN 0) w h w1 (O.put h1 n 5 v'):=by
 obtain⟨rb,⟨v0,v1,v2,v3,v4,v5,⟨m,s0,s1,s2,s3,s4,s5⟩⟩,lo⟩:=x;have hlen:=flat_len GaL.cells 6 (λ_=>rfl) N.gates;obtain⟨v',h1,w1,e1,e2,c1,lo1⟩:=appI_one L (bytes:=48) lo s5 (new:=e.cells) (by omega) rfl (by omega) (by omega);have m1:=m.ch L c1;have m2:=m1.put L 5 (by simp) v';have c2:=Ch.put L (K:=λu=>u=(2,1000)) m1 5 (by simp) v' rfl;refine⟨v5,v',h1,w1,m.get 5 _ rfl,e1,e2.flat,m1.get 5 _ rfl,by have:=m.lo;omega,⟨(rb.ch L c1).ch L c2,⟨v0,v1,v2,v3,v4,v',⟨by simpa using m2,(s0.ch L c1).ch L c2,(s1.ch L c1).ch L c2,(s2.ch L c1).ch L c2,(s3.ch L c1).ch L c2,(s4.ch L c1).ch L c2,?_⟩⟩,by rw[L.next_put];exact lo1⟩,(chN c1 0).trans (chN c2 0)⟩;have:=e2.ch L c2;simpa using this
theorem litS_pos {N:Net}{s:ByteArray}{R:RS}(hp:R.pos<=s.size): (litS N s R).2.pos<=s.size:=by
 have:=numS_pos (s:=s) (R:=R) hp;unfold litS;simp only;split
 ·exact this
 ·rw[fl_pos];exact this
theorem litS_l (N:Net)(s:ByteArray)(R:RS): ∃k:Nat,k<10000∧(litS N s R).1=⟨(k:Int),R.pos⟩:=⟨(numS s R).1,numS_le s R,rfl⟩
def defS (N:Net)(s:ByteArray)(R:RS): Us×Net×RS:=
 let u:=litS N s R
 (u.1,N.give u.1.l,if u.1.l%2=1∨N.isGiven u.1.l=true then fl u.2 8 R.pos else u.2)
theorem defS_pos {N:Net}{s:ByteArray}{R:RS}(hp:R.pos<=s.size): (defS N s R).2.2.pos<=s.size:=by
 have:=litS_pos (N:=N) (s:=s) (R:=R) hp;unfold defS;simp only;split
 ·rw[fl_pos];exact this
 ·exact this
theorem def_w (C:LP' O ro c)(L:O.Law){w:Own}{h:H}{r n:Nat}{s:ByteArray}{R:RS}{N:Net}(x:ST O ro w h r s R n N)(hs:s.size<=1000)(hp:R.pos<=s.size):
  ∃w' h',c 93 [ptr n,ptr r] h=some ((defS N s R).1.val,h')∧ST O ro w' h' r s (defS N s R).2.2 n (defS N s R).2.1∧Ch O (KN 2) w h w' h':=by
 obtain⟨b,hb⟩:=e' (O.next h);obtain⟨h1,hh1⟩:=e' (O.new h [.int .i64 0,.int .i64 0]);obtain⟨w1,hw1⟩:=e' (w.set b (101,0));have c1:∀K,Ch O K w h w1 h1:=λK=>by rw[hh1,hw1,hb];exact Ch.new L _ _ _ _ _
 have y1:Bx O ro w1 h1 (101,0) b [.int .i64 0,.int .i64 0]:=by rw[hh1,hw1,hb];exact Bx.new L _ _ x.lo _ _
 have x1:=x.ch L (c1 λ_=>False) (by simp) (by simp);obtain⟨w2,h2,hc2,x2,c2⟩:=lit_w C L x1 hs hp;have y2:=y1.ch L c2 (by simp[Kc]);obtain⟨h3,e3,z3,c3,lo3⟩:=local2 L w2 h2 x2.lo (.int .i64 0) (.int .i64 0) (.int .i64 (litS N s R).1.l) (.int .i64 (litS N s R).1.p) (101,1);obtain⟨b3,hb3⟩:=e' (O.next h2);obtain⟨w3,hw3⟩:=e' (w2.set b3 (101,1));rw[<-hb3,<-hw3]at z3;rw[<-hb3]at e3;have c3':∀K,Ch O K w2 h2 w3 h3:=λK=>by rw[hw3,hb3];exact c3 K
 have x3:=x2.ch L (c3' λ_=>False) (by simp) (by simp);have y3:=y2.ch L (c3' λ_=>False) (by simp);obtain⟨v0,v1,v2,v3,v4,v5,nl3⟩:=x3.nl;have hg:=isGiven_w C nl3 (litS N s R).1.l;obtain⟨k,hk,hu⟩:=litS_l N s R;have z0:=z3.get 0 _ rfl;have z1:=z3.get 1 _ rfl;have hand:=and_one k (by omega);have hro3:¬b3<ro:=by have:=z3.lo;omega
 have hro1:¬b<ro:=by have:=y3.lo;omega
 have hodd:((litS N s R).1.l%2=1)↔k%2=1:=by rw[hu];simp only;omega
 unfold ptr at hc2 hg;have fault:∃h4,(if (litS N s R).1.l%2=1∨N.isGiven (litS N s R).1.l=true then c 88 [Value.pointer (some ⟨r,0,none⟩),.int .i64 8,.int .i64 R.pos] h3=some (.tuple #[],h4) else h4=h3)∧ST O ro w3 h4 r s (defS N s R).2.2 n N∧Ch O (λu=>u=(1,1000)) w3 h3 w3 h4:=by
  by_cases hq:(litS N s R).1.l%2=1∨N.isGiven (litS N s R).1.l=true
  ·obtain⟨h4,hc4,rb4,c4⟩:=fail_w C L x3.rb 8 R.pos;exact⟨h4,by rw[if_pos hq];exact hc4,by unfold defS;simp only;rw[if_pos hq];exact x3.rd L rb4 c4,c4⟩
  ·exact⟨h3,by rw[if_neg hq],by unfold defS;simp only;rw[if_neg hq];exact x3,Ch.refl _ _ _⟩
 obtain⟨h4,e4,x4,c4⟩:=fault;have z4:=z3.ch L c4;have y4:=y3.ch L c4;have z40:=z4.get 0 _ rfl;obtain⟨h5,hc5,x5,c5⟩:=give_w C L x4 (litS N s R).1.l;have z5:=z4.ch L c5 (by simp[Kc]);have y5:=y4.ch L c5 (by simp[Kc]);have hl5:cellsA O h5 b3 0 2=some [.int .i64 (litS N s R).1.l,.int .i64 (litS N s R).1.p]:=by simpa using z5.all
 obtain⟨h6,e6,y6,c6⟩:=Bx.puts L (K:=λu=>u=(101,0)) rfl [.int .i64 (litS N s R).1.l,.int .i64 (litS N s R).1.p] 0 h5 _ y5 (by simp);have hl6:cellsA O h6 b 0 2=some [.int .i64 (litS N s R).1.l,.int .i64 (litS N s R).1.p]:=by simpa using y6.all
 refine⟨w3,h6,?_,x5.ch L c6,?_⟩
 ·refine C.eq (F93_fn O ro) rfl rfl (f'f ?_);unfold ptr at hc5;rw[hu]at e3 e4 e6 hl5 hl6 hg z0 z1 z40 hc5 hodd hc2;simp only at e3 e4 e6 hl5 hl6 hg z0 z1 z40 hc5 hodd hc2;have hval:(defS N s R).1=⟨(k:Int),R.pos⟩:=hu;rw[hval];simp only[Us.val]at hc2 ⊢
  by_cases ho:k%2=1
  ·rw[if_pos (.inl (hodd.2 ho))]at e4;rw[ho]at hand;simp[F93,Zc9,Zda,Zdb,Zdc,Zdd,Zde,<-hb,<-hh1,hc2,<-hb3,e3,hro1,hro3,z0,z1,hand,e4,z40,hc5,hl5,e6,load137,hl6,List.zipIdx]
  ·have ho0:k%2=0:=by omega
   rw[ho0]at hand
   by_cases hgv:N.isGiven k=true
   ·rw[if_pos (.inr hgv)]at e4;simp[F93,Zc9,Zda,Zdb,Zdc,Zdd,Zde,<-hb,<-hh1,hc2,<-hb3,e3,hro1,hro3,z0,z1,hand,hg,hgv,e4,z40,hc5,hl5,e6,load137,hl6,List.zipIdx]
   ·rw[if_neg (by rw[hodd];simp[ho,hgv])]at e4;subst e4;simp[F93,Zc9,Zda,Zdb,Zdc,Zdd,Zde,<-hb,<-hh1,hc2,<-hb3,e3,hro1,hro3,z0,z1,hand,hg,hgv,z40,hc5,hl5,e6,load137,hl6,List.zipIdx]
 ·exact (((((c1 _).trans (Kc.mono c2 (by decide) (by omega))).trans (c3' _)).trans (chR c4 _)).trans (Kc.mono c5 (by decide) (by omega))).trans (chL c6 2 (by omega))
end
end Go.Proofs.YtimdkminagnhgaaGreatDoor
namespace Go.Proofs.YtimdkminagnhgaaGreatDoor
open Go.Vm Go.Proofs
set_option maxHeartbeats 1000000
section
variable {H:Type}{O:HI H}{ro:Nat}{c:CallT H}
attribute [local simp] cSeq cReg reg to too onlyIf onlyIfo aMove mv' nl' fl' ld' ln' mk' ia' ik' ix' aNil aFld aLd aInt aPick aLenStr aIdxStr aConv aUn unA ev upd_get isB envOf iA_add iA_sub iA_mul iA_eql iA_neq iA_lss iA_leq iA_gtr iA_geq cIf cRet cSkip okc_some resE resLE rvE aSt vc_int vc_bool vc_agg vc_str vc_ptr vc_sl ft_int ft_bool ft_str ft_ptr ft_sl tp_int tp_bool tp_agg tp_str tp_ptr tp_sl aBuild Instr.fill aCall cExit cBlk outOf ptr undef aNew aBox aIdxArr aLdN aShift shiftA aLenSl aIdx aMkSl aApp rangeA
def rsS (own:Int)(s:ByteArray)(R:RS): Nat×RS:=
 let q:=numS s R
 if q.1=0 then (0,q.2) else if q.1=1 then (1,q.2) else if (q.1:Int)=own then (2,q.2) else (0,fl q.2 9 R.pos)
theorem rsS_pos {own:Int}{s:ByteArray}{R:RS}(hp:R.pos<=s.size): (rsS own s R).2.pos<=s.size:=by
 have:=numS_pos (s:=s) (R:=R) hp;unfold rsS;simp only;split
 ·exact this
 ·split
  ·exact this
  ·split
   ·exact this
   ·simp only[fl_pos];exact this
theorem rs_w (C:LP' O ro c)(L:O.Law){w:Own}{h:H}{r:Nat}{s:ByteArray}{R:RS}(x:RB O ro w h r s R)(hs:s.size<=1000)(hp:R.pos<=s.size)(own:Int):
  ∃h',c 151 [ptr r,.int .i64 own] h=some (.int .i64 (rsS own s R).1,h')∧RB O ro w h' r s (rsS own s R).2∧Ch O (λu=>u=(1,1000)) w h w h':=by
 have d1:=x.get 1 _ rfl;obtain⟨h2,hc2,x2,c2⟩:=num_w C L x hs hp;unfold rsS;simp only;generalize numS s R=q at hc2 x2;unfold ptr at hc2
 by_cases h0:q.1=0
 ·refine⟨h2,?_,by rw[if_pos h0];exact x2,c2⟩;refine C.eq (F151_fn O ro) rfl rfl (f'f ?_);have k0:((q.1:Int)==0)=true:=by simp;omega
  simp[F151,ZeG,ZeH,ZeI,ZeJ,ZeK,d1,hc2,k0,h0]
 ·have k0:((q.1:Int)==0)=false:=by simp;omega
  rw[if_neg h0]
  by_cases h1:q.1=1
  ·refine⟨h2,?_,by rw[if_pos h1];exact x2,c2⟩;refine C.eq (F151_fn O ro) rfl rfl (f'f ?_);have k1:((q.1:Int)==1)=true:=by simp;omega
   simp[F151,ZeG,ZeH,ZeI,ZeJ,ZeK,ZeL,ZeM,d1,hc2,k0,h0,k1,h1]
  ·have k1:((q.1:Int)==1)=false:=by simp;omega
   rw[if_neg h1]
   by_cases h3:(q.1:Int)=own
   ·refine⟨h2,?_,by rw[if_pos h3];exact x2,c2⟩;refine C.eq (F151_fn O ro) rfl rfl (f'f ?_);have k3:((q.1:Int)==own)=true:=by simpa using h3
    rw[if_pos h3];simp[F151,ZeG,ZeH,ZeI,ZeJ,ZeK,ZeL,ZeM,ZeN,ZeO,d1,hc2,k0,h0,k1,h1,k3]
   ·rw[if_neg h3];obtain⟨h4,hc4,x4,c4⟩:=fail_w C L x2 9 R.pos;refine⟨h4,?_,x4,c2.trans c4⟩;refine C.eq (F151_fn O ro) rfl rfl (f'f ?_);have k3:((q.1:Int)==own)=false:=by simpa using h3
    have hc4':c 88 [Value.pointer (some ⟨r,0,none⟩),.int .i64 9,.int .i64 R.pos] h2=some (.tuple #[],h4):=hc4;simp[F151,ZeG,ZeH,ZeI,ZeJ,ZeK,ZeL,ZeM,ZeN,ZeO,ZeP,ZeQ,d1,hc2,k0,h0,k1,h1,k3,h3,hc4']
def laZ (own:Int)(s:ByteArray)(R:RS): Nat×RS:=if pk s R=32 then rsS own s ⟨R.pos+1,R.e,R.ep⟩ else (0,R)
def laS (N:Net)(s:ByteArray)(R:RS)(own:Int): Net×RS:=
 let u:=litS N s R
 let z:=laZ own s u.2
 ({ N with las:=N.las++[⟨own,u.1,z.1⟩] },exS s z.2 10)
theorem laZ_pos {own:Int}{s:ByteArray}{R:RS}(hp:R.pos<=s.size): (laZ own s R).2.pos<=s.size:=by
 unfold laZ;split
 ·rename_i hk
  have:=pk_lt (s:=s) (R:=R) (by omega);exact rsS_pos (by simp only;omega)
 ·exact hp
theorem laS_pos {N:Net}{s:ByteArray}{R:RS}{own:Int}(hp:R.pos<=s.size): (laS N s R own).2.pos<=s.size:=exS_pos _ (laZ_pos (litS_pos hp))
theorem la_w (C:LP' O ro c)(L:O.Law){w:Own}{h:H}{r n:Nat}{s:ByteArray}{R:RS}{N:Net}(x:ST O ro w h r s R n N)(hs:s.size<=1000)(hp:R.pos<=s.size)(own:Int)(hl:N.las.length<=10000):
  ∃w' h',c 90 [ptr n,ptr r,.int .i64 own] h=some (.tuple #[],h')∧ST O ro w' h' r s (laS N s R own).2 n (laS N s R own).1∧Ch O (KN 2) w h w' h':=by
 obtain⟨w2,h2,hc2,x2,c2⟩:=lit_w C L x hs hp;obtain⟨h3,e3,z3,c3,lo3⟩:=local2 L w2 h2 x2.lo (.int .i64 0) (.int .i64 0) (.int .i64 (litS N s R).1.l) (.int .i64 (litS N s R).1.p) (101,0);obtain⟨b3,hb3⟩:=e' (O.next h2);obtain⟨w3,hw3⟩:=e' (w2.set b3 (101,0));rw[<-hb3,<-hw3]at z3;rw[<-hb3]at e3;have c3':∀K,Ch O K w2 h2 w3 h3:=λK=>by rw[hw3,hb3];exact c3 K
 have x3:=x2.ch L (c3' λ_=>False) (by simp) (by simp);have hro3:¬b3<ro:=by have:=z3.lo;omega
 have p2:=litS_pos (N:=N) (s:=s) (R:=R) hp;obtain⟨u,hu⟩:=e' (litS N s R);have hfin:laS N s R own=({ N with las:=N.las++[⟨own,u.1,(laZ own s u.2).1⟩] },exS s (laZ own s u.2).2 10):=by rw[hu];rfl
 rw[hfin];rw[<-hu]at hc2 x2 e3 z3 x3 p2;clear hfin hu;obtain⟨h4,hc4,rb4,c4⟩:=take_w C L x3.rb hs 32;have zs:∃h5,(if pk s u.2=32 then c 151 [Value.pointer (some ⟨r,0,none⟩),.int .i64 own] h4=some (.int .i64 (laZ own s u.2).1,h5) else (h5=h4∧(laZ own s u.2).1=0))∧RB O ro w3 h5 r s (laZ own s u.2).2∧Ch O (λu=>u=(1,1000)) w3 h3 w3 h5:=by
  by_cases hk:pk s u.2=32
  ·rw[if_pos (show pk s u.2=((32:Nat):Int) from hk)]at rb4;have:=pk_lt (s:=s) (R:=u.2) (by omega);obtain⟨h5,hc5,rb5,c5⟩:=rs_w C L rb4 hs (by simp only;omega) own;exact⟨h5,by rw[if_pos hk];unfold laZ;rw[if_pos hk];exact hc5,by unfold laZ;rw[if_pos hk];exact rb5,c4.trans c5⟩
  ·rw[if_neg (show ¬pk s u.2=((32:Nat):Int) from hk)]at rb4;exact⟨h4,by rw[if_neg hk];unfold laZ;rw[if_neg hk];exact⟨rfl,rfl⟩,by unfold laZ;rw[if_neg hk];exact rb4,c4⟩
 obtain⟨h5,e5,rb5,c5⟩:=zs;obtain⟨z,hz⟩:=e' (laZ own s u.2);rw[<-hz]at e5 rb5 ⊢;clear hz;obtain⟨h6,hc6,rb6,c6⟩:=expect_w C L rb5 hs 10;have x6:=x3.rd L rb6 (c5.trans c6);have z6:=(z3.ch L c5).ch L c6;have hl6:cellsA O h6 b3 0 2=some [.int .i64 u.1.l,.int .i64 u.1.p]:=by simpa using z6.all
 obtain⟨v,v',h7,w7,e7,e8,⟨f1,f2,f3⟩,e9,hron,x7,c7⟩:=ST.app2 L x6 ⟨own,u.1,z.1⟩ hl;refine⟨w7,_,?_,x7,?_⟩
 ·refine C.eq (F90_fn O ro) rfl rfl (f'f ?_);unfold ptr at hc2 hc4 hc6;have hc4':c 85 [Value.pointer (some ⟨r,0,none⟩),.int .i64 32] h3=some (.bool (decide (pk s u.2=32)),h4):=hc4;have hc6':c 84 [Value.pointer (some ⟨r,0,none⟩),.int .i64 10] h5=some (.tuple #[],h6):=hc6;simp only[Us.val]at hc2;simp only[LaL.cells]at e8
  by_cases hk:pk s u.2=32
  ·rw[if_pos hk]at e5;simp[F90,ZcJ,ZcK,ZcL,ZcM,ZcN,ZcO,hc2,<-hb3,e3,hro3,hc4',hk,e5,hc6',e7,hl6,List.zipIdx,l'B,e8,f1,f2,f3,e9,hron,putsA]
  ·rw[if_neg hk]at e5;obtain⟨rfl,hz0⟩:=e5;rw[hz0]at e8;simp only[Int.natCast_zero,Int.cast_ofNat_Int]at e8;simp[F90,ZcJ,ZcK,ZcL,ZcM,ZcN,ZcO,hc2,<-hb3,e3,hro3,hc4',hk,hc6',e7,hl6,List.zipIdx,l'B,e8,f1,f2,f3,e9,hron,putsA]
 ·exact ((((Kc.mono c2 (by decide) (by omega)).trans (c3' _)).trans (chR c5 _)).trans (chR c6 _)).trans (Kc.mono c7 (by decide) (by omega))
end
end Go.Proofs.YtimdkminagnhgaaGreatDoor
