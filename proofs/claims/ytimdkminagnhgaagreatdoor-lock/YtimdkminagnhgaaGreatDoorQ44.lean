import Derived.Test.YtimdkminagnhgaaGreatDoorQ43
import Derived.KernelRfl
import Derived.Test.YtimdkminagnhgaaGreatDoorQ09
set_option linter.all false
namespace Go.Ta
end Go.Ta
namespace Go.Proofs.YtimdkminagnhgaaGreatDoor
open Go.Vm Go.Proofs Go.Ta
set_option maxHeartbeats 4000000
section
variable {H:Type}{O:HI H}{ro:Nat}{c:A'Z H}
attribute [local simp] A'a A'b reg to too A'd A'q A'h mv' nl' fl' ld' ln' mk' ia' ik' ix' B'I B'J aLd B'h A'w A'4 aUn unA ev A'l isB A'0 A'E A'F A'G A'H A'I A'J A'K A'L A'M cIf A'B A'f A'g aSt A'N A't A'O A'P A'Q A'9 A'R A'u A'S A'T B'a A'U A'v A'V A'W A'X B'b A'p Instr.fill A'e A'n A'x A'j ptr undef B'p B'y A'k B'u A's A'D B'C A'y B'q rangeA B'T A'r A'3 A'z B'd A'm A'o chk
variable {w w':Own}{h h':H}{q:Nat}{S:Srch}{bW bH bV:Nat}{vA vC vT vS vK:Value}{lv wv:List Value}
attribute [local simp] D'h H'x A'7 J'd C'k D'n C'h
theorem T'F (C:LP' O ro c)(a:Int)(ha:I64 a)(n:Nat)(hn:0<n): ∃k:Nat,k<n∧∀h,c 33 [.int .i64 a,ni n] h=some (ni k,h):=by
 obtain⟨ha1,ha2⟩:=ha;have key:∀x:Int,0<=x->∃k:Nat,k<n∧C'n .rem .i64 x (n:Int)=some (.int .i64 (k:Int)):=by
  intro x hx;refine⟨x.toNat%n,Nat.mod_lt _ hn,?_⟩;have hb:(n:Int)≠0:=by omega
  obtain⟨m,rfl⟩:∃m:Nat,x=m:=⟨x.toNat,by omega⟩;simp only[C'n,if_neg hb,Int.ofNat_tmod,Int.toNat_natCast]
 by_cases h0:a<0
 ·have w1:IntKind.i64.wrap (a+1)=a+1:=w'j;have w2:IntKind.i64.wrap (0-(a+1)) = -(a+1):=w'i;have w2':IntKind.i64.wrap (-(a+1)) = -(a+1):=w'j;obtain⟨k,hk,e⟩:=key (-(a+1)) (by omega);refine⟨k,hk,λh=>C.eq (O'K O ro) rfl rfl (f'f ?_)⟩;generalize hx:-(a+1)=x at *;simp[F33,ZpE,ZpF,ZpG,ZpH,A'1,A'i,rvE,h0,w1,w2,w2',hx,e]
 ·obtain⟨k,hk,e⟩:=key a (by omega);refine⟨k,hk,λh=>C.eq (O'K O ro) rfl rfl (f'f ?_)⟩;simp[F33,ZpE,ZpF,ZpH,A'1,A'i,rvE,h0,e]
def ckB (T T':CkT): Bool:=decide (T.ni=T'.ni)&&decide (T.las=T'.las)&&decide (T.gts=T'.gts)&&decide (T.bad=T'.bad)
theorem T'G {T T':CkT}(h:ckB T T'=true): T=T':=by
 unfold ckB at h;simp only[l'k,l'M]at h;obtain⟨⟨⟨a,b⟩,c⟩,d⟩:=h
 cases T;cases T'
 simp_all
def rdB (s:ByteArray)(N:Ck): Bool:=match rdS s with | .ok T=>ckB T (ckT N) | .error _=>false
theorem T'H {s:ByteArray}{N:Ck}(h:rdB s N=true): rdS s = .ok (ckT N):=by
 unfold rdB at h;split at h
 ·rename_i T hT;rw[hT,T'G h]
 ·simp at h
end
end Go.Proofs.YtimdkminagnhgaaGreatDoor
namespace Go.Ta
theorem O'R (σ:Nat->Bool)(v:Nat): tr σ (2*v+1) = !σ v:=by
 unfold tr;rw[show (2*v+1)/2=v by omega,show (2*v+1)%2=1 by omega];simp
def row (pre:List Nat)(f:Nat->Nat)(m k:Nat): List Nat:=pre++((List.range k).map f++List.replicate (m-k) 0)
theorem L'6 {pre:List Nat}{f:Nat->Nat}{m k:Nat}(h:k<=m): (row pre f m k).length=pre.length+m:=by simp[row];omega
theorem R'H {pre:List Nat}{f:Nat->Nat}{m k:Nat}(h:k<m): (row pre f m k).set (pre.length+k) (f k)=row pre f m (k+1):=by
 unfold row;rw[List.set_append_right _ _ (by omega),Nat.add_sub_cancel_left,List.set_append_right _ _ (by simp),l'B,List.map_append,List.length_map,List.length_range,Nat.sub_self];obtain⟨n,hn⟩:∃n,m-k=n+1:=⟨m-k-1,by omega⟩;rw[hn,show m-(k+1)=n by omega,List.replicate_succ];simp
theorem R'I {pre:List Nat}{f:Nat->Nat}{m:Nat}: row pre f m m=pre++(List.range m).map f:=by simp[row]
variable {i m c:Nat}
end Go.Ta
namespace Go.Proofs.YtimdkminagnhgaaGreatDoor
open Go.Vm Go.Proofs Go.Ta
theorem G'r (x:Int): C'n .and .i64 x 1=some (.int .i64 (x%2)):=by
 have h2:C'n .and .i64 x 1=some (.int .i64 (IntKind.i64.wrap ((BitVec.ofInt 64 x &&& BitVec.ofInt 64 1).toNat:Int))):=rfl;rw[h2,BitVec.toNat_and,BitVec.toNat_ofInt,show (BitVec.ofInt 64 (1:Int)).toNat=1 by decide,Nat.and_one_is_mod,B'G (by omega) (by omega)];congr 2;omega
theorem L'7 (x:Int)(j:Nat)(hj:j<=60): B'M .shr .i64 x (j:Int)=some (.int .i64 (x/2^j)):=by
 have h1:B'M .shr .i64 x (j:Int)=if (j:Int)<0 then none else some (.int .i64 (x.fdiv (2^(min ((j:Int).toNat) 64)))):=rfl
 rw[h1,if_neg (by omega),Int.toNat_natCast,Nat.min_eq_left (by omega)];have h2:((2:Int)^j)=((2^j:Nat):Int):=by simp
 rw[h2,Int.fdiv_eq_ediv_of_nonneg _ (Int.natCast_nonneg _)]
theorem V'L (x:Int){m j:Nat}(hj:j<m): x/2^j%2=(((x%2^m).toNat/2^j%2:Nat):Int):=by
 obtain⟨d,rfl⟩:∃d,m=j+(d+1):=⟨m-j-1,by omega⟩;have hp:(0:Int)<2^j:=Int.pow_pos (by decide);have h0:0<=x%2^(j+(d+1)):=Int.emod_nonneg _ (by have:=Int.pow_pos (n:=2) (m:=j+(d+1)) (by decide);omega);rw[Int.natCast_emod,Int.natCast_ediv,Int.toNat_of_nonneg h0];simp only[Int.natCast_pow,Int.cast_ofNat_Int];have h1:=Int.emod_add_mul_ediv x (2^(j+(d+1)));generalize x%2^(j+(d+1))=r at *;generalize x/2^(j+(d+1))=k at *;subst h1;rw[Int.pow_add,Int.mul_assoc,Int.add_mul_ediv_left _ _ (by omega),Int.pow_succ,Int.mul_comm (2^d) 2,Int.mul_assoc,Int.add_mul_emod_self_left]
section
variable {H:Type}{O:HI H}{ro:Nat}{c:A'Z H}{w w':Own}{h h':H}{p:Nat}{X:Nt}{vg vn vr:Value}
theorem NT.setN (L:O.Law)(x:NT O ro w h p X vg vn vr){o:Nat}(ho:o<X.next.length)(z:Nat): ∃b q g,O.cell h p 3=some (.slice (some ⟨b,0,some 1⟩) X.next.length q)∧¬b<ro∧A'8 O h b o [ni z]=some g∧NT O ro w g p { X with next:=X.next.set o z } vg vn vr:=by
 obtain⟨b,q,e,hq,y⟩:=x.sn.blk (by omega) X.next.length (by simp) (by omega)
 have hl:o<(X.next.map ni).length:=by simpa using ho
 have c2:=Ch.put L (K:=λu=>u=((17,2):Tag)) y o hl (ni z) rfl;have y2:=y.put L o hl (ni z);rw[<-List.map_set]at y2;obtain⟨v0,hv0⟩:∃v0,(X.next.map ni)[o]?=some v0:=⟨_,l'c hl⟩;have m3:=x.m.get 3 _ rfl;refine⟨b,q,_,by rw[<-e];exact m3,by have:=y.lo;omega,A'C (y.get o v0 hv0),x.m.ch L c2,x.sg.ch L c2,?_,x.sr.ch L c2,l'G x.lo c2.nx⟩;rw[e];exact .inr ⟨b,X.next.length,q,rfl,hq,by simp,y2⟩
theorem NT.setB (L:O.Law)(x:NT O ro w h p X vg vn vr)(z:Nat): ∃g,¬p<ro∧A'8 O h p 5 [ni z]=some g∧NT O ro w g p { X with bad:=z } vg vn vr:=by
 have c5:=Ch.put L (K:=λu=>u=((17,0):Tag)) x.m 5 (by simp) (ni z) rfl;exact⟨_,by have:=x.m.lo;omega,A'C (x.m.get 5 _ rfl),x.m.put L 5 (by simp) (ni z),x.sg.ch L c5,x.sn.ch L c5,x.sr.ch L c5,l'G x.lo c5.nx⟩
end
end Go.Proofs.YtimdkminagnhgaaGreatDoor
namespace Go.Proofs.YtimdkminagnhgaaGreatDoor
open Go.Vm Go.Proofs Go.Ta
section
variable {α β γ:Type}
def fN (n:Nat)(k:Nat->β): β:=match n with|0=>k 0|m+1=>k (m+1)
theorem D'U (n:Nat)(k:Nat->β): fN n k=k n:=by cases n <;> rfl
def fI (i:Int)(k:Int->β): β:=match i with | .ofNat n=>fN n λm=>k (.ofNat m) | .negSucc n=>fN n λm=>k (.negSucc m)
theorem J'O (i:Int)(k:Int->β): fI i k=k i:=by cases i <;> exact D'U _ λm=>k _
def fB (b:Bool)(k:Bool->β): β:=match b with|false=>k false|true=>k true
theorem R'J (b:Bool)(k:Bool->β): fB b k=k b:=by cases b <;> rfl
def fL (f:α->(α->β)->β): List α->(List α->β)->β
 | [],k=>k []
 | a :: l,k=>f a λa'=>fL f l λl'=>k (a' :: l')
theorem F'v {f:α->(α->β)->β}(h:∀a k,f a k=k a)(l:List α): ∀k,fL f l k=k l:=by
 induction l with
 | nil=>intro k;rfl
 | cons a l ih=>intro k;exact (h a _).trans (ih _)
def fUs (u:Us)(k:Us->β): β:=fI u.l λa=>fN u.p λb=>k ⟨a,b⟩
theorem E'z (u:Us)(k:Us->β): fUs u k=k u:=by unfold fUs;rw[J'O,D'U]
def fLa (u:LaL)(k:LaL->β): β:=fI u.l λa=>fUs u.n λb=>fN u.z λc=>k ⟨a,b,c⟩
theorem T'I (u:LaL)(k:LaL->β): fLa u k=k u:=by unfold fLa;rw[J'O,E'z,D'U]
def fGa (u:GaL)(k:GaL->β): β:=fUs u.g λa=>fUs u.a λb=>fUs u.b λc=>k ⟨a,b,c⟩
theorem T'J (u:GaL)(k:GaL->β): fGa u k=k u:=by unfold fGa;rw[E'z,E'z,E'z]
def fRS (R:RS)(k:RS->β): β:=fN R.pos λa=>fN R.e λb=>fN R.ep λc=>k ⟨a,b,c⟩
theorem E'A (u:RS)(k:RS->β): fRS u k=k u:=by unfold fRS;rw[D'U,D'U,D'U]
def fNt (N:Net)(k:Net->β): β:=fL fB N.given λa=>fL fI N.ins λb=>fL fLa N.las λc=>fL fUs N.outs λd=>fL fUs N.bads λe=>fL fGa N.gates λf=>k ⟨a,b,c,d,e,f⟩
theorem T'K (N:Net)(k:Net->β): fNt N k=k N:=by unfold fNt;rw[F'v R'J,F'v J'O,F'v T'I,F'v E'z,F'v E'z,F'v T'J]
def fP (x:Net×RS)(k:Net×RS->β): β:=fRS x.2 λb=>fNt x.1 λa=>k (a,b)
theorem G's (x:Net×RS)(k:Net×RS->β): fP x k=k x:=by unfold fP;rw[E'A,T'K]
def dgB (b:Nat): Bool:=Nat.ble 48 b&&Nat.ble b 57
theorem I'a (b:Nat): dgB b=true↔48<=b∧b<=57:=by unfold dgB;rw[l'k,Nat.ble_eq,Nat.ble_eq]
theorem I'b {s:ByteArray}{R:RS}(he:R.e=0): M'O (pk s R)=dgB (C'E s R.pos):=by
 rw[Bool.eq_iff_iff,I'a];unfold M'O pk
 by_cases hp:R.pos<s.size
 ·rw[if_pos ⟨he,hp⟩];simp only[l'k,l'M];omega
 ·rw[if_neg (λh=>hp h.2)];have:C'E s R.pos=0:=by
   unfold C'E;rw[show s[R.pos]?=none by simp;omega];rfl
  rw[this];decide
theorem T'L {s:ByteArray}{R:RS}(he:R.e=0)(h:dgB (C'E s R.pos)=true): (pk s R).toNat=C'E s R.pos:=by
 rw[I'a]at h;have hp:R.pos<s.size:=by
  rcases Nat.lt_or_ge R.pos s.size with h1|h1
  ·exact h1
  ·have:C'E s R.pos=0:=by
    unfold C'E;rw[show s[R.pos]?=none by simp;omega];rfl
   omega
 unfold pk;rw[if_pos ⟨he,hp⟩,Int.toNat_natCast]
def M'n: List UInt8->Nat
 | []=>0
 | a :: l=>a.toNat+256*M'n l
def bt (w p:Nat): Nat:=w/256^p%256
theorem R'K: ∀(l:List UInt8) (p:Nat),bt (M'n l) p=((l[p]?).map UInt8.toNat).getD 0:=by
 intro l
 induction l with
 | nil=>intro p;simp[M'n,bt]
 | cons a l ih=>
  intro p;have ha:=a.toNat_lt
  cases p with
  | zero=>simp only[M'n,bt,Nat.pow_zero,Nat.div_one,l'w,l'l,Option.getD_some];omega
  | succ p=>
   rw[l'x,<-ih p];unfold bt;rw[Nat.pow_succ,Nat.mul_comm,<-Nat.div_div_eq_div_mul];have:M'n (a :: l)/256=M'n l:=by simp only[M'n];omega
   rw[this]
structure Cod (w n:Nat)(s:ByteArray):Prop where
 b:∀p,C'E s p=bt w p
 z:s.size=n
theorem L'8 (s:ByteArray): Cod (M'n s.data.toList) s.data.toList.length s:=by
 refine⟨λp=>?_,rfl⟩;rw[R'K];unfold C'E;congr 2
 by_cases hp:p<s.size
 ·have hp2:p<s.data.toList.length:=hp;rw[getElem?_pos s p hp,l'c hp2];rfl
 ·have hp2:¬p<s.data.toList.length:=hp;rw[getElem?_neg s p hp,List.getElem?_eq_none (by omega)]
variable {w n:Nat}{s:ByteArray}
def U'b (w:Nat)(s:ByteArray)(R:RS): Nat×RS:=
 bif Nat.beq R.e 0&&dgB (bt w R.pos) then
  bif dgB (bt w (R.pos+1)) then
   bif Nat.beq (bt w R.pos) 48||dgB (bt w (R.pos+2)) then D'3 s R else (10*(bt w R.pos-48)+bt w (R.pos+1)-48,⟨R.pos+2,R.e,R.ep⟩)
  else (bt w R.pos-48,⟨R.pos+1,R.e,R.ep⟩)
 else D'3 s R
theorem L'9 (W:Cod w n s)(R:RS): U'b w s R=D'3 s R:=by
 unfold U'b;simp only[<-W.b]
 cases h1:(Nat.beq R.e 0&&dgB (C'E s R.pos)) with
 | false=>rfl
 | true=>
  rw[l'k]at h1;obtain⟨he,ha⟩:=h1;have he:R.e=0:=Nat.eq_of_beq_eq_true he;have ha':=(I'a _).1 ha;have s1:D'3 s R=numL 4 s R.pos ⟨R.pos+1,R.e,R.ep⟩ (C'E s R.pos-48):=by
   unfold D'3;rw[numL,I'b he,ha,if_pos rfl,if_neg (by omega),T'L he ha];simp
  have i2:=I'b (s:=s) (R:=⟨R.pos+1,R.e,R.ep⟩) he
  cases hb:dgB (C'E s (R.pos+1)) with
  | false=>
   simp only[cond_true,cond_false];rw[s1,numL,i2];simp only[hb];rw[if_neg (by simp),if_neg (by omega)]
  | true=>
   simp only[cond_true]
   cases h2:(Nat.beq (C'E s R.pos) 48||dgB (C'E s (R.pos+2))) with
   | true=>rfl
   | false=>
    simp only[cond_false];rw[Bool.or_eq_false_iff]at h2;obtain⟨h48,hc⟩:=h2;have h48:C'E s R.pos≠48:=Nat.ne_of_beq_eq_false h48;have i3:=I'b (s:=s) (R:=⟨R.pos+2,R.e,R.ep⟩) he;have p2:=T'L (s:=s) (R:=⟨R.pos+1,R.e,R.ep⟩) he hb;rw[s1,numL,i2];simp only[hb];rw[if_pos trivial,if_neg (by omega),p2,numL,i3];simp only[hc];rw[if_neg (by simp),if_neg (by omega)]
def exQ (w n:Nat)(s:ByteArray)(R:RS)(b:Nat): RS:=bif Nat.beq R.e 0&&(Nat.ble (R.pos+1) n&&Nat.beq (bt w R.pos) b) then ⟨R.pos+1,R.e,R.ep⟩ else exS s R b
theorem M'a (W:Cod w n s)(R:RS)(b:Nat): exQ w n s R b=exS s R b:=by
 unfold exQ;rw[<-W.b,<-W.z]
 cases h1:(Nat.beq R.e 0&&(Nat.ble (R.pos+1) s.size&&Nat.beq (C'E s R.pos) b)) with
 | false=>rfl
 | true=>
  rw[l'k,l'k,Nat.ble_eq]at h1;obtain⟨he,hp,hb⟩:=h1;have he:R.e=0:=Nat.eq_of_beq_eq_true he;have hb:C'E s R.pos=b:=Nat.eq_of_beq_eq_true hb;have hk:pk s R=(b:Int):=by unfold pk;rw[if_pos ⟨he,hp⟩,hb]
  unfold exS;rw[if_pos hk];rfl
def fRP (x:Nat×RS)(k:Nat×RS->β): β:=fN x.1 λa=>fRS x.2 λb=>k (a,b)
theorem M'b (x:Nat×RS)(k:Nat×RS->β): fRP x k=k x:=by unfold fRP;rw[D'U,E'A]
def fUR (x:Us×RS)(k:Us×RS->β): β:=fUs x.1 λa=>fRS x.2 λb=>k (a,b)
theorem I'Y (x:Us×RS)(k:Us×RS->β): fUR x k=k x:=by unfold fUR;rw[E'z,E'A]
def fD (x:Us×Net×RS)(k:Us×Net×RS->β): β:=fUs x.1 λa=>fRS x.2.2 λb=>k (a,x.2.1,b)
theorem T'M (x:Us×Net×RS)(k:Us×Net×RS->β): fD x k=k x:=by unfold fD;rw[E'z,E'A]
def R'U (w:Nat)(N:Net)(s:ByteArray)(R:RS): Us×RS:=fRP (U'b w s R) λq=>bif Nat.blt (q.1/2) N.given.length then (⟨q.1,R.pos⟩,q.2) else C'm N s R
theorem I'c (W:Cod w n s)(N:Net)(R:RS): R'U w N s R=C'm N s R:=by
 unfold R'U;rw[M'b,L'9 W]
 cases h:Nat.blt ((D'3 s R).1/2) N.given.length with
 | false=>rfl
 | true=>
  have h1:(D'3 s R).1/2<N.given.length:=Nat.le_of_ble_eq_true h;have hh:N.has ((D'3 s R).1:Int)=true:=by
   unfold Net.has;simp only[l'k,l'M];omega
  unfold C'm;simp only[cond_true];rw[if_pos hh]
def U'c (w:Nat)(N:Net)(s:ByteArray)(R:RS): Us×Net×RS:=fUR (R'U w N s R) λu=>(u.1,N.give u.1.l,if u.1.l%2=1∨N.isGiven u.1.l=true then fl u.2 8 R.pos else u.2)
theorem M'c (W:Cod w n s)(N:Net)(R:RS): U'c w N s R=D'p N s R:=by unfold U'c;rw[I'Y,I'c W];rfl
def rsQ (w:Nat)(own:Int)(s:ByteArray)(R:RS): Nat×RS:=fRP (U'b w s R) λq=>if q.1=0 then (0,q.2) else if q.1=1 then (1,q.2) else if (q.1:Int)=own then (2,q.2) else (0,fl q.2 9 R.pos)
theorem T'N (W:Cod w n s)(own:Int)(R:RS): rsQ w own s R=rsS own s R:=by unfold rsQ;rw[M'b,L'9 W];rfl
def U'E (w n:Nat)(own:Int)(s:ByteArray)(R:RS): Nat×RS:=bif Nat.beq R.e 0&&(Nat.ble (R.pos+1) n&&Nat.beq (bt w R.pos) 32) then rsQ w own s ⟨R.pos+1,R.e,R.ep⟩ else laZ own s R
theorem R'L (W:Cod w n s)(own:Int)(R:RS): U'E w n own s R=laZ own s R:=by
 unfold U'E
 cases h:(Nat.beq R.e 0&&(Nat.ble (R.pos+1) n&&Nat.beq (bt w R.pos) 32)) with
 | false=>rfl
 | true=>
  rw[l'k,l'k,Nat.ble_eq,<-W.b,<-W.z]at h;obtain⟨he,hp,hb⟩:=h;have he:R.e=0:=Nat.eq_of_beq_eq_true he;have hb:C'E s R.pos=32:=Nat.eq_of_beq_eq_true hb;have hk:pk s R=32:=by unfold pk;rw[if_pos ⟨he,hp⟩,hb];rfl
  unfold laZ;rw[if_pos hk,T'N W];rfl
def laQ (w n:Nat)(N:Net)(s:ByteArray)(R:RS)(own:Int): Net×RS:=fUR (R'U w N s R) λu=>fRP (U'E w n own s u.2) λz=>({ N with las:=N.las++[⟨own,u.1,z.1⟩] },exQ w n s z.2 10)
theorem T'O (W:Cod w n s)(N:Net)(R:RS)(own:Int): laQ w n N s R own=laS N s R own:=by unfold laQ;rw[I'Y,M'b,I'c W,R'L W,M'a W];rfl
def U'd (w n:Nat)(s:ByteArray)(_:Nat)(x:Net×RS): Net×RS:=fD (U'c w x.1 s x.2) λd=>laQ w n d.2.1 s (exQ w n s d.2.2 32) d.1.l
theorem M'd (W:Cod w n s): U'd w n s=F'F s:=funext λj=>funext λx=>by unfold U'd F'F;rw[T'M,T'O W,M'a W,M'c W]
def pgQ (w n:Nat)(s:ByteArray)(_:Nat)(x:Net×RS): Net×RS:=fD (U'c w x.1 s x.2) λd=>fUR (R'U w d.2.1 s (exQ w n s d.2.2 32)) λa=>fUR (R'U w d.2.1 s (exQ w n s a.2 32)) λb=>({ d.2.1 with gates:=d.2.1.gates++[⟨d.1,a.1,b.1⟩] },exQ w n s b.2 10)
theorem O'S (W:Cod w n s): pgQ w n s=H't s:=funext λj=>funext λx=>by unfold pgQ H't pgS;rw[T'M,I'Y,I'Y];simp only[M'c W,I'c W,M'a W]
def itF (f:Nat->Net×RS->Net×RS): Nat->Nat->Net×RS->Net×RS
 | _,0,x=>x
 | j,m+1,x=>fP (f j x) λy=>itF f (j+1) m y
theorem O'T (f:Nat->Net×RS->Net×RS): ∀(m j:Nat)(x:Net×RS),itF f j m x=itK f j m x:=by
 intro m
 induction m with
 | zero=>intro j x;rfl
 | succ m ih=>intro j x;simp only[itF,itK];rw[G's,ih]
def fO (P:Ord)(k:Ord->β): β:=fL fI P.place λa=>fN P.count λb=>k ⟨a,b⟩
theorem T'P (P:Ord)(k:Ord->β): fO P k=k P:=by unfold fO;rw[F'v J'O,D'U]
def fII (x:Int×Int)(k:Int×Int->β): β:=fI x.1 λa=>fI x.2 λb=>k (a,b)
theorem T'Q (x:Int×Int)(k:Int×Int->β): fII x k=k x:=by unfold fII;rw[J'O,J'O]
def arF (gs:List GaL): Nat->Ord->List (Int×Int)->Except Nat (Ord×List (Int×Int))
 | 0,P,T=>.ok (P,T)
 | m+1,P,T=>
  match gs[(frL P gs 0).toNat]? with
  | some g=>if frL P gs 0 = -1 then .error (fuL P gs) else fO (P.lay g.g.l) λP'=>fII (H'K P g) λy=>arF gs m P' (T++[y])
  | none=>.error (fuL P gs)
theorem T'R (gs:List GaL): ∀(m:Nat)(P:Ord)(T:CkT),arL gs m P T=match arF gs m P T.gts with | .error q=>.error q | .ok (P',l)=>.ok (P',{ T with gts:=l }):=by
 intro m
 induction m with
 | zero=>intro P T;rfl
 | succ m ih=>
  intro P T;simp only[arL,arF]
  cases gs[(frL P gs 0).toNat]? with
  | none=>rfl
  | some g=>
   simp only
   by_cases hf:frL P gs 0 = -1
   ·rw[if_pos hf,if_pos hf]
   ·rw[if_neg hf,if_neg hf,T'P,T'Q,ih]
def asF (N:Net): Except Nat CkT:=
 fO (nwS N) λP0=>match arF N.gates N.gates.length P0 []with
 | .error q=>.error q
 | .ok (P,l)=>.ok ⟨N.ins.length,N.las.map λx=>(P.lit x.n.l,x.z),l,P.lit (D'X N)⟩
theorem T'S (N:Net): asF N=arS N:=by
 unfold asF arS;rw[T'P,T'R];simp only
 cases arF N.gates N.gates.length (nwS N) []with
 | error q=>rfl
 | ok x=>rfl
def r3F (X:Net×RS)(R3:RS): Except (Nat×Nat) CkT:=
 if R3.e=0 then
  match asF X.1 with
  | .error q=>.error (12,q)
  | .ok T=>.ok T
 else .error (R3.e,R3.ep)
theorem T'T (X:Net×RS)(R:RS): r3F X R=rd3 X R:=by
 unfold r3F rd3;rw[T'S];rfl
def r2F (w n:Nat)(D:HD)(s:ByteArray)(R1:RS): Except (Nat×Nat) CkT:=
 if D.bin=true then rd2 D s R1 else
 fP (itF (F's s) 0 D.nin (J'k D.top,R1)) λx=>fP (itF (U'd w n s) 0 D.nla x) λx=>fP (prF s D x) λx=>fP (itF (pgQ w n s) 0 D.nan x) λx=>r3F x (juS x.1 (G'H D s x.2))
theorem T'U (W:Cod w n s)(D:HD)(R1:RS): r2F w n D s R1=rd2 D s R1:=by
 unfold r2F;split
 ·rfl
 ·rename_i hb
  rw[G's,G's,G's,G's];rw[M'd W,O'S W];simp only[O'T];rw[T'T];unfold rd2 G'v rpS;rw[if_neg hb]
def rF (s:ByteArray): Except (Nat×Nat) CkT:=
 fN (M'n s.data.toList) λw=>fN s.data.toList.length λn=>
 if 1000<s.size then .error (1,0) else
 let a:=hdS s ⟨0,0,0⟩
 fB a.1 λb=>fL fN a.2.1 λns=>fRS a.2.2 λR=>
 let R1:=jdS (hdD b ns) R
 if R1.e=0 then fRS R1 λR1=>r2F w n (hdD b ns) s R1 else .error (R1.e,R1.ep)
theorem U'F (s:ByteArray): rF s=rdS s:=by
 unfold rF rdS;rw[D'U,D'U];split
 ·rfl
 ·simp only;rw[R'J,F'v D'U,E'A];split
  ·rw[E'A,T'U (L'8 s)]
  ·rfl
def U'G (s:ByteArray): Bool:=
 fN (M'n s.data.toList) λw=>fN s.data.toList.length λn=>
 let a:=hdS s ⟨0,0,0⟩
 fB a.1 λb=>fL fN a.2.1 λns=>fRS a.2.2 λR=>fRS (jdS (hdD b ns) R) λR1=>!b &&
 fP (itF (F's s) 0 (hdD b ns).nin (J'k (hdD b ns).top,R1)) λx=>fP (itF (U'd w n s) 0 (hdD b ns).nla x) λx=>fP (prF s (hdD b ns) x) λx=>fP (itF (pgQ w n s) 0 (hdD b ns).nan x) λx=>Nat.ble n x.2.pos
theorem R'M {s:ByteArray}(h:U'G s=true): Asc s:=by
 unfold U'G at h;rw[D'U,D'U]at h;simp only at h;rw[R'J,F'v D'U,E'A,E'A,l'k,G's,G's,G's,G's,M'd (L'8 s),O'S (L'8 s),Nat.ble_eq]at h;simp only[O'T]at h;have h1:(hdS s ⟨0,0,0⟩).1=false:=by simpa using h.1
 refine⟨h1,λD hD h2=>?_⟩;have hb:¬D.bin=true:=by rw[hD];simp only[hdD,h1];simp
 have h3:=h.2;rw[<-hD]at h3;unfold G'v rpS at h2;rw[if_neg hb]at h2;have hz:s.data.toList.length=s.size:=rfl;omega
def fU (u:UInt8)(k:UInt8->β): β:=fN u.toNat λn=>k (UInt8.ofNat n)
theorem U'H (u:UInt8)(k:UInt8->β): fU u k=k u:=by unfold fU;rw[D'U,UInt8.ofNat_toNat]
def fS (s:ByteArray)(k:ByteArray->β): β:=fL fU s.data.toList λl=>k ⟨⟨l⟩⟩
theorem U'I (s:ByteArray)(k:ByteArray->β): fS s k=k s:=by unfold fS;rw[F'v U'H]
def rdQ (s:ByteArray)(N:Ck): Bool:=fS s λs=>(match rF s with | .ok T=>ckB T (ckT N) | .error _=>false)&&U'G s
theorem T'V {s:ByteArray}{N:Ck}(h:rdQ s N=true): rdS s = .ok (ckT N)∧Asc s:=by
 unfold rdQ at h;rw[U'I,U'F,l'k]at h;exact⟨T'H h.1,R'M h.2⟩
end
end Go.Proofs.YtimdkminagnhgaaGreatDoor
namespace Go.Ta
variable {la kk:Nat}{r:List Nat}
theorem T'W (σ:Nat->Bool)(v kk j:Nat): tr σ (2*v+(1-kk/2^j%2))=(σ v==kk.testBit j):=by
 rw[C'J]
 cases hb:kk.testBit j
 ·simp only[l'y,if_false,Nat.sub_zero,O'R];cases σ v <;> rfl
 ·simp only[if_true,Nat.sub_self,Nat.add_zero,D'T];cases σ v <;> rfl
end Go.Ta
namespace Go.Proofs.YtimdkminagnhgaaGreatDoor
open Go.Vm Go.Proofs Go.Ta
end Go.Proofs.YtimdkminagnhgaaGreatDoor
namespace Go.Proofs.YtimdkminagnhgaaGreatDoor
open Go.Vm Go.Proofs Go.Ta
set_option maxHeartbeats 4000000
section
variable {H:Type}{O:HI H}{ro:Nat}{c:A'Z H}
attribute [local simp] A'a A'b reg to too A'd A'q A'h mv' nl' fl' ld' ln' mk' ia' ik' ix' B'I B'J aLd B'h A'w A'4 aUn unA ev A'l isB A'0 A'E A'F A'G A'H A'I A'J A'K A'L A'M cIf A'B A'f A'g aSt A'N A't A'O A'P A'Q A'9 A'R A'u A'S A'T B'a A'U A'v A'V A'W A'X B'b A'p Instr.fill A'e A'n A'x A'j ptr undef B'p B'y A'k B'u A's A'D B'C A'y B'q rangeA B'T A'r A'3 A'z B'd A'm A'o chk
variable {w w':Own}{h h':H}{p:Nat}{X:Nt}{vg vn vr:Value}
attribute [local simp] D'h H'x A'7 J'd C'k D'n C'h
end
end Go.Proofs.YtimdkminagnhgaaGreatDoor
