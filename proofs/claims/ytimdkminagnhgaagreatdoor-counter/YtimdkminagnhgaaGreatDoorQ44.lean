import Derived.Test.YtimdkminagnhgaaGreatDoorQ43
import Derived.KernelRfl
import Derived.Test.YtimdkminagnhgaaGreatDoorQ09
set_option linter.all false
namespace Go.Ta
theorem V'O {N:Ck}(h:N.ni=0)(st inp:Nat): nxt N st inp=nxt N st 0∧L'S N st inp=L'S N st 0:=by
 have:val N st inp=val N st 0:=by
  unfold val F'u;rw[h];rfl
 unfold nxt L'S;rw[this];exact⟨rfl,rfl⟩
end Go.Ta
namespace Go.Proofs.YtimdkminagnhgaaGreatDoor
open Go.Vm Go.Proofs Go.Ta
set_option maxHeartbeats 4000000
section
variable {H:Type}{O:HI H}{ro:Nat}{c:A'Z H}
attribute [local simp] A'a A'b reg to too A'd A'q A'h mv' nl' fl' ld' ln' mk' ia' ik' ix' B'F B'G aLd B'h A'w A'4 aUn unA ev A'l isB A'0 A'E A'F A'G A'H A'I A'J A'K A'L A'M cIf A'B A'f A'g aSt A'N A't A'O A'P A'Q A'9 A'R A'u A'S A'T B'a A'U A'v A'V A'W A'X B'b A'p Instr.fill A'e A'n A'x A'j ptr undef B'o B'y A'k B's A's A'D B'C A'y B'p rangeA B'O A'r A'2 A'z B'd A'm A'o chk
variable {w w':Own}{h h':H}{q:Nat}{S:Srch}{bW bH bV:Nat}{vA vC vT vS vK:Value}{lv wv:List Value}
attribute [local simp] D'j H'7 B'c J'K C'l D'I C'f
theorem O'J (C:LP' O ro c)(a:Int)(ha:I64 a)(n:Nat)(hn:0<n): ∃k:Nat,k<n∧∀h,c 33 [.int .i64 a,ni n] h=some (ni k,h):=by
 obtain⟨ha1,ha2⟩:=ha;have key:∀x:Int,0<=x->∃k:Nat,k<n∧C'k .rem .i64 x (n:Int)=some (.int .i64 (k:Int)):=by
  intro x hx;refine⟨x.toNat%n,Nat.mod_lt _ hn,?_⟩;have hb:(n:Int)≠0:=by omega
  obtain⟨m,rfl⟩:∃m:Nat,x=m:=⟨x.toNat,by omega⟩;simp only[C'k,if_neg hb,Int.ofNat_tmod,Int.toNat_natCast]
 by_cases h0:a<0
 ·have w1:IntKind.i64.wrap (a+1)=a+1:=w'j;have w2:IntKind.i64.wrap (0-(a+1)) = -(a+1):=w'i;have w2':IntKind.i64.wrap (-(a+1)) = -(a+1):=w'j;obtain⟨k,hk,e⟩:=key (-(a+1)) (by omega);refine⟨k,hk,λh=>C.eq (O'C O ro) rfl rfl (f'f ?_)⟩;generalize hx:-(a+1)=x at *;simp[F33,ZpF,ZpG,ZpH,ZpI,A'1,A'i,rvE,h0,w1,w2,w2',hx,e]
 ·obtain⟨k,hk,e⟩:=key a (by omega);refine⟨k,hk,λh=>C.eq (O'C O ro) rfl rfl (f'f ?_)⟩;simp[F33,ZpF,ZpG,ZpI,A'1,A'i,rvE,h0,e]
def ckB (T T':CkT): Bool:=decide (T.ni=T'.ni)&&decide (T.las=T'.las)&&decide (T.gts=T'.gts)&&decide (T.bad=T'.bad)
theorem T'E {T T':CkT}(h:ckB T T'=true): T=T':=by
 unfold ckB at h;simp only[l'k,l'M]at h;obtain⟨⟨⟨a,b⟩,c⟩,d⟩:=h
 cases T;cases T'
 simp_all
end
end Go.Proofs.YtimdkminagnhgaaGreatDoor
namespace Go.Ta
def row (pre:List Nat)(f:Nat->Nat)(m k:Nat): List Nat:=pre++((List.range k).map f++List.replicate (m-k) 0)
theorem R'E {pre:List Nat}{f:Nat->Nat}{m k:Nat}(h:k<=m): (row pre f m k).length=pre.length+m:=by simp[row];omega
theorem R'F {pre:List Nat}{f:Nat->Nat}{m k:Nat}(h:k<m): (row pre f m k).set (pre.length+k) (f k)=row pre f m (k+1):=by
 unfold row;rw[List.set_append_right _ _ (by omega),Nat.add_sub_cancel_left,List.set_append_right _ _ (by simp),l'B,List.map_append,List.length_map,List.length_range,Nat.sub_self];obtain⟨n,hn⟩:∃n,m-k=n+1:=⟨m-k-1,by omega⟩;rw[hn,show m-(k+1)=n by omega,List.replicate_succ];simp
variable {i m c:Nat}
end Go.Ta
namespace Go.Proofs.YtimdkminagnhgaaGreatDoor
open Go.Vm Go.Proofs Go.Ta
section
variable {H:Type}{O:HI H}{ro:Nat}{c:A'Z H}{w w':Own}{h h':H}{p:Nat}{X:Nt}{vg vn vr:Value}
theorem NT.setN (L:O.Law)(x:NT O ro w h p X vg vn vr){o:Nat}(ho:o<X.next.length)(z:Nat): ∃b q g,O.cell h p 3=some (.slice (some ⟨b,0,some 1⟩) X.next.length q)∧¬b<ro∧A'8 O h b o [ni z]=some g∧NT O ro w g p { X with next:=X.next.set o z } vg vn vr:=by
 obtain⟨b,q,e,hq,y⟩:=x.sn.blk (by omega) X.next.length (by simp) (by omega)
 have hl:o<(X.next.map ni).length:=by simpa using ho
 have c2:=Ch.put L (K:=λu=>u=((17,2):Tag)) y o hl (ni z) rfl;have y2:=y.put L o hl (ni z);rw[<-List.map_set]at y2;obtain⟨v0,hv0⟩:∃v0,(X.next.map ni)[o]?=some v0:=⟨_,l'c hl⟩;have m3:=x.m.get 3 _ rfl;refine⟨b,q,_,by rw[<-e];exact m3,by have:=y.lo;omega,A'C (y.get o v0 hv0),x.m.ch L c2,x.sg.ch L c2,?_,x.sr.ch L c2,l'G x.lo c2.nx⟩;rw[e];exact .inr ⟨b,X.next.length,q,rfl,hq,by simp,y2⟩
theorem NT.setB (L:O.Law)(x:NT O ro w h p X vg vn vr)(z:Nat): ∃g,¬p<ro∧A'8 O h p 5 [ni z]=some g∧NT O ro w g p { X with bad:=z } vg vn vr:=by
 have c5:=Ch.put L (K:=λu=>u=((17,0):Tag)) x.m 5 (by simp) (ni z) rfl;exact⟨_,by have:=x.m.lo;omega,A'C (x.m.get 5 _ rfl),x.m.put L 5 (by simp) (ni z),x.sg.ch L c5,x.sn.ch L c5,x.sr.ch L c5,l'G x.lo c5.nx⟩
end
end Go.Proofs.YtimdkminagnhgaaGreatDoor
namespace Go.Proofs.YtimdkminagnhgaaGreatDoor
open Go.Vm Go.Proofs Go.Ta
section
variable {α β γ:Type}
def fN (n:Nat)(k:Nat->β): β:=match n with|0=>k 0|m+1=>k (m+1)
theorem C'y (n:Nat)(k:Nat->β): fN n k=k n:=by cases n <;> rfl
def fI (i:Int)(k:Int->β): β:=match i with | .ofNat n=>fN n λm=>k (.ofNat m) | .negSucc n=>fN n λm=>k (.negSucc m)
theorem J'H (i:Int)(k:Int->β): fI i k=k i:=by cases i <;> exact C'y _ λm=>k _
def fB (b:Bool)(k:Bool->β): β:=match b with|false=>k false|true=>k true
theorem R'G (b:Bool)(k:Bool->β): fB b k=k b:=by cases b <;> rfl
def fL (f:α->(α->β)->β): List α->(List α->β)->β
 | [],k=>k []
 | a :: l,k=>f a λa'=>fL f l λl'=>k (a' :: l')
theorem D'Z {f:α->(α->β)->β}(h:∀a k,f a k=k a)(l:List α): ∀k,fL f l k=k l:=by
 induction l with
 | nil=>intro k;rfl
 | cons a l ih=>intro k;exact (h a _).trans (ih _)
def fUs (u:Us)(k:Us->β): β:=fI u.l λa=>fN u.p λb=>k ⟨a,b⟩
theorem E'y (u:Us)(k:Us->β): fUs u k=k u:=by unfold fUs;rw[J'H,C'y]
def fLa (u:LaL)(k:LaL->β): β:=fI u.l λa=>fUs u.n λb=>fN u.z λc=>k ⟨a,b,c⟩
theorem T'F (u:LaL)(k:LaL->β): fLa u k=k u:=by unfold fLa;rw[J'H,E'y,C'y]
def fGa (u:GaL)(k:GaL->β): β:=fUs u.g λa=>fUs u.a λb=>fUs u.b λc=>k ⟨a,b,c⟩
theorem T'G (u:GaL)(k:GaL->β): fGa u k=k u:=by unfold fGa;rw[E'y,E'y,E'y]
def fRS (R:RS)(k:RS->β): β:=fN R.pos λa=>fN R.e λb=>fN R.ep λc=>k ⟨a,b,c⟩
theorem E'z (u:RS)(k:RS->β): fRS u k=k u:=by unfold fRS;rw[C'y,C'y,C'y]
def fNt (N:Net)(k:Net->β): β:=fL fB N.given λa=>fL fI N.ins λb=>fL fLa N.las λc=>fL fUs N.outs λd=>fL fUs N.bads λe=>fL fGa N.gates λf=>k ⟨a,b,c,d,e,f⟩
theorem T'H (N:Net)(k:Net->β): fNt N k=k N:=by unfold fNt;rw[D'Z R'G,D'Z J'H,D'Z T'F,D'Z E'y,D'Z E'y,D'Z T'G]
def fP (x:Net×RS)(k:Net×RS->β): β:=fRS x.2 λb=>fNt x.1 λa=>k (a,b)
theorem G'q (x:Net×RS)(k:Net×RS->β): fP x k=k x:=by unfold fP;rw[E'z,T'H]
def dgB (b:Nat): Bool:=Nat.ble 48 b&&Nat.ble b 57
theorem H'4 (b:Nat): dgB b=true↔48<=b∧b<=57:=by unfold dgB;rw[l'k,Nat.ble_eq,Nat.ble_eq]
theorem H'5 {s:ByteArray}{R:RS}(he:R.e=0): M'F (pk s R)=dgB (C'E s R.pos):=by
 rw[Bool.eq_iff_iff,H'4];unfold M'F pk
 by_cases hp:R.pos<s.size
 ·rw[if_pos ⟨he,hp⟩];simp only[l'k,l'M];omega
 ·rw[if_neg (λh=>hp h.2)];have:C'E s R.pos=0:=by
   unfold C'E;rw[show s[R.pos]?=none by simp;omega];rfl
  rw[this];decide
theorem T'I {s:ByteArray}{R:RS}(he:R.e=0)(h:dgB (C'E s R.pos)=true): (pk s R).toNat=C'E s R.pos:=by
 rw[H'4]at h;have hp:R.pos<s.size:=by
  rcases Nat.lt_or_ge R.pos s.size with h1|h1
  ·exact h1
  ·have:C'E s R.pos=0:=by
    unfold C'E;rw[show s[R.pos]?=none by simp;omega];rfl
   omega
 unfold pk;rw[if_pos ⟨he,hp⟩,Int.toNat_natCast]
def M'e: List UInt8->Nat
 | []=>0
 | a :: l=>a.toNat+256*M'e l
def bt (w p:Nat): Nat:=w/256^p%256
theorem R'H: ∀(l:List UInt8) (p:Nat),bt (M'e l) p=((l[p]?).map UInt8.toNat).getD 0:=by
 intro l
 induction l with
 | nil=>intro p;simp[M'e,bt]
 | cons a l ih=>
  intro p;have ha:=a.toNat_lt
  cases p with
  | zero=>simp only[M'e,bt,Nat.pow_zero,Nat.div_one,l'w,l'l,Option.getD_some];omega
  | succ p=>
   rw[l'x,<-ih p];unfold bt;rw[Nat.pow_succ,Nat.mul_comm,<-Nat.div_div_eq_div_mul];have:M'e (a :: l)/256=M'e l:=by simp only[M'e];omega
   rw[this]
structure Cod (w n:Nat)(s:ByteArray):Prop where
 b:∀p,C'E s p=bt w p
 z:s.size=n
theorem L'0 (s:ByteArray): Cod (M'e s.data.toList) s.data.toList.length s:=by
 refine⟨λp=>?_,rfl⟩;rw[R'H];unfold C'E;congr 2
 by_cases hp:p<s.size
 ·have hp2:p<s.data.toList.length:=hp;rw[getElem?_pos s p hp,l'c hp2];rfl
 ·have hp2:¬p<s.data.toList.length:=hp;rw[getElem?_neg s p hp,List.getElem?_eq_none (by omega)]
variable {w n:Nat}{s:ByteArray}
def T'1 (w:Nat)(s:ByteArray)(R:RS): Nat×RS:=
 bif Nat.beq R.e 0&&dgB (bt w R.pos) then
  bif dgB (bt w (R.pos+1)) then
   bif Nat.beq (bt w R.pos) 48||dgB (bt w (R.pos+2)) then D'0 s R else (10*(bt w R.pos-48)+bt w (R.pos+1)-48,⟨R.pos+2,R.e,R.ep⟩)
  else (bt w R.pos-48,⟨R.pos+1,R.e,R.ep⟩)
 else D'0 s R
theorem L'1 (W:Cod w n s)(R:RS): T'1 w s R=D'0 s R:=by
 unfold T'1;simp only[<-W.b]
 cases h1:(Nat.beq R.e 0&&dgB (C'E s R.pos)) with
 | false=>rfl
 | true=>
  rw[l'k]at h1;obtain⟨he,ha⟩:=h1;have he:R.e=0:=Nat.eq_of_beq_eq_true he;have ha':=(H'4 _).1 ha;have s1:D'0 s R=numL 4 s R.pos ⟨R.pos+1,R.e,R.ep⟩ (C'E s R.pos-48):=by
   unfold D'0;rw[numL,H'5 he,ha,if_pos rfl,if_neg (by omega),T'I he ha];simp
  have i2:=H'5 (s:=s) (R:=⟨R.pos+1,R.e,R.ep⟩) he
  cases hb:dgB (C'E s (R.pos+1)) with
  | false=>
   simp only[cond_true,cond_false];rw[s1,numL,i2];simp only[hb];rw[if_neg (by simp),if_neg (by omega)]
  | true=>
   simp only[cond_true]
   cases h2:(Nat.beq (C'E s R.pos) 48||dgB (C'E s (R.pos+2))) with
   | true=>rfl
   | false=>
    simp only[cond_false];rw[Bool.or_eq_false_iff]at h2;obtain⟨h48,hc⟩:=h2;have h48:C'E s R.pos≠48:=Nat.ne_of_beq_eq_false h48;have i3:=H'5 (s:=s) (R:=⟨R.pos+2,R.e,R.ep⟩) he;have p2:=T'I (s:=s) (R:=⟨R.pos+1,R.e,R.ep⟩) he hb;rw[s1,numL,i2];simp only[hb];rw[if_pos trivial,if_neg (by omega),p2,numL,i3];simp only[hc];rw[if_neg (by simp),if_neg (by omega)]
def exQ (w n:Nat)(s:ByteArray)(R:RS)(b:Nat): RS:=bif Nat.beq R.e 0&&(Nat.ble (R.pos+1) n&&Nat.beq (bt w R.pos) b) then ⟨R.pos+1,R.e,R.ep⟩ else exS s R b
theorem L'2 (W:Cod w n s)(R:RS)(b:Nat): exQ w n s R b=exS s R b:=by
 unfold exQ;rw[<-W.b,<-W.z]
 cases h1:(Nat.beq R.e 0&&(Nat.ble (R.pos+1) s.size&&Nat.beq (C'E s R.pos) b)) with
 | false=>rfl
 | true=>
  rw[l'k,l'k,Nat.ble_eq]at h1;obtain⟨he,hp,hb⟩:=h1;have he:R.e=0:=Nat.eq_of_beq_eq_true he;have hb:C'E s R.pos=b:=Nat.eq_of_beq_eq_true hb;have hk:pk s R=(b:Int):=by unfold pk;rw[if_pos ⟨he,hp⟩,hb]
  unfold exS;rw[if_pos hk];rfl
def fRP (x:Nat×RS)(k:Nat×RS->β): β:=fN x.1 λa=>fRS x.2 λb=>k (a,b)
theorem L'3 (x:Nat×RS)(k:Nat×RS->β): fRP x k=k x:=by unfold fRP;rw[C'y,E'z]
def fUR (x:Us×RS)(k:Us×RS->β): β:=fUs x.1 λa=>fRS x.2 λb=>k (a,b)
theorem I'T (x:Us×RS)(k:Us×RS->β): fUR x k=k x:=by unfold fUR;rw[E'y,E'z]
def fD (x:Us×Net×RS)(k:Us×Net×RS->β): β:=fUs x.1 λa=>fRS x.2.2 λb=>k (a,x.2.1,b)
theorem T'J (x:Us×Net×RS)(k:Us×Net×RS->β): fD x k=k x:=by unfold fD;rw[E'y,E'z]
def R'S (w:Nat)(N:Net)(s:ByteArray)(R:RS): Us×RS:=fRP (T'1 w s R) λq=>bif Nat.blt (q.1/2) N.given.length then (⟨q.1,R.pos⟩,q.2) else C'j N s R
theorem H'6 (W:Cod w n s)(N:Net)(R:RS): R'S w N s R=C'j N s R:=by
 unfold R'S;rw[L'3,L'1 W]
 cases h:Nat.blt ((D'0 s R).1/2) N.given.length with
 | false=>rfl
 | true=>
  have h1:(D'0 s R).1/2<N.given.length:=Nat.le_of_ble_eq_true h;have hh:N.has ((D'0 s R).1:Int)=true:=by
   unfold Net.has;simp only[l'k,l'M];omega
  unfold C'j;simp only[cond_true];rw[if_pos hh]
def T'2 (w:Nat)(N:Net)(s:ByteArray)(R:RS): Us×Net×RS:=fUR (R'S w N s R) λu=>(u.1,N.give u.1.l,if u.1.l%2=1∨N.isGiven u.1.l=true then fl u.2 8 R.pos else u.2)
theorem L'4 (W:Cod w n s)(N:Net)(R:RS): T'2 w N s R=D'm N s R:=by unfold T'2;rw[I'T,H'6 W];rfl
def rsQ (w:Nat)(own:Int)(s:ByteArray)(R:RS): Nat×RS:=fRP (T'1 w s R) λq=>if q.1=0 then (0,q.2) else if q.1=1 then (1,q.2) else if (q.1:Int)=own then (2,q.2) else (0,fl q.2 9 R.pos)
theorem T'K (W:Cod w n s)(own:Int)(R:RS): rsQ w own s R=rsS own s R:=by unfold rsQ;rw[L'3,L'1 W];rfl
def U'v (w n:Nat)(own:Int)(s:ByteArray)(R:RS): Nat×RS:=bif Nat.beq R.e 0&&(Nat.ble (R.pos+1) n&&Nat.beq (bt w R.pos) 32) then rsQ w own s ⟨R.pos+1,R.e,R.ep⟩ else laZ own s R
theorem R'I (W:Cod w n s)(own:Int)(R:RS): U'v w n own s R=laZ own s R:=by
 unfold U'v
 cases h:(Nat.beq R.e 0&&(Nat.ble (R.pos+1) n&&Nat.beq (bt w R.pos) 32)) with
 | false=>rfl
 | true=>
  rw[l'k,l'k,Nat.ble_eq,<-W.b,<-W.z]at h;obtain⟨he,hp,hb⟩:=h;have he:R.e=0:=Nat.eq_of_beq_eq_true he;have hb:C'E s R.pos=32:=Nat.eq_of_beq_eq_true hb;have hk:pk s R=32:=by unfold pk;rw[if_pos ⟨he,hp⟩,hb];rfl
  unfold laZ;rw[if_pos hk,T'K W];rfl
def laQ (w n:Nat)(N:Net)(s:ByteArray)(R:RS)(own:Int): Net×RS:=fUR (R'S w N s R) λu=>fRP (U'v w n own s u.2) λz=>({ N with las:=N.las++[⟨own,u.1,z.1⟩] },exQ w n s z.2 10)
theorem T'L (W:Cod w n s)(N:Net)(R:RS)(own:Int): laQ w n N s R own=laS N s R own:=by unfold laQ;rw[I'T,L'3,H'6 W,R'I W,L'2 W];rfl
def T'3 (w n:Nat)(s:ByteArray)(_:Nat)(x:Net×RS): Net×RS:=fD (T'2 w x.1 s x.2) λd=>laQ w n d.2.1 s (exQ w n s d.2.2 32) d.1.l
theorem L'5 (W:Cod w n s): T'3 w n s=F'E s:=funext λj=>funext λx=>by unfold T'3 F'E;rw[T'J,T'L W,L'2 W,L'4 W]
def pgQ (w n:Nat)(s:ByteArray)(_:Nat)(x:Net×RS): Net×RS:=fD (T'2 w x.1 s x.2) λd=>fUR (R'S w d.2.1 s (exQ w n s d.2.2 32)) λa=>fUR (R'S w d.2.1 s (exQ w n s a.2 32)) λb=>({ d.2.1 with gates:=d.2.1.gates++[⟨d.1,a.1,b.1⟩] },exQ w n s b.2 10)
theorem O'K (W:Cod w n s): pgQ w n s=H'o s:=funext λj=>funext λx=>by unfold pgQ H'o pgS;rw[T'J,I'T,I'T];simp only[L'4 W,H'6 W,L'2 W]
def itF (f:Nat->Net×RS->Net×RS): Nat->Nat->Net×RS->Net×RS
 | _,0,x=>x
 | j,m+1,x=>fP (f j x) λy=>itF f (j+1) m y
theorem O'L (f:Nat->Net×RS->Net×RS): ∀(m j:Nat)(x:Net×RS),itF f j m x=itK f j m x:=by
 intro m
 induction m with
 | zero=>intro j x;rfl
 | succ m ih=>intro j x;simp only[itF,itK];rw[G'q,ih]
def fO (P:Ord)(k:Ord->β): β:=fL fI P.place λa=>fN P.count λb=>k ⟨a,b⟩
theorem T'M (P:Ord)(k:Ord->β): fO P k=k P:=by unfold fO;rw[D'Z J'H,C'y]
def fII (x:Int×Int)(k:Int×Int->β): β:=fI x.1 λa=>fI x.2 λb=>k (a,b)
theorem T'N (x:Int×Int)(k:Int×Int->β): fII x k=k x:=by unfold fII;rw[J'H,J'H]
def arF (gs:List GaL): Nat->Ord->List (Int×Int)->Except Nat (Ord×List (Int×Int))
 | 0,P,T=>.ok (P,T)
 | m+1,P,T=>
  match gs[(frL P gs 0).toNat]? with
  | some g=>if frL P gs 0 = -1 then .error (fuL P gs) else fO (P.lay g.g.l) λP'=>fII (H'E P g) λy=>arF gs m P' (T++[y])
  | none=>.error (fuL P gs)
theorem T'O (gs:List GaL): ∀(m:Nat)(P:Ord)(T:CkT),arL gs m P T=match arF gs m P T.gts with | .error q=>.error q | .ok (P',l)=>.ok (P',{ T with gts:=l }):=by
 intro m
 induction m with
 | zero=>intro P T;rfl
 | succ m ih=>
  intro P T;simp only[arL,arF]
  cases gs[(frL P gs 0).toNat]? with
  | none=>rfl
  | some g=>
   simp only
   by_cases hf:frL P gs 0 = -1
   ·rw[if_pos hf,if_pos hf]
   ·rw[if_neg hf,if_neg hf,T'M,T'N,ih]
def asF (N:Net): Except Nat CkT:=
 fO (nwS N) λP0=>match arF N.gates N.gates.length P0 []with
 | .error q=>.error q
 | .ok (P,l)=>.ok ⟨N.ins.length,N.las.map λx=>(P.lit x.n.l,x.z),l,P.lit (D'T N)⟩
theorem T'P (N:Net): asF N=arS N:=by
 unfold asF arS;rw[T'M,T'O];simp only
 cases arF N.gates N.gates.length (nwS N) []with
 | error q=>rfl
 | ok x=>rfl
def r3F (X:Net×RS)(R3:RS): Except (Nat×Nat) CkT:=
 if R3.e=0 then
  match asF X.1 with
  | .error q=>.error (12,q)
  | .ok T=>.ok T
 else .error (R3.e,R3.ep)
theorem T'Q (X:Net×RS)(R:RS): r3F X R=rd3 X R:=by
 unfold r3F rd3;rw[T'P];rfl
def r2F (w n:Nat)(D:HD)(s:ByteArray)(R1:RS): Except (Nat×Nat) CkT:=
 if D.bin=true then rd2 D s R1 else
 fP (itF (F'r s) 0 D.nin (J'd D.top,R1)) λx=>fP (itF (T'3 w n s) 0 D.nla x) λx=>fP (prF s D x) λx=>fP (itF (pgQ w n s) 0 D.nan x) λx=>r3F x (juS x.1 (G'D D s x.2))
theorem T'R (W:Cod w n s)(D:HD)(R1:RS): r2F w n D s R1=rd2 D s R1:=by
 unfold r2F;split
 ·rfl
 ·rename_i hb
  rw[G'q,G'q,G'q,G'q];rw[L'5 W,O'K W];simp only[O'L];rw[T'Q];unfold rd2 G'r rpS;rw[if_neg hb]
def rF (s:ByteArray): Except (Nat×Nat) CkT:=
 fN (M'e s.data.toList) λw=>fN s.data.toList.length λn=>
 if 1000<s.size then .error (1,0) else
 let a:=hdS s ⟨0,0,0⟩
 fB a.1 λb=>fL fN a.2.1 λns=>fRS a.2.2 λR=>
 let R1:=jdS (hdD b ns) R
 if R1.e=0 then fRS R1 λR1=>r2F w n (hdD b ns) s R1 else .error (R1.e,R1.ep)
theorem U'w (s:ByteArray): rF s=rdS s:=by
 unfold rF rdS;rw[C'y,C'y];split
 ·rfl
 ·simp only;rw[R'G,D'Z C'y,E'z];split
  ·rw[E'z,T'R (L'0 s)]
  ·rfl
def U'x (s:ByteArray): Bool:=
 fN (M'e s.data.toList) λw=>fN s.data.toList.length λn=>
 let a:=hdS s ⟨0,0,0⟩
 fB a.1 λb=>fL fN a.2.1 λns=>fRS a.2.2 λR=>fRS (jdS (hdD b ns) R) λR1=>!b &&
 fP (itF (F'r s) 0 (hdD b ns).nin (J'd (hdD b ns).top,R1)) λx=>fP (itF (T'3 w n s) 0 (hdD b ns).nla x) λx=>fP (prF s (hdD b ns) x) λx=>fP (itF (pgQ w n s) 0 (hdD b ns).nan x) λx=>Nat.ble n x.2.pos
theorem R'J {s:ByteArray}(h:U'x s=true): Asc s:=by
 unfold U'x at h;rw[C'y,C'y]at h;simp only at h;rw[R'G,D'Z C'y,E'z,E'z,l'k,G'q,G'q,G'q,G'q,L'5 (L'0 s),O'K (L'0 s),Nat.ble_eq]at h;simp only[O'L]at h;have h1:(hdS s ⟨0,0,0⟩).1=false:=by simpa using h.1
 refine⟨h1,λD hD h2=>?_⟩;have hb:¬D.bin=true:=by rw[hD];simp only[hdD,h1];simp
 have h3:=h.2;rw[<-hD]at h3;unfold G'r rpS at h2;rw[if_neg hb]at h2;have hz:s.data.toList.length=s.size:=rfl;omega
def fU (u:UInt8)(k:UInt8->β): β:=fN u.toNat λn=>k (UInt8.ofNat n)
theorem U'y (u:UInt8)(k:UInt8->β): fU u k=k u:=by unfold fU;rw[C'y,UInt8.ofNat_toNat]
def fS (s:ByteArray)(k:ByteArray->β): β:=fL fU s.data.toList λl=>k ⟨⟨l⟩⟩
theorem U'z (s:ByteArray)(k:ByteArray->β): fS s k=k s:=by unfold fS;rw[D'Z U'y]
end
end Go.Proofs.YtimdkminagnhgaaGreatDoor
namespace Go.Ta
variable {la kk:Nat}{r:List Nat}
def isG (inn la g0 kk j:Nat): List Nat:=(List.range j).flatMap λt=>[if t=0 then 1 else 2*(inn+la+g0+t),2*(1+inn+t)+(1-kk/2^t%2)]
def isV (inn la g0 j:Nat): Nat:=if j=0 then 1 else 2*(inn+la+g0+j)
theorem I'U (inn la g0 kk j:Nat): isG inn la g0 kk (j+1)=isG inn la g0 kk j++[isV inn la g0 j,2*(1+inn+j)+(1-kk/2^j%2)]:=by
 unfold isG isV;rw[l'B,List.flatMap_append];simp
theorem L'6 (inn la g0 kk:Nat): ∀j,(isG inn la g0 kk j).length=2*j:=by
 intro j
 induction j with
 | zero=>rfl
 | succ j ih=>rw[I'U,l'p,ih];simp;omega
end Go.Ta
namespace Go.Proofs.YtimdkminagnhgaaGreatDoor
open Go.Vm Go.Proofs Go.Ta
end Go.Proofs.YtimdkminagnhgaaGreatDoor
namespace Go.Proofs.YtimdkminagnhgaaGreatDoor
open Go.Vm Go.Proofs Go.Ta
set_option maxHeartbeats 4000000
section
variable {H:Type}{O:HI H}{ro:Nat}{c:A'Z H}
attribute [local simp] A'a A'b reg to too A'd A'q A'h mv' nl' fl' ld' ln' mk' ia' ik' ix' B'F B'G aLd B'h A'w A'4 aUn unA ev A'l isB A'0 A'E A'F A'G A'H A'I A'J A'K A'L A'M cIf A'B A'f A'g aSt A'N A't A'O A'P A'Q A'9 A'R A'u A'S A'T B'a A'U A'v A'V A'W A'X B'b A'p Instr.fill A'e A'n A'x A'j ptr undef B'o B'y A'k B's A's A'D B'C A'y B'p rangeA B'O A'r A'2 A'z B'd A'm A'o chk
variable {w w':Own}{h h':H}{p:Nat}{X:Nt}{vg vn vr:Value}
attribute [local simp] D'j H'7 B'c J'K C'l D'I C'f
def isX (X:Nt)(g0 kk j:Nat): Nt:={ X with gates:=X.gates++isG X.inn X.la g0 kk j }
def IsI (O:HI H)(ro:Nat)(p:Nat)(X:Nt)(g0 kk:Nat)(vn vr:Value)(n:Nat)(t:Env)(g:H): Prop:=
 t 0 = .pointer (some ⟨p,0,none⟩)∧t 1=ni kk∧∃j vg w1,t 6=ni j∧j+n=X.la∧t 5=ni (isV X.inn X.la g0 j)∧NT O ro w1 g p (isX X g0 kk j) vg vn vr
theorem U'A (C:LP' O ro c)(L:O.Law){g0 kk n:Nat}(hi:X.inn<=100)(hla:X.la<=60)(hg:X.gates.length=2*g0)(hg0:g0<=100)(hkk:kk<1000000){t:Env}{g:H}(I:IsI O ro p X g0 kk vn vr n t g):
  okE c (N'I O Tryz.prog ro) (t,g) (λe t' g'=>(e = .normal∧∃n',n'<n∧IsI O ro p X g0 kk vn vr n' t' g')∨(e≠.normal∧(A'j 0 e = .normal∧t' 5=ni (isV X.inn X.la g0 X.la)∧∃vg w1,NT O ro w1 g' p (isX X g0 kk X.la) vg vn vr))):=by
 obtain⟨d0,d1,j,vg,w1,d6,hjn,d5,x⟩:=I;have m1:O.cell g p 1=some (ni X.la):=x.m.get 1 _ rfl
 cases n with
 | zero=>
  have hj:j=X.la:=by omega
  subst hj;refine f'f ?_;simp[N'I,Zp0,d0,d6,m1];exact⟨d5,vg,w1,x⟩
 | succ n=>
  have hj:j<X.la:=by omega
  have hj':(j:Int)<X.la:=by omega
  have e1:=H'R C L x hi (j:=j) (by omega);have hin:(isX X g0 kk j).inn=X.inn:=rfl;rw[hin]at e1;obtain⟨z,hz⟩:=e' (2*(1+X.inn+j));rw[<-hz]at e1;have hx1:=B'P z (by omega);have hz1:z ^^^ 1=z+1:=by rw[F'i,if_pos (by omega)]
  rw[hz1]at hx1;have s1:=G'e kk j (by omega);have hdv:kk/2^j<=kk:=Nat.div_le_self _ _;have a1:=C'r (kk/2^j) (by omega);have hb2:=Nat.mod_lt (kk/2^j) (show 0<2 by omega);have hx2:=H'N (z+1) (kk/2^j%2) (by omega) (by omega);have hz2:(z+1) ^^^ (kk/2^j%2)=z+(1-kk/2^j%2):=by
   rcases (show kk/2^j%2=0∨kk/2^j%2=1 by omega) with h|h
   ·rw[h];simp
   ·rw[h,F'i,if_neg (by omega)];omega
  rw[hz2]at hx2;obtain⟨vg2,g2,w2,e2,x2,-⟩:=L'j C L x hi (show X.la<=100 by omega) (by show (X.gates++isG X.inn X.la g0 kk j).length<=1000;rw[l'p,L'6,hg];omega) (isV X.inn X.la g0 j) (z+(1-kk/2^j%2));have hv:2*((isX X g0 kk j).inn+(isX X g0 kk j).la+((isX X g0 kk j).gates.length+2)/2)=isV X.inn X.la g0 (j+1):=by
   show 2*(X.inn+X.la+((X.gates++isG X.inn X.la g0 kk j).length+2)/2) = _;rw[l'p,L'6,hg];unfold isV;rw[if_neg (by omega)];omega
  rw[hv]at e2;have x3:NT O ro w2 g2 p (isX X g0 kk (j+1)) vg2 vn vr:=by
   unfold isX;rw[I'U,<-List.append_assoc,<-hz];exact x2
  have hwi:=w'1 j;obtain⟨j',hj2⟩:=e' (j+1);rw[<-hj2]at hwi x3 e2;generalize z+(1-kk/2^j%2)=zz at *;generalize kk/2^j%2=bb at *;generalize kk/2^j=kj at *;obtain⟨z1,hzz⟩:=e' (z+1);rw[<-hzz]at hx1 hx2;generalize isV X.inn X.la g0 j=v0 at *;generalize hvv:isV X.inn X.la g0 j'=v1 at e2;unfold ptr at e1 e2;refine f'f ?_;simp[N'I,Zp0,Zp1,Zp2,Zp3,d0,d1,d5,d6,m1,hj,hj',e1,hx1,s1,a1,hx2,e2,hwi];exact⟨n,by omega,by simp[d0],by simp[d1],j',vg2,w2,by simp,by omega,by simp[hvv],x3⟩
theorem W'd (C:LP' O ro c)(L:O.Law){g0 kk:Nat}(x:NT O ro w h p X vg vn vr)(hi:X.inn<=100)(hla:X.la<=60)(hg:X.gates.length=2*g0)(hg0:g0<=100)(hkk:kk<1000000):
  ∃vg' h' w',c 38 [ptr p,ni kk] h=some (ni (isV X.inn X.la g0 X.la),h')∧NT O ro w' h' p (isX X g0 kk X.la) vg' vn vr:=by
 have key:∃u h',c 38 [ptr p,ni kk] h=some (u,h')∧(u=ni (isV X.inn X.la g0 X.la)∧∃vg w1,NT O ro w1 h' p (isX X g0 kk X.la) vg vn vr):=by
  refine C.fn (T'm O ro) rfl rfl ?_;unfold F38;refine s'f ?_;simp[ZpX,A'c];refine s'f ?_;simp[ZpY,A'c];refine okE.seq (s'f ?_);simp[ZpZ,A'c];refine okE.blk ?_;have x0:NT O ro w h p (isX X g0 kk 0) vg vn vr:=by
   unfold isX;have:X.gates++isG X.inn X.la g0 kk 0=X.gates:=by simp[isG]
   rw[this];exact x
  refine okE.mono (okE.loop (Q:=λe t' g'=>A'j 0 e = .normal∧t' 5=ni (isV X.inn X.la g0 X.la)∧∃vg w1,NT O ro w1 g' p (isX X g0 kk X.la) vg vn vr) (IsI O ro p X g0 kk vn vr) (λn t g I=>U'A C L hi hla hg hg0 hkk I) X.la _ _ ⟨by simp,by simp,0,vg,w,by simp,by omega,by simp[isV],x0⟩) ?_;rintro e t g ⟨hr,d5,vg2,w2,x2⟩;rw[hr];simp only[A'c];refine f'f ?_;simp[Zp4,d5,A'1,A'i,rvE];exact⟨vg2,w2,x2⟩
 obtain⟨u,h',e1,rfl,vg2,w2,x2⟩:=key;exact⟨vg2,h',w2,e1,x2⟩
end
end Go.Proofs.YtimdkminagnhgaaGreatDoor
