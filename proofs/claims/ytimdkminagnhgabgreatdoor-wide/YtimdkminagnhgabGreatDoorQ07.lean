import Derived.Test.YtimdkminagnhgabGreatDoorQ05
import Derived.Test.YtimdkminagnhgabGreatDoorQ06
import Derived.Laws.Wrap64
set_option linter.all false
namespace Go.Proofs.YtimdkminagnhgabGreatDoor
open Go.Vm Go.Proofs
set_option maxHeartbeats 1000000
def okS (f:FuncId): Bool:=decide (3<=f)&&decide (f<=233)
abbrev LP' {H:Type}(O:HI H)(ro:Nat)(c:A'X H):Prop:=Lim Tryz.prog O ro okS c
theorem B'J {x:Int}(h1:-9223372036854775808<=x)(h2:x<=9223372036854775807): IntKind.i64.wrap x=x:=by
 rw[IntKind.wrap_i64];omega
theorem w'i {x y:Int}(h:x=y:=by omega)(a:-9223372036854775808<=x:=by omega)(b:x<=9223372036854775807:=by omega):IntKind.i64.wrap x=y:=by rw[B'J a b];exact h
theorem w'j {x:Int}(a:-9223372036854775808<=x:=by omega)(b:x<=9223372036854775807:=by omega):IntKind.i64.wrap x=x:=B'J a b
theorem w'1 (x:Nat)(h:x<9223372036854775807:=by omega):IntKind.i64.wrap ((x:Int)+1)=((x+1:Nat):Int):=w'i
section
variable {H:Type}{O:HI H}{ro:Nat}{c:A'X H}
def Fr (O:HI H)(S:List Nat)(h h':H): Prop:=O.next h<=O.next h'∧∀b,b<O.next h->b∉S->(∀o,O.cell h' b o=O.cell h b o)∧O.alive h' b=O.alive h b
theorem Fr.refl (S:List Nat)(h:H): Fr O S h h:=⟨l'H _,λ_ _ _=>⟨λ_=>rfl,rfl⟩⟩
theorem Fr.trans {S:List Nat}{a b d:H}(h1:Fr O S a b)(h2:Fr O S b d): Fr O S a d:=
 ⟨l'G h1.1 h2.1,λx hx hs=>⟨λo=>((h2.2 x (Nat.lt_of_lt_of_le hx h1.1) hs).1 o).trans ((h1.2 x hx hs).1 o),((h2.2 x (Nat.lt_of_lt_of_le hx h1.1) hs).2).trans (h1.2 x hx hs).2⟩⟩
theorem Fr.mono {S T:List Nat}{a b:H}(h:Fr O S a b)(hs:∀x∈S,x∈T): Fr O T a b:=
 ⟨h.1,λx hx ht=>h.2 x hx λhm=>ht (hs x hm)⟩
theorem Fr.put (L:O.Law){S:List Nat}{h:H}{b o:Nat}{v x:Value}(hb:b∈S)(hc:O.cell h b o=some x): Fr O S h (O.put h b o v):=by
 refine⟨by rw[L.next_put];exact l'H _,λk hk hs=>⟨λo'=>?_,L.alive_put _ _ _ _ _⟩⟩;rw[L.cell_put _ _ _ _ _ hc,if_neg];rintro⟨rfl,_⟩;exact hs hb
theorem Fr.new (L:O.Law){S:List Nat}{h:H}(cs:List Value): Fr O S h (O.new h cs):=by
 refine⟨by rw[L.next_new];omega,λk hk hs=>⟨λo'=>?_,?_⟩⟩
 ·rw[L.cell_new,if_neg (by omega)]
 ·rw[L.alive_new,if_neg (by omega)]
structure RS where
 pos:Nat
 e:Nat
 ep:Nat
structure Rd (O:HI H)(h:H) (r:Nat)(s:ByteArray)(R:RS):Prop where
 c0:O.cell h r 0=some (.string s)
 c1:O.cell h r 1=some (.int .i64 R.pos)
 c2:O.cell h r 2=some (.int .i64 R.e)
 c3:O.cell h r 3=some (.int .i64 R.ep)
theorem Rd.lt (L:O.Law){h:H}{r:Nat}{s:ByteArray}{R:RS}(d:Rd O h r s R): r<O.next h:=L.alive_lt _ _ (L.cell_alive _ _ _ _ d.c0)
theorem Rd.fr (L:O.Law){S:List Nat}{h h':H}{r:Nat}{s:ByteArray}{R:RS}(d:Rd O h r s R)(f:Fr O S h h')(hr:r∉S): Rd O h' r s R:=by
 have:=(f.2 r (d.lt L) hr).1;exact⟨by rw[this];exact d.c0,by rw[this];exact d.c1,by rw[this];exact d.c2,by rw[this];exact d.c3⟩
def ptr (b:Nat): Value:=.pointer (some ⟨b,0,none⟩)
def G'u (s:ByteArray)(p:Nat): Nat:=((s[p]?).map UInt8.toNat).getD 0
def pk (s:ByteArray)(R:RS): Int:=if R.e=0∧R.pos<s.size then (G'u s R.pos:Int) else -1
def fl (R:RS)(e p:Nat): RS:=if R.e=0 then ⟨R.pos,e,p⟩ else R
def I'J (b:Int): Bool:=decide (48<=b)&&decide (b<=57)
def numL: Nat->ByteArray->Nat->RS->Nat->Nat×RS
 | 0,_,_,R,_=>(0,R)
 | n+1,s,st,R,v=>
  if I'J (pk s R) then
   if R.pos-st=4∨(0<R.pos-st∧v=0) then (0,fl R 2 R.pos)
   else numL n s st ⟨R.pos+1,R.e,R.ep⟩ (10*v+(pk s R).toNat-48)
  else (v,if R.pos=st then fl R 2 R.pos else R)
attribute [local simp] A'b A'c reg to too A'a A'n A'i mv' nl' fl' ld' ln' mk' ia' ik' ix' B'C B'D aLd A'5 A'q A'7 A'3 A'2 aUn unA ev A'k isB A'Z C'f cIf A'y A'f A'g A'L A'h rvE B'j aSt A'6 Value.cells B'f A'l Instr.fill A'e A'r
theorem E'g (C:LP' O ro c){h:H}{r:Nat}{s:ByteArray}{R:RS}(d:Rd O h r s R)(hs:s.size<=1000): c 65 [ptr r] h=some (.int .i64 (pk s R),h):=by
 refine C.eq (O'Y O ro) rfl rfl (f'f ?_);obtain⟨c0,c1,c2,c3⟩:=d;unfold ptr pk
 by_cases he:R.e=0
 ·by_cases hp:R.pos<s.size
  ·have d1:¬((R.pos:Int)<0):=by omega
   have d2:¬((s.size:Int)<=R.pos):=by omega
   have hb:s[R.pos]?=some s[R.pos]:=ByteArray.getElem?_lt' s R.pos hp;have hw:IntKind.i64.wrap (s[R.pos].toNat:Int)=(s[R.pos].toNat:Int):=B'J (by omega) (by have:=s[R.pos].toNat_lt;omega);simp[F65,Zcm,Zcn,Zco,Zcp,c0,c1,c2,he,d1,d2,hb,hp,G'u,hw]
  ·have d1:¬((R.pos:Int)<0):=by omega
   have d2:((s.size:Int)<=R.pos):=by omega
   simp[F65,Zcm,Zcn,Zco,Zcp,c0,c1,c2,he,d1,d2,hp]
 ·have d0:((R.e:Int) != 0)=true:=by simp;omega
  simp[F65,Zcm,Zcn,Zco,Zcp,c0,c1,c2,he,d0]
theorem C'F (C:LP' O ro c)(h:H)(b:Int): c 113 [.int .i64 b] h=some (.bool (I'J b),h):=by
 refine C.eq (M'R O ro) rfl rfl (f'f ?_);unfold I'J
 by_cases h1:48<=b <;> by_cases h2:b<=57 <;> simp[R'J,Zed,Zee,h1,h2]
theorem C't (C:LP' O ro c)(L:O.Law){h:H}{r:Nat}{s:ByteArray}{R:RS}(d:Rd O h r s R)(hr:ro<=r)(e p:Nat):
  ∃h',c 67 [ptr r,.int .i64 e,.int .i64 p] h=some (.tuple #[],h')∧Rd O h' r s (fl R e p)∧Fr O [r] h h':=by
 have hro:¬r<ro:=by omega
 by_cases he:R.e=0
 ·obtain⟨c0,c1,c2,c3⟩:=d;have k1:O.cell (O.put h r 2 (.int .i64 e)) r 3=some (.int .i64 R.ep):=by rw[L.cell_put _ _ _ _ _ c2];simp[c3]
  refine⟨O.put (O.put h r 2 (.int .i64 e)) r 3 (.int .i64 p),?_,?_,?_⟩
  ·refine C.eq (L'Q O ro) rfl rfl (f'f ?_);unfold ptr;simp[F67,ZcF,ZcG,c2,he,hro,k1,Array.foldl,List.zipIdx]
  ·simp only[fl,if_pos he];refine⟨?_,?_,?_,?_⟩ <;> rw[L.cell_put _ _ _ _ _ k1,L.cell_put _ _ _ _ _ c2] <;> simp[c0,c1]
  ·exact (Fr.put L (by simp) c2).trans (Fr.put L (by simp) k1)
 ·refine⟨h,?_,by simpa [fl,he]using d,Fr.refl _ _⟩;obtain⟨c0,c1,c2,c3⟩:=d;refine C.eq (L'Q O ro) rfl rfl (f'f ?_);have d0:((R.e:Int)==0)=false:=by simp;omega
  unfold ptr;simp[F67,ZcF,ZcG,c2,d0]
theorem G'v (C:LP' O ro c)(L:O.Law){h:H}{r:Nat}{s:ByteArray}{R:RS}(d:Rd O h r s R)(hr:ro<=r)(hs:s.size<=1000)(b:Nat):
  ∃h',c 64 [ptr r,.int .i64 b] h=some (.bool (decide (pk s R=b)),h')∧Rd O h' r s (if pk s R=b then ⟨R.pos+1,R.e,R.ep⟩ else R)∧Fr O [r] h h':=by
 have hro:¬r<ro:=by omega
 have hpk:=E'g C d hs
 by_cases hb:pk s R=b
 ·have hpos:R.pos<s.size:=by
   unfold pk at hb;split at hb
   ·rename_i hc;exact hc.2
   ·omega
  obtain⟨c0,c1,c2,c3⟩:=d;refine⟨O.put h r 1 (.int .i64 ((R.pos+1:Nat):Int)),?_,?_,Fr.put L (by simp) c1⟩
  ·refine C.eq (L'P O ro) rfl rfl (f'f ?_);have hw:=w'1 R.pos;unfold ptr at hpk ⊢;simp[F64,Zch,Zci,Zcj,Zck,Zcl,hpk,hb,c1,hro,hw]
  ·rw[if_pos hb];refine⟨?_,?_,?_,?_⟩ <;> rw[L.cell_put _ _ _ _ _ c1] <;> simp[c0,c2,c3]
 ·refine⟨h,?_,by simpa [hb]using d,Fr.refl _ _⟩;refine C.eq (L'P O ro) rfl rfl (f'f ?_);have hb':(pk s R != (b:Int))=true:=by simpa using hb
  unfold ptr at hpk ⊢;simp[F64,Zch,Zci,Zcj,Zck,Zcl,hpk,hb,hb']
def exS (s:ByteArray)(R:RS)(b:Nat): RS:=if pk s R=b then ⟨R.pos+1,R.e,R.ep⟩ else fl R 2 R.pos
theorem C'k (C:LP' O ro c)(L:O.Law){h:H}{r:Nat}{s:ByteArray}{R:RS}(d:Rd O h r s R)(hr:ro<=r)(hs:s.size<=1000)(b:Nat):
  ∃h',c 63 [ptr r,.int .i64 b] h=some (.tuple #[],h')∧Rd O h' r s (exS s R b)∧Fr O [r] h h':=by
 obtain⟨h1,hc1,d1,f1⟩:=G'v C L d hr hs b
 by_cases hb:pk s R=b
 ·rw[if_pos hb]at d1;refine⟨h1,?_,by simpa [exS,hb]using d1,f1⟩;refine C.eq (L'O O ro) rfl rfl (f'f ?_);unfold ptr at hc1 ⊢;simp[F63,Zcf,Zcg,hc1,hb]
 ·rw[if_neg hb]at d1;obtain⟨h2,hc2,d2,f2⟩:=C't C L d1 hr 2 R.pos;refine⟨h2,?_,by simpa [exS,hb]using d2,f1.trans f2⟩;refine C.eq (L'O O ro) rfl rfl (f'f ?_);obtain⟨c0,c1,c2,c3⟩:=d1;unfold ptr at hc1 hc2 ⊢;have hc2':c 67 [Value.pointer (some ⟨r,0,none⟩),.int .i64 2,.int .i64 R.pos] h1=some (.tuple #[],h2):=hc2;simp[F63,Zcf,Zcg,hc1,hb,c1,hc2']
end
end Go.Proofs.YtimdkminagnhgabGreatDoor
