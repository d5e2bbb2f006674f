import Derived.Test.YtimdkminagnhgaaGreatDoorQ32
import Derived.Test.YtimdkminagnhgaaGreatDoorQ26
import Derived.Test.YtimdkminagnhgaaGreatDoorQ33
import Derived.Test.YtimdkminagnhgaaGreatDoorQ30
set_option linter.all false
namespace Go.Proofs.YtimdkminagnhgaaGreatDoor
open Go.Vm Go.Proofs
set_option maxHeartbeats 300000
set_option maxRecDepth 4000
def dg (n:Nat): UInt8:=UInt8.ofNat (48+n)
def E'c (n:Nat): ByteArray:=
 if n<10 then ⟨#[dg n]⟩ else if n<100 then ⟨#[dg (n/10),dg (n%10)]⟩ else ⟨#[dg (n/100),dg (n/10%10),dg (n%10)]⟩
theorem U'r: ∀n:Fin 10,(⟨#[48,49,50,51,52,53,54,55,56,57,97,98,99,100,101,102,103,104,105,106,107,108,109,110,111,112,113,114,115,116,117,118,119,120,121,122]⟩:ByteArray).extract n (n+1)=E'c n:=by decide
theorem T'd: ∀n:Fin 100,10<=n.val->strC200.extract (n*2) (n*2+2)=E'c n:=by decide
theorem T'e (k:IntKind)(a b:Nat)(h:0<b): C'k .rem k (a:Int) (b:Int)=some (.int k ((a%b:Nat):Int)):=by
 simp only[C'k];rw[if_neg (by omega),Int.tmod_eq_emod_of_nonneg (by omega)];rfl
theorem L'd (k:IntKind)(a b:Nat)(h:0<b)(hw:k.wrap ((a/b:Nat):Int)=((a/b:Nat):Int)): C'k .quo k (a:Int) (b:Int)=some (.int k ((a/b:Nat):Int)):=by
 simp only[C'k];have:(a:Int).tdiv b=((a/b:Nat):Int):=by rw[Int.tdiv_eq_ediv_of_nonneg (by omega)];rfl
 rw[if_neg (by omega),this,hw]
section
variable {H:Type}{O:HI H}{ro:Nat}{c:A'Z H}
attribute [local simp] A'a A'b reg to too A'd A'q A'h mv' nl' fl' ld' ln' mk' ia' ik' ix' B'F B'G aLd B'h A'w B'c B'x A'4 aUn unA ev A'l isB A'0 A'E A'F A'G A'H A'I A'J A'K A'L A'M cIf A'B A'f A'g A'1 A'i rvE aSt A'N A't A'O A'P A'Q A'9 A'R A'u A'S A'T B'a A'U A'v A'V A'W A'X B'b A'p Instr.fill A'e A'n A'x A'j ptr undef B'o B'y A'k B's A's B'T A'D B'C A'y B'p rangeA B'O C'P D'j H'7
theorem bnd (q d top:Nat)(h:q<=top): A'o (some (.int .i64 (q:Int))) d top=some q:=by
 simp only[A'o];rw[if_pos (by omega)];simp
theorem R'f (C:LP' O ro c)(h:H)(n:Nat)(hn:n<100): c 214 [.int .i64 (n:Nat)] h=some (.string (E'c n),h):=by
 refine C.eq (R'e O ro) rfl rfl (f'f ?_)
 by_cases h1:n<10
 ·have h1':(n:Int)<10:=by omega
  have e1:=U'r ⟨n,h1⟩;simp only at e1;obtain⟨q,hq⟩:=e' (n+1);have hw:IntKind.i64.wrap ((n:Int)+1)=(q:Int):=w'i;have s1:(⟨#[48,49,50,51,52,53,54,55,56,57,97,98,99,100,101,102,103,104,105,106,107,108,109,110,111,112,113,114,115,116,117,118,119,120,121,122]⟩:ByteArray).size=36:=rfl;have b1:=bnd q 36 36 (by omega);have b2:=bnd n 0 q (by omega);rw[<-hq]at e1;simp[U'q,Zpc,Zpd,Zpe,h1,h1',hw,s1,b1,b2,e1]
 ·have h1':¬(n:Int)<10:=by omega
  have e1:=T'd ⟨n,hn⟩ (by simp only;omega);simp only at e1;obtain⟨m,hm⟩:=e' (n*2);obtain⟨q,hq⟩:=e' (m+2);have hw:IntKind.i64.wrap ((n:Int)*2)=(m:Int):=w'i;have hw2:IntKind.i64.wrap ((m:Int)+2)=(q:Int):=w'i;rw[<-hm,<-hq]at e1;have s1:strC200.size=200:=rfl;have b1:=bnd q 200 200 (by omega);have b2:=bnd m 0 q (by omega);simp[U'q,Zpc,Zpd,Zpf,h1,h1',hw,hw2,s1,b1,b2,e1]
end
end Go.Proofs.YtimdkminagnhgaaGreatDoor
namespace Go.Ta
def I'F (l:List ByteArray): ByteArray:=l.foldl (·++·) ⟨#[]⟩
theorem N'z (l:List ByteArray)(x:ByteArray): I'F (l++[x])=I'F l++x:=by
 unfold I'F;rw[List.foldl_append];rfl
theorem J'n (k:Nat): ∀(l:List ByteArray)(s:ByteArray),(∀x∈l,x.size<=k)->(l.foldl (·++·) s).size<=s.size+k*l.length:=by
 intro l
 induction l with
 | nil=>intro s _;simp
 | cons x l ih=>
  intro s h;have h1:=ih (s++x) (λy hy=>h y (by simp[hy]));have h2:=h x (by simp);rw[l'v]at h1;rw[List.foldl_cons,l'n,Nat.mul_add];omega
theorem L'e (k:Nat)(l:List ByteArray)(h:∀x∈l,x.size<=k): (I'F l).size<=k*l.length:=by
 have h1:=J'n k l ⟨#[]⟩ h;have h0:(⟨#[]⟩:ByteArray).size=0:=rfl;unfold I'F;omega
end Go.Ta
namespace Go.Proofs.YtimdkminagnhgaaGreatDoor
open Go.Vm Go.Proofs Go.Ta
set_option maxHeartbeats 4000000
section
variable {H:Type}{O:HI H}{ro:Nat}{c:A'Z H}
attribute [local simp] A'a A'b reg to too A'd A'q A'h mv' nl' fl' ld' ln' mk' ia' ik' ix' B'F B'G aLd B'h A'w A'4 aUn unA ev A'l isB A'0 A'E A'F A'G A'H A'I A'J A'K A'L A'M cIf A'B A'f A'g aSt A'N A't A'O A'P A'Q A'9 A'R A'u A'S A'T B'a A'U A'v A'V A'W A'X B'b A'p Instr.fill A'e A'n A'x A'j ptr undef B'o B'y A'k B's A's A'D B'C A'y B'p rangeA B'O A'r A'2 A'z B'd A'm A'o chk
variable {w w':Own}{h h':H}{q:Nat}{S:Srch}{bW bH bV:Nat}{vA vC vT vS vK:Value}{lv wv:List Value}
variable {cp:Nat}{N:Ck}{v1 v2:Value}
attribute [local simp] D'j H'7 B'c
theorem O'B (C:LP' O ro c)(h:H)(n:Nat)(hn:n<100): c 166 [ni n] h=some (.string (E'c n),h):=by
 have e1:=R'f C h n hn;have h1':(n:Int)<100:=by omega
 have e0:c 204 [.int .i64 (n:Nat),.int .i64 10] h=some (.string (E'c n),h):=by
  refine C.eq (R'd O ro) rfl rfl ?_;unfold V'N;refine s'f ?_;simp[ZoW,A'c];refine okE.seq (s'f ?_);simp[ZoX,A'c];refine okE.cond true (by simp) ?_;simp only[if_true];refine s'f ?_;simp[ZoY,ZoZ,hn,h1',e1,A'c,A'1,A'i,rvE]
 have e2:c 194 [.int .i64 (n:Nat)] h=some (.string (E'c n),h):=by
  refine C.eq (Q'H O ro) rfl rfl (f'f ?_);simp[V'u,Zku,Zkv,e0,A'1,A'i,rvE]
 refine C.eq (Q'G O ro) rfl rfl (f'f ?_);simp[V't,Zks,Zkt,e2,A'1,A'i,rvE]
theorem C'V (n:Nat): (E'c n).size<=3:=by
 unfold E'c;split
 ·simp[ByteArray.size]
 ·split <;> simp[ByteArray.size]
def H'r (st i:Nat): List ByteArray:=(List.range i).map λj=>E'c (st/2^j%2)
def L'f (st count:Nat): ByteArray:=I'F (H'r st count)++⟨#[10]⟩
theorem F'g (st i:Nat): (I'F (H'r st i)).size<=3*i:=by
 have:=L'e 3 (H'r st i) (by intro x hx;simp only[H'r,List.mem_map]at hx;obtain⟨j,-,rfl⟩:=hx;exact C'V _);simpa [H'r]using this
def BlI (st count:Nat)(h:H)(n:Nat)(t:Env)(g:H): Prop:=
 g=h∧t 0=ni st∧t 1=ni count∧∃i,t 5 = .string (I'F (H'r st i))∧t 6=ni i∧i+n=count
theorem G'5 (C:LP' O ro c)(st count:Nat)(hst:st<9223372036854775808)(hc:count<=60): c 114 [ni st,ni count] h=some (.string (L'f st count),h):=by
 have key:∃u h',c 114 [ni st,ni count] h=some (u,h')∧(u = .string (L'f st count)∧h'=h):=by
  refine C.fn (Q'S O ro) rfl rfl ?_;unfold V'B;refine s'f ?_;simp[Znj,A'c];refine s'f ?_;simp[Znk,A'c];refine okE.seq (s'f ?_);simp[Znl,A'c];refine okE.blk ?_;refine okE.mono (okE.loop (Q:=λe t' g'=>A'j 0 e = .normal∧g'=h∧t' 5 = .string (I'F (H'r st count))) (BlI st count h) ?_ count _ _ ⟨rfl,by simp,by simp,0,by simp[H'r,I'F],by simp,by omega⟩) ?_
  ·rintro n t g ⟨rfl,d0,d1,i,d5,d6,hin⟩
   cases n with
   | zero=>
    obtain rfl:i=count:=by omega
    refine f'f ?_;simp[K'X,Znm,d0,d1,d5,d6]
   | succ n=>
    have hi:i<count:=by omega
    have hi':(i:Int)<count:=by omega
    have hsh:=G'e st i (by omega);have hand:=C'r (st/2^i) (by have:=Nat.div_le_self st (2^i);omega);have e1:=O'B C g (st/2^i%2) (by have:=Nat.mod_lt (st/2^i) (show 0<2 by omega);omega);have hsz:=F'g st i;have hsz2:=C'V (st/2^i%2);have hb:H'r st (i+1)=H'r st i++[E'c (st/2^i%2)]:=by simp[H'r,l'B]
    have hcat:=N'z (H'r st i) (E'c (st/2^i%2));rw[<-hb]at hcat;have hle:(I'F (H'r st i)).size+(E'c (st/2^i%2)).size<=9223372036854775807:=by omega
    have hwi:=w'1 i;obtain⟨i',hi2⟩:=e' (i+1);rw[<-hi2]at hwi hcat;generalize hz:st/2^i=z at *;generalize hz2:z%2=z2 at *;generalize hs1:I'F (H'r st i)=s1 at *;generalize hs2:E'c z2=s2 at *;refine f'f ?_;simp[K'X,Znm,Znn,Zno,d0,d1,d5,d6,hi,hi',hsh,hand,e1,hle,hwi];exact⟨n,by omega,rfl,by simp[d0],by simp[d1],i',by simp[hcat],by simp,by omega⟩
  ·rintro e t g ⟨hr,rfl,d5⟩;rw[hr];simp only[A'c];have hsz:=F'g st count;have hle:(I'F (H'r st count)).size+1<=9223372036854775807:=by omega
   unfold L'f;generalize I'F (H'r st count)=s1 at *;have h1:(⟨#[10]⟩:ByteArray).size=1:=rfl;refine f'f ?_;simp[Znp,d5,h1,hle,A'1,A'i,rvE]
 obtain⟨u,h',e1,rfl,rfl⟩:=key;exact e1
def clB (cl:List Nat)(i:Nat): ByteArray:=(cl.take i).zipIdx.foldl (λs p=>((if 0<p.2 then s++⟨#[32]⟩ else s) |> λs=>if p.1%2=1 then s++⟨#[45]⟩ else s)++(⟨#[108]⟩++E'c (p.1/2))) ⟨#[]⟩
def clS (cl:List Nat): ByteArray:=clB cl cl.length++⟨#[10]⟩
theorem I'G {cl:List Nat}{i x:Nat}(hx:cl[i]?=some x): clB cl (i+1)=((if 0<i then clB cl i++⟨#[32]⟩ else clB cl i) |> λs=>if x%2=1 then s++⟨#[45]⟩ else s)++(⟨#[108]⟩++E'c (x/2)):=by
 have hi:=(l'b.1 hx).1;unfold clB;rw[l'C,hx,List.zipIdx_append,List.foldl_append];simp[Nat.min_eq_left (Nat.le_of_lt hi)]
theorem G'h {cl:List Nat}: ∀i,i<=cl.length->(clB cl i).size<=6*i:=by
 intro i
 induction i with
 | zero=>intro _;exact l'H 0
 | succ i ih=>
  intro hi;obtain⟨x,hx⟩:∃x,cl[i]?=some x:=⟨_,l'c (by omega)⟩;rw[I'G hx];have h1:=ih (by omega);have h2:=C'V (x/2);have h3:(⟨#[32]⟩:ByteArray).size=1:=rfl;have h4:(⟨#[45]⟩:ByteArray).size=1:=rfl;have h5:(⟨#[108]⟩:ByteArray).size=1:=rfl;simp only[l'v,h5];split
  ·simp only[l'v,h4];split
   ·simp only[l'v,h3];omega
   ·omega
  ·split
   ·simp only[l'v,h3];omega
   ·omega
def W'b (vl:Value)(cl:List Nat)(h:H)(n:Nat)(t:Env)(g:H): Prop:=
 g=h∧t 0=vl∧∃i,t 3 = .string (clB cl i)∧t 4=ni i∧i+n=cl.length
theorem G'6 (C:LP' O ro c){tl:Tag}{vl:Value}{cl:List Nat}(hcl:cl.length<=192)(hx:∀x∈cl,x/2<60)(sl:Sm O ro w h tl 1 vl (cl.map ni)): c 113 [vl] h=some (.string (clS cl),h):=by
 have key:∃u h',c 113 [vl] h=some (u,h')∧(u = .string (clS cl)∧h'=h):=by
  refine C.fn (Q'R O ro) rfl rfl ?_;unfold V'A;refine s'f ?_;simp[Zm8,A'c];refine s'f ?_;simp[Zm9,A'c];refine okE.seq (s'f ?_);simp[Zna,A'c];refine okE.blk ?_;refine okE.mono (okE.loop (Q:=λe t' g'=>A'j 0 e = .normal∧g'=h∧t' 3 = .string (clB cl cl.length)) (W'b vl cl h) ?_ cl.length _ _ ⟨rfl,by simp,0,by simp[clB],by simp,by omega⟩) ?_
  ·rintro n t g ⟨rfl,d0,i,d3,d4,hin⟩
   cases n with
   | zero=>
    obtain rfl:i=cl.length:=by omega
    obtain⟨aL,cL,hvl⟩:=sl.len (by omega) cl.length (by simp);rw[hvl]at d0;refine f'f ?_;simp[O'w,Znb,d0,d3,d4]
   | succ n=>
    have hi:i<cl.length:=by omega
    have hi':(i:Int)<cl.length:=by omega
    obtain⟨bL,cpp,e8,hcp,yl⟩:=sl.blk (by omega) cl.length (by simp) (by omega);have d0':=d0;rw[e8]at d0';obtain⟨a,ha⟩:∃a,cl[i]?=some a:=⟨_,l'c hi⟩;have hcell:O.cell g bL i=some (ni a):=by rw[yl.cell i (by simpa using hi)];simp[ha]
    have hxa:=hx a (l'f ha);have hsh:=C'c a;have hand:=C'r a (by omega);have e1:=O'B C g (a/2) (by omega);have hsz:=G'h (cl:=cl) i (by omega);have hsz2:=C'V (a/2);have hsucc:=I'G ha;have hwi:=w'1 i;obtain⟨i',hi2⟩:=e' (i+1);rw[<-hi2]at hwi hsucc;have h3:(⟨#[32]⟩:ByteArray).size=1:=rfl;have h4:(⟨#[45]⟩:ByteArray).size=1:=rfl;have h5:(⟨#[108]⟩:ByteArray).size=1:=rfl;have hmod:=Nat.mod_lt a (show 0<2 by omega);generalize hs1:clB cl i=s1 at *;generalize hs2:E'c (a/2)=s2 at *;generalize a/2=dd at *;generalize a%2=ee at *;refine s'f ?_;simp[Znb,A'c,d0',d4,hi,hi'];refine okE.seq (okE.blk ?_);obtain⟨sa,hsa⟩:=e' ((if 0<i then s1++⟨#[32]⟩ else s1));have hsza:sa.size<=6*i+1:=by
     rw[hsa];split
     ·rw[l'v,h3];omega
     ·omega
    obtain⟨sb,hsb⟩:=e' ((if ee=1 then sa++⟨#[45]⟩ else sa));have hszb:sb.size<=6*i+2:=by
     rw[hsb];split
     ·rw[l'v,h4];omega
     ·omega
    rw[<-hsa]at hsucc;simp only[<-hsb]at hsucc;have hle1:s1.size+1<=9223372036854775807:=by omega
    have hle2:sa.size+1<=9223372036854775807:=by omega
    have hle3:1+s2.size<=9223372036854775807:=by omega
    have hle4:sb.size+(1+s2.size)<=9223372036854775807:=by omega
    refine okE.seq (okE.mono (Q:=λe t' g'=>e = .normal∧g'=g∧t' 0=t 0∧t' 4=t 4∧t' 3 = .string sa) ?_ ?_)
    ·by_cases h0:0<i
     ·have h0':(0:Int)<i:=by omega
      rw[if_pos h0]at hsa;refine f'f ?_;simp[Znc,Znd,d3,d4,h0,h0',h3,hle1,hsa]
     ·have h0':¬(0:Int)<i:=by omega
      rw[if_neg h0]at hsa;refine f'f ?_;simp[Znc,d3,d4,h0,h0',hsa]
    ·rintro e t1 g1 ⟨rfl,rfl,q0,q4,q3⟩;rw[d0']at q0;rw[d4]at q4;simp only[A'c];refine okE.seq (okE.mono (Q:=λe t' g'=>e = .normal∧g'=g1∧t' 0=t1 0∧t' 4=t1 4∧t' 3 = .string sb) ?_ ?_)
     ·by_cases h0:ee=1
      ·subst h0;rw[if_pos rfl]at hsb;refine f'f ?_;simp[Zne,Znf,q0,q3,q4,hi,hi',hcell,hand,h4,hle2,hsb]
      ·have h0':ee=0:=by omega
       subst h0';rw[if_neg (by omega)]at hsb;refine f'f ?_;simp[Zne,q0,q3,q4,hi,hi',hcell,hand,hsb]
     ·rintro e t2 g2 ⟨rfl,rfl,r0,r4,r3⟩;rw[q0]at r0;rw[q4]at r4;simp only[A'c];refine f'f ?_;simp[Zng,A'c,r0,r3,r4,hi,hi',hcell,hsh,e1,h5,hle3,hle4,l'v];refine f'f ?_;simp[Znh,r4,hwi];exact⟨n,by omega,rfl,by simp[r0,e8],i',by simp[hsucc],by simp,by omega⟩
  ·rintro e t g ⟨hr,rfl,d5⟩;rw[hr];simp only[A'c];have hsz:=G'h (cl:=cl) cl.length (l'H _);have hle:(clB cl cl.length).size+1<=9223372036854775807:=by omega
   unfold clS;generalize clB cl cl.length=s1 at *;have h1:(⟨#[10]⟩:ByteArray).size=1:=rfl;refine f'f ?_;simp[Zni,d5,h1,hle,A'1,A'i,rvE]
 obtain⟨u,h',e1,rfl,rfl⟩:=key;exact e1
end
end Go.Proofs.YtimdkminagnhgaaGreatDoor
namespace Go.Proofs.YtimdkminagnhgaaGreatDoor
open Go.Vm Go.Proofs Go.Ta
set_option maxHeartbeats 4000000
section
variable {H:Type}{O:HI H}{ro:Nat}{c:A'Z H}
attribute [local simp] A'a A'b reg to too A'd A'q A'h mv' nl' fl' ld' ln' mk' ia' ik' ix' B'F B'G aLd B'h A'w A'4 aUn unA ev A'l isB A'0 A'E A'F A'G A'H A'I A'J A'K A'L A'M cIf A'B A'f A'g aSt A'N A't A'O A'P A'Q A'9 A'R A'u A'S A'T B'a A'U A'v A'V A'W A'X B'b A'p Instr.fill A'e A'n A'x A'j ptr undef B'o B'y A'k B's A's A'D B'C A'y B'p rangeA B'O A'r A'2 A'z B'd A'm A'o chk
variable {w w':Own}{h h':H}{q:Nat}{S:Srch}{bW bH bV:Nat}{vA vC vT vS vK:Value}{lv wv:List Value}
variable {cp:Nat}{N:Ck}{v1 v2:Value}
attribute [local simp] D'j H'7 B'c
def B'M (R:Rn): Nat:=(R.way.getLast?.getD (0,0)).1
theorem L'g (C:LP' O ro c)(L:O.Law){r:Nat}{R:Rn}{bud:Int}{vF vW vP:Value}{fs:List (Nat×Value)}(x:RN O ro w h r R bud cp N v1 v2 vF vW vP fs)(k:RnK N R): c 59 [ptr r] h=some (ni (B'M R),h):=by
 have hm:most=1000000:=rfl;have wl:=k.wl;have m4:=x.m.get 4 _ rfl;unfold B'M
 cases hw:R.way.getLast? with
 | none=>
  have hw0:R.way=[]:=by simpa using hw
  obtain⟨aW,cW,hvW⟩:=x.sW.m.len (by omega) 0 (by rw[hw0];rfl);rw[hvW]at m4;refine C.eq (O'v O ro) rfl rfl (f'f ?_);simp[F59,Zl1,Zl2,Zl3,m4,A'1,A'i,rvE]
 | some y=>
  obtain⟨st,inp⟩:=y;have h0:0<R.way.length:=by
   rcases Nat.eq_zero_or_pos R.way.length with h|h
   ·rw[List.eq_nil_of_length_eq_zero h]at hw;simp at hw
   ·exact h
  obtain⟨bw,hvW,hst,sw⟩:=x.wayL L h0 hw;obtain⟨n1,hn1⟩:∃n1,R.way.length=n1+1:=⟨R.way.length-1,by omega⟩;rw[hvW,hn1]at m4;rw[show R.way.length-1=n1 by omega]at hst;have hwn:IntKind.i64.wrap (n1:Int)=(n1:Int):=w'j;have hn1':(n1:Int)<(n1:Int)+1:=by omega
  have hne:((n1:Int)+1==0)=false:=by rw[l'A];omega
  have hne':¬((n1:Int)+1=0):=by omega
  refine C.eq (O'v O ro) rfl rfl ?_;unfold F59;refine s'f ?_;simp[Zl1,A'c];refine s'f ?_;simp[Zl2,A'c,m4,hne,hne'];refine f'f ?_;simp[Zl4,m4,hwn,hn1',hst,A'1,A'i,rvE]
def B'r (R:Rn): List Nat:=(R.way.map (·.2)).reverse
def InI (O:HI H)(ro:Nat)(w:Own)(h:H)(k0 r:Nat)(R:Rn)(n:Nat)(t:Env)(g:H): Prop:=
 t 0 = .pointer (some ⟨r,0,none⟩)∧t 4 = .int .i64 ((n:Int)-1)∧n<=R.way.length∧∃v,t 3=v∧GrI O ro w h k0 v (((R.way.drop n).map (·.2)).reverse) g
theorem I'H (C:LP' O ro c)(L:O.Law){r:Nat}{R:Rn}{bud:Int}{vF vW vP:Value}{fs:List (Nat×Value)}(x:RN O ro w h r R bud cp N v1 v2 vF vW vP fs)(k:RnK N R)(t1:Tag):
  ∃v h' w',c 60 [ptr r] h=some (v,h')∧Sm O ro w' h' t1 1 v ((B'r R).map ni)∧Ch O (λ_=>False) w h w' h'∧ro<=O.next h':=by
 have hm:most=1000000:=rfl;have wl:=k.wl;obtain⟨k0,hk0⟩:=B'i w (O.next h);have hwlen:=A'A prC 2 C'v R.way;have key:∃u h',c 60 [ptr r] h=some (u,h')∧GrI O ro w h k0 u (B'r R) h':=by
  refine C.fn (S'5 O ro) rfl rfl ?_;unfold F60;refine s'f ?_;simp[Zl5,A'c];refine s'f ?_;simp[Zl6,A'c];have gr0:=GrI.new (w:=w) (k0:=k0) L x.lo;obtain⟨w0,s0,c0,lo0⟩:=id gr0;have m40:=(x.m.ch L c0).get 4 _ rfl;obtain⟨aW,cW,hvW⟩:=x.sW.m.len (by omega) R.way.length hwlen;have hw0:IntKind.i64.wrap ((R.way.length:Int)-1)=(R.way.length:Int)-1:=w'j;obtain⟨z0,hz0⟩:=e' ((R.way.length:Int)-1);rw[<-hz0]at hw0;have hw0':IntKind.i64.wrap ((R.way.length:Int)-1)=z0:=by rw[<-hz0];exact hw0
  rw[hvW]at m40;refine okE.seq (s'f ?_);simp[Zl7,A'c,m40,hw0'];refine okE.blk ?_;refine okE.mono (okE.loop (Q:=λe t' g'=>A'j 0 e = .normal∧GrI O ro w h k0 (t' 3) (B'r R) g') (InI O ro w h k0 r R) ?_ R.way.length _ _ ⟨by simp,by simp[hz0],l'H _,.slice (some ⟨O.next h,0,some 1⟩) 0 1,by simp,by rw[List.drop_length];exact gr0⟩) ?_
  ·rintro n t g ⟨d0,d4,hnl,v,d3,gr⟩;obtain⟨w1,s1,c1,lo1⟩:=id gr;have x1:=x.keep L c1;have m4:=x1.m.get 4 _ rfl
   cases n with
   | zero=>
    rw[List.drop_zero]at gr;refine f'f ?_;simp[Q'K,Zl8,d0,d3,d4];exact gr
   | succ n=>
    have hi:n<R.way.length:=by omega
    have hi':(n:Int)<R.way.length:=by omega
    obtain⟨bw,e8,yw⟩:=x1.sW.blk (by omega) R.way.length hwlen (by omega);rw[e8]at m4;obtain⟨⟨st,inp⟩,hy⟩:∃y,R.way[n]?=some y:=⟨_,l'c hi⟩;have hcell:O.cell g bw (n*2+1)=some (ni inp):=by
     have h1:=B'X prC 2 C'v R.way n hi 1 (by omega);rw[yw.cell _ (by omega),h1,(l'b.1 hy).2];rfl
    obtain⟨v3,g3,e3,gr3⟩:=gr.app L hk0 inp (by simp;omega);have hst2:((R.way.drop (n+1)).map (·.2)).reverse++[inp]=((R.way.drop n).map (·.2)).reverse:=by
     rw[l's hi,(l'b.1 hy).2];simp
    rw[hst2]at gr3;have hz1:((n+1:Nat):Int)-1=(n:Int):=by omega
    rw[hz1]at d4;have hw1:IntKind.i64.wrap ((n:Int)-1)=(n:Int)-1:=w'j;obtain⟨z1,hzz⟩:=e' ((n:Int)-1);have hw1':IntKind.i64.wrap ((n:Int)-1)=z1:=by rw[hzz];exact hw1
    refine f'f ?_;simp[Q'K,Zl8,Zl9,Zma,d0,d3,d4,m4,hi,hi',hcell,e3,hw1'];exact⟨n,by omega,by simp[d0],by simp[hzz],by omega,v3,by simp,gr3⟩
  ·rintro e t g ⟨hr,gr⟩;rw[hr];simp only[A'c];refine f'f ?_;have tv:=gr.tup;simp[Zmb,A'1,A'i,rvE,tv];exact gr
 obtain⟨u,h',e1,gr⟩:=key;obtain⟨w2,s2,c2,lo2⟩:=gr.give hk0 t1;exact⟨u,h',w2,e1,s2,c2,lo2⟩
def J'o (N:Ck)(st:Nat)(ins:List Nat): ByteArray:=ins.foldl (λs x=>s++L'f x N.ni) (⟨#[49,10,98,48,10]⟩++L'f st N.las.length)
def N'A (N:Ck)(R:Rn): ByteArray:=J'o N (B'M R) (B'r R)++⟨#[46,10]⟩
theorem D'X (st n:Nat): (L'f st n).size<=3*n+1:=by
 have h1:=F'g st n;have h2:(⟨#[10]⟩:ByteArray).size=1:=rfl;unfold L'f;rw[l'v];omega
theorem G'7 {N:Ck}{st x i:Nat}{ins:List Nat}(hx:ins[i]?=some x): J'o N st (ins.take (i+1))=J'o N st (ins.take i)++L'f x N.ni:=by
 unfold J'o;rw[l'C,hx,List.foldl_append];rfl
theorem G'8 {N:Ck}{st:Nat}{ins:List Nat}(h1:N.ni<=60)(h2:N.las.length<=60): ∀i,i<=ins.length->(J'o N st (ins.take i)).size<=186+181*i:=by
 intro i
 induction i with
 | zero=>
  intro _;have h3:=D'X st N.las.length;have h4:(⟨#[49,10,98,48,10]⟩:ByteArray).size=5:=rfl;simp only[J'o,List.take_zero,List.foldl_nil,l'v,h4];omega
 | succ i ih=>
  intro hi;obtain⟨x,hx⟩:∃x,ins[i]?=some x:=⟨_,l'c (by omega)⟩;rw[G'7 hx,l'v];have h3:=D'X x N.ni;have h4:=ih (by omega);omega
def UnI (O:HI H)(ro:Nat)(w:Own)(h:H)(r:Nat)(N:Ck)(R:Rn)(vi:Value)(n:Nat)(t:Env)(g:H): Prop:=
 g=h∧t 0 = .pointer (some ⟨r,0,none⟩)∧t 4=vi∧∃i,t 5 = .string (J'o N (B'M R) ((B'r R).take i))∧t 6=ni i∧i+n=(B'r R).length
theorem T'f (C:LP' O ro c)(L:O.Law){r:Nat}{R:Rn}{bud:Int}{vF vW vP:Value}{fs:List (Nat×Value)}(x:RN O ro w h r R bud cp N v1 v2 vF vW vP fs)(k:RnK N R)(hni:N.ni<=60)(hla:N.las.length<=60):
  ∃h' w',c 61 [ptr r] h=some (.string (N'A N R),h')∧Ch O (λ_=>False) w h w' h'∧ro<=O.next h':=by
 have hm:most=1000000:=rfl;have wl:=k.wl;have e1:=L'g C L x k;obtain⟨vi,g2,w2,e2,s2,c2,lo2⟩:=I'H C L x k (9,1);have x2:=x.keep L c2;have hil:(B'r R).length<=most:=by simp[B'r];omega
 have hfb:B'M R<1152921504606846976:=by
  unfold B'M
  cases hw:R.way.getLast? with
  | none=>simp
  | some y=>exact (k.wy y (List.mem_of_getLast? hw)).1
 have e3:=G'5 (h:=g2) C (B'M R) N.las.length (by omega) hla;obtain⟨aI,cI,hvi⟩:=s2.len (by omega) (B'r R).length (by simp);have m0:=x2.m.get 0 _ rfl;have x1:=x2.X.m.get 1 _ rfl;have x0:=x2.X.m.get 0 _ rfl;obtain⟨aL,cL,hv1⟩:=x2.X.len1;rw[hv1]at x1;have key:∃u h',c 61 [ptr r] h=some (u,h')∧(u = .string (N'A N R)∧h'=g2):=by
  refine C.fn (S'6 O ro) rfl rfl ?_;unfold F61;unfold ptr at e1 e2 m0;have tv:=s2.flat.2.2;have h5:(⟨#[49,10,98,48,10]⟩:ByteArray).size=5:=rfl;have hb5:=D'X (B'M R) N.las.length;have hle0:5+(L'f (B'M R) N.las.length).size<=9223372036854775807:=by omega
  refine s'f ?_;simp[Zmc,A'c];refine s'f ?_;simp[Zmd,A'c,e1];refine s'f ?_;simp[Zme,A'c,e2,tv];refine s'f ?_;simp[Zmf,A'c,m0,x1,e3,h5,hle0];refine okE.seq (s'f ?_);simp[Zmg,A'c];refine okE.blk ?_;refine okE.mono (okE.loop (Q:=λe t' g'=>A'j 0 e = .normal∧g'=g2∧t' 5 = .string (J'o N (B'M R) (B'r R))) (UnI O ro w2 g2 r N R vi) ?_ (B'r R).length _ _ ⟨rfl,by simp,by simp,0,by simp[J'o],by simp,by omega⟩) ?_
  ·rintro n t g ⟨rfl,d0,d4,i,d5,d6,hin⟩
   cases n with
   | zero=>
    obtain rfl:i=(B'r R).length:=by omega
    rw[hvi]at d4;rw[List.take_length]at d5;refine f'f ?_;simp[Q'L,Zmh,d0,d4,d5,d6]
   | succ n=>
    have hi:i<(B'r R).length:=by omega
    have hi':(i:Int)<(B'r R).length:=by omega
    obtain⟨bL,cpp,e8,hcp,yl⟩:=s2.blk (by omega) (B'r R).length (by simp) (by omega);have d4':=d4;rw[e8]at d4';obtain⟨a,ha⟩:∃a,(B'r R)[i]?=some a:=⟨_,l'c hi⟩;have hcell:O.cell g bL i=some (ni a):=by rw[yl.cell i (by simpa using hi)];simp[ha]
    have hab:a<1152921504606846976:=by
     have:=l'f ha;simp only[B'r,List.mem_reverse,List.mem_map]at this;obtain⟨m,hm,rfl⟩:=this;exact (k.wy m hm).2
    have e4:=G'5 (h:=g) C a N.ni (by omega) hni;have hsz:=G'8 (st:=B'M R) (ins:=B'r R) hni hla i (by omega);have hsz2:=D'X a N.ni;have hsucc:=G'7 (N:=N) (st:=B'M R) ha;have hwi:=w'1 i;obtain⟨i',hi2⟩:=e' (i+1);rw[<-hi2]at hwi hsucc;have hle:(J'o N (B'M R) ((B'r R).take i)).size+(L'f a N.ni).size<=9223372036854775807:=by omega
    generalize J'o N (B'M R) ((B'r R).take i)=s1 at *;generalize L'f a N.ni=s3 at *;refine f'f ?_;simp[Q'L,Zmh,Zmi,Zmj,d0,d4',d5,d6,hi,hi',hcell,m0,x0,e4,hle,hwi];exact⟨n,by omega,rfl,by simp[d0],by simp[d4',e8],i',by simp[hsucc],by simp,by omega⟩
  ·rintro e t g ⟨hr,rfl,d5⟩;rw[hr];simp only[A'c];have hsz:=G'8 (st:=B'M R) (ins:=B'r R) hni hla _ (l'H _);rw[List.take_length]at hsz;unfold N'A;have h2:(⟨#[46,10]⟩:ByteArray).size=2:=rfl;have hle:(J'o N (B'M R) (B'r R)).size+2<=9223372036854775807:=by omega
   generalize J'o N (B'M R) (B'r R)=s1 at *;refine f'f ?_;simp[Zmk,d5,h2,hle,A'1,A'i,rvE]
 obtain⟨u,h',e1,rfl,rfl⟩:=key;exact⟨_,w2,e1,c2,lo2⟩
def J'L (ks:List (List Nat)): ByteArray:=ks.foldl (λs x=>s++clS x) ⟨#[48,10,98,48,10]⟩
def M'c (ks:List (List Nat)): ByteArray:=J'L ks++⟨#[46,10]⟩
theorem I'I (cl:List Nat): (clS cl).size<=6*cl.length+1:=by
 have h1:=G'h (cl:=cl) _ (l'H _);have h2:(⟨#[10]⟩:ByteArray).size=1:=rfl;unfold clS;rw[l'v];omega
theorem G'9 {x:List Nat}{i:Nat}{ks:List (List Nat)}(hx:ks[i]?=some x): J'L (ks.take (i+1))=J'L (ks.take i)++clS x:=by
 unfold J'L;rw[l'C,hx,List.foldl_append];rfl
theorem H'a {ks:List (List Nat)}(h:∀l∈ks,l.length<=192): ∀i,i<=ks.length->(J'L (ks.take i)).size<=5+1153*i:=by
 intro i
 induction i with
 | zero=>intro _;exact l'H 5
 | succ i ih=>
  intro hi;obtain⟨x,hx⟩:∃x,ks[i]?=some x:=⟨_,l'c (by omega)⟩;rw[G'9 hx,l'v];have h3:=I'I x;have h4:=ih (by omega);have h5:=h x (l'f hx);omega
def SfI (r:Nat)(ks:List (List Nat))(h:H)(n:Nat)(t:Env)(g:H): Prop:=
 g=h∧t 0 = .pointer (some ⟨r,0,none⟩)∧∃i,t 3 = .string (J'L (ks.take i))∧t 4=ni i∧i+n=ks.length
theorem T'g (C:LP' O ro c)(L:O.Law){r:Nat}{R:Rn}{bud:Int}{vF vW vP:Value}{fs:List (Nat×Value)}(x:RN O ro w h r R bud cp N v1 v2 vF vW vP fs)(hla:N.las.length<=60){tk:Tag}{us:List Value}(cs:Cs O ro w h tk vP us R.kept)(hk:∀l∈R.kept,ClK N l)(hkl:R.kept.length<=1000000000000):
  c 58 [ptr r] h=some (.string (M'c R.kept),h):=by
 have key:∃u h',c 58 [ptr r] h=some (u,h')∧(u = .string (M'c R.kept)∧h'=h):=by
  refine C.fn (S'4 O ro) rfl rfl ?_;unfold F58;have m5:=x.m.get 5 _ rfl;obtain⟨aK,cK,hvK⟩:=cs.s.len (by omega) R.kept.length (by rw[cs.l];simp);generalize R.kept=ks at *;refine s'f ?_;simp[ZlU,A'c];refine s'f ?_;simp[ZlV,A'c];refine okE.seq (s'f ?_);simp[ZlW,A'c];refine okE.blk ?_;refine okE.mono (okE.loop (Q:=λe t' g'=>A'j 0 e = .normal∧g'=h∧t' 3 = .string (J'L ks)) (SfI r ks h) ?_ ks.length _ _ ⟨rfl,by simp,0,by simp[J'L],by simp,by omega⟩) ?_
  ·rintro n t g ⟨rfl,d0,i,d3,d4,hin⟩
   cases n with
   | zero=>
    obtain rfl:i=ks.length:=by omega
    rw[hvK]at m5;rw[List.take_length]at d3;refine f'f ?_;simp[Q'J,ZlX,d0,d3,d4,m5]
   | succ n=>
    have hi:i<ks.length:=by omega
    have hi':(i:Int)<ks.length:=by omega
    obtain⟨bK,pK,eK,_,yK⟩:=cs.s.blk (by omega) ks.length (by rw[cs.l];simp) (by omega);obtain⟨l,hl⟩:∃l,ks[i]?=some l:=⟨_,l'c hi⟩;obtain⟨u,hu⟩:∃u,us[i]?=some u:=⟨_,l'c (by rw[cs.l];exact hi)⟩;have su:=cs.a i l u hl hu;have ku:O.cell g bK i=some u:=by rw[yK.cell i (by rw[cs.l];exact hi),hu]
    have hkk:=hk l (l'f hl);have e4:=G'6 C hkk.1 (λx hx=>by have:=hkk.2 x hx;omega) su;rw[eK]at m5;have hsz:=H'a (ks:=ks) (λl hl=>(hk l hl).1) i (by omega);have hsz2:=I'I l;have hl192:=hkk.1;have hsucc:=G'9 hl;have hwi:=w'1 i;obtain⟨i',hi2⟩:=e' (i+1);rw[<-hi2]at hwi hsucc;have hle:(J'L (ks.take i)).size+(clS l).size<=9223372036854775807:=by omega
    have tv:=su.flat.2.2;generalize J'L (ks.take i)=s1 at *;generalize clS l=s3 at *;refine f'f ?_;simp[Q'J,ZlX,ZlY,ZlZ,d0,d3,d4,m5,hi,hi',ku,tv,e4,hle,hwi];exact⟨n,by omega,rfl,by simp[d0],i',by simp[hsucc],by simp,by omega⟩
  ·rintro e t g ⟨hr,rfl,d3⟩;rw[hr];simp only[A'c];have hsz:=H'a (ks:=ks) (λl hl=>(hk l hl).1) _ (l'H _);rw[List.take_length]at hsz;unfold M'c;have h2:(⟨#[46,10]⟩:ByteArray).size=2:=rfl;have hle:(J'L ks).size+2<=9223372036854775807:=by omega
   generalize J'L ks=s1 at *;refine f'f ?_;simp[Zl0,d3,h2,hle,A'1,A'i,rvE]
 obtain⟨u,h',e1,rfl,rfl⟩:=key;exact e1
end
end Go.Proofs.YtimdkminagnhgaaGreatDoor
