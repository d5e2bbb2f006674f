import Derived.Test.YtimdkminagnhgabGreatDoorQ37
import Derived.Test.YtimdkminagnhgabGreatDoorQ38
set_option linter.all false
namespace Go.Proofs.YtimdkminagnhgabGreatDoor
open Go.Vm Go.Proofs Go.Ta
set_option maxRecDepth 4000
theorem B't {n:Nat}(h:n<1000): B'a (B'8 n)=dgL n:=by
 unfold B'8 dgL;split
 ·simp only[B'a,l'J,l'K];rw[D'W (by omega)]
 ·split
  ·simp only[B'a,l'J,l'K];rw[D'W (by omega),D'W (by omega)]
  ·simp only[B'a,l'J,l'K];rw[D'W (by omega),D'W (by omega),D'W (by omega)]
theorem M'u {n:Nat}(h:n<16384): B'a (by7 n)=H'9 n:=by
 have u:∀x,x<256->(UInt8.ofNat x).toNat=x:=λx hx=>by simp;omega
 unfold by7 H'9;split
 ·simp only[B'a,l'J,l'K];rw[u _ (by omega)]
 ·simp only[B'a,l'J,l'K];rw[u _ (by omega),u _ (by omega)]
theorem E'G: B'a ⟨#[]⟩=[]:=rfl
theorem I'a: B'a ⟨#[32]⟩=[32]:=rfl
theorem G'O: B'a ⟨#[10]⟩=[10]:=rfl
theorem Q'6 {a:Nat}(ha:a<1000): B'a (lnS [a])=ln1 a:=by
 simp only[lnS,lnT,Nat.lt_irrefl,if_false,B'b,E'G,G'O,B't ha,List.nil_append,ln1]
theorem S'N {a b:Nat}(ha:a<1000)(hb:b<1000): B'a (lnS [a,b])=ln2 a b:=by
 simp only[lnS,lnT,Nat.lt_irrefl,if_false,l'F,Nat.zero_lt_one,if_true,B'b,E'G,I'a,G'O,B't ha,B't hb,List.nil_append,ln2,List.append_assoc,List.cons_append]
theorem S'O {a b c:Nat}(ha:a<1000)(hb:b<1000)(hc:c<1000): B'a (lnS [a,b,c])=ln3 a b c:=by
 have h2:0<1+1:=by omega
 simp only[lnS,lnT,Nat.lt_irrefl,if_false,l'F,Nat.zero_lt_one,h2,if_true,B'b,E'G,I'a,G'O,B't ha,B't hb,B't hc,List.nil_append,ln3,List.append_assoc,List.cons_append]
theorem S'j {a b c d e f:Nat}(ha:a<1000)(hb:b<1000)(hc:c<1000)(hd:d<1000)(he:e<1000)(hf:f<1000): B'a (lnS [a,b,c,d,e,f])=dgL a++32 :: (dgL b++32 :: (dgL c++32 :: (dgL d++32 :: (dgL e++32 :: (dgL f++[10]))))):=by
 have h2:0<1+1:=by omega
 have h3:0<1+1+1:=by omega
 have h4:0<1+1+1+1:=by omega
 have h5:0<1+1+1+1+1:=by omega
 simp only[lnS,lnT,Nat.lt_irrefl,if_false,l'F,Nat.zero_lt_one,h2,h3,h4,h5,if_true,B'b,E'G,I'a,G'O,B't ha,B't hb,B't hc,B't hd,B't he,B't hf,List.nil_append,List.append_assoc,List.cons_append]
theorem G'g (f:Nat->ByteArray): ∀(m j:Nat)(t:ByteArray),B'a (itT f j m t)=B'a t++cat (λi=>B'a (f i)) j m:=by
 intro m
 induction m with
 | zero=>intro j t;simp[itT,cat]
 | succ m ih=>
  intro j t;rw[itT,ih,B'b,cat,List.append_assoc]
theorem C'4 (v:Nat): (dgL v).length<=3:=by unfold dgL;split;simp;split <;> simp
theorem F'w (a:Nat): (ln1 a).length<=4:=by have:=C'4 a;simp[ln1];omega
theorem O'B (a b:Nat): (ln2 a b).length<=8:=by have:=C'4 a;have:=C'4 b;simp[ln2];omega
theorem J'N (a b c:Nat): (ln3 a b c).length<=12:=by have:=C'4 a;have:=C'4 b;have:=C'4 c;simp[ln3];omega
theorem J'O (b M A:Nat): (hdr b M A).length<=28:=by
 have:=C'4 M;have:=C'4 A;have h4:(dgL 4).length=1:=rfl;have h6:(dgL 6).length=1:=rfl;have h0:(dgL 0).length=1:=rfl;have h1:(dgL 1).length=1:=rfl;simp[hdr,h4,h6,h0,h1];omega
theorem E'H {f:Nat->List Nat}{B:Nat}(h:∀j,(f j).length<=B): ∀m j,(cat f j m).length<=B*m:=by
 intro m
 induction m with
 | zero=>intro j;simp[cat]
 | succ m ih=>
  intro j;have h1:=h j;have h2:=ih (j+1);rw[cat,l'p,Nat.mul_succ];omega
section
variable {ps:List Nat}
def wdC (ps:List Nat): CNr:=⟨4,List.replicate 6 (0,0),(List.range (ps.length+1)).map (wdP ps),2*(11+ps.length)⟩
theorem M'v {k:Nat}(h:k<=ps.length): pAt (wdC ps).gts k=wdP ps k:=by
 unfold pAt wdC;simp only[List.getElem?_map];rw[List.getElem?_range (by omega)];rfl
theorem Q'R (hl:ps.length<=59)(hp:∀p∈ps,p<4): COk (wdC ps):=by
 refine⟨by simp[wdC],by simp[wdC],by simp[wdC];omega,λk hk=>?_,λx hx=>?_,by simp[wdC];omega⟩
 ·have hk':k<=ps.length:=by simp[wdC]at hk;omega
  obtain⟨w1,w2,w3,-,-⟩:=D'i hp k;have e:(wdC ps).gts[k]=wdP ps k:=by simp[wdC]
  rw[e];simp only[wdC,List.length_replicate];omega
 ·simp only[wdC,List.mem_replicate]at hx;rw[hx.2];simp
def plW (ps:List Nat)(three:Bool)(swap:Nat->Bool)(ν:Nat->Nat): List Nat:=hdr 97 (11+ps.length) (ps.length+1)++(cat (λj=>ln1 (2*(1+j))) 0 4++(cat (λj=>if three then ln3 (2*(5+j)) 0 0 else ln2 (2*(5+j)) 0) 0 6++(ln1 (2*(11+ps.length))++cat (λj=>if swap (ν j) then ln3 (2*(11 + ν j)) (wdP ps (ν j)).2 (wdP ps (ν j)).1 else ln3 (2*(11 + ν j)) (wdP ps (ν j)).1 (wdP ps (ν j)).2) 0 (ps.length+1))))
theorem O'C (hl:ps.length<=59)(three:Bool)(swap:Nat->Bool)(ν:Nat->Nat): (plW ps three swap ν).length<=1000:=by
 unfold plW;have h1:=J'O 97 (11+ps.length) (ps.length+1);have h2:=E'H (f:=λj=>ln1 (2*(1+j))) (λj=>F'w _) 4 0;have h3:=E'H (f:=λj=>if three then ln3 (2*(5+j)) 0 0 else ln2 (2*(5+j)) 0) (B:=12) (λj=>by
  cases three with
  | true=>exact J'N _ _ _
  | false=>exact l'G (O'B _ _) (by omega)) 6 0
 have h4:=F'w (2*(11+ps.length));have h5:=E'H (f:=λj=>if swap (ν j) then ln3 (2*(11 + ν j)) (wdP ps (ν j)).2 (wdP ps (ν j)).1 else ln3 (2*(11 + ν j)) (wdP ps (ν j)).1 (wdP ps (ν j)).2) (B:=12) (λj=>by split <;> exact J'N _ _ _) (ps.length+1) 0;simp only[l'p];omega
theorem L'K (hl:ps.length<=59): (M'l ps).length<=1000:=by
 unfold M'l;have h1:=J'O 105 (11+ps.length) (ps.length+1);have h3:=E'H (f:=λ_=>ln1 0) (λj=>F'w _) 6 0;have h4:=F'w (2*(11+ps.length));have h5:=E'H (f:=gbW ps) (B:=4) (λj=>by
  have b7:∀n,(H'9 n).length<=2:=λn=>by unfold H'9;split <;> simp
  have:=b7 (2*(11+j)-(wdP ps j).1);have:=b7 ((wdP ps j).1-(wdP ps j).2);simp[gbW];omega) (ps.length+1) 0
 simp only[l'p];omega
theorem Q'S (hl:ps.length<=59)(hp:∀p∈ps,p<4): B'a (M's (wdC ps))=plW ps false (λ_=>false) id:=by
 have l1:(wdC ps).gts.length=ps.length+1:=by simp[wdC]
 have l2:(wdC ps).las.length=6:=by simp[wdC]
 have l3:(wdC ps).ni=4:=rfl;have l4:(wdC ps).bad=2*(11+ps.length):=rfl;unfold M's O'u O'L M'r J'U;rw[G'g,B'b,G'g,G'g,B'b,l1,l2,l3,l4,Q'6 (by omega),S'j (by omega) (by omega) (by omega) (by omega) (by omega) (by omega)];unfold plW hdr;have e1:cat (λi=>B'a (inL i)) 0 4=cat (λj=>ln1 (2*(1+j))) 0 4:=C'3 _ _ λi _ hi=>by unfold inL;exact Q'6 (by omega)
 have e2:cat (λi=>B'a (laL (wdC ps) i)) 0 6=cat (λj=>if false=true then ln3 (2*(5+j)) 0 0 else ln2 (2*(5+j)) 0) 0 6:=C'3 _ _ λi _ hi=>by
  have:pAt (wdC ps).las i=(0,0):=by
   unfold pAt wdC;simp only[List.getElem?_replicate];rw[if_pos (by omega)];rfl
  unfold laL tlS;rw[this,l3];simp only[l'y,if_false];rw[show 2*(1+4+i)=2*(5+i) by omega];exact S'N (by omega) (by omega)
 have e3:cat (λi=>B'a (gaL (wdC ps) i)) 0 (ps.length+1)=cat (λj=>if (λ_=>false) (id j)=true then ln3 (2*(11+id j)) (wdP ps (id j)).2 (wdP ps (id j)).1 else ln3 (2*(11+id j)) (wdP ps (id j)).1 (wdP ps (id j)).2) 0 (ps.length+1):=C'3 _ _ λi _ hi=>by
  obtain⟨w1,w2,w3,-,-⟩:=D'i hp i;unfold gaL;rw[M'v (by omega),l2,l3];simp only[l'y,if_false,id];rw[show 2*(1+4+6+i)=2*(11+i) by omega];exact S'O (by omega) (by omega) (by omega)
 rw[e1,e2,e3,show 4+6+(ps.length+1)=11+ps.length by omega];have e0:B'a ⟨#[97,97,103,32]⟩=[97,97,103,32]:=rfl;rw[e0];simp only[List.append_assoc,List.cons_append,List.nil_append]
theorem Q'T (hl:ps.length<=59)(hp:∀p∈ps,p<4): B'a (J'J (wdC ps))=M'l ps:=by
 have l1:(wdC ps).gts.length=ps.length+1:=by simp[wdC]
 have l2:(wdC ps).las.length=6:=by simp[wdC]
 have l3:(wdC ps).ni=4:=rfl;have l4:(wdC ps).bad=2*(11+ps.length):=rfl;unfold J'J O'v M't J'U;rw[G'g,B'b,G'g,B'b,l1,l2,l3,l4,Q'6 (by omega),S'j (by omega) (by omega) (by omega) (by omega) (by omega) (by omega)];unfold M'l hdr;have e2:cat (λi=>B'a (laB (wdC ps) i)) 0 6=cat (λ_=>ln1 0) 0 6:=C'3 _ _ λi _ hi=>by
  have:pAt (wdC ps).las i=(0,0):=by
   unfold pAt wdC;simp only[List.getElem?_replicate];rw[if_pos (by omega)];rfl
  unfold laB tlS;rw[this];exact Q'6 (by omega)
 have e3:cat (λi=>B'a (gaB (wdC ps) i)) 0 (ps.length+1)=cat (gbW ps) 0 (ps.length+1):=C'3 _ _ λi _ hi=>by
  obtain⟨w1,w2,w3,-,-⟩:=D'i hp i;unfold gaB gbW;rw[M'v (by omega),l2,l3,B'b,show 2*(1+4+6+i)=2*(11+i) by omega,M'u (by omega),M'u (by omega)]
 rw[e2,e3,show 4+6+(ps.length+1)=11+ps.length by omega];have e0:B'a ⟨#[97,105,103,32]⟩=[97,105,103,32]:=rfl;rw[e0];simp only[List.append_assoc,List.cons_append,List.nil_append]
def E'N (ps:List Nat)(m:Nat): List Nat:=(List.range m).flatMap λj=>[if j=0 then 1 else 2*(10+j),wdI ps j]
def wdX (ps:List Nat)(bad:Nat): Nt:=⟨4,6,E'N ps (ps.length+1),List.replicate 6 0,List.replicate 6 0,bad⟩
theorem D'b (ps:List Nat): ∀m,(E'N ps m).length=2*m:=by
 intro m
 induction m with
 | zero=>rfl
 | succ m ih=>unfold E'N at ih ⊢;rw[l'B,List.flatMap_append,l'p,ih];simp;omega
theorem O'D (ps:List Nat): ∀m t,t<m->(E'N ps m).getD (2*t) 0=(if t=0 then 1 else 2*(10+t))∧(E'N ps m).getD (2*t+1) 0=wdI ps t:=by
 intro m
 induction m with
 | zero=>intro t h;omega
 | succ m ih=>
  intro t ht;have hl:=D'b ps m;have e:E'N ps (m+1)=E'N ps m++[if m=0 then 1 else 2*(10+m),wdI ps m]:=by
   unfold E'N;rw[l'B,List.flatMap_append];simp
  rw[e];rcases Nat.lt_or_ge t m with h|h
  ·rw[l'r,l'e (by omega),<-l'r,l'r (i:=2*t+1),l'e (by omega),<-l'r];exact ih t h
  ·obtain rfl:t=m:=by omega
   rw[l'r,l'z (by omega),l'r,l'z (by omega),hl];have:2*t+1-2*t=1:=by omega
   rw[Nat.sub_self,this];exact⟨rfl,rfl⟩
theorem M'w {a:Nat}(ha:a<1000): B'a (B'O [a])=ln1 a:=by
 simp[B'O,D'p,B'b,E'G,I'a,G'O,B't ha,ln1]
theorem J'P {a b c:Nat}(ha:a<1000)(hb:b<1000)(hc:c<1000): B'a (B'O [a,b,c])=ln3 a b c:=by
 simp[B'O,D'p,B'b,E'G,I'a,G'O,B't ha,B't hb,B't hc,ln3]
theorem Q'U {a b c d e f:Nat}(ha:a<1000)(hb:b<1000)(hc:c<1000)(hd:d<1000)(he:e<1000)(hf:f<1000): B'a (B'O [a,b,c,d,e,f])=dgL a++32 :: (dgL b++32 :: (dgL c++32 :: (dgL d++32 :: (dgL e++32 :: (dgL f++[10]))))):=by
 simp[B'O,D'p,B'b,E'G,I'a,G'O,B't ha,B't hb,B't hc,B't hd,B't he,B't hf]
theorem R'E (hl:ps.length<=59)(hp:∀p∈ps,p<4): B'a (txS (wdX ps (2*(11+ps.length))))=plW ps true (λj=>j==0) (λj=>ps.length-j):=by
 obtain⟨X,hX⟩:=e' (wdX ps (2*(11+ps.length)));have xa:X.a=ps.length+1:=by rw[hX];unfold Nt.a wdX;simp only;rw[D'b];omega
 have xi:X.inn=4:=by rw[hX];rfl
 have xl:X.la=6:=by rw[hX];rfl
 have xb:X.bad=2*(11+ps.length):=by rw[hX];rfl
 have xn:∀i,X.next.getD i 0=0:=λi=>by rw[hX];simp only[wdX];rw[l'r,List.getElem?_replicate];split <;> rfl
 have xr:∀i,X.reset.getD i 0=0:=λi=>by rw[hX];simp only[wdX];rw[l'r,List.getElem?_replicate];split <;> rfl
 have xg:X.gates=E'N ps (ps.length+1):=by rw[hX];rfl
 rw[<-hX];have e0:B'a (tx0 X)=hdr 97 (11+ps.length) (ps.length+1):=by
  unfold tx0;rw[xa,xi,xl,B'b,Q'U (by omega) (by omega) (by omega) (by omega) (by omega) (by omega),show 4+6+(ps.length+1)=11+ps.length by omega];rfl
 have e1:∀i,i<=4->B'a (txI X i)=hdr 97 (11+ps.length) (ps.length+1)++cat (λj=>ln1 (2*(1+j))) 0 i:=by
  intro i
  induction i with
  | zero=>intro _;simp only[txI,cat,List.append_nil];exact e0
  | succ i ih=>
   intro hi;rw[txI,B'b,ih (by omega),M'w (by omega),F't,List.append_assoc,l'F]
 have e1':=e1 4 (by omega);unfold plW;generalize cat (λj=>ln1 (2*(1+j))) 0 4=C4 at e1' ⊢;generalize hdr 97 (11+ps.length) (ps.length+1)=Hd at e1' ⊢;have e2:∀i,i<=6->B'a (txL X i)=Hd++(C4++cat (λj=>if true=true then ln3 (2*(5+j)) 0 0 else ln2 (2*(5+j)) 0) 0 i):=by
  intro i
  induction i with
  | zero=>intro _;rw[txL,xi,e1',cat,List.append_nil]
  | succ i ih=>
   intro hi;rw[txL,B'b,ih (by omega),xn,xr,xi,J'P (by omega) (by omega) (by omega),F't,List.append_assoc,List.append_assoc,l'F,show 2*(1+4+i)=2*(5+i) by omega,if_pos rfl]
 have e2':=e2 6 (by omega);generalize cat (λj=>if true=true then ln3 (2*(5+j)) 0 0 else ln2 (2*(5+j)) 0) 0 6=C6 at e2' ⊢;have e3:∀i,i<=ps.length+1->B'a (txG X i)=Hd++(C4++(C6++(ln1 (2*(11+ps.length))++cat (λj=>if (ps.length-j==0)=true then ln3 (2*(11+(ps.length-j))) (wdP ps (ps.length-j)).2 (wdP ps (ps.length-j)).1 else ln3 (2*(11+(ps.length-j))) (wdP ps (ps.length-j)).1 (wdP ps (ps.length-j)).2) 0 i))):=by
  intro i
  induction i with
  | zero=>intro _;rw[txG,B'b,xl,xb,M'w (by omega),e2',cat,List.append_nil,List.append_assoc,List.append_assoc]
  | succ i ih=>
   intro hi;have hj:X.a-(i+1)=ps.length-i:=by omega
   obtain⟨g1,g2⟩:=O'D ps (ps.length+1) (ps.length-i) (by omega);obtain⟨w1,w2,w3,-,-⟩:=D'i hp (ps.length-i);rw[txG,B'b,ih (by omega),hj,xi,xl,xg,g1,g2,F't,l'F];simp only[List.append_assoc];congr 5;rw[show 2*(1+4+6+(ps.length-i))=2*(11+(ps.length-i)) by omega];generalize ht:ps.length-i=t at *;have hw:=D'X hp t;unfold wdP
   by_cases e:t=0
   ·subst e;simp only[if_true,beq_self_eq_true];exact J'P (by omega) (by omega) (by unfold wdI;omega)
   ·simp only[if_neg e,l'A.2 e,l'y,if_false];exact J'P (by omega) (by omega) (by unfold wdI;omega)
 unfold txS;rw[xa];exact e3 _ (l'H _)
theorem Q'V {s:ByteArray}(hl:ps.length<=59)(hp:∀p∈ps,p<4)(three:Bool)(swap:Nat->Bool)(ν:Nat->Nat)(hν:∀j,j<=ps.length->ν j<=ps.length)(hν2:∀i j,i<=ps.length->j<=ps.length->ν i = ν j->i=j)(hν3:∀j,j<=ps.length->∃i,i<=ps.length∧ν i=j)(h:B'a s=plW ps three swap ν): rdS s = .ok (ckT (wdN ps))∧J'S s:=by
 have hs:s.size=(plW ps three swap ν).length:=by rw[<-h,D'N]
 have a:=At.all s;rw[h]at a;have hs2:s.size<=1000:=by rw[hs];exact O'C hl _ _ _
 obtain⟨r1,r2⟩:=L'H hl hp three swap ν hν hν2 hν3 a hs hs2;refine⟨r1,λD hD=>?_⟩;have e0:=L'D (.inl rfl) (by omega) (by omega) (At.app.1 a).1;rw[e0]at hD ⊢;simp only at hD ⊢;rw[show ((97:Nat)==105)=false from rfl]at hD;rw[hD,L'E (A:=ps.length+1) (by omega) (by show 11+ps.length = _;omega) rfl rfl rfl rfl rfl rfl];exact r2
theorem R'F (hl:ps.length<=59)(hp:∀p∈ps,p<4): rdS (txS (wdX ps (2*(11+ps.length)))) = .ok (ckT (wdN ps))∧J'S (txS (wdX ps (2*(11+ps.length)))):=
 Q'V hl hp true _ (λj=>ps.length-j) (λj hj=>by omega) (λi j hi hj h=>by omega) (λj hj=>⟨ps.length-j,by omega,by omega⟩) (R'E hl hp)
theorem Q'W (hl:ps.length<=59)(hp:∀p∈ps,p<4): rdS (M's (wdC ps)) = .ok (ckT (wdN ps))∧J'S (M's (wdC ps)):=
 Q'V hl hp false _ id (λj hj=>hj) (λi j hi hj h=>h) (λj hj=>⟨j,hj,rfl⟩) (Q'S hl hp)
theorem R'G (hl:ps.length<=59)(hp:∀p∈ps,p<4): rdS (J'J (wdC ps)) = .ok (ckT (wdN ps))∧J'S (J'J (wdC ps)):=by
 have h:=Q'T hl hp;have hs:(J'J (wdC ps)).size=(M'l ps).length:=by rw[<-h,D'N]
 have a:=At.all (J'J (wdC ps));rw[h]at a;have hs2:(J'J (wdC ps)).size<=1000:=by rw[hs];exact L'K hl
 obtain⟨r1,r2⟩:=Q'J hl hp a hs hs2;refine⟨r1,λD hD=>?_⟩;have e0:=L'D (.inr rfl) (by omega) (by omega) (At.app.1 a).1;rw[e0]at hD ⊢;simp only at hD ⊢;rw[show ((105:Nat)==105)=true from rfl]at hD;rw[hD,L'E (A:=ps.length+1) (by omega) (by show 11+ps.length = _;omega) rfl rfl rfl rfl rfl rfl];exact r2
end
end Go.Proofs.YtimdkminagnhgabGreatDoor
