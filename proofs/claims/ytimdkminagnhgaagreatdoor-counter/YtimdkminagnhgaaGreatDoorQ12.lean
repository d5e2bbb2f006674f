import Derived.Test.YtimdkminagnhgaaGreatDoorQ11
set_option linter.all false
namespace Go.Proofs.YtimdkminagnhgaaGreatDoor
open Go.Vm Go.Proofs
set_option maxHeartbeats 1000000
section
variable {H:Type}{O:HI H}{ro:Nat}{c:A'Z H}
theorem M'O {n:Nat}(h:n<9223372036854775808): IntKind.i64.wrap (n:Int)=n:=w'j
theorem C'r (a:Nat)(ha:a<9223372036854775808): C'k .and .i64 (a:Int) 1=some (.int .i64 ((a%2:Nat):Int)):=by
 have h1:(BitVec.ofInt IntKind.i64.bits (a:Int) &&& BitVec.ofInt IntKind.i64.bits 1).toNat=a%2:=by
  have e1:BitVec.ofInt IntKind.i64.bits (a:Int)=BitVec.ofNat 64 a:=by
   change BitVec.ofInt 64 (a:Int) = _;exact BitVec.ofInt_natCast 64 a
  have e2:BitVec.ofInt IntKind.i64.bits 1=BitVec.ofNat 64 1:=rfl;rw[e1,e2];change (BitVec.ofNat 64 a &&& BitVec.ofNat 64 1).toNat = _;rw[BitVec.toNat_and,BitVec.toNat_ofNat,BitVec.toNat_ofNat];have:a%2^64=a:=Nat.mod_eq_of_lt (by omega);rw[this];exact Nat.and_one_is_mod a
 simp only[C'k];rw[h1,M'O (by omega)]
theorem E'Y (h:H)(b:Nat): C'e Tryz.prog O 132 (.pointer (some ⟨b,0,none⟩)) h=(cellsA O h b 0 2).map λl=>.agg l.toArray:=by
 have hi:(Tryz.prog.info? 132).map (·.size)=some 2:=by kernel_rfl
 cases hx:Tryz.prog.info? 132 with
 | none=>rw[hx]at hi;simp at hi
 | some i=>
  rw[hx]at hi;simp only[l'l,l'a]at hi;simp only[C'e,Tryz.underlying132,hx,hi]
theorem E'Z (h:H)(b:Nat): C'e Tryz.prog O 37 (.pointer (some ⟨b,0,none⟩)) h=(cellsA O h b 0 2).map λl=>.agg l.toArray:=by
 have hi:(Tryz.prog.info? 37).map (·.size)=some 2:=by kernel_rfl
 cases hx:Tryz.prog.info? 37 with
 | none=>rw[hx]at hi;simp at hi
 | some i=>
  rw[hx]at hi;simp only[l'l,l'a]at hi;simp only[C'e,Tryz.underlying37,hx,hi]
theorem E'm (L:O.Law)(w:Own)(h:H)(hro:ro<=O.next h)(z1 z2 x y:Value)(t:Tag):
  ∃h',A'8 O (O.new h [z1,z2]) (O.next h) 0 [x,y]=some h'∧Bx O ro (w.set (O.next h) t) h' t (O.next h) [x,y]∧(∀K,Ch O K w h (w.set (O.next h) t) h')∧ro<=O.next h':=by
 obtain⟨h',e1,e2,e3⟩:=Bx.puts L (K:=λ_=>True) (ro:=ro) trivial [x,y] 0 (O.new h [z1,z2]) [z1,z2] (Bx.new L w h hro t [z1,z2]) (by simp);refine⟨h',e1,by simpa using e2,λK=>?_,l'G hro (l'G (by rw[L.next_new];omega) e3.nx)⟩;have hb:=(Bx.new L (ro:=ro) w h hro t [z1,z2]);obtain⟨h2,f1,f2,f3⟩:=Bx.puts L (K:=λu=>u=t) (ro:=ro) rfl [x,y] 0 (O.new h [z1,z2]) [z1,z2] hb (by simp);rw[e1]at f1;simp only[l'a]at f1;subst f1;have key:∀b,b<O.next h->(∀o,O.cell h' b o=O.cell (O.new h [z1,z2]) b o)∧O.alive h' b=O.alive (O.new h [z1,z2]) b:=by
  intro b hb';have p1:A'8 O (O.new h [z1,z2]) (O.next h) 0 [x,y]=some (O.put (O.put (O.new h [z1,z2]) (O.next h) 0 x) (O.next h) 1 y):=by
   have k0:O.cell (O.new h [z1,z2]) (O.next h) 0=some z1:=by rw[L.cell_new,if_pos rfl];rfl
   have k1:O.cell (O.put (O.new h [z1,z2]) (O.next h) 0 x) (O.next h) 1=some z2:=by rw[L.cell_put _ _ _ _ _ k0,if_neg (by simp),L.cell_new,if_pos rfl];rfl
   simp[A'8,k0,k1]
  rw[e1]at p1;simp only[l'a]at p1;have k0:O.cell (O.new h [z1,z2]) (O.next h) 0=some z1:=by rw[L.cell_new,if_pos rfl];rfl
  have k1:O.cell (O.put (O.new h [z1,z2]) (O.next h) 0 x) (O.next h) 1=some z2:=by rw[L.cell_put _ _ _ _ _ k0,if_neg (by simp),L.cell_new,if_pos rfl];rfl
  rw[p1];refine⟨λo=>?_,by rw[L.alive_put,L.alive_put]⟩;rw[L.cell_put _ _ _ _ _ k1,if_neg (by intro q;omega),L.cell_put _ _ _ _ _ k0,if_neg (by intro q;omega)]
 have cn:=Ch.new L K w h t [z1,z2];refine⟨l'G cn.nx e3.nx,cn.ow,λb hb' hk=>?_⟩;have a1:=cn.fr b hb' hk;have a2:=key b hb';exact⟨λo=>(a2.1 o).trans (a1.1 o),a2.2.trans a1.2⟩
structure Us where
 l:Int
 p:Nat
structure LaL where
 l:Int
 n:Us
 z:Nat
structure GaL where
 g:Us
 a:Us
 b:Us
structure Net where
 given:List Bool
 ins:List Int
 las:List LaL
 outs:List Us
 bads:List Us
 gates:List GaL
def iv (n:Int): Value:=.int .i64 n
def Us.cells (u:Us): List Value:=[.int .i64 u.l,.int .i64 u.p]
def Us.val (u:Us): Value:=.agg #[.int .i64 u.l,.int .i64 u.p]
def LaL.cells (x:LaL): List Value:=[.int .i64 x.l,.int .i64 x.n.l,.int .i64 x.n.p,.int .i64 x.z]
def GaL.cells (x:GaL): List Value:=[.int .i64 x.g.l,.int .i64 x.g.p,.int .i64 x.a.l,.int .i64 x.a.p,.int .i64 x.b.l,.int .i64 x.b.p]
structure NL (O:HI H) (ro:Nat)(w:Own)(h:H) (n:Nat)(N:Net)(v0 v1 v2 v3 v4 v5:Value):Prop where
 m:Bx O ro w h (2,1000) n [v0,v1,v2,v3,v4,v5]
 s0:Sl O ro w h (2,0) 1 v0 (N.given.map Value.bool)
 s1:Sl O ro w h (2,1) 1 v1 (N.ins.map iv)
 s2:Sl O ro w h (2,2) 4 v2 (N.las.flatMap LaL.cells)
 s3:Sl O ro w h (2,3) 2 v3 (N.outs.flatMap Us.cells)
 s4:Sl O ro w h (2,4) 2 v4 (N.bads.flatMap Us.cells)
 s5:Sl O ro w h (2,5) 6 v5 (N.gates.flatMap GaL.cells)
theorem NL.ch (L:O.Law){K:Tag->Prop}{w w':Own}{h h':H}{n:Nat}{N:Net}{v0 v1 v2 v3 v4 v5:Value}(x:NL O ro w h n N v0 v1 v2 v3 v4 v5)(a:Ch O K w h w' h')(hk:∀o,¬K (2,o):=by simp): NL O ro w' h' n N v0 v1 v2 v3 v4 v5:=
 ⟨x.m.ch L a (hk _),x.s0.ch L a (hk _),x.s1.ch L a (hk _),x.s2.ch L a (hk _),x.s3.ch L a (hk _),x.s4.ch L a (hk _),x.s5.ch L a (hk _)⟩
structure ST (O:HI H) (ro:Nat)(w:Own)(h:H) (r:Nat)(s:ByteArray)(R:RS) (n:Nat)(N:Net):Prop where
 rb:RB O ro w h r s R
 nl:∃v0 v1 v2 v3 v4 v5,NL O ro w h n N v0 v1 v2 v3 v4 v5
 lo:ro<=O.next h
def Kc (cs:List Nat)(n:Nat)(u:Tag): Prop:=u.1∈cs∨(100<=u.1∧u.1<100+n)
abbrev KN (n:Nat): Tag->Prop:=Kc [1,2] n
theorem Kc.mono {cs cs':List Nat}{n n':Nat}{w w':Own}{h h':H}(a:Ch O (Kc cs n) w h w' h')(h1:cs.all (cs'.contains ·)=true)(h2:n<=n'): Ch O (Kc cs' n') w h w' h':=by
 refine a.mono λt ht=>?_;rcases ht with ht|ht
 ·left;have:=l'D.1 h1 _ ht;simpa using this
 ·right;omega
theorem Kc.one {cs:List Nat}{n:Nat}{t:Tag}{w w':Own}{h h':H}(a:Ch O (λu=>u=t) w h w' h')(h1:Kc cs n t): Ch O (Kc cs n) w h w' h':=a.mono (by rintro u rfl;exact h1)
theorem ST.ch (L:O.Law){K:Tag->Prop}{w w':Own}{h h':H}{r:Nat}{s:ByteArray}{R:RS}{n:Nat}{N:Net}(x:ST O ro w h r s R n N)(a:Ch O K w h w' h')(h1:∀o,¬K (1,o):=by simp)(h2:∀o,¬K (2,o):=by simp): ST O ro w' h' r s R n N:=by
 obtain⟨rb,⟨v0,v1,v2,v3,v4,v5,nl⟩,lo⟩:=x;exact⟨rb.ch L a (h1 _),⟨v0,v1,v2,v3,v4,v5,nl.ch L a h2⟩,l'G lo a.nx⟩
theorem ST.rd (L:O.Law){w w':Own}{h h':H}{r:Nat}{s:ByteArray}{R R':RS}{n:Nat}{N:Net}(x:ST O ro w h r s R n N)(y:RB O ro w' h' r s R')(a:Ch O (λu=>u=(1,1000)) w h w' h'): ST O ro w' h' r s R' n N:=by
 obtain⟨rb,⟨v0,v1,v2,v3,v4,v5,nl⟩,lo⟩:=x;exact⟨y,⟨v0,v1,v2,v3,v4,v5,nl.ch L a⟩,l'G lo a.nx⟩
theorem chR {w w':Own}{h h':H}(a:Ch O (λu=>u=(1,1000)) w h w' h')(n:Nat){cs:List Nat}(h1:1∈cs:=by decide): Ch O (Kc cs n) w h w' h':=Kc.one a (.inl h1)
theorem chN {w w':Own}{h h':H}{o:Nat}(a:Ch O (λu=>u=(2,o)) w h w' h')(n:Nat): Ch O (KN n) w h w' h':=Kc.one a (.inl (by simp))
theorem chL {w w':Own}{h h':H}{d o:Nat}(a:Ch O (λu=>u=(d,o)) w h w' h')(n:Nat)(hd:100<=d∧d<100+n){cs:List Nat}: Ch O (Kc cs n) w h w' h':=Kc.one a (.inr hd)
def Net.has (N:Net)(l:Int): Bool:=decide (0<=l)&&decide (l/2<(N.given.length:Int))
def Net.isGiven (N:Net)(l:Int): Bool:=N.has l&&(N.given[(l/2).toNat]?).getD false
def Net.give (N:Net)(l:Int): Net:=if N.has l then { N with given:=N.given.set (l/2).toNat true } else N
attribute [local simp] A'a A'b reg to too A'd A'q A'h mv' nl' fl' ld' ln' mk' ia' ik' ix' B'F B'G aLd B'h A'w B'c B'x A'4 aUn unA ev A'l isB A'0 C'k cIf A'B A'f A'g A'1 A'i rvE B'q aSt Value.cells B'g A'p Instr.fill A'e A'n A'x A'j ptr undef B'o B'y A'k B's A's B'T A'D B'C
theorem P'm (C:LP' O ro c){w:Own}{h:H}{n:Nat}{N:Net}{v0 v1 v2 v3 v4 v5:Value}(x:NL O ro w h n N v0 v1 v2 v3 v4 v5)(l:Int): c 149 [ptr n,.int .i64 l] h=some (.bool (N.has l),h):=by
 refine C.eq (P'e O ro) rfl rfl (f'f ?_);obtain⟨a,cp,rfl⟩:=x.s0.len (by omega) N.given.length (by simp);have m0:=x.m.get 0 _ rfl;unfold Net.has
 by_cases h0:0<=l
 ·have e1:l.fdiv 2=l/2:=Int.fdiv_eq_ediv_of_nonneg l (by omega)
  by_cases h1:l/2<(N.given.length:Int)
  ·simp[T'X,ZdL,ZdM,h0,m0,IntKind.bits,e1,h1]
  ·simp[T'X,ZdL,ZdM,h0,m0,IntKind.bits,e1,h1]
 ·simp[T'X,ZdL,ZdM,h0]
theorem G'E (C:LP' O ro c){w:Own}{h:H}{n:Nat}{N:Net}{v0 v1 v2 v3 v4 v5:Value}(x:NL O ro w h n N v0 v1 v2 v3 v4 v5)(l:Int): c 153 [ptr n,.int .i64 l] h=some (.bool (N.isGiven l),h):=by
 refine C.eq (P'f O ro) rfl rfl (f'f ?_);have hh:=P'm C x l;have m0:=x.m.get 0 _ rfl;unfold ptr at hh;unfold Net.isGiven
 by_cases h0:N.has l=true
 ·have h1:0<=l∧l/2<(N.given.length:Int):=by simpa [Net.has]using h0
  have e1:l.fdiv 2=l/2:=Int.fdiv_eq_ediv_of_nonneg l (by omega);obtain⟨b,cp,rfl,y⟩:=x.s0.blk (by omega) N.given.length (by simp) (by omega);have hq:(l/2).toNat<N.given.length:=by omega
  have hc:=y.get (l/2).toNat (.bool N.given[(l/2).toNat]) (by simp[hq]);have k0:0<=l/2:=by omega
  simp[T'7,Zd4,Zd5,hh,h0,m0,IntKind.bits,e1,k0,h1.2,hc,hq]
 ·simp[T'7,Zd4,Zd5,hh,h0]
theorem S'o (C:LP' O ro c)(L:O.Law){w:Own}{h:H}{r n:Nat}{s:ByteArray}{R:RS}{N:Net}(x:ST O ro w h r s R n N)(l:Int):
  ∃h',c 89 [ptr n,.int .i64 l] h=some (.tuple #[],h')∧ST O ro w h' r s R n (N.give l)∧Ch O (KN 0) w h w h':=by
 obtain⟨rb,⟨v0,v1,v2,v3,v4,v5,nl⟩,lo⟩:=x;have hh:=P'm C nl l;have m0:=nl.m.get 0 _ rfl;unfold ptr at hh;unfold Net.give
 by_cases h0:N.has l=true
 ·have h1:0<=l∧l/2<(N.given.length:Int):=by simpa [Net.has]using h0
  have e1:l.fdiv 2=l/2:=Int.fdiv_eq_ediv_of_nonneg l (by omega);obtain⟨m,s0,s1,s2,s3,s4,s5⟩:=nl;have hs0:=s0;obtain⟨b,cp,rfl,y⟩:=s0.blk (by omega) N.given.length (by simp) (by omega);have hq:(l/2).toNat<N.given.length:=by omega
  have hc:=y.get (l/2).toNat (.bool N.given[(l/2).toNat]) (by simp[hq]);have k0:0<=l/2:=by omega
  have hro:¬b<ro:=by have:=y.lo;omega
  have y2:=y.put L (l/2).toNat (by simpa using hq) (.bool true);have c2:=Ch.put L (K:=λu=>u=(2,0)) y (l/2).toNat (by simpa using hq) (.bool true) rfl;refine⟨O.put h b (l/2).toNat (.bool true),?_,?_,chN c2 0⟩
  ·refine C.eq (O'p O ro) rfl rfl (f'f ?_);simp[F89,Zco,Zcp,hh,h0,m0,IntKind.bits,e1,k0,h1.2,hc,hq,hro,A'8]
  ·rw[if_pos h0];refine⟨rb.ch L c2,⟨_,v1,v2,v3,v4,v5,⟨m.ch L c2,?_,s1.ch L c2,s2.ch L c2,s3.ch L c2,s4.ch L c2,s5.ch L c2⟩⟩,by rw[L.next_put];exact lo⟩;rcases hs0 with ⟨e,_⟩|⟨b',m',cp',e,ec,el,en,y'⟩
   ·simp at e
   ·simp only[Value.slice.injEq,l'a,Addr.mk.injEq]at e;obtain⟨⟨rfl,_⟩,rfl,rfl⟩:=e;refine .inr ⟨b,N.given.length,cp,rfl,ec,by simp,?_,?_⟩
    ·intro q;have:=congrArg List.length q;simp only[List.length_map,List.length_set,l'o]at this;omega
    ·simpa [List.map_set]using y2
 ·rw[if_neg h0];refine⟨h,?_,⟨rb,⟨v0,v1,v2,v3,v4,v5,nl⟩,lo⟩,Ch.refl _ _ _⟩;refine C.eq (O'p O ro) rfl rfl (f'f ?_);simp[F89,Zco,Zcp,hh,h0]
def C'j (N:Net)(s:ByteArray)(R:RS): Us×RS:=
 let q:=D'0 s R
 (⟨q.1,R.pos⟩,if N.has q.1 then q.2 else fl q.2 7 R.pos)
theorem K'l (C:LP' O ro c)(L:O.Law){w:Own}{h:H}{r n:Nat}{s:ByteArray}{R:RS}{N:Net}(x:ST O ro w h r s R n N)(hs:s.size<=1000)(hp:R.pos<=s.size):
  ∃w' h',c 150 [ptr n,ptr r] h=some ((C'j N s R).1.val,h')∧ST O ro w' h' r s (C'j N s R).2 n N∧Ch O (Kc [1] 1) w h w' h':=by
 obtain⟨b,hb⟩:=e' (O.next h);obtain⟨h1,hh1⟩:=e' (O.new h [.int .i64 0,.int .i64 0]);obtain⟨w1,hw1⟩:=e' (w.set b (100,0));have c1:∀K,Ch O K w h w1 h1:=λK=>by rw[hh1,hw1,hb];exact Ch.new L _ _ _ _ _
 have y1:Bx O ro w1 h1 (100,0) b [.int .i64 0,.int .i64 0]:=by rw[hh1,hw1,hb];exact Bx.new L _ _ x.lo _ _
 have x1:=x.ch L (c1 λ_=>False) (by simp) (by simp);have d1:=x1.rb.get 1 _ rfl;obtain⟨h2,hc2,rb2,c2⟩:=S'm C L x1.rb hs hp;have x2:=x1.rd L rb2 c2;have y2:=y1.ch L c2;have hle:=H'C s R;obtain⟨v0,v1,v2,v3,v4,v5,nl2⟩:=x2.nl;have hhas:=P'm C nl2 (D'0 s R).1;unfold C'j;simp only;generalize D'0 s R=q at hc2 rb2 x2 hle hhas;unfold ptr at hc2 hhas
 by_cases hq:N.has q.1=true
 ·obtain⟨h3,e3,y3,c3⟩:=Bx.puts L (K:=λu=>u=(100,0)) rfl [.int .i64 q.1,.int .i64 R.pos] 0 h2 _ y2 (by simp);refine⟨w1,h3,?_,by rw[if_pos hq];exact x2.ch L c3,((c1 _).trans (chR c2 _)).trans (chL c3 1 (by omega))⟩;refine C.eq (K'h O ro) rfl rfl (f'f ?_);have hl:cellsA O h3 b 0 2=some [.int .i64 q.1,.int .i64 R.pos]:=by simpa using y3.all
  have hro:¬b<ro:=by have:=y3.lo;omega
  simp[T'6,ZdN,ZdO,ZdP,ZdQ,ZdR,ZdS,<-hb,<-hh1,d1,hc2,hhas,hq,e3,hro,E'Y,hl,Us.val,List.zipIdx]
 ·obtain⟨h4,hc4,rb4,c4⟩:=I'g C L rb2 7 R.pos;have x4:=x2.rd L rb4 c4;have y4:=y2.ch L c4;obtain⟨h3,e3,y3,c3⟩:=Bx.puts L (K:=λu=>u=(100,0)) rfl [.int .i64 q.1,.int .i64 R.pos] 0 h4 _ y4 (by simp);refine⟨w1,h3,?_,by rw[if_neg hq];exact x4.ch L c3,(((c1 _).trans (chR c2 _)).trans (chR c4 _)).trans (chL c3 1 (by omega))⟩;refine C.eq (K'h O ro) rfl rfl (f'f ?_);have hl:cellsA O h3 b 0 2=some [.int .i64 q.1,.int .i64 R.pos]:=by simpa using y3.all
  have hro:¬b<ro:=by have:=y3.lo;omega
  have hc4':c 88 [Value.pointer (some ⟨r,0,none⟩),.int .i64 7,.int .i64 R.pos] h2=some (.tuple #[],h4):=hc4;simp[T'6,ZdN,ZdO,ZdP,ZdQ,ZdR,ZdS,<-hb,<-hh1,d1,hc2,hhas,hq,hc4',e3,hro,E'Y,hl,Us.val,List.zipIdx]
end
end Go.Proofs.YtimdkminagnhgaaGreatDoor
namespace Go.Proofs.YtimdkminagnhgaaGreatDoor
open Go.Vm Go.Proofs
set_option maxHeartbeats 1000000
theorem A'E (k:IntKind)(a b:Int): C'k .add k a b=some (.int k (k.wrap (a+b))):=rfl
theorem A'F (k:IntKind)(a b:Int): C'k .sub k a b=some (.int k (k.wrap (a-b))):=rfl
theorem A'G (k:IntKind)(a b:Int): C'k .mul k a b=some (.int k (k.wrap (a*b))):=rfl
theorem A'H (k:IntKind)(a b:Int): C'k .eql k a b=some (.bool (a==b)):=rfl
theorem A'I (k:IntKind)(a b:Int): C'k .neq k a b=some (.bool (a != b)):=rfl
theorem A'J (k:IntKind)(a b:Int): C'k .lss k a b=some (.bool (decide (a<b))):=rfl
theorem A'K (k:IntKind)(a b:Int): C'k .leq k a b=some (.bool (decide (a<=b))):=rfl
theorem A'L (k:IntKind)(a b:Int): C'k .gtr k a b=some (.bool (decide (b<a))):=rfl
theorem A'M (k:IntKind)(a b:Int): C'k .geq k a b=some (.bool (decide (b<=a))):=rfl
theorem A'N (k:IntKind)(a:Int): (Value.int k a).cells = #[.int k a]:=rfl
theorem A't (b:Bool): (Value.bool b).cells = #[.bool b]:=rfl
theorem A'O (x:Array Value): (Value.agg x).cells=x:=rfl
theorem A'P (x:ByteArray): (Value.string x).cells = #[.string x]:=rfl
theorem A'Q (x:Option Addr): (Value.pointer x).cells = #[.pointer x]:=rfl
theorem A'9 (x:Option Addr)(n m:Nat): (Value.slice x n m).cells = #[.slice x n m]:=rfl
theorem A'R (k:IntKind)(a:Int): B'g (Value.int k a)=true:=rfl
theorem A'u (b:Bool): B'g (Value.bool b)=true:=rfl
theorem A'S (x:ByteArray): B'g (Value.string x)=true:=rfl
theorem A'T (x:Option Addr): B'g (Value.pointer x)=true:=rfl
theorem B'a (x:Option Addr)(n m:Nat): B'g (Value.slice x n m)=true:=rfl
theorem A'U (k:IntKind)(a:Int): B'q (Value.int k a)=false:=rfl
theorem A'v (b:Bool): B'q (Value.bool b)=false:=rfl
theorem A'V (x:Array Value): B'q (Value.agg x)=false:=rfl
theorem A'W (x:ByteArray): B'q (Value.string x)=false:=rfl
theorem A'X (x:Option Addr): B'q (Value.pointer x)=false:=rfl
theorem B'b (x:Option Addr)(n m:Nat): B'q (Value.slice x n m)=false:=rfl
section
variable {H:Type}{O:HI H}{ro:Nat}{c:A'Z H}
attribute [local simp] A'a A'b reg to too A'd A'q A'h mv' nl' fl' ld' ln' mk' ia' ik' ix' B'F B'G aLd B'h A'w B'c B'x A'4 aUn unA ev A'l isB A'0 A'E A'F A'G A'H A'I A'J A'K A'L A'M cIf A'B A'f A'g A'1 A'i rvE B'q aSt Value.cells B'g A'p Instr.fill A'e A'n A'x A'j ptr undef B'o B'y A'k B's A's B'T A'D B'C A'y B'p rangeA
theorem A'A {α:Type}(f:α->List Value)(k:Nat)(hf:∀x,(f x).length=k): ∀l:List α,(l.flatMap f).length=l.length*k:=by
 intro l
 induction l with
 | nil=>simp
 | cons x l ih=>simp[List.flatMap_cons,ih,hf,Nat.add_mul,Nat.add_comm]
theorem ST.app1 (L:O.Law){w:Own}{h:H}{r n:Nat}{s:ByteArray}{R:RS}{N:Net}(x:ST O ro w h r s R n N)(e:Int)(hl:N.ins.length<=10000):
  ∃v v' h1 w1,O.cell h n 1=some v∧D'd O ro 1 8 v (.slice (some ⟨O.next h,0,some 1⟩) 1 2) (O.new h [.int .i64 e])=some (v',h1)∧(v'.cells = #[v']∧B'g v'=true∧B'q v'=false)∧O.cell h1 n 1=some v∧¬n<ro ∧
   ST O ro w1 (O.put h1 n 1 v') r s R n { N with ins:=N.ins++[e] }∧Ch O (KN 0) w h w1 (O.put h1 n 1 v'):=by
 obtain⟨rb,⟨v0,v1,v2,v3,v4,v5,⟨m,s0,s1,s2,s3,s4,s5⟩⟩,lo⟩:=x;obtain⟨v',h1,w1,e1,e2,c1,lo1⟩:=C'A L (bytes:=8) lo s1 (new:=[.int .i64 e]) (by omega) rfl (by simp;omega) (by simp;omega);have m1:=m.ch L c1;have m2:=m1.put L 1 (by simp) v';have c2:=Ch.put L (K:=λu=>u=(2,1000)) m1 1 (by simp) v' rfl;refine⟨v1,v',h1,w1,m.get 1 _ rfl,e1,e2.flat,m1.get 1 _ rfl,by have:=m.lo;omega,⟨(rb.ch L c1).ch L c2,⟨v0,v',v2,v3,v4,v5,⟨by simpa using m2,(s0.ch L c1).ch L c2,?_,(s2.ch L c1).ch L c2,(s3.ch L c1).ch L c2,(s4.ch L c1).ch L c2,(s5.ch L c1).ch L c2⟩⟩,by rw[L.next_put];exact lo1⟩,(chN c1 0).trans (chN c2 0)⟩;have:=e2.ch L c2;simpa [iv]using this
theorem ST.app2 (L:O.Law){w:Own}{h:H}{r n:Nat}{s:ByteArray}{R:RS}{N:Net}(x:ST O ro w h r s R n N)(e:LaL)(hl:N.las.length<=10000):
  ∃v v' h1 w1,O.cell h n 2=some v∧D'd O ro 4 32 v (.slice (some ⟨O.next h,0,some 4⟩) 1 2) (O.new h e.cells)=some (v',h1)∧(v'.cells = #[v']∧B'g v'=true∧B'q v'=false)∧O.cell h1 n 2=some v∧¬n<ro ∧
   ST O ro w1 (O.put h1 n 2 v') r s R n { N with las:=N.las++[e] }∧Ch O (KN 0) w h w1 (O.put h1 n 2 v'):=by
 obtain⟨rb,⟨v0,v1,v2,v3,v4,v5,⟨m,s0,s1,s2,s3,s4,s5⟩⟩,lo⟩:=x;have hlen:=A'A LaL.cells 4 (λ_=>rfl) N.las;obtain⟨v',h1,w1,e1,e2,c1,lo1⟩:=C'A L (bytes:=32) lo s2 (new:=e.cells) (by omega) rfl (by omega) (by omega);have m1:=m.ch L c1;have m2:=m1.put L 2 (by simp) v';have c2:=Ch.put L (K:=λu=>u=(2,1000)) m1 2 (by simp) v' rfl;refine⟨v2,v',h1,w1,m.get 2 _ rfl,e1,e2.flat,m1.get 2 _ rfl,by have:=m.lo;omega,⟨(rb.ch L c1).ch L c2,⟨v0,v1,v',v3,v4,v5,⟨by simpa using m2,(s0.ch L c1).ch L c2,(s1.ch L c1).ch L c2,?_,(s3.ch L c1).ch L c2,(s4.ch L c1).ch L c2,(s5.ch L c1).ch L c2⟩⟩,by rw[L.next_put];exact lo1⟩,(chN c1 0).trans (chN c2 0)⟩;have:=e2.ch L c2;simpa using this
theorem ST.app5 (L:O.Law){w:Own}{h:H}{r n:Nat}{s:ByteArray}{R:RS}{N:Net}(x:ST O ro w h r s R n N)(e:GaL)(hl:N.gates.length<=10000):
  ∃v v' h1 w1,O.cell h n 5=some v∧D'd O ro 6 48 v (.slice (some ⟨O.next h,0,some 6⟩) 1 2) (O.new h e.cells)=some (v',h1)∧(v'.cells = #[v']∧B'g v'=true∧B'q v'=false)∧O.cell h1 n 5=some v∧¬n<ro ∧
   ST O ro w1 (O.put h1 n 5 v') r s R n { N with gates:=N.gates++[e] }∧Ch O (KN 0) w h w1 (O.put h1 n 5 v'):=by
 obtain⟨rb,⟨v0,v1,v2,v3,v4,v5,⟨m,s0,s1,s2,s3,s4,s5⟩⟩,lo⟩:=x;have hlen:=A'A GaL.cells 6 (λ_=>rfl) N.gates;obtain⟨v',h1,w1,e1,e2,c1,lo1⟩:=C'A L (bytes:=48) lo s5 (new:=e.cells) (by omega) rfl (by omega) (by omega);have m1:=m.ch L c1;have m2:=m1.put L 5 (by simp) v';have c2:=Ch.put L (K:=λu=>u=(2,1000)) m1 5 (by simp) v' rfl;refine⟨v5,v',h1,w1,m.get 5 _ rfl,e1,e2.flat,m1.get 5 _ rfl,by have:=m.lo;omega,⟨(rb.ch L c1).ch L c2,⟨v0,v1,v2,v3,v4,v',⟨by simpa using m2,(s0.ch L c1).ch L c2,(s1.ch L c1).ch L c2,(s2.ch L c1).ch L c2,(s3.ch L c1).ch L c2,(s4.ch L c1).ch L c2,?_⟩⟩,by rw[L.next_put];exact lo1⟩,(chN c1 0).trans (chN c2 0)⟩;have:=e2.ch L c2;simpa using this
theorem C'B {N:Net}{s:ByteArray}{R:RS}(hp:R.pos<=s.size): (C'j N s R).2.pos<=s.size:=by
 have:=F'9 (s:=s) (R:=R) hp;unfold C'j;simp only;split
 ·exact this
 ·rw[F'D];exact this
theorem S'p (N:Net)(s:ByteArray)(R:RS): ∃k:Nat,k<10000∧(C'j N s R).1=⟨(k:Int),R.pos⟩:=⟨(D'0 s R).1,H'C s R,rfl⟩
def D'm (N:Net)(s:ByteArray)(R:RS): Us×Net×RS:=
 let u:=C'j N s R
 (u.1,N.give u.1.l,if u.1.l%2=1∨N.isGiven u.1.l=true then fl u.2 8 R.pos else u.2)
theorem E'E {N:Net}{s:ByteArray}{R:RS}(hp:R.pos<=s.size): (D'm N s R).2.2.pos<=s.size:=by
 have:=C'B (N:=N) (s:=s) (R:=R) hp;unfold D'm;simp only;split
 ·rw[F'D];exact this
 ·exact this
theorem P'n (C:LP' O ro c)(L:O.Law){w:Own}{h:H}{r n:Nat}{s:ByteArray}{R:RS}{N:Net}(x:ST O ro w h r s R n N)(hs:s.size<=1000)(hp:R.pos<=s.size):
  ∃w' h',c 93 [ptr n,ptr r] h=some ((D'm N s R).1.val,h')∧ST O ro w' h' r s (D'm N s R).2.2 n (D'm N s R).2.1∧Ch O (KN 2) w h w' h':=by
 obtain⟨b,hb⟩:=e' (O.next h);obtain⟨h1,hh1⟩:=e' (O.new h [.int .i64 0,.int .i64 0]);obtain⟨w1,hw1⟩:=e' (w.set b (101,0));have c1:∀K,Ch O K w h w1 h1:=λK=>by rw[hh1,hw1,hb];exact Ch.new L _ _ _ _ _
 have y1:Bx O ro w1 h1 (101,0) b [.int .i64 0,.int .i64 0]:=by rw[hh1,hw1,hb];exact Bx.new L _ _ x.lo _ _
 have x1:=x.ch L (c1 λ_=>False) (by simp) (by simp);obtain⟨w2,h2,hc2,x2,c2⟩:=K'l C L x1 hs hp;have y2:=y1.ch L c2 (by simp[Kc]);obtain⟨h3,e3,z3,c3,lo3⟩:=E'm L w2 h2 x2.lo (.int .i64 0) (.int .i64 0) (.int .i64 (C'j N s R).1.l) (.int .i64 (C'j N s R).1.p) (101,1);obtain⟨b3,hb3⟩:=e' (O.next h2);obtain⟨w3,hw3⟩:=e' (w2.set b3 (101,1));rw[<-hb3,<-hw3]at z3;rw[<-hb3]at e3;have c3':∀K,Ch O K w2 h2 w3 h3:=λK=>by rw[hw3,hb3];exact c3 K
 have x3:=x2.ch L (c3' λ_=>False) (by simp) (by simp);have y3:=y2.ch L (c3' λ_=>False) (by simp);obtain⟨v0,v1,v2,v3,v4,v5,nl3⟩:=x3.nl;have hg:=G'E C nl3 (C'j N s R).1.l;obtain⟨k,hk,hu⟩:=S'p N s R;have z0:=z3.get 0 _ rfl;have z1:=z3.get 1 _ rfl;have hand:=C'r k (by omega);have hro3:¬b3<ro:=by have:=z3.lo;omega
 have hro1:¬b<ro:=by have:=y3.lo;omega
 have hodd:((C'j N s R).1.l%2=1)↔k%2=1:=by rw[hu];simp only;omega
 unfold ptr at hc2 hg;have fault:∃h4,(if (C'j N s R).1.l%2=1∨N.isGiven (C'j N s R).1.l=true then c 88 [Value.pointer (some ⟨r,0,none⟩),.int .i64 8,.int .i64 R.pos] h3=some (.tuple #[],h4) else h4=h3)∧ST O ro w3 h4 r s (D'm N s R).2.2 n N∧Ch O (λu=>u=(1,1000)) w3 h3 w3 h4:=by
  by_cases hq:(C'j N s R).1.l%2=1∨N.isGiven (C'j N s R).1.l=true
  ·obtain⟨h4,hc4,rb4,c4⟩:=I'g C L x3.rb 8 R.pos;exact⟨h4,by rw[if_pos hq];exact hc4,by unfold D'm;simp only;rw[if_pos hq];exact x3.rd L rb4 c4,c4⟩
  ·exact⟨h3,by rw[if_neg hq],by unfold D'm;simp only;rw[if_neg hq];exact x3,Ch.refl _ _ _⟩
 obtain⟨h4,e4,x4,c4⟩:=fault;have z4:=z3.ch L c4;have y4:=y3.ch L c4;have z40:=z4.get 0 _ rfl;obtain⟨h5,hc5,x5,c5⟩:=S'o C L x4 (C'j N s R).1.l;have z5:=z4.ch L c5 (by simp[Kc]);have y5:=y4.ch L c5 (by simp[Kc]);have hl5:cellsA O h5 b3 0 2=some [.int .i64 (C'j N s R).1.l,.int .i64 (C'j N s R).1.p]:=by simpa using z5.all
 obtain⟨h6,e6,y6,c6⟩:=Bx.puts L (K:=λu=>u=(101,0)) rfl [.int .i64 (C'j N s R).1.l,.int .i64 (C'j N s R).1.p] 0 h5 _ y5 (by simp);have hl6:cellsA O h6 b 0 2=some [.int .i64 (C'j N s R).1.l,.int .i64 (C'j N s R).1.p]:=by simpa using y6.all
 refine⟨w3,h6,?_,x5.ch L c6,?_⟩
 ·refine C.eq (R'9 O ro) rfl rfl (f'f ?_);unfold ptr at hc5;rw[hu]at e3 e4 e6 hl5 hl6 hg z0 z1 z40 hc5 hodd hc2;simp only at e3 e4 e6 hl5 hl6 hg z0 z1 z40 hc5 hodd hc2;have hval:(D'm N s R).1=⟨(k:Int),R.pos⟩:=hu;rw[hval];simp only[Us.val]at hc2 ⊢
  by_cases ho:k%2=1
  ·rw[if_pos (.inl (hodd.2 ho))]at e4;rw[ho]at hand;simp[F93,ZcF,ZcG,ZcH,ZcI,ZcJ,ZcK,<-hb,<-hh1,hc2,<-hb3,e3,hro1,hro3,z0,z1,hand,e4,z40,hc5,hl5,e6,E'Y,hl6,List.zipIdx]
  ·have ho0:k%2=0:=by omega
   rw[ho0]at hand
   by_cases hgv:N.isGiven k=true
   ·rw[if_pos (.inr hgv)]at e4;simp[F93,ZcF,ZcG,ZcH,ZcI,ZcJ,ZcK,<-hb,<-hh1,hc2,<-hb3,e3,hro1,hro3,z0,z1,hand,hg,hgv,e4,z40,hc5,hl5,e6,E'Y,hl6,List.zipIdx]
   ·rw[if_neg (by rw[hodd];simp[ho,hgv])]at e4;subst e4;simp[F93,ZcF,ZcG,ZcH,ZcI,ZcJ,ZcK,<-hb,<-hh1,hc2,<-hb3,e3,hro1,hro3,z0,z1,hand,hg,hgv,z40,hc5,hl5,e6,E'Y,hl6,List.zipIdx]
 ·exact (((((c1 _).trans (Kc.mono c2 (by decide) (by omega))).trans (c3' _)).trans (chR c4 _)).trans (Kc.mono c5 (by decide) (by omega))).trans (chL c6 2 (by omega))
end
end Go.Proofs.YtimdkminagnhgaaGreatDoor
namespace Go.Proofs.YtimdkminagnhgaaGreatDoor
open Go.Vm Go.Proofs
set_option maxHeartbeats 1000000
section
variable {H:Type}{O:HI H}{ro:Nat}{c:A'Z H}
attribute [local simp] A'a A'b reg to too A'd A'q A'h mv' nl' fl' ld' ln' mk' ia' ik' ix' B'F B'G aLd B'h A'w B'c B'x A'4 aUn unA ev A'l isB A'0 A'E A'F A'G A'H A'I A'J A'K A'L A'M cIf A'B A'f A'g A'1 A'i rvE aSt A'N A't A'O A'P A'Q A'9 A'R A'u A'S A'T B'a A'U A'v A'V A'W A'X B'b A'p Instr.fill A'e A'n A'x A'j ptr undef B'o B'y A'k B's A's B'T A'D B'C A'y B'p rangeA
def rsS (own:Int)(s:ByteArray)(R:RS): Nat×RS:=
 let q:=D'0 s R
 if q.1=0 then (0,q.2) else if q.1=1 then (1,q.2) else if (q.1:Int)=own then (2,q.2) else (0,fl q.2 9 R.pos)
theorem P'o {own:Int}{s:ByteArray}{R:RS}(hp:R.pos<=s.size): (rsS own s R).2.pos<=s.size:=by
 have:=F'9 (s:=s) (R:=R) hp;unfold rsS;simp only;split
 ·exact this
 ·split
  ·exact this
  ·split
   ·exact this
   ·simp only[F'D];exact this
theorem V'X (C:LP' O ro c)(L:O.Law){w:Own}{h:H}{r:Nat}{s:ByteArray}{R:RS}(x:RB O ro w h r s R)(hs:s.size<=1000)(hp:R.pos<=s.size)(own:Int):
  ∃h',c 151 [ptr r,.int .i64 own] h=some (.int .i64 (rsS own s R).1,h')∧RB O ro w h' r s (rsS own s R).2∧Ch O (λu=>u=(1,1000)) w h w h':=by
 have d1:=x.get 1 _ rfl;obtain⟨h2,hc2,x2,c2⟩:=S'm C L x hs hp;unfold rsS;simp only;generalize D'0 s R=q at hc2 x2;unfold ptr at hc2
 by_cases h0:q.1=0
 ·refine⟨h2,?_,by rw[if_pos h0];exact x2,c2⟩;refine C.eq (F'6 O ro) rfl rfl (f'f ?_);have k0:((q.1:Int)==0)=true:=by simp;omega
  simp[S'e,ZdT,ZdU,ZdV,ZdW,ZdX,d1,hc2,k0,h0]
 ·have k0:((q.1:Int)==0)=false:=by simp;omega
  rw[if_neg h0]
  by_cases h1:q.1=1
  ·refine⟨h2,?_,by rw[if_pos h1];exact x2,c2⟩;refine C.eq (F'6 O ro) rfl rfl (f'f ?_);have k1:((q.1:Int)==1)=true:=by simp;omega
   simp[S'e,ZdT,ZdU,ZdV,ZdW,ZdX,ZdY,ZdZ,d1,hc2,k0,h0,k1,h1]
  ·have k1:((q.1:Int)==1)=false:=by simp;omega
   rw[if_neg h1]
   by_cases h3:(q.1:Int)=own
   ·refine⟨h2,?_,by rw[if_pos h3];exact x2,c2⟩;refine C.eq (F'6 O ro) rfl rfl (f'f ?_);have k3:((q.1:Int)==own)=true:=by simpa using h3
    rw[if_pos h3];simp[S'e,ZdT,ZdU,ZdV,ZdW,ZdX,ZdY,ZdZ,Zd0,Zd1,d1,hc2,k0,h0,k1,h1,k3]
   ·rw[if_neg h3];obtain⟨h4,hc4,x4,c4⟩:=I'g C L x2 9 R.pos;refine⟨h4,?_,x4,c2.trans c4⟩;refine C.eq (F'6 O ro) rfl rfl (f'f ?_);have k3:((q.1:Int)==own)=false:=by simpa using h3
    have hc4':c 88 [Value.pointer (some ⟨r,0,none⟩),.int .i64 9,.int .i64 R.pos] h2=some (.tuple #[],h4):=hc4;simp[S'e,ZdT,ZdU,ZdV,ZdW,ZdX,ZdY,ZdZ,Zd0,Zd1,Zd2,Zd3,d1,hc2,k0,h0,k1,h1,k3,h3,hc4']
def laZ (own:Int)(s:ByteArray)(R:RS): Nat×RS:=if pk s R=32 then rsS own s ⟨R.pos+1,R.e,R.ep⟩ else (0,R)
def laS (N:Net)(s:ByteArray)(R:RS)(own:Int): Net×RS:=
 let u:=C'j N s R
 let z:=laZ own s u.2
 ({ N with las:=N.las++[⟨own,u.1,z.1⟩] },exS s z.2 10)
theorem P'p {own:Int}{s:ByteArray}{R:RS}(hp:R.pos<=s.size): (laZ own s R).2.pos<=s.size:=by
 unfold laZ;split
 ·rename_i hk
  have:=J'c (s:=s) (R:=R) (by omega);exact P'o (by simp only;omega)
 ·exact hp
theorem P'q {N:Net}{s:ByteArray}{R:RS}{own:Int}(hp:R.pos<=s.size): (laS N s R own).2.pos<=s.size:=B'W _ (P'p (C'B hp))
theorem V'Y (C:LP' O ro c)(L:O.Law){w:Own}{h:H}{r n:Nat}{s:ByteArray}{R:RS}{N:Net}(x:ST O ro w h r s R n N)(hs:s.size<=1000)(hp:R.pos<=s.size)(own:Int)(hl:N.las.length<=10000):
  ∃w' h',c 90 [ptr n,ptr r,.int .i64 own] h=some (.tuple #[],h')∧ST O ro w' h' r s (laS N s R own).2 n (laS N s R own).1∧Ch O (KN 2) w h w' h':=by
 obtain⟨w2,h2,hc2,x2,c2⟩:=K'l C L x hs hp;obtain⟨h3,e3,z3,c3,lo3⟩:=E'm L w2 h2 x2.lo (.int .i64 0) (.int .i64 0) (.int .i64 (C'j N s R).1.l) (.int .i64 (C'j N s R).1.p) (101,0);obtain⟨b3,hb3⟩:=e' (O.next h2);obtain⟨w3,hw3⟩:=e' (w2.set b3 (101,0));rw[<-hb3,<-hw3]at z3;rw[<-hb3]at e3;have c3':∀K,Ch O K w2 h2 w3 h3:=λK=>by rw[hw3,hb3];exact c3 K
 have x3:=x2.ch L (c3' λ_=>False) (by simp) (by simp);have hro3:¬b3<ro:=by have:=z3.lo;omega
 have p2:=C'B (N:=N) (s:=s) (R:=R) hp;obtain⟨u,hu⟩:=e' (C'j N s R);have hfin:laS N s R own=({ N with las:=N.las++[⟨own,u.1,(laZ own s u.2).1⟩] },exS s (laZ own s u.2).2 10):=by rw[hu];rfl
 rw[hfin];rw[<-hu]at hc2 x2 e3 z3 x3 p2;clear hfin hu;obtain⟨h4,hc4,rb4,c4⟩:=S'l C L x3.rb hs 32;have zs:∃h5,(if pk s u.2=32 then c 151 [Value.pointer (some ⟨r,0,none⟩),.int .i64 own] h4=some (.int .i64 (laZ own s u.2).1,h5) else (h5=h4∧(laZ own s u.2).1=0))∧RB O ro w3 h5 r s (laZ own s u.2).2∧Ch O (λu=>u=(1,1000)) w3 h3 w3 h5:=by
  by_cases hk:pk s u.2=32
  ·rw[if_pos (show pk s u.2=((32:Nat):Int) from hk)]at rb4;have:=J'c (s:=s) (R:=u.2) (by omega);obtain⟨h5,hc5,rb5,c5⟩:=V'X C L rb4 hs (by simp only;omega) own;exact⟨h5,by rw[if_pos hk];unfold laZ;rw[if_pos hk];exact hc5,by unfold laZ;rw[if_pos hk];exact rb5,c4.trans c5⟩
  ·rw[if_neg (show ¬pk s u.2=((32:Nat):Int) from hk)]at rb4;exact⟨h4,by rw[if_neg hk];unfold laZ;rw[if_neg hk];exact⟨rfl,rfl⟩,by unfold laZ;rw[if_neg hk];exact rb4,c4⟩
 obtain⟨h5,e5,rb5,c5⟩:=zs;obtain⟨z,hz⟩:=e' (laZ own s u.2);rw[<-hz]at e5 rb5 ⊢;clear hz;obtain⟨h6,hc6,rb6,c6⟩:=C'0 C L rb5 hs 10;have x6:=x3.rd L rb6 (c5.trans c6);have z6:=(z3.ch L c5).ch L c6;have hl6:cellsA O h6 b3 0 2=some [.int .i64 u.1.l,.int .i64 u.1.p]:=by simpa using z6.all
 obtain⟨v,v',h7,w7,e7,e8,⟨f1,f2,f3⟩,e9,hron,x7,c7⟩:=ST.app2 L x6 ⟨own,u.1,z.1⟩ hl;refine⟨w7,_,?_,x7,?_⟩
 ·refine C.eq (R'7 O ro) rfl rfl (f'f ?_);unfold ptr at hc2 hc4 hc6;have hc4':c 85 [Value.pointer (some ⟨r,0,none⟩),.int .i64 32] h3=some (.bool (decide (pk s u.2=32)),h4):=hc4;have hc6':c 84 [Value.pointer (some ⟨r,0,none⟩),.int .i64 10] h5=some (.tuple #[],h6):=hc6;simp only[Us.val]at hc2;simp only[LaL.cells]at e8
  by_cases hk:pk s u.2=32
  ·rw[if_pos hk]at e5;simp[F90,Zcq,Zcr,Zcs,Zct,Zcu,Zcv,hc2,<-hb3,e3,hro3,hc4',hk,e5,hc6',e7,hl6,List.zipIdx,l'B,e8,f1,f2,f3,e9,hron,A'8]
  ·rw[if_neg hk]at e5;obtain⟨rfl,hz0⟩:=e5;rw[hz0]at e8;simp only[Int.natCast_zero,Int.cast_ofNat_Int]at e8;simp[F90,Zcq,Zcr,Zcs,Zct,Zcu,Zcv,hc2,<-hb3,e3,hro3,hc4',hk,hc6',e7,hl6,List.zipIdx,l'B,e8,f1,f2,f3,e9,hron,A'8]
 ·exact ((((Kc.mono c2 (by decide) (by omega)).trans (c3' _)).trans (chR c5 _)).trans (chR c6 _)).trans (Kc.mono c7 (by decide) (by omega))
end
end Go.Proofs.YtimdkminagnhgaaGreatDoor
namespace Go.Proofs.YtimdkminagnhgaaGreatDoor
open Go.Vm Go.Proofs
set_option maxHeartbeats 1000000
section
variable {H:Type}{O:HI H}{ro:Nat}{c:A'Z H}
attribute [local simp] A'a A'b reg to too A'd A'q A'h mv' nl' fl' ld' ln' mk' ia' ik' ix' B'F B'G aLd B'h A'w B'c B'x A'4 aUn unA ev A'l isB A'0 A'E A'F A'G A'H A'I A'J A'K A'L A'M cIf A'B A'f A'g A'1 A'i rvE aSt A'N A't A'O A'P A'Q A'9 A'R A'u A'S A'T B'a A'U A'v A'V A'W A'X B'b A'p Instr.fill A'e A'n A'x A'j ptr undef B'o B'y A'k B's A's B'T A'D B'C A'y B'p rangeA
theorem Sl.of_nil {w:Own}{h:H}{t:Tag}{sz:Nat}{v:Value}(x:Sl O ro w h t sz v []): v = .slice none 0 0:=by
 rcases x with ⟨e,_⟩|⟨_,_,_,_,_,_,e,_⟩
 ·exact e
 ·exact absurd rfl e
theorem ST.chP (L:O.Law){o:Nat}{w w':Own}{h h':H}{r:Nat}{s:ByteArray}{R:RS}{n:Nat}{N:Net}(x:ST O ro w h r s R n N)(a:Ch O (λu=>u=(2,o)) w h w' h')(ho:(o=3∧N.outs=[])∨(o=4∧N.bads=[])): ST O ro w' h' r s R n N:=by
 obtain⟨rb,⟨v0,v1,v2,v3,v4,v5,⟨m,s0,s1,s2,s3,s4,s5⟩⟩,lo⟩:=x;rcases ho with ⟨rfl,ho⟩|⟨rfl,ho⟩
 ·have e3:v3 = .slice none 0 0:=by rw[ho]at s3;exact s3.of_nil
  refine⟨rb.ch L a,⟨v0,v1,v2,v3,v4,v5,⟨m.ch L a,s0.ch L a,s1.ch L a,s2.ch L a,?_,s4.ch L a,s5.ch L a⟩⟩,l'G lo a.nx⟩;rw[ho,e3];exact Sl.nil _ _ _ _
 ·have e3:v4 = .slice none 0 0:=by rw[ho]at s4;exact s4.of_nil
  refine⟨rb.ch L a,⟨v0,v1,v2,v3,v4,v5,⟨m.ch L a,s0.ch L a,s1.ch L a,s2.ch L a,s3.ch L a,?_,s5.ch L a⟩⟩,l'G lo a.nx⟩;rw[ho,e3];exact Sl.nil _ _ _ _
def prL: Nat->Net->ByteArray->RS->List Us->List Us×RS
 | 0,_,_,R,l=>(l,R)
 | k+1,N,s,R,l=>prL k N s (exS s (C'j N s R).2 10) (l++[(C'j N s R).1])
theorem K'm {N:Net}{s:ByteArray}: ∀(k:Nat)(R:RS)(l:List Us),R.pos<=s.size->(prL k N s R l).2.pos<=s.size:=by
 intro k
 induction k with
 | zero=>intro R l h;exact h
 | succ k ih=>intro R l h;exact ih _ _ (B'W _ (C'B h))
theorem K'n {N:Net}{s:ByteArray}: ∀(k:Nat)(R:RS)(l:List Us),(prL k N s R l).1.length=l.length+k:=by
 intro k
 induction k with
 | zero=>intro R l;rfl
 | succ k ih=>intro R l;simp only[prL];rw[ih];simp;omega
theorem U'R (C:LP' O ro c)(L:O.Law){w:Own}{h:H}{r n:Nat}{s:ByteArray}{R:RS}{N:Net}(x:ST O ro w h r s R n N)(hs:s.size<=1000)(hp:R.pos<=s.size)(k:Nat)(hk:k<=10000)(o:Nat)(ho:(o=3∧N.outs=[])∨(o=4∧N.bads=[])):
  ∃v w' h',c 91 [ptr n,ptr r,.int .i64 k] h=some (v,h')∧Sl O ro w' h' (2,o) 2 v ((prL k N s R []).1.flatMap Us.cells)∧ST O ro w' h' r s (prL k N s R []).2 n N∧Ch O (KN 2) w h w' h':=by
 have key:∃v h',c 91 [ptr n,ptr r,.int .i64 k] h=some (v,h')∧(∃w',Sl O ro w' h' (2,o) 2 v ((prL k N s R []).1.flatMap Us.cells)∧ST O ro w' h' r s (prL k N s R []).2 n N∧Ch O (KN 2) w h w' h'):=by
  refine C.fn (R'8 O ro) rfl rfl ?_;unfold F91;refine s'f ?_;simp[Zcw,A'c,-A'1,-A'i,-rvE];refine s'f ?_;simp[Zcx,A'c,-A'1,-A'i,-rvE];refine okE.seq (s'f ?_);simp[Zcy,A'c,-A'1,-A'i,-rvE];refine okE.blk ?_;refine okE.loop (λm t g=>∃j R' l v w',ST O ro w' g r s R' n N∧Sl O ro w' g (2,o) 2 v (l.flatMap Us.cells)∧Ch O (KN 2) w h w' g∧t 0=ptr n∧t 1=ptr r∧t 2 = .int .i64 k∧t 7=v∧t 8 = .int .i64 (j:Nat)∧R'.pos<=s.size∧j+m=k+1∧0<m∧l.length=j∧prL (m-1) N s R' l=prL k N s R []) ?_ (k+1) _ _ ⟨0,R,[],.slice none 0 0,w,x,Sl.nil _ _ _ _,Ch.refl _ _ _,by simp,by simp,by simp,by simp,by simp,hp,by omega,by omega,rfl,rfl⟩;intro m t g hI;obtain⟨j,R',l,v,w',x',sl',c',t0,t1,t2,t7,t8,hp',hj,hm,hl,hfin⟩:=hI;unfold ptr at t0 t1
  by_cases hlt:j<k
  ·obtain⟨m',rfl⟩:∃m',m=m'+2:=⟨m-2,by omega⟩;have hfin2:prL m' N s (exS s (C'j N s R').2 10) (l++[(C'j N s R').1])=prL k N s R []:=hfin;obtain⟨w2,h2,hc2,x2,c2⟩:=K'l C L x' hs hp';have p2:=C'B (N:=N) (s:=s) (R:=R') hp';have sl2:=sl'.ch L c2 (by simp[Kc]);obtain⟨h3,e3,z3,c3,lo3⟩:=E'm L w2 h2 x2.lo (.int .i64 0) (.int .i64 0) (.int .i64 (C'j N s R').1.l) (.int .i64 (C'j N s R').1.p) (101,0);obtain⟨b3,hb3⟩:=e' (O.next h2);obtain⟨w3,hw3⟩:=e' (w2.set b3 (101,0));rw[<-hb3,<-hw3]at z3;rw[<-hb3]at e3;have c3':∀K,Ch O K w2 h2 w3 h3:=λK=>by rw[hw3,hb3];exact c3 K
   have x3:=x2.ch L (c3' λ_=>False) (by simp) (by simp);have sl3:=sl2.ch L (c3' λ_=>False) (by simp);have hro3:¬b3<ro:=by have:=z3.lo;omega
   obtain⟨h4,hc4,rb4,c4⟩:=C'0 C L x3.rb hs 10;have x4:=x3.rd L rb4 c4;have z4:=z3.ch L c4;have sl4:=sl3.ch L c4;have hl4:cellsA O h4 b3 0 2=some [.int .i64 (C'j N s R').1.l,.int .i64 (C'j N s R').1.p]:=by simpa using z4.all
   have hfl:=A'A Us.cells 2 (λ_=>rfl) l;obtain⟨v',h5,w5,e5,sl5,c5,lo5⟩:=C'A L (bytes:=16) x4.lo sl4 (new:=(C'j N s R').1.cells) (by omega) rfl (by omega) (by omega);have x5:=x4.chP L c5 ho;have cc:Ch O (KN 2) w h w5 h5:=((((c'.trans (Kc.mono c2 (by decide) (by omega))).trans (c3' _)).trans (chR c4 _)).trans (chN c5 _));obtain⟨q,hq⟩:=e' (j+1);have hw:IntKind.i64.wrap ((j:Int)+1)=(q:Int):=w'i;have hlt':(j:Int)<k:=by omega
   unfold ptr at hc2 hc4;have hc4':c 84 [Value.pointer (some ⟨r,0,none⟩),.int .i64 10] h3=some (.tuple #[],h4):=hc4;simp only[Us.val]at hc2;simp only[Us.cells]at e5;refine f'f ?_;simp[O'9,Zcz,ZcA,ZcB,ZcC,ZcD,t0,t1,t2,t7,t8,hlt,hlt',hc2,<-hb3,e3,hro3,hc4',hl4,List.zipIdx,l'B,e5,hw];exact⟨m'+1,by omega,q,exS s (C'j N s R').2 10,l++[(C'j N s R').1],v',w5,x5,by simpa using sl5,cc,rfl,rfl,B'W _ p2,by omega,by omega,by simp;omega,hfin2⟩
  ·have hm1:m=1:=by omega
   subst hm1;have hfin2:(l,R')=prL k N s R []:=hfin;rw[<-hfin2];have hlt':¬(j:Int)<k:=by omega
   refine f'f ?_;simp[O'9,Zcz,t0,t1,t2,t7,t8,hlt,hlt',A'c];refine f'f ?_;have ft:=sl'.flat.2.2;simp[ZcE,t7,ft];exact⟨w',sl',x',c'⟩
 obtain⟨v,h',e1,w',e2⟩:=key;exact⟨v,w',h',e1,e2⟩
def pgS (N:Net)(s:ByteArray)(R:RS): Net×RS:=
 let d:=D'm N s R
 let a:=C'j d.2.1 s (exS s d.2.2 32)
 let b:=C'j d.2.1 s (exS s a.2 32)
 ({ d.2.1 with gates:=d.2.1.gates++[⟨d.1,a.1,b.1⟩] },exS s b.2 10)
theorem P'r {N:Net}{s:ByteArray}{R:RS}(hp:R.pos<=s.size): (pgS N s R).2.pos<=s.size:=B'W _ (C'B (B'W _ (C'B (B'W _ (E'E hp)))))
theorem D'3 (N:Net)(l:Int): (N.give l).gates=N.gates:=by unfold Net.give;split <;> rfl
theorem I'h (N:Net)(l:Int): (N.give l).las=N.las:=by unfold Net.give;split <;> rfl
theorem I'i (N:Net)(l:Int): (N.give l).ins=N.ins:=by unfold Net.give;split <;> rfl
theorem G'F (N:Net)(l:Int): (N.give l).outs=N.outs:=by unfold Net.give;split <;> rfl
theorem G'G (N:Net)(l:Int): (N.give l).bads=N.bads:=by unfold Net.give;split <;> rfl
theorem V'Z (C:LP' O ro c)(L:O.Law){w:Own}{h:H}{r n:Nat}{s:ByteArray}{R:RS}{N:Net}(x:ST O ro w h r s R n N)(hs:s.size<=1000)(hp:R.pos<=s.size)(hl:N.gates.length<=10000):
  ∃w' h',c 94 [ptr n,ptr r] h=some (.tuple #[],h')∧ST O ro w' h' r s (pgS N s R).2 n (pgS N s R).1∧Ch O (KN 3) w h w' h':=by
 obtain⟨w2,h2,hc2,x2,c2⟩:=P'n C L x hs hp;have hg:(D'm N s R).2.1.gates.length<=10000:=by have:=D'3 N (C'j N s R).1.l;unfold D'm;simp only;rw[this];exact hl
 have p2:=E'E (N:=N) (s:=s) (R:=R) hp;obtain⟨d,hd⟩:=e' (D'm N s R);have hfin:pgS N s R=({ d.2.1 with gates:=d.2.1.gates++[⟨d.1,(C'j d.2.1 s (exS s d.2.2 32)).1,(C'j d.2.1 s (exS s (C'j d.2.1 s (exS s d.2.2 32)).2 32)).1⟩] },exS s (C'j d.2.1 s (exS s (C'j d.2.1 s (exS s d.2.2 32)).2 32)).2 10):=by rw[hd];rfl
 rw[hfin];rw[<-hd]at hc2 x2 p2 hg;clear hfin hd;obtain⟨h3,e3,z3,c3,lo3⟩:=E'm L w2 h2 x2.lo (.int .i64 0) (.int .i64 0) (.int .i64 d.1.l) (.int .i64 d.1.p) (102,0);obtain⟨b3,hb3⟩:=e' (O.next h2);obtain⟨w3,hw3⟩:=e' (w2.set b3 (102,0));rw[<-hb3,<-hw3]at z3;rw[<-hb3]at e3;have c3':∀K,Ch O K w2 h2 w3 h3:=λK=>by rw[hw3,hb3];exact c3 K
 have x3:=x2.ch L (c3' λ_=>False) (by simp) (by simp);have hro3:¬b3<ro:=by have:=z3.lo;omega
 obtain⟨h4,hc4,rb4,c4⟩:=C'0 C L x3.rb hs 32;have x4:=x3.rd L rb4 c4;have z4:=z3.ch L c4;have p4:=B'W (s:=s) (R:=d.2.2) 32 p2;obtain⟨w5,h5,hc5,x5,c5⟩:=K'l C L x4 hs p4;have z5:=z4.ch L c5 (by simp[Kc]);have p5:=C'B (N:=d.2.1) (s:=s) p4;obtain⟨a,ha⟩:=e' (C'j d.2.1 s (exS s d.2.2 32));rw[<-ha]at hc5 x5 p5 ⊢;clear ha;obtain⟨h6,e6,y6,c6,lo6⟩:=E'm L w5 h5 x5.lo (.int .i64 0) (.int .i64 0) (.int .i64 a.1.l) (.int .i64 a.1.p) (102,1);obtain⟨b6,hb6⟩:=e' (O.next h5);obtain⟨w6,hw6⟩:=e' (w5.set b6 (102,1));rw[<-hb6,<-hw6]at y6;rw[<-hb6]at e6;have c6':∀K,Ch O K w5 h5 w6 h6:=λK=>by rw[hw6,hb6];exact c6 K
 have x6:=x5.ch L (c6' λ_=>False) (by simp) (by simp);have z6:=z5.ch L (c6' λ_=>False) (by simp);have hro6:¬b6<ro:=by have:=y6.lo;omega
 obtain⟨h7,hc7,rb7,c7⟩:=C'0 C L x6.rb hs 32;have x7:=x6.rd L rb7 c7;have z7:=z6.ch L c7;have y7:=y6.ch L c7;have p7:=B'W (s:=s) (R:=a.2) 32 p5;obtain⟨w8,h8,hc8,x8,c8⟩:=K'l C L x7 hs p7;have z8:=z7.ch L c8 (by simp[Kc]);have y8:=y7.ch L c8 (by simp[Kc]);obtain⟨b,hb⟩:=e' (C'j d.2.1 s (exS s a.2 32));rw[<-hb]at hc8 x8 ⊢;clear hb;obtain⟨h9,e9,u9,c9,lo9⟩:=E'm L w8 h8 x8.lo (.int .i64 0) (.int .i64 0) (.int .i64 b.1.l) (.int .i64 b.1.p) (102,2);obtain⟨b9,hb9⟩:=e' (O.next h8);obtain⟨w9,hw9⟩:=e' (w8.set b9 (102,2));rw[<-hb9,<-hw9]at u9;rw[<-hb9]at e9;have c9':∀K,Ch O K w8 h8 w9 h9:=λK=>by rw[hw9,hb9];exact c9 K
 have x9:=x8.ch L (c9' λ_=>False) (by simp) (by simp);have z9:=z8.ch L (c9' λ_=>False) (by simp);have y9:=y8.ch L (c9' λ_=>False) (by simp);have hro9:¬b9<ro:=by have:=u9.lo;omega
 obtain⟨hA,hcA,rbA,cA⟩:=C'0 C L x9.rb hs 10;have xA:=x9.rd L rbA cA;have zA:=(z9.ch L cA).all;have yA:=(y9.ch L cA).all;have uA:=(u9.ch L cA).all;simp only[l'n,l'o,l'F,Nat.reduceAdd]at zA yA uA;obtain⟨v,v',hB,wB,eB,eC,⟨f1,f2,f3⟩,eD,hron,xB,cB⟩:=ST.app5 L xA ⟨d.1,a.1,b.1⟩ hg;refine⟨wB,_,?_,xB,?_⟩
 ·refine C.eq (S'a O ro) rfl rfl (f'f ?_);unfold ptr at hc2 hc4 hc5 hc7 hc8 hcA;simp only[Us.val]at hc2 hc5 hc8;simp only[GaL.cells]at eC;have hc4':c 84 [Value.pointer (some ⟨r,0,none⟩),.int .i64 32] h3=some (.tuple #[],h4):=hc4;have hc7':c 84 [Value.pointer (some ⟨r,0,none⟩),.int .i64 32] h6=some (.tuple #[],h7):=hc7;have hcA':c 84 [Value.pointer (some ⟨r,0,none⟩),.int .i64 10] h9=some (.tuple #[],hA):=hcA;simp[F94,ZcL,ZcM,ZcN,ZcO,ZcP,ZcQ,ZcR,hc2,<-hb3,e3,hro3,hc4',hc5,<-hb6,e6,hro6,hc7',hc8,<-hb9,e9,hro9,hcA',eB,zA,yA,uA,List.zipIdx,l'B,eC,f1,f2,f3,eD,hron,A'8]
 ·exact (((((((((Kc.mono c2 (by decide) (by omega)).trans (c3' _)).trans (chR c4 _)).trans (Kc.mono c5 (by decide) (by omega))).trans (c6' _)).trans (chR c7 _)).trans (Kc.mono c8 (by decide) (by omega))).trans (c9' _)).trans (chR cA _)).trans (Kc.mono cB (by decide) (by omega))
def bgA (s:ByteArray)(R:RS)(lit:Nat): Nat×RS:=
 let d:=diS s R
 (d.1,if d.1=0∨lit<d.1 then fl d.2 10 R.pos else d.2)
def bgB (s:ByteArray)(R:RS)(left:Int): Nat×RS:=
 let d:=diS s R
 (d.1,if left<(d.1:Int) then fl d.2 10 R.pos else d.2)
def bgS (N:Net)(s:ByteArray)(R:RS)(lit:Nat): Net×RS:=
 let d:=bgA s R lit
 let left:Int:=(lit:Int)-d.1
 let g:=bgB s d.2 left
 ({ N.give lit with gates:=(N.give lit).gates++[⟨⟨lit,R.pos⟩,⟨left,R.pos⟩,⟨left-g.1,d.2.pos⟩⟩] },g.2)
end
end Go.Proofs.YtimdkminagnhgaaGreatDoor
namespace Go.Proofs.YtimdkminagnhgaaGreatDoor
open Go.Vm Go.Proofs
set_option maxHeartbeats 1000000
def itK {α:Type}(f:Nat->α->α): Nat->Nat->α->α
 | _,0,x=>x
 | j,m+1,x=>itK f (j+1) m (f j x)
section
variable {H:Type}{O:HI H}{ro:Nat}{c:A'Z H}
attribute [local simp] A'a A'b reg to too A'd A'q A'h mv' nl' fl' ld' ln' mk' ia' ik' ix' B'F B'G aLd B'h A'w B'c B'x A'4 aUn unA ev A'l isB A'0 A'E A'F A'G A'H A'I A'J A'K A'L A'M cIf A'B A'f A'g A'1 A'i rvE aSt A'N A't A'O A'P A'Q A'9 A'R A'u A'S A'T B'a A'U A'v A'V A'W A'X B'b A'p Instr.fill A'e A'n A'x A'j ptr undef B'o B'y A'k B's A's B'T A'D B'C A'y B'p rangeA
def F'r (s:ByteArray)(_:Nat)(x:Net×RS): Net×RS:=
 let d:=D'm x.1 s x.2
 ({ d.2.1 with ins:=d.2.1.ins++[d.1.l] },exS s d.2.2 10)
def F'E (s:ByteArray)(_:Nat)(x:Net×RS): Net×RS:=
 let d:=D'm x.1 s x.2
 laS d.2.1 s (exS s d.2.2 32) d.1.l
def H'o (s:ByteArray)(_:Nat)(x:Net×RS): Net×RS:=pgS x.1 s x.2
def prF (s:ByteArray)(D:HD)(x:Net×RS): Net×RS:=
 let a:=prL D.nou x.1 s x.2 []
 let N:={ x.1 with outs:=a.1 }
 let b:=prL D.nbs N s a.2 []
 ({ N with bads:=b.1 },b.2)
def rpS (D:HD)(s:ByteArray)(x:Net×RS): Net×RS:=
 itK (H'o s) 0 D.nan (prF s D (itK (F'E s) 0 D.nla (itK (F'r s) 0 D.nin x)))
theorem M'P (N:Net)(l:Int): (N.give l).given.length=N.given.length:=by unfold Net.give;split <;> simp
theorem I'j (N:Net)(s:ByteArray)(R:RS): (D'm N s R).2.1.ins=N.ins:=I'i _ _
theorem G'a (N:Net)(s:ByteArray)(R:RS): (D'm N s R).2.1.las=N.las:=I'h _ _
theorem D'4 (N:Net)(s:ByteArray)(R:RS): (D'm N s R).2.1.gates=N.gates:=D'3 _ _
theorem G'H (N:Net)(s:ByteArray)(R:RS): (D'm N s R).2.1.outs=N.outs:=G'F _ _
theorem G'I (N:Net)(s:ByteArray)(R:RS): (D'm N s R).2.1.bads=N.bads:=G'G _ _
def hdc (D:HD): List Value:=D.val.cells.toList
theorem S'q (C:LP' O ro c)(L:O.Law){w0:Own}{h0:H}{r n b:Nat}{s:ByteArray}{D:HD}(hs:s.size<=1000)(hD:D.nin<=100)(x0:Net×RS)(w:Own)(h:H)(t:Env)
  (x:ST O ro w h r s x0.2 n x0.1)(y:Bx O ro w h (103,0) b (hdc D))(cc:Ch O (KN 4) w0 h0 w h)(hp:x0.2.pos<=s.size)(hl:x0.1.ins=[])(ho:x0.1.outs=[]∧x0.1.bads=[]∧x0.1.las=[]∧x0.1.gates=[])
  (t0 : t 0 = ptr n)(t1 : t 1 = ptr r)(t5 : t 5 = ptr b)(t6 : t 6 = .int .i64 0):
  okE c (A'x 0 (A'Y (M'r O Tryz.prog ro))) (t,h) (λe t' h'=>e = .normal∧t' 0=ptr n∧t' 1=ptr r∧t' 5=ptr b∧∃w',ST O ro w' h' r s (itK (F'r s) 0 D.nin x0).2 n (itK (F'r s) 0 D.nin x0).1∧Bx O ro w' h' (103,0) b (hdc D)∧Ch O (KN 4) w0 h0 w' h'∧(itK (F'r s) 0 D.nin x0).2.pos<=s.size∧(itK (F'r s) 0 D.nin x0).1.outs=[]∧(itK (F'r s) 0 D.nin x0).1.bads=[]∧(itK (F'r s) 0 D.nin x0).1.las=[]∧(itK (F'r s) 0 D.nin x0).1.gates=[]):=by
 refine okE.blk ?_;refine okE.loop (λm t g=>∃j z w',ST O ro w' g r s z.2 n z.1∧Bx O ro w' g (103,0) b (hdc D)∧Ch O (KN 4) w0 h0 w' g∧t 0=ptr n∧t 1=ptr r∧t 5=ptr b∧t 6 = .int .i64 (j:Nat)∧z.2.pos<=s.size∧j+m=D.nin+1∧0<m∧z.1.ins.length=j∧(z.1.outs=[]∧z.1.bads=[]∧z.1.las=[]∧z.1.gates=[])∧itK (F'r s) j (m-1) z=itK (F'r s) 0 D.nin x0) ?_ (D.nin+1) _ _ ⟨0,x0,w,x,y,cc,t0,t1,t5,t6,hp,by omega,by omega,by rw[hl];rfl,ho,rfl⟩;intro m t g hI;obtain⟨j,z,w',x',y',c',t0,t1,t5,t6,hp',hj,hm,hl',ho',hfin⟩:=hI;have y2:=y'.get 2 _ rfl;unfold ptr at t0 t1 t5
 by_cases hlt:j<D.nin
 ·obtain⟨m',rfl⟩:∃m',m=m'+2:=⟨m-2,by omega⟩;have hfin2:itK (F'r s) (j+1) m' (F'r s j z)=itK (F'r s) 0 D.nin x0:=hfin;obtain⟨w2,h2,hc2,x2,c2⟩:=P'n C L x' hs hp';have p2:=E'E (N:=z.1) (s:=s) (R:=z.2) hp';have yy2:=y'.ch L c2 (by simp[Kc]);obtain⟨h3,e3,z3,c3,lo3⟩:=E'm L w2 h2 x2.lo (.int .i64 0) (.int .i64 0) (.int .i64 (D'm z.1 s z.2).1.l) (.int .i64 (D'm z.1 s z.2).1.p) (103,1);obtain⟨b3,hb3⟩:=e' (O.next h2);obtain⟨w3,hw3⟩:=e' (w2.set b3 (103,1));rw[<-hb3,<-hw3]at z3;rw[<-hb3]at e3;have c3':∀K,Ch O K w2 h2 w3 h3:=λK=>by rw[hw3,hb3];exact c3 K
  have x3:=x2.ch L (c3' λ_=>False) (by simp) (by simp);have y3:=yy2.ch L (c3' λ_=>False) (by simp);have hro3:¬b3<ro:=by have:=z3.lo;omega
  obtain⟨h4,hc4,rb4,c4⟩:=C'0 C L x3.rb hs 10;have x4:=x3.rd L rb4 c4;have z4:=(z3.ch L c4).get 0 _ rfl;have y4:=y3.ch L c4;obtain⟨v,v',hB,wB,eB,eC,⟨f1,f2,f3⟩,eD,hron,xB,cB⟩:=ST.app1 L x4 (D'm z.1 s z.2).1.l (by rw[I'j];omega);have yB:=y4.ch L cB (by simp[Kc]);have ccB:=((((c'.trans (Kc.mono c2 (by decide) (by omega))).trans (c3' _)).trans (chR c4 _)).trans (Kc.mono cB (by decide) (by omega)));obtain⟨q,hq⟩:=e' (j+1);have hw:IntKind.i64.wrap ((j:Int)+1)=(q:Int):=w'i;have hlt':(j:Int)<D.nin:=by omega
  unfold ptr at hc2 hc4;have hc4':c 84 [Value.pointer (some ⟨r,0,none⟩),.int .i64 10] h3=some (.tuple #[],h4):=hc4;simp only[Us.val]at hc2;refine f'f ?_;simp[M'r,Za1,Za2,Za3,Za4,Za5,t0,t1,t5,t6,y2,hlt,hlt',hc2,<-hb3,e3,hro3,hc4',z4,List.zipIdx,l'B,eB,eC,f1,f2,f3,eD,hron,A'8,hw];refine⟨m'+1,by omega,q,(F'r s j z).1,(F'r s j z).2,wB,xB,yB,ccB,rfl,B'W _ p2,by omega,by omega,?_,?_,by rw[hq];exact hfin2⟩
  ·show (_++[_]).length=q;rw[l'p,I'j];simp;omega
  ·show (D'm z.1 s z.2).2.1.outs=[]∧(D'm z.1 s z.2).2.1.bads=[]∧(D'm z.1 s z.2).2.1.las=[]∧(D'm z.1 s z.2).2.1.gates=[];rw[G'H,G'I,G'a,D'4];exact ho'
 ·have hm1:m=1:=by omega
  subst hm1;have hfin2:z=itK (F'r s) 0 D.nin x0:=hfin;rw[<-hfin2];have hlt':¬(j:Int)<D.nin:=by omega
  refine f'f ?_;simp[M'r,Za1,t0,t1,t5,t6,y2,hlt,hlt'];exact⟨w',x',y',c',hp',ho'⟩
theorem S'r (C:LP' O ro c)(L:O.Law){w0:Own}{h0:H}{r n b:Nat}{s:ByteArray}{D:HD}(hs:s.size<=1000)(hD:D.nla<=100)(x0:Net×RS)(w:Own)(h:H)(t:Env)
  (x:ST O ro w h r s x0.2 n x0.1)(y:Bx O ro w h (103,0) b (hdc D))(cc:Ch O (KN 4) w0 h0 w h)(hp:x0.2.pos<=s.size)(hl:x0.1.las=[])(ho:x0.1.outs=[]∧x0.1.bads=[]∧x0.1.gates=[])
  (t0 : t 0 = ptr n)(t1 : t 1 = ptr r)(t5 : t 5 = ptr b)(t8 : t 8 = .int .i64 0):
  okE c (A'x 2 (A'Y (M's O Tryz.prog ro))) (t,h) (λe t' h'=>e = .normal∧t' 0=ptr n∧t' 1=ptr r∧t' 5=ptr b∧∃w',ST O ro w' h' r s (itK (F'E s) 0 D.nla x0).2 n (itK (F'E s) 0 D.nla x0).1∧Bx O ro w' h' (103,0) b (hdc D)∧Ch O (KN 4) w0 h0 w' h'∧(itK (F'E s) 0 D.nla x0).2.pos<=s.size∧(itK (F'E s) 0 D.nla x0).1.outs=[]∧(itK (F'E s) 0 D.nla x0).1.bads=[]∧(itK (F'E s) 0 D.nla x0).1.gates=[]):=by
 refine okE.blk ?_;refine okE.loop (λm t g=>∃j z w',ST O ro w' g r s z.2 n z.1∧Bx O ro w' g (103,0) b (hdc D)∧Ch O (KN 4) w0 h0 w' g∧t 0=ptr n∧t 1=ptr r∧t 5=ptr b∧t 8 = .int .i64 (j:Nat)∧z.2.pos<=s.size∧j+m=D.nla+1∧0<m∧z.1.las.length=j∧(z.1.outs=[]∧z.1.bads=[]∧z.1.gates=[])∧itK (F'E s) j (m-1) z=itK (F'E s) 0 D.nla x0) ?_ (D.nla+1) _ _ ⟨0,x0,w,x,y,cc,t0,t1,t5,t8,hp,by omega,by omega,by rw[hl];rfl,ho,rfl⟩;intro m t g hI;obtain⟨j,z,w',x',y',c',t0,t1,t5,t8,hp',hj,hm,hl',ho',hfin⟩:=hI;have y2:=y'.get 3 _ rfl;unfold ptr at t0 t1 t5
 by_cases hlt:j<D.nla
 ·obtain⟨m',rfl⟩:∃m',m=m'+2:=⟨m-2,by omega⟩;have hfin2:itK (F'E s) (j+1) m' (F'E s j z)=itK (F'E s) 0 D.nla x0:=hfin;obtain⟨w2,h2,hc2,x2,c2⟩:=P'n C L x' hs hp';have p2:=E'E (N:=z.1) (s:=s) (R:=z.2) hp';have yy2:=y'.ch L c2 (by simp[Kc]);obtain⟨h3,e3,z3,c3,lo3⟩:=E'm L w2 h2 x2.lo (.int .i64 0) (.int .i64 0) (.int .i64 (D'm z.1 s z.2).1.l) (.int .i64 (D'm z.1 s z.2).1.p) (103,1);obtain⟨b3,hb3⟩:=e' (O.next h2);obtain⟨w3,hw3⟩:=e' (w2.set b3 (103,1));rw[<-hb3,<-hw3]at z3;rw[<-hb3]at e3;have c3':∀K,Ch O K w2 h2 w3 h3:=λK=>by rw[hw3,hb3];exact c3 K
  have x3:=x2.ch L (c3' λ_=>False) (by simp) (by simp);have y3:=yy2.ch L (c3' λ_=>False) (by simp);have hro3:¬b3<ro:=by have:=z3.lo;omega
  obtain⟨h4,hc4,rb4,c4⟩:=C'0 C L x3.rb hs 32;have x4:=x3.rd L rb4 c4;have z4:=(z3.ch L c4).get 0 _ rfl;have y4:=y3.ch L c4;have p4:=B'W (s:=s) (R:=(D'm z.1 s z.2).2.2) 32 p2;obtain⟨wB,hB,hcB,xB,cB⟩:=V'Y C L x4 hs p4 (D'm z.1 s z.2).1.l (by rw[G'a];omega);have yB:=y4.ch L cB (by simp[Kc]);have ccB:=((((c'.trans (Kc.mono c2 (by decide) (by omega))).trans (c3' _)).trans (chR c4 _)).trans (Kc.mono cB (by decide) (by omega)));obtain⟨q,hq⟩:=e' (j+1);have hw:IntKind.i64.wrap ((j:Int)+1)=(q:Int):=w'i;have hlt':(j:Int)<D.nla:=by omega
  unfold ptr at hc2 hc4 hcB;have hc4':c 84 [Value.pointer (some ⟨r,0,none⟩),.int .i64 32] h3=some (.tuple #[],h4):=hc4;simp only[Us.val]at hc2;refine f'f ?_;simp[M's,Za7,Za8,Za9,Zba,Zbb,t0,t1,t5,t8,y2,hlt,hlt',hc2,<-hb3,e3,hro3,hc4',z4,List.zipIdx,hcB,hw];refine⟨m'+1,by omega,q,(F'E s j z).1,(F'E s j z).2,wB,xB,yB,ccB,rfl,P'q p4,by omega,by omega,?_,?_,by rw[hq];exact hfin2⟩
  ·show (_++[_]).length=q;rw[l'p,G'a];simp;omega
  ·show (D'm z.1 s z.2).2.1.outs=[]∧(D'm z.1 s z.2).2.1.bads=[]∧(D'm z.1 s z.2).2.1.gates=[];rw[G'H,G'I,D'4];exact ho'
 ·have hm1:m=1:=by omega
  subst hm1;have hfin2:z=itK (F'E s) 0 D.nla x0:=hfin;rw[<-hfin2];have hlt':¬(j:Int)<D.nla:=by omega
  refine f'f ?_;simp[M's,Za7,t0,t1,t5,t8,y2,hlt,hlt'];exact⟨w',x',y',c',hp',ho'⟩
theorem S's (C:LP' O ro c)(L:O.Law){w0:Own}{h0:H}{r n b:Nat}{s:ByteArray}{D:HD}(hs:s.size<=1000)(hD:D.nan<=100)(x0:Net×RS)(w:Own)(h:H)(t:Env)
  (x:ST O ro w h r s x0.2 n x0.1)(y:Bx O ro w h (103,0) b (hdc D))(cc:Ch O (KN 4) w0 h0 w h)(hp:x0.2.pos<=s.size)(hl:x0.1.gates=[])
  (t0 : t 0 = ptr n)(t1 : t 1 = ptr r)(t5 : t 5 = ptr b)(t8 : t 10 = .int .i64 0):
  okE c (A'x 4 (A'Y (M't O Tryz.prog ro))) (t,h) (λe t' h'=>e = .normal∧∃w',ST O ro w' h' r s (itK (H'o s) 0 D.nan x0).2 n (itK (H'o s) 0 D.nan x0).1∧Ch O (KN 4) w0 h0 w' h'∧(itK (H'o s) 0 D.nan x0).2.pos<=s.size):=by
 refine okE.blk ?_;refine okE.loop (λm t g=>∃j z w',ST O ro w' g r s z.2 n z.1∧Bx O ro w' g (103,0) b (hdc D)∧Ch O (KN 4) w0 h0 w' g∧t 0=ptr n∧t 1=ptr r∧t 5=ptr b∧t 10 = .int .i64 (j:Nat)∧z.2.pos<=s.size∧j+m=D.nan+1∧0<m∧z.1.gates.length=j∧itK (H'o s) j (m-1) z=itK (H'o s) 0 D.nan x0) ?_ (D.nan+1) _ _ ⟨0,x0,w,x,y,cc,t0,t1,t5,t8,hp,by omega,by omega,by rw[hl];rfl,rfl⟩;intro m t g hI;obtain⟨j,z,w',x',y',c',t0,t1,t5,t8,hp',hj,hm,hl',hfin⟩:=hI;have y2:=y'.get 5 _ rfl;unfold ptr at t0 t1 t5
 by_cases hlt:j<D.nan
 ·obtain⟨m',rfl⟩:∃m',m=m'+2:=⟨m-2,by omega⟩;have hfin2:itK (H'o s) (j+1) m' (H'o s j z)=itK (H'o s) 0 D.nan x0:=hfin;obtain⟨wB,hB,hcB,xB,cB⟩:=V'Z C L x' hs hp' (by omega);have yB:=y'.ch L cB (by simp[Kc]);have ccB:=c'.trans (Kc.mono cB (by decide) (by omega));obtain⟨q,hq⟩:=e' (j+1);have hw:IntKind.i64.wrap ((j:Int)+1)=(q:Int):=w'i;have hlt':(j:Int)<D.nan:=by omega
  unfold ptr at hcB;refine f'f ?_;simp[M't,Zbf,Zbh,Zbg,t0,t1,t5,t8,y2,hlt,hlt',hcB,hw];refine⟨m'+1,by omega,q,(H'o s j z).1,(H'o s j z).2,wB,xB,yB,ccB,rfl,P'r hp',by omega,by omega,?_,by rw[hq];exact hfin2⟩;show (_++[_]).length=q;rw[l'p,D'4];simp;omega
 ·have hm1:m=1:=by omega
  subst hm1;have hfin2:z=itK (H'o s) 0 D.nan x0:=hfin;rw[<-hfin2];have hlt':¬(j:Int)<D.nan:=by omega
  refine f'f ?_;simp[M't,Zbf,t0,t1,t5,t8,y2,hlt,hlt'];exact⟨w',x',c',hp'⟩
theorem ST.set3 (L:O.Law){w:Own}{h:H}{r n:Nat}{s:ByteArray}{R:RS}{N:Net}(x:ST O ro w h r s R n N)(v:Value)(us:List Us)(hv:Sl O ro w h (2,3) 2 v (us.flatMap Us.cells)):
  (∃ v0, O.cell h n 3 = some v0) ∧ ¬ n < ro ∧ ST O ro w (O.put h n 3 v) r s R n { N with outs := us } ∧ Ch O (KN 0) w h w (O.put h n 3 v) := by
 obtain⟨rb,⟨v0,v1,v2,v3,v4,v5,⟨m,s0,s1,s2,s3,s4,s5⟩⟩,lo⟩:=x;have m2:=m.put L 3 (by simp) v;have c2:=Ch.put L (K:=λu=>u=(2,1000)) m 3 (by simp) v rfl;exact⟨⟨v3,m.get 3 _ rfl⟩,by have:=m.lo;omega,⟨rb.ch L c2,⟨v0,v1,v2,v,v4,v5,⟨by simpa using m2,s0.ch L c2,s1.ch L c2,s2.ch L c2,hv.ch L c2,s4.ch L c2,s5.ch L c2⟩⟩,by rw[L.next_put];exact lo⟩,chN c2 0⟩
theorem ST.set4 (L:O.Law){w:Own}{h:H}{r n:Nat}{s:ByteArray}{R:RS}{N:Net}(x:ST O ro w h r s R n N)(v:Value)(us:List Us)(hv:Sl O ro w h (2,4) 2 v (us.flatMap Us.cells)):
  (∃ v0, O.cell h n 4 = some v0) ∧ ¬ n < ro ∧ ST O ro w (O.put h n 4 v) r s R n { N with bads := us } ∧ Ch O (KN 0) w h w (O.put h n 4 v) := by
 obtain⟨rb,⟨v0,v1,v2,v3,v4,v5,⟨m,s0,s1,s2,s3,s4,s5⟩⟩,lo⟩:=x;have m2:=m.put L 4 (by simp) v;have c2:=Ch.put L (K:=λu=>u=(2,1000)) m 4 (by simp) v rfl;exact⟨⟨v4,m.get 4 _ rfl⟩,by have:=m.lo;omega,⟨rb.ch L c2,⟨v0,v1,v2,v3,v,v5,⟨by simpa using m2,s0.ch L c2,s1.ch L c2,s2.ch L c2,s3.ch L c2,hv.ch L c2,s5.ch L c2⟩⟩,by rw[L.next_put];exact lo⟩,chN c2 0⟩
theorem P's (C:LP' O ro c)(L:O.Law){r n:Nat}{s:ByteArray}{D:HD}(hs:s.size<=1000)(hD:D.nou<=100∧D.nbs<=100)(x0:Net×RS)(w:Own)(h:H)
  (x : ST O ro w h r s x0.2 n x0.1)(hp : x0.2.pos ≤ s.size)(ho : x0.1.outs = [] ∧ x0.1.bads = []):
  ∃v1 h1 h2 v2 h3 w3,c 91 [ptr n,ptr r,.int .i64 D.nou] h=some (v1,h1)∧(v1.cells = #[v1]∧B'g v1=true∧B'q v1=false)∧(∃u,O.cell h1 n 3=some u)∧h2=O.put h1 n 3 v1 ∧
   c 91 [ptr n,ptr r,.int .i64 D.nbs] h2=some (v2,h3)∧(v2.cells = #[v2]∧B'g v2=true∧B'q v2=false)∧(∃u,O.cell h3 n 4=some u)∧¬n<ro ∧
   ST O ro w3 (O.put h3 n 4 v2) r s (prF s D x0).2 n (prF s D x0).1∧Ch O (KN 2) w h w3 (O.put h3 n 4 v2)∧(prF s D x0).2.pos<=s.size∧(∃w2,Ch O (KN 2) w h w2 h2):=by
 obtain⟨v1,w1,h1,e1,sl1,x1,c1⟩:=U'R C L x hs hp D.nou (by omega) 3 (.inl ⟨rfl,ho.1⟩);obtain⟨k1,hron,x2,c2⟩:=x1.set3 L v1 _ sl1;have p1:=K'm (N:=x0.1) (s:=s) D.nou x0.2 [] hp;obtain⟨v2,w3,h3,e3,sl3,x3,c3⟩:=U'R C L x2 hs p1 D.nbs (by omega) 4 (.inr ⟨rfl,ho.2⟩);obtain⟨k3,_,x4,c4⟩:=x3.set4 L v2 _ sl3;have p3:=K'm (N:={ x0.1 with outs:=(prL D.nou x0.1 s x0.2 []).1 }) (s:=s) D.nbs (prL D.nou x0.1 s x0.2 []).2 [] p1;exact⟨v1,h1,_,v2,h3,w3,e1,sl1.flat,k1,rfl,e3,sl3.flat,k3,hron,x4,((c1.trans (Kc.mono c2 (by decide) (by omega))).trans c3).trans (Kc.mono c4 (by decide) (by omega)),p3,⟨w1,c1.trans (Kc.mono c2 (by decide) (by omega))⟩⟩
theorem V'0 (C:LP' O ro c)(L:O.Law){w:Own}{h:H}{r n:Nat}{s:ByteArray}{D:HD}(hs:s.size<=1000)(hD:D.nin<=100∧D.nla<=100∧D.nou<=100∧D.nbs<=100∧D.nan<=100)(x0:Net×RS)
  (x : ST O ro w h r s x0.2 n x0.1)(hp : x0.2.pos ≤ s.size)(ho : x0.1.ins = [] ∧ x0.1.outs = [] ∧ x0.1.bads = [] ∧ x0.1.las = [] ∧ x0.1.gates = []):
  ∃w' h',c 50 [ptr n,ptr r,D.val] h=some (.tuple #[],h')∧ST O ro w' h' r s (rpS D s x0).2 n (rpS D s x0).1∧Ch O (KN 4) w h w' h'∧(rpS D s x0).2.pos<=s.size:=by
 have htv:B'q D.val=false:=rfl;obtain⟨b,hb⟩:=e' (O.next h);obtain⟨h1,hh1⟩:=e' (O.new h D.val.cells.toList);obtain⟨w1,hw1⟩:=e' (w.set b (103,0));have c1:∀K,Ch O K w h w1 h1:=λK=>by rw[hh1,hw1,hb];exact Ch.new L _ _ _ _ _
 have y1:Bx O ro w1 h1 (103,0) b (hdc D):=by rw[hh1,hw1,hb];exact Bx.new L _ _ x.lo _ _
 have x1:=x.ch L (c1 λ_=>False) (by simp) (by simp);have key:∃v h',c 50 [ptr n,ptr r,D.val] h=some (v,h')∧(v = .tuple #[]∧∃w',ST O ro w' h' r s (rpS D s x0).2 n (rpS D s x0).1∧Ch O (KN 4) w h w' h'∧(rpS D s x0).2.pos<=s.size):=by
  refine C.fn (R'1 O ro) rfl rfl ?_;obtain⟨e0,he0⟩:=e' (A'0 [ptr n,ptr r,D.val]);have a0:e0 0=ptr n:=by subst he0;rfl
  have a1:e0 1=ptr r:=by subst he0;rfl
  have a2:e0 2=D.val:=by subst he0;rfl
  rw[<-he0];unfold F50;refine s'f ?_;simp[ZaZ,a2,htv,<-hb,<-hh1,A'c,-A'1,-A'i,-rvE];refine okE.seq (s'f ?_);simp[Za0,A'c,-A'1,-A'i,-rvE];refine okE.mono (S'q C L hs hD.1 x0 w1 h1 _ x1 y1 (c1 _) hp ho.1 ho.2 (by simp[a0]) (by simp[a1]) (by simp) (by simp)) ?_;rintro e t g ⟨rfl,t0,t1,t5,w2,x2,y2,cc2,p2,o1,o2,o3,o4⟩;simp only[A'c];refine okE.seq (s'f ?_);simp[Za6,A'c,-A'1,-A'i,-rvE];refine okE.mono (S'r C L hs hD.2.1 _ w2 g _ x2 y2 cc2 p2 o3 ⟨o1,o2,o4⟩ (by simp[t0]) (by simp[t1]) (by simp[t5]) (by simp)) ?_;rintro e t' g' ⟨rfl,t0',t1',t5',w3,x3,y3,cc3,p3,q1,q2,q4⟩;simp only[A'c];have y34:=y3.get 4 _ rfl;obtain⟨v1,g1,g2,v2,g3,w4,k1,⟨f1,f2,f3⟩,⟨u1,k2⟩,k3,k4,⟨f4,f5,f6⟩,⟨u2,k5⟩,hron,x4,c4,p4,w5,c5⟩:=P's C L (D:=D) hs ⟨hD.2.2.1,hD.2.2.2.1⟩ _ w3 g' x3 p3 ⟨q1,q2⟩;have y5:=(y3.ch L c5 (by simp[Kc])).get 6 _ rfl;have y4:=y3.ch L c4 (by simp[Kc]);unfold ptr at t0' t1' t5' k1 k4;refine s'f ?_;simp[Zbc,t0',t1',t5',y34,k1,hron,f1,f2,k2,A'8,<-k3,A'c,-A'1,-A'i,-rvE];refine s'f ?_;simp[Zbd,t0',t1',t5',y5,k4,hron,f4,f5,k5,A'8,A'c,-A'1,-A'i,-rvE];refine s'f ?_;simp[Zbe,A'c,-A'1,-A'i,-rvE];have hgt:(prF s D (itK (F'E s) 0 D.nla (itK (F'r s) 0 D.nin x0))).1.gates=[]:=q4;refine okE.mono (S's C L hs hD.2.2.2.2 _ w4 _ _ x4 y4 (cc3.trans (Kc.mono c4 (by decide) (by omega))) p4 hgt (by simp[t0']) (by simp[t1']) (by simp[t5']) (by simp)) ?_;rintro e t' g' ⟨rfl,w6,x6,cc6,p6⟩;simp;exact⟨w6,x6,cc6,p6⟩
 obtain⟨v,h',e1,rfl,w',e2⟩:=key;exact⟨w',h',e1,e2⟩
end
end Go.Proofs.YtimdkminagnhgaaGreatDoor
namespace Go.Proofs.YtimdkminagnhgaaGreatDoor
open Go.Vm Go.Proofs
set_option maxHeartbeats 1000000
section
variable {H:Type}{O:HI H}{ro:Nat}{c:A'Z H}
attribute [local simp] A'a A'b reg to too A'd A'q A'h mv' nl' fl' ld' ln' mk' ia' ik' ix' B'F B'G aLd B'h A'w B'c B'x A'4 aUn unA ev A'l isB A'0 A'E A'F A'G A'H A'I A'J A'K A'L A'M cIf A'B A'f A'g A'1 A'i rvE aSt A'N A't A'O A'P A'Q A'9 A'R A'u A'S A'T B'a A'U A'v A'V A'W A'X B'b A'p Instr.fill A'e A'n A'x A'j ptr undef B'o B'y A'k B's A's B'T A'D B'C A'y B'p rangeA
def V'1 (k:Nat)(x:Net×RS): Net×RS:=
 ({ x.1.give ((2*(1+k):Nat):Int) with ins:=(x.1.give ((2*(1+k):Nat):Int)).ins++[((2*(1+k):Nat):Int)] },x.2)
def V'2 (D:HD)(s:ByteArray)(k:Nat)(x:Net×RS): Net×RS:=laS (x.1.give ((2*(1+D.nin+k):Nat):Int)) s x.2 ((2*(1+D.nin+k):Nat):Int)
def V'3 (D:HD)(s:ByteArray)(k:Nat)(x:Net×RS): Net×RS:=bgS x.1 s x.2 (2*(1+D.nin+D.nla+k))
def rbS (D:HD)(s:ByteArray)(x:Net×RS): Net×RS:=
 itK (V'3 D s) 0 D.nan (prF s D (itK (V'2 D s) 0 D.nla (itK V'1 0 D.nin x)))
end
end Go.Proofs.YtimdkminagnhgaaGreatDoor
