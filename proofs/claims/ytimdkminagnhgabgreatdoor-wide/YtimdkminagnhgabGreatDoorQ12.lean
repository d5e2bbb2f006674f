import Derived.Test.YtimdkminagnhgabGreatDoorQ11
set_option linter.all false
namespace Go.Proofs.YtimdkminagnhgabGreatDoor
open Go.Vm Go.Proofs
set_option maxHeartbeats 1000000
section
variable {H:Type}{O:HI H}{ro:Nat}{c:A'X H}
theorem K'y {n:Nat}(h:n<9223372036854775808): IntKind.i64.wrap (n:Int)=n:=w'j
theorem E'k (a:Nat)(ha:a<9223372036854775808): C'f .and .i64 (a:Int) 1=some (.int .i64 ((a%2:Nat):Int)):=by
 have h1:(BitVec.ofInt IntKind.i64.bits (a:Int) &&& BitVec.ofInt IntKind.i64.bits 1).toNat=a%2:=by
  have e1:BitVec.ofInt IntKind.i64.bits (a:Int)=BitVec.ofNat 64 a:=by
   change BitVec.ofInt 64 (a:Int) = _;exact BitVec.ofInt_natCast 64 a
  have e2:BitVec.ofInt IntKind.i64.bits 1=BitVec.ofNat 64 1:=rfl;rw[e1,e2];change (BitVec.ofNat 64 a &&& BitVec.ofNat 64 1).toNat = _;rw[BitVec.toNat_and,BitVec.toNat_ofNat,BitVec.toNat_ofNat];have:a%2^64=a:=Nat.mod_eq_of_lt (by omega);rw[this];exact Nat.and_one_is_mod a
 simp only[C'f];rw[h1,K'y (by omega)]
theorem E'l (h:H)(b:Nat): B'1 Tryz.prog O 119 (.pointer (some ⟨b,0,none⟩)) h=(cellsA O h b 0 2).map λl=>.agg l.toArray:=by
 have hi:(Tryz.prog.info? 119).map (·.size)=some 2:=by kernel_rfl
 cases hx:Tryz.prog.info? 119 with
 | none=>rw[hx]at hi;simp at hi
 | some i=>
  rw[hx]at hi;simp only[l'l,l'a]at hi;simp only[B'1,Tryz.underlying119,hx,hi]
theorem E'm (h:H)(b:Nat): B'1 Tryz.prog O 49 (.pointer (some ⟨b,0,none⟩)) h=(cellsA O h b 0 2).map λl=>.agg l.toArray:=by
 have hi:(Tryz.prog.info? 49).map (·.size)=some 2:=by kernel_rfl
 cases hx:Tryz.prog.info? 49 with
 | none=>rw[hx]at hi;simp at hi
 | some i=>
  rw[hx]at hi;simp only[l'l,l'a]at hi;simp only[B'1,Tryz.underlying49,hx,hi]
theorem D'u (L:O.Law)(w:Own)(h:H)(hro:ro<=O.next h)(z1 z2 x y:Value)(t:Tag):
  ∃h',A'6 O (O.new h [z1,z2]) (O.next h) 0 [x,y]=some h'∧Bx O ro (w.set (O.next h) t) h' t (O.next h) [x,y]∧(∀K,Ch O K w h (w.set (O.next h) t) h')∧ro<=O.next h':=by
 obtain⟨h',e1,e2,e3⟩:=Bx.puts L (K:=λ_=>True) (ro:=ro) trivial [x,y] 0 (O.new h [z1,z2]) [z1,z2] (Bx.new L w h hro t [z1,z2]) (by simp);refine⟨h',e1,by simpa using e2,λK=>?_,l'G hro (l'G (by rw[L.next_new];omega) e3.nx)⟩;have hb:=(Bx.new L (ro:=ro) w h hro t [z1,z2]);obtain⟨h2,f1,f2,f3⟩:=Bx.puts L (K:=λu=>u=t) (ro:=ro) rfl [x,y] 0 (O.new h [z1,z2]) [z1,z2] hb (by simp);rw[e1]at f1;simp only[l'a]at f1;subst f1;have key:∀b,b<O.next h->(∀o,O.cell h' b o=O.cell (O.new h [z1,z2]) b o)∧O.alive h' b=O.alive (O.new h [z1,z2]) b:=by
  intro b hb';have p1:A'6 O (O.new h [z1,z2]) (O.next h) 0 [x,y]=some (O.put (O.put (O.new h [z1,z2]) (O.next h) 0 x) (O.next h) 1 y):=by
   have k0:O.cell (O.new h [z1,z2]) (O.next h) 0=some z1:=by rw[L.cell_new,if_pos rfl];rfl
   have k1:O.cell (O.put (O.new h [z1,z2]) (O.next h) 0 x) (O.next h) 1=some z2:=by rw[L.cell_put _ _ _ _ _ k0,if_neg (by simp),L.cell_new,if_pos rfl];rfl
   simp[A'6,k0,k1]
  rw[e1]at p1;simp only[l'a]at p1;have k0:O.cell (O.new h [z1,z2]) (O.next h) 0=some z1:=by rw[L.cell_new,if_pos rfl];rfl
  have k1:O.cell (O.put (O.new h [z1,z2]) (O.next h) 0 x) (O.next h) 1=some z2:=by rw[L.cell_put _ _ _ _ _ k0,if_neg (by simp),L.cell_new,if_pos rfl];rfl
  rw[p1];refine⟨λo=>?_,by rw[L.alive_put,L.alive_put]⟩;rw[L.cell_put _ _ _ _ _ k1,if_neg (by intro q;omega),L.cell_put _ _ _ _ _ k0,if_neg (by intro q;omega)]
 have cn:=Ch.new L K w h t [z1,z2];refine⟨l'G cn.nx e3.nx,cn.ow,λb hb' hk=>?_⟩;have a1:=cn.fr b hb' hk;have a2:=key b hb';exact⟨λo=>(a2.1 o).trans (a1.1 o),a2.2.trans a1.2⟩
structure Us where
 l:Int
 p:Nat
structure LaL where
 l:Int
 n:Us
 z:Nat
structure GaL where
 g:Us
 a:Us
 b:Us
structure Net where
 given:List Bool
 ins:List Int
 las:List LaL
 outs:List Us
 bads:List Us
 gates:List GaL
def iv (n:Int): Value:=.int .i64 n
def Us.cells (u:Us): List Value:=[.int .i64 u.l,.int .i64 u.p]
def Us.val (u:Us): Value:=.agg #[.int .i64 u.l,.int .i64 u.p]
def LaL.cells (x:LaL): List Value:=[.int .i64 x.l,.int .i64 x.n.l,.int .i64 x.n.p,.int .i64 x.z]
def GaL.cells (x:GaL): List Value:=[.int .i64 x.g.l,.int .i64 x.g.p,.int .i64 x.a.l,.int .i64 x.a.p,.int .i64 x.b.l,.int .i64 x.b.p]
structure NL (O:HI H) (ro:Nat)(w:Own)(h:H) (n:Nat)(N:Net)(v0 v1 v2 v3 v4 v5:Value):Prop where
 m:Bx O ro w h (2,1000) n [v0,v1,v2,v3,v4,v5]
 s0:Sl O ro w h (2,0) 1 v0 (N.given.map Value.bool)
 s1:Sl O ro w h (2,1) 1 v1 (N.ins.map iv)
 s2:Sl O ro w h (2,2) 4 v2 (N.las.flatMap LaL.cells)
 s3:Sl O ro w h (2,3) 2 v3 (N.outs.flatMap Us.cells)
 s4:Sl O ro w h (2,4) 2 v4 (N.bads.flatMap Us.cells)
 s5:Sl O ro w h (2,5) 6 v5 (N.gates.flatMap GaL.cells)
theorem NL.ch (L:O.Law){K:Tag->Prop}{w w':Own}{h h':H}{n:Nat}{N:Net}{v0 v1 v2 v3 v4 v5:Value}(x:NL O ro w h n N v0 v1 v2 v3 v4 v5)(a:Ch O K w h w' h')(hk:∀o,¬K (2,o):=by simp): NL O ro w' h' n N v0 v1 v2 v3 v4 v5:=
 ⟨x.m.ch L a (hk _),x.s0.ch L a (hk _),x.s1.ch L a (hk _),x.s2.ch L a (hk _),x.s3.ch L a (hk _),x.s4.ch L a (hk _),x.s5.ch L a (hk _)⟩
structure ST (O:HI H) (ro:Nat)(w:Own)(h:H) (r:Nat)(s:ByteArray)(R:RS) (n:Nat)(N:Net):Prop where
 rb:RB O ro w h r s R
 nl:∃v0 v1 v2 v3 v4 v5,NL O ro w h n N v0 v1 v2 v3 v4 v5
 lo:ro<=O.next h
def Kc (cs:List Nat)(n:Nat)(u:Tag): Prop:=u.1∈cs∨(100<=u.1∧u.1<100+n)
abbrev KN (n:Nat): Tag->Prop:=Kc [1,2] n
theorem Kc.mono {cs cs':List Nat}{n n':Nat}{w w':Own}{h h':H}(a:Ch O (Kc cs n) w h w' h')(h1:cs.all (cs'.contains ·)=true)(h2:n<=n'): Ch O (Kc cs' n') w h w' h':=by
 refine a.mono λt ht=>?_;rcases ht with ht|ht
 ·left;have:=l'D.1 h1 _ ht;simpa using this
 ·right;omega
theorem Kc.one {cs:List Nat}{n:Nat}{t:Tag}{w w':Own}{h h':H}(a:Ch O (λu=>u=t) w h w' h')(h1:Kc cs n t): Ch O (Kc cs n) w h w' h':=a.mono (by rintro u rfl;exact h1)
theorem ST.ch (L:O.Law){K:Tag->Prop}{w w':Own}{h h':H}{r:Nat}{s:ByteArray}{R:RS}{n:Nat}{N:Net}(x:ST O ro w h r s R n N)(a:Ch O K w h w' h')(h1:∀o,¬K (1,o):=by simp)(h2:∀o,¬K (2,o):=by simp): ST O ro w' h' r s R n N:=by
 obtain⟨rb,⟨v0,v1,v2,v3,v4,v5,nl⟩,lo⟩:=x;exact⟨rb.ch L a (h1 _),⟨v0,v1,v2,v3,v4,v5,nl.ch L a h2⟩,l'G lo a.nx⟩
theorem ST.rd (L:O.Law){w w':Own}{h h':H}{r:Nat}{s:ByteArray}{R R':RS}{n:Nat}{N:Net}(x:ST O ro w h r s R n N)(y:RB O ro w' h' r s R')(a:Ch O (λu=>u=(1,1000)) w h w' h'): ST O ro w' h' r s R' n N:=by
 obtain⟨rb,⟨v0,v1,v2,v3,v4,v5,nl⟩,lo⟩:=x;exact⟨y,⟨v0,v1,v2,v3,v4,v5,nl.ch L a⟩,l'G lo a.nx⟩
theorem chR {w w':Own}{h h':H}(a:Ch O (λu=>u=(1,1000)) w h w' h')(n:Nat){cs:List Nat}(h1:1∈cs:=by decide): Ch O (Kc cs n) w h w' h':=Kc.one a (.inl h1)
theorem chN {w w':Own}{h h':H}{o:Nat}(a:Ch O (λu=>u=(2,o)) w h w' h')(n:Nat): Ch O (KN n) w h w' h':=Kc.one a (.inl (by simp))
theorem chL {w w':Own}{h h':H}{d o:Nat}(a:Ch O (λu=>u=(d,o)) w h w' h')(n:Nat)(hd:100<=d∧d<100+n){cs:List Nat}: Ch O (Kc cs n) w h w' h':=Kc.one a (.inr hd)
def Net.has (N:Net)(l:Int): Bool:=decide (0<=l)&&decide (l/2<(N.given.length:Int))
def Net.isGiven (N:Net)(l:Int): Bool:=N.has l&&(N.given[(l/2).toNat]?).getD false
def Net.give (N:Net)(l:Int): Net:=if N.has l then { N with given:=N.given.set (l/2).toNat true } else N
attribute [local simp] A'b A'c reg to too A'a A'n A'i mv' nl' fl' ld' ln' mk' ia' ik' ix' B'C B'D aLd A'5 A'q A'7 A'3 A'2 aUn unA ev A'k isB A'Z C'f cIf A'y A'f A'g A'L A'h rvE B'j aSt Value.cells B'f A'l Instr.fill A'e A'r A'z A's ptr undef B'o B'r A'j B'n A'w B'w A'B B'A
theorem M'1 (C:LP' O ro c){w:Own}{h:H}{n:Nat}{N:Net}{v0 v1 v2 v3 v4 v5:Value}(x:NL O ro w h n N v0 v1 v2 v3 v4 v5)(l:Int): c 114 [ptr n,.int .i64 l] h=some (.bool (N.has l),h):=by
 refine C.eq (M'S O ro) rfl rfl (f'f ?_);obtain⟨a,cp,rfl⟩:=x.s0.len (by omega) N.given.length (by simp);have m0:=x.m.get 0 _ rfl;unfold Net.has
 by_cases h0:0<=l
 ·have e1:l.fdiv 2=l/2:=Int.fdiv_eq_ediv_of_nonneg l (by omega)
  by_cases h1:l/2<(N.given.length:Int)
  ·simp[Q'1,Zef,Zeg,h0,m0,IntKind.bits,e1,h1]
  ·simp[Q'1,Zef,Zeg,h0,m0,IntKind.bits,e1,h1]
 ·simp[Q'1,Zef,Zeg,h0]
theorem F'K (C:LP' O ro c){w:Own}{h:H}{n:Nat}{N:Net}{v0 v1 v2 v3 v4 v5:Value}(x:NL O ro w h n N v0 v1 v2 v3 v4 v5)(l:Int): c 118 [ptr n,.int .i64 l] h=some (.bool (N.isGiven l),h):=by
 refine C.eq (M'T O ro) rfl rfl (f'f ?_);have hh:=M'1 C x l;have m0:=x.m.get 0 _ rfl;unfold ptr at hh;unfold Net.isGiven
 by_cases h0:N.has l=true
 ·have h1:0<=l∧l/2<(N.given.length:Int):=by simpa [Net.has]using h0
  have e1:l.fdiv 2=l/2:=Int.fdiv_eq_ediv_of_nonneg l (by omega);obtain⟨b,cp,rfl,y⟩:=x.s0.blk (by omega) N.given.length (by simp) (by omega);have hq:(l/2).toNat<N.given.length:=by omega
  have hc:=y.get (l/2).toNat (.bool N.given[(l/2).toNat]) (by simp[hq]);have k0:0<=l/2:=by omega
  simp[Q'9,ZeE,ZeF,hh,h0,m0,IntKind.bits,e1,k0,h1.2,hc,hq]
 ·simp[Q'9,ZeE,ZeF,hh,h0]
theorem G'0 (C:LP' O ro c)(L:O.Law){w:Own}{h:H}{r n:Nat}{s:ByteArray}{R:RS}{N:Net}(x:ST O ro w h r s R n N)(l:Int):
  ∃h',c 68 [ptr n,.int .i64 l] h=some (.tuple #[],h')∧ST O ro w h' r s R n (N.give l)∧Ch O (KN 0) w h w h':=by
 obtain⟨rb,⟨v0,v1,v2,v3,v4,v5,nl⟩,lo⟩:=x;have hh:=M'1 C nl l;have m0:=nl.m.get 0 _ rfl;unfold ptr at hh;unfold Net.give
 by_cases h0:N.has l=true
 ·have h1:0<=l∧l/2<(N.given.length:Int):=by simpa [Net.has]using h0
  have e1:l.fdiv 2=l/2:=Int.fdiv_eq_ediv_of_nonneg l (by omega);obtain⟨m,s0,s1,s2,s3,s4,s5⟩:=nl;have hs0:=s0;obtain⟨b,cp,rfl,y⟩:=s0.blk (by omega) N.given.length (by simp) (by omega);have hq:(l/2).toNat<N.given.length:=by omega
  have hc:=y.get (l/2).toNat (.bool N.given[(l/2).toNat]) (by simp[hq]);have k0:0<=l/2:=by omega
  have hro:¬b<ro:=by have:=y.lo;omega
  have y2:=y.put L (l/2).toNat (by simpa using hq) (.bool true);have c2:=Ch.put L (K:=λu=>u=(2,0)) y (l/2).toNat (by simpa using hq) (.bool true) rfl;refine⟨O.put h b (l/2).toNat (.bool true),?_,?_,chN c2 0⟩
  ·refine C.eq (L'R O ro) rfl rfl (f'f ?_);simp[F68,ZcH,ZcI,hh,h0,m0,IntKind.bits,e1,k0,h1.2,hc,hq,hro,A'6]
  ·rw[if_pos h0];refine⟨rb.ch L c2,⟨_,v1,v2,v3,v4,v5,⟨m.ch L c2,?_,s1.ch L c2,s2.ch L c2,s3.ch L c2,s4.ch L c2,s5.ch L c2⟩⟩,by rw[L.next_put];exact lo⟩;rcases hs0 with ⟨e,_⟩|⟨b',m',cp',e,ec,el,en,y'⟩
   ·simp at e
   ·simp only[Value.slice.injEq,l'a,Addr.mk.injEq]at e;obtain⟨⟨rfl,_⟩,rfl,rfl⟩:=e;refine .inr ⟨b,N.given.length,cp,rfl,ec,by simp,?_,?_⟩
    ·intro q;have:=congrArg List.length q;simp only[List.length_map,List.length_set,l'o]at this;omega
    ·simpa [List.map_set]using y2
 ·rw[if_neg h0];refine⟨h,?_,⟨rb,⟨v0,v1,v2,v3,v4,v5,nl⟩,lo⟩,Ch.refl _ _ _⟩;refine C.eq (L'R O ro) rfl rfl (f'f ?_);simp[F68,ZcH,ZcI,hh,h0]
def B'5 (N:Net)(s:ByteArray)(R:RS): Us×RS:=
 let q:=E'i s R
 (⟨q.1,R.pos⟩,if N.has q.1 then q.2 else fl q.2 7 R.pos)
theorem I'N (C:LP' O ro c)(L:O.Law){w:Own}{h:H}{r n:Nat}{s:ByteArray}{R:RS}{N:Net}(x:ST O ro w h r s R n N)(hs:s.size<=1000)(hp:R.pos<=s.size):
  ∃w' h',c 115 [ptr n,ptr r] h=some ((B'5 N s R).1.val,h')∧ST O ro w' h' r s (B'5 N s R).2 n N∧Ch O (Kc [1] 1) w h w' h':=by
 obtain⟨b,hb⟩:=e' (O.next h);obtain⟨h1,hh1⟩:=e' (O.new h [.int .i64 0,.int .i64 0]);obtain⟨w1,hw1⟩:=e' (w.set b (100,0));have c1:∀K,Ch O K w h w1 h1:=λK=>by rw[hh1,hw1,hb];exact Ch.new L _ _ _ _ _
 have y1:Bx O ro w1 h1 (100,0) b [.int .i64 0,.int .i64 0]:=by rw[hh1,hw1,hb];exact Bx.new L _ _ x.lo _ _
 have x1:=x.ch L (c1 λ_=>False) (by simp) (by simp);have d1:=x1.rb.get 1 _ rfl;obtain⟨h2,hc2,rb2,c2⟩:=P'l C L x1.rb hs hp;have x2:=x1.rd L rb2 c2;have y2:=y1.ch L c2;have hle:=G'w s R;obtain⟨v0,v1,v2,v3,v4,v5,nl2⟩:=x2.nl;have hhas:=M'1 C nl2 (E'i s R).1;unfold B'5;simp only;generalize E'i s R=q at hc2 rb2 x2 hle hhas;unfold ptr at hc2 hhas
 by_cases hq:N.has q.1=true
 ·obtain⟨h3,e3,y3,c3⟩:=Bx.puts L (K:=λu=>u=(100,0)) rfl [.int .i64 q.1,.int .i64 R.pos] 0 h2 _ y2 (by simp);refine⟨w1,h3,?_,by rw[if_pos hq];exact x2.ch L c3,((c1 _).trans (chR c2 _)).trans (chL c3 1 (by omega))⟩;refine C.eq (I'H O ro) rfl rfl (f'f ?_);have hl:cellsA O h3 b 0 2=some [.int .i64 q.1,.int .i64 R.pos]:=by simpa using y3.all
  have hro:¬b<ro:=by have:=y3.lo;omega
  simp[Q'7,Zeh,Zei,Zej,Zek,Zel,Zem,<-hb,<-hh1,d1,hc2,hhas,hq,e3,hro,E'l,hl,Us.val,List.zipIdx]
 ·obtain⟨h4,hc4,rb4,c4⟩:=E'W C L rb2 7 R.pos;have x4:=x2.rd L rb4 c4;have y4:=y2.ch L c4;obtain⟨h3,e3,y3,c3⟩:=Bx.puts L (K:=λu=>u=(100,0)) rfl [.int .i64 q.1,.int .i64 R.pos] 0 h4 _ y4 (by simp);refine⟨w1,h3,?_,by rw[if_neg hq];exact x4.ch L c3,(((c1 _).trans (chR c2 _)).trans (chR c4 _)).trans (chL c3 1 (by omega))⟩;refine C.eq (I'H O ro) rfl rfl (f'f ?_);have hl:cellsA O h3 b 0 2=some [.int .i64 q.1,.int .i64 R.pos]:=by simpa using y3.all
  have hro:¬b<ro:=by have:=y3.lo;omega
  have hc4':c 67 [Value.pointer (some ⟨r,0,none⟩),.int .i64 7,.int .i64 R.pos] h2=some (.tuple #[],h4):=hc4;simp[Q'7,Zeh,Zei,Zej,Zek,Zel,Zem,<-hb,<-hh1,d1,hc2,hhas,hq,hc4',e3,hro,E'l,hl,Us.val,List.zipIdx]
end
end Go.Proofs.YtimdkminagnhgabGreatDoor
namespace Go.Proofs.YtimdkminagnhgabGreatDoor
open Go.Vm Go.Proofs
set_option maxHeartbeats 1000000
theorem A'C (k:IntKind)(a b:Int): C'f .add k a b=some (.int k (k.wrap (a+b))):=rfl
theorem A'D (k:IntKind)(a b:Int): C'f .sub k a b=some (.int k (k.wrap (a-b))):=rfl
theorem A'E (k:IntKind)(a b:Int): C'f .mul k a b=some (.int k (k.wrap (a*b))):=rfl
theorem A'F (k:IntKind)(a b:Int): C'f .eql k a b=some (.bool (a==b)):=rfl
theorem A'G (k:IntKind)(a b:Int): C'f .neq k a b=some (.bool (a != b)):=rfl
theorem A'H (k:IntKind)(a b:Int): C'f .lss k a b=some (.bool (decide (a<b))):=rfl
theorem A'I (k:IntKind)(a b:Int): C'f .leq k a b=some (.bool (decide (a<=b))):=rfl
theorem A'J (k:IntKind)(a b:Int): C'f .gtr k a b=some (.bool (decide (b<a))):=rfl
theorem A'K (k:IntKind)(a b:Int): C'f .geq k a b=some (.bool (decide (b<=a))):=rfl
theorem A'M (k:IntKind)(a:Int): (Value.int k a).cells = #[.int k a]:=rfl
theorem A't (b:Bool): (Value.bool b).cells = #[.bool b]:=rfl
theorem A'N (x:Array Value): (Value.agg x).cells=x:=rfl
theorem A'O (x:ByteArray): (Value.string x).cells = #[.string x]:=rfl
theorem A'P (x:Option Addr): (Value.pointer x).cells = #[.pointer x]:=rfl
theorem B'c (x:Option Addr)(n m:Nat): (Value.slice x n m).cells = #[.slice x n m]:=rfl
theorem A'Q (k:IntKind)(a:Int): B'f (Value.int k a)=true:=rfl
theorem A'u (b:Bool): B'f (Value.bool b)=true:=rfl
theorem A'R (x:ByteArray): B'f (Value.string x)=true:=rfl
theorem A'S (x:Option Addr): B'f (Value.pointer x)=true:=rfl
theorem B'd (x:Option Addr)(n m:Nat): B'f (Value.slice x n m)=true:=rfl
theorem A'T (k:IntKind)(a:Int): B'j (Value.int k a)=false:=rfl
theorem A'v (b:Bool): B'j (Value.bool b)=false:=rfl
theorem A'U (x:Array Value): B'j (Value.agg x)=false:=rfl
theorem A'V (x:ByteArray): B'j (Value.string x)=false:=rfl
theorem A'W (x:Option Addr): B'j (Value.pointer x)=false:=rfl
theorem B'e (x:Option Addr)(n m:Nat): B'j (Value.slice x n m)=false:=rfl
section
variable {H:Type}{O:HI H}{ro:Nat}{c:A'X H}
attribute [local simp] A'b A'c reg to too A'a A'n A'i mv' nl' fl' ld' ln' mk' ia' ik' ix' B'C B'D aLd A'5 A'q A'7 A'3 A'2 aUn unA ev A'k isB A'Z A'C A'D A'E A'F A'G A'H A'I A'J A'K cIf A'y A'f A'g A'L A'h rvE B'j aSt Value.cells B'f A'l Instr.fill A'e A'r A'z A's ptr undef B'o B'r A'j B'n A'w B'w A'B B'A A'x B'p rangeA
theorem A'0 {α:Type}(f:α->List Value)(k:Nat)(hf:∀x,(f x).length=k): ∀l:List α,(l.flatMap f).length=l.length*k:=by
 intro l
 induction l with
 | nil=>simp
 | cons x l ih=>simp[List.flatMap_cons,ih,hf,Nat.add_mul,Nat.add_comm]
theorem ST.app1 (L:O.Law){w:Own}{h:H}{r n:Nat}{s:ByteArray}{R:RS}{N:Net}(x:ST O ro w h r s R n N)(e:Int)(hl:N.ins.length<=10000):
  ∃v v' h1 w1,O.cell h n 1=some v∧D'd O ro 1 8 v (.slice (some ⟨O.next h,0,some 1⟩) 1 2) (O.new h [.int .i64 e])=some (v',h1)∧(v'.cells = #[v']∧B'f v'=true∧B'j v'=false)∧O.cell h1 n 1=some v∧¬n<ro ∧
   ST O ro w1 (O.put h1 n 1 v') r s R n { N with ins:=N.ins++[e] }∧Ch O (KN 0) w h w1 (O.put h1 n 1 v'):=by
 obtain⟨rb,⟨v0,v1,v2,v3,v4,v5,⟨m,s0,s1,s2,s3,s4,s5⟩⟩,lo⟩:=x;obtain⟨v',h1,w1,e1,e2,c1,lo1⟩:=C'd L (bytes:=8) lo s1 (new:=[.int .i64 e]) (by omega) rfl (by simp;omega) (by simp;omega);have m1:=m.ch L c1;have m2:=m1.put L 1 (by simp) v';have c2:=Ch.put L (K:=λu=>u=(2,1000)) m1 1 (by simp) v' rfl;refine⟨v1,v',h1,w1,m.get 1 _ rfl,e1,e2.flat,m1.get 1 _ rfl,by have:=m.lo;omega,⟨(rb.ch L c1).ch L c2,⟨v0,v',v2,v3,v4,v5,⟨by simpa using m2,(s0.ch L c1).ch L c2,?_,(s2.ch L c1).ch L c2,(s3.ch L c1).ch L c2,(s4.ch L c1).ch L c2,(s5.ch L c1).ch L c2⟩⟩,by rw[L.next_put];exact lo1⟩,(chN c1 0).trans (chN c2 0)⟩;have:=e2.ch L c2;simpa [iv]using this
theorem ST.app2 (L:O.Law){w:Own}{h:H}{r n:Nat}{s:ByteArray}{R:RS}{N:Net}(x:ST O ro w h r s R n N)(e:LaL)(hl:N.las.length<=10000):
  ∃v v' h1 w1,O.cell h n 2=some v∧D'd O ro 4 32 v (.slice (some ⟨O.next h,0,some 4⟩) 1 2) (O.new h e.cells)=some (v',h1)∧(v'.cells = #[v']∧B'f v'=true∧B'j v'=false)∧O.cell h1 n 2=some v∧¬n<ro ∧
   ST O ro w1 (O.put h1 n 2 v') r s R n { N with las:=N.las++[e] }∧Ch O (KN 0) w h w1 (O.put h1 n 2 v'):=by
 obtain⟨rb,⟨v0,v1,v2,v3,v4,v5,⟨m,s0,s1,s2,s3,s4,s5⟩⟩,lo⟩:=x;have hlen:=A'0 LaL.cells 4 (λ_=>rfl) N.las;obtain⟨v',h1,w1,e1,e2,c1,lo1⟩:=C'd L (bytes:=32) lo s2 (new:=e.cells) (by omega) rfl (by omega) (by omega);have m1:=m.ch L c1;have m2:=m1.put L 2 (by simp) v';have c2:=Ch.put L (K:=λu=>u=(2,1000)) m1 2 (by simp) v' rfl;refine⟨v2,v',h1,w1,m.get 2 _ rfl,e1,e2.flat,m1.get 2 _ rfl,by have:=m.lo;omega,⟨(rb.ch L c1).ch L c2,⟨v0,v1,v',v3,v4,v5,⟨by simpa using m2,(s0.ch L c1).ch L c2,(s1.ch L c1).ch L c2,?_,(s3.ch L c1).ch L c2,(s4.ch L c1).ch L c2,(s5.ch L c1).ch L c2⟩⟩,by rw[L.next_put];exact lo1⟩,(chN c1 0).trans (chN c2 0)⟩;have:=e2.ch L c2;simpa using this
theorem ST.app5 (L:O.Law){w:Own}{h:H}{r n:Nat}{s:ByteArray}{R:RS}{N:Net}(x:ST O ro w h r s R n N)(e:GaL)(hl:N.gates.length<=10000):
  ∃v v' h1 w1,O.cell h n 5=some v∧D'd O ro 6 48 v (.slice (some ⟨O.next h,0,some 6⟩) 1 2) (O.new h e.cells)=some (v',h1)∧(v'.cells = #[v']∧B'f v'=true∧B'j v'=false)∧O.cell h1 n 5=some v∧¬n<ro ∧
   ST O ro w1 (O.put h1 n 5 v') r s R n { N with gates:=N.gates++[e] }∧Ch O (KN 0) w h w1 (O.put h1 n 5 v'):=by
 obtain⟨rb,⟨v0,v1,v2,v3,v4,v5,⟨m,s0,s1,s2,s3,s4,s5⟩⟩,lo⟩:=x;have hlen:=A'0 GaL.cells 6 (λ_=>rfl) N.gates;obtain⟨v',h1,w1,e1,e2,c1,lo1⟩:=C'd L (bytes:=48) lo s5 (new:=e.cells) (by omega) rfl (by omega) (by omega);have m1:=m.ch L c1;have m2:=m1.put L 5 (by simp) v';have c2:=Ch.put L (K:=λu=>u=(2,1000)) m1 5 (by simp) v' rfl;refine⟨v5,v',h1,w1,m.get 5 _ rfl,e1,e2.flat,m1.get 5 _ rfl,by have:=m.lo;omega,⟨(rb.ch L c1).ch L c2,⟨v0,v1,v2,v3,v4,v',⟨by simpa using m2,(s0.ch L c1).ch L c2,(s1.ch L c1).ch L c2,(s2.ch L c1).ch L c2,(s3.ch L c1).ch L c2,(s4.ch L c1).ch L c2,?_⟩⟩,by rw[L.next_put];exact lo1⟩,(chN c1 0).trans (chN c2 0)⟩;have:=e2.ch L c2;simpa using this
theorem C'r {N:Net}{s:ByteArray}{R:RS}(hp:R.pos<=s.size): (B'5 N s R).2.pos<=s.size:=by
 have:=F'f (s:=s) (R:=R) hp;unfold B'5;simp only;split
 ·exact this
 ·rw[D't];exact this
theorem P'n (N:Net)(s:ByteArray)(R:RS): ∃k:Nat,k<10000∧(B'5 N s R).1=⟨(k:Int),R.pos⟩:=⟨(E'i s R).1,G'w s R,rfl⟩
def C'U (N:Net)(s:ByteArray)(R:RS): Us×Net×RS:=
 let u:=B'5 N s R
 (u.1,N.give u.1.l,if u.1.l%2=1∨N.isGiven u.1.l=true then fl u.2 8 R.pos else u.2)
theorem D'0 {N:Net}{s:ByteArray}{R:RS}(hp:R.pos<=s.size): (C'U N s R).2.2.pos<=s.size:=by
 have:=C'r (N:=N) (s:=s) (R:=R) hp;unfold C'U;simp only;split
 ·rw[D't];exact this
 ·exact this
theorem M'2 (C:LP' O ro c)(L:O.Law){w:Own}{h:H}{r n:Nat}{s:ByteArray}{R:RS}{N:Net}(x:ST O ro w h r s R n N)(hs:s.size<=1000)(hp:R.pos<=s.size):
  ∃w' h',c 72 [ptr n,ptr r] h=some ((C'U N s R).1.val,h')∧ST O ro w' h' r s (C'U N s R).2.2 n (C'U N s R).2.1∧Ch O (KN 2) w h w' h':=by
 obtain⟨b,hb⟩:=e' (O.next h);obtain⟨h1,hh1⟩:=e' (O.new h [.int .i64 0,.int .i64 0]);obtain⟨w1,hw1⟩:=e' (w.set b (101,0));have c1:∀K,Ch O K w h w1 h1:=λK=>by rw[hh1,hw1,hb];exact Ch.new L _ _ _ _ _
 have y1:Bx O ro w1 h1 (101,0) b [.int .i64 0,.int .i64 0]:=by rw[hh1,hw1,hb];exact Bx.new L _ _ x.lo _ _
 have x1:=x.ch L (c1 λ_=>False) (by simp) (by simp);obtain⟨w2,h2,hc2,x2,c2⟩:=I'N C L x1 hs hp;have y2:=y1.ch L c2 (by simp[Kc]);obtain⟨h3,e3,z3,c3,lo3⟩:=D'u L w2 h2 x2.lo (.int .i64 0) (.int .i64 0) (.int .i64 (B'5 N s R).1.l) (.int .i64 (B'5 N s R).1.p) (101,1);obtain⟨b3,hb3⟩:=e' (O.next h2);obtain⟨w3,hw3⟩:=e' (w2.set b3 (101,1));rw[<-hb3,<-hw3]at z3;rw[<-hb3]at e3;have c3':∀K,Ch O K w2 h2 w3 h3:=λK=>by rw[hw3,hb3];exact c3 K
 have x3:=x2.ch L (c3' λ_=>False) (by simp) (by simp);have y3:=y2.ch L (c3' λ_=>False) (by simp);obtain⟨v0,v1,v2,v3,v4,v5,nl3⟩:=x3.nl;have hg:=F'K C nl3 (B'5 N s R).1.l;obtain⟨k,hk,hu⟩:=P'n N s R;have z0:=z3.get 0 _ rfl;have z1:=z3.get 1 _ rfl;have hand:=E'k k (by omega);have hro3:¬b3<ro:=by have:=z3.lo;omega
 have hro1:¬b<ro:=by have:=y3.lo;omega
 have hodd:((B'5 N s R).1.l%2=1)↔k%2=1:=by rw[hu];simp only;omega
 unfold ptr at hc2 hg;have fault:∃h4,(if (B'5 N s R).1.l%2=1∨N.isGiven (B'5 N s R).1.l=true then c 67 [Value.pointer (some ⟨r,0,none⟩),.int .i64 8,.int .i64 R.pos] h3=some (.tuple #[],h4) else h4=h3)∧ST O ro w3 h4 r s (C'U N s R).2.2 n N∧Ch O (λu=>u=(1,1000)) w3 h3 w3 h4:=by
  by_cases hq:(B'5 N s R).1.l%2=1∨N.isGiven (B'5 N s R).1.l=true
  ·obtain⟨h4,hc4,rb4,c4⟩:=E'W C L x3.rb 8 R.pos;exact⟨h4,by rw[if_pos hq];exact hc4,by unfold C'U;simp only;rw[if_pos hq];exact x3.rd L rb4 c4,c4⟩
  ·exact⟨h3,by rw[if_neg hq],by unfold C'U;simp only;rw[if_neg hq];exact x3,Ch.refl _ _ _⟩
 obtain⟨h4,e4,x4,c4⟩:=fault;have z4:=z3.ch L c4;have y4:=y3.ch L c4;have z40:=z4.get 0 _ rfl;obtain⟨h5,hc5,x5,c5⟩:=G'0 C L x4 (B'5 N s R).1.l;have z5:=z4.ch L c5 (by simp[Kc]);have y5:=y4.ch L c5 (by simp[Kc]);have hl5:cellsA O h5 b3 0 2=some [.int .i64 (B'5 N s R).1.l,.int .i64 (B'5 N s R).1.p]:=by simpa using z5.all
 obtain⟨h6,e6,y6,c6⟩:=Bx.puts L (K:=λu=>u=(101,0)) rfl [.int .i64 (B'5 N s R).1.l,.int .i64 (B'5 N s R).1.p] 0 h5 _ y5 (by simp);have hl6:cellsA O h6 b 0 2=some [.int .i64 (B'5 N s R).1.l,.int .i64 (B'5 N s R).1.p]:=by simpa using y6.all
 refine⟨w3,h6,?_,x5.ch L c6,?_⟩
 ·refine C.eq (O'3 O ro) rfl rfl (f'f ?_);unfold ptr at hc5;rw[hu]at e3 e4 e6 hl5 hl6 hg z0 z1 z40 hc5 hodd hc2;simp only at e3 e4 e6 hl5 hl6 hg z0 z1 z40 hc5 hodd hc2;have hval:(C'U N s R).1=⟨(k:Int),R.pos⟩:=hu;rw[hval];simp only[Us.val]at hc2 ⊢
  by_cases ho:k%2=1
  ·rw[if_pos (.inl (hodd.2 ho))]at e4;rw[ho]at hand;simp[F72,Zc9,Zda,Zdb,Zdc,Zdd,Zde,<-hb,<-hh1,hc2,<-hb3,e3,hro1,hro3,z0,z1,hand,e4,z40,hc5,hl5,e6,E'l,hl6,List.zipIdx]
  ·have ho0:k%2=0:=by omega
   rw[ho0]at hand
   by_cases hgv:N.isGiven k=true
   ·rw[if_pos (.inr hgv)]at e4;simp[F72,Zc9,Zda,Zdb,Zdc,Zdd,Zde,<-hb,<-hh1,hc2,<-hb3,e3,hro1,hro3,z0,z1,hand,hg,hgv,e4,z40,hc5,hl5,e6,E'l,hl6,List.zipIdx]
   ·rw[if_neg (by rw[hodd];simp[ho,hgv])]at e4;subst e4;simp[F72,Zc9,Zda,Zdb,Zdc,Zdd,Zde,<-hb,<-hh1,hc2,<-hb3,e3,hro1,hro3,z0,z1,hand,hg,hgv,z40,hc5,hl5,e6,E'l,hl6,List.zipIdx]
 ·exact (((((c1 _).trans (Kc.mono c2 (by decide) (by omega))).trans (c3' _)).trans (chR c4 _)).trans (Kc.mono c5 (by decide) (by omega))).trans (chL c6 2 (by omega))
end
end Go.Proofs.YtimdkminagnhgabGreatDoor
namespace Go.Proofs.YtimdkminagnhgabGreatDoor
open Go.Vm Go.Proofs
set_option maxHeartbeats 1000000
section
variable {H:Type}{O:HI H}{ro:Nat}{c:A'X H}
attribute [local simp] A'b A'c reg to too A'a A'n A'i mv' nl' fl' ld' ln' mk' ia' ik' ix' B'C B'D aLd A'5 A'q A'7 A'3 A'2 aUn unA ev A'k isB A'Z A'C A'D A'E A'F A'G A'H A'I A'J A'K cIf A'y A'f A'g A'L A'h rvE aSt A'M A't A'N A'O A'P B'c A'Q A'u A'R A'S B'd A'T A'v A'U A'V A'W B'e A'l Instr.fill A'e A'r A'z A's ptr undef B'o B'r A'j B'n A'w B'w A'B B'A A'x B'p rangeA
def rsS (own:Int)(s:ByteArray)(R:RS): Nat×RS:=
 let q:=E'i s R
 if q.1=0 then (0,q.2) else if q.1=1 then (1,q.2) else if (q.1:Int)=own then (2,q.2) else (0,fl q.2 9 R.pos)
theorem M'3 {own:Int}{s:ByteArray}{R:RS}(hp:R.pos<=s.size): (rsS own s R).2.pos<=s.size:=by
 have:=F'f (s:=s) (R:=R) hp;unfold rsS;simp only;split
 ·exact this
 ·split
  ·exact this
  ·split
   ·exact this
   ·simp only[D't];exact this
theorem S's (C:LP' O ro c)(L:O.Law){w:Own}{h:H}{r:Nat}{s:ByteArray}{R:RS}(x:RB O ro w h r s R)(hs:s.size<=1000)(hp:R.pos<=s.size)(own:Int):
  ∃h',c 116 [ptr r,.int .i64 own] h=some (.int .i64 (rsS own s R).1,h')∧RB O ro w h' r s (rsS own s R).2∧Ch O (λu=>u=(1,1000)) w h w h':=by
 have d1:=x.get 1 _ rfl;obtain⟨h2,hc2,x2,c2⟩:=P'l C L x hs hp;unfold rsS;simp only;generalize E'i s R=q at hc2 x2;unfold ptr at hc2
 by_cases h0:q.1=0
 ·refine⟨h2,?_,by rw[if_pos h0];exact x2,c2⟩;refine C.eq (F'd O ro) rfl rfl (f'f ?_);have k0:((q.1:Int)==0)=true:=by simp;omega
  simp[P'b,Zen,Zeo,Zep,Zeq,Zer,d1,hc2,k0,h0]
 ·have k0:((q.1:Int)==0)=false:=by simp;omega
  rw[if_neg h0]
  by_cases h1:q.1=1
  ·refine⟨h2,?_,by rw[if_pos h1];exact x2,c2⟩;refine C.eq (F'd O ro) rfl rfl (f'f ?_);have k1:((q.1:Int)==1)=true:=by simp;omega
   simp[P'b,Zen,Zeo,Zep,Zeq,Zer,Zes,Zet,d1,hc2,k0,h0,k1,h1]
  ·have k1:((q.1:Int)==1)=false:=by simp;omega
   rw[if_neg h1]
   by_cases h3:(q.1:Int)=own
   ·refine⟨h2,?_,by rw[if_pos h3];exact x2,c2⟩;refine C.eq (F'd O ro) rfl rfl (f'f ?_);have k3:((q.1:Int)==own)=true:=by simpa using h3
    rw[if_pos h3];simp[P'b,Zen,Zeo,Zep,Zeq,Zer,Zes,Zet,Zeu,Zev,d1,hc2,k0,h0,k1,h1,k3]
   ·rw[if_neg h3];obtain⟨h4,hc4,x4,c4⟩:=E'W C L x2 9 R.pos;refine⟨h4,?_,x4,c2.trans c4⟩;refine C.eq (F'd O ro) rfl rfl (f'f ?_);have k3:((q.1:Int)==own)=false:=by simpa using h3
    have hc4':c 67 [Value.pointer (some ⟨r,0,none⟩),.int .i64 9,.int .i64 R.pos] h2=some (.tuple #[],h4):=hc4;simp[P'b,Zen,Zeo,Zep,Zeq,Zer,Zes,Zet,Zeu,Zev,Zew,Zex,d1,hc2,k0,h0,k1,h1,k3,h3,hc4']
def laZ (own:Int)(s:ByteArray)(R:RS): Nat×RS:=if pk s R=32 then rsS own s ⟨R.pos+1,R.e,R.ep⟩ else (0,R)
def laS (N:Net)(s:ByteArray)(R:RS)(own:Int): Net×RS:=
 let u:=B'5 N s R
 let z:=laZ own s u.2
 ({ N with las:=N.las++[⟨own,u.1,z.1⟩] },exS s z.2 10)
theorem M'4 {own:Int}{s:ByteArray}{R:RS}(hp:R.pos<=s.size): (laZ own s R).2.pos<=s.size:=by
 unfold laZ;split
 ·rename_i hk
  have:=F'J (s:=s) (R:=R) (by omega);exact M'3 (by simp only;omega)
 ·exact hp
theorem I'O {N:Net}{s:ByteArray}{R:RS}{own:Int}(hp:R.pos<=s.size): (laS N s R own).2.pos<=s.size:=B'M _ (M'4 (C'r hp))
theorem R'N (C:LP' O ro c)(L:O.Law){w:Own}{h:H}{r n:Nat}{s:ByteArray}{R:RS}{N:Net}(x:ST O ro w h r s R n N)(hs:s.size<=1000)(hp:R.pos<=s.size)(own:Int)(hl:N.las.length<=10000):
  ∃w' h',c 69 [ptr n,ptr r,.int .i64 own] h=some (.tuple #[],h')∧ST O ro w' h' r s (laS N s R own).2 n (laS N s R own).1∧Ch O (KN 2) w h w' h':=by
 obtain⟨w2,h2,hc2,x2,c2⟩:=I'N C L x hs hp;obtain⟨h3,e3,z3,c3,lo3⟩:=D'u L w2 h2 x2.lo (.int .i64 0) (.int .i64 0) (.int .i64 (B'5 N s R).1.l) (.int .i64 (B'5 N s R).1.p) (101,0);obtain⟨b3,hb3⟩:=e' (O.next h2);obtain⟨w3,hw3⟩:=e' (w2.set b3 (101,0));rw[<-hb3,<-hw3]at z3;rw[<-hb3]at e3;have c3':∀K,Ch O K w2 h2 w3 h3:=λK=>by rw[hw3,hb3];exact c3 K
 have x3:=x2.ch L (c3' λ_=>False) (by simp) (by simp);have hro3:¬b3<ro:=by have:=z3.lo;omega
 have p2:=C'r (N:=N) (s:=s) (R:=R) hp;obtain⟨u,hu⟩:=e' (B'5 N s R);have hfin:laS N s R own=({ N with las:=N.las++[⟨own,u.1,(laZ own s u.2).1⟩] },exS s (laZ own s u.2).2 10):=by rw[hu];rfl
 rw[hfin];rw[<-hu]at hc2 x2 e3 z3 x3 p2;clear hfin hu;obtain⟨h4,hc4,rb4,c4⟩:=P'k C L x3.rb hs 32;have zs:∃h5,(if pk s u.2=32 then c 116 [Value.pointer (some ⟨r,0,none⟩),.int .i64 own] h4=some (.int .i64 (laZ own s u.2).1,h5) else (h5=h4∧(laZ own s u.2).1=0))∧RB O ro w3 h5 r s (laZ own s u.2).2∧Ch O (λu=>u=(1,1000)) w3 h3 w3 h5:=by
  by_cases hk:pk s u.2=32
  ·rw[if_pos (show pk s u.2=((32:Nat):Int) from hk)]at rb4;have:=F'J (s:=s) (R:=u.2) (by omega);obtain⟨h5,hc5,rb5,c5⟩:=S's C L rb4 hs (by simp only;omega) own;exact⟨h5,by rw[if_pos hk];unfold laZ;rw[if_pos hk];exact hc5,by unfold laZ;rw[if_pos hk];exact rb5,c4.trans c5⟩
  ·rw[if_neg (show ¬pk s u.2=((32:Nat):Int) from hk)]at rb4;exact⟨h4,by rw[if_neg hk];unfold laZ;rw[if_neg hk];exact⟨rfl,rfl⟩,by unfold laZ;rw[if_neg hk];exact rb4,c4⟩
 obtain⟨h5,e5,rb5,c5⟩:=zs;obtain⟨z,hz⟩:=e' (laZ own s u.2);rw[<-hz]at e5 rb5 ⊢;clear hz;obtain⟨h6,hc6,rb6,c6⟩:=C'L C L rb5 hs 10;have x6:=x3.rd L rb6 (c5.trans c6);have z6:=(z3.ch L c5).ch L c6;have hl6:cellsA O h6 b3 0 2=some [.int .i64 u.1.l,.int .i64 u.1.p]:=by simpa using z6.all
 obtain⟨v,v',h7,w7,e7,e8,⟨f1,f2,f3⟩,e9,hron,x7,c7⟩:=ST.app2 L x6 ⟨own,u.1,z.1⟩ hl;refine⟨w7,_,?_,x7,?_⟩
 ·refine C.eq (O'0 O ro) rfl rfl (f'f ?_);unfold ptr at hc2 hc4 hc6;have hc4':c 64 [Value.pointer (some ⟨r,0,none⟩),.int .i64 32] h3=some (.bool (decide (pk s u.2=32)),h4):=hc4;have hc6':c 63 [Value.pointer (some ⟨r,0,none⟩),.int .i64 10] h5=some (.tuple #[],h6):=hc6;simp only[Us.val]at hc2;simp only[LaL.cells]at e8
  by_cases hk:pk s u.2=32
  ·rw[if_pos hk]at e5;simp[F69,ZcJ,ZcK,ZcL,ZcM,ZcN,ZcO,hc2,<-hb3,e3,hro3,hc4',hk,e5,hc6',e7,hl6,List.zipIdx,l'B,e8,f1,f2,f3,e9,hron,A'6]
  ·rw[if_neg hk]at e5;obtain⟨rfl,hz0⟩:=e5;rw[hz0]at e8;simp only[Int.natCast_zero,Int.cast_ofNat_Int]at e8;simp[F69,ZcJ,ZcK,ZcL,ZcM,ZcN,ZcO,hc2,<-hb3,e3,hro3,hc4',hk,hc6',e7,hl6,List.zipIdx,l'B,e8,f1,f2,f3,e9,hron,A'6]
 ·exact ((((Kc.mono c2 (by decide) (by omega)).trans (c3' _)).trans (chR c5 _)).trans (chR c6 _)).trans (Kc.mono c7 (by decide) (by omega))
end
end Go.Proofs.YtimdkminagnhgabGreatDoor
namespace Go.Proofs.YtimdkminagnhgabGreatDoor
open Go.Vm Go.Proofs
set_option maxHeartbeats 1000000
section
variable {H:Type}{O:HI H}{ro:Nat}{c:A'X H}
attribute [local simp] A'b A'c reg to too A'a A'n A'i mv' nl' fl' ld' ln' mk' ia' ik' ix' B'C B'D aLd A'5 A'q A'7 A'3 A'2 aUn unA ev A'k isB A'Z A'C A'D A'E A'F A'G A'H A'I A'J A'K cIf A'y A'f A'g A'L A'h rvE aSt A'M A't A'N A'O A'P B'c A'Q A'u A'R A'S B'd A'T A'v A'U A'V A'W B'e A'l Instr.fill A'e A'r A'z A's ptr undef B'o B'r A'j B'n A'w B'w A'B B'A A'x B'p rangeA
theorem Sl.of_nil {w:Own}{h:H}{t:Tag}{sz:Nat}{v:Value}(x:Sl O ro w h t sz v []): v = .slice none 0 0:=by
 rcases x with ⟨e,_⟩|⟨_,_,_,_,_,_,e,_⟩
 ·exact e
 ·exact absurd rfl e
theorem ST.chP (L:O.Law){o:Nat}{w w':Own}{h h':H}{r:Nat}{s:ByteArray}{R:RS}{n:Nat}{N:Net}(x:ST O ro w h r s R n N)(a:Ch O (λu=>u=(2,o)) w h w' h')(ho:(o=3∧N.outs=[])∨(o=4∧N.bads=[])): ST O ro w' h' r s R n N:=by
 obtain⟨rb,⟨v0,v1,v2,v3,v4,v5,⟨m,s0,s1,s2,s3,s4,s5⟩⟩,lo⟩:=x;rcases ho with ⟨rfl,ho⟩|⟨rfl,ho⟩
 ·have e3:v3 = .slice none 0 0:=by rw[ho]at s3;exact s3.of_nil
  refine⟨rb.ch L a,⟨v0,v1,v2,v3,v4,v5,⟨m.ch L a,s0.ch L a,s1.ch L a,s2.ch L a,?_,s4.ch L a,s5.ch L a⟩⟩,l'G lo a.nx⟩;rw[ho,e3];exact Sl.nil _ _ _ _
 ·have e3:v4 = .slice none 0 0:=by rw[ho]at s4;exact s4.of_nil
  refine⟨rb.ch L a,⟨v0,v1,v2,v3,v4,v5,⟨m.ch L a,s0.ch L a,s1.ch L a,s2.ch L a,s3.ch L a,?_,s5.ch L a⟩⟩,l'G lo a.nx⟩;rw[ho,e3];exact Sl.nil _ _ _ _
def prL: Nat->Net->ByteArray->RS->List Us->List Us×RS
 | 0,_,_,R,l=>(l,R)
 | k+1,N,s,R,l=>prL k N s (exS s (B'5 N s R).2 10) (l++[(B'5 N s R).1])
theorem I'P {N:Net}{s:ByteArray}: ∀(k:Nat)(R:RS)(l:List Us),R.pos<=s.size->(prL k N s R l).2.pos<=s.size:=by
 intro k
 induction k with
 | zero=>intro R l h;exact h
 | succ k ih=>intro R l h;exact ih _ _ (B'M _ (C'r h))
theorem I'Q {N:Net}{s:ByteArray}: ∀(k:Nat)(R:RS)(l:List Us),(prL k N s R l).1.length=l.length+k:=by
 intro k
 induction k with
 | zero=>intro R l;rfl
 | succ k ih=>intro R l;simp only[prL];rw[ih];simp;omega
theorem R'O (C:LP' O ro c)(L:O.Law){w:Own}{h:H}{r n:Nat}{s:ByteArray}{R:RS}{N:Net}(x:ST O ro w h r s R n N)(hs:s.size<=1000)(hp:R.pos<=s.size)(k:Nat)(hk:k<=10000)(o:Nat)(ho:(o=3∧N.outs=[])∨(o=4∧N.bads=[])):
  ∃v w' h',c 70 [ptr n,ptr r,.int .i64 k] h=some (v,h')∧Sl O ro w' h' (2,o) 2 v ((prL k N s R []).1.flatMap Us.cells)∧ST O ro w' h' r s (prL k N s R []).2 n N∧Ch O (KN 2) w h w' h':=by
 have key:∃v h',c 70 [ptr n,ptr r,.int .i64 k] h=some (v,h')∧(∃w',Sl O ro w' h' (2,o) 2 v ((prL k N s R []).1.flatMap Us.cells)∧ST O ro w' h' r s (prL k N s R []).2 n N∧Ch O (KN 2) w h w' h'):=by
  refine C.fn (O'1 O ro) rfl rfl ?_;unfold F70;refine s'f ?_;simp[ZcP,A'd,-A'L,-A'h,-rvE];refine s'f ?_;simp[ZcQ,A'd,-A'L,-A'h,-rvE];refine okE.seq (s'f ?_);simp[ZcR,A'd,-A'L,-A'h,-rvE];refine okE.blk ?_;refine okE.loop (λm t g=>∃j R' l v w',ST O ro w' g r s R' n N∧Sl O ro w' g (2,o) 2 v (l.flatMap Us.cells)∧Ch O (KN 2) w h w' g∧t 0=ptr n∧t 1=ptr r∧t 2 = .int .i64 k∧t 7=v∧t 8 = .int .i64 (j:Nat)∧R'.pos<=s.size∧j+m=k+1∧0<m∧l.length=j∧prL (m-1) N s R' l=prL k N s R []) ?_ (k+1) _ _ ⟨0,R,[],.slice none 0 0,w,x,Sl.nil _ _ _ _,Ch.refl _ _ _,by simp,by simp,by simp,by simp,by simp,hp,by omega,by omega,rfl,rfl⟩;intro m t g hI;obtain⟨j,R',l,v,w',x',sl',c',t0,t1,t2,t7,t8,hp',hj,hm,hl,hfin⟩:=hI;unfold ptr at t0 t1
  by_cases hlt:j<k
  ·obtain⟨m',rfl⟩:∃m',m=m'+2:=⟨m-2,by omega⟩;have hfin2:prL m' N s (exS s (B'5 N s R').2 10) (l++[(B'5 N s R').1])=prL k N s R []:=hfin;obtain⟨w2,h2,hc2,x2,c2⟩:=I'N C L x' hs hp';have p2:=C'r (N:=N) (s:=s) (R:=R') hp';have sl2:=sl'.ch L c2 (by simp[Kc]);obtain⟨h3,e3,z3,c3,lo3⟩:=D'u L w2 h2 x2.lo (.int .i64 0) (.int .i64 0) (.int .i64 (B'5 N s R').1.l) (.int .i64 (B'5 N s R').1.p) (101,0);obtain⟨b3,hb3⟩:=e' (O.next h2);obtain⟨w3,hw3⟩:=e' (w2.set b3 (101,0));rw[<-hb3,<-hw3]at z3;rw[<-hb3]at e3;have c3':∀K,Ch O K w2 h2 w3 h3:=λK=>by rw[hw3,hb3];exact c3 K
   have x3:=x2.ch L (c3' λ_=>False) (by simp) (by simp);have sl3:=sl2.ch L (c3' λ_=>False) (by simp);have hro3:¬b3<ro:=by have:=z3.lo;omega
   obtain⟨h4,hc4,rb4,c4⟩:=C'L C L x3.rb hs 10;have x4:=x3.rd L rb4 c4;have z4:=z3.ch L c4;have sl4:=sl3.ch L c4;have hl4:cellsA O h4 b3 0 2=some [.int .i64 (B'5 N s R').1.l,.int .i64 (B'5 N s R').1.p]:=by simpa using z4.all
   have hfl:=A'0 Us.cells 2 (λ_=>rfl) l;obtain⟨v',h5,w5,e5,sl5,c5,lo5⟩:=C'd L (bytes:=16) x4.lo sl4 (new:=(B'5 N s R').1.cells) (by omega) rfl (by omega) (by omega);have x5:=x4.chP L c5 ho;have cc:Ch O (KN 2) w h w5 h5:=((((c'.trans (Kc.mono c2 (by decide) (by omega))).trans (c3' _)).trans (chR c4 _)).trans (chN c5 _));obtain⟨q,hq⟩:=e' (j+1);have hw:IntKind.i64.wrap ((j:Int)+1)=(q:Int):=w'i;have hlt':(j:Int)<k:=by omega
   unfold ptr at hc2 hc4;have hc4':c 63 [Value.pointer (some ⟨r,0,none⟩),.int .i64 10] h3=some (.tuple #[],h4):=hc4;simp only[Us.val]at hc2;simp only[Us.cells]at e5;refine f'f ?_;simp[M'Q,ZcS,ZcT,ZcU,ZcV,ZcW,t0,t1,t2,t7,t8,hlt,hlt',hc2,<-hb3,e3,hro3,hc4',hl4,List.zipIdx,l'B,e5,hw];exact⟨m'+1,by omega,q,exS s (B'5 N s R').2 10,l++[(B'5 N s R').1],v',w5,x5,by simpa using sl5,cc,rfl,rfl,B'M _ p2,by omega,by omega,by simp;omega,hfin2⟩
  ·have hm1:m=1:=by omega
   subst hm1;have hfin2:(l,R')=prL k N s R []:=hfin;rw[<-hfin2];have hlt':¬(j:Int)<k:=by omega
   refine f'f ?_;simp[M'Q,ZcS,t0,t1,t2,t7,t8,hlt,hlt',A'd];refine f'f ?_;have ft:=sl'.flat.2.2;simp[ZcX,t7,ft];exact⟨w',sl',x',c'⟩
 obtain⟨v,h',e1,w',e2⟩:=key;exact⟨v,w',h',e1,e2⟩
def pgS (N:Net)(s:ByteArray)(R:RS): Net×RS:=
 let d:=C'U N s R
 let a:=B'5 d.2.1 s (exS s d.2.2 32)
 let b:=B'5 d.2.1 s (exS s a.2 32)
 ({ d.2.1 with gates:=d.2.1.gates++[⟨d.1,a.1,b.1⟩] },exS s b.2 10)
theorem M'5 {N:Net}{s:ByteArray}{R:RS}(hp:R.pos<=s.size): (pgS N s R).2.pos<=s.size:=B'M _ (C'r (B'M _ (C'r (B'M _ (D'0 hp)))))
theorem B'Z (N:Net)(l:Int): (N.give l).gates=N.gates:=by unfold Net.give;split <;> rfl
theorem D'v (N:Net)(l:Int): (N.give l).las=N.las:=by unfold Net.give;split <;> rfl
theorem D'1 (N:Net)(l:Int): (N.give l).ins=N.ins:=by unfold Net.give;split <;> rfl
theorem D'w (N:Net)(l:Int): (N.give l).outs=N.outs:=by unfold Net.give;split <;> rfl
theorem D'x (N:Net)(l:Int): (N.give l).bads=N.bads:=by unfold Net.give;split <;> rfl
theorem S't (C:LP' O ro c)(L:O.Law){w:Own}{h:H}{r n:Nat}{s:ByteArray}{R:RS}{N:Net}(x:ST O ro w h r s R n N)(hs:s.size<=1000)(hp:R.pos<=s.size)(hl:N.gates.length<=10000):
  ∃w' h',c 73 [ptr n,ptr r] h=some (.tuple #[],h')∧ST O ro w' h' r s (pgS N s R).2 n (pgS N s R).1∧Ch O (KN 3) w h w' h':=by
 obtain⟨w2,h2,hc2,x2,c2⟩:=M'2 C L x hs hp;have hg:(C'U N s R).2.1.gates.length<=10000:=by have:=B'Z N (B'5 N s R).1.l;unfold C'U;simp only;rw[this];exact hl
 have p2:=D'0 (N:=N) (s:=s) (R:=R) hp;obtain⟨d,hd⟩:=e' (C'U N s R);have hfin:pgS N s R=({ d.2.1 with gates:=d.2.1.gates++[⟨d.1,(B'5 d.2.1 s (exS s d.2.2 32)).1,(B'5 d.2.1 s (exS s (B'5 d.2.1 s (exS s d.2.2 32)).2 32)).1⟩] },exS s (B'5 d.2.1 s (exS s (B'5 d.2.1 s (exS s d.2.2 32)).2 32)).2 10):=by rw[hd];rfl
 rw[hfin];rw[<-hd]at hc2 x2 p2 hg;clear hfin hd;obtain⟨h3,e3,z3,c3,lo3⟩:=D'u L w2 h2 x2.lo (.int .i64 0) (.int .i64 0) (.int .i64 d.1.l) (.int .i64 d.1.p) (102,0);obtain⟨b3,hb3⟩:=e' (O.next h2);obtain⟨w3,hw3⟩:=e' (w2.set b3 (102,0));rw[<-hb3,<-hw3]at z3;rw[<-hb3]at e3;have c3':∀K,Ch O K w2 h2 w3 h3:=λK=>by rw[hw3,hb3];exact c3 K
 have x3:=x2.ch L (c3' λ_=>False) (by simp) (by simp);have hro3:¬b3<ro:=by have:=z3.lo;omega
 obtain⟨h4,hc4,rb4,c4⟩:=C'L C L x3.rb hs 32;have x4:=x3.rd L rb4 c4;have z4:=z3.ch L c4;have p4:=B'M (s:=s) (R:=d.2.2) 32 p2;obtain⟨w5,h5,hc5,x5,c5⟩:=I'N C L x4 hs p4;have z5:=z4.ch L c5 (by simp[Kc]);have p5:=C'r (N:=d.2.1) (s:=s) p4;obtain⟨a,ha⟩:=e' (B'5 d.2.1 s (exS s d.2.2 32));rw[<-ha]at hc5 x5 p5 ⊢;clear ha;obtain⟨h6,e6,y6,c6,lo6⟩:=D'u L w5 h5 x5.lo (.int .i64 0) (.int .i64 0) (.int .i64 a.1.l) (.int .i64 a.1.p) (102,1);obtain⟨b6,hb6⟩:=e' (O.next h5);obtain⟨w6,hw6⟩:=e' (w5.set b6 (102,1));rw[<-hb6,<-hw6]at y6;rw[<-hb6]at e6;have c6':∀K,Ch O K w5 h5 w6 h6:=λK=>by rw[hw6,hb6];exact c6 K
 have x6:=x5.ch L (c6' λ_=>False) (by simp) (by simp);have z6:=z5.ch L (c6' λ_=>False) (by simp);have hro6:¬b6<ro:=by have:=y6.lo;omega
 obtain⟨h7,hc7,rb7,c7⟩:=C'L C L x6.rb hs 32;have x7:=x6.rd L rb7 c7;have z7:=z6.ch L c7;have y7:=y6.ch L c7;have p7:=B'M (s:=s) (R:=a.2) 32 p5;obtain⟨w8,h8,hc8,x8,c8⟩:=I'N C L x7 hs p7;have z8:=z7.ch L c8 (by simp[Kc]);have y8:=y7.ch L c8 (by simp[Kc]);obtain⟨b,hb⟩:=e' (B'5 d.2.1 s (exS s a.2 32));rw[<-hb]at hc8 x8 ⊢;clear hb;obtain⟨h9,e9,u9,c9,lo9⟩:=D'u L w8 h8 x8.lo (.int .i64 0) (.int .i64 0) (.int .i64 b.1.l) (.int .i64 b.1.p) (102,2);obtain⟨b9,hb9⟩:=e' (O.next h8);obtain⟨w9,hw9⟩:=e' (w8.set b9 (102,2));rw[<-hb9,<-hw9]at u9;rw[<-hb9]at e9;have c9':∀K,Ch O K w8 h8 w9 h9:=λK=>by rw[hw9,hb9];exact c9 K
 have x9:=x8.ch L (c9' λ_=>False) (by simp) (by simp);have z9:=z8.ch L (c9' λ_=>False) (by simp);have y9:=y8.ch L (c9' λ_=>False) (by simp);have hro9:¬b9<ro:=by have:=u9.lo;omega
 obtain⟨hA,hcA,rbA,cA⟩:=C'L C L x9.rb hs 10;have xA:=x9.rd L rbA cA;have zA:=(z9.ch L cA).all;have yA:=(y9.ch L cA).all;have uA:=(u9.ch L cA).all;simp only[l'n,l'o,l'F,Nat.reduceAdd]at zA yA uA;obtain⟨v,v',hB,wB,eB,eC,⟨f1,f2,f3⟩,eD,hron,xB,cB⟩:=ST.app5 L xA ⟨d.1,a.1,b.1⟩ hg;refine⟨wB,_,?_,xB,?_⟩
 ·refine C.eq (O'4 O ro) rfl rfl (f'f ?_);unfold ptr at hc2 hc4 hc5 hc7 hc8 hcA;simp only[Us.val]at hc2 hc5 hc8;simp only[GaL.cells]at eC;have hc4':c 63 [Value.pointer (some ⟨r,0,none⟩),.int .i64 32] h3=some (.tuple #[],h4):=hc4;have hc7':c 63 [Value.pointer (some ⟨r,0,none⟩),.int .i64 32] h6=some (.tuple #[],h7):=hc7;have hcA':c 63 [Value.pointer (some ⟨r,0,none⟩),.int .i64 10] h9=some (.tuple #[],hA):=hcA;simp[F73,Zdf,Zdg,Zdh,Zdi,Zdj,Zdk,Zdl,hc2,<-hb3,e3,hro3,hc4',hc5,<-hb6,e6,hro6,hc7',hc8,<-hb9,e9,hro9,hcA',eB,zA,yA,uA,List.zipIdx,l'B,eC,f1,f2,f3,eD,hron,A'6]
 ·exact (((((((((Kc.mono c2 (by decide) (by omega)).trans (c3' _)).trans (chR c4 _)).trans (Kc.mono c5 (by decide) (by omega))).trans (c6' _)).trans (chR c7 _)).trans (Kc.mono c8 (by decide) (by omega))).trans (c9' _)).trans (chR cA _)).trans (Kc.mono cB (by decide) (by omega))
def bgA (s:ByteArray)(R:RS)(lit:Nat): Nat×RS:=
 let d:=diS s R
 (d.1,if d.1=0∨lit<d.1 then fl d.2 10 R.pos else d.2)
def bgB (s:ByteArray)(R:RS)(left:Int): Nat×RS:=
 let d:=diS s R
 (d.1,if left<(d.1:Int) then fl d.2 10 R.pos else d.2)
def bgS (N:Net)(s:ByteArray)(R:RS)(lit:Nat): Net×RS:=
 let d:=bgA s R lit
 let left:Int:=(lit:Int)-d.1
 let g:=bgB s d.2 left
 ({ N.give lit with gates:=(N.give lit).gates++[⟨⟨lit,R.pos⟩,⟨left,R.pos⟩,⟨left-g.1,d.2.pos⟩⟩] },g.2)
theorem I'R {s:ByteArray}{R:RS}(b:Nat)(hp:R.pos<=s.size): (bbS s R b).2.pos<=s.size:=by
 unfold bbS;split
 ·simp only[D't];exact hp
 ·rename_i hk
  have:=K'u s R;have:=F'J (s:=s) (R:=R) (by omega);simp only;omega
theorem I'S {s:ByteArray}{R:RS}(hp:R.pos<=s.size): (diS s R).2.pos<=s.size:=by
 have h1:=I'R (s:=s) (R:=R) 256 hp;unfold diS;simp only;split
 ·exact h1
 ·exact I'R 128 h1
theorem L'U (s:ByteArray)(R:RS): (diS s R).1<100000:=by
 have h1:=G'Z s R 256;have h2:=G'Z s (bbS s R 256).2 128;unfold diS;simp only;split
 ·omega
 ·omega
theorem M'6 {s:ByteArray}{R:RS}{l:Nat}(hp:R.pos<=s.size): (bgA s R l).2.pos<=s.size:=by
 have:=I'S (s:=s) (R:=R) hp;unfold bgA;simp only;split
 ·rw[D't];exact this
 ·exact this
theorem M'7 {s:ByteArray}{R:RS}{l:Int}(hp:R.pos<=s.size): (bgB s R l).2.pos<=s.size:=by
 have:=I'S (s:=s) (R:=R) hp;unfold bgB;simp only;split
 ·rw[D't];exact this
 ·exact this
theorem M'8 {N:Net}{s:ByteArray}{R:RS}{l:Nat}(hp:R.pos<=s.size): (bgS N s R l).2.pos<=s.size:=M'7 (M'6 hp)
theorem S'u (C:LP' O ro c)(L:O.Law){w:Own}{h:H}{r n:Nat}{s:ByteArray}{R:RS}{N:Net}(x:ST O ro w h r s R n N)(hs:s.size<=1000)(lit:Nat)(hlit:lit<=100000)(hl:N.gates.length<=10000):
  ∃w' h',c 71 [ptr n,ptr r,.int .i64 lit] h=some (.tuple #[],h')∧ST O ro w' h' r s (bgS N s R lit).2 n (bgS N s R lit).1∧Ch O (KN 0) w h w' h':=by
 have d1:=x.rb.get 1 _ rfl;obtain⟨h2,hc2,rb2,c2⟩:=R'M C L x.rb hs;have hle:=L'U s R;unfold ptr at hc2;have fa:∃h3,(if (diS s R).1=0∨lit<(diS s R).1 then c 67 [Value.pointer (some ⟨r,0,none⟩),.int .i64 10,.int .i64 R.pos] h2=some (.tuple #[],h3) else h3=h2)∧RB O ro w h3 r s (bgA s R lit).2∧Ch O (λu=>u=(1,1000)) w h2 w h3:=by
  by_cases hq:(diS s R).1=0∨lit<(diS s R).1
  ·obtain⟨h4,hc4,rb4,c4⟩:=E'W C L rb2 10 R.pos;exact⟨h4,by rw[if_pos hq];exact hc4,by unfold bgA;simp only;rw[if_pos hq];exact rb4,c4⟩
  ·exact⟨h2,by rw[if_neg hq],by unfold bgA;simp only;rw[if_neg hq];exact rb2,Ch.refl _ _ _⟩
 obtain⟨h3,e3,rb3,c3⟩:=fa;have hA1:(bgA s R lit).1=(diS s R).1:=rfl;obtain⟨A,hA⟩:=e' (bgA s R lit);obtain⟨left,hleft⟩:∃left:Int,left=(lit:Int)-A.1:=⟨_,rfl⟩;have d3:=rb3.get 1 _ rfl;obtain⟨h4,hc4,rb4,c4⟩:=R'M C L rb3 hs;have hle4:=L'U s (bgA s R lit).2;unfold ptr at hc4;rw[<-hA]at rb3 d3 hc4 rb4 hle4 hA1;have fb:∃h5,(if left<((diS s A.2).1:Int) then c 67 [Value.pointer (some ⟨r,0,none⟩),.int .i64 10,.int .i64 A.2.pos] h4=some (.tuple #[],h5) else h5=h4)∧RB O ro w h5 r s (bgB s A.2 left).2∧Ch O (λu=>u=(1,1000)) w h4 w h5:=by
  by_cases hq:left<((diS s A.2).1:Int)
  ·obtain⟨h5,hc5,rb5,c5⟩:=E'W C L rb4 10 A.2.pos;exact⟨h5,by rw[if_pos hq];exact hc5,by unfold bgB;simp only;rw[if_pos hq];exact rb5,c5⟩
  ·exact⟨h4,by rw[if_neg hq],by unfold bgB;simp only;rw[if_neg hq];exact rb4,Ch.refl _ _ _⟩
 obtain⟨h5,e5,rb5,c5⟩:=fb;have hB1:(bgB s A.2 left).1=(diS s A.2).1:=rfl;have x5:=x.rd L rb5 (((c2.trans c3).trans c4).trans c5);obtain⟨h6,hc6,x6,c6⟩:=G'0 C L x5 lit;unfold ptr at hc6;obtain⟨v,v',hB,wB,eB,eC,⟨f1,f2,f3⟩,eD,hron,xB,cB⟩:=ST.app5 L x6 ⟨⟨lit,R.pos⟩,⟨left,R.pos⟩,⟨left-(bgB s A.2 left).1,A.2.pos⟩⟩ (by rw[B'Z];exact hl);have hfin:bgS N s R lit=({ N.give lit with gates:=(N.give lit).gates++[⟨⟨lit,R.pos⟩,⟨left,R.pos⟩,⟨left-(bgB s A.2 left).1,A.2.pos⟩⟩] },(bgB s A.2 left).2):=by rw[hleft,hA];rfl
 refine⟨wB,_,?_,by rw[hfin];exact xB,((chR (((c2.trans c3).trans c4).trans c5) _).trans c6).trans cB⟩;refine C.eq (O'2 O ro) rfl rfl (f'f ?_);simp only[GaL.cells,hB1]at eC;rw[hA1]at hleft;obtain⟨a,ha⟩:=e' ((diS s R).1);obtain⟨b,hb⟩:=e' ((diS s A.2).1);rw[<-ha]at hc2 hle e3 hleft;rw[<-hb]at hc4 hle4 e5 eC;have w1:IntKind.i64.wrap ((lit:Int)-(a:Int))=left:=w'i;have w2:IntKind.i64.wrap (left-(b:Int))=left-(b:Int):=w'j;have t1:((a:Int)==0)=decide (a=0):=by by_cases q:a=0 <;> simp[q]
 by_cases q1:a=0∨lit<a
 ·rw[if_pos q1]at e3
  by_cases q2:left<(b:Int)
  ·rw[if_pos q2]at e5
   by_cases q0:a=0
   ·have q0':((a:Int)==0)=true:=by simp;omega
    simp[F71,ZcY,ZcZ,Zc0,Zc1,Zc2,Zc3,Zc4,Zc5,Zc6,Zc7,Zc8,d1,hc2,q0',e3,w1,d3,hc4,q2,e5,hc6,eB,List.zipIdx,l'B,w2,eC,f1,f2,f3,eD,hron,A'6]
   ·have q0':((a:Int)==0)=false:=by simp;omega
    have q3:(lit:Int)<a:=by omega
    have q4:lit<a:=by omega
    simp[F71,ZcY,ZcZ,Zc0,Zc1,Zc2,Zc3,Zc4,Zc5,Zc6,Zc7,Zc8,d1,hc2,q0',q3,q4,e3,w1,d3,hc4,q2,e5,hc6,eB,List.zipIdx,l'B,w2,eC,f1,f2,f3,eD,hron,A'6]
  ·rw[if_neg q2]at e5;subst e5
   by_cases q0:a=0
   ·have q0':((a:Int)==0)=true:=by simp;omega
    simp[F71,ZcY,ZcZ,Zc0,Zc1,Zc2,Zc3,Zc4,Zc5,Zc6,Zc7,Zc8,d1,hc2,q0',e3,w1,d3,hc4,q2,hc6,eB,List.zipIdx,l'B,w2,eC,f1,f2,f3,eD,hron,A'6]
   ·have q0':((a:Int)==0)=false:=by simp;omega
    have q3:(lit:Int)<a:=by omega
    have q4:lit<a:=by omega
    simp[F71,ZcY,ZcZ,Zc0,Zc1,Zc2,Zc3,Zc4,Zc5,Zc6,Zc7,Zc8,d1,hc2,q0',q3,q4,e3,w1,d3,hc4,q2,hc6,eB,List.zipIdx,l'B,w2,eC,f1,f2,f3,eD,hron,A'6]
 ·rw[if_neg q1]at e3;subst e3;have q0':((a:Int)==0)=false:=by simp;omega
  have q3:¬(lit:Int)<a:=by omega
  have q4:¬lit<a:=by omega
  by_cases q2:left<(b:Int)
  ·rw[if_pos q2]at e5;simp[F71,ZcY,ZcZ,Zc0,Zc1,Zc2,Zc3,Zc4,Zc5,Zc6,Zc7,Zc8,d1,hc2,q0',q3,q4,w1,d3,hc4,q2,e5,hc6,eB,List.zipIdx,l'B,w2,eC,f1,f2,f3,eD,hron,A'6]
  ·rw[if_neg q2]at e5;subst e5;simp[F71,ZcY,ZcZ,Zc0,Zc1,Zc2,Zc3,Zc4,Zc5,Zc6,Zc7,Zc8,d1,hc2,q0',q3,q4,w1,d3,hc4,q2,hc6,eB,List.zipIdx,l'B,w2,eC,f1,f2,f3,eD,hron,A'6]
end
end Go.Proofs.YtimdkminagnhgabGreatDoor
