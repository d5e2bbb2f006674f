import Derived.Test.YtimdkminagnhgaaGreatDoorQ13
set_option linter.all false
namespace Go.Proofs.YtimdkminagnhgaaGreatDoor
open Go.Vm Go.Proofs
set_option maxHeartbeats 1000000
theorem H'F {α:Type}{f:Nat->α->α}{Q:Nat->α->Prop}(hf:∀j x,Q j x->Q (j+1) (f j x)): ∀(m j:Nat)(x:α),Q j x->Q (j+m) (itK f j m x):=by
 intro m
 induction m with
 | zero=>intro j x h;exact h
 | succ m ih=>intro j x h;simp only[itK];have:=ih (j+1) (f j x) (hf j x h);rw[show j+(m+1)=j+1+m by omega];exact this
structure Net.Len (N:Net) (g i l o b a:Nat):Prop where
 g:N.given.length=g
 i:N.ins.length=i
 l:N.las.length=l
 o:N.outs.length=o
 b:N.bads.length=b
 a:N.gates.length=a
theorem Net.Len.give {N:Net}{g i l o b a:Nat}(h:N.Len g i l o b a)(x:Int): (N.give x).Len g i l o b a:=
 ⟨by rw[M'P];exact h.g,by rw[I'i];exact h.i,by rw[I'h];exact h.l,by rw[G'F];exact h.o,by rw[G'G];exact h.b,by rw[D'3];exact h.a⟩
theorem M'U {s:ByteArray}{g l o b a:Nat}(j:Nat)(x:Net×RS)(h:x.1.Len g j l o b a): (F'r s j x).1.Len g (j+1) l o b a:=by
 have:=h.give (C'j x.1 s x.2).1.l;exact⟨this.g,by show (_++[_]).length = _;rw[l'p];have:=this.i;simp only[List.length_singleton];exact congrArg (· + 1) this,this.l,this.o,this.b,this.a⟩
theorem P'w {s:ByteArray}{N:Net}{R:RS}{own:Int}{g i l o b a:Nat}(h:N.Len g i l o b a): (laS N s R own).1.Len g i (l+1) o b a:=
 ⟨h.g,h.i,by show (_++[_]).length = _;rw[l'p];simp only[List.length_singleton];exact congrArg (· + 1) h.l,h.o,h.b,h.a⟩
theorem M'V {s:ByteArray}{g i o b a:Nat}(j:Nat)(x:Net×RS)(h:x.1.Len g i j o b a): (F'E s j x).1.Len g i (j+1) o b a:=P'w (h.give _)
theorem M'W {s:ByteArray}{g i l o b:Nat}(j:Nat)(x:Net×RS)(h:x.1.Len g i l o b j): (H'o s j x).1.Len g i l o b (j+1):=by
 have:=h.give (C'j x.1 s x.2).1.l;exact⟨this.g,this.i,this.l,this.o,this.b,by show (_++[_]).length = _;rw[l'p];have:=this.a;simp only[List.length_singleton];exact congrArg (· + 1) this⟩
theorem P'x {D:HD}{s:ByteArray}{g i l a:Nat}(x:Net×RS)(h:x.1.Len g i l 0 0 a): (prF s D x).1.Len g i l D.nou D.nbs a:=
 ⟨h.g,h.i,h.l,by have:=K'n (N:=x.1) (s:=s) D.nou x.2 [];simpa [prF]using this,by have:=K'n (N:={ x.1 with outs:=(prL D.nou x.1 s x.2 []).1 }) (s:=s) D.nbs (prL D.nou x.1 s x.2 []).2 [];simpa [prF]using this,h.a⟩
theorem M'X (top:Nat): (J'd top).Len (top+1) 0 0 0 0 0:=⟨by simp[J'd],rfl,rfl,rfl,rfl,rfl⟩
theorem P'y (D:HD)(s:ByteArray)(R:RS)(top:Nat): (rpS D s (J'd top,R)).1.Len (top+1) D.nin D.nla D.nou D.nbs D.nan:=by
 have h1:=H'F (Q:=λj (x:Net×RS)=>x.1.Len (top+1) j 0 0 0 0) (f:=F'r s) (λj x h=>M'U j x h) D.nin 0 (J'd top,R) (M'X top);rw[l'F]at h1;have h2:=H'F (Q:=λj (x:Net×RS)=>x.1.Len (top+1) D.nin j 0 0 0) (f:=F'E s) (λj x h=>M'V j x h) D.nla 0 _ h1;rw[l'F]at h2;have h3:=P'x (D:=D) (s:=s) _ h2;have h4:=H'F (Q:=λj (x:Net×RS)=>x.1.Len (top+1) D.nin D.nla D.nou D.nbs j) (f:=H'o s) (λj x h=>M'W j x h) D.nan 0 _ h3;rw[l'F]at h4;exact h4
theorem S'D {R:RS}{e p:Nat}(he:e≠0)(h:(fl R e p).e=0): False:=by
 unfold fl at h;split at h
 ·exact he h
 ·rename_i h2;exact h2 h
theorem U'h {N:Net}{R:RS}{u:Us}(h:(ju1 N R u).e=0): R=ju1 N R u∧N.isGiven u.l=true:=by
 unfold ju1 at h ⊢;split at h
 ·rename_i hg;rw[if_pos hg];exact⟨rfl,hg⟩
 ·exact (S'D (by omega) h).elim
theorem M'Y {α:Type}{N:Net}(f:α->List Us): ∀(l:List α)(R:RS),(l.foldl (λR x=>(f x).foldl (ju1 N) R) R).e=0->(l.foldl (λR x=>(f x).foldl (ju1 N) R) R)=R∧∀x∈l,∀u∈f x,N.isGiven u.l=true:=by
 have key:∀(us:List Us)(R:RS),(us.foldl (ju1 N) R).e=0->us.foldl (ju1 N) R=R∧∀u∈us,N.isGiven u.l=true:=by
  intro us
  induction us with
  | nil=>intro R _;exact⟨rfl,by simp⟩
  | cons u us ih=>
   intro R h;obtain⟨h1,h2⟩:=ih (ju1 N R u) h;have h3:(ju1 N R u).e=0:=by rw[<-h1];exact h
   obtain⟨h4,h5⟩:=U'h h3;refine⟨by rw[List.foldl_cons,h1,<-h4],λv hv=>?_⟩;rcases l'I.1 hv with rfl|hv
   ·exact h5
   ·exact h2 v hv
 intro l
 induction l with
 | nil=>intro R _;exact⟨rfl,by simp⟩
 | cons x l ih=>
  intro R h;obtain⟨h1,h2⟩:=ih _ h;have h1':l.foldl (λR x=>(f x).foldl (ju1 N) R) ((f x).foldl (ju1 N) R)=(f x).foldl (ju1 N) R:=h1;have h3:((f x).foldl (ju1 N) R).e=0:=by rw[<-h1'];exact h
  obtain⟨h4,h5⟩:=key _ _ h3;refine⟨by rw[List.foldl_cons];exact h1'.trans h4,λy hy=>?_⟩;rcases l'I.1 hy with rfl|hy
  ·exact h5
  ·exact h2 y hy
theorem U'i {N:Net}{R:RS}(h:(juS N R).e=0): juS N R=R∧(∀x∈N.las,N.isGiven x.n.l=true)∧(∀u∈N.outs,N.isGiven u.l=true)∧(∀u∈N.bads,N.isGiven u.l=true)∧(∀g∈N.gates,N.isGiven g.a.l=true∧N.isGiven g.b.l=true):=by
 unfold juS at h ⊢;have hg:=M'Y (N:=N) (λg:GaL=>[g.a,g.b]) N.gates (N.bads.foldl (ju1 N) (N.outs.foldl (ju1 N) (N.las.foldl (λR (x:LaL)=>ju1 N R x.n) R))) h;obtain⟨g1,g2⟩:=hg;have g1':N.gates.foldl (λR (x:GaL)=>ju1 N (ju1 N R x.a) x.b) (N.bads.foldl (ju1 N) (N.outs.foldl (ju1 N) (N.las.foldl (λR (x:LaL)=>ju1 N R x.n) R))) = _:=g1;rw[g1']at h ⊢;have hb:=M'Y (N:=N) (λu:Us=>[u]) N.bads (N.outs.foldl (ju1 N) (N.las.foldl (λR (x:LaL)=>ju1 N R x.n) R)) h;obtain⟨b1,b2⟩:=hb;have b1':N.bads.foldl (ju1 N) (N.outs.foldl (ju1 N) (N.las.foldl (λR (x:LaL)=>ju1 N R x.n) R)) = _:=b1;rw[b1']at h ⊢;have ho:=M'Y (N:=N) (λu:Us=>[u]) N.outs (N.las.foldl (λR (x:LaL)=>ju1 N R x.n) R) h;obtain⟨o1,o2⟩:=ho;have o1':N.outs.foldl (ju1 N) (N.las.foldl (λR (x:LaL)=>ju1 N R x.n) R) = _:=o1;rw[o1']at h ⊢;have hl:=M'Y (N:=N) (λx:LaL=>[x.n]) N.las R h;obtain⟨l1,l2⟩:=hl;have l1':N.las.foldl (λR (x:LaL)=>ju1 N R x.n) R = _:=l1;rw[l1'];exact⟨rfl,λx hx=>l2 x hx _ (by simp),λu hu=>o2 u hu _ (by simp),λu hu=>b2 u hu _ (by simp),λg hg=>⟨g2 g hg _ (by simp),g2 g hg _ (by simp)⟩⟩
theorem C's {N:Net}{l:Int}(hN:N.given.length<=10000)(h:N.isGiven l=true): 0<=l∧l<1000000:=by
 simp only[Net.isGiven,Net.has,l'k,l'M]at h;omega
theorem P'z {N:Net}{R:RS}(hN:N.given.length<=10000)(h:(juS N R).e=0): N.Lits:=by
 obtain⟨_,h1,h2,h3,h4⟩:=U'i h;refine⟨λg hg=>⟨C's hN (h4 g hg).1,C's hN (h4 g hg).2⟩,λx hx=>C's hN (h1 x hx),?_⟩;unfold D'T
 cases hb:N.bads with
 | cons u us=>exact C's hN (h3 u (by rw[hb];simp))
 | nil=>
  cases ho:N.outs with
  | cons u us=>exact C's hN (h2 u (by rw[ho];simp))
  | nil=>simp
def hdD (b:Bool)(ns:List Nat): HD:=⟨b,ns.getD 0 0,ns.getD 1 0,ns.getD 2 0,ns.getD 3 0,ns.getD 4 0,ns.getD 5 0,ns.getD 6 0+ns.getD 7 0+ns.getD 8 0⟩
theorem S'E (b:Bool)(ns:List Nat): hdV b ns=(hdD b ns).val:=rfl
def G'r (D:HD)(s:ByteArray)(R:RS): Net×RS:=if D.bin=true then rbS D s (J'd D.top,R) else rpS D s (J'd D.top,R)
def rd3 (X:Net×RS)(R3:RS): Except (Nat×Nat) CkT:=
 if R3.e=0 then
  match arS X.1 with
  | .error q=>.error (12,q)
  | .ok T=>.ok T
 else .error (R3.e,R3.ep)
def rd2 (D:HD)(s:ByteArray)(R1:RS): Except (Nat×Nat) CkT:=rd3 (G'r D s R1) (juS (G'r D s R1).1 (G'D D s (G'r D s R1).2))
def rdS (s:ByteArray): Except (Nat×Nat) CkT:=
 if 1000<s.size then .error (1,0) else
 let a:=hdS s ⟨0,0,0⟩
 let D:=hdD a.1 a.2.1
 let R1:=jdS D a.2.2
 if R1.e=0 then rd2 D s R1 else .error (R1.e,R1.ep)
def Asc (s:ByteArray): Prop:=(hdS s ⟨0,0,0⟩).1=false∧∀D,D=hdD (hdS s ⟨0,0,0⟩).1 (hdS s ⟨0,0,0⟩).2.1->¬((G'r D s (jdS D (hdS s ⟨0,0,0⟩).2.2)).2.pos<s.size∧(G'r D s (jdS D (hdS s ⟨0,0,0⟩).2.2)).2.e=0)
theorem P'A {D:HD}{R:RS}(h:(jdS D R).e=0): D.top<=80∧D.nin<=4∧D.nla<=6∧D.nou<=4∧D.nan<=60∧D.nbs<=1∧jdS D R=R∧D.nin+D.nla+D.nan<=D.top∧(D.bin=true->D.nin+D.nla+D.nan=D.top)∧(D.nbs=0->D.nou=1)∧D.oth=0:=by
 unfold jdS at h ⊢;unfold jd4 at h ⊢;split at h
 ·exact (S'D (by omega) h).elim
 ·rename_i h4
  rw[if_neg h4];unfold jd3 at h ⊢;split at h
  ·exact (S'D (by omega) h).elim
  ·rename_i h3
   rw[if_neg h3];unfold jd2 at h ⊢;split at h
   ·exact (S'D (by omega) h).elim
   ·rename_i h2
    rw[if_neg h2];unfold jd1 at h ⊢;split at h
    ·exact (S'D (by omega) h).elim
    ·rename_i h1
     rw[if_neg h1];refine⟨by omega,by omega,by omega,by omega,by omega,by omega,rfl,by omega,λhb=>?_,by omega,by omega⟩;have:¬(D.nin+D.nla+D.nan≠D.top):=λq=>h2 (.inr ⟨hb,q⟩);omega
section
variable {H:Type}{O:HI H}{ro:Nat}{c:A'Z H}
attribute [local simp] A'a A'b reg to too A'd A'q A'h mv' nl' fl' ld' ln' mk' ia' ik' ix' B'F B'G aLd B'h A'w B'c B'x A'4 aUn unA ev A'l isB A'0 A'E A'F A'G A'H A'I A'J A'K A'L A'M cIf A'B A'f A'g A'1 A'i rvE aSt A'N A't A'O A'P A'Q A'9 A'R A'u A'S A'T B'a A'U A'v A'V A'W A'X B'b A'p Instr.fill A'e A'n A'x A'j ptr undef B'o B'y A'k B's A's B'T A'D B'C A'y B'p rangeA B'O
theorem V'9 (C:LP' O ro c)(L:O.Law){w:Own}{h:H}{r:Nat}{s:ByteArray}{R:RS}{D:HD}(ok:D.Ok)(x:RB O ro w h r s R):
  ∃h',c 46 [D.val,ptr r] h=some (.tuple #[],h')∧RB O ro w h' r s (jdS D R)∧Ch O (λu=>u=(1,1000)) w h w h':=by
 obtain⟨h',e1,d,f⟩:=M'M C L ok x.rd x.lo;exact⟨h',e1,RB.up L x d f⟩
theorem S'F (C:LP' O ro c)(L:O.Law){w:Own}{h:H}{r n:Nat}{s:ByteArray}{D:HD}(hs:s.size<=1000)(hD:D.nin<=100∧D.nla<=100∧D.nou<=100∧D.nbs<=100∧D.nan<=100)(R:RS)
  (x : ST O ro w h r s R n (J'd D.top))(hp : R.pos ≤ s.size)(hb : ¬ D.bin = true):
  ∃w' h',c (if D.bin=true then 49 else 50) [ptr n,ptr r,D.val] h=some (.tuple #[],h')∧ST O ro w' h' r s (G'r D s R).2 n (G'r D s R).1∧Ch O (KN 4) w h w' h'∧(G'r D s R).2.pos<=s.size:=by
 unfold G'r;simp only[if_neg hb];exact V'0 C L hs hD (J'd D.top,R) x hp ⟨rfl,rfl,rfl,rfl,rfl⟩
theorem Bx.over (L:O.Law){K:Tag->Prop}{w:Own}{h:H}{t:Tag}{b:Nat}{l new:List Value}(hk:K t)(x:Bx O ro w h t b l)(hn:new.length=l.length): ∃h',A'8 O h b 0 new=some h'∧Bx O ro w h' t b new∧Ch O K w h w h':=by
 obtain⟨h',e1,e2,e3⟩:=Bx.puts L hk new 0 h l x (by omega);refine⟨h',e1,?_,e3⟩;have:l.take 0++new++l.drop (0+new.length)=new:=by
  rw[List.drop_eq_nil_of_le (by omega)];simp
 rw[this]at e2;exact e2
theorem K'o (C:LP' O ro c)(L:O.Law){w0 w:Own}{h0 h:H}{r b b4:Nat}{s:ByteArray}{D:HD}{R1:RS}(hs:s.size<=1000)(hp:R1.pos<=s.size)(he:R1.e=0)(hD:D.top<=80∧D.nin<=4∧D.nla<=6∧D.nou<=4∧D.nan<=60∧D.nbs<=1)
  (rb : RB O ro w h r s R1)(zb : Bx O ro w h (104, 0) b [.int .i64 0, .int .i64 0])(yb : Bx O ro w h (104, 1) b4 (hdc D))(lo : ro ≤ O.next h)(cc : Ch O (Kc [1, 2, 3, 4] 5) w0 h0 w h)(t : Env)(t3 : t 3 = ptr b)(t4 : t 4 = ptr r)(t5 : t 5 = ptr b4)(hbn : ¬ D.bin = true)(hno : ¬ ((G'r D s R1).2.pos < s.size ∧ (G'r D s R1).2.e = 0)):
  okE c (A'a (A'b (Zai O)) (A'a (A'a (A'b (Zaj O)) (cIf (.tmp 29) (A'b (Zak O)) (A'b (Zal O)))) (A'a (A'b (Zam O)) (A'a (A'b Zan) (A'a (A'a (A'b Zao) (cIf (.tmp 45) (A'a (A'b (Zap O ro)) A'B) A'f)) (A'a (A'b (Zaq O ro)) A'B)))))) (t,h)
   (fun e t' h' => (e = .ret ∨ e = .normal) ∧ ∃ v, A'1 O Tryz.prog [ResultVar.tmp 2, ResultVar.cell 3 37] t' h' = some v ∧ ∃ p w', ((∃ q, rd2 D s R1 = .error q ∧ v = .tuple #[.pointer none, fv q.1 q.2]) ∨ (∃ T, rd2 D s R1 = .ok T ∧ v = .tuple #[ptr p, fv 0 0] ∧ CB O ro w' h' 4 p T)) ∧ Ch O (Kc [1, 2, 3, 4] 5) w0 h0 w' h' ∧ ro ≤ O.next h') := by
 have hD2:D.nin<=100∧D.nla<=100∧D.nou<=100∧D.nbs<=100∧D.nan<=100:=by omega
 have hrob:¬b<ro:=by have:=zb.lo;omega
 unfold ptr at t3 t4 t5;have hval:Value.agg (hdc D).toArray=D.val:=rfl;obtain⟨n,w1,h1,hc1,nl1,c1,lo1⟩:=U'f C L (w:=w) lo D.top (by omega);have rb1:=rb.ch L c1 (by simp[Kc]);have z1:=zb.ch L c1 (by simp[Kc]);have y1:=yb.ch L c1 (by simp[Kc]);have x1:ST O ro w1 h1 r s R1 n (J'd D.top):=⟨rb1,nl1,lo1⟩;have cc1:=cc.trans (Kc.mono c1 (by decide) (by omega));obtain⟨w2,h2,hc2,x2,c2,p2⟩:=S'F C L hs hD2 R1 x1 hp hbn;have hlen:(G'r D s R1).1.Len (D.top+1) D.nin D.nla D.nou D.nbs D.nan:=by
  unfold G'r;rw[if_neg hbn];exact P'y D s R1 D.top
 obtain⟨X,hX⟩:=e' (G'r D s R1);rw[<-hX]at x2 p2 hlen;have z2:=z1.ch L c2 (by simp[Kc]);have y2:=y1.ch L c2 (by simp[Kc]);have cc2:=cc1.trans (Kc.mono c2 (by decide) (by omega));obtain⟨w3,h3,hc3,rb3,c3⟩:=S'n C L (D:=D) x2.rb x2.lo hs p2 (by rw[hX];exact hno);have x3:=x2.rd L rb3 c3;have z3:=z2.ch L c3;have cc3:=cc2.trans (chR (cs:=[1,2,3,4]) c3 5);have hl:=hlen.l;have ho:=hlen.o;have hb:=hlen.b;have ha:=hlen.a;have hg:=hlen.g;have hi:=hlen.i;obtain⟨w4,h4,hc4,x4,c4⟩:=U'g C L x3 (by omega);have z4:=z3.ch L c4 (by simp[Kc]);have cc4:=cc3.trans (Kc.mono c4 (by decide) (by omega));have hf4:=E'X C x4.rb.rd;obtain⟨R3,hR3⟩:=e' (juS X.1 (G'D D s X.2));rw[<-hR3]at x4 hf4;have hrd:rd2 D s R1=rd3 X R3:=by unfold rd2;rw[<-hX,<-hR3]
 unfold ptr at hc1 hc2 hc3 hc4 hf4;have k1:=yb.get 1 _ rfl;have k0:=y1.get 0 _ rfl;have l1:cellsA O h1 b4 0 8=some (hdc D):=y1.all;have l2:cellsA O h2 b4 0 8=some (hdc D):=y2.all;refine s'f ?_;simp[Zai,t5,k1,hc1,A'c,-A'1,-A'i,-rvE];refine okE.seq (okE.mono (Q:=λe t' h'=>e = .normal∧h'=h2∧t' 3=ptr b∧t' 4=ptr r∧t' 5=ptr b4∧t' 6=ptr n) ?_ ?_)
 ·refine s'f ?_;simp[Zaj,t5,k0,A'c,-A'1,-A'i,-rvE]
  by_cases hbin:D.bin=true
  ·exact absurd hbin hbn
  ·rw[if_neg hbin]at hc2;refine f'f ?_;simp[Zal,hbin,t3,t4,t5,l1,hval,hc2]
 ·rintro e t' g ⟨rfl,rfl,t3,t4,t5,t6⟩;unfold ptr at t3 t4 t5 t6;simp only[A'c];refine s'f ?_;simp[Zam,t4,t5,l2,hval,hc3,A'c,-A'1,-A'i,-rvE];refine s'f ?_;simp[Zan,t4,t6,hc4,A'c,-A'1,-A'i,-rvE]
  by_cases he3:R3.e=0
  ·have hk:(R3.e != 0)=false:=by simpa using he3
   have hN:X.1.Lits:=P'z (R:=G'D D s X.2) (by omega) (by rw[<-hR3];exact he3);obtain⟨v0,v1,v2,v3,v4,v5,nl4⟩:=x4.nl;obtain⟨p,v,w5,h5,hc5,res5,c5,lo5⟩:=V'8 C L nl4 x4.lo (by omega) hN;have z5:=z4.ch L c5 (by simp[Kc]);have cc5:=cc4.trans (Kc.mono (cs':=[1,2,3,4]) (n':=5) c5 (by decide) (by omega));unfold ptr at hc5;rcases res5 with ⟨q,eq,rfl⟩|⟨T,eq,rfl,cb⟩
   ·obtain⟨h6,e6,z6,c6⟩:=Bx.over L (K:=λu=>u=(104,0)) (new:=[.int .i64 12,.int .i64 q]) rfl z5 rfl;have hz6:cellsA O h6 b 0 2=some [.int .i64 12,.int .i64 q]:=z6.all;have hfin:rd2 D s R1 = .error (12,q):=by rw[hrd];unfold rd3;rw[if_pos he3,eq]
    rw[hfin];refine f'f ?_;simp[Zao,Zaq,t3,t4,t6,hf4,hk,hc5,fv,hrob,e6,E'Z,hz6];exact⟨⟨12,q,⟨rfl,rfl⟩,rfl,rfl⟩,⟨w5,cc5.trans (Kc.one c6 (.inr (by simp)))⟩,l'G lo5 c6.nx⟩
   ·obtain⟨h6,e6,z6,c6⟩:=Bx.over L (K:=λu=>u=(104,0)) (new:=[.int .i64 0,.int .i64 0]) rfl z5 rfl;have hz6:cellsA O h6 b 0 2=some [.int .i64 0,.int .i64 0]:=z6.all;have cb6:=cb.ch L c6;have hfin:rd2 D s R1 = .ok T:=by rw[hrd];unfold rd3;rw[if_pos he3,eq]
    rw[hfin];refine f'f ?_;simp[Zao,Zaq,t3,t4,t6,hf4,hk,hc5,fv,hrob,e6,E'Z,hz6];exact⟨p,w5,⟨rfl,cb6⟩,cc5.trans (Kc.one c6 (.inr (by simp))),l'G lo5 c6.nx⟩
  ·have hk:(R3.e != 0)=true:=by simpa using he3
   have hfin:rd2 D s R1 = .error (R3.e,R3.ep):=by rw[hrd];unfold rd3;rw[if_neg he3]
   rw[hfin];obtain⟨h6,e6,z6,c6⟩:=Bx.over L (K:=λu=>u=(104,0)) (new:=[.int .i64 R3.e,.int .i64 R3.ep]) rfl z4 rfl;have hz6:cellsA O h6 b 0 2=some [.int .i64 R3.e,.int .i64 R3.ep]:=z6.all;have hl2:cellsA O h4 r 2 2=some [.int .i64 R3.e,.int .i64 R3.ep]:=x4.rb.at 2 [.int .i64 R3.e,.int .i64 R3.ep] (λi hi=>by
    have hi2:i<2:=hi
    match i,hi2 with
    | 0,_=>rfl
    | 1,_=>rfl)
   refine f'f ?_;simp[Zao,Zap,t3,t4,t6,hf4,hk,hl2,hrob,e6,E'Z,hz6];exact⟨⟨R3.e,R3.ep,⟨rfl,rfl⟩,rfl⟩,⟨w4,cc4.trans (Kc.one c6 (.inr (by simp)))⟩,l'G x4.lo c6.nx⟩
theorem S'G (C:LP' O ro c)(L:O.Law){w:Own}{h:H}(lo:ro<=O.next h)(s:ByteArray)(hasc:Asc s):
  ∃p v w' h',c 25 [.string s] h=some (v,h')∧((∃q,rdS s = .error q∧v = .tuple #[.pointer none,fv q.1 q.2])∨(∃T,rdS s = .ok T∧v = .tuple #[ptr p,fv 0 0]∧CB O ro w' h' 4 p T))∧Ch O (Kc [1,2,3,4] 5) w h w' h'∧ro<=O.next h':=by
 obtain⟨b,hb⟩:=e' (O.next h);obtain⟨h1,hh1⟩:=e' (O.new h [.int .i64 0,.int .i64 0]);obtain⟨w1,hw1⟩:=e' (w.set b (104,0));have c1:∀K,Ch O K w h w1 h1:=λK=>by rw[hh1,hw1,hb];exact Ch.new L _ _ _ _ _
 have z1:Bx O ro w1 h1 (104,0) b [.int .i64 0,.int .i64 0]:=by rw[hh1,hw1,hb];exact Bx.new L _ _ lo _ _
 have lo1:ro<=O.next h1:=l'G lo (c1 λ_=>True).nx
 have hrob:¬b<ro:=by have:=z1.lo;omega
 by_cases hlong:1000<s.size
 ·obtain⟨h3,e3,z3,c3⟩:=Bx.over L (K:=λu=>u=(104,0)) (new:=[.int .i64 1,.int .i64 0]) rfl z1 rfl;have hz:cellsA O h3 b 0 2=some [.int .i64 1,.int .i64 0]:=z3.all;have hrd:rdS s = .error (1,0):=by unfold rdS;rw[if_pos hlong]
  have hk:(1000:Int)<s.size:=by omega
  refine⟨0,.tuple #[.pointer none,fv 1 0],w1,h3,?_,.inl ⟨(1,0),hrd,rfl⟩,(c1 _).trans (Kc.one c3 (.inr (by simp))),l'G lo1 c3.nx⟩;refine C.eq (O'l O ro) rfl rfl (f'f ?_);simp[F25,Zaa,Zab,Zac,<-hb,<-hh1,hk,hlong,List.zipIdx,hrob,e3,E'Z,hz,fv]
 ·have hs:s.size<=1000:=by omega
  have hk:¬(1000:Int)<s.size:=by omega
  obtain⟨r,hr⟩:=e' (O.next h1);obtain⟨h2,hh2⟩:=e' (O.new h1 [.string s,.int .i64 0,.int .i64 0,.int .i64 0]);obtain⟨w2,hw2⟩:=e' (w1.set r (1,1000));have c2:∀K,Ch O K w1 h1 w2 h2:=λK=>by rw[hh2,hw2,hr];exact Ch.new L _ _ _ _ _
  have rb2:RB O ro w2 h2 r s ⟨0,0,0⟩:=by rw[hh2,hw2,hr];exact Bx.new L _ _ lo1 _ _
  have z2:=z1.ch L (c2 λ_=>False) (by simp);have lo2:ro<=O.next h2:=l'G lo1 (c2 λ_=>True).nx
  obtain⟨h3,hc3,d3,f3,p3,len3,lt3⟩:=U'e C L rb2.rd rb2.lo lo2 hs (Nat.zero_le _);obtain⟨rb3,c3⟩:=RB.up L rb2 d3 f3;have z3:=z2.ch L c3;have lo3:ro<=O.next h3:=l'G lo2 c3.nx
  obtain⟨a,ha⟩:=e' (hdS s ⟨0,0,0⟩);rw[<-ha]at hc3 rb3 p3 len3 lt3;obtain⟨D,hD⟩:=e' (hdD a.1 a.2.1);have hDok:D.Ok:=by
   rw[hD];exact⟨C'F lt3 0,C'F lt3 1,C'F lt3 2,C'F lt3 3,C'F lt3 4,C'F lt3 5,by
    have:=C'F lt3 6;have:=C'F lt3 7;have:=C'F lt3 8;simp only[hdD];omega⟩
  rw[S'E,<-hD]at hc3;obtain⟨b4,hb4⟩:=e' (O.next h3);obtain⟨h3',hh3'⟩:=e' (O.new h3 [.bool false,.int .i64 0,.int .i64 0,.int .i64 0,.int .i64 0,.int .i64 0,.int .i64 0,.int .i64 0]);obtain⟨w4,hw4⟩:=e' (w2.set b4 (104,1));have hn4:Bx O ro w4 h3' (104,1) b4 [.bool false,.int .i64 0,.int .i64 0,.int .i64 0,.int .i64 0,.int .i64 0,.int .i64 0,.int .i64 0]:=by rw[hh3',hw4,hb4];exact Bx.new L _ _ lo3 _ _
  have cn4:∀K,Ch O K w2 h3 w4 h3':=λK=>by rw[hh3',hw4,hb4];exact Ch.new L _ _ _ _ _
  obtain⟨h4,e4,y4,c4⟩:=Bx.over L (K:=λu=>u=(104,1)) (new:=hdc D) rfl hn4 rfl;have rb4:=(rb3.ch L (cn4 λ_=>False) (by simp)).ch L c4;have z4:=(z3.ch L (cn4 λ_=>False) (by simp)).ch L c4;have lo4:ro<=O.next h4:=l'G (l'G lo3 (cn4 λ_=>True).nx) c4.nx
  have cc4:Ch O (Kc [1,2,3,4] 5) w h w4 h4:=((((c1 _).trans (c2 _)).trans (chR c3 _)).trans (cn4 _)).trans (Kc.one c4 (.inr (by simp)));have hro4:¬b4<ro:=by have:=y4.lo;omega
  obtain⟨h5,hc5,rb5,c5⟩:=V'9 C L hDok rb4;have z5:=z4.ch L c5;have y5:=y4.ch L c5;have lo5:ro<=O.next h5:=l'G lo4 c5.nx
  have cc5:=cc4.trans (chR (cs:=[1,2,3,4]) c5 5);have hf5:=E'X C rb5.rd;have hl4:cellsA O h4 b4 0 8=some (hdc D):=y4.all;have hcs:D.val.cells.size=8:=rfl;have hct:D.val.cells.toList=hdc D:=rfl;have hfl:(hdc D).all B'g=true:=rfl;have hfl':∀x∈hdc D,B'g x=true:=l'D.1 hfl;have hval:Value.agg (hdc D).toArray=D.val:=rfl;obtain⟨R1,hR1⟩:=e' (jdS D a.2.2);rw[<-hR1]at rb5 hf5;unfold ptr at hc3 hc5 hf5;have key:∃v h',c 25 [.string s] h=some (v,h')∧∃p w',((∃q,rdS s = .error q∧v = .tuple #[.pointer none,fv q.1 q.2])∨(∃T,rdS s = .ok T∧v = .tuple #[ptr p,fv 0 0]∧CB O ro w' h' 4 p T))∧Ch O (Kc [1,2,3,4] 5) w h w' h'∧ro<=O.next h':=by
   refine C.fn (O'l O ro) rfl rfl ?_;obtain⟨e0,he0⟩:=e' (A'0 [.string s]);have a0:e0 0 = .string s:=by subst he0;rfl
   rw[<-he0];unfold F25;refine s'f ?_;simp[Zaa,<-hb,<-hh1,A'c,-A'1,-A'i,-rvE];refine s'f ?_;simp[Zab,a0,hk,hlong,A'c,-A'1,-A'i,-rvE];refine s'f ?_;simp[Zad,a0,List.zipIdx,<-hr,<-hh2,A'c,-A'1,-A'i,-rvE];refine s'f ?_;simp[Zae,hc3,<-hb4,<-hh3',hro4,hcs,hct,hfl,hfl',e4,A'c,-A'1,-A'i,-rvE];refine s'f ?_;simp[Zaf,hl4,hval,hc5,A'c,-A'1,-A'i,-rvE]
   by_cases he1:R1.e=0
   ·have hk1:(R1.e != 0)=false:=by simpa using he1
    obtain⟨q1,q2,q3,q4,q5,q6,q7,_⟩:=P'A (D:=D) (R:=a.2.2) (by rw[<-hR1];exact he1);have hrd:rdS s=rd2 D s R1:=by
     unfold rdS;rw[if_neg hlong];simp only;rw[<-ha,<-hD,<-hR1,if_pos he1]
    rw[hrd];refine s'f ?_;simp[Zag,hf5,hk1,A'c,-A'1,-A'i,-rvE];have hbb:¬D.bin=true:=λh9=>by
     rw[hD]at h9;have h8:a.1=true:=h9;rw[ha,hasc.1]at h8;simp at h8
    have hnn:¬((G'r D s R1).2.pos<s.size∧(G'r D s R1).2.e=0):=by
     have h8:=hasc.2 D (by rw[hD,ha]);rw[<-ha,<-hR1]at h8;exact h8
    refine okE.mono (K'o C L hs (by rw[hR1,q7];exact p3) he1 ⟨q1,q2,q3,q4,q5,q6⟩ rb5 z5 y5 lo5 cc5 _ ?_ ?_ ?_ hbb hnn) ?_
    ·simp
    ·simp
    ·simp
    ·intro e t' h' hq;simpa [-A'1,-A'i,-rvE]using hq
   ·have hk1:(R1.e != 0)=true:=by simpa using he1
    obtain⟨h6,e6,z6,c6⟩:=Bx.over L (K:=λu=>u=(104,0)) (new:=[.int .i64 R1.e,.int .i64 R1.ep]) rfl z5 rfl;have hz6:cellsA O h6 b 0 2=some [.int .i64 R1.e,.int .i64 R1.ep]:=z6.all;have hl2:cellsA O h5 r 2 2=some [.int .i64 R1.e,.int .i64 R1.ep]:=rb5.at 2 [.int .i64 R1.e,.int .i64 R1.ep] (λi hi=>by
     have hi2:i<2:=hi
     match i,hi2 with
     | 0,_=>rfl
     | 1,_=>rfl)
    have hrd:rdS s = .error (R1.e,R1.ep):=by
     unfold rdS;rw[if_neg hlong];simp only;rw[<-ha,<-hD,<-hR1,if_neg he1]
    rw[hrd];refine f'f ?_;simp[Zag,Zah,hf5,hk1,hl2,hrob,e6,E'Z,hz6];exact⟨⟨R1.e,R1.ep,⟨rfl,rfl⟩,rfl⟩,⟨w4,cc5.trans (Kc.one c6 (.inr (by simp)))⟩,l'G lo5 c6.nx⟩
  obtain⟨v,h',e1,p,w',e2⟩:=key;exact⟨p,v,w',h',e1,e2⟩
end
end Go.Proofs.YtimdkminagnhgaaGreatDoor
