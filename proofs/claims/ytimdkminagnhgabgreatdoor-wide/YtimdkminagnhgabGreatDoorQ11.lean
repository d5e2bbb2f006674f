import Derived.Test.YtimdkminagnhgabGreatDoorQ07
set_option linter.all false
namespace Go.Proofs.YtimdkminagnhgabGreatDoor
open Go.Vm Go.Proofs
set_option maxHeartbeats 1000000
section
variable {H:Type}{O:HI H}{ro:Nat}{c:A'X H}
attribute [local simp] A'b A'c reg to too A'a A'n A'i mv' nl' fl' ld' ln' mk' ia' ik' ix' B'C B'D aLd A'5 A'q A'7 A'3 A'2 aUn unA ev A'k isB A'Z C'f cIf A'y A'f A'g A'L A'h rvE B'j aSt A'6 Value.cells B'f A'l Instr.fill A'e A'r A'z A's ptr undef
theorem F'J {s:ByteArray}{R:RS}(h:0<=pk s R): R.e=0∧R.pos<s.size:=by
 unfold pk at h;split at h
 ·assumption
 ·omega
theorem K'u (s:ByteArray)(R:RS): -1<=pk s R∧pk s R<=255:=by
 unfold pk G'u;split
 ·cases h:s[R.pos]? with
  | none=>simp
  | some b=>simp;have:=b.toNat_lt;omega
 ·omega
theorem Rd.setPos (L:O.Law){h:H}{r:Nat}{s:ByteArray}{R:RS}(d:Rd O h r s R)(p:Nat): Rd O (O.put h r 1 (.int .i64 p)) r s ⟨p,R.e,R.ep⟩∧Fr O [r] h (O.put h r 1 (.int .i64 p)):=by
 obtain⟨c0,c1,c2,c3⟩:=d;refine⟨?_,Fr.put L (by simp) c1⟩;refine⟨?_,?_,?_,?_⟩ <;> rw[L.cell_put _ _ _ _ _ c1] <;> simp[c0,c2,c3]
theorem E'h (C:LP' O ro c){h:H}{r:Nat}{s:ByteArray}{R:RS}(d:Rd O h r s R): c 35 [ptr r] h=some (.bool (R.e != 0),h):=by
 refine C.eq (O'R O ro) rfl rfl (f'f ?_);obtain⟨c0,c1,c2,c3⟩:=d
 by_cases he:R.e=0
 ·simp[F35,ZaQ,ZaR,c2,he]
 ·have h1:((R.e:Int) != 0)=true:=by simp;omega
  simp[F35,ZaQ,ZaR,c2,h1,he]
def bbS (s:ByteArray)(R:RS)(b:Nat): Nat×RS:=if pk s R = -1∨(b:Int)<=pk s R then (0,fl R 2 R.pos) else ((pk s R).toNat,⟨R.pos+1,R.e,R.ep⟩)
theorem P'e (C:LP' O ro c)(L:O.Law){h:H}{r:Nat}{s:ByteArray}{R:RS}(d:Rd O h r s R)(hr:ro<=r)(hs:s.size<=1000)(b:Nat):
  ∃h',c 155 [ptr r,.int .i64 b] h=some (.int .i64 (bbS s R b).1,h')∧Rd O h' r s (bbS s R b).2∧Fr O [r] h h':=by
 have hro:¬r<ro:=by omega
 have hpk:=E'g C d hs;have hle:=K'u s R;unfold bbS
 by_cases h1:pk s R = -1
 ·obtain⟨h2,hc2,d2,f2⟩:=C't C L d hr 2 R.pos;refine⟨h2,?_,by simpa [h1]using d2,f2⟩;refine C.eq (G't O ro) rfl rfl (f'f ?_);have c1:=d.c1;have hc2':c 67 [Value.pointer (some ⟨r,0,none⟩),.int .i64 2,.int .i64 R.pos] h=some (.tuple #[],h2):=hc2;unfold ptr at hpk;simp[Q'4,ZeP,ZeQ,ZeR,ZeS,ZeT,hpk,h1,c1,hc2']
 ·have h1':(pk s R == -1)=false:=by simpa using h1
  by_cases h2:(b:Int)<=pk s R
  ·obtain⟨h3,hc2,d2,f2⟩:=C't C L d hr 2 R.pos;refine⟨h3,?_,by simpa [h2]using d2,f2⟩;refine C.eq (G't O ro) rfl rfl (f'f ?_);have c1:=d.c1;have hc2':c 67 [Value.pointer (some ⟨r,0,none⟩),.int .i64 2,.int .i64 R.pos] h=some (.tuple #[],h3):=hc2;unfold ptr at hpk;simp[Q'4,ZeP,ZeQ,ZeR,ZeS,ZeT,hpk,h1',h2,c1,hc2']
  ·have hpos:=F'J (s:=s) (R:=R) (by omega);obtain⟨d2,f2⟩:=d.setPos L (R.pos+1);refine⟨_,?_,by simpa [h1,h2]using d2,f2⟩;refine C.eq (G't O ro) rfl rfl (f'f ?_);have c1:=d.c1;have hw:=w'1 R.pos;have hn:(((pk s R).toNat:Nat):Int)=pk s R:=by omega
   unfold ptr at hpk;simp[Q'4,ZeP,ZeQ,ZeR,ZeU,ZeV,hpk,h1',h1,h2,c1,hro,hw,hn]
def diS (s:ByteArray)(R:RS): Nat×RS:=
 let a:=bbS s R 256
 if a.1<128 then a else
 let b:=bbS s a.2 128
 (a.1-128+128*b.1,b.2)
theorem G'Z (s:ByteArray)(R:RS)(b:Nat): (bbS s R b).1<=255:=by
 have:=K'u s R;unfold bbS;split
 ·simp
 ·simp only;omega
theorem R'd (C:LP' O ro c)(L:O.Law){h:H}{r:Nat}{s:ByteArray}{R:RS}(d:Rd O h r s R)(hr:ro<=r)(hs:s.size<=1000):
  ∃h',c 117 [ptr r] h=some (.int .i64 (diS s R).1,h')∧Rd O h' r s (diS s R).2∧Fr O [r] h h':=by
 obtain⟨h1,hc1,d1,f1⟩:=P'e C L d hr hs 256;have hb1:=G'Z s R 256;unfold diS;generalize bbS s R 256=a at hc1 d1 hb1
 by_cases hlt:a.1<128
 ·refine⟨h1,?_,by simpa [hlt]using d1,f1⟩;refine C.eq (I'I O ro) rfl rfl (f'f ?_);have hlt':(a.1:Int)<128:=by omega
  have hc1':c 155 [Value.pointer (some ⟨r,0,none⟩),.int .i64 256] h=some (.int .i64 a.1,h1):=hc1;simp[Q'8,Zey,Zez,ZeA,ZeB,ZeC,ZeD,hc1',hlt,hlt']
 ·obtain⟨h2,hc2,d2,f2⟩:=P'e C L d1 hr hs 128;have hb2:=G'Z s a.2 128;simp only[hlt,if_false];generalize bbS s a.2 128=b at hc2 d2 hb2 ⊢;refine⟨h2,?_,d2,f1.trans f2⟩;refine C.eq (I'I O ro) rfl rfl (f'f ?_);have hlt':¬(a.1:Int)<128:=by omega
  have hc1':c 155 [Value.pointer (some ⟨r,0,none⟩),.int .i64 256] h=some (.int .i64 a.1,h1):=hc1;have hc2':c 155 [Value.pointer (some ⟨r,0,none⟩),.int .i64 128] h1=some (.int .i64 b.1,h2):=hc2;have w1:IntKind.i64.wrap ((a.1:Int)-128)=(a.1:Int)-128:=w'j;have w2:IntKind.i64.wrap (128*(b.1:Int))=128*(b.1:Int):=w'j;have w3:IntKind.i64.wrap ((a.1:Int)-128+128*(b.1:Int))=((a.1-128+128*b.1:Nat):Int):=w'i;simp[Q'8,Zey,Zez,ZeA,ZeB,ZeC,ZeD,hc1',hc2',hlt,hlt',w1,w2,w3]
def E'i (s:ByteArray)(R:RS): Nat×RS:=numL 5 s R.pos R 0
theorem L'T (C:LP' O ro c)(L:O.Law){h:H}{r:Nat}{s:ByteArray}{R:RS}(d:Rd O h r s R)(hr:ro<=r)(hs:s.size<=1000)(hp:R.pos<=s.size):
  ∃h',c 66 [ptr r] h=some (.int .i64 (E'i s R).1,h')∧Rd O h' r s (E'i s R).2∧Fr O [r] h h':=by
 have hro:¬r<ro:=by omega
 have hpk:=E'g C d hs;have key:∃v h',c 66 [ptr r] h=some (v,h')∧(v = .int .i64 (E'i s R).1∧Rd O h' r s (E'i s R).2∧Fr O [r] h h'):=by
  refine C.fn (O'Z O ro) rfl rfl ?_;unfold F66;have c1:=d.c1;refine s'f ?_;simp only[Zcq,A'c,reg,to,A'i,mv',nl',fl',ld',ln',mk',ia',ik',ix',ev,l'l,A'g,A'd];refine s'f ?_;simp[Zcr,c1,A'd];refine s'f ?_;simp[Zcs,A'd];refine okE.seq (s'f ?_);unfold ptr at hpk;simp[Zct,A'd,hpk];refine okE.blk ?_;refine okE.loop (λn t g=>∃R' v,Rd O g r s R'∧Fr O [r] h g∧t 0=ptr r∧t 3 = .int .i64 R.pos∧t 4 = .int .i64 (v:Nat)∧t 5 = .int .i64 (pk s R')∧R.pos<=R'.pos∧R'.pos+n=R.pos+5∧1<=n∧v<10^(R'.pos-R.pos)∧numL n s R.pos R' v=E'i s R) ?_ 5 _ _ ⟨R,0,d,Fr.refl _ _,by simp,by simp,by simp,by simp,l'H _,rfl,by omega,by simp,rfl⟩;intro n t g hI;obtain⟨R',v,d',f',t0,t3,t4,t5,hge,hn,hn1,hv,hfin⟩:=hI;obtain⟨D,hD⟩:∃D,R'.pos=R.pos+D:=⟨R'.pos-R.pos,by omega⟩;have hnD:n=5-D:=by omega
  have e1:R'.pos-R.pos=D:=by omega
  rw[e1]at hv;have hv4:v<10000:=Nat.lt_of_lt_of_le hv (Nat.pow_le_pow_right (n:=10) (by omega) (show D<=4 by omega));have wD:IntKind.i64.wrap ((R'.pos:Int)-(R.pos:Int))=(D:Int):=by
   have hp':R'.pos<=R.pos+5:=by omega
   rw[B'J (by omega) (by omega)];omega
  have c1':=d'.c1;have hple:=K'u s R';obtain⟨m,rfl⟩:∃m,n=m+1:=⟨n-1,by omega⟩;simp only[numL,e1]at hfin;unfold ptr at t0
  by_cases hd:I'J (pk s R')=true
  ·have hdig:48<=pk s R'∧pk s R'<=57:=by simpa [I'J]using hd
   have hpos:=F'J (s:=s) (R:=R') (by omega);rw[if_pos hd]at hfin
   by_cases hfault:D=4∨(0<D∧v=0)
   ·rw[if_pos hfault]at hfin;obtain⟨g2,hc2,d2,f2⟩:=C't C L d' hr 2 R'.pos;have hc2':c 67 [Value.pointer (some ⟨r,0,none⟩),.int .i64 2,.int .i64 R'.pos] g=some (.tuple #[],g2):=hc2;have d3:Rd O g2 r s (E'i s R).2:=by rw[<-hfin];exact d2
    have e3:(E'i s R).1=0:=by rw[<-hfin]
    refine f'f ?_
    by_cases h4:D=4
    ·have k4:((D:Int)==4)=true:=by simp;omega
     simp[H'J,Zcu,Zcv,Zcw,Zcx,Zcy,t0,t3,t4,t5,C'F C,hd,c1',wD,k4,hc2',A'd,e3,d3,f'.trans f2]
    ·have k4:((D:Int)==4)=false:=by simp;omega
     have hr2:0<D∧v=0:=by omega
     have kD:(0:Int)<D:=by omega
     have kv:((v:Int)==0)=true:=by simp;omega
     simp[H'J,Zcu,Zcv,Zcw,Zcx,Zcy,t0,t3,t4,t5,C'F C,hd,c1',wD,k4,kD,hr2.1,hr2.2,kv,hc2',A'd,e3,d3,f'.trans f2]
   ·rw[if_neg hfault]at hfin;have k4:((D:Int)==4)=false:=by simp;omega
    obtain⟨q,hq⟩:=e' (R'.pos+1);obtain⟨x,hx⟩:=e' (10*v+(pk s R').toNat-48);rw[<-hq,<-hx]at hfin;obtain⟨d2,f2⟩:=d'.setPos L q;have hpk2:=E'g C d2 hs;unfold ptr at hpk2;have hw1:IntKind.i64.wrap ((R'.pos:Int)+1)=(q:Int):=w'i;have w1:IntKind.i64.wrap (10*(v:Int))=10*(v:Int):=w'j;have w2:IntKind.i64.wrap (10*(v:Int)+pk s R')=10*(v:Int)+pk s R':=w'j;have w3:IntKind.i64.wrap (10*(v:Int)+pk s R'-48)=(x:Int):=w'i;have hx2:x<10^(q-R.pos):=by
     have:q-R.pos=D+1:=by omega
     rw[this,Nat.pow_succ];omega
    refine f'f ?_
    by_cases hD0:0<D
    ·have kD:(0:Int)<D:=by omega
     have kv:((v:Int)==0)=false:=by simp;omega
     simp[H'J,Zcu,Zcv,Zcw,Zcz,ZcA,ZcB,t0,t3,t4,t5,C'F C,hd,c1',wD,k4,kD,hD0,kv,hw1,w1,w2,w3,hpk2,hro];exact⟨m,by omega,_,d2,f'.trans f2,x,rfl,rfl,by simp only;omega,by simp only;omega,by omega,hx2,hfin⟩
    ·have kD:¬(0:Int)<D:=by omega
     simp[H'J,Zcu,Zcv,Zcw,Zcz,ZcA,ZcB,t0,t3,t4,t5,C'F C,hd,c1',wD,k4,kD,hD0,hw1,w1,w2,w3,hpk2,hro];exact⟨m,by omega,_,d2,f'.trans f2,x,rfl,rfl,by simp only;omega,by simp only;omega,by omega,hx2,hfin⟩
  ·rw[if_neg hd]at hfin;refine f'f ?_;simp[H'J,Zcu,t5,C'F C,hd,A'd]
   by_cases hz:R'.pos=R.pos
   ·rw[if_pos hz]at hfin;obtain⟨g2,hc2,d2,f2⟩:=C't C L d' hr 2 R'.pos;have hc2':c 67 [Value.pointer (some ⟨r,0,none⟩),.int .i64 2,.int .i64 R'.pos] g=some (.tuple #[],g2):=hc2;have kz:((R'.pos:Int)==(R.pos:Int))=true:=by simp;omega
    refine f'f ?_;simp[ZcC,ZcD,ZcE,t0,t3,t4,c1',kz,hc2',<-hfin,d2,f'.trans f2]
   ·rw[if_neg hz]at hfin;have kz:((R'.pos:Int)==(R.pos:Int))=false:=by simp;omega
    refine f'f ?_;simp[ZcC,ZcD,ZcE,t0,t3,t4,c1',kz,<-hfin,d',f']
 obtain⟨v,h',h1,rfl,h2,h3⟩:=key;exact⟨h',h1,h2,h3⟩
end
end Go.Proofs.YtimdkminagnhgabGreatDoor
namespace Go.Proofs.YtimdkminagnhgabGreatDoor
open Go.Vm Go.Proofs
set_option maxHeartbeats 1000000
section
variable {H:Type}{O:HI H}{ro:Nat}{c:A'X H}
attribute [local simp] A'b A'c reg to too A'a A'n A'i mv' nl' fl' ld' ln' mk' ia' ik' ix' B'C B'D aLd A'5 A'q A'7 A'3 A'2 aUn unA ev A'k isB A'Z C'f cIf A'y A'f A'g A'L A'h rvE B'j aSt A'6 Value.cells B'f A'l Instr.fill A'e A'r A'z A's ptr undef B'o B'r A'j
theorem Rd.new (L:O.Law){h:H}{r:Nat}{s:ByteArray}{R:RS}(d:Rd O h r s R)(cs:List Value): Rd O (O.new h cs) r s R:=d.fr L (Fr.new (S:=[]) L cs) (by simp)
theorem D't (R:RS)(e p:Nat): (fl R e p).pos=R.pos:=by unfold fl;split <;> rfl
theorem B'M {s:ByteArray}{R:RS}(b:Nat)(h:R.pos<=s.size): (exS s R b).pos<=s.size:=by
 unfold exS;split
 ·rename_i hb
  have:=F'J (s:=s) (R:=R) (by omega);simp only;omega
 ·rw[D't];exact h
theorem K'v {s:ByteArray}: ∀(n st:Nat)(R:RS) (v:Nat),R.pos<=s.size->(numL n s st R v).2.pos<=s.size:=by
 intro n
 induction n with
 | zero=>intro st R v h;exact h
 | succ n ih=>
  intro st R v h;simp only[numL];split
  ·rename_i hd
   have hd':48<=pk s R:=by simp[I'J]at hd;omega
   have:=F'J (s:=s) (R:=R) (by omega);split
   ·simp only[D't];exact h
   ·exact ih _ _ _ (by simp only;omega)
  ·simp only;split
   ·rw[D't];exact h
   ·exact h
theorem F'f {s:ByteArray}{R:RS}(h:R.pos<=s.size): (E'i s R).2.pos<=s.size:=K'v _ _ _ _ h
theorem M'Z {s:ByteArray}: ∀(n st:Nat)(R:RS) (v:Nat),st<=R.pos->R.pos+n=st+5->v<10^(R.pos-st)->(numL n s st R v).1<10000:=by
 intro n
 induction n with
 | zero=>intro st R v _ _ _;simp[numL]
 | succ n ih=>
  intro st R v h1 h2 hv;have hv4:v<10000:=Nat.lt_of_lt_of_le hv (Nat.pow_le_pow_right (n:=10) (by omega) (show R.pos-st<=4 by omega));simp only[numL];split
  ·rename_i hd
   have hd':48<=pk s R∧pk s R<=57:=by simpa [I'J]using hd
   split
   ·simp
   ·refine ih _ _ _ (by simp only;omega) (by simp only;omega) ?_;simp only;rw[show R.pos+1-st=(R.pos-st)+1 by omega,Nat.pow_succ];omega
  ·exact hv4
theorem G'w (s:ByteArray)(R:RS): (E'i s R).1<10000:=M'Z _ _ _ _ (l'H _) rfl (by simp)
def hdL: Nat->ByteArray->Nat->RS->List Nat->List Nat×RS
 | 0,_,_,R,ns=>(ns,R)
 | n+1,s,k,R,ns=>
  if 5<=k∧pk s R≠32 then (ns,R)
  else
   let q:=E'i s (exS s R 32)
   hdL n s (k+1) q.2 (ns.set k q.1)
def P'f (s:ByteArray)(R:RS): Bool×RS:=
 let R1:=exS s R 97
 if pk s R1=105 then (true,exS s ⟨R1.pos+1,R1.e,R1.ep⟩ 103) else (false,exS s (exS s R1 97) 103)
def hdS (s:ByteArray)(R:RS): Bool×List Nat×RS:=
 let a:=P'f s R
 let q:=hdL 9 s 0 a.2 [0,0,0,0,0,0,0,0,0]
 (a.1,q.1,exS s q.2 10)
def hdV (b:Bool)(ns:List Nat): Value:=
 .agg #[.bool b,.int .i64 (ns.getD 0 0),.int .i64 (ns.getD 1 0),.int .i64 (ns.getD 2 0),.int .i64 (ns.getD 3 0),.int .i64 (ns.getD 4 0),.int .i64 (ns.getD 5 0),.int .i64 ((ns.getD 6 0+ns.getD 7 0+ns.getD 8 0:Nat):Int)]
structure HI9 (O:HI H) (r:Nat)(s:ByteArray) (b2 b4:Nat)(bn:Bool)(h0:H)(F:List Nat×RS) (n:Nat)(t:Env)(g:H):Prop where
 ex:∃(k:Nat)(R:RS)(ns:List Nat),Rd O g r s R∧Fr O [r,b4] h0 g∧R.pos<=s.size∧k+n=9∧t 5 = .int .i64 k∧ns.length=9∧(∀x∈ns,x<10000)∧(∀i,i<9->O.cell g b4 i=some (.int .i64 (ns.getD i 0)))∧hdL n s k R ns=F
 t0:t 0=ptr r
 t4:t 4=ptr b4
 t2:t 2=ptr b2
 t3:t 3 = .bool bn
theorem R'e (h:H)(b:Nat): B'1 Tryz.prog O 73 (.pointer (some ⟨b,0,none⟩)) h=(cellsA O h b 0 8).map λl=>.agg l.toArray:=by
 have hi:(Tryz.prog.info? 73).map (·.size)=some 8:=by kernel_rfl
 cases hx:Tryz.prog.info? 73 with
 | none=>rw[hx]at hi;simp at hi
 | some i=>
  rw[hx]at hi;simp only[l'l,l'a]at hi;simp only[B'1,Tryz.underlying73,hx,hi]
theorem M'0 (ns:List Nat)(k v i:Nat)(hk:k<ns.length): (ns.set k v).getD i 0=if i=k then v else ns.getD i 0:=by
 simp only[l'r,List.getElem?_set]
 by_cases e:k=i
 ·subst e;simp[hk]
 ·rw[if_neg e,if_neg (λx=>e x.symm)]
theorem K'w (C:LP' O ro c)(L:O.Law){r:Nat}{s:ByteArray}{b2 b4:Nat}{bn:Bool}{h0:H}{F:List Nat×RS}(hr:ro<=r)(hb4:ro<=b4)(hne:r≠b4)(hs:s.size<=1000){Q:Exit->Env->H->Prop}
  (hQ:∀t g R ns,Rd O g r s R->Fr O [r,b4] h0 g->R.pos<=s.size->ns.length=9->(∀x∈ns,x<10000)->(∀i,i<9->O.cell g b4 i=some (.int .i64 (ns.getD i 0)))->F=(ns,R)->t 0=ptr r->t 4=ptr b4->t 2=ptr b2->t 3 = .bool bn->Q (.exit 0) t g)
  (n : Nat)(t : Env)(g : H)(hI : HI9 O r s b2 b4 bn h0 F n t g):
  okE c (G'r O Tryz.prog ro) (t,g) (λe t' h'=>(e = .normal∧∃n',n'<n∧HI9 O r s b2 b4 bn h0 F n' t' h')∨(e≠.normal∧Q e t' h')):=by
 obtain⟨⟨k,R,ns,d,f,hp,hkn,t5,hlen,hsm,hcell,hF⟩,t0,t4,t2,t3⟩:=hI;have hrob:¬b4<ro:=by omega
 unfold ptr at t0 t4 t2
 by_cases hk:k<9
 ·obtain⟨m,rfl⟩:∃m,n=m+1:=⟨n-1,by omega⟩;have kk:(k:Int)<9:=by omega
  simp only[hdL]at hF;have hpk:=E'g C d hs
  by_cases hbr:5<=k∧pk s R≠32
  ·rw[if_pos hbr]at hF;have k5:(5:Int)<=(k:Int):=by omega
   have kp:(pk s R != 32)=true:=by simpa using hbr.2
   have:=hQ;refine f'f ?_;unfold ptr at hpk;simp[G'r,Zaz,ZaA,t0,t4,t5,hk,kk,hbr.1,k5,hpk,kp];exact hQ _ _ R ns d f hp hlen hsm hcell hF.symm (by simp[t0]) (by simp[t4]) (by simp[t2]) (by simp[t3])
  ·rw[if_neg hbr]at hF;obtain⟨g1,hc1,d1,f1⟩:=C'k C L d hr hs 32;have hp1:=B'M (s:=s) (R:=R) 32 hp;obtain⟨g2,hc2,d2,f2⟩:=L'T C L d1 hr hs hp1;have hp2:=F'f hp1;have hle:=G'w s (exS s R 32);generalize E'i s (exS s R 32)=q at hc2 d2 hp2 hle hF;have hlt:b4<O.next g:=L.alive_lt _ _ (L.cell_alive _ _ _ _ (hcell 0 (by omega)))
   have hc2b:O.cell g2 b4 k=some (.int .i64 (ns.getD k 0)):=by
    rw[((f1.trans f2).2 b4 hlt (by simp;exact λe=>hne e.symm)).1];exact hcell k hk
   have hcells:∀i,i<9->O.cell (O.put g2 b4 k (.int .i64 q.1)) b4 i=some (.int .i64 ((ns.set k q.1).getD i 0)):=by
    intro i hi;rw[L.cell_put _ _ _ _ _ hc2b,M'0 ns k q.1 i (by omega)]
    by_cases e:i=k
    ·simp[e]
    ·rw[if_neg (λx=>e x.2),if_neg e,((f1.trans f2).2 b4 hlt (by simp;exact λe=>hne e.symm)).1];exact hcell i hi
   have d3:Rd O (O.put g2 b4 k (.int .i64 q.1)) r s q.2:=d2.fr L (Fr.put (S:=[b4]) L (by simp) hc2b) (by simpa using hne);have f3:Fr O [r,b4] h0 (O.put g2 b4 k (.int .i64 q.1)):=(f.trans ((f1.trans f2).mono (by simp))).trans (Fr.put L (by simp) hc2b);obtain⟨q1,hq1⟩:=e' (k+1);have hw:IntKind.i64.wrap ((k:Int)+1)=(q1:Int):=w'i;have hc1':c 63 [Value.pointer (some ⟨r,0,none⟩),.int .i64 32] g=some (.tuple #[],g1):=hc1;unfold ptr at hc2 hpk;have hnew:∀t':Env,t' 0 = .pointer (some ⟨r,0,none⟩)->t' 4 = .pointer (some ⟨b4,0,none⟩)->t' 2 = .pointer (some ⟨b2,0,none⟩)->t' 3 = .bool bn->t' 5 = .int .i64 (q1:Int)->∃n',n'<m+1∧HI9 O r s b2 b4 bn h0 F n' t' (O.put g2 b4 k (.int .i64 q.1)):=
    λt' e0 e4 e2 e3 e5=>⟨m,by omega,⟨⟨q1,q.2,ns.set k q.1,d3,f3,hp2,by omega,e5,by simp[hlen],λx hx=>by
     rcases List.mem_or_eq_of_mem_set hx with h|h
     ·exact hsm x h
     ·rw[h];exact hle,hcells,by rw[hq1];exact hF⟩,e0,e4,e2,e3⟩⟩
   refine f'f ?_
   by_cases h5:5<=k
   ·have k5:(5:Int)<=(k:Int):=by omega
    have kp:(pk s R != 32)=false:=by
     have:pk s R=32:=Classical.byContradiction λx=>hbr ⟨h5,x⟩;simpa using this
    simp[G'r,Zaz,ZaA,ZaB,ZaC,ZaD,t0,t4,t5,hk,kk,h5,k5,hpk,kp,hc1',hc2,hrob,hc2b,hw];exact hnew _ (by simp[t0]) (by simp[t4]) (by simp[t2]) (by simp[t3]) (by simp)
   ·have k5:¬(5:Int)<=(k:Int):=by omega
    simp[G'r,Zaz,ZaA,ZaB,ZaC,ZaD,t0,t4,t5,hk,kk,h5,k5,hc1',hc2,hrob,hc2b,hw];exact hnew _ (by simp[t0]) (by simp[t4]) (by simp[t2]) (by simp[t3]) (by simp)
 ·have hn0:n=0:=by omega
  subst hn0;have kk:¬(k:Int)<9:=by omega
  simp only[hdL]at hF;refine f'f ?_;simp[G'r,Zaz,t5,hk,kk];exact hQ _ _ R ns d f hp hlen hsm hcell hF.symm (by simp[t0]) (by simp[t4]) (by simp[t2]) (by simp[t3])
theorem C'u {ns:List Nat}(h:∀x∈ns,x<10000)(i:Nat): ns.getD i 0<10000:=by
 rw[l'r]
 cases hx:ns[i]? with
 | none=>simp
 | some v=>simpa using h v (l'f hx)
theorem R'f (C:LP' O ro c)(L:O.Law){h:H}{r:Nat}{s:ByteArray}{R:RS}(d:Rd O h r s R)(hr:ro<=r)(hro:ro<=O.next h)(hs:s.size<=1000)(hp:R.pos<=s.size):
  ∃h',c 33 [ptr r] h=some (hdV (hdS s R).1 (hdS s R).2.1,h')∧Rd O h' r s (hdS s R).2.2∧Fr O [r] h h'∧(hdS s R).2.2.pos<=s.size∧(hdS s R).2.1.length=9∧(∀x∈(hdS s R).2.1,x<10000):=by
 obtain⟨b2,hb2⟩:=e' (O.next h);obtain⟨h1,hh1⟩:=e' (O.new h [.bool false,.int .i64 0,.int .i64 0,.int .i64 0,.int .i64 0,.int .i64 0,.int .i64 0,.int .i64 0]);have d1:Rd O h1 r s R:=by rw[hh1];exact d.new L _
 have f1:Fr O [r] h h1:=by rw[hh1];exact Fr.new L _
 have n1:O.next h1=b2+1:=by rw[hh1,L.next_new,hb2]
 have z1:∀i,i<8->∃v,O.cell h1 b2 i=some v:=by
  intro i hi;rw[hh1,L.cell_new,if_pos hb2]
  match i,hi with
  | 0,_=>exact⟨_,rfl⟩
  | 1,_=>exact⟨_,rfl⟩
  | 2,_=>exact⟨_,rfl⟩
  | 3,_=>exact⟨_,rfl⟩
  | 4,_=>exact⟨_,rfl⟩
  | 5,_=>exact⟨_,rfl⟩
  | 6,_=>exact⟨_,rfl⟩
  | 7,_=>exact⟨_,rfl⟩
 obtain⟨h2,hc2,d2,f2⟩:=C'k C L d1 hr hs 97;have p2:=B'M (s:=s) (R:=R) 97 hp;obtain⟨h3,hc3,d3,f3⟩:=G'v C L d2 hr hs 105;have hrlt:=d.lt L;have tail:∀(bn:Bool)(R5:RS)(h5:H)(t:Env),Rd O h5 r s R5->Fr O [r] h1 h5->R5.pos<=s.size->t 0=ptr r->t 2=ptr b2->t 3 = .bool bn->(hdS s R=(bn,(hdL 9 s 0 R5 [0,0,0,0,0,0,0,0,0]).1,exS s (hdL 9 s 0 R5 [0,0,0,0,0,0,0,0,0]).2 10)) ->
   okE c (A'b (A'c (Zax O)) (A'b (A'b (A'c Zay) (A'z 0 (A'1 (G'r O Tryz.prog ro)))) (A'b (A'c ZaE) (A'b (A'c (ZaF O ro)) A'y)))) (t,h5)
    (fun e t h' => (e = .ret ∨ e = .normal) ∧ ∃ v, A'L O Tryz.prog [ResultVar.cell 2 73] t h' = some v ∧ (v = hdV (hdS s R).1 (hdS s R).2.1 ∧ Rd O h' r s (hdS s R).2.2 ∧ Fr O [r] h h' ∧ (hdS s R).2.2.pos ≤ s.size ∧ (hdS s R).2.1.length = 9 ∧ (∀ x ∈ (hdS s R).2.1, x < 10000))) := by
  intro bn R5 h5 t d5 f5 p5 t0 t2 t3 hfin;obtain⟨b4,hb4⟩:=e' (O.next h5);obtain⟨h6,hh6⟩:=e' (O.new h5 [.int .i64 0,.int .i64 0,.int .i64 0,.int .i64 0,.int .i64 0,.int .i64 0,.int .i64 0,.int .i64 0,.int .i64 0]);have d6:Rd O h6 r s R5:=by rw[hh6];exact d5.new L _
  have f6:Fr O [] h5 h6:=by rw[hh6];exact Fr.new L _
  have lt5:O.next h1<=O.next h5:=f5.1
  have hrb:r≠b4:=by omega
  have z6:∀i,i<9->O.cell h6 b4 i=some (.int .i64 (([0,0,0,0,0,0,0,0,0]:List Nat).getD i 0)):=by
   intro i hi;rw[hh6,L.cell_new,if_pos hb4]
   match i,hi with
   | 0,_=>rfl
   | 1,_=>rfl
   | 2,_=>rfl
   | 3,_=>rfl
   | 4,_=>rfl
   | 5,_=>rfl
   | 6,_=>rfl
   | 7,_=>rfl
   | 8,_=>rfl
  refine s'f ?_;simp[Zax,A'd,<-hb4,<-hh6];refine okE.seq (s'f ?_);simp[Zay,A'd];refine okE.blk ?_;refine okE.loop (HI9 O r s b2 b4 bn h6 (hdL 9 s 0 R5 [0,0,0,0,0,0,0,0,0])) (K'w C L hr (by omega) hrb hs ?_) 9 _ _ ⟨⟨0,R5,_,d6,Fr.refl _ _,p5,rfl,by simp,rfl,by simp,z6,rfl⟩,by simp[t0],by simp,by simp[t2],by simp[t3]⟩;intro t' g R7 ns d7 f7 p7 hlen hsm hcell hF q0 q4 q2 q3;unfold ptr at q0 q4 q2;rw[hF]at hfin;simp only at hfin;simp only[A's,A'd,if_true];obtain⟨g8,hc8,d8,f8⟩:=C'k C L d7 hr hs 10;have p8:=B'M (s:=s) (R:=R7) 10 p7;have hc8':c 63 [Value.pointer (some ⟨r,0,none⟩),.int .i64 10] g=some (.tuple #[],g8):=hc8;have lt6:O.next h5+1<=O.next g:=by have:=f7.1;rw[hh6,L.next_new]at this;exact this
  have hb4g:b4<O.next g:=by omega
  have cell8:∀i,i<9->O.cell g8 b4 i=some (.int .i64 (ns.getD i 0)):=λi hi=>by
   rw[(f8.2 b4 hb4g (by simp;exact λe=>hrb e.symm)).1];exact hcell i hi
  have fz:Fr O [r,b4] h1 g8:=((f5.mono (by simp)).trans (f6.mono (by simp))).trans (f7.trans (f8.mono (by simp)));have hb21:b2<O.next h1:=by omega
  have hb2r:b2≠r:=by omega
  have hb24:b2≠b4:=by omega
  have z8:∀i,i<8->∃v,O.cell g8 b2 i=some v:=λi hi=>by
   obtain⟨v,hv⟩:=z1 i hi;exact⟨v,by rw[(fz.2 b2 hb21 (by simp;exact⟨hb2r,hb24⟩)).1];exact hv⟩
  have stores:∀(l:List Value) (o:Nat)(w:H),o+l.length=8->(∀i,i<8->∃v,O.cell w b2 i=some v)->∃w',A'6 O w b2 o l=some w'∧(∀i,i<8->O.cell w' b2 i=if o<=i then l[i-o]? else O.cell w b2 i)∧Fr O [b2] w w':=by
   intro l
   induction l with
   | nil=>intro o w ho hz;exact⟨w,rfl,λi hi=>by rw[if_neg (by simp at ho;omega)],Fr.refl _ _⟩
   | cons v l ih=>
    intro o w ho hz;simp only[l'n]at ho;obtain⟨x,hx⟩:=hz o (by omega);obtain⟨w',e1,e2,e3⟩:=ih (o+1) (O.put w b2 o v) (by omega) (λi hi=>by
     rw[L.cell_put _ _ _ _ _ hx]
     by_cases e:i=o
     ·exact⟨v,by simp[e]⟩
     ·rw[if_neg (λy=>e y.2)];exact hz i hi)
    refine⟨w',by simp only[A'6,hx];exact e1,λi hi=>?_,(Fr.put L (by simp) hx).trans e3⟩;rw[e2 i hi]
    by_cases e:i=o
    ·subst e;rw[if_neg (by omega),L.cell_put _ _ _ _ _ hx];simp
    ·by_cases e':o+1<=i
     ·rw[if_pos e',if_pos (by omega),show i-o=(i-(o+1))+1 by omega];simp
     ·rw[if_neg e',if_neg (by omega),L.cell_put _ _ _ _ _ hx,if_neg (λy=>e y.2)]
  have ht:=λi=>C'u hsm i;have h67:=ht 6;have h77:=ht 7;have h87:=ht 8;have w1:IntKind.i64.wrap ((ns.getD 6 0:Nat)+(ns.getD 7 0:Nat):Int)=(ns.getD 6 0:Nat)+(ns.getD 7 0:Nat):=w'j;obtain⟨sm,hsm2⟩:=e' (ns.getD 6 0+ns.getD 7 0+ns.getD 8 0);have w2:IntKind.i64.wrap ((ns.getD 6 0:Nat)+(ns.getD 7 0:Nat)+(ns.getD 8 0:Nat):Int)=(sm:Int):=w'i;obtain⟨w',hput,hget,hfr⟩:=stores [.bool bn,.int .i64 (ns.getD 0 0),.int .i64 (ns.getD 1 0),.int .i64 (ns.getD 2 0),.int .i64 (ns.getD 3 0),.int .i64 (ns.getD 4 0),.int .i64 (ns.getD 5 0),.int .i64 sm] 0 g8 rfl z8;have c80:=cell8 0 (by omega);have c81:=cell8 1 (by omega);have c82:=cell8 2 (by omega);have c83:=cell8 3 (by omega);have c84:=cell8 4 (by omega);have c85:=cell8 5 (by omega);have c86:=cell8 6 (by omega);have c87:=cell8 7 (by omega);have c88:=cell8 8 (by omega);have hro2:¬b2<ro:=by omega
  have hcl:cellsA O w' b2 0 8=some [.bool bn,.int .i64 (ns.getD 0 0),.int .i64 (ns.getD 1 0),.int .i64 (ns.getD 2 0),.int .i64 (ns.getD 3 0),.int .i64 (ns.getD 4 0),.int .i64 (ns.getD 5 0),.int .i64 sm]:=by
   simp only[cellsA,hget 0 (by omega),hget 1 (by omega),hget 2 (by omega),hget 3 (by omega),hget 4 (by omega),hget 5 (by omega),hget 6 (by omega),hget 7 (by omega)];rfl
  have d9:Rd O w' r s (exS s R7 10):=d8.fr L hfr (by simpa using λe=>hb2r e.symm);have f9:Fr O [r] h w':=by
   refine⟨by have:=f1.1;have:=fz.1;have:=hfr.1;omega,λx hx hxs=>?_⟩;have a1:=f1.2 x hx hxs;have a2:=fz.2 x (by omega) (by simp at hxs ⊢;exact⟨hxs,by omega⟩);have a3:=hfr.2 x (by have:=fz.1;omega) (by simp;omega);exact⟨λo=>((a3.1 o).trans (a2.1 o)).trans (a1.1 o),(a3.2.trans a2.2).trans a1.2⟩
  have fin:(hdV bn ns=hdV (hdS s R).1 (hdS s R).2.1∧Rd O w' r s (hdS s R).2.2∧Fr O [r] h w'∧(hdS s R).2.2.pos<=s.size∧(hdS s R).2.1.length=9∧(∀x∈(hdS s R).2.1,x<10000)):=by
   rw[hfin];exact⟨rfl,d9,f9,p8,hlen,hsm⟩
  have hv:hdV bn ns = .agg #[.bool bn,.int .i64 (ns.getD 0 0),.int .i64 (ns.getD 1 0),.int .i64 (ns.getD 2 0),.int .i64 (ns.getD 3 0),.int .i64 (ns.getD 4 0),.int .i64 (ns.getD 5 0),.int .i64 sm]:=by rw[hsm2];rfl
  rw[hv]at fin;generalize (hdS s R).1=y1 at *;generalize (hdS s R).2.1=y2 at *;generalize (hdS s R).2.2=y3 at *;generalize ns.getD 0 0=a0 at *;generalize ns.getD 1 0=a1 at *;generalize ns.getD 2 0=a2 at *;generalize ns.getD 3 0=a3 at *;generalize ns.getD 4 0=a4 at *;generalize ns.getD 5 0=a5 at *;generalize ns.getD 6 0=a6 at *;generalize ns.getD 7 0=a7 at *;generalize ns.getD 8 0=a8 at *;refine f'f ?_;simp[ZaE,ZaF,q0,q4,q2,q3,hc8',c80,c81,c82,c83,c84,c85,c86,c87,c88,w1,w2,hput,hro2,R'e,hcl,List.zipIdx,-A'6];exact fin
 have key:∃v h',c 33 [ptr r] h=some (v,h')∧(v=hdV (hdS s R).1 (hdS s R).2.1∧Rd O h' r s (hdS s R).2.2∧Fr O [r] h h'∧(hdS s R).2.2.pos<=s.size∧(hdS s R).2.1.length=9∧(∀x∈(hdS s R).2.1,x<10000)):=by
  refine C.fn (O'P O ro) rfl rfl ?_;unfold F33;have hc2':c 63 [Value.pointer (some ⟨r,0,none⟩),.int .i64 97] h1=some (.tuple #[],h2):=hc2;have hc3':c 64 [Value.pointer (some ⟨r,0,none⟩),.int .i64 105] h2=some (.bool (decide (pk s (exS s R 97)=105)),h3):=hc3;refine s'f ?_;simp[Zar,A'd,<-hb2,<-hh1,-A'L,-A'h,-rvE];refine s'f ?_;simp[Zas,A'd,hc2',-A'L,-A'h,-rvE];refine s'f ?_;simp[Zat,A'd,hc3',-A'L,-A'h,-rvE]
  by_cases hbn:pk s (exS s R 97)=105
  ·have d3':Rd O h3 r s ⟨(exS s R 97).pos+1,(exS s R 97).e,(exS s R 97).ep⟩:=by simpa [hbn]using d3
   have hpl:=F'J (s:=s) (R:=exS s R 97) (by omega);obtain⟨h5,hc5,d5,f5⟩:=C'k C L d3' hr hs 103;have p5:=B'M (s:=s) (R:=⟨(exS s R 97).pos+1,(exS s R 97).e,(exS s R 97).ep⟩) 103 (by simp only;omega);have hc5':c 63 [Value.pointer (some ⟨r,0,none⟩),.int .i64 103] h3=some (.tuple #[],h5):=hc5;refine s'f ?_;simp[Zau,hbn,A'd,-A'L,-A'h,-rvE];refine s'f ?_;simp[Zaw,hc5',A'd,-A'L,-A'h,-rvE];exact tail true _ h5 _ d5 ((f2.trans f3).trans f5) p5 (by simp) (by simp) (by simp) (by simp[hdS,P'f,hbn])
  ·have d3':Rd O h3 r s (exS s R 97):=by simpa [hbn]using d3
   obtain⟨h4,hc4,d4,f4⟩:=C'k C L d3' hr hs 97;have p4:=B'M (s:=s) (R:=exS s R 97) 97 p2;obtain⟨h5,hc5,d5,f5⟩:=C'k C L d4 hr hs 103;have p5:=B'M (s:=s) (R:=exS s (exS s R 97) 97) 103 p4;have hc4':c 63 [Value.pointer (some ⟨r,0,none⟩),.int .i64 97] h3=some (.tuple #[],h4):=hc4;have hc5':c 63 [Value.pointer (some ⟨r,0,none⟩),.int .i64 103] h4=some (.tuple #[],h5):=hc5;refine s'f ?_;simp[Zau,Zav,hbn,hc4',A'd,-A'L,-A'h,-rvE];refine s'f ?_;simp[Zaw,hc5',A'd,-A'L,-A'h,-rvE];exact tail false _ h5 _ d5 (((f2.trans f3).trans f4).trans f5) p5 (by simp) (by simp) (by simp) (by simp[hdS,P'f,hbn])
 obtain⟨v,h',e1,rfl,e2⟩:=key;exact⟨h',e1,e2⟩
end
end Go.Proofs.YtimdkminagnhgabGreatDoor
namespace Go.Proofs.YtimdkminagnhgabGreatDoor
open Go.Vm Go.Proofs
set_option maxHeartbeats 1000000
section
variable {H:Type}{O:HI H}{ro:Nat}{c:A'X H}
attribute [local simp] A'b A'c reg to too A'a A'n A'i mv' nl' fl' ld' ln' mk' ia' ik' ix' B'C B'D aLd A'5 A'q A'7 A'3 A'2 aUn unA ev A'k isB A'Z C'f cIf A'y A'f A'g A'L A'h rvE B'j aSt A'6 Value.cells B'f A'l Instr.fill A'e A'r A'z A's ptr undef B'o B'r A'j
structure HD where
 bin:Bool
 top:Nat
 nin:Nat
 nla:Nat
 nou:Nat
 nan:Nat
 nbs:Nat
 oth:Nat
def HD.val (d:HD): Value:=.agg #[.bool d.bin,.int .i64 d.top,.int .i64 d.nin,.int .i64 d.nla,.int .i64 d.nou,.int .i64 d.nan,.int .i64 d.nbs,.int .i64 d.oth]
structure HB (O:HI H)(h:H) (b:Nat)(d:HD):Prop where
 c0:O.cell h b 0=some (.bool d.bin)
 c1:O.cell h b 1=some (.int .i64 d.top)
 c2:O.cell h b 2=some (.int .i64 d.nin)
 c3:O.cell h b 3=some (.int .i64 d.nla)
 c4:O.cell h b 4=some (.int .i64 d.nou)
 c5:O.cell h b 5=some (.int .i64 d.nan)
 c6:O.cell h b 6=some (.int .i64 d.nbs)
 c7:O.cell h b 7=some (.int .i64 d.oth)
theorem HB.lt (L:O.Law){h:H}{b:Nat}{d:HD}(x:HB O h b d): b<O.next h:=L.alive_lt _ _ (L.cell_alive _ _ _ _ x.c0)
theorem HB.fr (L:O.Law){S:List Nat}{h h':H}{b:Nat}{d:HD}(x:HB O h b d)(f:Fr O S h h')(hb:b∉S): HB O h' b d:=by
 have:=(f.2 b (x.lt L) hb).1;exact⟨by rw[this];exact x.c0,by rw[this];exact x.c1,by rw[this];exact x.c2,by rw[this];exact x.c3,by rw[this];exact x.c4,by rw[this];exact x.c5,by rw[this];exact x.c6,by rw[this];exact x.c7⟩
theorem HB.box (L:O.Law)(h:H)(d:HD): HB O (O.new h d.val.cells.toList) (O.next h) d:=by
 constructor <;> rw[L.cell_new,if_pos rfl] <;> rfl
def jd1 (d:HD)(R:RS): RS:=if 80<d.top∨4<d.nin∨6<d.nla∨4<d.nou∨60<d.nan then fl R 3 0 else R
def jd2 (d:HD)(R:RS): RS:=if d.top<d.nin+d.nla+d.nan∨(d.bin=true∧d.nin+d.nla+d.nan≠d.top) then fl R 4 0 else R
def jd3 (d:HD)(R:RS): RS:=if d.oth≠0 then fl R 5 0 else R
def jd4 (d:HD)(R:RS): RS:=if 1<d.nbs∨(d.nbs=0∧d.nou≠1) then fl R 6 0 else R
def jdS (d:HD)(R:RS): RS:=jd4 d (jd3 d (jd2 d (jd1 d R)))
structure HD.Ok (D:HD):Prop where
 ok1:D.top<10000
 ok2:D.nin<10000
 ok3:D.nla<10000
 ok4:D.nou<10000
 ok5:D.nan<10000
 ok6:D.nbs<10000
 ok7:D.oth<30000
theorem P'g (C:LP' O ro c)(L:O.Law){h:H}{r b:Nat}{s:ByteArray}{R:RS}{D:HD}(d:Rd O h r s R)(x:HB O h b D)(hr:ro<=r)(hne:b≠r){t:Env}(t1:t 1=ptr r)(t2:t 2=ptr b):
  okE c (A'b (A'c (ZaH O)) (cIf (.tmp 27) (A'c ZaI) A'f)) (t,h) (λe t' h'=>e = .normal∧t' 1=ptr r∧t' 2=ptr b∧Rd O h' r s (jd1 D R)∧HB O h' b D∧Fr O [r] h h'):=by
 unfold ptr at t1 t2;obtain⟨x0,x1,x2,x3,x4,x5,x6,x7⟩:=id x
 by_cases hbad:80<D.top∨4<D.nin∨6<D.nla∨4<D.nou∨60<D.nan
 ·obtain⟨h2,hc2,d2,f2⟩:=C't C L d hr 3 0;have hc2':c 67 [Value.pointer (some ⟨r,0,none⟩),.int .i64 3,.int .i64 0] h=some (.tuple #[],h2):=hc2;have x2':=x.fr L f2 (by simpa using hne);have fin:Rd O h2 r s (jd1 D R):=by unfold jd1;rw[if_pos hbad];exact d2
  refine f'f ?_
  by_cases k1:80<D.top
  ·have k1':(80:Int)<D.top:=by omega
   simp[ZaH,ZaI,t1,t2,x1,x2,x3,x4,x5,k1,k1',hc2',fin,x2',f2]
  ·have k1':¬(80:Int)<D.top:=by omega
   by_cases k2:4<D.nin
   ·have k2':(4:Int)<D.nin:=by omega
    simp[ZaH,ZaI,t1,t2,x1,x2,x3,x4,x5,k1,k1',k2,k2',hc2',fin,x2',f2]
   ·have k2':¬(4:Int)<D.nin:=by omega
    by_cases k3:6<D.nla
    ·have k3':(6:Int)<D.nla:=by omega
     simp[ZaH,ZaI,t1,t2,x1,x2,x3,x4,x5,k1,k1',k2,k2',k3,k3',hc2',fin,x2',f2]
    ·have k3':¬(6:Int)<D.nla:=by omega
     by_cases k4:4<D.nou
     ·have k4':(4:Int)<D.nou:=by omega
      simp[ZaH,ZaI,t1,t2,x1,x2,x3,x4,x5,k1,k1',k2,k2',k3,k3',k4,k4',hc2',fin,x2',f2]
     ·have k4':¬(4:Int)<D.nou:=by omega
      have k5:60<D.nan:=by omega
      have k5':(60:Int)<D.nan:=by omega
      simp[ZaH,ZaI,t1,t2,x1,x2,x3,x4,x5,k1,k1',k2,k2',k3,k3',k4,k4',k5,k5',hc2',fin,x2',f2]
 ·have fin:Rd O h r s (jd1 D R):=by unfold jd1;rw[if_neg hbad];exact d
  have k1:¬80<D.top:=by omega
  have k2:¬4<D.nin:=by omega
  have k3:¬6<D.nla:=by omega
  have k4:¬4<D.nou:=by omega
  have k5:¬60<D.nan:=by omega
  have k1':¬(80:Int)<D.top:=by omega
  have k2':¬(4:Int)<D.nin:=by omega
  have k3':¬(6:Int)<D.nla:=by omega
  have k4':¬(4:Int)<D.nou:=by omega
  have k5':¬(60:Int)<D.nan:=by omega
  refine f'f ?_;simp[ZaH,ZaI,t1,t2,x1,x2,x3,x4,x5,k1,k1',k2,k2',k3,k3',k4,k4',k5,k5',fin,x,Fr.refl]
theorem P'h (C:LP' O ro c)(L:O.Law){h:H}{r b:Nat}{s:ByteArray}{R:RS}{D:HD}(ok:D.Ok)(d:Rd O h r s R)(x:HB O h b D)(hr:ro<=r)(hne:b≠r){t:Env}(t1:t 1=ptr r)(t2:t 2=ptr b):
  okE c (A'b (A'c (ZaJ O)) (A'b (A'c (ZaK O)) (cIf (.tmp 51) (A'c ZaL) A'f))) (t,h) (λe t' h'=>e = .normal∧t' 1=ptr r∧t' 2=ptr b∧Rd O h' r s (jd2 D R)∧HB O h' b D∧Fr O [r] h h'):=by
 unfold ptr at t1 t2;obtain⟨x0,x1,x2,x3,x4,x5,x6,x7⟩:=id x;obtain⟨o1,o2,o3,o4,o5,o6,o7⟩:=ok;obtain⟨nm,hnm⟩:=e' (D.nin+D.nla+D.nan);have w1:IntKind.i64.wrap ((D.nin:Int)+D.nla)=(D.nin:Int)+D.nla:=w'j;have w2:IntKind.i64.wrap ((D.nin:Int)+D.nla+D.nan)=(nm:Int):=w'i
 by_cases hbad:D.top<nm∨(D.bin=true∧nm≠D.top)
 ·obtain⟨h2,hc2,d2,f2⟩:=C't C L d hr 4 0;have hc2':c 67 [Value.pointer (some ⟨r,0,none⟩),.int .i64 4,.int .i64 0] h=some (.tuple #[],h2):=hc2;have x2':=x.fr L f2 (by simpa using hne);have fin:Rd O h2 r s (jd2 D R):=by unfold jd2;rw[<-hnm,if_pos hbad];exact d2
  refine f'f ?_
  by_cases k1:D.top<nm
  ·have k1':(D.top:Int)<nm:=by omega
   simp[ZaJ,ZaK,ZaL,t1,t2,x0,x1,x2,x3,x5,w1,w2,k1,k1',hc2',fin,x2',f2]
  ·have k1':¬(D.top:Int)<nm:=by omega
   have kb:D.bin=true:=(hbad.resolve_left k1).1;have kn:((nm:Int) != (D.top:Int))=true:=by have:=(hbad.resolve_left k1).2;simp;omega
   simp[ZaJ,ZaK,ZaL,t1,t2,x0,x1,x2,x3,x5,w1,w2,k1,k1',kb,kn,hc2',fin,x2',f2]
 ·have fin:Rd O h r s (jd2 D R):=by unfold jd2;rw[<-hnm,if_neg hbad];exact d
  have k1:¬D.top<nm:=by omega
  have k1':¬(D.top:Int)<nm:=by omega
  refine f'f ?_
  by_cases kb:D.bin=true
  ·have kn:((nm:Int) != (D.top:Int))=false:=by
    have:nm=D.top:=Classical.byContradiction λe=>hbad (.inr ⟨kb,e⟩);simp;omega
   simp[ZaJ,ZaK,ZaL,t1,t2,x0,x1,x2,x3,x5,w1,w2,k1,k1',kb,kn,fin,x,Fr.refl]
  ·simp[ZaJ,ZaK,ZaL,t1,t2,x0,x1,x2,x3,x5,w1,w2,k1,k1',kb,fin,x,Fr.refl]
theorem P'i (C:LP' O ro c)(L:O.Law){h:H}{r b:Nat}{s:ByteArray}{R:RS}{D:HD}(d:Rd O h r s R)(x:HB O h b D)(hr:ro<=r)(hne:b≠r){t:Env}(t1:t 1=ptr r)(t2:t 2=ptr b):
  okE c (A'b (A'c (ZaM O)) (cIf (.tmp 56) (A'c ZaN) A'f)) (t,h) (λe t' h'=>e = .normal∧t' 1=ptr r∧t' 2=ptr b∧Rd O h' r s (jd3 D R)∧HB O h' b D∧Fr O [r] h h'):=by
 unfold ptr at t1 t2;obtain⟨x0,x1,x2,x3,x4,x5,x6,x7⟩:=id x
 by_cases hbad:D.oth≠0
 ·obtain⟨h2,hc2,d2,f2⟩:=C't C L d hr 5 0;have hc2':c 67 [Value.pointer (some ⟨r,0,none⟩),.int .i64 5,.int .i64 0] h=some (.tuple #[],h2):=hc2;have x2':=x.fr L f2 (by simpa using hne);have fin:Rd O h2 r s (jd3 D R):=by unfold jd3;rw[if_pos hbad];exact d2
  have k1:((D.oth:Int) != 0)=true:=by simp;omega
  refine f'f ?_;simp[ZaM,ZaN,t1,t2,x7,k1,hc2',fin,x2',f2]
 ·have fin:Rd O h r s (jd3 D R):=by unfold jd3;rw[if_neg hbad];exact d
  have k1:((D.oth:Int) != 0)=false:=by simp;omega
  refine f'f ?_;simp[ZaM,ZaN,t1,t2,x7,k1,fin,x,Fr.refl]
theorem P'j (C:LP' O ro c)(L:O.Law){h:H}{r b:Nat}{s:ByteArray}{R:RS}{D:HD}(d:Rd O h r s R)(x:HB O h b D)(hr:ro<=r)(hne:b≠r){t:Env}(t1:t 1=ptr r)(t2:t 2=ptr b):
  okE c (A'b (A'c (ZaO O)) (cIf (.tmp 71) (A'c ZaP) A'f)) (t,h) (λe t' h'=>e = .normal∧t' 1=ptr r∧t' 2=ptr b∧Rd O h' r s (jd4 D R)∧HB O h' b D∧Fr O [r] h h'):=by
 unfold ptr at t1 t2;obtain⟨x0,x1,x2,x3,x4,x5,x6,x7⟩:=id x
 by_cases hbad:1<D.nbs∨(D.nbs=0∧D.nou≠1)
 ·obtain⟨h2,hc2,d2,f2⟩:=C't C L d hr 6 0;have hc2':c 67 [Value.pointer (some ⟨r,0,none⟩),.int .i64 6,.int .i64 0] h=some (.tuple #[],h2):=hc2;have x2':=x.fr L f2 (by simpa using hne);have fin:Rd O h2 r s (jd4 D R):=by unfold jd4;rw[if_pos hbad];exact d2
  refine f'f ?_
  by_cases k1:1<D.nbs
  ·have k1':(1:Int)<D.nbs:=by omega
   simp[ZaO,ZaP,t1,t2,x6,x4,k1,k1',hc2',fin,x2',f2]
  ·have k1':¬(1:Int)<D.nbs:=by omega
   have k2:((D.nbs:Int)==0)=true:=by simp;omega
   have k3:((D.nou:Int) != 1)=true:=by simp;omega
   simp[ZaO,ZaP,t1,t2,x6,x4,k1,k1',k2,k3,hc2',fin,x2',f2]
 ·have fin:Rd O h r s (jd4 D R):=by unfold jd4;rw[if_neg hbad];exact d
  have k1:¬1<D.nbs:=by omega
  have k1':¬(1:Int)<D.nbs:=by omega
  refine f'f ?_
  by_cases k0:D.nbs=0
  ·have k2:((D.nbs:Int)==0)=true:=by simp;omega
   have k3:((D.nou:Int) != 1)=false:=by simp;omega
   simp[ZaO,ZaP,t1,t2,x6,x4,k1,k1',k2,k3,fin,x,Fr.refl]
  ·have k2:((D.nbs:Int)==0)=false:=by simp;omega
   simp[ZaO,ZaP,t1,t2,x6,x4,k1,k1',k2,fin,x,Fr.refl]
theorem K'x (C:LP' O ro c)(L:O.Law){h:H}{r:Nat}{s:ByteArray}{R:RS}{D:HD}(ok:D.Ok)(d:Rd O h r s R)(hr:ro<=r):
  ∃h',c 34 [D.val,ptr r] h=some (.tuple #[],h')∧Rd O h' r s (jdS D R)∧Fr O [r] h h':=by
 have hlt:=d.lt L;obtain⟨b,hb⟩:=e' (O.next h);obtain⟨h1,hh1⟩:=e' (O.new h D.val.cells.toList);have d1:Rd O h1 r s R:=by rw[hh1];exact d.new L _
 have f1:Fr O [r] h h1:=by rw[hh1];exact Fr.new L _
 have x1:HB O h1 b D:=by rw[hh1,hb];exact HB.box L h D
 have hne:b≠r:=by omega
 have key:∃v h',c 34 [D.val,ptr r] h=some (v,h')∧(v = .tuple #[]∧Rd O h' r s (jdS D R)∧Fr O [r] h h'):=by
  refine C.fn (O'Q O ro) rfl rfl ?_;unfold F34;refine s'f ?_;have hbox:okc (A'c (ZaG O) c 0 (A'Z [D.val,ptr r],h)) (λe t g=>e = .normal∧g=h1∧t 1=ptr r∧t 2=ptr b):=by
   have:B'j D.val=false:=rfl;simp[ZaG,this,<-hb,<-hh1,-B'j,-Value.cells]
  revert hbox;generalize A'c (ZaG O) c 0 (A'Z [D.val,ptr r],h)=q;intro hbox
  cases q with
  | none=>exact hbox.elim
  | some q=>
   obtain⟨e,t,g⟩:=q;obtain⟨rfl,rfl,t1,t2⟩:=hbox;refine okE.seq ((P'g C L d1 x1 hr hne t1 t2).mono λe t g hq=>?_);obtain⟨rfl,t1,t2,d2,x2,f2⟩:=hq;have j2:=P'h C L ok d2 x2 hr hne t1 t2;obtain⟨k0,e,t',g',hk,rfl,t1',t2',d3,x3,f3⟩:=j2;have C'g:okE c (A'b (A'b (A'c (ZaM O)) (cIf (.tmp 56) (A'c ZaN) A'f)) (A'b (A'c (ZaO O)) (cIf (.tmp 71) (A'c ZaP) A'f))) (t',g')
     (fun e t h' => (e = .ret ∨ e = .normal) ∧ ∃ v, A'L O Tryz.prog [] t h' = some v ∧ (v = .tuple #[] ∧ Rd O h' r s (jdS D R) ∧ Fr O [r] h h')) := by
    refine okE.seq ((P'i C L d3 x3 hr hne t1' t2').mono λe t4 g4 hq=>?_);obtain⟨rfl,t1'',t2'',d4,x4,f4⟩:=hq;refine (P'j C L d4 x4 hr hne t1'' t2'').mono λe t5 g5 hq=>?_;obtain⟨rfl,_,_,d5,x5,f5⟩:=hq;exact⟨.inr rfl,.tuple #[],rfl,rfl,d5,(((f1.trans f2).trans f3).trans f4).trans f5⟩
   obtain⟨k1,e1,t6,g6,hk1,hq1⟩:=C'g;refine⟨max k0 k1,e1,t6,g6,λk hkk=>?_,hq1⟩;have a:=hk k (by omega);have b':=hk1 k (by omega);simp only[A'b]at a b' ⊢;revert a
   cases hA:A'c (ZaJ O) c k (t,g) with
   | none=>intro a;simp at a
   | some qa=>
    obtain⟨ea,sa⟩:=qa
    cases ea with
    | normal=>
     simp only;intro a;rw[a];exact b'
    | _=>intro a;simp at a
 obtain⟨v,h',e1,rfl,e2⟩:=key;exact⟨h',e1,e2⟩
end
end Go.Proofs.YtimdkminagnhgabGreatDoor
namespace Go.Proofs.YtimdkminagnhgabGreatDoor
open Go.Vm Go.Proofs
set_option maxHeartbeats 1000000
section
variable {H:Type}{O:HI H}{ro:Nat}{c:A'X H}
attribute [local simp] A'b A'c reg to too A'a A'n A'i mv' nl' fl' ld' ln' mk' ia' ik' ix' B'C B'D aLd A'5 A'q A'7 A'3 A'2 aUn unA ev A'k isB A'Z C'f cIf A'y A'f A'g A'L A'h rvE B'j aSt A'6 Value.cells B'f A'l Instr.fill A'e A'r A'z A's ptr undef B'o B'r A'j
def nmL: Nat->ByteArray->RS->RS
 | 0,_,R=>R
 | n+1,s,R=>if pk s R = -1∨pk s R=10 then R else nmL n s ⟨R.pos+1,R.e,R.ep⟩
def nmS (s:ByteArray)(R:RS): RS:=
 let R1:=nmL (s.size+1-R.pos) s R
 exS s (if R1.pos=R.pos then fl R1 2 R1.pos else R1) 10
def S'r (D:HD)(s:ByteArray)(R:RS): RS:=
 if pk s R=105∨pk s R=108∨pk s R=111∨pk s R=98 then
  let n:=if pk s R=105 then D.nin else if pk s R=108 then D.nla else if pk s R=111 then D.nou else D.nbs
  let q:=E'i s ⟨R.pos+1,R.e,R.ep⟩
  nmS s (exS s (if n<=q.1 then fl q.2 2 (R.pos+1) else q.2) 32)
 else fl R 2 R.pos
end
end Go.Proofs.YtimdkminagnhgabGreatDoor
namespace Go.Proofs.YtimdkminagnhgabGreatDoor
open Go.Vm Go.Proofs
set_option maxHeartbeats 1000000
abbrev Tag:= Nat×Nat
abbrev Own:= Nat->Tag
def Own.set (w:Own)(b:Nat)(t:Tag): Own:=λi=>if i=b then t else w i
section
variable {H:Type}{O:HI H}{ro:Nat}{c:A'X H}
structure Ch (O:HI H)(K:Tag->Prop)(w:Own)(h:H)(w':Own)(h':H):Prop where
 nx:O.next h<=O.next h'
 ow:∀b,b<O.next h->w' b=w b
 fr:∀b,b<O.next h->¬K (w b)->(∀o,O.cell h' b o=O.cell h b o)∧O.alive h' b=O.alive h b
theorem Ch.refl (K:Tag->Prop)(w:Own)(h:H): Ch O K w h w h:=⟨l'H _,λ_ _=>rfl,λ_ _ _=>⟨λ_=>rfl,rfl⟩⟩
theorem Ch.trans {K:Tag->Prop}{w1 w2 w3:Own}{h1 h2 h3:H}(a:Ch O K w1 h1 w2 h2)(b:Ch O K w2 h2 w3 h3): Ch O K w1 h1 w3 h3:=by
 refine⟨l'G a.nx b.nx,λx hx=>?_,λx hx hk=>?_⟩
 ·rw[b.ow x (Nat.lt_of_lt_of_le hx a.nx),a.ow x hx]
 ·have h1:=a.fr x hx hk;have h2:=b.fr x (Nat.lt_of_lt_of_le hx a.nx) (by rw[a.ow x hx];exact hk);exact⟨λo=>(h2.1 o).trans (h1.1 o),h2.2.trans h1.2⟩
theorem Ch.mono {K K':Tag->Prop}{w w':Own}{h h':H}(a:Ch O K w h w' h')(hk:∀t,K t->K' t): Ch O K' w h w' h':=
 ⟨a.nx,a.ow,λb hb hn=>a.fr b hb λhx=>hn (hk _ hx)⟩
structure Bx (O:HI H) (ro:Nat)(w:Own)(h:H)(t:Tag) (b:Nat)(l:List Value):Prop where
 tag:w b=t
 lo:ro<=b
 al:O.alive h b=true
 cell:∀i,i<l.length->O.cell h b i=l[i]?
theorem Bx.lt (L:O.Law){w:Own}{h:H}{t:Tag}{b:Nat}{l:List Value}(x:Bx O ro w h t b l): b<O.next h:=L.alive_lt _ _ x.al
theorem Bx.ch (L:O.Law){K:Tag->Prop}{w w':Own}{h h':H}{t:Tag}{b:Nat}{l:List Value}(x:Bx O ro w h t b l)(a:Ch O K w h w' h')(hk:¬K t:=by simp): Bx O ro w' h' t b l:=by
 have hb:=x.lt L;have:=a.fr b hb (by rw[x.tag];exact hk);exact⟨by rw[a.ow b hb,x.tag],x.lo,by rw[this.2,x.al],λi hi=>by rw[this.1,x.cell i hi]⟩
theorem Bx.get {w:Own}{h:H}{t:Tag}{b:Nat}{l:List Value}(x:Bx O ro w h t b l)(i:Nat)(v:Value)(hv:l[i]?=some v): O.cell h b i=some v:=by
 rw[x.cell i (by by_cases hi:i<l.length;exact hi;rw[List.getElem?_eq_none (by omega)]at hv;simp at hv),hv]
theorem Bx.new (L:O.Law)(w:Own)(h:H)(hro:ro<=O.next h)(t:Tag)(l:List Value): Bx O ro (w.set (O.next h) t) (O.new h l) t (O.next h) l:=by
 refine⟨by simp[Own.set],hro,?_,λi hi=>?_⟩
 ·rw[L.alive_new,if_pos rfl]
 ·rw[L.cell_new,if_pos rfl]
theorem Ch.new (L:O.Law)(K:Tag->Prop)(w:Own)(h:H)(t:Tag)(l:List Value): Ch O K w h (w.set (O.next h) t) (O.new h l):=by
 refine⟨by rw[L.next_new];omega,λb hb=>?_,λb hb _=>⟨λo=>?_,?_⟩⟩
 ·simp only[Own.set];rw[if_neg (by omega)]
 ·rw[L.cell_new,if_neg (by omega)]
 ·rw[L.alive_new,if_neg (by omega)]
theorem Bx.put (L:O.Law){w:Own}{h:H}{t:Tag}{b:Nat}{l:List Value}(x:Bx O ro w h t b l)(i:Nat)(hi:i<l.length)(v:Value): Bx O ro w (O.put h b i v) t b (l.set i v):=by
 have hc:O.cell h b i=some l[i]:=by rw[x.cell i hi];simp
 refine⟨x.tag,x.lo,by rw[L.alive_put,x.al],λj hj=>?_⟩;rw[L.cell_put _ _ _ _ _ hc];simp only[List.length_set]at hj
 by_cases e:j=i
 ·subst e;simp[hj]
 ·rw[if_neg (by simp[e]),x.cell j hj,l'h (λq=>e q.symm)]
theorem Ch.put (L:O.Law){K:Tag->Prop}{w:Own}{h:H}{t:Tag}{b:Nat}{l:List Value}(x:Bx O ro w h t b l)(i:Nat)(hi:i<l.length)(v:Value)(hk:K t): Ch O K w h w (O.put h b i v):=by
 have hc:O.cell h b i=some l[i]:=by rw[x.cell i hi];simp
 refine⟨by rw[L.next_put];exact l'H _,λ_ _=>rfl,λb' hb hn=>⟨λo=>?_,?_⟩⟩
 ·rw[L.cell_put _ _ _ _ _ hc,if_neg];rintro⟨rfl,_⟩;rw[x.tag]at hn;exact hn hk
 ·rw[L.alive_put]
theorem Ch.kill (L:O.Law){K:Tag->Prop}{w:Own}{h:H}{t:Tag}{b:Nat}{l:List Value}(x:Bx O ro w h t b l)(hk:K t): Ch O K w h w (O.kill h b):=by
 refine⟨by rw[L.next_kill];exact l'H _,λ_ _=>rfl,λb' hb hn=>?_⟩;have:b'≠b:=by rintro rfl;rw[x.tag]at hn;exact hn hk
 exact⟨λo=>by rw[L.cell_kill,if_neg this],by rw[L.alive_kill,if_neg this]⟩
theorem C'G {h:H}{b:Nat}: ∀(n o:Nat)(l:List Value),l.length=n->(∀i,i<n->O.cell h b (o+i)=l[i]?)->cellsA O h b o n=some l:=by
 intro n
 induction n with
 | zero=>intro o l hl _;cases l with|nil=>rfl|cons _ _=>simp at hl
 | succ n ih=>
  intro o l hl hc
  cases l with
  | nil=>simp at hl
  | cons v l=>
   have h0:=hc 0 (by omega);have h1:=ih (o+1) l (by simpa using hl) (λi hi=>by have:=hc (i+1) (by omega);rw[show o+1+i=o+(i+1) by omega,this];simp);simp only[Nat.add_zero]at h0;simp[cellsA,h0,h1]
theorem Bx.cells {w:Own}{h:H}{t:Tag}{b:Nat}{l:List Value}(x:Bx O ro w h t b l)(o n:Nat)(hn:o+n<=l.length): cellsA O h b o n=some ((l.drop o).take n):=by
 refine C'G n o _ (by simp;omega) λi hi=>?_;rw[x.cell _ (by omega),l'j hi,List.getElem?_drop]
theorem Bx.all {w:Own}{h:H}{t:Tag}{b:Nat}{l:List Value}(x:Bx O ro w h t b l): cellsA O h b 0 l.length=some l:=by
 rw[x.cells 0 l.length (by omega)];simp
theorem Bx.puts (L:O.Law){K:Tag->Prop}{w:Own}{t:Tag}{b:Nat}(hk:K t): ∀(new:List Value) (o:Nat)(h:H)(l:List Value),Bx O ro w h t b l->o+new.length<=l.length ->
  ∃h',A'6 O h b o new=some h'∧Bx O ro w h' t b (l.take o++new++l.drop (o+new.length))∧Ch O K w h w h':=by
 intro new
 induction new with
 | nil=>intro o h l x ho;exact⟨h,rfl,by simpa using x,Ch.refl _ _ _⟩
 | cons v new ih=>
  intro o h l x ho;simp only[l'n]at ho;obtain⟨h',e1,e2,e3⟩:=ih (o+1) (O.put h b o v) (l.set o v) (x.put L o (by omega) v) (by simp;omega);have hc:O.cell h b o=some l[o]:=by rw[x.cell o (by omega)];simp
  refine⟨h',by simp[A'6,hc,e1],?_,(Ch.put L x o (by omega) v hk).trans e3⟩;have:(l.set o v).take (o+1)++new++(l.set o v).drop (o+1+new.length)=l.take o++(v :: new)++l.drop (o+(v :: new).length):=by
   rw[l'C];have h1:(l.set o v)[o]?=some v:=by simp[show o<l.length by omega]
   rw[h1,List.take_set_of_le (l'H o),List.drop_set_of_lt (by omega)];simp[Nat.add_assoc,Nat.add_comm 1]
  rw[<-this];exact e2
def Sl (O:HI H)(ro:Nat)(w:Own)(h:H)(t:Tag)(sz:Nat)(v:Value)(l:List Value): Prop:=
 (v = .slice none 0 0 ∧ l = []) ∨ ∃ b m cp, v = .slice (some ⟨b, 0, some sz⟩) m cp ∧ (cp = 0 ∨ cp = m + 1) ∧ l.length = m * sz ∧ l ≠ [] ∧ Bx O ro w h t b l
theorem Sl.nil (w:Own)(h:H)(t:Tag)(sz:Nat): Sl O ro w h t sz (.slice none 0 0) []:=.inl ⟨rfl,rfl⟩
theorem Sl.ch (L:O.Law){K:Tag->Prop}{w w':Own}{h h':H}{t:Tag}{sz:Nat}{v:Value}{l:List Value}(x:Sl O ro w h t sz v l)(a:Ch O K w h w' h')(hk:¬K t:=by simp): Sl O ro w' h' t sz v l:=by
 rcases x with x|⟨b,m,cp,e,ec,el,en,x⟩
 ·exact .inl x
 ·exact .inr ⟨b,m,cp,e,ec,el,en,x.ch L a hk⟩
theorem Sl.flat {w:Own}{h:H}{t:Tag}{sz:Nat}{v:Value}{l:List Value}(x:Sl O ro w h t sz v l): v.cells = #[v]∧B'f v=true∧B'j v=false:=by
 rcases x with ⟨rfl,_⟩|⟨b,m,cp,rfl,_⟩ <;> exact⟨rfl,rfl,rfl⟩
theorem Sl.len {w:Own}{h:H}{t:Tag}{sz:Nat}{v:Value}{l:List Value}(x:Sl O ro w h t sz v l)(hsz:0<sz)(n:Nat)(hn:l.length=n*sz): ∃a cp,v = .slice a n cp:=by
 rcases x with ⟨rfl,rfl⟩|⟨b,m,cp,rfl,_,el,_⟩
 ·have:n=0:=by
   simp only[l'o]at hn;rcases Nat.mul_eq_zero.1 hn.symm with h|h <;> omega
  subst this;exact⟨_,_,rfl⟩
 ·have:m=n:=Nat.eq_of_mul_eq_mul_right hsz (by omega);subst this;exact⟨_,_,rfl⟩
theorem Sl.blk {w:Own}{h:H}{t:Tag}{sz:Nat}{v:Value}{l:List Value}(x:Sl O ro w h t sz v l)(hsz:0<sz)(n:Nat)(hn:l.length=n*sz)(h0:0<n): ∃b cp,v = .slice (some ⟨b,0,some sz⟩) n cp∧Bx O ro w h t b l:=by
 rcases x with ⟨rfl,rfl⟩|⟨b,m,cp,rfl,_,el,_,x⟩
 ·simp only[l'o]at hn;rcases Nat.mul_eq_zero.1 hn.symm with h|h <;> omega
 ·have:m=n:=Nat.eq_of_mul_eq_mul_right hsz (by omega);subst this;exact⟨_,_,rfl,x⟩
theorem C'd (L:O.Law){w:Own}{h:H}{t:Tag}{sz bytes:Nat}{v:Value}{l new:List Value}(hro:ro<=O.next h)(x:Sl O ro w h t sz v l)(hsz:0<sz)(hn:new.length=sz)(hsize:(l.length+1)*bytes<=140737488355328)(hl:l.length<1000000):
  ∃v' h' w',D'd O ro sz bytes v (.slice (some ⟨O.next h,0,some sz⟩) 1 2) (O.new h new)=some (v',h')∧Sl O ro w' h' t sz v' (l++new)∧Ch O (λu=>u=t) w h w' h'∧ro<=O.next h':=by
 have hnew:cellsA O (O.new h new) (O.next h) 0 (1*sz)=some new:=by
  rw[Nat.one_mul];exact C'G sz 0 new hn λi hi=>by rw[L.cell_new,if_pos rfl];simp
 have hne:new≠[]:=by intro e;subst e;simp at hn;omega
 rcases x with ⟨rfl,rfl⟩|⟨b,m,cp,rfl,hcp,el,en,x⟩
 ·have hb1:¬((0+1)*bytes>140737488355328∨0+1>140737488355328):=by simp at hsize;omega
  refine⟨.slice (some ⟨O.next h+1,0,some sz⟩) 1 0,O.new (O.new h new) new,(w.set (O.next h) t).set (O.next h+1) t,?_,?_,?_,?_⟩
  ·simp only[D'd,hb1,if_false,hnew,true_and,and_self,if_true,L.next_new];simp
  ·refine .inr ⟨O.next h+1,1,0,rfl,.inl rfl,by simp[hn],by simpa using hne,?_⟩;have:=Bx.new L (ro:=ro) (w.set (O.next h) t) (O.new h new) (by rw[L.next_new];omega) t new;rw[L.next_new]at this;simpa using this
  ·have h1:=Ch.new L (λu=>u=t) w h t new;have h2:=Ch.new L (λu=>u=t) (w.set (O.next h) t) (O.new h new) t new;rw[L.next_new]at h2;exact h1.trans h2
  ·simp only[L.next_new];omega
 ·have hb1:¬((m+1)*bytes>140737488355328∨m+1>140737488355328):=by
   have h1:m<=l.length:=by rw[el];exact Nat.le_mul_of_pos_right m hsz
   have h2:(m+1)*bytes<=(l.length+1)*bytes:=Nat.mul_le_mul_right _ (by omega);omega
  have hlt:=x.lt L;have x1:Bx O ro (w.set (O.next h) t) (O.new h new) t b l:=x.ch L (Ch.new L (λ_=>False) w h t new) (by simp);have c1:=Ch.new L (λu=>u=t) w h t new;have hold:cellsA O (O.new h new) b 0 (m*sz)=some l:=by rw[<-el];exact x1.all
  have hbro:¬b<ro:=by have:=x.lo;omega
  rcases hcp with rfl|rfl
  ·have nk:O.next (O.kill (O.new h new) b)=O.next h+1:=by rw[L.next_kill,L.next_new]
   refine⟨.slice (some ⟨O.next h+1,0,some sz⟩) (m+1) 0,O.new (O.kill (O.new h new) b) (l++new),(w.set (O.next h) t).set (O.next h+1) t,?_,?_,?_,?_⟩
   ·simp only[D'd,hb1,if_false,hnew,hbro,x1.al,and_self,if_true,hold,L.next_new]
   ·refine .inr ⟨O.next h+1,m+1,0,rfl,.inl rfl,by simp[hn,el,Nat.add_mul],by simp[hne],?_⟩;have:=Bx.new L (ro:=ro) (w.set (O.next h) t) (O.kill (O.new h new) b) (by rw[nk];omega) t (l++new);rw[nk]at this;exact this
   ·have c2:=Ch.kill L (K:=λu=>u=t) x1 rfl;have c3:=Ch.new L (λu=>u=t) (w.set (O.next h) t) (O.kill (O.new h new) b) t (l++new);rw[nk]at c3;exact (c1.trans c2).trans c3
   ·rw[L.next_new,nk];omega
  ·refine⟨.slice (some ⟨O.next h+1,0,some sz⟩) (m+1) 0,O.new (O.new h new) (l++new),(w.set (O.next h) t).set (O.next h+1) t,?_,?_,?_,?_⟩
   ·simp only[D'd,hb1,if_false,hnew,hbro,x1.al,and_self,if_true,hold,L.next_new];rw[if_neg (by omega),if_neg (by omega)]
   ·refine .inr ⟨O.next h+1,m+1,0,rfl,.inl rfl,by simp[hn,el,Nat.add_mul],by simp[hne],?_⟩;have:=Bx.new L (ro:=ro) (w.set (O.next h) t) (O.new h new) (by rw[L.next_new];omega) t (l++new);rw[L.next_new]at this;exact this
   ·have c3:=Ch.new L (λu=>u=t) (w.set (O.next h) t) (O.new h new) t (l++new);rw[L.next_new]at c3;exact c1.trans c3
   ·simp only[L.next_new];omega
def rdv (s:ByteArray)(R:RS): List Value:=[.string s,.int .i64 R.pos,.int .i64 R.e,.int .i64 R.ep]
abbrev RB (O:HI H)(ro:Nat)(w:Own)(h:H)(r:Nat)(s:ByteArray)(R:RS): Prop:=Bx O ro w h (1,1000) r (rdv s R)
theorem RB.rd {w:Own}{h:H}{r:Nat}{s:ByteArray}{R:RS}(x:RB O ro w h r s R): Rd O h r s R:=
 ⟨x.get 0 _ rfl,x.get 1 _ rfl,x.get 2 _ rfl,x.get 3 _ rfl⟩
theorem RB.up {w:Own}{h h':H}{r:Nat}{s:ByteArray}{R R':RS}(L:O.Law)(x:RB O ro w h r s R)(d:Rd O h' r s R')(f:Fr O [r] h h'): RB O ro w h' r s R'∧Ch O (λu=>u=(1,1000)) w h w h':=by
 refine⟨⟨x.tag,x.lo,L.cell_alive _ _ _ _ d.c0,λi hi=>?_⟩,⟨f.1,λ_ _=>rfl,λb hb hk=>f.2 b hb ?_⟩⟩
 ·obtain⟨c0,c1,c2,c3⟩:=d
  match i,hi with
  | 0,_=>exact c0
  | 1,_=>exact c1
  | 2,_=>exact c2
  | 3,_=>exact c3
  | n+4,h=>simp[rdv]at h;omega
 ·simp only[l'm];rintro rfl;exact hk x.tag
theorem E'W (C:LP' O ro c)(L:O.Law){w:Own}{h:H}{r:Nat}{s:ByteArray}{R:RS}(x:RB O ro w h r s R)(e p:Nat):
  ∃h',c 67 [ptr r,.int .i64 e,.int .i64 p] h=some (.tuple #[],h')∧RB O ro w h' r s (fl R e p)∧Ch O (λu=>u=(1,1000)) w h w h':=by
 obtain⟨h',e1,d,f⟩:=C't C L x.rd x.lo e p;exact⟨h',e1,RB.up L x d f⟩
theorem P'k (C:LP' O ro c)(L:O.Law){w:Own}{h:H}{r:Nat}{s:ByteArray}{R:RS}(x:RB O ro w h r s R)(hs:s.size<=1000)(b:Nat):
  ∃h',c 64 [ptr r,.int .i64 b] h=some (.bool (decide (pk s R=b)),h')∧RB O ro w h' r s (if pk s R=b then ⟨R.pos+1,R.e,R.ep⟩ else R)∧Ch O (λu=>u=(1,1000)) w h w h':=by
 obtain⟨h',e1,d,f⟩:=G'v C L x.rd x.lo hs b;exact⟨h',e1,RB.up L x d f⟩
theorem C'L (C:LP' O ro c)(L:O.Law){w:Own}{h:H}{r:Nat}{s:ByteArray}{R:RS}(x:RB O ro w h r s R)(hs:s.size<=1000)(b:Nat):
  ∃h',c 63 [ptr r,.int .i64 b] h=some (.tuple #[],h')∧RB O ro w h' r s (exS s R b)∧Ch O (λu=>u=(1,1000)) w h w h':=by
 obtain⟨h',e1,d,f⟩:=C'k C L x.rd x.lo hs b;exact⟨h',e1,RB.up L x d f⟩
theorem P'l (C:LP' O ro c)(L:O.Law){w:Own}{h:H}{r:Nat}{s:ByteArray}{R:RS}(x:RB O ro w h r s R)(hs:s.size<=1000)(hp:R.pos<=s.size):
  ∃h',c 66 [ptr r] h=some (.int .i64 (E'i s R).1,h')∧RB O ro w h' r s (E'i s R).2∧Ch O (λu=>u=(1,1000)) w h w h':=by
 obtain⟨h',e1,d,f⟩:=L'T C L x.rd x.lo hs hp;exact⟨h',e1,RB.up L x d f⟩
theorem R'M (C:LP' O ro c)(L:O.Law){w:Own}{h:H}{r:Nat}{s:ByteArray}{R:RS}(x:RB O ro w h r s R)(hs:s.size<=1000):
  ∃h',c 117 [ptr r] h=some (.int .i64 (diS s R).1,h')∧RB O ro w h' r s (diS s R).2∧Ch O (λu=>u=(1,1000)) w h w h':=by
 obtain⟨h',e1,d,f⟩:=R'd C L x.rd x.lo hs;exact⟨h',e1,RB.up L x d f⟩
end
end Go.Proofs.YtimdkminagnhgabGreatDoor
namespace Go.Proofs.YtimdkminagnhgabGreatDoor
open Go.Vm Go.Proofs
set_option maxHeartbeats 1000000
section
variable {H:Type}{O:HI H}{ro:Nat}{c:A'X H}
attribute [local simp] A'b A'c reg to too A'a A'n A'i mv' nl' fl' ld' ln' mk' ia' ik' ix' B'C B'D aLd A'5 A'q A'7 A'3 A'2 aUn unA ev A'k isB A'Z C'f cIf A'y A'f A'g A'L A'h rvE B'j aSt A'6 Value.cells B'f A'l Instr.fill A'e A'r A'z A's ptr undef B'o B'r A'j B'n
def H'N: Nat->HD->ByteArray->RS->RS
 | 0,_,_,R=>R
 | n+1,D,s,R=>if R.pos<s.size∧R.e=0 then (if pk s R=99 then exS s ⟨R.pos+1,R.e,R.ep⟩ 10 else H'N n D s (S'r D s R)) else R
def E'j (D:HD)(s:ByteArray)(R:RS): RS:=H'N 1002 D s R
theorem P'm (C:LP' O ro c)(L:O.Law){w:Own}{h:H}{r:Nat}{s:ByteArray}{R:RS}{D:HD}(x:RB O ro w h r s R)(hro:ro<=O.next h)(hs:s.size<=1000)(hp:R.pos<=s.size)(hno:¬(R.pos<s.size∧R.e=0)):
  ∃w' h',c 39 [ptr r,D.val] h=some (.tuple #[],h')∧RB O ro w' h' r s (E'j D s R)∧Ch O (λu=>u=(1,1000)) w h w' h':=by
 have htv:B'j D.val=false:=rfl;obtain⟨b,hb⟩:=e' (O.next h);obtain⟨h1,hh1⟩:=e' (O.new h D.val.cells.toList);obtain⟨w1,hw1⟩:=e' (w.set b (9,0));have c1:Ch O (λu=>u=(1,1000)) w h w1 h1:=by rw[hh1,hw1,hb];exact Ch.new L _ _ _ _ _
 have y1:Bx O ro w1 h1 (9,0) b D.val.cells.toList:=by rw[hh1,hw1,hb];exact Bx.new L _ _ hro _ _
 have x1:RB O ro w1 h1 r s R:=x.ch L (K:=λ_=>False) (by rw[hh1,hw1,hb];exact Ch.new L _ _ _ _ _) (by simp);have key:∃v h',c 39 [ptr r,D.val] h=some (v,h')∧(v = .tuple #[]∧∃w',RB O ro w' h' r s (E'j D s R)∧Ch O (λu=>u=(1,1000)) w h w' h'):=by
  refine C.fn (O'V O ro) rfl rfl ?_;obtain⟨e0,he0⟩:=e' (A'Z [ptr r,D.val]);have a0:e0 0=ptr r:=by subst he0;rfl
  have a1:e0 1=D.val:=by subst he0;rfl
  rw[<-he0];unfold F39;refine s'f ?_;simp[ZbB,a1,htv,<-hb,<-hh1,A'd,-B'j,-Value.cells,-A'L,-A'h,-rvE];refine okE.blk ?_;refine okE.loop (λn t g=>∃R',R'=R∧RB O ro w1 g r s R'∧Bx O ro w1 g (9,0) b D.val.cells.toList∧Ch O (λu=>u=(1,1000)) w h w1 g∧t 0=ptr r∧t 3=ptr b∧R'.pos<=s.size∧0<n∧(R'.e=0->s.size<n+R'.pos)∧H'N n D s R'=E'j D s R) ?_ 1002 _ _ ⟨R,rfl,x1,y1,c1,by simp[a0],by simp,hp,by omega,λ_=>by omega,by unfold E'j;rfl⟩;intro n t g hI;obtain⟨R',hRR,x',y',c',t0,t3,hp',hn0,hn,hfin⟩:=hI;obtain⟨m,rfl⟩:∃m,n=m+1:=⟨n-1,by omega⟩;simp only[H'N]at hfin;obtain⟨d0,d1,d2,d3⟩:=x'.rd;have hfl:=E'h C x'.rd;unfold ptr at t0 t3 hfl
  by_cases hgo:R'.pos<s.size∧R'.e=0
  ·rw[hRR]at hgo;exact absurd hgo hno
  ·rw[if_neg hgo]at hfin;have x9:=x';rw[hfin]at x9;refine f'f ?_
   by_cases h1:R'.pos<s.size
   ·have k1:(R'.pos:Int)<s.size:=by omega
    have ke:(R'.e != 0)=true:=by simp;omega
    simp[M'P,ZbC,t0,t3,d0,d1,hfl,k1,ke,h1];exact⟨w1,x9,c'⟩
   ·have k1:¬(R'.pos:Int)<s.size:=by omega
    simp[M'P,ZbC,t0,t3,d0,d1,hfl,k1,h1];exact⟨w1,x9,c'⟩
 obtain⟨v,h',e1,rfl,w',e2⟩:=key;exact⟨w',h',e1,e2⟩
end
end Go.Proofs.YtimdkminagnhgabGreatDoor
