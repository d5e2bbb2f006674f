import Derived.Test.YtimdkminagnhgaaGreatDoorQ07
set_option linter.all false
namespace Go.Proofs.YtimdkminagnhgaaGreatDoor
open Go.Vm Go.Proofs
set_option maxHeartbeats 1000000
section
variable {H:Type}{O:HI H}{ro:Nat}{c:CallT H}
attribute [local simp] cSeq cReg reg to too onlyIf onlyIfo aMove mv' nl' fl' ld' ln' mk' ia' ik' ix' aNil aFld aLd aInt aPick aLenStr aIdxStr aConv aUn unA ev upd_get isB envOf intA cIf cRet cSkip okc_some resE resLE rvE isTup aSt putsA Value.cells isFlat aBuild Instr.fill aCall cExit cBlk outOf ptr undef
theorem pk_lt {s:ByteArray}{R:RS}(h:0<=pk s R): R.e=0∧R.pos<s.size:=by
 unfold pk at h;split at h
 ·assumption
 ·omega
theorem pk_le (s:ByteArray)(R:RS): -1<=pk s R∧pk s R<=255:=by
 unfold pk byteS;split
 ·cases h:s[R.pos]? with
  | none=>simp
  | some b=>simp;have:=b.toNat_lt;omega
 ·omega
theorem Rd.setPos (L:O.Law){h:H}{r:Nat}{s:ByteArray}{R:RS}(d:Rd O h r s R)(p:Nat): Rd O (O.put h r 1 (.int .i64 p)) r s ⟨p,R.e,R.ep⟩∧Fr O [r] h (O.put h r 1 (.int .i64 p)):=by
 obtain⟨c0,c1,c2,c3⟩:=d;refine⟨?_,Fr.put L (by simp) c1⟩;refine⟨?_,?_,?_,?_⟩ <;> rw[L.cell_put _ _ _ _ _ c1] <;> simp[c0,c2,c3]
theorem failed_sp (C:LP' O ro c){h:H}{r:Nat}{s:ByteArray}{R:RS}(d:Rd O h r s R): c 47 [ptr r] h=some (.bool (R.e != 0),h):=by
 refine C.eq (F47_fn O ro) rfl rfl (f'f ?_);obtain⟨c0,c1,c2,c3⟩:=d
 by_cases he:R.e=0
 ·simp[F47,ZaQ,ZaR,c2,he]
 ·have h1:((R.e:Int) != 0)=true:=by simp;omega
  simp[F47,ZaQ,ZaR,c2,h1,he]
def bbS (s:ByteArray)(R:RS)(b:Nat): Nat×RS:=if pk s R = -1∨(b:Int)<=pk s R then (0,fl R 2 R.pos) else ((pk s R).toNat,⟨R.pos+1,R.e,R.ep⟩)
theorem bb_sp (C:LP' O ro c)(L:O.Law){h:H}{r:Nat}{s:ByteArray}{R:RS}(d:Rd O h r s R)(hr:ro<=r)(hs:s.size<=1000)(b:Nat):
  ∃h',c 185 [ptr r,.int .i64 b] h=some (.int .i64 (bbS s R b).1,h')∧Rd O h' r s (bbS s R b).2∧Fr O [r] h h':=by
 have hro:¬r<ro:=by omega
 have hpk:=peek_sp C d hs;have hle:=pk_le s R;unfold bbS
 by_cases h1:pk s R = -1
 ·obtain⟨h2,hc2,d2,f2⟩:=fail_sp C L d hr 2 R.pos;refine⟨h2,?_,by simpa [h1]using d2,f2⟩;refine C.eq (F185_fn O ro) rfl rfl (f'f ?_);have c1:=d.c1;have hc2':c 88 [Value.pointer (some ⟨r,0,none⟩),.int .i64 2,.int .i64 R.pos] h=some (.tuple #[],h2):=hc2;unfold ptr at hpk;simp[F185,Zfg,Zfh,Zfi,Zfj,Zfk,hpk,h1,c1,hc2']
 ·have h1':(pk s R == -1)=false:=by simpa using h1
  by_cases h2:(b:Int)<=pk s R
  ·obtain⟨h3,hc2,d2,f2⟩:=fail_sp C L d hr 2 R.pos;refine⟨h3,?_,by simpa [h2]using d2,f2⟩;refine C.eq (F185_fn O ro) rfl rfl (f'f ?_);have c1:=d.c1;have hc2':c 88 [Value.pointer (some ⟨r,0,none⟩),.int .i64 2,.int .i64 R.pos] h=some (.tuple #[],h3):=hc2;unfold ptr at hpk;simp[F185,Zfg,Zfh,Zfi,Zfj,Zfk,hpk,h1',h2,c1,hc2']
  ·have hpos:=pk_lt (s:=s) (R:=R) (by omega);obtain⟨d2,f2⟩:=d.setPos L (R.pos+1);refine⟨_,?_,by simpa [h1,h2]using d2,f2⟩;refine C.eq (F185_fn O ro) rfl rfl (f'f ?_);have c1:=d.c1;have hw:=w'1 R.pos;have hn:(((pk s R).toNat:Nat):Int)=pk s R:=by omega
   unfold ptr at hpk;simp[F185,Zfg,Zfh,Zfi,Zfl,Zfm,hpk,h1',h1,h2,c1,hro,hw,hn]
def diS (s:ByteArray)(R:RS): Nat×RS:=
 let a:=bbS s R 256
 if a.1<128 then a else
 let b:=bbS s a.2 128
 (a.1-128+128*b.1,b.2)
theorem bbS_le (s:ByteArray)(R:RS)(b:Nat): (bbS s R b).1<=255:=by
 have:=pk_le s R;unfold bbS;split
 ·simp
 ·simp only;omega
theorem di_sp (C:LP' O ro c)(L:O.Law){h:H}{r:Nat}{s:ByteArray}{R:RS}(d:Rd O h r s R)(hr:ro<=r)(hs:s.size<=1000):
  ∃h',c 152 [ptr r] h=some (.int .i64 (diS s R).1,h')∧Rd O h' r s (diS s R).2∧Fr O [r] h h':=by
 obtain⟨h1,hc1,d1,f1⟩:=bb_sp C L d hr hs 256;have hb1:=bbS_le s R 256;unfold diS;generalize bbS s R 256=a at hc1 d1 hb1
 by_cases hlt:a.1<128
 ·refine⟨h1,?_,by simpa [hlt]using d1,f1⟩;refine C.eq (F152_fn O ro) rfl rfl (f'f ?_);have hlt':(a.1:Int)<128:=by omega
  have hc1':c 185 [Value.pointer (some ⟨r,0,none⟩),.int .i64 256] h=some (.int .i64 a.1,h1):=hc1;simp[F152,ZeR,ZeS,ZeT,ZeU,ZeV,ZeW,hc1',hlt,hlt']
 ·obtain⟨h2,hc2,d2,f2⟩:=bb_sp C L d1 hr hs 128;have hb2:=bbS_le s a.2 128;simp only[hlt,if_false];generalize bbS s a.2 128=b at hc2 d2 hb2 ⊢;refine⟨h2,?_,d2,f1.trans f2⟩;refine C.eq (F152_fn O ro) rfl rfl (f'f ?_);have hlt':¬(a.1:Int)<128:=by omega
  have hc1':c 185 [Value.pointer (some ⟨r,0,none⟩),.int .i64 256] h=some (.int .i64 a.1,h1):=hc1;have hc2':c 185 [Value.pointer (some ⟨r,0,none⟩),.int .i64 128] h1=some (.int .i64 b.1,h2):=hc2;have w1:IntKind.i64.wrap ((a.1:Int)-128)=(a.1:Int)-128:=w'j;have w2:IntKind.i64.wrap (128*(b.1:Int))=128*(b.1:Int):=w'j;have w3:IntKind.i64.wrap ((a.1:Int)-128+128*(b.1:Int))=((a.1-128+128*b.1:Nat):Int):=w'i;simp[F152,ZeR,ZeS,ZeT,ZeU,ZeV,ZeW,hc1',hc2',hlt,hlt',w1,w2,w3]
def numS (s:ByteArray)(R:RS): Nat×RS:=numL 5 s R.pos R 0
theorem num_sp (C:LP' O ro c)(L:O.Law){h:H}{r:Nat}{s:ByteArray}{R:RS}(d:Rd O h r s R)(hr:ro<=r)(hs:s.size<=1000)(hp:R.pos<=s.size):
  ∃h',c 87 [ptr r] h=some (.int .i64 (numS s R).1,h')∧Rd O h' r s (numS s R).2∧Fr O [r] h h':=by
 have hro:¬r<ro:=by omega
 have hpk:=peek_sp C d hs;have key:∃v h',c 87 [ptr r] h=some (v,h')∧(v = .int .i64 (numS s R).1∧Rd O h' r s (numS s R).2∧Fr O [r] h h'):=by
  refine C.fn (F87_fn O ro) rfl rfl ?_;unfold F87;have c1:=d.c1;refine s'f ?_;simp only[Zcq,cReg,reg,to,aMove,mv',nl',fl',ld',ln',mk',ia',ik',ix',ev,l'l,okc_some,thenE];refine s'f ?_;simp[Zcr,c1,thenE];refine s'f ?_;simp[Zcs,thenE];refine okE.seq (s'f ?_);unfold ptr at hpk;simp[Zct,thenE,hpk];refine okE.blk ?_;refine okE.loop (λn t g=>∃R' v,Rd O g r s R'∧Fr O [r] h g∧t 0=ptr r∧t 3 = .int .i64 R.pos∧t 4 = .int .i64 (v:Nat)∧t 5 = .int .i64 (pk s R')∧R.pos<=R'.pos∧R'.pos+n=R.pos+5∧1<=n∧v<10^(R'.pos-R.pos)∧numL n s R.pos R' v=numS s R) ?_ 5 _ _ ⟨R,0,d,Fr.refl _ _,by simp,by simp,by simp,by simp,l'H _,rfl,by omega,by simp,rfl⟩;intro n t g hI;obtain⟨R',v,d',f',t0,t3,t4,t5,hge,hn,hn1,hv,hfin⟩:=hI;obtain⟨D,hD⟩:∃D,R'.pos=R.pos+D:=⟨R'.pos-R.pos,by omega⟩;have hnD:n=5-D:=by omega
  have e1:R'.pos-R.pos=D:=by omega
  rw[e1]at hv;have hv4:v<10000:=Nat.lt_of_lt_of_le hv (Nat.pow_le_pow_right (n:=10) (by omega) (show D<=4 by omega));have wD:IntKind.i64.wrap ((R'.pos:Int)-(R.pos:Int))=(D:Int):=by
   have hp':R'.pos<=R.pos+5:=by omega
   rw[wrap_id (by omega) (by omega)];omega
  have c1':=d'.c1;have hple:=pk_le s R';obtain⟨m,rfl⟩:∃m,n=m+1:=⟨n-1,by omega⟩;simp only[numL,e1]at hfin;unfold ptr at t0
  by_cases hd:isDg (pk s R')=true
  ·have hdig:48<=pk s R'∧pk s R'<=57:=by simpa [isDg]using hd
   have hpos:=pk_lt (s:=s) (R:=R') (by omega);rw[if_pos hd]at hfin
   by_cases hfault:D=4∨(0<D∧v=0)
   ·rw[if_pos hfault]at hfin;obtain⟨g2,hc2,d2,f2⟩:=fail_sp C L d' hr 2 R'.pos;have hc2':c 88 [Value.pointer (some ⟨r,0,none⟩),.int .i64 2,.int .i64 R'.pos] g=some (.tuple #[],g2):=hc2;have d3:Rd O g2 r s (numS s R).2:=by rw[<-hfin];exact d2
    have e3:(numS s R).1=0:=by rw[<-hfin]
    refine f'f ?_
    by_cases h4:D=4
    ·have k4:((D:Int)==4)=true:=by simp;omega
     simp[W87_0,Zcu,Zcv,Zcw,Zcx,Zcy,t0,t3,t4,t5,isDigit_sp C,hd,c1',wD,k4,hc2',thenE,e3,d3,f'.trans f2]
    ·have k4:((D:Int)==4)=false:=by simp;omega
     have hr2:0<D∧v=0:=by omega
     have kD:(0:Int)<D:=by omega
     have kv:((v:Int)==0)=true:=by simp;omega
     simp[W87_0,Zcu,Zcv,Zcw,Zcx,Zcy,t0,t3,t4,t5,isDigit_sp C,hd,c1',wD,k4,kD,hr2.1,hr2.2,kv,hc2',thenE,e3,d3,f'.trans f2]
   ·rw[if_neg hfault]at hfin;have k4:((D:Int)==4)=false:=by simp;omega
    obtain⟨q,hq⟩:=e' (R'.pos+1);obtain⟨x,hx⟩:=e' (10*v+(pk s R').toNat-48);rw[<-hq,<-hx]at hfin;obtain⟨d2,f2⟩:=d'.setPos L q;have hpk2:=peek_sp C d2 hs;unfold ptr at hpk2;have hw1:IntKind.i64.wrap ((R'.pos:Int)+1)=(q:Int):=w'i;have w1:IntKind.i64.wrap (10*(v:Int))=10*(v:Int):=w'j;have w2:IntKind.i64.wrap (10*(v:Int)+pk s R')=10*(v:Int)+pk s R':=w'j;have w3:IntKind.i64.wrap (10*(v:Int)+pk s R'-48)=(x:Int):=w'i;have hx2:x<10^(q-R.pos):=by
     have:q-R.pos=D+1:=by omega
     rw[this,Nat.pow_succ];omega
    refine f'f ?_
    by_cases hD0:0<D
    ·have kD:(0:Int)<D:=by omega
     have kv:((v:Int)==0)=false:=by simp;omega
     simp[W87_0,Zcu,Zcv,Zcw,Zcz,ZcA,ZcB,t0,t3,t4,t5,isDigit_sp C,hd,c1',wD,k4,kD,hD0,kv,hw1,w1,w2,w3,hpk2,hro];exact⟨m,by omega,_,d2,f'.trans f2,x,rfl,rfl,by simp only;omega,by simp only;omega,by omega,hx2,hfin⟩
    ·have kD:¬(0:Int)<D:=by omega
     simp[W87_0,Zcu,Zcv,Zcw,Zcz,ZcA,ZcB,t0,t3,t4,t5,isDigit_sp C,hd,c1',wD,k4,kD,hD0,hw1,w1,w2,w3,hpk2,hro];exact⟨m,by omega,_,d2,f'.trans f2,x,rfl,rfl,by simp only;omega,by simp only;omega,by omega,hx2,hfin⟩
  ·rw[if_neg hd]at hfin;refine f'f ?_;simp[W87_0,Zcu,t5,isDigit_sp C,hd,thenE]
   by_cases hz:R'.pos=R.pos
   ·rw[if_pos hz]at hfin;obtain⟨g2,hc2,d2,f2⟩:=fail_sp C L d' hr 2 R'.pos;have hc2':c 88 [Value.pointer (some ⟨r,0,none⟩),.int .i64 2,.int .i64 R'.pos] g=some (.tuple #[],g2):=hc2;have kz:((R'.pos:Int)==(R.pos:Int))=true:=by simp;omega
    refine f'f ?_;simp[ZcC,ZcD,ZcE,t0,t3,t4,c1',kz,hc2',<-hfin,d2,f'.trans f2]
   ·rw[if_neg hz]at hfin;have kz:((R'.pos:Int)==(R.pos:Int))=false:=by simp;omega
    refine f'f ?_;simp[ZcC,ZcD,ZcE,t0,t3,t4,c1',kz,<-hfin,d',f']
 obtain⟨v,h',h1,rfl,h2,h3⟩:=key;exact⟨h',h1,h2,h3⟩
end
end Go.Proofs.YtimdkminagnhgaaGreatDoor
namespace Go.Proofs.YtimdkminagnhgaaGreatDoor
open Go.Vm Go.Proofs
set_option maxHeartbeats 1000000
section
variable {H:Type}{O:HI H}{ro:Nat}{c:CallT H}
attribute [local simp] cSeq cReg reg to too onlyIf onlyIfo aMove mv' nl' fl' ld' ln' mk' ia' ik' ix' aNil aFld aLd aInt aPick aLenStr aIdxStr aConv aUn unA ev upd_get isB envOf intA cIf cRet cSkip okc_some resE resLE rvE isTup aSt putsA Value.cells isFlat aBuild Instr.fill aCall cExit cBlk outOf ptr undef aNew aBox aIdxArr
theorem Rd.new (L:O.Law){h:H}{r:Nat}{s:ByteArray}{R:RS}(d:Rd O h r s R)(cs:List Value): Rd O (O.new h cs) r s R:=d.fr L (Fr.new (S:=[]) L cs) (by simp)
theorem fl_pos (R:RS)(e p:Nat): (fl R e p).pos=R.pos:=by unfold fl;split <;> rfl
theorem exS_pos {s:ByteArray}{R:RS}(b:Nat)(h:R.pos<=s.size): (exS s R b).pos<=s.size:=by
 unfold exS;split
 ·rename_i hb
  have:=pk_lt (s:=s) (R:=R) (by omega);simp only;omega
 ·rw[fl_pos];exact h
theorem numL_pos {s:ByteArray}: ∀(n st:Nat)(R:RS) (v:Nat),R.pos<=s.size->(numL n s st R v).2.pos<=s.size:=by
 intro n
 induction n with
 | zero=>intro st R v h;exact h
 | succ n ih=>
  intro st R v h;simp only[numL];split
  ·rename_i hd
   have hd':48<=pk s R:=by simp[isDg]at hd;omega
   have:=pk_lt (s:=s) (R:=R) (by omega);split
   ·simp only[fl_pos];exact h
   ·exact ih _ _ _ (by simp only;omega)
  ·simp only;split
   ·rw[fl_pos];exact h
   ·exact h
theorem numS_pos {s:ByteArray}{R:RS}(h:R.pos<=s.size): (numS s R).2.pos<=s.size:=numL_pos _ _ _ _ h
theorem numL_le {s:ByteArray}: ∀(n st:Nat)(R:RS) (v:Nat),st<=R.pos->R.pos+n=st+5->v<10^(R.pos-st)->(numL n s st R v).1<10000:=by
 intro n
 induction n with
 | zero=>intro st R v _ _ _;simp[numL]
 | succ n ih=>
  intro st R v h1 h2 hv;have hv4:v<10000:=Nat.lt_of_lt_of_le hv (Nat.pow_le_pow_right (n:=10) (by omega) (show R.pos-st<=4 by omega));simp only[numL];split
  ·rename_i hd
   have hd':48<=pk s R∧pk s R<=57:=by simpa [isDg]using hd
   split
   ·simp
   ·refine ih _ _ _ (by simp only;omega) (by simp only;omega) ?_;simp only;rw[show R.pos+1-st=(R.pos-st)+1 by omega,Nat.pow_succ];omega
  ·exact hv4
theorem numS_le (s:ByteArray)(R:RS): (numS s R).1<10000:=numL_le _ _ _ _ (l'H _) rfl (by simp)
def hdL: Nat->ByteArray->Nat->RS->List Nat->List Nat×RS
 | 0,_,_,R,ns=>(ns,R)
 | n+1,s,k,R,ns=>
  if 5<=k∧pk s R≠32 then (ns,R)
  else
   let q:=numS s (exS s R 32)
   hdL n s (k+1) q.2 (ns.set k q.1)
def hdS0 (s:ByteArray)(R:RS): Bool×RS:=
 let R1:=exS s R 97
 if pk s R1=105 then (true,exS s ⟨R1.pos+1,R1.e,R1.ep⟩ 103) else (false,exS s (exS s R1 97) 103)
def hdS (s:ByteArray)(R:RS): Bool×List Nat×RS:=
 let a:=hdS0 s R
 let q:=hdL 9 s 0 a.2 [0,0,0,0,0,0,0,0,0]
 (a.1,q.1,exS s q.2 10)
def hdV (b:Bool)(ns:List Nat): Value:=
 .agg #[.bool b,.int .i64 (ns.getD 0 0),.int .i64 (ns.getD 1 0),.int .i64 (ns.getD 2 0),.int .i64 (ns.getD 3 0),.int .i64 (ns.getD 4 0),.int .i64 (ns.getD 5 0),.int .i64 ((ns.getD 6 0+ns.getD 7 0+ns.getD 8 0:Nat):Int)]
structure HI9 (O:HI H) (r:Nat)(s:ByteArray) (b2 b4:Nat)(bn:Bool)(h0:H)(F:List Nat×RS) (n:Nat)(t:Env)(g:H):Prop where
 ex:∃(k:Nat)(R:RS)(ns:List Nat),Rd O g r s R∧Fr O [r,b4] h0 g∧R.pos<=s.size∧k+n=9∧t 5 = .int .i64 k∧ns.length=9∧(∀x∈ns,x<10000)∧(∀i,i<9->O.cell g b4 i=some (.int .i64 (ns.getD i 0)))∧hdL n s k R ns=F
 t0:t 0=ptr r
 t4:t 4=ptr b4
 t2:t 2=ptr b2
 t3:t 3 = .bool bn
theorem loadH (h:H)(b:Nat): loadA Tryz.prog O 78 (.pointer (some ⟨b,0,none⟩)) h=(cellsA O h b 0 8).map λl=>.agg l.toArray:=by
 have hi:(Tryz.prog.info? 78).map (·.size)=some 8:=by kernel_rfl
 cases hx:Tryz.prog.info? 78 with
 | none=>rw[hx]at hi;simp at hi
 | some i=>
  rw[hx]at hi;simp only[l'l,l'a]at hi;simp only[loadA,Tryz.underlying78,hx,hi]
theorem set_get (ns:List Nat)(k v i:Nat)(hk:k<ns.length): (ns.set k v).getD i 0=if i=k then v else ns.getD i 0:=by
 simp only[l'r,List.getElem?_set]
 by_cases e:k=i
 ·subst e;simp[hk]
 ·rw[if_neg e,if_neg (λx=>e x.symm)]
theorem hd_round (C:LP' O ro c)(L:O.Law){r:Nat}{s:ByteArray}{b2 b4:Nat}{bn:Bool}{h0:H}{F:List Nat×RS}(hr:ro<=r)(hb4:ro<=b4)(hne:r≠b4)(hs:s.size<=1000){Q:Exit->Env->H->Prop}
  (hQ:∀t g R ns,Rd O g r s R->Fr O [r,b4] h0 g->R.pos<=s.size->ns.length=9->(∀x∈ns,x<10000)->(∀i,i<9->O.cell g b4 i=some (.int .i64 (ns.getD i 0)))->F=(ns,R)->t 0=ptr r->t 4=ptr b4->t 2=ptr b2->t 3 = .bool bn->Q (.exit 0) t g)
  (n : Nat)(t : Env)(g : H)(hI : HI9 O r s b2 b4 bn h0 F n t g):
  okE c (W45_0 O Tryz.prog ro) (t,g) (λe t' h'=>(e = .normal∧∃n',n'<n∧HI9 O r s b2 b4 bn h0 F n' t' h')∨(e≠.normal∧Q e t' h')):=by
 obtain⟨⟨k,R,ns,d,f,hp,hkn,t5,hlen,hsm,hcell,hF⟩,t0,t4,t2,t3⟩:=hI;have hrob:¬b4<ro:=by omega
 unfold ptr at t0 t4 t2
 by_cases hk:k<9
 ·obtain⟨m,rfl⟩:∃m,n=m+1:=⟨n-1,by omega⟩;have kk:(k:Int)<9:=by omega
  simp only[hdL]at hF;have hpk:=peek_sp C d hs
  by_cases hbr:5<=k∧pk s R≠32
  ·rw[if_pos hbr]at hF;have k5:(5:Int)<=(k:Int):=by omega
   have kp:(pk s R != 32)=true:=by simpa using hbr.2
   have:=hQ;refine f'f ?_;unfold ptr at hpk;simp[W45_0,Zaz,ZaA,t0,t4,t5,hk,kk,hbr.1,k5,hpk,kp];exact hQ _ _ R ns d f hp hlen hsm hcell hF.symm (by simp[t0]) (by simp[t4]) (by simp[t2]) (by simp[t3])
  ·rw[if_neg hbr]at hF;obtain⟨g1,hc1,d1,f1⟩:=expect_sp C L d hr hs 32;have hp1:=exS_pos (s:=s) (R:=R) 32 hp;obtain⟨g2,hc2,d2,f2⟩:=num_sp C L d1 hr hs hp1;have hp2:=numS_pos hp1;have hle:=numS_le s (exS s R 32);generalize numS s (exS s R 32)=q at hc2 d2 hp2 hle hF;have hlt:b4<O.next g:=L.alive_lt _ _ (L.cell_alive _ _ _ _ (hcell 0 (by omega)))
   have hc2b:O.cell g2 b4 k=some (.int .i64 (ns.getD k 0)):=by
    rw[((f1.trans f2).2 b4 hlt (by simp;exact λe=>hne e.symm)).1];exact hcell k hk
   have hcells:∀i,i<9->O.cell (O.put g2 b4 k (.int .i64 q.1)) b4 i=some (.int .i64 ((ns.set k q.1).getD i 0)):=by
    intro i hi;rw[L.cell_put _ _ _ _ _ hc2b,set_get ns k q.1 i (by omega)]
    by_cases e:i=k
    ·simp[e]
    ·rw[if_neg (λx=>e x.2),if_neg e,((f1.trans f2).2 b4 hlt (by simp;exact λe=>hne e.symm)).1];exact hcell i hi
   have d3:Rd O (O.put g2 b4 k (.int .i64 q.1)) r s q.2:=d2.fr L (Fr.put (S:=[b4]) L (by simp) hc2b) (by simpa using hne);have f3:Fr O [r,b4] h0 (O.put g2 b4 k (.int .i64 q.1)):=(f.trans ((f1.trans f2).mono (by simp))).trans (Fr.put L (by simp) hc2b);obtain⟨q1,hq1⟩:=e' (k+1);have hw:IntKind.i64.wrap ((k:Int)+1)=(q1:Int):=w'i;have hc1':c 84 [Value.pointer (some ⟨r,0,none⟩),.int .i64 32] g=some (.tuple #[],g1):=hc1;unfold ptr at hc2 hpk;have hnew:∀t':Env,t' 0 = .pointer (some ⟨r,0,none⟩)->t' 4 = .pointer (some ⟨b4,0,none⟩)->t' 2 = .pointer (some ⟨b2,0,none⟩)->t' 3 = .bool bn->t' 5 = .int .i64 (q1:Int)->∃n',n'<m+1∧HI9 O r s b2 b4 bn h0 F n' t' (O.put g2 b4 k (.int .i64 q.1)):=
    λt' e0 e4 e2 e3 e5=>⟨m,by omega,⟨⟨q1,q.2,ns.set k q.1,d3,f3,hp2,by omega,e5,by simp[hlen],λx hx=>by
     rcases List.mem_or_eq_of_mem_set hx with h|h
     ·exact hsm x h
     ·rw[h];exact hle,hcells,by rw[hq1];exact hF⟩,e0,e4,e2,e3⟩⟩
   refine f'f ?_
   by_cases h5:5<=k
   ·have k5:(5:Int)<=(k:Int):=by omega
    have kp:(pk s R != 32)=false:=by
     have:pk s R=32:=Classical.byContradiction λx=>hbr ⟨h5,x⟩;simpa using this
    simp[W45_0,Zaz,ZaA,ZaB,ZaC,ZaD,t0,t4,t5,hk,kk,h5,k5,hpk,kp,hc1',hc2,hrob,hc2b,hw];exact hnew _ (by simp[t0]) (by simp[t4]) (by simp[t2]) (by simp[t3]) (by simp)
   ·have k5:¬(5:Int)<=(k:Int):=by omega
    simp[W45_0,Zaz,ZaA,ZaB,ZaC,ZaD,t0,t4,t5,hk,kk,h5,k5,hc1',hc2,hrob,hc2b,hw];exact hnew _ (by simp[t0]) (by simp[t4]) (by simp[t2]) (by simp[t3]) (by simp)
 ·have hn0:n=0:=by omega
  subst hn0;have kk:¬(k:Int)<9:=by omega
  simp only[hdL]at hF;refine f'f ?_;simp[W45_0,Zaz,t5,hk,kk];exact hQ _ _ R ns d f hp hlen hsm hcell hF.symm (by simp[t0]) (by simp[t4]) (by simp[t2]) (by simp[t3])
theorem getD_lt {ns:List Nat}(h:∀x∈ns,x<10000)(i:Nat): ns.getD i 0<10000:=by
 rw[l'r]
 cases hx:ns[i]? with
 | none=>simp
 | some v=>simpa using h v (l'f hx)
theorem hd_sp (C:LP' O ro c)(L:O.Law){h:H}{r:Nat}{s:ByteArray}{R:RS}(d:Rd O h r s R)(hr:ro<=r)(hro:ro<=O.next h)(hs:s.size<=1000)(hp:R.pos<=s.size):
  ∃h',c 45 [ptr r] h=some (hdV (hdS s R).1 (hdS s R).2.1,h')∧Rd O h' r s (hdS s R).2.2∧Fr O [r] h h'∧(hdS s R).2.2.pos<=s.size∧(hdS s R).2.1.length=9∧(∀x∈(hdS s R).2.1,x<10000):=by
 obtain⟨b2,hb2⟩:=e' (O.next h);obtain⟨h1,hh1⟩:=e' (O.new h [.bool false,.int .i64 0,.int .i64 0,.int .i64 0,.int .i64 0,.int .i64 0,.int .i64 0,.int .i64 0]);have d1:Rd O h1 r s R:=by rw[hh1];exact d.new L _
 have f1:Fr O [r] h h1:=by rw[hh1];exact Fr.new L _
 have n1:O.next h1=b2+1:=by rw[hh1,L.next_new,hb2]
 have z1:∀i,i<8->∃v,O.cell h1 b2 i=some v:=by
  intro i hi;rw[hh1,L.cell_new,if_pos hb2]
  match i,hi with
  | 0,_=>exact⟨_,rfl⟩
  | 1,_=>exact⟨_,rfl⟩
  | 2,_=>exact⟨_,rfl⟩
  | 3,_=>exact⟨_,rfl⟩
  | 4,_=>exact⟨_,rfl⟩
  | 5,_=>exact⟨_,rfl⟩
  | 6,_=>exact⟨_,rfl⟩
  | 7,_=>exact⟨_,rfl⟩
 obtain⟨h2,hc2,d2,f2⟩:=expect_sp C L d1 hr hs 97;have p2:=exS_pos (s:=s) (R:=R) 97 hp;obtain⟨h3,hc3,d3,f3⟩:=take_sp C L d2 hr hs 105;have hrlt:=d.lt L;have tail:∀(bn:Bool)(R5:RS)(h5:H)(t:Env),Rd O h5 r s R5->Fr O [r] h1 h5->R5.pos<=s.size->t 0=ptr r->t 2=ptr b2->t 3 = .bool bn->(hdS s R=(bn,(hdL 9 s 0 R5 [0,0,0,0,0,0,0,0,0]).1,exS s (hdL 9 s 0 R5 [0,0,0,0,0,0,0,0,0]).2 10)) ->
   okE c (cSeq (cReg (Zax O)) (cSeq (cSeq (cReg Zay) (cBlk 0 (cLoop (W45_0 O Tryz.prog ro)))) (cSeq (cReg ZaE) (cSeq (cReg (ZaF O ro)) cRet)))) (t,h5)
    (fun e t h' => (e = .ret ∨ e = .normal) ∧ ∃ v, resE O Tryz.prog [ResultVar.cell 2 78] t h' = some v ∧ (v = hdV (hdS s R).1 (hdS s R).2.1 ∧ Rd O h' r s (hdS s R).2.2 ∧ Fr O [r] h h' ∧ (hdS s R).2.2.pos ≤ s.size ∧ (hdS s R).2.1.length = 9 ∧ (∀ x ∈ (hdS s R).2.1, x < 10000))) := by
  intro bn R5 h5 t d5 f5 p5 t0 t2 t3 hfin;obtain⟨b4,hb4⟩:=e' (O.next h5);obtain⟨h6,hh6⟩:=e' (O.new h5 [.int .i64 0,.int .i64 0,.int .i64 0,.int .i64 0,.int .i64 0,.int .i64 0,.int .i64 0,.int .i64 0,.int .i64 0]);have d6:Rd O h6 r s R5:=by rw[hh6];exact d5.new L _
  have f6:Fr O [] h5 h6:=by rw[hh6];exact Fr.new L _
  have lt5:O.next h1<=O.next h5:=f5.1
  have hrb:r≠b4:=by omega
  have z6:∀i,i<9->O.cell h6 b4 i=some (.int .i64 (([0,0,0,0,0,0,0,0,0]:List Nat).getD i 0)):=by
   intro i hi;rw[hh6,L.cell_new,if_pos hb4]
   match i,hi with
   | 0,_=>rfl
   | 1,_=>rfl
   | 2,_=>rfl
   | 3,_=>rfl
   | 4,_=>rfl
   | 5,_=>rfl
   | 6,_=>rfl
   | 7,_=>rfl
   | 8,_=>rfl
  refine s'f ?_;simp[Zax,thenE,<-hb4,<-hh6];refine okE.seq (s'f ?_);simp[Zay,thenE];refine okE.blk ?_;refine okE.loop (HI9 O r s b2 b4 bn h6 (hdL 9 s 0 R5 [0,0,0,0,0,0,0,0,0])) (hd_round C L hr (by omega) hrb hs ?_) 9 _ _ ⟨⟨0,R5,_,d6,Fr.refl _ _,p5,rfl,by simp,rfl,by simp,z6,rfl⟩,by simp[t0],by simp,by simp[t2],by simp[t3]⟩;intro t' g R7 ns d7 f7 p7 hlen hsm hcell hF q0 q4 q2 q3;unfold ptr at q0 q4 q2;rw[hF]at hfin;simp only at hfin;simp only[outOf,thenE,if_true];obtain⟨g8,hc8,d8,f8⟩:=expect_sp C L d7 hr hs 10;have p8:=exS_pos (s:=s) (R:=R7) 10 p7;have hc8':c 84 [Value.pointer (some ⟨r,0,none⟩),.int .i64 10] g=some (.tuple #[],g8):=hc8;have lt6:O.next h5+1<=O.next g:=by have:=f7.1;rw[hh6,L.next_new]at this;exact this
  have hb4g:b4<O.next g:=by omega
  have cell8:∀i,i<9->O.cell g8 b4 i=some (.int .i64 (ns.getD i 0)):=λi hi=>by
   rw[(f8.2 b4 hb4g (by simp;exact λe=>hrb e.symm)).1];exact hcell i hi
  have fz:Fr O [r,b4] h1 g8:=((f5.mono (by simp)).trans (f6.mono (by simp))).trans (f7.trans (f8.mono (by simp)));have hb21:b2<O.next h1:=by omega
  have hb2r:b2≠r:=by omega
  have hb24:b2≠b4:=by omega
  have z8:∀i,i<8->∃v,O.cell g8 b2 i=some v:=λi hi=>by
   obtain⟨v,hv⟩:=z1 i hi;exact⟨v,by rw[(fz.2 b2 hb21 (by simp;exact⟨hb2r,hb24⟩)).1];exact hv⟩
  have stores:∀(l:List Value) (o:Nat)(w:H),o+l.length=8->(∀i,i<8->∃v,O.cell w b2 i=some v)->∃w',putsA O w b2 o l=some w'∧(∀i,i<8->O.cell w' b2 i=if o<=i then l[i-o]? else O.cell w b2 i)∧Fr O [b2] w w':=by
   intro l
   induction l with
   | nil=>intro o w ho hz;exact⟨w,rfl,λi hi=>by rw[if_neg (by simp at ho;omega)],Fr.refl _ _⟩
   | cons v l ih=>
    intro o w ho hz;simp only[l'n]at ho;obtain⟨x,hx⟩:=hz o (by omega);obtain⟨w',e1,e2,e3⟩:=ih (o+1) (O.put w b2 o v) (by omega) (λi hi=>by
     rw[L.cell_put _ _ _ _ _ hx]
     by_cases e:i=o
     ·exact⟨v,by simp[e]⟩
     ·rw[if_neg (λy=>e y.2)];exact hz i hi)
    refine⟨w',by simp only[putsA,hx];exact e1,λi hi=>?_,(Fr.put L (by simp) hx).trans e3⟩;rw[e2 i hi]
    by_cases e:i=o
    ·subst e;rw[if_neg (by omega),L.cell_put _ _ _ _ _ hx];simp
    ·by_cases e':o+1<=i
     ·rw[if_pos e',if_pos (by omega),show i-o=(i-(o+1))+1 by omega];simp
     ·rw[if_neg e',if_neg (by omega),L.cell_put _ _ _ _ _ hx,if_neg (λy=>e y.2)]
  have ht:=λi=>getD_lt hsm i;have h67:=ht 6;have h77:=ht 7;have h87:=ht 8;have w1:IntKind.i64.wrap ((ns.getD 6 0:Nat)+(ns.getD 7 0:Nat):Int)=(ns.getD 6 0:Nat)+(ns.getD 7 0:Nat):=w'j;obtain⟨sm,hsm2⟩:=e' (ns.getD 6 0+ns.getD 7 0+ns.getD 8 0);have w2:IntKind.i64.wrap ((ns.getD 6 0:Nat)+(ns.getD 7 0:Nat)+(ns.getD 8 0:Nat):Int)=(sm:Int):=w'i;obtain⟨w',hput,hget,hfr⟩:=stores [.bool bn,.int .i64 (ns.getD 0 0),.int .i64 (ns.getD 1 0),.int .i64 (ns.getD 2 0),.int .i64 (ns.getD 3 0),.int .i64 (ns.getD 4 0),.int .i64 (ns.getD 5 0),.int .i64 sm] 0 g8 rfl z8;have c80:=cell8 0 (by omega);have c81:=cell8 1 (by omega);have c82:=cell8 2 (by omega);have c83:=cell8 3 (by omega);have c84:=cell8 4 (by omega);have c85:=cell8 5 (by omega);have c86:=cell8 6 (by omega);have c87:=cell8 7 (by omega);have c88:=cell8 8 (by omega);have hro2:¬b2<ro:=by omega
  have hcl:cellsA O w' b2 0 8=some [.bool bn,.int .i64 (ns.getD 0 0),.int .i64 (ns.getD 1 0),.int .i64 (ns.getD 2 0),.int .i64 (ns.getD 3 0),.int .i64 (ns.getD 4 0),.int .i64 (ns.getD 5 0),.int .i64 sm]:=by
   simp only[cellsA,hget 0 (by omega),hget 1 (by omega),hget 2 (by omega),hget 3 (by omega),hget 4 (by omega),hget 5 (by omega),hget 6 (by omega),hget 7 (by omega)];rfl
  have d9:Rd O w' r s (exS s R7 10):=d8.fr L hfr (by simpa using λe=>hb2r e.symm);have f9:Fr O [r] h w':=by
   refine⟨by have:=f1.1;have:=fz.1;have:=hfr.1;omega,λx hx hxs=>?_⟩;have a1:=f1.2 x hx hxs;have a2:=fz.2 x (by omega) (by simp at hxs ⊢;exact⟨hxs,by omega⟩);have a3:=hfr.2 x (by have:=fz.1;omega) (by simp;omega);exact⟨λo=>((a3.1 o).trans (a2.1 o)).trans (a1.1 o),(a3.2.trans a2.2).trans a1.2⟩
  have fin:(hdV bn ns=hdV (hdS s R).1 (hdS s R).2.1∧Rd O w' r s (hdS s R).2.2∧Fr O [r] h w'∧(hdS s R).2.2.pos<=s.size∧(hdS s R).2.1.length=9∧(∀x∈(hdS s R).2.1,x<10000)):=by
   rw[hfin];exact⟨rfl,d9,f9,p8,hlen,hsm⟩
  have hv:hdV bn ns = .agg #[.bool bn,.int .i64 (ns.getD 0 0),.int .i64 (ns.getD 1 0),.int .i64 (ns.getD 2 0),.int .i64 (ns.getD 3 0),.int .i64 (ns.getD 4 0),.int .i64 (ns.getD 5 0),.int .i64 sm]:=by rw[hsm2];rfl
  rw[hv]at fin;generalize (hdS s R).1=y1 at *;generalize (hdS s R).2.1=y2 at *;generalize (hdS s R).2.2=y3 at *;generalize ns.getD 0 0=a0 at *;generalize ns.getD 1 0=a1 at *;generalize ns.getD 2 0=a2 at *;generalize ns.getD 3 0=a3 at *;generalize ns.getD 4 0=a4 at *;generalize ns.getD 5 0=a5 at *;generalize ns.getD 6 0=a6 at *;generalize ns.getD 7 0=a7 at *;generalize ns.getD 8 0=a8 at *;refine f'f ?_;simp[ZaE,ZaF,q0,q4,q2,q3,hc8',c80,c81,c82,c83,c84,c85,c86,c87,c88,w1,w2,hput,hro2,loadH,hcl,List.zipIdx,-putsA];exact fin
 have key:∃v h',c 45 [ptr r] h=some (v,h')∧(v=hdV (hdS s R).1 (hdS s R).2.1∧Rd O h' r s (hdS s R).2.2∧Fr O [r] h h'∧(hdS s R).2.2.pos<=s.size∧(hdS s R).2.1.length=9∧(∀x∈(hdS s R).2.1,x<10000)):=by
  refine C.fn (F45_fn O ro) rfl rfl ?_;unfold F45;have hc2':c 84 [Value.pointer (some ⟨r,0,none⟩),.int .i64 97] h1=some (.tuple #[],h2):=hc2;have hc3':c 85 [Value.pointer (some ⟨r,0,none⟩),.int .i64 105] h2=some (.bool (decide (pk s (exS s R 97)=105)),h3):=hc3;refine s'f ?_;simp[Zar,thenE,<-hb2,<-hh1,-resE,-resLE,-rvE];refine s'f ?_;simp[Zas,thenE,hc2',-resE,-resLE,-rvE];refine s'f ?_;simp[Zat,thenE,hc3',-resE,-resLE,-rvE]
  by_cases hbn:pk s (exS s R 97)=105
  ·have d3':Rd O h3 r s ⟨(exS s R 97).pos+1,(exS s R 97).e,(exS s R 97).ep⟩:=by simpa [hbn]using d3
   have hpl:=pk_lt (s:=s) (R:=exS s R 97) (by omega);obtain⟨h5,hc5,d5,f5⟩:=expect_sp C L d3' hr hs 103;have p5:=exS_pos (s:=s) (R:=⟨(exS s R 97).pos+1,(exS s R 97).e,(exS s R 97).ep⟩) 103 (by simp only;omega);have hc5':c 84 [Value.pointer (some ⟨r,0,none⟩),.int .i64 103] h3=some (.tuple #[],h5):=hc5;refine s'f ?_;simp[Zau,hbn,thenE,-resE,-resLE,-rvE];refine s'f ?_;simp[Zaw,hc5',thenE,-resE,-resLE,-rvE];exact tail true _ h5 _ d5 ((f2.trans f3).trans f5) p5 (by simp) (by simp) (by simp) (by simp[hdS,hdS0,hbn])
  ·have d3':Rd O h3 r s (exS s R 97):=by simpa [hbn]using d3
   obtain⟨h4,hc4,d4,f4⟩:=expect_sp C L d3' hr hs 97;have p4:=exS_pos (s:=s) (R:=exS s R 97) 97 p2;obtain⟨h5,hc5,d5,f5⟩:=expect_sp C L d4 hr hs 103;have p5:=exS_pos (s:=s) (R:=exS s (exS s R 97) 97) 103 p4;have hc4':c 84 [Value.pointer (some ⟨r,0,none⟩),.int .i64 97] h3=some (.tuple #[],h4):=hc4;have hc5':c 84 [Value.pointer (some ⟨r,0,none⟩),.int .i64 103] h4=some (.tuple #[],h5):=hc5;refine s'f ?_;simp[Zau,Zav,hbn,hc4',thenE,-resE,-resLE,-rvE];refine s'f ?_;simp[Zaw,hc5',thenE,-resE,-resLE,-rvE];exact tail false _ h5 _ d5 (((f2.trans f3).trans f4).trans f5) p5 (by simp) (by simp) (by simp) (by simp[hdS,hdS0,hbn])
 obtain⟨v,h',e1,rfl,e2⟩:=key;exact⟨h',e1,e2⟩
end
end Go.Proofs.YtimdkminagnhgaaGreatDoor
namespace Go.Proofs.YtimdkminagnhgaaGreatDoor
open Go.Vm Go.Proofs
set_option maxHeartbeats 1000000
section
variable {H:Type}{O:HI H}{ro:Nat}{c:CallT H}
attribute [local simp] cSeq cReg reg to too onlyIf onlyIfo aMove mv' nl' fl' ld' ln' mk' ia' ik' ix' aNil aFld aLd aInt aPick aLenStr aIdxStr aConv aUn unA ev upd_get isB envOf intA cIf cRet cSkip okc_some resE resLE rvE isTup aSt putsA Value.cells isFlat aBuild Instr.fill aCall cExit cBlk outOf ptr undef aNew aBox aIdxArr
structure HD where
 bin:Bool
 top:Nat
 nin:Nat
 nla:Nat
 nou:Nat
 nan:Nat
 nbs:Nat
 oth:Nat
def HD.val (d:HD): Value:=.agg #[.bool d.bin,.int .i64 d.top,.int .i64 d.nin,.int .i64 d.nla,.int .i64 d.nou,.int .i64 d.nan,.int .i64 d.nbs,.int .i64 d.oth]
structure HB (O:HI H)(h:H) (b:Nat)(d:HD):Prop where
 c0:O.cell h b 0=some (.bool d.bin)
 c1:O.cell h b 1=some (.int .i64 d.top)
 c2:O.cell h b 2=some (.int .i64 d.nin)
 c3:O.cell h b 3=some (.int .i64 d.nla)
 c4:O.cell h b 4=some (.int .i64 d.nou)
 c5:O.cell h b 5=some (.int .i64 d.nan)
 c6:O.cell h b 6=some (.int .i64 d.nbs)
 c7:O.cell h b 7=some (.int .i64 d.oth)
theorem HB.lt (L:O.Law){h:H}{b:Nat}{d:HD}(x:HB O h b d): b<O.next h:=L.alive_lt _ _ (L.cell_alive _ _ _ _ x.c0)
theorem HB.fr (L:O.Law){S:List Nat}{h h':H}{b:Nat}{d:HD}(x:HB O h b d)(f:Fr O S h h')(hb:b∉S): HB O h' b d:=by
 have:=(f.2 b (x.lt L) hb).1;exact⟨by rw[this];exact x.c0,by rw[this];exact x.c1,by rw[this];exact x.c2,by rw[this];exact x.c3,by rw[this];exact x.c4,by rw[this];exact x.c5,by rw[this];exact x.c6,by rw[this];exact x.c7⟩
theorem HB.box (L:O.Law)(h:H)(d:HD): HB O (O.new h d.val.cells.toList) (O.next h) d:=by
 constructor <;> rw[L.cell_new,if_pos rfl] <;> rfl
def jd1 (d:HD)(R:RS): RS:=if 80<d.top∨4<d.nin∨6<d.nla∨4<d.nou∨60<d.nan then fl R 3 0 else R
def jd2 (d:HD)(R:RS): RS:=if d.top<d.nin+d.nla+d.nan∨(d.bin=true∧d.nin+d.nla+d.nan≠d.top) then fl R 4 0 else R
def jd3 (d:HD)(R:RS): RS:=if d.oth≠0 then fl R 5 0 else R
def jd4 (d:HD)(R:RS): RS:=if 1<d.nbs∨(d.nbs=0∧d.nou≠1) then fl R 6 0 else R
def jdS (d:HD)(R:RS): RS:=jd4 d (jd3 d (jd2 d (jd1 d R)))
structure HD.Ok (D:HD):Prop where
 ok1:D.top<10000
 ok2:D.nin<10000
 ok3:D.nla<10000
 ok4:D.nou<10000
 ok5:D.nan<10000
 ok6:D.nbs<10000
 ok7:D.oth<30000
theorem judge1 (C:LP' O ro c)(L:O.Law){h:H}{r b:Nat}{s:ByteArray}{R:RS}{D:HD}(d:Rd O h r s R)(x:HB O h b D)(hr:ro<=r)(hne:b≠r){t:Env}(t1:t 1=ptr r)(t2:t 2=ptr b):
  okE c (cSeq (cReg (ZaH O)) (cIf (.tmp 27) (cReg ZaI) cSkip)) (t,h) (λe t' h'=>e = .normal∧t' 1=ptr r∧t' 2=ptr b∧Rd O h' r s (jd1 D R)∧HB O h' b D∧Fr O [r] h h'):=by
 unfold ptr at t1 t2;obtain⟨x0,x1,x2,x3,x4,x5,x6,x7⟩:=id x
 by_cases hbad:80<D.top∨4<D.nin∨6<D.nla∨4<D.nou∨60<D.nan
 ·obtain⟨h2,hc2,d2,f2⟩:=fail_sp C L d hr 3 0;have hc2':c 88 [Value.pointer (some ⟨r,0,none⟩),.int .i64 3,.int .i64 0] h=some (.tuple #[],h2):=hc2;have x2':=x.fr L f2 (by simpa using hne);have fin:Rd O h2 r s (jd1 D R):=by unfold jd1;rw[if_pos hbad];exact d2
  refine f'f ?_
  by_cases k1:80<D.top
  ·have k1':(80:Int)<D.top:=by omega
   simp[ZaH,ZaI,t1,t2,x1,x2,x3,x4,x5,k1,k1',hc2',fin,x2',f2]
  ·have k1':¬(80:Int)<D.top:=by omega
   by_cases k2:4<D.nin
   ·have k2':(4:Int)<D.nin:=by omega
    simp[ZaH,ZaI,t1,t2,x1,x2,x3,x4,x5,k1,k1',k2,k2',hc2',fin,x2',f2]
   ·have k2':¬(4:Int)<D.nin:=by omega
    by_cases k3:6<D.nla
    ·have k3':(6:Int)<D.nla:=by omega
     simp[ZaH,ZaI,t1,t2,x1,x2,x3,x4,x5,k1,k1',k2,k2',k3,k3',hc2',fin,x2',f2]
    ·have k3':¬(6:Int)<D.nla:=by omega
     by_cases k4:4<D.nou
     ·have k4':(4:Int)<D.nou:=by omega
      simp[ZaH,ZaI,t1,t2,x1,x2,x3,x4,x5,k1,k1',k2,k2',k3,k3',k4,k4',hc2',fin,x2',f2]
     ·have k4':¬(4:Int)<D.nou:=by omega
      have k5:60<D.nan:=by omega
      have k5':(60:Int)<D.nan:=by omega
      simp[ZaH,ZaI,t1,t2,x1,x2,x3,x4,x5,k1,k1',k2,k2',k3,k3',k4,k4',k5,k5',hc2',fin,x2',f2]
 ·have fin:Rd O h r s (jd1 D R):=by unfold jd1;rw[if_neg hbad];exact d
  have k1:¬80<D.top:=by omega
  have k2:¬4<D.nin:=by omega
  have k3:¬6<D.nla:=by omega
  have k4:¬4<D.nou:=by omega
  have k5:¬60<D.nan:=by omega
  have k1':¬(80:Int)<D.top:=by omega
  have k2':¬(4:Int)<D.nin:=by omega
  have k3':¬(6:Int)<D.nla:=by omega
  have k4':¬(4:Int)<D.nou:=by omega
  have k5':¬(60:Int)<D.nan:=by omega
  refine f'f ?_;simp[ZaH,ZaI,t1,t2,x1,x2,x3,x4,x5,k1,k1',k2,k2',k3,k3',k4,k4',k5,k5',fin,x,Fr.refl]
theorem judge2 (C:LP' O ro c)(L:O.Law){h:H}{r b:Nat}{s:ByteArray}{R:RS}{D:HD}(ok:D.Ok)(d:Rd O h r s R)(x:HB O h b D)(hr:ro<=r)(hne:b≠r){t:Env}(t1:t 1=ptr r)(t2:t 2=ptr b):
  okE c (cSeq (cReg (ZaJ O)) (cSeq (cReg (ZaK O)) (cIf (.tmp 51) (cReg ZaL) cSkip))) (t,h) (λe t' h'=>e = .normal∧t' 1=ptr r∧t' 2=ptr b∧Rd O h' r s (jd2 D R)∧HB O h' b D∧Fr O [r] h h'):=by
 unfold ptr at t1 t2;obtain⟨x0,x1,x2,x3,x4,x5,x6,x7⟩:=id x;obtain⟨o1,o2,o3,o4,o5,o6,o7⟩:=ok;obtain⟨nm,hnm⟩:=e' (D.nin+D.nla+D.nan);have w1:IntKind.i64.wrap ((D.nin:Int)+D.nla)=(D.nin:Int)+D.nla:=w'j;have w2:IntKind.i64.wrap ((D.nin:Int)+D.nla+D.nan)=(nm:Int):=w'i
 by_cases hbad:D.top<nm∨(D.bin=true∧nm≠D.top)
 ·obtain⟨h2,hc2,d2,f2⟩:=fail_sp C L d hr 4 0;have hc2':c 88 [Value.pointer (some ⟨r,0,none⟩),.int .i64 4,.int .i64 0] h=some (.tuple #[],h2):=hc2;have x2':=x.fr L f2 (by simpa using hne);have fin:Rd O h2 r s (jd2 D R):=by unfold jd2;rw[<-hnm,if_pos hbad];exact d2
  refine f'f ?_
  by_cases k1:D.top<nm
  ·have k1':(D.top:Int)<nm:=by omega
   simp[ZaJ,ZaK,ZaL,t1,t2,x0,x1,x2,x3,x5,w1,w2,k1,k1',hc2',fin,x2',f2]
  ·have k1':¬(D.top:Int)<nm:=by omega
   have kb:D.bin=true:=(hbad.resolve_left k1).1;have kn:((nm:Int) != (D.top:Int))=true:=by have:=(hbad.resolve_left k1).2;simp;omega
   simp[ZaJ,ZaK,ZaL,t1,t2,x0,x1,x2,x3,x5,w1,w2,k1,k1',kb,kn,hc2',fin,x2',f2]
 ·have fin:Rd O h r s (jd2 D R):=by unfold jd2;rw[<-hnm,if_neg hbad];exact d
  have k1:¬D.top<nm:=by omega
  have k1':¬(D.top:Int)<nm:=by omega
  refine f'f ?_
  by_cases kb:D.bin=true
  ·have kn:((nm:Int) != (D.top:Int))=false:=by
    have:nm=D.top:=Classical.byContradiction λe=>hbad (.inr ⟨kb,e⟩);simp;omega
   simp[ZaJ,ZaK,ZaL,t1,t2,x0,x1,x2,x3,x5,w1,w2,k1,k1',kb,kn,fin,x,Fr.refl]
  ·simp[ZaJ,ZaK,ZaL,t1,t2,x0,x1,x2,x3,x5,w1,w2,k1,k1',kb,fin,x,Fr.refl]
theorem judge3 (C:LP' O ro c)(L:O.Law){h:H}{r b:Nat}{s:ByteArray}{R:RS}{D:HD}(d:Rd O h r s R)(x:HB O h b D)(hr:ro<=r)(hne:b≠r){t:Env}(t1:t 1=ptr r)(t2:t 2=ptr b):
  okE c (cSeq (cReg (ZaM O)) (cIf (.tmp 56) (cReg ZaN) cSkip)) (t,h) (λe t' h'=>e = .normal∧t' 1=ptr r∧t' 2=ptr b∧Rd O h' r s (jd3 D R)∧HB O h' b D∧Fr O [r] h h'):=by
 unfold ptr at t1 t2;obtain⟨x0,x1,x2,x3,x4,x5,x6,x7⟩:=id x
 by_cases hbad:D.oth≠0
 ·obtain⟨h2,hc2,d2,f2⟩:=fail_sp C L d hr 5 0;have hc2':c 88 [Value.pointer (some ⟨r,0,none⟩),.int .i64 5,.int .i64 0] h=some (.tuple #[],h2):=hc2;have x2':=x.fr L f2 (by simpa using hne);have fin:Rd O h2 r s (jd3 D R):=by unfold jd3;rw[if_pos hbad];exact d2
  have k1:((D.oth:Int) != 0)=true:=by simp;omega
  refine f'f ?_;simp[ZaM,ZaN,t1,t2,x7,k1,hc2',fin,x2',f2]
 ·have fin:Rd O h r s (jd3 D R):=by unfold jd3;rw[if_neg hbad];exact d
  have k1:((D.oth:Int) != 0)=false:=by simp;omega
  refine f'f ?_;simp[ZaM,ZaN,t1,t2,x7,k1,fin,x,Fr.refl]
theorem judge4 (C:LP' O ro c)(L:O.Law){h:H}{r b:Nat}{s:ByteArray}{R:RS}{D:HD}(d:Rd O h r s R)(x:HB O h b D)(hr:ro<=r)(hne:b≠r){t:Env}(t1:t 1=ptr r)(t2:t 2=ptr b):
  okE c (cSeq (cReg (ZaO O)) (cIf (.tmp 71) (cReg ZaP) cSkip)) (t,h) (λe t' h'=>e = .normal∧t' 1=ptr r∧t' 2=ptr b∧Rd O h' r s (jd4 D R)∧HB O h' b D∧Fr O [r] h h'):=by
 unfold ptr at t1 t2;obtain⟨x0,x1,x2,x3,x4,x5,x6,x7⟩:=id x
 by_cases hbad:1<D.nbs∨(D.nbs=0∧D.nou≠1)
 ·obtain⟨h2,hc2,d2,f2⟩:=fail_sp C L d hr 6 0;have hc2':c 88 [Value.pointer (some ⟨r,0,none⟩),.int .i64 6,.int .i64 0] h=some (.tuple #[],h2):=hc2;have x2':=x.fr L f2 (by simpa using hne);have fin:Rd O h2 r s (jd4 D R):=by unfold jd4;rw[if_pos hbad];exact d2
  refine f'f ?_
  by_cases k1:1<D.nbs
  ·have k1':(1:Int)<D.nbs:=by omega
   simp[ZaO,ZaP,t1,t2,x6,x4,k1,k1',hc2',fin,x2',f2]
  ·have k1':¬(1:Int)<D.nbs:=by omega
   have k2:((D.nbs:Int)==0)=true:=by simp;omega
   have k3:((D.nou:Int) != 1)=true:=by simp;omega
   simp[ZaO,ZaP,t1,t2,x6,x4,k1,k1',k2,k3,hc2',fin,x2',f2]
 ·have fin:Rd O h r s (jd4 D R):=by unfold jd4;rw[if_neg hbad];exact d
  have k1:¬1<D.nbs:=by omega
  have k1':¬(1:Int)<D.nbs:=by omega
  refine f'f ?_
  by_cases k0:D.nbs=0
  ·have k2:((D.nbs:Int)==0)=true:=by simp;omega
   have k3:((D.nou:Int) != 1)=false:=by simp;omega
   simp[ZaO,ZaP,t1,t2,x6,x4,k1,k1',k2,k3,fin,x,Fr.refl]
  ·have k2:((D.nbs:Int)==0)=false:=by simp;omega
   simp[ZaO,ZaP,t1,t2,x6,x4,k1,k1',k2,fin,x,Fr.refl]
theorem judge_sp (C:LP' O ro c)(L:O.Law){h:H}{r:Nat}{s:ByteArray}{R:RS}{D:HD}(ok:D.Ok)(d:Rd O h r s R)(hr:ro<=r):
  ∃h',c 46 [D.val,ptr r] h=some (.tuple #[],h')∧Rd O h' r s (jdS D R)∧Fr O [r] h h':=by
 have hlt:=d.lt L;obtain⟨b,hb⟩:=e' (O.next h);obtain⟨h1,hh1⟩:=e' (O.new h D.val.cells.toList);have d1:Rd O h1 r s R:=by rw[hh1];exact d.new L _
 have f1:Fr O [r] h h1:=by rw[hh1];exact Fr.new L _
 have x1:HB O h1 b D:=by rw[hh1,hb];exact HB.box L h D
 have hne:b≠r:=by omega
 have key:∃v h',c 46 [D.val,ptr r] h=some (v,h')∧(v = .tuple #[]∧Rd O h' r s (jdS D R)∧Fr O [r] h h'):=by
  refine C.fn (F46_fn O ro) rfl rfl ?_;unfold F46;refine s'f ?_;have hbox:okc (cReg (ZaG O) c 0 (envOf [D.val,ptr r],h)) (λe t g=>e = .normal∧g=h1∧t 1=ptr r∧t 2=ptr b):=by
   have:isTup D.val=false:=rfl;simp[ZaG,this,<-hb,<-hh1,-isTup,-Value.cells]
  revert hbox;generalize cReg (ZaG O) c 0 (envOf [D.val,ptr r],h)=q;intro hbox
  cases q with
  | none=>exact hbox.elim
  | some q=>
   obtain⟨e,t,g⟩:=q;obtain⟨rfl,rfl,t1,t2⟩:=hbox;refine okE.seq ((judge1 C L d1 x1 hr hne t1 t2).mono λe t g hq=>?_);obtain⟨rfl,t1,t2,d2,x2,f2⟩:=hq;have j2:=judge2 C L ok d2 x2 hr hne t1 t2;obtain⟨k0,e,t',g',hk,rfl,t1',t2',d3,x3,f3⟩:=j2;have rest:okE c (cSeq (cSeq (cReg (ZaM O)) (cIf (.tmp 56) (cReg ZaN) cSkip)) (cSeq (cReg (ZaO O)) (cIf (.tmp 71) (cReg ZaP) cSkip))) (t',g')
     (fun e t h' => (e = .ret ∨ e = .normal) ∧ ∃ v, resE O Tryz.prog [] t h' = some v ∧ (v = .tuple #[] ∧ Rd O h' r s (jdS D R) ∧ Fr O [r] h h')) := by
    refine okE.seq ((judge3 C L d3 x3 hr hne t1' t2').mono λe t4 g4 hq=>?_);obtain⟨rfl,t1'',t2'',d4,x4,f4⟩:=hq;refine (judge4 C L d4 x4 hr hne t1'' t2'').mono λe t5 g5 hq=>?_;obtain⟨rfl,_,_,d5,x5,f5⟩:=hq;exact⟨.inr rfl,.tuple #[],rfl,rfl,d5,(((f1.trans f2).trans f3).trans f4).trans f5⟩
   obtain⟨k1,e1,t6,g6,hk1,hq1⟩:=rest;refine⟨max k0 k1,e1,t6,g6,λk hkk=>?_,hq1⟩;have a:=hk k (by omega);have b':=hk1 k (by omega);simp only[cSeq]at a b' ⊢;revert a
   cases hA:cReg (ZaJ O) c k (t,g) with
   | none=>intro a;simp at a
   | some qa=>
    obtain⟨ea,sa⟩:=qa
    cases ea with
    | normal=>
     simp only;intro a;rw[a];exact b'
    | _=>intro a;simp at a
 obtain⟨v,h',e1,rfl,e2⟩:=key;exact⟨h',e1,e2⟩
end
end Go.Proofs.YtimdkminagnhgaaGreatDoor
namespace Go.Proofs.YtimdkminagnhgaaGreatDoor
open Go.Vm Go.Proofs
set_option maxHeartbeats 1000000
section
variable {H:Type}{O:HI H}{ro:Nat}{c:CallT H}
attribute [local simp] cSeq cReg reg to too onlyIf onlyIfo aMove mv' nl' fl' ld' ln' mk' ia' ik' ix' aNil aFld aLd aInt aPick aLenStr aIdxStr aConv aUn unA ev upd_get isB envOf intA cIf cRet cSkip okc_some resE resLE rvE isTup aSt putsA Value.cells isFlat aBuild Instr.fill aCall cExit cBlk outOf ptr undef aNew aBox aIdxArr
def nmL: Nat->ByteArray->RS->RS
 | 0,_,R=>R
 | n+1,s,R=>if pk s R = -1∨pk s R=10 then R else nmL n s ⟨R.pos+1,R.e,R.ep⟩
def nmS (s:ByteArray)(R:RS): RS:=
 let R1:=nmL (s.size+1-R.pos) s R
 exS s (if R1.pos=R.pos then fl R1 2 R1.pos else R1) 10
theorem nmL_pos {s:ByteArray}: ∀(n:Nat)(R:RS),R.pos<=s.size->R.pos<=(nmL n s R).pos∧(nmL n s R).pos<=s.size:=by
 intro n
 induction n with
 | zero=>intro R h;exact⟨l'H _,h⟩
 | succ n ih=>
  intro R h;simp only[nmL];split
  ·exact⟨l'H _,h⟩
  ·rename_i hk
   have:=pk_le s R;have:=pk_lt (s:=s) (R:=R) (by omega);have:=ih ⟨R.pos+1,R.e,R.ep⟩ (by simp only;omega);simp only at this;omega
theorem name_sp (C:LP' O ro c)(L:O.Law){h:H}{r:Nat}{s:ByteArray}{R:RS}(d:Rd O h r s R)(hr:ro<=r)(hs:s.size<=1000)(hp:R.pos<=s.size):
  ∃h',c 154 [ptr r] h=some (.tuple #[],h')∧Rd O h' r s (nmS s R)∧Fr O [r] h h':=by
 have hro:¬r<ro:=by omega
 have hpk:=peek_sp C d hs;have c1:=d.c1;have key:∃v h',c 154 [ptr r] h=some (v,h')∧(v = .tuple #[]∧Rd O h' r s (nmS s R)∧Fr O [r] h h'):=by
  refine C.fn (F154_fn O ro) rfl rfl ?_;unfold F154;refine s'f ?_;simp[ZeZ,c1,thenE];refine okE.seq (s'f ?_);unfold ptr at hpk;simp[Ze0,hpk,thenE];refine okE.blk ?_;refine okE.loop (λn t g=>∃R',Rd O g r s R'∧Fr O [r] h g∧t 0=ptr r∧t 2 = .int .i64 R.pos∧t 3 = .int .i64 (pk s R')∧R'.pos<=s.size∧s.size+1<=n+R'.pos∧nmL n s R'=nmL (s.size+1-R.pos) s R) ?_ (s.size+1-R.pos) _ _ ⟨R,d,Fr.refl _ _,by simp,by simp,by simp,hp,by omega,rfl⟩;intro n t g hI;obtain⟨R',d',f',t0,t2,t3,hp',hn,hfin⟩:=hI;have c1':=d'.c1;have hple:=pk_le s R';unfold ptr at t0;obtain⟨m,rfl⟩:∃m,n=m+1:=⟨n-1,by omega⟩;simp only[nmL]at hfin
  by_cases hst:pk s R' = -1∨pk s R'=10
  ·rw[if_pos hst]at hfin;have after:∀t':Env,t' 0 = .pointer (some ⟨r,0,none⟩)->t' 2 = .int .i64 R.pos->okE c (cSeq (cSeq (cReg (Ze4 O)) (cIf (.tmp 30) (cReg (Ze5 O)) cSkip)) (cReg Ze6)) (t',g)
     (fun e t h' => (e = .ret ∨ e = .normal) ∧ Rd O h' r s (nmS s R) ∧ Fr O [r] h h') := by
    intro t' q0 q2
    by_cases hz:R'.pos=R.pos
    ·obtain⟨g2,hc2,d2,f2⟩:=fail_sp C L d' hr 2 R'.pos;obtain⟨g3,hc3,d3,f3⟩:=expect_sp C L d2 hr hs 10;have hc2':c 88 [Value.pointer (some ⟨r,0,none⟩),.int .i64 2,.int .i64 R'.pos] g=some (.tuple #[],g2):=hc2;have hc3':c 84 [Value.pointer (some ⟨r,0,none⟩),.int .i64 10] g2=some (.tuple #[],g3):=hc3;have kz:((R'.pos:Int)==(R.pos:Int))=true:=by simp;omega
     have fin:Rd O g3 r s (nmS s R):=by unfold nmS;simp only;rw[<-hfin,if_pos hz];exact d3
     refine f'f ?_;simp[Ze4,Ze5,Ze6,q0,q2,c1',kz,hc2',hc3',fin,(f'.trans f2).trans f3]
    ·obtain⟨g3,hc3,d3,f3⟩:=expect_sp C L d' hr hs 10;have hc3':c 84 [Value.pointer (some ⟨r,0,none⟩),.int .i64 10] g=some (.tuple #[],g3):=hc3;have kz:((R'.pos:Int)==(R.pos:Int))=false:=by simp;omega
     have fin:Rd O g3 r s (nmS s R):=by unfold nmS;simp only;rw[<-hfin,if_neg hz];exact d3
     refine f'f ?_;simp[Ze4,Ze5,Ze6,q0,q2,c1',kz,hc3',fin,f'.trans f3]
   refine f'f ?_
   by_cases h1:pk s R' = -1
   ·simp[W154_0,Ze1,t3,h1,thenE,-resE,-resLE,-rvE];refine after _ ?_ ?_ <;> simp[t0,t2]
   ·have h1':(pk s R' != -1)=true:=by simpa using h1
    have h2:pk s R'=10:=hst.resolve_left h1;simp[W154_0,Ze1,t3,h1',h2,thenE,-resE,-resLE,-rvE];refine after _ ?_ ?_ <;> simp[t0,t2]
  ·rw[if_neg hst]at hfin;have hpos:=pk_lt (s:=s) (R:=R') (by omega);have h1':(pk s R' != -1)=true:=by simp;omega
   have h2':(pk s R' != 10)=true:=by simp;omega
   obtain⟨q,hq⟩:=e' (R'.pos+1);rw[<-hq]at hfin;obtain⟨d2,f2⟩:=d'.setPos L q;have hpk2:=peek_sp C d2 hs;unfold ptr at hpk2;have hw1:IntKind.i64.wrap ((R'.pos:Int)+1)=(q:Int):=w'i;refine f'f ?_;simp[W154_0,Ze1,Ze2,Ze3,t0,t2,t3,h1',h2',c1',hro,hw1,hpk2];exact⟨m,by omega,_,d2,f'.trans f2,rfl,by simp only;omega,by simp only;omega,hfin⟩
 obtain⟨v,h',h1,rfl,h2,h3⟩:=key;exact⟨h',h1,h2,h3⟩
def symS (D:HD)(s:ByteArray)(R:RS): RS:=
 if pk s R=105∨pk s R=108∨pk s R=111∨pk s R=98 then
  let n:=if pk s R=105 then D.nin else if pk s R=108 then D.nla else if pk s R=111 then D.nou else D.nbs
  let q:=numS s ⟨R.pos+1,R.e,R.ep⟩
  nmS s (exS s (if n<=q.1 then fl q.2 2 (R.pos+1) else q.2) 32)
 else fl R 2 R.pos
theorem sym_sp (C:LP' O ro c)(L:O.Law){h:H}{r:Nat}{s:ByteArray}{R:RS}{D:HD}(d:Rd O h r s R)(hr:ro<=r)(hs:s.size<=1000)(hp:R.pos<=s.size):
  ∃h',c 95 [ptr r,D.val] h=some (.tuple #[],h')∧Rd O h' r s (symS D s R)∧Fr O [r] h h':=by
 have hro:¬r<ro:=by omega
 have hlt:=d.lt L;obtain⟨b,hb⟩:=e' (O.next h);obtain⟨h1,hh1⟩:=e' (O.new h D.val.cells.toList);have d1:Rd O h1 r s R:=by rw[hh1];exact d.new L _
 have f1:Fr O [r] h h1:=by rw[hh1];exact Fr.new L _
 have x1:HB O h1 b D:=by rw[hh1,hb];exact HB.box L h D
 have hne:b≠r:=by omega
 have hpk:=peek_sp C d1 hs;have c1:=d1.c1;unfold ptr at hpk;have htv:isTup D.val=false:=rfl;have hev:∀e0:Env,e0=envOf [ptr r,D.val]->e0 0 = .pointer (some ⟨r,0,none⟩)∧e0 1=D.val:=by intro e0 he;subst he;exact⟨rfl,rfl⟩
 have key:∃v h',c 95 [ptr r,D.val] h=some (v,h')∧(v = .tuple #[]∧Rd O h' r s (symS D s R)∧Fr O [r] h h'):=by
  refine C.fn (F95_fn O ro) rfl rfl ?_;obtain⟨e0,he0⟩:=e' (envOf [ptr r,D.val]);obtain⟨a0,a1⟩:=hev e0 he0;rw[<-he0]
  by_cases hk:pk s R=105∨pk s R=108∨pk s R=111∨pk s R=98
  ·have hpos:=pk_lt (s:=s) (R:=R) (by omega);obtain⟨q,hq⟩:=e' (R.pos+1);obtain⟨d2,f2⟩:=d1.setPos L q;have hw1:IntKind.i64.wrap ((R.pos:Int)+1)=(q:Int):=w'i;have c1q:=d2.c1;have x2:=x1.fr L f2 (by simpa using hne);obtain⟨h3,hc3,d3,f3⟩:=num_sp C L d2 hr hs (by simp only;omega);have p3:=numS_pos (s:=s) (R:=⟨q,R.e,R.ep⟩) (by simp only;omega);have hle:=numS_le s ⟨q,R.e,R.ep⟩;obtain⟨n,hn⟩:=e' (if pk s R=105 then D.nin else if pk s R=108 then D.nla else if pk s R=111 then D.nou else D.nbs);have hfin:symS D s R=nmS s (exS s (if n<=(numS s ⟨q,R.e,R.ep⟩).1 then fl (numS s ⟨q,R.e,R.ep⟩).2 2 q else (numS s ⟨q,R.e,R.ep⟩).2) 32):=by
    unfold symS;rw[if_pos hk,hq,hn]
   generalize numS s ⟨q,R.e,R.ep⟩=u at hc3 d3 p3 hle hfin;have last:∃h6,(∃h4,(if n<=u.1 then c 88 [Value.pointer (some ⟨r,0,none⟩),.int .i64 2,.int .i64 q] h3=some (.tuple #[],h4) else h4=h3)∧∃h5,c 84 [Value.pointer (some ⟨r,0,none⟩),.int .i64 32] h4=some (.tuple #[],h5)∧c 154 [Value.pointer (some ⟨r,0,none⟩)] h5=some (.tuple #[],h6))∧Rd O h6 r s (symS D s R)∧Fr O [r] h3 h6:=by
    by_cases hge:n<=u.1
    ·obtain⟨h4,hc4,d4,f4⟩:=fail_sp C L d3 hr 2 q;obtain⟨h5,hc5,d5,f5⟩:=expect_sp C L d4 hr hs 32;have p5:=exS_pos (s:=s) (R:=fl u.2 2 q) 32 (by rw[fl_pos];exact p3);obtain⟨h6,hc6,d6,f6⟩:=name_sp C L d5 hr hs p5;exact⟨h6,⟨h4,by rw[if_pos hge];exact hc4,h5,hc5,hc6⟩,by rw[hfin,if_pos hge];exact d6,(f4.trans f5).trans f6⟩
    ·obtain⟨h5,hc5,d5,f5⟩:=expect_sp C L d3 hr hs 32;have p5:=exS_pos (s:=s) (R:=u.2) 32 p3;obtain⟨h6,hc6,d6,f6⟩:=name_sp C L d5 hr hs p5;exact⟨h6,⟨h3,by rw[if_neg hge],h5,hc5,hc6⟩,by rw[hfin,if_neg hge];exact d6,f5.trans f6⟩
   obtain⟨h6,⟨h4,e4,h5,e5,e6⟩,d6,f6⟩:=last;have ff:=((f1.trans f2).trans f3).trans f6;unfold ptr at hc3;have rest:∀t':Env,t' 0 = .pointer (some ⟨r,0,none⟩)->t' 4 = .int .i64 n->okE c (cSeq (cReg (Zdy O ro)) (cSeq (cReg (Zdz O)) (cSeq (cReg ZdA) (cSeq (cSeq (cReg ZdB) (cIf (.tmp 46) (cReg ZdC) cSkip)) (cSeq (cReg ZdD) (cReg ZdE)))))) (t',h1)
     (fun e t h' => (e = .ret ∨ e = .normal) ∧ ∃ v, resE O Tryz.prog [] t h' = some v ∧ (v = .tuple #[] ∧ Rd O h' r s (symS D s R) ∧ Fr O [r] h h')) := by
    intro t' q0 q4;refine f'f ?_
    by_cases hge:n<=u.1
    ·rw[if_pos hge]at e4;have hge':(n:Int)<=u.1:=by omega
     simp[Zdy,Zdz,ZdA,ZdB,ZdC,ZdD,ZdE,q0,q4,c1,hro,hw1,c1q,hc3,hge,hge',e4,e5,e6,d6,ff]
    ·rw[if_neg hge]at e4;subst e4;have hge':¬(n:Int)<=u.1:=by omega
     simp[Zdy,Zdz,ZdA,ZdB,ZdC,ZdD,ZdE,q0,q4,c1,hro,hw1,c1q,hc3,hge,hge',e5,e6,d6,ff]
   unfold F95;refine s'f ?_;simp[Zdm,a1,htv,<-hb,<-hh1,thenE,-isTup,-Value.cells,-resE,-resLE,-rvE];refine s'f ?_;simp[Zdn,thenE,-resE,-resLE,-rvE];refine okE.seq (s'f ?_);simp[Zdo,a0,hpk,thenE,-resE,-resLE,-rvE];refine okE.blk (f'f ?_);obtain⟨x10,x11,x12,x13,x14,x15,x16,x17⟩:=x1;rcases hk with hk|hk|hk|hk
   ·simp[Zdp,Zdq,hk,x12,thenE,-resE,-resLE,-rvE];exact rest _ (by simp[a0]) (by simp[hn,hk])
   ·simp[Zdp,Zdr,Zds,hk,x13,thenE,-resE,-resLE,-rvE];exact rest _ (by simp[a0]) (by simp[hn,hk])
   ·simp[Zdp,Zdr,Zdt,Zdu,hk,x14,thenE,-resE,-resLE,-rvE];exact rest _ (by simp[a0]) (by simp[hn,hk])
   ·simp[Zdp,Zdr,Zdt,Zdv,Zdw,hk,x16,thenE,-resE,-resLE,-rvE];exact rest _ (by simp[a0]) (by simp[hn,hk])
  ·have k1:(pk s R==105)=false:=by simp;omega
   have k2:(pk s R==108)=false:=by simp;omega
   have k3:(pk s R==111)=false:=by simp;omega
   have k4:(pk s R==98)=false:=by simp;omega
   obtain⟨h2,hc2,d2,f2⟩:=fail_sp C L d1 hr 2 R.pos;have hc2':c 88 [Value.pointer (some ⟨r,0,none⟩),.int .i64 2,.int .i64 R.pos] h1=some (.tuple #[],h2):=hc2;have fin:Rd O h2 r s (symS D s R):=by unfold symS;rw[if_neg hk];exact d2
   refine f'f ?_;simp[F95,Zdm,Zdn,Zdo,Zdp,Zdr,Zdt,Zdv,Zdx,a0,a1,htv,<-hb,<-hh1,hpk,k1,k2,k3,k4,c1,hc2',fin,f1.trans f2,-isTup,-Value.cells]
 obtain⟨v,h',e1,rfl,e2⟩:=key;exact⟨h',e1,e2⟩
end
end Go.Proofs.YtimdkminagnhgaaGreatDoor
