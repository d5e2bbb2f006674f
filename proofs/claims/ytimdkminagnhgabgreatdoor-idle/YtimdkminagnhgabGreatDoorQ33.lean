import Derived.Test.YtimdkminagnhgabGreatDoorQ28
import Derived.Test.YtimdkminagnhgabGreatDoorQ32
set_option linter.unusedVariables false
set_option linter.unusedSimpArgs false
namespace Go.Ta
def catS (l:List ByteArray): ByteArray:=l.foldl (·++·) ⟨#[]⟩
theorem catS_app (l:List ByteArray)(x:ByteArray): catS (l++[x])=catS l++x:=by
 unfold catS;rw[List.foldl_append];rfl
theorem foldS_size (k:Nat): ∀(l:List ByteArray)(s:ByteArray),(∀x∈l,x.size<=k)->(l.foldl (·++·) s).size<=s.size+k*l.length:=by
 intro l
 induction l with
 | nil=>intro s _;simp
 | cons x l ih=>
  intro s h;have h1:=ih (s++x) (λy hy=>h y (by simp[hy]));have h2:=h x (by simp);rw[l'v]at h1;rw[List.foldl_cons,l'n,Nat.mul_add];omega
theorem catS_size (k:Nat)(l:List ByteArray)(h:∀x∈l,x.size<=k): (catS l).size<=k*l.length:=by
 have h1:=foldS_size k l ⟨#[]⟩ h;have h0:(⟨#[]⟩:ByteArray).size=0:=rfl;unfold catS;omega
end Go.Ta
namespace Go.Ta
theorem addsP_k: ∀(l:List (List Nat))(Z Z':Solv),addsP l Z=some Z'->ZOk Z->ZOk Z'∧Z'.early=Z.early:=by
 intro l
 induction l with
 | nil=>intro Z Z' h z;simp only[addsP,l'a]at h;subst h;exact⟨z,rfl⟩
 | cons a r ih=>
  intro Z Z' h z;unfold addsP at h;split at h
  ·simp at h
  ·rename_i Z1 h1
   obtain⟨z1,e1,-⟩:=addP_ok h1 z;obtain⟨z2,e2⟩:=ih _ _ h z1;exact⟨z2,by rw[e2,e1]⟩
end Go.Ta
namespace Go.Proofs.YtimdkminagnhgabGreatDoor
open Go.Vm Go.Proofs Go.Ta
set_option maxHeartbeats 4000000
attribute [local simp] cSeq cReg reg to too onlyIf onlyIfo aMove mv' nl' fl' ld' ln' mk' ia' ik' ix' aNil aFld aLd aInt aPick aConv aUn unA ev upd_get isB envOf iA_add iA_sub iA_mul iA_eql iA_neq iA_lss iA_leq iA_gtr iA_geq cIf cRet cSkip okc_some aSt vc_int vc_bool vc_agg vc_str vc_ptr vc_sl ft_int ft_bool ft_str ft_ptr ft_sl tp_int tp_bool tp_agg tp_str tp_ptr tp_sl aBuild Instr.fill aCall cExit cBlk outOf ptr undef aNew aBox aIdxArr aLdN aShift aLenSl aIdx aMkSl aApp rangeA aExt aPtrNil aSlNil aBoolEq aMake aSliceSl boundA chk
section
variable {H:Type}{O:HI H}{ro:Nat}{c:CallT H}
variable {w w':Own}{h h':H}{q:Nat}{S:Srch}{bW bH bV:Nat}{vA vC vT vS vK:Value}{lv wv:List Value}
variable {cp:Nat}{N:Ck}{v1 v2:Value}
attribute [local simp] aStr strA aLenStr
theorem itoa_s (C:LP' O ro c)(h:H)(n:Nat)(hn:n<100): c 48 [ni n] h=some (.string (decS n),h):=by
 have e1:=small_b C h n hn;have h1':(n:Int)<100:=by omega
 have e0:c 130 [.int .i64 (n:Nat),.int .i64 10] h=some (.string (decS n),h):=by
  refine C.eq (F130_fn O ro) rfl rfl ?_;unfold F130;refine s'f ?_;simp[Zpr,thenE];refine okE.seq (s'f ?_);simp[Zps,thenE];refine okE.cond true (by simp) ?_;simp only[if_true];refine s'f ?_;simp[Zpt,Zpu,hn,h1',e1,thenE,resE,resLE,rvE]
 have e2:c 90 [.int .i64 (n:Nat)] h=some (.string (decS n),h):=by
  refine C.eq (F90_fn O ro) rfl rfl (f'f ?_);simp[F90,ZkL,ZkM,e0,resE,resLE,rvE]
 refine C.eq (F48_fn O ro) rfl rfl (f'f ?_);simp[F48,ZkH,ZkI,e2,resE,resLE,rvE]
theorem decS_size (n:Nat): (decS n).size<=3:=by
 unfold decS;split
 ·simp[ByteArray.size]
 ·split <;> simp[ByteArray.size]
def bitB (st i:Nat): List ByteArray:=(List.range i).map λj=>decS (st/2^j%2)
def bitS (st count:Nat): ByteArray:=catS (bitB st count)++⟨#[10]⟩
theorem bitB_size (st i:Nat): (catS (bitB st i)).size<=3*i:=by
 have:=catS_size 3 (bitB st i) (by intro x hx;simp only[bitB,List.mem_map]at hx;obtain⟨j,-,rfl⟩:=hx;exact decS_size _);simpa [bitB]using this
def BlI (st count:Nat)(h:H)(n:Nat)(t:Env)(g:H): Prop:=
 g=h∧t 0=ni st∧t 1=ni count∧∃i,t 5 = .string (catS (bitB st i))∧t 6=ni i∧i+n=count
theorem bitLine_q (C:LP' O ro c)(st count:Nat)(hst:st<9223372036854775808)(hc:count<=60): c 129 [ni st,ni count] h=some (.string (bitS st count),h):=by
 have key:∃u h',c 129 [ni st,ni count] h=some (u,h')∧(u = .string (bitS st count)∧h'=h):=by
  refine C.fn (F129_fn O ro) rfl rfl ?_;unfold F129;refine s'f ?_;simp[ZnO,thenE];refine s'f ?_;simp[ZnP,thenE];refine okE.seq (s'f ?_);simp[ZnQ,thenE];refine okE.blk ?_;refine okE.mono (okE.loop (Q:=λe t' g'=>outOf 0 e = .normal∧g'=h∧t' 5 = .string (catS (bitB st count))) (BlI st count h) ?_ count _ _ ⟨rfl,by simp,by simp,0,by simp[bitB,catS],by simp,by omega⟩) ?_
  ·rintro n t g ⟨rfl,d0,d1,i,d5,d6,hin⟩
   cases n with
   | zero=>
    obtain rfl:i=count:=by omega
    refine f'f ?_;simp[W129_0,ZnR,d0,d1,d5,d6]
   | succ n=>
    have hi:i<count:=by omega
    have hi':(i:Int)<count:=by omega
    have hsh:=shr_nat st i (by omega);have hand:=and_one (st/2^i) (by have:=Nat.div_le_self st (2^i);omega);have e1:=itoa_s C g (st/2^i%2) (by have:=Nat.mod_lt (st/2^i) (show 0<2 by omega);omega);have hsz:=bitB_size st i;have hsz2:=decS_size (st/2^i%2);have hb:bitB st (i+1)=bitB st i++[decS (st/2^i%2)]:=by simp[bitB,l'B]
    have hcat:=catS_app (bitB st i) (decS (st/2^i%2));rw[<-hb]at hcat;have hle:(catS (bitB st i)).size+(decS (st/2^i%2)).size<=9223372036854775807:=by omega
    have hwi:IntKind.i64.wrap ((i:Int)+1)=((i+1:Nat):Int):=by rw[wrap_id (by omega) (by omega)];omega
    obtain⟨i',hi2⟩:∃i',i'=i+1:=⟨_,rfl⟩;rw[<-hi2]at hwi hcat;generalize hz:st/2^i=z at *;generalize hz2:z%2=z2 at *;generalize hs1:catS (bitB st i)=s1 at *;generalize hs2:decS z2=s2 at *;refine f'f ?_;simp[W129_0,ZnR,ZnS,ZnT,d0,d1,d5,d6,hi,hi',hsh,hand,e1,hle,hwi];exact⟨n,by omega,rfl,by simp[d0],by simp[d1],i',by simp[hcat],by simp,by omega⟩
  ·rintro e t g ⟨hr,rfl,d5⟩;rw[hr];simp only[thenE];have hsz:=bitB_size st count;have hle:(catS (bitB st count)).size+1<=9223372036854775807:=by omega
   unfold bitS;generalize catS (bitB st count)=s1 at *;have h1:(⟨#[10]⟩:ByteArray).size=1:=rfl;refine f'f ?_;simp[ZnU,d5,h1,hle,resE,resLE,rvE]
 obtain⟨u,h',e1,rfl,rfl⟩:=key;exact e1
def clB (cl:List Nat)(i:Nat): ByteArray:=(cl.take i).zipIdx.foldl (λs p=>((if 0<p.2 then s++⟨#[32]⟩ else s) |> λs=>if p.1%2=1 then s++⟨#[45]⟩ else s)++(⟨#[108]⟩++decS (p.1/2))) ⟨#[]⟩
def clS (cl:List Nat): ByteArray:=clB cl cl.length++⟨#[10]⟩
theorem clB_succ {cl:List Nat}{i x:Nat}(hx:cl[i]?=some x): clB cl (i+1)=((if 0<i then clB cl i++⟨#[32]⟩ else clB cl i) |> λs=>if x%2=1 then s++⟨#[45]⟩ else s)++(⟨#[108]⟩++decS (x/2)):=by
 have hi:=(l'b.1 hx).1;unfold clB;rw[l'C,hx,List.zipIdx_append,List.foldl_append];simp[Nat.min_eq_left (Nat.le_of_lt hi)]
theorem clB_size {cl:List Nat}: ∀i,i<=cl.length->(clB cl i).size<=6*i:=by
 intro i
 induction i with
 | zero=>intro _;exact l'H 0
 | succ i ih=>
  intro hi;obtain⟨x,hx⟩:∃x,cl[i]?=some x:=⟨_,l'c (by omega)⟩;rw[clB_succ hx];have h1:=ih (by omega);have h2:=decS_size (x/2);have h3:(⟨#[32]⟩:ByteArray).size=1:=rfl;have h4:(⟨#[45]⟩:ByteArray).size=1:=rfl;have h5:(⟨#[108]⟩:ByteArray).size=1:=rfl;simp only[l'v,h5];split
  ·simp only[l'v,h4];split
   ·simp only[l'v,h3];omega
   ·omega
  ·split
   ·simp only[l'v,h3];omega
   ·omega
def ClnI (vl:Value)(cl:List Nat)(h:H)(n:Nat)(t:Env)(g:H): Prop:=
 g=h∧t 0=vl∧∃i,t 3 = .string (clB cl i)∧t 4=ni i∧i+n=cl.length
theorem clauseLine_q (C:LP' O ro c){tl:Tag}{vl:Value}{cl:List Nat}(hcl:cl.length<=192)(hx:∀x∈cl,x/2<60)(sl:Sm O ro w h tl 1 vl (cl.map ni)): c 128 [vl] h=some (.string (clS cl),h):=by
 have key:∃u h',c 128 [vl] h=some (u,h')∧(u = .string (clS cl)∧h'=h):=by
  refine C.fn (F128_fn O ro) rfl rfl ?_;unfold F128;refine s'f ?_;simp[ZnD,thenE];refine s'f ?_;simp[ZnE,thenE];refine okE.seq (s'f ?_);simp[ZnF,thenE];refine okE.blk ?_;refine okE.mono (okE.loop (Q:=λe t' g'=>outOf 0 e = .normal∧g'=h∧t' 3 = .string (clB cl cl.length)) (ClnI vl cl h) ?_ cl.length _ _ ⟨rfl,by simp,0,by simp[clB],by simp,by omega⟩) ?_
  ·rintro n t g ⟨rfl,d0,i,d3,d4,hin⟩
   cases n with
   | zero=>
    obtain rfl:i=cl.length:=by omega
    obtain⟨aL,cL,hvl⟩:=sl.len (by omega) cl.length (by simp);rw[hvl]at d0;refine f'f ?_;simp[W128_0,ZnG,d0,d3,d4]
   | succ n=>
    have hi:i<cl.length:=by omega
    have hi':(i:Int)<cl.length:=by omega
    obtain⟨bL,cpp,e8,hcp,yl⟩:=sl.blk (by omega) cl.length (by simp) (by omega);have d0':=d0;rw[e8]at d0';obtain⟨a,ha⟩:∃a,cl[i]?=some a:=⟨_,l'c hi⟩;have hcell:O.cell g bL i=some (ni a):=by rw[yl.cell i (by simpa using hi)];simp[ha]
    have hxa:=hx a (l'f ha);have hsh:=shr_one a;have hand:=and_one a (by omega);have e1:=itoa_s C g (a/2) (by omega);have hsz:=clB_size (cl:=cl) i (by omega);have hsz2:=decS_size (a/2);have hsucc:=clB_succ ha;have hwi:IntKind.i64.wrap ((i:Int)+1)=((i+1:Nat):Int):=by rw[wrap_id (by omega) (by omega)];omega
    obtain⟨i',hi2⟩:∃i',i'=i+1:=⟨_,rfl⟩;rw[<-hi2]at hwi hsucc;have h3:(⟨#[32]⟩:ByteArray).size=1:=rfl;have h4:(⟨#[45]⟩:ByteArray).size=1:=rfl;have h5:(⟨#[108]⟩:ByteArray).size=1:=rfl;have hmod:=Nat.mod_lt a (show 0<2 by omega);generalize hs1:clB cl i=s1 at *;generalize hs2:decS (a/2)=s2 at *;generalize a/2=dd at *;generalize a%2=ee at *;refine s'f ?_;simp[ZnG,thenE,d0',d4,hi,hi'];refine okE.seq (okE.blk ?_);obtain⟨sa,hsa⟩:∃sa,sa=(if 0<i then s1++⟨#[32]⟩ else s1):=⟨_,rfl⟩;have hsza:sa.size<=6*i+1:=by
     rw[hsa];split
     ·rw[l'v,h3];omega
     ·omega
    obtain⟨sb,hsb⟩:∃sb,sb=(if ee=1 then sa++⟨#[45]⟩ else sa):=⟨_,rfl⟩;have hszb:sb.size<=6*i+2:=by
     rw[hsb];split
     ·rw[l'v,h4];omega
     ·omega
    rw[<-hsa]at hsucc;simp only[<-hsb]at hsucc;have hle1:s1.size+1<=9223372036854775807:=by omega
    have hle2:sa.size+1<=9223372036854775807:=by omega
    have hle3:1+s2.size<=9223372036854775807:=by omega
    have hle4:sb.size+(1+s2.size)<=9223372036854775807:=by omega
    refine okE.seq (okE.mono (Q:=λe t' g'=>e = .normal∧g'=g∧t' 0=t 0∧t' 4=t 4∧t' 3 = .string sa) ?_ ?_)
    ·by_cases h0:0<i
     ·have h0':(0:Int)<i:=by omega
      rw[if_pos h0]at hsa;refine f'f ?_;simp[ZnH,ZnI,d3,d4,h0,h0',h3,hle1,hsa]
     ·have h0':¬(0:Int)<i:=by omega
      rw[if_neg h0]at hsa;refine f'f ?_;simp[ZnH,d3,d4,h0,h0',hsa]
    ·rintro e t1 g1 ⟨rfl,rfl,q0,q4,q3⟩;rw[d0']at q0;rw[d4]at q4;simp only[thenE];refine okE.seq (okE.mono (Q:=λe t' g'=>e = .normal∧g'=g1∧t' 0=t1 0∧t' 4=t1 4∧t' 3 = .string sb) ?_ ?_)
     ·by_cases h0:ee=1
      ·subst h0;rw[if_pos rfl]at hsb;refine f'f ?_;simp[ZnJ,ZnK,q0,q3,q4,hi,hi',hcell,hand,h4,hle2,hsb]
      ·have h0':ee=0:=by omega
       subst h0';rw[if_neg (by omega)]at hsb;refine f'f ?_;simp[ZnJ,q0,q3,q4,hi,hi',hcell,hand,hsb]
     ·rintro e t2 g2 ⟨rfl,rfl,r0,r4,r3⟩;rw[q0]at r0;rw[q4]at r4;simp only[thenE];refine f'f ?_;simp[ZnL,thenE,r0,r3,r4,hi,hi',hcell,hsh,e1,h5,hle3,hle4,l'v];refine f'f ?_;simp[ZnM,r4,hwi];exact⟨n,by omega,rfl,by simp[r0,e8],i',by simp[hsucc],by simp,by omega⟩
  ·rintro e t g ⟨hr,rfl,d5⟩;rw[hr];simp only[thenE];have hsz:=clB_size (cl:=cl) cl.length (l'H _);have hle:(clB cl cl.length).size+1<=9223372036854775807:=by omega
   unfold clS;generalize clB cl cl.length=s1 at *;have h1:(⟨#[10]⟩:ByteArray).size=1:=rfl;refine f'f ?_;simp[ZnN,d5,h1,hle,resE,resLE,rvE]
 obtain⟨u,h',e1,rfl,rfl⟩:=key;exact e1
end
section
variable {H:Type}{O:HI H}{ro:Nat}{c:CallT H}
variable {w w':Own}{h h':H}{q:Nat}{S:Srch}{bW bH bV:Nat}{vA vC vT vS vK:Value}{lv wv:List Value}
variable {cp:Nat}{N:Ck}{v1 v2:Value}
attribute [local simp] aStr strA aLenStr
def firstP (R:Rn): Nat:=(R.way.getLast?.getD (0,0)).1
theorem first_q (C:LP' O ro c)(L:O.Law){r:Nat}{R:Rn}{bud:Int}{vF vW vP:Value}{fs:List (Nat×Value)}(x:RN O ro w h r R bud cp N v1 v2 vF vW vP fs)(k:RnK N R): c 87 [ptr r] h=some (ni (firstP R),h):=by
 have hm:most=1000000:=rfl;have wl:=k.wl;have m4:=x.m.get 4 _ rfl;unfold firstP
 cases hw:R.way.getLast? with
 | none=>
  have hw0:R.way=[]:=by simpa using hw
  obtain⟨aW,cW,hvW⟩:=x.sW.m.len (by omega) 0 (by rw[hw0];rfl);rw[hvW]at m4;refine C.eq (F87_fn O ro) rfl rfl (f'f ?_);simp[F87,Zmw,Zmx,Zmy,m4,resE,resLE,rvE]
 | some y=>
  obtain⟨st,inp⟩:=y;have h0:0<R.way.length:=by
   rcases Nat.eq_zero_or_pos R.way.length with h|h
   ·rw[List.eq_nil_of_length_eq_zero h]at hw;simp at hw
   ·exact h
  obtain⟨bw,hvW,hst,sw⟩:=x.wayL L h0 hw;obtain⟨n1,hn1⟩:∃n1,R.way.length=n1+1:=⟨R.way.length-1,by omega⟩;rw[hvW,hn1]at m4;rw[show R.way.length-1=n1 by omega]at hst;have hwn:IntKind.i64.wrap (n1:Int)=(n1:Int):=wrap_id (by omega) (by omega);have hn1':(n1:Int)<(n1:Int)+1:=by omega
  have hne:((n1:Int)+1==0)=false:=by rw[l'A];omega
  have hne':¬((n1:Int)+1=0):=by omega
  refine C.eq (F87_fn O ro) rfl rfl ?_;unfold F87;refine s'f ?_;simp[Zmw,thenE];refine s'f ?_;simp[Zmx,thenE,m4,hne,hne'];refine f'f ?_;simp[Zmz,m4,hwn,hn1',hst,resE,resLE,rvE]
def inputsP (R:Rn): List Nat:=(R.way.map (·.2)).reverse
def InI (O:HI H)(ro:Nat)(w:Own)(h:H)(k0 r:Nat)(R:Rn)(n:Nat)(t:Env)(g:H): Prop:=
 t 0 = .pointer (some ⟨r,0,none⟩)∧t 4 = .int .i64 ((n:Int)-1)∧n<=R.way.length∧∃v,t 3=v∧GrI O ro w h k0 v (((R.way.drop n).map (·.2)).reverse) g
theorem inputs_q (C:LP' O ro c)(L:O.Law){r:Nat}{R:Rn}{bud:Int}{vF vW vP:Value}{fs:List (Nat×Value)}(x:RN O ro w h r R bud cp N v1 v2 vF vW vP fs)(k:RnK N R)(t1:Tag):
  ∃v h' w',c 88 [ptr r] h=some (v,h')∧Sm O ro w' h' t1 1 v ((inputsP R).map ni)∧Ch O (λ_=>False) w h w' h'∧ro<=O.next h':=by
 have hm:most=1000000:=rfl;have wl:=k.wl;obtain⟨k0,hk0⟩:=fresh_tag w (O.next h);have hwlen:=flat_len prC 2 prC_len R.way;have key:∃u h',c 88 [ptr r] h=some (u,h')∧GrI O ro w h k0 u (inputsP R) h':=by
  refine C.fn (F88_fn O ro) rfl rfl ?_;unfold F88;refine s'f ?_;simp[ZmA,thenE];refine s'f ?_;simp[ZmB,thenE];have gr0:=GrI.new (w:=w) (k0:=k0) L x.lo;obtain⟨w0,s0,c0,lo0⟩:=id gr0;have m40:=(x.m.ch L c0 (by simp)).get 4 _ rfl;obtain⟨aW,cW,hvW⟩:=x.sW.m.len (by omega) R.way.length hwlen;have hw0:IntKind.i64.wrap ((R.way.length:Int)-1)=(R.way.length:Int)-1:=wrap_id (by omega) (by omega);obtain⟨z0,hz0⟩:∃z0,z0=(R.way.length:Int)-1:=⟨_,rfl⟩;rw[<-hz0]at hw0;have hw0':IntKind.i64.wrap ((R.way.length:Int)-1)=z0:=by rw[<-hz0];exact hw0
  rw[hvW]at m40;refine okE.seq (s'f ?_);simp[ZmC,thenE,m40,hw0'];refine okE.blk ?_;refine okE.mono (okE.loop (Q:=λe t' g'=>outOf 0 e = .normal∧GrI O ro w h k0 (t' 3) (inputsP R) g') (InI O ro w h k0 r R) ?_ R.way.length _ _ ⟨by simp,by simp[hz0],l'H _,.slice (some ⟨O.next h,0,some 1⟩) 0 1,by simp,by rw[List.drop_length];exact gr0⟩) ?_
  ·rintro n t g ⟨d0,d4,hnl,v,d3,gr⟩;obtain⟨w1,s1,c1,lo1⟩:=id gr;have x1:=x.keep L c1;have m4:=x1.m.get 4 _ rfl
   cases n with
   | zero=>
    rw[List.drop_zero]at gr;refine f'f ?_;simp[W88_0,ZmD,d0,d3,d4];exact gr
   | succ n=>
    have hi:n<R.way.length:=by omega
    have hi':(n:Int)<R.way.length:=by omega
    obtain⟨bw,e8,yw⟩:=x1.sW.blk (by omega) R.way.length hwlen (by omega);rw[e8]at m4;obtain⟨⟨st,inp⟩,hy⟩:∃y,R.way[n]?=some y:=⟨_,l'c hi⟩;have hcell:O.cell g bw (n*2+1)=some (ni inp):=by
     have h1:=flat_at prC 2 prC_len R.way n hi 1 (by omega);rw[yw.cell _ (by omega),h1,(l'b.1 hy).2];rfl
    obtain⟨v3,g3,e3,gr3⟩:=gr.app L hk0 inp (by simp;omega);have hst2:((R.way.drop (n+1)).map (·.2)).reverse++[inp]=((R.way.drop n).map (·.2)).reverse:=by
     rw[l's hi,(l'b.1 hy).2];simp
    rw[hst2]at gr3;have hz1:((n+1:Nat):Int)-1=(n:Int):=by omega
    rw[hz1]at d4;have hw1:IntKind.i64.wrap ((n:Int)-1)=(n:Int)-1:=wrap_id (by omega) (by omega);obtain⟨z1,hzz⟩:∃z1,z1=(n:Int)-1:=⟨_,rfl⟩;have hw1':IntKind.i64.wrap ((n:Int)-1)=z1:=by rw[hzz];exact hw1
    refine f'f ?_;simp[W88_0,ZmD,ZmE,ZmF,d0,d3,d4,m4,hi,hi',hcell,e3,hw1'];exact⟨n,by omega,by simp[d0],by simp[hzz],by omega,v3,by simp,gr3⟩
  ·rintro e t g ⟨hr,gr⟩;rw[hr];simp only[thenE];refine f'f ?_;have tv:=gr.tup;simp[ZmG,resE,resLE,rvE,tv];exact gr
 obtain⟨u,h',e1,gr⟩:=key;obtain⟨w2,s2,c2,lo2⟩:=gr.give hk0 t1;exact⟨u,h',w2,e1,s2,c2,lo2⟩
def unsB (N:Ck)(st:Nat)(ins:List Nat): ByteArray:=ins.foldl (λs x=>s++bitS x N.ni) (⟨#[49,10,98,48,10]⟩++bitS st N.las.length)
def unsS (N:Ck)(R:Rn): ByteArray:=unsB N (firstP R) (inputsP R)++⟨#[46,10]⟩
theorem bitS_size (st n:Nat): (bitS st n).size<=3*n+1:=by
 have h1:=bitB_size st n;have h2:(⟨#[10]⟩:ByteArray).size=1:=rfl;unfold bitS;rw[l'v];omega
theorem unsB_succ {N:Ck}{st x i:Nat}{ins:List Nat}(hx:ins[i]?=some x): unsB N st (ins.take (i+1))=unsB N st (ins.take i)++bitS x N.ni:=by
 unfold unsB;rw[l'C,hx,List.foldl_append];rfl
theorem unsB_size {N:Ck}{st:Nat}{ins:List Nat}(h1:N.ni<=60)(h2:N.las.length<=60): ∀i,i<=ins.length->(unsB N st (ins.take i)).size<=186+181*i:=by
 intro i
 induction i with
 | zero=>
  intro _;have h3:=bitS_size st N.las.length;have h4:(⟨#[49,10,98,48,10]⟩:ByteArray).size=5:=rfl;simp only[unsB,List.take_zero,List.foldl_nil,l'v,h4];omega
 | succ i ih=>
  intro hi;obtain⟨x,hx⟩:∃x,ins[i]?=some x:=⟨_,l'c (by omega)⟩;rw[unsB_succ hx,l'v];have h3:=bitS_size x N.ni;have h4:=ih (by omega);omega
def UnI (O:HI H)(ro:Nat)(w:Own)(h:H)(r:Nat)(N:Ck)(R:Rn)(vi:Value)(n:Nat)(t:Env)(g:H): Prop:=
 g=h∧t 0 = .pointer (some ⟨r,0,none⟩)∧t 4=vi∧∃i,t 5 = .string (unsB N (firstP R) ((inputsP R).take i))∧t 6=ni i∧i+n=(inputsP R).length
theorem unsf_q (C:LP' O ro c)(L:O.Law){r:Nat}{R:Rn}{bud:Int}{vF vW vP:Value}{fs:List (Nat×Value)}(x:RN O ro w h r R bud cp N v1 v2 vF vW vP fs)(k:RnK N R)(hni:N.ni<=60)(hla:N.las.length<=60):
  ∃h' w',c 89 [ptr r] h=some (.string (unsS N R),h')∧Ch O (λ_=>False) w h w' h'∧ro<=O.next h':=by
 have hm:most=1000000:=rfl;have wl:=k.wl;have e1:=first_q C L x k;obtain⟨vi,g2,w2,e2,s2,c2,lo2⟩:=inputs_q C L x k (9,1);have x2:=x.keep L c2;have hil:(inputsP R).length<=most:=by simp[inputsP];omega
 have hfb:firstP R<1152921504606846976:=by
  unfold firstP
  cases hw:R.way.getLast? with
  | none=>simp
  | some y=>exact (k.wy y (List.mem_of_getLast? hw)).1
 have e3:=bitLine_q (h:=g2) C (firstP R) N.las.length (by omega) hla;obtain⟨aI,cI,hvi⟩:=s2.len (by omega) (inputsP R).length (by simp);have m0:=x2.m.get 0 _ rfl;have x1:=x2.X.m.get 1 _ rfl;have x0:=x2.X.m.get 0 _ rfl;obtain⟨aL,cL,hv1⟩:=x2.X.len1;rw[hv1]at x1;have key:∃u h',c 89 [ptr r] h=some (u,h')∧(u = .string (unsS N R)∧h'=g2):=by
  refine C.fn (F89_fn O ro) rfl rfl ?_;unfold F89;unfold ptr at e1 e2 m0;have tv:=s2.flat.2.2;have h5:(⟨#[49,10,98,48,10]⟩:ByteArray).size=5:=rfl;have hb5:=bitS_size (firstP R) N.las.length;have hle0:5+(bitS (firstP R) N.las.length).size<=9223372036854775807:=by omega
  refine s'f ?_;simp[ZmH,thenE];refine s'f ?_;simp[ZmI,thenE,e1];refine s'f ?_;simp[ZmJ,thenE,e2,tv];refine s'f ?_;simp[ZmK,thenE,m0,x1,e3,h5,hle0];refine okE.seq (s'f ?_);simp[ZmL,thenE];refine okE.blk ?_;refine okE.mono (okE.loop (Q:=λe t' g'=>outOf 0 e = .normal∧g'=g2∧t' 5 = .string (unsB N (firstP R) (inputsP R))) (UnI O ro w2 g2 r N R vi) ?_ (inputsP R).length _ _ ⟨rfl,by simp,by simp,0,by simp[unsB],by simp,by omega⟩) ?_
  ·rintro n t g ⟨rfl,d0,d4,i,d5,d6,hin⟩
   cases n with
   | zero=>
    obtain rfl:i=(inputsP R).length:=by omega
    rw[hvi]at d4;rw[List.take_length]at d5;refine f'f ?_;simp[W89_0,ZmM,d0,d4,d5,d6]
   | succ n=>
    have hi:i<(inputsP R).length:=by omega
    have hi':(i:Int)<(inputsP R).length:=by omega
    obtain⟨bL,cpp,e8,hcp,yl⟩:=s2.blk (by omega) (inputsP R).length (by simp) (by omega);have d4':=d4;rw[e8]at d4';obtain⟨a,ha⟩:∃a,(inputsP R)[i]?=some a:=⟨_,l'c hi⟩;have hcell:O.cell g bL i=some (ni a):=by rw[yl.cell i (by simpa using hi)];simp[ha]
    have hab:a<1152921504606846976:=by
     have:=l'f ha;simp only[inputsP,List.mem_reverse,List.mem_map]at this;obtain⟨m,hm,rfl⟩:=this;exact (k.wy m hm).2
    have e4:=bitLine_q (h:=g) C a N.ni (by omega) hni;have hsz:=unsB_size (st:=firstP R) (ins:=inputsP R) hni hla i (by omega);have hsz2:=bitS_size a N.ni;have hsucc:=unsB_succ (N:=N) (st:=firstP R) ha;have hwi:IntKind.i64.wrap ((i:Int)+1)=((i+1:Nat):Int):=by rw[wrap_id (by omega) (by omega)];omega
    obtain⟨i',hi2⟩:∃i',i'=i+1:=⟨_,rfl⟩;rw[<-hi2]at hwi hsucc;have hle:(unsB N (firstP R) ((inputsP R).take i)).size+(bitS a N.ni).size<=9223372036854775807:=by omega
    generalize unsB N (firstP R) ((inputsP R).take i)=s1 at *;generalize bitS a N.ni=s3 at *;refine f'f ?_;simp[W89_0,ZmM,ZmN,ZmO,d0,d4',d5,d6,hi,hi',hcell,m0,x0,e4,hle,hwi];exact⟨n,by omega,rfl,by simp[d0],by simp[d4',e8],i',by simp[hsucc],by simp,by omega⟩
  ·rintro e t g ⟨hr,rfl,d5⟩;rw[hr];simp only[thenE];have hsz:=unsB_size (st:=firstP R) (ins:=inputsP R) hni hla _ (l'H _);rw[List.take_length]at hsz;unfold unsS;have h2:(⟨#[46,10]⟩:ByteArray).size=2:=rfl;have hle:(unsB N (firstP R) (inputsP R)).size+2<=9223372036854775807:=by omega
   generalize unsB N (firstP R) (inputsP R)=s1 at *;refine f'f ?_;simp[ZmP,d5,h2,hle,resE,resLE,rvE]
 obtain⟨u,h',e1,rfl,rfl⟩:=key;exact⟨_,w2,e1,c2,lo2⟩
def safB (ks:List (List Nat)): ByteArray:=ks.foldl (λs x=>s++clS x) ⟨#[48,10,98,48,10]⟩
def safS (ks:List (List Nat)): ByteArray:=safB ks++⟨#[46,10]⟩
theorem clS_size (cl:List Nat): (clS cl).size<=6*cl.length+1:=by
 have h1:=clB_size (cl:=cl) _ (l'H _);have h2:(⟨#[10]⟩:ByteArray).size=1:=rfl;unfold clS;rw[l'v];omega
theorem safB_succ {x:List Nat}{i:Nat}{ks:List (List Nat)}(hx:ks[i]?=some x): safB (ks.take (i+1))=safB (ks.take i)++clS x:=by
 unfold safB;rw[l'C,hx,List.foldl_append];rfl
theorem safB_size {ks:List (List Nat)}(h:∀l∈ks,l.length<=192): ∀i,i<=ks.length->(safB (ks.take i)).size<=5+1153*i:=by
 intro i
 induction i with
 | zero=>intro _;exact l'H 5
 | succ i ih=>
  intro hi;obtain⟨x,hx⟩:∃x,ks[i]?=some x:=⟨_,l'c (by omega)⟩;rw[safB_succ hx,l'v];have h3:=clS_size x;have h4:=ih (by omega);have h5:=h x (l'f hx);omega
def SfI (r:Nat)(ks:List (List Nat))(h:H)(n:Nat)(t:Env)(g:H): Prop:=
 g=h∧t 0 = .pointer (some ⟨r,0,none⟩)∧∃i,t 3 = .string (safB (ks.take i))∧t 4=ni i∧i+n=ks.length
theorem safe_q (C:LP' O ro c)(L:O.Law){r:Nat}{R:Rn}{bud:Int}{vF vW vP:Value}{fs:List (Nat×Value)}(x:RN O ro w h r R bud cp N v1 v2 vF vW vP fs)(hla:N.las.length<=60){tk:Tag}{us:List Value}(cs:Cs O ro w h tk vP us R.kept)(hk:∀l∈R.kept,ClK N l)(hkl:R.kept.length<=1000000000000):
  c 86 [ptr r] h=some (.string (safS R.kept),h):=by
 have key:∃u h',c 86 [ptr r] h=some (u,h')∧(u = .string (safS R.kept)∧h'=h):=by
  refine C.fn (F86_fn O ro) rfl rfl ?_;unfold F86;have m5:=x.m.get 5 _ rfl;obtain⟨aK,cK,hvK⟩:=cs.s.len (by omega) R.kept.length (by rw[cs.l];simp);generalize R.kept=ks at *;refine s'f ?_;simp[Zmp,thenE];refine s'f ?_;simp[Zmq,thenE];refine okE.seq (s'f ?_);simp[Zmr,thenE];refine okE.blk ?_;refine okE.mono (okE.loop (Q:=λe t' g'=>outOf 0 e = .normal∧g'=h∧t' 3 = .string (safB ks)) (SfI r ks h) ?_ ks.length _ _ ⟨rfl,by simp,0,by simp[safB],by simp,by omega⟩) ?_
  ·rintro n t g ⟨rfl,d0,i,d3,d4,hin⟩
   cases n with
   | zero=>
    obtain rfl:i=ks.length:=by omega
    rw[hvK]at m5;rw[List.take_length]at d3;refine f'f ?_;simp[W86_0,Zms,d0,d3,d4,m5]
   | succ n=>
    have hi:i<ks.length:=by omega
    have hi':(i:Int)<ks.length:=by omega
    obtain⟨bK,pK,eK,_,yK⟩:=cs.s.blk (by omega) ks.length (by rw[cs.l];simp) (by omega);obtain⟨l,hl⟩:∃l,ks[i]?=some l:=⟨_,l'c hi⟩;obtain⟨u,hu⟩:∃u,us[i]?=some u:=⟨_,l'c (by rw[cs.l];exact hi)⟩;have su:=cs.a i l u hl hu;have ku:O.cell g bK i=some u:=by rw[yK.cell i (by rw[cs.l];exact hi),hu]
    have hkk:=hk l (l'f hl);have e4:=clauseLine_q C hkk.1 (λx hx=>by have:=hkk.2 x hx;omega) su;rw[eK]at m5;have hsz:=safB_size (ks:=ks) (λl hl=>(hk l hl).1) i (by omega);have hsz2:=clS_size l;have hl192:=hkk.1;have hsucc:=safB_succ hl;have hwi:IntKind.i64.wrap ((i:Int)+1)=((i+1:Nat):Int):=by rw[wrap_id (by omega) (by omega)];omega
    obtain⟨i',hi2⟩:∃i',i'=i+1:=⟨_,rfl⟩;rw[<-hi2]at hwi hsucc;have hle:(safB (ks.take i)).size+(clS l).size<=9223372036854775807:=by omega
    have tv:=su.flat.2.2;generalize safB (ks.take i)=s1 at *;generalize clS l=s3 at *;refine f'f ?_;simp[W86_0,Zms,Zmt,Zmu,d0,d3,d4,m5,hi,hi',ku,tv,e4,hle,hwi];exact⟨n,by omega,rfl,by simp[d0],i',by simp[hsucc],by simp,by omega⟩
  ·rintro e t g ⟨hr,rfl,d3⟩;rw[hr];simp only[thenE];have hsz:=safB_size (ks:=ks) (λl hl=>(hk l hl).1) _ (l'H _);rw[List.take_length]at hsz;unfold safS;have h2:(⟨#[46,10]⟩:ByteArray).size=2:=rfl;have hle:(safB ks).size+2<=9223372036854775807:=by omega
   generalize safB ks=s1 at *;refine f'f ?_;simp[Zmv,d3,h2,hle,resE,resLE,rvE]
 obtain⟨u,h',e1,rfl,rfl⟩:=key;exact e1
end
section
variable {H:Type}{O:HI H}{ro:Nat}{c:CallT H}
variable {w w':Own}{h h':H}{q:Nat}{S:Srch}{bW bH bV:Nat}{vA vC vT vS vK:Value}{lv wv:List Value}
variable {cp:Nat}{N:Ck}{v1 v2:Value}
attribute [local simp] aStr strA aLenStr
def textP (N:Ck)(R:Rn)(v:Nat): ByteArray:=if v=1 then safS R.kept else if v=2 then unsS N R else ⟨#[50,10,98,48,10,46,10]⟩
structure RQ (O:HI H) (ro:Nat)(w:Own)(h:H) (p:Nat)(N:Ck)(R:Rn) (v:Nat)(vC vI:Value)(us:List Value):Prop where
 m:Bx O ro w h (6,0) p [ni v,ni 0,ni 0,vC,ni (if v=2 then firstP R else 0),vI,.int .i64 R.spent,.string (textP N R v)]
 c:Cs O ro w h (6,2) vC us (if v=1 then R.kept else [])
 i:Sm O ro w h (6,1) 1 vI ((if v=2 then inputsP R else []).map ni)
theorem RN.keep6 (L:O.Law){r:Nat}{R:Rn}{bud:Int}{vF vW vP:Value}{fs:List (Nat×Value)}(x:RN O ro w h r R bud cp N v1 v2 vF vW vP fs)(a:Ch O (λu=>u=((6,0):Tag)) w h w' h'): RN O ro w' h' r R bud cp N v1 v2 vF vW vP fs:=
 ⟨x.m.ch L a (by simp),x.X.ch L a (by simp),x.sF.ch L a (by simp),x.lF,λi F y h1 h2=>(x.fr i F y h1 h2).ch L a (by simp) (λj=>by simp <;> omega) (λj=>by simp <;> omega),x.sW.ch L a (by simp),l'G x.lo a.nx⟩
def Old (O:HI H)(w:Own)(h:H)(w':Own)(h':H): Prop:=
 O.next h<=O.next h'∧∀b,b<O.next h->w b=(16,0)->w' b=(16,0)∧(∀o,O.cell h' b o=O.cell h b o)∧O.alive h' b=O.alive h b
theorem Old.of {K:Tag->Prop}(a:Ch O K w h w' h')(hK:¬K (16,0)): Old O w h w' h':=
 ⟨a.nx,λb hb e=>by
  have h1:=a.fr b hb (by rw[e];exact hK);exact⟨by rw[a.ow b hb,e],h1⟩⟩
theorem Old.trans {w2:Own}{h2:H}(a:Old O w h w' h')(b:Old O w' h' w2 h2): Old O w h w2 h2:=
 ⟨l'G a.1 b.1,λi hi e=>by
  obtain⟨a1,a2,a3⟩:=a.2 i hi e;obtain⟨b1,b2,b3⟩:=b.2 i (Nat.lt_of_lt_of_le hi a.1) a1;exact⟨b1,λo=>by rw[b2,a2],by rw[b3,a3]⟩⟩
theorem result_q (C:LP' O ro c)(L:O.Law){r:Nat}{R:Rn}{bud:Int}{vF vW vP:Value}{fs:List (Nat×Value)}(x:RN O ro w h r R bud cp N v1 v2 vF vW vP fs)(k:RnK N R)(hni:N.ni<=60)(hla:N.las.length<=60){v:Nat}(hv:v=1∨v=2∨v=3)(hkp:v=1->(∃us,Cs O ro w h (5,3) vP us R.kept)∧(∀l∈R.kept,ClK N l)∧R.kept.length<=1000000000000):
  ∃p vC vI us h' w',c 44 [ptr r,ni v] h=some (ptr p,h')∧RQ O ro w' h' p N R v vC vI us∧ro<=O.next h'∧Old O w h w' h':=by
 have m2:=x.m.get 2 _ rfl;have y1:=Bx.new L (ro:=ro) w h x.lo (6,0) [ni v,ni 0,ni 0,.slice none 0 0,ni 0,.slice none 0 0,.int .i64 R.spent,.string ⟨#[]⟩];have c1:=Ch.new L (λ_=>False) w h (6,0) [ni v,ni 0,ni 0,.slice none 0 0,ni 0,.slice none 0 0,.int .i64 R.spent,.string ⟨#[]⟩];have x1:=x.keep L c1;have rp:¬O.next h<ro:=by have:=x.lo;omega
 have k6:¬Kb ((6,0):Tag):=Kb.no (by simp) (by simp);obtain⟨p,hp⟩:∃p,p=O.next h:=⟨_,rfl⟩
 obtain⟨w1,hw1⟩:∃w1,w1=w.set (O.next h) (6,0):=⟨_,rfl⟩;obtain⟨h1,hh1⟩:∃h1,h1=O.new h [ni v,ni 0,ni 0,.slice none 0 0,ni 0,.slice none 0 0,.int .i64 R.spent,.string ⟨#[]⟩]:=⟨_,rfl⟩;rw[<-hw1,<-hh1,<-hp]at y1;rw[<-hw1,<-hh1]at c1 x1;rw[<-hp]at rp;rcases hv with rfl|rfl|rfl
 ·obtain⟨⟨us,cs⟩,hk,hkl⟩:=hkp rfl;have cs1:=cs.ch L c1 (by simp) (by simp);have c2:=Ch.put L (K:=λu=>u=((6,0):Tag)) y1 3 (by simp) vP rfl;have y2:=y1.put L 3 (by simp) vP;have p2:=puts_one (O:=O) (v:=vP) (y1.get 3 _ rfl);obtain⟨h2,hh2⟩:∃h2,h2=O.put h1 p 3 vP:=⟨_,rfl⟩;rw[<-hh2]at c2 y2 p2;have x2:=x1.keep6 L c2;have cs2:=cs1.ch L c2 (by simp) (by simp);have e3:=safe_q C L x2 hla cs2 hk hkl;have c4:=Ch.put L (K:=λu=>u=((6,0):Tag)) y2 7 (by simp) (.string (safS R.kept)) rfl;have y4:=y2.put L 7 (by simp) (.string (safS R.kept));have p4:=puts_one (O:=O) (v:=.string (safS R.kept)) (y2.get 7 _ rfl);obtain⟨h4,hh4⟩:∃h4,h4=O.put h2 p 7 (.string (safS R.kept)):=⟨_,rfl⟩;rw[<-hh4]at c4 y4 p4;have cs4:=cs2.ch L c4 (by simp) (by simp);obtain⟨w5,cs5,y5,how⟩:∃w5,Cs O ro w5 h4 (6,2) vP us R.kept∧Bx O ro w5 h4 (6,0) p [ni 1,ni 0,ni 0,vP,ni 0,.slice none 0 0,.int .i64 R.spent,.string (safS R.kept)]∧∀b,¬Kb (w1 b)->w5 b=w1 b:=by
   rcases id cs4.s with e|⟨b0,m,cp,e,ec,el,y⟩
   ·exact⟨w1,⟨.inl e,cs4.l,cs4.a⟩,y4,λ_ _=>rfl⟩
   ·refine⟨w1.set b0 (6,2),⟨.inr ⟨b0,m,cp,e,ec,el,⟨by simp[Own.set],y.lo,y.al,y.cell⟩⟩,cs4.l,λi l u h1 h2=>(cs4.a i l u h1 h2).re y.tag (by simp)⟩,y4.re y.tag (by simp),λb hb=>?_⟩;have:b≠b0:=by rintro rfl;exact hb (by rw[y.tag];left;rfl)
    simp only[Own.set,if_neg this]
  refine⟨p,vP,.slice none 0 0,us,h4,w5,?_,⟨by simpa [textP]using y5,by simpa using cs5,.inl ⟨rfl,by simp⟩⟩,?_,?_⟩
  ·have m5:=x1.m.get 5 _ rfl;obtain⟨f1,f2,f3⟩:=cs1.s.flat;unfold ptr at e3;have hp':O.next h=p:=hp.symm
   have hh1':O.new h [Value.int .i64 1,.int .i64 0,.int .i64 0,.slice none 0 0,.int .i64 0,.slice none 0 0,.int .i64 R.spent,.string ⟨#[]⟩]=h1:=by rw[hh1];rfl
   generalize safS R.kept=st at *;refine C.eq (F44_fn O ro) rfl rfl ?_;unfold F44;refine s'f ?_;simp[Zln,thenE];refine s'f ?_;simp[Zlo,thenE,m2];rw[hp',hh1'];refine okE.seq (s'f ?_);simp[Zlp,thenE];refine okE.blk ?_;refine s'f ?_;simp[Zlq,thenE];refine okE.cond true (by simp) ?_;simp only[if_true];refine s'f ?_;simp[Zlr,thenE,m5,rp,p2,f1,f2,f3];refine f'f ?_;simp[Zls,e3,rp,p4];refine f'f ?_;simp[Zlz,resE,resLE,rvE]
  ·exact l'G x2.lo c4.nx
  ·refine (Old.of c1 (by simp)).trans ((Old.of (c2.trans c4) (by simp)).trans ⟨l'H _,λb hb e=>?_⟩);exact⟨by rw[how b (by rw[e];exact Kb.no (by simp) (by simp)),e],λ_=>rfl,rfl⟩
 ·have e2:=first_q C L x1 k;have c3:=Ch.put L (K:=λu=>u=((6,0):Tag)) y1 4 (by simp) (ni (firstP R)) rfl;have y3:=y1.put L 4 (by simp) (ni (firstP R));have p3:=puts_one (O:=O) (v:=ni (firstP R)) (y1.get 4 _ rfl);obtain⟨h3,hh3⟩:∃h3,h3=O.put h1 p 4 (ni (firstP R)):=⟨_,rfl⟩;rw[<-hh3]at c3 y3 p3;have x3:=x1.keep6 L c3;obtain⟨vI,h4,w4,e4,s4,c4,lo4⟩:=inputs_q C L x3 k (6,1);have y4:=y3.ch L c4 (by simp);have x4:=x3.keep L c4;have c5:=Ch.put L (K:=λu=>u=((6,0):Tag)) y4 5 (by simp) vI rfl;have y5:=y4.put L 5 (by simp) vI;have p5:=puts_one (O:=O) (v:=vI) (y4.get 5 _ rfl);obtain⟨h5,hh5⟩:∃h5,h5=O.put h4 p 5 vI:=⟨_,rfl⟩;rw[<-hh5]at c5 y5 p5;have x5:=x4.keep6 L c5;have s5:=s4.ch L c5 (by simp);obtain⟨h6,w6,e6,c6,lo6⟩:=unsf_q C L x5 k hni hla;have y6:=y5.ch L c6 (by simp);have s6:=s5.ch L c6 (by simp);have c7:=Ch.put L (K:=λu=>u=((6,0):Tag)) y6 7 (by simp) (.string (unsS N R)) rfl;have y7:=y6.put L 7 (by simp) (.string (unsS N R));have p7:=puts_one (O:=O) (v:=.string (unsS N R)) (y6.get 7 _ rfl);obtain⟨h7,hh7⟩:∃h7,h7=O.put h6 p 7 (.string (unsS N R)):=⟨_,rfl⟩;rw[<-hh7]at c7 y7 p7;have s7:=s6.ch L c7 (by simp);refine⟨p,.slice none 0 0,vI,[],h7,w6,?_,⟨by simpa [textP]using y7,⟨.inl ⟨rfl,rfl⟩,by simp,by simp⟩,by simpa using s7⟩,l'G lo6 c7.nx,?_⟩
  ·obtain⟨f1,f2,f3⟩:=s4.flat;have hp':O.next h=p:=hp.symm
   have hh1':O.new h [Value.int .i64 2,.int .i64 0,.int .i64 0,.slice none 0 0,.int .i64 0,.slice none 0 0,.int .i64 R.spent,.string ⟨#[]⟩]=h1:=by rw[hh1];rfl
   unfold ptr at e2 e4 e6;generalize unsS N R=st at *;generalize firstP R=fp at *;refine C.eq (F44_fn O ro) rfl rfl ?_;unfold F44;refine s'f ?_;simp[Zln,thenE];refine s'f ?_;simp[Zlo,thenE,m2];rw[hp',hh1'];refine okE.seq (s'f ?_);simp[Zlp,thenE];refine okE.blk ?_;refine s'f ?_;simp[Zlq,thenE];refine okE.cond false (by simp) ?_;simp only[l'y,if_false];refine s'f ?_;simp[Zlt,thenE];refine okE.cond true (by simp) ?_;simp only[if_true];refine s'f ?_;simp[Zlu,thenE,e2,rp,p3];refine s'f ?_;simp[Zlv,thenE,e4,rp,p5,f1,f2,f3];refine f'f ?_;simp[Zlw,e6,rp,p7];refine f'f ?_;simp[Zlz,resE,resLE,rvE]
  ·exact (Old.of c1 (by simp)).trans ((Old.of c3 (by simp)).trans ((Old.of c4 (by simp)).trans ((Old.of c5 (by simp)).trans ((Old.of c6 (by simp)).trans (Old.of c7 (by simp))))))
 ·have c7:=Ch.put L (K:=λu=>u=((6,0):Tag)) y1 7 (by simp) (.string ⟨#[50,10,98,48,10,46,10]⟩) rfl;have y7:=y1.put L 7 (by simp) (.string ⟨#[50,10,98,48,10,46,10]⟩);have p7:=puts_one (O:=O) (v:=.string ⟨#[50,10,98,48,10,46,10]⟩) (y1.get 7 _ rfl);obtain⟨h7,hh7⟩:∃h7,h7=O.put h1 p 7 (.string ⟨#[50,10,98,48,10,46,10]⟩):=⟨_,rfl⟩;rw[<-hh7]at c7 y7 p7;refine⟨p,.slice none 0 0,.slice none 0 0,[],h7,w1,?_,⟨by simpa [textP]using y7,⟨.inl ⟨rfl,rfl⟩,by simp,by simp⟩,.inl ⟨rfl,by simp⟩⟩,l'G x1.lo c7.nx,?_⟩
  ·have hp':O.next h=p:=hp.symm
   have hh1':O.new h [Value.int .i64 3,.int .i64 0,.int .i64 0,.slice none 0 0,.int .i64 0,.slice none 0 0,.int .i64 R.spent,.string ⟨#[]⟩]=h1:=by rw[hh1];rfl
   refine C.eq (F44_fn O ro) rfl rfl ?_;unfold F44;refine s'f ?_;simp[Zln,thenE];refine s'f ?_;simp[Zlo,thenE,m2];rw[hp',hh1'];refine okE.seq (s'f ?_);simp[Zlp,thenE];refine okE.blk ?_;refine s'f ?_;simp[Zlq,thenE];refine okE.cond false (by simp) ?_;simp only[l'y,if_false];refine s'f ?_;simp[Zlt,thenE];refine okE.cond false (by simp) ?_;simp only[l'y,if_false];refine f'f ?_;simp[Zlx,Zly,rp,p7];refine f'f ?_;simp[Zlz,resE,resLE,rvE]
  ·exact (Old.of c1 (by simp)).trans (Old.of c7 (by simp))
end
section
variable {H:Type}{O:HI H}{ro:Nat}{c:CallT H}
variable {w w':Own}{h h':H}{q:Nat}{S:Srch}{bW bH bV:Nat}{vA vC vT vS vK:Value}{lv wv:List Value}
variable {cp:Nat}{N:Ck}{v1 v2:Value}
theorem newRun_q (C:LP' O ro c)(L:O.Law)(lo:ro<=O.next h)(X:CN O ro w h cp N v1 v2){bud:Int}{R:Rn}(hs:newRnP N=some R):
  ∃r fs vF h' w',c 42 [ptr cp,.int .i64 bud] h=some (ptr r,h')∧RN O ro w' h' r R bud cp N v1 v2 vF (.slice none 0 0) (.slice none 0 0) fs∧RnK N R∧R.frames.length=1∧Old O w h w' h':=by
 have hm:most=1000000:=rfl;unfold newRnP at hs;split at hs
 ·simp at hs
 rename_i F hF
 split at hs
 ·simp at hs
 rename_i Z hZ
 simp only[l'a]at hs;have hnv:=X.nv;obtain⟨kF,hown⟩:=newFrP_k hF hnv;obtain⟨zk,ze⟩:=addsP_k _ _ _ hZ kF.1;have y1:=Bx.new L (ro:=ro) w h lo (5,0) [ptr cp,.int .i64 bud,.int .i64 0,.slice none 0 0,.slice none 0 0,.slice none 0 0];have c1:=Ch.new L (λ_=>False) w h (5,0) [ptr cp,.int .i64 bud,.int .i64 0,.slice none 0 0,.slice none 0 0,.slice none 0 0];obtain⟨r,hr⟩:∃r,r=O.next h:=⟨_,rfl⟩
 obtain⟨w1,hw1⟩:∃w1,w1=w.set (O.next h) (5,0):=⟨_,rfl⟩;obtain⟨h1,hh1⟩:∃h1,h1=O.new h [ptr cp,.int .i64 bud,.int .i64 0,.slice none 0 0,.slice none 0 0,.slice none 0 0]:=⟨_,rfl⟩;rw[<-hw1,<-hh1,<-hr]at y1;rw[<-hw1,<-hh1]at c1;have X1:=X.ch L c1 (by simp);have lo1:=l'G lo c1.nx;obtain⟨u2,h2,e2,s,vE,vcl,vM,vK,vs,w2,rfl,z2,S2,c2⟩:=frame_q C L lo1 (p:=1000) (by omega) X1 hF;have kk:∀t:Tag,t.1<1000->¬Ks 1000 t:=λt ht=>by unfold Ks;omega
 have lo2:=l'G lo1 c2.nx;have y3:=Bx.new L (ro:=ro) w2 h2 lo2 (7,1) [.pointer none,.slice none 0 0];have c3:=Ch.new L (λ_=>False) w2 h2 (7,1) [.pointer none,.slice none 0 0];obtain⟨h4,p4,y4,c4⟩:=Bx.over L (K:=λu=>u=((7,1):Tag)) rfl y3 (show [ptr s,.slice none 0 0].length = _ from rfl);have c34:Ch O (λu=>u=((7,1):Tag)) w2 h2 _ h4:=(c3.mono (by simp)).trans c4;have X4:=(X1.ch L c2 (λi=>kk _ (by simp))).ch L c34 (by simp);have S4:=S2.ch L c34 (by simp) (by simp);obtain⟨h5,e5,vE5,vcl5,vM5,vK5,vs5,w5,z5,S5,c5⟩:=resets_q C L (p:=1000) (by omega) X4 (o:=0) y4 (kk _ (by simp)) rfl S4 z2 hZ;have y5:=y4.ch L c5 (kk _ (by simp));have lo5:ro<=O.next h5:=S5.lo
 have y6:=Bx.new L (ro:=ro) w5 h5 lo5 (5,1) [ptr s,.slice none 0 0];have c6:=Ch.new L (λ_=>False) w5 h5 (5,1) [ptr s,.slice none 0 0];have y16:=((((y1.ch L c2 (kk _ (by simp))).ch L c34 (by simp)).ch L c5 (kk _ (by simp))).ch L c6 (by simp));have c7:=Ch.put L (K:=λu=>u=((5,0):Tag)) y16 3 (by simp) (.slice (some ⟨O.next h5,0,some 2⟩) 1 2) rfl;have y7:=y16.put L 3 (by simp) (.slice (some ⟨O.next h5,0,some 2⟩) 1 2);have p7:=puts_one (O:=O) (v:=.slice (some ⟨O.next h5,0,some 2⟩) 1 2) (y16.get 3 _ rfl);obtain⟨h7,hh7⟩:∃h7,h7=O.put (O.new h5 [ptr s,.slice none 0 0]) r 3 (.slice (some ⟨O.next h5,0,some 2⟩) 1 2):=⟨_,rfl⟩;rw[<-hh7]at c7 y7 p7;have c67:Ch O (λu=>u=((5,0):Tag)) w5 h5 _ h7:=(c6.mono (by simp)).trans c7;refine⟨r,[(s,.slice none 0 0)],.slice (some ⟨O.next h5,0,some 2⟩) 1 2,h7,_,?_,⟨?_,(X4.ch L c5 (λi=>kk _ (by simp))).ch L c67 (by simp),.inr ⟨_,1,2,rfl,.inr rfl,rfl,y6.ch L c7 (by simp)⟩,by rw[<-hs];rfl,?_,?_,l'G lo5 c67.nx⟩,⟨by rw[<-hs];exact Int.le_refl 0,?_,by rw[<-hs];simp,by rw[<-hs];simp,by rw[<-hs];simp[hm]⟩,by rw[<-hs];rfl,?_⟩
 ·have hall:=y5.all;simp only[l'n,l'o]at hall;have hr2:List.range 2=[0,1]:=rfl;have r1:¬r<ro:=by have:=y1.lo;omega
  have r2:¬O.next h2<ro:=by omega
  unfold ptr at e2 p4 e5 hall p7;have hr':O.next h=r:=hr.symm
  have hh1':O.new h [.pointer (some ⟨cp,0,none⟩),.int .i64 bud,.int .i64 0,.slice none 0 0,.slice none 0 0,.slice none 0 0]=h1:=by rw[hh1];rfl
  refine C.eq (F42_fn O ro) rfl rfl ?_;unfold F42;refine s'f ?_;simp[Zla,thenE];refine s'f ?_;simp[Zlb,thenE];rw[hr',hh1'];refine s'f ?_;simp[Zlc,thenE,e2,r2,p4];refine s'f ?_;simp[Zld,thenE,e5];refine s'f ?_;simp[Zle,thenE,hall,hr2,r1,p7];refine f'f ?_;simp[Zlf,resE,resLE,rvE]
 ·rw[<-hs];exact y7
 ·intro i F' y' hF' hy';rw[<-hs]at hF';simp only at hF'
  cases i with
  | zero=>
   simp only[l'w,l'a]at hF' hy';subst hF' hy';exact⟨z5,⟨_,_,_,_,_,S5.ch L c67 (by simp) (by simp)⟩,[],by simp only[hown];exact⟨Sm.nil _ _ _ _,rfl,by simp⟩⟩
  | succ i=>simp at hF'
 ·rw[<-hs];exact Sz.nil _ _ _ _
 ·rw[<-hs];intro F' hF';simp only[l'm]at hF';subst hF';exact⟨zk,by simp only[ze];exact kF.2.1,by simp[hown],by simp[hown]⟩
 ·exact (Old.of c1 (by simp)).trans ((Old.of c2 (kk _ (by simp))).trans ((Old.of c34 (by simp)).trans ((Old.of c5 (kk _ (by simp))).trans (Old.of c67 (by simp)))))
def ckT (N:Ck): CkT:=⟨N.ni,N.las.map λx=>((x.1:Int),x.2),N.gts.map λx=>((x.1:Int),(x.2:Int)),(N.bad:Int)⟩
theorem CB.cn {N:Ck}{p:Nat}(x:CB O ro w h 4 p (ckT N))(nv:N.nv<=192)(b1:∀x∈N.las,x.1<most∧x.2<most)(b2:∀x∈N.gts,x.1<most∧x.2<most)(bb:N.bad<most): ∃v1 v2,CN O ro w h p N v1 v2:=by
 obtain⟨v1,v2,m,s1,s2⟩:=x.ex;have e1:(ckT N).las.flatMap laC=N.las.flatMap prC:=by simp only[ckT,List.flatMap_map];rfl
 have e2:(ckT N).gts.flatMap gtC=N.gts.flatMap prC:=by simp only[ckT,List.flatMap_map];rfl
 rw[e1]at s1;rw[e2]at s2;have key:∀{t:Tag}{v:Value}{l:List Value},Sl O ro w h t 2 v l->Sm O ro w h t 2 v l:=by
  intro t v l s;rcases s with s|⟨b,m,cp,e,ec,el,_,y⟩
  ·exact .inl s
  ·exact .inr ⟨b,m,cp,e,ec,el,y⟩
 exact⟨v1,v2,m,key s1,key s2,nv,b1,b2,bb⟩
def Own.past (w:Own)(n:Nat): Own:=λb=>if b<n then (16,0) else w b
def Own.back (w w':Own)(n:Nat): Own:=λb=>if b<n then w b else w' b
theorem past_old {w':Own}(a:Old O (w.past (O.next h)) h w' h'): Ch O (λ_=>False) w h (w.back w' (O.next h)) h':=
 ⟨a.1,λb hb=>by simp only[Own.back,if_pos hb],λb hb _=>(a.2 b hb (by simp only[Own.past,if_pos hb])).2⟩
theorem Bx.back {w':Own}(a:Old O (w.past (O.next h)) h w' h'){t:Tag}{b:Nat}{l:List Value}(x:Bx O ro w' h' t b l)(ht:t≠(16,0)): Bx O ro (w.back w' (O.next h)) h' t b l:=by
 refine⟨?_,x.lo,x.al,x.cell⟩;have:¬b<O.next h:=λhb=>ht (by rw[<-x.tag,(a.2 b hb (by simp only[Own.past,if_pos hb])).1])
 simp only[Own.back,if_neg this];exact x.tag
theorem Sm.back {w':Own}(a:Old O (w.past (O.next h)) h w' h'){t:Tag}{sz:Nat}{v:Value}{l:List Value}(x:Sm O ro w' h' t sz v l)(ht:t≠(16,0)): Sm O ro (w.back w' (O.next h)) h' t sz v l:=by
 rcases x with x|⟨b,m,cp,e,ec,el,y⟩
 ·exact .inl x
 ·exact .inr ⟨b,m,cp,e,ec,el,y.back a ht⟩
theorem RQ.back {w':Own}(a:Old O (w.past (O.next h)) h w' h'){p:Nat}{R:Rn}{v:Nat}{vC vI:Value}{us:List Value}(x:RQ O ro w' h' p N R v vC vI us): RQ O ro (w.back w' (O.next h)) h' p N R v vC vI us:=
 ⟨x.m.back a (by simp),⟨x.c.s.back a (by simp),x.c.l,λi l u h1 h2=>(x.c.a i l u h1 h2).back a (by simp)⟩,x.i.back a (by simp)⟩
theorem RQ.ch (L:O.Law){p:Nat}{R:Rn}{v:Nat}{vC vI:Value}{us:List Value}(x:RQ O ro w h p N R v vC vI us)(a:Ch O (λ_=>False) w h w' h'): RQ O ro w' h' p N R v vC vI us:=
 ⟨x.m.ch L a (by simp),x.c.ch L a (by simp) (by simp),x.i.ch L a (by simp)⟩
def RunP (f n m:Nat)(N:Ck)(bud:Int)(R:Rn)(v:Nat): Prop:=∃R0,newRnP N=some R0∧decideP f n N bud m R0=some (R,v)
structure CkK (N:Ck):Prop where
 ni:N.ni<=60
 la:N.las.length<=60
 nv:N.nv<=192
 b1:∀x∈N.las,x.1<most∧x.2<most
 b2:∀x∈N.gts,x.1<most∧x.2<most
 bb:N.bad<most
theorem run_q (C:LP' O ro c)(L:O.Law)(lo:ro<=O.next h){s:ByteArray}{N:Ck}(hN:CkK N)(hr:rdS s = .ok (ckT N)){bud:Int}(hb0:0<=bud)(hb:bud<=2305843009213693952){f n m v:Nat}{R:Rn}(hv:v=1∨v=2∨v=3)(hs:RunP f n m N bud R v):
  ∃p vC vI us h' w',c 26 [.string s,.int .i64 bud] h=some (ptr p,h')∧RQ O ro w' h' p N R v vC vI us∧Ch O (λ_=>False) w h w' h'∧ro<=O.next h':=by
 obtain⟨R0,hs0,hs1⟩:=hs;obtain⟨cq,vq,w1,h1,e1,hq,c1,lo1⟩:=read_w C L (w:=w.past (O.next h)) lo s;rcases hq with ⟨q,hq,-⟩|⟨T,hT,rfl,cb⟩
 ·rw[hr]at hq;simp at hq
 rw[hr]at hT;simp only[Except.ok.injEq]at hT;subst hT;have y2:=Bx.new L (ro:=ro) w1 h1 lo1 (7,0) [.int .i64 0,.int .i64 0];have c2:=Ch.new L (λ_=>False) w1 h1 (7,0) [.int .i64 0,.int .i64 0];obtain⟨h3,p3,y3,c3⟩:=Bx.over L (K:=λu=>u=((7,0):Tag)) rfl y2 (show [Value.int .i64 0,.int .i64 0].length = _ from rfl);have c23:Ch O (λu=>u=((7,0):Tag)) w1 h1 _ h3:=(c2.mono (by simp)).trans c3;have cb3:=cb.ch L c23 (by simp);obtain⟨v1,v2,X3⟩:=cb3.cn hN.nv hN.b1 hN.b2 hN.bb;have lo3:=l'G lo1 c23.nx;obtain⟨r,fs4,vF4,h4,w4,e4,x4,k4,hl4,o4⟩:=newRun_q C L lo3 X3 (bud:=bud) hs0;obtain⟨h5,e5,fs5,vF5,vW5,vP5,w5,x5,k5,hl5,c5,hkp⟩:=decide_q C L x4 k4 (by omega) hb hN.ni hN.la hs1;obtain⟨p,vC,vI,us,h6,w6,e6,q6,lo6,o6⟩:=result_q C L x5 k5 hN.ni hN.la hv hkp;have oo:Old O (w.past (O.next h)) h w6 h6:=(Old.of c1 (by unfold Kc;simp)).trans ((Old.of c23 (by simp)).trans (o4.trans ((Old.of c5 (Kb.no (by simp) (by simp))).trans o6)));refine⟨p,vC,vI,us,h6,_,?_,q6.back oo,past_old oo,lo6⟩;have hbn:¬bud<0:=by omega
 have r2:¬O.next h1<ro:=by omega
 have k0:=y3.get 0 _ rfl;unfold ptr fv at e1;unfold ptr at e4 e5 e6;refine C.eq (F26_fn O ro) rfl rfl ?_;unfold F26;refine s'f ?_;simp[Zk1,thenE];refine s'f ?_;simp[Zk2,thenE,hbn];refine s'f ?_;simp[Zk4,thenE,e1,r2,p3];refine s'f ?_;simp[Zk5,thenE,k0];refine s'f ?_;simp[Zk7,thenE,e4];refine s'f ?_;simp[Zk8,thenE,e5];refine f'f ?_;simp[Zk9,e6,resE,resLE,rvE]
end
end Go.Proofs.YtimdkminagnhgabGreatDoor
