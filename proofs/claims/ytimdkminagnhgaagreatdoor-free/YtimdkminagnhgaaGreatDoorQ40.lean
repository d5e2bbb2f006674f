import Derived.Test.YtimdkminagnhgaaGreatDoorQ35
import Derived.Test.YtimdkminagnhgaaGreatDoorQ39
set_option linter.all false
namespace Go.Proofs.YtimdkminagnhgaaGreatDoor
open Go.Vm Go.Proofs Go.Ta
set_option maxHeartbeats 4000000
section
variable {H:Type}{O:HI H}{ro:Nat}{c:CallT H}
attribute [local simp] cSeq cReg reg to too onlyIf onlyIfo aMove mv' nl' fl' ld' ln' mk' ia' ik' ix' aNil aFld aLd aInt aPick aConv aUn unA ev upd_get isB envOf iA_add iA_sub iA_mul iA_eql iA_neq iA_lss iA_leq iA_gtr iA_geq cIf cRet cSkip okc_some aSt vc_int vc_bool vc_agg vc_str vc_ptr vc_sl ft_int ft_bool ft_str ft_ptr ft_sl tp_int tp_bool tp_agg tp_str tp_ptr tp_sl aBuild Instr.fill aCall cExit cBlk outOf ptr undef aNew aBox aIdxArr aLdN aShift aLenSl aIdx aMkSl aApp rangeA aExt aPtrNil aSlNil aBoolEq aMake aSliceSl boundA chk
variable {w w':Own}{h h':H}{q:Nat}{S:Srch}{bW bH bV:Nat}{vA vC vT vS vK:Value}{lv wv:List Value}
attribute [local simp] aStr strA aLenStr aB2S bytesA aAggEq intsA
structure CkS (N:Ck):Prop where
 k:CkK N
 w:CkW N
 n:N.nv<=61
 h4:2^(N.nv-1)<=8000
 l:N.las.length<=6
theorem safe_law (C:LP' O ro c)(L:O.Law)(lo:ro<=O.next h){s:ByteArray}{N:Ck}(hN:CkS N)(hr:rdS s = .ok (ckT N))(hno:∀st ins,¬UnsN N st ins): ∃h',c 41 [.string s] h=some (.bool true,h'):=by
 obtain⟨f,n,m,R0,R,v,a1,a2,a3,a4,a5,a6⟩:=run_full hN.w hN.n hN.h4 hN.l (bud:=1152921504606846976) (by omega) (by omega);obtain⟨f',n',m',R0',R',v',b1,b2,b3,b4,b5,b6⟩:=run_full hN.w hN.n hN.h4 hN.l (bud:=0) (by omega) (by omega);have hv:v=1:=by
  rcases a3 with h|h|h
  ·exact h
  ·exact absurd (a5 h).1 (hno _ _)
  ·exact absurd h (a6 (by omega))
 have hv':v'=1∨v'=3:=by
  rcases b3 with h|h|h
  ·exact .inl h
  ·exact absurd (b5 h).1 (hno _ _)
  ·exact .inr h
 subst hv;obtain⟨w,-⟩:∃w:Own,True:=⟨λ_=>(0,0),trivial⟩;obtain⟨p,vC,vI,us,h1,w1,e1,q1,c1,lo1⟩:=run_q (w:=w) C L lo hN.k hr (bud:=1152921504606846976) (by omega) (by omega) a3 ⟨R0,a1,a2⟩;obtain⟨p',vC',vI',us',h2,w2,e2,q2,c2,lo2⟩:=run_q (w:=w1) C L lo1 hN.k hr (bud:=0) (by omega) (by omega) b3 ⟨R0',b1,b2⟩;have q1':=q1.ch L c2;have k0:=q1'.m.get 0 _ rfl;have k1:=q1'.m.get 1 _ rfl;have k2:=q1'.m.get 2 _ rfl;have j0:=q2.m.get 0 _ rfl;have kk:cellsA O h2 p 1 2=some [.int .i64 0,.int .i64 0]:=by
  refine cellsA_get 2 1 _ rfl λi hi=>?_;rcases (show i=0∨i=1 by omega) with rfl|rfl
  ·exact k1
  ·exact k2
 unfold ptr at e1 e2;refine⟨h2,C.eq (F41_fn O ro) rfl rfl ?_⟩;unfold F41;refine s'f ?_;simp[Zq5,thenE];refine s'f ?_;simp[Zq6,thenE,e1];refine s'f ?_;simp[Zq7,thenE,e2];refine s'f ?_;simp[Zq8,thenE];refine s'f ?_;simp[Zra,thenE,kk];refine f'f ?_;rcases hv' with rfl|rfl
 ·simp[Zrb,k0,j0,resE,resLE,rvE]
 ·simp[Zrb,k0,j0,resE,resLE,rvE]
theorem unsf_law (C:LP' O ro c)(L:O.Law)(lo:ro<=O.next h){s:ByteArray}{N:Ck}(hN:CkS N)(hr:rdS s = .ok (ckT N))(hno:¬SafeN N): ∃vI init ins h' w',c 40 [.string s] h=some (.tuple #[vI,ni init,.bool true],h')∧UnsN N init ins∧ins.length<=1000∧Sm O ro w' h' (6,1) 1 vI (ins.map ni)∧Ch O (λ_=>False) w h w' h'∧ro<=O.next h':=by
 obtain⟨f,n,m,R0,R,v,a1,a2,a3,a4,a5,a6⟩:=run_full hN.w hN.n hN.h4 hN.l (bud:=1152921504606846976) (by omega) (by omega);obtain⟨f',n',m',R0',R',v',b1,b2,b3,b4,b5,b6⟩:=run_full hN.w hN.n hN.h4 hN.l (bud:=0) (by omega) (by omega);have hv:v=2:=by
  rcases a3 with h|h|h
  ·exact absurd (a4 h) hno
  ·exact h
  ·exact absurd h (a6 (by omega))
 have hv':v'=2∨v'=3:=by
  rcases b3 with h|h|h
  ·exact absurd (b4 h) hno
  ·exact .inl h
  ·exact .inr h
 subst hv;obtain⟨p,vC,vI,us,h1,w1,e1,q1,c1,lo1⟩:=run_q (w:=w) C L lo hN.k hr (bud:=1152921504606846976) (by omega) (by omega) a3 ⟨R0,a1,a2⟩;obtain⟨p',vC',vI',us',h2,w2,e2,q2,c2,lo2⟩:=run_q (w:=w1) C L lo1 hN.k hr (bud:=0) (by omega) (by omega) b3 ⟨R0',b1,b2⟩;have q1':=q1.ch L c2;have hi:=q1'.i;simp only[if_true]at hi;refine⟨vI,firstP R,inputsP R,h2,w2,?_,(a5 rfl).1,by simpa [inputsP]using (a5 rfl).2,hi,c1.trans c2,lo2⟩;have k0:=q1'.m.get 0 _ rfl;have k4:=q1'.m.get 4 _ rfl;have k5:=q1'.m.get 5 _ rfl;simp only[if_true]at k4;have j0:=q2.m.get 0 _ rfl;have tv:=hi.flat.2.2;unfold ptr at e1 e2;generalize firstP R=fp at *;refine C.eq (F40_fn O ro) rfl rfl ?_;unfold F40;refine s'f ?_;simp[ZqY,thenE];refine s'f ?_;simp[ZqZ,thenE,e1];refine s'f ?_;simp[Zq0,thenE,e2];refine s'f ?_;simp[Zq1,thenE];rcases hv' with rfl|rfl
 ·refine s'f ?_;simp[Zq3,thenE,k0,j0];refine f'f ?_;simp[Zq4,k4,k5,tv,resE,resLE,rvE]
 ·refine s'f ?_;simp[Zq3,thenE,k0,j0];refine f'f ?_;simp[Zq4,k4,k5,tv,resE,resLE,rvE]
end
end Go.Proofs.YtimdkminagnhgaaGreatDoor
