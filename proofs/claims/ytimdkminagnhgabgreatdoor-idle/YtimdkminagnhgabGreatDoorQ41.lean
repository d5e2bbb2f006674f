import Derived.Test.YtimdkminagnhgabGreatDoorQ40
import Derived.KernelRfl
import Derived.Test.YtimdkminagnhgabGreatDoorQ09
set_option linter.unusedVariables false
set_option linter.unusedSimpArgs false
namespace Go.Ta
end Go.Ta
namespace Go.Proofs.YtimdkminagnhgabGreatDoor
open Go.Vm Go.Proofs Go.Ta
set_option maxHeartbeats 4000000
section
variable {H:Type}{O:HI H}{ro:Nat}{c:CallT H}
attribute [local simp] cSeq cReg reg to too onlyIf onlyIfo aMove mv' nl' fl' ld' ln' mk' ia' ik' ix' aNil aFld aLd aInt aPick aConv aUn unA ev upd_get isB envOf iA_add iA_sub iA_mul iA_eql iA_neq iA_lss iA_leq iA_gtr iA_geq cIf cRet cSkip okc_some aSt vc_int vc_bool vc_agg vc_str vc_ptr vc_sl ft_int ft_bool ft_str ft_ptr ft_sl tp_int tp_bool tp_agg tp_str tp_ptr tp_sl aBuild Instr.fill aCall cExit cBlk outOf ptr undef aNew aBox aIdxArr aLdN aShift aLenSl aIdx aMkSl aApp rangeA aExt aPtrNil aSlNil aBoolEq aMake aSliceSl boundA chk
variable {w w':Own}{h h':H}{q:Nat}{S:Srch}{bW bH bV:Nat}{vA vC vT vS vK:Value}{lv wv:List Value}
attribute [local simp] aStr strA aLenStr aB2S bytesA aAggEq intsA
theorem pick_q (C:LP' O ro c)(a:Int)(ha:I64 a)(n:Nat)(hn:0<n): ∃k:Nat,k<n∧∀h,c 22 [.int .i64 a,ni n] h=some (ni k,h):=by
 obtain⟨ha1,ha2⟩:=ha;have key:∀x:Int,0<=x->∃k:Nat,k<n∧intA .rem .i64 x (n:Int)=some (.int .i64 (k:Int)):=by
  intro x hx;refine⟨x.toNat%n,Nat.mod_lt _ hn,?_⟩;have hb:(n:Int)≠0:=by omega
  obtain⟨m,rfl⟩:∃m:Nat,x=m:=⟨x.toNat,by omega⟩;simp only[intA,if_neg hb,Int.ofNat_tmod,Int.toNat_natCast]
 by_cases h0:a<0
 ·have w1:IntKind.i64.wrap (a+1)=a+1:=wrap_id (by omega) (by omega);have w2:IntKind.i64.wrap (0-(a+1)) = -(a+1):=by rw[wrap_id (by omega) (by omega)];omega
  have w2':IntKind.i64.wrap (-(a+1)) = -(a+1):=wrap_id (by omega) (by omega);obtain⟨k,hk,e⟩:=key (-(a+1)) (by omega);refine⟨k,hk,λh=>C.eq (F22_fn O ro) rfl rfl (f'f ?_)⟩;generalize hx:-(a+1)=x at *;simp[F22,ZqZ,Zq0,Zq1,Zq2,resE,resLE,rvE,h0,w1,w2,w2',hx,e]
 ·obtain⟨k,hk,e⟩:=key a (by omega);refine⟨k,hk,λh=>C.eq (F22_fn O ro) rfl rfl (f'f ?_)⟩;simp[F22,ZqZ,Zq0,Zq2,resE,resLE,rvE,h0,e]
def ckB (T T':CkT): Bool:=decide (T.ni=T'.ni)&&decide (T.las=T'.las)&&decide (T.gts=T'.gts)&&decide (T.bad=T'.bad)
theorem ckB_eq {T T':CkT}(h:ckB T T'=true): T=T':=by
 unfold ckB at h;simp only[l'k,l'M]at h;obtain⟨⟨⟨a,b⟩,c⟩,d⟩:=h
 cases T;cases T'
 simp_all
def rdB (s:ByteArray)(N:Ck): Bool:=match rdS s with | .ok T=>ckB T (ckT N) | .error _=>false
theorem rdB_eq {s:ByteArray}{N:Ck}(h:rdB s N=true): rdS s = .ok (ckT N):=by
 unfold rdB at h;split at h
 ·rename_i T hT;rw[hT,ckB_eq h]
 ·simp at h
end
end Go.Proofs.YtimdkminagnhgabGreatDoor
