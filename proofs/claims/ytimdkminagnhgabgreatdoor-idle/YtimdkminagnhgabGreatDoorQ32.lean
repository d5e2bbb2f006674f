import Derived.Test.YtimdkminagnhgabGreatDoorQ30
import Derived.Test.YtimdkminagnhgabGreatDoorQ24
import Derived.Test.YtimdkminagnhgabGreatDoorQ31
set_option linter.unusedVariables false
set_option linter.unusedSimpArgs false
namespace Go.Proofs.YtimdkminagnhgabGreatDoor
open Go.Vm Go.Proofs
set_option maxHeartbeats 300000
set_option maxRecDepth 4000
def dg (n:Nat): UInt8:=UInt8.ofNat (48+n)
def decS (n:Nat): ByteArray:=
 if n<10 then ⟨#[dg n]⟩ else if n<100 then ⟨#[dg (n/10),dg (n%10)]⟩ else ⟨#[dg (n/100),dg (n/10%10),dg (n%10)]⟩
theorem dig36: ∀n:Fin 10,(⟨#[48,49,50,51,52,53,54,55,56,57,97,98,99,100,101,102,103,104,105,106,107,108,109,110,111,112,113,114,115,116,117,118,119,120,121,122]⟩:ByteArray).extract n (n+1)=decS n:=by decide
theorem dig200: ∀n:Fin 100,10<=n.val->strC200.extract (n*2) (n*2+2)=decS n:=by decide
theorem iA_rem (k:IntKind)(a b:Nat)(h:0<b): intA .rem k (a:Int) (b:Int)=some (.int k ((a%b:Nat):Int)):=by
 simp only[intA];rw[if_neg (by omega),Int.tmod_eq_emod_of_nonneg (by omega)];rfl
theorem iA_quo (k:IntKind)(a b:Nat)(h:0<b)(hw:k.wrap ((a/b:Nat):Int)=((a/b:Nat):Int)): intA .quo k (a:Int) (b:Int)=some (.int k ((a/b:Nat):Int)):=by
 simp only[intA];have:(a:Int).tdiv b=((a/b:Nat):Int):=by rw[Int.tdiv_eq_ediv_of_nonneg (by omega)];rfl
 rw[if_neg (by omega),this,hw]
section
variable {H:Type}{O:HI H}{ro:Nat}{c:CallT H}
attribute [local simp] cSeq cReg reg to too onlyIf onlyIfo aMove mv' nl' fl' ld' ln' mk' ia' ik' ix' aNil aFld aLd aInt aPick aLenStr aIdxStr aConv aUn unA ev upd_get isB envOf iA_add iA_sub iA_mul iA_eql iA_neq iA_lss iA_leq iA_gtr iA_geq cIf cRet cSkip okc_some resE resLE rvE aSt vc_int vc_bool vc_agg vc_str vc_ptr vc_sl ft_int ft_bool ft_str ft_ptr ft_sl tp_int tp_bool tp_agg tp_str tp_ptr tp_sl aBuild Instr.fill aCall cExit cBlk outOf ptr undef aNew aBox aIdxArr aLdN aShift shiftA aLenSl aIdx aMkSl aApp rangeA aExt aSliceStr aStr strA
theorem bnd (q d top:Nat)(h:q<=top): boundA (some (.int .i64 (q:Int))) d top=some q:=by
 simp only[boundA];rw[if_pos (by omega)];simp
theorem small_b (C:LP' O ro c)(h:H)(n:Nat)(hn:n<100): c 164 [.int .i64 (n:Nat)] h=some (.string (decS n),h):=by
 refine C.eq (F164_fn O ro) rfl rfl (f'f ?_)
 by_cases h1:n<10
 ·have h1':(n:Int)<10:=by omega
  have e1:=dig36 ⟨n,h1⟩;simp only at e1;obtain⟨q,hq⟩:∃q,q=n+1:=⟨_,rfl⟩;have hw:IntKind.i64.wrap ((n:Int)+1)=(q:Int):=by rw[wrap_id (by omega) (by omega)];omega
  have s1:(⟨#[48,49,50,51,52,53,54,55,56,57,97,98,99,100,101,102,103,104,105,106,107,108,109,110,111,112,113,114,115,116,117,118,119,120,121,122]⟩:ByteArray).size=36:=rfl;have b1:=bnd q 36 36 (by omega);have b2:=bnd n 0 q (by omega);rw[<-hq]at e1;simp[F164,ZpH,ZpI,ZpJ,h1,h1',hw,s1,b1,b2,e1]
 ·have h1':¬(n:Int)<10:=by omega
  have e1:=dig200 ⟨n,hn⟩ (by simp only;omega);simp only at e1;obtain⟨m,hm⟩:∃m,m=n*2:=⟨_,rfl⟩;obtain⟨q,hq⟩:∃q,q=m+2:=⟨_,rfl⟩;have hw:IntKind.i64.wrap ((n:Int)*2)=(m:Int):=by rw[wrap_id (by omega) (by omega)];omega
  have hw2:IntKind.i64.wrap ((m:Int)+2)=(q:Int):=by rw[wrap_id (by omega) (by omega)];omega
  rw[<-hm,<-hq]at e1;have s1:strC200.size=200:=rfl;have b1:=bnd q 200 200 (by omega);have b2:=bnd m 0 q (by omega);simp[F164,ZpH,ZpI,ZpK,h1,h1',hw,hw2,s1,b1,b2,e1]
end
end Go.Proofs.YtimdkminagnhgabGreatDoor
