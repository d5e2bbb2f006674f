import Derived.Test.YtimdkminagnhgabGreatDoorQ10
import Derived.Test.YtimdkminagnhgabGreatDoorQ41
import Derived.Test.YtimdkminagnhgabGreatDoorCards
import Derived.Test.YtimdkminagnhgabGreatDoorTie
set_option linter.all false
namespace Go.Proofs.YtimdkminagnhgabGreatDoor
open Go.Vm Go.Proofs Go.RowKit Go.ChangeShapes Go.WideShapes Go.ChangeAt
set_option maxRecDepth 100000
theorem wide_lifted (os:Os)(started:os.Started)(H:Type)(enc:TypeId×Value->H)(F:Stop.Interp):
  ReturnsInHanded {} Tryz.checked os 5 .any ((OpenSpec.ofChange Rows.wideSpec).preRow enc Tryz.prog Tryz.f5 Rows.wideRow.domain false Rows.wideRow.laid) (((OpenSpec.ofChange Rows.wideSpec).at F).post enc Tryz.prog Tryz.f5 false true false false):=by
 obtain⟨w0,h1,h2,h3,k0,hL,hx⟩:=H'M os;refine returnsInHanded_of_row (C:=Tryz.checked) (s:=OpenSpec.ofChange Rows.wideSpec) K'r started (by kernel_rfl) Tryz.func5
  (witness_row_at (enc := enc) (C := Tryz.checked) false w0 #[.int .i64 0, .int .i64 0, .int .i64 0] h1 h2 h3 k0
   (OpenSpec.preRow_of_cond 8 (hx H enc) (by kernel_rfl) (fun k hk => by cases hk) (by kernel_rfl) hL)) ?_
 intro W base args ds gs before hval hW _ hcond _ hL' _ _;exact I'M (s:=Rows.wideSpec) Tryz.params5 (by kernel_rfl) rfl (λ_ _ _ _=>rfl) S'R H enc W base args ds gs before hval hW (M'Y hL')
theorem wide_said: Rows.WideSaid:=
 OpenClaim.holds_of_cond 5 Tryz.f5 rfl rfl rfl rfl rfl rfl rfl ⟨rfl,rfl,rfl,rfl,rfl⟩ rfl rfl rfl rfl rfl (by kernel_rfl) Tryz.func5 (by kernel_rfl)
  (of_decide_eq_true (by kernel_rfl)) (by unfold Func.isWrapper;first|(rw[if_pos (by decide +kernel)];kernel_rfl)|(rw[if_neg (by decide +kernel)];exact⟨rfl,rfl⟩))
  (λos started H enc _ F=>by rw[OpenClaim.pre_eq_preRow];exact wide_lifted os started H enc F)
theorem wide_plain (f:FuncId)(fn:Func)(hf:Tryz.pinned.checked.prog.funcNamed Tryz.f5.name=some f)(hfn:Tryz.pinned.checked.prog.funcs[f]?=some fn):
  false=Tryz.pinned.checked.prog.looks []∧∀(j:Nat) t,fn.params[j]?=some t->Tryz.pinned.checked.prog.wantsStandIn t=false:=by
 obtain rfl:f=5:=Option.some.inj ((show Tryz.prog.funcNamed Tryz.f5.name=some 5 by kernel_rfl).symm.trans hf) |>.symm;obtain rfl:fn=Tryz.f5:=(Option.some.inj (Tryz.func5.symm.trans hfn)).symm;refine⟨by kernel_rfl,λj t ht=>?_⟩;rw[Tryz.params5]at ht;obtain rfl:t=3:=by simpa using Array.mem_of_getElem? ht
 exact (show Tryz.prog.wantsStandIn 3=false by kernel_rfl)
theorem wide_card: Rows.WideCardSaid:=
 Claim7.holds_tied_plain_at .later [] _ _ _ _ wide_said (λ_ h=>by cases h) (by kernel_rfl) (λ_ h=>by cases h) wide_row_tie rfl ⟨rfl,rfl⟩ (by kernel_rfl) rfl wide_plain (by kernel_rfl)
end Go.Proofs.YtimdkminagnhgabGreatDoor
