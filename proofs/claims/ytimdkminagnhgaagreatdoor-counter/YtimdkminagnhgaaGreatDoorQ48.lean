import Derived.Test.YtimdkminagnhgaaGreatDoorQ10
import Derived.Test.YtimdkminagnhgaaGreatDoorQ47
import Derived.Test.YtimdkminagnhgaaGreatDoorCards
import Derived.Test.YtimdkminagnhgaaGreatDoorTie
set_option linter.all false
namespace Go.Proofs.YtimdkminagnhgaaGreatDoor
open Go.Vm Go.Proofs Go.RowKit Go.ChangeShapes Go.WideShapes Go.ChangeAt
set_option maxRecDepth 100000
theorem counter_lifted (os:Os)(started:os.Started)(H:Type)(enc:TypeId×Value->H)(F:Stop.Interp):
  ReturnsInHanded {} Tryz.checked os 9 .any ((OpenSpec.ofChange Rows.counterSpec).preRow enc Tryz.prog Tryz.f9 Rows.counterRow.domain false Rows.counterRow.laid) (((OpenSpec.ofChange Rows.counterSpec).at F).post enc Tryz.prog Tryz.f9 false true false false):=by
 obtain⟨w0,h1,h2,h3,k0,hL,hx⟩:=J'b os;refine returnsInHanded_of_row (C:=Tryz.checked) (s:=OpenSpec.ofChange Rows.counterSpec) M'H started (by kernel_rfl) Tryz.func9
  (witness_row_at (enc := enc) (C := Tryz.checked) false w0 #[.int .i64 0, .int .i64 0, .int .i64 0] h1 h2 h3 k0
   (OpenSpec.preRow_of_cond 8 (hx H enc) (by kernel_rfl) (fun k hk => by cases hk) (by kernel_rfl) hL)) ?_
 intro W base args ds gs before hval hW _ hcond _ hL' _ _;exact K'k (s:=Rows.counterSpec) Tryz.params9 (by kernel_rfl) rfl (λ_ _ _ _=>rfl) W'e H enc W base args ds gs before hval hW (P'j hL')
theorem counter_said: Rows.CounterSaid:=
 OpenClaim.holds_of_cond 9 Tryz.f9 rfl rfl rfl rfl rfl rfl rfl ⟨rfl,rfl,rfl,rfl,rfl⟩ rfl rfl rfl rfl rfl (by kernel_rfl) Tryz.func9 (by kernel_rfl)
  (of_decide_eq_true (by kernel_rfl)) (by unfold Func.isWrapper;first|(rw[if_pos (by decide +kernel)];kernel_rfl)|(rw[if_neg (by decide +kernel)];exact⟨rfl,rfl⟩))
  (λos started H enc _ F=>by rw[OpenClaim.pre_eq_preRow];exact counter_lifted os started H enc F)
theorem counter_plain (f:FuncId)(fn:Func)(hf:Tryz.pinned.checked.prog.funcNamed Tryz.f9.name=some f)(hfn:Tryz.pinned.checked.prog.funcs[f]?=some fn):
  false=Tryz.pinned.checked.prog.looks []∧∀(j:Nat) t,fn.params[j]?=some t->Tryz.pinned.checked.prog.wantsStandIn t=false:=by
 obtain rfl:f=9:=Option.some.inj ((show Tryz.prog.funcNamed Tryz.f9.name=some 9 by kernel_rfl).symm.trans hf) |>.symm;obtain rfl:fn=Tryz.f9:=(Option.some.inj (Tryz.func9.symm.trans hfn)).symm;refine⟨by kernel_rfl,λj t ht=>?_⟩;rw[Tryz.params9]at ht;obtain rfl:t=3:=by simpa using Array.mem_of_getElem? ht
 exact (show Tryz.prog.wantsStandIn 3=false by kernel_rfl)
theorem counter_card: Rows.CounterCardSaid:=
 Claim7.holds_tied_plain_at .later [] _ _ _ _ counter_said (λ_ h=>by cases h) (by kernel_rfl) (λ_ h=>by cases h) counter_row_tie rfl ⟨rfl,rfl⟩ (by kernel_rfl) rfl counter_plain (by kernel_rfl)
end Go.Proofs.YtimdkminagnhgaaGreatDoor
