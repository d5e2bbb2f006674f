/-
  The program itself for the kernel, function by function. Printed by program; the kernel checks each. Own work.
-/
import Derived.Test.YtimdkminagnhgaaGreatDoorLsA
namespace Go.Proofs.YtimdkminagnhgaaGreatDoor
open Go.Vm Go.Proofs
set_option linter.unusedVariables false
set_option maxRecDepth 100000

/-- (*circheck/checker.search).clearMarks -/
def SR225_0 : RegS 2 := fun c t0 h0 =>
 fShal (.int .i64 0) fun v1 =>
 p2_2 t0 v1 fun t1 =>
 some (.normal, t1, h0)
def SR225_1 : RegS 2 := fun c t0 h0 =>
 kNil (g2_0 t0) h0 fun v3 h3 =>
 kFld 6 v3 h3 fun v4 h4 =>
 kLd v4 h4 fun v5 h5 =>
 kLenSl v5 h5 fun v6 h6 =>
 kLss (g2_2 t0) v6 h6 fun v7 h7 =>
 p2_9 t0 v7 fun t1 =>
 some (.normal, t1, h7)
def SR225_3 : RegS 2 := fun c t0 h0 =>
 kNil (g2_0 t0) h0 fun v2 h2 =>
 kFld 6 v2 h2 fun v3 h3 =>
 kLd v3 h3 fun v4 h4 =>
 kIdx 5 v4 (g2_2 t0) h4 fun v6 h6 =>
 kFld 2 v6 h6 fun v7 h7 =>
 kSt ro0 v7 (.bool false) h7 fun _ h8 =>
 some (.normal, t0, h8)
def SR225_2 : RegS 2 := fun c t0 h0 =>
 kAdd (g2_2 t0) (.int .i64 1) h0 fun v2 h2 =>
 fShal v2 fun v3 =>
 p2_2 t0 v3 fun t1 =>
 some (.normal, t1, h2)
def SW225_0 : CodeS 2 :=
 cSeqS (cSeqS (cRegS (SR225_1)) (cIfS g2_9 (cSkipS) (cExitS 0))) (cSeqS (cBlkS 1 (cRegS (SR225_3))) (cRegS (SR225_2)))
def SF225 : CodeS 2 :=
 cSeqS (cRegS (SR225_0)) (cBlkS 0 (cLoopS (SW225_0)))
def T225 : FnT := runG en2_1 (SF225) (resQ qn)
theorem T225_ok : GoodF Tryz.prog ro0 okF 225 (T225) :=
 (good_k (n := 19) acc2 (lv [0, 2, 9]) (rs := []) Tryz.func225 (by kernel_rfl) (by kernel_rfl) (by kernel_rfl) (by kernel_rfl) (by kernel_rfl) (by kernel_rfl) (by kernel_rfl) (by kernel_rfl) (by kernel_rfl)).enter en2_1_ok (by kernel_rfl)

/-- (*circheck/checker.search).raiseBonus -/
def SR226_0 : RegS 2 := fun c t0 h0 =>
 kNil (g2_0 t0) h0 fun v2 h2 =>
 kFld 10 v2 h2 fun v3 h3 =>
 kLd v3 h3 fun v4 h4 =>
 kNil (g2_0 t0) h4 fun v6 h6 =>
 kFld 10 v6 h6 fun v7 h7 =>
 kLd v7 h7 fun v8 h8 =>
 kOf (vInt .quo v8 (.int .i64 16) h8) fun v9 h9 =>
 kAdd v4 v9 h9 fun v10 h10 =>
 kNil (g2_0 t0) h10 fun v11 h11 =>
 kFld 10 v11 h11 fun v12 h12 =>
 kSt ro0 v12 v10 h12 fun _ h13 =>
 some (.normal, t0, h13)
def SR226_1 : RegS 2 := fun c t0 h0 =>
 kNil (g2_0 t0) h0 fun v2 h2 =>
 kFld 10 v2 h2 fun v3 h3 =>
 kLd v3 h3 fun v4 h4 =>
 kLeq v4 (.int .i64 1099511627776) h4 fun v5 h5 =>
 p2_19 t0 v5 fun t1 =>
 some (.normal, t1, h5)
def SR226_2 : RegS 2 := fun c t0 h0 =>
 kNil (g2_0 t0) h0 fun v2 h2 =>
 kFld 10 v2 h2 fun v3 h3 =>
 kLd v3 h3 fun v4 h4 =>
 kOf (vInt .quo v4 (.int .i64 68719476736) h4) fun v5 h5 =>
 kNil (g2_0 t0) h5 fun v6 h6 =>
 kFld 10 v6 h6 fun v7 h7 =>
 kSt ro0 v7 v5 h7 fun _ h8 =>
 some (.normal, t0, h8)
def SR226_3 : RegS 2 := fun c t0 h0 =>
 fShal (.int .i64 0) fun v1 =>
 p2_2 t0 v1 fun t1 =>
 some (.normal, t1, h0)
def SR226_4 : RegS 2 := fun c t0 h0 =>
 kNil (g2_0 t0) h0 fun v3 h3 =>
 kFld 6 v3 h3 fun v4 h4 =>
 kLd v4 h4 fun v5 h5 =>
 kLenSl v5 h5 fun v6 h6 =>
 kLss (g2_2 t0) v6 h6 fun v7 h7 =>
 p2_33 t0 v7 fun t1 =>
 some (.normal, t1, h7)
def SR226_6 : RegS 2 := fun c t0 h0 =>
 kNil (g2_0 t0) h0 fun v2 h2 =>
 kFld 6 v2 h2 fun v3 h3 =>
 kLd v3 h3 fun v4 h4 =>
 kIdx 5 v4 (g2_2 t0) h4 fun v6 h6 =>
 kFld 3 v6 h6 fun v7 h7 =>
 kLd v7 h7 fun v8 h8 =>
 kOf (vInt .quo v8 (.int .i64 68719476736) h8) fun v9 h9 =>
 kIdx 5 v4 (g2_2 t0) h9 fun v10 h10 =>
 kFld 3 v10 h10 fun v11 h11 =>
 kSt ro0 v11 v9 h11 fun _ h12 =>
 some (.normal, t0, h12)
def SR226_5 : RegS 2 := fun c t0 h0 =>
 kAdd (g2_2 t0) (.int .i64 1) h0 fun v2 h2 =>
 fShal v2 fun v3 =>
 p2_2 t0 v3 fun t1 =>
 some (.normal, t1, h2)
def SW226_0 : CodeS 2 :=
 cSeqS (cSeqS (cRegS (SR226_4)) (cIfS g2_33 (cSkipS) (cExitS 0))) (cSeqS (cBlkS 1 (cRegS (SR226_6))) (cRegS (SR226_5)))
def SF226 : CodeS 2 :=
 cSeqS (cRegS (SR226_0)) (cSeqS (cSeqS (cRegS (SR226_1)) (cIfS g2_19 (cRetS) (cSkipS))) (cSeqS (cRegS (SR226_2)) (cSeqS (cRegS (SR226_3)) (cBlkS 0 (cLoopS (SW226_0))))))
def T226 : FnT := runG en2_1 (SF226) (resQ qn)
theorem T226_ok : GoodF Tryz.prog ro0 okF 226 (T226) :=
 (good_k (n := 47) acc2 (lv [0, 2, 19, 33]) (rs := []) Tryz.func226 (by kernel_rfl) (by kernel_rfl) (by kernel_rfl) (by kernel_rfl) (by kernel_rfl) (by kernel_rfl) (by kernel_rfl) (by kernel_rfl) (by kernel_rfl)).enter en2_1_ok (by kernel_rfl)

/-- (*circheck/checker.search).back -/
def SR227_0 : RegS 2 := fun c t0 h0 =>
 kNil (g2_0 t0) h0 fun v3 h3 =>
 kFld 8 v3 h3 fun v4 h4 =>
 kLd v4 h4 fun v5 h5 =>
 kLenSl v5 h5 fun v6 h6 =>
 kGeq (g2_1 t0) v6 h6 fun v7 h7 =>
 p2_12 t0 v7 fun t1 =>
 some (.normal, t1, h7)
def SR227_1 : RegS 2 := fun c t0 h0 =>
 kNil (g2_0 t0) h0 fun v2 h2 =>
 kFld 8 v2 h2 fun v3 h3 =>
 kLd v3 h3 fun v4 h4 =>
 kIdx 1 v4 (g2_1 t0) h4 fun v6 h6 =>
 kLd v6 h6 fun v7 h7 =>
 fShal v7 fun v8 =>
 p2_4 t0 v8 fun t1 =>
 some (.normal, t1, h7)
def SR227_2 : RegS 2 := fun c t0 h0 =>
 fShal (g2_4 t0) fun v2 =>
 p2_5 t0 v2 fun t1 =>
 some (.normal, t1, h0)
def SR227_3 : RegS 2 := fun c t0 h0 =>
 kNil (g2_0 t0) h0 fun v3 h3 =>
 kFld 7 v3 h3 fun v4 h4 =>
 kLd v4 h4 fun v5 h5 =>
 kLenSl v5 h5 fun v6 h6 =>
 kLss (g2_5 t0) v6 h6 fun v7 h7 =>
 p2_27 t0 v7 fun t1 =>
 some (.normal, t1, h7)
def SR227_5 : RegS 2 := fun c t0 h0 =>
 kNil (g2_0 t0) h0 fun v2 h2 =>
 kFld 5 v2 h2 fun v3 h3 =>
 kLd v3 h3 fun v4 h4 =>
 kNil (g2_0 t0) h4 fun v6 h6 =>
 kFld 7 v6 h6 fun v7 h7 =>
 kLd v7 h7 fun v8 h8 =>
 kIdx 1 v8 (g2_5 t0) h8 fun v10 h10 =>
 kLd v10 h10 fun v11 h11 =>
 kIdx 1 v4 v11 h11 fun v12 h12 =>
 kSt ro0 v12 (.bool false) h12 fun _ h13 =>
 some (.normal, t0, h13)
def SR227_4 : RegS 2 := fun c t0 h0 =>
 kAdd (g2_5 t0) (.int .i64 1) h0 fun v2 h2 =>
 fShal v2 fun v3 =>
 p2_5 t0 v3 fun t1 =>
 some (.normal, t1, h2)
def SR227_6 : RegS 2 := fun c t0 h0 =>
 kNil (g2_0 t0) h0 fun v3 h3 =>
 kFld 7 v3 h3 fun v4 h4 =>
 kLd v4 h4 fun v5 h5 =>
 kAny (aSliceSl 1 (.const v5) none (some (.const (g2_4 t0)))) c h5 fun v7 h7 =>
 kNil (g2_0 t0) h7 fun v8 h8 =>
 kFld 7 v8 h8 fun v9 h9 =>
 kSt ro0 v9 v7 h9 fun _ h10 =>
 some (.normal, t0, h10)
def SR227_7 : RegS 2 := fun c t0 h0 =>
 kNil (g2_0 t0) h0 fun v3 h3 =>
 kFld 8 v3 h3 fun v4 h4 =>
 kLd v4 h4 fun v5 h5 =>
 kAny (aSliceSl 1 (.const v5) none (some (.const (g2_1 t0)))) c h5 fun v7 h7 =>
 kNil (g2_0 t0) h7 fun v8 h8 =>
 kFld 8 v8 h8 fun v9 h9 =>
 kSt ro0 v9 v7 h9 fun _ h10 =>
 some (.normal, t0, h10)
def SR227_8 : RegS 2 := fun c t0 h0 =>
 kNil (g2_0 t0) h0 fun v3 h3 =>
 kFld 9 v3 h3 fun v4 h4 =>
 kSt ro0 v4 (g2_4 t0) h4 fun _ h5 =>
 some (.normal, t0, h5)
def SW227_0 : CodeS 2 :=
 cSeqS (cSeqS (cRegS (SR227_3)) (cIfS g2_27 (cSkipS) (cExitS 0))) (cSeqS (cBlkS 1 (cRegS (SR227_5))) (cRegS (SR227_4)))
def SF227 : CodeS 2 :=
 cSeqS (cSeqS (cRegS (SR227_0)) (cIfS g2_12 (cRetS) (cSkipS))) (cSeqS (cRegS (SR227_1)) (cSeqS (cSeqS (cRegS (SR227_2)) (cBlkS 0 (cLoopS (SW227_0)))) (cSeqS (cRegS (SR227_6)) (cSeqS (cRegS (SR227_7)) (cRegS (SR227_8))))))
def T227 : FnT := runG en2_2 (SF227) (resQ qn)
theorem T227_ok : GoodF Tryz.prog ro0 okF 227 (T227) :=
 (good_k (n := 64) acc2 (lv [0, 1, 4, 5, 12, 27]) (rs := []) Tryz.func227 (by kernel_rfl) (by kernel_rfl) (by kernel_rfl) (by kernel_rfl) (by kernel_rfl) (by kernel_rfl) (by kernel_rfl) (by kernel_rfl) (by kernel_rfl)).enter en2_2_ok (by kernel_rfl)

/-- (*circheck/checker.search).makeRoom -/
def SR228_0 : RegS 3 := fun c t0 h0 =>
 kNil (g3_0 t0) h0 fun v2 h2 =>
 kFld 1 v2 h2 fun v3 h3 =>
 kLd v3 h3 fun v4 h4 =>
 kLenSl v4 h4 fun v5 h5 =>
 kNil (g3_0 t0) h5 fun v7 h7 =>
 kFld 2 v7 h7 fun v8 h8 =>
 kLd v8 h8 fun v9 h9 =>
 kSub v5 v9 h9 fun v10 h10 =>
 kNil (g3_0 t0) h10 fun v12 h12 =>
 kFld 3 v12 h12 fun v13 h13 =>
 kLd v13 h13 fun v14 h14 =>
 kLss v10 v14 h14 fun v15 h15 =>
 p3_22 t0 v15 fun t1 =>
 some (.normal, t1, h15)
def SR228_1 : RegS 3 := fun c t0 h0 =>
 kOf (c 235 [(g3_0 t0)] h0) fun v2 h2 =>
 fShal v2 fun v3 =>
 p3_2 t0 v3 fun t1 =>
 some (.normal, t1, h2)
def SR228_2 : RegS 3 := fun c t0 h0 =>
 kNil (g3_0 t0) h0 fun v2 h2 =>
 kFld 1 v2 h2 fun v3 h3 =>
 kLd v3 h3 fun v4 h4 =>
 kLenSl v4 h4 fun v5 h5 =>
 kAny (aMake tO 1 8 #[.int .i64 0] (.const v5) (.const v5)) c h5 fun v6 h6 =>
 fShal v6 fun v7 =>
 p3_3 t0 v7 fun t1 =>
 some (.normal, t1, h6)
def SR228_3 : RegS 3 := fun c t0 h0 =>
 fShal (.int .i64 0) fun v1 =>
 p3_4 t0 v1 fun t1 =>
 some (.normal, t1, h0)
def SR228_4 : RegS 3 := fun c t0 h0 =>
 fShal (.int .i64 0) fun v1 =>
 p3_5 t0 v1 fun t1 =>
 some (.normal, t1, h0)
def SR228_5 : RegS 3 := fun c t0 h0 =>
 kNil (g3_0 t0) h0 fun v3 h3 =>
 kFld 1 v3 h3 fun v4 h4 =>
 kLd v4 h4 fun v5 h5 =>
 kLenSl v5 h5 fun v6 h6 =>
 kLss (g3_5 t0) v6 h6 fun v7 h7 =>
 p3_37 t0 v7 fun t1 =>
 some (.normal, t1, h7)
def SR228_7 : RegS 3 := fun c t0 h0 =>
 kIdx 1 (g3_2 t0) (g3_5 t0) h0 fun v3 h3 =>
 kLd v3 h3 fun v4 h4 =>
 p3_43 t0 v4 fun t1 =>
 some (.normal, t1, h4)
def SR228_8 : RegS 3 := fun c t0 h0 =>
 kNil (g3_0 t0) h0 fun v2 h2 =>
 kFld 1 v2 h2 fun v3 h3 =>
 kLd v3 h3 fun v4 h4 =>
 kNil (g3_0 t0) h4 fun v7 h7 =>
 kFld 1 v7 h7 fun v8 h8 =>
 kLd v8 h8 fun v9 h9 =>
 kIdx 4 v9 (g3_5 t0) h9 fun v11 h11 =>
 kOf (vLdN 4 v11 h11) fun v12 h12 =>
 kIdx 4 v4 (g3_4 t0) h12 fun v13 h13 =>
 kAny (aSt tO ro0 4 (.const v13) (.const v12)) c h13 fun _ h14 =>
 some (.normal, t0, h14)
def SR228_9 : RegS 3 := fun c t0 h0 =>
 kIdx 1 (g3_3 t0) (g3_5 t0) h0 fun v4 h4 =>
 kSt ro0 v4 (g3_4 t0) h4 fun _ h5 =>
 some (.normal, t0, h5)
def SR228_10 : RegS 3 := fun c t0 h0 =>
 kAdd (g3_4 t0) (.int .i64 1) h0 fun v2 h2 =>
 fShal v2 fun v3 =>
 p3_4 t0 v3 fun t1 =>
 some (.normal, t1, h2)
def SR228_6 : RegS 3 := fun c t0 h0 =>
 kAdd (g3_5 t0) (.int .i64 1) h0 fun v2 h2 =>
 fShal v2 fun v3 =>
 p3_5 t0 v3 fun t1 =>
 some (.normal, t1, h2)
def SR228_11 : RegS 3 := fun c t0 h0 =>
 kNil (g3_0 t0) h0 fun v3 h3 =>
 kFld 1 v3 h3 fun v4 h4 =>
 kLd v4 h4 fun v5 h5 =>
 kAny (aSliceSl 4 (.const v5) none (some (.const (g3_4 t0)))) c h5 fun v7 h7 =>
 kNil (g3_0 t0) h7 fun v8 h8 =>
 kFld 1 v8 h8 fun v9 h9 =>
 kSt ro0 v9 v7 h9 fun _ h10 =>
 some (.normal, t0, h10)
def SR228_12 : RegS 3 := fun c t0 h0 =>
 fShal (.int .i64 0) fun v1 =>
 p3_6 t0 v1 fun t1 =>
 some (.normal, t1, h0)
def SR228_13 : RegS 3 := fun c t0 h0 =>
 kNil (g3_0 t0) h0 fun v3 h3 =>
 kFld 7 v3 h3 fun v4 h4 =>
 kLd v4 h4 fun v5 h5 =>
 kLenSl v5 h5 fun v6 h6 =>
 kLss (g3_6 t0) v6 h6 fun v7 h7 =>
 p3_78 t0 v7 fun t1 =>
 some (.normal, t1, h7)
def SR228_15 : RegS 3 := fun c t0 h0 =>
 kNil (g3_0 t0) h0 fun v2 h2 =>
 kFld 7 v2 h2 fun v3 h3 =>
 kLd v3 h3 fun v4 h4 =>
 kIdx 1 v4 (g3_6 t0) h4 fun v6 h6 =>
 kLd v6 h6 fun v7 h7 =>
 kAny (aShift .shr (.const v7) (.const (.int .u64 1))) c h7 fun v8 h8 =>
 fShal v8 fun v9 =>
 p3_7 t0 v9 fun t1 =>
 some (.normal, t1, h8)
def SR228_16 : RegS 3 := fun c t0 h0 =>
 kNil (g3_0 t0) h0 fun v2 h2 =>
 kFld 6 v2 h2 fun v3 h3 =>
 kLd v3 h3 fun v4 h4 =>
 kIdx 5 v4 (g3_7 t0) h4 fun v6 h6 =>
 kFld 1 v6 h6 fun v7 h7 =>
 kLd v7 h7 fun v8 h8 =>
 kNeq v8 (.int .i64 (-1)) h8 fun v9 h9 =>
 p3_97 t0 v9 fun t1 =>
 some (.normal, t1, h9)
def SR228_17 : RegS 3 := fun c t0 h0 =>
 kNil (g3_0 t0) h0 fun v2 h2 =>
 kFld 6 v2 h2 fun v3 h3 =>
 kLd v3 h3 fun v4 h4 =>
 kNil (g3_0 t0) h4 fun v8 h8 =>
 kFld 6 v8 h8 fun v9 h9 =>
 kLd v9 h9 fun v10 h10 =>
 kIdx 5 v10 (g3_7 t0) h10 fun v12 h12 =>
 kFld 1 v12 h12 fun v13 h13 =>
 kLd v13 h13 fun v14 h14 =>
 kIdx 1 (g3_3 t0) v14 h14 fun v15 h15 =>
 kLd v15 h15 fun v16 h16 =>
 kIdx 5 v4 (g3_7 t0) h16 fun v17 h17 =>
 kFld 1 v17 h17 fun v18 h18 =>
 kSt ro0 v18 v16 h18 fun _ h19 =>
 some (.normal, t0, h19)
def SR228_14 : RegS 3 := fun c t0 h0 =>
 kAdd (g3_6 t0) (.int .i64 1) h0 fun v2 h2 =>
 fShal v2 fun v3 =>
 p3_6 t0 v3 fun t1 =>
 some (.normal, t1, h2)
def SR228_18 : RegS 3 := fun c t0 h0 =>
 kOf (c 236 [(g3_0 t0)] h0) fun v2 h2 =>
 some (.normal, t0, h2)
def SW228_0 : CodeS 3 :=
 cSeqS (cSeqS (cRegS (SR228_5)) (cIfS g3_37 (cSkipS) (cExitS 0))) (cSeqS (cBlkS 1 (cSeqS (cRegS (SR228_7)) (cIfS g3_43 (cSeqS (cRegS (SR228_8)) (cSeqS (cRegS (SR228_9)) (cRegS (SR228_10)))) (cSkipS)))) (cRegS (SR228_6)))
def SW228_1 : CodeS 3 :=
 cSeqS (cSeqS (cRegS (SR228_13)) (cIfS g3_78 (cSkipS) (cExitS 2))) (cSeqS (cBlkS 3 (cSeqS (cRegS (SR228_15)) (cSeqS (cRegS (SR228_16)) (cIfS g3_97 (cRegS (SR228_17)) (cSkipS))))) (cRegS (SR228_14)))
def SF228 : CodeS 3 :=
 cSeqS (cSeqS (cRegS (SR228_0)) (cIfS g3_22 (cRetS) (cSkipS))) (cSeqS (cRegS (SR228_1)) (cSeqS (cRegS (SR228_2)) (cSeqS (cRegS (SR228_3)) (cSeqS (cSeqS (cRegS (SR228_4)) (cBlkS 0 (cLoopS (SW228_0)))) (cSeqS (cRegS (SR228_11)) (cSeqS (cSeqS (cRegS (SR228_12)) (cBlkS 2 (cLoopS (SW228_1)))) (cRegS (SR228_18))))))))
def T228 : FnT := runG en3_1 (SF228) (resQ qn)
theorem T228_ok : GoodF Tryz.prog ro0 okF 228 (T228) :=
 (good_k (n := 118) acc3 (lv [0, 2, 3, 4, 5, 6, 7, 22, 37, 43, 78, 97]) (rs := []) Tryz.func228 (by kernel_rfl) (by kernel_rfl) (by kernel_rfl) (by kernel_rfl) (by kernel_rfl) (by kernel_rfl) (by kernel_rfl) (by kernel_rfl) (by kernel_rfl)).enter en3_1_ok (by kernel_rfl)

/-- internal/strconv.log10Pow2 -/
def SR229_0 : RegS 1 := fun c t0 h0 =>
 fShal (.int .i64 0) fun v1 =>
 p1_2 t0 v1 fun t1 =>
 some (.normal, t1, h0)
def SR229_1 : RegS 1 := fun c t0 h0 =>
 kOf (vInt .mul (g1_0 t0) (.int .i64 78913) h0) fun v2 h2 =>
 kAny (aShift .shr (.const v2) (.const (.int .u64 18))) c h2 fun v3 h3 =>
 fShal v3 fun v4 =>
 p1_2 t0 v4 fun t1 =>
 some (.normal, t1, h3)
def SF229 : CodeS 1 :=
 cSeqS (cRegS (SR229_0)) (cSeqS (cRegS (SR229_1)) (cRetS))
def T229 : FnT := runG en1_1 (SF229) (resQ (qc (rT g1_2) qn))
theorem T229_ok : GoodF Tryz.prog ro0 okF 229 (T229) :=
 (good_k (n := 6) acc1 (lv [0, 2]) (rs := [ResultVar.tmp 2]) Tryz.func229 (by kernel_rfl) (by kernel_rfl) (by kernel_rfl) (by kernel_rfl) (by kernel_rfl) (by kernel_rfl) (by kernel_rfl) (by kernel_rfl) (by kernel_rfl)).enter en1_1_ok (by kernel_rfl)

/-- math/bits.Len64 -/
def SR230_0 : RegS 2 := fun c t0 h0 =>
 fShal (.int .i64 0) fun v1 =>
 p2_2 t0 v1 fun t1 =>
 some (.normal, t1, h0)
def SR230_1 : RegS 2 := fun c t0 h0 =>
 kGeq (g2_0 t0) (.int .u64 4294967296) h0 fun v2 h2 =>
 p2_4 t0 v2 fun t1 =>
 some (.normal, t1, h2)
def SR230_2 : RegS 2 := fun c t0 h0 =>
 kAny (aShift .shr (.const (g2_0 t0)) (.const (.int .u64 32))) c h0 fun v2 h2 =>
 fShal v2 fun v3 =>
 p2_0 t0 v3 fun t1 =>
 some (.normal, t1, h2)
def SR230_3 : RegS 2 := fun c t0 h0 =>
 fShal (.int .i64 32) fun v1 =>
 p2_2 t0 v1 fun t1 =>
 some (.normal, t1, h0)
def SR230_4 : RegS 2 := fun c t0 h0 =>
 kGeq (g2_0 t0) (.int .u64 65536) h0 fun v2 h2 =>
 p2_8 t0 v2 fun t1 =>
 some (.normal, t1, h2)
def SR230_5 : RegS 2 := fun c t0 h0 =>
 kAny (aShift .shr (.const (g2_0 t0)) (.const (.int .u64 16))) c h0 fun v2 h2 =>
 fShal v2 fun v3 =>
 p2_0 t0 v3 fun t1 =>
 some (.normal, t1, h2)
def SR230_6 : RegS 2 := fun c t0 h0 =>
 kAdd (g2_2 t0) (.int .i64 16) h0 fun v2 h2 =>
 fShal v2 fun v3 =>
 p2_2 t0 v3 fun t1 =>
 some (.normal, t1, h2)
def SR230_7 : RegS 2 := fun c t0 h0 =>
 kGeq (g2_0 t0) (.int .u64 256) h0 fun v2 h2 =>
 p2_14 t0 v2 fun t1 =>
 some (.normal, t1, h2)
def SR230_8 : RegS 2 := fun c t0 h0 =>
 kAny (aShift .shr (.const (g2_0 t0)) (.const (.int .u64 8))) c h0 fun v2 h2 =>
 fShal v2 fun v3 =>
 p2_0 t0 v3 fun t1 =>
 some (.normal, t1, h2)
def SR230_9 : RegS 2 := fun c t0 h0 =>
 kAdd (g2_2 t0) (.int .i64 8) h0 fun v2 h2 =>
 fShal v2 fun v3 =>
 p2_2 t0 v3 fun t1 =>
 some (.normal, t1, h2)
def SR230_10 : RegS 2 := fun c t0 h0 =>
 kAny (aConv .u8 (.const (g2_0 t0))) c h0 fun v3 h3 =>
 kIdxStr (.string strC256) v3 h3 fun v4 h4 =>
 kConv v4 h4 fun v5 h5 =>
 kAdd (g2_2 t0) v5 h5 fun v6 h6 =>
 fShal v6 fun v7 =>
 p2_2 t0 v7 fun t1 =>
 some (.normal, t1, h6)
def SF230 : CodeS 2 :=
 cSeqS (cRegS (SR230_0)) (cSeqS (cSeqS (cRegS (SR230_1)) (cIfS g2_4 (cSeqS (cRegS (SR230_2)) (cRegS (SR230_3))) (cSkipS))) (cSeqS (cSeqS (cRegS (SR230_4)) (cIfS g2_8 (cSeqS (cRegS (SR230_5)) (cRegS (SR230_6))) (cSkipS))) (cSeqS (cSeqS (cRegS (SR230_7)) (cIfS g2_14 (cSeqS (cRegS (SR230_8)) (cRegS (SR230_9))) (cSkipS))) (cSeqS (cRegS (SR230_10)) (cRetS)))))
def T230 : FnT := runG en2_1 (SF230) (resQ (qc (rT g2_2) qn))
theorem T230_ok : GoodF Tryz.prog ro0 okF 230 (T230) :=
 (good_k (n := 25) acc2 (lv [0, 2, 4, 8, 14]) (rs := [ResultVar.tmp 2]) Tryz.func230 (by kernel_rfl) (by kernel_rfl) (by kernel_rfl) (by kernel_rfl) (by kernel_rfl) (by kernel_rfl) (by kernel_rfl) (by kernel_rfl) (by kernel_rfl)).enter en2_1_ok (by kernel_rfl)

/-- internal/strconv.bool2[int] -/
def SR231_0 : RegS 1 := fun c t0 h0 =>
 fShal (.int .i64 0) fun v1 =>
 p1_2 t0 v1 fun t1 =>
 some (.normal, t1, h0)
def SR231_1 : RegS 1 := fun c t0 h0 =>
 fShal (g1_0 t0) fun v1 =>
 p1_3 t0 v1 fun t1 =>
 some (.normal, t1, h0)
def SR231_2 : RegS 1 := fun c t0 h0 =>
 fShal (.int .i64 1) fun v1 =>
 p1_2 t0 v1 fun t1 =>
 some (.normal, t1, h0)
def SR231_3 : RegS 1 := fun c t0 h0 =>
 fShal (.int .i64 0) fun v1 =>
 p1_2 t0 v1 fun t1 =>
 some (.normal, t1, h0)
def SF231 : CodeS 1 :=
 cSeqS (cRegS (SR231_0)) (cSeqS (cSeqS (cRegS (SR231_1)) (cIfS g1_3 (cSeqS (cRegS (SR231_2)) (cRetS)) (cSkipS))) (cSeqS (cRegS (SR231_3)) (cRetS)))
def T231 : FnT := runG en1_1 (SF231) (resQ (qc (rT g1_2) qn))
theorem T231_ok : GoodF Tryz.prog ro0 okF 231 (T231) :=
 (good_k (n := 4) acc1 (lv [0, 2, 3]) (rs := [ResultVar.tmp 2]) Tryz.func231 (by kernel_rfl) (by kernel_rfl) (by kernel_rfl) (by kernel_rfl) (by kernel_rfl) (by kernel_rfl) (by kernel_rfl) (by kernel_rfl) (by kernel_rfl)).enter en1_1_ok (by kernel_rfl)

/-- internal/strconv.isPowerOfTwo -/
def SR232_0 : RegS 1 := fun c t0 h0 =>
 fShal (.bool false) fun v1 =>
 p1_2 t0 v1 fun t1 =>
 some (.normal, t1, h0)
def SR232_1 : RegS 1 := fun c t0 h0 =>
 kSub (g1_0 t0) (.int .i64 1) h0 fun v3 h3 =>
 kOf (vInt .and (g1_0 t0) v3 h3) fun v4 h4 =>
 kEql v4 (.int .i64 0) h4 fun v5 h5 =>
 fShal v5 fun v6 =>
 p1_2 t0 v6 fun t1 =>
 some (.normal, t1, h5)
def SF232 : CodeS 1 :=
 cSeqS (cRegS (SR232_0)) (cSeqS (cRegS (SR232_1)) (cRetS))
def T232 : FnT := runG en1_1 (SF232) (resQ (qc (rT g1_2) qn))
theorem T232_ok : GoodF Tryz.prog ro0 okF 232 (T232) :=
 (good_k (n := 8) acc1 (lv [0, 2]) (rs := [ResultVar.tmp 2]) Tryz.func232 (by kernel_rfl) (by kernel_rfl) (by kernel_rfl) (by kernel_rfl) (by kernel_rfl) (by kernel_rfl) (by kernel_rfl) (by kernel_rfl) (by kernel_rfl)).enter en1_1_ok (by kernel_rfl)

/-- math/bits.TrailingZeros -/
def SR233_0 : RegS 1 := fun c t0 h0 =>
 fShal (.int .i64 0) fun v1 =>
 p1_2 t0 v1 fun t1 =>
 some (.normal, t1, h0)
def SR233_1 : RegS 1 := fun c t0 h0 =>
 kAny (aConv .u32 (.const (g1_0 t0))) c h0 fun v2 h2 =>
 kOf (c 237 [v2] h2) fun v3 h3 =>
 fShal v3 fun v4 =>
 p1_2 t0 v4 fun t1 =>
 some (.normal, t1, h3)
def SR233_2 : RegS 1 := fun c t0 h0 =>
 kOf (c 238 [(g1_0 t0)] h0) fun v2 h2 =>
 fShal v2 fun v3 =>
 p1_2 t0 v3 fun t1 =>
 some (.normal, t1, h2)
def SF233 : CodeS 1 :=
 cSeqS (cRegS (SR233_0)) (cSeqS (cIfS (kc (.bool false)) (cSeqS (cRegS (SR233_1)) (cRetS)) (cSkipS)) (cSeqS (cRegS (SR233_2)) (cRetS)))
def T233 : FnT := runG en1_1 (SF233) (resQ (qc (rT g1_2) qn))
theorem T233_ok : GoodF Tryz.prog ro0 okF 233 (T233) :=
 (good_k (n := 8) acc1 (lv [0, 2]) (rs := [ResultVar.tmp 2]) Tryz.func233 (by kernel_rfl) (by kernel_rfl) (by kernel_rfl) (by kernel_rfl) (by kernel_rfl) (by kernel_rfl) (by kernel_rfl) (by kernel_rfl) (by kernel_rfl)).enter en1_1_ok (by kernel_rfl)

/-- (*circheck/checker.search).isNeedless -/
def SR234_0 : RegS 2 := fun c t0 h0 =>
 fShal (.bool false) fun v1 =>
 p2_4 t0 v1 fun t1 =>
 some (.normal, t1, h0)
def SR234_1 : RegS 2 := fun c t0 h0 =>
 kNil (g2_0 t0) h0 fun v2 h2 =>
 kFld 6 v2 h2 fun v3 h3 =>
 kLd v3 h3 fun v4 h4 =>
 kIdx 5 v4 (g2_1 t0) h4 fun v6 h6 =>
 kFld 1 v6 h6 fun v7 h7 =>
 kLd v7 h7 fun v8 h8 =>
 kEql v8 (.int .i64 (-1)) h8 fun v9 h9 =>
 p2_16 t0 v9 fun t1 =>
 some (.normal, t1, h9)
def SR234_2 : RegS 2 := fun c t0 h0 =>
 fShal (.bool false) fun v1 =>
 p2_4 t0 v1 fun t1 =>
 some (.normal, t1, h0)
def SR234_3 : RegS 2 := fun c t0 h0 =>
 kNil (g2_0 t0) h0 fun v2 h2 =>
 kFld 1 v2 h2 fun v3 h3 =>
 kLd v3 h3 fun v4 h4 =>
 kNil (g2_0 t0) h4 fun v6 h6 =>
 kFld 6 v6 h6 fun v7 h7 =>
 kLd v7 h7 fun v8 h8 =>
 kIdx 5 v8 (g2_1 t0) h8 fun v10 h10 =>
 kFld 1 v10 h10 fun v11 h11 =>
 kLd v11 h11 fun v12 h12 =>
 kIdx 4 v4 v12 h12 fun v13 h13 =>
 kFld 0 v13 h13 fun v14 h14 =>
 kLd v14 h14 fun v15 h15 =>
 fShal v15 fun v16 =>
 p2_5 t0 v16 fun t1 =>
 some (.normal, t1, h15)
def SR234_4 : RegS 2 := fun c t0 h0 =>
 fShal (.int .i64 0) fun v1 =>
 p2_6 t0 v1 fun t1 =>
 some (.normal, t1, h0)
def SR234_5 : RegS 2 := fun c t0 h0 =>
 kLenSl (g2_5 t0) h0 fun v3 h3 =>
 kLss (g2_6 t0) v3 h3 fun v4 h4 =>
 p2_35 t0 v4 fun t1 =>
 some (.normal, t1, h4)
def SR234_7 : RegS 2 := fun c t0 h0 =>
 kNil (g2_0 t0) h0 fun v2 h2 =>
 kFld 6 v2 h2 fun v3 h3 =>
 kLd v3 h3 fun v4 h4 =>
 kIdx 1 (g2_5 t0) (g2_6 t0) h4 fun v7 h7 =>
 kLd v7 h7 fun v8 h8 =>
 kAny (aShift .shr (.const v8) (.const (.int .u64 1))) c h8 fun v9 h9 =>
 kIdx 5 v4 v9 h9 fun v10 h10 =>
 kOf (vLdN 5 v10 h10) fun v11 h11 =>
 kNew [.int .i64 0, .int .i64 0, .bool false, .int .i64 0, .bool false] h11 fun v12 h12 =>
 p2_7 t0 v12 fun t1 =>
 kAny (aSt tO ro0 5 (.const v12) (.const v11)) c h12 fun _ h13 =>
 some (.normal, t1, h13)
def SR234_8 : RegS 2 := fun c t0 h0 =>
 kFld 2 (g2_7 t0) h0 fun v1 h1 =>
 kLd v1 h1 fun v2 h2 =>
 kNot v2 h2 fun v3 h3 =>
 kIf v3 true (fun k => kFld 0 (g2_7 t0) h3 k) h3 fun v5 h5 =>
 kIf v3 true (fun k => kLd v5 h5 k) h5 fun v6 h6 =>
 kIf v3 true (fun k => kGtr v6 (.int .i64 0) h6 k) h6 fun v7 h7 =>
 kPick v3 v7 (.bool false) h7 fun v8 h8 =>
 p2_56 t0 v8 fun t1 =>
 some (.normal, t1, h8)
def SR234_9 : RegS 2 := fun c t0 h0 =>
 fShal (.bool false) fun v1 =>
 p2_4 t0 v1 fun t1 =>
 some (.normal, t1, h0)
def SR234_6 : RegS 2 := fun c t0 h0 =>
 kAdd (g2_6 t0) (.int .i64 1) h0 fun v2 h2 =>
 fShal v2 fun v3 =>
 p2_6 t0 v3 fun t1 =>
 some (.normal, t1, h2)
def SR234_10 : RegS 2 := fun c t0 h0 =>
 fShal (.bool true) fun v1 =>
 p2_4 t0 v1 fun t1 =>
 some (.normal, t1, h0)
def SW234_0 : CodeS 2 :=
 cSeqS (cSeqS (cRegS (SR234_5)) (cIfS g2_35 (cSkipS) (cExitS 0))) (cSeqS (cBlkS 1 (cSeqS (cRegS (SR234_7)) (cSeqS (cRegS (SR234_8)) (cIfS g2_56 (cSeqS (cRegS (SR234_9)) (cRetS)) (cSkipS))))) (cRegS (SR234_6)))
def SF234 : CodeS 2 :=
 cSeqS (cRegS (SR234_0)) (cSeqS (cSeqS (cRegS (SR234_1)) (cIfS g2_16 (cSeqS (cRegS (SR234_2)) (cRetS)) (cSkipS))) (cSeqS (cRegS (SR234_3)) (cSeqS (cSeqS (cRegS (SR234_4)) (cBlkS 0 (cLoopS (SW234_0)))) (cSeqS (cRegS (SR234_10)) (cRetS)))))
def T234 : FnT := runG en2_2 (SF234) (resQ (qc (rT g2_4) qn))
theorem T234_ok : GoodF Tryz.prog ro0 okF 234 (T234) :=
 (good_k (n := 57) acc2 (lv [0, 1, 4, 5, 6, 7, 16, 35, 56]) (rs := [ResultVar.tmp 4]) Tryz.func234 (by kernel_rfl) (by kernel_rfl) (by kernel_rfl) (by kernel_rfl) (by kernel_rfl) (by kernel_rfl) (by kernel_rfl) (by kernel_rfl) (by kernel_rfl)).enter en2_2_ok (by kernel_rfl)

/-- (*circheck/checker.search).staying -/
def SR235_0 : RegS 3 := fun c t0 h0 =>
 fShal (.slice none 0 0) fun v1 =>
 p3_2 t0 v1 fun t1 =>
 some (.normal, t1, h0)
def SR235_1 : RegS 3 := fun c t0 h0 =>
 kNil (g3_0 t0) h0 fun v2 h2 =>
 kFld 1 v2 h2 fun v3 h3 =>
 kLd v3 h3 fun v4 h4 =>
 kLenSl v4 h4 fun v5 h5 =>
 kAny (aMake tO 1 1 #[.bool false] (.const v5) (.const v5)) c h5 fun v6 h6 =>
 fShal v6 fun v7 =>
 p3_3 t0 v7 fun t1 =>
 some (.normal, t1, h6)
def SR235_2 : RegS 3 := fun c t0 h0 =>
 kOf (c 239 [(g3_0 t0)] h0) fun v2 h2 =>
 kNew [.int .i64 0, .int .i64 0, .int .i64 0, .int .i64 0, .int .i64 0, .int .i64 0, .int .i64 0, .int .i64 0, .int .i64 0, .int .i64 0, .int .i64 0, .int .i64 0, .int .i64 0, .int .i64 0, .int .i64 0, .int .i64 0, .int .i64 0, .int .i64 0, .int .i64 0, .int .i64 0, .int .i64 0, .int .i64 0, .int .i64 0, .int .i64 0, .int .i64 0, .int .i64 0, .int .i64 0, .int .i64 0, .int .i64 0, .int .i64 0, .int .i64 0, .int .i64 0, .int .i64 0, .int .i64 0, .int .i64 0, .int .i64 0, .int .i64 0, .int .i64 0, .int .i64 0, .int .i64 0, .int .i64 0, .int .i64 0, .int .i64 0, .int .i64 0, .int .i64 0, .int .i64 0, .int .i64 0, .int .i64 0, .int .i64 0, .int .i64 0, .int .i64 0, .int .i64 0, .int .i64 0, .int .i64 0, .int .i64 0, .int .i64 0, .int .i64 0, .int .i64 0, .int .i64 0, .int .i64 0, .int .i64 0, .int .i64 0, .int .i64 0, .int .i64 0, .int .i64 0, .int .i64 0, .int .i64 0, .int .i64 0, .int .i64 0, .int .i64 0, .int .i64 0, .int .i64 0, .int .i64 0, .int .i64 0, .int .i64 0, .int .i64 0, .int .i64 0, .int .i64 0, .int .i64 0, .int .i64 0, .int .i64 0, .int .i64 0, .int .i64 0, .int .i64 0, .int .i64 0, .int .i64 0, .int .i64 0, .int .i64 0, .int .i64 0, .int .i64 0, .int .i64 0, .int .i64 0, .int .i64 0, .int .i64 0, .int .i64 0, .int .i64 0, .int .i64 0, .int .i64 0, .int .i64 0, .int .i64 0, .int .i64 0, .int .i64 0, .int .i64 0, .int .i64 0, .int .i64 0, .int .i64 0, .int .i64 0, .int .i64 0, .int .i64 0, .int .i64 0, .int .i64 0, .int .i64 0, .int .i64 0, .int .i64 0, .int .i64 0, .int .i64 0, .int .i64 0, .int .i64 0, .int .i64 0, .int .i64 0, .int .i64 0, .int .i64 0, .int .i64 0, .int .i64 0, .int .i64 0, .int .i64 0, .int .i64 0, .int .i64 0, .int .i64 0, .int .i64 0, .int .i64 0, .int .i64 0, .int .i64 0, .int .i64 0, .int .i64 0, .int .i64 0, .int .i64 0, .int .i64 0, .int .i64 0, .int .i64 0, .int .i64 0, .int .i64 0, .int .i64 0, .int .i64 0, .int .i64 0, .int .i64 0, .int .i64 0, .int .i64 0, .int .i64 0, .int .i64 0, .int .i64 0, .int .i64 0, .int .i64 0, .int .i64 0, .int .i64 0, .int .i64 0, .int .i64 0, .int .i64 0, .int .i64 0, .int .i64 0, .int .i64 0, .int .i64 0, .int .i64 0, .int .i64 0, .int .i64 0, .int .i64 0, .int .i64 0, .int .i64 0, .int .i64 0, .int .i64 0, .int .i64 0, .int .i64 0, .int .i64 0, .int .i64 0, .int .i64 0, .int .i64 0, .int .i64 0, .int .i64 0, .int .i64 0, .int .i64 0, .int .i64 0, .int .i64 0, .int .i64 0, .int .i64 0, .int .i64 0, .int .i64 0, .int .i64 0, .int .i64 0, .int .i64 0, .int .i64 0, .int .i64 0, .int .i64 0, .int .i64 0] h2 fun v3 h3 =>
 p3_4 t0 v3 fun t1 =>
 kAny (aSt tO ro0 193 (.const v3) (.const v2)) c h3 fun _ h4 =>
 some (.normal, t1, h4)
def SR235_3 : RegS 3 := fun c t0 h0 =>
 kNil (g3_0 t0) h0 fun v2 h2 =>
 kFld 1 v2 h2 fun v3 h3 =>
 kLd v3 h3 fun v4 h4 =>
 kLenSl v4 h4 fun v5 h5 =>
 kSub v5 (.int .i64 1) h5 fun v6 h6 =>
 fShal v6 fun v7 =>
 p3_5 t0 v7 fun t1 =>
 some (.normal, t1, h6)
def SR235_4 : RegS 3 := fun c t0 h0 =>
 kGeq (g3_5 t0) (.int .i64 0) h0 fun v2 h2 =>
 p3_24 t0 v2 fun t1 =>
 some (.normal, t1, h2)
def SR235_6 : RegS 3 := fun c t0 h0 =>
 kNil (g3_0 t0) h0 fun v2 h2 =>
 kFld 1 v2 h2 fun v3 h3 =>
 kLd v3 h3 fun v4 h4 =>
 kIdx 4 v4 (g3_5 t0) h4 fun v6 h6 =>
 kFld 3 v6 h6 fun v7 h7 =>
 kLd v7 h7 fun v8 h8 =>
 fShal v8 fun v9 =>
 p3_6 t0 v9 fun t1 =>
 some (.normal, t1, h8)
def SR235_7 : RegS 3 := fun c t0 h0 =>
 kNil (g3_0 t0) h0 fun v5 h5 =>
 kFld 2 v5 h5 fun v6 h6 =>
 kLd v6 h6 fun v7 h7 =>
 kLss (g3_5 t0) v7 h7 fun v8 h8 =>
 kIf v8 false (fun k => k (g3_6 t0) h8) h8 fun v10 h10 =>
 kIf v8 false (fun k => kAny (aIdxArr 193 1 (.const (g3_4 t0)) (.const v10)) c h10 k) h10 fun v11 h11 =>
 kIf v8 false (fun k => kLd v11 h11 k) h11 fun v12 h12 =>
 kIf v8 false (fun k => kGtr v12 (.int .i64 0) h12 k) h12 fun v13 h13 =>
 kPick v8 (.bool true) v13 h13 fun v14 h14 =>
 kIdx 1 (g3_3 t0) (g3_5 t0) h14 fun v15 h15 =>
 kSt ro0 v15 v14 h15 fun _ h16 =>
 some (.normal, t0, h16)
def SR235_8 : RegS 3 := fun c t0 h0 =>
 kAny (aIdxArr 193 1 (.const (g3_4 t0)) (.const (g3_6 t0))) c h0 fun v2 h2 =>
 kLd v2 h2 fun v3 h3 =>
 kSub v3 (.int .i64 1) h3 fun v4 h4 =>
 kAny (aIdxArr 193 1 (.const (g3_4 t0)) (.const (g3_6 t0))) c h4 fun v5 h5 =>
 kSt ro0 v5 v4 h5 fun _ h6 =>
 some (.normal, t0, h6)
def SR235_5 : RegS 3 := fun c t0 h0 =>
 kSub (g3_5 t0) (.int .i64 1) h0 fun v2 h2 =>
 fShal v2 fun v3 =>
 p3_5 t0 v3 fun t1 =>
 some (.normal, t1, h2)
def SR235_9 : RegS 3 := fun c t0 h0 =>
 fShal (.int .i64 0) fun v1 =>
 p3_7 t0 v1 fun t1 =>
 some (.normal, t1, h0)
def SR235_10 : RegS 3 := fun c t0 h0 =>
 kNil (g3_0 t0) h0 fun v3 h3 =>
 kFld 7 v3 h3 fun v4 h4 =>
 kLd v4 h4 fun v5 h5 =>
 kLenSl v5 h5 fun v6 h6 =>
 kLss (g3_7 t0) v6 h6 fun v7 h7 =>
 p3_61 t0 v7 fun t1 =>
 some (.normal, t1, h7)
def SR235_12 : RegS 3 := fun c t0 h0 =>
 kNil (g3_0 t0) h0 fun v2 h2 =>
 kFld 6 v2 h2 fun v3 h3 =>
 kLd v3 h3 fun v4 h4 =>
 kNil (g3_0 t0) h4 fun v6 h6 =>
 kFld 7 v6 h6 fun v7 h7 =>
 kLd v7 h7 fun v8 h8 =>
 kIdx 1 v8 (g3_7 t0) h8 fun v10 h10 =>
 kLd v10 h10 fun v11 h11 =>
 kAny (aShift .shr (.const v11) (.const (.int .u64 1))) c h11 fun v12 h12 =>
 kIdx 5 v4 v12 h12 fun v13 h13 =>
 kFld 1 v13 h13 fun v14 h14 =>
 kLd v14 h14 fun v15 h15 =>
 fShal v15 fun v16 =>
 p3_8 t0 v16 fun t1 =>
 some (.normal, t1, h15)
def SR235_13 : RegS 3 := fun c t0 h0 =>
 kNeq (g3_8 t0) (.int .i64 (-1)) h0 fun v2 h2 =>
 p3_80 t0 v2 fun t1 =>
 some (.normal, t1, h2)
def SR235_14 : RegS 3 := fun c t0 h0 =>
 kIdx 1 (g3_3 t0) (g3_8 t0) h0 fun v3 h3 =>
 kSt ro0 v3 (.bool true) h3 fun _ h4 =>
 some (.normal, t0, h4)
def SR235_11 : RegS 3 := fun c t0 h0 =>
 kAdd (g3_7 t0) (.int .i64 1) h0 fun v2 h2 =>
 fShal v2 fun v3 =>
 p3_7 t0 v3 fun t1 =>
 some (.normal, t1, h2)
def SR235_15 : RegS 3 := fun c t0 h0 =>
 fShal (g3_3 t0) fun v2 =>
 p3_2 t0 v2 fun t1 =>
 some (.normal, t1, h0)
def SW235_0 : CodeS 3 :=
 cSeqS (cSeqS (cRegS (SR235_4)) (cIfS g3_24 (cSkipS) (cExitS 0))) (cSeqS (cBlkS 1 (cSeqS (cRegS (SR235_6)) (cSeqS (cRegS (SR235_7)) (cRegS (SR235_8))))) (cRegS (SR235_5)))
def SW235_1 : CodeS 3 :=
 cSeqS (cSeqS (cRegS (SR235_10)) (cIfS g3_61 (cSkipS) (cExitS 2))) (cSeqS (cBlkS 3 (cSeqS (cRegS (SR235_12)) (cSeqS (cRegS (SR235_13)) (cIfS g3_80 (cRegS (SR235_14)) (cSkipS))))) (cRegS (SR235_11)))
def SF235 : CodeS 3 :=
 cSeqS (cRegS (SR235_0)) (cSeqS (cRegS (SR235_1)) (cSeqS (cRegS (SR235_2)) (cSeqS (cSeqS (cRegS (SR235_3)) (cBlkS 0 (cLoopS (SW235_0)))) (cSeqS (cSeqS (cRegS (SR235_9)) (cBlkS 2 (cLoopS (SW235_1)))) (cSeqS (cRegS (SR235_15)) (cRetS))))))
def T235 : FnT := runG en3_1 (SF235) (resQ (qc (rT g3_2) qn))
theorem T235_ok : GoodF Tryz.prog ro0 okF 235 (T235) :=
 (good_k (n := 85) acc3 (lv [0, 2, 3, 4, 5, 6, 7, 8, 24, 61, 80]) (rs := [ResultVar.tmp 2]) Tryz.func235 (by kernel_rfl) (by kernel_rfl) (by kernel_rfl) (by kernel_rfl) (by kernel_rfl) (by kernel_rfl) (by kernel_rfl) (by kernel_rfl) (by kernel_rfl)).enter en3_1_ok (by kernel_rfl)

/-- (*circheck/checker.search).watchAnew -/
def SR236_0 : RegS 2 := fun c t0 h0 =>
 fShal (.int .i64 0) fun v1 =>
 p2_2 t0 v1 fun t1 =>
 some (.normal, t1, h0)
def SR236_1 : RegS 2 := fun c t0 h0 =>
 kNil (g2_0 t0) h0 fun v3 h3 =>
 kFld 4 v3 h3 fun v4 h4 =>
 kLd v4 h4 fun v5 h5 =>
 kLenSl v5 h5 fun v6 h6 =>
 kLss (g2_2 t0) v6 h6 fun v7 h7 =>
 p2_10 t0 v7 fun t1 =>
 some (.normal, t1, h7)
def SR236_3 : RegS 2 := fun c t0 h0 =>
 kNil (g2_0 t0) h0 fun v2 h2 =>
 kFld 4 v2 h2 fun v3 h3 =>
 kLd v3 h3 fun v4 h4 =>
 kNil (g2_0 t0) h4 fun v7 h7 =>
 kFld 4 v7 h7 fun v8 h8 =>
 kLd v8 h8 fun v9 h9 =>
 kIdx 1 v9 (g2_2 t0) h9 fun v11 h11 =>
 kLd v11 h11 fun v12 h12 =>
 kAny (aSliceSl 1 (.const v12) none (some (.const (.int .i64 0)))) c h12 fun v13 h13 =>
 kIdx 1 v4 (g2_2 t0) h13 fun v14 h14 =>
 kSt ro0 v14 v13 h14 fun _ h15 =>
 some (.normal, t0, h15)
def SR236_2 : RegS 2 := fun c t0 h0 =>
 kAdd (g2_2 t0) (.int .i64 1) h0 fun v2 h2 =>
 fShal v2 fun v3 =>
 p2_2 t0 v3 fun t1 =>
 some (.normal, t1, h2)
def SR236_4 : RegS 2 := fun c t0 h0 =>
 fShal (.int .i64 0) fun v1 =>
 p2_3 t0 v1 fun t1 =>
 some (.normal, t1, h0)
def SR236_5 : RegS 2 := fun c t0 h0 =>
 kNil (g2_0 t0) h0 fun v3 h3 =>
 kFld 1 v3 h3 fun v4 h4 =>
 kLd v4 h4 fun v5 h5 =>
 kLenSl v5 h5 fun v6 h6 =>
 kLss (g2_3 t0) v6 h6 fun v7 h7 =>
 p2_33 t0 v7 fun t1 =>
 some (.normal, t1, h7)
def SR236_7 : RegS 2 := fun c t0 h0 =>
 kNil (g2_0 t0) h0 fun v2 h2 =>
 kFld 1 v2 h2 fun v3 h3 =>
 kLd v3 h3 fun v4 h4 =>
 kIdx 4 v4 (g2_3 t0) h4 fun v6 h6 =>
 kFld 0 v6 h6 fun v7 h7 =>
 kLd v7 h7 fun v8 h8 =>
 kLenSl v8 h8 fun v9 h9 =>
 kGtr v9 (.int .i64 1) h9 fun v10 h10 =>
 p2_45 t0 v10 fun t1 =>
 some (.normal, t1, h10)
def SR236_8 : RegS 2 := fun c t0 h0 =>
 kOf (c 219 [(g2_0 t0), (g2_3 t0)] h0) fun v3 h3 =>
 some (.normal, t0, h3)
def SR236_6 : RegS 2 := fun c t0 h0 =>
 kAdd (g2_3 t0) (.int .i64 1) h0 fun v2 h2 =>
 fShal v2 fun v3 =>
 p2_3 t0 v3 fun t1 =>
 some (.normal, t1, h2)
def SW236_0 : CodeS 2 :=
 cSeqS (cSeqS (cRegS (SR236_1)) (cIfS g2_10 (cSkipS) (cExitS 0))) (cSeqS (cBlkS 1 (cRegS (SR236_3))) (cRegS (SR236_2)))
def SW236_1 : CodeS 2 :=
 cSeqS (cSeqS (cRegS (SR236_5)) (cIfS g2_33 (cSkipS) (cExitS 2))) (cSeqS (cBlkS 3 (cSeqS (cRegS (SR236_7)) (cIfS g2_45 (cRegS (SR236_8)) (cSkipS)))) (cRegS (SR236_6)))
def SF236 : CodeS 2 :=
 cSeqS (cSeqS (cRegS (SR236_0)) (cBlkS 0 (cLoopS (SW236_0)))) (cSeqS (cRegS (SR236_4)) (cBlkS 2 (cLoopS (SW236_1))))
def T236 : FnT := runG en2_1 (SF236) (resQ qn)
theorem T236_ok : GoodF Tryz.prog ro0 okF 236 (T236) :=
 (good_k (n := 49) acc2 (lv [0, 2, 3, 10, 33, 45]) (rs := []) Tryz.func236 (by kernel_rfl) (by kernel_rfl) (by kernel_rfl) (by kernel_rfl) (by kernel_rfl) (by kernel_rfl) (by kernel_rfl) (by kernel_rfl) (by kernel_rfl)).enter en2_1_ok (by kernel_rfl)

/-- math/bits.TrailingZeros32 -/
def SR237_0 : RegS 2 := fun c t0 h0 =>
 fShal (.int .i64 0) fun v1 =>
 p2_2 t0 v1 fun t1 =>
 some (.normal, t1, h0)
def SR237_1 : RegS 2 := fun c t0 h0 =>
 kEql (g2_0 t0) (.int .u32 0) h0 fun v2 h2 =>
 p2_4 t0 v2 fun t1 =>
 some (.normal, t1, h2)
def SR237_2 : RegS 2 := fun c t0 h0 =>
 fShal (.int .i64 32) fun v1 =>
 p2_2 t0 v1 fun t1 =>
 some (.normal, t1, h0)
def SR237_3 : RegS 2 := fun c t0 h0 =>
 kAny (aUn .neg (.const (g2_0 t0))) c h0 fun v3 h3 =>
 kOf (vInt .and (g2_0 t0) v3 h3) fun v4 h4 =>
 kOf (vInt .mul v4 (.int .u32 125613361) h4) fun v5 h5 =>
 kAny (aShift .shr (.const v5) (.const (.int .u64 27))) c h5 fun v6 h6 =>
 kAny (aIdxArr 32 1 (.const (.pointer (some ⟨1, 0, none⟩))) (.const v6)) c h6 fun v7 h7 =>
 kLd v7 h7 fun v8 h8 =>
 kConv v8 h8 fun v9 h9 =>
 fShal v9 fun v10 =>
 p2_2 t0 v10 fun t1 =>
 some (.normal, t1, h9)
def SF237 : CodeS 2 :=
 cSeqS (cRegS (SR237_0)) (cSeqS (cSeqS (cRegS (SR237_1)) (cIfS g2_4 (cSeqS (cRegS (SR237_2)) (cRetS)) (cSkipS))) (cSeqS (cRegS (SR237_3)) (cRetS)))
def T237 : FnT := runG en2_1 (SF237) (resQ (qc (rT g2_2) qn))
theorem T237_ok : GoodF Tryz.prog ro0 okF 237 (T237) :=
 (good_k (n := 14) acc2 (lv [0, 2, 4]) (rs := [ResultVar.tmp 2]) Tryz.func237 (by kernel_rfl) (by kernel_rfl) (by kernel_rfl) (by kernel_rfl) (by kernel_rfl) (by kernel_rfl) (by kernel_rfl) (by kernel_rfl) (by kernel_rfl)).enter en2_1_ok (by kernel_rfl)

/-- math/bits.TrailingZeros64 -/
def SR238_0 : RegS 2 := fun c t0 h0 =>
 fShal (.int .i64 0) fun v1 =>
 p2_2 t0 v1 fun t1 =>
 some (.normal, t1, h0)
def SR238_1 : RegS 2 := fun c t0 h0 =>
 kEql (g2_0 t0) (.int .u64 0) h0 fun v2 h2 =>
 p2_4 t0 v2 fun t1 =>
 some (.normal, t1, h2)
def SR238_2 : RegS 2 := fun c t0 h0 =>
 fShal (.int .i64 64) fun v1 =>
 p2_2 t0 v1 fun t1 =>
 some (.normal, t1, h0)
def SR238_3 : RegS 2 := fun c t0 h0 =>
 kAny (aUn .neg (.const (g2_0 t0))) c h0 fun v3 h3 =>
 kOf (vInt .and (g2_0 t0) v3 h3) fun v4 h4 =>
 kOf (vInt .mul v4 (.int .u64 285870213051353865) h4) fun v5 h5 =>
 kAny (aShift .shr (.const v5) (.const (.int .u64 58))) c h5 fun v6 h6 =>
 kAny (aIdxArr 64 1 (.const (.pointer (some ⟨2, 0, none⟩))) (.const v6)) c h6 fun v7 h7 =>
 kLd v7 h7 fun v8 h8 =>
 kConv v8 h8 fun v9 h9 =>
 fShal v9 fun v10 =>
 p2_2 t0 v10 fun t1 =>
 some (.normal, t1, h9)
def SF238 : CodeS 2 :=
 cSeqS (cRegS (SR238_0)) (cSeqS (cSeqS (cRegS (SR238_1)) (cIfS g2_4 (cSeqS (cRegS (SR238_2)) (cRetS)) (cSkipS))) (cSeqS (cRegS (SR238_3)) (cRetS)))
def T238 : FnT := runG en2_1 (SF238) (resQ (qc (rT g2_2) qn))
theorem T238_ok : GoodF Tryz.prog ro0 okF 238 (T238) :=
 (good_k (n := 14) acc2 (lv [0, 2, 4]) (rs := [ResultVar.tmp 2]) Tryz.func238 (by kernel_rfl) (by kernel_rfl) (by kernel_rfl) (by kernel_rfl) (by kernel_rfl) (by kernel_rfl) (by kernel_rfl) (by kernel_rfl) (by kernel_rfl)).enter en2_1_ok (by kernel_rfl)

/-- (*circheck/checker.search).roomBySpan -/
def SR239_0 : RegS 2 := fun c t0 h0 =>
 kNew [.int .i64 0, .int .i64 0, .int .i64 0, .int .i64 0, .int .i64 0, .int .i64 0, .int .i64 0, .int .i64 0, .int .i64 0, .int .i64 0, .int .i64 0, .int .i64 0, .int .i64 0, .int .i64 0, .int .i64 0, .int .i64 0, .int .i64 0, .int .i64 0, .int .i64 0, .int .i64 0, .int .i64 0, .int .i64 0, .int .i64 0, .int .i64 0, .int .i64 0, .int .i64 0, .int .i64 0, .int .i64 0, .int .i64 0, .int .i64 0, .int .i64 0, .int .i64 0, .int .i64 0, .int .i64 0, .int .i64 0, .int .i64 0, .int .i64 0, .int .i64 0, .int .i64 0, .int .i64 0, .int .i64 0, .int .i64 0, .int .i64 0, .int .i64 0, .int .i64 0, .int .i64 0, .int .i64 0, .int .i64 0, .int .i64 0, .int .i64 0, .int .i64 0, .int .i64 0, .int .i64 0, .int .i64 0, .int .i64 0, .int .i64 0, .int .i64 0, .int .i64 0, .int .i64 0, .int .i64 0, .int .i64 0, .int .i64 0, .int .i64 0, .int .i64 0, .int .i64 0, .int .i64 0, .int .i64 0, .int .i64 0, .int .i64 0, .int .i64 0, .int .i64 0, .int .i64 0, .int .i64 0, .int .i64 0, .int .i64 0, .int .i64 0, .int .i64 0, .int .i64 0, .int .i64 0, .int .i64 0, .int .i64 0, .int .i64 0, .int .i64 0, .int .i64 0, .int .i64 0, .int .i64 0, .int .i64 0, .int .i64 0, .int .i64 0, .int .i64 0, .int .i64 0, .int .i64 0, .int .i64 0, .int .i64 0, .int .i64 0, .int .i64 0, .int .i64 0, .int .i64 0, .int .i64 0, .int .i64 0, .int .i64 0, .int .i64 0, .int .i64 0, .int .i64 0, .int .i64 0, .int .i64 0, .int .i64 0, .int .i64 0, .int .i64 0, .int .i64 0, .int .i64 0, .int .i64 0, .int .i64 0, .int .i64 0, .int .i64 0, .int .i64 0, .int .i64 0, .int .i64 0, .int .i64 0, .int .i64 0, .int .i64 0, .int .i64 0, .int .i64 0, .int .i64 0, .int .i64 0, .int .i64 0, .int .i64 0, .int .i64 0, .int .i64 0, .int .i64 0, .int .i64 0, .int .i64 0, .int .i64 0, .int .i64 0, .int .i64 0, .int .i64 0, .int .i64 0, .int .i64 0, .int .i64 0, .int .i64 0, .int .i64 0, .int .i64 0, .int .i64 0, .int .i64 0, .int .i64 0, .int .i64 0, .int .i64 0, .int .i64 0, .int .i64 0, .int .i64 0, .int .i64 0, .int .i64 0, .int .i64 0, .int .i64 0, .int .i64 0, .int .i64 0, .int .i64 0, .int .i64 0, .int .i64 0, .int .i64 0, .int .i64 0, .int .i64 0, .int .i64 0, .int .i64 0, .int .i64 0, .int .i64 0, .int .i64 0, .int .i64 0, .int .i64 0, .int .i64 0, .int .i64 0, .int .i64 0, .int .i64 0, .int .i64 0, .int .i64 0, .int .i64 0, .int .i64 0, .int .i64 0, .int .i64 0, .int .i64 0, .int .i64 0, .int .i64 0, .int .i64 0, .int .i64 0, .int .i64 0, .int .i64 0, .int .i64 0, .int .i64 0, .int .i64 0, .int .i64 0, .int .i64 0, .int .i64 0, .int .i64 0] h0 fun v1 h1 =>
 p2_2 t0 v1 fun t1 =>
 some (.normal, t1, h1)
def SR239_1 : RegS 2 := fun c t0 h0 =>
 kNew [.int .i64 0, .int .i64 0, .int .i64 0, .int .i64 0, .int .i64 0, .int .i64 0, .int .i64 0, .int .i64 0, .int .i64 0, .int .i64 0, .int .i64 0, .int .i64 0, .int .i64 0, .int .i64 0, .int .i64 0, .int .i64 0, .int .i64 0, .int .i64 0, .int .i64 0, .int .i64 0, .int .i64 0, .int .i64 0, .int .i64 0, .int .i64 0, .int .i64 0, .int .i64 0, .int .i64 0, .int .i64 0, .int .i64 0, .int .i64 0, .int .i64 0, .int .i64 0, .int .i64 0, .int .i64 0, .int .i64 0, .int .i64 0, .int .i64 0, .int .i64 0, .int .i64 0, .int .i64 0, .int .i64 0, .int .i64 0, .int .i64 0, .int .i64 0, .int .i64 0, .int .i64 0, .int .i64 0, .int .i64 0, .int .i64 0, .int .i64 0, .int .i64 0, .int .i64 0, .int .i64 0, .int .i64 0, .int .i64 0, .int .i64 0, .int .i64 0, .int .i64 0, .int .i64 0, .int .i64 0, .int .i64 0, .int .i64 0, .int .i64 0, .int .i64 0, .int .i64 0, .int .i64 0, .int .i64 0, .int .i64 0, .int .i64 0, .int .i64 0, .int .i64 0, .int .i64 0, .int .i64 0, .int .i64 0, .int .i64 0, .int .i64 0, .int .i64 0, .int .i64 0, .int .i64 0, .int .i64 0, .int .i64 0, .int .i64 0, .int .i64 0, .int .i64 0, .int .i64 0, .int .i64 0, .int .i64 0, .int .i64 0, .int .i64 0, .int .i64 0, .int .i64 0, .int .i64 0, .int .i64 0, .int .i64 0, .int .i64 0, .int .i64 0, .int .i64 0, .int .i64 0, .int .i64 0, .int .i64 0, .int .i64 0, .int .i64 0, .int .i64 0, .int .i64 0, .int .i64 0, .int .i64 0, .int .i64 0, .int .i64 0, .int .i64 0, .int .i64 0, .int .i64 0, .int .i64 0, .int .i64 0, .int .i64 0, .int .i64 0, .int .i64 0, .int .i64 0, .int .i64 0, .int .i64 0, .int .i64 0, .int .i64 0, .int .i64 0, .int .i64 0, .int .i64 0, .int .i64 0, .int .i64 0, .int .i64 0, .int .i64 0, .int .i64 0, .int .i64 0, .int .i64 0, .int .i64 0, .int .i64 0, .int .i64 0, .int .i64 0, .int .i64 0, .int .i64 0, .int .i64 0, .int .i64 0, .int .i64 0, .int .i64 0, .int .i64 0, .int .i64 0, .int .i64 0, .int .i64 0, .int .i64 0, .int .i64 0, .int .i64 0, .int .i64 0, .int .i64 0, .int .i64 0, .int .i64 0, .int .i64 0, .int .i64 0, .int .i64 0, .int .i64 0, .int .i64 0, .int .i64 0, .int .i64 0, .int .i64 0, .int .i64 0, .int .i64 0, .int .i64 0, .int .i64 0, .int .i64 0, .int .i64 0, .int .i64 0, .int .i64 0, .int .i64 0, .int .i64 0, .int .i64 0, .int .i64 0, .int .i64 0, .int .i64 0, .int .i64 0, .int .i64 0, .int .i64 0, .int .i64 0, .int .i64 0, .int .i64 0, .int .i64 0, .int .i64 0, .int .i64 0, .int .i64 0, .int .i64 0, .int .i64 0, .int .i64 0, .int .i64 0, .int .i64 0, .int .i64 0, .int .i64 0, .int .i64 0, .int .i64 0] h0 fun v1 h1 =>
 p2_3 t0 v1 fun t1 =>
 some (.normal, t1, h1)
def SR239_2 : RegS 2 := fun c t0 h0 =>
 kNil (g2_0 t0) h0 fun v2 h2 =>
 kFld 2 v2 h2 fun v3 h3 =>
 kLd v3 h3 fun v4 h4 =>
 fShal v4 fun v5 =>
 p2_4 t0 v5 fun t1 =>
 some (.normal, t1, h4)
def SR239_3 : RegS 2 := fun c t0 h0 =>
 kNil (g2_0 t0) h0 fun v3 h3 =>
 kFld 1 v3 h3 fun v4 h4 =>
 kLd v4 h4 fun v5 h5 =>
 kLenSl v5 h5 fun v6 h6 =>
 kLss (g2_4 t0) v6 h6 fun v7 h7 =>
 p2_17 t0 v7 fun t1 =>
 some (.normal, t1, h7)
def SR239_5 : RegS 2 := fun c t0 h0 =>
 kNil (g2_0 t0) h0 fun v2 h2 =>
 kFld 1 v2 h2 fun v3 h3 =>
 kLd v3 h3 fun v4 h4 =>
 kIdx 4 v4 (g2_4 t0) h4 fun v6 h6 =>
 kFld 3 v6 h6 fun v7 h7 =>
 kLd v7 h7 fun v8 h8 =>
 kAny (aIdxArr 193 1 (.const (g2_3 t0)) (.const v8)) c h8 fun v9 h9 =>
 kLd v9 h9 fun v10 h10 =>
 kAdd v10 (.int .i64 1) h10 fun v11 h11 =>
 kAny (aIdxArr 193 1 (.const (g2_3 t0)) (.const v8)) c h11 fun v12 h12 =>
 kSt ro0 v12 v11 h12 fun _ h13 =>
 some (.normal, t0, h13)
def SR239_4 : RegS 2 := fun c t0 h0 =>
 kAdd (g2_4 t0) (.int .i64 1) h0 fun v2 h2 =>
 fShal v2 fun v3 =>
 p2_4 t0 v3 fun t1 =>
 some (.normal, t1, h2)
def SR239_6 : RegS 2 := fun c t0 h0 =>
 kNil (g2_0 t0) h0 fun v2 h2 =>
 kFld 3 v2 h2 fun v3 h3 =>
 kLd v3 h3 fun v4 h4 =>
 kOf (vInt .quo v4 (.int .i64 2) h4) fun v5 h5 =>
 fShal v5 fun v6 =>
 p2_5 t0 v6 fun t1 =>
 some (.normal, t1, h5)
def SR239_7 : RegS 2 := fun c t0 h0 =>
 fShal (.int .i64 0) fun v1 =>
 p2_6 t0 v1 fun t1 =>
 some (.normal, t1, h0)
def SR239_8 : RegS 2 := fun c t0 h0 =>
 kLss (g2_6 t0) (.int .i64 193) h0 fun v2 h2 =>
 p2_38 t0 v2 fun t1 =>
 some (.normal, t1, h2)
def SR239_10 : RegS 2 := fun c t0 h0 =>
 kAny (aIdxArr 193 1 (.const (g2_3 t0)) (.const (g2_6 t0))) c h0 fun v2 h2 =>
 kLd v2 h2 fun v3 h3 =>
 kGtr v3 (g2_5 t0) h3 fun v5 h5 =>
 p2_45 t0 v5 fun t1 =>
 some (.normal, t1, h5)
def SR239_11 : RegS 2 := fun c t0 h0 =>
 kAny (aIdxArr 193 1 (.const (g2_3 t0)) (.const (g2_6 t0))) c h0 fun v3 h3 =>
 kSt ro0 v3 (g2_5 t0) h3 fun _ h4 =>
 some (.normal, t0, h4)
def SR239_12 : RegS 2 := fun c t0 h0 =>
 kAny (aIdxArr 193 1 (.const (g2_3 t0)) (.const (g2_6 t0))) c h0 fun v3 h3 =>
 kLd v3 h3 fun v4 h4 =>
 kSub (g2_5 t0) v4 h4 fun v5 h5 =>
 fShal v5 fun v6 =>
 p2_5 t0 v6 fun t1 =>
 some (.normal, t1, h5)
def SR239_9 : RegS 2 := fun c t0 h0 =>
 kAdd (g2_6 t0) (.int .i64 1) h0 fun v2 h2 =>
 fShal v2 fun v3 =>
 p2_6 t0 v3 fun t1 =>
 some (.normal, t1, h2)
def SR239_13 : RegS 2 := fun c t0 h0 =>
 kOf (vLdN 193 (g2_3 t0) h0) fun v1 h1 =>
 kAny (aSt tO ro0 193 (.const (g2_2 t0)) (.const v1)) c h1 fun _ h2 =>
 some (.normal, t0, h2)
def SW239_0 : CodeS 2 :=
 cSeqS (cSeqS (cRegS (SR239_3)) (cIfS g2_17 (cSkipS) (cExitS 0))) (cSeqS (cBlkS 1 (cRegS (SR239_5))) (cRegS (SR239_4)))
def SW239_1 : CodeS 2 :=
 cSeqS (cSeqS (cRegS (SR239_8)) (cIfS g2_38 (cSkipS) (cExitS 2))) (cSeqS (cBlkS 3 (cSeqS (cSeqS (cRegS (SR239_10)) (cIfS g2_45 (cRegS (SR239_11)) (cSkipS))) (cRegS (SR239_12)))) (cRegS (SR239_9)))
def SF239 : CodeS 2 :=
 cSeqS (cRegS (SR239_0)) (cSeqS (cRegS (SR239_1)) (cSeqS (cSeqS (cRegS (SR239_2)) (cBlkS 0 (cLoopS (SW239_0)))) (cSeqS (cRegS (SR239_6)) (cSeqS (cSeqS (cRegS (SR239_7)) (cBlkS 2 (cLoopS (SW239_1)))) (cSeqS (cRegS (SR239_13)) (cRetS))))))
def T239 : FnT := runG en2_1 (SF239) (resQ (qc (rN 193 g2_2) qn))
theorem T239_ok : GoodF Tryz.prog ro0 okF 239 (T239) :=
 (good_k (n := 55) acc2 (lv [0, 2, 3, 4, 5, 6, 17, 38, 45]) (rs := [ResultVar.cell 2 233]) Tryz.func239 (by kernel_rfl) (by kernel_rfl) (by kernel_rfl) (by kernel_rfl) (by kernel_rfl) (by kernel_rfl) (by kernel_rfl) (by kernel_rfl) (by kernel_rfl)).enter en2_1_ok (by kernel_rfl)
end Go.Proofs.YtimdkminagnhgaaGreatDoor
