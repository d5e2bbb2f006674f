/-
  The program itself for the kernel, function by function. Printed by program; the kernel checks each. Own work.
-/
import Derived.Test.YtimdkminagnhgabGreatDoorLsA
namespace Go.Proofs.YtimdkminagnhgabGreatDoor
open Go.Vm Go.Proofs
set_option linter.unusedVariables false
set_option maxRecDepth 100000

/-- (*circheck/checker.search).isNeedless -/
def SR230_0 : RegS 2 := fun c t0 h0 =>
 fShal (.bool false) fun v1 =>
 p2_4 t0 v1 fun t1 =>
 some (.normal, t1, h0)
def SR230_1 : RegS 2 := fun c t0 h0 =>
 kNil (g2_0 t0) h0 fun v2 h2 =>
 kFld 6 v2 h2 fun v3 h3 =>
 kLd v3 h3 fun v4 h4 =>
 kIdx 5 v4 (g2_1 t0) h4 fun v6 h6 =>
 kFld 1 v6 h6 fun v7 h7 =>
 kLd v7 h7 fun v8 h8 =>
 kEql v8 (.int .i64 (-1)) h8 fun v9 h9 =>
 p2_16 t0 v9 fun t1 =>
 some (.normal, t1, h9)
def SR230_2 : RegS 2 := fun c t0 h0 =>
 fShal (.bool false) fun v1 =>
 p2_4 t0 v1 fun t1 =>
 some (.normal, t1, h0)
def SR230_3 : RegS 2 := fun c t0 h0 =>
 kNil (g2_0 t0) h0 fun v2 h2 =>
 kFld 1 v2 h2 fun v3 h3 =>
 kLd v3 h3 fun v4 h4 =>
 kNil (g2_0 t0) h4 fun v6 h6 =>
 kFld 6 v6 h6 fun v7 h7 =>
 kLd v7 h7 fun v8 h8 =>
 kIdx 5 v8 (g2_1 t0) h8 fun v10 h10 =>
 kFld 1 v10 h10 fun v11 h11 =>
 kLd v11 h11 fun v12 h12 =>
 kIdx 4 v4 v12 h12 fun v13 h13 =>
 kFld 0 v13 h13 fun v14 h14 =>
 kLd v14 h14 fun v15 h15 =>
 fShal v15 fun v16 =>
 p2_5 t0 v16 fun t1 =>
 some (.normal, t1, h15)
def SR230_4 : RegS 2 := fun c t0 h0 =>
 fShal (.int .i64 0) fun v1 =>
 p2_6 t0 v1 fun t1 =>
 some (.normal, t1, h0)
def SR230_5 : RegS 2 := fun c t0 h0 =>
 kLenSl (g2_5 t0) h0 fun v3 h3 =>
 kLss (g2_6 t0) v3 h3 fun v4 h4 =>
 p2_35 t0 v4 fun t1 =>
 some (.normal, t1, h4)
def SR230_7 : RegS 2 := fun c t0 h0 =>
 kNil (g2_0 t0) h0 fun v2 h2 =>
 kFld 6 v2 h2 fun v3 h3 =>
 kLd v3 h3 fun v4 h4 =>
 kIdx 1 (g2_5 t0) (g2_6 t0) h4 fun v7 h7 =>
 kLd v7 h7 fun v8 h8 =>
 kAny (aShift .shr (.const v8) (.const (.int .u64 1))) c h8 fun v9 h9 =>
 kIdx 5 v4 v9 h9 fun v10 h10 =>
 kOf (vLdN 5 v10 h10) fun v11 h11 =>
 kNew [.int .i64 0, .int .i64 0, .bool false, .int .i64 0, .bool false] h11 fun v12 h12 =>
 p2_7 t0 v12 fun t1 =>
 kAny (aSt tO ro0 5 (.const v12) (.const v11)) c h12 fun _ h13 =>
 some (.normal, t1, h13)
def SR230_8 : RegS 2 := fun c t0 h0 =>
 kFld 2 (g2_7 t0) h0 fun v1 h1 =>
 kLd v1 h1 fun v2 h2 =>
 kNot v2 h2 fun v3 h3 =>
 kIf v3 true (fun k => kFld 0 (g2_7 t0) h3 k) h3 fun v5 h5 =>
 kIf v3 true (fun k => kLd v5 h5 k) h5 fun v6 h6 =>
 kIf v3 true (fun k => kGtr v6 (.int .i64 0) h6 k) h6 fun v7 h7 =>
 kPick v3 v7 (.bool false) h7 fun v8 h8 =>
 p2_56 t0 v8 fun t1 =>
 some (.normal, t1, h8)
def SR230_9 : RegS 2 := fun c t0 h0 =>
 fShal (.bool false) fun v1 =>
 p2_4 t0 v1 fun t1 =>
 some (.normal, t1, h0)
def SR230_6 : RegS 2 := fun c t0 h0 =>
 kAdd (g2_6 t0) (.int .i64 1) h0 fun v2 h2 =>
 fShal v2 fun v3 =>
 p2_6 t0 v3 fun t1 =>
 some (.normal, t1, h2)
def SR230_10 : RegS 2 := fun c t0 h0 =>
 fShal (.bool true) fun v1 =>
 p2_4 t0 v1 fun t1 =>
 some (.normal, t1, h0)
def SW230_0 : CodeS 2 :=
 cSeqS (cSeqS (cRegS (SR230_5)) (cIfS g2_35 (cSkipS) (cExitS 0))) (cSeqS (cBlkS 1 (cSeqS (cRegS (SR230_7)) (cSeqS (cRegS (SR230_8)) (cIfS g2_56 (cSeqS (cRegS (SR230_9)) (cRetS)) (cSkipS))))) (cRegS (SR230_6)))
def SF230 : CodeS 2 :=
 cSeqS (cRegS (SR230_0)) (cSeqS (cSeqS (cRegS (SR230_1)) (cIfS g2_16 (cSeqS (cRegS (SR230_2)) (cRetS)) (cSkipS))) (cSeqS (cRegS (SR230_3)) (cSeqS (cSeqS (cRegS (SR230_4)) (cBlkS 0 (cLoopS (SW230_0)))) (cSeqS (cRegS (SR230_10)) (cRetS)))))
def T230 : FnT := runG en2_2 (SF230) (resQ (qc (rT g2_4) qn))
theorem T230_ok : GoodF Tryz.prog ro0 okF 230 (T230) :=
 (good_k (n := 57) acc2 (lv [0, 1, 4, 5, 6, 7, 16, 35, 56]) (rs := [ResultVar.tmp 4]) Tryz.func230 (by kernel_rfl) (by kernel_rfl) (by kernel_rfl) (by kernel_rfl) (by kernel_rfl) (by kernel_rfl) (by kernel_rfl) (by kernel_rfl) (by kernel_rfl)).enter en2_2_ok (by kernel_rfl)

/-- (*circheck/checker.search).staying -/
def SR231_0 : RegS 3 := fun c t0 h0 =>
 fShal (.slice none 0 0) fun v1 =>
 p3_2 t0 v1 fun t1 =>
 some (.normal, t1, h0)
def SR231_1 : RegS 3 := fun c t0 h0 =>
 kNil (g3_0 t0) h0 fun v2 h2 =>
 kFld 1 v2 h2 fun v3 h3 =>
 kLd v3 h3 fun v4 h4 =>
 kLenSl v4 h4 fun v5 h5 =>
 kAny (aMake tO 1 1 #[.bool false] (.const v5) (.const v5)) c h5 fun v6 h6 =>
 fShal v6 fun v7 =>
 p3_3 t0 v7 fun t1 =>
 some (.normal, t1, h6)
def SR231_2 : RegS 3 := fun c t0 h0 =>
 kOf (c 233 [(g3_0 t0)] h0) fun v2 h2 =>
 kNew [.int .i64 0, .int .i64 0, .int .i64 0, .int .i64 0, .int .i64 0, .int .i64 0, .int .i64 0, .int .i64 0, .int .i64 0, .int .i64 0, .int .i64 0, .int .i64 0, .int .i64 0, .int .i64 0, .int .i64 0, .int .i64 0, .int .i64 0, .int .i64 0, .int .i64 0, .int .i64 0, .int .i64 0, .int .i64 0, .int .i64 0, .int .i64 0, .int .i64 0, .int .i64 0, .int .i64 0, .int .i64 0, .int .i64 0, .int .i64 0, .int .i64 0, .int .i64 0, .int .i64 0, .int .i64 0, .int .i64 0, .int .i64 0, .int .i64 0, .int .i64 0, .int .i64 0, .int .i64 0, .int .i64 0, .int .i64 0, .int .i64 0, .int .i64 0, .int .i64 0, .int .i64 0, .int .i64 0, .int .i64 0, .int .i64 0, .int .i64 0, .int .i64 0, .int .i64 0, .int .i64 0, .int .i64 0, .int .i64 0, .int .i64 0, .int .i64 0, .int .i64 0, .int .i64 0, .int .i64 0, .int .i64 0, .int .i64 0, .int .i64 0, .int .i64 0, .int .i64 0, .int .i64 0, .int .i64 0, .int .i64 0, .int .i64 0, .int .i64 0, .int .i64 0, .int .i64 0, .int .i64 0, .int .i64 0, .int .i64 0, .int .i64 0, .int .i64 0, .int .i64 0, .int .i64 0, .int .i64 0, .int .i64 0, .int .i64 0, .int .i64 0, .int .i64 0, .int .i64 0, .int .i64 0, .int .i64 0, .int .i64 0, .int .i64 0, .int .i64 0, .int .i64 0, .int .i64 0, .int .i64 0, .int .i64 0, .int .i64 0, .int .i64 0, .int .i64 0, .int .i64 0, .int .i64 0, .int .i64 0, .int .i64 0, .int .i64 0, .int .i64 0, .int .i64 0, .int .i64 0, .int .i64 0, .int .i64 0, .int .i64 0, .int .i64 0, .int .i64 0, .int .i64 0, .int .i64 0, .int .i64 0, .int .i64 0, .int .i64 0, .int .i64 0, .int .i64 0, .int .i64 0, .int .i64 0, .int .i64 0, .int .i64 0, .int .i64 0, .int .i64 0, .int .i64 0, .int .i64 0, .int .i64 0, .int .i64 0, .int .i64 0, .int .i64 0, .int .i64 0, .int .i64 0, .int .i64 0, .int .i64 0, .int .i64 0, .int .i64 0, .int .i64 0, .int .i64 0, .int .i64 0, .int .i64 0, .int .i64 0, .int .i64 0, .int .i64 0, .int .i64 0, .int .i64 0, .int .i64 0, .int .i64 0, .int .i64 0, .int .i64 0, .int .i64 0, .int .i64 0, .int .i64 0, .int .i64 0, .int .i64 0, .int .i64 0, .int .i64 0, .int .i64 0, .int .i64 0, .int .i64 0, .int .i64 0, .int .i64 0, .int .i64 0, .int .i64 0, .int .i64 0, .int .i64 0, .int .i64 0, .int .i64 0, .int .i64 0, .int .i64 0, .int .i64 0, .int .i64 0, .int .i64 0, .int .i64 0, .int .i64 0, .int .i64 0, .int .i64 0, .int .i64 0, .int .i64 0, .int .i64 0, .int .i64 0, .int .i64 0, .int .i64 0, .int .i64 0, .int .i64 0, .int .i64 0, .int .i64 0, .int .i64 0, .int .i64 0, .int .i64 0, .int .i64 0, .int .i64 0, .int .i64 0, .int .i64 0, .int .i64 0] h2 fun v3 h3 =>
 p3_4 t0 v3 fun t1 =>
 kAny (aSt tO ro0 193 (.const v3) (.const v2)) c h3 fun _ h4 =>
 some (.normal, t1, h4)
def SR231_3 : RegS 3 := fun c t0 h0 =>
 kNil (g3_0 t0) h0 fun v2 h2 =>
 kFld 1 v2 h2 fun v3 h3 =>
 kLd v3 h3 fun v4 h4 =>
 kLenSl v4 h4 fun v5 h5 =>
 kSub v5 (.int .i64 1) h5 fun v6 h6 =>
 fShal v6 fun v7 =>
 p3_5 t0 v7 fun t1 =>
 some (.normal, t1, h6)
def SR231_4 : RegS 3 := fun c t0 h0 =>
 kGeq (g3_5 t0) (.int .i64 0) h0 fun v2 h2 =>
 p3_24 t0 v2 fun t1 =>
 some (.normal, t1, h2)
def SR231_6 : RegS 3 := fun c t0 h0 =>
 kNil (g3_0 t0) h0 fun v2 h2 =>
 kFld 1 v2 h2 fun v3 h3 =>
 kLd v3 h3 fun v4 h4 =>
 kIdx 4 v4 (g3_5 t0) h4 fun v6 h6 =>
 kFld 3 v6 h6 fun v7 h7 =>
 kLd v7 h7 fun v8 h8 =>
 fShal v8 fun v9 =>
 p3_6 t0 v9 fun t1 =>
 some (.normal, t1, h8)
def SR231_7 : RegS 3 := fun c t0 h0 =>
 kNil (g3_0 t0) h0 fun v5 h5 =>
 kFld 2 v5 h5 fun v6 h6 =>
 kLd v6 h6 fun v7 h7 =>
 kLss (g3_5 t0) v7 h7 fun v8 h8 =>
 kIf v8 false (fun k => k (g3_6 t0) h8) h8 fun v10 h10 =>
 kIf v8 false (fun k => kAny (aIdxArr 193 1 (.const (g3_4 t0)) (.const v10)) c h10 k) h10 fun v11 h11 =>
 kIf v8 false (fun k => kLd v11 h11 k) h11 fun v12 h12 =>
 kIf v8 false (fun k => kGtr v12 (.int .i64 0) h12 k) h12 fun v13 h13 =>
 kPick v8 (.bool true) v13 h13 fun v14 h14 =>
 kIdx 1 (g3_3 t0) (g3_5 t0) h14 fun v15 h15 =>
 kSt ro0 v15 v14 h15 fun _ h16 =>
 some (.normal, t0, h16)
def SR231_8 : RegS 3 := fun c t0 h0 =>
 kAny (aIdxArr 193 1 (.const (g3_4 t0)) (.const (g3_6 t0))) c h0 fun v2 h2 =>
 kLd v2 h2 fun v3 h3 =>
 kSub v3 (.int .i64 1) h3 fun v4 h4 =>
 kAny (aIdxArr 193 1 (.const (g3_4 t0)) (.const (g3_6 t0))) c h4 fun v5 h5 =>
 kSt ro0 v5 v4 h5 fun _ h6 =>
 some (.normal, t0, h6)
def SR231_5 : RegS 3 := fun c t0 h0 =>
 kSub (g3_5 t0) (.int .i64 1) h0 fun v2 h2 =>
 fShal v2 fun v3 =>
 p3_5 t0 v3 fun t1 =>
 some (.normal, t1, h2)
def SR231_9 : RegS 3 := fun c t0 h0 =>
 fShal (.int .i64 0) fun v1 =>
 p3_7 t0 v1 fun t1 =>
 some (.normal, t1, h0)
def SR231_10 : RegS 3 := fun c t0 h0 =>
 kNil (g3_0 t0) h0 fun v3 h3 =>
 kFld 7 v3 h3 fun v4 h4 =>
 kLd v4 h4 fun v5 h5 =>
 kLenSl v5 h5 fun v6 h6 =>
 kLss (g3_7 t0) v6 h6 fun v7 h7 =>
 p3_61 t0 v7 fun t1 =>
 some (.normal, t1, h7)
def SR231_12 : RegS 3 := fun c t0 h0 =>
 kNil (g3_0 t0) h0 fun v2 h2 =>
 kFld 6 v2 h2 fun v3 h3 =>
 kLd v3 h3 fun v4 h4 =>
 kNil (g3_0 t0) h4 fun v6 h6 =>
 kFld 7 v6 h6 fun v7 h7 =>
 kLd v7 h7 fun v8 h8 =>
 kIdx 1 v8 (g3_7 t0) h8 fun v10 h10 =>
 kLd v10 h10 fun v11 h11 =>
 kAny (aShift .shr (.const v11) (.const (.int .u64 1))) c h11 fun v12 h12 =>
 kIdx 5 v4 v12 h12 fun v13 h13 =>
 kFld 1 v13 h13 fun v14 h14 =>
 kLd v14 h14 fun v15 h15 =>
 fShal v15 fun v16 =>
 p3_8 t0 v16 fun t1 =>
 some (.normal, t1, h15)
def SR231_13 : RegS 3 := fun c t0 h0 =>
 kNeq (g3_8 t0) (.int .i64 (-1)) h0 fun v2 h2 =>
 p3_80 t0 v2 fun t1 =>
 some (.normal, t1, h2)
def SR231_14 : RegS 3 := fun c t0 h0 =>
 kIdx 1 (g3_3 t0) (g3_8 t0) h0 fun v3 h3 =>
 kSt ro0 v3 (.bool true) h3 fun _ h4 =>
 some (.normal, t0, h4)
def SR231_11 : RegS 3 := fun c t0 h0 =>
 kAdd (g3_7 t0) (.int .i64 1) h0 fun v2 h2 =>
 fShal v2 fun v3 =>
 p3_7 t0 v3 fun t1 =>
 some (.normal, t1, h2)
def SR231_15 : RegS 3 := fun c t0 h0 =>
 fShal (g3_3 t0) fun v2 =>
 p3_2 t0 v2 fun t1 =>
 some (.normal, t1, h0)
def SW231_0 : CodeS 3 :=
 cSeqS (cSeqS (cRegS (SR231_4)) (cIfS g3_24 (cSkipS) (cExitS 0))) (cSeqS (cBlkS 1 (cSeqS (cRegS (SR231_6)) (cSeqS (cRegS (SR231_7)) (cRegS (SR231_8))))) (cRegS (SR231_5)))
def SW231_1 : CodeS 3 :=
 cSeqS (cSeqS (cRegS (SR231_10)) (cIfS g3_61 (cSkipS) (cExitS 2))) (cSeqS (cBlkS 3 (cSeqS (cRegS (SR231_12)) (cSeqS (cRegS (SR231_13)) (cIfS g3_80 (cRegS (SR231_14)) (cSkipS))))) (cRegS (SR231_11)))
def SF231 : CodeS 3 :=
 cSeqS (cRegS (SR231_0)) (cSeqS (cRegS (SR231_1)) (cSeqS (cRegS (SR231_2)) (cSeqS (cSeqS (cRegS (SR231_3)) (cBlkS 0 (cLoopS (SW231_0)))) (cSeqS (cSeqS (cRegS (SR231_9)) (cBlkS 2 (cLoopS (SW231_1)))) (cSeqS (cRegS (SR231_15)) (cRetS))))))
def T231 : FnT := runG en3_1 (SF231) (resQ (qc (rT g3_2) qn))
theorem T231_ok : GoodF Tryz.prog ro0 okF 231 (T231) :=
 (good_k (n := 85) acc3 (lv [0, 2, 3, 4, 5, 6, 7, 8, 24, 61, 80]) (rs := [ResultVar.tmp 2]) Tryz.func231 (by kernel_rfl) (by kernel_rfl) (by kernel_rfl) (by kernel_rfl) (by kernel_rfl) (by kernel_rfl) (by kernel_rfl) (by kernel_rfl) (by kernel_rfl)).enter en3_1_ok (by kernel_rfl)

/-- (*circheck/checker.search).watchAnew -/
def SR232_0 : RegS 2 := fun c t0 h0 =>
 fShal (.int .i64 0) fun v1 =>
 p2_2 t0 v1 fun t1 =>
 some (.normal, t1, h0)
def SR232_1 : RegS 2 := fun c t0 h0 =>
 kNil (g2_0 t0) h0 fun v3 h3 =>
 kFld 4 v3 h3 fun v4 h4 =>
 kLd v4 h4 fun v5 h5 =>
 kLenSl v5 h5 fun v6 h6 =>
 kLss (g2_2 t0) v6 h6 fun v7 h7 =>
 p2_10 t0 v7 fun t1 =>
 some (.normal, t1, h7)
def SR232_3 : RegS 2 := fun c t0 h0 =>
 kNil (g2_0 t0) h0 fun v2 h2 =>
 kFld 4 v2 h2 fun v3 h3 =>
 kLd v3 h3 fun v4 h4 =>
 kNil (g2_0 t0) h4 fun v7 h7 =>
 kFld 4 v7 h7 fun v8 h8 =>
 kLd v8 h8 fun v9 h9 =>
 kIdx 1 v9 (g2_2 t0) h9 fun v11 h11 =>
 kLd v11 h11 fun v12 h12 =>
 kAny (aSliceSl 1 (.const v12) none (some (.const (.int .i64 0)))) c h12 fun v13 h13 =>
 kIdx 1 v4 (g2_2 t0) h13 fun v14 h14 =>
 kSt ro0 v14 v13 h14 fun _ h15 =>
 some (.normal, t0, h15)
def SR232_2 : RegS 2 := fun c t0 h0 =>
 kAdd (g2_2 t0) (.int .i64 1) h0 fun v2 h2 =>
 fShal v2 fun v3 =>
 p2_2 t0 v3 fun t1 =>
 some (.normal, t1, h2)
def SR232_4 : RegS 2 := fun c t0 h0 =>
 fShal (.int .i64 0) fun v1 =>
 p2_3 t0 v1 fun t1 =>
 some (.normal, t1, h0)
def SR232_5 : RegS 2 := fun c t0 h0 =>
 kNil (g2_0 t0) h0 fun v3 h3 =>
 kFld 1 v3 h3 fun v4 h4 =>
 kLd v4 h4 fun v5 h5 =>
 kLenSl v5 h5 fun v6 h6 =>
 kLss (g2_3 t0) v6 h6 fun v7 h7 =>
 p2_33 t0 v7 fun t1 =>
 some (.normal, t1, h7)
def SR232_7 : RegS 2 := fun c t0 h0 =>
 kNil (g2_0 t0) h0 fun v2 h2 =>
 kFld 1 v2 h2 fun v3 h3 =>
 kLd v3 h3 fun v4 h4 =>
 kIdx 4 v4 (g2_3 t0) h4 fun v6 h6 =>
 kFld 0 v6 h6 fun v7 h7 =>
 kLd v7 h7 fun v8 h8 =>
 kLenSl v8 h8 fun v9 h9 =>
 kGtr v9 (.int .i64 1) h9 fun v10 h10 =>
 p2_45 t0 v10 fun t1 =>
 some (.normal, t1, h10)
def SR232_8 : RegS 2 := fun c t0 h0 =>
 kOf (c 220 [(g2_0 t0), (g2_3 t0)] h0) fun v3 h3 =>
 some (.normal, t0, h3)
def SR232_6 : RegS 2 := fun c t0 h0 =>
 kAdd (g2_3 t0) (.int .i64 1) h0 fun v2 h2 =>
 fShal v2 fun v3 =>
 p2_3 t0 v3 fun t1 =>
 some (.normal, t1, h2)
def SW232_0 : CodeS 2 :=
 cSeqS (cSeqS (cRegS (SR232_1)) (cIfS g2_10 (cSkipS) (cExitS 0))) (cSeqS (cBlkS 1 (cRegS (SR232_3))) (cRegS (SR232_2)))
def SW232_1 : CodeS 2 :=
 cSeqS (cSeqS (cRegS (SR232_5)) (cIfS g2_33 (cSkipS) (cExitS 2))) (cSeqS (cBlkS 3 (cSeqS (cRegS (SR232_7)) (cIfS g2_45 (cRegS (SR232_8)) (cSkipS)))) (cRegS (SR232_6)))
def SF232 : CodeS 2 :=
 cSeqS (cSeqS (cRegS (SR232_0)) (cBlkS 0 (cLoopS (SW232_0)))) (cSeqS (cRegS (SR232_4)) (cBlkS 2 (cLoopS (SW232_1))))
def T232 : FnT := runG en2_1 (SF232) (resQ qn)
theorem T232_ok : GoodF Tryz.prog ro0 okF 232 (T232) :=
 (good_k (n := 49) acc2 (lv [0, 2, 3, 10, 33, 45]) (rs := []) Tryz.func232 (by kernel_rfl) (by kernel_rfl) (by kernel_rfl) (by kernel_rfl) (by kernel_rfl) (by kernel_rfl) (by kernel_rfl) (by kernel_rfl) (by kernel_rfl)).enter en2_1_ok (by kernel_rfl)

/-- (*circheck/checker.search).roomBySpan -/
def SR233_0 : RegS 2 := fun c t0 h0 =>
 kNew [.int .i64 0, .int .i64 0, .int .i64 0, .int .i64 0, .int .i64 0, .int .i64 0, .int .i64 0, .int .i64 0, .int .i64 0, .int .i64 0, .int .i64 0, .int .i64 0, .int .i64 0, .int .i64 0, .int .i64 0, .int .i64 0, .int .i64 0, .int .i64 0, .int .i64 0, .int .i64 0, .int .i64 0, .int .i64 0, .int .i64 0, .int .i64 0, .int .i64 0, .int .i64 0, .int .i64 0, .int .i64 0, .int .i64 0, .int .i64 0, .int .i64 0, .int .i64 0, .int .i64 0, .int .i64 0, .int .i64 0, .int .i64 0, .int .i64 0, .int .i64 0, .int .i64 0, .int .i64 0, .int .i64 0, .int .i64 0, .int .i64 0, .int .i64 0, .int .i64 0, .int .i64 0, .int .i64 0, .int .i64 0, .int .i64 0, .int .i64 0, .int .i64 0, .int .i64 0, .int .i64 0, .int .i64 0, .int .i64 0, .int .i64 0, .int .i64 0, .int .i64 0, .int .i64 0, .int .i64 0, .int .i64 0, .int .i64 0, .int .i64 0, .int .i64 0, .int .i64 0, .int .i64 0, .int .i64 0, .int .i64 0, .int .i64 0, .int .i64 0, .int .i64 0, .int .i64 0, .int .i64 0, .int .i64 0, .int .i64 0, .int .i64 0, .int .i64 0, .int .i64 0, .int .i64 0, .int .i64 0, .int .i64 0, .int .i64 0, .int .i64 0, .int .i64 0, .int .i64 0, .int .i64 0, .int .i64 0, .int .i64 0, .int .i64 0, .int .i64 0, .int .i64 0, .int .i64 0, .int .i64 0, .int .i64 0, .int .i64 0, .int .i64 0, .int .i64 0, .int .i64 0, .int .i64 0, .int .i64 0, .int .i64 0, .int .i64 0, .int .i64 0, .int .i64 0, .int .i64 0, .int .i64 0, .int .i64 0, .int .i64 0, .int .i64 0, .int .i64 0, .int .i64 0, .int .i64 0, .int .i64 0, .int .i64 0, .int .i64 0, .int .i64 0, .int .i64 0, .int .i64 0, .int .i64 0, .int .i64 0, .int .i64 0, .int .i64 0, .int .i64 0, .int .i64 0, .int .i64 0, .int .i64 0, .int .i64 0, .int .i64 0, .int .i64 0, .int .i64 0, .int .i64 0, .int .i64 0, .int .i64 0, .int .i64 0, .int .i64 0, .int .i64 0, .int .i64 0, .int .i64 0, .int .i64 0, .int .i64 0, .int .i64 0, .int .i64 0, .int .i64 0, .int .i64 0, .int .i64 0, .int .i64 0, .int .i64 0, .int .i64 0, .int .i64 0, .int .i64 0, .int .i64 0, .int .i64 0, .int .i64 0, .int .i64 0, .int .i64 0, .int .i64 0, .int .i64 0, .int .i64 0, .int .i64 0, .int .i64 0, .int .i64 0, .int .i64 0, .int .i64 0, .int .i64 0, .int .i64 0, .int .i64 0, .int .i64 0, .int .i64 0, .int .i64 0, .int .i64 0, .int .i64 0, .int .i64 0, .int .i64 0, .int .i64 0, .int .i64 0, .int .i64 0, .int .i64 0, .int .i64 0, .int .i64 0, .int .i64 0, .int .i64 0, .int .i64 0, .int .i64 0, .int .i64 0, .int .i64 0, .int .i64 0, .int .i64 0, .int .i64 0, .int .i64 0, .int .i64 0, .int .i64 0, .int .i64 0, .int .i64 0] h0 fun v1 h1 =>
 p2_2 t0 v1 fun t1 =>
 some (.normal, t1, h1)
def SR233_1 : RegS 2 := fun c t0 h0 =>
 kNew [.int .i64 0, .int .i64 0, .int .i64 0, .int .i64 0, .int .i64 0, .int .i64 0, .int .i64 0, .int .i64 0, .int .i64 0, .int .i64 0, .int .i64 0, .int .i64 0, .int .i64 0, .int .i64 0, .int .i64 0, .int .i64 0, .int .i64 0, .int .i64 0, .int .i64 0, .int .i64 0, .int .i64 0, .int .i64 0, .int .i64 0, .int .i64 0, .int .i64 0, .int .i64 0, .int .i64 0, .int .i64 0, .int .i64 0, .int .i64 0, .int .i64 0, .int .i64 0, .int .i64 0, .int .i64 0, .int .i64 0, .int .i64 0, .int .i64 0, .int .i64 0, .int .i64 0, .int .i64 0, .int .i64 0, .int .i64 0, .int .i64 0, .int .i64 0, .int .i64 0, .int .i64 0, .int .i64 0, .int .i64 0, .int .i64 0, .int .i64 0, .int .i64 0, .int .i64 0, .int .i64 0, .int .i64 0, .int .i64 0, .int .i64 0, .int .i64 0, .int .i64 0, .int .i64 0, .int .i64 0, .int .i64 0, .int .i64 0, .int .i64 0, .int .i64 0, .int .i64 0, .int .i64 0, .int .i64 0, .int .i64 0, .int .i64 0, .int .i64 0, .int .i64 0, .int .i64 0, .int .i64 0, .int .i64 0, .int .i64 0, .int .i64 0, .int .i64 0, .int .i64 0, .int .i64 0, .int .i64 0, .int .i64 0, .int .i64 0, .int .i64 0, .int .i64 0, .int .i64 0, .int .i64 0, .int .i64 0, .int .i64 0, .int .i64 0, .int .i64 0, .int .i64 0, .int .i64 0, .int .i64 0, .int .i64 0, .int .i64 0, .int .i64 0, .int .i64 0, .int .i64 0, .int .i64 0, .int .i64 0, .int .i64 0, .int .i64 0, .int .i64 0, .int .i64 0, .int .i64 0, .int .i64 0, .int .i64 0, .int .i64 0, .int .i64 0, .int .i64 0, .int .i64 0, .int .i64 0, .int .i64 0, .int .i64 0, .int .i64 0, .int .i64 0, .int .i64 0, .int .i64 0, .int .i64 0, .int .i64 0, .int .i64 0, .int .i64 0, .int .i64 0, .int .i64 0, .int .i64 0, .int .i64 0, .int .i64 0, .int .i64 0, .int .i64 0, .int .i64 0, .int .i64 0, .int .i64 0, .int .i64 0, .int .i64 0, .int .i64 0, .int .i64 0, .int .i64 0, .int .i64 0, .int .i64 0, .int .i64 0, .int .i64 0, .int .i64 0, .int .i64 0, .int .i64 0, .int .i64 0, .int .i64 0, .int .i64 0, .int .i64 0, .int .i64 0, .int .i64 0, .int .i64 0, .int .i64 0, .int .i64 0, .int .i64 0, .int .i64 0, .int .i64 0, .int .i64 0, .int .i64 0, .int .i64 0, .int .i64 0, .int .i64 0, .int .i64 0, .int .i64 0, .int .i64 0, .int .i64 0, .int .i64 0, .int .i64 0, .int .i64 0, .int .i64 0, .int .i64 0, .int .i64 0, .int .i64 0, .int .i64 0, .int .i64 0, .int .i64 0, .int .i64 0, .int .i64 0, .int .i64 0, .int .i64 0, .int .i64 0, .int .i64 0, .int .i64 0, .int .i64 0, .int .i64 0, .int .i64 0, .int .i64 0, .int .i64 0, .int .i64 0, .int .i64 0, .int .i64 0, .int .i64 0, .int .i64 0, .int .i64 0] h0 fun v1 h1 =>
 p2_3 t0 v1 fun t1 =>
 some (.normal, t1, h1)
def SR233_2 : RegS 2 := fun c t0 h0 =>
 kNil (g2_0 t0) h0 fun v2 h2 =>
 kFld 2 v2 h2 fun v3 h3 =>
 kLd v3 h3 fun v4 h4 =>
 fShal v4 fun v5 =>
 p2_4 t0 v5 fun t1 =>
 some (.normal, t1, h4)
def SR233_3 : RegS 2 := fun c t0 h0 =>
 kNil (g2_0 t0) h0 fun v3 h3 =>
 kFld 1 v3 h3 fun v4 h4 =>
 kLd v4 h4 fun v5 h5 =>
 kLenSl v5 h5 fun v6 h6 =>
 kLss (g2_4 t0) v6 h6 fun v7 h7 =>
 p2_17 t0 v7 fun t1 =>
 some (.normal, t1, h7)
def SR233_5 : RegS 2 := fun c t0 h0 =>
 kNil (g2_0 t0) h0 fun v2 h2 =>
 kFld 1 v2 h2 fun v3 h3 =>
 kLd v3 h3 fun v4 h4 =>
 kIdx 4 v4 (g2_4 t0) h4 fun v6 h6 =>
 kFld 3 v6 h6 fun v7 h7 =>
 kLd v7 h7 fun v8 h8 =>
 kAny (aIdxArr 193 1 (.const (g2_3 t0)) (.const v8)) c h8 fun v9 h9 =>
 kLd v9 h9 fun v10 h10 =>
 kAdd v10 (.int .i64 1) h10 fun v11 h11 =>
 kAny (aIdxArr 193 1 (.const (g2_3 t0)) (.const v8)) c h11 fun v12 h12 =>
 kSt ro0 v12 v11 h12 fun _ h13 =>
 some (.normal, t0, h13)
def SR233_4 : RegS 2 := fun c t0 h0 =>
 kAdd (g2_4 t0) (.int .i64 1) h0 fun v2 h2 =>
 fShal v2 fun v3 =>
 p2_4 t0 v3 fun t1 =>
 some (.normal, t1, h2)
def SR233_6 : RegS 2 := fun c t0 h0 =>
 kNil (g2_0 t0) h0 fun v2 h2 =>
 kFld 3 v2 h2 fun v3 h3 =>
 kLd v3 h3 fun v4 h4 =>
 kOf (vInt .quo v4 (.int .i64 2) h4) fun v5 h5 =>
 fShal v5 fun v6 =>
 p2_5 t0 v6 fun t1 =>
 some (.normal, t1, h5)
def SR233_7 : RegS 2 := fun c t0 h0 =>
 fShal (.int .i64 0) fun v1 =>
 p2_6 t0 v1 fun t1 =>
 some (.normal, t1, h0)
def SR233_8 : RegS 2 := fun c t0 h0 =>
 kLss (g2_6 t0) (.int .i64 193) h0 fun v2 h2 =>
 p2_38 t0 v2 fun t1 =>
 some (.normal, t1, h2)
def SR233_10 : RegS 2 := fun c t0 h0 =>
 kAny (aIdxArr 193 1 (.const (g2_3 t0)) (.const (g2_6 t0))) c h0 fun v2 h2 =>
 kLd v2 h2 fun v3 h3 =>
 kGtr v3 (g2_5 t0) h3 fun v5 h5 =>
 p2_45 t0 v5 fun t1 =>
 some (.normal, t1, h5)
def SR233_11 : RegS 2 := fun c t0 h0 =>
 kAny (aIdxArr 193 1 (.const (g2_3 t0)) (.const (g2_6 t0))) c h0 fun v3 h3 =>
 kSt ro0 v3 (g2_5 t0) h3 fun _ h4 =>
 some (.normal, t0, h4)
def SR233_12 : RegS 2 := fun c t0 h0 =>
 kAny (aIdxArr 193 1 (.const (g2_3 t0)) (.const (g2_6 t0))) c h0 fun v3 h3 =>
 kLd v3 h3 fun v4 h4 =>
 kSub (g2_5 t0) v4 h4 fun v5 h5 =>
 fShal v5 fun v6 =>
 p2_5 t0 v6 fun t1 =>
 some (.normal, t1, h5)
def SR233_9 : RegS 2 := fun c t0 h0 =>
 kAdd (g2_6 t0) (.int .i64 1) h0 fun v2 h2 =>
 fShal v2 fun v3 =>
 p2_6 t0 v3 fun t1 =>
 some (.normal, t1, h2)
def SR233_13 : RegS 2 := fun c t0 h0 =>
 kOf (vLdN 193 (g2_3 t0) h0) fun v1 h1 =>
 kAny (aSt tO ro0 193 (.const (g2_2 t0)) (.const v1)) c h1 fun _ h2 =>
 some (.normal, t0, h2)
def SW233_0 : CodeS 2 :=
 cSeqS (cSeqS (cRegS (SR233_3)) (cIfS g2_17 (cSkipS) (cExitS 0))) (cSeqS (cBlkS 1 (cRegS (SR233_5))) (cRegS (SR233_4)))
def SW233_1 : CodeS 2 :=
 cSeqS (cSeqS (cRegS (SR233_8)) (cIfS g2_38 (cSkipS) (cExitS 2))) (cSeqS (cBlkS 3 (cSeqS (cSeqS (cRegS (SR233_10)) (cIfS g2_45 (cRegS (SR233_11)) (cSkipS))) (cRegS (SR233_12)))) (cRegS (SR233_9)))
def SF233 : CodeS 2 :=
 cSeqS (cRegS (SR233_0)) (cSeqS (cRegS (SR233_1)) (cSeqS (cSeqS (cRegS (SR233_2)) (cBlkS 0 (cLoopS (SW233_0)))) (cSeqS (cRegS (SR233_6)) (cSeqS (cSeqS (cRegS (SR233_7)) (cBlkS 2 (cLoopS (SW233_1)))) (cSeqS (cRegS (SR233_13)) (cRetS))))))
def T233 : FnT := runG en2_1 (SF233) (resQ (qc (rN 193 g2_2) qn))
theorem T233_ok : GoodF Tryz.prog ro0 okF 233 (T233) :=
 (good_k (n := 55) acc2 (lv [0, 2, 3, 4, 5, 6, 17, 38, 45]) (rs := [ResultVar.cell 2 238]) Tryz.func233 (by kernel_rfl) (by kernel_rfl) (by kernel_rfl) (by kernel_rfl) (by kernel_rfl) (by kernel_rfl) (by kernel_rfl) (by kernel_rfl) (by kernel_rfl)).enter en2_1_ok (by kernel_rfl)
end Go.Proofs.YtimdkminagnhgabGreatDoor
