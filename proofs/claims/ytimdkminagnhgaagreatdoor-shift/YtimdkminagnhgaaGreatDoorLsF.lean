/-
  The program itself for the kernel, function by function. Printed by program; the kernel checks each. Own work.
-/
import Derived.Test.YtimdkminagnhgaaGreatDoorLsA
namespace Go.Proofs.YtimdkminagnhgaaGreatDoor
open Go.Vm Go.Proofs
set_option linter.unusedVariables false
set_option maxRecDepth 100000

/-- (*circheck/checker.Circuit).clauseAgainst -/
def SR162_0 : RegS 2 := fun c t0 h0 =>
 fShal (.slice none 0 0) fun v1 =>
 p2_4 t0 v1 fun t1 =>
 some (.normal, t1, h0)
def SR162_1 : RegS 2 := fun c t0 h0 =>
 kMkSl 1 0 #[.int .i64 0] [] h0 fun v1 h1 =>
 fShal v1 fun v2 =>
 p2_5 t0 v2 fun t1 =>
 some (.normal, t1, h1)
def SR162_2 : RegS 2 := fun c t0 h0 =>
 fShal (.int .i64 0) fun v1 =>
 p2_6 t0 v1 fun t1 =>
 some (.normal, t1, h0)
def SR162_3 : RegS 2 := fun c t0 h0 =>
 kNil (g2_0 t0) h0 fun v3 h3 =>
 kFld 1 v3 h3 fun v4 h4 =>
 kLd v4 h4 fun v5 h5 =>
 kLenSl v5 h5 fun v6 h6 =>
 kLss (g2_6 t0) v6 h6 fun v7 h7 =>
 p2_14 t0 v7 fun t1 =>
 some (.normal, t1, h7)
def SR162_5 : RegS 2 := fun c t0 h0 =>
 kOf (vInt .mul (.int .i64 2) (g2_6 t0) h0) fun v3 h3 =>
 kAny (aShift .shr (.const (g2_1 t0)) (.const (g2_6 t0))) c h3 fun v6 h6 =>
 kOf (vInt .and v6 (.int .i64 1) h6) fun v7 h7 =>
 kAdd v3 v7 h7 fun v8 h8 =>
 kMkSl 1 1 #[.int .i64 0] [(0, v8)] h8 fun v9 h9 =>
 kOf (vApp ro0 1 8 (g2_5 t0) v9 h9) fun v10 h10 =>
 fShal v10 fun v11 =>
 p2_5 t0 v11 fun t1 =>
 some (.normal, t1, h10)
def SR162_4 : RegS 2 := fun c t0 h0 =>
 kAdd (g2_6 t0) (.int .i64 1) h0 fun v2 h2 =>
 fShal v2 fun v3 =>
 p2_6 t0 v3 fun t1 =>
 some (.normal, t1, h2)
def SR162_6 : RegS 2 := fun c t0 h0 =>
 fShal (g2_5 t0) fun v2 =>
 p2_4 t0 v2 fun t1 =>
 some (.normal, t1, h0)
def SW162_0 : CodeS 2 :=
 cSeqS (cSeqS (cRegS (SR162_3)) (cIfS g2_14 (cSkipS) (cExitS 0))) (cSeqS (cBlkS 1 (cRegS (SR162_5))) (cRegS (SR162_4)))
def SF162 : CodeS 2 :=
 cSeqS (cRegS (SR162_0)) (cSeqS (cRegS (SR162_1)) (cSeqS (cSeqS (cRegS (SR162_2)) (cBlkS 0 (cLoopS (SW162_0)))) (cSeqS (cRegS (SR162_6)) (cRetS))))
def T162 : FnT := runG en2_2 (SF162) (resQ (qc (rT g2_4) qn))
theorem T162_ok : GoodF Tryz.prog ro0 okF 162 (T162) :=
 (good_k (n := 28) acc2 (lv [0, 1, 4, 5, 6, 14]) (rs := [ResultVar.tmp 4]) Tryz.func162 (by kernel_rfl) (by kernel_rfl) (by kernel_rfl) (by kernel_rfl) (by kernel_rfl) (by kernel_rfl) (by kernel_rfl) (by kernel_rfl) (by kernel_rfl)).enter en2_2_ok (by kernel_rfl)

/-- (*circheck/checker.Circuit).broken -/
def SR163_0 : RegS 2 := fun c t0 h0 =>
 fShal (.slice none 0 0) fun v1 =>
 p2_4 t0 v1 fun t1 =>
 some (.normal, t1, h0)
def SR163_1 : RegS 2 := fun c t0 h0 =>
 kMkSl 1 0 #[.int .i64 0] [] h0 fun v1 h1 =>
 fShal v1 fun v2 =>
 p2_5 t0 v2 fun t1 =>
 some (.normal, t1, h1)
def SR163_2 : RegS 2 := fun c t0 h0 =>
 fShal (.int .i64 0) fun v1 =>
 p2_6 t0 v1 fun t1 =>
 some (.normal, t1, h0)
def SR163_3 : RegS 2 := fun c t0 h0 =>
 kLenSl (g2_1 t0) h0 fun v3 h3 =>
 kLss (g2_6 t0) v3 h3 fun v4 h4 =>
 p2_12 t0 v4 fun t1 =>
 some (.normal, t1, h4)
def SR163_5 : RegS 2 := fun c t0 h0 =>
 kNil (g2_0 t0) h0 fun v2 h2 =>
 kFld 1 v2 h2 fun v3 h3 =>
 kLd v3 h3 fun v4 h4 =>
 kIdx 1 (g2_1 t0) (g2_6 t0) h4 fun v7 h7 =>
 kLd v7 h7 fun v8 h8 =>
 kAny (aShift .shr (.const v8) (.const (.int .u64 1))) c h8 fun v9 h9 =>
 kIdx 2 v4 v9 h9 fun v10 h10 =>
 kFld 0 v10 h10 fun v11 h11 =>
 kLd v11 h11 fun v12 h12 =>
 fShal v12 fun v13 =>
 p2_7 t0 v13 fun t1 =>
 some (.normal, t1, h12)
def SR163_6 : RegS 2 := fun c t0 h0 =>
 kOf (vInt .xor (g2_7 t0) (.int .i64 1) h0) fun v3 h3 =>
 kIdx 1 (g2_1 t0) (g2_6 t0) h3 fun v6 h6 =>
 kLd v6 h6 fun v7 h7 =>
 kOf (vInt .and v7 (.int .i64 1) h7) fun v8 h8 =>
 kOf (vInt .xor v3 v8 h8) fun v9 h9 =>
 kMkSl 1 1 #[.int .i64 0] [(0, v9)] h9 fun v10 h10 =>
 kOf (vApp ro0 1 8 (g2_5 t0) v10 h10) fun v11 h11 =>
 fShal v11 fun v12 =>
 p2_5 t0 v12 fun t1 =>
 some (.normal, t1, h11)
def SR163_4 : RegS 2 := fun c t0 h0 =>
 kAdd (g2_6 t0) (.int .i64 1) h0 fun v2 h2 =>
 fShal v2 fun v3 =>
 p2_6 t0 v3 fun t1 =>
 some (.normal, t1, h2)
def SR163_7 : RegS 2 := fun c t0 h0 =>
 fShal (g2_5 t0) fun v2 =>
 p2_4 t0 v2 fun t1 =>
 some (.normal, t1, h0)
def SW163_0 : CodeS 2 :=
 cSeqS (cSeqS (cRegS (SR163_3)) (cIfS g2_12 (cSkipS) (cExitS 0))) (cSeqS (cBlkS 1 (cSeqS (cRegS (SR163_5)) (cRegS (SR163_6)))) (cRegS (SR163_4)))
def SF163 : CodeS 2 :=
 cSeqS (cRegS (SR163_0)) (cSeqS (cRegS (SR163_1)) (cSeqS (cSeqS (cRegS (SR163_2)) (cBlkS 0 (cLoopS (SW163_0)))) (cSeqS (cRegS (SR163_7)) (cRetS))))
def T163 : FnT := runG en2_2 (SF163) (resQ (qc (rT g2_4) qn))
theorem T163_ok : GoodF Tryz.prog ro0 okF 163 (T163) :=
 (good_k (n := 39) acc2 (lv [0, 1, 4, 5, 6, 7, 12]) (rs := [ResultVar.tmp 4]) Tryz.func163 (by kernel_rfl) (by kernel_rfl) (by kernel_rfl) (by kernel_rfl) (by kernel_rfl) (by kernel_rfl) (by kernel_rfl) (by kernel_rfl) (by kernel_rfl)).enter en2_2_ok (by kernel_rfl)

/-- (*circheck/checker.Circuit).shortened -/
def SR164_0 : RegS 3 := fun c t0 h0 =>
 fShal (.slice none 0 0) fun v1 =>
 p3_6 t0 v1 fun t1 =>
 some (.normal, t1, h0)
def SR164_1 : RegS 3 := fun c t0 h0 =>
 kOf (c 163 [(g3_0 t0), (g3_1 t0)] h0) fun v3 h3 =>
 fShal v3 fun v4 =>
 p3_7 t0 v4 fun t1 =>
 some (.normal, t1, h3)
def SR164_2 : RegS 3 := fun c t0 h0 =>
 kOf (c 190 [(g3_7 t0), (g3_2 t0)] h0) fun v3 h3 =>
 fShal v3 fun v4 =>
 p3_8 t0 v4 fun t1 =>
 some (.normal, t1, h3)
def SR164_3 : RegS 3 := fun c t0 h0 =>
 fShal (.bool true) fun v1 =>
 p3_9 t0 v1 fun t1 =>
 some (.normal, t1, h0)
def SR164_4 : RegS 3 := fun c t0 h0 =>
 fShal (.int .i64 0) fun v1 =>
 p3_10 t0 v1 fun t1 =>
 some (.normal, t1, h0)
def SR164_5 : RegS 3 := fun c t0 h0 =>
 kLenSl (g3_1 t0) h0 fun v3 h3 =>
 kLss (g3_10 t0) v3 h3 fun v4 h4 =>
 p3_22 t0 v4 fun t1 =>
 some (.normal, t1, h4)
def SR164_7 : RegS 3 := fun c t0 h0 =>
 kIdx 1 (g3_8 t0) (g3_10 t0) h0 fun v3 h3 =>
 kLd v3 h3 fun v4 h4 =>
 kIf v4 true (fun k => k (g3_0 t0) h4) h4 fun v6 h6 =>
 kIf v4 true (fun k => k (g3_1 t0) h6) h6 fun v7 h7 =>
 kIf v4 true (fun k => k (g3_10 t0) h7) h7 fun v8 h8 =>
 kIf v4 true (fun k => kIdx 1 v7 v8 h8 k) h8 fun v9 h9 =>
 kIf v4 true (fun k => kLd v9 h9 k) h9 fun v10 h10 =>
 kIf v4 true (fun k => kOf (c 191 [v6, v10] h10) k) h10 fun v11 h11 =>
 kPick v4 v11 (.bool false) h11 fun v12 h12 =>
 p3_36 t0 v12 fun t1 =>
 some (.normal, t1, h12)
def SR164_8 : RegS 3 := fun c t0 h0 =>
 fShal (.bool false) fun v1 =>
 p3_9 t0 v1 fun t1 =>
 some (.normal, t1, h0)
def SR164_6 : RegS 3 := fun c t0 h0 =>
 kAdd (g3_10 t0) (.int .i64 1) h0 fun v2 h2 =>
 fShal v2 fun v3 =>
 p3_10 t0 v3 fun t1 =>
 some (.normal, t1, h2)
def SR164_9 : RegS 3 := fun c t0 h0 =>
 kMkSl 1 0 #[.int .i64 0] [] h0 fun v1 h1 =>
 fShal v1 fun v2 =>
 p3_11 t0 v2 fun t1 =>
 some (.normal, t1, h1)
def SR164_10 : RegS 3 := fun c t0 h0 =>
 fShal (.int .i64 0) fun v1 =>
 p3_12 t0 v1 fun t1 =>
 some (.normal, t1, h0)
def SR164_11 : RegS 3 := fun c t0 h0 =>
 kLenSl (g3_1 t0) h0 fun v3 h3 =>
 kLss (g3_12 t0) v3 h3 fun v4 h4 =>
 p3_41 t0 v4 fun t1 =>
 some (.normal, t1, h4)
def SR164_13 : RegS 3 := fun c t0 h0 =>
 kIdx 1 (g3_8 t0) (g3_12 t0) h0 fun v3 h3 =>
 kLd v3 h3 fun v4 h4 =>
 kNot v4 h4 fun v5 h5 =>
 kIf v5 true (fun k => k (g3_9 t0) h5) h5 fun v7 h7 =>
 kPick v5 v7 (.bool false) h7 fun v8 h8 =>
 kIf v8 true (fun k => k (g3_0 t0) h8) h8 fun v10 h10 =>
 kIf v8 true (fun k => k (g3_1 t0) h10) h10 fun v11 h11 =>
 kIf v8 true (fun k => k (g3_12 t0) h11) h11 fun v12 h12 =>
 kIf v8 true (fun k => kIdx 1 v11 v12 h12 k) h12 fun v13 h13 =>
 kIf v8 true (fun k => kLd v13 h13 k) h13 fun v14 h14 =>
 kIf v8 true (fun k => kOf (c 191 [v10, v14] h14) k) h14 fun v15 h15 =>
 kPick v8 v15 (.bool false) h15 fun v16 h16 =>
 p3_59 t0 v16 fun t1 =>
 some (.normal, t1, h16)
def SR164_14 : RegS 3 := fun c t0 h0 =>
 kIdx 1 (g3_8 t0) (g3_12 t0) h0 fun v3 h3 =>
 kSt ro0 v3 (.bool true) h3 fun _ h4 =>
 some (.normal, t0, h4)
def SR164_15 : RegS 3 := fun c t0 h0 =>
 fShal (.bool false) fun v1 =>
 p3_9 t0 v1 fun t1 =>
 some (.normal, t1, h0)
def SR164_16 : RegS 3 := fun c t0 h0 =>
 kIdx 1 (g3_8 t0) (g3_12 t0) h0 fun v3 h3 =>
 kLd v3 h3 fun v4 h4 =>
 p3_66 t0 v4 fun t1 =>
 some (.normal, t1, h4)
def SR164_17 : RegS 3 := fun c t0 h0 =>
 kIdx 1 (g3_1 t0) (g3_12 t0) h0 fun v4 h4 =>
 kLd v4 h4 fun v5 h5 =>
 kMkSl 1 1 #[.int .i64 0] [(0, v5)] h5 fun v6 h6 =>
 kOf (vApp ro0 1 8 (g3_11 t0) v6 h6) fun v7 h7 =>
 fShal v7 fun v8 =>
 p3_11 t0 v8 fun t1 =>
 some (.normal, t1, h7)
def SR164_12 : RegS 3 := fun c t0 h0 =>
 kAdd (g3_12 t0) (.int .i64 1) h0 fun v2 h2 =>
 fShal v2 fun v3 =>
 p3_12 t0 v3 fun t1 =>
 some (.normal, t1, h2)
def SR164_18 : RegS 3 := fun c t0 h0 =>
 fShal (g3_11 t0) fun v2 =>
 p3_6 t0 v2 fun t1 =>
 some (.normal, t1, h0)
def SW164_0 : CodeS 3 :=
 cSeqS (cSeqS (cRegS (SR164_5)) (cIfS g3_22 (cSkipS) (cExitS 0))) (cSeqS (cBlkS 1 (cSeqS (cRegS (SR164_7)) (cIfS g3_36 (cRegS (SR164_8)) (cSkipS)))) (cRegS (SR164_6)))
def SW164_1 : CodeS 3 :=
 cSeqS (cSeqS (cRegS (SR164_11)) (cIfS g3_41 (cSkipS) (cExitS 2))) (cSeqS (cBlkS 3 (cSeqS (cSeqS (cRegS (SR164_13)) (cIfS g3_59 (cSeqS (cRegS (SR164_14)) (cRegS (SR164_15))) (cSkipS))) (cSeqS (cRegS (SR164_16)) (cIfS g3_66 (cRegS (SR164_17)) (cSkipS))))) (cRegS (SR164_12)))
def SF164 : CodeS 3 :=
 cSeqS (cRegS (SR164_0)) (cSeqS (cRegS (SR164_1)) (cSeqS (cRegS (SR164_2)) (cSeqS (cRegS (SR164_3)) (cSeqS (cSeqS (cRegS (SR164_4)) (cBlkS 0 (cLoopS (SW164_0)))) (cSeqS (cRegS (SR164_9)) (cSeqS (cSeqS (cRegS (SR164_10)) (cBlkS 2 (cLoopS (SW164_1)))) (cSeqS (cRegS (SR164_18)) (cRetS))))))))
def T164 : FnT := runG en3_3 (SF164) (resQ (qc (rT g3_6) qn))
theorem T164_ok : GoodF Tryz.prog ro0 okF 164 (T164) :=
 (good_k (n := 75) acc3 (lv [0, 1, 2, 6, 7, 8, 9, 10, 11, 12, 22, 36, 41, 59, 66]) (rs := [ResultVar.tmp 6]) Tryz.func164 (by kernel_rfl) (by kernel_rfl) (by kernel_rfl) (by kernel_rfl) (by kernel_rfl) (by kernel_rfl) (by kernel_rfl) (by kernel_rfl) (by kernel_rfl)).enter en3_3_ok (by kernel_rfl)

/-- (*circheck/checker.run).learn -/
def SR165_0 : RegS 2 := fun c t0 h0 =>
 fShal (g2_1 t0) fun v2 =>
 p2_6 t0 v2 fun t1 =>
 some (.normal, t1, h0)
def SR165_1 : RegS 2 := fun c t0 h0 =>
 kGtr (g2_6 t0) (.int .i64 0) h0 fun v2 h2 =>
 p2_10 t0 v2 fun t1 =>
 some (.normal, t1, h2)
def SR165_3 : RegS 2 := fun c t0 h0 =>
 kNil (g2_0 t0) h0 fun v2 h2 =>
 kFld 3 v2 h2 fun v3 h3 =>
 kLd v3 h3 fun v4 h4 =>
 kIdx 2 v4 (g2_6 t0) h4 fun v6 h6 =>
 kOf (c 192 [v6, (g2_2 t0)] h6) fun v8 h8 =>
 fShal v8 fun v9 =>
 p2_7 t0 v9 fun t1 =>
 some (.normal, t1, h8)
def SR165_4 : RegS 2 := fun c t0 h0 =>
 fShal (g2_7 t0) fun v1 =>
 p2_21 t0 v1 fun t1 =>
 some (.normal, t1, h0)
def SR165_5 : RegS 2 := fun c t0 h0 =>
 kNil (g2_0 t0) h0 fun v2 h2 =>
 kFld 3 v2 h2 fun v3 h3 =>
 kLd v3 h3 fun v4 h4 =>
 kIdx 2 v4 (g2_6 t0) h4 fun v6 h6 =>
 kNil (g2_0 t0) h6 fun v8 h8 =>
 kFld 0 v8 h8 fun v9 h9 =>
 kLd v9 h9 fun v10 h10 =>
 kOf (c 193 [v6, v10, (g2_2 t0)] h10) fun v12 h12 =>
 some (.normal, t0, h12)
def SR165_2 : RegS 2 := fun c t0 h0 =>
 kSub (g2_6 t0) (.int .i64 1) h0 fun v2 h2 =>
 fShal v2 fun v3 =>
 p2_6 t0 v3 fun t1 =>
 some (.normal, t1, h2)
def SR165_6 : RegS 2 := fun c t0 h0 =>
 kNil (g2_0 t0) h0 fun v2 h2 =>
 kFld 3 v2 h2 fun v3 h3 =>
 kLd v3 h3 fun v4 h4 =>
 kNil (g2_0 t0) h4 fun v7 h7 =>
 kFld 3 v7 h7 fun v8 h8 =>
 kLd v8 h8 fun v9 h9 =>
 kIdx 2 v9 (g2_1 t0) h9 fun v11 h11 =>
 kFld 1 v11 h11 fun v12 h12 =>
 kLd v12 h12 fun v13 h13 =>
 kMkSl 1 1 #[.slice none 0 0] [(0, (g2_2 t0))] h13 fun v15 h15 =>
 kOf (vApp ro0 1 24 v13 v15 h15) fun v16 h16 =>
 kIdx 2 v4 (g2_1 t0) h16 fun v17 h17 =>
 kFld 1 v17 h17 fun v18 h18 =>
 kSt ro0 v18 v16 h18 fun _ h19 =>
 bif sepA v3 v13 then some (.normal, t0, h19) else none
def SW165_0 : CodeS 2 :=
 cSeqS (cSeqS (cRegS (SR165_1)) (cIfS g2_10 (cSkipS) (cExitS 0))) (cSeqS (cBlkS 1 (cSeqS (cRegS (SR165_3)) (cSeqS (cSeqS (cRegS (SR165_4)) (cIfS g2_21 (cExitS 0) (cSkipS))) (cRegS (SR165_5))))) (cRegS (SR165_2)))
def SF165 : CodeS 2 :=
 cSeqS (cSeqS (cRegS (SR165_0)) (cBlkS 0 (cLoopS (SW165_0)))) (cRegS (SR165_6))
def T165 : FnT := runG en2_3 (SF165) (resQ qn)
theorem T165_ok : GoodF Tryz.prog ro0 okF 165 (T165) :=
 (good_k (n := 52) acc2 (lv [0, 1, 2, 6, 7, 10, 21]) (rs := []) Tryz.func165 (by kernel_rfl) (by kernel_rfl) (by kernel_rfl) (by kernel_rfl) (by kernel_rfl) (by kernel_rfl) (by kernel_rfl) (by kernel_rfl) (by kernel_rfl)).enter en2_3_ok (by kernel_rfl)

/-- strconv.Itoa -/
def SR166_0 : RegS 1 := fun c t0 h0 =>
 fShal (.string { data := #[] }) fun v1 =>
 p1_2 t0 v1 fun t1 =>
 some (.normal, t1, h0)
def SR166_1 : RegS 1 := fun c t0 h0 =>
 kOf (c 194 [(g1_0 t0)] h0) fun v2 h2 =>
 fShal v2 fun v3 =>
 p1_2 t0 v3 fun t1 =>
 some (.normal, t1, h2)
def SF166 : CodeS 1 :=
 cSeqS (cRegS (SR166_0)) (cSeqS (cRegS (SR166_1)) (cRetS))
def T166 : FnT := runG en1_1 (SF166) (resQ (qc (rT g1_2) qn))
theorem T166_ok : GoodF Tryz.prog ro0 okF 166 (T166) :=
 (good_k (n := 5) acc1 (lv [0, 2]) (rs := [ResultVar.tmp 2]) Tryz.func166 (by kernel_rfl) (by kernel_rfl) (by kernel_rfl) (by kernel_rfl) (by kernel_rfl) (by kernel_rfl) (by kernel_rfl) (by kernel_rfl) (by kernel_rfl)).enter en1_1_ok (by kernel_rfl)

/-- (*circheck/checker.Solver).Value -/
def SR183_0 : RegS 2 := fun c t0 h0 =>
 fShal (.bool false) fun v1 =>
 p2_4 t0 v1 fun t1 =>
 fShal (.int .i64 0) fun v2 =>
 p2_5 t1 v2 fun t2 =>
 some (.normal, t2, h0)
def SR183_1 : RegS 2 := fun c t0 h0 =>
 kPtrNil false (g2_0 t0) (.pointer none) h0 fun v2 h2 =>
 kIf v2 false (fun k => k (g2_1 t0) h2) h2 fun v4 h4 =>
 kIf v2 false (fun k => kLss v4 (.int .i64 0) h4 k) h4 fun v5 h5 =>
 kPick v2 (.bool true) v5 h5 fun v6 h6 =>
 kIf v6 false (fun k => k (g2_1 t0) h6) h6 fun v8 h8 =>
 kIf v6 false (fun k => k (g2_0 t0) h8) h8 fun v9 h9 =>
 kIf v6 false (fun k => kNil v9 h9 k) h9 fun v10 h10 =>
 kIf v6 false (fun k => kFld 2 v10 h10 k) h10 fun v11 h11 =>
 kIf v6 false (fun k => kLd v11 h11 k) h11 fun v12 h12 =>
 kIf v6 false (fun k => kLenSl v12 h12 k) h12 fun v13 h13 =>
 kIf v6 false (fun k => kGeq v8 v13 h13 k) h13 fun v14 h14 =>
 kPick v6 (.bool true) v14 h14 fun v15 h15 =>
 p2_20 t0 v15 fun t1 =>
 some (.normal, t1, h15)
def SR183_2 : RegS 2 := fun c t0 h0 =>
 fShal (.bool false) fun v1 =>
 p2_4 t0 v1 fun t1 =>
 fShal (.int .i64 13) fun v2 =>
 p2_5 t1 v2 fun t2 =>
 some (.normal, t2, h0)
def SR183_3 : RegS 2 := fun c t0 h0 =>
 kNil (g2_0 t0) h0 fun v2 h2 =>
 kFld 2 v2 h2 fun v3 h3 =>
 kLd v3 h3 fun v4 h4 =>
 kIdx 1 v4 (g2_1 t0) h4 fun v6 h6 =>
 kLd v6 h6 fun v7 h7 =>
 fShal v7 fun v8 =>
 p2_4 t0 v8 fun t1 =>
 fShal (.int .i64 0) fun v9 =>
 p2_5 t1 v9 fun t2 =>
 some (.normal, t2, h7)
def SF183 : CodeS 2 :=
 cSeqS (cRegS (SR183_0)) (cSeqS (cSeqS (cRegS (SR183_1)) (cIfS g2_20 (cSeqS (cRegS (SR183_2)) (cRetS)) (cSkipS))) (cSeqS (cRegS (SR183_3)) (cRetS)))
def T183 : FnT := runG en2_2 (SF183) (resQ (qc (rT g2_4) (qc (rT g2_5) qn)))
theorem T183_ok : GoodF Tryz.prog ro0 okF 183 (T183) :=
 (good_k (n := 28) acc2 (lv [0, 1, 4, 5, 20]) (rs := [ResultVar.tmp 4, ResultVar.tmp 5]) Tryz.func183 (by kernel_rfl) (by kernel_rfl) (by kernel_rfl) (by kernel_rfl) (by kernel_rfl) (by kernel_rfl) (by kernel_rfl) (by kernel_rfl) (by kernel_rfl)).enter en2_2_ok (by kernel_rfl)

/-- (*circheck/checker.reader).byteBelow -/
def SR185_0 : RegS 2 := fun c t0 h0 =>
 fShal (.int .i64 0) fun v1 =>
 p2_4 t0 v1 fun t1 =>
 some (.normal, t1, h0)
def SR185_1 : RegS 2 := fun c t0 h0 =>
 kOf (c 86 [(g2_0 t0)] h0) fun v2 h2 =>
 fShal v2 fun v3 =>
 p2_5 t0 v3 fun t1 =>
 some (.normal, t1, h2)
def SR185_2 : RegS 2 := fun c t0 h0 =>
 kEql (g2_5 t0) (.int .i64 (-1)) h0 fun v2 h2 =>
 kIf v2 false (fun k => k (g2_5 t0) h2) h2 fun v4 h4 =>
 kIf v2 false (fun k => k (g2_1 t0) h4) h4 fun v5 h5 =>
 kIf v2 false (fun k => kGeq v4 v5 h5 k) h5 fun v6 h6 =>
 kPick v2 (.bool true) v6 h6 fun v7 h7 =>
 p2_14 t0 v7 fun t1 =>
 some (.normal, t1, h7)
def SR185_3 : RegS 2 := fun c t0 h0 =>
 kNil (g2_0 t0) h0 fun v3 h3 =>
 kFld 1 v3 h3 fun v4 h4 =>
 kLd v4 h4 fun v5 h5 =>
 kOf (c 88 [(g2_0 t0), (.int .i64 2), v5] h5) fun v6 h6 =>
 some (.normal, t0, h6)
def SR185_4 : RegS 2 := fun c t0 h0 =>
 fShal (.int .i64 0) fun v1 =>
 p2_4 t0 v1 fun t1 =>
 some (.normal, t1, h0)
def SR185_5 : RegS 2 := fun c t0 h0 =>
 kNil (g2_0 t0) h0 fun v2 h2 =>
 kFld 1 v2 h2 fun v3 h3 =>
 kLd v3 h3 fun v4 h4 =>
 kAdd v4 (.int .i64 1) h4 fun v5 h5 =>
 kNil (g2_0 t0) h5 fun v6 h6 =>
 kFld 1 v6 h6 fun v7 h7 =>
 kSt ro0 v7 v5 h7 fun _ h8 =>
 some (.normal, t0, h8)
def SR185_6 : RegS 2 := fun c t0 h0 =>
 fShal (g2_5 t0) fun v2 =>
 p2_4 t0 v2 fun t1 =>
 some (.normal, t1, h0)
def SF185 : CodeS 2 :=
 cSeqS (cRegS (SR185_0)) (cSeqS (cRegS (SR185_1)) (cSeqS (cSeqS (cRegS (SR185_2)) (cIfS g2_14 (cSeqS (cRegS (SR185_3)) (cSeqS (cRegS (SR185_4)) (cRetS))) (cSkipS))) (cSeqS (cRegS (SR185_5)) (cSeqS (cRegS (SR185_6)) (cRetS)))))
def T185 : FnT := runG en2_2 (SF185) (resQ (qc (rT g2_4) qn))
theorem T185_ok : GoodF Tryz.prog ro0 okF 185 (T185) :=
 (good_k (n := 29) acc2 (lv [0, 1, 4, 5, 14]) (rs := [ResultVar.tmp 4]) Tryz.func185 (by kernel_rfl) (by kernel_rfl) (by kernel_rfl) (by kernel_rfl) (by kernel_rfl) (by kernel_rfl) (by kernel_rfl) (by kernel_rfl) (by kernel_rfl)).enter en2_2_ok (by kernel_rfl)

/-- circheck/checker.newSearch -/
def SR186_0 : RegS 2 := fun c t0 h0 =>
 fShal (.pointer none) fun v1 =>
 p2_4 t0 v1 fun t1 =>
 some (.normal, t1, h0)
def SR186_1 : RegS 2 := fun c t0 h0 =>
 kBuild #[.slice none 0 0, .slice none 0 0, .int .i64 0, .int .i64 0, .slice none 0 0, .slice none 0 0, .slice none 0 0, .slice none 0 0, .slice none 0 0, .int .i64 0, .int .i64 0, .int .i64 0, .slice none 0 0] [(0, 1), (1, 1), (2, 1), (3, 1), (4, 1), (5, 1), (6, 1), (7, 1), (8, 1), (9, 1), (10, 1), (11, 1), (12, 1)] [(0, (g2_1 t0)), (3, (.int .i64 4000)), (10, (.int .i64 16))] h0 fun v2 h2 =>
 kBox v2 h2 fun v3 h3 =>
 fShal v3 fun v4 =>
 p2_5 t0 v4 fun t1 =>
 some (.normal, t1, h3)
def SR186_2 : RegS 2 := fun c t0 h0 =>
 kLenSl (g2_0 t0) h0 fun v3 h3 =>
 kOf (vInt .mul (.int .i64 2) v3 h3) fun v4 h4 =>
 kAny (aMake tO 1 24 #[.slice none 0 0] (.const v4) (.const v4)) c h4 fun v5 h5 =>
 kNil (g2_5 t0) h5 fun v6 h6 =>
 kFld 4 v6 h6 fun v7 h7 =>
 kSt ro0 v7 v5 h7 fun _ h8 =>
 some (.normal, t0, h8)
def SR186_3 : RegS 2 := fun c t0 h0 =>
 kLenSl (g2_0 t0) h0 fun v3 h3 =>
 kOf (vInt .mul (.int .i64 2) v3 h3) fun v4 h4 =>
 kAny (aMake tO 1 1 #[.bool false] (.const v4) (.const v4)) c h4 fun v5 h5 =>
 kNil (g2_5 t0) h5 fun v6 h6 =>
 kFld 5 v6 h6 fun v7 h7 =>
 kSt ro0 v7 v5 h7 fun _ h8 =>
 some (.normal, t0, h8)
def SR186_4 : RegS 2 := fun c t0 h0 =>
 kLenSl (g2_0 t0) h0 fun v3 h3 =>
 kAny (aMake tO 5 40 #[.int .i64 0, .int .i64 0, .bool false, .int .i64 0, .bool false] (.const v3) (.const v3)) c h3 fun v4 h4 =>
 kNil (g2_5 t0) h4 fun v5 h5 =>
 kFld 6 v5 h5 fun v6 h6 =>
 kSt ro0 v6 v4 h6 fun _ h7 =>
 some (.normal, t0, h7)
def SR186_5 : RegS 2 := fun c t0 h0 =>
 fShal (.int .i64 0) fun v1 =>
 p2_6 t0 v1 fun t1 =>
 some (.normal, t1, h0)
def SR186_6 : RegS 2 := fun c t0 h0 =>
 kLenSl (g2_0 t0) h0 fun v3 h3 =>
 kLss (g2_6 t0) v3 h3 fun v4 h4 =>
 p2_33 t0 v4 fun t1 =>
 some (.normal, t1, h4)
def SR186_8 : RegS 2 := fun c t0 h0 =>
 kIdx 1 (g2_0 t0) (g2_6 t0) h0 fun v3 h3 =>
 kLd v3 h3 fun v4 h4 =>
 p2_39 t0 v4 fun t1 =>
 some (.normal, t1, h4)
def SR186_9 : RegS 2 := fun c t0 h0 =>
 kNil (g2_5 t0) h0 fun v2 h2 =>
 kFld 6 v2 h2 fun v3 h3 =>
 kLd v3 h3 fun v4 h4 =>
 kIdx 5 v4 (g2_6 t0) h4 fun v6 h6 =>
 kFld 3 v6 h6 fun v7 h7 =>
 kSt ro0 v7 (.int .i64 1) h7 fun _ h8 =>
 some (.normal, t0, h8)
def SR186_7 : RegS 2 := fun c t0 h0 =>
 kAdd (g2_6 t0) (.int .i64 1) h0 fun v2 h2 =>
 fShal v2 fun v3 =>
 p2_6 t0 v3 fun t1 =>
 some (.normal, t1, h2)
def SR186_10 : RegS 2 := fun c t0 h0 =>
 fShal (g2_5 t0) fun v2 =>
 p2_4 t0 v2 fun t1 =>
 some (.normal, t1, h0)
def SW186_0 : CodeS 2 :=
 cSeqS (cSeqS (cRegS (SR186_6)) (cIfS g2_33 (cSkipS) (cExitS 0))) (cSeqS (cBlkS 1 (cSeqS (cRegS (SR186_8)) (cIfS g2_39 (cRegS (SR186_9)) (cSkipS)))) (cRegS (SR186_7)))
def SF186 : CodeS 2 :=
 cSeqS (cRegS (SR186_0)) (cSeqS (cRegS (SR186_1)) (cSeqS (cRegS (SR186_2)) (cSeqS (cRegS (SR186_3)) (cSeqS (cRegS (SR186_4)) (cSeqS (cSeqS (cRegS (SR186_5)) (cBlkS 0 (cLoopS (SW186_0)))) (cSeqS (cRegS (SR186_10)) (cRetS)))))))
def T186 : FnT := runG en2_2 (SF186) (resQ (qc (rT g2_4) qn))
theorem T186_ok : GoodF Tryz.prog ro0 okF 186 (T186) :=
 (good_k (n := 48) acc2 (lv [0, 1, 4, 5, 6, 33, 39]) (rs := [ResultVar.tmp 4]) Tryz.func186 (by kernel_rfl) (by kernel_rfl) (by kernel_rfl) (by kernel_rfl) (by kernel_rfl) (by kernel_rfl) (by kernel_rfl) (by kernel_rfl) (by kernel_rfl)).enter en2_2_ok (by kernel_rfl)

/-- (*circheck/checker.search).answer -/
def SR187_0 : RegS 2 := fun c t0 h0 =>
 fShal (.int .i64 0) fun v1 =>
 p2_6 t0 v1 fun t1 =>
 some (.normal, t1, h0)
def SR187_1 : RegS 2 := fun c t0 h0 =>
 kOf (c 199 [(g2_0 t0), (g2_1 t0)] h0) fun v3 h3 =>
 fShal v3 fun v4 =>
 p2_7 t0 v4 fun t1 =>
 some (.normal, t1, h3)
def SR187_2 : RegS 2 := fun c t0 h0 =>
 fShal (.int .i64 0) fun v1 =>
 p2_8 t0 v1 fun t1 =>
 some (.normal, t1, h0)
def SR187_3 : RegS 2 := fun c t0 h0 =>
 kEql (g2_8 t0) (.int .i64 0) h0 fun v2 h2 =>
 p2_13 t0 v2 fun t1 =>
 some (.normal, t1, h2)
def SR187_4 : RegS 2 := fun c t0 h0 =>
 kEql (g2_7 t0) (.int .i64 (-1)) h0 fun v2 h2 =>
 p2_15 t0 v2 fun t1 =>
 some (.normal, t1, h2)
def SR187_5 : RegS 2 := fun c t0 h0 =>
 kOf (c 200 [(g2_0 t0)] h0) fun v2 h2 =>
 fShal v2 fun v3 =>
 p2_7 t0 v3 fun t1 =>
 some (.normal, t1, h2)
def SR187_6 : RegS 2 := fun c t0 h0 =>
 kEql (g2_7 t0) (.int .i64 (-1)) h0 fun v2 h2 =>
 p2_19 t0 v2 fun t1 =>
 some (.normal, t1, h2)
def SR187_7 : RegS 2 := fun c t0 h0 =>
 kOf (c 201 [(g2_0 t0)] h0) fun v2 h2 =>
 fShal v2 fun v3 =>
 p2_8 t0 v3 fun t1 =>
 some (.normal, t1, h2)
def SR187_8 : RegS 2 := fun c t0 h0 =>
 kOf (c 202 [(g2_0 t0), (g2_7 t0), (g2_2 t0)] h0) fun v4 h4 =>
 fShal v4 fun v5 =>
 p2_8 t0 v5 fun t1 =>
 some (.normal, t1, h4)
def SR187_9 : RegS 2 := fun c t0 h0 =>
 fShal (.int .i64 (-1)) fun v1 =>
 p2_7 t0 v1 fun t1 =>
 some (.normal, t1, h0)
def SR187_10 : RegS 2 := fun c t0 h0 =>
 fShal (g2_8 t0) fun v2 =>
 p2_6 t0 v2 fun t1 =>
 some (.normal, t1, h0)
def SW187_0 : CodeS 2 :=
 cSeqS (cSeqS (cRegS (SR187_3)) (cIfS g2_13 (cSkipS) (cExitS 0))) (cBlkS 1 (cSeqS (cSeqS (cRegS (SR187_4)) (cIfS g2_15 (cRegS (SR187_5)) (cSkipS))) (cSeqS (cRegS (SR187_6)) (cIfS g2_19 (cRegS (SR187_7)) (cSeqS (cRegS (SR187_8)) (cRegS (SR187_9)))))))
def SF187 : CodeS 2 :=
 cSeqS (cRegS (SR187_0)) (cSeqS (cRegS (SR187_1)) (cSeqS (cRegS (SR187_2)) (cSeqS (cBlkS 0 (cLoopS (SW187_0))) (cSeqS (cRegS (SR187_10)) (cRetS)))))
def T187 : FnT := runG en2_3 (SF187) (resQ (qc (rT g2_6) qn))
theorem T187_ok : GoodF Tryz.prog ro0 okF 187 (T187) :=
 (good_k (n := 27) acc2 (lv [0, 1, 2, 6, 7, 8, 13, 15, 19]) (rs := [ResultVar.tmp 6]) Tryz.func187 (by kernel_rfl) (by kernel_rfl) (by kernel_rfl) (by kernel_rfl) (by kernel_rfl) (by kernel_rfl) (by kernel_rfl) (by kernel_rfl) (by kernel_rfl)).enter en2_3_ok (by kernel_rfl)

/-- (*circheck/checker.search).model -/
def SR188_0 : RegS 2 := fun c t0 h0 =>
 fShal (.slice none 0 0) fun v1 =>
 p2_2 t0 v1 fun t1 =>
 some (.normal, t1, h0)
def SR188_1 : RegS 2 := fun c t0 h0 =>
 kMkSl 1 0 #[.bool false] [] h0 fun v1 h1 =>
 fShal v1 fun v2 =>
 p2_3 t0 v2 fun t1 =>
 some (.normal, t1, h1)
def SR188_2 : RegS 2 := fun c t0 h0 =>
 fShal (.int .i64 0) fun v1 =>
 p2_4 t0 v1 fun t1 =>
 some (.normal, t1, h0)
def SR188_3 : RegS 2 := fun c t0 h0 =>
 kNil (g2_0 t0) h0 fun v3 h3 =>
 kFld 6 v3 h3 fun v4 h4 =>
 kLd v4 h4 fun v5 h5 =>
 kLenSl v5 h5 fun v6 h6 =>
 kLss (g2_4 t0) v6 h6 fun v7 h7 =>
 p2_12 t0 v7 fun t1 =>
 some (.normal, t1, h7)
def SR188_5 : RegS 2 := fun c t0 h0 =>
 kNil (g2_0 t0) h0 fun v3 h3 =>
 kFld 5 v3 h3 fun v4 h4 =>
 kLd v4 h4 fun v5 h5 =>
 kOf (vInt .mul (.int .i64 2) (g2_4 t0) h5) fun v7 h7 =>
 kIdx 1 v5 v7 h7 fun v8 h8 =>
 kLd v8 h8 fun v9 h9 =>
 kMkSl 1 1 #[.bool false] [(0, v9)] h9 fun v10 h10 =>
 kOf (vApp ro0 1 1 (g2_3 t0) v10 h10) fun v11 h11 =>
 fShal v11 fun v12 =>
 p2_3 t0 v12 fun t1 =>
 some (.normal, t1, h11)
def SR188_4 : RegS 2 := fun c t0 h0 =>
 kAdd (g2_4 t0) (.int .i64 1) h0 fun v2 h2 =>
 fShal v2 fun v3 =>
 p2_4 t0 v3 fun t1 =>
 some (.normal, t1, h2)
def SR188_6 : RegS 2 := fun c t0 h0 =>
 fShal (g2_3 t0) fun v2 =>
 p2_2 t0 v2 fun t1 =>
 some (.normal, t1, h0)
def SW188_0 : CodeS 2 :=
 cSeqS (cSeqS (cRegS (SR188_3)) (cIfS g2_12 (cSkipS) (cExitS 0))) (cSeqS (cBlkS 1 (cRegS (SR188_5))) (cRegS (SR188_4)))
def SF188 : CodeS 2 :=
 cSeqS (cRegS (SR188_0)) (cSeqS (cRegS (SR188_1)) (cSeqS (cSeqS (cRegS (SR188_2)) (cBlkS 0 (cLoopS (SW188_0)))) (cSeqS (cRegS (SR188_6)) (cRetS))))
def T188 : FnT := runG en2_1 (SF188) (resQ (qc (rT g2_2) qn))
theorem T188_ok : GoodF Tryz.prog ro0 okF 188 (T188) :=
 (good_k (n := 27) acc2 (lv [0, 2, 3, 4, 12]) (rs := [ResultVar.tmp 2]) Tryz.func188 (by kernel_rfl) (by kernel_rfl) (by kernel_rfl) (by kernel_rfl) (by kernel_rfl) (by kernel_rfl) (by kernel_rfl) (by kernel_rfl) (by kernel_rfl)).enter en2_1_ok (by kernel_rfl)

/-- (*circheck/checker.frame).bits -/
def SR189_0 : RegS 2 := fun c t0 h0 =>
 fShal (.int .i64 0) fun v1 =>
 p2_6 t0 v1 fun t1 =>
 some (.normal, t1, h0)
def SR189_1 : RegS 2 := fun c t0 h0 =>
 fShal (.int .i64 0) fun v1 =>
 p2_7 t0 v1 fun t1 =>
 some (.normal, t1, h0)
def SR189_2 : RegS 2 := fun c t0 h0 =>
 fShal (.int .i64 0) fun v1 =>
 p2_8 t0 v1 fun t1 =>
 some (.normal, t1, h0)
def SR189_3 : RegS 2 := fun c t0 h0 =>
 kLss (g2_8 t0) (g2_2 t0) h0 fun v3 h3 =>
 p2_13 t0 v3 fun t1 =>
 some (.normal, t1, h3)
def SR189_5 : RegS 2 := fun c t0 h0 =>
 kNil (g2_0 t0) h0 fun v2 h2 =>
 kFld 0 v2 h2 fun v3 h3 =>
 kLd v3 h3 fun v4 h4 =>
 kAdd (g2_1 t0) (g2_8 t0) h4 fun v7 h7 =>
 kOf (c 183 [v4, v7] h7) fun v8 h8 =>
 kExt 0 v8 h8 fun v10 h10 =>
 kExt 1 v8 h10 fun v11 h11 =>
 fShal v10 fun v12 =>
 p2_9 t0 v12 fun t1 =>
 some (.normal, t1, h11)
def SR189_6 : RegS 2 := fun c t0 h0 =>
 fShal (g2_9 t0) fun v1 =>
 p2_27 t0 v1 fun t1 =>
 some (.normal, t1, h0)
def SR189_7 : RegS 2 := fun c t0 h0 =>
 kAny (aShift .shl (.const (.int .i64 1)) (.const (g2_8 t0))) c h0 fun v3 h3 =>
 kOf (vInt .or (g2_7 t0) v3 h3) fun v4 h4 =>
 fShal v4 fun v5 =>
 p2_7 t0 v5 fun t1 =>
 some (.normal, t1, h4)
def SR189_4 : RegS 2 := fun c t0 h0 =>
 kAdd (g2_8 t0) (.int .i64 1) h0 fun v2 h2 =>
 fShal v2 fun v3 =>
 p2_8 t0 v3 fun t1 =>
 some (.normal, t1, h2)
def SR189_8 : RegS 2 := fun c t0 h0 =>
 fShal (g2_7 t0) fun v2 =>
 p2_6 t0 v2 fun t1 =>
 some (.normal, t1, h0)
def SW189_0 : CodeS 2 :=
 cSeqS (cSeqS (cRegS (SR189_3)) (cIfS g2_13 (cSkipS) (cExitS 0))) (cSeqS (cBlkS 1 (cSeqS (cRegS (SR189_5)) (cSeqS (cRegS (SR189_6)) (cIfS g2_27 (cRegS (SR189_7)) (cSkipS))))) (cRegS (SR189_4)))
def SF189 : CodeS 2 :=
 cSeqS (cRegS (SR189_0)) (cSeqS (cRegS (SR189_1)) (cSeqS (cSeqS (cRegS (SR189_2)) (cBlkS 0 (cLoopS (SW189_0)))) (cSeqS (cRegS (SR189_8)) (cRetS))))
def T189 : FnT := runG en2_3 (SF189) (resQ (qc (rT g2_6) qn))
theorem T189_ok : GoodF Tryz.prog ro0 okF 189 (T189) :=
 (good_k (n := 33) acc2 (lv [0, 1, 2, 6, 7, 8, 9, 13, 27]) (rs := [ResultVar.tmp 6]) Tryz.func189 (by kernel_rfl) (by kernel_rfl) (by kernel_rfl) (by kernel_rfl) (by kernel_rfl) (by kernel_rfl) (by kernel_rfl) (by kernel_rfl) (by kernel_rfl)).enter en2_3_ok (by kernel_rfl)

/-- circheck/checker.firstPlaces -/
def SR190_0 : RegS 2 := fun c t0 h0 =>
 fShal (.slice none 0 0) fun v1 =>
 p2_4 t0 v1 fun t1 =>
 some (.normal, t1, h0)
def SR190_1 : RegS 2 := fun c t0 h0 =>
 kLenSl (g2_0 t0) h0 fun v2 h2 =>
 kAny (aMake tO 1 1 #[.bool false] (.const v2) (.const v2)) c h2 fun v3 h3 =>
 fShal v3 fun v4 =>
 p2_5 t0 v4 fun t1 =>
 some (.normal, t1, h3)
def SR190_2 : RegS 2 := fun c t0 h0 =>
 fShal (.int .i64 0) fun v1 =>
 p2_6 t0 v1 fun t1 =>
 some (.normal, t1, h0)
def SR190_3 : RegS 2 := fun c t0 h0 =>
 kLenSl (g2_1 t0) h0 fun v3 h3 =>
 kLss (g2_6 t0) v3 h3 fun v4 h4 =>
 p2_14 t0 v4 fun t1 =>
 some (.normal, t1, h4)
def SR190_5 : RegS 2 := fun c t0 h0 =>
 fShal (.int .i64 0) fun v1 =>
 p2_7 t0 v1 fun t1 =>
 some (.normal, t1, h0)
def SR190_6 : RegS 2 := fun c t0 h0 =>
 kLenSl (g2_0 t0) h0 fun v3 h3 =>
 kLss (g2_7 t0) v3 h3 fun v4 h4 =>
 p2_20 t0 v4 fun t1 =>
 some (.normal, t1, h4)
def SR190_8 : RegS 2 := fun c t0 h0 =>
 kIdx 1 (g2_0 t0) (g2_7 t0) h0 fun v3 h3 =>
 kLd v3 h3 fun v4 h4 =>
 kIdx 1 (g2_1 t0) (g2_6 t0) h4 fun v7 h7 =>
 kLd v7 h7 fun v8 h8 =>
 kEql v4 v8 h8 fun v9 h9 =>
 p2_31 t0 v9 fun t1 =>
 some (.normal, t1, h9)
def SR190_9 : RegS 2 := fun c t0 h0 =>
 kIdx 1 (g2_5 t0) (g2_7 t0) h0 fun v3 h3 =>
 kSt ro0 v3 (.bool true) h3 fun _ h4 =>
 some (.normal, t0, h4)
def SR190_7 : RegS 2 := fun c t0 h0 =>
 kAdd (g2_7 t0) (.int .i64 1) h0 fun v2 h2 =>
 fShal v2 fun v3 =>
 p2_7 t0 v3 fun t1 =>
 some (.normal, t1, h2)
def SR190_4 : RegS 2 := fun c t0 h0 =>
 kAdd (g2_6 t0) (.int .i64 1) h0 fun v2 h2 =>
 fShal v2 fun v3 =>
 p2_6 t0 v3 fun t1 =>
 some (.normal, t1, h2)
def SR190_10 : RegS 2 := fun c t0 h0 =>
 fShal (g2_5 t0) fun v2 =>
 p2_4 t0 v2 fun t1 =>
 some (.normal, t1, h0)
def SW190_0 : CodeS 2 :=
 cSeqS (cSeqS (cRegS (SR190_6)) (cIfS g2_20 (cSkipS) (cExitS 2))) (cSeqS (cBlkS 3 (cSeqS (cRegS (SR190_8)) (cIfS g2_31 (cSeqS (cRegS (SR190_9)) (cExitS 2)) (cSkipS)))) (cRegS (SR190_7)))
def SW190_1 : CodeS 2 :=
 cSeqS (cSeqS (cRegS (SR190_3)) (cIfS g2_14 (cSkipS) (cExitS 0))) (cSeqS (cBlkS 1 (cSeqS (cRegS (SR190_5)) (cBlkS 2 (cLoopS (SW190_0))))) (cRegS (SR190_4)))
def SF190 : CodeS 2 :=
 cSeqS (cRegS (SR190_0)) (cSeqS (cRegS (SR190_1)) (cSeqS (cSeqS (cRegS (SR190_2)) (cBlkS 0 (cLoopS (SW190_1)))) (cSeqS (cRegS (SR190_10)) (cRetS))))
def T190 : FnT := runG en2_2 (SF190) (resQ (qc (rT g2_4) qn))
theorem T190_ok : GoodF Tryz.prog ro0 okF 190 (T190) :=
 (good_k (n := 36) acc2 (lv [0, 1, 4, 5, 6, 7, 14, 20, 31]) (rs := [ResultVar.tmp 4]) Tryz.func190 (by kernel_rfl) (by kernel_rfl) (by kernel_rfl) (by kernel_rfl) (by kernel_rfl) (by kernel_rfl) (by kernel_rfl) (by kernel_rfl) (by kernel_rfl)).enter en2_2_ok (by kernel_rfl)

/-- (*circheck/checker.Circuit).beginsTrue -/
def SR191_0 : RegS 2 := fun c t0 h0 =>
 fShal (.bool false) fun v1 =>
 p2_4 t0 v1 fun t1 =>
 some (.normal, t1, h0)
def SR191_1 : RegS 2 := fun c t0 h0 =>
 kNil (g2_0 t0) h0 fun v2 h2 =>
 kFld 1 v2 h2 fun v3 h3 =>
 kLd v3 h3 fun v4 h4 =>
 kAny (aShift .shr (.const (g2_1 t0)) (.const (.int .u64 1))) c h4 fun v6 h6 =>
 kIdx 2 v4 v6 h6 fun v7 h7 =>
 kFld 1 v7 h7 fun v8 h8 =>
 kLd v8 h8 fun v9 h9 =>
 fShal v9 fun v10 =>
 p2_5 t0 v10 fun t1 =>
 some (.normal, t1, h9)
def SR191_2 : RegS 2 := fun c t0 h0 =>
 kNeq (g2_5 t0) (.int .i64 2) h0 fun v2 h2 =>
 kIf v2 true (fun k => k (g2_5 t0) h2) h2 fun v4 h4 =>
 kIf v2 true (fun k => k (g2_1 t0) h4) h4 fun v5 h5 =>
 kIf v2 true (fun k => kOf (vInt .and v5 (.int .i64 1) h5) k) h5 fun v6 h6 =>
 kIf v2 true (fun k => kNeq v4 v6 h6 k) h6 fun v7 h7 =>
 kPick v2 v7 (.bool false) h7 fun v8 h8 =>
 fShal v8 fun v9 =>
 p2_4 t0 v9 fun t1 =>
 some (.normal, t1, h8)
def SF191 : CodeS 2 :=
 cSeqS (cRegS (SR191_0)) (cSeqS (cRegS (SR191_1)) (cSeqS (cRegS (SR191_2)) (cRetS)))
def T191 : FnT := runG en2_2 (SF191) (resQ (qc (rT g2_4) qn))
theorem T191_ok : GoodF Tryz.prog ro0 okF 191 (T191) :=
 (good_k (n := 23) acc2 (lv [0, 1, 4, 5]) (rs := [ResultVar.tmp 4]) Tryz.func191 (by kernel_rfl) (by kernel_rfl) (by kernel_rfl) (by kernel_rfl) (by kernel_rfl) (by kernel_rfl) (by kernel_rfl) (by kernel_rfl) (by kernel_rfl)).enter en2_2_ok (by kernel_rfl)

/-- (*circheck/checker.frame).drop -/
def SR192_0 : RegS 2 := fun c t0 h0 =>
 fShal (.bool false) fun v1 =>
 p2_4 t0 v1 fun t1 =>
 some (.normal, t1, h0)
def SR192_1 : RegS 2 := fun c t0 h0 =>
 kMkSl 1 0 #[.slice none 0 0] [] h0 fun v1 h1 =>
 fShal v1 fun v2 =>
 p2_5 t0 v2 fun t1 =>
 some (.normal, t1, h1)
def SR192_2 : RegS 2 := fun c t0 h0 =>
 fShal (.int .i64 0) fun v1 =>
 p2_6 t0 v1 fun t1 =>
 some (.normal, t1, h0)
def SR192_3 : RegS 2 := fun c t0 h0 =>
 kNil (g2_0 t0) h0 fun v3 h3 =>
 kFld 1 v3 h3 fun v4 h4 =>
 kLd v4 h4 fun v5 h5 =>
 kLenSl v5 h5 fun v6 h6 =>
 kLss (g2_6 t0) v6 h6 fun v7 h7 =>
 p2_15 t0 v7 fun t1 =>
 some (.normal, t1, h7)
def SR192_5 : RegS 2 := fun c t0 h0 =>
 kNil (g2_0 t0) h0 fun v2 h2 =>
 kFld 1 v2 h2 fun v3 h3 =>
 kLd v3 h3 fun v4 h4 =>
 kIdx 1 v4 (g2_6 t0) h4 fun v6 h6 =>
 kLd v6 h6 fun v7 h7 =>
 kOf (c 203 [v7, (g2_1 t0)] h7) fun v9 h9 =>
 kNot v9 h9 fun v10 h10 =>
 p2_27 t0 v10 fun t1 =>
 some (.normal, t1, h10)
def SR192_6 : RegS 2 := fun c t0 h0 =>
 kNil (g2_0 t0) h0 fun v3 h3 =>
 kFld 1 v3 h3 fun v4 h4 =>
 kLd v4 h4 fun v5 h5 =>
 kIdx 1 v5 (g2_6 t0) h5 fun v7 h7 =>
 kLd v7 h7 fun v8 h8 =>
 kMkSl 1 1 #[.slice none 0 0] [(0, v8)] h8 fun v9 h9 =>
 kOf (vApp ro0 1 24 (g2_5 t0) v9 h9) fun v10 h10 =>
 fShal v10 fun v11 =>
 p2_5 t0 v11 fun t1 =>
 some (.normal, t1, h10)
def SR192_4 : RegS 2 := fun c t0 h0 =>
 kAdd (g2_6 t0) (.int .i64 1) h0 fun v2 h2 =>
 fShal v2 fun v3 =>
 p2_6 t0 v3 fun t1 =>
 some (.normal, t1, h2)
def SR192_7 : RegS 2 := fun c t0 h0 =>
 kLenSl (g2_5 t0) h0 fun v2 h2 =>
 kNil (g2_0 t0) h2 fun v4 h4 =>
 kFld 1 v4 h4 fun v5 h5 =>
 kLd v5 h5 fun v6 h6 =>
 kLenSl v6 h6 fun v7 h7 =>
 kLss v2 v7 h7 fun v8 h8 =>
 fShal v8 fun v9 =>
 p2_7 t0 v9 fun t1 =>
 some (.normal, t1, h8)
def SR192_8 : RegS 2 := fun c t0 h0 =>
 kNil (g2_0 t0) h0 fun v3 h3 =>
 kFld 1 v3 h3 fun v4 h4 =>
 kSt ro0 v4 (g2_5 t0) h4 fun _ h5 =>
 some (.normal, t0, h5)
def SR192_9 : RegS 2 := fun c t0 h0 =>
 fShal (g2_7 t0) fun v2 =>
 p2_4 t0 v2 fun t1 =>
 some (.normal, t1, h0)
def SW192_0 : CodeS 2 :=
 cSeqS (cSeqS (cRegS (SR192_3)) (cIfS g2_15 (cSkipS) (cExitS 0))) (cSeqS (cBlkS 1 (cSeqS (cRegS (SR192_5)) (cIfS g2_27 (cRegS (SR192_6)) (cSkipS)))) (cRegS (SR192_4)))
def SF192 : CodeS 2 :=
 cSeqS (cRegS (SR192_0)) (cSeqS (cRegS (SR192_1)) (cSeqS (cSeqS (cRegS (SR192_2)) (cBlkS 0 (cLoopS (SW192_0)))) (cSeqS (cRegS (SR192_7)) (cSeqS (cRegS (SR192_8)) (cSeqS (cRegS (SR192_9)) (cRetS))))))
def T192 : FnT := runG en2_2 (SF192) (resQ (qc (rT g2_4) qn))
theorem T192_ok : GoodF Tryz.prog ro0 okF 192 (T192) :=
 (good_k (n := 51) acc2 (lv [0, 1, 4, 5, 6, 7, 15, 27]) (rs := [ResultVar.tmp 4]) Tryz.func192 (by kernel_rfl) (by kernel_rfl) (by kernel_rfl) (by kernel_rfl) (by kernel_rfl) (by kernel_rfl) (by kernel_rfl) (by kernel_rfl) (by kernel_rfl)).enter en2_2_ok (by kernel_rfl)

/-- (*circheck/checker.frame).add -/
def SR193_0 : RegS 2 := fun c t0 h0 =>
 kMkSl 1 0 #[.int .i64 0] [] h0 fun v1 h1 =>
 fShal v1 fun v2 =>
 p2_6 t0 v2 fun t1 =>
 some (.normal, t1, h1)
def SR193_1 : RegS 2 := fun c t0 h0 =>
 fShal (.int .i64 0) fun v1 =>
 p2_7 t0 v1 fun t1 =>
 some (.normal, t1, h0)
def SR193_2 : RegS 2 := fun c t0 h0 =>
 kLenSl (g2_2 t0) h0 fun v3 h3 =>
 kLss (g2_7 t0) v3 h3 fun v4 h4 =>
 p2_13 t0 v4 fun t1 =>
 some (.normal, t1, h4)
def SR193_4 : RegS 2 := fun c t0 h0 =>
 kIdx 1 (g2_2 t0) (g2_7 t0) h0 fun v4 h4 =>
 kLd v4 h4 fun v5 h5 =>
 kAny (aShift .shr (.const v5) (.const (.int .u64 1))) c h5 fun v6 h6 =>
 kOf (c 107 [(g2_1 t0), v6] h6) fun v7 h7 =>
 fShal v7 fun v8 =>
 p2_8 t0 v8 fun t1 =>
 some (.normal, t1, h7)
def SR193_5 : RegS 2 := fun c t0 h0 =>
 kIdx 1 (g2_2 t0) (g2_7 t0) h0 fun v5 h5 =>
 kLd v5 h5 fun v6 h6 =>
 kOf (vInt .and v6 (.int .i64 1) h6) fun v7 h7 =>
 kOf (vInt .xor (g2_8 t0) v7 h7) fun v8 h8 =>
 kMkSl 1 1 #[.int .i64 0] [(0, v8)] h8 fun v9 h9 =>
 kOf (vApp ro0 1 8 (g2_6 t0) v9 h9) fun v10 h10 =>
 fShal v10 fun v11 =>
 p2_6 t0 v11 fun t1 =>
 some (.normal, t1, h10)
def SR193_3 : RegS 2 := fun c t0 h0 =>
 kAdd (g2_7 t0) (.int .i64 1) h0 fun v2 h2 =>
 fShal v2 fun v3 =>
 p2_7 t0 v3 fun t1 =>
 some (.normal, t1, h2)
def SR193_6 : RegS 2 := fun c t0 h0 =>
 kNil (g2_0 t0) h0 fun v2 h2 =>
 kFld 0 v2 h2 fun v3 h3 =>
 kLd v3 h3 fun v4 h4 =>
 kOf (c 105 [v4, (g2_6 t0)] h4) fun v6 h6 =>
 some (.normal, t0, h6)
def SW193_0 : CodeS 2 :=
 cSeqS (cSeqS (cRegS (SR193_2)) (cIfS g2_13 (cSkipS) (cExitS 0))) (cSeqS (cBlkS 1 (cSeqS (cRegS (SR193_4)) (cRegS (SR193_5)))) (cRegS (SR193_3)))
def SF193 : CodeS 2 :=
 cSeqS (cRegS (SR193_0)) (cSeqS (cSeqS (cRegS (SR193_1)) (cBlkS 0 (cLoopS (SW193_0)))) (cRegS (SR193_6)))
def T193 : FnT := runG en2_3 (SF193) (resQ qn)
theorem T193_ok : GoodF Tryz.prog ro0 okF 193 (T193) :=
 (good_k (n := 39) acc2 (lv [0, 1, 2, 6, 7, 8, 13]) (rs := []) Tryz.func193 (by kernel_rfl) (by kernel_rfl) (by kernel_rfl) (by kernel_rfl) (by kernel_rfl) (by kernel_rfl) (by kernel_rfl) (by kernel_rfl) (by kernel_rfl)).enter en2_3_ok (by kernel_rfl)

/-- internal/strconv.Itoa -/
def SR194_0 : RegS 1 := fun c t0 h0 =>
 fShal (.string { data := #[] }) fun v1 =>
 p1_2 t0 v1 fun t1 =>
 some (.normal, t1, h0)
def SR194_1 : RegS 1 := fun c t0 h0 =>
 kOf (c 204 [(g1_0 t0), (.int .i64 10)] h0) fun v2 h2 =>
 fShal v2 fun v3 =>
 p1_2 t0 v3 fun t1 =>
 some (.normal, t1, h2)
def SF194 : CodeS 1 :=
 cSeqS (cRegS (SR194_0)) (cSeqS (cRegS (SR194_1)) (cRetS))
def T194 : FnT := runG en1_1 (SF194) (resQ (qc (rT g1_2) qn))
theorem T194_ok : GoodF Tryz.prog ro0 okF 194 (T194) :=
 (good_k (n := 5) acc1 (lv [0, 2]) (rs := [ResultVar.tmp 2]) Tryz.func194 (by kernel_rfl) (by kernel_rfl) (by kernel_rfl) (by kernel_rfl) (by kernel_rfl) (by kernel_rfl) (by kernel_rfl) (by kernel_rfl) (by kernel_rfl)).enter en1_1_ok (by kernel_rfl)

/-- (*circheck/checker.search).load -/
def SR199_0 : RegS 3 := fun c t0 h0 =>
 fShal (.int .i64 0) fun v1 =>
 p3_4 t0 v1 fun t1 =>
 some (.normal, t1, h0)
def SR199_1 : RegS 3 := fun c t0 h0 =>
 fShal (.int .i64 (-1)) fun v1 =>
 p3_5 t0 v1 fun t1 =>
 some (.normal, t1, h0)
def SR199_2 : RegS 3 := fun c t0 h0 =>
 fShal (.int .i64 0) fun v1 =>
 p3_6 t0 v1 fun t1 =>
 some (.normal, t1, h0)
def SR199_3 : RegS 3 := fun c t0 h0 =>
 kLenSl (g3_1 t0) h0 fun v3 h3 =>
 kLss (g3_6 t0) v3 h3 fun v4 h4 =>
 p3_11 t0 v4 fun t1 =>
 some (.normal, t1, h4)
def SR199_5 : RegS 3 := fun c t0 h0 =>
 kIdx 1 (g3_1 t0) (g3_6 t0) h0 fun v3 h3 =>
 kLd v3 h3 fun v4 h4 =>
 fShal v4 fun v5 =>
 p3_7 t0 v5 fun t1 =>
 some (.normal, t1, h4)
def SR199_6 : RegS 3 := fun c t0 h0 =>
 kLenSl (g3_7 t0) h0 fun v2 h2 =>
 kGtr v2 (.int .i64 1) h2 fun v3 h3 =>
 p3_20 t0 v3 fun t1 =>
 some (.normal, t1, h3)
def SR199_7 : RegS 3 := fun c t0 h0 =>
 kIdx 1 (g3_7 t0) (.int .i64 0) h0 fun v4 h4 =>
 kLd v4 h4 fun v5 h5 =>
 kIdx 1 (g3_7 t0) (.int .i64 1) h5 fun v7 h7 =>
 kLd v7 h7 fun v8 h8 =>
 kBuild #[.slice none 0 0, .int .i64 0, .int .i64 0, .int .i64 0] [(0, 1), (1, 1), (2, 1), (3, 1)] [(0, (g3_7 t0)), (1, v5), (2, v8)] h8 fun v9 h9 =>
 kOf (c 207 [(g3_0 t0), v9] h9) fun v10 h10 =>
 some (.normal, t0, h10)
def SR199_8 : RegS 3 := fun c t0 h0 =>
 kNil (g3_0 t0) h0 fun v3 h3 =>
 kFld 1 v3 h3 fun v4 h4 =>
 kLd v4 h4 fun v5 h5 =>
 kBuild #[.slice none 0 0, .int .i64 0, .int .i64 0, .int .i64 0] [(0, 1), (1, 1), (2, 1), (3, 1)] [(0, (g3_7 t0))] h5 fun v7 h7 =>
 kMkSl 4 1 #[.slice none 0 0, .int .i64 0, .int .i64 0, .int .i64 0] [(0, v7)] h7 fun v8 h8 =>
 kOf (vApp ro0 4 48 v5 v8 h8) fun v9 h9 =>
 kNil (g3_0 t0) h9 fun v10 h10 =>
 kFld 1 v10 h10 fun v11 h11 =>
 kSt ro0 v11 v9 h11 fun _ h12 =>
 some (.normal, t0, h12)
def SR199_9 : RegS 3 := fun c t0 h0 =>
 kLenSl (g3_7 t0) h0 fun v2 h2 =>
 kEql v2 (.int .i64 0) h2 fun v3 h3 =>
 kIf v3 false (fun k => k (g3_0 t0) h3) h3 fun v5 h5 =>
 kIf v3 false (fun k => kNil v5 h5 k) h5 fun v6 h6 =>
 kIf v3 false (fun k => kFld 5 v6 h6 k) h6 fun v7 h7 =>
 kIf v3 false (fun k => kLd v7 h7 k) h7 fun v8 h8 =>
 kIf v3 false (fun k => k (g3_7 t0) h8) h8 fun v9 h9 =>
 kIf v3 false (fun k => kIdx 1 v9 (.int .i64 0) h9 k) h9 fun v10 h10 =>
 kIf v3 false (fun k => kLd v10 h10 k) h10 fun v11 h11 =>
 kIf v3 false (fun k => kOf (vInt .xor v11 (.int .i64 1) h11) k) h11 fun v12 h12 =>
 kIf v3 false (fun k => kIdx 1 v8 v12 h12 k) h12 fun v13 h13 =>
 kIf v3 false (fun k => kLd v13 h13 k) h13 fun v14 h14 =>
 kPick v3 (.bool true) v14 h14 fun v15 h15 =>
 p3_56 t0 v15 fun t1 =>
 some (.normal, t1, h15)
def SR199_10 : RegS 3 := fun c t0 h0 =>
 fShal (g3_6 t0) fun v2 =>
 p3_5 t0 v2 fun t1 =>
 some (.normal, t1, h0)
def SR199_11 : RegS 3 := fun c t0 h0 =>
 kNil (g3_0 t0) h0 fun v2 h2 =>
 kFld 5 v2 h2 fun v3 h3 =>
 kLd v3 h3 fun v4 h4 =>
 kIdx 1 (g3_7 t0) (.int .i64 0) h4 fun v6 h6 =>
 kLd v6 h6 fun v7 h7 =>
 kIdx 1 v4 v7 h7 fun v8 h8 =>
 kLd v8 h8 fun v9 h9 =>
 kNot v9 h9 fun v10 h10 =>
 p3_67 t0 v10 fun t1 =>
 some (.normal, t1, h10)
def SR199_12 : RegS 3 := fun c t0 h0 =>
 kIdx 1 (g3_7 t0) (.int .i64 0) h0 fun v3 h3 =>
 kLd v3 h3 fun v4 h4 =>
 kOf (c 208 [(g3_0 t0), v4, (g3_6 t0)] h4) fun v6 h6 =>
 some (.normal, t0, h6)
def SR199_4 : RegS 3 := fun c t0 h0 =>
 kAdd (g3_6 t0) (.int .i64 1) h0 fun v2 h2 =>
 fShal v2 fun v3 =>
 p3_6 t0 v3 fun t1 =>
 some (.normal, t1, h2)
def SR199_13 : RegS 3 := fun c t0 h0 =>
 kLenSl (g3_1 t0) h0 fun v3 h3 =>
 kNil (g3_0 t0) h3 fun v4 h4 =>
 kFld 2 v4 h4 fun v5 h5 =>
 kSt ro0 v5 v3 h5 fun _ h6 =>
 some (.normal, t0, h6)
def SR199_14 : RegS 3 := fun c t0 h0 =>
 fShal (g3_5 t0) fun v2 =>
 p3_4 t0 v2 fun t1 =>
 some (.normal, t1, h0)
def SW199_0 : CodeS 3 :=
 cSeqS (cSeqS (cRegS (SR199_3)) (cIfS g3_11 (cSkipS) (cExitS 0))) (cSeqS (cBlkS 1 (cSeqS (cRegS (SR199_5)) (cSeqS (cSeqS (cRegS (SR199_6)) (cIfS g3_20 (cSeqS (cRegS (SR199_7)) (cExitS 1)) (cSkipS))) (cSeqS (cRegS (SR199_8)) (cSeqS (cRegS (SR199_9)) (cIfS g3_56 (cRegS (SR199_10)) (cSeqS (cRegS (SR199_11)) (cIfS g3_67 (cRegS (SR199_12)) (cSkipS))))))))) (cRegS (SR199_4)))
def SF199 : CodeS 3 :=
 cSeqS (cRegS (SR199_0)) (cSeqS (cRegS (SR199_1)) (cSeqS (cSeqS (cRegS (SR199_2)) (cBlkS 0 (cLoopS (SW199_0)))) (cSeqS (cRegS (SR199_13)) (cSeqS (cRegS (SR199_14)) (cRetS)))))
def T199 : FnT := runG en3_2 (SF199) (resQ (qc (rT g3_4) qn))
theorem T199_ok : GoodF Tryz.prog ro0 okF 199 (T199) :=
 (good_k (n := 80) acc3 (lv [0, 1, 4, 5, 6, 7, 11, 20, 56, 67]) (rs := [ResultVar.tmp 4]) Tryz.func199 (by kernel_rfl) (by kernel_rfl) (by kernel_rfl) (by kernel_rfl) (by kernel_rfl) (by kernel_rfl) (by kernel_rfl) (by kernel_rfl) (by kernel_rfl)).enter en3_2_ok (by kernel_rfl)

/-- (*circheck/checker.search).draw -/
def SR200_0 : RegS 2 := fun c t0 h0 =>
 fShal (.int .i64 0) fun v1 =>
 p2_2 t0 v1 fun t1 =>
 some (.normal, t1, h0)
def SR200_1 : RegS 2 := fun c t0 h0 =>
 fShal (.int .i64 (-1)) fun v1 =>
 p2_3 t0 v1 fun t1 =>
 some (.normal, t1, h0)
def SR200_2 : RegS 2 := fun c t0 h0 =>
 kEql (g2_3 t0) (.int .i64 (-1)) h0 fun v2 h2 =>
 kIf v2 true (fun k => k (g2_0 t0) h2) h2 fun v4 h4 =>
 kIf v2 true (fun k => kNil v4 h4 k) h4 fun v5 h5 =>
 kIf v2 true (fun k => kFld 9 v5 h5 k) h5 fun v6 h6 =>
 kIf v2 true (fun k => kLd v6 h6 k) h6 fun v7 h7 =>
 kIf v2 true (fun k => k (g2_0 t0) h7) h7 fun v8 h8 =>
 kIf v2 true (fun k => kNil v8 h8 k) h8 fun v9 h9 =>
 kIf v2 true (fun k => kFld 7 v9 h9 k) h9 fun v10 h10 =>
 kIf v2 true (fun k => kLd v10 h10 k) h10 fun v11 h11 =>
 kIf v2 true (fun k => kLenSl v11 h11 k) h11 fun v12 h12 =>
 kIf v2 true (fun k => kLss v7 v12 h12 k) h12 fun v13 h13 =>
 kPick v2 v13 (.bool false) h13 fun v14 h14 =>
 p2_18 t0 v14 fun t1 =>
 some (.normal, t1, h14)
def SR200_3 : RegS 2 := fun c t0 h0 =>
 kNil (g2_0 t0) h0 fun v2 h2 =>
 kFld 7 v2 h2 fun v3 h3 =>
 kLd v3 h3 fun v4 h4 =>
 kNil (g2_0 t0) h4 fun v6 h6 =>
 kFld 9 v6 h6 fun v7 h7 =>
 kLd v7 h7 fun v8 h8 =>
 kIdx 1 v4 v8 h8 fun v9 h9 =>
 kLd v9 h9 fun v10 h10 =>
 kOf (vInt .xor v10 (.int .i64 1) h10) fun v11 h11 =>
 fShal v11 fun v12 =>
 p2_4 t0 v12 fun t1 =>
 some (.normal, t1, h11)
def SR200_4 : RegS 2 := fun c t0 h0 =>
 kNil (g2_0 t0) h0 fun v2 h2 =>
 kFld 9 v2 h2 fun v3 h3 =>
 kLd v3 h3 fun v4 h4 =>
 kAdd v4 (.int .i64 1) h4 fun v5 h5 =>
 kNil (g2_0 t0) h5 fun v6 h6 =>
 kFld 9 v6 h6 fun v7 h7 =>
 kSt ro0 v7 v5 h7 fun _ h8 =>
 some (.normal, t0, h8)
def SR200_5 : RegS 2 := fun c t0 h0 =>
 kOf (c 209 [(g2_0 t0), (g2_4 t0)] h0) fun v3 h3 =>
 fShal v3 fun v4 =>
 p2_3 t0 v4 fun t1 =>
 some (.normal, t1, h3)
def SR200_6 : RegS 2 := fun c t0 h0 =>
 fShal (g2_3 t0) fun v2 =>
 p2_2 t0 v2 fun t1 =>
 some (.normal, t1, h0)
def SW200_0 : CodeS 2 :=
 cSeqS (cSeqS (cRegS (SR200_2)) (cIfS g2_18 (cSkipS) (cExitS 0))) (cBlkS 1 (cSeqS (cRegS (SR200_3)) (cSeqS (cRegS (SR200_4)) (cRegS (SR200_5)))))
def SF200 : CodeS 2 :=
 cSeqS (cRegS (SR200_0)) (cSeqS (cRegS (SR200_1)) (cSeqS (cBlkS 0 (cLoopS (SW200_0))) (cSeqS (cRegS (SR200_6)) (cRetS))))
def T200 : FnT := runG en2_1 (SF200) (resQ (qc (rT g2_2) qn))
theorem T200_ok : GoodF Tryz.prog ro0 okF 200 (T200) :=
 (good_k (n := 41) acc2 (lv [0, 2, 3, 4, 18]) (rs := [ResultVar.tmp 2]) Tryz.func200 (by kernel_rfl) (by kernel_rfl) (by kernel_rfl) (by kernel_rfl) (by kernel_rfl) (by kernel_rfl) (by kernel_rfl) (by kernel_rfl) (by kernel_rfl)).enter en2_1_ok (by kernel_rfl)

/-- (*circheck/checker.search).guess -/
def SR201_0 : RegS 2 := fun c t0 h0 =>
 fShal (.int .i64 0) fun v1 =>
 p2_2 t0 v1 fun t1 =>
 some (.normal, t1, h0)
def SR201_1 : RegS 2 := fun c t0 h0 =>
 kNil (g2_0 t0) h0 fun v2 h2 =>
 kFld 8 v2 h2 fun v3 h3 =>
 kLd v3 h3 fun v4 h4 =>
 kLenSl v4 h4 fun v5 h5 =>
 fShal v5 fun v6 =>
 p2_3 t0 v6 fun t1 =>
 some (.normal, t1, h5)
def SR201_2 : RegS 2 := fun c t0 h0 =>
 kNil (g2_0 t0) h0 fun v3 h3 =>
 kFld 0 v3 h3 fun v4 h4 =>
 kLd v4 h4 fun v5 h5 =>
 kLenSl v5 h5 fun v6 h6 =>
 kLss (g2_3 t0) v6 h6 fun v7 h7 =>
 p2_17 t0 v7 fun t1 =>
 some (.normal, t1, h7)
def SR201_3 : RegS 2 := fun c t0 h0 =>
 kNil (g2_0 t0) h0 fun v3 h3 =>
 kFld 0 v3 h3 fun v4 h4 =>
 kLd v4 h4 fun v5 h5 =>
 kIdx 1 v5 (g2_3 t0) h5 fun v7 h7 =>
 kLd v7 h7 fun v8 h8 =>
 kOf (c 210 [(g2_0 t0), v8] h8) fun v9 h9 =>
 fShal v9 fun v10 =>
 p2_2 t0 v10 fun t1 =>
 some (.normal, t1, h9)
def SR201_4 : RegS 2 := fun c t0 h0 =>
 kOf (c 211 [(g2_0 t0)] h0) fun v2 h2 =>
 fShal v2 fun v3 =>
 p2_4 t0 v3 fun t1 =>
 some (.normal, t1, h2)
def SR201_5 : RegS 2 := fun c t0 h0 =>
 kEql (g2_4 t0) (.int .i64 (-1)) h0 fun v2 h2 =>
 p2_30 t0 v2 fun t1 =>
 some (.normal, t1, h2)
def SR201_6 : RegS 2 := fun c t0 h0 =>
 fShal (.int .i64 1) fun v1 =>
 p2_2 t0 v1 fun t1 =>
 some (.normal, t1, h0)
def SR201_7 : RegS 2 := fun c t0 h0 =>
 kOf (vInt .mul (.int .i64 2) (g2_4 t0) h0) fun v2 h2 =>
 fShal v2 fun v3 =>
 p2_5 t0 v3 fun t1 =>
 some (.normal, t1, h2)
def SR201_8 : RegS 2 := fun c t0 h0 =>
 kNil (g2_0 t0) h0 fun v2 h2 =>
 kFld 6 v2 h2 fun v3 h3 =>
 kLd v3 h3 fun v4 h4 =>
 kIdx 5 v4 (g2_4 t0) h4 fun v6 h6 =>
 kFld 4 v6 h6 fun v7 h7 =>
 kLd v7 h7 fun v8 h8 =>
 kNot v8 h8 fun v9 h9 =>
 p2_41 t0 v9 fun t1 =>
 some (.normal, t1, h9)
def SR201_9 : RegS 2 := fun c t0 h0 =>
 kAdd (g2_5 t0) (.int .i64 1) h0 fun v2 h2 =>
 fShal v2 fun v3 =>
 p2_5 t0 v3 fun t1 =>
 some (.normal, t1, h2)
def SR201_10 : RegS 2 := fun c t0 h0 =>
 kNil (g2_0 t0) h0 fun v3 h3 =>
 kFld 8 v3 h3 fun v4 h4 =>
 kLd v4 h4 fun v5 h5 =>
 kNil (g2_0 t0) h5 fun v7 h7 =>
 kFld 7 v7 h7 fun v8 h8 =>
 kLd v8 h8 fun v9 h9 =>
 kLenSl v9 h9 fun v10 h10 =>
 kMkSl 1 1 #[.int .i64 0] [(0, v10)] h10 fun v11 h11 =>
 kOf (vApp ro0 1 8 v5 v11 h11) fun v12 h12 =>
 kNil (g2_0 t0) h12 fun v13 h13 =>
 kFld 8 v13 h13 fun v14 h14 =>
 kSt ro0 v14 v12 h14 fun _ h15 =>
 some (.normal, t0, h15)
def SR201_11 : RegS 2 := fun c t0 h0 =>
 kOf (c 208 [(g2_0 t0), (g2_5 t0), (.int .i64 (-1))] h0) fun v3 h3 =>
 some (.normal, t0, h3)
def SR201_12 : RegS 2 := fun c t0 h0 =>
 fShal (.int .i64 0) fun v1 =>
 p2_2 t0 v1 fun t1 =>
 some (.normal, t1, h0)
def SF201 : CodeS 2 :=
 cSeqS (cRegS (SR201_0)) (cSeqS (cRegS (SR201_1)) (cSeqS (cSeqS (cRegS (SR201_2)) (cIfS g2_17 (cSeqS (cRegS (SR201_3)) (cRetS)) (cSkipS))) (cSeqS (cRegS (SR201_4)) (cSeqS (cSeqS (cRegS (SR201_5)) (cIfS g2_30 (cSeqS (cRegS (SR201_6)) (cRetS)) (cSkipS))) (cSeqS (cRegS (SR201_7)) (cSeqS (cSeqS (cRegS (SR201_8)) (cIfS g2_41 (cRegS (SR201_9)) (cSkipS))) (cSeqS (cRegS (SR201_10)) (cSeqS (cRegS (SR201_11)) (cSeqS (cRegS (SR201_12)) (cRetS))))))))))
def T201 : FnT := runG en2_1 (SF201) (resQ (qc (rT g2_2) qn))
theorem T201_ok : GoodF Tryz.prog ro0 okF 201 (T201) :=
 (good_k (n := 61) acc2 (lv [0, 2, 3, 4, 5, 17, 30, 41]) (rs := [ResultVar.tmp 2]) Tryz.func201 (by kernel_rfl) (by kernel_rfl) (by kernel_rfl) (by kernel_rfl) (by kernel_rfl) (by kernel_rfl) (by kernel_rfl) (by kernel_rfl) (by kernel_rfl)).enter en2_1_ok (by kernel_rfl)

/-- (*circheck/checker.search).meet -/
def SR202_0 : RegS 2 := fun c t0 h0 =>
 fShal (.int .i64 0) fun v1 =>
 p2_6 t0 v1 fun t1 =>
 some (.normal, t1, h0)
def SR202_1 : RegS 2 := fun c t0 h0 =>
 kNil (g2_0 t0) h0 fun v2 h2 =>
 kFld 11 v2 h2 fun v3 h3 =>
 kLd v3 h3 fun v4 h4 =>
 kAdd v4 (.int .i64 1) h4 fun v5 h5 =>
 kNil (g2_0 t0) h5 fun v6 h6 =>
 kFld 11 v6 h6 fun v7 h7 =>
 kSt ro0 v7 v5 h7 fun _ h8 =>
 some (.normal, t0, h8)
def SR202_2 : RegS 2 := fun c t0 h0 =>
 kNil (g2_0 t0) h0 fun v2 h2 =>
 kFld 8 v2 h2 fun v3 h3 =>
 kLd v3 h3 fun v4 h4 =>
 kLenSl v4 h4 fun v5 h5 =>
 kNil (g2_0 t0) h5 fun v7 h7 =>
 kFld 0 v7 h7 fun v8 h8 =>
 kLd v8 h8 fun v9 h9 =>
 kLenSl v9 h9 fun v10 h10 =>
 kLeq v5 v10 h10 fun v11 h11 =>
 fShal v11 fun v12 =>
 p2_7 t0 v12 fun t1 =>
 some (.normal, t1, h11)
def SR202_3 : RegS 2 := fun c t0 h0 =>
 fShal (g2_7 t0) fun v1 =>
 p2_26 t0 v1 fun t1 =>
 some (.normal, t1, h0)
def SR202_4 : RegS 2 := fun c t0 h0 =>
 kNil (g2_0 t0) h0 fun v3 h3 =>
 kFld 1 v3 h3 fun v4 h4 =>
 kLd v4 h4 fun v5 h5 =>
 kIdx 4 v5 (g2_1 t0) h5 fun v7 h7 =>
 kFld 0 v7 h7 fun v8 h8 =>
 kLd v8 h8 fun v9 h9 =>
 kOf (c 212 [(g2_0 t0), v9] h9) fun v10 h10 =>
 some (.normal, t0, h10)
def SR202_5 : RegS 2 := fun c t0 h0 =>
 fShal (.int .i64 2) fun v1 =>
 p2_6 t0 v1 fun t1 =>
 some (.normal, t1, h0)
def SR202_6 : RegS 2 := fun c t0 h0 =>
 kNil (g2_0 t0) h0 fun v2 h2 =>
 kFld 11 v2 h2 fun v3 h3 =>
 kLd v3 h3 fun v4 h4 =>
 kGtr v4 (g2_2 t0) h4 fun v6 h6 =>
 p2_42 t0 v6 fun t1 =>
 some (.normal, t1, h6)
def SR202_7 : RegS 2 := fun c t0 h0 =>
 fShal (.int .i64 3) fun v1 =>
 p2_6 t0 v1 fun t1 =>
 some (.normal, t1, h0)
def SR202_8 : RegS 2 := fun c t0 h0 =>
 kOf (c 213 [(g2_0 t0), (g2_1 t0)] h0) fun v3 h3 =>
 some (.normal, t0, h3)
def SR202_9 : RegS 2 := fun c t0 h0 =>
 fShal (.int .i64 0) fun v1 =>
 p2_6 t0 v1 fun t1 =>
 some (.normal, t1, h0)
def SF202 : CodeS 2 :=
 cSeqS (cRegS (SR202_0)) (cSeqS (cRegS (SR202_1)) (cSeqS (cRegS (SR202_2)) (cSeqS (cSeqS (cRegS (SR202_3)) (cIfS g2_26 (cSeqS (cRegS (SR202_4)) (cSeqS (cRegS (SR202_5)) (cRetS))) (cSkipS))) (cSeqS (cSeqS (cRegS (SR202_6)) (cIfS g2_42 (cSeqS (cRegS (SR202_7)) (cRetS)) (cSkipS))) (cSeqS (cRegS (SR202_8)) (cSeqS (cRegS (SR202_9)) (cRetS)))))))
def T202 : FnT := runG en2_3 (SF202) (resQ (qc (rT g2_6) qn))
theorem T202_ok : GoodF Tryz.prog ro0 okF 202 (T202) :=
 (good_k (n := 46) acc2 (lv [0, 1, 2, 6, 7, 26, 42]) (rs := [ResultVar.tmp 6]) Tryz.func202 (by kernel_rfl) (by kernel_rfl) (by kernel_rfl) (by kernel_rfl) (by kernel_rfl) (by kernel_rfl) (by kernel_rfl) (by kernel_rfl) (by kernel_rfl)).enter en2_3_ok (by kernel_rfl)

/-- circheck/checker.areEqual -/
def SR203_0 : RegS 2 := fun c t0 h0 =>
 fShal (.bool false) fun v1 =>
 p2_4 t0 v1 fun t1 =>
 some (.normal, t1, h0)
def SR203_1 : RegS 2 := fun c t0 h0 =>
 kLenSl (g2_0 t0) h0 fun v2 h2 =>
 kLenSl (g2_1 t0) h2 fun v4 h4 =>
 kNeq v2 v4 h4 fun v5 h5 =>
 p2_10 t0 v5 fun t1 =>
 some (.normal, t1, h5)
def SR203_2 : RegS 2 := fun c t0 h0 =>
 fShal (.bool false) fun v1 =>
 p2_4 t0 v1 fun t1 =>
 some (.normal, t1, h0)
def SR203_3 : RegS 2 := fun c t0 h0 =>
 fShal (.int .i64 0) fun v1 =>
 p2_5 t0 v1 fun t1 =>
 some (.normal, t1, h0)
def SR203_4 : RegS 2 := fun c t0 h0 =>
 kLenSl (g2_0 t0) h0 fun v3 h3 =>
 kLss (g2_5 t0) v3 h3 fun v4 h4 =>
 p2_14 t0 v4 fun t1 =>
 some (.normal, t1, h4)
def SR203_6 : RegS 2 := fun c t0 h0 =>
 kIdx 1 (g2_0 t0) (g2_5 t0) h0 fun v3 h3 =>
 kLd v3 h3 fun v4 h4 =>
 kIdx 1 (g2_1 t0) (g2_5 t0) h4 fun v7 h7 =>
 kLd v7 h7 fun v8 h8 =>
 kNeq v4 v8 h8 fun v9 h9 =>
 p2_25 t0 v9 fun t1 =>
 some (.normal, t1, h9)
def SR203_7 : RegS 2 := fun c t0 h0 =>
 fShal (.bool false) fun v1 =>
 p2_4 t0 v1 fun t1 =>
 some (.normal, t1, h0)
def SR203_5 : RegS 2 := fun c t0 h0 =>
 kAdd (g2_5 t0) (.int .i64 1) h0 fun v2 h2 =>
 fShal v2 fun v3 =>
 p2_5 t0 v3 fun t1 =>
 some (.normal, t1, h2)
def SR203_8 : RegS 2 := fun c t0 h0 =>
 fShal (.bool true) fun v1 =>
 p2_4 t0 v1 fun t1 =>
 some (.normal, t1, h0)
def SW203_0 : CodeS 2 :=
 cSeqS (cSeqS (cRegS (SR203_4)) (cIfS g2_14 (cSkipS) (cExitS 0))) (cSeqS (cBlkS 1 (cSeqS (cRegS (SR203_6)) (cIfS g2_25 (cSeqS (cRegS (SR203_7)) (cRetS)) (cSkipS)))) (cRegS (SR203_5)))
def SF203 : CodeS 2 :=
 cSeqS (cRegS (SR203_0)) (cSeqS (cSeqS (cRegS (SR203_1)) (cIfS g2_10 (cSeqS (cRegS (SR203_2)) (cRetS)) (cSkipS))) (cSeqS (cSeqS (cRegS (SR203_3)) (cBlkS 0 (cLoopS (SW203_0)))) (cSeqS (cRegS (SR203_8)) (cRetS))))
def T203 : FnT := runG en2_2 (SF203) (resQ (qc (rT g2_4) qn))
theorem T203_ok : GoodF Tryz.prog ro0 okF 203 (T203) :=
 (good_k (n := 26) acc2 (lv [0, 1, 4, 5, 10, 14, 25]) (rs := [ResultVar.tmp 4]) Tryz.func203 (by kernel_rfl) (by kernel_rfl) (by kernel_rfl) (by kernel_rfl) (by kernel_rfl) (by kernel_rfl) (by kernel_rfl) (by kernel_rfl) (by kernel_rfl)).enter en2_2_ok (by kernel_rfl)

/-- internal/strconv.FormatInt -/
def SR204_0 : RegS 2 := fun c t0 h0 =>
 fShal (.string { data := #[] }) fun v1 =>
 p2_4 t0 v1 fun t1 =>
 some (.normal, t1, h0)
def SR204_1 : RegS 2 := fun c t0 h0 =>
 kEql (g2_1 t0) (.int .i64 10) h0 fun v2 h2 =>
 p2_11 t0 v2 fun t1 =>
 some (.normal, t1, h2)
def SR204_2 : RegS 2 := fun c t0 h0 =>
 kLeq (.int .i64 0) (g2_0 t0) h0 fun v2 h2 =>
 kIf v2 true (fun k => k (g2_0 t0) h2) h2 fun v4 h4 =>
 kIf v2 true (fun k => kLss v4 (.int .i64 100) h4 k) h4 fun v5 h5 =>
 kPick v2 v5 (.bool false) h5 fun v6 h6 =>
 p2_17 t0 v6 fun t1 =>
 some (.normal, t1, h6)
def SR204_3 : RegS 2 := fun c t0 h0 =>
 kOf (c 214 [(g2_0 t0)] h0) fun v2 h2 =>
 fShal v2 fun v3 =>
 p2_4 t0 v3 fun t1 =>
 some (.normal, t1, h2)
def SR204_4 : RegS 2 := fun c t0 h0 =>
 kNew [.int .u8 0, .int .u8 0, .int .u8 0, .int .u8 0, .int .u8 0, .int .u8 0, .int .u8 0, .int .u8 0, .int .u8 0, .int .u8 0, .int .u8 0, .int .u8 0, .int .u8 0, .int .u8 0, .int .u8 0, .int .u8 0, .int .u8 0, .int .u8 0, .int .u8 0, .int .u8 0, .int .u8 0, .int .u8 0, .int .u8 0, .int .u8 0] h0 fun v1 h1 =>
 p2_5 t0 v1 fun t1 =>
 some (.normal, t1, h1)
def SR204_5 : RegS 2 := fun c t0 h0 =>
 kAny (aConv .u64 (.const (g2_0 t0))) c h0 fun v2 h2 =>
 fShal v2 fun v3 =>
 p2_6 t0 v3 fun t1 =>
 some (.normal, t1, h2)
def SR204_6 : RegS 2 := fun c t0 h0 =>
 kLss (g2_0 t0) (.int .i64 0) h0 fun v2 h2 =>
 p2_23 t0 v2 fun t1 =>
 some (.normal, t1, h2)
def SR204_7 : RegS 2 := fun c t0 h0 =>
 kAny (aUn .neg (.const (g2_6 t0))) c h0 fun v2 h2 =>
 fShal v2 fun v3 =>
 p2_6 t0 v3 fun t1 =>
 some (.normal, t1, h2)
def SR204_8 : RegS 2 := fun c t0 h0 =>
 kOf (c 215 [(g2_6 t0)] h0) fun v2 h2 =>
 fShal v2 fun v3 =>
 p2_7 t0 v3 fun t1 =>
 some (.normal, t1, h2)
def SR204_9 : RegS 2 := fun c t0 h0 =>
 kAdd (.int .i64 1) (g2_7 t0) h0 fun v2 h2 =>
 kAny (aSliceArr tO 24 1 (.const (g2_5 t0)) (some (.const (.int .i64 1))) (some (.const v2))) c h2 fun v3 h3 =>
 kOf (c 216 [v3, (g2_6 t0)] h3) fun v5 h5 =>
 some (.normal, t0, h5)
def SR204_10 : RegS 2 := fun c t0 h0 =>
 kLss (g2_0 t0) (.int .i64 0) h0 fun v2 h2 =>
 p2_34 t0 v2 fun t1 =>
 some (.normal, t1, h2)
def SR204_11 : RegS 2 := fun c t0 h0 =>
 kAny (aIdxArr 24 1 (.const (g2_5 t0)) (.const (.int .i64 0))) c h0 fun v1 h1 =>
 kSt ro0 v1 (.int .u8 45) h1 fun _ h2 =>
 some (.normal, t0, h2)
def SR204_12 : RegS 2 := fun c t0 h0 =>
 kAdd (.int .i64 1) (g2_7 t0) h0 fun v2 h2 =>
 kAny (aSliceArr tO 24 1 (.const (g2_5 t0)) none (some (.const v2))) c h2 fun v3 h3 =>
 kAny (aB2S tO (.const v3)) c h3 fun v4 h4 =>
 fShal v4 fun v5 =>
 p2_4 t0 v5 fun t1 =>
 some (.normal, t1, h4)
def SR204_13 : RegS 2 := fun c t0 h0 =>
 kAdd (.int .i64 1) (g2_7 t0) h0 fun v2 h2 =>
 kAny (aSliceArr tO 24 1 (.const (g2_5 t0)) (some (.const (.int .i64 1))) (some (.const v2))) c h2 fun v3 h3 =>
 kAny (aB2S tO (.const v3)) c h3 fun v4 h4 =>
 fShal v4 fun v5 =>
 p2_4 t0 v5 fun t1 =>
 some (.normal, t1, h4)
def SR204_14 : RegS 2 := fun c t0 h0 =>
 kAny (aConv .u64 (.const (g2_0 t0))) c h0 fun v2 h2 =>
 kLss (g2_0 t0) (.int .i64 0) h2 fun v5 h5 =>
 kOf (c 217 [(.slice none 0 0), v2, (g2_1 t0), v5, (.bool false)] h5) fun v6 h6 =>
 kExt 0 v6 h6 fun v8 h8 =>
 kExt 1 v6 h8 fun v9 h9 =>
 fShal v9 fun v11 =>
 p2_9 t0 v11 fun t1 =>
 some (.normal, t1, h9)
def SR204_15 : RegS 2 := fun c t0 h0 =>
 fShal (g2_9 t0) fun v2 =>
 p2_4 t0 v2 fun t1 =>
 some (.normal, t1, h0)
def SF204 : CodeS 2 :=
 cSeqS (cRegS (SR204_0)) (cSeqS (cSeqS (cRegS (SR204_1)) (cIfS g2_11 (cSeqS (cSeqS (cRegS (SR204_2)) (cIfS g2_17 (cSeqS (cRegS (SR204_3)) (cRetS)) (cSkipS))) (cSeqS (cRegS (SR204_4)) (cSeqS (cRegS (SR204_5)) (cSeqS (cSeqS (cRegS (SR204_6)) (cIfS g2_23 (cRegS (SR204_7)) (cSkipS))) (cSeqS (cRegS (SR204_8)) (cSeqS (cRegS (SR204_9)) (cSeqS (cSeqS (cRegS (SR204_10)) (cIfS g2_34 (cSeqS (cRegS (SR204_11)) (cSeqS (cRegS (SR204_12)) (cRetS))) (cSkipS))) (cSeqS (cRegS (SR204_13)) (cRetS))))))))) (cSkipS))) (cSeqS (cRegS (SR204_14)) (cSeqS (cRegS (SR204_15)) (cRetS))))
def T204 : FnT := runG en2_2 (SF204) (resQ (qc (rT g2_4) qn))
theorem T204_ok : GoodF Tryz.prog ro0 okF 204 (T204) :=
 (good_k (n := 54) acc2 (lv [0, 1, 4, 5, 6, 7, 9, 11, 17, 23, 34]) (rs := [ResultVar.tmp 4]) Tryz.func204 (by kernel_rfl) (by kernel_rfl) (by kernel_rfl) (by kernel_rfl) (by kernel_rfl) (by kernel_rfl) (by kernel_rfl) (by kernel_rfl) (by kernel_rfl)).enter en2_2_ok (by kernel_rfl)

/-- (*circheck/checker.search).attach -/
def SR207_0 : RegS 2 := fun c t0 h0 =>
 kBox (g2_1 t0) h0 fun v1 h1 =>
 p2_3 t0 v1 fun t1 =>
 some (.normal, t1, h1)
def SR207_1 : RegS 2 := fun c t0 h0 =>
 kNil (g2_0 t0) h0 fun v3 h3 =>
 kFld 1 v3 h3 fun v4 h4 =>
 kLd v4 h4 fun v5 h5 =>
 kOf (vLdN 4 (g2_3 t0) h5) fun v6 h6 =>
 kMkSl 4 1 #[.slice none 0 0, .int .i64 0, .int .i64 0, .int .i64 0] [(0, v6)] h6 fun v7 h7 =>
 kOf (vApp ro0 4 48 v5 v7 h7) fun v8 h8 =>
 kNil (g2_0 t0) h8 fun v9 h9 =>
 kFld 1 v9 h9 fun v10 h10 =>
 kSt ro0 v10 v8 h10 fun _ h11 =>
 some (.normal, t0, h11)
def SR207_2 : RegS 2 := fun c t0 h0 =>
 kNil (g2_0 t0) h0 fun v3 h3 =>
 kFld 1 v3 h3 fun v4 h4 =>
 kLd v4 h4 fun v5 h5 =>
 kLenSl v5 h5 fun v6 h6 =>
 kSub v6 (.int .i64 1) h6 fun v7 h7 =>
 kOf (c 219 [(g2_0 t0), v7] h7) fun v8 h8 =>
 some (.normal, t0, h8)
def SF207 : CodeS 2 :=
 cSeqS (cRegS (SR207_0)) (cSeqS (cRegS (SR207_1)) (cRegS (SR207_2)))
def T207 : FnT := runG en2_2 (SF207) (resQ qn)
theorem T207_ok : GoodF Tryz.prog ro0 okF 207 (T207) :=
 (good_k (n := 22) acc2 (lv [0, 1, 3]) (rs := []) Tryz.func207 (by kernel_rfl) (by kernel_rfl) (by kernel_rfl) (by kernel_rfl) (by kernel_rfl) (by kernel_rfl) (by kernel_rfl) (by kernel_rfl) (by kernel_rfl)).enter en2_2_ok (by kernel_rfl)

/-- (*circheck/checker.search).set -/
def SR208_0 : RegS 2 := fun c t0 h0 =>
 kAny (aShift .shr (.const (g2_1 t0)) (.const (.int .u64 1))) c h0 fun v2 h2 =>
 fShal v2 fun v3 =>
 p2_6 t0 v3 fun t1 =>
 some (.normal, t1, h2)
def SR208_1 : RegS 2 := fun c t0 h0 =>
 kNil (g2_0 t0) h0 fun v2 h2 =>
 kFld 5 v2 h2 fun v3 h3 =>
 kLd v3 h3 fun v4 h4 =>
 kIdx 1 v4 (g2_1 t0) h4 fun v6 h6 =>
 kSt ro0 v6 (.bool true) h6 fun _ h7 =>
 some (.normal, t0, h7)
def SR208_2 : RegS 2 := fun c t0 h0 =>
 kNil (g2_0 t0) h0 fun v2 h2 =>
 kFld 6 v2 h2 fun v3 h3 =>
 kLd v3 h3 fun v4 h4 =>
 kNil (g2_0 t0) h4 fun v7 h7 =>
 kFld 8 v7 h7 fun v8 h8 =>
 kLd v8 h8 fun v9 h9 =>
 kLenSl v9 h9 fun v10 h10 =>
 kIdx 5 v4 (g2_6 t0) h10 fun v11 h11 =>
 kFld 0 v11 h11 fun v12 h12 =>
 kSt ro0 v12 v10 h12 fun _ h13 =>
 some (.normal, t0, h13)
def SR208_3 : RegS 2 := fun c t0 h0 =>
 kNil (g2_0 t0) h0 fun v2 h2 =>
 kFld 6 v2 h2 fun v3 h3 =>
 kLd v3 h3 fun v4 h4 =>
 kIdx 5 v4 (g2_6 t0) h4 fun v7 h7 =>
 kFld 1 v7 h7 fun v8 h8 =>
 kSt ro0 v8 (g2_2 t0) h8 fun _ h9 =>
 some (.normal, t0, h9)
def SR208_4 : RegS 2 := fun c t0 h0 =>
 kNil (g2_0 t0) h0 fun v2 h2 =>
 kFld 6 v2 h2 fun v3 h3 =>
 kLd v3 h3 fun v4 h4 =>
 kOf (vInt .and (g2_1 t0) (.int .i64 1) h4) fun v7 h7 =>
 kEql v7 (.int .i64 0) h7 fun v8 h8 =>
 kIdx 5 v4 (g2_6 t0) h8 fun v9 h9 =>
 kFld 4 v9 h9 fun v10 h10 =>
 kSt ro0 v10 v8 h10 fun _ h11 =>
 some (.normal, t0, h11)
def SR208_5 : RegS 2 := fun c t0 h0 =>
 kNil (g2_0 t0) h0 fun v3 h3 =>
 kFld 7 v3 h3 fun v4 h4 =>
 kLd v4 h4 fun v5 h5 =>
 kMkSl 1 1 #[.int .i64 0] [(0, (g2_1 t0))] h5 fun v7 h7 =>
 kOf (vApp ro0 1 8 v5 v7 h7) fun v8 h8 =>
 kNil (g2_0 t0) h8 fun v9 h9 =>
 kFld 7 v9 h9 fun v10 h10 =>
 kSt ro0 v10 v8 h10 fun _ h11 =>
 some (.normal, t0, h11)
def SF208 : CodeS 2 :=
 cSeqS (cRegS (SR208_0)) (cSeqS (cRegS (SR208_1)) (cSeqS (cRegS (SR208_2)) (cSeqS (cRegS (SR208_3)) (cSeqS (cRegS (SR208_4)) (cRegS (SR208_5))))))
def T208 : FnT := runG en2_3 (SF208) (resQ qn)
theorem T208_ok : GoodF Tryz.prog ro0 okF 208 (T208) :=
 (good_k (n := 55) acc2 (lv [0, 1, 2, 6]) (rs := []) Tryz.func208 (by kernel_rfl) (by kernel_rfl) (by kernel_rfl) (by kernel_rfl) (by kernel_rfl) (by kernel_rfl) (by kernel_rfl) (by kernel_rfl) (by kernel_rfl)).enter en2_3_ok (by kernel_rfl)
end Go.Proofs.YtimdkminagnhgaaGreatDoor
