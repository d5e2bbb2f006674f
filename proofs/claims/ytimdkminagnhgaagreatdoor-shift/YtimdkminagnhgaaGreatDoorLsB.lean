/-
  The program itself for the kernel, function by function. Printed by program; the kernel checks each. Own work.
-/
import Derived.Test.YtimdkminagnhgaaGreatDoorLsA
namespace Go.Proofs.YtimdkminagnhgaaGreatDoor
open Go.Vm Go.Proofs
set_option linter.unusedVariables false
set_option maxRecDepth 100000

/-- circheck/circhecksays.Counter -/
def SR9_0 : RegS 2 := fun c t0 h0 =>
 fShal (.bool false) fun v1 =>
 p2_6 t0 v1 fun t1 =>
 some (.normal, t1, h0)
def SR9_1 : RegS 2 := fun c t0 h0 =>
 kOf (c 18 [(g2_0 t0), (g2_1 t0)] h0) fun v3 h3 =>
 fShal v3 fun v4 =>
 p2_6 t0 v4 fun t1 =>
 some (.normal, t1, h3)
def SF9 : CodeS 2 :=
 cSeqS (cRegS (SR9_0)) (cSeqS (cRegS (SR9_1)) (cRetS))
def T9 : FnT := runG en2_3 (SF9) (resQ (qc (rT g2_6) qn))
theorem T9_ok : GoodF Tryz.prog ro0 okF 9 (T9) :=
 (good_k (n := 10) acc2 (lv [0, 1, 6]) (rs := [ResultVar.tmp 6]) Tryz.func9 (by kernel_rfl) (by kernel_rfl) (by kernel_rfl) (by kernel_rfl) (by kernel_rfl) (by kernel_rfl) (by kernel_rfl) (by kernel_rfl) (by kernel_rfl)).enter en2_3_ok (by kernel_rfl)

/-- circheck/circhecksays.Even -/
def SR10_0 : RegS 2 := fun c t0 h0 =>
 fShal (.bool false) fun v1 =>
 p2_6 t0 v1 fun t1 =>
 some (.normal, t1, h0)
def SR10_1 : RegS 2 := fun c t0 h0 =>
 kOf (c 19 [(g2_0 t0), (g2_1 t0)] h0) fun v3 h3 =>
 fShal v3 fun v4 =>
 p2_6 t0 v4 fun t1 =>
 some (.normal, t1, h3)
def SF10 : CodeS 2 :=
 cSeqS (cRegS (SR10_0)) (cSeqS (cRegS (SR10_1)) (cRetS))
def T10 : FnT := runG en2_3 (SF10) (resQ (qc (rT g2_6) qn))
theorem T10_ok : GoodF Tryz.prog ro0 okF 10 (T10) :=
 (good_k (n := 10) acc2 (lv [0, 1, 6]) (rs := [ResultVar.tmp 6]) Tryz.func10 (by kernel_rfl) (by kernel_rfl) (by kernel_rfl) (by kernel_rfl) (by kernel_rfl) (by kernel_rfl) (by kernel_rfl) (by kernel_rfl) (by kernel_rfl)).enter en2_3_ok (by kernel_rfl)

/-- circheck/circhecksays.Shift -/
def SR11_0 : RegS 2 := fun c t0 h0 =>
 fShal (.bool false) fun v1 =>
 p2_6 t0 v1 fun t1 =>
 some (.normal, t1, h0)
def SR11_1 : RegS 2 := fun c t0 h0 =>
 kOf (c 20 [(g2_0 t0)] h0) fun v2 h2 =>
 fShal v2 fun v3 =>
 p2_6 t0 v3 fun t1 =>
 some (.normal, t1, h2)
def SF11 : CodeS 2 :=
 cSeqS (cRegS (SR11_0)) (cSeqS (cRegS (SR11_1)) (cRetS))
def T11 : FnT := runG en2_3 (SF11) (resQ (qc (rT g2_6) qn))
theorem T11_ok : GoodF Tryz.prog ro0 okF 11 (T11) :=
 (good_k (n := 9) acc2 (lv [0, 6]) (rs := [ResultVar.tmp 6]) Tryz.func11 (by kernel_rfl) (by kernel_rfl) (by kernel_rfl) (by kernel_rfl) (by kernel_rfl) (by kernel_rfl) (by kernel_rfl) (by kernel_rfl) (by kernel_rfl)).enter en2_3_ok (by kernel_rfl)

/-- circheck/circhecksays.Lock -/
def SR12_0 : RegS 2 := fun c t0 h0 =>
 fShal (.bool false) fun v1 =>
 p2_6 t0 v1 fun t1 =>
 some (.normal, t1, h0)
def SR12_1 : RegS 2 := fun c t0 h0 =>
 kOf (c 21 [(g2_0 t0), (g2_1 t0)] h0) fun v3 h3 =>
 fShal v3 fun v4 =>
 p2_6 t0 v4 fun t1 =>
 some (.normal, t1, h3)
def SF12 : CodeS 2 :=
 cSeqS (cRegS (SR12_0)) (cSeqS (cRegS (SR12_1)) (cRetS))
def T12 : FnT := runG en2_3 (SF12) (resQ (qc (rT g2_6) qn))
theorem T12_ok : GoodF Tryz.prog ro0 okF 12 (T12) :=
 (good_k (n := 10) acc2 (lv [0, 1, 6]) (rs := [ResultVar.tmp 6]) Tryz.func12 (by kernel_rfl) (by kernel_rfl) (by kernel_rfl) (by kernel_rfl) (by kernel_rfl) (by kernel_rfl) (by kernel_rfl) (by kernel_rfl) (by kernel_rfl)).enter en2_3_ok (by kernel_rfl)

/-- circheck/circhecksays.Ring -/
def SR13_0 : RegS 2 := fun c t0 h0 =>
 fShal (.bool false) fun v1 =>
 p2_6 t0 v1 fun t1 =>
 some (.normal, t1, h0)
def SR13_1 : RegS 2 := fun c t0 h0 =>
 kOf (c 22 [(g2_0 t0), (g2_1 t0), (g2_2 t0)] h0) fun v4 h4 =>
 fShal v4 fun v5 =>
 p2_6 t0 v5 fun t1 =>
 some (.normal, t1, h4)
def SF13 : CodeS 2 :=
 cSeqS (cRegS (SR13_0)) (cSeqS (cRegS (SR13_1)) (cRetS))
def T13 : FnT := runG en2_3 (SF13) (resQ (qc (rT g2_6) qn))
theorem T13_ok : GoodF Tryz.prog ro0 okF 13 (T13) :=
 (good_k (n := 11) acc2 (lv [0, 1, 2, 6]) (rs := [ResultVar.tmp 6]) Tryz.func13 (by kernel_rfl) (by kernel_rfl) (by kernel_rfl) (by kernel_rfl) (by kernel_rfl) (by kernel_rfl) (by kernel_rfl) (by kernel_rfl) (by kernel_rfl)).enter en2_3_ok (by kernel_rfl)

/-- circheck/circhecksays.Free -/
def SR14_0 : RegS 2 := fun c t0 h0 =>
 fShal (.bool false) fun v1 =>
 p2_6 t0 v1 fun t1 =>
 some (.normal, t1, h0)
def SR14_1 : RegS 2 := fun c t0 h0 =>
 kOf (c 23 [(g2_0 t0), (g2_1 t0), (g2_2 t0)] h0) fun v4 h4 =>
 fShal v4 fun v5 =>
 p2_6 t0 v5 fun t1 =>
 some (.normal, t1, h4)
def SF14 : CodeS 2 :=
 cSeqS (cRegS (SR14_0)) (cSeqS (cRegS (SR14_1)) (cRetS))
def T14 : FnT := runG en2_3 (SF14) (resQ (qc (rT g2_6) qn))
theorem T14_ok : GoodF Tryz.prog ro0 okF 14 (T14) :=
 (good_k (n := 11) acc2 (lv [0, 1, 2, 6]) (rs := [ResultVar.tmp 6]) Tryz.func14 (by kernel_rfl) (by kernel_rfl) (by kernel_rfl) (by kernel_rfl) (by kernel_rfl) (by kernel_rfl) (by kernel_rfl) (by kernel_rfl) (by kernel_rfl)).enter en2_3_ok (by kernel_rfl)

/-- circheck/checker.Run -/
def SR16_0 : RegS 2 := fun c t0 h0 =>
 fShal (.pointer none) fun v1 =>
 p2_4 t0 v1 fun t1 =>
 some (.normal, t1, h0)
def SR16_1 : RegS 2 := fun c t0 h0 =>
 kLss (g2_1 t0) (.int .i64 0) h0 fun v2 h2 =>
 p2_10 t0 v2 fun t1 =>
 some (.normal, t1, h2)
def SR16_2 : RegS 2 := fun c t0 h0 =>
 kBuild #[.int .i64 0, .int .i64 0] [(0, 1), (1, 1)] [(0, (.int .i64 13))] h0 fun v1 h1 =>
 kBuild #[.int .i64 0, .int .i64 0, .int .i64 0, .slice none 0 0, .int .i64 0, .slice none 0 0, .int .i64 0, .string ⟨#[]⟩] [(0, 1), (1, 2), (3, 1), (4, 1), (5, 1), (6, 1), (7, 1)] [(1, v1)] h1 fun v2 h2 =>
 kBox v2 h2 fun v3 h3 =>
 fShal v3 fun v4 =>
 p2_4 t0 v4 fun t1 =>
 some (.normal, t1, h3)
def SR16_3 : RegS 2 := fun c t0 h0 =>
 kOf (c 25 [(g2_0 t0)] h0) fun v2 h2 =>
 kExt 0 v2 h2 fun v4 h4 =>
 kExt 1 v2 h4 fun v5 h5 =>
 kNew [.int .i64 0, .int .i64 0] h5 fun v6 h6 =>
 p2_6 t0 v6 fun t1 =>
 fShal v4 fun v7 =>
 p2_5 t1 v7 fun t2 =>
 kAny (aSt tO ro0 2 (.const v6) (.const v5)) c h6 fun _ h8 =>
 some (.normal, t2, h8)
def SR16_4 : RegS 2 := fun c t0 h0 =>
 kFld 0 (g2_6 t0) h0 fun v1 h1 =>
 kLd v1 h1 fun v2 h2 =>
 kNeq v2 (.int .i64 0) h2 fun v3 h3 =>
 p2_21 t0 v3 fun t1 =>
 some (.normal, t1, h3)
def SR16_5 : RegS 2 := fun c t0 h0 =>
 kOf (vLdN 2 (g2_6 t0) h0) fun v1 h1 =>
 kBuild #[.int .i64 0, .int .i64 0, .int .i64 0, .slice none 0 0, .int .i64 0, .slice none 0 0, .int .i64 0, .string ⟨#[]⟩] [(0, 1), (1, 2), (3, 1), (4, 1), (5, 1), (6, 1), (7, 1)] [(1, v1)] h1 fun v2 h2 =>
 kBox v2 h2 fun v3 h3 =>
 fShal v3 fun v4 =>
 p2_4 t0 v4 fun t1 =>
 some (.normal, t1, h3)
def SR16_6 : RegS 2 := fun c t0 h0 =>
 kOf (c 26 [(g2_5 t0), (g2_1 t0)] h0) fun v3 h3 =>
 fShal v3 fun v4 =>
 p2_7 t0 v4 fun t1 =>
 some (.normal, t1, h3)
def SR16_7 : RegS 2 := fun c t0 h0 =>
 kOf (c 27 [(g2_7 t0)] h0) fun v2 h2 =>
 fShal v2 fun v3 =>
 p2_8 t0 v3 fun t1 =>
 some (.normal, t1, h2)
def SR16_8 : RegS 2 := fun c t0 h0 =>
 kOf (c 28 [(g2_7 t0), (g2_8 t0)] h0) fun v3 h3 =>
 fShal v3 fun v4 =>
 p2_4 t0 v4 fun t1 =>
 some (.normal, t1, h3)
def SF16 : CodeS 2 :=
 cSeqS (cRegS (SR16_0)) (cSeqS (cSeqS (cRegS (SR16_1)) (cIfS g2_10 (cSeqS (cRegS (SR16_2)) (cRetS)) (cSkipS))) (cSeqS (cRegS (SR16_3)) (cSeqS (cSeqS (cRegS (SR16_4)) (cIfS g2_21 (cSeqS (cRegS (SR16_5)) (cRetS)) (cSkipS))) (cSeqS (cRegS (SR16_6)) (cSeqS (cRegS (SR16_7)) (cSeqS (cRegS (SR16_8)) (cRetS)))))))
def T16 : FnT := runG en2_2 (SF16) (resQ (qc (rT g2_4) qn))
theorem T16_ok : GoodF Tryz.prog ro0 okF 16 (T16) :=
 (good_k (n := 33) acc2 (lv [0, 1, 4, 5, 6, 7, 8, 10, 21]) (rs := [ResultVar.tmp 4]) Tryz.func16 (by kernel_rfl) (by kernel_rfl) (by kernel_rfl) (by kernel_rfl) (by kernel_rfl) (by kernel_rfl) (by kernel_rfl) (by kernel_rfl) (by kernel_rfl)).enter en2_2_ok (by kernel_rfl)

/-- circheck/circhecksays.counted -/
def SR18_0 : RegS 3 := fun c t0 h0 =>
 fShal (.bool false) fun v1 =>
 p3_4 t0 v1 fun t1 =>
 some (.normal, t1, h0)
def SR18_1 : RegS 3 := fun c t0 h0 =>
 kOf (c 33 [(g3_0 t0), (.int .i64 6)] h0) fun v2 h2 =>
 kAdd (.int .i64 1) v2 h2 fun v3 h3 =>
 fShal v3 fun v4 =>
 p3_5 t0 v4 fun t1 =>
 some (.normal, t1, h3)
def SR18_2 : RegS 3 := fun c t0 h0 =>
 kAny (aShift .shl (.const (.int .i64 1)) (.const (g3_5 t0))) c h0 fun v3 h3 =>
 kOf (c 33 [(g3_1 t0), v3] h3) fun v4 h4 =>
 fShal v4 fun v5 =>
 p3_6 t0 v5 fun t1 =>
 some (.normal, t1, h4)
def SR18_3 : RegS 3 := fun c t0 h0 =>
 kOf (c 34 [(.int .i64 0), (g3_5 t0)] h0) fun v2 h2 =>
 fShal v2 fun v3 =>
 p3_7 t0 v3 fun t1 =>
 some (.normal, t1, h2)
def SR18_4 : RegS 3 := fun c t0 h0 =>
 fShal (.int .i64 1) fun v1 =>
 p3_8 t0 v1 fun t1 =>
 some (.normal, t1, h0)
def SR18_5 : RegS 3 := fun c t0 h0 =>
 fShal (.int .i64 0) fun v1 =>
 p3_9 t0 v1 fun t1 =>
 some (.normal, t1, h0)
def SR18_6 : RegS 3 := fun c t0 h0 =>
 kLss (g3_9 t0) (g3_5 t0) h0 fun v3 h3 =>
 p3_28 t0 v3 fun t1 =>
 some (.normal, t1, h3)
def SR18_8 : RegS 3 := fun c t0 h0 =>
 kOf (c 35 [(g3_7 t0), (g3_9 t0)] h0) fun v3 h3 =>
 fShal v3 fun v4 =>
 p3_10 t0 v4 fun t1 =>
 some (.normal, t1, h3)
def SR18_9 : RegS 3 := fun c t0 h0 =>
 kOf (c 36 [(g3_7 t0), (g3_10 t0), (g3_8 t0)] h0) fun v4 h4 =>
 fShal v4 fun v5 =>
 p3_11 t0 v5 fun t1 =>
 some (.normal, t1, h4)
def SR18_10 : RegS 3 := fun c t0 h0 =>
 kNil (g3_7 t0) h0 fun v2 h2 =>
 kFld 3 v2 h2 fun v3 h3 =>
 kLd v3 h3 fun v4 h4 =>
 kIdx 1 v4 (g3_9 t0) h4 fun v7 h7 =>
 kSt ro0 v7 (g3_11 t0) h7 fun _ h8 =>
 some (.normal, t0, h8)
def SR18_11 : RegS 3 := fun c t0 h0 =>
 kOf (c 37 [(g3_7 t0), (g3_10 t0), (g3_8 t0)] h0) fun v4 h4 =>
 fShal v4 fun v5 =>
 p3_8 t0 v5 fun t1 =>
 some (.normal, t1, h4)
def SR18_7 : RegS 3 := fun c t0 h0 =>
 kAdd (g3_9 t0) (.int .i64 1) h0 fun v2 h2 =>
 fShal v2 fun v3 =>
 p3_9 t0 v3 fun t1 =>
 some (.normal, t1, h2)
def SR18_12 : RegS 3 := fun c t0 h0 =>
 kOf (c 38 [(g3_7 t0), (g3_6 t0)] h0) fun v4 h4 =>
 kNil (g3_7 t0) h4 fun v5 h5 =>
 kFld 5 v5 h5 fun v6 h6 =>
 kSt ro0 v6 v4 h6 fun _ h7 =>
 some (.normal, t0, h7)
def SR18_13 : RegS 3 := fun c t0 h0 =>
 kOf (c 39 [(g3_7 t0)] h0) fun v2 h2 =>
 fShal v2 fun v3 =>
 p3_12 t0 v3 fun t1 =>
 some (.normal, t1, h2)
def SR18_14 : RegS 3 := fun c t0 h0 =>
 kOf (c 40 [(g3_12 t0)] h0) fun v2 h2 =>
 kExt 0 v2 h2 fun v4 h4 =>
 kExt 1 v2 h4 fun v5 h5 =>
 kExt 2 v2 h5 fun v6 h6 =>
 fShal v4 fun v7 =>
 p3_13 t0 v7 fun t1 =>
 fShal v5 fun v8 =>
 p3_14 t1 v8 fun t2 =>
 fShal v6 fun v9 =>
 p3_15 t2 v9 fun t3 =>
 some (.normal, t3, h6)
def SR18_15 : RegS 3 := fun c t0 h0 =>
 kNot (g3_15 t0) h0 fun v2 h2 =>
 kIf v2 false (fun k => k (g3_14 t0) h2) h2 fun v4 h4 =>
 kIf v2 false (fun k => kNeq v4 (.int .i64 0) h4 k) h4 fun v5 h5 =>
 kPick v2 (.bool true) v5 h5 fun v6 h6 =>
 kIf v6 false (fun k => k (g3_13 t0) h6) h6 fun v8 h8 =>
 kIf v6 false (fun k => kLenSl v8 h8 k) h8 fun v9 h9 =>
 kIf v6 false (fun k => kEql v9 (.int .i64 0) h9 k) h9 fun v10 h10 =>
 kPick v6 (.bool true) v10 h10 fun v11 h11 =>
 kIf v11 false (fun k => k (g3_13 t0) h11) h11 fun v13 h13 =>
 kIf v11 false (fun k => kLenSl v13 h13 k) h13 fun v14 h14 =>
 kIf v11 false (fun k => kSub v14 (.int .i64 1) h14 k) h14 fun v15 h15 =>
 kIf v11 false (fun k => k (g3_5 t0) h15) h15 fun v16 h16 =>
 kIf v11 false (fun k => kAny (aShift .shl (.const (.int .i64 1)) (.const v16)) c h16 k) h16 fun v17 h17 =>
 kIf v11 false (fun k => kOf (vInt .rem v15 v17 h17) k) h17 fun v18 h18 =>
 kIf v11 false (fun k => k (g3_6 t0) h18) h18 fun v19 h19 =>
 kIf v11 false (fun k => kNeq v18 v19 h19 k) h19 fun v20 h20 =>
 kPick v11 (.bool true) v20 h20 fun v21 h21 =>
 p3_83 t0 v21 fun t1 =>
 some (.normal, t1, h21)
def SR18_16 : RegS 3 := fun c t0 h0 =>
 fShal (.bool false) fun v1 =>
 p3_4 t0 v1 fun t1 =>
 some (.normal, t1, h0)
def SR18_17 : RegS 3 := fun c t0 h0 =>
 fShal (.int .i64 0) fun v1 =>
 p3_16 t0 v1 fun t1 =>
 some (.normal, t1, h0)
def SR18_18 : RegS 3 := fun c t0 h0 =>
 kLenSl (g3_13 t0) h0 fun v3 h3 =>
 kLss (g3_16 t0) v3 h3 fun v4 h4 =>
 p3_87 t0 v4 fun t1 =>
 some (.normal, t1, h4)
def SR18_20 : RegS 3 := fun c t0 h0 =>
 kIdx 1 (g3_13 t0) (g3_16 t0) h0 fun v3 h3 =>
 kLd v3 h3 fun v4 h4 =>
 kNeq v4 (.int .i64 0) h4 fun v5 h5 =>
 p3_94 t0 v5 fun t1 =>
 some (.normal, t1, h5)
def SR18_21 : RegS 3 := fun c t0 h0 =>
 fShal (.bool false) fun v1 =>
 p3_4 t0 v1 fun t1 =>
 some (.normal, t1, h0)
def SR18_19 : RegS 3 := fun c t0 h0 =>
 kAdd (g3_16 t0) (.int .i64 1) h0 fun v2 h2 =>
 fShal v2 fun v3 =>
 p3_16 t0 v3 fun t1 =>
 some (.normal, t1, h2)
def SR18_22 : RegS 3 := fun c t0 h0 =>
 fShal (.bool true) fun v1 =>
 p3_4 t0 v1 fun t1 =>
 some (.normal, t1, h0)
def SW18_0 : CodeS 3 :=
 cSeqS (cSeqS (cRegS (SR18_6)) (cIfS g3_28 (cSkipS) (cExitS 0))) (cSeqS (cBlkS 1 (cSeqS (cRegS (SR18_8)) (cSeqS (cRegS (SR18_9)) (cSeqS (cRegS (SR18_10)) (cRegS (SR18_11)))))) (cRegS (SR18_7)))
def SW18_1 : CodeS 3 :=
 cSeqS (cSeqS (cRegS (SR18_18)) (cIfS g3_87 (cSkipS) (cExitS 2))) (cSeqS (cBlkS 3 (cSeqS (cRegS (SR18_20)) (cIfS g3_94 (cSeqS (cRegS (SR18_21)) (cRetS)) (cSkipS)))) (cRegS (SR18_19)))
def SF18 : CodeS 3 :=
 cSeqS (cRegS (SR18_0)) (cSeqS (cRegS (SR18_1)) (cSeqS (cRegS (SR18_2)) (cSeqS (cRegS (SR18_3)) (cSeqS (cRegS (SR18_4)) (cSeqS (cSeqS (cRegS (SR18_5)) (cBlkS 0 (cLoopS (SW18_0)))) (cSeqS (cRegS (SR18_12)) (cSeqS (cRegS (SR18_13)) (cSeqS (cRegS (SR18_14)) (cSeqS (cSeqS (cRegS (SR18_15)) (cIfS g3_83 (cSeqS (cRegS (SR18_16)) (cRetS)) (cSkipS))) (cSeqS (cSeqS (cRegS (SR18_17)) (cBlkS 2 (cLoopS (SW18_1)))) (cSeqS (cRegS (SR18_22)) (cRetS))))))))))))
def T18 : FnT := runG en3_2 (SF18) (resQ (qc (rT g3_4) qn))
theorem T18_ok : GoodF Tryz.prog ro0 okF 18 (T18) :=
 (good_k (n := 95) acc3 (lv [0, 1, 4, 5, 6, 7, 8, 9, 10, 11, 12, 13, 14, 15, 16, 28, 83, 87, 94]) (rs := [ResultVar.tmp 4]) Tryz.func18 (by kernel_rfl) (by kernel_rfl) (by kernel_rfl) (by kernel_rfl) (by kernel_rfl) (by kernel_rfl) (by kernel_rfl) (by kernel_rfl) (by kernel_rfl)).enter en3_2_ok (by kernel_rfl)

/-- circheck/circhecksays.even -/
def SR19_0 : RegS 2 := fun c t0 h0 =>
 fShal (.bool false) fun v1 =>
 p2_4 t0 v1 fun t1 =>
 some (.normal, t1, h0)
def SR19_1 : RegS 2 := fun c t0 h0 =>
 kOf (c 33 [(g2_0 t0), (.int .i64 5)] h0) fun v2 h2 =>
 kAdd (.int .i64 2) v2 h2 fun v3 h3 =>
 fShal v3 fun v4 =>
 p2_5 t0 v4 fun t1 =>
 some (.normal, t1, h3)
def SR19_2 : RegS 2 := fun c t0 h0 =>
 kAny (aShift .shl (.const (.int .i64 1)) (.const (g2_5 t0))) c h0 fun v3 h3 =>
 kOf (c 33 [(g2_1 t0), v3] h3) fun v4 h4 =>
 kOf (vInt .or v4 (.int .i64 1) h4) fun v5 h5 =>
 fShal v5 fun v6 =>
 p2_6 t0 v6 fun t1 =>
 some (.normal, t1, h5)
def SR19_3 : RegS 2 := fun c t0 h0 =>
 kOf (c 34 [(.int .i64 0), (g2_5 t0)] h0) fun v2 h2 =>
 fShal v2 fun v3 =>
 p2_7 t0 v3 fun t1 =>
 some (.normal, t1, h2)
def SR19_4 : RegS 2 := fun c t0 h0 =>
 fShal (.int .i64 1) fun v1 =>
 p2_8 t0 v1 fun t1 =>
 some (.normal, t1, h0)
def SR19_5 : RegS 2 := fun c t0 h0 =>
 kNil (g2_7 t0) h0 fun v2 h2 =>
 kFld 3 v2 h2 fun v3 h3 =>
 kLd v3 h3 fun v4 h4 =>
 kOf (c 35 [(g2_7 t0), (.int .i64 0)] h4) fun v6 h6 =>
 kIdx 1 v4 (.int .i64 0) h6 fun v7 h7 =>
 kSt ro0 v7 v6 h7 fun _ h8 =>
 some (.normal, t0, h8)
def SR19_6 : RegS 2 := fun c t0 h0 =>
 fShal (.int .i64 1) fun v1 =>
 p2_9 t0 v1 fun t1 =>
 some (.normal, t1, h0)
def SR19_7 : RegS 2 := fun c t0 h0 =>
 kLss (g2_9 t0) (g2_5 t0) h0 fun v3 h3 =>
 p2_32 t0 v3 fun t1 =>
 some (.normal, t1, h3)
def SR19_9 : RegS 2 := fun c t0 h0 =>
 kOf (c 35 [(g2_7 t0), (g2_9 t0)] h0) fun v3 h3 =>
 fShal v3 fun v4 =>
 p2_10 t0 v4 fun t1 =>
 some (.normal, t1, h3)
def SR19_10 : RegS 2 := fun c t0 h0 =>
 kOf (c 36 [(g2_7 t0), (g2_10 t0), (g2_8 t0)] h0) fun v4 h4 =>
 fShal v4 fun v5 =>
 p2_11 t0 v5 fun t1 =>
 some (.normal, t1, h4)
def SR19_11 : RegS 2 := fun c t0 h0 =>
 kNil (g2_7 t0) h0 fun v2 h2 =>
 kFld 3 v2 h2 fun v3 h3 =>
 kLd v3 h3 fun v4 h4 =>
 kIdx 1 v4 (g2_9 t0) h4 fun v7 h7 =>
 kSt ro0 v7 (g2_11 t0) h7 fun _ h8 =>
 some (.normal, t0, h8)
def SR19_12 : RegS 2 := fun c t0 h0 =>
 kOf (c 37 [(g2_7 t0), (g2_10 t0), (g2_8 t0)] h0) fun v4 h4 =>
 fShal v4 fun v5 =>
 p2_8 t0 v5 fun t1 =>
 some (.normal, t1, h4)
def SR19_8 : RegS 2 := fun c t0 h0 =>
 kAdd (g2_9 t0) (.int .i64 1) h0 fun v2 h2 =>
 fShal v2 fun v3 =>
 p2_9 t0 v3 fun t1 =>
 some (.normal, t1, h2)
def SR19_13 : RegS 2 := fun c t0 h0 =>
 kOf (c 38 [(g2_7 t0), (g2_6 t0)] h0) fun v4 h4 =>
 kNil (g2_7 t0) h4 fun v5 h5 =>
 kFld 5 v5 h5 fun v6 h6 =>
 kSt ro0 v6 v4 h6 fun _ h7 =>
 some (.normal, t0, h7)
def SR19_14 : RegS 2 := fun c t0 h0 =>
 kOf (c 39 [(g2_7 t0)] h0) fun v2 h2 =>
 fShal v2 fun v3 =>
 p2_12 t0 v3 fun t1 =>
 some (.normal, t1, h2)
def SR19_15 : RegS 2 := fun c t0 h0 =>
 kOf (c 41 [(g2_12 t0)] h0) fun v2 h2 =>
 fShal v2 fun v3 =>
 p2_4 t0 v3 fun t1 =>
 some (.normal, t1, h2)
def SW19_0 : CodeS 2 :=
 cSeqS (cSeqS (cRegS (SR19_7)) (cIfS g2_32 (cSkipS) (cExitS 0))) (cSeqS (cBlkS 1 (cSeqS (cRegS (SR19_9)) (cSeqS (cRegS (SR19_10)) (cSeqS (cRegS (SR19_11)) (cRegS (SR19_12)))))) (cRegS (SR19_8)))
def SF19 : CodeS 2 :=
 cSeqS (cRegS (SR19_0)) (cSeqS (cRegS (SR19_1)) (cSeqS (cRegS (SR19_2)) (cSeqS (cRegS (SR19_3)) (cSeqS (cRegS (SR19_4)) (cSeqS (cRegS (SR19_5)) (cSeqS (cSeqS (cRegS (SR19_6)) (cBlkS 0 (cLoopS (SW19_0)))) (cSeqS (cRegS (SR19_13)) (cSeqS (cRegS (SR19_14)) (cSeqS (cRegS (SR19_15)) (cRetS))))))))))
def T19 : FnT := runG en2_2 (SF19) (resQ (qc (rT g2_4) qn))
theorem T19_ok : GoodF Tryz.prog ro0 okF 19 (T19) :=
 (good_k (n := 63) acc2 (lv [0, 1, 4, 5, 6, 7, 8, 9, 10, 11, 12, 32]) (rs := [ResultVar.tmp 4]) Tryz.func19 (by kernel_rfl) (by kernel_rfl) (by kernel_rfl) (by kernel_rfl) (by kernel_rfl) (by kernel_rfl) (by kernel_rfl) (by kernel_rfl) (by kernel_rfl)).enter en2_2_ok (by kernel_rfl)

/-- circheck/circhecksays.shifted -/
def SR20_0 : RegS 3 := fun c t0 h0 =>
 fShal (.bool false) fun v1 =>
 p3_2 t0 v1 fun t1 =>
 some (.normal, t1, h0)
def SR20_1 : RegS 3 := fun c t0 h0 =>
 kOf (c 33 [(g3_0 t0), (.int .i64 6)] h0) fun v2 h2 =>
 kAdd (.int .i64 1) v2 h2 fun v3 h3 =>
 fShal v3 fun v4 =>
 p3_3 t0 v4 fun t1 =>
 some (.normal, t1, h3)
def SR20_2 : RegS 3 := fun c t0 h0 =>
 kOf (c 34 [(.int .i64 1), (g3_3 t0)] h0) fun v2 h2 =>
 fShal v2 fun v3 =>
 p3_4 t0 v3 fun t1 =>
 some (.normal, t1, h2)
def SR20_3 : RegS 3 := fun c t0 h0 =>
 kOf (c 42 [(g3_4 t0), (.int .i64 0)] h0) fun v2 h2 =>
 fShal v2 fun v3 =>
 p3_5 t0 v3 fun t1 =>
 some (.normal, t1, h2)
def SR20_4 : RegS 3 := fun c t0 h0 =>
 fShal (.int .i64 0) fun v1 =>
 p3_6 t0 v1 fun t1 =>
 some (.normal, t1, h0)
def SR20_5 : RegS 3 := fun c t0 h0 =>
 kLss (g3_6 t0) (g3_3 t0) h0 fun v3 h3 =>
 p3_20 t0 v3 fun t1 =>
 some (.normal, t1, h3)
def SR20_7 : RegS 3 := fun c t0 h0 =>
 kNil (g3_4 t0) h0 fun v2 h2 =>
 kFld 3 v2 h2 fun v3 h3 =>
 kLd v3 h3 fun v4 h4 =>
 kIdx 1 v4 (g3_6 t0) h4 fun v7 h7 =>
 kSt ro0 v7 (g3_5 t0) h7 fun _ h8 =>
 some (.normal, t0, h8)
def SR20_8 : RegS 3 := fun c t0 h0 =>
 kOf (c 35 [(g3_4 t0), (g3_6 t0)] h0) fun v3 h3 =>
 fShal v3 fun v4 =>
 p3_5 t0 v4 fun t1 =>
 some (.normal, t1, h3)
def SR20_6 : RegS 3 := fun c t0 h0 =>
 kAdd (g3_6 t0) (.int .i64 1) h0 fun v2 h2 =>
 fShal v2 fun v3 =>
 p3_6 t0 v3 fun t1 =>
 some (.normal, t1, h2)
def SR20_9 : RegS 3 := fun c t0 h0 =>
 kNil (g3_4 t0) h0 fun v3 h3 =>
 kFld 5 v3 h3 fun v4 h4 =>
 kSt ro0 v4 (g3_5 t0) h4 fun _ h5 =>
 some (.normal, t0, h5)
def SR20_10 : RegS 3 := fun c t0 h0 =>
 kOf (c 39 [(g3_4 t0)] h0) fun v2 h2 =>
 fShal v2 fun v3 =>
 p3_7 t0 v3 fun t1 =>
 some (.normal, t1, h2)
def SR20_11 : RegS 3 := fun c t0 h0 =>
 kOf (c 40 [(g3_7 t0)] h0) fun v2 h2 =>
 kExt 0 v2 h2 fun v4 h4 =>
 kExt 1 v2 h4 fun v5 h5 =>
 kExt 2 v2 h5 fun v6 h6 =>
 fShal v4 fun v7 =>
 p3_8 t0 v7 fun t1 =>
 fShal v5 fun v8 =>
 p3_9 t1 v8 fun t2 =>
 fShal v6 fun v9 =>
 p3_10 t2 v9 fun t3 =>
 some (.normal, t3, h6)
def SR20_12 : RegS 3 := fun c t0 h0 =>
 kNot (g3_10 t0) h0 fun v2 h2 =>
 kIf v2 false (fun k => k (g3_9 t0) h2) h2 fun v4 h4 =>
 kIf v2 false (fun k => kNeq v4 (.int .i64 0) h4 k) h4 fun v5 h5 =>
 kPick v2 (.bool true) v5 h5 fun v6 h6 =>
 kIf v6 false (fun k => k (g3_8 t0) h6) h6 fun v8 h8 =>
 kIf v6 false (fun k => kLenSl v8 h8 k) h8 fun v9 h9 =>
 kIf v6 false (fun k => k (g3_3 t0) h9) h9 fun v10 h10 =>
 kIf v6 false (fun k => kLeq v9 v10 h10 k) h10 fun v11 h11 =>
 kPick v6 (.bool true) v11 h11 fun v12 h12 =>
 p3_56 t0 v12 fun t1 =>
 some (.normal, t1, h12)
def SR20_13 : RegS 3 := fun c t0 h0 =>
 fShal (.bool false) fun v1 =>
 p3_2 t0 v1 fun t1 =>
 some (.normal, t1, h0)
def SR20_14 : RegS 3 := fun c t0 h0 =>
 kLenSl (g3_8 t0) h0 fun v3 h3 =>
 kSub v3 (.int .i64 1) h3 fun v4 h4 =>
 kSub v4 (g3_3 t0) h4 fun v6 h6 =>
 kIdx 1 (g3_8 t0) v6 h6 fun v7 h7 =>
 kLd v7 h7 fun v8 h8 =>
 kOf (vInt .and v8 (.int .i64 1) h8) fun v9 h9 =>
 kEql v9 (.int .i64 1) h9 fun v10 h10 =>
 fShal v10 fun v11 =>
 p3_2 t0 v11 fun t1 =>
 some (.normal, t1, h10)
def SW20_0 : CodeS 3 :=
 cSeqS (cSeqS (cRegS (SR20_5)) (cIfS g3_20 (cSkipS) (cExitS 0))) (cSeqS (cBlkS 1 (cSeqS (cRegS (SR20_7)) (cRegS (SR20_8)))) (cRegS (SR20_6)))
def SF20 : CodeS 3 :=
 cSeqS (cRegS (SR20_0)) (cSeqS (cRegS (SR20_1)) (cSeqS (cRegS (SR20_2)) (cSeqS (cRegS (SR20_3)) (cSeqS (cSeqS (cRegS (SR20_4)) (cBlkS 0 (cLoopS (SW20_0)))) (cSeqS (cRegS (SR20_9)) (cSeqS (cRegS (SR20_10)) (cSeqS (cRegS (SR20_11)) (cSeqS (cSeqS (cRegS (SR20_12)) (cIfS g3_56 (cSeqS (cRegS (SR20_13)) (cRetS)) (cSkipS))) (cSeqS (cRegS (SR20_14)) (cRetS))))))))))
def T20 : FnT := runG en3_1 (SF20) (resQ (qc (rT g3_2) qn))
theorem T20_ok : GoodF Tryz.prog ro0 okF 20 (T20) :=
 (good_k (n := 67) acc3 (lv [0, 2, 3, 4, 5, 6, 7, 8, 9, 10, 20, 56]) (rs := [ResultVar.tmp 2]) Tryz.func20 (by kernel_rfl) (by kernel_rfl) (by kernel_rfl) (by kernel_rfl) (by kernel_rfl) (by kernel_rfl) (by kernel_rfl) (by kernel_rfl) (by kernel_rfl)).enter en3_1_ok (by kernel_rfl)

/-- circheck/circhecksays.locked -/
def SR21_0 : RegS 3 := fun c t0 h0 =>
 fShal (.bool false) fun v1 =>
 p3_4 t0 v1 fun t1 =>
 some (.normal, t1, h0)
def SR21_1 : RegS 3 := fun c t0 h0 =>
 kOf (c 33 [(g3_0 t0), (.int .i64 6)] h0) fun v2 h2 =>
 kAdd (.int .i64 1) v2 h2 fun v3 h3 =>
 fShal v3 fun v4 =>
 p3_5 t0 v4 fun t1 =>
 some (.normal, t1, h3)
def SR21_2 : RegS 3 := fun c t0 h0 =>
 kOf (c 34 [(.int .i64 1), (g3_5 t0)] h0) fun v2 h2 =>
 fShal v2 fun v3 =>
 p3_6 t0 v3 fun t1 =>
 some (.normal, t1, h2)
def SR21_3 : RegS 3 := fun c t0 h0 =>
 fShal (.int .i64 1) fun v1 =>
 p3_7 t0 v1 fun t1 =>
 some (.normal, t1, h0)
def SR21_4 : RegS 3 := fun c t0 h0 =>
 fShal (.int .i64 0) fun v1 =>
 p3_8 t0 v1 fun t1 =>
 some (.normal, t1, h0)
def SR21_5 : RegS 3 := fun c t0 h0 =>
 kLss (g3_8 t0) (g3_5 t0) h0 fun v3 h3 =>
 p3_23 t0 v3 fun t1 =>
 some (.normal, t1, h3)
def SR21_7 : RegS 3 := fun c t0 h0 =>
 kOf (c 42 [(g3_6 t0), (.int .i64 0)] h0) fun v2 h2 =>
 fShal v2 fun v3 =>
 p3_9 t0 v3 fun t1 =>
 some (.normal, t1, h2)
def SR21_8 : RegS 3 := fun c t0 h0 =>
 kOf (vInt .xor (g3_9 t0) (.int .i64 1) h0) fun v4 h4 =>
 kAny (aShift .shr (.const (g3_1 t0)) (.const (g3_8 t0))) c h4 fun v7 h7 =>
 kOf (vInt .and v7 (.int .i64 1) h7) fun v8 h8 =>
 kOf (vInt .xor v4 v8 h8) fun v9 h9 =>
 kOf (c 37 [(g3_6 t0), (g3_7 t0), v9] h9) fun v10 h10 =>
 fShal v10 fun v11 =>
 p3_10 t0 v11 fun t1 =>
 some (.normal, t1, h10)
def SR21_9 : RegS 3 := fun c t0 h0 =>
 kNil (g3_6 t0) h0 fun v2 h2 =>
 kFld 3 v2 h2 fun v3 h3 =>
 kLd v3 h3 fun v4 h4 =>
 kIdx 1 v4 (g3_8 t0) h4 fun v7 h7 =>
 kSt ro0 v7 (g3_10 t0) h7 fun _ h8 =>
 some (.normal, t0, h8)
def SR21_10 : RegS 3 := fun c t0 h0 =>
 kOf (c 35 [(g3_6 t0), (g3_8 t0)] h0) fun v3 h3 =>
 fShal v3 fun v4 =>
 p3_7 t0 v4 fun t1 =>
 some (.normal, t1, h3)
def SR21_6 : RegS 3 := fun c t0 h0 =>
 kAdd (g3_8 t0) (.int .i64 1) h0 fun v2 h2 =>
 fShal v2 fun v3 =>
 p3_8 t0 v3 fun t1 =>
 some (.normal, t1, h2)
def SR21_11 : RegS 3 := fun c t0 h0 =>
 kNil (g3_6 t0) h0 fun v3 h3 =>
 kFld 5 v3 h3 fun v4 h4 =>
 kSt ro0 v4 (g3_7 t0) h4 fun _ h5 =>
 some (.normal, t0, h5)
def SR21_12 : RegS 3 := fun c t0 h0 =>
 kOf (c 39 [(g3_6 t0)] h0) fun v2 h2 =>
 fShal v2 fun v3 =>
 p3_11 t0 v3 fun t1 =>
 some (.normal, t1, h2)
def SR21_13 : RegS 3 := fun c t0 h0 =>
 kOf (c 40 [(g3_11 t0)] h0) fun v2 h2 =>
 kExt 0 v2 h2 fun v4 h4 =>
 kExt 1 v2 h4 fun v5 h5 =>
 kExt 2 v2 h5 fun v6 h6 =>
 fShal v4 fun v7 =>
 p3_12 t0 v7 fun t1 =>
 fShal v5 fun v8 =>
 p3_13 t1 v8 fun t2 =>
 fShal v6 fun v9 =>
 p3_14 t2 v9 fun t3 =>
 some (.normal, t3, h6)
def SR21_14 : RegS 3 := fun c t0 h0 =>
 kNot (g3_14 t0) h0 fun v2 h2 =>
 kIf v2 false (fun k => k (g3_13 t0) h2) h2 fun v4 h4 =>
 kIf v2 false (fun k => kNeq v4 (.int .i64 0) h4 k) h4 fun v5 h5 =>
 kPick v2 (.bool true) v5 h5 fun v6 h6 =>
 kIf v6 false (fun k => k (g3_12 t0) h6) h6 fun v8 h8 =>
 kIf v6 false (fun k => kLenSl v8 h8 k) h8 fun v9 h9 =>
 kIf v6 false (fun k => k (g3_5 t0) h9) h9 fun v10 h10 =>
 kIf v6 false (fun k => kLeq v9 v10 h10 k) h10 fun v11 h11 =>
 kPick v6 (.bool true) v11 h11 fun v12 h12 =>
 p3_71 t0 v12 fun t1 =>
 some (.normal, t1, h12)
def SR21_15 : RegS 3 := fun c t0 h0 =>
 fShal (.bool false) fun v1 =>
 p3_4 t0 v1 fun t1 =>
 some (.normal, t1, h0)
def SR21_16 : RegS 3 := fun c t0 h0 =>
 fShal (.int .i64 0) fun v1 =>
 p3_15 t0 v1 fun t1 =>
 some (.normal, t1, h0)
def SR21_17 : RegS 3 := fun c t0 h0 =>
 kLss (g3_15 t0) (g3_5 t0) h0 fun v3 h3 =>
 p3_74 t0 v3 fun t1 =>
 some (.normal, t1, h3)
def SR21_19 : RegS 3 := fun c t0 h0 =>
 kLenSl (g3_12 t0) h0 fun v3 h3 =>
 kSub v3 (.int .i64 1) h3 fun v4 h4 =>
 kSub v4 (g3_5 t0) h4 fun v6 h6 =>
 kAdd v6 (g3_15 t0) h6 fun v8 h8 =>
 kIdx 1 (g3_12 t0) v8 h8 fun v9 h9 =>
 kLd v9 h9 fun v10 h10 =>
 kOf (vInt .and v10 (.int .i64 1) h10) fun v11 h11 =>
 kAny (aShift .shr (.const (g3_1 t0)) (.const (g3_15 t0))) c h11 fun v14 h14 =>
 kOf (vInt .and v14 (.int .i64 1) h14) fun v15 h15 =>
 kNeq v11 v15 h15 fun v16 h16 =>
 p3_92 t0 v16 fun t1 =>
 some (.normal, t1, h16)
def SR21_20 : RegS 3 := fun c t0 h0 =>
 fShal (.bool false) fun v1 =>
 p3_4 t0 v1 fun t1 =>
 some (.normal, t1, h0)
def SR21_18 : RegS 3 := fun c t0 h0 =>
 kAdd (g3_15 t0) (.int .i64 1) h0 fun v2 h2 =>
 fShal v2 fun v3 =>
 p3_15 t0 v3 fun t1 =>
 some (.normal, t1, h2)
def SR21_21 : RegS 3 := fun c t0 h0 =>
 fShal (.bool true) fun v1 =>
 p3_4 t0 v1 fun t1 =>
 some (.normal, t1, h0)
def SW21_0 : CodeS 3 :=
 cSeqS (cSeqS (cRegS (SR21_5)) (cIfS g3_23 (cSkipS) (cExitS 0))) (cSeqS (cBlkS 1 (cSeqS (cRegS (SR21_7)) (cSeqS (cRegS (SR21_8)) (cSeqS (cRegS (SR21_9)) (cRegS (SR21_10)))))) (cRegS (SR21_6)))
def SW21_1 : CodeS 3 :=
 cSeqS (cSeqS (cRegS (SR21_17)) (cIfS g3_74 (cSkipS) (cExitS 2))) (cSeqS (cBlkS 3 (cSeqS (cRegS (SR21_19)) (cIfS g3_92 (cSeqS (cRegS (SR21_20)) (cRetS)) (cSkipS)))) (cRegS (SR21_18)))
def SF21 : CodeS 3 :=
 cSeqS (cRegS (SR21_0)) (cSeqS (cRegS (SR21_1)) (cSeqS (cRegS (SR21_2)) (cSeqS (cRegS (SR21_3)) (cSeqS (cSeqS (cRegS (SR21_4)) (cBlkS 0 (cLoopS (SW21_0)))) (cSeqS (cRegS (SR21_11)) (cSeqS (cRegS (SR21_12)) (cSeqS (cRegS (SR21_13)) (cSeqS (cSeqS (cRegS (SR21_14)) (cIfS g3_71 (cSeqS (cRegS (SR21_15)) (cRetS)) (cSkipS))) (cSeqS (cSeqS (cRegS (SR21_16)) (cBlkS 2 (cLoopS (SW21_1)))) (cSeqS (cRegS (SR21_21)) (cRetS)))))))))))
def T21 : FnT := runG en3_2 (SF21) (resQ (qc (rT g3_4) qn))
theorem T21_ok : GoodF Tryz.prog ro0 okF 21 (T21) :=
 (good_k (n := 93) acc3 (lv [0, 1, 4, 5, 6, 7, 8, 9, 10, 11, 12, 13, 14, 15, 23, 71, 74, 92]) (rs := [ResultVar.tmp 4]) Tryz.func21 (by kernel_rfl) (by kernel_rfl) (by kernel_rfl) (by kernel_rfl) (by kernel_rfl) (by kernel_rfl) (by kernel_rfl) (by kernel_rfl) (by kernel_rfl)).enter en3_2_ok (by kernel_rfl)

/-- circheck/circhecksays.ringed -/
def SR22_0 : RegS 3 := fun c t0 h0 =>
 fShal (.bool false) fun v1 =>
 p3_6 t0 v1 fun t1 =>
 some (.normal, t1, h0)
def SR22_1 : RegS 3 := fun c t0 h0 =>
 kOf (c 33 [(g3_0 t0), (.int .i64 5)] h0) fun v2 h2 =>
 kAdd (.int .i64 2) v2 h2 fun v3 h3 =>
 fShal v3 fun v4 =>
 p3_7 t0 v4 fun t1 =>
 some (.normal, t1, h3)
def SR22_2 : RegS 3 := fun c t0 h0 =>
 kOf (c 33 [(g3_1 t0), (g3_7 t0)] h0) fun v3 h3 =>
 fShal v3 fun v4 =>
 p3_8 t0 v4 fun t1 =>
 some (.normal, t1, h3)
def SR22_3 : RegS 3 := fun c t0 h0 =>
 kOf (c 33 [(g3_2 t0), (g3_7 t0)] h0) fun v3 h3 =>
 fShal v3 fun v4 =>
 p3_9 t0 v4 fun t1 =>
 some (.normal, t1, h3)
def SR22_4 : RegS 3 := fun c t0 h0 =>
 kOf (c 34 [(.int .i64 0), (g3_7 t0)] h0) fun v2 h2 =>
 fShal v2 fun v3 =>
 p3_10 t0 v3 fun t1 =>
 some (.normal, t1, h2)
def SR22_5 : RegS 3 := fun c t0 h0 =>
 fShal (.int .i64 0) fun v1 =>
 p3_11 t0 v1 fun t1 =>
 some (.normal, t1, h0)
def SR22_6 : RegS 3 := fun c t0 h0 =>
 kLss (g3_11 t0) (g3_7 t0) h0 fun v3 h3 =>
 p3_31 t0 v3 fun t1 =>
 some (.normal, t1, h3)
def SR22_8 : RegS 3 := fun c t0 h0 =>
 kNil (g3_10 t0) h0 fun v2 h2 =>
 kFld 3 v2 h2 fun v3 h3 =>
 kLd v3 h3 fun v4 h4 =>
 kAdd (g3_11 t0) (.int .i64 1) h4 fun v8 h8 =>
 kOf (vInt .rem v8 (g3_7 t0) h8) fun v10 h10 =>
 kOf (c 35 [(g3_10 t0), v10] h10) fun v11 h11 =>
 kIdx 1 v4 (g3_11 t0) h11 fun v12 h12 =>
 kSt ro0 v12 v11 h12 fun _ h13 =>
 some (.normal, t0, h13)
def SR22_7 : RegS 3 := fun c t0 h0 =>
 kAdd (g3_11 t0) (.int .i64 1) h0 fun v2 h2 =>
 fShal v2 fun v3 =>
 p3_11 t0 v3 fun t1 =>
 some (.normal, t1, h2)
def SR22_9 : RegS 3 := fun c t0 h0 =>
 kNil (g3_10 t0) h0 fun v2 h2 =>
 kFld 4 v2 h2 fun v3 h3 =>
 kLd v3 h3 fun v4 h4 =>
 kIdx 1 v4 (.int .i64 0) h4 fun v5 h5 =>
 kSt ro0 v5 (.int .i64 1) h5 fun _ h6 =>
 some (.normal, t0, h6)
def SR22_10 : RegS 3 := fun c t0 h0 =>
 kOf (c 35 [(g3_10 t0), (g3_8 t0)] h0) fun v3 h3 =>
 fShal v3 fun v4 =>
 p3_12 t0 v4 fun t1 =>
 some (.normal, t1, h3)
def SR22_11 : RegS 3 := fun c t0 h0 =>
 kOf (c 35 [(g3_10 t0), (g3_9 t0)] h0) fun v3 h3 =>
 fShal v3 fun v4 =>
 p3_13 t0 v4 fun t1 =>
 some (.normal, t1, h3)
def SR22_12 : RegS 3 := fun c t0 h0 =>
 kOf (c 37 [(g3_10 t0), (g3_12 t0), (g3_13 t0)] h0) fun v5 h5 =>
 kNil (g3_10 t0) h5 fun v6 h6 =>
 kFld 5 v6 h6 fun v7 h7 =>
 kSt ro0 v7 v5 h7 fun _ h8 =>
 some (.normal, t0, h8)
def SR22_13 : RegS 3 := fun c t0 h0 =>
 kOf (c 39 [(g3_10 t0)] h0) fun v2 h2 =>
 fShal v2 fun v3 =>
 p3_14 t0 v3 fun t1 =>
 some (.normal, t1, h2)
def SR22_14 : RegS 3 := fun c t0 h0 =>
 kNeq (g3_8 t0) (g3_9 t0) h0 fun v3 h3 =>
 p3_68 t0 v3 fun t1 =>
 some (.normal, t1, h3)
def SR22_15 : RegS 3 := fun c t0 h0 =>
 kOf (c 41 [(g3_14 t0)] h0) fun v2 h2 =>
 fShal v2 fun v3 =>
 p3_6 t0 v3 fun t1 =>
 some (.normal, t1, h2)
def SR22_16 : RegS 3 := fun c t0 h0 =>
 kOf (c 40 [(g3_14 t0)] h0) fun v2 h2 =>
 kExt 0 v2 h2 fun v4 h4 =>
 kExt 1 v2 h4 fun v5 h5 =>
 kExt 2 v2 h5 fun v6 h6 =>
 fShal v4 fun v7 =>
 p3_15 t0 v7 fun t1 =>
 fShal v5 fun v8 =>
 p3_16 t1 v8 fun t2 =>
 fShal v6 fun v9 =>
 p3_17 t2 v9 fun t3 =>
 some (.normal, t3, h6)
def SR22_17 : RegS 3 := fun c t0 h0 =>
 kIf (g3_17 t0) true (fun k => k (g3_16 t0) h0) h0 fun v3 h3 =>
 kIf (g3_17 t0) true (fun k => kEql v3 (.int .i64 1) h3 k) h3 fun v4 h4 =>
 kPick (g3_17 t0) v4 (.bool false) h4 fun v5 h5 =>
 kIf v5 true (fun k => k (g3_15 t0) h5) h5 fun v7 h7 =>
 kIf v5 true (fun k => kLenSl v7 h7 k) h7 fun v8 h8 =>
 kIf v5 true (fun k => kGtr v8 (.int .i64 0) h8 k) h8 fun v9 h9 =>
 kPick v5 v9 (.bool false) h9 fun v10 h10 =>
 kIf v10 true (fun k => k (g3_15 t0) h10) h10 fun v12 h12 =>
 kIf v10 true (fun k => kLenSl v12 h12 k) h12 fun v13 h13 =>
 kIf v10 true (fun k => kSub v13 (.int .i64 1) h13 k) h13 fun v14 h14 =>
 kIf v10 true (fun k => k (g3_7 t0) h14) h14 fun v15 h15 =>
 kIf v10 true (fun k => kOf (vInt .rem v14 v15 h15) k) h15 fun v16 h16 =>
 kIf v10 true (fun k => k (g3_7 t0) h16) h16 fun v17 h17 =>
 kIf v10 true (fun k => k (g3_8 t0) h17) h17 fun v18 h18 =>
 kIf v10 true (fun k => kSub v17 v18 h18 k) h18 fun v19 h19 =>
 kIf v10 true (fun k => k (g3_7 t0) h19) h19 fun v20 h20 =>
 kIf v10 true (fun k => kOf (vInt .rem v19 v20 h20) k) h20 fun v21 h21 =>
 kIf v10 true (fun k => kEql v16 v21 h21 k) h21 fun v22 h22 =>
 kPick v10 v22 (.bool false) h22 fun v23 h23 =>
 fShal v23 fun v24 =>
 p3_6 t0 v24 fun t1 =>
 some (.normal, t1, h23)
def SW22_0 : CodeS 3 :=
 cSeqS (cSeqS (cRegS (SR22_6)) (cIfS g3_31 (cSkipS) (cExitS 0))) (cSeqS (cBlkS 1 (cRegS (SR22_8))) (cRegS (SR22_7)))
def SF22 : CodeS 3 :=
 cSeqS (cRegS (SR22_0)) (cSeqS (cRegS (SR22_1)) (cSeqS (cRegS (SR22_2)) (cSeqS (cRegS (SR22_3)) (cSeqS (cRegS (SR22_4)) (cSeqS (cSeqS (cRegS (SR22_5)) (cBlkS 0 (cLoopS (SW22_0)))) (cSeqS (cRegS (SR22_9)) (cSeqS (cRegS (SR22_10)) (cSeqS (cRegS (SR22_11)) (cSeqS (cRegS (SR22_12)) (cSeqS (cRegS (SR22_13)) (cSeqS (cSeqS (cRegS (SR22_14)) (cIfS g3_68 (cSeqS (cRegS (SR22_15)) (cRetS)) (cSkipS))) (cSeqS (cRegS (SR22_16)) (cSeqS (cRegS (SR22_17)) (cRetS))))))))))))))
def T22 : FnT := runG en3_3 (SF22) (resQ (qc (rT g3_6) qn))
theorem T22_ok : GoodF Tryz.prog ro0 okF 22 (T22) :=
 (good_k (n := 100) acc3 (lv [0, 1, 2, 6, 7, 8, 9, 10, 11, 12, 13, 14, 15, 16, 17, 31, 68]) (rs := [ResultVar.tmp 6]) Tryz.func22 (by kernel_rfl) (by kernel_rfl) (by kernel_rfl) (by kernel_rfl) (by kernel_rfl) (by kernel_rfl) (by kernel_rfl) (by kernel_rfl) (by kernel_rfl)).enter en3_3_ok (by kernel_rfl)

/-- circheck/circhecksays.free -/
def SR23_0 (P : Program) : RegS 3 := fun c t0 h0 =>
 fShal (.bool false) fun v1 =>
 p3_6 t0 v1 fun t1 =>
 some (.normal, t1, h0)
def SR23_1 (P : Program) : RegS 3 := fun c t0 h0 =>
 kOf (c 33 [(g3_0 t0), (.int .i64 6)] h0) fun v2 h2 =>
 kAdd (.int .i64 1) v2 h2 fun v3 h3 =>
 fShal v3 fun v4 =>
 p3_7 t0 v4 fun t1 =>
 some (.normal, t1, h3)
def SR23_2 (P : Program) : RegS 3 := fun c t0 h0 =>
 kAny (aShift .shl (.const (.int .i64 1)) (.const (g3_7 t0))) c h0 fun v3 h3 =>
 kSub v3 (.int .i64 1) h3 fun v4 h4 =>
 kOf (vInt .and (g3_1 t0) v4 h4) fun v5 h5 =>
 fShal v5 fun v6 =>
 p3_8 t0 v6 fun t1 =>
 some (.normal, t1, h5)
def SR23_3 (P : Program) : RegS 3 := fun c t0 h0 =>
 kOf (c 34 [(.int .i64 0), (g3_7 t0)] h0) fun v2 h2 =>
 fShal v2 fun v3 =>
 p3_9 t0 v3 fun t1 =>
 some (.normal, t1, h2)
def SR23_4 (P : Program) : RegS 3 := fun c t0 h0 =>
 fShal (.int .i64 0) fun v1 =>
 p3_10 t0 v1 fun t1 =>
 some (.normal, t1, h0)
def SR23_5 (P : Program) : RegS 3 := fun c t0 h0 =>
 kLss (g3_10 t0) (g3_7 t0) h0 fun v3 h3 =>
 p3_29 t0 v3 fun t1 =>
 some (.normal, t1, h3)
def SR23_7 (P : Program) : RegS 3 := fun c t0 h0 =>
 kNil (g3_9 t0) h0 fun v2 h2 =>
 kFld 3 v2 h2 fun v3 h3 =>
 kLd v3 h3 fun v4 h4 =>
 kOf (c 35 [(g3_9 t0), (g3_10 t0)] h4) fun v8 h8 =>
 kIdx 1 v4 (g3_10 t0) h8 fun v9 h9 =>
 kSt ro0 v9 v8 h9 fun _ h10 =>
 some (.normal, t0, h10)
def SR23_8 (P : Program) : RegS 3 := fun c t0 h0 =>
 kNil (g3_9 t0) h0 fun v2 h2 =>
 kFld 4 v2 h2 fun v3 h3 =>
 kLd v3 h3 fun v4 h4 =>
 kAny (aShift .shr (.const (g3_8 t0)) (.const (g3_10 t0))) c h4 fun v8 h8 =>
 kOf (vInt .and v8 (.int .i64 1) h8) fun v9 h9 =>
 kIdx 1 v4 (g3_10 t0) h9 fun v10 h10 =>
 kSt ro0 v10 v9 h10 fun _ h11 =>
 some (.normal, t0, h11)
def SR23_6 (P : Program) : RegS 3 := fun c t0 h0 =>
 kAdd (g3_10 t0) (.int .i64 1) h0 fun v2 h2 =>
 fShal v2 fun v3 =>
 p3_10 t0 v3 fun t1 =>
 some (.normal, t1, h2)
def SR23_9 (P : Program) : RegS 3 := fun c t0 h0 =>
 kOf (c 38 [(g3_9 t0), (g3_8 t0)] h0) fun v4 h4 =>
 kNil (g3_9 t0) h4 fun v5 h5 =>
 kFld 5 v5 h5 fun v6 h6 =>
 kSt ro0 v6 v4 h6 fun _ h7 =>
 some (.normal, t0, h7)
def SR23_10 (P : Program) : RegS 3 := fun c t0 h0 =>
 kOf (c 39 [(g3_9 t0)] h0) fun v2 h2 =>
 fShal v2 fun v3 =>
 p3_11 t0 v3 fun t1 =>
 some (.normal, t1, h2)
def SR23_11 (P : Program) : RegS 3 := fun c t0 h0 =>
 kOf (c 40 [(g3_11 t0)] h0) fun v2 h2 =>
 kExt 0 v2 h2 fun v4 h4 =>
 kExt 1 v2 h4 fun v5 h5 =>
 kExt 2 v2 h5 fun v6 h6 =>
 fShal v4 fun v7 =>
 p3_12 t0 v7 fun t1 =>
 fShal v5 fun v8 =>
 p3_13 t1 v8 fun t2 =>
 fShal v6 fun v9 =>
 p3_14 t2 v9 fun t3 =>
 some (.normal, t3, h6)
def SR23_12 (P : Program) : RegS 3 := fun c t0 h0 =>
 kNot (g3_14 t0) h0 fun v2 h2 =>
 kIf v2 false (fun k => k (g3_13 t0) h2) h2 fun v4 h4 =>
 kIf v2 false (fun k => k (g3_8 t0) h4) h4 fun v5 h5 =>
 kIf v2 false (fun k => kNeq v4 v5 h5 k) h5 fun v6 h6 =>
 kPick v2 (.bool true) v6 h6 fun v7 h7 =>
 kIf v7 false (fun k => k (g3_12 t0) h7) h7 fun v9 h9 =>
 kIf v7 false (fun k => kLenSl v9 h9 k) h9 fun v10 h10 =>
 kIf v7 false (fun k => kEql v10 (.int .i64 0) h10 k) h10 fun v11 h11 =>
 kPick v7 (.bool true) v11 h11 fun v12 h12 =>
 p3_76 t0 v12 fun t1 =>
 some (.normal, t1, h12)
def SR23_13 (P : Program) : RegS 3 := fun c t0 h0 =>
 fShal (.bool false) fun v1 =>
 p3_6 t0 v1 fun t1 =>
 some (.normal, t1, h0)
def SR23_14 (P : Program) : RegS 3 := fun c t0 h0 =>
 kOf (c 33 [(g3_2 t0), (g3_7 t0)] h0) fun v3 h3 =>
 fShal v3 fun v4 =>
 p3_15 t0 v4 fun t1 =>
 some (.normal, t1, h3)
def SR23_15 (P : Program) : RegS 3 := fun c t0 h0 =>
 kOf (c 34 [(.int .i64 0), (g3_7 t0)] h0) fun v2 h2 =>
 fShal v2 fun v3 =>
 p3_16 t0 v3 fun t1 =>
 some (.normal, t1, h2)
def SR23_16 (P : Program) : RegS 3 := fun c t0 h0 =>
 kNil (g3_16 t0) h0 fun v2 h2 =>
 kFld 3 v2 h2 fun v3 h3 =>
 kLd v3 h3 fun v4 h4 =>
 kNil (g3_9 t0) h4 fun v6 h6 =>
 kFld 3 v6 h6 fun v7 h7 =>
 kLd v7 h7 fun v8 h8 =>
 kAny (aAny tO P ro0 (.call { callee := .builtin .copy, args := #[.const v4, .const v8], argTypes := #[40, 40] })) c h8 fun v9 h9 =>
 some (.normal, t0, h9)
def SR23_17 (P : Program) : RegS 3 := fun c t0 h0 =>
 kNil (g3_16 t0) h0 fun v2 h2 =>
 kFld 4 v2 h2 fun v3 h3 =>
 kLd v3 h3 fun v4 h4 =>
 kNil (g3_9 t0) h4 fun v6 h6 =>
 kFld 4 v6 h6 fun v7 h7 =>
 kLd v7 h7 fun v8 h8 =>
 kAny (aAny tO P ro0 (.call { callee := .builtin .copy, args := #[.const v4, .const v8], argTypes := #[40, 40] })) c h8 fun v9 h9 =>
 some (.normal, t0, h9)
def SR23_18 (P : Program) : RegS 3 := fun c t0 h0 =>
 kAny (aShift .shl (.const (.int .i64 1)) (.const (g3_15 t0))) c h0 fun v5 h5 =>
 kOf (vInt .xor (g3_8 t0) v5 h5) fun v6 h6 =>
 kOf (c 38 [(g3_16 t0), v6] h6) fun v7 h7 =>
 kNil (g3_16 t0) h7 fun v8 h8 =>
 kFld 5 v8 h8 fun v9 h9 =>
 kSt ro0 v9 v7 h9 fun _ h10 =>
 some (.normal, t0, h10)
def SR23_19 (P : Program) : RegS 3 := fun c t0 h0 =>
 kOf (c 39 [(g3_16 t0)] h0) fun v2 h2 =>
 fShal v2 fun v3 =>
 p3_11 t0 v3 fun t1 =>
 some (.normal, t1, h2)
def SR23_20 (P : Program) : RegS 3 := fun c t0 h0 =>
 kOf (c 41 [(g3_11 t0)] h0) fun v2 h2 =>
 fShal v2 fun v3 =>
 p3_14 t0 v3 fun t1 =>
 some (.normal, t1, h2)
def SR23_21 (P : Program) : RegS 3 := fun c t0 h0 =>
 kNot (g3_14 t0) h0 fun v2 h2 =>
 p3_114 t0 v2 fun t1 =>
 some (.normal, t1, h2)
def SR23_22 (P : Program) : RegS 3 := fun c t0 h0 =>
 fShal (.bool false) fun v1 =>
 p3_6 t0 v1 fun t1 =>
 some (.normal, t1, h0)
def SR23_23 (P : Program) : RegS 3 := fun c t0 h0 =>
 kNil (g3_16 t0) h0 fun v2 h2 =>
 kFld 4 v2 h2 fun v3 h3 =>
 kLd v3 h3 fun v4 h4 =>
 kOf (c 35 [(g3_16 t0), (g3_15 t0)] h4) fun v8 h8 =>
 kIdx 1 v4 (g3_15 t0) h8 fun v9 h9 =>
 kSt ro0 v9 v8 h9 fun _ h10 =>
 some (.normal, t0, h10)
def SR23_24 (P : Program) : RegS 3 := fun c t0 h0 =>
 kOf (c 39 [(g3_16 t0)] h0) fun v2 h2 =>
 fShal v2 fun v3 =>
 p3_11 t0 v3 fun t1 =>
 some (.normal, t1, h2)
def SR23_25 (P : Program) : RegS 3 := fun c t0 h0 =>
 kOf (c 40 [(g3_11 t0)] h0) fun v2 h2 =>
 kExt 0 v2 h2 fun v4 h4 =>
 kExt 1 v2 h4 fun v5 h5 =>
 kExt 2 v2 h5 fun v6 h6 =>
 fShal v4 fun v7 =>
 p3_12 t0 v7 fun t1 =>
 fShal v5 fun v8 =>
 p3_13 t1 v8 fun t2 =>
 fShal v6 fun v9 =>
 p3_14 t2 v9 fun t3 =>
 some (.normal, t3, h6)
def SR23_26 (P : Program) : RegS 3 := fun c t0 h0 =>
 kIf (g3_14 t0) true (fun k => k (g3_13 t0) h0) h0 fun v3 h3 =>
 kIf (g3_14 t0) true (fun k => k (g3_8 t0) h3) h3 fun v4 h4 =>
 kIf (g3_14 t0) true (fun k => k (g3_15 t0) h4) h4 fun v5 h5 =>
 kIf (g3_14 t0) true (fun k => kAny (aShift .shl (.const (.int .i64 1)) (.const v5)) c h5 k) h5 fun v6 h6 =>
 kIf (g3_14 t0) true (fun k => kOf (vInt .xor v4 v6 h6) k) h6 fun v7 h7 =>
 kIf (g3_14 t0) true (fun k => kEql v3 v7 h7 k) h7 fun v8 h8 =>
 kPick (g3_14 t0) v8 (.bool false) h8 fun v9 h9 =>
 kIf v9 true (fun k => k (g3_12 t0) h9) h9 fun v11 h11 =>
 kIf v9 true (fun k => kLenSl v11 h11 k) h11 fun v12 h12 =>
 kIf v9 true (fun k => kGtr v12 (.int .i64 0) h12 k) h12 fun v13 h13 =>
 kPick v9 v13 (.bool false) h13 fun v14 h14 =>
 fShal v14 fun v15 =>
 p3_6 t0 v15 fun t1 =>
 some (.normal, t1, h14)
def SW23_0 (P : Program) : CodeS 3 :=
 cSeqS (cSeqS (cRegS (SR23_5 P)) (cIfS g3_29 (cSkipS) (cExitS 0))) (cSeqS (cBlkS 1 (cSeqS (cRegS (SR23_7 P)) (cRegS (SR23_8 P)))) (cRegS (SR23_6 P)))
def SF23 (P : Program) : CodeS 3 :=
 cSeqS (cRegS (SR23_0 P)) (cSeqS (cRegS (SR23_1 P)) (cSeqS (cRegS (SR23_2 P)) (cSeqS (cRegS (SR23_3 P)) (cSeqS (cSeqS (cRegS (SR23_4 P)) (cBlkS 0 (cLoopS (SW23_0 P)))) (cSeqS (cRegS (SR23_9 P)) (cSeqS (cRegS (SR23_10 P)) (cSeqS (cRegS (SR23_11 P)) (cSeqS (cSeqS (cRegS (SR23_12 P)) (cIfS g3_76 (cSeqS (cRegS (SR23_13 P)) (cRetS)) (cSkipS))) (cSeqS (cRegS (SR23_14 P)) (cSeqS (cRegS (SR23_15 P)) (cSeqS (cRegS (SR23_16 P)) (cSeqS (cRegS (SR23_17 P)) (cSeqS (cRegS (SR23_18 P)) (cSeqS (cRegS (SR23_19 P)) (cSeqS (cRegS (SR23_20 P)) (cSeqS (cSeqS (cRegS (SR23_21 P)) (cIfS g3_114 (cSeqS (cRegS (SR23_22 P)) (cRetS)) (cSkipS))) (cSeqS (cRegS (SR23_23 P)) (cSeqS (cRegS (SR23_24 P)) (cSeqS (cRegS (SR23_25 P)) (cSeqS (cRegS (SR23_26 P)) (cRetS)))))))))))))))))))))
def T23 (P : Program) : FnT := runG en3_3 (SF23 P) (resQ (qc (rT g3_6) qn))
theorem T23_ok : GoodF Tryz.prog ro0 okF 23 (T23 Tryz.prog) :=
 (good_k (n := 146) acc3 (lv [0, 1, 2, 6, 7, 8, 9, 10, 11, 12, 13, 14, 15, 16, 29, 76, 114]) (rs := [ResultVar.tmp 6]) Tryz.func23 (by kernel_rfl) (by kernel_rfl) (by kernel_rfl) (by kernel_rfl) (by kernel_rfl) (by kernel_rfl) (by kernel_rfl) (by kernel_rfl) (by kernel_rfl)).enter en3_3_ok (by kernel_rfl)

/-- circheck/checker.Read -/
def SR25_0 : RegS 2 := fun c t0 h0 =>
 fShal (.pointer none) fun v1 =>
 p2_2 t0 v1 fun t1 =>
 kNew [.int .i64 0, .int .i64 0] h0 fun v2 h2 =>
 p2_3 t1 v2 fun t2 =>
 some (.normal, t2, h2)
def SR25_1 : RegS 2 := fun c t0 h0 =>
 kLenStr (g2_0 t0) h0 fun v2 h2 =>
 kGtr v2 (.int .i64 1000) h2 fun v3 h3 =>
 p2_9 t0 v3 fun t1 =>
 some (.normal, t1, h3)
def SR25_2 : RegS 2 := fun c t0 h0 =>
 kBuild #[.int .i64 0, .int .i64 0] [(0, 1), (1, 1)] [(0, (.int .i64 1))] h0 fun v1 h1 =>
 fShal (.pointer none) fun v2 =>
 p2_2 t0 v2 fun t1 =>
 kAny (aSt tO ro0 2 (.const (g2_3 t1)) (.const v1)) c h1 fun _ h3 =>
 some (.normal, t1, h3)
def SR25_3 : RegS 2 := fun c t0 h0 =>
 kBuild #[.string ⟨#[]⟩, .int .i64 0, .int .i64 0, .int .i64 0] [(0, 1), (1, 1), (2, 2)] [(0, (g2_0 t0))] h0 fun v2 h2 =>
 kBox v2 h2 fun v3 h3 =>
 fShal v3 fun v4 =>
 p2_4 t0 v4 fun t1 =>
 some (.normal, t1, h3)
def SR25_4 : RegS 2 := fun c t0 h0 =>
 kOf (c 45 [(g2_4 t0)] h0) fun v2 h2 =>
 kNew [.bool false, .int .i64 0, .int .i64 0, .int .i64 0, .int .i64 0, .int .i64 0, .int .i64 0, .int .i64 0] h2 fun v3 h3 =>
 p2_5 t0 v3 fun t1 =>
 kAny (aSt tO ro0 8 (.const v3) (.const v2)) c h3 fun _ h4 =>
 some (.normal, t1, h4)
def SR25_5 : RegS 2 := fun c t0 h0 =>
 kOf (vLdN 8 (g2_5 t0) h0) fun v1 h1 =>
 kOf (c 46 [v1, (g2_4 t0)] h1) fun v3 h3 =>
 some (.normal, t0, h3)
def SR25_6 : RegS 2 := fun c t0 h0 =>
 kOf (c 47 [(g2_4 t0)] h0) fun v2 h2 =>
 p2_20 t0 v2 fun t1 =>
 some (.normal, t1, h2)
def SR25_7 : RegS 2 := fun c t0 h0 =>
 kNil (g2_4 t0) h0 fun v2 h2 =>
 kFld 2 v2 h2 fun v3 h3 =>
 kOf (vLdN 2 v3 h3) fun v4 h4 =>
 fShal (.pointer none) fun v5 =>
 p2_2 t0 v5 fun t1 =>
 kAny (aSt tO ro0 2 (.const (g2_3 t1)) (.const v4)) c h4 fun _ h6 =>
 some (.normal, t1, h6)
def SR25_8 : RegS 2 := fun c t0 h0 =>
 kFld 1 (g2_5 t0) h0 fun v1 h1 =>
 kLd v1 h1 fun v2 h2 =>
 kOf (c 48 [v2] h2) fun v3 h3 =>
 fShal v3 fun v4 =>
 p2_6 t0 v4 fun t1 =>
 some (.normal, t1, h3)
def SR25_9 : RegS 2 := fun c t0 h0 =>
 kFld 0 (g2_5 t0) h0 fun v1 h1 =>
 kLd v1 h1 fun v2 h2 =>
 p2_29 t0 v2 fun t1 =>
 some (.normal, t1, h2)
def SR25_10 : RegS 2 := fun c t0 h0 =>
 kOf (vLdN 8 (g2_5 t0) h0) fun v3 h3 =>
 kOf (c 49 [(g2_6 t0), (g2_4 t0), v3] h3) fun v4 h4 =>
 some (.normal, t0, h4)
def SR25_11 : RegS 2 := fun c t0 h0 =>
 kOf (vLdN 8 (g2_5 t0) h0) fun v3 h3 =>
 kOf (c 50 [(g2_6 t0), (g2_4 t0), v3] h3) fun v4 h4 =>
 some (.normal, t0, h4)
def SR25_12 : RegS 2 := fun c t0 h0 =>
 kOf (vLdN 8 (g2_5 t0) h0) fun v2 h2 =>
 kOf (c 51 [(g2_4 t0), v2] h2) fun v3 h3 =>
 some (.normal, t0, h3)
def SR25_13 : RegS 2 := fun c t0 h0 =>
 kOf (c 52 [(g2_6 t0), (g2_4 t0)] h0) fun v3 h3 =>
 some (.normal, t0, h3)
def SR25_14 : RegS 2 := fun c t0 h0 =>
 kOf (c 47 [(g2_4 t0)] h0) fun v2 h2 =>
 p2_45 t0 v2 fun t1 =>
 some (.normal, t1, h2)
def SR25_15 : RegS 2 := fun c t0 h0 =>
 kNil (g2_4 t0) h0 fun v2 h2 =>
 kFld 2 v2 h2 fun v3 h3 =>
 kOf (vLdN 2 v3 h3) fun v4 h4 =>
 fShal (.pointer none) fun v5 =>
 p2_2 t0 v5 fun t1 =>
 kAny (aSt tO ro0 2 (.const (g2_3 t1)) (.const v4)) c h4 fun _ h6 =>
 some (.normal, t1, h6)
def SR25_16 : RegS 2 := fun c t0 h0 =>
 kOf (c 53 [(g2_6 t0)] h0) fun v2 h2 =>
 kExt 0 v2 h2 fun v3 h3 =>
 kExt 1 v2 h3 fun v4 h4 =>
 fShal v3 fun v5 =>
 p2_2 t0 v5 fun t1 =>
 kAny (aSt tO ro0 2 (.const (g2_3 t1)) (.const v4)) c h4 fun _ h6 =>
 some (.normal, t1, h6)
def SF25 : CodeS 2 :=
 cSeqS (cRegS (SR25_0)) (cSeqS (cSeqS (cRegS (SR25_1)) (cIfS g2_9 (cSeqS (cRegS (SR25_2)) (cRetS)) (cSkipS))) (cSeqS (cRegS (SR25_3)) (cSeqS (cRegS (SR25_4)) (cSeqS (cRegS (SR25_5)) (cSeqS (cSeqS (cRegS (SR25_6)) (cIfS g2_20 (cSeqS (cRegS (SR25_7)) (cRetS)) (cSkipS))) (cSeqS (cRegS (SR25_8)) (cSeqS (cSeqS (cRegS (SR25_9)) (cIfS g2_29 (cRegS (SR25_10)) (cRegS (SR25_11)))) (cSeqS (cRegS (SR25_12)) (cSeqS (cRegS (SR25_13)) (cSeqS (cSeqS (cRegS (SR25_14)) (cIfS g2_45 (cSeqS (cRegS (SR25_15)) (cRetS)) (cSkipS))) (cSeqS (cRegS (SR25_16)) (cRetS))))))))))))
def T25 : FnT := runG en2_1 (SF25) (resQ (qc (rT g2_2) (qc (rN 2 g2_3) qn)))
theorem T25_ok : GoodF Tryz.prog ro0 okF 25 (T25) :=
 (good_k (n := 54) acc2 (lv [0, 2, 3, 4, 5, 6, 9, 20, 29, 45]) (rs := [ResultVar.tmp 2, ResultVar.cell 3 37]) Tryz.func25 (by kernel_rfl) (by kernel_rfl) (by kernel_rfl) (by kernel_rfl) (by kernel_rfl) (by kernel_rfl) (by kernel_rfl) (by kernel_rfl) (by kernel_rfl)).enter en2_1_ok (by kernel_rfl)

/-- circheck/checker.newRun -/
def SR26_0 : RegS 2 := fun c t0 h0 =>
 fShal (.pointer none) fun v1 =>
 p2_4 t0 v1 fun t1 =>
 some (.normal, t1, h0)
def SR26_1 : RegS 2 := fun c t0 h0 =>
 kBuild #[.pointer none, .int .i64 0, .int .i64 0, .slice none 0 0, .slice none 0 0, .slice none 0 0] [(0, 1), (1, 1), (2, 1), (3, 1), (4, 1), (5, 1)] [(0, (g2_0 t0)), (1, (g2_1 t0))] h0 fun v3 h3 =>
 kBox v3 h3 fun v4 h4 =>
 fShal v4 fun v5 =>
 p2_5 t0 v5 fun t1 =>
 some (.normal, t1, h4)
def SR26_2 : RegS 2 := fun c t0 h0 =>
 kOf (c 54 [(g2_0 t0)] h0) fun v2 h2 =>
 kNew [.pointer none, .slice none 0 0] h2 fun v3 h3 =>
 p2_6 t0 v3 fun t1 =>
 kAny (aSt tO ro0 2 (.const v3) (.const v2)) c h3 fun _ h4 =>
 some (.normal, t1, h4)
def SR26_3 : RegS 2 := fun c t0 h0 =>
 kOf (c 55 [(g2_6 t0), (g2_0 t0)] h0) fun v2 h2 =>
 some (.normal, t0, h2)
def SR26_4 : RegS 2 := fun c t0 h0 =>
 kOf (vLdN 2 (g2_6 t0) h0) fun v2 h2 =>
 kMkSl 2 1 #[.pointer none, .slice none 0 0] [(0, v2)] h2 fun v3 h3 =>
 kNil (g2_5 t0) h3 fun v4 h4 =>
 kFld 3 v4 h4 fun v5 h5 =>
 kSt ro0 v5 v3 h5 fun _ h6 =>
 some (.normal, t0, h6)
def SR26_5 : RegS 2 := fun c t0 h0 =>
 fShal (g2_5 t0) fun v2 =>
 p2_4 t0 v2 fun t1 =>
 some (.normal, t1, h0)
def SF26 : CodeS 2 :=
 cSeqS (cRegS (SR26_0)) (cSeqS (cRegS (SR26_1)) (cSeqS (cRegS (SR26_2)) (cSeqS (cRegS (SR26_3)) (cSeqS (cRegS (SR26_4)) (cSeqS (cRegS (SR26_5)) (cRetS))))))
def T26 : FnT := runG en2_2 (SF26) (resQ (qc (rT g2_4) qn))
theorem T26_ok : GoodF Tryz.prog ro0 okF 26 (T26) :=
 (good_k (n := 21) acc2 (lv [0, 1, 4, 5, 6]) (rs := [ResultVar.tmp 4]) Tryz.func26 (by kernel_rfl) (by kernel_rfl) (by kernel_rfl) (by kernel_rfl) (by kernel_rfl) (by kernel_rfl) (by kernel_rfl) (by kernel_rfl) (by kernel_rfl)).enter en2_2_ok (by kernel_rfl)

/-- (*circheck/checker.run).decide -/
def SR27_0 : RegS 2 := fun c t0 h0 =>
 fShal (.int .i64 0) fun v1 =>
 p2_2 t0 v1 fun t1 =>
 some (.normal, t1, h0)
def SR27_1 : RegS 2 := fun c t0 h0 =>
 fShal (.int .i64 0) fun v1 =>
 p2_3 t0 v1 fun t1 =>
 some (.normal, t1, h0)
def SR27_2 : RegS 2 := fun c t0 h0 =>
 kEql (g2_3 t0) (.int .i64 0) h0 fun v2 h2 =>
 p2_5 t0 v2 fun t1 =>
 some (.normal, t1, h2)
def SR27_3 : RegS 2 := fun c t0 h0 =>
 kOf (c 56 [(g2_0 t0)] h0) fun v2 h2 =>
 fShal v2 fun v3 =>
 p2_3 t0 v3 fun t1 =>
 some (.normal, t1, h2)
def SR27_4 : RegS 2 := fun c t0 h0 =>
 kEql (g2_3 t0) (.int .i64 0) h0 fun v2 h2 =>
 p2_9 t0 v2 fun t1 =>
 some (.normal, t1, h2)
def SR27_5 : RegS 2 := fun c t0 h0 =>
 kOf (c 57 [(g2_0 t0)] h0) fun v2 h2 =>
 fShal v2 fun v3 =>
 p2_3 t0 v3 fun t1 =>
 some (.normal, t1, h2)
def SR27_6 : RegS 2 := fun c t0 h0 =>
 fShal (g2_3 t0) fun v2 =>
 p2_2 t0 v2 fun t1 =>
 some (.normal, t1, h0)
def SW27_0 : CodeS 2 :=
 cSeqS (cSeqS (cRegS (SR27_2)) (cIfS g2_5 (cSkipS) (cExitS 0))) (cBlkS 1 (cSeqS (cRegS (SR27_3)) (cSeqS (cRegS (SR27_4)) (cIfS g2_9 (cRegS (SR27_5)) (cSkipS)))))
def SF27 : CodeS 2 :=
 cSeqS (cRegS (SR27_0)) (cSeqS (cRegS (SR27_1)) (cSeqS (cBlkS 0 (cLoopS (SW27_0))) (cSeqS (cRegS (SR27_6)) (cRetS))))
def T27 : FnT := runG en2_1 (SF27) (resQ (qc (rT g2_2) qn))
theorem T27_ok : GoodF Tryz.prog ro0 okF 27 (T27) :=
 (good_k (n := 13) acc2 (lv [0, 2, 3, 5, 9]) (rs := [ResultVar.tmp 2]) Tryz.func27 (by kernel_rfl) (by kernel_rfl) (by kernel_rfl) (by kernel_rfl) (by kernel_rfl) (by kernel_rfl) (by kernel_rfl) (by kernel_rfl) (by kernel_rfl)).enter en2_1_ok (by kernel_rfl)

/-- (*circheck/checker.run).result -/
def SR28_0 : RegS 2 := fun c t0 h0 =>
 fShal (.pointer none) fun v1 =>
 p2_4 t0 v1 fun t1 =>
 some (.normal, t1, h0)
def SR28_1 : RegS 2 := fun c t0 h0 =>
 kNil (g2_0 t0) h0 fun v3 h3 =>
 kFld 2 v3 h3 fun v4 h4 =>
 kLd v4 h4 fun v5 h5 =>
 kBuild #[.int .i64 0, .int .i64 0, .int .i64 0, .slice none 0 0, .int .i64 0, .slice none 0 0, .int .i64 0, .string ⟨#[]⟩] [(0, 1), (1, 2), (3, 1), (4, 1), (5, 1), (6, 1), (7, 1)] [(0, (g2_1 t0)), (5, v5)] h5 fun v6 h6 =>
 kBox v6 h6 fun v7 h7 =>
 fShal v7 fun v8 =>
 p2_5 t0 v8 fun t1 =>
 some (.normal, t1, h7)
def SR28_2 : RegS 2 := fun c t0 h0 =>
 fShal (g2_1 t0) fun v1 =>
 p2_13 t0 v1 fun t1 =>
 some (.normal, t1, h0)
def SR28_3 : RegS 2 := fun c t0 h0 =>
 kEql (g2_13 t0) (.int .i64 1) h0 fun v1 h1 =>
 fShal v1 fun v2 =>
 p2_14 t0 v2 fun t1 =>
 some (.normal, t1, h1)
def SR28_4 : RegS 2 := fun c t0 h0 =>
 kNil (g2_0 t0) h0 fun v3 h3 =>
 kFld 5 v3 h3 fun v4 h4 =>
 kLd v4 h4 fun v5 h5 =>
 kNil (g2_5 t0) h5 fun v6 h6 =>
 kFld 3 v6 h6 fun v7 h7 =>
 kSt ro0 v7 v5 h7 fun _ h8 =>
 some (.normal, t0, h8)
def SR28_5 : RegS 2 := fun c t0 h0 =>
 kOf (c 58 [(g2_0 t0)] h0) fun v3 h3 =>
 kNil (g2_5 t0) h3 fun v4 h4 =>
 kFld 7 v4 h4 fun v5 h5 =>
 kSt ro0 v5 v3 h5 fun _ h6 =>
 some (.normal, t0, h6)
def SR28_6 : RegS 2 := fun c t0 h0 =>
 kEql (g2_13 t0) (.int .i64 2) h0 fun v1 h1 =>
 fShal v1 fun v2 =>
 p2_28 t0 v2 fun t1 =>
 some (.normal, t1, h1)
def SR28_7 : RegS 2 := fun c t0 h0 =>
 kOf (c 59 [(g2_0 t0)] h0) fun v3 h3 =>
 kNil (g2_5 t0) h3 fun v4 h4 =>
 kFld 4 v4 h4 fun v5 h5 =>
 kSt ro0 v5 v3 h5 fun _ h6 =>
 some (.normal, t0, h6)
def SR28_8 : RegS 2 := fun c t0 h0 =>
 kOf (c 60 [(g2_0 t0)] h0) fun v3 h3 =>
 kNil (g2_5 t0) h3 fun v4 h4 =>
 kFld 5 v4 h4 fun v5 h5 =>
 kSt ro0 v5 v3 h5 fun _ h6 =>
 some (.normal, t0, h6)
def SR28_9 : RegS 2 := fun c t0 h0 =>
 kOf (c 61 [(g2_0 t0)] h0) fun v3 h3 =>
 kNil (g2_5 t0) h3 fun v4 h4 =>
 kFld 7 v4 h4 fun v5 h5 =>
 kSt ro0 v5 v3 h5 fun _ h6 =>
 some (.normal, t0, h6)
def SR28_10 : RegS 2 := fun c t0 h0 =>
 kEql (g2_13 t0) (.int .i64 3) h0 fun v1 h1 =>
 fShal v1 fun v2 =>
 p2_45 t0 v2 fun t1 =>
 some (.normal, t1, h1)
def SR28_11 : RegS 2 := fun c t0 h0 =>
 kNil (g2_5 t0) h0 fun v2 h2 =>
 kFld 7 v2 h2 fun v3 h3 =>
 kSt ro0 v3 (.string { data := #[50, 10, 98, 48, 10, 46, 10] }) h3 fun _ h4 =>
 some (.normal, t0, h4)
def SR28_12 : RegS 2 := fun c t0 h0 =>
 fShal (g2_5 t0) fun v2 =>
 p2_4 t0 v2 fun t1 =>
 some (.normal, t1, h0)
def SF28 : CodeS 2 :=
 cSeqS (cRegS (SR28_0)) (cSeqS (cRegS (SR28_1)) (cSeqS (cSeqS (cRegS (SR28_2)) (cBlkS 0 (cSeqS (cRegS (SR28_3)) (cIfS g2_14 (cSeqS (cRegS (SR28_4)) (cRegS (SR28_5))) (cSeqS (cRegS (SR28_6)) (cIfS g2_28 (cSeqS (cRegS (SR28_7)) (cSeqS (cRegS (SR28_8)) (cRegS (SR28_9)))) (cSeqS (cRegS (SR28_10)) (cIfS g2_45 (cRegS (SR28_11)) (cSkipS))))))))) (cSeqS (cRegS (SR28_12)) (cRetS))))
def T28 : FnT := runG en2_2 (SF28) (resQ (qc (rT g2_4) qn))
theorem T28_ok : GoodF Tryz.prog ro0 okF 28 (T28) :=
 (good_k (n := 51) acc2 (lv [0, 1, 4, 5, 13, 14, 28, 45]) (rs := [ResultVar.tmp 4]) Tryz.func28 (by kernel_rfl) (by kernel_rfl) (by kernel_rfl) (by kernel_rfl) (by kernel_rfl) (by kernel_rfl) (by kernel_rfl) (by kernel_rfl) (by kernel_rfl)).enter en2_2_ok (by kernel_rfl)

/-- circheck/circhecksays.pick -/
def SR33_0 : RegS 2 := fun c t0 h0 =>
 fShal (.int .i64 0) fun v1 =>
 p2_4 t0 v1 fun t1 =>
 some (.normal, t1, h0)
def SR33_1 : RegS 2 := fun c t0 h0 =>
 kLss (g2_0 t0) (.int .i64 0) h0 fun v2 h2 =>
 p2_6 t0 v2 fun t1 =>
 some (.normal, t1, h2)
def SR33_2 : RegS 2 := fun c t0 h0 =>
 kAdd (g2_0 t0) (.int .i64 1) h0 fun v2 h2 =>
 kAny (aUn .neg (.const v2)) c h2 fun v3 h3 =>
 fShal v3 fun v4 =>
 p2_0 t0 v4 fun t1 =>
 some (.normal, t1, h3)
def SR33_3 : RegS 2 := fun c t0 h0 =>
 kOf (vInt .rem (g2_0 t0) (g2_1 t0) h0) fun v3 h3 =>
 fShal v3 fun v4 =>
 p2_4 t0 v4 fun t1 =>
 some (.normal, t1, h3)
def SF33 : CodeS 2 :=
 cSeqS (cRegS (SR33_0)) (cSeqS (cSeqS (cRegS (SR33_1)) (cIfS g2_6 (cRegS (SR33_2)) (cSkipS))) (cSeqS (cRegS (SR33_3)) (cRetS)))
def T33 : FnT := runG en2_2 (SF33) (resQ (qc (rT g2_4) qn))
theorem T33_ok : GoodF Tryz.prog ro0 okF 33 (T33) :=
 (good_k (n := 13) acc2 (lv [0, 1, 4, 6]) (rs := [ResultVar.tmp 4]) Tryz.func33 (by kernel_rfl) (by kernel_rfl) (by kernel_rfl) (by kernel_rfl) (by kernel_rfl) (by kernel_rfl) (by kernel_rfl) (by kernel_rfl) (by kernel_rfl)).enter en2_2_ok (by kernel_rfl)

/-- circheck/circhecksays.blank -/
def SR34_0 : RegS 2 := fun c t0 h0 =>
 fShal (.pointer none) fun v1 =>
 p2_4 t0 v1 fun t1 =>
 some (.normal, t1, h0)
def SR34_1 : RegS 2 := fun c t0 h0 =>
 kBuild #[.int .i64 0, .int .i64 0, .slice none 0 0, .slice none 0 0, .slice none 0 0, .int .i64 0] [(0, 1), (1, 1), (2, 1), (3, 1), (4, 1), (5, 1)] [(0, (g2_0 t0)), (1, (g2_1 t0))] h0 fun v3 h3 =>
 kBox v3 h3 fun v4 h4 =>
 fShal v4 fun v5 =>
 p2_5 t0 v5 fun t1 =>
 some (.normal, t1, h4)
def SR34_2 : RegS 2 := fun c t0 h0 =>
 kAny (aMake tO 1 8 #[.int .i64 0] (.const (g2_1 t0)) (.const (g2_1 t0))) c h0 fun v3 h3 =>
 kNil (g2_5 t0) h3 fun v4 h4 =>
 kFld 3 v4 h4 fun v5 h5 =>
 kSt ro0 v5 v3 h5 fun _ h6 =>
 some (.normal, t0, h6)
def SR34_3 : RegS 2 := fun c t0 h0 =>
 kAny (aMake tO 1 8 #[.int .i64 0] (.const (g2_1 t0)) (.const (g2_1 t0))) c h0 fun v3 h3 =>
 kNil (g2_5 t0) h3 fun v4 h4 =>
 kFld 4 v4 h4 fun v5 h5 =>
 kSt ro0 v5 v3 h5 fun _ h6 =>
 some (.normal, t0, h6)
def SR34_4 : RegS 2 := fun c t0 h0 =>
 fShal (g2_5 t0) fun v2 =>
 p2_4 t0 v2 fun t1 =>
 some (.normal, t1, h0)
def SF34 : CodeS 2 :=
 cSeqS (cRegS (SR34_0)) (cSeqS (cRegS (SR34_1)) (cSeqS (cRegS (SR34_2)) (cSeqS (cRegS (SR34_3)) (cSeqS (cRegS (SR34_4)) (cRetS)))))
def T34 : FnT := runG en2_2 (SF34) (resQ (qc (rT g2_4) qn))
theorem T34_ok : GoodF Tryz.prog ro0 okF 34 (T34) :=
 (good_k (n := 21) acc2 (lv [0, 1, 4, 5]) (rs := [ResultVar.tmp 4]) Tryz.func34 (by kernel_rfl) (by kernel_rfl) (by kernel_rfl) (by kernel_rfl) (by kernel_rfl) (by kernel_rfl) (by kernel_rfl) (by kernel_rfl) (by kernel_rfl)).enter en2_2_ok (by kernel_rfl)

/-- (*circheck/circhecksays.net).latch -/
def SR35_0 : RegS 2 := fun c t0 h0 =>
 fShal (.int .i64 0) fun v1 =>
 p2_4 t0 v1 fun t1 =>
 some (.normal, t1, h0)
def SR35_1 : RegS 2 := fun c t0 h0 =>
 kNil (g2_0 t0) h0 fun v2 h2 =>
 kFld 0 v2 h2 fun v3 h3 =>
 kLd v3 h3 fun v4 h4 =>
 kAdd (.int .i64 1) v4 h4 fun v5 h5 =>
 kAdd v5 (g2_1 t0) h5 fun v7 h7 =>
 kOf (vInt .mul (.int .i64 2) v7 h7) fun v8 h8 =>
 fShal v8 fun v9 =>
 p2_4 t0 v9 fun t1 =>
 some (.normal, t1, h8)
def SF35 : CodeS 2 :=
 cSeqS (cRegS (SR35_0)) (cSeqS (cRegS (SR35_1)) (cRetS))
def T35 : FnT := runG en2_2 (SF35) (resQ (qc (rT g2_4) qn))
theorem T35_ok : GoodF Tryz.prog ro0 okF 35 (T35) :=
 (good_k (n := 13) acc2 (lv [0, 1, 4]) (rs := [ResultVar.tmp 4]) Tryz.func35 (by kernel_rfl) (by kernel_rfl) (by kernel_rfl) (by kernel_rfl) (by kernel_rfl) (by kernel_rfl) (by kernel_rfl) (by kernel_rfl) (by kernel_rfl)).enter en2_2_ok (by kernel_rfl)

/-- (*circheck/circhecksays.net).xor -/
def SR36_0 : RegS 2 := fun c t0 h0 =>
 fShal (.int .i64 0) fun v1 =>
 p2_6 t0 v1 fun t1 =>
 some (.normal, t1, h0)
def SR36_1 : RegS 2 := fun c t0 h0 =>
 kOf (c 37 [(g2_0 t0), (g2_1 t0), (g2_2 t0)] h0) fun v4 h4 =>
 fShal v4 fun v5 =>
 p2_7 t0 v5 fun t1 =>
 some (.normal, t1, h4)
def SR36_2 : RegS 2 := fun c t0 h0 =>
 kOf (vInt .xor (g2_1 t0) (.int .i64 1) h0) fun v3 h3 =>
 kOf (vInt .xor (g2_2 t0) (.int .i64 1) h3) fun v5 h5 =>
 kOf (c 37 [(g2_0 t0), v3, v5] h5) fun v6 h6 =>
 fShal v6 fun v7 =>
 p2_8 t0 v7 fun t1 =>
 some (.normal, t1, h6)
def SR36_3 : RegS 2 := fun c t0 h0 =>
 kOf (vInt .xor (g2_7 t0) (.int .i64 1) h0) fun v3 h3 =>
 kOf (vInt .xor (g2_8 t0) (.int .i64 1) h3) fun v5 h5 =>
 kOf (c 37 [(g2_0 t0), v3, v5] h5) fun v6 h6 =>
 fShal v6 fun v7 =>
 p2_6 t0 v7 fun t1 =>
 some (.normal, t1, h6)
def SF36 : CodeS 2 :=
 cSeqS (cRegS (SR36_0)) (cSeqS (cRegS (SR36_1)) (cSeqS (cRegS (SR36_2)) (cSeqS (cRegS (SR36_3)) (cRetS))))
def T36 : FnT := runG en2_3 (SF36) (resQ (qc (rT g2_6) qn))
theorem T36_ok : GoodF Tryz.prog ro0 okF 36 (T36) :=
 (good_k (n := 25) acc2 (lv [0, 1, 2, 6, 7, 8]) (rs := [ResultVar.tmp 6]) Tryz.func36 (by kernel_rfl) (by kernel_rfl) (by kernel_rfl) (by kernel_rfl) (by kernel_rfl) (by kernel_rfl) (by kernel_rfl) (by kernel_rfl) (by kernel_rfl)).enter en2_3_ok (by kernel_rfl)

/-- (*circheck/circhecksays.net).and -/
def SR37_0 : RegS 2 := fun c t0 h0 =>
 fShal (.int .i64 0) fun v1 =>
 p2_6 t0 v1 fun t1 =>
 some (.normal, t1, h0)
def SR37_1 : RegS 2 := fun c t0 h0 =>
 kNil (g2_0 t0) h0 fun v3 h3 =>
 kFld 2 v3 h3 fun v4 h4 =>
 kLd v4 h4 fun v5 h5 =>
 kMkSl 1 2 #[.int .i64 0] [(0, (g2_1 t0)), (1, (g2_2 t0))] h5 fun v8 h8 =>
 kOf (vApp ro0 1 8 v5 v8 h8) fun v9 h9 =>
 kNil (g2_0 t0) h9 fun v10 h10 =>
 kFld 2 v10 h10 fun v11 h11 =>
 kSt ro0 v11 v9 h11 fun _ h12 =>
 some (.normal, t0, h12)
def SR37_2 : RegS 2 := fun c t0 h0 =>
 kNil (g2_0 t0) h0 fun v2 h2 =>
 kFld 0 v2 h2 fun v3 h3 =>
 kLd v3 h3 fun v4 h4 =>
 kNil (g2_0 t0) h4 fun v6 h6 =>
 kFld 1 v6 h6 fun v7 h7 =>
 kLd v7 h7 fun v8 h8 =>
 kAdd v4 v8 h8 fun v9 h9 =>
 kNil (g2_0 t0) h9 fun v11 h11 =>
 kFld 2 v11 h11 fun v12 h12 =>
 kLd v12 h12 fun v13 h13 =>
 kLenSl v13 h13 fun v14 h14 =>
 kOf (vInt .quo v14 (.int .i64 2) h14) fun v15 h15 =>
 kAdd v9 v15 h15 fun v16 h16 =>
 kOf (vInt .mul (.int .i64 2) v16 h16) fun v17 h17 =>
 fShal v17 fun v18 =>
 p2_6 t0 v18 fun t1 =>
 some (.normal, t1, h17)
def SF37 : CodeS 2 :=
 cSeqS (cRegS (SR37_0)) (cSeqS (cRegS (SR37_1)) (cSeqS (cRegS (SR37_2)) (cRetS)))
def T37 : FnT := runG en2_3 (SF37) (resQ (qc (rT g2_6) qn))
theorem T37_ok : GoodF Tryz.prog ro0 okF 37 (T37) :=
 (good_k (n := 35) acc2 (lv [0, 1, 2, 6]) (rs := [ResultVar.tmp 6]) Tryz.func37 (by kernel_rfl) (by kernel_rfl) (by kernel_rfl) (by kernel_rfl) (by kernel_rfl) (by kernel_rfl) (by kernel_rfl) (by kernel_rfl) (by kernel_rfl)).enter en2_3_ok (by kernel_rfl)
end Go.Proofs.YtimdkminagnhgaaGreatDoor
