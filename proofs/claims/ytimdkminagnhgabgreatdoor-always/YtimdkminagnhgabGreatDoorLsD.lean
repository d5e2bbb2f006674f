/-
  The program itself for the kernel, function by function. Printed by program; the kernel checks each. Own work.
-/
import Derived.Test.YtimdkminagnhgabGreatDoorLsA
namespace Go.Proofs.YtimdkminagnhgabGreatDoor
open Go.Vm Go.Proofs
set_option linter.unusedVariables false
set_option maxRecDepth 100000

/-- (*circheck/checker.netlist).judgeUses -/
def SR40_0 : RegS 3 := fun c t0 h0 =>
 fShal (.int .i64 0) fun v1 =>
 p3_4 t0 v1 fun t1 =>
 some (.normal, t1, h0)
def SR40_1 : RegS 3 := fun c t0 h0 =>
 kNil (g3_0 t0) h0 fun v3 h3 =>
 kFld 2 v3 h3 fun v4 h4 =>
 kLd v4 h4 fun v5 h5 =>
 kLenSl v5 h5 fun v6 h6 =>
 kLss (g3_4 t0) v6 h6 fun v7 h7 =>
 p3_14 t0 v7 fun t1 =>
 some (.normal, t1, h7)
def SR40_3 : RegS 3 := fun c t0 h0 =>
 kNil (g3_0 t0) h0 fun v4 h4 =>
 kFld 2 v4 h4 fun v5 h5 =>
 kLd v5 h5 fun v6 h6 =>
 kIdx 4 v6 (g3_4 t0) h6 fun v8 h8 =>
 kFld 1 v8 h8 fun v9 h9 =>
 kOf (vLdN 2 v9 h9) fun v10 h10 =>
 kOf (c 75 [(g3_0 t0), (g3_1 t0), v10] h10) fun v11 h11 =>
 some (.normal, t0, h11)
def SR40_2 : RegS 3 := fun c t0 h0 =>
 kAdd (g3_4 t0) (.int .i64 1) h0 fun v2 h2 =>
 fShal v2 fun v3 =>
 p3_4 t0 v3 fun t1 =>
 some (.normal, t1, h2)
def SR40_4 : RegS 3 := fun c t0 h0 =>
 fShal (.int .i64 0) fun v1 =>
 p3_5 t0 v1 fun t1 =>
 some (.normal, t1, h0)
def SR40_5 : RegS 3 := fun c t0 h0 =>
 kNil (g3_0 t0) h0 fun v3 h3 =>
 kFld 3 v3 h3 fun v4 h4 =>
 kLd v4 h4 fun v5 h5 =>
 kLenSl v5 h5 fun v6 h6 =>
 kLss (g3_5 t0) v6 h6 fun v7 h7 =>
 p3_34 t0 v7 fun t1 =>
 some (.normal, t1, h7)
def SR40_7 : RegS 3 := fun c t0 h0 =>
 kNil (g3_0 t0) h0 fun v4 h4 =>
 kFld 3 v4 h4 fun v5 h5 =>
 kLd v5 h5 fun v6 h6 =>
 kIdx 2 v6 (g3_5 t0) h6 fun v8 h8 =>
 kOf (vLdN 2 v8 h8) fun v9 h9 =>
 kOf (c 75 [(g3_0 t0), (g3_1 t0), v9] h9) fun v10 h10 =>
 some (.normal, t0, h10)
def SR40_6 : RegS 3 := fun c t0 h0 =>
 kAdd (g3_5 t0) (.int .i64 1) h0 fun v2 h2 =>
 fShal v2 fun v3 =>
 p3_5 t0 v3 fun t1 =>
 some (.normal, t1, h2)
def SR40_8 : RegS 3 := fun c t0 h0 =>
 fShal (.int .i64 0) fun v1 =>
 p3_6 t0 v1 fun t1 =>
 some (.normal, t1, h0)
def SR40_9 : RegS 3 := fun c t0 h0 =>
 kNil (g3_0 t0) h0 fun v3 h3 =>
 kFld 4 v3 h3 fun v4 h4 =>
 kLd v4 h4 fun v5 h5 =>
 kLenSl v5 h5 fun v6 h6 =>
 kLss (g3_6 t0) v6 h6 fun v7 h7 =>
 p3_53 t0 v7 fun t1 =>
 some (.normal, t1, h7)
def SR40_11 : RegS 3 := fun c t0 h0 =>
 kNil (g3_0 t0) h0 fun v4 h4 =>
 kFld 4 v4 h4 fun v5 h5 =>
 kLd v5 h5 fun v6 h6 =>
 kIdx 2 v6 (g3_6 t0) h6 fun v8 h8 =>
 kOf (vLdN 2 v8 h8) fun v9 h9 =>
 kOf (c 75 [(g3_0 t0), (g3_1 t0), v9] h9) fun v10 h10 =>
 some (.normal, t0, h10)
def SR40_10 : RegS 3 := fun c t0 h0 =>
 kAdd (g3_6 t0) (.int .i64 1) h0 fun v2 h2 =>
 fShal v2 fun v3 =>
 p3_6 t0 v3 fun t1 =>
 some (.normal, t1, h2)
def SR40_12 : RegS 3 := fun c t0 h0 =>
 fShal (.int .i64 0) fun v1 =>
 p3_7 t0 v1 fun t1 =>
 some (.normal, t1, h0)
def SR40_13 : RegS 3 := fun c t0 h0 =>
 kNil (g3_0 t0) h0 fun v3 h3 =>
 kFld 5 v3 h3 fun v4 h4 =>
 kLd v4 h4 fun v5 h5 =>
 kLenSl v5 h5 fun v6 h6 =>
 kLss (g3_7 t0) v6 h6 fun v7 h7 =>
 p3_72 t0 v7 fun t1 =>
 some (.normal, t1, h7)
def SR40_15 : RegS 3 := fun c t0 h0 =>
 kNil (g3_0 t0) h0 fun v4 h4 =>
 kFld 5 v4 h4 fun v5 h5 =>
 kLd v5 h5 fun v6 h6 =>
 kIdx 6 v6 (g3_7 t0) h6 fun v8 h8 =>
 kFld 2 v8 h8 fun v9 h9 =>
 kOf (vLdN 2 v9 h9) fun v10 h10 =>
 kOf (c 75 [(g3_0 t0), (g3_1 t0), v10] h10) fun v11 h11 =>
 some (.normal, t0, h11)
def SR40_16 : RegS 3 := fun c t0 h0 =>
 kNil (g3_0 t0) h0 fun v4 h4 =>
 kFld 5 v4 h4 fun v5 h5 =>
 kLd v5 h5 fun v6 h6 =>
 kIdx 6 v6 (g3_7 t0) h6 fun v8 h8 =>
 kFld 4 v8 h8 fun v9 h9 =>
 kOf (vLdN 2 v9 h9) fun v10 h10 =>
 kOf (c 75 [(g3_0 t0), (g3_1 t0), v10] h10) fun v11 h11 =>
 some (.normal, t0, h11)
def SR40_14 : RegS 3 := fun c t0 h0 =>
 kAdd (g3_7 t0) (.int .i64 1) h0 fun v2 h2 =>
 fShal v2 fun v3 =>
 p3_7 t0 v3 fun t1 =>
 some (.normal, t1, h2)
def SW40_0 : CodeS 3 :=
 cSeqS (cSeqS (cRegS (SR40_1)) (cIfS g3_14 (cSkipS) (cExitS 0))) (cSeqS (cBlkS 1 (cRegS (SR40_3))) (cRegS (SR40_2)))
def SW40_1 : CodeS 3 :=
 cSeqS (cSeqS (cRegS (SR40_5)) (cIfS g3_34 (cSkipS) (cExitS 2))) (cSeqS (cBlkS 3 (cRegS (SR40_7))) (cRegS (SR40_6)))
def SW40_2 : CodeS 3 :=
 cSeqS (cSeqS (cRegS (SR40_9)) (cIfS g3_53 (cSkipS) (cExitS 4))) (cSeqS (cBlkS 5 (cRegS (SR40_11))) (cRegS (SR40_10)))
def SW40_3 : CodeS 3 :=
 cSeqS (cSeqS (cRegS (SR40_13)) (cIfS g3_72 (cSkipS) (cExitS 6))) (cSeqS (cBlkS 7 (cSeqS (cRegS (SR40_15)) (cRegS (SR40_16)))) (cRegS (SR40_14)))
def SF40 : CodeS 3 :=
 cSeqS (cSeqS (cRegS (SR40_0)) (cBlkS 0 (cLoopS (SW40_0)))) (cSeqS (cSeqS (cRegS (SR40_4)) (cBlkS 2 (cLoopS (SW40_1)))) (cSeqS (cSeqS (cRegS (SR40_8)) (cBlkS 4 (cLoopS (SW40_2)))) (cSeqS (cRegS (SR40_12)) (cBlkS 6 (cLoopS (SW40_3))))))
def T40 : FnT := runG en3_2 (SF40) (resQ qn)
theorem T40_ok : GoodF Tryz.prog ro0 okF 40 (T40) :=
 (good_k (n := 97) acc3 (lv [0, 1, 4, 5, 6, 7, 14, 34, 53, 72]) (rs := []) Tryz.func40 (by kernel_rfl) (by kernel_rfl) (by kernel_rfl) (by kernel_rfl) (by kernel_rfl) (by kernel_rfl) (by kernel_rfl) (by kernel_rfl) (by kernel_rfl)).enter en3_2_ok (by kernel_rfl)

/-- circheck/checker.arrange -/
def SR41_0 : RegS 3 := fun c t0 h0 =>
 fShal (.pointer none) fun v1 =>
 p3_2 t0 v1 fun t1 =>
 kNew [.int .i64 0, .int .i64 0] h0 fun v2 h2 =>
 p3_3 t1 v2 fun t2 =>
 some (.normal, t2, h2)
def SR41_1 : RegS 3 := fun c t0 h0 =>
 kOf (c 76 [(g3_0 t0)] h0) fun v2 h2 =>
 fShal v2 fun v3 =>
 p3_4 t0 v3 fun t1 =>
 some (.normal, t1, h2)
def SR41_2 : RegS 3 := fun c t0 h0 =>
 kNil (g3_0 t0) h0 fun v2 h2 =>
 kFld 1 v2 h2 fun v3 h3 =>
 kLd v3 h3 fun v4 h4 =>
 kLenSl v4 h4 fun v5 h5 =>
 kBuild #[.int .i64 0, .slice none 0 0, .slice none 0 0, .int .i64 0] [(0, 1), (1, 1), (2, 1), (3, 1)] [(0, v5)] h5 fun v6 h6 =>
 kBox v6 h6 fun v7 h7 =>
 fShal v7 fun v8 =>
 p3_5 t0 v8 fun t1 =>
 some (.normal, t1, h7)
def SR41_3 : RegS 3 := fun c t0 h0 =>
 fShal (.int .i64 0) fun v1 =>
 p3_6 t0 v1 fun t1 =>
 some (.normal, t1, h0)
def SR41_4 : RegS 3 := fun c t0 h0 =>
 kNil (g3_0 t0) h0 fun v3 h3 =>
 kFld 5 v3 h3 fun v4 h4 =>
 kLd v4 h4 fun v5 h5 =>
 kLenSl v5 h5 fun v6 h6 =>
 kLss (g3_6 t0) v6 h6 fun v7 h7 =>
 p3_26 t0 v7 fun t1 =>
 some (.normal, t1, h7)
def SR41_6 : RegS 3 := fun c t0 h0 =>
 kNil (g3_0 t0) h0 fun v3 h3 =>
 kFld 5 v3 h3 fun v4 h4 =>
 kLd v4 h4 fun v5 h5 =>
 kOf (c 77 [(g3_4 t0), v5] h5) fun v6 h6 =>
 fShal v6 fun v7 =>
 p3_7 t0 v7 fun t1 =>
 some (.normal, t1, h6)
def SR41_7 : RegS 3 := fun c t0 h0 =>
 kEql (g3_7 t0) (.int .i64 (-1)) h0 fun v2 h2 =>
 p3_36 t0 v2 fun t1 =>
 some (.normal, t1, h2)
def SR41_8 : RegS 3 := fun c t0 h0 =>
 kNil (g3_0 t0) h0 fun v3 h3 =>
 kFld 5 v3 h3 fun v4 h4 =>
 kLd v4 h4 fun v5 h5 =>
 kOf (c 78 [(g3_4 t0), v5] h5) fun v6 h6 =>
 kBuild #[.int .i64 0, .int .i64 0] [(0, 1), (1, 1)] [(0, (.int .i64 12)), (1, v6)] h6 fun v7 h7 =>
 fShal (.pointer none) fun v8 =>
 p3_2 t0 v8 fun t1 =>
 kAny (aSt tO ro0 2 (.const (g3_3 t1)) (.const v7)) c h7 fun _ h9 =>
 some (.normal, t1, h9)
def SR41_9 : RegS 3 := fun c t0 h0 =>
 kNil (g3_0 t0) h0 fun v4 h4 =>
 kFld 5 v4 h4 fun v5 h5 =>
 kLd v5 h5 fun v6 h6 =>
 kIdx 6 v6 (g3_7 t0) h6 fun v8 h8 =>
 kOf (vLdN 6 v8 h8) fun v9 h9 =>
 kOf (c 79 [(g3_4 t0), (g3_5 t0), v9] h9) fun v10 h10 =>
 some (.normal, t0, h10)
def SR41_5 : RegS 3 := fun c t0 h0 =>
 kAdd (g3_6 t0) (.int .i64 1) h0 fun v2 h2 =>
 fShal v2 fun v3 =>
 p3_6 t0 v3 fun t1 =>
 some (.normal, t1, h2)
def SR41_10 : RegS 3 := fun c t0 h0 =>
 fShal (.int .i64 0) fun v1 =>
 p3_8 t0 v1 fun t1 =>
 some (.normal, t1, h0)
def SR41_11 : RegS 3 := fun c t0 h0 =>
 kNil (g3_0 t0) h0 fun v3 h3 =>
 kFld 2 v3 h3 fun v4 h4 =>
 kLd v4 h4 fun v5 h5 =>
 kLenSl v5 h5 fun v6 h6 =>
 kLss (g3_8 t0) v6 h6 fun v7 h7 =>
 p3_60 t0 v7 fun t1 =>
 some (.normal, t1, h7)
def SR41_13 : RegS 3 := fun c t0 h0 =>
 kNil (g3_0 t0) h0 fun v3 h3 =>
 kFld 2 v3 h3 fun v4 h4 =>
 kLd v4 h4 fun v5 h5 =>
 kIdx 4 v5 (g3_8 t0) h5 fun v7 h7 =>
 kFld 1 v7 h7 fun v8 h8 =>
 kFld 0 v8 h8 fun v9 h9 =>
 kLd v9 h9 fun v10 h10 =>
 kOf (c 80 [(g3_4 t0), v10] h10) fun v11 h11 =>
 fShal v11 fun v12 =>
 p3_9 t0 v12 fun t1 =>
 some (.normal, t1, h11)
def SR41_14 : RegS 3 := fun c t0 h0 =>
 kNil (g3_5 t0) h0 fun v3 h3 =>
 kFld 1 v3 h3 fun v4 h4 =>
 kLd v4 h4 fun v5 h5 =>
 kNil (g3_0 t0) h5 fun v8 h8 =>
 kFld 2 v8 h8 fun v9 h9 =>
 kLd v9 h9 fun v10 h10 =>
 kIdx 4 v10 (g3_8 t0) h10 fun v12 h12 =>
 kFld 3 v12 h12 fun v13 h13 =>
 kLd v13 h13 fun v14 h14 =>
 kBuild #[.int .i64 0, .int .i64 0] [(0, 1), (1, 1)] [(0, (g3_9 t0)), (1, v14)] h14 fun v15 h15 =>
 kMkSl 2 1 #[.int .i64 0, .int .i64 0] [(0, v15)] h15 fun v16 h16 =>
 kOf (vApp ro0 2 16 v5 v16 h16) fun v17 h17 =>
 kNil (g3_5 t0) h17 fun v18 h18 =>
 kFld 1 v18 h18 fun v19 h19 =>
 kSt ro0 v19 v17 h19 fun _ h20 =>
 some (.normal, t0, h20)
def SR41_12 : RegS 3 := fun c t0 h0 =>
 kAdd (g3_8 t0) (.int .i64 1) h0 fun v2 h2 =>
 fShal v2 fun v3 =>
 p3_8 t0 v3 fun t1 =>
 some (.normal, t1, h2)
def SR41_15 : RegS 3 := fun c t0 h0 =>
 kOf (c 81 [(g3_0 t0)] h0) fun v2 h2 =>
 fShal v2 fun v3 =>
 p3_10 t0 v3 fun t1 =>
 some (.normal, t1, h2)
def SR41_16 : RegS 3 := fun c t0 h0 =>
 kOf (c 80 [(g3_4 t0), (g3_10 t0)] h0) fun v4 h4 =>
 kNil (g3_5 t0) h4 fun v5 h5 =>
 kFld 3 v5 h5 fun v6 h6 =>
 kSt ro0 v6 v4 h6 fun _ h7 =>
 some (.normal, t0, h7)
def SR41_17 : RegS 3 := fun c t0 h0 =>
 kBuild #[.int .i64 0, .int .i64 0] [(0, 1), (1, 1)] [] h0 fun v2 h2 =>
 fShal (g3_5 t0) fun v3 =>
 p3_2 t0 v3 fun t1 =>
 kAny (aSt tO ro0 2 (.const (g3_3 t1)) (.const v2)) c h2 fun _ h4 =>
 some (.normal, t1, h4)
def SW41_0 : CodeS 3 :=
 cSeqS (cSeqS (cRegS (SR41_4)) (cIfS g3_26 (cSkipS) (cExitS 0))) (cSeqS (cBlkS 1 (cSeqS (cRegS (SR41_6)) (cSeqS (cSeqS (cRegS (SR41_7)) (cIfS g3_36 (cSeqS (cRegS (SR41_8)) (cRetS)) (cSkipS))) (cRegS (SR41_9))))) (cRegS (SR41_5)))
def SW41_1 : CodeS 3 :=
 cSeqS (cSeqS (cRegS (SR41_11)) (cIfS g3_60 (cSkipS) (cExitS 2))) (cSeqS (cBlkS 3 (cSeqS (cRegS (SR41_13)) (cRegS (SR41_14)))) (cRegS (SR41_12)))
def SF41 : CodeS 3 :=
 cSeqS (cRegS (SR41_0)) (cSeqS (cRegS (SR41_1)) (cSeqS (cRegS (SR41_2)) (cSeqS (cSeqS (cRegS (SR41_3)) (cBlkS 0 (cLoopS (SW41_0)))) (cSeqS (cSeqS (cRegS (SR41_10)) (cBlkS 2 (cLoopS (SW41_1)))) (cSeqS (cRegS (SR41_15)) (cSeqS (cRegS (SR41_16)) (cSeqS (cRegS (SR41_17)) (cRetS))))))))
def T41 : FnT := runG en3_1 (SF41) (resQ (qc (rT g3_2) (qc (rN 2 g3_3) qn)))
theorem T41_ok : GoodF Tryz.prog ro0 okF 41 (T41) :=
 (good_k (n := 103) acc3 (lv [0, 2, 3, 4, 5, 6, 7, 8, 9, 10, 26, 36, 60]) (rs := [ResultVar.tmp 2, ResultVar.cell 3 49]) Tryz.func41 (by kernel_rfl) (by kernel_rfl) (by kernel_rfl) (by kernel_rfl) (by kernel_rfl) (by kernel_rfl) (by kernel_rfl) (by kernel_rfl) (by kernel_rfl)).enter en3_1_ok (by kernel_rfl)

/-- circheck/checker.newRun -/
def SR42_0 : RegS 2 := fun c t0 h0 =>
 fShal (.pointer none) fun v1 =>
 p2_4 t0 v1 fun t1 =>
 some (.normal, t1, h0)
def SR42_1 : RegS 2 := fun c t0 h0 =>
 kBuild #[.pointer none, .int .i64 0, .int .i64 0, .slice none 0 0, .slice none 0 0, .slice none 0 0] [(0, 1), (1, 1), (2, 1), (3, 1), (4, 1), (5, 1)] [(0, (g2_0 t0)), (1, (g2_1 t0))] h0 fun v3 h3 =>
 kBox v3 h3 fun v4 h4 =>
 fShal v4 fun v5 =>
 p2_5 t0 v5 fun t1 =>
 some (.normal, t1, h4)
def SR42_2 : RegS 2 := fun c t0 h0 =>
 kOf (c 82 [(g2_0 t0)] h0) fun v2 h2 =>
 kNew [.pointer none, .slice none 0 0] h2 fun v3 h3 =>
 p2_6 t0 v3 fun t1 =>
 kAny (aSt tO ro0 2 (.const v3) (.const v2)) c h3 fun _ h4 =>
 some (.normal, t1, h4)
def SR42_3 : RegS 2 := fun c t0 h0 =>
 kOf (c 83 [(g2_6 t0), (g2_0 t0)] h0) fun v2 h2 =>
 some (.normal, t0, h2)
def SR42_4 : RegS 2 := fun c t0 h0 =>
 kOf (vLdN 2 (g2_6 t0) h0) fun v2 h2 =>
 kMkSl 2 1 #[.pointer none, .slice none 0 0] [(0, v2)] h2 fun v3 h3 =>
 kNil (g2_5 t0) h3 fun v4 h4 =>
 kFld 3 v4 h4 fun v5 h5 =>
 kSt ro0 v5 v3 h5 fun _ h6 =>
 some (.normal, t0, h6)
def SR42_5 : RegS 2 := fun c t0 h0 =>
 fShal (g2_5 t0) fun v2 =>
 p2_4 t0 v2 fun t1 =>
 some (.normal, t1, h0)
def SF42 : CodeS 2 :=
 cSeqS (cRegS (SR42_0)) (cSeqS (cRegS (SR42_1)) (cSeqS (cRegS (SR42_2)) (cSeqS (cRegS (SR42_3)) (cSeqS (cRegS (SR42_4)) (cSeqS (cRegS (SR42_5)) (cRetS))))))
def T42 : FnT := runG en2_2 (SF42) (resQ (qc (rT g2_4) qn))
theorem T42_ok : GoodF Tryz.prog ro0 okF 42 (T42) :=
 (good_k (n := 21) acc2 (lv [0, 1, 4, 5, 6]) (rs := [ResultVar.tmp 4]) Tryz.func42 (by kernel_rfl) (by kernel_rfl) (by kernel_rfl) (by kernel_rfl) (by kernel_rfl) (by kernel_rfl) (by kernel_rfl) (by kernel_rfl) (by kernel_rfl)).enter en2_2_ok (by kernel_rfl)

/-- (*circheck/checker.run).decide -/
def SR43_0 : RegS 2 := fun c t0 h0 =>
 fShal (.int .i64 0) fun v1 =>
 p2_2 t0 v1 fun t1 =>
 some (.normal, t1, h0)
def SR43_1 : RegS 2 := fun c t0 h0 =>
 fShal (.int .i64 0) fun v1 =>
 p2_3 t0 v1 fun t1 =>
 some (.normal, t1, h0)
def SR43_2 : RegS 2 := fun c t0 h0 =>
 kEql (g2_3 t0) (.int .i64 0) h0 fun v2 h2 =>
 p2_5 t0 v2 fun t1 =>
 some (.normal, t1, h2)
def SR43_3 : RegS 2 := fun c t0 h0 =>
 kOf (c 84 [(g2_0 t0)] h0) fun v2 h2 =>
 fShal v2 fun v3 =>
 p2_3 t0 v3 fun t1 =>
 some (.normal, t1, h2)
def SR43_4 : RegS 2 := fun c t0 h0 =>
 kEql (g2_3 t0) (.int .i64 0) h0 fun v2 h2 =>
 p2_9 t0 v2 fun t1 =>
 some (.normal, t1, h2)
def SR43_5 : RegS 2 := fun c t0 h0 =>
 kOf (c 85 [(g2_0 t0)] h0) fun v2 h2 =>
 fShal v2 fun v3 =>
 p2_3 t0 v3 fun t1 =>
 some (.normal, t1, h2)
def SR43_6 : RegS 2 := fun c t0 h0 =>
 fShal (g2_3 t0) fun v2 =>
 p2_2 t0 v2 fun t1 =>
 some (.normal, t1, h0)
def SW43_0 : CodeS 2 :=
 cSeqS (cSeqS (cRegS (SR43_2)) (cIfS g2_5 (cSkipS) (cExitS 0))) (cBlkS 1 (cSeqS (cRegS (SR43_3)) (cSeqS (cRegS (SR43_4)) (cIfS g2_9 (cRegS (SR43_5)) (cSkipS)))))
def SF43 : CodeS 2 :=
 cSeqS (cRegS (SR43_0)) (cSeqS (cRegS (SR43_1)) (cSeqS (cBlkS 0 (cLoopS (SW43_0))) (cSeqS (cRegS (SR43_6)) (cRetS))))
def T43 : FnT := runG en2_1 (SF43) (resQ (qc (rT g2_2) qn))
theorem T43_ok : GoodF Tryz.prog ro0 okF 43 (T43) :=
 (good_k (n := 13) acc2 (lv [0, 2, 3, 5, 9]) (rs := [ResultVar.tmp 2]) Tryz.func43 (by kernel_rfl) (by kernel_rfl) (by kernel_rfl) (by kernel_rfl) (by kernel_rfl) (by kernel_rfl) (by kernel_rfl) (by kernel_rfl) (by kernel_rfl)).enter en2_1_ok (by kernel_rfl)

/-- (*circheck/checker.run).result -/
def SR44_0 : RegS 2 := fun c t0 h0 =>
 fShal (.pointer none) fun v1 =>
 p2_4 t0 v1 fun t1 =>
 some (.normal, t1, h0)
def SR44_1 : RegS 2 := fun c t0 h0 =>
 kNil (g2_0 t0) h0 fun v3 h3 =>
 kFld 2 v3 h3 fun v4 h4 =>
 kLd v4 h4 fun v5 h5 =>
 kBuild #[.int .i64 0, .int .i64 0, .int .i64 0, .slice none 0 0, .int .i64 0, .slice none 0 0, .int .i64 0, .string ⟨#[]⟩] [(0, 1), (1, 2), (3, 1), (4, 1), (5, 1), (6, 1), (7, 1)] [(0, (g2_1 t0)), (5, v5)] h5 fun v6 h6 =>
 kBox v6 h6 fun v7 h7 =>
 fShal v7 fun v8 =>
 p2_5 t0 v8 fun t1 =>
 some (.normal, t1, h7)
def SR44_2 : RegS 2 := fun c t0 h0 =>
 fShal (g2_1 t0) fun v1 =>
 p2_13 t0 v1 fun t1 =>
 some (.normal, t1, h0)
def SR44_3 : RegS 2 := fun c t0 h0 =>
 kEql (g2_13 t0) (.int .i64 1) h0 fun v1 h1 =>
 fShal v1 fun v2 =>
 p2_14 t0 v2 fun t1 =>
 some (.normal, t1, h1)
def SR44_4 : RegS 2 := fun c t0 h0 =>
 kNil (g2_0 t0) h0 fun v3 h3 =>
 kFld 5 v3 h3 fun v4 h4 =>
 kLd v4 h4 fun v5 h5 =>
 kNil (g2_5 t0) h5 fun v6 h6 =>
 kFld 3 v6 h6 fun v7 h7 =>
 kSt ro0 v7 v5 h7 fun _ h8 =>
 some (.normal, t0, h8)
def SR44_5 : RegS 2 := fun c t0 h0 =>
 kOf (c 86 [(g2_0 t0)] h0) fun v3 h3 =>
 kNil (g2_5 t0) h3 fun v4 h4 =>
 kFld 7 v4 h4 fun v5 h5 =>
 kSt ro0 v5 v3 h5 fun _ h6 =>
 some (.normal, t0, h6)
def SR44_6 : RegS 2 := fun c t0 h0 =>
 kEql (g2_13 t0) (.int .i64 2) h0 fun v1 h1 =>
 fShal v1 fun v2 =>
 p2_28 t0 v2 fun t1 =>
 some (.normal, t1, h1)
def SR44_7 : RegS 2 := fun c t0 h0 =>
 kOf (c 87 [(g2_0 t0)] h0) fun v3 h3 =>
 kNil (g2_5 t0) h3 fun v4 h4 =>
 kFld 4 v4 h4 fun v5 h5 =>
 kSt ro0 v5 v3 h5 fun _ h6 =>
 some (.normal, t0, h6)
def SR44_8 : RegS 2 := fun c t0 h0 =>
 kOf (c 88 [(g2_0 t0)] h0) fun v3 h3 =>
 kNil (g2_5 t0) h3 fun v4 h4 =>
 kFld 5 v4 h4 fun v5 h5 =>
 kSt ro0 v5 v3 h5 fun _ h6 =>
 some (.normal, t0, h6)
def SR44_9 : RegS 2 := fun c t0 h0 =>
 kOf (c 89 [(g2_0 t0)] h0) fun v3 h3 =>
 kNil (g2_5 t0) h3 fun v4 h4 =>
 kFld 7 v4 h4 fun v5 h5 =>
 kSt ro0 v5 v3 h5 fun _ h6 =>
 some (.normal, t0, h6)
def SR44_10 : RegS 2 := fun c t0 h0 =>
 kEql (g2_13 t0) (.int .i64 3) h0 fun v1 h1 =>
 fShal v1 fun v2 =>
 p2_45 t0 v2 fun t1 =>
 some (.normal, t1, h1)
def SR44_11 : RegS 2 := fun c t0 h0 =>
 kNil (g2_5 t0) h0 fun v2 h2 =>
 kFld 7 v2 h2 fun v3 h3 =>
 kSt ro0 v3 (.string { data := #[50, 10, 98, 48, 10, 46, 10] }) h3 fun _ h4 =>
 some (.normal, t0, h4)
def SR44_12 : RegS 2 := fun c t0 h0 =>
 fShal (g2_5 t0) fun v2 =>
 p2_4 t0 v2 fun t1 =>
 some (.normal, t1, h0)
def SF44 : CodeS 2 :=
 cSeqS (cRegS (SR44_0)) (cSeqS (cRegS (SR44_1)) (cSeqS (cSeqS (cRegS (SR44_2)) (cBlkS 0 (cSeqS (cRegS (SR44_3)) (cIfS g2_14 (cSeqS (cRegS (SR44_4)) (cRegS (SR44_5))) (cSeqS (cRegS (SR44_6)) (cIfS g2_28 (cSeqS (cRegS (SR44_7)) (cSeqS (cRegS (SR44_8)) (cRegS (SR44_9)))) (cSeqS (cRegS (SR44_10)) (cIfS g2_45 (cRegS (SR44_11)) (cSkipS))))))))) (cSeqS (cRegS (SR44_12)) (cRetS))))
def T44 : FnT := runG en2_2 (SF44) (resQ (qc (rT g2_4) qn))
theorem T44_ok : GoodF Tryz.prog ro0 okF 44 (T44) :=
 (good_k (n := 51) acc2 (lv [0, 1, 4, 5, 13, 14, 28, 45]) (rs := [ResultVar.tmp 4]) Tryz.func44 (by kernel_rfl) (by kernel_rfl) (by kernel_rfl) (by kernel_rfl) (by kernel_rfl) (by kernel_rfl) (by kernel_rfl) (by kernel_rfl) (by kernel_rfl)).enter en2_2_ok (by kernel_rfl)

/-- (*circheck/checker.Circuit).counts -/
def SR45_0 : RegS 2 := fun c t0 h0 =>
 fShal (.string { data := #[] }) fun v1 =>
 p2_2 t0 v1 fun t1 =>
 some (.normal, t1, h0)
def SR45_1 : RegS 2 := fun c t0 h0 =>
 kNil (g2_0 t0) h0 fun v2 h2 =>
 kFld 0 v2 h2 fun v3 h3 =>
 kLd v3 h3 fun v4 h4 =>
 kNil (g2_0 t0) h4 fun v6 h6 =>
 kFld 1 v6 h6 fun v7 h7 =>
 kLd v7 h7 fun v8 h8 =>
 kLenSl v8 h8 fun v9 h9 =>
 kAdd v4 v9 h9 fun v10 h10 =>
 kNil (g2_0 t0) h10 fun v12 h12 =>
 kFld 2 v12 h12 fun v13 h13 =>
 kLd v13 h13 fun v14 h14 =>
 kLenSl v14 h14 fun v15 h15 =>
 kAdd v10 v15 h15 fun v16 h16 =>
 fShal v16 fun v17 =>
 p2_3 t0 v17 fun t1 =>
 some (.normal, t1, h16)
def SR45_2 : RegS 2 := fun c t0 h0 =>
 kNil (g2_0 t0) h0 fun v3 h3 =>
 kFld 0 v3 h3 fun v4 h4 =>
 kLd v4 h4 fun v5 h5 =>
 kNil (g2_0 t0) h5 fun v7 h7 =>
 kFld 1 v7 h7 fun v8 h8 =>
 kLd v8 h8 fun v9 h9 =>
 kLenSl v9 h9 fun v10 h10 =>
 kNil (g2_0 t0) h10 fun v12 h12 =>
 kFld 2 v12 h12 fun v13 h13 =>
 kLd v13 h13 fun v14 h14 =>
 kLenSl v14 h14 fun v15 h15 =>
 kMkSl 1 6 #[.int .i64 0] [(0, (g2_3 t0)), (1, v5), (2, v10), (3, (.int .i64 0)), (4, v15), (5, (.int .i64 1))] h15 fun v16 h16 =>
 kOf (c 46 [v16] h16) fun v17 h17 =>
 fShal v17 fun v18 =>
 p2_2 t0 v18 fun t1 =>
 some (.normal, t1, h17)
def SF45 : CodeS 2 :=
 cSeqS (cRegS (SR45_0)) (cSeqS (cRegS (SR45_1)) (cSeqS (cRegS (SR45_2)) (cRetS)))
def T45 : FnT := runG en2_1 (SF45) (resQ (qc (rT g2_2) qn))
theorem T45_ok : GoodF Tryz.prog ro0 okF 45 (T45) :=
 (good_k (n := 37) acc2 (lv [0, 2, 3]) (rs := [ResultVar.tmp 2]) Tryz.func45 (by kernel_rfl) (by kernel_rfl) (by kernel_rfl) (by kernel_rfl) (by kernel_rfl) (by kernel_rfl) (by kernel_rfl) (by kernel_rfl) (by kernel_rfl)).enter en2_1_ok (by kernel_rfl)

/-- circheck/checker.line -/
def SR46_0 : RegS 2 := fun c t0 h0 =>
 fShal (.string { data := #[] }) fun v1 =>
 p2_2 t0 v1 fun t1 =>
 some (.normal, t1, h0)
def SR46_1 : RegS 2 := fun c t0 h0 =>
 fShal (.string { data := #[] }) fun v1 =>
 p2_3 t0 v1 fun t1 =>
 some (.normal, t1, h0)
def SR46_2 : RegS 2 := fun c t0 h0 =>
 fShal (.int .i64 0) fun v1 =>
 p2_4 t0 v1 fun t1 =>
 some (.normal, t1, h0)
def SR46_3 : RegS 2 := fun c t0 h0 =>
 kLenSl (g2_0 t0) h0 fun v3 h3 =>
 kLss (g2_4 t0) v3 h3 fun v4 h4 =>
 p2_8 t0 v4 fun t1 =>
 some (.normal, t1, h4)
def SR46_5 : RegS 2 := fun c t0 h0 =>
 kGtr (g2_4 t0) (.int .i64 0) h0 fun v2 h2 =>
 p2_12 t0 v2 fun t1 =>
 some (.normal, t1, h2)
def SR46_6 : RegS 2 := fun c t0 h0 =>
 kAny (aStr .add (.const (g2_3 t0)) (.const (.string { data := #[32] }))) c h0 fun v2 h2 =>
 fShal v2 fun v3 =>
 p2_3 t0 v3 fun t1 =>
 some (.normal, t1, h2)
def SR46_7 : RegS 2 := fun c t0 h0 =>
 kIdx 1 (g2_0 t0) (g2_4 t0) h0 fun v4 h4 =>
 kLd v4 h4 fun v5 h5 =>
 kOf (c 48 [v5] h5) fun v6 h6 =>
 kAny (aStr .add (.const (g2_3 t0)) (.const v6)) c h6 fun v7 h7 =>
 fShal v7 fun v8 =>
 p2_3 t0 v8 fun t1 =>
 some (.normal, t1, h7)
def SR46_4 : RegS 2 := fun c t0 h0 =>
 kAdd (g2_4 t0) (.int .i64 1) h0 fun v2 h2 =>
 fShal v2 fun v3 =>
 p2_4 t0 v3 fun t1 =>
 some (.normal, t1, h2)
def SR46_8 : RegS 2 := fun c t0 h0 =>
 kAny (aStr .add (.const (g2_3 t0)) (.const (.string { data := #[10] }))) c h0 fun v2 h2 =>
 fShal v2 fun v3 =>
 p2_2 t0 v3 fun t1 =>
 some (.normal, t1, h2)
def SW46_0 : CodeS 2 :=
 cSeqS (cSeqS (cRegS (SR46_3)) (cIfS g2_8 (cSkipS) (cExitS 0))) (cSeqS (cBlkS 1 (cSeqS (cSeqS (cRegS (SR46_5)) (cIfS g2_12 (cRegS (SR46_6)) (cSkipS))) (cRegS (SR46_7)))) (cRegS (SR46_4)))
def SF46 : CodeS 2 :=
 cSeqS (cRegS (SR46_0)) (cSeqS (cRegS (SR46_1)) (cSeqS (cSeqS (cRegS (SR46_2)) (cBlkS 0 (cLoopS (SW46_0)))) (cSeqS (cRegS (SR46_8)) (cRetS))))
def T46 : FnT := runG en2_1 (SF46) (resQ (qc (rT g2_2) qn))
theorem T46_ok : GoodF Tryz.prog ro0 okF 46 (T46) :=
 (good_k (n := 24) acc2 (lv [0, 2, 3, 4, 8, 12]) (rs := [ResultVar.tmp 2]) Tryz.func46 (by kernel_rfl) (by kernel_rfl) (by kernel_rfl) (by kernel_rfl) (by kernel_rfl) (by kernel_rfl) (by kernel_rfl) (by kernel_rfl) (by kernel_rfl)).enter en2_1_ok (by kernel_rfl)

/-- (*circheck/checker.Circuit).latchLiteral -/
def SR47_0 : RegS 2 := fun c t0 h0 =>
 fShal (.int .i64 0) fun v1 =>
 p2_4 t0 v1 fun t1 =>
 some (.normal, t1, h0)
def SR47_1 : RegS 2 := fun c t0 h0 =>
 kNil (g2_0 t0) h0 fun v2 h2 =>
 kFld 0 v2 h2 fun v3 h3 =>
 kLd v3 h3 fun v4 h4 =>
 kAdd (.int .i64 1) v4 h4 fun v5 h5 =>
 kAdd v5 (g2_1 t0) h5 fun v7 h7 =>
 kOf (vInt .mul (.int .i64 2) v7 h7) fun v8 h8 =>
 fShal v8 fun v9 =>
 p2_4 t0 v9 fun t1 =>
 some (.normal, t1, h8)
def SF47 : CodeS 2 :=
 cSeqS (cRegS (SR47_0)) (cSeqS (cRegS (SR47_1)) (cRetS))
def T47 : FnT := runG en2_2 (SF47) (resQ (qc (rT g2_4) qn))
theorem T47_ok : GoodF Tryz.prog ro0 okF 47 (T47) :=
 (good_k (n := 13) acc2 (lv [0, 1, 4]) (rs := [ResultVar.tmp 4]) Tryz.func47 (by kernel_rfl) (by kernel_rfl) (by kernel_rfl) (by kernel_rfl) (by kernel_rfl) (by kernel_rfl) (by kernel_rfl) (by kernel_rfl) (by kernel_rfl)).enter en2_2_ok (by kernel_rfl)

/-- strconv.Itoa -/
def SR48_0 : RegS 1 := fun c t0 h0 =>
 fShal (.string { data := #[] }) fun v1 =>
 p1_2 t0 v1 fun t1 =>
 some (.normal, t1, h0)
def SR48_1 : RegS 1 := fun c t0 h0 =>
 kOf (c 90 [(g1_0 t0)] h0) fun v2 h2 =>
 fShal v2 fun v3 =>
 p1_2 t0 v3 fun t1 =>
 some (.normal, t1, h2)
def SF48 : CodeS 1 :=
 cSeqS (cRegS (SR48_0)) (cSeqS (cRegS (SR48_1)) (cRetS))
def T48 : FnT := runG en1_1 (SF48) (resQ (qc (rT g1_2) qn))
theorem T48_ok : GoodF Tryz.prog ro0 okF 48 (T48) :=
 (good_k (n := 5) acc1 (lv [0, 2]) (rs := [ResultVar.tmp 2]) Tryz.func48 (by kernel_rfl) (by kernel_rfl) (by kernel_rfl) (by kernel_rfl) (by kernel_rfl) (by kernel_rfl) (by kernel_rfl) (by kernel_rfl) (by kernel_rfl)).enter en1_1_ok (by kernel_rfl)

/-- (circheck/checker.latch).tail -/
def SR49_0 : RegS 2 := fun c t0 h0 =>
 kBox (g2_0 t0) h0 fun v1 h1 =>
 p2_2 t0 v1 fun t1 =>
 fShal (.string { data := #[] }) fun v2 =>
 p2_4 t1 v2 fun t2 =>
 some (.normal, t2, h1)
def SR49_1 : RegS 2 := fun c t0 h0 =>
 kFld 0 (g2_2 t0) h0 fun v1 h1 =>
 kLd v1 h1 fun v2 h2 =>
 kMkSl 1 1 #[.int .i64 0] [(0, v2)] h2 fun v3 h3 =>
 fShal v3 fun v4 =>
 p2_5 t0 v4 fun t1 =>
 some (.normal, t1, h3)
def SR49_2 : RegS 2 := fun c t0 h0 =>
 kFld 1 (g2_2 t0) h0 fun v1 h1 =>
 kLd v1 h1 fun v2 h2 =>
 p2_10 t0 v2 fun t1 =>
 some (.normal, t1, h2)
def SR49_3 : RegS 2 := fun c t0 h0 =>
 kEql (g2_10 t0) (.int .i64 1) h0 fun v1 h1 =>
 fShal v1 fun v2 =>
 p2_11 t0 v2 fun t1 =>
 some (.normal, t1, h1)
def SR49_4 : RegS 2 := fun c t0 h0 =>
 kMkSl 1 1 #[.int .i64 0] [(0, (.int .i64 1))] h0 fun v2 h2 =>
 kOf (vApp ro0 1 8 (g2_5 t0) v2 h2) fun v3 h3 =>
 fShal v3 fun v4 =>
 p2_5 t0 v4 fun t1 =>
 some (.normal, t1, h3)
def SR49_5 : RegS 2 := fun c t0 h0 =>
 kEql (g2_10 t0) (.int .i64 2) h0 fun v1 h1 =>
 fShal v1 fun v2 =>
 p2_16 t0 v2 fun t1 =>
 some (.normal, t1, h1)
def SR49_6 : RegS 2 := fun c t0 h0 =>
 kMkSl 1 1 #[.int .i64 0] [(0, (g2_1 t0))] h0 fun v3 h3 =>
 kOf (vApp ro0 1 8 (g2_5 t0) v3 h3) fun v4 h4 =>
 fShal v4 fun v5 =>
 p2_5 t0 v5 fun t1 =>
 some (.normal, t1, h4)
def SR49_7 : RegS 2 := fun c t0 h0 =>
 kOf (c 46 [(g2_5 t0)] h0) fun v2 h2 =>
 fShal v2 fun v3 =>
 p2_4 t0 v3 fun t1 =>
 some (.normal, t1, h2)
def SF49 : CodeS 2 :=
 cSeqS (cRegS (SR49_0)) (cSeqS (cRegS (SR49_1)) (cSeqS (cSeqS (cRegS (SR49_2)) (cBlkS 0 (cSeqS (cRegS (SR49_3)) (cIfS g2_11 (cRegS (SR49_4)) (cSeqS (cRegS (SR49_5)) (cIfS g2_16 (cRegS (SR49_6)) (cSkipS))))))) (cSeqS (cRegS (SR49_7)) (cRetS))))
def T49 : FnT := runG en2_2 (SF49) (resQ (qc (rT g2_4) qn))
theorem T49_ok : GoodF Tryz.prog ro0 okF 49 (T49) :=
 (good_k (n := 24) acc2 (lv [0, 1, 2, 4, 5, 10, 11, 16]) (rs := [ResultVar.tmp 4]) Tryz.func49 (by kernel_rfl) (by kernel_rfl) (by kernel_rfl) (by kernel_rfl) (by kernel_rfl) (by kernel_rfl) (by kernel_rfl) (by kernel_rfl) (by kernel_rfl)).enter en2_2_ok (by kernel_rfl)

/-- (*circheck/checker.Circuit).gateLiteral -/
def SR50_0 : RegS 2 := fun c t0 h0 =>
 fShal (.int .i64 0) fun v1 =>
 p2_4 t0 v1 fun t1 =>
 some (.normal, t1, h0)
def SR50_1 : RegS 2 := fun c t0 h0 =>
 kNil (g2_0 t0) h0 fun v2 h2 =>
 kFld 0 v2 h2 fun v3 h3 =>
 kLd v3 h3 fun v4 h4 =>
 kAdd (.int .i64 1) v4 h4 fun v5 h5 =>
 kNil (g2_0 t0) h5 fun v7 h7 =>
 kFld 1 v7 h7 fun v8 h8 =>
 kLd v8 h8 fun v9 h9 =>
 kLenSl v9 h9 fun v10 h10 =>
 kAdd v5 v10 h10 fun v11 h11 =>
 kAdd v11 (g2_1 t0) h11 fun v13 h13 =>
 kOf (vInt .mul (.int .i64 2) v13 h13) fun v14 h14 =>
 fShal v14 fun v15 =>
 p2_4 t0 v15 fun t1 =>
 some (.normal, t1, h14)
def SF50 : CodeS 2 :=
 cSeqS (cRegS (SR50_0)) (cSeqS (cRegS (SR50_1)) (cRetS))
def T50 : FnT := runG en2_2 (SF50) (resQ (qc (rT g2_4) qn))
theorem T50_ok : GoodF Tryz.prog ro0 okF 50 (T50) :=
 (good_k (n := 19) acc2 (lv [0, 1, 4]) (rs := [ResultVar.tmp 4]) Tryz.func50 (by kernel_rfl) (by kernel_rfl) (by kernel_rfl) (by kernel_rfl) (by kernel_rfl) (by kernel_rfl) (by kernel_rfl) (by kernel_rfl) (by kernel_rfl)).enter en2_2_ok (by kernel_rfl)

/-- circheck/checker.differenceBytes -/
def SR51_0 : RegS 2 := fun c t0 h0 =>
 fShal (.string { data := #[] }) fun v1 =>
 p2_2 t0 v1 fun t1 =>
 some (.normal, t1, h0)
def SR51_1 : RegS 2 := fun c t0 h0 =>
 kLss (g2_0 t0) (.int .i64 128) h0 fun v2 h2 =>
 p2_4 t0 v2 fun t1 =>
 some (.normal, t1, h2)
def SR51_2 : RegS 2 := fun c t0 h0 =>
 kAny (aConv .u8 (.const (g2_0 t0))) c h0 fun v2 h2 =>
 kMkSl 1 1 #[.int .u8 0] [(0, v2)] h2 fun v3 h3 =>
 kAny (aB2S tO (.const v3)) c h3 fun v4 h4 =>
 fShal v4 fun v5 =>
 p2_2 t0 v5 fun t1 =>
 some (.normal, t1, h4)
def SR51_3 : RegS 2 := fun c t0 h0 =>
 kOf (vInt .rem (g2_0 t0) (.int .i64 128) h0) fun v2 h2 =>
 kAdd v2 (.int .i64 128) h2 fun v3 h3 =>
 kAny (aConv .u8 (.const v3)) c h3 fun v4 h4 =>
 kOf (vInt .quo (g2_0 t0) (.int .i64 128) h4) fun v6 h6 =>
 kAny (aConv .u8 (.const v6)) c h6 fun v7 h7 =>
 kMkSl 1 2 #[.int .u8 0] [(0, v4), (1, v7)] h7 fun v8 h8 =>
 kAny (aB2S tO (.const v8)) c h8 fun v9 h9 =>
 fShal v9 fun v10 =>
 p2_2 t0 v10 fun t1 =>
 some (.normal, t1, h9)
def SF51 : CodeS 2 :=
 cSeqS (cRegS (SR51_0)) (cSeqS (cSeqS (cRegS (SR51_1)) (cIfS g2_4 (cSeqS (cRegS (SR51_2)) (cRetS)) (cSkipS))) (cSeqS (cRegS (SR51_3)) (cRetS)))
def T51 : FnT := runG en2_1 (SF51) (resQ (qc (rT g2_2) qn))
theorem T51_ok : GoodF Tryz.prog ro0 okF 51 (T51) :=
 (good_k (n := 18) acc2 (lv [0, 2, 4]) (rs := [ResultVar.tmp 2]) Tryz.func51 (by kernel_rfl) (by kernel_rfl) (by kernel_rfl) (by kernel_rfl) (by kernel_rfl) (by kernel_rfl) (by kernel_rfl) (by kernel_rfl) (by kernel_rfl)).enter en2_1_ok (by kernel_rfl)

/-- circheck/circhecksays.sameInts -/
def SR52_0 : RegS 2 := fun c t0 h0 =>
 fShal (.bool false) fun v1 =>
 p2_4 t0 v1 fun t1 =>
 some (.normal, t1, h0)
def SR52_1 : RegS 2 := fun c t0 h0 =>
 kLenSl (g2_0 t0) h0 fun v2 h2 =>
 kLenSl (g2_1 t0) h2 fun v4 h4 =>
 kNeq v2 v4 h4 fun v5 h5 =>
 p2_10 t0 v5 fun t1 =>
 some (.normal, t1, h5)
def SR52_2 : RegS 2 := fun c t0 h0 =>
 fShal (.bool false) fun v1 =>
 p2_4 t0 v1 fun t1 =>
 some (.normal, t1, h0)
def SR52_3 : RegS 2 := fun c t0 h0 =>
 fShal (.int .i64 0) fun v1 =>
 p2_5 t0 v1 fun t1 =>
 some (.normal, t1, h0)
def SR52_4 : RegS 2 := fun c t0 h0 =>
 kLenSl (g2_0 t0) h0 fun v3 h3 =>
 kLss (g2_5 t0) v3 h3 fun v4 h4 =>
 p2_14 t0 v4 fun t1 =>
 some (.normal, t1, h4)
def SR52_6 : RegS 2 := fun c t0 h0 =>
 kIdx 1 (g2_0 t0) (g2_5 t0) h0 fun v3 h3 =>
 kLd v3 h3 fun v4 h4 =>
 kIdx 1 (g2_1 t0) (g2_5 t0) h4 fun v7 h7 =>
 kLd v7 h7 fun v8 h8 =>
 kNeq v4 v8 h8 fun v9 h9 =>
 p2_25 t0 v9 fun t1 =>
 some (.normal, t1, h9)
def SR52_7 : RegS 2 := fun c t0 h0 =>
 fShal (.bool false) fun v1 =>
 p2_4 t0 v1 fun t1 =>
 some (.normal, t1, h0)
def SR52_5 : RegS 2 := fun c t0 h0 =>
 kAdd (g2_5 t0) (.int .i64 1) h0 fun v2 h2 =>
 fShal v2 fun v3 =>
 p2_5 t0 v3 fun t1 =>
 some (.normal, t1, h2)
def SR52_8 : RegS 2 := fun c t0 h0 =>
 fShal (.bool true) fun v1 =>
 p2_4 t0 v1 fun t1 =>
 some (.normal, t1, h0)
def SW52_0 : CodeS 2 :=
 cSeqS (cSeqS (cRegS (SR52_4)) (cIfS g2_14 (cSkipS) (cExitS 0))) (cSeqS (cBlkS 1 (cSeqS (cRegS (SR52_6)) (cIfS g2_25 (cSeqS (cRegS (SR52_7)) (cRetS)) (cSkipS)))) (cRegS (SR52_5)))
def SF52 : CodeS 2 :=
 cSeqS (cRegS (SR52_0)) (cSeqS (cSeqS (cRegS (SR52_1)) (cIfS g2_10 (cSeqS (cRegS (SR52_2)) (cRetS)) (cSkipS))) (cSeqS (cSeqS (cRegS (SR52_3)) (cBlkS 0 (cLoopS (SW52_0)))) (cSeqS (cRegS (SR52_8)) (cRetS))))
def T52 : FnT := runG en2_2 (SF52) (resQ (qc (rT g2_4) qn))
theorem T52_ok : GoodF Tryz.prog ro0 okF 52 (T52) :=
 (good_k (n := 26) acc2 (lv [0, 1, 4, 5, 10, 14, 25]) (rs := [ResultVar.tmp 4]) Tryz.func52 (by kernel_rfl) (by kernel_rfl) (by kernel_rfl) (by kernel_rfl) (by kernel_rfl) (by kernel_rfl) (by kernel_rfl) (by kernel_rfl) (by kernel_rfl)).enter en2_2_ok (by kernel_rfl)

/-- circheck/checker.New -/
def SR58_0 : RegS 1 := fun c t0 h0 =>
 fShal (.pointer none) fun v1 =>
 p1_0 t0 v1 fun t1 =>
 some (.normal, t1, h0)
def SR58_1 : RegS 1 := fun c t0 h0 =>
 kBuild #[.slice none 0 0, .slice none 0 0, .slice none 0 0, .slice none 0 0, .int .i64 0] [(0, 1), (1, 1), (2, 1), (3, 1), (4, 1)] [] h0 fun v1 h1 =>
 kBox v1 h1 fun v2 h2 =>
 fShal v2 fun v3 =>
 p1_0 t0 v3 fun t1 =>
 some (.normal, t1, h2)
def SF58 : CodeS 1 :=
 cSeqS (cRegS (SR58_0)) (cSeqS (cRegS (SR58_1)) (cRetS))
def T58 : FnT := runG en1_0 (SF58) (resQ (qc (rT g1_0) qn))
theorem T58_ok : GoodF Tryz.prog ro0 okF 58 (T58) :=
 (good_k (n := 3) acc1 (lv [0]) (rs := [ResultVar.tmp 0]) Tryz.func58 (by kernel_rfl) (by kernel_rfl) (by kernel_rfl) (by kernel_rfl) (by kernel_rfl) (by kernel_rfl) (by kernel_rfl) (by kernel_rfl) (by kernel_rfl)).enter en1_0_ok (by kernel_rfl)

/-- circheck/circhecksays.num -/
def SR62_0 : RegS 2 := fun c t0 h0 =>
 fShal (.string { data := #[] }) fun v1 =>
 p2_2 t0 v1 fun t1 =>
 some (.normal, t1, h0)
def SR62_1 : RegS 2 := fun c t0 h0 =>
 kLss (g2_0 t0) (.int .i64 10) h0 fun v2 h2 =>
 p2_5 t0 v2 fun t1 =>
 some (.normal, t1, h2)
def SR62_2 : RegS 2 := fun c t0 h0 =>
 kAdd (.int .i64 48) (g2_0 t0) h0 fun v2 h2 =>
 kAny (aConv .u8 (.const v2)) c h2 fun v3 h3 =>
 kMkSl 1 1 #[.int .u8 0] [(0, v3)] h3 fun v4 h4 =>
 kAny (aB2S tO (.const v4)) c h4 fun v5 h5 =>
 fShal v5 fun v6 =>
 p2_2 t0 v6 fun t1 =>
 some (.normal, t1, h5)
def SR62_3 : RegS 2 := fun c t0 h0 =>
 kOf (vInt .quo (g2_0 t0) (.int .i64 10) h0) fun v2 h2 =>
 kOf (c 62 [v2] h2) fun v3 h3 =>
 fShal v3 fun v4 =>
 p2_3 t0 v4 fun t1 =>
 some (.normal, t1, h3)
def SR62_4 : RegS 2 := fun c t0 h0 =>
 kOf (vInt .rem (g2_0 t0) (.int .i64 10) h0) fun v3 h3 =>
 kAdd (.int .i64 48) v3 h3 fun v4 h4 =>
 kAny (aConv .u8 (.const v4)) c h4 fun v5 h5 =>
 kMkSl 1 1 #[.int .u8 0] [(0, v5)] h5 fun v6 h6 =>
 kAny (aB2S tO (.const v6)) c h6 fun v7 h7 =>
 kAny (aStr .add (.const (g2_3 t0)) (.const v7)) c h7 fun v8 h8 =>
 fShal v8 fun v9 =>
 p2_2 t0 v9 fun t1 =>
 some (.normal, t1, h8)
def SF62 : CodeS 2 :=
 cSeqS (cRegS (SR62_0)) (cSeqS (cSeqS (cRegS (SR62_1)) (cIfS g2_5 (cSeqS (cRegS (SR62_2)) (cRetS)) (cSkipS))) (cSeqS (cRegS (SR62_3)) (cSeqS (cRegS (SR62_4)) (cRetS))))
def T62 : FnT := runG en2_1 (SF62) (resQ (qc (rT g2_2) qn))
theorem T62_ok : GoodF Tryz.prog ro0 okF 62 (T62) :=
 (good_k (n := 22) acc2 (lv [0, 2, 3, 5]) (rs := [ResultVar.tmp 2]) Tryz.func62 (by kernel_rfl) (by kernel_rfl) (by kernel_rfl) (by kernel_rfl) (by kernel_rfl) (by kernel_rfl) (by kernel_rfl) (by kernel_rfl) (by kernel_rfl)).enter en2_1_ok (by kernel_rfl)

/-- (*circheck/checker.reader).expect -/
def SR63_0 : RegS 2 := fun c t0 h0 =>
 kOf (c 64 [(g2_0 t0), (g2_1 t0)] h0) fun v3 h3 =>
 kNot v3 h3 fun v4 h4 =>
 p2_7 t0 v4 fun t1 =>
 some (.normal, t1, h4)
def SR63_1 : RegS 2 := fun c t0 h0 =>
 kNil (g2_0 t0) h0 fun v3 h3 =>
 kFld 1 v3 h3 fun v4 h4 =>
 kLd v4 h4 fun v5 h5 =>
 kOf (c 67 [(g2_0 t0), (.int .i64 2), v5] h5) fun v6 h6 =>
 some (.normal, t0, h6)
def SF63 : CodeS 2 :=
 cSeqS (cRegS (SR63_0)) (cIfS g2_7 (cRegS (SR63_1)) (cSkipS))
def T63 : FnT := runG en2_2 (SF63) (resQ qn)
theorem T63_ok : GoodF Tryz.prog ro0 okF 63 (T63) :=
 (good_k (n := 14) acc2 (lv [0, 1, 7]) (rs := []) Tryz.func63 (by kernel_rfl) (by kernel_rfl) (by kernel_rfl) (by kernel_rfl) (by kernel_rfl) (by kernel_rfl) (by kernel_rfl) (by kernel_rfl) (by kernel_rfl)).enter en2_2_ok (by kernel_rfl)

/-- (*circheck/checker.reader).take -/
def SR64_0 : RegS 2 := fun c t0 h0 =>
 fShal (.bool false) fun v1 =>
 p2_4 t0 v1 fun t1 =>
 some (.normal, t1, h0)
def SR64_1 : RegS 2 := fun c t0 h0 =>
 kOf (c 65 [(g2_0 t0)] h0) fun v2 h2 =>
 kNeq v2 (g2_1 t0) h2 fun v4 h4 =>
 p2_8 t0 v4 fun t1 =>
 some (.normal, t1, h4)
def SR64_2 : RegS 2 := fun c t0 h0 =>
 fShal (.bool false) fun v1 =>
 p2_4 t0 v1 fun t1 =>
 some (.normal, t1, h0)
def SR64_3 : RegS 2 := fun c t0 h0 =>
 kNil (g2_0 t0) h0 fun v2 h2 =>
 kFld 1 v2 h2 fun v3 h3 =>
 kLd v3 h3 fun v4 h4 =>
 kAdd v4 (.int .i64 1) h4 fun v5 h5 =>
 kNil (g2_0 t0) h5 fun v6 h6 =>
 kFld 1 v6 h6 fun v7 h7 =>
 kSt ro0 v7 v5 h7 fun _ h8 =>
 some (.normal, t0, h8)
def SR64_4 : RegS 2 := fun c t0 h0 =>
 fShal (.bool true) fun v1 =>
 p2_4 t0 v1 fun t1 =>
 some (.normal, t1, h0)
def SF64 : CodeS 2 :=
 cSeqS (cRegS (SR64_0)) (cSeqS (cSeqS (cRegS (SR64_1)) (cIfS g2_8 (cSeqS (cRegS (SR64_2)) (cRetS)) (cSkipS))) (cSeqS (cRegS (SR64_3)) (cSeqS (cRegS (SR64_4)) (cRetS))))
def T64 : FnT := runG en2_2 (SF64) (resQ (qc (rT g2_4) qn))
theorem T64_ok : GoodF Tryz.prog ro0 okF 64 (T64) :=
 (good_k (n := 16) acc2 (lv [0, 1, 4, 8]) (rs := [ResultVar.tmp 4]) Tryz.func64 (by kernel_rfl) (by kernel_rfl) (by kernel_rfl) (by kernel_rfl) (by kernel_rfl) (by kernel_rfl) (by kernel_rfl) (by kernel_rfl) (by kernel_rfl)).enter en2_2_ok (by kernel_rfl)

/-- (*circheck/checker.reader).peek -/
def SR65_0 : RegS 2 := fun c t0 h0 =>
 fShal (.int .i64 0) fun v1 =>
 p2_2 t0 v1 fun t1 =>
 some (.normal, t1, h0)
def SR65_1 : RegS 2 := fun c t0 h0 =>
 kNil (g2_0 t0) h0 fun v2 h2 =>
 kFld 2 v2 h2 fun v3 h3 =>
 kFld 0 v3 h3 fun v4 h4 =>
 kLd v4 h4 fun v5 h5 =>
 kNeq v5 (.int .i64 0) h5 fun v6 h6 =>
 kIf v6 false (fun k => k (g2_0 t0) h6) h6 fun v8 h8 =>
 kIf v6 false (fun k => kNil v8 h8 k) h8 fun v9 h9 =>
 kIf v6 false (fun k => kFld 1 v9 h9 k) h9 fun v10 h10 =>
 kIf v6 false (fun k => kLd v10 h10 k) h10 fun v11 h11 =>
 kIf v6 false (fun k => kLss v11 (.int .i64 0) h11 k) h11 fun v12 h12 =>
 kPick v6 (.bool true) v12 h12 fun v13 h13 =>
 kIf v13 false (fun k => k (g2_0 t0) h13) h13 fun v15 h15 =>
 kIf v13 false (fun k => kNil v15 h15 k) h15 fun v16 h16 =>
 kIf v13 false (fun k => kFld 1 v16 h16 k) h16 fun v17 h17 =>
 kIf v13 false (fun k => kLd v17 h17 k) h17 fun v18 h18 =>
 kIf v13 false (fun k => k (g2_0 t0) h18) h18 fun v19 h19 =>
 kIf v13 false (fun k => kNil v19 h19 k) h19 fun v20 h20 =>
 kIf v13 false (fun k => kFld 0 v20 h20 k) h20 fun v21 h21 =>
 kIf v13 false (fun k => kLd v21 h21 k) h21 fun v22 h22 =>
 kIf v13 false (fun k => kLenStr v22 h22 k) h22 fun v23 h23 =>
 kIf v13 false (fun k => kGeq v18 v23 h23 k) h23 fun v24 h24 =>
 kPick v13 (.bool true) v24 h24 fun v25 h25 =>
 p2_27 t0 v25 fun t1 =>
 some (.normal, t1, h25)
def SR65_2 : RegS 2 := fun c t0 h0 =>
 fShal (.int .i64 (-1)) fun v1 =>
 p2_2 t0 v1 fun t1 =>
 some (.normal, t1, h0)
def SR65_3 : RegS 2 := fun c t0 h0 =>
 kNil (g2_0 t0) h0 fun v2 h2 =>
 kFld 0 v2 h2 fun v3 h3 =>
 kLd v3 h3 fun v4 h4 =>
 kNil (g2_0 t0) h4 fun v6 h6 =>
 kFld 1 v6 h6 fun v7 h7 =>
 kLd v7 h7 fun v8 h8 =>
 kIdxStr v4 v8 h8 fun v9 h9 =>
 kConv v9 h9 fun v10 h10 =>
 fShal v10 fun v11 =>
 p2_2 t0 v11 fun t1 =>
 some (.normal, t1, h10)
def SF65 : CodeS 2 :=
 cSeqS (cRegS (SR65_0)) (cSeqS (cSeqS (cRegS (SR65_1)) (cIfS g2_27 (cSeqS (cRegS (SR65_2)) (cRetS)) (cSkipS))) (cSeqS (cRegS (SR65_3)) (cRetS)))
def T65 : FnT := runG en2_1 (SF65) (resQ (qc (rT g2_2) qn))
theorem T65_ok : GoodF Tryz.prog ro0 okF 65 (T65) :=
 (good_k (n := 38) acc2 (lv [0, 2, 27]) (rs := [ResultVar.tmp 2]) Tryz.func65 (by kernel_rfl) (by kernel_rfl) (by kernel_rfl) (by kernel_rfl) (by kernel_rfl) (by kernel_rfl) (by kernel_rfl) (by kernel_rfl) (by kernel_rfl)).enter en2_1_ok (by kernel_rfl)

/-- (*circheck/checker.reader).number -/
def SR66_0 : RegS 2 := fun c t0 h0 =>
 fShal (.int .i64 0) fun v1 =>
 p2_2 t0 v1 fun t1 =>
 some (.normal, t1, h0)
def SR66_1 : RegS 2 := fun c t0 h0 =>
 kNil (g2_0 t0) h0 fun v2 h2 =>
 kFld 1 v2 h2 fun v3 h3 =>
 kLd v3 h3 fun v4 h4 =>
 fShal v4 fun v5 =>
 p2_3 t0 v5 fun t1 =>
 some (.normal, t1, h4)
def SR66_2 : RegS 2 := fun c t0 h0 =>
 fShal (.int .i64 0) fun v1 =>
 p2_4 t0 v1 fun t1 =>
 some (.normal, t1, h0)
def SR66_3 : RegS 2 := fun c t0 h0 =>
 kOf (c 65 [(g2_0 t0)] h0) fun v2 h2 =>
 fShal v2 fun v3 =>
 p2_5 t0 v3 fun t1 =>
 some (.normal, t1, h2)
def SR66_4 : RegS 2 := fun c t0 h0 =>
 kOf (c 113 [(g2_5 t0)] h0) fun v2 h2 =>
 p2_14 t0 v2 fun t1 =>
 some (.normal, t1, h2)
def SR66_6 : RegS 2 := fun c t0 h0 =>
 kNil (g2_0 t0) h0 fun v2 h2 =>
 kFld 1 v2 h2 fun v3 h3 =>
 kLd v3 h3 fun v4 h4 =>
 kSub v4 (g2_3 t0) h4 fun v6 h6 =>
 fShal v6 fun v7 =>
 p2_6 t0 v7 fun t1 =>
 some (.normal, t1, h6)
def SR66_7 : RegS 2 := fun c t0 h0 =>
 kEql (g2_6 t0) (.int .i64 4) h0 fun v2 h2 =>
 kIf v2 false (fun k => k (g2_6 t0) h2) h2 fun v4 h4 =>
 kIf v2 false (fun k => kGtr v4 (.int .i64 0) h4 k) h4 fun v5 h5 =>
 kIf v2 false (fun k => k v5 h5) h5 fun v6 h6 =>
 kIf v6 true (fun k => k (g2_4 t0) h6) h6 fun v7 h7 =>
 kIf v6 true (fun k => kEql v7 (.int .i64 0) h7 k) h7 fun v8 h8 =>
 kIf v2 false (fun k => kPick v6 v8 (.bool false) h8 k) h8 fun v9 h9 =>
 kPick v2 (.bool true) v9 h9 fun v10 h10 =>
 p2_32 t0 v10 fun t1 =>
 some (.normal, t1, h10)
def SR66_8 : RegS 2 := fun c t0 h0 =>
 kNil (g2_0 t0) h0 fun v3 h3 =>
 kFld 1 v3 h3 fun v4 h4 =>
 kLd v4 h4 fun v5 h5 =>
 kOf (c 67 [(g2_0 t0), (.int .i64 2), v5] h5) fun v6 h6 =>
 some (.normal, t0, h6)
def SR66_9 : RegS 2 := fun c t0 h0 =>
 fShal (.int .i64 0) fun v1 =>
 p2_2 t0 v1 fun t1 =>
 some (.normal, t1, h0)
def SR66_10 : RegS 2 := fun c t0 h0 =>
 kOf (vInt .mul (.int .i64 10) (g2_4 t0) h0) fun v2 h2 =>
 kAdd v2 (g2_5 t0) h2 fun v4 h4 =>
 kSub v4 (.int .i64 48) h4 fun v5 h5 =>
 fShal v5 fun v6 =>
 p2_4 t0 v6 fun t1 =>
 some (.normal, t1, h5)
def SR66_11 : RegS 2 := fun c t0 h0 =>
 kNil (g2_0 t0) h0 fun v2 h2 =>
 kFld 1 v2 h2 fun v3 h3 =>
 kLd v3 h3 fun v4 h4 =>
 kAdd v4 (.int .i64 1) h4 fun v5 h5 =>
 kNil (g2_0 t0) h5 fun v6 h6 =>
 kFld 1 v6 h6 fun v7 h7 =>
 kSt ro0 v7 v5 h7 fun _ h8 =>
 some (.normal, t0, h8)
def SR66_5 : RegS 2 := fun c t0 h0 =>
 kOf (c 65 [(g2_0 t0)] h0) fun v2 h2 =>
 fShal v2 fun v3 =>
 p2_5 t0 v3 fun t1 =>
 some (.normal, t1, h2)
def SR66_12 : RegS 2 := fun c t0 h0 =>
 kNil (g2_0 t0) h0 fun v2 h2 =>
 kFld 1 v2 h2 fun v3 h3 =>
 kLd v3 h3 fun v4 h4 =>
 kEql v4 (g2_3 t0) h4 fun v6 h6 =>
 p2_56 t0 v6 fun t1 =>
 some (.normal, t1, h6)
def SR66_13 : RegS 2 := fun c t0 h0 =>
 kNil (g2_0 t0) h0 fun v3 h3 =>
 kFld 1 v3 h3 fun v4 h4 =>
 kLd v4 h4 fun v5 h5 =>
 kOf (c 67 [(g2_0 t0), (.int .i64 2), v5] h5) fun v6 h6 =>
 some (.normal, t0, h6)
def SR66_14 : RegS 2 := fun c t0 h0 =>
 fShal (g2_4 t0) fun v2 =>
 p2_2 t0 v2 fun t1 =>
 some (.normal, t1, h0)
def SW66_0 : CodeS 2 :=
 cSeqS (cSeqS (cRegS (SR66_4)) (cIfS g2_14 (cSkipS) (cExitS 0))) (cSeqS (cBlkS 1 (cSeqS (cRegS (SR66_6)) (cSeqS (cSeqS (cRegS (SR66_7)) (cIfS g2_32 (cSeqS (cRegS (SR66_8)) (cSeqS (cRegS (SR66_9)) (cRetS))) (cSkipS))) (cSeqS (cRegS (SR66_10)) (cRegS (SR66_11)))))) (cRegS (SR66_5)))
def SF66 : CodeS 2 :=
 cSeqS (cRegS (SR66_0)) (cSeqS (cRegS (SR66_1)) (cSeqS (cRegS (SR66_2)) (cSeqS (cSeqS (cRegS (SR66_3)) (cBlkS 0 (cLoopS (SW66_0)))) (cSeqS (cSeqS (cRegS (SR66_12)) (cIfS g2_56 (cRegS (SR66_13)) (cSkipS))) (cSeqS (cRegS (SR66_14)) (cRetS))))))
def T66 : FnT := runG en2_1 (SF66) (resQ (qc (rT g2_2) qn))
theorem T66_ok : GoodF Tryz.prog ro0 okF 66 (T66) :=
 (good_k (n := 64) acc2 (lv [0, 2, 3, 4, 5, 6, 14, 32, 56]) (rs := [ResultVar.tmp 2]) Tryz.func66 (by kernel_rfl) (by kernel_rfl) (by kernel_rfl) (by kernel_rfl) (by kernel_rfl) (by kernel_rfl) (by kernel_rfl) (by kernel_rfl) (by kernel_rfl)).enter en2_1_ok (by kernel_rfl)

/-- (*circheck/checker.reader).fail -/
def SR67_0 : RegS 2 := fun c t0 h0 =>
 kNil (g2_0 t0) h0 fun v2 h2 =>
 kFld 2 v2 h2 fun v3 h3 =>
 kFld 0 v3 h3 fun v4 h4 =>
 kLd v4 h4 fun v5 h5 =>
 kEql v5 (.int .i64 0) h5 fun v6 h6 =>
 p2_11 t0 v6 fun t1 =>
 some (.normal, t1, h6)
def SR67_1 : RegS 2 := fun c t0 h0 =>
 kBuild #[.int .i64 0, .int .i64 0] [(0, 1), (1, 1)] [(0, (g2_1 t0)), (1, (g2_2 t0))] h0 fun v4 h4 =>
 kNil (g2_0 t0) h4 fun v5 h5 =>
 kFld 2 v5 h5 fun v6 h6 =>
 kAny (aSt tO ro0 2 (.const v6) (.const v4)) c h6 fun _ h7 =>
 some (.normal, t0, h7)
def SF67 : CodeS 2 :=
 cSeqS (cRegS (SR67_0)) (cIfS g2_11 (cRegS (SR67_1)) (cSkipS))
def T67 : FnT := runG en2_3 (SF67) (resQ qn)
theorem T67_ok : GoodF Tryz.prog ro0 okF 67 (T67) :=
 (good_k (n := 18) acc2 (lv [0, 1, 2, 11]) (rs := []) Tryz.func67 (by kernel_rfl) (by kernel_rfl) (by kernel_rfl) (by kernel_rfl) (by kernel_rfl) (by kernel_rfl) (by kernel_rfl) (by kernel_rfl) (by kernel_rfl)).enter en2_3_ok (by kernel_rfl)

/-- (*circheck/checker.netlist).give -/
def SR68_0 : RegS 2 := fun c t0 h0 =>
 kOf (c 114 [(g2_0 t0), (g2_1 t0)] h0) fun v3 h3 =>
 p2_6 t0 v3 fun t1 =>
 some (.normal, t1, h3)
def SR68_1 : RegS 2 := fun c t0 h0 =>
 kNil (g2_0 t0) h0 fun v2 h2 =>
 kFld 0 v2 h2 fun v3 h3 =>
 kLd v3 h3 fun v4 h4 =>
 kAny (aShift .shr (.const (g2_1 t0)) (.const (.int .u64 1))) c h4 fun v6 h6 =>
 kIdx 1 v4 v6 h6 fun v7 h7 =>
 kSt ro0 v7 (.bool true) h7 fun _ h8 =>
 some (.normal, t0, h8)
def SF68 : CodeS 2 :=
 cSeqS (cRegS (SR68_0)) (cIfS g2_6 (cRegS (SR68_1)) (cSkipS))
def T68 : FnT := runG en2_2 (SF68) (resQ qn)
theorem T68_ok : GoodF Tryz.prog ro0 okF 68 (T68) :=
 (good_k (n := 14) acc2 (lv [0, 1, 6]) (rs := []) Tryz.func68 (by kernel_rfl) (by kernel_rfl) (by kernel_rfl) (by kernel_rfl) (by kernel_rfl) (by kernel_rfl) (by kernel_rfl) (by kernel_rfl) (by kernel_rfl)).enter en2_2_ok (by kernel_rfl)

/-- (*circheck/checker.netlist).latch -/
def SR69_0 : RegS 2 := fun c t0 h0 =>
 kOf (c 115 [(g2_0 t0), (g2_1 t0)] h0) fun v3 h3 =>
 kNew [.int .i64 0, .int .i64 0] h3 fun v4 h4 =>
 p2_6 t0 v4 fun t1 =>
 kAny (aSt tO ro0 2 (.const v4) (.const v3)) c h4 fun _ h5 =>
 some (.normal, t1, h5)
def SR69_1 : RegS 2 := fun c t0 h0 =>
 fShal (.int .i64 0) fun v1 =>
 p2_7 t0 v1 fun t1 =>
 some (.normal, t1, h0)
def SR69_2 : RegS 2 := fun c t0 h0 =>
 kOf (c 64 [(g2_1 t0), (.int .i64 32)] h0) fun v2 h2 =>
 p2_12 t0 v2 fun t1 =>
 some (.normal, t1, h2)
def SR69_3 : RegS 2 := fun c t0 h0 =>
 kOf (c 116 [(g2_1 t0), (g2_2 t0)] h0) fun v3 h3 =>
 fShal v3 fun v4 =>
 p2_7 t0 v4 fun t1 =>
 some (.normal, t1, h3)
def SR69_4 : RegS 2 := fun c t0 h0 =>
 kOf (c 63 [(g2_1 t0), (.int .i64 10)] h0) fun v2 h2 =>
 some (.normal, t0, h2)
def SR69_5 : RegS 2 := fun c t0 h0 =>
 kNil (g2_0 t0) h0 fun v3 h3 =>
 kFld 2 v3 h3 fun v4 h4 =>
 kLd v4 h4 fun v5 h5 =>
 kOf (vLdN 2 (g2_6 t0) h5) fun v7 h7 =>
 kBuild #[.int .i64 0, .int .i64 0, .int .i64 0, .int .i64 0] [(0, 1), (1, 2), (3, 1)] [(0, (g2_2 t0)), (1, v7), (2, (g2_7 t0))] h7 fun v9 h9 =>
 kMkSl 4 1 #[.int .i64 0, .int .i64 0, .int .i64 0, .int .i64 0] [(0, v9)] h9 fun v10 h10 =>
 kOf (vApp ro0 4 32 v5 v10 h10) fun v11 h11 =>
 kNil (g2_0 t0) h11 fun v12 h12 =>
 kFld 2 v12 h12 fun v13 h13 =>
 kSt ro0 v13 v11 h13 fun _ h14 =>
 some (.normal, t0, h14)
def SF69 : CodeS 2 :=
 cSeqS (cRegS (SR69_0)) (cSeqS (cRegS (SR69_1)) (cSeqS (cSeqS (cRegS (SR69_2)) (cIfS g2_12 (cRegS (SR69_3)) (cSkipS))) (cSeqS (cRegS (SR69_4)) (cRegS (SR69_5)))))
def T69 : FnT := runG en2_3 (SF69) (resQ qn)
theorem T69_ok : GoodF Tryz.prog ro0 okF 69 (T69) :=
 (good_k (n := 31) acc2 (lv [0, 1, 2, 6, 7, 12]) (rs := []) Tryz.func69 (by kernel_rfl) (by kernel_rfl) (by kernel_rfl) (by kernel_rfl) (by kernel_rfl) (by kernel_rfl) (by kernel_rfl) (by kernel_rfl) (by kernel_rfl)).enter en2_3_ok (by kernel_rfl)

/-- (*circheck/checker.netlist).properties -/
def SR70_0 : RegS 2 := fun c t0 h0 =>
 fShal (.slice none 0 0) fun v1 =>
 p2_6 t0 v1 fun t1 =>
 some (.normal, t1, h0)
def SR70_1 : RegS 2 := fun c t0 h0 =>
 fShal (.slice none 0 0) fun v1 =>
 p2_7 t0 v1 fun t1 =>
 some (.normal, t1, h0)
def SR70_2 : RegS 2 := fun c t0 h0 =>
 fShal (.int .i64 0) fun v1 =>
 p2_8 t0 v1 fun t1 =>
 some (.normal, t1, h0)
def SR70_3 : RegS 2 := fun c t0 h0 =>
 kLss (g2_8 t0) (g2_2 t0) h0 fun v3 h3 =>
 p2_12 t0 v3 fun t1 =>
 some (.normal, t1, h3)
def SR70_5 : RegS 2 := fun c t0 h0 =>
 kOf (c 115 [(g2_0 t0), (g2_1 t0)] h0) fun v3 h3 =>
 kNew [.int .i64 0, .int .i64 0] h3 fun v4 h4 =>
 p2_9 t0 v4 fun t1 =>
 kAny (aSt tO ro0 2 (.const v4) (.const v3)) c h4 fun _ h5 =>
 some (.normal, t1, h5)
def SR70_6 : RegS 2 := fun c t0 h0 =>
 kOf (c 63 [(g2_1 t0), (.int .i64 10)] h0) fun v2 h2 =>
 some (.normal, t0, h2)
def SR70_7 : RegS 2 := fun c t0 h0 =>
 kOf (vLdN 2 (g2_9 t0) h0) fun v2 h2 =>
 kMkSl 2 1 #[.int .i64 0, .int .i64 0] [(0, v2)] h2 fun v3 h3 =>
 kOf (vApp ro0 2 16 (g2_7 t0) v3 h3) fun v4 h4 =>
 fShal v4 fun v5 =>
 p2_7 t0 v5 fun t1 =>
 some (.normal, t1, h4)
def SR70_4 : RegS 2 := fun c t0 h0 =>
 kAdd (g2_8 t0) (.int .i64 1) h0 fun v2 h2 =>
 fShal v2 fun v3 =>
 p2_8 t0 v3 fun t1 =>
 some (.normal, t1, h2)
def SR70_8 : RegS 2 := fun c t0 h0 =>
 fShal (g2_7 t0) fun v2 =>
 p2_6 t0 v2 fun t1 =>
 some (.normal, t1, h0)
def SW70_0 : CodeS 2 :=
 cSeqS (cSeqS (cRegS (SR70_3)) (cIfS g2_12 (cSkipS) (cExitS 0))) (cSeqS (cBlkS 1 (cSeqS (cRegS (SR70_5)) (cSeqS (cRegS (SR70_6)) (cRegS (SR70_7))))) (cRegS (SR70_4)))
def SF70 : CodeS 2 :=
 cSeqS (cRegS (SR70_0)) (cSeqS (cRegS (SR70_1)) (cSeqS (cSeqS (cRegS (SR70_2)) (cBlkS 0 (cLoopS (SW70_0)))) (cSeqS (cRegS (SR70_8)) (cRetS))))
def T70 : FnT := runG en2_3 (SF70) (resQ (qc (rT g2_6) qn))
theorem T70_ok : GoodF Tryz.prog ro0 okF 70 (T70) :=
 (good_k (n := 25) acc2 (lv [0, 1, 2, 6, 7, 8, 9, 12]) (rs := [ResultVar.tmp 6]) Tryz.func70 (by kernel_rfl) (by kernel_rfl) (by kernel_rfl) (by kernel_rfl) (by kernel_rfl) (by kernel_rfl) (by kernel_rfl) (by kernel_rfl) (by kernel_rfl)).enter en2_3_ok (by kernel_rfl)

/-- (*circheck/checker.netlist).binaryGate -/
def SR71_0 : RegS 3 := fun c t0 h0 =>
 kNil (g3_1 t0) h0 fun v2 h2 =>
 kFld 1 v2 h2 fun v3 h3 =>
 kLd v3 h3 fun v4 h4 =>
 fShal v4 fun v5 =>
 p3_6 t0 v5 fun t1 =>
 some (.normal, t1, h4)
def SR71_1 : RegS 3 := fun c t0 h0 =>
 kOf (c 117 [(g3_1 t0)] h0) fun v2 h2 =>
 fShal v2 fun v3 =>
 p3_7 t0 v3 fun t1 =>
 some (.normal, t1, h2)
def SR71_2 : RegS 3 := fun c t0 h0 =>
 kEql (g3_7 t0) (.int .i64 0) h0 fun v2 h2 =>
 kIf v2 false (fun k => k (g3_7 t0) h2) h2 fun v4 h4 =>
 kIf v2 false (fun k => k (g3_2 t0) h4) h4 fun v5 h5 =>
 kIf v2 false (fun k => kGtr v4 v5 h5 k) h5 fun v6 h6 =>
 kPick v2 (.bool true) v6 h6 fun v7 h7 =>
 p3_22 t0 v7 fun t1 =>
 some (.normal, t1, h7)
def SR71_3 : RegS 3 := fun c t0 h0 =>
 kOf (c 67 [(g3_1 t0), (.int .i64 10), (g3_6 t0)] h0) fun v3 h3 =>
 some (.normal, t0, h3)
def SR71_4 : RegS 3 := fun c t0 h0 =>
 kSub (g3_2 t0) (g3_7 t0) h0 fun v3 h3 =>
 fShal v3 fun v4 =>
 p3_8 t0 v4 fun t1 =>
 some (.normal, t1, h3)
def SR71_5 : RegS 3 := fun c t0 h0 =>
 kNil (g3_1 t0) h0 fun v2 h2 =>
 kFld 1 v2 h2 fun v3 h3 =>
 kLd v3 h3 fun v4 h4 =>
 fShal v4 fun v5 =>
 p3_9 t0 v5 fun t1 =>
 some (.normal, t1, h4)
def SR71_6 : RegS 3 := fun c t0 h0 =>
 kOf (c 117 [(g3_1 t0)] h0) fun v2 h2 =>
 fShal v2 fun v3 =>
 p3_7 t0 v3 fun t1 =>
 some (.normal, t1, h2)
def SR71_7 : RegS 3 := fun c t0 h0 =>
 kGtr (g3_7 t0) (g3_8 t0) h0 fun v3 h3 =>
 p3_37 t0 v3 fun t1 =>
 some (.normal, t1, h3)
def SR71_8 : RegS 3 := fun c t0 h0 =>
 kOf (c 67 [(g3_1 t0), (.int .i64 10), (g3_9 t0)] h0) fun v3 h3 =>
 some (.normal, t0, h3)
def SR71_9 : RegS 3 := fun c t0 h0 =>
 kOf (c 68 [(g3_0 t0), (g3_2 t0)] h0) fun v3 h3 =>
 some (.normal, t0, h3)
def SR71_10 : RegS 3 := fun c t0 h0 =>
 kNil (g3_0 t0) h0 fun v3 h3 =>
 kFld 5 v3 h3 fun v4 h4 =>
 kLd v4 h4 fun v5 h5 =>
 kBuild #[.int .i64 0, .int .i64 0] [(0, 1), (1, 1)] [(0, (g3_2 t0)), (1, (g3_6 t0))] h5 fun v8 h8 =>
 kBuild #[.int .i64 0, .int .i64 0] [(0, 1), (1, 1)] [(0, (g3_8 t0)), (1, (g3_6 t0))] h8 fun v11 h11 =>
 kSub (g3_8 t0) (g3_7 t0) h11 fun v14 h14 =>
 kBuild #[.int .i64 0, .int .i64 0] [(0, 1), (1, 1)] [(0, v14), (1, (g3_9 t0))] h14 fun v16 h16 =>
 kBuild #[.int .i64 0, .int .i64 0, .int .i64 0, .int .i64 0, .int .i64 0, .int .i64 0] [(0, 2), (2, 2), (4, 2)] [(0, v8), (1, v11), (2, v16)] h16 fun v17 h17 =>
 kMkSl 6 1 #[.int .i64 0, .int .i64 0, .int .i64 0, .int .i64 0, .int .i64 0, .int .i64 0] [(0, v17)] h17 fun v18 h18 =>
 kOf (vApp ro0 6 48 v5 v18 h18) fun v19 h19 =>
 kNil (g3_0 t0) h19 fun v20 h20 =>
 kFld 5 v20 h20 fun v21 h21 =>
 kSt ro0 v21 v19 h21 fun _ h22 =>
 some (.normal, t0, h22)
def SF71 : CodeS 3 :=
 cSeqS (cRegS (SR71_0)) (cSeqS (cRegS (SR71_1)) (cSeqS (cSeqS (cRegS (SR71_2)) (cIfS g3_22 (cRegS (SR71_3)) (cSkipS))) (cSeqS (cRegS (SR71_4)) (cSeqS (cRegS (SR71_5)) (cSeqS (cRegS (SR71_6)) (cSeqS (cSeqS (cRegS (SR71_7)) (cIfS g3_37 (cRegS (SR71_8)) (cSkipS))) (cSeqS (cRegS (SR71_9)) (cRegS (SR71_10)))))))))
def T71 : FnT := runG en3_3 (SF71) (resQ qn)
theorem T71_ok : GoodF Tryz.prog ro0 okF 71 (T71) :=
 (good_k (n := 65) acc3 (lv [0, 1, 2, 6, 7, 8, 9, 22, 37]) (rs := []) Tryz.func71 (by kernel_rfl) (by kernel_rfl) (by kernel_rfl) (by kernel_rfl) (by kernel_rfl) (by kernel_rfl) (by kernel_rfl) (by kernel_rfl) (by kernel_rfl)).enter en3_3_ok (by kernel_rfl)

/-- (*circheck/checker.netlist).definition -/
def SR72_0 : RegS 2 := fun c t0 h0 =>
 kNew [.int .i64 0, .int .i64 0] h0 fun v1 h1 =>
 p2_4 t0 v1 fun t1 =>
 some (.normal, t1, h1)
def SR72_1 : RegS 2 := fun c t0 h0 =>
 kOf (c 115 [(g2_0 t0), (g2_1 t0)] h0) fun v3 h3 =>
 kNew [.int .i64 0, .int .i64 0] h3 fun v4 h4 =>
 p2_5 t0 v4 fun t1 =>
 kAny (aSt tO ro0 2 (.const v4) (.const v3)) c h4 fun _ h5 =>
 some (.normal, t1, h5)
def SR72_2 : RegS 2 := fun c t0 h0 =>
 kFld 0 (g2_5 t0) h0 fun v1 h1 =>
 kLd v1 h1 fun v2 h2 =>
 kOf (vInt .and v2 (.int .i64 1) h2) fun v3 h3 =>
 kEql v3 (.int .i64 1) h3 fun v4 h4 =>
 kIf v4 false (fun k => k (g2_0 t0) h4) h4 fun v6 h6 =>
 kIf v4 false (fun k => kFld 0 (g2_5 t0) h6 k) h6 fun v7 h7 =>
 kIf v4 false (fun k => kLd v7 h7 k) h7 fun v8 h8 =>
 kIf v4 false (fun k => kOf (c 118 [v6, v8] h8) k) h8 fun v9 h9 =>
 kPick v4 (.bool true) v9 h9 fun v10 h10 =>
 p2_18 t0 v10 fun t1 =>
 some (.normal, t1, h10)
def SR72_3 : RegS 2 := fun c t0 h0 =>
 kFld 1 (g2_5 t0) h0 fun v2 h2 =>
 kLd v2 h2 fun v3 h3 =>
 kOf (c 67 [(g2_1 t0), (.int .i64 8), v3] h3) fun v4 h4 =>
 some (.normal, t0, h4)
def SR72_4 : RegS 2 := fun c t0 h0 =>
 kFld 0 (g2_5 t0) h0 fun v2 h2 =>
 kLd v2 h2 fun v3 h3 =>
 kOf (c 68 [(g2_0 t0), v3] h3) fun v4 h4 =>
 some (.normal, t0, h4)
def SR72_5 : RegS 2 := fun c t0 h0 =>
 kOf (vLdN 2 (g2_5 t0) h0) fun v1 h1 =>
 kAny (aSt tO ro0 2 (.const (g2_4 t0)) (.const v1)) c h1 fun _ h2 =>
 some (.normal, t0, h2)
def SF72 : CodeS 2 :=
 cSeqS (cRegS (SR72_0)) (cSeqS (cRegS (SR72_1)) (cSeqS (cSeqS (cRegS (SR72_2)) (cIfS g2_18 (cRegS (SR72_3)) (cSkipS))) (cSeqS (cRegS (SR72_4)) (cSeqS (cRegS (SR72_5)) (cRetS)))))
def T72 : FnT := runG en2_2 (SF72) (resQ (qc (rN 2 g2_4) qn))
theorem T72_ok : GoodF Tryz.prog ro0 okF 72 (T72) :=
 (good_k (n := 28) acc2 (lv [0, 1, 4, 5, 18]) (rs := [ResultVar.cell 4 119]) Tryz.func72 (by kernel_rfl) (by kernel_rfl) (by kernel_rfl) (by kernel_rfl) (by kernel_rfl) (by kernel_rfl) (by kernel_rfl) (by kernel_rfl) (by kernel_rfl)).enter en2_2_ok (by kernel_rfl)

/-- (*circheck/checker.netlist).plainGate -/
def SR73_0 : RegS 2 := fun c t0 h0 =>
 kOf (c 72 [(g2_0 t0), (g2_1 t0)] h0) fun v3 h3 =>
 kNew [.int .i64 0, .int .i64 0] h3 fun v4 h4 =>
 p2_4 t0 v4 fun t1 =>
 kAny (aSt tO ro0 2 (.const v4) (.const v3)) c h4 fun _ h5 =>
 some (.normal, t1, h5)
def SR73_1 : RegS 2 := fun c t0 h0 =>
 kOf (c 63 [(g2_1 t0), (.int .i64 32)] h0) fun v2 h2 =>
 some (.normal, t0, h2)
def SR73_2 : RegS 2 := fun c t0 h0 =>
 kOf (c 115 [(g2_0 t0), (g2_1 t0)] h0) fun v3 h3 =>
 kNew [.int .i64 0, .int .i64 0] h3 fun v4 h4 =>
 p2_5 t0 v4 fun t1 =>
 kAny (aSt tO ro0 2 (.const v4) (.const v3)) c h4 fun _ h5 =>
 some (.normal, t1, h5)
def SR73_3 : RegS 2 := fun c t0 h0 =>
 kOf (c 63 [(g2_1 t0), (.int .i64 32)] h0) fun v2 h2 =>
 some (.normal, t0, h2)
def SR73_4 : RegS 2 := fun c t0 h0 =>
 kOf (c 115 [(g2_0 t0), (g2_1 t0)] h0) fun v3 h3 =>
 kNew [.int .i64 0, .int .i64 0] h3 fun v4 h4 =>
 p2_6 t0 v4 fun t1 =>
 kAny (aSt tO ro0 2 (.const v4) (.const v3)) c h4 fun _ h5 =>
 some (.normal, t1, h5)
def SR73_5 : RegS 2 := fun c t0 h0 =>
 kOf (c 63 [(g2_1 t0), (.int .i64 10)] h0) fun v2 h2 =>
 some (.normal, t0, h2)
def SR73_6 : RegS 2 := fun c t0 h0 =>
 kNil (g2_0 t0) h0 fun v3 h3 =>
 kFld 5 v3 h3 fun v4 h4 =>
 kLd v4 h4 fun v5 h5 =>
 kOf (vLdN 2 (g2_4 t0) h5) fun v6 h6 =>
 kOf (vLdN 2 (g2_5 t0) h6) fun v7 h7 =>
 kOf (vLdN 2 (g2_6 t0) h7) fun v8 h8 =>
 kBuild #[.int .i64 0, .int .i64 0, .int .i64 0, .int .i64 0, .int .i64 0, .int .i64 0] [(0, 2), (2, 2), (4, 2)] [(0, v6), (1, v7), (2, v8)] h8 fun v9 h9 =>
 kMkSl 6 1 #[.int .i64 0, .int .i64 0, .int .i64 0, .int .i64 0, .int .i64 0, .int .i64 0] [(0, v9)] h9 fun v10 h10 =>
 kOf (vApp ro0 6 48 v5 v10 h10) fun v11 h11 =>
 kNil (g2_0 t0) h11 fun v12 h12 =>
 kFld 5 v12 h12 fun v13 h13 =>
 kSt ro0 v13 v11 h13 fun _ h14 =>
 some (.normal, t0, h14)
def SF73 : CodeS 2 :=
 cSeqS (cRegS (SR73_0)) (cSeqS (cRegS (SR73_1)) (cSeqS (cRegS (SR73_2)) (cSeqS (cRegS (SR73_3)) (cSeqS (cRegS (SR73_4)) (cSeqS (cRegS (SR73_5)) (cRegS (SR73_6)))))))
def T73 : FnT := runG en2_2 (SF73) (resQ qn)
theorem T73_ok : GoodF Tryz.prog ro0 okF 73 (T73) :=
 (good_k (n := 35) acc2 (lv [0, 1, 4, 5, 6]) (rs := []) Tryz.func73 (by kernel_rfl) (by kernel_rfl) (by kernel_rfl) (by kernel_rfl) (by kernel_rfl) (by kernel_rfl) (by kernel_rfl) (by kernel_rfl) (by kernel_rfl)).enter en2_2_ok (by kernel_rfl)

/-- (*circheck/checker.reader).symbol -/
def SR74_0 : RegS 2 := fun c t0 h0 =>
 kBox (g2_1 t0) h0 fun v1 h1 =>
 p2_3 t0 v1 fun t1 =>
 some (.normal, t1, h1)
def SR74_1 : RegS 2 := fun c t0 h0 =>
 fShal (.int .i64 0) fun v1 =>
 p2_4 t0 v1 fun t1 =>
 some (.normal, t1, h0)
def SR74_2 : RegS 2 := fun c t0 h0 =>
 kOf (c 65 [(g2_0 t0)] h0) fun v2 h2 =>
 p2_8 t0 v2 fun t1 =>
 some (.normal, t1, h2)
def SR74_4 : RegS 2 := fun c t0 h0 =>
 kEql (g2_8 t0) (.int .i64 105) h0 fun v1 h1 =>
 fShal v1 fun v2 =>
 p2_15 t0 v2 fun t1 =>
 some (.normal, t1, h1)
def SR74_5 : RegS 2 := fun c t0 h0 =>
 kFld 2 (g2_3 t0) h0 fun v1 h1 =>
 kLd v1 h1 fun v2 h2 =>
 fShal v2 fun v3 =>
 p2_4 t0 v3 fun t1 =>
 some (.normal, t1, h2)
def SR74_6 : RegS 2 := fun c t0 h0 =>
 kEql (g2_8 t0) (.int .i64 108) h0 fun v1 h1 =>
 fShal v1 fun v2 =>
 p2_19 t0 v2 fun t1 =>
 some (.normal, t1, h1)
def SR74_7 : RegS 2 := fun c t0 h0 =>
 kFld 3 (g2_3 t0) h0 fun v1 h1 =>
 kLd v1 h1 fun v2 h2 =>
 fShal v2 fun v3 =>
 p2_4 t0 v3 fun t1 =>
 some (.normal, t1, h2)
def SR74_8 : RegS 2 := fun c t0 h0 =>
 kEql (g2_8 t0) (.int .i64 111) h0 fun v1 h1 =>
 fShal v1 fun v2 =>
 p2_23 t0 v2 fun t1 =>
 some (.normal, t1, h1)
def SR74_9 : RegS 2 := fun c t0 h0 =>
 kFld 4 (g2_3 t0) h0 fun v1 h1 =>
 kLd v1 h1 fun v2 h2 =>
 fShal v2 fun v3 =>
 p2_4 t0 v3 fun t1 =>
 some (.normal, t1, h2)
def SR74_10 : RegS 2 := fun c t0 h0 =>
 kEql (g2_8 t0) (.int .i64 98) h0 fun v1 h1 =>
 fShal v1 fun v2 =>
 p2_27 t0 v2 fun t1 =>
 some (.normal, t1, h1)
def SR74_11 : RegS 2 := fun c t0 h0 =>
 kFld 6 (g2_3 t0) h0 fun v1 h1 =>
 kLd v1 h1 fun v2 h2 =>
 fShal v2 fun v3 =>
 p2_4 t0 v3 fun t1 =>
 some (.normal, t1, h2)
def SR74_3 : RegS 2 := fun c t0 h0 =>
 kNil (g2_0 t0) h0 fun v3 h3 =>
 kFld 1 v3 h3 fun v4 h4 =>
 kLd v4 h4 fun v5 h5 =>
 kOf (c 67 [(g2_0 t0), (.int .i64 2), v5] h5) fun v6 h6 =>
 some (.normal, t0, h6)
def SR74_12 : RegS 2 := fun c t0 h0 =>
 kNil (g2_0 t0) h0 fun v2 h2 =>
 kFld 1 v2 h2 fun v3 h3 =>
 kLd v3 h3 fun v4 h4 =>
 kAdd v4 (.int .i64 1) h4 fun v5 h5 =>
 kNil (g2_0 t0) h5 fun v6 h6 =>
 kFld 1 v6 h6 fun v7 h7 =>
 kSt ro0 v7 v5 h7 fun _ h8 =>
 some (.normal, t0, h8)
def SR74_13 : RegS 2 := fun c t0 h0 =>
 kNil (g2_0 t0) h0 fun v2 h2 =>
 kFld 1 v2 h2 fun v3 h3 =>
 kLd v3 h3 fun v4 h4 =>
 fShal v4 fun v5 =>
 p2_5 t0 v5 fun t1 =>
 some (.normal, t1, h4)
def SR74_14 : RegS 2 := fun c t0 h0 =>
 kOf (c 66 [(g2_0 t0)] h0) fun v2 h2 =>
 fShal v2 fun v3 =>
 p2_6 t0 v3 fun t1 =>
 some (.normal, t1, h2)
def SR74_15 : RegS 2 := fun c t0 h0 =>
 kGeq (g2_6 t0) (g2_4 t0) h0 fun v3 h3 =>
 p2_46 t0 v3 fun t1 =>
 some (.normal, t1, h3)
def SR74_16 : RegS 2 := fun c t0 h0 =>
 kOf (c 67 [(g2_0 t0), (.int .i64 2), (g2_5 t0)] h0) fun v3 h3 =>
 some (.normal, t0, h3)
def SR74_17 : RegS 2 := fun c t0 h0 =>
 kOf (c 63 [(g2_0 t0), (.int .i64 32)] h0) fun v2 h2 =>
 some (.normal, t0, h2)
def SR74_18 : RegS 2 := fun c t0 h0 =>
 kOf (c 119 [(g2_0 t0)] h0) fun v2 h2 =>
 some (.normal, t0, h2)
def SF74 : CodeS 2 :=
 cSeqS (cRegS (SR74_0)) (cSeqS (cRegS (SR74_1)) (cSeqS (cSeqS (cRegS (SR74_2)) (cBlkS 0 (cSeqS (cRegS (SR74_4)) (cIfS g2_15 (cRegS (SR74_5)) (cSeqS (cRegS (SR74_6)) (cIfS g2_19 (cRegS (SR74_7)) (cSeqS (cRegS (SR74_8)) (cIfS g2_23 (cRegS (SR74_9)) (cSeqS (cRegS (SR74_10)) (cIfS g2_27 (cRegS (SR74_11)) (cSeqS (cRegS (SR74_3)) (cRetS)))))))))))) (cSeqS (cRegS (SR74_12)) (cSeqS (cRegS (SR74_13)) (cSeqS (cRegS (SR74_14)) (cSeqS (cSeqS (cRegS (SR74_15)) (cIfS g2_46 (cRegS (SR74_16)) (cSkipS))) (cSeqS (cRegS (SR74_17)) (cRegS (SR74_18)))))))))
def T74 : FnT := runG en2_2 (SF74) (resQ qn)
theorem T74_ok : GoodF Tryz.prog ro0 okF 74 (T74) :=
 (good_k (n := 54) acc2 (lv [0, 1, 3, 4, 5, 6, 8, 15, 19, 23, 27, 46]) (rs := []) Tryz.func74 (by kernel_rfl) (by kernel_rfl) (by kernel_rfl) (by kernel_rfl) (by kernel_rfl) (by kernel_rfl) (by kernel_rfl) (by kernel_rfl) (by kernel_rfl)).enter en2_2_ok (by kernel_rfl)

/-- (*circheck/checker.netlist).judgeUse -/
def SR75_0 : RegS 2 := fun c t0 h0 =>
 kBox (g2_2 t0) h0 fun v1 h1 =>
 p2_5 t0 v1 fun t1 =>
 some (.normal, t1, h1)
def SR75_1 : RegS 2 := fun c t0 h0 =>
 kFld 0 (g2_5 t0) h0 fun v2 h2 =>
 kLd v2 h2 fun v3 h3 =>
 kOf (c 118 [(g2_0 t0), v3] h3) fun v4 h4 =>
 kNot v4 h4 fun v5 h5 =>
 p2_10 t0 v5 fun t1 =>
 some (.normal, t1, h5)
def SR75_2 : RegS 2 := fun c t0 h0 =>
 kFld 1 (g2_5 t0) h0 fun v2 h2 =>
 kLd v2 h2 fun v3 h3 =>
 kOf (c 67 [(g2_1 t0), (.int .i64 11), v3] h3) fun v4 h4 =>
 some (.normal, t0, h4)
def SF75 : CodeS 2 :=
 cSeqS (cRegS (SR75_0)) (cSeqS (cRegS (SR75_1)) (cIfS g2_10 (cRegS (SR75_2)) (cSkipS)))
def T75 : FnT := runG en2_3 (SF75) (resQ qn)
theorem T75_ok : GoodF Tryz.prog ro0 okF 75 (T75) :=
 (good_k (n := 15) acc2 (lv [0, 1, 2, 5, 10]) (rs := []) Tryz.func75 (by kernel_rfl) (by kernel_rfl) (by kernel_rfl) (by kernel_rfl) (by kernel_rfl) (by kernel_rfl) (by kernel_rfl) (by kernel_rfl) (by kernel_rfl)).enter en2_3_ok (by kernel_rfl)
end Go.Proofs.YtimdkminagnhgabGreatDoor
