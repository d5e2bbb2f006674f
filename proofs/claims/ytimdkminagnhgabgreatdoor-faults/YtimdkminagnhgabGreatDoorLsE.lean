/-
  The program itself for the kernel, function by function. Printed by program; the kernel checks each. Own work.
-/
import Derived.Test.YtimdkminagnhgabGreatDoorLsA
namespace Go.Proofs.YtimdkminagnhgabGreatDoor
open Go.Vm Go.Proofs
set_option linter.unusedVariables false
set_option maxRecDepth 100000

/-- circheck/checker.newOrder -/
def SR76_0 : RegS 3 := fun c t0 h0 =>
 fShal (.pointer none) fun v1 =>
 p3_2 t0 v1 fun t1 =>
 some (.normal, t1, h0)
def SR76_1 : RegS 3 := fun c t0 h0 =>
 kBuild #[.slice none 0 0, .int .i64 0] [(0, 1), (1, 1)] [] h0 fun v1 h1 =>
 kBox v1 h1 fun v2 h2 =>
 fShal v2 fun v3 =>
 p3_3 t0 v3 fun t1 =>
 some (.normal, t1, h2)
def SR76_2 : RegS 3 := fun c t0 h0 =>
 fShal (.int .i64 0) fun v1 =>
 p3_4 t0 v1 fun t1 =>
 some (.normal, t1, h0)
def SR76_3 : RegS 3 := fun c t0 h0 =>
 kNil (g3_0 t0) h0 fun v3 h3 =>
 kFld 0 v3 h3 fun v4 h4 =>
 kLd v4 h4 fun v5 h5 =>
 kLenSl v5 h5 fun v6 h6 =>
 kLss (g3_4 t0) v6 h6 fun v7 h7 =>
 p3_15 t0 v7 fun t1 =>
 some (.normal, t1, h7)
def SR76_5 : RegS 3 := fun c t0 h0 =>
 kNil (g3_3 t0) h0 fun v3 h3 =>
 kFld 0 v3 h3 fun v4 h4 =>
 kLd v4 h4 fun v5 h5 =>
 kMkSl 1 1 #[.int .i64 0] [(0, (.int .i64 (-1)))] h5 fun v6 h6 =>
 kOf (vApp ro0 1 8 v5 v6 h6) fun v7 h7 =>
 kNil (g3_3 t0) h7 fun v8 h8 =>
 kFld 0 v8 h8 fun v9 h9 =>
 kSt ro0 v9 v7 h9 fun _ h10 =>
 some (.normal, t0, h10)
def SR76_4 : RegS 3 := fun c t0 h0 =>
 kAdd (g3_4 t0) (.int .i64 1) h0 fun v2 h2 =>
 fShal v2 fun v3 =>
 p3_4 t0 v3 fun t1 =>
 some (.normal, t1, h2)
def SR76_6 : RegS 3 := fun c t0 h0 =>
 kOf (c 120 [(g3_3 t0), (.int .i64 0)] h0) fun v2 h2 =>
 some (.normal, t0, h2)
def SR76_7 : RegS 3 := fun c t0 h0 =>
 fShal (.int .i64 0) fun v1 =>
 p3_5 t0 v1 fun t1 =>
 some (.normal, t1, h0)
def SR76_8 : RegS 3 := fun c t0 h0 =>
 kNil (g3_0 t0) h0 fun v3 h3 =>
 kFld 1 v3 h3 fun v4 h4 =>
 kLd v4 h4 fun v5 h5 =>
 kLenSl v5 h5 fun v6 h6 =>
 kLss (g3_5 t0) v6 h6 fun v7 h7 =>
 p3_35 t0 v7 fun t1 =>
 some (.normal, t1, h7)
def SR76_10 : RegS 3 := fun c t0 h0 =>
 kNil (g3_0 t0) h0 fun v3 h3 =>
 kFld 1 v3 h3 fun v4 h4 =>
 kLd v4 h4 fun v5 h5 =>
 kIdx 1 v5 (g3_5 t0) h5 fun v7 h7 =>
 kLd v7 h7 fun v8 h8 =>
 kOf (c 120 [(g3_3 t0), v8] h8) fun v9 h9 =>
 some (.normal, t0, h9)
def SR76_9 : RegS 3 := fun c t0 h0 =>
 kAdd (g3_5 t0) (.int .i64 1) h0 fun v2 h2 =>
 fShal v2 fun v3 =>
 p3_5 t0 v3 fun t1 =>
 some (.normal, t1, h2)
def SR76_11 : RegS 3 := fun c t0 h0 =>
 fShal (.int .i64 0) fun v1 =>
 p3_6 t0 v1 fun t1 =>
 some (.normal, t1, h0)
def SR76_12 : RegS 3 := fun c t0 h0 =>
 kNil (g3_0 t0) h0 fun v3 h3 =>
 kFld 2 v3 h3 fun v4 h4 =>
 kLd v4 h4 fun v5 h5 =>
 kLenSl v5 h5 fun v6 h6 =>
 kLss (g3_6 t0) v6 h6 fun v7 h7 =>
 p3_53 t0 v7 fun t1 =>
 some (.normal, t1, h7)
def SR76_14 : RegS 3 := fun c t0 h0 =>
 kNil (g3_0 t0) h0 fun v3 h3 =>
 kFld 2 v3 h3 fun v4 h4 =>
 kLd v4 h4 fun v5 h5 =>
 kIdx 4 v5 (g3_6 t0) h5 fun v7 h7 =>
 kFld 0 v7 h7 fun v8 h8 =>
 kLd v8 h8 fun v9 h9 =>
 kOf (c 120 [(g3_3 t0), v9] h9) fun v10 h10 =>
 some (.normal, t0, h10)
def SR76_13 : RegS 3 := fun c t0 h0 =>
 kAdd (g3_6 t0) (.int .i64 1) h0 fun v2 h2 =>
 fShal v2 fun v3 =>
 p3_6 t0 v3 fun t1 =>
 some (.normal, t1, h2)
def SR76_15 : RegS 3 := fun c t0 h0 =>
 fShal (g3_3 t0) fun v2 =>
 p3_2 t0 v2 fun t1 =>
 some (.normal, t1, h0)
def SW76_0 : CodeS 3 :=
 cSeqS (cSeqS (cRegS (SR76_3)) (cIfS g3_15 (cSkipS) (cExitS 0))) (cSeqS (cBlkS 1 (cRegS (SR76_5))) (cRegS (SR76_4)))
def SW76_1 : CodeS 3 :=
 cSeqS (cSeqS (cRegS (SR76_8)) (cIfS g3_35 (cSkipS) (cExitS 2))) (cSeqS (cBlkS 3 (cRegS (SR76_10))) (cRegS (SR76_9)))
def SW76_2 : CodeS 3 :=
 cSeqS (cSeqS (cRegS (SR76_12)) (cIfS g3_53 (cSkipS) (cExitS 4))) (cSeqS (cBlkS 5 (cRegS (SR76_14))) (cRegS (SR76_13)))
def SF76 : CodeS 3 :=
 cSeqS (cRegS (SR76_0)) (cSeqS (cRegS (SR76_1)) (cSeqS (cSeqS (cRegS (SR76_2)) (cBlkS 0 (cLoopS (SW76_0)))) (cSeqS (cRegS (SR76_6)) (cSeqS (cSeqS (cRegS (SR76_7)) (cBlkS 2 (cLoopS (SW76_1)))) (cSeqS (cSeqS (cRegS (SR76_11)) (cBlkS 4 (cLoopS (SW76_2)))) (cSeqS (cRegS (SR76_15)) (cRetS)))))))
def T76 : FnT := runG en3_1 (SF76) (resQ (qc (rT g3_2) qn))
theorem T76_ok : GoodF Tryz.prog ro0 okF 76 (T76) :=
 (good_k (n := 67) acc3 (lv [0, 2, 3, 4, 5, 6, 15, 35, 53]) (rs := [ResultVar.tmp 2]) Tryz.func76 (by kernel_rfl) (by kernel_rfl) (by kernel_rfl) (by kernel_rfl) (by kernel_rfl) (by kernel_rfl) (by kernel_rfl) (by kernel_rfl) (by kernel_rfl)).enter en3_1_ok (by kernel_rfl)

/-- (*circheck/checker.order).firstReady -/
def SR77_0 : RegS 2 := fun c t0 h0 =>
 fShal (.int .i64 0) fun v1 =>
 p2_4 t0 v1 fun t1 =>
 some (.normal, t1, h0)
def SR77_1 : RegS 2 := fun c t0 h0 =>
 fShal (.int .i64 0) fun v1 =>
 p2_5 t0 v1 fun t1 =>
 some (.normal, t1, h0)
def SR77_2 : RegS 2 := fun c t0 h0 =>
 kLenSl (g2_1 t0) h0 fun v3 h3 =>
 kLss (g2_5 t0) v3 h3 fun v4 h4 =>
 p2_12 t0 v4 fun t1 =>
 some (.normal, t1, h4)
def SR77_4 : RegS 2 := fun c t0 h0 =>
 kIdx 6 (g2_1 t0) (g2_5 t0) h0 fun v4 h4 =>
 kFld 0 v4 h4 fun v5 h5 =>
 kFld 0 v5 h5 fun v6 h6 =>
 kLd v6 h6 fun v7 h7 =>
 kOf (c 121 [(g2_0 t0), v7] h7) fun v8 h8 =>
 fShal v8 fun v9 =>
 p2_6 t0 v9 fun t1 =>
 some (.normal, t1, h8)
def SR77_5 : RegS 2 := fun c t0 h0 =>
 kIdx 6 (g2_1 t0) (g2_5 t0) h0 fun v4 h4 =>
 kFld 2 v4 h4 fun v5 h5 =>
 kFld 0 v5 h5 fun v6 h6 =>
 kLd v6 h6 fun v7 h7 =>
 kOf (c 121 [(g2_0 t0), v7] h7) fun v8 h8 =>
 fShal v8 fun v9 =>
 p2_7 t0 v9 fun t1 =>
 some (.normal, t1, h8)
def SR77_6 : RegS 2 := fun c t0 h0 =>
 kIdx 6 (g2_1 t0) (g2_5 t0) h0 fun v4 h4 =>
 kFld 4 v4 h4 fun v5 h5 =>
 kFld 0 v5 h5 fun v6 h6 =>
 kLd v6 h6 fun v7 h7 =>
 kOf (c 121 [(g2_0 t0), v7] h7) fun v8 h8 =>
 fShal v8 fun v9 =>
 p2_8 t0 v9 fun t1 =>
 some (.normal, t1, h8)
def SR77_7 : RegS 2 := fun c t0 h0 =>
 kEql (g2_6 t0) (.int .i64 (-1)) h0 fun v2 h2 =>
 kIf v2 true (fun k => k (g2_7 t0) h2) h2 fun v4 h4 =>
 kIf v2 true (fun k => kNeq v4 (.int .i64 (-1)) h4 k) h4 fun v5 h5 =>
 kPick v2 v5 (.bool false) h5 fun v6 h6 =>
 kIf v6 true (fun k => k (g2_8 t0) h6) h6 fun v8 h8 =>
 kIf v6 true (fun k => kNeq v8 (.int .i64 (-1)) h8 k) h8 fun v9 h9 =>
 kPick v6 v9 (.bool false) h9 fun v10 h10 =>
 p2_48 t0 v10 fun t1 =>
 some (.normal, t1, h10)
def SR77_8 : RegS 2 := fun c t0 h0 =>
 fShal (g2_5 t0) fun v2 =>
 p2_4 t0 v2 fun t1 =>
 some (.normal, t1, h0)
def SR77_3 : RegS 2 := fun c t0 h0 =>
 kAdd (g2_5 t0) (.int .i64 1) h0 fun v2 h2 =>
 fShal v2 fun v3 =>
 p2_5 t0 v3 fun t1 =>
 some (.normal, t1, h2)
def SR77_9 : RegS 2 := fun c t0 h0 =>
 fShal (.int .i64 (-1)) fun v1 =>
 p2_4 t0 v1 fun t1 =>
 some (.normal, t1, h0)
def SW77_0 : CodeS 2 :=
 cSeqS (cSeqS (cRegS (SR77_2)) (cIfS g2_12 (cSkipS) (cExitS 0))) (cSeqS (cBlkS 1 (cSeqS (cRegS (SR77_4)) (cSeqS (cRegS (SR77_5)) (cSeqS (cRegS (SR77_6)) (cSeqS (cRegS (SR77_7)) (cIfS g2_48 (cSeqS (cRegS (SR77_8)) (cRetS)) (cSkipS))))))) (cRegS (SR77_3)))
def SF77 : CodeS 2 :=
 cSeqS (cRegS (SR77_0)) (cSeqS (cSeqS (cRegS (SR77_1)) (cBlkS 0 (cLoopS (SW77_0)))) (cSeqS (cRegS (SR77_9)) (cRetS)))
def T77 : FnT := runG en2_2 (SF77) (resQ (qc (rT g2_4) qn))
theorem T77_ok : GoodF Tryz.prog ro0 okF 77 (T77) :=
 (good_k (n := 50) acc2 (lv [0, 1, 4, 5, 6, 7, 8, 12, 48]) (rs := [ResultVar.tmp 4]) Tryz.func77 (by kernel_rfl) (by kernel_rfl) (by kernel_rfl) (by kernel_rfl) (by kernel_rfl) (by kernel_rfl) (by kernel_rfl) (by kernel_rfl) (by kernel_rfl)).enter en2_2_ok (by kernel_rfl)

/-- (*circheck/checker.order).firstUnlaid -/
def SR78_0 : RegS 2 := fun c t0 h0 =>
 fShal (.int .i64 0) fun v1 =>
 p2_4 t0 v1 fun t1 =>
 some (.normal, t1, h0)
def SR78_1 : RegS 2 := fun c t0 h0 =>
 fShal (.int .i64 0) fun v1 =>
 p2_5 t0 v1 fun t1 =>
 some (.normal, t1, h0)
def SR78_2 : RegS 2 := fun c t0 h0 =>
 kLenSl (g2_1 t0) h0 fun v3 h3 =>
 kLss (g2_5 t0) v3 h3 fun v4 h4 =>
 p2_10 t0 v4 fun t1 =>
 some (.normal, t1, h4)
def SR78_4 : RegS 2 := fun c t0 h0 =>
 kIdx 6 (g2_1 t0) (g2_5 t0) h0 fun v4 h4 =>
 kFld 0 v4 h4 fun v5 h5 =>
 kFld 0 v5 h5 fun v6 h6 =>
 kLd v6 h6 fun v7 h7 =>
 kOf (c 121 [(g2_0 t0), v7] h7) fun v8 h8 =>
 fShal v8 fun v9 =>
 p2_6 t0 v9 fun t1 =>
 some (.normal, t1, h8)
def SR78_5 : RegS 2 := fun c t0 h0 =>
 kEql (g2_6 t0) (.int .i64 (-1)) h0 fun v2 h2 =>
 p2_22 t0 v2 fun t1 =>
 some (.normal, t1, h2)
def SR78_6 : RegS 2 := fun c t0 h0 =>
 kIdx 6 (g2_1 t0) (g2_5 t0) h0 fun v3 h3 =>
 kFld 0 v3 h3 fun v4 h4 =>
 kFld 1 v4 h4 fun v5 h5 =>
 kLd v5 h5 fun v6 h6 =>
 fShal v6 fun v7 =>
 p2_4 t0 v7 fun t1 =>
 some (.normal, t1, h6)
def SR78_3 : RegS 2 := fun c t0 h0 =>
 kAdd (g2_5 t0) (.int .i64 1) h0 fun v2 h2 =>
 fShal v2 fun v3 =>
 p2_5 t0 v3 fun t1 =>
 some (.normal, t1, h2)
def SR78_7 : RegS 2 := fun c t0 h0 =>
 fShal (.int .i64 0) fun v1 =>
 p2_4 t0 v1 fun t1 =>
 some (.normal, t1, h0)
def SW78_0 : CodeS 2 :=
 cSeqS (cSeqS (cRegS (SR78_2)) (cIfS g2_10 (cSkipS) (cExitS 0))) (cSeqS (cBlkS 1 (cSeqS (cRegS (SR78_4)) (cSeqS (cRegS (SR78_5)) (cIfS g2_22 (cSeqS (cRegS (SR78_6)) (cRetS)) (cSkipS))))) (cRegS (SR78_3)))
def SF78 : CodeS 2 :=
 cSeqS (cRegS (SR78_0)) (cSeqS (cSeqS (cRegS (SR78_1)) (cBlkS 0 (cLoopS (SW78_0)))) (cSeqS (cRegS (SR78_7)) (cRetS)))
def T78 : FnT := runG en2_2 (SF78) (resQ (qc (rT g2_4) qn))
theorem T78_ok : GoodF Tryz.prog ro0 okF 78 (T78) :=
 (good_k (n := 29) acc2 (lv [0, 1, 4, 5, 6, 10, 22]) (rs := [ResultVar.tmp 4]) Tryz.func78 (by kernel_rfl) (by kernel_rfl) (by kernel_rfl) (by kernel_rfl) (by kernel_rfl) (by kernel_rfl) (by kernel_rfl) (by kernel_rfl) (by kernel_rfl)).enter en2_2_ok (by kernel_rfl)

/-- (*circheck/checker.order).layGate -/
def SR79_0 : RegS 2 := fun c t0 h0 =>
 kBox (g2_2 t0) h0 fun v1 h1 =>
 p2_5 t0 v1 fun t1 =>
 some (.normal, t1, h1)
def SR79_1 : RegS 2 := fun c t0 h0 =>
 kFld 2 (g2_5 t0) h0 fun v2 h2 =>
 kFld 0 v2 h2 fun v3 h3 =>
 kLd v3 h3 fun v4 h4 =>
 kOf (c 80 [(g2_0 t0), v4] h4) fun v5 h5 =>
 fShal v5 fun v6 =>
 p2_6 t0 v6 fun t1 =>
 some (.normal, t1, h5)
def SR79_2 : RegS 2 := fun c t0 h0 =>
 kFld 4 (g2_5 t0) h0 fun v2 h2 =>
 kFld 0 v2 h2 fun v3 h3 =>
 kLd v3 h3 fun v4 h4 =>
 kOf (c 80 [(g2_0 t0), v4] h4) fun v5 h5 =>
 fShal v5 fun v6 =>
 p2_7 t0 v6 fun t1 =>
 some (.normal, t1, h5)
def SR79_3 : RegS 2 := fun c t0 h0 =>
 kLss (g2_6 t0) (g2_7 t0) h0 fun v3 h3 =>
 p2_20 t0 v3 fun t1 =>
 some (.normal, t1, h3)
def SR79_4 : RegS 2 := fun c t0 h0 =>
 fShal (g2_7 t0) fun v3 =>
 p2_6 t0 v3 fun t1 =>
 fShal (g2_6 t0) fun v4 =>
 p2_7 t1 v4 fun t2 =>
 some (.normal, t2, h0)
def SR79_5 : RegS 2 := fun c t0 h0 =>
 kNil (g2_1 t0) h0 fun v3 h3 =>
 kFld 2 v3 h3 fun v4 h4 =>
 kLd v4 h4 fun v5 h5 =>
 kBuild #[.int .i64 0, .int .i64 0] [(0, 1), (1, 1)] [(0, (g2_6 t0)), (1, (g2_7 t0))] h5 fun v8 h8 =>
 kMkSl 2 1 #[.int .i64 0, .int .i64 0] [(0, v8)] h8 fun v9 h9 =>
 kOf (vApp ro0 2 16 v5 v9 h9) fun v10 h10 =>
 kNil (g2_1 t0) h10 fun v11 h11 =>
 kFld 2 v11 h11 fun v12 h12 =>
 kSt ro0 v12 v10 h12 fun _ h13 =>
 some (.normal, t0, h13)
def SR79_6 : RegS 2 := fun c t0 h0 =>
 kFld 0 (g2_5 t0) h0 fun v2 h2 =>
 kFld 0 v2 h2 fun v3 h3 =>
 kLd v3 h3 fun v4 h4 =>
 kOf (c 120 [(g2_0 t0), v4] h4) fun v5 h5 =>
 some (.normal, t0, h5)
def SF79 : CodeS 2 :=
 cSeqS (cRegS (SR79_0)) (cSeqS (cRegS (SR79_1)) (cSeqS (cRegS (SR79_2)) (cSeqS (cSeqS (cRegS (SR79_3)) (cIfS g2_20 (cRegS (SR79_4)) (cSkipS))) (cSeqS (cRegS (SR79_5)) (cRegS (SR79_6))))))
def T79 : FnT := runG en2_3 (SF79) (resQ qn)
theorem T79_ok : GoodF Tryz.prog ro0 okF 79 (T79) :=
 (good_k (n := 40) acc2 (lv [0, 1, 2, 5, 6, 7, 20]) (rs := []) Tryz.func79 (by kernel_rfl) (by kernel_rfl) (by kernel_rfl) (by kernel_rfl) (by kernel_rfl) (by kernel_rfl) (by kernel_rfl) (by kernel_rfl) (by kernel_rfl)).enter en2_3_ok (by kernel_rfl)

/-- (*circheck/checker.order).literal -/
def SR80_0 : RegS 2 := fun c t0 h0 =>
 fShal (.int .i64 0) fun v1 =>
 p2_4 t0 v1 fun t1 =>
 some (.normal, t1, h0)
def SR80_1 : RegS 2 := fun c t0 h0 =>
 kOf (c 121 [(g2_0 t0), (g2_1 t0)] h0) fun v3 h3 =>
 fShal v3 fun v4 =>
 p2_5 t0 v4 fun t1 =>
 some (.normal, t1, h3)
def SR80_2 : RegS 2 := fun c t0 h0 =>
 kOf (vInt .mul (.int .i64 2) (g2_5 t0) h0) fun v2 h2 =>
 kOf (vInt .and (g2_1 t0) (.int .i64 1) h2) fun v4 h4 =>
 kAdd v2 v4 h4 fun v5 h5 =>
 fShal v5 fun v6 =>
 p2_4 t0 v6 fun t1 =>
 some (.normal, t1, h5)
def SF80 : CodeS 2 :=
 cSeqS (cRegS (SR80_0)) (cSeqS (cRegS (SR80_1)) (cSeqS (cRegS (SR80_2)) (cRetS)))
def T80 : FnT := runG en2_2 (SF80) (resQ (qc (rT g2_4) qn))
theorem T80_ok : GoodF Tryz.prog ro0 okF 80 (T80) :=
 (good_k (n := 14) acc2 (lv [0, 1, 4, 5]) (rs := [ResultVar.tmp 4]) Tryz.func80 (by kernel_rfl) (by kernel_rfl) (by kernel_rfl) (by kernel_rfl) (by kernel_rfl) (by kernel_rfl) (by kernel_rfl) (by kernel_rfl) (by kernel_rfl)).enter en2_2_ok (by kernel_rfl)

/-- (*circheck/checker.netlist).property -/
def SR81_0 : RegS 2 := fun c t0 h0 =>
 fShal (.int .i64 0) fun v1 =>
 p2_2 t0 v1 fun t1 =>
 some (.normal, t1, h0)
def SR81_1 : RegS 2 := fun c t0 h0 =>
 kNil (g2_0 t0) h0 fun v2 h2 =>
 kFld 4 v2 h2 fun v3 h3 =>
 kLd v3 h3 fun v4 h4 =>
 kLenSl v4 h4 fun v5 h5 =>
 kGtr v5 (.int .i64 0) h5 fun v6 h6 =>
 p2_8 t0 v6 fun t1 =>
 some (.normal, t1, h6)
def SR81_2 : RegS 2 := fun c t0 h0 =>
 kNil (g2_0 t0) h0 fun v2 h2 =>
 kFld 4 v2 h2 fun v3 h3 =>
 kLd v3 h3 fun v4 h4 =>
 kIdx 2 v4 (.int .i64 0) h4 fun v5 h5 =>
 kFld 0 v5 h5 fun v6 h6 =>
 kLd v6 h6 fun v7 h7 =>
 fShal v7 fun v8 =>
 p2_2 t0 v8 fun t1 =>
 some (.normal, t1, h7)
def SR81_3 : RegS 2 := fun c t0 h0 =>
 kNil (g2_0 t0) h0 fun v2 h2 =>
 kFld 3 v2 h2 fun v3 h3 =>
 kLd v3 h3 fun v4 h4 =>
 kLenSl v4 h4 fun v5 h5 =>
 kGtr v5 (.int .i64 0) h5 fun v6 h6 =>
 p2_21 t0 v6 fun t1 =>
 some (.normal, t1, h6)
def SR81_4 : RegS 2 := fun c t0 h0 =>
 kNil (g2_0 t0) h0 fun v2 h2 =>
 kFld 3 v2 h2 fun v3 h3 =>
 kLd v3 h3 fun v4 h4 =>
 kIdx 2 v4 (.int .i64 0) h4 fun v5 h5 =>
 kFld 0 v5 h5 fun v6 h6 =>
 kLd v6 h6 fun v7 h7 =>
 fShal v7 fun v8 =>
 p2_2 t0 v8 fun t1 =>
 some (.normal, t1, h7)
def SR81_5 : RegS 2 := fun c t0 h0 =>
 fShal (.int .i64 0) fun v1 =>
 p2_2 t0 v1 fun t1 =>
 some (.normal, t1, h0)
def SF81 : CodeS 2 :=
 cSeqS (cRegS (SR81_0)) (cSeqS (cSeqS (cRegS (SR81_1)) (cIfS g2_8 (cSeqS (cRegS (SR81_2)) (cRetS)) (cSkipS))) (cSeqS (cSeqS (cRegS (SR81_3)) (cIfS g2_21 (cSeqS (cRegS (SR81_4)) (cRetS)) (cSkipS))) (cSeqS (cRegS (SR81_5)) (cRetS))))
def T81 : FnT := runG en2_1 (SF81) (resQ (qc (rT g2_2) qn))
theorem T81_ok : GoodF Tryz.prog ro0 okF 81 (T81) :=
 (good_k (n := 29) acc2 (lv [0, 2, 8, 21]) (rs := [ResultVar.tmp 2]) Tryz.func81 (by kernel_rfl) (by kernel_rfl) (by kernel_rfl) (by kernel_rfl) (by kernel_rfl) (by kernel_rfl) (by kernel_rfl) (by kernel_rfl) (by kernel_rfl)).enter en2_1_ok (by kernel_rfl)

/-- circheck/checker.newFrame -/
def SR82_0 : RegS 3 := fun c t0 h0 =>
 kNew [.pointer none, .slice none 0 0] h0 fun v1 h1 =>
 p3_2 t0 v1 fun t1 =>
 some (.normal, t1, h1)
def SR82_1 : RegS 3 := fun c t0 h0 =>
 kOf (c 58 [] h0) fun v1 h1 =>
 fShal v1 fun v2 =>
 p3_3 t0 v2 fun t1 =>
 some (.normal, t1, h1)
def SR82_2 : RegS 3 := fun c t0 h0 =>
 fShal (.int .i64 0) fun v1 =>
 p3_4 t0 v1 fun t1 =>
 some (.normal, t1, h0)
def SR82_3 : RegS 3 := fun c t0 h0 =>
 kOf (c 98 [(g3_0 t0)] h0) fun v3 h3 =>
 kLss (g3_4 t0) v3 h3 fun v4 h4 =>
 p3_12 t0 v4 fun t1 =>
 some (.normal, t1, h4)
def SR82_5 : RegS 3 := fun c t0 h0 =>
 kNil (g3_0 t0) h0 fun v4 h4 =>
 kFld 0 v4 h4 fun v5 h5 =>
 kLd v5 h5 fun v6 h6 =>
 kNil (g3_0 t0) h6 fun v8 h8 =>
 kFld 1 v8 h8 fun v9 h9 =>
 kLd v9 h9 fun v10 h10 =>
 kLenSl v10 h10 fun v11 h11 =>
 kAdd v6 v11 h11 fun v12 h12 =>
 kLeq (g3_4 t0) v12 h12 fun v13 h13 =>
 kOf (c 105 [(g3_3 t0), v13] h13) fun v14 h14 =>
 some (.normal, t0, h14)
def SR82_4 : RegS 3 := fun c t0 h0 =>
 kAdd (g3_4 t0) (.int .i64 1) h0 fun v2 h2 =>
 fShal v2 fun v3 =>
 p3_4 t0 v3 fun t1 =>
 some (.normal, t1, h2)
def SR82_6 : RegS 3 := fun c t0 h0 =>
 kMkSl 1 1 #[.int .i64 0] [(0, (.int .i64 1))] h0 fun v2 h2 =>
 kOf (c 122 [(g3_3 t0), v2] h2) fun v3 h3 =>
 some (.normal, t0, h3)
def SR82_7 : RegS 3 := fun c t0 h0 =>
 fShal (.int .i64 0) fun v1 =>
 p3_5 t0 v1 fun t1 =>
 some (.normal, t1, h0)
def SR82_8 : RegS 3 := fun c t0 h0 =>
 kNil (g3_0 t0) h0 fun v3 h3 =>
 kFld 2 v3 h3 fun v4 h4 =>
 kLd v4 h4 fun v5 h5 =>
 kLenSl v5 h5 fun v6 h6 =>
 kLss (g3_5 t0) v6 h6 fun v7 h7 =>
 p3_38 t0 v7 fun t1 =>
 some (.normal, t1, h7)
def SR82_10 : RegS 3 := fun c t0 h0 =>
 kOf (c 50 [(g3_0 t0), (g3_5 t0)] h0) fun v3 h3 =>
 fShal v3 fun v4 =>
 p3_6 t0 v4 fun t1 =>
 some (.normal, t1, h3)
def SR82_11 : RegS 3 := fun c t0 h0 =>
 kNil (g3_0 t0) h0 fun v2 h2 =>
 kFld 2 v2 h2 fun v3 h3 =>
 kLd v3 h3 fun v4 h4 =>
 kIdx 2 v4 (g3_5 t0) h4 fun v6 h6 =>
 kOf (vLdN 2 v6 h6) fun v7 h7 =>
 kNew [.int .i64 0, .int .i64 0] h7 fun v8 h8 =>
 p3_7 t0 v8 fun t1 =>
 kAny (aSt tO ro0 2 (.const v8) (.const v7)) c h8 fun _ h9 =>
 some (.normal, t1, h9)
def SR82_12 : RegS 3 := fun c t0 h0 =>
 kOf (vInt .xor (g3_6 t0) (.int .i64 1) h0) fun v3 h3 =>
 kFld 0 (g3_7 t0) h3 fun v4 h4 =>
 kLd v4 h4 fun v5 h5 =>
 kMkSl 1 2 #[.int .i64 0] [(0, v3), (1, v5)] h5 fun v6 h6 =>
 kOf (c 122 [(g3_3 t0), v6] h6) fun v7 h7 =>
 some (.normal, t0, h7)
def SR82_13 : RegS 3 := fun c t0 h0 =>
 kOf (vInt .xor (g3_6 t0) (.int .i64 1) h0) fun v3 h3 =>
 kFld 1 (g3_7 t0) h3 fun v4 h4 =>
 kLd v4 h4 fun v5 h5 =>
 kMkSl 1 2 #[.int .i64 0] [(0, v3), (1, v5)] h5 fun v6 h6 =>
 kOf (c 122 [(g3_3 t0), v6] h6) fun v7 h7 =>
 some (.normal, t0, h7)
def SR82_14 : RegS 3 := fun c t0 h0 =>
 kFld 0 (g3_7 t0) h0 fun v3 h3 =>
 kLd v3 h3 fun v4 h4 =>
 kOf (vInt .xor v4 (.int .i64 1) h4) fun v5 h5 =>
 kFld 1 (g3_7 t0) h5 fun v6 h6 =>
 kLd v6 h6 fun v7 h7 =>
 kOf (vInt .xor v7 (.int .i64 1) h7) fun v8 h8 =>
 kMkSl 1 3 #[.int .i64 0] [(0, (g3_6 t0)), (1, v5), (2, v8)] h8 fun v9 h9 =>
 kOf (c 122 [(g3_3 t0), v9] h9) fun v10 h10 =>
 some (.normal, t0, h10)
def SR82_9 : RegS 3 := fun c t0 h0 =>
 kAdd (g3_5 t0) (.int .i64 1) h0 fun v2 h2 =>
 fShal v2 fun v3 =>
 p3_5 t0 v3 fun t1 =>
 some (.normal, t1, h2)
def SR82_15 : RegS 3 := fun c t0 h0 =>
 kBuild #[.pointer none, .slice none 0 0] [(0, 1), (1, 1)] [(0, (g3_3 t0))] h0 fun v2 h2 =>
 kAny (aSt tO ro0 2 (.const (g3_2 t0)) (.const v2)) c h2 fun _ h3 =>
 some (.normal, t0, h3)
def SW82_0 : CodeS 3 :=
 cSeqS (cSeqS (cRegS (SR82_3)) (cIfS g3_12 (cSkipS) (cExitS 0))) (cSeqS (cBlkS 1 (cRegS (SR82_5))) (cRegS (SR82_4)))
def SW82_1 : CodeS 3 :=
 cSeqS (cSeqS (cRegS (SR82_8)) (cIfS g3_38 (cSkipS) (cExitS 2))) (cSeqS (cBlkS 3 (cSeqS (cRegS (SR82_10)) (cSeqS (cRegS (SR82_11)) (cSeqS (cRegS (SR82_12)) (cSeqS (cRegS (SR82_13)) (cRegS (SR82_14))))))) (cRegS (SR82_9)))
def SF82 : CodeS 3 :=
 cSeqS (cRegS (SR82_0)) (cSeqS (cRegS (SR82_1)) (cSeqS (cSeqS (cRegS (SR82_2)) (cBlkS 0 (cLoopS (SW82_0)))) (cSeqS (cRegS (SR82_6)) (cSeqS (cSeqS (cRegS (SR82_7)) (cBlkS 2 (cLoopS (SW82_1)))) (cSeqS (cRegS (SR82_15)) (cRetS))))))
def T82 : FnT := runG en3_1 (SF82) (resQ (qc (rN 2 g3_2) qn))
theorem T82_ok : GoodF Tryz.prog ro0 okF 82 (T82) :=
 (good_k (n := 77) acc3 (lv [0, 2, 3, 4, 5, 6, 7, 12, 38]) (rs := [ResultVar.cell 2 135]) Tryz.func82 (by kernel_rfl) (by kernel_rfl) (by kernel_rfl) (by kernel_rfl) (by kernel_rfl) (by kernel_rfl) (by kernel_rfl) (by kernel_rfl) (by kernel_rfl)).enter en3_1_ok (by kernel_rfl)

/-- (*circheck/checker.frame).addResets -/
def SR83_0 : RegS 2 := fun c t0 h0 =>
 fShal (.int .i64 0) fun v1 =>
 p2_4 t0 v1 fun t1 =>
 some (.normal, t1, h0)
def SR83_1 : RegS 2 := fun c t0 h0 =>
 kNil (g2_1 t0) h0 fun v3 h3 =>
 kFld 1 v3 h3 fun v4 h4 =>
 kLd v4 h4 fun v5 h5 =>
 kLenSl v5 h5 fun v6 h6 =>
 kLss (g2_4 t0) v6 h6 fun v7 h7 =>
 p2_12 t0 v7 fun t1 =>
 some (.normal, t1, h7)
def SR83_3 : RegS 2 := fun c t0 h0 =>
 kOf (c 47 [(g2_1 t0), (g2_4 t0)] h0) fun v3 h3 =>
 fShal v3 fun v4 =>
 p2_5 t0 v4 fun t1 =>
 some (.normal, t1, h3)
def SR83_4 : RegS 2 := fun c t0 h0 =>
 kNil (g2_1 t0) h0 fun v2 h2 =>
 kFld 1 v2 h2 fun v3 h3 =>
 kLd v3 h3 fun v4 h4 =>
 kIdx 2 v4 (g2_4 t0) h4 fun v6 h6 =>
 kFld 1 v6 h6 fun v7 h7 =>
 kLd v7 h7 fun v8 h8 =>
 p2_25 t0 v8 fun t1 =>
 some (.normal, t1, h8)
def SR83_5 : RegS 2 := fun c t0 h0 =>
 kEql (g2_25 t0) (.int .i64 0) h0 fun v1 h1 =>
 fShal v1 fun v2 =>
 p2_26 t0 v2 fun t1 =>
 some (.normal, t1, h1)
def SR83_6 : RegS 2 := fun c t0 h0 =>
 kNil (g2_0 t0) h0 fun v2 h2 =>
 kFld 0 v2 h2 fun v3 h3 =>
 kLd v3 h3 fun v4 h4 =>
 kOf (vInt .xor (g2_5 t0) (.int .i64 1) h4) fun v6 h6 =>
 kMkSl 1 1 #[.int .i64 0] [(0, v6)] h6 fun v7 h7 =>
 kOf (c 122 [v4, v7] h7) fun v8 h8 =>
 some (.normal, t0, h8)
def SR83_7 : RegS 2 := fun c t0 h0 =>
 kEql (g2_25 t0) (.int .i64 1) h0 fun v1 h1 =>
 fShal v1 fun v2 =>
 p2_36 t0 v2 fun t1 =>
 some (.normal, t1, h1)
def SR83_8 : RegS 2 := fun c t0 h0 =>
 kNil (g2_0 t0) h0 fun v2 h2 =>
 kFld 0 v2 h2 fun v3 h3 =>
 kLd v3 h3 fun v4 h4 =>
 kMkSl 1 1 #[.int .i64 0] [(0, (g2_5 t0))] h4 fun v6 h6 =>
 kOf (c 122 [v4, v6] h6) fun v7 h7 =>
 some (.normal, t0, h7)
def SR83_2 : RegS 2 := fun c t0 h0 =>
 kAdd (g2_4 t0) (.int .i64 1) h0 fun v2 h2 =>
 fShal v2 fun v3 =>
 p2_4 t0 v3 fun t1 =>
 some (.normal, t1, h2)
def SW83_0 : CodeS 2 :=
 cSeqS (cSeqS (cRegS (SR83_1)) (cIfS g2_12 (cSkipS) (cExitS 0))) (cSeqS (cBlkS 1 (cSeqS (cRegS (SR83_3)) (cSeqS (cRegS (SR83_4)) (cBlkS 2 (cSeqS (cRegS (SR83_5)) (cIfS g2_26 (cRegS (SR83_6)) (cSeqS (cRegS (SR83_7)) (cIfS g2_36 (cRegS (SR83_8)) (cSkipS))))))))) (cRegS (SR83_2)))
def SF83 : CodeS 2 :=
 cSeqS (cRegS (SR83_0)) (cBlkS 0 (cLoopS (SW83_0)))
def T83 : FnT := runG en2_2 (SF83) (resQ qn)
theorem T83_ok : GoodF Tryz.prog ro0 okF 83 (T83) :=
 (good_k (n := 45) acc2 (lv [0, 1, 4, 5, 12, 25, 26, 36]) (rs := []) Tryz.func83 (by kernel_rfl) (by kernel_rfl) (by kernel_rfl) (by kernel_rfl) (by kernel_rfl) (by kernel_rfl) (by kernel_rfl) (by kernel_rfl) (by kernel_rfl)).enter en2_2_ok (by kernel_rfl)

/-- (*circheck/checker.run).clearNewest -/
def SR84_0 : RegS 2 := fun c t0 h0 =>
 fShal (.int .i64 0) fun v1 =>
 p2_2 t0 v1 fun t1 =>
 some (.normal, t1, h0)
def SR84_1 : RegS 2 := fun c t0 h0 =>
 kNil (g2_0 t0) h0 fun v2 h2 =>
 kFld 3 v2 h2 fun v3 h3 =>
 kLd v3 h3 fun v4 h4 =>
 kLenSl v4 h4 fun v5 h5 =>
 kSub v5 (.int .i64 1) h5 fun v6 h6 =>
 fShal v6 fun v7 =>
 p2_3 t0 v7 fun t1 =>
 some (.normal, t1, h6)
def SR84_2 : RegS 2 := fun c t0 h0 =>
 kNil (g2_0 t0) h0 fun v4 h4 =>
 kFld 0 v4 h4 fun v5 h5 =>
 kLd v5 h5 fun v6 h6 =>
 kNil v6 h6 fun v7 h7 =>
 kFld 3 v7 h7 fun v8 h8 =>
 kLd v8 h8 fun v9 h9 =>
 kMkSl 1 1 #[.int .i64 0] [(0, v9)] h9 fun v10 h10 =>
 kOf (c 123 [(g2_0 t0), (g2_3 t0), v10] h10) fun v11 h11 =>
 fShal v11 fun v12 =>
 p2_4 t0 v12 fun t1 =>
 some (.normal, t1, h11)
def SR84_3 : RegS 2 := fun c t0 h0 =>
 fShal (g2_4 t0) fun v1 =>
 p2_23 t0 v1 fun t1 =>
 some (.normal, t1, h0)
def SR84_4 : RegS 2 := fun c t0 h0 =>
 kEql (g2_23 t0) (.int .i64 3) h0 fun v1 h1 =>
 fShal v1 fun v2 =>
 p2_24 t0 v2 fun t1 =>
 some (.normal, t1, h1)
def SR84_5 : RegS 2 := fun c t0 h0 =>
 fShal (.int .i64 3) fun v1 =>
 p2_2 t0 v1 fun t1 =>
 some (.normal, t1, h0)
def SR84_6 : RegS 2 := fun c t0 h0 =>
 kEql (g2_23 t0) (.int .i64 2) h0 fun v1 h1 =>
 fShal v1 fun v2 =>
 p2_26 t0 v2 fun t1 =>
 some (.normal, t1, h1)
def SR84_7 : RegS 2 := fun c t0 h0 =>
 fShal (.int .i64 0) fun v1 =>
 p2_2 t0 v1 fun t1 =>
 some (.normal, t1, h0)
def SR84_8 : RegS 2 := fun c t0 h0 =>
 kOf (c 124 [(g2_0 t0), (g2_3 t0)] h0) fun v3 h3 =>
 some (.normal, t0, h3)
def SR84_9 : RegS 2 := fun c t0 h0 =>
 kOf (c 125 [(g2_0 t0)] h0) fun v2 h2 =>
 fShal v2 fun v3 =>
 p2_5 t0 v3 fun t1 =>
 some (.normal, t1, h2)
def SR84_10 : RegS 2 := fun c t0 h0 =>
 kNeq (g2_5 t0) (.int .i64 0) h0 fun v2 h2 =>
 p2_34 t0 v2 fun t1 =>
 some (.normal, t1, h2)
def SR84_11 : RegS 2 := fun c t0 h0 =>
 fShal (g2_5 t0) fun v2 =>
 p2_2 t0 v2 fun t1 =>
 some (.normal, t1, h0)
def SW84_0 : CodeS 2 :=
 cBlkS 1 (cSeqS (cRegS (SR84_2)) (cSeqS (cSeqS (cRegS (SR84_3)) (cBlkS 2 (cSeqS (cRegS (SR84_4)) (cIfS g2_24 (cSeqS (cRegS (SR84_5)) (cRetS)) (cSeqS (cRegS (SR84_6)) (cIfS g2_26 (cSeqS (cRegS (SR84_7)) (cRetS)) (cSkipS))))))) (cSeqS (cRegS (SR84_8)) (cSeqS (cRegS (SR84_9)) (cSeqS (cRegS (SR84_10)) (cIfS g2_34 (cSeqS (cRegS (SR84_11)) (cRetS)) (cSkipS)))))))
def SF84 : CodeS 2 :=
 cSeqS (cRegS (SR84_0)) (cSeqS (cRegS (SR84_1)) (cBlkS 0 (cLoopS (SW84_0))))
def T84 : FnT := runG en2_1 (SF84) (resQ (qc (rT g2_2) qn))
theorem T84_ok : GoodF Tryz.prog ro0 okF 84 (T84) :=
 (good_k (n := 36) acc2 (lv [0, 2, 3, 4, 5, 23, 24, 26, 34]) (rs := [ResultVar.tmp 2]) Tryz.func84 (by kernel_rfl) (by kernel_rfl) (by kernel_rfl) (by kernel_rfl) (by kernel_rfl) (by kernel_rfl) (by kernel_rfl) (by kernel_rfl) (by kernel_rfl)).enter en2_1_ok (by kernel_rfl)

/-- (*circheck/checker.run).advance -/
def SR85_0 : RegS 2 := fun c t0 h0 =>
 fShal (.int .i64 0) fun v1 =>
 p2_2 t0 v1 fun t1 =>
 some (.normal, t1, h0)
def SR85_1 : RegS 2 := fun c t0 h0 =>
 kNil (g2_0 t0) h0 fun v2 h2 =>
 kFld 0 v2 h2 fun v3 h3 =>
 kLd v3 h3 fun v4 h4 =>
 kOf (c 82 [v4] h4) fun v5 h5 =>
 kNew [.pointer none, .slice none 0 0] h5 fun v6 h6 =>
 p2_3 t0 v6 fun t1 =>
 kAny (aSt tO ro0 2 (.const v6) (.const v5)) c h6 fun _ h7 =>
 some (.normal, t1, h7)
def SR85_2 : RegS 2 := fun c t0 h0 =>
 kNil (g2_0 t0) h0 fun v3 h3 =>
 kFld 3 v3 h3 fun v4 h4 =>
 kLd v4 h4 fun v5 h5 =>
 kOf (vLdN 2 (g2_3 t0) h5) fun v6 h6 =>
 kMkSl 2 1 #[.pointer none, .slice none 0 0] [(0, v6)] h6 fun v7 h7 =>
 kOf (vApp ro0 2 32 v5 v7 h7) fun v8 h8 =>
 kNil (g2_0 t0) h8 fun v9 h9 =>
 kFld 3 v9 h9 fun v10 h10 =>
 kSt ro0 v10 v8 h10 fun _ h11 =>
 some (.normal, t0, h11)
def SR85_3 : RegS 2 := fun c t0 h0 =>
 fShal (.int .i64 1) fun v1 =>
 p2_4 t0 v1 fun t1 =>
 some (.normal, t1, h0)
def SR85_4 : RegS 2 := fun c t0 h0 =>
 kNil (g2_0 t0) h0 fun v3 h3 =>
 kFld 3 v3 h3 fun v4 h4 =>
 kLd v4 h4 fun v5 h5 =>
 kLenSl v5 h5 fun v6 h6 =>
 kSub v6 (.int .i64 1) h6 fun v7 h7 =>
 kLss (g2_4 t0) v7 h7 fun v8 h8 =>
 p2_28 t0 v8 fun t1 =>
 some (.normal, t1, h8)
def SR85_6 : RegS 2 := fun c t0 h0 =>
 kOf (c 126 [(g2_0 t0), (g2_4 t0)] h0) fun v3 h3 =>
 fShal v3 fun v4 =>
 p2_5 t0 v4 fun t1 =>
 some (.normal, t1, h3)
def SR85_7 : RegS 2 := fun c t0 h0 =>
 fShal (g2_5 t0) fun v1 =>
 p2_34 t0 v1 fun t1 =>
 some (.normal, t1, h0)
def SR85_8 : RegS 2 := fun c t0 h0 =>
 kEql (g2_34 t0) (.int .i64 3) h0 fun v1 h1 =>
 fShal v1 fun v2 =>
 p2_35 t0 v2 fun t1 =>
 some (.normal, t1, h1)
def SR85_9 : RegS 2 := fun c t0 h0 =>
 fShal (.int .i64 3) fun v1 =>
 p2_2 t0 v1 fun t1 =>
 some (.normal, t1, h0)
def SR85_10 : RegS 2 := fun c t0 h0 =>
 kEql (g2_34 t0) (.int .i64 2) h0 fun v1 h1 =>
 fShal v1 fun v2 =>
 p2_37 t0 v2 fun t1 =>
 some (.normal, t1, h1)
def SR85_11 : RegS 2 := fun c t0 h0 =>
 kOf (c 127 [(g2_0 t0), (g2_4 t0)] h0) fun v4 h4 =>
 kNil (g2_0 t0) h4 fun v5 h5 =>
 kFld 5 v5 h5 fun v6 h6 =>
 kSt ro0 v6 v4 h6 fun _ h7 =>
 some (.normal, t0, h7)
def SR85_12 : RegS 2 := fun c t0 h0 =>
 fShal (.int .i64 1) fun v1 =>
 p2_2 t0 v1 fun t1 =>
 some (.normal, t1, h0)
def SR85_5 : RegS 2 := fun c t0 h0 =>
 kAdd (g2_4 t0) (.int .i64 1) h0 fun v2 h2 =>
 fShal v2 fun v3 =>
 p2_4 t0 v3 fun t1 =>
 some (.normal, t1, h2)
def SR85_13 : RegS 2 := fun c t0 h0 =>
 fShal (.int .i64 0) fun v1 =>
 p2_2 t0 v1 fun t1 =>
 some (.normal, t1, h0)
def SW85_0 : CodeS 2 :=
 cSeqS (cSeqS (cRegS (SR85_4)) (cIfS g2_28 (cSkipS) (cExitS 0))) (cSeqS (cBlkS 1 (cSeqS (cRegS (SR85_6)) (cSeqS (cRegS (SR85_7)) (cBlkS 2 (cSeqS (cRegS (SR85_8)) (cIfS g2_35 (cSeqS (cRegS (SR85_9)) (cRetS)) (cSeqS (cRegS (SR85_10)) (cIfS g2_37 (cSeqS (cRegS (SR85_11)) (cSeqS (cRegS (SR85_12)) (cRetS))) (cSkipS))))))))) (cRegS (SR85_5)))
def SF85 : CodeS 2 :=
 cSeqS (cRegS (SR85_0)) (cSeqS (cRegS (SR85_1)) (cSeqS (cRegS (SR85_2)) (cSeqS (cSeqS (cRegS (SR85_3)) (cBlkS 0 (cLoopS (SW85_0)))) (cSeqS (cRegS (SR85_13)) (cRetS)))))
def T85 : FnT := runG en2_1 (SF85) (resQ (qc (rT g2_2) qn))
theorem T85_ok : GoodF Tryz.prog ro0 okF 85 (T85) :=
 (good_k (n := 45) acc2 (lv [0, 2, 3, 4, 5, 28, 34, 35, 37]) (rs := [ResultVar.tmp 2]) Tryz.func85 (by kernel_rfl) (by kernel_rfl) (by kernel_rfl) (by kernel_rfl) (by kernel_rfl) (by kernel_rfl) (by kernel_rfl) (by kernel_rfl) (by kernel_rfl)).enter en2_1_ok (by kernel_rfl)

/-- (*circheck/checker.run).safeText -/
def SR86_0 : RegS 2 := fun c t0 h0 =>
 fShal (.string { data := #[] }) fun v1 =>
 p2_2 t0 v1 fun t1 =>
 some (.normal, t1, h0)
def SR86_1 : RegS 2 := fun c t0 h0 =>
 fShal (.string { data := #[48, 10, 98, 48, 10] }) fun v1 =>
 p2_3 t0 v1 fun t1 =>
 some (.normal, t1, h0)
def SR86_2 : RegS 2 := fun c t0 h0 =>
 fShal (.int .i64 0) fun v1 =>
 p2_4 t0 v1 fun t1 =>
 some (.normal, t1, h0)
def SR86_3 : RegS 2 := fun c t0 h0 =>
 kNil (g2_0 t0) h0 fun v3 h3 =>
 kFld 5 v3 h3 fun v4 h4 =>
 kLd v4 h4 fun v5 h5 =>
 kLenSl v5 h5 fun v6 h6 =>
 kLss (g2_4 t0) v6 h6 fun v7 h7 =>
 p2_11 t0 v7 fun t1 =>
 some (.normal, t1, h7)
def SR86_5 : RegS 2 := fun c t0 h0 =>
 kNil (g2_0 t0) h0 fun v3 h3 =>
 kFld 5 v3 h3 fun v4 h4 =>
 kLd v4 h4 fun v5 h5 =>
 kIdx 1 v5 (g2_4 t0) h5 fun v7 h7 =>
 kLd v7 h7 fun v8 h8 =>
 kOf (c 128 [v8] h8) fun v9 h9 =>
 kAny (aStr .add (.const (g2_3 t0)) (.const v9)) c h9 fun v10 h10 =>
 fShal v10 fun v11 =>
 p2_3 t0 v11 fun t1 =>
 some (.normal, t1, h10)
def SR86_4 : RegS 2 := fun c t0 h0 =>
 kAdd (g2_4 t0) (.int .i64 1) h0 fun v2 h2 =>
 fShal v2 fun v3 =>
 p2_4 t0 v3 fun t1 =>
 some (.normal, t1, h2)
def SR86_6 : RegS 2 := fun c t0 h0 =>
 kAny (aStr .add (.const (g2_3 t0)) (.const (.string { data := #[46, 10] }))) c h0 fun v2 h2 =>
 fShal v2 fun v3 =>
 p2_2 t0 v3 fun t1 =>
 some (.normal, t1, h2)
def SW86_0 : CodeS 2 :=
 cSeqS (cSeqS (cRegS (SR86_3)) (cIfS g2_11 (cSkipS) (cExitS 0))) (cSeqS (cBlkS 1 (cRegS (SR86_5))) (cRegS (SR86_4)))
def SF86 : CodeS 2 :=
 cSeqS (cRegS (SR86_0)) (cSeqS (cRegS (SR86_1)) (cSeqS (cSeqS (cRegS (SR86_2)) (cBlkS 0 (cLoopS (SW86_0)))) (cSeqS (cRegS (SR86_6)) (cRetS))))
def T86 : FnT := runG en2_1 (SF86) (resQ (qc (rT g2_2) qn))
theorem T86_ok : GoodF Tryz.prog ro0 okF 86 (T86) :=
 (good_k (n := 26) acc2 (lv [0, 2, 3, 4, 11]) (rs := [ResultVar.tmp 2]) Tryz.func86 (by kernel_rfl) (by kernel_rfl) (by kernel_rfl) (by kernel_rfl) (by kernel_rfl) (by kernel_rfl) (by kernel_rfl) (by kernel_rfl) (by kernel_rfl)).enter en2_1_ok (by kernel_rfl)

/-- (*circheck/checker.run).firstState -/
def SR87_0 : RegS 2 := fun c t0 h0 =>
 fShal (.int .i64 0) fun v1 =>
 p2_2 t0 v1 fun t1 =>
 some (.normal, t1, h0)
def SR87_1 : RegS 2 := fun c t0 h0 =>
 kNil (g2_0 t0) h0 fun v2 h2 =>
 kFld 4 v2 h2 fun v3 h3 =>
 kLd v3 h3 fun v4 h4 =>
 kLenSl v4 h4 fun v5 h5 =>
 kEql v5 (.int .i64 0) h5 fun v6 h6 =>
 p2_8 t0 v6 fun t1 =>
 some (.normal, t1, h6)
def SR87_2 : RegS 2 := fun c t0 h0 =>
 fShal (.int .i64 0) fun v1 =>
 p2_2 t0 v1 fun t1 =>
 some (.normal, t1, h0)
def SR87_3 : RegS 2 := fun c t0 h0 =>
 kNil (g2_0 t0) h0 fun v2 h2 =>
 kFld 4 v2 h2 fun v3 h3 =>
 kLd v3 h3 fun v4 h4 =>
 kNil (g2_0 t0) h4 fun v6 h6 =>
 kFld 4 v6 h6 fun v7 h7 =>
 kLd v7 h7 fun v8 h8 =>
 kLenSl v8 h8 fun v9 h9 =>
 kSub v9 (.int .i64 1) h9 fun v10 h10 =>
 kIdx 2 v4 v10 h10 fun v11 h11 =>
 kFld 0 v11 h11 fun v12 h12 =>
 kLd v12 h12 fun v13 h13 =>
 fShal v13 fun v14 =>
 p2_2 t0 v14 fun t1 =>
 some (.normal, t1, h13)
def SF87 : CodeS 2 :=
 cSeqS (cRegS (SR87_0)) (cSeqS (cSeqS (cRegS (SR87_1)) (cIfS g2_8 (cSeqS (cRegS (SR87_2)) (cRetS)) (cSkipS))) (cSeqS (cRegS (SR87_3)) (cRetS)))
def T87 : FnT := runG en2_1 (SF87) (resQ (qc (rT g2_2) qn))
theorem T87_ok : GoodF Tryz.prog ro0 okF 87 (T87) :=
 (good_k (n := 22) acc2 (lv [0, 2, 8]) (rs := [ResultVar.tmp 2]) Tryz.func87 (by kernel_rfl) (by kernel_rfl) (by kernel_rfl) (by kernel_rfl) (by kernel_rfl) (by kernel_rfl) (by kernel_rfl) (by kernel_rfl) (by kernel_rfl)).enter en2_1_ok (by kernel_rfl)

/-- (*circheck/checker.run).inputs -/
def SR88_0 : RegS 2 := fun c t0 h0 =>
 fShal (.slice none 0 0) fun v1 =>
 p2_2 t0 v1 fun t1 =>
 some (.normal, t1, h0)
def SR88_1 : RegS 2 := fun c t0 h0 =>
 kMkSl 1 0 #[.int .i64 0] [] h0 fun v1 h1 =>
 fShal v1 fun v2 =>
 p2_3 t0 v2 fun t1 =>
 some (.normal, t1, h1)
def SR88_2 : RegS 2 := fun c t0 h0 =>
 kNil (g2_0 t0) h0 fun v2 h2 =>
 kFld 4 v2 h2 fun v3 h3 =>
 kLd v3 h3 fun v4 h4 =>
 kLenSl v4 h4 fun v5 h5 =>
 kSub v5 (.int .i64 1) h5 fun v6 h6 =>
 fShal v6 fun v7 =>
 p2_4 t0 v7 fun t1 =>
 some (.normal, t1, h6)
def SR88_3 : RegS 2 := fun c t0 h0 =>
 kGeq (g2_4 t0) (.int .i64 0) h0 fun v2 h2 =>
 p2_13 t0 v2 fun t1 =>
 some (.normal, t1, h2)
def SR88_5 : RegS 2 := fun c t0 h0 =>
 kNil (g2_0 t0) h0 fun v3 h3 =>
 kFld 4 v3 h3 fun v4 h4 =>
 kLd v4 h4 fun v5 h5 =>
 kIdx 2 v5 (g2_4 t0) h5 fun v7 h7 =>
 kFld 1 v7 h7 fun v8 h8 =>
 kLd v8 h8 fun v9 h9 =>
 kMkSl 1 1 #[.int .i64 0] [(0, v9)] h9 fun v10 h10 =>
 kOf (vApp ro0 1 8 (g2_3 t0) v10 h10) fun v11 h11 =>
 fShal v11 fun v12 =>
 p2_3 t0 v12 fun t1 =>
 some (.normal, t1, h11)
def SR88_4 : RegS 2 := fun c t0 h0 =>
 kSub (g2_4 t0) (.int .i64 1) h0 fun v2 h2 =>
 fShal v2 fun v3 =>
 p2_4 t0 v3 fun t1 =>
 some (.normal, t1, h2)
def SR88_6 : RegS 2 := fun c t0 h0 =>
 fShal (g2_3 t0) fun v2 =>
 p2_2 t0 v2 fun t1 =>
 some (.normal, t1, h0)
def SW88_0 : CodeS 2 :=
 cSeqS (cSeqS (cRegS (SR88_3)) (cIfS g2_13 (cSkipS) (cExitS 0))) (cSeqS (cBlkS 1 (cRegS (SR88_5))) (cRegS (SR88_4)))
def SF88 : CodeS 2 :=
 cSeqS (cRegS (SR88_0)) (cSeqS (cRegS (SR88_1)) (cSeqS (cSeqS (cRegS (SR88_2)) (cBlkS 0 (cLoopS (SW88_0)))) (cSeqS (cRegS (SR88_6)) (cRetS))))
def T88 : FnT := runG en2_1 (SF88) (resQ (qc (rT g2_2) qn))
theorem T88_ok : GoodF Tryz.prog ro0 okF 88 (T88) :=
 (good_k (n := 28) acc2 (lv [0, 2, 3, 4, 13]) (rs := [ResultVar.tmp 2]) Tryz.func88 (by kernel_rfl) (by kernel_rfl) (by kernel_rfl) (by kernel_rfl) (by kernel_rfl) (by kernel_rfl) (by kernel_rfl) (by kernel_rfl) (by kernel_rfl)).enter en2_1_ok (by kernel_rfl)

/-- (*circheck/checker.run).un-safeText -/
def SR89_0 : RegS 2 := fun c t0 h0 =>
 fShal (.string { data := #[] }) fun v1 =>
 p2_2 t0 v1 fun t1 =>
 some (.normal, t1, h0)
def SR89_1 : RegS 2 := fun c t0 h0 =>
 kOf (c 87 [(g2_0 t0)] h0) fun v2 h2 =>
 fShal v2 fun v3 =>
 p2_3 t0 v3 fun t1 =>
 some (.normal, t1, h2)
def SR89_2 : RegS 2 := fun c t0 h0 =>
 kOf (c 88 [(g2_0 t0)] h0) fun v2 h2 =>
 fShal v2 fun v3 =>
 p2_4 t0 v3 fun t1 =>
 some (.normal, t1, h2)
def SR89_3 : RegS 2 := fun c t0 h0 =>
 kNil (g2_0 t0) h0 fun v3 h3 =>
 kFld 0 v3 h3 fun v4 h4 =>
 kLd v4 h4 fun v5 h5 =>
 kNil v5 h5 fun v6 h6 =>
 kFld 1 v6 h6 fun v7 h7 =>
 kLd v7 h7 fun v8 h8 =>
 kLenSl v8 h8 fun v9 h9 =>
 kOf (c 129 [(g2_3 t0), v9] h9) fun v10 h10 =>
 kAny (aStr .add (.const (.string { data := #[49, 10, 98, 48, 10] })) (.const v10)) c h10 fun v11 h11 =>
 fShal v11 fun v12 =>
 p2_5 t0 v12 fun t1 =>
 some (.normal, t1, h11)
def SR89_4 : RegS 2 := fun c t0 h0 =>
 fShal (.int .i64 0) fun v1 =>
 p2_6 t0 v1 fun t1 =>
 some (.normal, t1, h0)
def SR89_5 : RegS 2 := fun c t0 h0 =>
 kLenSl (g2_4 t0) h0 fun v3 h3 =>
 kLss (g2_6 t0) v3 h3 fun v4 h4 =>
 p2_25 t0 v4 fun t1 =>
 some (.normal, t1, h4)
def SR89_7 : RegS 2 := fun c t0 h0 =>
 kIdx 1 (g2_4 t0) (g2_6 t0) h0 fun v4 h4 =>
 kLd v4 h4 fun v5 h5 =>
 kNil (g2_0 t0) h5 fun v7 h7 =>
 kFld 0 v7 h7 fun v8 h8 =>
 kLd v8 h8 fun v9 h9 =>
 kNil v9 h9 fun v10 h10 =>
 kFld 0 v10 h10 fun v11 h11 =>
 kLd v11 h11 fun v12 h12 =>
 kOf (c 129 [v5, v12] h12) fun v13 h13 =>
 kAny (aStr .add (.const (g2_5 t0)) (.const v13)) c h13 fun v14 h14 =>
 fShal v14 fun v15 =>
 p2_5 t0 v15 fun t1 =>
 some (.normal, t1, h14)
def SR89_6 : RegS 2 := fun c t0 h0 =>
 kAdd (g2_6 t0) (.int .i64 1) h0 fun v2 h2 =>
 fShal v2 fun v3 =>
 p2_6 t0 v3 fun t1 =>
 some (.normal, t1, h2)
def SR89_8 : RegS 2 := fun c t0 h0 =>
 kAny (aStr .add (.const (g2_5 t0)) (.const (.string { data := #[46, 10] }))) c h0 fun v2 h2 =>
 fShal v2 fun v3 =>
 p2_2 t0 v3 fun t1 =>
 some (.normal, t1, h2)
def SW89_0 : CodeS 2 :=
 cSeqS (cSeqS (cRegS (SR89_5)) (cIfS g2_25 (cSkipS) (cExitS 0))) (cSeqS (cBlkS 1 (cRegS (SR89_7))) (cRegS (SR89_6)))
def SF89 : CodeS 2 :=
 cSeqS (cRegS (SR89_0)) (cSeqS (cRegS (SR89_1)) (cSeqS (cRegS (SR89_2)) (cSeqS (cRegS (SR89_3)) (cSeqS (cSeqS (cRegS (SR89_4)) (cBlkS 0 (cLoopS (SW89_0)))) (cSeqS (cRegS (SR89_8)) (cRetS))))))
def T89 : FnT := runG en2_1 (SF89) (resQ (qc (rT g2_2) qn))
theorem T89_ok : GoodF Tryz.prog ro0 okF 89 (T89) :=
 (good_k (n := 44) acc2 (lv [0, 2, 3, 4, 5, 6, 25]) (rs := [ResultVar.tmp 2]) Tryz.func89 (by kernel_rfl) (by kernel_rfl) (by kernel_rfl) (by kernel_rfl) (by kernel_rfl) (by kernel_rfl) (by kernel_rfl) (by kernel_rfl) (by kernel_rfl)).enter en2_1_ok (by kernel_rfl)

/-- internal/strconv.Itoa -/
def SR90_0 : RegS 1 := fun c t0 h0 =>
 fShal (.string { data := #[] }) fun v1 =>
 p1_2 t0 v1 fun t1 =>
 some (.normal, t1, h0)
def SR90_1 : RegS 1 := fun c t0 h0 =>
 kOf (c 130 [(g1_0 t0), (.int .i64 10)] h0) fun v2 h2 =>
 fShal v2 fun v3 =>
 p1_2 t0 v3 fun t1 =>
 some (.normal, t1, h2)
def SF90 : CodeS 1 :=
 cSeqS (cRegS (SR90_0)) (cSeqS (cRegS (SR90_1)) (cRetS))
def T90 : FnT := runG en1_1 (SF90) (resQ (qc (rT g1_2) qn))
theorem T90_ok : GoodF Tryz.prog ro0 okF 90 (T90) :=
 (good_k (n := 5) acc1 (lv [0, 2]) (rs := [ResultVar.tmp 2]) Tryz.func90 (by kernel_rfl) (by kernel_rfl) (by kernel_rfl) (by kernel_rfl) (by kernel_rfl) (by kernel_rfl) (by kernel_rfl) (by kernel_rfl) (by kernel_rfl)).enter en1_1_ok (by kernel_rfl)

/-- (*circheck/checker.Circuit).NVars -/
def SR98_0 : RegS 2 := fun c t0 h0 =>
 fShal (.int .i64 0) fun v1 =>
 p2_2 t0 v1 fun t1 =>
 some (.normal, t1, h0)
def SR98_1 : RegS 2 := fun c t0 h0 =>
 kPtrNil false (g2_0 t0) (.pointer none) h0 fun v2 h2 =>
 p2_4 t0 v2 fun t1 =>
 some (.normal, t1, h2)
def SR98_2 : RegS 2 := fun c t0 h0 =>
 fShal (.int .i64 0) fun v1 =>
 p2_2 t0 v1 fun t1 =>
 some (.normal, t1, h0)
def SR98_3 : RegS 2 := fun c t0 h0 =>
 kNil (g2_0 t0) h0 fun v2 h2 =>
 kFld 0 v2 h2 fun v3 h3 =>
 kLd v3 h3 fun v4 h4 =>
 kAdd (.int .i64 1) v4 h4 fun v5 h5 =>
 kNil (g2_0 t0) h5 fun v7 h7 =>
 kFld 1 v7 h7 fun v8 h8 =>
 kLd v8 h8 fun v9 h9 =>
 kLenSl v9 h9 fun v10 h10 =>
 kAdd v5 v10 h10 fun v11 h11 =>
 kNil (g2_0 t0) h11 fun v13 h13 =>
 kFld 2 v13 h13 fun v14 h14 =>
 kLd v14 h14 fun v15 h15 =>
 kLenSl v15 h15 fun v16 h16 =>
 kAdd v11 v16 h16 fun v17 h17 =>
 fShal v17 fun v18 =>
 p2_2 t0 v18 fun t1 =>
 some (.normal, t1, h17)
def SF98 : CodeS 2 :=
 cSeqS (cRegS (SR98_0)) (cSeqS (cSeqS (cRegS (SR98_1)) (cIfS g2_4 (cSeqS (cRegS (SR98_2)) (cRetS)) (cSkipS))) (cSeqS (cRegS (SR98_3)) (cRetS)))
def T98 : FnT := runG en2_1 (SF98) (resQ (qc (rT g2_2) qn))
theorem T98_ok : GoodF Tryz.prog ro0 okF 98 (T98) :=
 (good_k (n := 22) acc2 (lv [0, 2, 4]) (rs := [ResultVar.tmp 2]) Tryz.func98 (by kernel_rfl) (by kernel_rfl) (by kernel_rfl) (by kernel_rfl) (by kernel_rfl) (by kernel_rfl) (by kernel_rfl) (by kernel_rfl) (by kernel_rfl)).enter en2_1_ok (by kernel_rfl)

/-- (*circheck/checker.Circuit).Begins -/
def SR99_0 : RegS 2 := fun c t0 h0 =>
 fShal (.bool false) fun v1 =>
 p2_4 t0 v1 fun t1 =>
 some (.normal, t1, h0)
def SR99_1 : RegS 2 := fun c t0 h0 =>
 kPtrNil false (g2_0 t0) (.pointer none) h0 fun v2 h2 =>
 p2_8 t0 v2 fun t1 =>
 some (.normal, t1, h2)
def SR99_2 : RegS 2 := fun c t0 h0 =>
 fShal (.bool false) fun v1 =>
 p2_4 t0 v1 fun t1 =>
 some (.normal, t1, h0)
def SR99_3 : RegS 2 := fun c t0 h0 =>
 fShal (.int .i64 0) fun v1 =>
 p2_5 t0 v1 fun t1 =>
 some (.normal, t1, h0)
def SR99_4 : RegS 2 := fun c t0 h0 =>
 kNil (g2_0 t0) h0 fun v3 h3 =>
 kFld 1 v3 h3 fun v4 h4 =>
 kLd v4 h4 fun v5 h5 =>
 kLenSl v5 h5 fun v6 h6 =>
 kLss (g2_5 t0) v6 h6 fun v7 h7 =>
 p2_15 t0 v7 fun t1 =>
 some (.normal, t1, h7)
def SR99_6 : RegS 2 := fun c t0 h0 =>
 kNil (g2_0 t0) h0 fun v2 h2 =>
 kFld 1 v2 h2 fun v3 h3 =>
 kLd v3 h3 fun v4 h4 =>
 kIdx 2 v4 (g2_5 t0) h4 fun v6 h6 =>
 kFld 1 v6 h6 fun v7 h7 =>
 kLd v7 h7 fun v8 h8 =>
 fShal v8 fun v9 =>
 p2_6 t0 v9 fun t1 =>
 some (.normal, t1, h8)
def SR99_7 : RegS 2 := fun c t0 h0 =>
 kNeq (g2_6 t0) (.int .i64 2) h0 fun v2 h2 =>
 kIf v2 true (fun k => k (g2_6 t0) h2) h2 fun v4 h4 =>
 kIf v2 true (fun k => k (g2_1 t0) h4) h4 fun v5 h5 =>
 kIf v2 true (fun k => k (g2_5 t0) h5) h5 fun v6 h6 =>
 kIf v2 true (fun k => kAny (aShift .shr (.const v5) (.const v6)) c h6 k) h6 fun v7 h7 =>
 kIf v2 true (fun k => kOf (vInt .and v7 (.int .i64 1) h7) k) h7 fun v8 h8 =>
 kIf v2 true (fun k => kNeq v4 v8 h8 k) h8 fun v9 h9 =>
 kPick v2 v9 (.bool false) h9 fun v10 h10 =>
 p2_35 t0 v10 fun t1 =>
 some (.normal, t1, h10)
def SR99_8 : RegS 2 := fun c t0 h0 =>
 fShal (.bool false) fun v1 =>
 p2_4 t0 v1 fun t1 =>
 some (.normal, t1, h0)
def SR99_5 : RegS 2 := fun c t0 h0 =>
 kAdd (g2_5 t0) (.int .i64 1) h0 fun v2 h2 =>
 fShal v2 fun v3 =>
 p2_5 t0 v3 fun t1 =>
 some (.normal, t1, h2)
def SR99_9 : RegS 2 := fun c t0 h0 =>
 fShal (.bool true) fun v1 =>
 p2_4 t0 v1 fun t1 =>
 some (.normal, t1, h0)
def SW99_0 : CodeS 2 :=
 cSeqS (cSeqS (cRegS (SR99_4)) (cIfS g2_15 (cSkipS) (cExitS 0))) (cSeqS (cBlkS 1 (cSeqS (cRegS (SR99_6)) (cSeqS (cRegS (SR99_7)) (cIfS g2_35 (cSeqS (cRegS (SR99_8)) (cRetS)) (cSkipS))))) (cRegS (SR99_5)))
def SF99 : CodeS 2 :=
 cSeqS (cRegS (SR99_0)) (cSeqS (cSeqS (cRegS (SR99_1)) (cIfS g2_8 (cSeqS (cRegS (SR99_2)) (cRetS)) (cSkipS))) (cSeqS (cSeqS (cRegS (SR99_3)) (cBlkS 0 (cLoopS (SW99_0)))) (cSeqS (cRegS (SR99_9)) (cRetS))))
def T99 : FnT := runG en2_2 (SF99) (resQ (qc (rT g2_4) qn))
theorem T99_ok : GoodF Tryz.prog ro0 okF 99 (T99) :=
 (good_k (n := 36) acc2 (lv [0, 1, 4, 5, 6, 8, 15, 35]) (rs := [ResultVar.tmp 4]) Tryz.func99 (by kernel_rfl) (by kernel_rfl) (by kernel_rfl) (by kernel_rfl) (by kernel_rfl) (by kernel_rfl) (by kernel_rfl) (by kernel_rfl) (by kernel_rfl)).enter en2_2_ok (by kernel_rfl)

/-- (*circheck/checker.Solver).NewVar -/
def SR105_0 : RegS 2 := fun c t0 h0 =>
 fShal (.int .i64 0) fun v1 =>
 p2_4 t0 v1 fun t1 =>
 fShal (.int .i64 0) fun v2 =>
 p2_5 t1 v2 fun t2 =>
 some (.normal, t2, h0)
def SR105_1 : RegS 2 := fun c t0 h0 =>
 kPtrNil false (g2_0 t0) (.pointer none) h0 fun v2 h2 =>
 kIf v2 false (fun k => k (g2_0 t0) h2) h2 fun v4 h4 =>
 kIf v2 false (fun k => kNil v4 h4 k) h4 fun v5 h5 =>
 kIf v2 false (fun k => kFld 0 v5 h5 k) h5 fun v6 h6 =>
 kIf v2 false (fun k => kLd v6 h6 k) h6 fun v7 h7 =>
 kIf v2 false (fun k => kLenSl v7 h7 k) h7 fun v8 h8 =>
 kIf v2 false (fun k => kGeq v8 (.int .i64 192) h8 k) h8 fun v9 h9 =>
 kPick v2 (.bool true) v9 h9 fun v10 h10 =>
 p2_15 t0 v10 fun t1 =>
 some (.normal, t1, h10)
def SR105_2 : RegS 2 := fun c t0 h0 =>
 fShal (.int .i64 0) fun v1 =>
 p2_4 t0 v1 fun t1 =>
 fShal (.int .i64 14) fun v2 =>
 p2_5 t1 v2 fun t2 =>
 some (.normal, t2, h0)
def SR105_3 : RegS 2 := fun c t0 h0 =>
 kNil (g2_0 t0) h0 fun v3 h3 =>
 kFld 0 v3 h3 fun v4 h4 =>
 kLd v4 h4 fun v5 h5 =>
 kMkSl 1 1 #[.bool false] [(0, (g2_1 t0))] h5 fun v7 h7 =>
 kOf (vApp ro0 1 1 v5 v7 h7) fun v8 h8 =>
 kNil (g2_0 t0) h8 fun v9 h9 =>
 kFld 0 v9 h9 fun v10 h10 =>
 kSt ro0 v10 v8 h10 fun _ h11 =>
 some (.normal, t0, h11)
def SR105_4 : RegS 2 := fun c t0 h0 =>
 kNil (g2_0 t0) h0 fun v2 h2 =>
 kFld 0 v2 h2 fun v3 h3 =>
 kLd v3 h3 fun v4 h4 =>
 kLenSl v4 h4 fun v5 h5 =>
 kSub v5 (.int .i64 1) h5 fun v6 h6 =>
 fShal v6 fun v7 =>
 p2_4 t0 v7 fun t1 =>
 fShal (.int .i64 0) fun v8 =>
 p2_5 t1 v8 fun t2 =>
 some (.normal, t2, h6)
def SF105 : CodeS 2 :=
 cSeqS (cRegS (SR105_0)) (cSeqS (cSeqS (cRegS (SR105_1)) (cIfS g2_15 (cSeqS (cRegS (SR105_2)) (cRetS)) (cSkipS))) (cSeqS (cRegS (SR105_3)) (cSeqS (cRegS (SR105_4)) (cRetS))))
def T105 : FnT := runG en2_2 (SF105) (resQ (qc (rT g2_4) (qc (rT g2_5) qn)))
theorem T105_ok : GoodF Tryz.prog ro0 okF 105 (T105) :=
 (good_k (n := 32) acc2 (lv [0, 1, 4, 5, 15]) (rs := [ResultVar.tmp 4, ResultVar.tmp 5]) Tryz.func105 (by kernel_rfl) (by kernel_rfl) (by kernel_rfl) (by kernel_rfl) (by kernel_rfl) (by kernel_rfl) (by kernel_rfl) (by kernel_rfl) (by kernel_rfl)).enter en2_2_ok (by kernel_rfl)

/-- (*circheck/checker.Solver).Core -/
def SR110_0 : RegS 2 := fun c t0 h0 =>
 fShal (.slice none 0 0) fun v1 =>
 p2_2 t0 v1 fun t1 =>
 some (.normal, t1, h0)
def SR110_1 : RegS 2 := fun c t0 h0 =>
 kPtrNil false (g2_0 t0) (.pointer none) h0 fun v2 h2 =>
 p2_4 t0 v2 fun t1 =>
 some (.normal, t1, h2)
def SR110_2 : RegS 2 := fun c t0 h0 =>
 fShal (.slice none 0 0) fun v1 =>
 p2_2 t0 v1 fun t1 =>
 some (.normal, t1, h0)
def SR110_3 : RegS 2 := fun c t0 h0 =>
 kNil (g2_0 t0) h0 fun v2 h2 =>
 kFld 3 v2 h2 fun v3 h3 =>
 kLd v3 h3 fun v4 h4 =>
 kOf (vApp ro0 1 8 (.slice none 0 0) v4 h4) fun v5 h5 =>
 fShal v5 fun v6 =>
 p2_2 t0 v6 fun t1 =>
 some (.normal, t1, h5)
def SF110 : CodeS 2 :=
 cSeqS (cRegS (SR110_0)) (cSeqS (cSeqS (cRegS (SR110_1)) (cIfS g2_4 (cSeqS (cRegS (SR110_2)) (cRetS)) (cSkipS))) (cSeqS (cRegS (SR110_3)) (cRetS)))
def T110 : FnT := runG en2_1 (SF110) (resQ (qc (rT g2_2) qn))
theorem T110_ok : GoodF Tryz.prog ro0 okF 110 (T110) :=
 (good_k (n := 10) acc2 (lv [0, 2, 4]) (rs := [ResultVar.tmp 2]) Tryz.func110 (by kernel_rfl) (by kernel_rfl) (by kernel_rfl) (by kernel_rfl) (by kernel_rfl) (by kernel_rfl) (by kernel_rfl) (by kernel_rfl) (by kernel_rfl)).enter en2_1_ok (by kernel_rfl)

/-- (*circheck/checker.Solver).Conflicts -/
def SR111_0 : RegS 2 := fun c t0 h0 =>
 fShal (.int .i64 0) fun v1 =>
 p2_2 t0 v1 fun t1 =>
 some (.normal, t1, h0)
def SR111_1 : RegS 2 := fun c t0 h0 =>
 kPtrNil false (g2_0 t0) (.pointer none) h0 fun v2 h2 =>
 p2_4 t0 v2 fun t1 =>
 some (.normal, t1, h2)
def SR111_2 : RegS 2 := fun c t0 h0 =>
 fShal (.int .i64 0) fun v1 =>
 p2_2 t0 v1 fun t1 =>
 some (.normal, t1, h0)
def SR111_3 : RegS 2 := fun c t0 h0 =>
 kNil (g2_0 t0) h0 fun v2 h2 =>
 kFld 4 v2 h2 fun v3 h3 =>
 kLd v3 h3 fun v4 h4 =>
 fShal v4 fun v5 =>
 p2_2 t0 v5 fun t1 =>
 some (.normal, t1, h4)
def SF111 : CodeS 2 :=
 cSeqS (cRegS (SR111_0)) (cSeqS (cSeqS (cRegS (SR111_1)) (cIfS g2_4 (cSeqS (cRegS (SR111_2)) (cRetS)) (cSkipS))) (cSeqS (cRegS (SR111_3)) (cRetS)))
def T111 : FnT := runG en2_1 (SF111) (resQ (qc (rT g2_2) qn))
theorem T111_ok : GoodF Tryz.prog ro0 okF 111 (T111) :=
 (good_k (n := 9) acc2 (lv [0, 2, 4]) (rs := [ResultVar.tmp 2]) Tryz.func111 (by kernel_rfl) (by kernel_rfl) (by kernel_rfl) (by kernel_rfl) (by kernel_rfl) (by kernel_rfl) (by kernel_rfl) (by kernel_rfl) (by kernel_rfl)).enter en2_1_ok (by kernel_rfl)

/-- circheck/checker.isDigit -/
def SR113_0 : RegS 2 := fun c t0 h0 =>
 fShal (.bool false) fun v1 =>
 p2_2 t0 v1 fun t1 =>
 some (.normal, t1, h0)
def SR113_1 : RegS 2 := fun c t0 h0 =>
 kGeq (g2_0 t0) (.int .i64 48) h0 fun v2 h2 =>
 kIf v2 true (fun k => k (g2_0 t0) h2) h2 fun v4 h4 =>
 kIf v2 true (fun k => kLeq v4 (.int .i64 57) h4 k) h4 fun v5 h5 =>
 kPick v2 v5 (.bool false) h5 fun v6 h6 =>
 fShal v6 fun v7 =>
 p2_2 t0 v7 fun t1 =>
 some (.normal, t1, h6)
def SF113 : CodeS 2 :=
 cSeqS (cRegS (SR113_0)) (cSeqS (cRegS (SR113_1)) (cRetS))
def T113 : FnT := runG en2_1 (SF113) (resQ (qc (rT g2_2) qn))
theorem T113_ok : GoodF Tryz.prog ro0 okF 113 (T113) :=
 (good_k (n := 9) acc2 (lv [0, 2]) (rs := [ResultVar.tmp 2]) Tryz.func113 (by kernel_rfl) (by kernel_rfl) (by kernel_rfl) (by kernel_rfl) (by kernel_rfl) (by kernel_rfl) (by kernel_rfl) (by kernel_rfl) (by kernel_rfl)).enter en2_1_ok (by kernel_rfl)

/-- (*circheck/checker.netlist).has -/
def SR114_0 : RegS 2 := fun c t0 h0 =>
 fShal (.bool false) fun v1 =>
 p2_4 t0 v1 fun t1 =>
 some (.normal, t1, h0)
def SR114_1 : RegS 2 := fun c t0 h0 =>
 kGeq (g2_1 t0) (.int .i64 0) h0 fun v2 h2 =>
 kIf v2 true (fun k => k (g2_1 t0) h2) h2 fun v4 h4 =>
 kIf v2 true (fun k => kAny (aShift .shr (.const v4) (.const (.int .u64 1))) c h4 k) h4 fun v5 h5 =>
 kIf v2 true (fun k => k (g2_0 t0) h5) h5 fun v6 h6 =>
 kIf v2 true (fun k => kNil v6 h6 k) h6 fun v7 h7 =>
 kIf v2 true (fun k => kFld 0 v7 h7 k) h7 fun v8 h8 =>
 kIf v2 true (fun k => kLd v8 h8 k) h8 fun v9 h9 =>
 kIf v2 true (fun k => kLenSl v9 h9 k) h9 fun v10 h10 =>
 kIf v2 true (fun k => kLss v5 v10 h10 k) h10 fun v11 h11 =>
 kPick v2 v11 (.bool false) h11 fun v12 h12 =>
 fShal v12 fun v13 =>
 p2_4 t0 v13 fun t1 =>
 some (.normal, t1, h12)
def SF114 : CodeS 2 :=
 cSeqS (cRegS (SR114_0)) (cSeqS (cRegS (SR114_1)) (cRetS))
def T114 : FnT := runG en2_2 (SF114) (resQ (qc (rT g2_4) qn))
theorem T114_ok : GoodF Tryz.prog ro0 okF 114 (T114) :=
 (good_k (n := 17) acc2 (lv [0, 1, 4]) (rs := [ResultVar.tmp 4]) Tryz.func114 (by kernel_rfl) (by kernel_rfl) (by kernel_rfl) (by kernel_rfl) (by kernel_rfl) (by kernel_rfl) (by kernel_rfl) (by kernel_rfl) (by kernel_rfl)).enter en2_2_ok (by kernel_rfl)

/-- (*circheck/checker.netlist).literal -/
def SR115_0 : RegS 2 := fun c t0 h0 =>
 kNew [.int .i64 0, .int .i64 0] h0 fun v1 h1 =>
 p2_4 t0 v1 fun t1 =>
 some (.normal, t1, h1)
def SR115_1 : RegS 2 := fun c t0 h0 =>
 kNil (g2_1 t0) h0 fun v2 h2 =>
 kFld 1 v2 h2 fun v3 h3 =>
 kLd v3 h3 fun v4 h4 =>
 fShal v4 fun v5 =>
 p2_5 t0 v5 fun t1 =>
 some (.normal, t1, h4)
def SR115_2 : RegS 2 := fun c t0 h0 =>
 kOf (c 66 [(g2_1 t0)] h0) fun v2 h2 =>
 fShal v2 fun v3 =>
 p2_6 t0 v3 fun t1 =>
 some (.normal, t1, h2)
def SR115_3 : RegS 2 := fun c t0 h0 =>
 kOf (c 114 [(g2_0 t0), (g2_6 t0)] h0) fun v3 h3 =>
 kNot v3 h3 fun v4 h4 =>
 p2_16 t0 v4 fun t1 =>
 some (.normal, t1, h4)
def SR115_4 : RegS 2 := fun c t0 h0 =>
 kOf (c 67 [(g2_1 t0), (.int .i64 7), (g2_5 t0)] h0) fun v3 h3 =>
 some (.normal, t0, h3)
def SR115_5 : RegS 2 := fun c t0 h0 =>
 kBuild #[.int .i64 0, .int .i64 0] [(0, 1), (1, 1)] [(0, (g2_6 t0)), (1, (g2_5 t0))] h0 fun v3 h3 =>
 kAny (aSt tO ro0 2 (.const (g2_4 t0)) (.const v3)) c h3 fun _ h4 =>
 some (.normal, t0, h4)
def SF115 : CodeS 2 :=
 cSeqS (cRegS (SR115_0)) (cSeqS (cRegS (SR115_1)) (cSeqS (cRegS (SR115_2)) (cSeqS (cSeqS (cRegS (SR115_3)) (cIfS g2_16 (cRegS (SR115_4)) (cSkipS))) (cSeqS (cRegS (SR115_5)) (cRetS)))))
def T115 : FnT := runG en2_2 (SF115) (resQ (qc (rN 2 g2_4) qn))
theorem T115_ok : GoodF Tryz.prog ro0 okF 115 (T115) :=
 (good_k (n := 23) acc2 (lv [0, 1, 4, 5, 6, 16]) (rs := [ResultVar.cell 4 119]) Tryz.func115 (by kernel_rfl) (by kernel_rfl) (by kernel_rfl) (by kernel_rfl) (by kernel_rfl) (by kernel_rfl) (by kernel_rfl) (by kernel_rfl) (by kernel_rfl)).enter en2_2_ok (by kernel_rfl)

/-- (*circheck/checker.reader).reset -/
def SR116_0 : RegS 2 := fun c t0 h0 =>
 fShal (.int .i64 0) fun v1 =>
 p2_4 t0 v1 fun t1 =>
 some (.normal, t1, h0)
def SR116_1 : RegS 2 := fun c t0 h0 =>
 kNil (g2_0 t0) h0 fun v2 h2 =>
 kFld 1 v2 h2 fun v3 h3 =>
 kLd v3 h3 fun v4 h4 =>
 fShal v4 fun v5 =>
 p2_5 t0 v5 fun t1 =>
 some (.normal, t1, h4)
def SR116_2 : RegS 2 := fun c t0 h0 =>
 kOf (c 66 [(g2_0 t0)] h0) fun v2 h2 =>
 p2_11 t0 v2 fun t1 =>
 some (.normal, t1, h2)
def SR116_3 : RegS 2 := fun c t0 h0 =>
 kEql (g2_11 t0) (.int .i64 0) h0 fun v1 h1 =>
 fShal v1 fun v2 =>
 p2_12 t0 v2 fun t1 =>
 some (.normal, t1, h1)
def SR116_4 : RegS 2 := fun c t0 h0 =>
 fShal (.int .i64 0) fun v1 =>
 p2_4 t0 v1 fun t1 =>
 some (.normal, t1, h0)
def SR116_5 : RegS 2 := fun c t0 h0 =>
 kEql (g2_11 t0) (.int .i64 1) h0 fun v1 h1 =>
 fShal v1 fun v2 =>
 p2_14 t0 v2 fun t1 =>
 some (.normal, t1, h1)
def SR116_6 : RegS 2 := fun c t0 h0 =>
 fShal (.int .i64 1) fun v1 =>
 p2_4 t0 v1 fun t1 =>
 some (.normal, t1, h0)
def SR116_7 : RegS 2 := fun c t0 h0 =>
 kEql (g2_11 t0) (g2_1 t0) h0 fun v2 h2 =>
 fShal v2 fun v3 =>
 p2_16 t0 v3 fun t1 =>
 some (.normal, t1, h2)
def SR116_8 : RegS 2 := fun c t0 h0 =>
 fShal (.int .i64 2) fun v1 =>
 p2_4 t0 v1 fun t1 =>
 some (.normal, t1, h0)
def SR116_9 : RegS 2 := fun c t0 h0 =>
 kOf (c 67 [(g2_0 t0), (.int .i64 9), (g2_5 t0)] h0) fun v3 h3 =>
 some (.normal, t0, h3)
def SR116_10 : RegS 2 := fun c t0 h0 =>
 fShal (.int .i64 0) fun v1 =>
 p2_4 t0 v1 fun t1 =>
 some (.normal, t1, h0)
def SF116 : CodeS 2 :=
 cSeqS (cRegS (SR116_0)) (cSeqS (cRegS (SR116_1)) (cSeqS (cSeqS (cRegS (SR116_2)) (cBlkS 0 (cSeqS (cRegS (SR116_3)) (cIfS g2_12 (cSeqS (cRegS (SR116_4)) (cRetS)) (cSeqS (cRegS (SR116_5)) (cIfS g2_14 (cSeqS (cRegS (SR116_6)) (cRetS)) (cSeqS (cRegS (SR116_7)) (cIfS g2_16 (cSeqS (cRegS (SR116_8)) (cRetS)) (cSkipS))))))))) (cSeqS (cRegS (SR116_9)) (cSeqS (cRegS (SR116_10)) (cRetS)))))
def T116 : FnT := runG en2_2 (SF116) (resQ (qc (rT g2_4) qn))
theorem T116_ok : GoodF Tryz.prog ro0 okF 116 (T116) :=
 (good_k (n := 22) acc2 (lv [0, 1, 4, 5, 11, 12, 14, 16]) (rs := [ResultVar.tmp 4]) Tryz.func116 (by kernel_rfl) (by kernel_rfl) (by kernel_rfl) (by kernel_rfl) (by kernel_rfl) (by kernel_rfl) (by kernel_rfl) (by kernel_rfl) (by kernel_rfl)).enter en2_2_ok (by kernel_rfl)

/-- (*circheck/checker.reader).difference -/
def SR117_0 : RegS 2 := fun c t0 h0 =>
 fShal (.int .i64 0) fun v1 =>
 p2_2 t0 v1 fun t1 =>
 some (.normal, t1, h0)
def SR117_1 : RegS 2 := fun c t0 h0 =>
 kOf (c 155 [(g2_0 t0), (.int .i64 256)] h0) fun v2 h2 =>
 fShal v2 fun v3 =>
 p2_3 t0 v3 fun t1 =>
 some (.normal, t1, h2)
def SR117_2 : RegS 2 := fun c t0 h0 =>
 kLss (g2_3 t0) (.int .i64 128) h0 fun v2 h2 =>
 p2_8 t0 v2 fun t1 =>
 some (.normal, t1, h2)
def SR117_3 : RegS 2 := fun c t0 h0 =>
 fShal (g2_3 t0) fun v2 =>
 p2_2 t0 v2 fun t1 =>
 some (.normal, t1, h0)
def SR117_4 : RegS 2 := fun c t0 h0 =>
 kOf (c 155 [(g2_0 t0), (.int .i64 128)] h0) fun v2 h2 =>
 fShal v2 fun v3 =>
 p2_4 t0 v3 fun t1 =>
 some (.normal, t1, h2)
def SR117_5 : RegS 2 := fun c t0 h0 =>
 kSub (g2_3 t0) (.int .i64 128) h0 fun v2 h2 =>
 kOf (vInt .mul (.int .i64 128) (g2_4 t0) h2) fun v4 h4 =>
 kAdd v2 v4 h4 fun v5 h5 =>
 fShal v5 fun v6 =>
 p2_2 t0 v6 fun t1 =>
 some (.normal, t1, h5)
def SF117 : CodeS 2 :=
 cSeqS (cRegS (SR117_0)) (cSeqS (cRegS (SR117_1)) (cSeqS (cSeqS (cRegS (SR117_2)) (cIfS g2_8 (cSeqS (cRegS (SR117_3)) (cRetS)) (cSkipS))) (cSeqS (cRegS (SR117_4)) (cSeqS (cRegS (SR117_5)) (cRetS)))))
def T117 : FnT := runG en2_1 (SF117) (resQ (qc (rT g2_2) qn))
theorem T117_ok : GoodF Tryz.prog ro0 okF 117 (T117) :=
 (good_k (n := 17) acc2 (lv [0, 2, 3, 4, 8]) (rs := [ResultVar.tmp 2]) Tryz.func117 (by kernel_rfl) (by kernel_rfl) (by kernel_rfl) (by kernel_rfl) (by kernel_rfl) (by kernel_rfl) (by kernel_rfl) (by kernel_rfl) (by kernel_rfl)).enter en2_1_ok (by kernel_rfl)

/-- (*circheck/checker.netlist).isGiven -/
def SR118_0 : RegS 2 := fun c t0 h0 =>
 fShal (.bool false) fun v1 =>
 p2_4 t0 v1 fun t1 =>
 some (.normal, t1, h0)
def SR118_1 : RegS 2 := fun c t0 h0 =>
 kOf (c 114 [(g2_0 t0), (g2_1 t0)] h0) fun v3 h3 =>
 kIf v3 true (fun k => k (g2_0 t0) h3) h3 fun v5 h5 =>
 kIf v3 true (fun k => kNil v5 h5 k) h5 fun v6 h6 =>
 kIf v3 true (fun k => kFld 0 v6 h6 k) h6 fun v7 h7 =>
 kIf v3 true (fun k => kLd v7 h7 k) h7 fun v8 h8 =>
 kIf v3 true (fun k => k (g2_1 t0) h8) h8 fun v9 h9 =>
 kIf v3 true (fun k => kAny (aShift .shr (.const v9) (.const (.int .u64 1))) c h9 k) h9 fun v10 h10 =>
 kIf v3 true (fun k => kIdx 1 v8 v10 h10 k) h10 fun v11 h11 =>
 kIf v3 true (fun k => kLd v11 h11 k) h11 fun v12 h12 =>
 kPick v3 v12 (.bool false) h12 fun v13 h13 =>
 fShal v13 fun v14 =>
 p2_4 t0 v14 fun t1 =>
 some (.normal, t1, h13)
def SF118 : CodeS 2 :=
 cSeqS (cRegS (SR118_0)) (cSeqS (cRegS (SR118_1)) (cRetS))
def T118 : FnT := runG en2_2 (SF118) (resQ (qc (rT g2_4) qn))
theorem T118_ok : GoodF Tryz.prog ro0 okF 118 (T118) :=
 (good_k (n := 18) acc2 (lv [0, 1, 4]) (rs := [ResultVar.tmp 4]) Tryz.func118 (by kernel_rfl) (by kernel_rfl) (by kernel_rfl) (by kernel_rfl) (by kernel_rfl) (by kernel_rfl) (by kernel_rfl) (by kernel_rfl) (by kernel_rfl)).enter en2_2_ok (by kernel_rfl)

/-- (*circheck/checker.reader).name -/
def SR119_0 : RegS 2 := fun c t0 h0 =>
 kNil (g2_0 t0) h0 fun v2 h2 =>
 kFld 1 v2 h2 fun v3 h3 =>
 kLd v3 h3 fun v4 h4 =>
 fShal v4 fun v5 =>
 p2_2 t0 v5 fun t1 =>
 some (.normal, t1, h4)
def SR119_1 : RegS 2 := fun c t0 h0 =>
 kOf (c 65 [(g2_0 t0)] h0) fun v2 h2 =>
 fShal v2 fun v3 =>
 p2_3 t0 v3 fun t1 =>
 some (.normal, t1, h2)
def SR119_2 : RegS 2 := fun c t0 h0 =>
 kNeq (g2_3 t0) (.int .i64 (-1)) h0 fun v2 h2 =>
 kIf v2 true (fun k => k (g2_3 t0) h2) h2 fun v4 h4 =>
 kIf v2 true (fun k => kNeq v4 (.int .i64 10) h4 k) h4 fun v5 h5 =>
 kPick v2 v5 (.bool false) h5 fun v6 h6 =>
 p2_15 t0 v6 fun t1 =>
 some (.normal, t1, h6)
def SR119_4 : RegS 2 := fun c t0 h0 =>
 kNil (g2_0 t0) h0 fun v2 h2 =>
 kFld 1 v2 h2 fun v3 h3 =>
 kLd v3 h3 fun v4 h4 =>
 kAdd v4 (.int .i64 1) h4 fun v5 h5 =>
 kNil (g2_0 t0) h5 fun v6 h6 =>
 kFld 1 v6 h6 fun v7 h7 =>
 kSt ro0 v7 v5 h7 fun _ h8 =>
 some (.normal, t0, h8)
def SR119_3 : RegS 2 := fun c t0 h0 =>
 kOf (c 65 [(g2_0 t0)] h0) fun v2 h2 =>
 fShal v2 fun v3 =>
 p2_3 t0 v3 fun t1 =>
 some (.normal, t1, h2)
def SR119_5 : RegS 2 := fun c t0 h0 =>
 kNil (g2_0 t0) h0 fun v2 h2 =>
 kFld 1 v2 h2 fun v3 h3 =>
 kLd v3 h3 fun v4 h4 =>
 kEql v4 (g2_2 t0) h4 fun v6 h6 =>
 p2_30 t0 v6 fun t1 =>
 some (.normal, t1, h6)
def SR119_6 : RegS 2 := fun c t0 h0 =>
 kNil (g2_0 t0) h0 fun v3 h3 =>
 kFld 1 v3 h3 fun v4 h4 =>
 kLd v4 h4 fun v5 h5 =>
 kOf (c 67 [(g2_0 t0), (.int .i64 2), v5] h5) fun v6 h6 =>
 some (.normal, t0, h6)
def SR119_7 : RegS 2 := fun c t0 h0 =>
 kOf (c 63 [(g2_0 t0), (.int .i64 10)] h0) fun v2 h2 =>
 some (.normal, t0, h2)
def SW119_0 : CodeS 2 :=
 cSeqS (cSeqS (cRegS (SR119_2)) (cIfS g2_15 (cSkipS) (cExitS 0))) (cSeqS (cBlkS 1 (cRegS (SR119_4))) (cRegS (SR119_3)))
def SF119 : CodeS 2 :=
 cSeqS (cRegS (SR119_0)) (cSeqS (cSeqS (cRegS (SR119_1)) (cBlkS 0 (cLoopS (SW119_0)))) (cSeqS (cSeqS (cRegS (SR119_5)) (cIfS g2_30 (cRegS (SR119_6)) (cSkipS))) (cRegS (SR119_7))))
def T119 : FnT := runG en2_1 (SF119) (resQ qn)
theorem T119_ok : GoodF Tryz.prog ro0 okF 119 (T119) :=
 (good_k (n := 39) acc2 (lv [0, 2, 3, 15, 30]) (rs := []) Tryz.func119 (by kernel_rfl) (by kernel_rfl) (by kernel_rfl) (by kernel_rfl) (by kernel_rfl) (by kernel_rfl) (by kernel_rfl) (by kernel_rfl) (by kernel_rfl)).enter en2_1_ok (by kernel_rfl)

/-- (*circheck/checker.order).lay -/
def SR120_0 : RegS 2 := fun c t0 h0 =>
 kAny (aShift .shr (.const (g2_1 t0)) (.const (.int .u64 1))) c h0 fun v2 h2 =>
 fShal v2 fun v3 =>
 p2_4 t0 v3 fun t1 =>
 some (.normal, t1, h2)
def SR120_1 : RegS 2 := fun c t0 h0 =>
 kLss (g2_4 t0) (.int .i64 0) h0 fun v2 h2 =>
 kIf v2 false (fun k => k (g2_4 t0) h2) h2 fun v4 h4 =>
 kIf v2 false (fun k => k (g2_0 t0) h4) h4 fun v5 h5 =>
 kIf v2 false (fun k => kNil v5 h5 k) h5 fun v6 h6 =>
 kIf v2 false (fun k => kFld 0 v6 h6 k) h6 fun v7 h7 =>
 kIf v2 false (fun k => kLd v7 h7 k) h7 fun v8 h8 =>
 kIf v2 false (fun k => kLenSl v8 h8 k) h8 fun v9 h9 =>
 kIf v2 false (fun k => kGeq v4 v9 h9 k) h9 fun v10 h10 =>
 kPick v2 (.bool true) v10 h10 fun v11 h11 =>
 p2_17 t0 v11 fun t1 =>
 some (.normal, t1, h11)
def SR120_2 : RegS 2 := fun c t0 h0 =>
 kNil (g2_0 t0) h0 fun v2 h2 =>
 kFld 0 v2 h2 fun v3 h3 =>
 kLd v3 h3 fun v4 h4 =>
 kNil (g2_0 t0) h4 fun v7 h7 =>
 kFld 1 v7 h7 fun v8 h8 =>
 kLd v8 h8 fun v9 h9 =>
 kIdx 1 v4 (g2_4 t0) h9 fun v10 h10 =>
 kSt ro0 v10 v9 h10 fun _ h11 =>
 some (.normal, t0, h11)
def SR120_3 : RegS 2 := fun c t0 h0 =>
 kNil (g2_0 t0) h0 fun v2 h2 =>
 kFld 1 v2 h2 fun v3 h3 =>
 kLd v3 h3 fun v4 h4 =>
 kAdd v4 (.int .i64 1) h4 fun v5 h5 =>
 kNil (g2_0 t0) h5 fun v6 h6 =>
 kFld 1 v6 h6 fun v7 h7 =>
 kSt ro0 v7 v5 h7 fun _ h8 =>
 some (.normal, t0, h8)
def SF120 : CodeS 2 :=
 cSeqS (cRegS (SR120_0)) (cSeqS (cSeqS (cRegS (SR120_1)) (cIfS g2_17 (cRetS) (cSkipS))) (cSeqS (cRegS (SR120_2)) (cRegS (SR120_3))))
def T120 : FnT := runG en2_2 (SF120) (resQ qn)
theorem T120_ok : GoodF Tryz.prog ro0 okF 120 (T120) :=
 (good_k (n := 35) acc2 (lv [0, 1, 4, 17]) (rs := []) Tryz.func120 (by kernel_rfl) (by kernel_rfl) (by kernel_rfl) (by kernel_rfl) (by kernel_rfl) (by kernel_rfl) (by kernel_rfl) (by kernel_rfl) (by kernel_rfl)).enter en2_2_ok (by kernel_rfl)
end Go.Proofs.YtimdkminagnhgabGreatDoor
