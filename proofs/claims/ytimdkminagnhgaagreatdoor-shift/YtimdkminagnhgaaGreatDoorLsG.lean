/-
  The program itself for the kernel, function by function. Printed by program; the kernel checks each. Own work.
-/
import Derived.Test.YtimdkminagnhgaaGreatDoorLsA
namespace Go.Proofs.YtimdkminagnhgaaGreatDoor
open Go.Vm Go.Proofs
set_option linter.unusedVariables false
set_option maxRecDepth 100000

/-- (*circheck/checker.search).visit -/
def SR209_0 : RegS 3 := fun c t0 h0 =>
 fShal (.int .i64 0) fun v1 =>
 p3_4 t0 v1 fun t1 =>
 some (.normal, t1, h0)
def SR209_1 : RegS 3 := fun c t0 h0 =>
 kNil (g3_0 t0) h0 fun v2 h2 =>
 kFld 4 v2 h2 fun v3 h3 =>
 kLd v3 h3 fun v4 h4 =>
 kIdx 1 v4 (g3_1 t0) h4 fun v6 h6 =>
 kLd v6 h6 fun v7 h7 =>
 fShal v7 fun v8 =>
 p3_5 t0 v8 fun t1 =>
 some (.normal, t1, h7)
def SR209_2 : RegS 3 := fun c t0 h0 =>
 fShal (.int .i64 (-1)) fun v1 =>
 p3_6 t0 v1 fun t1 =>
 some (.normal, t1, h0)
def SR209_3 : RegS 3 := fun c t0 h0 =>
 fShal (.int .i64 0) fun v1 =>
 p3_7 t0 v1 fun t1 =>
 some (.normal, t1, h0)
def SR209_4 : RegS 3 := fun c t0 h0 =>
 fShal (.int .i64 0) fun v1 =>
 p3_8 t0 v1 fun t1 =>
 some (.normal, t1, h0)
def SR209_5 : RegS 3 := fun c t0 h0 =>
 kLenSl (g3_5 t0) h0 fun v3 h3 =>
 kLss (g3_8 t0) v3 h3 fun v4 h4 =>
 p3_22 t0 v4 fun t1 =>
 some (.normal, t1, h4)
def SR209_7 : RegS 3 := fun c t0 h0 =>
 kIdx 1 (g3_5 t0) (g3_8 t0) h0 fun v3 h3 =>
 kLd v3 h3 fun v4 h4 =>
 fShal v4 fun v5 =>
 p3_9 t0 v5 fun t1 =>
 some (.normal, t1, h4)
def SR209_8 : RegS 3 := fun c t0 h0 =>
 kOf (c 220 [(g3_0 t0), (g3_9 t0), (g3_1 t0)] h0) fun v4 h4 =>
 fShal v4 fun v5 =>
 p3_10 t0 v5 fun t1 =>
 some (.normal, t1, h4)
def SR209_9 : RegS 3 := fun c t0 h0 =>
 fShal (g3_10 t0) fun v1 =>
 p3_33 t0 v1 fun t1 =>
 some (.normal, t1, h0)
def SR209_10 : RegS 3 := fun c t0 h0 =>
 kIdx 1 (g3_5 t0) (g3_7 t0) h0 fun v4 h4 =>
 kSt ro0 v4 (g3_9 t0) h4 fun _ h5 =>
 some (.normal, t0, h5)
def SR209_11 : RegS 3 := fun c t0 h0 =>
 kAdd (g3_7 t0) (.int .i64 1) h0 fun v2 h2 =>
 fShal v2 fun v3 =>
 p3_7 t0 v3 fun t1 =>
 some (.normal, t1, h2)
def SR209_12 : RegS 3 := fun c t0 h0 =>
 kNil (g3_0 t0) h0 fun v2 h2 =>
 kFld 1 v2 h2 fun v3 h3 =>
 kLd v3 h3 fun v4 h4 =>
 kIdx 4 v4 (g3_9 t0) h4 fun v6 h6 =>
 kFld 1 v6 h6 fun v7 h7 =>
 kLd v7 h7 fun v8 h8 =>
 fShal v8 fun v9 =>
 p3_11 t0 v9 fun t1 =>
 some (.normal, t1, h8)
def SR209_13 : RegS 3 := fun c t0 h0 =>
 kNil (g3_0 t0) h0 fun v2 h2 =>
 kFld 5 v2 h2 fun v3 h3 =>
 kLd v3 h3 fun v4 h4 =>
 kOf (vInt .xor (g3_11 t0) (.int .i64 1) h4) fun v6 h6 =>
 kIdx 1 v4 v6 h6 fun v7 h7 =>
 kLd v7 h7 fun v8 h8 =>
 p3_55 t0 v8 fun t1 =>
 some (.normal, t1, h8)
def SR209_14 : RegS 3 := fun c t0 h0 =>
 fShal (g3_9 t0) fun v2 =>
 p3_6 t0 v2 fun t1 =>
 some (.normal, t1, h0)
def SR209_15 : RegS 3 := fun c t0 h0 =>
 kNil (g3_0 t0) h0 fun v2 h2 =>
 kFld 5 v2 h2 fun v3 h3 =>
 kLd v3 h3 fun v4 h4 =>
 kIdx 1 v4 (g3_11 t0) h4 fun v6 h6 =>
 kLd v6 h6 fun v7 h7 =>
 kNot v7 h7 fun v8 h8 =>
 p3_64 t0 v8 fun t1 =>
 some (.normal, t1, h8)
def SR209_16 : RegS 3 := fun c t0 h0 =>
 kOf (c 208 [(g3_0 t0), (g3_11 t0), (g3_9 t0)] h0) fun v4 h4 =>
 some (.normal, t0, h4)
def SR209_6 : RegS 3 := fun c t0 h0 =>
 kAdd (g3_8 t0) (.int .i64 1) h0 fun v2 h2 =>
 fShal v2 fun v3 =>
 p3_8 t0 v3 fun t1 =>
 some (.normal, t1, h2)
def SR209_17 : RegS 3 := fun c t0 h0 =>
 kNil (g3_0 t0) h0 fun v2 h2 =>
 kFld 4 v2 h2 fun v3 h3 =>
 kLd v3 h3 fun v4 h4 =>
 kAny (aSliceSl 1 (.const (g3_5 t0)) none (some (.const (g3_7 t0)))) c h4 fun v8 h8 =>
 kIdx 1 v4 (g3_1 t0) h8 fun v9 h9 =>
 kSt ro0 v9 v8 h9 fun _ h10 =>
 some (.normal, t0, h10)
def SR209_18 : RegS 3 := fun c t0 h0 =>
 fShal (g3_6 t0) fun v2 =>
 p3_4 t0 v2 fun t1 =>
 some (.normal, t1, h0)
def SW209_0 : CodeS 3 :=
 cSeqS (cSeqS (cRegS (SR209_5)) (cIfS g3_22 (cSkipS) (cExitS 0))) (cSeqS (cBlkS 1 (cSeqS (cRegS (SR209_7)) (cSeqS (cRegS (SR209_8)) (cSeqS (cSeqS (cRegS (SR209_9)) (cIfS g3_33 (cExitS 1) (cSkipS))) (cSeqS (cRegS (SR209_10)) (cSeqS (cRegS (SR209_11)) (cSeqS (cRegS (SR209_12)) (cSeqS (cRegS (SR209_13)) (cIfS g3_55 (cRegS (SR209_14)) (cSeqS (cRegS (SR209_15)) (cIfS g3_64 (cRegS (SR209_16)) (cSkipS)))))))))))) (cRegS (SR209_6)))
def SF209 : CodeS 3 :=
 cSeqS (cRegS (SR209_0)) (cSeqS (cRegS (SR209_1)) (cSeqS (cRegS (SR209_2)) (cSeqS (cRegS (SR209_3)) (cSeqS (cSeqS (cRegS (SR209_4)) (cBlkS 0 (cLoopS (SW209_0)))) (cSeqS (cRegS (SR209_17)) (cSeqS (cRegS (SR209_18)) (cRetS)))))))
def T209 : FnT := runG en3_2 (SF209) (resQ (qc (rT g3_4) qn))
theorem T209_ok : GoodF Tryz.prog ro0 okF 209 (T209) :=
 (good_k (n := 79) acc3 (lv [0, 1, 4, 5, 6, 7, 8, 9, 10, 11, 22, 33, 55, 64]) (rs := [ResultVar.tmp 4]) Tryz.func209 (by kernel_rfl) (by kernel_rfl) (by kernel_rfl) (by kernel_rfl) (by kernel_rfl) (by kernel_rfl) (by kernel_rfl) (by kernel_rfl) (by kernel_rfl)).enter en3_2_ok (by kernel_rfl)

/-- (*circheck/checker.search).assume -/
def SR210_0 : RegS 2 := fun c t0 h0 =>
 fShal (.int .i64 0) fun v1 =>
 p2_4 t0 v1 fun t1 =>
 some (.normal, t1, h0)
def SR210_1 : RegS 2 := fun c t0 h0 =>
 kNil (g2_0 t0) h0 fun v2 h2 =>
 kFld 5 v2 h2 fun v3 h3 =>
 kLd v3 h3 fun v4 h4 =>
 kOf (vInt .xor (g2_1 t0) (.int .i64 1) h4) fun v6 h6 =>
 kIdx 1 v4 v6 h6 fun v7 h7 =>
 kLd v7 h7 fun v8 h8 =>
 p2_12 t0 v8 fun t1 =>
 some (.normal, t1, h8)
def SR210_2 : RegS 2 := fun c t0 h0 =>
 kMkSl 1 1 #[.int .i64 0] [(0, (g2_1 t0))] h0 fun v3 h3 =>
 kOf (c 212 [(g2_0 t0), v3] h3) fun v4 h4 =>
 some (.normal, t0, h4)
def SR210_3 : RegS 2 := fun c t0 h0 =>
 kNil (g2_0 t0) h0 fun v3 h3 =>
 kFld 12 v3 h3 fun v4 h4 =>
 kLd v4 h4 fun v5 h5 =>
 kMkSl 1 1 #[.int .i64 0] [(0, (g2_1 t0))] h5 fun v7 h7 =>
 kOf (vApp ro0 1 8 v5 v7 h7) fun v8 h8 =>
 kNil (g2_0 t0) h8 fun v9 h9 =>
 kFld 12 v9 h9 fun v10 h10 =>
 kSt ro0 v10 v8 h10 fun _ h11 =>
 some (.normal, t0, h11)
def SR210_4 : RegS 2 := fun c t0 h0 =>
 fShal (.int .i64 2) fun v1 =>
 p2_4 t0 v1 fun t1 =>
 some (.normal, t1, h0)
def SR210_5 : RegS 2 := fun c t0 h0 =>
 kNil (g2_0 t0) h0 fun v3 h3 =>
 kFld 8 v3 h3 fun v4 h4 =>
 kLd v4 h4 fun v5 h5 =>
 kNil (g2_0 t0) h5 fun v7 h7 =>
 kFld 7 v7 h7 fun v8 h8 =>
 kLd v8 h8 fun v9 h9 =>
 kLenSl v9 h9 fun v10 h10 =>
 kMkSl 1 1 #[.int .i64 0] [(0, v10)] h10 fun v11 h11 =>
 kOf (vApp ro0 1 8 v5 v11 h11) fun v12 h12 =>
 kNil (g2_0 t0) h12 fun v13 h13 =>
 kFld 8 v13 h13 fun v14 h14 =>
 kSt ro0 v14 v12 h14 fun _ h15 =>
 some (.normal, t0, h15)
def SR210_6 : RegS 2 := fun c t0 h0 =>
 kNil (g2_0 t0) h0 fun v2 h2 =>
 kFld 5 v2 h2 fun v3 h3 =>
 kLd v3 h3 fun v4 h4 =>
 kIdx 1 v4 (g2_1 t0) h4 fun v6 h6 =>
 kLd v6 h6 fun v7 h7 =>
 kNot v7 h7 fun v8 h8 =>
 p2_48 t0 v8 fun t1 =>
 some (.normal, t1, h8)
def SR210_7 : RegS 2 := fun c t0 h0 =>
 kOf (c 208 [(g2_0 t0), (g2_1 t0), (.int .i64 (-1))] h0) fun v3 h3 =>
 some (.normal, t0, h3)
def SR210_8 : RegS 2 := fun c t0 h0 =>
 fShal (.int .i64 0) fun v1 =>
 p2_4 t0 v1 fun t1 =>
 some (.normal, t1, h0)
def SF210 : CodeS 2 :=
 cSeqS (cRegS (SR210_0)) (cSeqS (cSeqS (cRegS (SR210_1)) (cIfS g2_12 (cSeqS (cRegS (SR210_2)) (cSeqS (cRegS (SR210_3)) (cSeqS (cRegS (SR210_4)) (cRetS)))) (cSkipS))) (cSeqS (cRegS (SR210_5)) (cSeqS (cSeqS (cRegS (SR210_6)) (cIfS g2_48 (cRegS (SR210_7)) (cSkipS))) (cSeqS (cRegS (SR210_8)) (cRetS)))))
def T210 : FnT := runG en2_2 (SF210) (resQ (qc (rT g2_4) qn))
theorem T210_ok : GoodF Tryz.prog ro0 okF 210 (T210) :=
 (good_k (n := 52) acc2 (lv [0, 1, 4, 12, 48]) (rs := [ResultVar.tmp 4]) Tryz.func210 (by kernel_rfl) (by kernel_rfl) (by kernel_rfl) (by kernel_rfl) (by kernel_rfl) (by kernel_rfl) (by kernel_rfl) (by kernel_rfl) (by kernel_rfl)).enter en2_2_ok (by kernel_rfl)

/-- (*circheck/checker.search).heaviest -/
def SR211_0 : RegS 2 := fun c t0 h0 =>
 fShal (.int .i64 0) fun v1 =>
 p2_2 t0 v1 fun t1 =>
 some (.normal, t1, h0)
def SR211_1 : RegS 2 := fun c t0 h0 =>
 fShal (.int .i64 (-1)) fun v1 =>
 p2_3 t0 v1 fun t1 =>
 some (.normal, t1, h0)
def SR211_2 : RegS 2 := fun c t0 h0 =>
 fShal (.int .i64 0) fun v1 =>
 p2_4 t0 v1 fun t1 =>
 some (.normal, t1, h0)
def SR211_3 : RegS 2 := fun c t0 h0 =>
 kNil (g2_0 t0) h0 fun v3 h3 =>
 kFld 6 v3 h3 fun v4 h4 =>
 kLd v4 h4 fun v5 h5 =>
 kLenSl v5 h5 fun v6 h6 =>
 kLss (g2_4 t0) v6 h6 fun v7 h7 =>
 p2_11 t0 v7 fun t1 =>
 some (.normal, t1, h7)
def SR211_5 : RegS 2 := fun c t0 h0 =>
 kNil (g2_0 t0) h0 fun v2 h2 =>
 kFld 5 v2 h2 fun v3 h3 =>
 kLd v3 h3 fun v4 h4 =>
 kOf (vInt .mul (.int .i64 2) (g2_4 t0) h4) fun v6 h6 =>
 kIdx 1 v4 v6 h6 fun v7 h7 =>
 kLd v7 h7 fun v8 h8 =>
 kIf v8 false (fun k => k (g2_0 t0) h8) h8 fun v10 h10 =>
 kIf v8 false (fun k => kNil v10 h10 k) h10 fun v11 h11 =>
 kIf v8 false (fun k => kFld 5 v11 h11 k) h11 fun v12 h12 =>
 kIf v8 false (fun k => kLd v12 h12 k) h12 fun v13 h13 =>
 kIf v8 false (fun k => k (g2_4 t0) h13) h13 fun v14 h14 =>
 kIf v8 false (fun k => kOf (vInt .mul (.int .i64 2) v14 h14) k) h14 fun v15 h15 =>
 kIf v8 false (fun k => kAdd v15 (.int .i64 1) h15 k) h15 fun v16 h16 =>
 kIf v8 false (fun k => kIdx 1 v13 v16 h16 k) h16 fun v17 h17 =>
 kIf v8 false (fun k => kLd v17 h17 k) h17 fun v18 h18 =>
 kPick v8 (.bool true) v18 h18 fun v19 h19 =>
 p2_32 t0 v19 fun t1 =>
 some (.normal, t1, h19)
def SR211_6 : RegS 2 := fun c t0 h0 =>
 kEql (g2_3 t0) (.int .i64 (-1)) h0 fun v2 h2 =>
 kIf v2 false (fun k => k (g2_0 t0) h2) h2 fun v4 h4 =>
 kIf v2 false (fun k => kNil v4 h4 k) h4 fun v5 h5 =>
 kIf v2 false (fun k => kFld 6 v5 h5 k) h5 fun v6 h6 =>
 kIf v2 false (fun k => kLd v6 h6 k) h6 fun v7 h7 =>
 kIf v2 false (fun k => k (g2_4 t0) h7) h7 fun v8 h8 =>
 kIf v2 false (fun k => kIdx 5 v7 v8 h8 k) h8 fun v9 h9 =>
 kIf v2 false (fun k => kFld 3 v9 h9 k) h9 fun v10 h10 =>
 kIf v2 false (fun k => kLd v10 h10 k) h10 fun v11 h11 =>
 kIf v2 false (fun k => k (g2_0 t0) h11) h11 fun v12 h12 =>
 kIf v2 false (fun k => kNil v12 h12 k) h12 fun v13 h13 =>
 kIf v2 false (fun k => kFld 6 v13 h13 k) h13 fun v14 h14 =>
 kIf v2 false (fun k => kLd v14 h14 k) h14 fun v15 h15 =>
 kIf v2 false (fun k => k (g2_3 t0) h15) h15 fun v16 h16 =>
 kIf v2 false (fun k => kIdx 5 v15 v16 h16 k) h16 fun v17 h17 =>
 kIf v2 false (fun k => kFld 3 v17 h17 k) h17 fun v18 h18 =>
 kIf v2 false (fun k => kLd v18 h18 k) h18 fun v19 h19 =>
 kIf v2 false (fun k => kGtr v11 v19 h19 k) h19 fun v20 h20 =>
 kPick v2 (.bool true) v20 h20 fun v21 h21 =>
 p2_53 t0 v21 fun t1 =>
 some (.normal, t1, h21)
def SR211_7 : RegS 2 := fun c t0 h0 =>
 fShal (g2_4 t0) fun v2 =>
 p2_3 t0 v2 fun t1 =>
 some (.normal, t1, h0)
def SR211_4 : RegS 2 := fun c t0 h0 =>
 kAdd (g2_4 t0) (.int .i64 1) h0 fun v2 h2 =>
 fShal v2 fun v3 =>
 p2_4 t0 v3 fun t1 =>
 some (.normal, t1, h2)
def SR211_8 : RegS 2 := fun c t0 h0 =>
 fShal (g2_3 t0) fun v2 =>
 p2_2 t0 v2 fun t1 =>
 some (.normal, t1, h0)
def SW211_0 : CodeS 2 :=
 cSeqS (cSeqS (cRegS (SR211_3)) (cIfS g2_11 (cSkipS) (cExitS 0))) (cSeqS (cBlkS 1 (cSeqS (cSeqS (cRegS (SR211_5)) (cIfS g2_32 (cExitS 1) (cSkipS))) (cSeqS (cRegS (SR211_6)) (cIfS g2_53 (cRegS (SR211_7)) (cSkipS))))) (cRegS (SR211_4)))
def SF211 : CodeS 2 :=
 cSeqS (cRegS (SR211_0)) (cSeqS (cRegS (SR211_1)) (cSeqS (cSeqS (cRegS (SR211_2)) (cBlkS 0 (cLoopS (SW211_0)))) (cSeqS (cRegS (SR211_8)) (cRetS))))
def T211 : FnT := runG en2_1 (SF211) (resQ (qc (rT g2_2) qn))
theorem T211_ok : GoodF Tryz.prog ro0 okF 211 (T211) :=
 (good_k (n := 56) acc2 (lv [0, 2, 3, 4, 11, 32, 53]) (rs := [ResultVar.tmp 2]) Tryz.func211 (by kernel_rfl) (by kernel_rfl) (by kernel_rfl) (by kernel_rfl) (by kernel_rfl) (by kernel_rfl) (by kernel_rfl) (by kernel_rfl) (by kernel_rfl)).enter en2_1_ok (by kernel_rfl)

/-- (*circheck/checker.search).blame -/
def SR212_0 : RegS 3 := fun c t0 h0 =>
 kOf (c 221 [(g3_0 t0), (g3_1 t0)] h0) fun v3 h3 =>
 some (.normal, t0, h3)
def SR212_1 : RegS 3 := fun c t0 h0 =>
 kNil (g3_0 t0) h0 fun v2 h2 =>
 kFld 7 v2 h2 fun v3 h3 =>
 kLd v3 h3 fun v4 h4 =>
 kLenSl v4 h4 fun v5 h5 =>
 kSub v5 (.int .i64 1) h5 fun v6 h6 =>
 fShal v6 fun v7 =>
 p3_4 t0 v7 fun t1 =>
 some (.normal, t1, h6)
def SR212_2 : RegS 3 := fun c t0 h0 =>
 kGeq (g3_4 t0) (.int .i64 0) h0 fun v2 h2 =>
 p3_17 t0 v2 fun t1 =>
 some (.normal, t1, h2)
def SR212_4 : RegS 3 := fun c t0 h0 =>
 kNil (g3_0 t0) h0 fun v2 h2 =>
 kFld 7 v2 h2 fun v3 h3 =>
 kLd v3 h3 fun v4 h4 =>
 kIdx 1 v4 (g3_4 t0) h4 fun v6 h6 =>
 kLd v6 h6 fun v7 h7 =>
 kAny (aShift .shr (.const v7) (.const (.int .u64 1))) c h7 fun v8 h8 =>
 fShal v8 fun v9 =>
 p3_5 t0 v9 fun t1 =>
 some (.normal, t1, h8)
def SR212_5 : RegS 3 := fun c t0 h0 =>
 kNil (g3_0 t0) h0 fun v2 h2 =>
 kFld 6 v2 h2 fun v3 h3 =>
 kLd v3 h3 fun v4 h4 =>
 kIdx 5 v4 (g3_5 t0) h4 fun v6 h6 =>
 kFld 2 v6 h6 fun v7 h7 =>
 kLd v7 h7 fun v8 h8 =>
 kNot v8 h8 fun v9 h9 =>
 p3_36 t0 v9 fun t1 =>
 some (.normal, t1, h9)
def SR212_6 : RegS 3 := fun c t0 h0 =>
 kNil (g3_0 t0) h0 fun v2 h2 =>
 kFld 6 v2 h2 fun v3 h3 =>
 kLd v3 h3 fun v4 h4 =>
 kIdx 5 v4 (g3_5 t0) h4 fun v6 h6 =>
 kFld 1 v6 h6 fun v7 h7 =>
 kLd v7 h7 fun v8 h8 =>
 fShal v8 fun v9 =>
 p3_6 t0 v9 fun t1 =>
 some (.normal, t1, h8)
def SR212_7 : RegS 3 := fun c t0 h0 =>
 kEql (g3_6 t0) (.int .i64 (-1)) h0 fun v2 h2 =>
 p3_46 t0 v2 fun t1 =>
 some (.normal, t1, h2)
def SR212_8 : RegS 3 := fun c t0 h0 =>
 kNil (g3_0 t0) h0 fun v3 h3 =>
 kFld 12 v3 h3 fun v4 h4 =>
 kLd v4 h4 fun v5 h5 =>
 kNil (g3_0 t0) h5 fun v7 h7 =>
 kFld 7 v7 h7 fun v8 h8 =>
 kLd v8 h8 fun v9 h9 =>
 kIdx 1 v9 (g3_4 t0) h9 fun v11 h11 =>
 kLd v11 h11 fun v12 h12 =>
 kMkSl 1 1 #[.int .i64 0] [(0, v12)] h12 fun v13 h13 =>
 kOf (vApp ro0 1 8 v5 v13 h13) fun v14 h14 =>
 kNil (g3_0 t0) h14 fun v15 h15 =>
 kFld 12 v15 h15 fun v16 h16 =>
 kSt ro0 v16 v14 h16 fun _ h17 =>
 some (.normal, t0, h17)
def SR212_9 : RegS 3 := fun c t0 h0 =>
 kNil (g3_0 t0) h0 fun v3 h3 =>
 kFld 1 v3 h3 fun v4 h4 =>
 kLd v4 h4 fun v5 h5 =>
 kIdx 4 v5 (g3_6 t0) h5 fun v7 h7 =>
 kFld 0 v7 h7 fun v8 h8 =>
 kLd v8 h8 fun v9 h9 =>
 kOf (c 221 [(g3_0 t0), v9] h9) fun v10 h10 =>
 some (.normal, t0, h10)
def SR212_3 : RegS 3 := fun c t0 h0 =>
 kSub (g3_4 t0) (.int .i64 1) h0 fun v2 h2 =>
 fShal v2 fun v3 =>
 p3_4 t0 v3 fun t1 =>
 some (.normal, t1, h2)
def SW212_0 : CodeS 3 :=
 cSeqS (cSeqS (cRegS (SR212_2)) (cIfS g3_17 (cSkipS) (cExitS 0))) (cSeqS (cBlkS 1 (cSeqS (cRegS (SR212_4)) (cSeqS (cSeqS (cRegS (SR212_5)) (cIfS g3_36 (cExitS 1) (cSkipS))) (cSeqS (cRegS (SR212_6)) (cSeqS (cRegS (SR212_7)) (cIfS g3_46 (cRegS (SR212_8)) (cRegS (SR212_9)))))))) (cRegS (SR212_3)))
def SF212 : CodeS 3 :=
 cSeqS (cRegS (SR212_0)) (cSeqS (cRegS (SR212_1)) (cBlkS 0 (cLoopS (SW212_0))))
def T212 : FnT := runG en3_2 (SF212) (resQ qn)
theorem T212_ok : GoodF Tryz.prog ro0 okF 212 (T212) :=
 (good_k (n := 73) acc3 (lv [0, 1, 4, 5, 6, 17, 36, 46]) (rs := []) Tryz.func212 (by kernel_rfl) (by kernel_rfl) (by kernel_rfl) (by kernel_rfl) (by kernel_rfl) (by kernel_rfl) (by kernel_rfl) (by kernel_rfl) (by kernel_rfl)).enter en3_2_ok (by kernel_rfl)

/-- (*circheck/checker.search).learn -/
def SR213_0 : RegS 3 := fun c t0 h0 =>
 kOf (c 222 [(g3_0 t0), (g3_1 t0)] h0) fun v3 h3 =>
 fShal v3 fun v4 =>
 p3_4 t0 v4 fun t1 =>
 some (.normal, t1, h3)
def SR213_1 : RegS 3 := fun c t0 h0 =>
 kOf (c 223 [(g3_0 t0), (g3_4 t0)] h0) fun v3 h3 =>
 fShal v3 fun v4 =>
 p3_5 t0 v4 fun t1 =>
 some (.normal, t1, h3)
def SR213_2 : RegS 3 := fun c t0 h0 =>
 kOf (c 224 [(g3_0 t0), (g3_5 t0)] h0) fun v3 h3 =>
 fShal v3 fun v4 =>
 p3_6 t0 v4 fun t1 =>
 some (.normal, t1, h3)
def SR213_3 : RegS 3 := fun c t0 h0 =>
 kOf (c 225 [(g3_0 t0)] h0) fun v2 h2 =>
 some (.normal, t0, h2)
def SR213_4 : RegS 3 := fun c t0 h0 =>
 kOf (c 226 [(g3_0 t0)] h0) fun v2 h2 =>
 some (.normal, t0, h2)
def SR213_5 : RegS 3 := fun c t0 h0 =>
 kLenSl (g3_5 t0) h0 fun v2 h2 =>
 kEql v2 (.int .i64 1) h2 fun v3 h3 =>
 p3_24 t0 v3 fun t1 =>
 some (.normal, t1, h3)
def SR213_6 : RegS 3 := fun c t0 h0 =>
 kOf (c 227 [(g3_0 t0), (.int .i64 0)] h0) fun v2 h2 =>
 some (.normal, t0, h2)
def SR213_7 : RegS 3 := fun c t0 h0 =>
 kIdx 1 (g3_5 t0) (.int .i64 0) h0 fun v3 h3 =>
 kLd v3 h3 fun v4 h4 =>
 kOf (c 208 [(g3_0 t0), v4, (.int .i64 (-1))] h4) fun v5 h5 =>
 some (.normal, t0, h5)
def SR213_8 : RegS 3 := fun c t0 h0 =>
 kLenSl (g3_5 t0) h0 fun v3 h3 =>
 kSub v3 (.int .i64 1) h3 fun v4 h4 =>
 kIdx 1 (g3_5 t0) v4 h4 fun v5 h5 =>
 kLd v5 h5 fun v6 h6 =>
 fShal v6 fun v7 =>
 p3_7 t0 v7 fun t1 =>
 some (.normal, t1, h6)
def SR213_9 : RegS 3 := fun c t0 h0 =>
 kNil (g3_0 t0) h0 fun v2 h2 =>
 kFld 6 v2 h2 fun v3 h3 =>
 kLd v3 h3 fun v4 h4 =>
 kAny (aShift .shr (.const (g3_7 t0)) (.const (.int .u64 1))) c h4 fun v6 h6 =>
 kIdx 5 v4 v6 h6 fun v7 h7 =>
 kFld 0 v7 h7 fun v8 h8 =>
 kLd v8 h8 fun v9 h9 =>
 fShal v9 fun v10 =>
 p3_8 t0 v10 fun t1 =>
 some (.normal, t1, h9)
def SR213_10 : RegS 3 := fun c t0 h0 =>
 kOf (c 227 [(g3_0 t0), (g3_8 t0)] h0) fun v3 h3 =>
 some (.normal, t0, h3)
def SR213_11 : RegS 3 := fun c t0 h0 =>
 kOf (c 228 [(g3_0 t0)] h0) fun v2 h2 =>
 some (.normal, t0, h2)
def SR213_12 : RegS 3 := fun c t0 h0 =>
 kIdx 1 (g3_5 t0) (.int .i64 0) h0 fun v4 h4 =>
 kLd v4 h4 fun v5 h5 =>
 kBuild #[.slice none 0 0, .int .i64 0, .int .i64 0, .int .i64 0] [(0, 1), (1, 1), (2, 1), (3, 1)] [(0, (g3_5 t0)), (1, v5), (2, (g3_7 t0)), (3, (g3_6 t0))] h5 fun v8 h8 =>
 kOf (c 207 [(g3_0 t0), v8] h8) fun v9 h9 =>
 some (.normal, t0, h9)
def SR213_13 : RegS 3 := fun c t0 h0 =>
 kIdx 1 (g3_5 t0) (.int .i64 0) h0 fun v3 h3 =>
 kLd v3 h3 fun v4 h4 =>
 kNil (g3_0 t0) h4 fun v6 h6 =>
 kFld 1 v6 h6 fun v7 h7 =>
 kLd v7 h7 fun v8 h8 =>
 kLenSl v8 h8 fun v9 h9 =>
 kSub v9 (.int .i64 1) h9 fun v10 h10 =>
 kOf (c 208 [(g3_0 t0), v4, v10] h10) fun v11 h11 =>
 some (.normal, t0, h11)
def SF213 : CodeS 3 :=
 cSeqS (cRegS (SR213_0)) (cSeqS (cRegS (SR213_1)) (cSeqS (cRegS (SR213_2)) (cSeqS (cRegS (SR213_3)) (cSeqS (cRegS (SR213_4)) (cSeqS (cSeqS (cRegS (SR213_5)) (cIfS g3_24 (cSeqS (cRegS (SR213_6)) (cSeqS (cRegS (SR213_7)) (cRetS))) (cSkipS))) (cSeqS (cRegS (SR213_8)) (cSeqS (cRegS (SR213_9)) (cSeqS (cRegS (SR213_10)) (cSeqS (cRegS (SR213_11)) (cSeqS (cRegS (SR213_12)) (cRegS (SR213_13))))))))))))
def T213 : FnT := runG en3_2 (SF213) (resQ qn)
theorem T213_ok : GoodF Tryz.prog ro0 okF 213 (T213) :=
 (good_k (n := 72) acc3 (lv [0, 1, 4, 5, 6, 7, 8, 24]) (rs := []) Tryz.func213 (by kernel_rfl) (by kernel_rfl) (by kernel_rfl) (by kernel_rfl) (by kernel_rfl) (by kernel_rfl) (by kernel_rfl) (by kernel_rfl) (by kernel_rfl)).enter en3_2_ok (by kernel_rfl)

/-- internal/strconv.small -/
def SR214_0 : RegS 2 := fun c t0 h0 =>
 fShal (.string { data := #[] }) fun v1 =>
 p2_2 t0 v1 fun t1 =>
 some (.normal, t1, h0)
def SR214_1 : RegS 2 := fun c t0 h0 =>
 kLss (g2_0 t0) (.int .i64 10) h0 fun v2 h2 =>
 p2_4 t0 v2 fun t1 =>
 some (.normal, t1, h2)
def SR214_2 : RegS 2 := fun c t0 h0 =>
 kAdd (g2_0 t0) (.int .i64 1) h0 fun v3 h3 =>
 kAny (aSliceStr (.const (.string { data := #[48, 49, 50, 51, 52, 53, 54, 55, 56, 57, 97, 98, 99, 100, 101, 102, 103, 104, 105, 106, 107, 108, 109, 110, 111, 112, 113, 114, 115, 116, 117, 118, 119, 120, 121, 122] })) (some (.const (g2_0 t0))) (some (.const v3))) c h3 fun v4 h4 =>
 fShal v4 fun v5 =>
 p2_2 t0 v5 fun t1 =>
 some (.normal, t1, h4)
def SR214_3 : RegS 2 := fun c t0 h0 =>
 kOf (vInt .mul (g2_0 t0) (.int .i64 2) h0) fun v2 h2 =>
 kOf (vInt .mul (g2_0 t0) (.int .i64 2) h2) fun v4 h4 =>
 kAdd v4 (.int .i64 2) h4 fun v5 h5 =>
 kAny (aSliceStr (.const (.string strC200)) (some (.const v2)) (some (.const v5))) c h5 fun v6 h6 =>
 fShal v6 fun v7 =>
 p2_2 t0 v7 fun t1 =>
 some (.normal, t1, h6)
def SF214 : CodeS 2 :=
 cSeqS (cRegS (SR214_0)) (cSeqS (cSeqS (cRegS (SR214_1)) (cIfS g2_4 (cSeqS (cRegS (SR214_2)) (cRetS)) (cSkipS))) (cSeqS (cRegS (SR214_3)) (cRetS)))
def T214 : FnT := runG en2_1 (SF214) (resQ (qc (rT g2_2) qn))
theorem T214_ok : GoodF Tryz.prog ro0 okF 214 (T214) :=
 (good_k (n := 15) acc2 (lv [0, 2, 4]) (rs := [ResultVar.tmp 2]) Tryz.func214 (by kernel_rfl) (by kernel_rfl) (by kernel_rfl) (by kernel_rfl) (by kernel_rfl) (by kernel_rfl) (by kernel_rfl) (by kernel_rfl) (by kernel_rfl)).enter en2_1_ok (by kernel_rfl)

/-- internal/strconv.numDigits -/
def SR215_0 : RegS 2 := fun c t0 h0 =>
 fShal (.int .i64 0) fun v1 =>
 p2_2 t0 v1 fun t1 =>
 some (.normal, t1, h0)
def SR215_1 : RegS 2 := fun c t0 h0 =>
 kOf (c 230 [(g2_0 t0)] h0) fun v2 h2 =>
 kOf (c 229 [v2] h2) fun v3 h3 =>
 fShal v3 fun v4 =>
 p2_3 t0 v4 fun t1 =>
 some (.normal, t1, h3)
def SR215_2 : RegS 2 := fun c t0 h0 =>
 kAny (aIdxArr 20 1 (.const (.pointer (some ⟨0, 0, none⟩))) (.const (g2_3 t0))) c h0 fun v4 h4 =>
 kLd v4 h4 fun v5 h5 =>
 kGeq (g2_0 t0) v5 h5 fun v6 h6 =>
 kOf (c 231 [v6] h6) fun v7 h7 =>
 kAdd (g2_3 t0) v7 h7 fun v8 h8 =>
 fShal v8 fun v9 =>
 p2_2 t0 v9 fun t1 =>
 some (.normal, t1, h8)
def SF215 : CodeS 2 :=
 cSeqS (cRegS (SR215_0)) (cSeqS (cRegS (SR215_1)) (cSeqS (cRegS (SR215_2)) (cRetS)))
def T215 : FnT := runG en2_1 (SF215) (resQ (qc (rT g2_2) qn))
theorem T215_ok : GoodF Tryz.prog ro0 okF 215 (T215) :=
 (good_k (n := 15) acc2 (lv [0, 2, 3]) (rs := [ResultVar.tmp 2]) Tryz.func215 (by kernel_rfl) (by kernel_rfl) (by kernel_rfl) (by kernel_rfl) (by kernel_rfl) (by kernel_rfl) (by kernel_rfl) (by kernel_rfl) (by kernel_rfl)).enter en2_1_ok (by kernel_rfl)

/-- internal/strconv.formatBase10 -/
def SR216_0 : RegS 3 := fun c t0 h0 =>
 kLenSl (g3_0 t0) h0 fun v2 h2 =>
 fShal v2 fun v3 =>
 p3_4 t0 v3 fun t1 =>
 some (.normal, t1, h2)
def SR216_1 : RegS 3 := fun c t0 h0 =>
 kGeq (g3_4 t0) (.int .i64 8) h0 fun v2 h2 =>
 p3_20 t0 v2 fun t1 =>
 some (.normal, t1, h2)
def SR216_2 : RegS 3 := fun c t0 h0 =>
 kOf (vInt .rem (g3_1 t0) (.int .u64 100000000) h0) fun v2 h2 =>
 kAny (aConv .u32 (.const v2)) c h2 fun v3 h3 =>
 fShal v3 fun v4 =>
 p3_5 t0 v4 fun t1 =>
 some (.normal, t1, h3)
def SR216_3 : RegS 3 := fun c t0 h0 =>
 kOf (vInt .quo (g3_1 t0) (.int .u64 100000000) h0) fun v2 h2 =>
 fShal v2 fun v3 =>
 p3_1 t0 v3 fun t1 =>
 some (.normal, t1, h2)
def SR216_4 : RegS 3 := fun c t0 h0 =>
 kOf (vInt .quo (g3_5 t0) (.int .u32 10000) h0) fun v2 h2 =>
 kOf (vInt .rem (g3_5 t0) (.int .u32 10000) h2) fun v4 h4 =>
 fShal v2 fun v5 =>
 p3_6 t0 v5 fun t1 =>
 fShal v4 fun v6 =>
 p3_7 t1 v6 fun t2 =>
 some (.normal, t2, h4)
def SR216_5 : RegS 3 := fun c t0 h0 =>
 kOf (vInt .quo (g3_7 t0) (.int .u32 100) h0) fun v2 h2 =>
 kOf (vInt .mul v2 (.int .u32 2) h2) fun v3 h3 =>
 kOf (vInt .rem (g3_7 t0) (.int .u32 100) h3) fun v5 h5 =>
 kOf (vInt .mul v5 (.int .u32 2) h5) fun v6 h6 =>
 fShal v3 fun v7 =>
 p3_8 t0 v7 fun t1 =>
 fShal v6 fun v8 =>
 p3_9 t1 v8 fun t2 =>
 some (.normal, t2, h6)
def SR216_6 : RegS 3 := fun c t0 h0 =>
 kOf (vInt .quo (g3_6 t0) (.int .u32 100) h0) fun v2 h2 =>
 kOf (vInt .mul v2 (.int .u32 2) h2) fun v3 h3 =>
 kOf (vInt .rem (g3_6 t0) (.int .u32 100) h3) fun v5 h5 =>
 kOf (vInt .mul v5 (.int .u32 2) h5) fun v6 h6 =>
 fShal v3 fun v7 =>
 p3_10 t0 v7 fun t1 =>
 fShal v6 fun v8 =>
 p3_11 t1 v8 fun t2 =>
 some (.normal, t2, h6)
def SR216_7 : RegS 3 := fun c t0 h0 =>
 kSub (g3_4 t0) (.int .i64 1) h0 fun v3 h3 =>
 kSub (g3_4 t0) (.int .i64 2) h3 fun v6 h6 =>
 kAdd (g3_9 t0) (.int .u32 1) h6 fun v8 h8 =>
 kIdxStr (.string strC200) v8 h8 fun v9 h9 =>
 kIdxStr (.string strC200) (g3_9 t0) h9 fun v11 h11 =>
 kIdx 1 (g3_0 t0) v3 h11 fun v12 h12 =>
 kSt ro0 v12 v9 h12 fun _ h13 =>
 kIdx 1 (g3_0 t0) v6 h13 fun v14 h14 =>
 kSt ro0 v14 v11 h14 fun _ h15 =>
 some (.normal, t0, h15)
def SR216_8 : RegS 3 := fun c t0 h0 =>
 kSub (g3_4 t0) (.int .i64 3) h0 fun v3 h3 =>
 kSub (g3_4 t0) (.int .i64 4) h3 fun v6 h6 =>
 kAdd (g3_8 t0) (.int .u32 1) h6 fun v8 h8 =>
 kIdxStr (.string strC200) v8 h8 fun v9 h9 =>
 kIdxStr (.string strC200) (g3_8 t0) h9 fun v11 h11 =>
 kIdx 1 (g3_0 t0) v3 h11 fun v12 h12 =>
 kSt ro0 v12 v9 h12 fun _ h13 =>
 kIdx 1 (g3_0 t0) v6 h13 fun v14 h14 =>
 kSt ro0 v14 v11 h14 fun _ h15 =>
 some (.normal, t0, h15)
def SR216_9 : RegS 3 := fun c t0 h0 =>
 kSub (g3_4 t0) (.int .i64 5) h0 fun v3 h3 =>
 kSub (g3_4 t0) (.int .i64 6) h3 fun v6 h6 =>
 kAdd (g3_11 t0) (.int .u32 1) h6 fun v8 h8 =>
 kIdxStr (.string strC200) v8 h8 fun v9 h9 =>
 kIdxStr (.string strC200) (g3_11 t0) h9 fun v11 h11 =>
 kIdx 1 (g3_0 t0) v3 h11 fun v12 h12 =>
 kSt ro0 v12 v9 h12 fun _ h13 =>
 kIdx 1 (g3_0 t0) v6 h13 fun v14 h14 =>
 kSt ro0 v14 v11 h14 fun _ h15 =>
 some (.normal, t0, h15)
def SR216_10 : RegS 3 := fun c t0 h0 =>
 kSub (g3_4 t0) (.int .i64 7) h0 fun v3 h3 =>
 kSub (g3_4 t0) (.int .i64 8) h3 fun v6 h6 =>
 kAdd (g3_10 t0) (.int .u32 1) h6 fun v8 h8 =>
 kIdxStr (.string strC200) v8 h8 fun v9 h9 =>
 kIdxStr (.string strC200) (g3_10 t0) h9 fun v11 h11 =>
 kIdx 1 (g3_0 t0) v3 h11 fun v12 h12 =>
 kSt ro0 v12 v9 h12 fun _ h13 =>
 kIdx 1 (g3_0 t0) v6 h13 fun v14 h14 =>
 kSt ro0 v14 v11 h14 fun _ h15 =>
 some (.normal, t0, h15)
def SR216_11 : RegS 3 := fun c t0 h0 =>
 kSub (g3_4 t0) (.int .i64 8) h0 fun v2 h2 =>
 fShal v2 fun v3 =>
 p3_4 t0 v3 fun t1 =>
 some (.normal, t1, h2)
def SR216_12 : RegS 3 := fun c t0 h0 =>
 kAny (aConv .u32 (.const (g3_1 t0))) c h0 fun v2 h2 =>
 fShal v2 fun v3 =>
 p3_12 t0 v3 fun t1 =>
 some (.normal, t1, h2)
def SR216_13 : RegS 3 := fun c t0 h0 =>
 kGeq (g3_4 t0) (.int .i64 4) h0 fun v2 h2 =>
 p3_99 t0 v2 fun t1 =>
 some (.normal, t1, h2)
def SR216_14 : RegS 3 := fun c t0 h0 =>
 kOf (vInt .rem (g3_12 t0) (.int .u32 10000) h0) fun v2 h2 =>
 fShal v2 fun v3 =>
 p3_13 t0 v3 fun t1 =>
 some (.normal, t1, h2)
def SR216_15 : RegS 3 := fun c t0 h0 =>
 kOf (vInt .quo (g3_12 t0) (.int .u32 10000) h0) fun v2 h2 =>
 fShal v2 fun v3 =>
 p3_12 t0 v3 fun t1 =>
 some (.normal, t1, h2)
def SR216_16 : RegS 3 := fun c t0 h0 =>
 kOf (vInt .quo (g3_13 t0) (.int .u32 100) h0) fun v2 h2 =>
 kOf (vInt .mul v2 (.int .u32 2) h2) fun v3 h3 =>
 kOf (vInt .rem (g3_13 t0) (.int .u32 100) h3) fun v5 h5 =>
 kOf (vInt .mul v5 (.int .u32 2) h5) fun v6 h6 =>
 fShal v3 fun v7 =>
 p3_14 t0 v7 fun t1 =>
 fShal v6 fun v8 =>
 p3_15 t1 v8 fun t2 =>
 some (.normal, t2, h6)
def SR216_17 : RegS 3 := fun c t0 h0 =>
 kSub (g3_4 t0) (.int .i64 1) h0 fun v3 h3 =>
 kSub (g3_4 t0) (.int .i64 2) h3 fun v6 h6 =>
 kAdd (g3_15 t0) (.int .u32 1) h6 fun v8 h8 =>
 kIdxStr (.string strC200) v8 h8 fun v9 h9 =>
 kIdxStr (.string strC200) (g3_15 t0) h9 fun v11 h11 =>
 kIdx 1 (g3_0 t0) v3 h11 fun v12 h12 =>
 kSt ro0 v12 v9 h12 fun _ h13 =>
 kIdx 1 (g3_0 t0) v6 h13 fun v14 h14 =>
 kSt ro0 v14 v11 h14 fun _ h15 =>
 some (.normal, t0, h15)
def SR216_18 : RegS 3 := fun c t0 h0 =>
 kSub (g3_4 t0) (.int .i64 3) h0 fun v3 h3 =>
 kSub (g3_4 t0) (.int .i64 4) h3 fun v6 h6 =>
 kAdd (g3_14 t0) (.int .u32 1) h6 fun v8 h8 =>
 kIdxStr (.string strC200) v8 h8 fun v9 h9 =>
 kIdxStr (.string strC200) (g3_14 t0) h9 fun v11 h11 =>
 kIdx 1 (g3_0 t0) v3 h11 fun v12 h12 =>
 kSt ro0 v12 v9 h12 fun _ h13 =>
 kIdx 1 (g3_0 t0) v6 h13 fun v14 h14 =>
 kSt ro0 v14 v11 h14 fun _ h15 =>
 some (.normal, t0, h15)
def SR216_19 : RegS 3 := fun c t0 h0 =>
 kSub (g3_4 t0) (.int .i64 4) h0 fun v2 h2 =>
 fShal v2 fun v3 =>
 p3_4 t0 v3 fun t1 =>
 some (.normal, t1, h2)
def SR216_20 : RegS 3 := fun c t0 h0 =>
 kGeq (g3_4 t0) (.int .i64 2) h0 fun v2 h2 =>
 p3_139 t0 v2 fun t1 =>
 some (.normal, t1, h2)
def SR216_21 : RegS 3 := fun c t0 h0 =>
 kOf (vInt .rem (g3_12 t0) (.int .u32 100) h0) fun v2 h2 =>
 kOf (vInt .mul v2 (.int .u32 2) h2) fun v3 h3 =>
 fShal v3 fun v4 =>
 p3_16 t0 v4 fun t1 =>
 some (.normal, t1, h3)
def SR216_22 : RegS 3 := fun c t0 h0 =>
 kOf (vInt .quo (g3_12 t0) (.int .u32 100) h0) fun v2 h2 =>
 fShal v2 fun v3 =>
 p3_12 t0 v3 fun t1 =>
 some (.normal, t1, h2)
def SR216_23 : RegS 3 := fun c t0 h0 =>
 kSub (g3_4 t0) (.int .i64 1) h0 fun v3 h3 =>
 kSub (g3_4 t0) (.int .i64 2) h3 fun v6 h6 =>
 kAdd (g3_16 t0) (.int .u32 1) h6 fun v8 h8 =>
 kIdxStr (.string strC200) v8 h8 fun v9 h9 =>
 kIdxStr (.string strC200) (g3_16 t0) h9 fun v11 h11 =>
 kIdx 1 (g3_0 t0) v3 h11 fun v12 h12 =>
 kSt ro0 v12 v9 h12 fun _ h13 =>
 kIdx 1 (g3_0 t0) v6 h13 fun v14 h14 =>
 kSt ro0 v14 v11 h14 fun _ h15 =>
 some (.normal, t0, h15)
def SR216_24 : RegS 3 := fun c t0 h0 =>
 kSub (g3_4 t0) (.int .i64 2) h0 fun v2 h2 =>
 fShal v2 fun v3 =>
 p3_4 t0 v3 fun t1 =>
 some (.normal, t1, h2)
def SR216_25 : RegS 3 := fun c t0 h0 =>
 kGtr (g3_4 t0) (.int .i64 0) h0 fun v2 h2 =>
 p3_161 t0 v2 fun t1 =>
 some (.normal, t1, h2)
def SR216_26 : RegS 3 := fun c t0 h0 =>
 kAdd (.int .u32 48) (g3_12 t0) h0 fun v3 h3 =>
 kAny (aConv .u8 (.const v3)) c h3 fun v4 h4 =>
 kIdx 1 (g3_0 t0) (.int .i64 0) h4 fun v5 h5 =>
 kSt ro0 v5 v4 h5 fun _ h6 =>
 some (.normal, t0, h6)
def SW216_0 : CodeS 3 :=
 cSeqS (cSeqS (cRegS (SR216_1)) (cIfS g3_20 (cSkipS) (cExitS 0))) (cBlkS 1 (cSeqS (cRegS (SR216_2)) (cSeqS (cRegS (SR216_3)) (cSeqS (cRegS (SR216_4)) (cSeqS (cRegS (SR216_5)) (cSeqS (cRegS (SR216_6)) (cSeqS (cRegS (SR216_7)) (cSeqS (cRegS (SR216_8)) (cSeqS (cRegS (SR216_9)) (cSeqS (cRegS (SR216_10)) (cRegS (SR216_11))))))))))))
def SF216 : CodeS 3 :=
 cSeqS (cRegS (SR216_0)) (cSeqS (cBlkS 0 (cLoopS (SW216_0))) (cSeqS (cRegS (SR216_12)) (cSeqS (cSeqS (cRegS (SR216_13)) (cIfS g3_99 (cSeqS (cRegS (SR216_14)) (cSeqS (cRegS (SR216_15)) (cSeqS (cRegS (SR216_16)) (cSeqS (cRegS (SR216_17)) (cSeqS (cRegS (SR216_18)) (cRegS (SR216_19))))))) (cSkipS))) (cSeqS (cSeqS (cRegS (SR216_20)) (cIfS g3_139 (cSeqS (cRegS (SR216_21)) (cSeqS (cRegS (SR216_22)) (cSeqS (cRegS (SR216_23)) (cRegS (SR216_24))))) (cSkipS))) (cSeqS (cRegS (SR216_25)) (cIfS g3_161 (cRegS (SR216_26)) (cSkipS)))))))
def T216 : FnT := runG en3_2 (SF216) (resQ qn)
theorem T216_ok : GoodF Tryz.prog ro0 okF 216 (T216) :=
 (good_k (n := 167) acc3 (lv [0, 1, 4, 5, 6, 7, 8, 9, 10, 11, 12, 13, 14, 15, 16, 20, 99, 139, 161]) (rs := []) Tryz.func216 (by kernel_rfl) (by kernel_rfl) (by kernel_rfl) (by kernel_rfl) (by kernel_rfl) (by kernel_rfl) (by kernel_rfl) (by kernel_rfl) (by kernel_rfl)).enter en3_2_ok (by kernel_rfl)

/-- internal/strconv.formatBits -/
def SR217_0 : RegS 3 := fun c t0 h0 =>
 fShal (.slice none 0 0) fun v1 =>
 p3_10 t0 v1 fun t1 =>
 fShal (.string { data := #[] }) fun v2 =>
 p3_11 t1 v2 fun t2 =>
 some (.normal, t2, h0)
def SR217_1 : RegS 3 := fun c t0 h0 =>
 kLss (g3_2 t0) (.int .i64 2) h0 fun v2 h2 =>
 kIf v2 false (fun k => k (g3_2 t0) h2) h2 fun v4 h4 =>
 kIf v2 false (fun k => kEql v4 (.int .i64 10) h4 k) h4 fun v5 h5 =>
 kPick v2 (.bool true) v5 h5 fun v6 h6 =>
 kIf v6 false (fun k => k (g3_2 t0) h6) h6 fun v8 h8 =>
 kIf v6 false (fun k => kGtr v8 (.int .i64 36) h8 k) h8 fun v9 h9 =>
 kPick v6 (.bool true) v9 h9 fun v10 h10 =>
 p3_28 t0 v10 fun t1 =>
 some (.normal, t1, h10)
def SR217_2 : RegS 3 := fun c t0 h0 =>
 none
def SR217_3 : RegS 3 := fun c t0 h0 =>
 kNew [.int .u8 0, .int .u8 0, .int .u8 0, .int .u8 0, .int .u8 0, .int .u8 0, .int .u8 0, .int .u8 0, .int .u8 0, .int .u8 0, .int .u8 0, .int .u8 0, .int .u8 0, .int .u8 0, .int .u8 0, .int .u8 0, .int .u8 0, .int .u8 0, .int .u8 0, .int .u8 0, .int .u8 0, .int .u8 0, .int .u8 0, .int .u8 0, .int .u8 0, .int .u8 0, .int .u8 0, .int .u8 0, .int .u8 0, .int .u8 0, .int .u8 0, .int .u8 0, .int .u8 0, .int .u8 0, .int .u8 0, .int .u8 0, .int .u8 0, .int .u8 0, .int .u8 0, .int .u8 0, .int .u8 0, .int .u8 0, .int .u8 0, .int .u8 0, .int .u8 0, .int .u8 0, .int .u8 0, .int .u8 0, .int .u8 0, .int .u8 0, .int .u8 0, .int .u8 0, .int .u8 0, .int .u8 0, .int .u8 0, .int .u8 0, .int .u8 0, .int .u8 0, .int .u8 0, .int .u8 0, .int .u8 0, .int .u8 0, .int .u8 0, .int .u8 0, .int .u8 0] h0 fun v1 h1 =>
 p3_12 t0 v1 fun t1 =>
 some (.normal, t1, h1)
def SR217_4 : RegS 3 := fun c t0 h0 =>
 fShal (.int .i64 65) fun v1 =>
 p3_13 t0 v1 fun t1 =>
 some (.normal, t1, h0)
def SR217_5 : RegS 3 := fun c t0 h0 =>
 fShal (g3_3 t0) fun v1 =>
 p3_30 t0 v1 fun t1 =>
 some (.normal, t1, h0)
def SR217_6 : RegS 3 := fun c t0 h0 =>
 kAny (aUn .neg (.const (g3_1 t0))) c h0 fun v2 h2 =>
 fShal v2 fun v3 =>
 p3_1 t0 v3 fun t1 =>
 some (.normal, t1, h2)
def SR217_7 : RegS 3 := fun c t0 h0 =>
 kOf (c 232 [(g3_2 t0)] h0) fun v2 h2 =>
 p3_34 t0 v2 fun t1 =>
 some (.normal, t1, h2)
def SR217_8 : RegS 3 := fun c t0 h0 =>
 kAny (aConv .u64 (.const (g3_2 t0))) c h0 fun v2 h2 =>
 kOf (c 233 [v2] h2) fun v3 h3 =>
 kAny (aConv .u64 (.const v3)) c h3 fun v4 h4 =>
 fShal v4 fun v5 =>
 p3_14 t0 v5 fun t1 =>
 some (.normal, t1, h4)
def SR217_9 : RegS 3 := fun c t0 h0 =>
 kAny (aConv .u64 (.const (g3_2 t0))) c h0 fun v2 h2 =>
 fShal v2 fun v3 =>
 p3_15 t0 v3 fun t1 =>
 some (.normal, t1, h2)
def SR217_10 : RegS 3 := fun c t0 h0 =>
 kAny (aConv .u64 (.const (g3_2 t0))) c h0 fun v2 h2 =>
 kSub v2 (.int .u64 1) h2 fun v3 h3 =>
 fShal v3 fun v4 =>
 p3_16 t0 v4 fun t1 =>
 some (.normal, t1, h3)
def SR217_11 : RegS 3 := fun c t0 h0 =>
 kGeq (g3_1 t0) (g3_15 t0) h0 fun v3 h3 =>
 p3_46 t0 v3 fun t1 =>
 some (.normal, t1, h3)
def SR217_12 : RegS 3 := fun c t0 h0 =>
 kSub (g3_13 t0) (.int .i64 1) h0 fun v2 h2 =>
 fShal v2 fun v3 =>
 p3_13 t0 v3 fun t1 =>
 some (.normal, t1, h2)
def SR217_13 : RegS 3 := fun c t0 h0 =>
 kOf (vInt .and (g3_1 t0) (g3_16 t0) h0) fun v4 h4 =>
 kIdxStr (.string { data := #[48, 49, 50, 51, 52, 53, 54, 55, 56, 57, 97, 98, 99, 100, 101, 102, 103, 104, 105, 106, 107, 108, 109, 110, 111, 112, 113, 114, 115, 116, 117, 118, 119, 120, 121, 122] }) v4 h4 fun v5 h5 =>
 kAny (aIdxArr 65 1 (.const (g3_12 t0)) (.const (g3_13 t0))) c h5 fun v6 h6 =>
 kSt ro0 v6 v5 h6 fun _ h7 =>
 some (.normal, t0, h7)
def SR217_14 : RegS 3 := fun c t0 h0 =>
 kAny (aShift .shr (.const (g3_1 t0)) (.const (g3_14 t0))) c h0 fun v3 h3 =>
 fShal v3 fun v4 =>
 p3_1 t0 v4 fun t1 =>
 some (.normal, t1, h3)
def SR217_15 : RegS 3 := fun c t0 h0 =>
 kSub (g3_13 t0) (.int .i64 1) h0 fun v2 h2 =>
 fShal v2 fun v3 =>
 p3_13 t0 v3 fun t1 =>
 some (.normal, t1, h2)
def SR217_16 : RegS 3 := fun c t0 h0 =>
 kIdxStr (.string { data := #[48, 49, 50, 51, 52, 53, 54, 55, 56, 57, 97, 98, 99, 100, 101, 102, 103, 104, 105, 106, 107, 108, 109, 110, 111, 112, 113, 114, 115, 116, 117, 118, 119, 120, 121, 122] }) (g3_1 t0) h0 fun v3 h3 =>
 kAny (aIdxArr 65 1 (.const (g3_12 t0)) (.const (g3_13 t0))) c h3 fun v4 h4 =>
 kSt ro0 v4 v3 h4 fun _ h5 =>
 some (.normal, t0, h5)
def SR217_17 : RegS 3 := fun c t0 h0 =>
 kAny (aConv .u64 (.const (g3_2 t0))) c h0 fun v2 h2 =>
 fShal v2 fun v3 =>
 p3_17 t0 v3 fun t1 =>
 some (.normal, t1, h2)
def SR217_18 : RegS 3 := fun c t0 h0 =>
 kGeq (g3_1 t0) (g3_17 t0) h0 fun v3 h3 =>
 p3_68 t0 v3 fun t1 =>
 some (.normal, t1, h3)
def SR217_19 : RegS 3 := fun c t0 h0 =>
 kSub (g3_13 t0) (.int .i64 1) h0 fun v2 h2 =>
 fShal v2 fun v3 =>
 p3_13 t0 v3 fun t1 =>
 some (.normal, t1, h2)
def SR217_20 : RegS 3 := fun c t0 h0 =>
 kOf (vInt .quo (g3_1 t0) (g3_17 t0) h0) fun v3 h3 =>
 fShal v3 fun v4 =>
 p3_18 t0 v4 fun t1 =>
 some (.normal, t1, h3)
def SR217_21 : RegS 3 := fun c t0 h0 =>
 kOf (vInt .mul (g3_18 t0) (g3_17 t0) h0) fun v5 h5 =>
 kSub (g3_1 t0) v5 h5 fun v6 h6 =>
 kIdxStr (.string { data := #[48, 49, 50, 51, 52, 53, 54, 55, 56, 57, 97, 98, 99, 100, 101, 102, 103, 104, 105, 106, 107, 108, 109, 110, 111, 112, 113, 114, 115, 116, 117, 118, 119, 120, 121, 122] }) v6 h6 fun v7 h7 =>
 kAny (aIdxArr 65 1 (.const (g3_12 t0)) (.const (g3_13 t0))) c h7 fun v8 h8 =>
 kSt ro0 v8 v7 h8 fun _ h9 =>
 some (.normal, t0, h9)
def SR217_22 : RegS 3 := fun c t0 h0 =>
 fShal (g3_18 t0) fun v2 =>
 p3_1 t0 v2 fun t1 =>
 some (.normal, t1, h0)
def SR217_23 : RegS 3 := fun c t0 h0 =>
 kSub (g3_13 t0) (.int .i64 1) h0 fun v2 h2 =>
 fShal v2 fun v3 =>
 p3_13 t0 v3 fun t1 =>
 some (.normal, t1, h2)
def SR217_24 : RegS 3 := fun c t0 h0 =>
 kIdxStr (.string { data := #[48, 49, 50, 51, 52, 53, 54, 55, 56, 57, 97, 98, 99, 100, 101, 102, 103, 104, 105, 106, 107, 108, 109, 110, 111, 112, 113, 114, 115, 116, 117, 118, 119, 120, 121, 122] }) (g3_1 t0) h0 fun v3 h3 =>
 kAny (aIdxArr 65 1 (.const (g3_12 t0)) (.const (g3_13 t0))) c h3 fun v4 h4 =>
 kSt ro0 v4 v3 h4 fun _ h5 =>
 some (.normal, t0, h5)
def SR217_25 : RegS 3 := fun c t0 h0 =>
 fShal (g3_3 t0) fun v1 =>
 p3_89 t0 v1 fun t1 =>
 some (.normal, t1, h0)
def SR217_26 : RegS 3 := fun c t0 h0 =>
 kSub (g3_13 t0) (.int .i64 1) h0 fun v2 h2 =>
 fShal v2 fun v3 =>
 p3_13 t0 v3 fun t1 =>
 some (.normal, t1, h2)
def SR217_27 : RegS 3 := fun c t0 h0 =>
 kAny (aIdxArr 65 1 (.const (g3_12 t0)) (.const (g3_13 t0))) c h0 fun v2 h2 =>
 kSt ro0 v2 (.int .u8 45) h2 fun _ h3 =>
 some (.normal, t0, h3)
def SR217_28 : RegS 3 := fun c t0 h0 =>
 fShal (g3_4 t0) fun v1 =>
 p3_94 t0 v1 fun t1 =>
 some (.normal, t1, h0)
def SR217_29 : RegS 3 := fun c t0 h0 =>
 kAny (aSliceArr tO 65 1 (.const (g3_12 t0)) (some (.const (g3_13 t0))) none) c h0 fun v3 h3 =>
 kOf (vApp ro0 1 1 (g3_0 t0) v3 h3) fun v4 h4 =>
 fShal v4 fun v5 =>
 p3_10 t0 v5 fun t1 =>
 some (.normal, t1, h4)
def SR217_30 : RegS 3 := fun c t0 h0 =>
 kAny (aSliceArr tO 65 1 (.const (g3_12 t0)) (some (.const (g3_13 t0))) none) c h0 fun v2 h2 =>
 kAny (aB2S tO (.const v2)) c h2 fun v3 h3 =>
 fShal v3 fun v4 =>
 p3_11 t0 v4 fun t1 =>
 some (.normal, t1, h3)
def SW217_0 : CodeS 3 :=
 cSeqS (cSeqS (cRegS (SR217_11)) (cIfS g3_46 (cSkipS) (cExitS 0))) (cBlkS 1 (cSeqS (cRegS (SR217_12)) (cSeqS (cRegS (SR217_13)) (cRegS (SR217_14)))))
def SW217_1 : CodeS 3 :=
 cSeqS (cSeqS (cRegS (SR217_18)) (cIfS g3_68 (cSkipS) (cExitS 2))) (cBlkS 3 (cSeqS (cRegS (SR217_19)) (cSeqS (cRegS (SR217_20)) (cSeqS (cRegS (SR217_21)) (cRegS (SR217_22))))))
def SF217 : CodeS 3 :=
 cSeqS (cRegS (SR217_0)) (cSeqS (cSeqS (cRegS (SR217_1)) (cIfS g3_28 (cRegS (SR217_2)) (cSkipS))) (cSeqS (cRegS (SR217_3)) (cSeqS (cRegS (SR217_4)) (cSeqS (cSeqS (cRegS (SR217_5)) (cIfS g3_30 (cRegS (SR217_6)) (cSkipS))) (cSeqS (cSeqS (cRegS (SR217_7)) (cIfS g3_34 (cSeqS (cRegS (SR217_8)) (cSeqS (cRegS (SR217_9)) (cSeqS (cRegS (SR217_10)) (cSeqS (cBlkS 0 (cLoopS (SW217_0))) (cSeqS (cRegS (SR217_15)) (cRegS (SR217_16))))))) (cSeqS (cRegS (SR217_17)) (cSeqS (cBlkS 2 (cLoopS (SW217_1))) (cSeqS (cRegS (SR217_23)) (cRegS (SR217_24))))))) (cSeqS (cSeqS (cRegS (SR217_25)) (cIfS g3_89 (cSeqS (cRegS (SR217_26)) (cRegS (SR217_27))) (cSkipS))) (cSeqS (cSeqS (cRegS (SR217_28)) (cIfS g3_94 (cSeqS (cRegS (SR217_29)) (cRetS)) (cSkipS))) (cSeqS (cRegS (SR217_30)) (cRetS)))))))))
def T217 : FnT := runG en3_5 (SF217) (resQ (qc (rT g3_10) (qc (rT g3_11) qn)))
theorem T217_ok : GoodF Tryz.prog ro0 okF 217 (T217) :=
 (good_k (n := 102) acc3 (lv [0, 1, 2, 3, 4, 10, 11, 12, 13, 14, 15, 16, 17, 18, 28, 30, 34, 46, 68, 89, 94]) (rs := [ResultVar.tmp 10, ResultVar.tmp 11]) Tryz.func217 (by kernel_rfl) (by kernel_rfl) (by kernel_rfl) (by kernel_rfl) (by kernel_rfl) (by kernel_rfl) (by kernel_rfl) (by kernel_rfl) (by kernel_rfl)).enter en3_5_ok (by kernel_rfl)

/-- (*circheck/checker.search).enter -/
def SR219_0 : RegS 2 := fun c t0 h0 =>
 kNil (g2_0 t0) h0 fun v2 h2 =>
 kFld 1 v2 h2 fun v3 h3 =>
 kLd v3 h3 fun v4 h4 =>
 kIdx 4 v4 (g2_1 t0) h4 fun v6 h6 =>
 kFld 1 v6 h6 fun v7 h7 =>
 kLd v7 h7 fun v8 h8 =>
 fShal v8 fun v9 =>
 p2_4 t0 v9 fun t1 =>
 some (.normal, t1, h8)
def SR219_1 : RegS 2 := fun c t0 h0 =>
 kNil (g2_0 t0) h0 fun v2 h2 =>
 kFld 1 v2 h2 fun v3 h3 =>
 kLd v3 h3 fun v4 h4 =>
 kIdx 4 v4 (g2_1 t0) h4 fun v6 h6 =>
 kFld 2 v6 h6 fun v7 h7 =>
 kLd v7 h7 fun v8 h8 =>
 fShal v8 fun v9 =>
 p2_5 t0 v9 fun t1 =>
 some (.normal, t1, h8)
def SR219_2 : RegS 2 := fun c t0 h0 =>
 kNil (g2_0 t0) h0 fun v2 h2 =>
 kFld 4 v2 h2 fun v3 h3 =>
 kLd v3 h3 fun v4 h4 =>
 kNil (g2_0 t0) h4 fun v7 h7 =>
 kFld 4 v7 h7 fun v8 h8 =>
 kLd v8 h8 fun v9 h9 =>
 kIdx 1 v9 (g2_4 t0) h9 fun v11 h11 =>
 kLd v11 h11 fun v12 h12 =>
 kMkSl 1 1 #[.int .i64 0] [(0, (g2_1 t0))] h12 fun v14 h14 =>
 kOf (vApp ro0 1 8 v12 v14 h14) fun v15 h15 =>
 kIdx 1 v4 (g2_4 t0) h15 fun v16 h16 =>
 kSt ro0 v16 v15 h16 fun _ h17 =>
 bif sepA v3 v12 then some (.normal, t0, h17) else none
def SR219_3 : RegS 2 := fun c t0 h0 =>
 kNil (g2_0 t0) h0 fun v2 h2 =>
 kFld 4 v2 h2 fun v3 h3 =>
 kLd v3 h3 fun v4 h4 =>
 kNil (g2_0 t0) h4 fun v7 h7 =>
 kFld 4 v7 h7 fun v8 h8 =>
 kLd v8 h8 fun v9 h9 =>
 kIdx 1 v9 (g2_5 t0) h9 fun v11 h11 =>
 kLd v11 h11 fun v12 h12 =>
 kMkSl 1 1 #[.int .i64 0] [(0, (g2_1 t0))] h12 fun v14 h14 =>
 kOf (vApp ro0 1 8 v12 v14 h14) fun v15 h15 =>
 kIdx 1 v4 (g2_5 t0) h15 fun v16 h16 =>
 kSt ro0 v16 v15 h16 fun _ h17 =>
 bif sepA v3 v12 then some (.normal, t0, h17) else none
def SF219 : CodeS 2 :=
 cSeqS (cRegS (SR219_0)) (cSeqS (cRegS (SR219_1)) (cSeqS (cRegS (SR219_2)) (cRegS (SR219_3))))
def T219 : FnT := runG en2_2 (SF219) (resQ qn)
theorem T219_ok : GoodF Tryz.prog ro0 okF 219 (T219) :=
 (good_k (n := 54) acc2 (lv [0, 1, 4, 5]) (rs := []) Tryz.func219 (by kernel_rfl) (by kernel_rfl) (by kernel_rfl) (by kernel_rfl) (by kernel_rfl) (by kernel_rfl) (by kernel_rfl) (by kernel_rfl) (by kernel_rfl)).enter en2_2_ok (by kernel_rfl)

/-- (*circheck/checker.search).lookElsewhere -/
def SR220_0 : RegS 3 := fun c t0 h0 =>
 fShal (.bool false) fun v1 =>
 p3_6 t0 v1 fun t1 =>
 some (.normal, t1, h0)
def SR220_1 : RegS 3 := fun c t0 h0 =>
 kNil (g3_0 t0) h0 fun v2 h2 =>
 kFld 1 v2 h2 fun v3 h3 =>
 kLd v3 h3 fun v4 h4 =>
 kIdx 4 v4 (g3_1 t0) h4 fun v6 h6 =>
 kFld 1 v6 h6 fun v7 h7 =>
 kLd v7 h7 fun v8 h8 =>
 kEql v8 (g3_2 t0) h8 fun v10 h10 =>
 p3_20 t0 v10 fun t1 =>
 some (.normal, t1, h10)
def SR220_2 : RegS 3 := fun c t0 h0 =>
 kNil (g3_0 t0) h0 fun v2 h2 =>
 kFld 1 v2 h2 fun v3 h3 =>
 kLd v3 h3 fun v4 h4 =>
 kNil (g3_0 t0) h4 fun v7 h7 =>
 kFld 1 v7 h7 fun v8 h8 =>
 kLd v8 h8 fun v9 h9 =>
 kIdx 4 v9 (g3_1 t0) h9 fun v11 h11 =>
 kFld 2 v11 h11 fun v12 h12 =>
 kLd v12 h12 fun v13 h13 =>
 kIdx 4 v4 (g3_1 t0) h13 fun v14 h14 =>
 kFld 1 v14 h14 fun v15 h15 =>
 kSt ro0 v15 v13 h15 fun _ h16 =>
 some (.normal, t0, h16)
def SR220_3 : RegS 3 := fun c t0 h0 =>
 kNil (g3_0 t0) h0 fun v2 h2 =>
 kFld 1 v2 h2 fun v3 h3 =>
 kLd v3 h3 fun v4 h4 =>
 kIdx 4 v4 (g3_1 t0) h4 fun v7 h7 =>
 kFld 2 v7 h7 fun v8 h8 =>
 kSt ro0 v8 (g3_2 t0) h8 fun _ h9 =>
 some (.normal, t0, h9)
def SR220_4 : RegS 3 := fun c t0 h0 =>
 kNil (g3_0 t0) h0 fun v2 h2 =>
 kFld 1 v2 h2 fun v3 h3 =>
 kLd v3 h3 fun v4 h4 =>
 kIdx 4 v4 (g3_1 t0) h4 fun v6 h6 =>
 kFld 1 v6 h6 fun v7 h7 =>
 kLd v7 h7 fun v8 h8 =>
 fShal v8 fun v9 =>
 p3_7 t0 v9 fun t1 =>
 some (.normal, t1, h8)
def SR220_5 : RegS 3 := fun c t0 h0 =>
 kNil (g3_0 t0) h0 fun v2 h2 =>
 kFld 5 v2 h2 fun v3 h3 =>
 kLd v3 h3 fun v4 h4 =>
 kIdx 1 v4 (g3_7 t0) h4 fun v6 h6 =>
 kLd v6 h6 fun v7 h7 =>
 p3_58 t0 v7 fun t1 =>
 some (.normal, t1, h7)
def SR220_6 : RegS 3 := fun c t0 h0 =>
 fShal (.bool false) fun v1 =>
 p3_6 t0 v1 fun t1 =>
 some (.normal, t1, h0)
def SR220_7 : RegS 3 := fun c t0 h0 =>
 kNil (g3_0 t0) h0 fun v2 h2 =>
 kFld 1 v2 h2 fun v3 h3 =>
 kLd v3 h3 fun v4 h4 =>
 kIdx 4 v4 (g3_1 t0) h4 fun v6 h6 =>
 kFld 0 v6 h6 fun v7 h7 =>
 kLd v7 h7 fun v8 h8 =>
 fShal v8 fun v9 =>
 p3_8 t0 v9 fun t1 =>
 some (.normal, t1, h8)
def SR220_8 : RegS 3 := fun c t0 h0 =>
 fShal (.int .i64 0) fun v1 =>
 p3_9 t0 v1 fun t1 =>
 some (.normal, t1, h0)
def SR220_9 : RegS 3 := fun c t0 h0 =>
 kLenSl (g3_8 t0) h0 fun v3 h3 =>
 kLss (g3_9 t0) v3 h3 fun v4 h4 =>
 p3_70 t0 v4 fun t1 =>
 some (.normal, t1, h4)
def SR220_11 : RegS 3 := fun c t0 h0 =>
 kIdx 1 (g3_8 t0) (g3_9 t0) h0 fun v3 h3 =>
 kLd v3 h3 fun v4 h4 =>
 fShal v4 fun v5 =>
 p3_10 t0 v5 fun t1 =>
 some (.normal, t1, h4)
def SR220_12 : RegS 3 := fun c t0 h0 =>
 kNeq (g3_10 t0) (g3_7 t0) h0 fun v3 h3 =>
 kIf v3 true (fun k => k (g3_0 t0) h3) h3 fun v5 h5 =>
 kIf v3 true (fun k => kNil v5 h5 k) h5 fun v6 h6 =>
 kIf v3 true (fun k => kFld 5 v6 h6 k) h6 fun v7 h7 =>
 kIf v3 true (fun k => kLd v7 h7 k) h7 fun v8 h8 =>
 kIf v3 true (fun k => k (g3_10 t0) h8) h8 fun v9 h9 =>
 kIf v3 true (fun k => kOf (vInt .xor v9 (.int .i64 1) h9) k) h9 fun v10 h10 =>
 kIf v3 true (fun k => kIdx 1 v8 v10 h10 k) h10 fun v11 h11 =>
 kIf v3 true (fun k => kLd v11 h11 k) h11 fun v12 h12 =>
 kIf v3 true (fun k => kNot v12 h12 k) h12 fun v13 h13 =>
 kPick v3 v13 (.bool false) h13 fun v14 h14 =>
 p3_90 t0 v14 fun t1 =>
 some (.normal, t1, h14)
def SR220_13 : RegS 3 := fun c t0 h0 =>
 kNil (g3_0 t0) h0 fun v2 h2 =>
 kFld 1 v2 h2 fun v3 h3 =>
 kLd v3 h3 fun v4 h4 =>
 kIdx 4 v4 (g3_1 t0) h4 fun v7 h7 =>
 kFld 2 v7 h7 fun v8 h8 =>
 kSt ro0 v8 (g3_10 t0) h8 fun _ h9 =>
 some (.normal, t0, h9)
def SR220_14 : RegS 3 := fun c t0 h0 =>
 kNil (g3_0 t0) h0 fun v2 h2 =>
 kFld 4 v2 h2 fun v3 h3 =>
 kLd v3 h3 fun v4 h4 =>
 kNil (g3_0 t0) h4 fun v7 h7 =>
 kFld 4 v7 h7 fun v8 h8 =>
 kLd v8 h8 fun v9 h9 =>
 kIdx 1 v9 (g3_10 t0) h9 fun v11 h11 =>
 kLd v11 h11 fun v12 h12 =>
 kMkSl 1 1 #[.int .i64 0] [(0, (g3_1 t0))] h12 fun v14 h14 =>
 kOf (vApp ro0 1 8 v12 v14 h14) fun v15 h15 =>
 kIdx 1 v4 (g3_10 t0) h15 fun v16 h16 =>
 kSt ro0 v16 v15 h16 fun _ h17 =>
 bif sepA v3 v12 then some (.normal, t0, h17) else none
def SR220_15 : RegS 3 := fun c t0 h0 =>
 fShal (.bool true) fun v1 =>
 p3_6 t0 v1 fun t1 =>
 some (.normal, t1, h0)
def SR220_10 : RegS 3 := fun c t0 h0 =>
 kAdd (g3_9 t0) (.int .i64 1) h0 fun v2 h2 =>
 fShal v2 fun v3 =>
 p3_9 t0 v3 fun t1 =>
 some (.normal, t1, h2)
def SR220_16 : RegS 3 := fun c t0 h0 =>
 fShal (.bool false) fun v1 =>
 p3_6 t0 v1 fun t1 =>
 some (.normal, t1, h0)
def SW220_0 : CodeS 3 :=
 cSeqS (cSeqS (cRegS (SR220_9)) (cIfS g3_70 (cSkipS) (cExitS 0))) (cSeqS (cBlkS 1 (cSeqS (cRegS (SR220_11)) (cSeqS (cRegS (SR220_12)) (cIfS g3_90 (cSeqS (cRegS (SR220_13)) (cSeqS (cRegS (SR220_14)) (cSeqS (cRegS (SR220_15)) (cRetS)))) (cSkipS))))) (cRegS (SR220_10)))
def SF220 : CodeS 3 :=
 cSeqS (cRegS (SR220_0)) (cSeqS (cSeqS (cRegS (SR220_1)) (cIfS g3_20 (cSeqS (cRegS (SR220_2)) (cRegS (SR220_3))) (cSkipS))) (cSeqS (cRegS (SR220_4)) (cSeqS (cSeqS (cRegS (SR220_5)) (cIfS g3_58 (cSeqS (cRegS (SR220_6)) (cRetS)) (cSkipS))) (cSeqS (cRegS (SR220_7)) (cSeqS (cSeqS (cRegS (SR220_8)) (cBlkS 0 (cLoopS (SW220_0)))) (cSeqS (cRegS (SR220_16)) (cRetS)))))))
def T220 : FnT := runG en3_3 (SF220) (resQ (qc (rT g3_6) qn))
theorem T220_ok : GoodF Tryz.prog ro0 okF 220 (T220) :=
 (good_k (n := 115) acc3 (lv [0, 1, 2, 6, 7, 8, 9, 10, 20, 58, 70, 90]) (rs := [ResultVar.tmp 6]) Tryz.func220 (by kernel_rfl) (by kernel_rfl) (by kernel_rfl) (by kernel_rfl) (by kernel_rfl) (by kernel_rfl) (by kernel_rfl) (by kernel_rfl) (by kernel_rfl)).enter en3_3_ok (by kernel_rfl)

/-- (*circheck/checker.search).mark -/
def SR221_0 : RegS 3 := fun c t0 h0 =>
 fShal (.int .i64 0) fun v1 =>
 p3_4 t0 v1 fun t1 =>
 some (.normal, t1, h0)
def SR221_1 : RegS 3 := fun c t0 h0 =>
 fShal (.int .i64 0) fun v1 =>
 p3_5 t0 v1 fun t1 =>
 some (.normal, t1, h0)
def SR221_2 : RegS 3 := fun c t0 h0 =>
 fShal (.int .i64 0) fun v1 =>
 p3_6 t0 v1 fun t1 =>
 some (.normal, t1, h0)
def SR221_3 : RegS 3 := fun c t0 h0 =>
 kLenSl (g3_1 t0) h0 fun v3 h3 =>
 kLss (g3_6 t0) v3 h3 fun v4 h4 =>
 p3_11 t0 v4 fun t1 =>
 some (.normal, t1, h4)
def SR221_5 : RegS 3 := fun c t0 h0 =>
 kIdx 1 (g3_1 t0) (g3_6 t0) h0 fun v3 h3 =>
 kLd v3 h3 fun v4 h4 =>
 kAny (aShift .shr (.const v4) (.const (.int .u64 1))) c h4 fun v5 h5 =>
 fShal v5 fun v6 =>
 p3_7 t0 v6 fun t1 =>
 some (.normal, t1, h5)
def SR221_6 : RegS 3 := fun c t0 h0 =>
 kNil (g3_0 t0) h0 fun v2 h2 =>
 kFld 6 v2 h2 fun v3 h3 =>
 kLd v3 h3 fun v4 h4 =>
 kIdx 5 v4 (g3_7 t0) h4 fun v6 h6 =>
 kFld 2 v6 h6 fun v7 h7 =>
 kLd v7 h7 fun v8 h8 =>
 kIf v8 false (fun k => k (g3_0 t0) h8) h8 fun v10 h10 =>
 kIf v8 false (fun k => kNil v10 h10 k) h10 fun v11 h11 =>
 kIf v8 false (fun k => kFld 6 v11 h11 k) h11 fun v12 h12 =>
 kIf v8 false (fun k => kLd v12 h12 k) h12 fun v13 h13 =>
 kIf v8 false (fun k => k (g3_7 t0) h13) h13 fun v14 h14 =>
 kIf v8 false (fun k => kIdx 5 v13 v14 h14 k) h14 fun v15 h15 =>
 kIf v8 false (fun k => kFld 0 v15 h15 k) h15 fun v16 h16 =>
 kIf v8 false (fun k => kLd v16 h16 k) h16 fun v17 h17 =>
 kIf v8 false (fun k => kEql v17 (.int .i64 0) h17 k) h17 fun v18 h18 =>
 kPick v8 (.bool true) v18 h18 fun v19 h19 =>
 p3_37 t0 v19 fun t1 =>
 some (.normal, t1, h19)
def SR221_7 : RegS 3 := fun c t0 h0 =>
 kNil (g3_0 t0) h0 fun v2 h2 =>
 kFld 6 v2 h2 fun v3 h3 =>
 kLd v3 h3 fun v4 h4 =>
 kIdx 5 v4 (g3_7 t0) h4 fun v6 h6 =>
 kFld 2 v6 h6 fun v7 h7 =>
 kSt ro0 v7 (.bool true) h7 fun _ h8 =>
 some (.normal, t0, h8)
def SR221_8 : RegS 3 := fun c t0 h0 =>
 kNil (g3_0 t0) h0 fun v2 h2 =>
 kFld 6 v2 h2 fun v3 h3 =>
 kLd v3 h3 fun v4 h4 =>
 kIdx 5 v4 (g3_7 t0) h4 fun v6 h6 =>
 kFld 3 v6 h6 fun v7 h7 =>
 kLd v7 h7 fun v8 h8 =>
 kNil (g3_0 t0) h8 fun v10 h10 =>
 kFld 10 v10 h10 fun v11 h11 =>
 kLd v11 h11 fun v12 h12 =>
 kAdd v8 v12 h12 fun v13 h13 =>
 kIdx 5 v4 (g3_7 t0) h13 fun v14 h14 =>
 kFld 3 v14 h14 fun v15 h15 =>
 kSt ro0 v15 v13 h15 fun _ h16 =>
 some (.normal, t0, h16)
def SR221_9 : RegS 3 := fun c t0 h0 =>
 kNil (g3_0 t0) h0 fun v2 h2 =>
 kFld 6 v2 h2 fun v3 h3 =>
 kLd v3 h3 fun v4 h4 =>
 kIdx 5 v4 (g3_7 t0) h4 fun v6 h6 =>
 kFld 0 v6 h6 fun v7 h7 =>
 kLd v7 h7 fun v8 h8 =>
 kNil (g3_0 t0) h8 fun v10 h10 =>
 kFld 8 v10 h10 fun v11 h11 =>
 kLd v11 h11 fun v12 h12 =>
 kLenSl v12 h12 fun v13 h13 =>
 kEql v8 v13 h13 fun v14 h14 =>
 p3_73 t0 v14 fun t1 =>
 some (.normal, t1, h14)
def SR221_10 : RegS 3 := fun c t0 h0 =>
 kAdd (g3_5 t0) (.int .i64 1) h0 fun v2 h2 =>
 fShal v2 fun v3 =>
 p3_5 t0 v3 fun t1 =>
 some (.normal, t1, h2)
def SR221_4 : RegS 3 := fun c t0 h0 =>
 kAdd (g3_6 t0) (.int .i64 1) h0 fun v2 h2 =>
 fShal v2 fun v3 =>
 p3_6 t0 v3 fun t1 =>
 some (.normal, t1, h2)
def SR221_11 : RegS 3 := fun c t0 h0 =>
 fShal (g3_5 t0) fun v2 =>
 p3_4 t0 v2 fun t1 =>
 some (.normal, t1, h0)
def SW221_0 : CodeS 3 :=
 cSeqS (cSeqS (cRegS (SR221_3)) (cIfS g3_11 (cSkipS) (cExitS 0))) (cSeqS (cBlkS 1 (cSeqS (cRegS (SR221_5)) (cSeqS (cSeqS (cRegS (SR221_6)) (cIfS g3_37 (cExitS 1) (cSkipS))) (cSeqS (cRegS (SR221_7)) (cSeqS (cRegS (SR221_8)) (cSeqS (cRegS (SR221_9)) (cIfS g3_73 (cRegS (SR221_10)) (cSkipS)))))))) (cRegS (SR221_4)))
def SF221 : CodeS 3 :=
 cSeqS (cRegS (SR221_0)) (cSeqS (cRegS (SR221_1)) (cSeqS (cSeqS (cRegS (SR221_2)) (cBlkS 0 (cLoopS (SW221_0)))) (cSeqS (cRegS (SR221_11)) (cRetS))))
def T221 : FnT := runG en3_2 (SF221) (resQ (qc (rT g3_4) qn))
theorem T221_ok : GoodF Tryz.prog ro0 okF 221 (T221) :=
 (good_k (n := 77) acc3 (lv [0, 1, 4, 5, 6, 7, 11, 37, 73]) (rs := [ResultVar.tmp 4]) Tryz.func221 (by kernel_rfl) (by kernel_rfl) (by kernel_rfl) (by kernel_rfl) (by kernel_rfl) (by kernel_rfl) (by kernel_rfl) (by kernel_rfl) (by kernel_rfl)).enter en3_2_ok (by kernel_rfl)

/-- (*circheck/checker.search).trace -/
def SR222_0 : RegS 3 := fun c t0 h0 =>
 fShal (.int .i64 0) fun v1 =>
 p3_4 t0 v1 fun t1 =>
 some (.normal, t1, h0)
def SR222_1 : RegS 3 := fun c t0 h0 =>
 kNil (g3_0 t0) h0 fun v3 h3 =>
 kFld 1 v3 h3 fun v4 h4 =>
 kLd v4 h4 fun v5 h5 =>
 kIdx 4 v5 (g3_1 t0) h5 fun v7 h7 =>
 kFld 0 v7 h7 fun v8 h8 =>
 kLd v8 h8 fun v9 h9 =>
 kOf (c 221 [(g3_0 t0), v9] h9) fun v10 h10 =>
 fShal v10 fun v11 =>
 p3_5 t0 v11 fun t1 =>
 some (.normal, t1, h10)
def SR222_2 : RegS 3 := fun c t0 h0 =>
 kNil (g3_0 t0) h0 fun v2 h2 =>
 kFld 7 v2 h2 fun v3 h3 =>
 kLd v3 h3 fun v4 h4 =>
 kLenSl v4 h4 fun v5 h5 =>
 kSub v5 (.int .i64 1) h5 fun v6 h6 =>
 fShal v6 fun v7 =>
 p3_6 t0 v7 fun t1 =>
 some (.normal, t1, h6)
def SR222_3 : RegS 3 := fun c t0 h0 =>
 kGtr (g3_6 t0) (.int .i64 0) h0 fun v2 h2 =>
 p3_27 t0 v2 fun t1 =>
 some (.normal, t1, h2)
def SR222_4 : RegS 3 := fun c t0 h0 =>
 kNil (g3_0 t0) h0 fun v2 h2 =>
 kFld 7 v2 h2 fun v3 h3 =>
 kLd v3 h3 fun v4 h4 =>
 kIdx 1 v4 (g3_6 t0) h4 fun v6 h6 =>
 kLd v6 h6 fun v7 h7 =>
 kAny (aShift .shr (.const v7) (.const (.int .u64 1))) c h7 fun v8 h8 =>
 fShal v8 fun v9 =>
 p3_7 t0 v9 fun t1 =>
 some (.normal, t1, h8)
def SR222_5 : RegS 3 := fun c t0 h0 =>
 kNil (g3_0 t0) h0 fun v2 h2 =>
 kFld 6 v2 h2 fun v3 h3 =>
 kLd v3 h3 fun v4 h4 =>
 kIdx 5 v4 (g3_7 t0) h4 fun v6 h6 =>
 kFld 1 v6 h6 fun v7 h7 =>
 kLd v7 h7 fun v8 h8 =>
 fShal v8 fun v9 =>
 p3_8 t0 v9 fun t1 =>
 some (.normal, t1, h8)
def SR222_6 : RegS 3 := fun c t0 h0 =>
 kNil (g3_0 t0) h0 fun v2 h2 =>
 kFld 6 v2 h2 fun v3 h3 =>
 kLd v3 h3 fun v4 h4 =>
 kIdx 5 v4 (g3_7 t0) h4 fun v6 h6 =>
 kFld 2 v6 h6 fun v7 h7 =>
 kLd v7 h7 fun v8 h8 =>
 p3_51 t0 v8 fun t1 =>
 some (.normal, t1, h8)
def SR222_7 : RegS 3 := fun c t0 h0 =>
 kEql (g3_5 t0) (.int .i64 1) h0 fun v2 h2 =>
 kIf v2 false (fun k => k (g3_8 t0) h2) h2 fun v4 h4 =>
 kIf v2 false (fun k => kEql v4 (.int .i64 (-1)) h4 k) h4 fun v5 h5 =>
 kPick v2 (.bool true) v5 h5 fun v6 h6 =>
 p3_57 t0 v6 fun t1 =>
 some (.normal, t1, h6)
def SR222_8 : RegS 3 := fun c t0 h0 =>
 fShal (g3_6 t0) fun v2 =>
 p3_4 t0 v2 fun t1 =>
 some (.normal, t1, h0)
def SR222_9 : RegS 3 := fun c t0 h0 =>
 kNil (g3_0 t0) h0 fun v3 h3 =>
 kFld 1 v3 h3 fun v4 h4 =>
 kLd v4 h4 fun v5 h5 =>
 kIdx 4 v5 (g3_8 t0) h5 fun v7 h7 =>
 kFld 0 v7 h7 fun v8 h8 =>
 kLd v8 h8 fun v9 h9 =>
 kOf (c 221 [(g3_0 t0), v9] h9) fun v10 h10 =>
 fShal v10 fun v11 =>
 p3_9 t0 v11 fun t1 =>
 some (.normal, t1, h10)
def SR222_10 : RegS 3 := fun c t0 h0 =>
 kSub (g3_9 t0) (.int .i64 1) h0 fun v3 h3 =>
 kAdd (g3_5 t0) v3 h3 fun v4 h4 =>
 fShal v4 fun v5 =>
 p3_5 t0 v5 fun t1 =>
 some (.normal, t1, h4)
def SR222_11 : RegS 3 := fun c t0 h0 =>
 kSub (g3_6 t0) (.int .i64 1) h0 fun v2 h2 =>
 fShal v2 fun v3 =>
 p3_6 t0 v3 fun t1 =>
 some (.normal, t1, h2)
def SR222_12 : RegS 3 := fun c t0 h0 =>
 fShal (g3_6 t0) fun v2 =>
 p3_4 t0 v2 fun t1 =>
 some (.normal, t1, h0)
def SW222_0 : CodeS 3 :=
 cSeqS (cSeqS (cRegS (SR222_3)) (cIfS g3_27 (cSkipS) (cExitS 0))) (cBlkS 1 (cSeqS (cRegS (SR222_4)) (cSeqS (cRegS (SR222_5)) (cSeqS (cSeqS (cRegS (SR222_6)) (cIfS g3_51 (cSeqS (cSeqS (cRegS (SR222_7)) (cIfS g3_57 (cSeqS (cRegS (SR222_8)) (cRetS)) (cSkipS))) (cSeqS (cRegS (SR222_9)) (cRegS (SR222_10)))) (cSkipS))) (cRegS (SR222_11))))))
def SF222 : CodeS 3 :=
 cSeqS (cRegS (SR222_0)) (cSeqS (cRegS (SR222_1)) (cSeqS (cRegS (SR222_2)) (cSeqS (cBlkS 0 (cLoopS (SW222_0))) (cSeqS (cRegS (SR222_12)) (cRetS)))))
def T222 : FnT := runG en3_2 (SF222) (resQ (qc (rT g3_4) qn))
theorem T222_ok : GoodF Tryz.prog ro0 okF 222 (T222) :=
 (good_k (n := 76) acc3 (lv [0, 1, 4, 5, 6, 7, 8, 9, 27, 51, 57]) (rs := [ResultVar.tmp 4]) Tryz.func222 (by kernel_rfl) (by kernel_rfl) (by kernel_rfl) (by kernel_rfl) (by kernel_rfl) (by kernel_rfl) (by kernel_rfl) (by kernel_rfl) (by kernel_rfl)).enter en3_2_ok (by kernel_rfl)

/-- (*circheck/checker.search).barring -/
def SR223_0 : RegS 2 := fun c t0 h0 =>
 fShal (.slice none 0 0) fun v1 =>
 p2_4 t0 v1 fun t1 =>
 some (.normal, t1, h0)
def SR223_1 : RegS 2 := fun c t0 h0 =>
 kNil (g2_0 t0) h0 fun v2 h2 =>
 kFld 7 v2 h2 fun v3 h3 =>
 kLd v3 h3 fun v4 h4 =>
 kIdx 1 v4 (g2_1 t0) h4 fun v6 h6 =>
 kLd v6 h6 fun v7 h7 =>
 kOf (vInt .xor v7 (.int .i64 1) h7) fun v8 h8 =>
 kMkSl 1 1 #[.int .i64 0] [(0, v8)] h8 fun v9 h9 =>
 fShal v9 fun v10 =>
 p2_5 t0 v10 fun t1 =>
 some (.normal, t1, h9)
def SR223_2 : RegS 2 := fun c t0 h0 =>
 fShal (.int .i64 0) fun v1 =>
 p2_6 t0 v1 fun t1 =>
 some (.normal, t1, h0)
def SR223_3 : RegS 2 := fun c t0 h0 =>
 kLss (g2_6 t0) (g2_1 t0) h0 fun v3 h3 =>
 p2_19 t0 v3 fun t1 =>
 some (.normal, t1, h3)
def SR223_5 : RegS 2 := fun c t0 h0 =>
 kNil (g2_0 t0) h0 fun v2 h2 =>
 kFld 7 v2 h2 fun v3 h3 =>
 kLd v3 h3 fun v4 h4 =>
 kIdx 1 v4 (g2_6 t0) h4 fun v6 h6 =>
 kLd v6 h6 fun v7 h7 =>
 kAny (aShift .shr (.const v7) (.const (.int .u64 1))) c h7 fun v8 h8 =>
 fShal v8 fun v9 =>
 p2_7 t0 v9 fun t1 =>
 some (.normal, t1, h8)
def SR223_6 : RegS 2 := fun c t0 h0 =>
 kNil (g2_0 t0) h0 fun v2 h2 =>
 kFld 6 v2 h2 fun v3 h3 =>
 kLd v3 h3 fun v4 h4 =>
 kIdx 5 v4 (g2_7 t0) h4 fun v6 h6 =>
 kFld 2 v6 h6 fun v7 h7 =>
 kLd v7 h7 fun v8 h8 =>
 kIf v8 true (fun k => k (g2_0 t0) h8) h8 fun v10 h10 =>
 kIf v8 true (fun k => k (g2_7 t0) h10) h10 fun v11 h11 =>
 kIf v8 true (fun k => kOf (c 234 [v10, v11] h11) k) h11 fun v12 h12 =>
 kIf v8 true (fun k => kNot v12 h12 k) h12 fun v13 h13 =>
 kPick v8 v13 (.bool false) h13 fun v14 h14 =>
 p2_43 t0 v14 fun t1 =>
 some (.normal, t1, h14)
def SR223_7 : RegS 2 := fun c t0 h0 =>
 kNil (g2_0 t0) h0 fun v3 h3 =>
 kFld 7 v3 h3 fun v4 h4 =>
 kLd v4 h4 fun v5 h5 =>
 kIdx 1 v5 (g2_6 t0) h5 fun v7 h7 =>
 kLd v7 h7 fun v8 h8 =>
 kOf (vInt .xor v8 (.int .i64 1) h8) fun v9 h9 =>
 kMkSl 1 1 #[.int .i64 0] [(0, v9)] h9 fun v10 h10 =>
 kOf (vApp ro0 1 8 (g2_5 t0) v10 h10) fun v11 h11 =>
 fShal v11 fun v12 =>
 p2_5 t0 v12 fun t1 =>
 some (.normal, t1, h11)
def SR223_4 : RegS 2 := fun c t0 h0 =>
 kAdd (g2_6 t0) (.int .i64 1) h0 fun v2 h2 =>
 fShal v2 fun v3 =>
 p2_6 t0 v3 fun t1 =>
 some (.normal, t1, h2)
def SR223_8 : RegS 2 := fun c t0 h0 =>
 fShal (g2_5 t0) fun v2 =>
 p2_4 t0 v2 fun t1 =>
 some (.normal, t1, h0)
def SW223_0 : CodeS 2 :=
 cSeqS (cSeqS (cRegS (SR223_3)) (cIfS g2_19 (cSkipS) (cExitS 0))) (cSeqS (cBlkS 1 (cSeqS (cRegS (SR223_5)) (cSeqS (cRegS (SR223_6)) (cIfS g2_43 (cRegS (SR223_7)) (cSkipS))))) (cRegS (SR223_4)))
def SF223 : CodeS 2 :=
 cSeqS (cRegS (SR223_0)) (cSeqS (cRegS (SR223_1)) (cSeqS (cSeqS (cRegS (SR223_2)) (cBlkS 0 (cLoopS (SW223_0)))) (cSeqS (cRegS (SR223_8)) (cRetS))))
def T223 : FnT := runG en2_2 (SF223) (resQ (qc (rT g2_4) qn))
theorem T223_ok : GoodF Tryz.prog ro0 okF 223 (T223) :=
 (good_k (n := 56) acc2 (lv [0, 1, 4, 5, 6, 7, 19, 43]) (rs := [ResultVar.tmp 4]) Tryz.func223 (by kernel_rfl) (by kernel_rfl) (by kernel_rfl) (by kernel_rfl) (by kernel_rfl) (by kernel_rfl) (by kernel_rfl) (by kernel_rfl) (by kernel_rfl)).enter en2_2_ok (by kernel_rfl)

/-- (*circheck/checker.search).spanOf -/
def SR224_0 : RegS 2 := fun c t0 h0 =>
 fShal (.int .i64 0) fun v1 =>
 p2_4 t0 v1 fun t1 =>
 some (.normal, t1, h0)
def SR224_1 : RegS 2 := fun c t0 h0 =>
 fShal (.int .i64 1) fun v1 =>
 p2_5 t0 v1 fun t1 =>
 some (.normal, t1, h0)
def SR224_2 : RegS 2 := fun c t0 h0 =>
 fShal (.int .i64 0) fun v1 =>
 p2_6 t0 v1 fun t1 =>
 some (.normal, t1, h0)
def SR224_3 : RegS 2 := fun c t0 h0 =>
 fShal (.int .i64 1) fun v1 =>
 p2_7 t0 v1 fun t1 =>
 some (.normal, t1, h0)
def SR224_4 : RegS 2 := fun c t0 h0 =>
 kLenSl (g2_1 t0) h0 fun v3 h3 =>
 kLss (g2_7 t0) v3 h3 fun v4 h4 =>
 p2_12 t0 v4 fun t1 =>
 some (.normal, t1, h4)
def SR224_6 : RegS 2 := fun c t0 h0 =>
 kNil (g2_0 t0) h0 fun v2 h2 =>
 kFld 6 v2 h2 fun v3 h3 =>
 kLd v3 h3 fun v4 h4 =>
 kIdx 1 (g2_1 t0) (g2_7 t0) h4 fun v7 h7 =>
 kLd v7 h7 fun v8 h8 =>
 kAny (aShift .shr (.const v8) (.const (.int .u64 1))) c h8 fun v9 h9 =>
 kIdx 5 v4 v9 h9 fun v10 h10 =>
 kFld 0 v10 h10 fun v11 h11 =>
 kLd v11 h11 fun v12 h12 =>
 fShal v12 fun v13 =>
 p2_8 t0 v13 fun t1 =>
 some (.normal, t1, h12)
def SR224_7 : RegS 2 := fun c t0 h0 =>
 kNeq (g2_8 t0) (g2_6 t0) h0 fun v3 h3 =>
 p2_29 t0 v3 fun t1 =>
 some (.normal, t1, h3)
def SR224_8 : RegS 2 := fun c t0 h0 =>
 kAdd (g2_5 t0) (.int .i64 1) h0 fun v2 h2 =>
 fShal v2 fun v3 =>
 p2_5 t0 v3 fun t1 =>
 some (.normal, t1, h2)
def SR224_9 : RegS 2 := fun c t0 h0 =>
 fShal (g2_8 t0) fun v2 =>
 p2_6 t0 v2 fun t1 =>
 some (.normal, t1, h0)
def SR224_5 : RegS 2 := fun c t0 h0 =>
 kAdd (g2_7 t0) (.int .i64 1) h0 fun v2 h2 =>
 fShal v2 fun v3 =>
 p2_7 t0 v3 fun t1 =>
 some (.normal, t1, h2)
def SR224_10 : RegS 2 := fun c t0 h0 =>
 fShal (g2_5 t0) fun v2 =>
 p2_4 t0 v2 fun t1 =>
 some (.normal, t1, h0)
def SW224_0 : CodeS 2 :=
 cSeqS (cSeqS (cRegS (SR224_4)) (cIfS g2_12 (cSkipS) (cExitS 0))) (cSeqS (cBlkS 1 (cSeqS (cRegS (SR224_6)) (cSeqS (cSeqS (cRegS (SR224_7)) (cIfS g2_29 (cRegS (SR224_8)) (cSkipS))) (cRegS (SR224_9))))) (cRegS (SR224_5)))
def SF224 : CodeS 2 :=
 cSeqS (cRegS (SR224_0)) (cSeqS (cRegS (SR224_1)) (cSeqS (cRegS (SR224_2)) (cSeqS (cSeqS (cRegS (SR224_3)) (cBlkS 0 (cLoopS (SW224_0)))) (cSeqS (cRegS (SR224_10)) (cRetS)))))
def T224 : FnT := runG en2_2 (SF224) (resQ (qc (rT g2_4) qn))
theorem T224_ok : GoodF Tryz.prog ro0 okF 224 (T224) :=
 (good_k (n := 34) acc2 (lv [0, 1, 4, 5, 6, 7, 8, 12, 29]) (rs := [ResultVar.tmp 4]) Tryz.func224 (by kernel_rfl) (by kernel_rfl) (by kernel_rfl) (by kernel_rfl) (by kernel_rfl) (by kernel_rfl) (by kernel_rfl) (by kernel_rfl) (by kernel_rfl)).enter en2_2_ok (by kernel_rfl)
end Go.Proofs.YtimdkminagnhgaaGreatDoor
