/-
  The program itself for the kernel, function by function. Printed by program; the kernel checks each. Own work.
-/
import Derived.Test.YtimdkminagnhgaaGreatDoorLsA
namespace Go.Proofs.YtimdkminagnhgaaGreatDoor
open Go.Vm Go.Proofs
set_option linter.unusedVariables false
set_option maxRecDepth 100000

/-- (*circheck/circhecksays.net).is -/
def SR38_0 : RegS 2 := fun c t0 h0 =>
 fShal (.int .i64 0) fun v1 =>
 p2_4 t0 v1 fun t1 =>
 some (.normal, t1, h0)
def SR38_1 : RegS 2 := fun c t0 h0 =>
 fShal (.int .i64 1) fun v1 =>
 p2_5 t0 v1 fun t1 =>
 some (.normal, t1, h0)
def SR38_2 : RegS 2 := fun c t0 h0 =>
 fShal (.int .i64 0) fun v1 =>
 p2_6 t0 v1 fun t1 =>
 some (.normal, t1, h0)
def SR38_3 : RegS 2 := fun c t0 h0 =>
 kNil (g2_0 t0) h0 fun v3 h3 =>
 kFld 1 v3 h3 fun v4 h4 =>
 kLd v4 h4 fun v5 h5 =>
 kLss (g2_6 t0) v5 h5 fun v6 h6 =>
 p2_13 t0 v6 fun t1 =>
 some (.normal, t1, h6)
def SR38_5 : RegS 2 := fun c t0 h0 =>
 kOf (c 35 [(g2_0 t0), (g2_6 t0)] h0) fun v3 h3 =>
 fShal v3 fun v4 =>
 p2_7 t0 v4 fun t1 =>
 some (.normal, t1, h3)
def SR38_6 : RegS 2 := fun c t0 h0 =>
 kOf (vInt .xor (g2_7 t0) (.int .i64 1) h0) fun v4 h4 =>
 kAny (aShift .shr (.const (g2_1 t0)) (.const (g2_6 t0))) c h4 fun v7 h7 =>
 kOf (vInt .and v7 (.int .i64 1) h7) fun v8 h8 =>
 kOf (vInt .xor v4 v8 h8) fun v9 h9 =>
 kOf (c 37 [(g2_0 t0), (g2_5 t0), v9] h9) fun v10 h10 =>
 fShal v10 fun v11 =>
 p2_5 t0 v11 fun t1 =>
 some (.normal, t1, h10)
def SR38_4 : RegS 2 := fun c t0 h0 =>
 kAdd (g2_6 t0) (.int .i64 1) h0 fun v2 h2 =>
 fShal v2 fun v3 =>
 p2_6 t0 v3 fun t1 =>
 some (.normal, t1, h2)
def SR38_7 : RegS 2 := fun c t0 h0 =>
 fShal (g2_5 t0) fun v2 =>
 p2_4 t0 v2 fun t1 =>
 some (.normal, t1, h0)
def SW38_0 : CodeS 2 :=
 cSeqS (cSeqS (cRegS (SR38_3)) (cIfS g2_13 (cSkipS) (cExitS 0))) (cSeqS (cBlkS 1 (cSeqS (cRegS (SR38_5)) (cRegS (SR38_6)))) (cRegS (SR38_4)))
def SF38 : CodeS 2 :=
 cSeqS (cRegS (SR38_0)) (cSeqS (cRegS (SR38_1)) (cSeqS (cSeqS (cRegS (SR38_2)) (cBlkS 0 (cLoopS (SW38_0)))) (cSeqS (cRegS (SR38_7)) (cRetS))))
def T38 : FnT := runG en2_2 (SF38) (resQ (qc (rT g2_4) qn))
theorem T38_ok : GoodF Tryz.prog ro0 okF 38 (T38) :=
 (good_k (n := 30) acc2 (lv [0, 1, 4, 5, 6, 7, 13]) (rs := [ResultVar.tmp 4]) Tryz.func38 (by kernel_rfl) (by kernel_rfl) (by kernel_rfl) (by kernel_rfl) (by kernel_rfl) (by kernel_rfl) (by kernel_rfl) (by kernel_rfl) (by kernel_rfl)).enter en2_2_ok (by kernel_rfl)

/-- (*circheck/circhecksays.net).text -/
def SR39_0 : RegS 3 := fun c t0 h0 =>
 fShal (.string { data := #[] }) fun v1 =>
 p3_2 t0 v1 fun t1 =>
 some (.normal, t1, h0)
def SR39_1 : RegS 3 := fun c t0 h0 =>
 kNil (g3_0 t0) h0 fun v2 h2 =>
 kFld 2 v2 h2 fun v3 h3 =>
 kLd v3 h3 fun v4 h4 =>
 kLenSl v4 h4 fun v5 h5 =>
 kOf (vInt .quo v5 (.int .i64 2) h5) fun v6 h6 =>
 fShal v6 fun v7 =>
 p3_3 t0 v7 fun t1 =>
 some (.normal, t1, h6)
def SR39_2 : RegS 3 := fun c t0 h0 =>
 kNil (g3_0 t0) h0 fun v2 h2 =>
 kFld 0 v2 h2 fun v3 h3 =>
 kLd v3 h3 fun v4 h4 =>
 kNil (g3_0 t0) h4 fun v6 h6 =>
 kFld 1 v6 h6 fun v7 h7 =>
 kLd v7 h7 fun v8 h8 =>
 kAdd v4 v8 h8 fun v9 h9 =>
 kAdd v9 (g3_3 t0) h9 fun v11 h11 =>
 kNil (g3_0 t0) h11 fun v13 h13 =>
 kFld 0 v13 h13 fun v14 h14 =>
 kLd v14 h14 fun v15 h15 =>
 kNil (g3_0 t0) h15 fun v17 h17 =>
 kFld 1 v17 h17 fun v18 h18 =>
 kLd v18 h18 fun v19 h19 =>
 kMkSl 1 6 #[.int .i64 0] [(0, v11), (1, v15), (2, v19), (3, (.int .i64 0)), (4, (g3_3 t0)), (5, (.int .i64 1))] h19 fun v21 h21 =>
 kOf (c 75 [v21] h21) fun v22 h22 =>
 fShal v22 fun v23 =>
 p3_4 t0 v23 fun t1 =>
 some (.normal, t1, h22)
def SR39_3 : RegS 3 := fun c t0 h0 =>
 kAny (aStr .add (.const (.string { data := #[97, 97, 103, 32] })) (.const (g3_4 t0))) c h0 fun v2 h2 =>
 fShal v2 fun v3 =>
 p3_5 t0 v3 fun t1 =>
 some (.normal, t1, h2)
def SR39_4 : RegS 3 := fun c t0 h0 =>
 fShal (.int .i64 0) fun v1 =>
 p3_6 t0 v1 fun t1 =>
 some (.normal, t1, h0)
def SR39_5 : RegS 3 := fun c t0 h0 =>
 kNil (g3_0 t0) h0 fun v3 h3 =>
 kFld 0 v3 h3 fun v4 h4 =>
 kLd v4 h4 fun v5 h5 =>
 kLss (g3_6 t0) v5 h5 fun v6 h6 =>
 p3_49 t0 v6 fun t1 =>
 some (.normal, t1, h6)
def SR39_7 : RegS 3 := fun c t0 h0 =>
 kOf (c 42 [(g3_0 t0), (g3_6 t0)] h0) fun v3 h3 =>
 fShal v3 fun v4 =>
 p3_7 t0 v4 fun t1 =>
 some (.normal, t1, h3)
def SR39_8 : RegS 3 := fun c t0 h0 =>
 kMkSl 1 1 #[.int .i64 0] [(0, (g3_7 t0))] h0 fun v2 h2 =>
 kOf (c 75 [v2] h2) fun v3 h3 =>
 fShal v3 fun v4 =>
 p3_8 t0 v4 fun t1 =>
 some (.normal, t1, h3)
def SR39_9 : RegS 3 := fun c t0 h0 =>
 kAny (aStr .add (.const (g3_5 t0)) (.const (g3_8 t0))) c h0 fun v3 h3 =>
 fShal v3 fun v4 =>
 p3_5 t0 v4 fun t1 =>
 some (.normal, t1, h3)
def SR39_6 : RegS 3 := fun c t0 h0 =>
 kAdd (g3_6 t0) (.int .i64 1) h0 fun v2 h2 =>
 fShal v2 fun v3 =>
 p3_6 t0 v3 fun t1 =>
 some (.normal, t1, h2)
def SR39_10 : RegS 3 := fun c t0 h0 =>
 fShal (.int .i64 0) fun v1 =>
 p3_9 t0 v1 fun t1 =>
 some (.normal, t1, h0)
def SR39_11 : RegS 3 := fun c t0 h0 =>
 kNil (g3_0 t0) h0 fun v3 h3 =>
 kFld 1 v3 h3 fun v4 h4 =>
 kLd v4 h4 fun v5 h5 =>
 kLss (g3_9 t0) v5 h5 fun v6 h6 =>
 p3_66 t0 v6 fun t1 =>
 some (.normal, t1, h6)
def SR39_13 : RegS 3 := fun c t0 h0 =>
 kOf (c 35 [(g3_0 t0), (g3_9 t0)] h0) fun v3 h3 =>
 fShal v3 fun v4 =>
 p3_10 t0 v4 fun t1 =>
 some (.normal, t1, h3)
def SR39_14 : RegS 3 := fun c t0 h0 =>
 kNil (g3_0 t0) h0 fun v3 h3 =>
 kFld 3 v3 h3 fun v4 h4 =>
 kLd v4 h4 fun v5 h5 =>
 kIdx 1 v5 (g3_9 t0) h5 fun v7 h7 =>
 kLd v7 h7 fun v8 h8 =>
 kNil (g3_0 t0) h8 fun v10 h10 =>
 kFld 4 v10 h10 fun v11 h11 =>
 kLd v11 h11 fun v12 h12 =>
 kIdx 1 v12 (g3_9 t0) h12 fun v14 h14 =>
 kLd v14 h14 fun v15 h15 =>
 kMkSl 1 3 #[.int .i64 0] [(0, (g3_10 t0)), (1, v8), (2, v15)] h15 fun v16 h16 =>
 kOf (c 75 [v16] h16) fun v17 h17 =>
 fShal v17 fun v18 =>
 p3_11 t0 v18 fun t1 =>
 some (.normal, t1, h17)
def SR39_15 : RegS 3 := fun c t0 h0 =>
 kAny (aStr .add (.const (g3_5 t0)) (.const (g3_11 t0))) c h0 fun v3 h3 =>
 fShal v3 fun v4 =>
 p3_5 t0 v4 fun t1 =>
 some (.normal, t1, h3)
def SR39_12 : RegS 3 := fun c t0 h0 =>
 kAdd (g3_9 t0) (.int .i64 1) h0 fun v2 h2 =>
 fShal v2 fun v3 =>
 p3_9 t0 v3 fun t1 =>
 some (.normal, t1, h2)
def SR39_16 : RegS 3 := fun c t0 h0 =>
 kNil (g3_0 t0) h0 fun v2 h2 =>
 kFld 5 v2 h2 fun v3 h3 =>
 kLd v3 h3 fun v4 h4 =>
 kMkSl 1 1 #[.int .i64 0] [(0, v4)] h4 fun v5 h5 =>
 kOf (c 75 [v5] h5) fun v6 h6 =>
 fShal v6 fun v7 =>
 p3_12 t0 v7 fun t1 =>
 some (.normal, t1, h6)
def SR39_17 : RegS 3 := fun c t0 h0 =>
 kAny (aStr .add (.const (g3_5 t0)) (.const (g3_12 t0))) c h0 fun v3 h3 =>
 fShal v3 fun v4 =>
 p3_5 t0 v4 fun t1 =>
 some (.normal, t1, h3)
def SR39_18 : RegS 3 := fun c t0 h0 =>
 kSub (g3_3 t0) (.int .i64 1) h0 fun v2 h2 =>
 fShal v2 fun v3 =>
 p3_13 t0 v3 fun t1 =>
 some (.normal, t1, h2)
def SR39_19 : RegS 3 := fun c t0 h0 =>
 kGeq (g3_13 t0) (.int .i64 0) h0 fun v2 h2 =>
 p3_104 t0 v2 fun t1 =>
 some (.normal, t1, h2)
def SR39_21 : RegS 3 := fun c t0 h0 =>
 kNil (g3_0 t0) h0 fun v2 h2 =>
 kFld 0 v2 h2 fun v3 h3 =>
 kLd v3 h3 fun v4 h4 =>
 kAdd (.int .i64 1) v4 h4 fun v5 h5 =>
 kNil (g3_0 t0) h5 fun v7 h7 =>
 kFld 1 v7 h7 fun v8 h8 =>
 kLd v8 h8 fun v9 h9 =>
 kAdd v5 v9 h9 fun v10 h10 =>
 kAdd v10 (g3_13 t0) h10 fun v12 h12 =>
 kOf (vInt .mul (.int .i64 2) v12 h12) fun v13 h13 =>
 kNil (g3_0 t0) h13 fun v15 h15 =>
 kFld 2 v15 h15 fun v16 h16 =>
 kLd v16 h16 fun v17 h17 =>
 kOf (vInt .mul (.int .i64 2) (g3_13 t0) h17) fun v19 h19 =>
 kIdx 1 v17 v19 h19 fun v20 h20 =>
 kLd v20 h20 fun v21 h21 =>
 kNil (g3_0 t0) h21 fun v23 h23 =>
 kFld 2 v23 h23 fun v24 h24 =>
 kLd v24 h24 fun v25 h25 =>
 kOf (vInt .mul (.int .i64 2) (g3_13 t0) h25) fun v27 h27 =>
 kAdd v27 (.int .i64 1) h27 fun v28 h28 =>
 kIdx 1 v25 v28 h28 fun v29 h29 =>
 kLd v29 h29 fun v30 h30 =>
 kMkSl 1 3 #[.int .i64 0] [(0, v13), (1, v21), (2, v30)] h30 fun v31 h31 =>
 kOf (c 75 [v31] h31) fun v32 h32 =>
 fShal v32 fun v33 =>
 p3_12 t0 v33 fun t1 =>
 some (.normal, t1, h32)
def SR39_22 : RegS 3 := fun c t0 h0 =>
 kAny (aStr .add (.const (g3_5 t0)) (.const (g3_12 t0))) c h0 fun v3 h3 =>
 fShal v3 fun v4 =>
 p3_5 t0 v4 fun t1 =>
 some (.normal, t1, h3)
def SR39_20 : RegS 3 := fun c t0 h0 =>
 kSub (g3_13 t0) (.int .i64 1) h0 fun v2 h2 =>
 fShal v2 fun v3 =>
 p3_13 t0 v3 fun t1 =>
 some (.normal, t1, h2)
def SR39_23 : RegS 3 := fun c t0 h0 =>
 fShal (g3_5 t0) fun v2 =>
 p3_2 t0 v2 fun t1 =>
 some (.normal, t1, h0)
def SW39_0 : CodeS 3 :=
 cSeqS (cSeqS (cRegS (SR39_5)) (cIfS g3_49 (cSkipS) (cExitS 0))) (cSeqS (cBlkS 1 (cSeqS (cRegS (SR39_7)) (cSeqS (cRegS (SR39_8)) (cRegS (SR39_9))))) (cRegS (SR39_6)))
def SW39_1 : CodeS 3 :=
 cSeqS (cSeqS (cRegS (SR39_11)) (cIfS g3_66 (cSkipS) (cExitS 2))) (cSeqS (cBlkS 3 (cSeqS (cRegS (SR39_13)) (cSeqS (cRegS (SR39_14)) (cRegS (SR39_15))))) (cRegS (SR39_12)))
def SW39_2 : CodeS 3 :=
 cSeqS (cSeqS (cRegS (SR39_19)) (cIfS g3_104 (cSkipS) (cExitS 4))) (cSeqS (cBlkS 5 (cSeqS (cRegS (SR39_21)) (cRegS (SR39_22)))) (cRegS (SR39_20)))
def SF39 : CodeS 3 :=
 cSeqS (cRegS (SR39_0)) (cSeqS (cRegS (SR39_1)) (cSeqS (cRegS (SR39_2)) (cSeqS (cRegS (SR39_3)) (cSeqS (cSeqS (cRegS (SR39_4)) (cBlkS 0 (cLoopS (SW39_0)))) (cSeqS (cSeqS (cRegS (SR39_10)) (cBlkS 2 (cLoopS (SW39_1)))) (cSeqS (cRegS (SR39_16)) (cSeqS (cRegS (SR39_17)) (cSeqS (cSeqS (cRegS (SR39_18)) (cBlkS 4 (cLoopS (SW39_2)))) (cSeqS (cRegS (SR39_23)) (cRetS))))))))))
def T39 : FnT := runG en3_1 (SF39) (resQ (qc (rT g3_2) qn))
theorem T39_ok : GoodF Tryz.prog ro0 okF 39 (T39) :=
 (good_k (n := 143) acc3 (lv [0, 2, 3, 4, 5, 6, 7, 8, 9, 10, 11, 12, 13, 49, 66, 104]) (rs := [ResultVar.tmp 2]) Tryz.func39 (by kernel_rfl) (by kernel_rfl) (by kernel_rfl) (by kernel_rfl) (by kernel_rfl) (by kernel_rfl) (by kernel_rfl) (by kernel_rfl) (by kernel_rfl)).enter en3_1_ok (by kernel_rfl)

/-- circheck/circhecksays.un-safe -/
def SR40_0 : RegS 2 := fun c t0 h0 =>
 fShal (.slice none 0 0) fun v1 =>
 p2_2 t0 v1 fun t1 =>
 fShal (.int .i64 0) fun v2 =>
 p2_3 t1 v2 fun t2 =>
 fShal (.bool false) fun v3 =>
 p2_4 t2 v3 fun t3 =>
 some (.normal, t3, h0)
def SR40_1 : RegS 2 := fun c t0 h0 =>
 kOf (c 16 [(g2_0 t0), (.int .i64 1152921504606846976)] h0) fun v2 h2 =>
 fShal v2 fun v3 =>
 p2_5 t0 v3 fun t1 =>
 some (.normal, t1, h2)
def SR40_2 : RegS 2 := fun c t0 h0 =>
 kOf (c 16 [(g2_0 t0), (.int .i64 0)] h0) fun v2 h2 =>
 fShal v2 fun v3 =>
 p2_6 t0 v3 fun t1 =>
 some (.normal, t1, h2)
def SR40_3 : RegS 2 := fun c t0 h0 =>
 kPtrNil false (g2_5 t0) (.pointer none) h0 fun v2 h2 =>
 kIf v2 false (fun k => k (g2_6 t0) h2) h2 fun v4 h4 =>
 kIf v2 false (fun k => kPtrNil false v4 (.pointer none) h4 k) h4 fun v5 h5 =>
 kPick v2 (.bool true) v5 h5 fun v6 h6 =>
 p2_17 t0 v6 fun t1 =>
 some (.normal, t1, h6)
def SR40_4 : RegS 2 := fun c t0 h0 =>
 fShal (.slice none 0 0) fun v1 =>
 p2_2 t0 v1 fun t1 =>
 fShal (.int .i64 0) fun v2 =>
 p2_3 t1 v2 fun t2 =>
 fShal (.bool false) fun v3 =>
 p2_4 t2 v3 fun t3 =>
 some (.normal, t3, h0)
def SR40_5 : RegS 2 := fun c t0 h0 =>
 kNil (g2_5 t0) h0 fun v2 h2 =>
 kFld 0 v2 h2 fun v3 h3 =>
 kLd v3 h3 fun v4 h4 =>
 kEql v4 (.int .i64 2) h4 fun v5 h5 =>
 kIf v5 true (fun k => k (g2_6 t0) h5) h5 fun v7 h7 =>
 kIf v5 true (fun k => kNil v7 h7 k) h7 fun v8 h8 =>
 kIf v5 true (fun k => kFld 0 v8 h8 k) h8 fun v9 h9 =>
 kIf v5 true (fun k => kLd v9 h9 k) h9 fun v10 h10 =>
 kIf v5 true (fun k => kEql v10 (.int .i64 2) h10 k) h10 fun v11 h11 =>
 kIf v5 true (fun k => k v11 h11) h11 fun v12 h12 =>
 kIf v12 false (fun k => k (g2_6 t0) h12) h12 fun v13 h13 =>
 kIf v12 false (fun k => kNil v13 h13 k) h13 fun v14 h14 =>
 kIf v12 false (fun k => kFld 0 v14 h14 k) h14 fun v15 h15 =>
 kIf v12 false (fun k => kLd v15 h15 k) h15 fun v16 h16 =>
 kIf v12 false (fun k => kEql v16 (.int .i64 3) h16 k) h16 fun v17 h17 =>
 kIf v5 true (fun k => kPick v12 (.bool true) v17 h17 k) h17 fun v18 h18 =>
 kPick v5 v18 (.bool false) h18 fun v19 h19 =>
 fShal v19 fun v20 =>
 p2_7 t0 v20 fun t1 =>
 some (.normal, t1, h19)
def SR40_6 : RegS 2 := fun c t0 h0 =>
 kNil (g2_5 t0) h0 fun v2 h2 =>
 kFld 5 v2 h2 fun v3 h3 =>
 kLd v3 h3 fun v4 h4 =>
 kNil (g2_5 t0) h4 fun v6 h6 =>
 kFld 4 v6 h6 fun v7 h7 =>
 kLd v7 h7 fun v8 h8 =>
 fShal v4 fun v10 =>
 p2_2 t0 v10 fun t1 =>
 fShal v8 fun v11 =>
 p2_3 t1 v11 fun t2 =>
 fShal (g2_7 t0) fun v12 =>
 p2_4 t2 v12 fun t3 =>
 some (.normal, t3, h8)
def SF40 : CodeS 2 :=
 cSeqS (cRegS (SR40_0)) (cSeqS (cRegS (SR40_1)) (cSeqS (cRegS (SR40_2)) (cSeqS (cSeqS (cRegS (SR40_3)) (cIfS g2_17 (cSeqS (cRegS (SR40_4)) (cRetS)) (cSkipS))) (cSeqS (cRegS (SR40_5)) (cSeqS (cRegS (SR40_6)) (cRetS))))))
def T40 : FnT := runG en2_1 (SF40) (resQ (qc (rT g2_2) (qc (rT g2_3) (qc (rT g2_4) qn))))
theorem T40_ok : GoodF Tryz.prog ro0 okF 40 (T40) :=
 (good_k (n := 46) acc2 (lv [0, 2, 3, 4, 5, 6, 7, 17]) (rs := [ResultVar.tmp 2, ResultVar.tmp 3, ResultVar.tmp 4]) Tryz.func40 (by kernel_rfl) (by kernel_rfl) (by kernel_rfl) (by kernel_rfl) (by kernel_rfl) (by kernel_rfl) (by kernel_rfl) (by kernel_rfl) (by kernel_rfl)).enter en2_1_ok (by kernel_rfl)

/-- circheck/circhecksays.safe -/
def SR41_0 : RegS 2 := fun c t0 h0 =>
 fShal (.bool false) fun v1 =>
 p2_2 t0 v1 fun t1 =>
 some (.normal, t1, h0)
def SR41_1 : RegS 2 := fun c t0 h0 =>
 kOf (c 16 [(g2_0 t0), (.int .i64 1152921504606846976)] h0) fun v2 h2 =>
 fShal v2 fun v3 =>
 p2_3 t0 v3 fun t1 =>
 some (.normal, t1, h2)
def SR41_2 : RegS 2 := fun c t0 h0 =>
 kOf (c 16 [(g2_0 t0), (.int .i64 0)] h0) fun v2 h2 =>
 fShal v2 fun v3 =>
 p2_4 t0 v3 fun t1 =>
 some (.normal, t1, h2)
def SR41_3 : RegS 2 := fun c t0 h0 =>
 kPtrNil false (g2_3 t0) (.pointer none) h0 fun v2 h2 =>
 kIf v2 false (fun k => k (g2_4 t0) h2) h2 fun v4 h4 =>
 kIf v2 false (fun k => kPtrNil false v4 (.pointer none) h4 k) h4 fun v5 h5 =>
 kPick v2 (.bool true) v5 h5 fun v6 h6 =>
 p2_15 t0 v6 fun t1 =>
 some (.normal, t1, h6)
def SR41_4 : RegS 2 := fun c t0 h0 =>
 fShal (.bool false) fun v1 =>
 p2_2 t0 v1 fun t1 =>
 some (.normal, t1, h0)
def SR41_5 : RegS 2 := fun c t0 h0 =>
 kNil (g2_3 t0) h0 fun v2 h2 =>
 kFld 1 v2 h2 fun v3 h3 =>
 kOf (vLdN 2 v3 h3) fun v4 h4 =>
 kBuild #[.int .i64 0, .int .i64 0] [(0, 1), (1, 1)] [] h4 fun v5 h5 =>
 kAny (aAggEq false 2 (.const v4) (.const v5)) c h5 fun v6 h6 =>
 fShal v6 fun v7 =>
 p2_5 t0 v7 fun t1 =>
 some (.normal, t1, h6)
def SR41_6 : RegS 2 := fun c t0 h0 =>
 kIf (g2_5 t0) true (fun k => k (g2_3 t0) h0) h0 fun v3 h3 =>
 kIf (g2_5 t0) true (fun k => kNil v3 h3 k) h3 fun v4 h4 =>
 kIf (g2_5 t0) true (fun k => kFld 0 v4 h4 k) h4 fun v5 h5 =>
 kIf (g2_5 t0) true (fun k => kLd v5 h5 k) h5 fun v6 h6 =>
 kIf (g2_5 t0) true (fun k => kEql v6 (.int .i64 1) h6 k) h6 fun v7 h7 =>
 kPick (g2_5 t0) v7 (.bool false) h7 fun v8 h8 =>
 kIf v8 true (fun k => k (g2_4 t0) h8) h8 fun v10 h10 =>
 kIf v8 true (fun k => kNil v10 h10 k) h10 fun v11 h11 =>
 kIf v8 true (fun k => kFld 0 v11 h11 k) h11 fun v12 h12 =>
 kIf v8 true (fun k => kLd v12 h12 k) h12 fun v13 h13 =>
 kIf v8 true (fun k => kEql v13 (.int .i64 1) h13 k) h13 fun v14 h14 =>
 kIf v8 true (fun k => k v14 h14) h14 fun v15 h15 =>
 kIf v15 false (fun k => k (g2_4 t0) h15) h15 fun v16 h16 =>
 kIf v15 false (fun k => kNil v16 h16 k) h16 fun v17 h17 =>
 kIf v15 false (fun k => kFld 0 v17 h17 k) h17 fun v18 h18 =>
 kIf v15 false (fun k => kLd v18 h18 k) h18 fun v19 h19 =>
 kIf v15 false (fun k => kEql v19 (.int .i64 3) h19 k) h19 fun v20 h20 =>
 kIf v8 true (fun k => kPick v15 (.bool true) v20 h20 k) h20 fun v21 h21 =>
 kPick v8 v21 (.bool false) h21 fun v22 h22 =>
 fShal v22 fun v23 =>
 p2_2 t0 v23 fun t1 =>
 some (.normal, t1, h22)
def SF41 : CodeS 2 :=
 cSeqS (cRegS (SR41_0)) (cSeqS (cRegS (SR41_1)) (cSeqS (cRegS (SR41_2)) (cSeqS (cSeqS (cRegS (SR41_3)) (cIfS g2_15 (cSeqS (cRegS (SR41_4)) (cRetS)) (cSkipS))) (cSeqS (cRegS (SR41_5)) (cSeqS (cRegS (SR41_6)) (cRetS))))))
def T41 : FnT := runG en2_1 (SF41) (resQ (qc (rT g2_2) qn))
theorem T41_ok : GoodF Tryz.prog ro0 okF 41 (T41) :=
 (good_k (n := 44) acc2 (lv [0, 2, 3, 4, 5, 15]) (rs := [ResultVar.tmp 2]) Tryz.func41 (by kernel_rfl) (by kernel_rfl) (by kernel_rfl) (by kernel_rfl) (by kernel_rfl) (by kernel_rfl) (by kernel_rfl) (by kernel_rfl) (by kernel_rfl)).enter en2_1_ok (by kernel_rfl)

/-- (*circheck/circhecksays.net).input -/
def SR42_0 : RegS 1 := fun c t0 h0 =>
 fShal (.int .i64 0) fun v1 =>
 p1_4 t0 v1 fun t1 =>
 some (.normal, t1, h0)
def SR42_1 : RegS 1 := fun c t0 h0 =>
 kAdd (.int .i64 1) (g1_1 t0) h0 fun v2 h2 =>
 kOf (vInt .mul (.int .i64 2) v2 h2) fun v3 h3 =>
 fShal v3 fun v4 =>
 p1_4 t0 v4 fun t1 =>
 some (.normal, t1, h3)
def SF42 : CodeS 1 :=
 cSeqS (cRegS (SR42_0)) (cSeqS (cRegS (SR42_1)) (cRetS))
def T42 : FnT := runG en1_2 (SF42) (resQ (qc (rT g1_4) qn))
theorem T42_ok : GoodF Tryz.prog ro0 okF 42 (T42) :=
 (good_k (n := 8) acc1 (lv [1, 4]) (rs := [ResultVar.tmp 4]) Tryz.func42 (by kernel_rfl) (by kernel_rfl) (by kernel_rfl) (by kernel_rfl) (by kernel_rfl) (by kernel_rfl) (by kernel_rfl) (by kernel_rfl) (by kernel_rfl)).enter en1_2_ok (by kernel_rfl)

/-- (*circheck/checker.reader).header -/
def SR45_0 : RegS 2 := fun c t0 h0 =>
 kNew [.bool false, .int .i64 0, .int .i64 0, .int .i64 0, .int .i64 0, .int .i64 0, .int .i64 0, .int .i64 0] h0 fun v1 h1 =>
 p2_2 t0 v1 fun t1 =>
 some (.normal, t1, h1)
def SR45_1 : RegS 2 := fun c t0 h0 =>
 kOf (c 84 [(g2_0 t0), (.int .i64 97)] h0) fun v2 h2 =>
 some (.normal, t0, h2)
def SR45_2 : RegS 2 := fun c t0 h0 =>
 kOf (c 85 [(g2_0 t0), (.int .i64 105)] h0) fun v2 h2 =>
 fShal v2 fun v3 =>
 p2_3 t0 v3 fun t1 =>
 some (.normal, t1, h2)
def SR45_3 : RegS 2 := fun c t0 h0 =>
 kNot (g2_3 t0) h0 fun v2 h2 =>
 p2_11 t0 v2 fun t1 =>
 some (.normal, t1, h2)
def SR45_4 : RegS 2 := fun c t0 h0 =>
 kOf (c 84 [(g2_0 t0), (.int .i64 97)] h0) fun v2 h2 =>
 some (.normal, t0, h2)
def SR45_5 : RegS 2 := fun c t0 h0 =>
 kOf (c 84 [(g2_0 t0), (.int .i64 103)] h0) fun v2 h2 =>
 some (.normal, t0, h2)
def SR45_6 : RegS 2 := fun c t0 h0 =>
 kNew [.int .i64 0, .int .i64 0, .int .i64 0, .int .i64 0, .int .i64 0, .int .i64 0, .int .i64 0, .int .i64 0, .int .i64 0] h0 fun v1 h1 =>
 p2_4 t0 v1 fun t1 =>
 some (.normal, t1, h1)
def SR45_7 : RegS 2 := fun c t0 h0 =>
 fShal (.int .i64 0) fun v1 =>
 p2_5 t0 v1 fun t1 =>
 some (.normal, t1, h0)
def SR45_8 : RegS 2 := fun c t0 h0 =>
 kLss (g2_5 t0) (.int .i64 9) h0 fun v2 h2 =>
 p2_17 t0 v2 fun t1 =>
 some (.normal, t1, h2)
def SR45_10 : RegS 2 := fun c t0 h0 =>
 kGeq (g2_5 t0) (.int .i64 5) h0 fun v2 h2 =>
 kIf v2 true (fun k => k (g2_0 t0) h2) h2 fun v4 h4 =>
 kIf v2 true (fun k => kOf (c 86 [v4] h4) k) h4 fun v5 h5 =>
 kIf v2 true (fun k => kNeq v5 (.int .i64 32) h5 k) h5 fun v6 h6 =>
 kPick v2 v6 (.bool false) h6 fun v7 h7 =>
 p2_26 t0 v7 fun t1 =>
 some (.normal, t1, h7)
def SR45_11 : RegS 2 := fun c t0 h0 =>
 kOf (c 84 [(g2_0 t0), (.int .i64 32)] h0) fun v2 h2 =>
 some (.normal, t0, h2)
def SR45_12 : RegS 2 := fun c t0 h0 =>
 kOf (c 87 [(g2_0 t0)] h0) fun v3 h3 =>
 kAny (aIdxArr 9 1 (.const (g2_4 t0)) (.const (g2_5 t0))) c h3 fun v4 h4 =>
 kSt ro0 v4 v3 h4 fun _ h5 =>
 some (.normal, t0, h5)
def SR45_9 : RegS 2 := fun c t0 h0 =>
 kAdd (g2_5 t0) (.int .i64 1) h0 fun v2 h2 =>
 fShal v2 fun v3 =>
 p2_5 t0 v3 fun t1 =>
 some (.normal, t1, h2)
def SR45_13 : RegS 2 := fun c t0 h0 =>
 kOf (c 84 [(g2_0 t0), (.int .i64 10)] h0) fun v2 h2 =>
 some (.normal, t0, h2)
def SR45_14 : RegS 2 := fun c t0 h0 =>
 kAny (aIdxArr 9 1 (.const (g2_4 t0)) (.const (.int .i64 0))) c h0 fun v2 h2 =>
 kLd v2 h2 fun v3 h3 =>
 kAny (aIdxArr 9 1 (.const (g2_4 t0)) (.const (.int .i64 1))) c h3 fun v4 h4 =>
 kLd v4 h4 fun v5 h5 =>
 kAny (aIdxArr 9 1 (.const (g2_4 t0)) (.const (.int .i64 2))) c h5 fun v6 h6 =>
 kLd v6 h6 fun v7 h7 =>
 kAny (aIdxArr 9 1 (.const (g2_4 t0)) (.const (.int .i64 3))) c h7 fun v8 h8 =>
 kLd v8 h8 fun v9 h9 =>
 kAny (aIdxArr 9 1 (.const (g2_4 t0)) (.const (.int .i64 4))) c h9 fun v10 h10 =>
 kLd v10 h10 fun v11 h11 =>
 kAny (aIdxArr 9 1 (.const (g2_4 t0)) (.const (.int .i64 5))) c h11 fun v12 h12 =>
 kLd v12 h12 fun v13 h13 =>
 kAny (aIdxArr 9 1 (.const (g2_4 t0)) (.const (.int .i64 6))) c h13 fun v14 h14 =>
 kLd v14 h14 fun v15 h15 =>
 kAny (aIdxArr 9 1 (.const (g2_4 t0)) (.const (.int .i64 7))) c h15 fun v16 h16 =>
 kLd v16 h16 fun v17 h17 =>
 kAdd v15 v17 h17 fun v18 h18 =>
 kAny (aIdxArr 9 1 (.const (g2_4 t0)) (.const (.int .i64 8))) c h18 fun v19 h19 =>
 kLd v19 h19 fun v20 h20 =>
 kAdd v18 v20 h20 fun v21 h21 =>
 kBuild #[.bool false, .int .i64 0, .int .i64 0, .int .i64 0, .int .i64 0, .int .i64 0, .int .i64 0, .int .i64 0] [(0, 1), (1, 1), (2, 1), (3, 1), (4, 1), (5, 1), (6, 1), (7, 1)] [(0, (g2_3 t0)), (1, v3), (2, v5), (3, v7), (4, v9), (5, v11), (6, v13), (7, v21)] h21 fun v22 h22 =>
 kAny (aSt tO ro0 8 (.const (g2_2 t0)) (.const v22)) c h22 fun _ h23 =>
 some (.normal, t0, h23)
def SW45_0 : CodeS 2 :=
 cSeqS (cSeqS (cRegS (SR45_8)) (cIfS g2_17 (cSkipS) (cExitS 0))) (cSeqS (cBlkS 1 (cSeqS (cSeqS (cRegS (SR45_10)) (cIfS g2_26 (cExitS 0) (cSkipS))) (cSeqS (cRegS (SR45_11)) (cRegS (SR45_12))))) (cRegS (SR45_9)))
def SF45 : CodeS 2 :=
 cSeqS (cRegS (SR45_0)) (cSeqS (cRegS (SR45_1)) (cSeqS (cRegS (SR45_2)) (cSeqS (cSeqS (cRegS (SR45_3)) (cIfS g2_11 (cRegS (SR45_4)) (cSkipS))) (cSeqS (cRegS (SR45_5)) (cSeqS (cRegS (SR45_6)) (cSeqS (cSeqS (cRegS (SR45_7)) (cBlkS 0 (cLoopS (SW45_0)))) (cSeqS (cRegS (SR45_13)) (cSeqS (cRegS (SR45_14)) (cRetS)))))))))
def T45 : FnT := runG en2_1 (SF45) (resQ (qc (rN 8 g2_2) qn))
theorem T45_ok : GoodF Tryz.prog ro0 okF 45 (T45) :=
 (good_k (n := 57) acc2 (lv [0, 2, 3, 4, 5, 11, 17, 26]) (rs := [ResultVar.cell 2 78]) Tryz.func45 (by kernel_rfl) (by kernel_rfl) (by kernel_rfl) (by kernel_rfl) (by kernel_rfl) (by kernel_rfl) (by kernel_rfl) (by kernel_rfl) (by kernel_rfl)).enter en2_1_ok (by kernel_rfl)

/-- (circheck/checker.header).judge -/
def SR46_0 : RegS 3 := fun c t0 h0 =>
 kBox (g3_0 t0) h0 fun v1 h1 =>
 p3_2 t0 v1 fun t1 =>
 some (.normal, t1, h1)
def SR46_1 : RegS 3 := fun c t0 h0 =>
 kFld 1 (g3_2 t0) h0 fun v1 h1 =>
 kLd v1 h1 fun v2 h2 =>
 kGtr v2 (.int .i64 80) h2 fun v3 h3 =>
 kIf v3 false (fun k => kFld 2 (g3_2 t0) h3 k) h3 fun v5 h5 =>
 kIf v3 false (fun k => kLd v5 h5 k) h5 fun v6 h6 =>
 kIf v3 false (fun k => kGtr v6 (.int .i64 4) h6 k) h6 fun v7 h7 =>
 kPick v3 (.bool true) v7 h7 fun v8 h8 =>
 kIf v8 false (fun k => kFld 3 (g3_2 t0) h8 k) h8 fun v10 h10 =>
 kIf v8 false (fun k => kLd v10 h10 k) h10 fun v11 h11 =>
 kIf v8 false (fun k => kGtr v11 (.int .i64 6) h11 k) h11 fun v12 h12 =>
 kPick v8 (.bool true) v12 h12 fun v13 h13 =>
 kIf v13 false (fun k => kFld 4 (g3_2 t0) h13 k) h13 fun v15 h15 =>
 kIf v13 false (fun k => kLd v15 h15 k) h15 fun v16 h16 =>
 kIf v13 false (fun k => kGtr v16 (.int .i64 4) h16 k) h16 fun v17 h17 =>
 kPick v13 (.bool true) v17 h17 fun v18 h18 =>
 kIf v18 false (fun k => kFld 5 (g3_2 t0) h18 k) h18 fun v20 h20 =>
 kIf v18 false (fun k => kLd v20 h20 k) h20 fun v21 h21 =>
 kIf v18 false (fun k => kGtr v21 (.int .i64 60) h21 k) h21 fun v22 h22 =>
 kPick v18 (.bool true) v22 h22 fun v23 h23 =>
 p3_27 t0 v23 fun t1 =>
 some (.normal, t1, h23)
def SR46_2 : RegS 3 := fun c t0 h0 =>
 kOf (c 88 [(g3_1 t0), (.int .i64 3), (.int .i64 0)] h0) fun v2 h2 =>
 some (.normal, t0, h2)
def SR46_3 : RegS 3 := fun c t0 h0 =>
 kFld 2 (g3_2 t0) h0 fun v1 h1 =>
 kLd v1 h1 fun v2 h2 =>
 kFld 3 (g3_2 t0) h2 fun v3 h3 =>
 kLd v3 h3 fun v4 h4 =>
 kAdd v2 v4 h4 fun v5 h5 =>
 kFld 5 (g3_2 t0) h5 fun v6 h6 =>
 kLd v6 h6 fun v7 h7 =>
 kAdd v5 v7 h7 fun v8 h8 =>
 fShal v8 fun v9 =>
 p3_4 t0 v9 fun t1 =>
 some (.normal, t1, h8)
def SR46_4 : RegS 3 := fun c t0 h0 =>
 kFld 1 (g3_2 t0) h0 fun v2 h2 =>
 kLd v2 h2 fun v3 h3 =>
 kGtr (g3_4 t0) v3 h3 fun v4 h4 =>
 kIf v4 false (fun k => kFld 0 (g3_2 t0) h4 k) h4 fun v6 h6 =>
 kIf v4 false (fun k => kLd v6 h6 k) h6 fun v7 h7 =>
 kIf v4 false (fun k => k v7 h7) h7 fun v8 h8 =>
 kIf v8 true (fun k => k (g3_4 t0) h8) h8 fun v9 h9 =>
 kIf v8 true (fun k => kFld 1 (g3_2 t0) h9 k) h9 fun v10 h10 =>
 kIf v8 true (fun k => kLd v10 h10 k) h10 fun v11 h11 =>
 kIf v8 true (fun k => kNeq v9 v11 h11 k) h11 fun v12 h12 =>
 kIf v4 false (fun k => kPick v8 v12 (.bool false) h12 k) h12 fun v13 h13 =>
 kPick v4 (.bool true) v13 h13 fun v14 h14 =>
 p3_51 t0 v14 fun t1 =>
 some (.normal, t1, h14)
def SR46_5 : RegS 3 := fun c t0 h0 =>
 kOf (c 88 [(g3_1 t0), (.int .i64 4), (.int .i64 0)] h0) fun v2 h2 =>
 some (.normal, t0, h2)
def SR46_6 : RegS 3 := fun c t0 h0 =>
 kFld 7 (g3_2 t0) h0 fun v1 h1 =>
 kLd v1 h1 fun v2 h2 =>
 kNeq v2 (.int .i64 0) h2 fun v3 h3 =>
 p3_56 t0 v3 fun t1 =>
 some (.normal, t1, h3)
def SR46_7 : RegS 3 := fun c t0 h0 =>
 kOf (c 88 [(g3_1 t0), (.int .i64 5), (.int .i64 0)] h0) fun v2 h2 =>
 some (.normal, t0, h2)
def SR46_8 : RegS 3 := fun c t0 h0 =>
 kFld 6 (g3_2 t0) h0 fun v1 h1 =>
 kLd v1 h1 fun v2 h2 =>
 kGtr v2 (.int .i64 1) h2 fun v3 h3 =>
 kIf v3 false (fun k => kFld 6 (g3_2 t0) h3 k) h3 fun v5 h5 =>
 kIf v3 false (fun k => kLd v5 h5 k) h5 fun v6 h6 =>
 kIf v3 false (fun k => kEql v6 (.int .i64 0) h6 k) h6 fun v7 h7 =>
 kIf v3 false (fun k => k v7 h7) h7 fun v8 h8 =>
 kIf v8 true (fun k => kFld 4 (g3_2 t0) h8 k) h8 fun v9 h9 =>
 kIf v8 true (fun k => kLd v9 h9 k) h9 fun v10 h10 =>
 kIf v8 true (fun k => kNeq v10 (.int .i64 1) h10 k) h10 fun v11 h11 =>
 kIf v3 false (fun k => kPick v8 v11 (.bool false) h11 k) h11 fun v12 h12 =>
 kPick v3 (.bool true) v12 h12 fun v13 h13 =>
 p3_71 t0 v13 fun t1 =>
 some (.normal, t1, h13)
def SR46_9 : RegS 3 := fun c t0 h0 =>
 kOf (c 88 [(g3_1 t0), (.int .i64 6), (.int .i64 0)] h0) fun v2 h2 =>
 some (.normal, t0, h2)
def SF46 : CodeS 3 :=
 cSeqS (cRegS (SR46_0)) (cSeqS (cSeqS (cRegS (SR46_1)) (cIfS g3_27 (cRegS (SR46_2)) (cSkipS))) (cSeqS (cRegS (SR46_3)) (cSeqS (cSeqS (cRegS (SR46_4)) (cIfS g3_51 (cRegS (SR46_5)) (cSkipS))) (cSeqS (cSeqS (cRegS (SR46_6)) (cIfS g3_56 (cRegS (SR46_7)) (cSkipS))) (cSeqS (cRegS (SR46_8)) (cIfS g3_71 (cRegS (SR46_9)) (cSkipS)))))))
def T46 : FnT := runG en3_2 (SF46) (resQ qn)
theorem T46_ok : GoodF Tryz.prog ro0 okF 46 (T46) :=
 (good_k (n := 74) acc3 (lv [0, 1, 2, 4, 27, 51, 56, 71]) (rs := []) Tryz.func46 (by kernel_rfl) (by kernel_rfl) (by kernel_rfl) (by kernel_rfl) (by kernel_rfl) (by kernel_rfl) (by kernel_rfl) (by kernel_rfl) (by kernel_rfl)).enter en3_2_ok (by kernel_rfl)

/-- (*circheck/checker.reader).failed -/
def SR47_0 : RegS 2 := fun c t0 h0 =>
 fShal (.bool false) fun v1 =>
 p2_2 t0 v1 fun t1 =>
 some (.normal, t1, h0)
def SR47_1 : RegS 2 := fun c t0 h0 =>
 kNil (g2_0 t0) h0 fun v2 h2 =>
 kFld 2 v2 h2 fun v3 h3 =>
 kFld 0 v3 h3 fun v4 h4 =>
 kLd v4 h4 fun v5 h5 =>
 kNeq v5 (.int .i64 0) h5 fun v6 h6 =>
 fShal v6 fun v7 =>
 p2_2 t0 v7 fun t1 =>
 some (.normal, t1, h6)
def SF47 : CodeS 2 :=
 cSeqS (cRegS (SR47_0)) (cSeqS (cRegS (SR47_1)) (cRetS))
def T47 : FnT := runG en2_1 (SF47) (resQ (qc (rT g2_2) qn))
theorem T47_ok : GoodF Tryz.prog ro0 okF 47 (T47) :=
 (good_k (n := 9) acc2 (lv [0, 2]) (rs := [ResultVar.tmp 2]) Tryz.func47 (by kernel_rfl) (by kernel_rfl) (by kernel_rfl) (by kernel_rfl) (by kernel_rfl) (by kernel_rfl) (by kernel_rfl) (by kernel_rfl) (by kernel_rfl)).enter en2_1_ok (by kernel_rfl)

/-- circheck/checker.newNetlist -/
def SR48_0 : RegS 2 := fun c t0 h0 =>
 fShal (.pointer none) fun v1 =>
 p2_2 t0 v1 fun t1 =>
 some (.normal, t1, h0)
def SR48_1 : RegS 2 := fun c t0 h0 =>
 kBuild #[.slice none 0 0, .slice none 0 0, .slice none 0 0, .slice none 0 0, .slice none 0 0, .slice none 0 0] [(0, 1), (1, 1), (2, 1), (3, 1), (4, 1), (5, 1)] [] h0 fun v1 h1 =>
 kBox v1 h1 fun v2 h2 =>
 fShal v2 fun v3 =>
 p2_3 t0 v3 fun t1 =>
 some (.normal, t1, h2)
def SR48_2 : RegS 2 := fun c t0 h0 =>
 fShal (.int .i64 0) fun v1 =>
 p2_4 t0 v1 fun t1 =>
 some (.normal, t1, h0)
def SR48_3 : RegS 2 := fun c t0 h0 =>
 kLeq (g2_4 t0) (g2_0 t0) h0 fun v3 h3 =>
 p2_9 t0 v3 fun t1 =>
 some (.normal, t1, h3)
def SR48_5 : RegS 2 := fun c t0 h0 =>
 kNil (g2_3 t0) h0 fun v3 h3 =>
 kFld 0 v3 h3 fun v4 h4 =>
 kLd v4 h4 fun v5 h5 =>
 kEql (g2_4 t0) (.int .i64 0) h5 fun v7 h7 =>
 kMkSl 1 1 #[.bool false] [(0, v7)] h7 fun v8 h8 =>
 kOf (vApp ro0 1 1 v5 v8 h8) fun v9 h9 =>
 kNil (g2_3 t0) h9 fun v10 h10 =>
 kFld 0 v10 h10 fun v11 h11 =>
 kSt ro0 v11 v9 h11 fun _ h12 =>
 some (.normal, t0, h12)
def SR48_4 : RegS 2 := fun c t0 h0 =>
 kAdd (g2_4 t0) (.int .i64 1) h0 fun v2 h2 =>
 fShal v2 fun v3 =>
 p2_4 t0 v3 fun t1 =>
 some (.normal, t1, h2)
def SR48_6 : RegS 2 := fun c t0 h0 =>
 fShal (g2_3 t0) fun v2 =>
 p2_2 t0 v2 fun t1 =>
 some (.normal, t1, h0)
def SW48_0 : CodeS 2 :=
 cSeqS (cSeqS (cRegS (SR48_3)) (cIfS g2_9 (cSkipS) (cExitS 0))) (cSeqS (cBlkS 1 (cRegS (SR48_5))) (cRegS (SR48_4)))
def SF48 : CodeS 2 :=
 cSeqS (cRegS (SR48_0)) (cSeqS (cRegS (SR48_1)) (cSeqS (cSeqS (cRegS (SR48_2)) (cBlkS 0 (cLoopS (SW48_0)))) (cSeqS (cRegS (SR48_6)) (cRetS))))
def T48 : FnT := runG en2_1 (SF48) (resQ (qc (rT g2_2) qn))
theorem T48_ok : GoodF Tryz.prog ro0 okF 48 (T48) :=
 (good_k (n := 24) acc2 (lv [0, 2, 3, 4, 9]) (rs := [ResultVar.tmp 2]) Tryz.func48 (by kernel_rfl) (by kernel_rfl) (by kernel_rfl) (by kernel_rfl) (by kernel_rfl) (by kernel_rfl) (by kernel_rfl) (by kernel_rfl) (by kernel_rfl)).enter en2_1_ok (by kernel_rfl)

/-- (*circheck/checker.netlist).readBinary -/
def SR49_0 : RegS 3 := fun c t0 h0 =>
 kBox (g3_2 t0) h0 fun v1 h1 =>
 p3_5 t0 v1 fun t1 =>
 some (.normal, t1, h1)
def SR49_1 : RegS 3 := fun c t0 h0 =>
 fShal (.int .i64 0) fun v1 =>
 p3_6 t0 v1 fun t1 =>
 some (.normal, t1, h0)
def SR49_2 : RegS 3 := fun c t0 h0 =>
 kFld 2 (g3_5 t0) h0 fun v2 h2 =>
 kLd v2 h2 fun v3 h3 =>
 kLss (g3_6 t0) v3 h3 fun v4 h4 =>
 p3_14 t0 v4 fun t1 =>
 some (.normal, t1, h4)
def SR49_4 : RegS 3 := fun c t0 h0 =>
 kAdd (.int .i64 1) (g3_6 t0) h0 fun v2 h2 =>
 kOf (vInt .mul (.int .i64 2) v2 h2) fun v3 h3 =>
 fShal v3 fun v4 =>
 p3_7 t0 v4 fun t1 =>
 some (.normal, t1, h3)
def SR49_5 : RegS 3 := fun c t0 h0 =>
 kOf (c 89 [(g3_0 t0), (g3_7 t0)] h0) fun v3 h3 =>
 some (.normal, t0, h3)
def SR49_6 : RegS 3 := fun c t0 h0 =>
 kNil (g3_0 t0) h0 fun v3 h3 =>
 kFld 1 v3 h3 fun v4 h4 =>
 kLd v4 h4 fun v5 h5 =>
 kMkSl 1 1 #[.int .i64 0] [(0, (g3_7 t0))] h5 fun v7 h7 =>
 kOf (vApp ro0 1 8 v5 v7 h7) fun v8 h8 =>
 kNil (g3_0 t0) h8 fun v9 h9 =>
 kFld 1 v9 h9 fun v10 h10 =>
 kSt ro0 v10 v8 h10 fun _ h11 =>
 some (.normal, t0, h11)
def SR49_3 : RegS 3 := fun c t0 h0 =>
 kAdd (g3_6 t0) (.int .i64 1) h0 fun v2 h2 =>
 fShal v2 fun v3 =>
 p3_6 t0 v3 fun t1 =>
 some (.normal, t1, h2)
def SR49_7 : RegS 3 := fun c t0 h0 =>
 fShal (.int .i64 0) fun v1 =>
 p3_8 t0 v1 fun t1 =>
 some (.normal, t1, h0)
def SR49_8 : RegS 3 := fun c t0 h0 =>
 kFld 3 (g3_5 t0) h0 fun v2 h2 =>
 kLd v2 h2 fun v3 h3 =>
 kLss (g3_8 t0) v3 h3 fun v4 h4 =>
 p3_36 t0 v4 fun t1 =>
 some (.normal, t1, h4)
def SR49_10 : RegS 3 := fun c t0 h0 =>
 kFld 2 (g3_5 t0) h0 fun v1 h1 =>
 kLd v1 h1 fun v2 h2 =>
 kAdd (.int .i64 1) v2 h2 fun v3 h3 =>
 kAdd v3 (g3_8 t0) h3 fun v5 h5 =>
 kOf (vInt .mul (.int .i64 2) v5 h5) fun v6 h6 =>
 fShal v6 fun v7 =>
 p3_9 t0 v7 fun t1 =>
 some (.normal, t1, h6)
def SR49_11 : RegS 3 := fun c t0 h0 =>
 kOf (c 89 [(g3_0 t0), (g3_9 t0)] h0) fun v3 h3 =>
 some (.normal, t0, h3)
def SR49_12 : RegS 3 := fun c t0 h0 =>
 kOf (c 90 [(g3_0 t0), (g3_1 t0), (g3_9 t0)] h0) fun v4 h4 =>
 some (.normal, t0, h4)
def SR49_9 : RegS 3 := fun c t0 h0 =>
 kAdd (g3_8 t0) (.int .i64 1) h0 fun v2 h2 =>
 fShal v2 fun v3 =>
 p3_8 t0 v3 fun t1 =>
 some (.normal, t1, h2)
def SR49_13 : RegS 3 := fun c t0 h0 =>
 kFld 4 (g3_5 t0) h0 fun v4 h4 =>
 kLd v4 h4 fun v5 h5 =>
 kOf (c 91 [(g3_0 t0), (g3_1 t0), v5] h5) fun v6 h6 =>
 kNil (g3_0 t0) h6 fun v7 h7 =>
 kFld 3 v7 h7 fun v8 h8 =>
 kSt ro0 v8 v6 h8 fun _ h9 =>
 some (.normal, t0, h9)
def SR49_14 : RegS 3 := fun c t0 h0 =>
 kFld 6 (g3_5 t0) h0 fun v4 h4 =>
 kLd v4 h4 fun v5 h5 =>
 kOf (c 91 [(g3_0 t0), (g3_1 t0), v5] h5) fun v6 h6 =>
 kNil (g3_0 t0) h6 fun v7 h7 =>
 kFld 4 v7 h7 fun v8 h8 =>
 kSt ro0 v8 v6 h8 fun _ h9 =>
 some (.normal, t0, h9)
def SR49_15 : RegS 3 := fun c t0 h0 =>
 fShal (.int .i64 0) fun v1 =>
 p3_10 t0 v1 fun t1 =>
 some (.normal, t1, h0)
def SR49_16 : RegS 3 := fun c t0 h0 =>
 kFld 5 (g3_5 t0) h0 fun v2 h2 =>
 kLd v2 h2 fun v3 h3 =>
 kLss (g3_10 t0) v3 h3 fun v4 h4 =>
 p3_71 t0 v4 fun t1 =>
 some (.normal, t1, h4)
def SR49_18 : RegS 3 := fun c t0 h0 =>
 kFld 2 (g3_5 t0) h0 fun v3 h3 =>
 kLd v3 h3 fun v4 h4 =>
 kAdd (.int .i64 1) v4 h4 fun v5 h5 =>
 kFld 3 (g3_5 t0) h5 fun v6 h6 =>
 kLd v6 h6 fun v7 h7 =>
 kAdd v5 v7 h7 fun v8 h8 =>
 kAdd v8 (g3_10 t0) h8 fun v10 h10 =>
 kOf (vInt .mul (.int .i64 2) v10 h10) fun v11 h11 =>
 kOf (c 92 [(g3_0 t0), (g3_1 t0), v11] h11) fun v12 h12 =>
 some (.normal, t0, h12)
def SR49_17 : RegS 3 := fun c t0 h0 =>
 kAdd (g3_10 t0) (.int .i64 1) h0 fun v2 h2 =>
 fShal v2 fun v3 =>
 p3_10 t0 v3 fun t1 =>
 some (.normal, t1, h2)
def SW49_0 : CodeS 3 :=
 cSeqS (cSeqS (cRegS (SR49_2)) (cIfS g3_14 (cSkipS) (cExitS 0))) (cSeqS (cBlkS 1 (cSeqS (cRegS (SR49_4)) (cSeqS (cRegS (SR49_5)) (cRegS (SR49_6))))) (cRegS (SR49_3)))
def SW49_1 : CodeS 3 :=
 cSeqS (cSeqS (cRegS (SR49_8)) (cIfS g3_36 (cSkipS) (cExitS 2))) (cSeqS (cBlkS 3 (cSeqS (cRegS (SR49_10)) (cSeqS (cRegS (SR49_11)) (cRegS (SR49_12))))) (cRegS (SR49_9)))
def SW49_2 : CodeS 3 :=
 cSeqS (cSeqS (cRegS (SR49_16)) (cIfS g3_71 (cSkipS) (cExitS 4))) (cSeqS (cBlkS 5 (cRegS (SR49_18))) (cRegS (SR49_17)))
def SF49 : CodeS 3 :=
 cSeqS (cRegS (SR49_0)) (cSeqS (cSeqS (cRegS (SR49_1)) (cBlkS 0 (cLoopS (SW49_0)))) (cSeqS (cSeqS (cRegS (SR49_7)) (cBlkS 2 (cLoopS (SW49_1)))) (cSeqS (cRegS (SR49_13)) (cSeqS (cRegS (SR49_14)) (cSeqS (cRegS (SR49_15)) (cBlkS 4 (cLoopS (SW49_2))))))))
def T49 : FnT := runG en3_3 (SF49) (resQ qn)
theorem T49_ok : GoodF Tryz.prog ro0 okF 49 (T49) :=
 (good_k (n := 86) acc3 (lv [0, 1, 2, 5, 6, 7, 8, 9, 10, 14, 36, 71]) (rs := []) Tryz.func49 (by kernel_rfl) (by kernel_rfl) (by kernel_rfl) (by kernel_rfl) (by kernel_rfl) (by kernel_rfl) (by kernel_rfl) (by kernel_rfl) (by kernel_rfl)).enter en3_3_ok (by kernel_rfl)

/-- (*circheck/checker.netlist).readPlain -/
def SR50_0 : RegS 3 := fun c t0 h0 =>
 kBox (g3_2 t0) h0 fun v1 h1 =>
 p3_5 t0 v1 fun t1 =>
 some (.normal, t1, h1)
def SR50_1 : RegS 3 := fun c t0 h0 =>
 fShal (.int .i64 0) fun v1 =>
 p3_6 t0 v1 fun t1 =>
 some (.normal, t1, h0)
def SR50_2 : RegS 3 := fun c t0 h0 =>
 kFld 2 (g3_5 t0) h0 fun v2 h2 =>
 kLd v2 h2 fun v3 h3 =>
 kLss (g3_6 t0) v3 h3 fun v4 h4 =>
 p3_14 t0 v4 fun t1 =>
 some (.normal, t1, h4)
def SR50_4 : RegS 3 := fun c t0 h0 =>
 kOf (c 93 [(g3_0 t0), (g3_1 t0)] h0) fun v3 h3 =>
 kNew [.int .i64 0, .int .i64 0] h3 fun v4 h4 =>
 p3_7 t0 v4 fun t1 =>
 kAny (aSt tO ro0 2 (.const v4) (.const v3)) c h4 fun _ h5 =>
 some (.normal, t1, h5)
def SR50_5 : RegS 3 := fun c t0 h0 =>
 kOf (c 84 [(g3_1 t0), (.int .i64 10)] h0) fun v2 h2 =>
 some (.normal, t0, h2)
def SR50_6 : RegS 3 := fun c t0 h0 =>
 kNil (g3_0 t0) h0 fun v3 h3 =>
 kFld 1 v3 h3 fun v4 h4 =>
 kLd v4 h4 fun v5 h5 =>
 kFld 0 (g3_7 t0) h5 fun v6 h6 =>
 kLd v6 h6 fun v7 h7 =>
 kMkSl 1 1 #[.int .i64 0] [(0, v7)] h7 fun v8 h8 =>
 kOf (vApp ro0 1 8 v5 v8 h8) fun v9 h9 =>
 kNil (g3_0 t0) h9 fun v10 h10 =>
 kFld 1 v10 h10 fun v11 h11 =>
 kSt ro0 v11 v9 h11 fun _ h12 =>
 some (.normal, t0, h12)
def SR50_3 : RegS 3 := fun c t0 h0 =>
 kAdd (g3_6 t0) (.int .i64 1) h0 fun v2 h2 =>
 fShal v2 fun v3 =>
 p3_6 t0 v3 fun t1 =>
 some (.normal, t1, h2)
def SR50_7 : RegS 3 := fun c t0 h0 =>
 fShal (.int .i64 0) fun v1 =>
 p3_8 t0 v1 fun t1 =>
 some (.normal, t1, h0)
def SR50_8 : RegS 3 := fun c t0 h0 =>
 kFld 3 (g3_5 t0) h0 fun v2 h2 =>
 kLd v2 h2 fun v3 h3 =>
 kLss (g3_8 t0) v3 h3 fun v4 h4 =>
 p3_36 t0 v4 fun t1 =>
 some (.normal, t1, h4)
def SR50_10 : RegS 3 := fun c t0 h0 =>
 kOf (c 93 [(g3_0 t0), (g3_1 t0)] h0) fun v3 h3 =>
 kNew [.int .i64 0, .int .i64 0] h3 fun v4 h4 =>
 p3_9 t0 v4 fun t1 =>
 kAny (aSt tO ro0 2 (.const v4) (.const v3)) c h4 fun _ h5 =>
 some (.normal, t1, h5)
def SR50_11 : RegS 3 := fun c t0 h0 =>
 kOf (c 84 [(g3_1 t0), (.int .i64 32)] h0) fun v2 h2 =>
 some (.normal, t0, h2)
def SR50_12 : RegS 3 := fun c t0 h0 =>
 kFld 0 (g3_9 t0) h0 fun v3 h3 =>
 kLd v3 h3 fun v4 h4 =>
 kOf (c 90 [(g3_0 t0), (g3_1 t0), v4] h4) fun v5 h5 =>
 some (.normal, t0, h5)
def SR50_9 : RegS 3 := fun c t0 h0 =>
 kAdd (g3_8 t0) (.int .i64 1) h0 fun v2 h2 =>
 fShal v2 fun v3 =>
 p3_8 t0 v3 fun t1 =>
 some (.normal, t1, h2)
def SR50_13 : RegS 3 := fun c t0 h0 =>
 kFld 4 (g3_5 t0) h0 fun v4 h4 =>
 kLd v4 h4 fun v5 h5 =>
 kOf (c 91 [(g3_0 t0), (g3_1 t0), v5] h5) fun v6 h6 =>
 kNil (g3_0 t0) h6 fun v7 h7 =>
 kFld 3 v7 h7 fun v8 h8 =>
 kSt ro0 v8 v6 h8 fun _ h9 =>
 some (.normal, t0, h9)
def SR50_14 : RegS 3 := fun c t0 h0 =>
 kFld 6 (g3_5 t0) h0 fun v4 h4 =>
 kLd v4 h4 fun v5 h5 =>
 kOf (c 91 [(g3_0 t0), (g3_1 t0), v5] h5) fun v6 h6 =>
 kNil (g3_0 t0) h6 fun v7 h7 =>
 kFld 4 v7 h7 fun v8 h8 =>
 kSt ro0 v8 v6 h8 fun _ h9 =>
 some (.normal, t0, h9)
def SR50_15 : RegS 3 := fun c t0 h0 =>
 fShal (.int .i64 0) fun v1 =>
 p3_10 t0 v1 fun t1 =>
 some (.normal, t1, h0)
def SR50_16 : RegS 3 := fun c t0 h0 =>
 kFld 5 (g3_5 t0) h0 fun v2 h2 =>
 kLd v2 h2 fun v3 h3 =>
 kLss (g3_10 t0) v3 h3 fun v4 h4 =>
 p3_68 t0 v4 fun t1 =>
 some (.normal, t1, h4)
def SR50_18 : RegS 3 := fun c t0 h0 =>
 kOf (c 94 [(g3_0 t0), (g3_1 t0)] h0) fun v3 h3 =>
 some (.normal, t0, h3)
def SR50_17 : RegS 3 := fun c t0 h0 =>
 kAdd (g3_10 t0) (.int .i64 1) h0 fun v2 h2 =>
 fShal v2 fun v3 =>
 p3_10 t0 v3 fun t1 =>
 some (.normal, t1, h2)
def SW50_0 : CodeS 3 :=
 cSeqS (cSeqS (cRegS (SR50_2)) (cIfS g3_14 (cSkipS) (cExitS 0))) (cSeqS (cBlkS 1 (cSeqS (cRegS (SR50_4)) (cSeqS (cRegS (SR50_5)) (cRegS (SR50_6))))) (cRegS (SR50_3)))
def SW50_1 : CodeS 3 :=
 cSeqS (cSeqS (cRegS (SR50_8)) (cIfS g3_36 (cSkipS) (cExitS 2))) (cSeqS (cBlkS 3 (cSeqS (cRegS (SR50_10)) (cSeqS (cRegS (SR50_11)) (cRegS (SR50_12))))) (cRegS (SR50_9)))
def SW50_2 : CodeS 3 :=
 cSeqS (cSeqS (cRegS (SR50_16)) (cIfS g3_68 (cSkipS) (cExitS 4))) (cSeqS (cBlkS 5 (cRegS (SR50_18))) (cRegS (SR50_17)))
def SF50 : CodeS 3 :=
 cSeqS (cRegS (SR50_0)) (cSeqS (cSeqS (cRegS (SR50_1)) (cBlkS 0 (cLoopS (SW50_0)))) (cSeqS (cSeqS (cRegS (SR50_7)) (cBlkS 2 (cLoopS (SW50_1)))) (cSeqS (cRegS (SR50_13)) (cSeqS (cRegS (SR50_14)) (cSeqS (cRegS (SR50_15)) (cBlkS 4 (cLoopS (SW50_2))))))))
def T50 : FnT := runG en3_3 (SF50) (resQ qn)
theorem T50_ok : GoodF Tryz.prog ro0 okF 50 (T50) :=
 (good_k (n := 74) acc3 (lv [0, 1, 2, 5, 6, 7, 8, 9, 10, 14, 36, 68]) (rs := []) Tryz.func50 (by kernel_rfl) (by kernel_rfl) (by kernel_rfl) (by kernel_rfl) (by kernel_rfl) (by kernel_rfl) (by kernel_rfl) (by kernel_rfl) (by kernel_rfl)).enter en3_3_ok (by kernel_rfl)

/-- (*circheck/checker.reader).symbols -/
def SR51_0 : RegS 2 := fun c t0 h0 =>
 kBox (g2_1 t0) h0 fun v1 h1 =>
 p2_3 t0 v1 fun t1 =>
 some (.normal, t1, h1)
def SR51_1 : RegS 2 := fun c t0 h0 =>
 kNil (g2_0 t0) h0 fun v2 h2 =>
 kFld 1 v2 h2 fun v3 h3 =>
 kLd v3 h3 fun v4 h4 =>
 kNil (g2_0 t0) h4 fun v6 h6 =>
 kFld 0 v6 h6 fun v7 h7 =>
 kLd v7 h7 fun v8 h8 =>
 kLenStr v8 h8 fun v9 h9 =>
 kLss v4 v9 h9 fun v10 h10 =>
 kIf v10 true (fun k => k (g2_0 t0) h10) h10 fun v12 h12 =>
 kIf v10 true (fun k => kOf (c 47 [v12] h12) k) h12 fun v13 h13 =>
 kIf v10 true (fun k => kNot v13 h13 k) h13 fun v14 h14 =>
 kPick v10 v14 (.bool false) h14 fun v15 h15 =>
 p2_18 t0 v15 fun t1 =>
 some (.normal, t1, h15)
def SR51_2 : RegS 2 := fun c t0 h0 =>
 kOf (c 85 [(g2_0 t0), (.int .i64 99)] h0) fun v2 h2 =>
 p2_20 t0 v2 fun t1 =>
 some (.normal, t1, h2)
def SR51_3 : RegS 2 := fun c t0 h0 =>
 kOf (c 84 [(g2_0 t0), (.int .i64 10)] h0) fun v2 h2 =>
 some (.normal, t0, h2)
def SR51_4 : RegS 2 := fun c t0 h0 =>
 kOf (vLdN 8 (g2_3 t0) h0) fun v2 h2 =>
 kOf (c 95 [(g2_0 t0), v2] h2) fun v3 h3 =>
 some (.normal, t0, h3)
def SW51_0 : CodeS 2 :=
 cSeqS (cSeqS (cRegS (SR51_1)) (cIfS g2_18 (cSkipS) (cExitS 0))) (cBlkS 1 (cSeqS (cSeqS (cRegS (SR51_2)) (cIfS g2_20 (cSeqS (cRegS (SR51_3)) (cRetS)) (cSkipS))) (cRegS (SR51_4))))
def SF51 : CodeS 2 :=
 cSeqS (cRegS (SR51_0)) (cBlkS 0 (cLoopS (SW51_0)))
def T51 : FnT := runG en2_2 (SF51) (resQ qn)
theorem T51_ok : GoodF Tryz.prog ro0 okF 51 (T51) :=
 (good_k (n := 26) acc2 (lv [0, 1, 3, 18, 20]) (rs := []) Tryz.func51 (by kernel_rfl) (by kernel_rfl) (by kernel_rfl) (by kernel_rfl) (by kernel_rfl) (by kernel_rfl) (by kernel_rfl) (by kernel_rfl) (by kernel_rfl)).enter en2_2_ok (by kernel_rfl)

/-- (*circheck/checker.netlist).judgeUses -/
def SR52_0 : RegS 3 := fun c t0 h0 =>
 fShal (.int .i64 0) fun v1 =>
 p3_4 t0 v1 fun t1 =>
 some (.normal, t1, h0)
def SR52_1 : RegS 3 := fun c t0 h0 =>
 kNil (g3_0 t0) h0 fun v3 h3 =>
 kFld 2 v3 h3 fun v4 h4 =>
 kLd v4 h4 fun v5 h5 =>
 kLenSl v5 h5 fun v6 h6 =>
 kLss (g3_4 t0) v6 h6 fun v7 h7 =>
 p3_14 t0 v7 fun t1 =>
 some (.normal, t1, h7)
def SR52_3 : RegS 3 := fun c t0 h0 =>
 kNil (g3_0 t0) h0 fun v4 h4 =>
 kFld 2 v4 h4 fun v5 h5 =>
 kLd v5 h5 fun v6 h6 =>
 kIdx 4 v6 (g3_4 t0) h6 fun v8 h8 =>
 kFld 1 v8 h8 fun v9 h9 =>
 kOf (vLdN 2 v9 h9) fun v10 h10 =>
 kOf (c 96 [(g3_0 t0), (g3_1 t0), v10] h10) fun v11 h11 =>
 some (.normal, t0, h11)
def SR52_2 : RegS 3 := fun c t0 h0 =>
 kAdd (g3_4 t0) (.int .i64 1) h0 fun v2 h2 =>
 fShal v2 fun v3 =>
 p3_4 t0 v3 fun t1 =>
 some (.normal, t1, h2)
def SR52_4 : RegS 3 := fun c t0 h0 =>
 fShal (.int .i64 0) fun v1 =>
 p3_5 t0 v1 fun t1 =>
 some (.normal, t1, h0)
def SR52_5 : RegS 3 := fun c t0 h0 =>
 kNil (g3_0 t0) h0 fun v3 h3 =>
 kFld 3 v3 h3 fun v4 h4 =>
 kLd v4 h4 fun v5 h5 =>
 kLenSl v5 h5 fun v6 h6 =>
 kLss (g3_5 t0) v6 h6 fun v7 h7 =>
 p3_34 t0 v7 fun t1 =>
 some (.normal, t1, h7)
def SR52_7 : RegS 3 := fun c t0 h0 =>
 kNil (g3_0 t0) h0 fun v4 h4 =>
 kFld 3 v4 h4 fun v5 h5 =>
 kLd v5 h5 fun v6 h6 =>
 kIdx 2 v6 (g3_5 t0) h6 fun v8 h8 =>
 kOf (vLdN 2 v8 h8) fun v9 h9 =>
 kOf (c 96 [(g3_0 t0), (g3_1 t0), v9] h9) fun v10 h10 =>
 some (.normal, t0, h10)
def SR52_6 : RegS 3 := fun c t0 h0 =>
 kAdd (g3_5 t0) (.int .i64 1) h0 fun v2 h2 =>
 fShal v2 fun v3 =>
 p3_5 t0 v3 fun t1 =>
 some (.normal, t1, h2)
def SR52_8 : RegS 3 := fun c t0 h0 =>
 fShal (.int .i64 0) fun v1 =>
 p3_6 t0 v1 fun t1 =>
 some (.normal, t1, h0)
def SR52_9 : RegS 3 := fun c t0 h0 =>
 kNil (g3_0 t0) h0 fun v3 h3 =>
 kFld 4 v3 h3 fun v4 h4 =>
 kLd v4 h4 fun v5 h5 =>
 kLenSl v5 h5 fun v6 h6 =>
 kLss (g3_6 t0) v6 h6 fun v7 h7 =>
 p3_53 t0 v7 fun t1 =>
 some (.normal, t1, h7)
def SR52_11 : RegS 3 := fun c t0 h0 =>
 kNil (g3_0 t0) h0 fun v4 h4 =>
 kFld 4 v4 h4 fun v5 h5 =>
 kLd v5 h5 fun v6 h6 =>
 kIdx 2 v6 (g3_6 t0) h6 fun v8 h8 =>
 kOf (vLdN 2 v8 h8) fun v9 h9 =>
 kOf (c 96 [(g3_0 t0), (g3_1 t0), v9] h9) fun v10 h10 =>
 some (.normal, t0, h10)
def SR52_10 : RegS 3 := fun c t0 h0 =>
 kAdd (g3_6 t0) (.int .i64 1) h0 fun v2 h2 =>
 fShal v2 fun v3 =>
 p3_6 t0 v3 fun t1 =>
 some (.normal, t1, h2)
def SR52_12 : RegS 3 := fun c t0 h0 =>
 fShal (.int .i64 0) fun v1 =>
 p3_7 t0 v1 fun t1 =>
 some (.normal, t1, h0)
def SR52_13 : RegS 3 := fun c t0 h0 =>
 kNil (g3_0 t0) h0 fun v3 h3 =>
 kFld 5 v3 h3 fun v4 h4 =>
 kLd v4 h4 fun v5 h5 =>
 kLenSl v5 h5 fun v6 h6 =>
 kLss (g3_7 t0) v6 h6 fun v7 h7 =>
 p3_72 t0 v7 fun t1 =>
 some (.normal, t1, h7)
def SR52_15 : RegS 3 := fun c t0 h0 =>
 kNil (g3_0 t0) h0 fun v4 h4 =>
 kFld 5 v4 h4 fun v5 h5 =>
 kLd v5 h5 fun v6 h6 =>
 kIdx 6 v6 (g3_7 t0) h6 fun v8 h8 =>
 kFld 2 v8 h8 fun v9 h9 =>
 kOf (vLdN 2 v9 h9) fun v10 h10 =>
 kOf (c 96 [(g3_0 t0), (g3_1 t0), v10] h10) fun v11 h11 =>
 some (.normal, t0, h11)
def SR52_16 : RegS 3 := fun c t0 h0 =>
 kNil (g3_0 t0) h0 fun v4 h4 =>
 kFld 5 v4 h4 fun v5 h5 =>
 kLd v5 h5 fun v6 h6 =>
 kIdx 6 v6 (g3_7 t0) h6 fun v8 h8 =>
 kFld 4 v8 h8 fun v9 h9 =>
 kOf (vLdN 2 v9 h9) fun v10 h10 =>
 kOf (c 96 [(g3_0 t0), (g3_1 t0), v10] h10) fun v11 h11 =>
 some (.normal, t0, h11)
def SR52_14 : RegS 3 := fun c t0 h0 =>
 kAdd (g3_7 t0) (.int .i64 1) h0 fun v2 h2 =>
 fShal v2 fun v3 =>
 p3_7 t0 v3 fun t1 =>
 some (.normal, t1, h2)
def SW52_0 : CodeS 3 :=
 cSeqS (cSeqS (cRegS (SR52_1)) (cIfS g3_14 (cSkipS) (cExitS 0))) (cSeqS (cBlkS 1 (cRegS (SR52_3))) (cRegS (SR52_2)))
def SW52_1 : CodeS 3 :=
 cSeqS (cSeqS (cRegS (SR52_5)) (cIfS g3_34 (cSkipS) (cExitS 2))) (cSeqS (cBlkS 3 (cRegS (SR52_7))) (cRegS (SR52_6)))
def SW52_2 : CodeS 3 :=
 cSeqS (cSeqS (cRegS (SR52_9)) (cIfS g3_53 (cSkipS) (cExitS 4))) (cSeqS (cBlkS 5 (cRegS (SR52_11))) (cRegS (SR52_10)))
def SW52_3 : CodeS 3 :=
 cSeqS (cSeqS (cRegS (SR52_13)) (cIfS g3_72 (cSkipS) (cExitS 6))) (cSeqS (cBlkS 7 (cSeqS (cRegS (SR52_15)) (cRegS (SR52_16)))) (cRegS (SR52_14)))
def SF52 : CodeS 3 :=
 cSeqS (cSeqS (cRegS (SR52_0)) (cBlkS 0 (cLoopS (SW52_0)))) (cSeqS (cSeqS (cRegS (SR52_4)) (cBlkS 2 (cLoopS (SW52_1)))) (cSeqS (cSeqS (cRegS (SR52_8)) (cBlkS 4 (cLoopS (SW52_2)))) (cSeqS (cRegS (SR52_12)) (cBlkS 6 (cLoopS (SW52_3))))))
def T52 : FnT := runG en3_2 (SF52) (resQ qn)
theorem T52_ok : GoodF Tryz.prog ro0 okF 52 (T52) :=
 (good_k (n := 97) acc3 (lv [0, 1, 4, 5, 6, 7, 14, 34, 53, 72]) (rs := []) Tryz.func52 (by kernel_rfl) (by kernel_rfl) (by kernel_rfl) (by kernel_rfl) (by kernel_rfl) (by kernel_rfl) (by kernel_rfl) (by kernel_rfl) (by kernel_rfl)).enter en3_2_ok (by kernel_rfl)

/-- circheck/checker.arrange -/
def SR53_0 : RegS 3 := fun c t0 h0 =>
 fShal (.pointer none) fun v1 =>
 p3_2 t0 v1 fun t1 =>
 kNew [.int .i64 0, .int .i64 0] h0 fun v2 h2 =>
 p3_3 t1 v2 fun t2 =>
 some (.normal, t2, h2)
def SR53_1 : RegS 3 := fun c t0 h0 =>
 kOf (c 97 [(g3_0 t0)] h0) fun v2 h2 =>
 fShal v2 fun v3 =>
 p3_4 t0 v3 fun t1 =>
 some (.normal, t1, h2)
def SR53_2 : RegS 3 := fun c t0 h0 =>
 kNil (g3_0 t0) h0 fun v2 h2 =>
 kFld 1 v2 h2 fun v3 h3 =>
 kLd v3 h3 fun v4 h4 =>
 kLenSl v4 h4 fun v5 h5 =>
 kBuild #[.int .i64 0, .slice none 0 0, .slice none 0 0, .int .i64 0] [(0, 1), (1, 1), (2, 1), (3, 1)] [(0, v5)] h5 fun v6 h6 =>
 kBox v6 h6 fun v7 h7 =>
 fShal v7 fun v8 =>
 p3_5 t0 v8 fun t1 =>
 some (.normal, t1, h7)
def SR53_3 : RegS 3 := fun c t0 h0 =>
 fShal (.int .i64 0) fun v1 =>
 p3_6 t0 v1 fun t1 =>
 some (.normal, t1, h0)
def SR53_4 : RegS 3 := fun c t0 h0 =>
 kNil (g3_0 t0) h0 fun v3 h3 =>
 kFld 5 v3 h3 fun v4 h4 =>
 kLd v4 h4 fun v5 h5 =>
 kLenSl v5 h5 fun v6 h6 =>
 kLss (g3_6 t0) v6 h6 fun v7 h7 =>
 p3_26 t0 v7 fun t1 =>
 some (.normal, t1, h7)
def SR53_6 : RegS 3 := fun c t0 h0 =>
 kNil (g3_0 t0) h0 fun v3 h3 =>
 kFld 5 v3 h3 fun v4 h4 =>
 kLd v4 h4 fun v5 h5 =>
 kOf (c 98 [(g3_4 t0), v5] h5) fun v6 h6 =>
 fShal v6 fun v7 =>
 p3_7 t0 v7 fun t1 =>
 some (.normal, t1, h6)
def SR53_7 : RegS 3 := fun c t0 h0 =>
 kEql (g3_7 t0) (.int .i64 (-1)) h0 fun v2 h2 =>
 p3_36 t0 v2 fun t1 =>
 some (.normal, t1, h2)
def SR53_8 : RegS 3 := fun c t0 h0 =>
 kNil (g3_0 t0) h0 fun v3 h3 =>
 kFld 5 v3 h3 fun v4 h4 =>
 kLd v4 h4 fun v5 h5 =>
 kOf (c 99 [(g3_4 t0), v5] h5) fun v6 h6 =>
 kBuild #[.int .i64 0, .int .i64 0] [(0, 1), (1, 1)] [(0, (.int .i64 12)), (1, v6)] h6 fun v7 h7 =>
 fShal (.pointer none) fun v8 =>
 p3_2 t0 v8 fun t1 =>
 kAny (aSt tO ro0 2 (.const (g3_3 t1)) (.const v7)) c h7 fun _ h9 =>
 some (.normal, t1, h9)
def SR53_9 : RegS 3 := fun c t0 h0 =>
 kNil (g3_0 t0) h0 fun v4 h4 =>
 kFld 5 v4 h4 fun v5 h5 =>
 kLd v5 h5 fun v6 h6 =>
 kIdx 6 v6 (g3_7 t0) h6 fun v8 h8 =>
 kOf (vLdN 6 v8 h8) fun v9 h9 =>
 kOf (c 100 [(g3_4 t0), (g3_5 t0), v9] h9) fun v10 h10 =>
 some (.normal, t0, h10)
def SR53_5 : RegS 3 := fun c t0 h0 =>
 kAdd (g3_6 t0) (.int .i64 1) h0 fun v2 h2 =>
 fShal v2 fun v3 =>
 p3_6 t0 v3 fun t1 =>
 some (.normal, t1, h2)
def SR53_10 : RegS 3 := fun c t0 h0 =>
 fShal (.int .i64 0) fun v1 =>
 p3_8 t0 v1 fun t1 =>
 some (.normal, t1, h0)
def SR53_11 : RegS 3 := fun c t0 h0 =>
 kNil (g3_0 t0) h0 fun v3 h3 =>
 kFld 2 v3 h3 fun v4 h4 =>
 kLd v4 h4 fun v5 h5 =>
 kLenSl v5 h5 fun v6 h6 =>
 kLss (g3_8 t0) v6 h6 fun v7 h7 =>
 p3_60 t0 v7 fun t1 =>
 some (.normal, t1, h7)
def SR53_13 : RegS 3 := fun c t0 h0 =>
 kNil (g3_0 t0) h0 fun v3 h3 =>
 kFld 2 v3 h3 fun v4 h4 =>
 kLd v4 h4 fun v5 h5 =>
 kIdx 4 v5 (g3_8 t0) h5 fun v7 h7 =>
 kFld 1 v7 h7 fun v8 h8 =>
 kFld 0 v8 h8 fun v9 h9 =>
 kLd v9 h9 fun v10 h10 =>
 kOf (c 101 [(g3_4 t0), v10] h10) fun v11 h11 =>
 fShal v11 fun v12 =>
 p3_9 t0 v12 fun t1 =>
 some (.normal, t1, h11)
def SR53_14 : RegS 3 := fun c t0 h0 =>
 kNil (g3_5 t0) h0 fun v3 h3 =>
 kFld 1 v3 h3 fun v4 h4 =>
 kLd v4 h4 fun v5 h5 =>
 kNil (g3_0 t0) h5 fun v8 h8 =>
 kFld 2 v8 h8 fun v9 h9 =>
 kLd v9 h9 fun v10 h10 =>
 kIdx 4 v10 (g3_8 t0) h10 fun v12 h12 =>
 kFld 3 v12 h12 fun v13 h13 =>
 kLd v13 h13 fun v14 h14 =>
 kBuild #[.int .i64 0, .int .i64 0] [(0, 1), (1, 1)] [(0, (g3_9 t0)), (1, v14)] h14 fun v15 h15 =>
 kMkSl 2 1 #[.int .i64 0, .int .i64 0] [(0, v15)] h15 fun v16 h16 =>
 kOf (vApp ro0 2 16 v5 v16 h16) fun v17 h17 =>
 kNil (g3_5 t0) h17 fun v18 h18 =>
 kFld 1 v18 h18 fun v19 h19 =>
 kSt ro0 v19 v17 h19 fun _ h20 =>
 some (.normal, t0, h20)
def SR53_12 : RegS 3 := fun c t0 h0 =>
 kAdd (g3_8 t0) (.int .i64 1) h0 fun v2 h2 =>
 fShal v2 fun v3 =>
 p3_8 t0 v3 fun t1 =>
 some (.normal, t1, h2)
def SR53_15 : RegS 3 := fun c t0 h0 =>
 kOf (c 102 [(g3_0 t0)] h0) fun v2 h2 =>
 fShal v2 fun v3 =>
 p3_10 t0 v3 fun t1 =>
 some (.normal, t1, h2)
def SR53_16 : RegS 3 := fun c t0 h0 =>
 kOf (c 101 [(g3_4 t0), (g3_10 t0)] h0) fun v4 h4 =>
 kNil (g3_5 t0) h4 fun v5 h5 =>
 kFld 3 v5 h5 fun v6 h6 =>
 kSt ro0 v6 v4 h6 fun _ h7 =>
 some (.normal, t0, h7)
def SR53_17 : RegS 3 := fun c t0 h0 =>
 kBuild #[.int .i64 0, .int .i64 0] [(0, 1), (1, 1)] [] h0 fun v2 h2 =>
 fShal (g3_5 t0) fun v3 =>
 p3_2 t0 v3 fun t1 =>
 kAny (aSt tO ro0 2 (.const (g3_3 t1)) (.const v2)) c h2 fun _ h4 =>
 some (.normal, t1, h4)
def SW53_0 : CodeS 3 :=
 cSeqS (cSeqS (cRegS (SR53_4)) (cIfS g3_26 (cSkipS) (cExitS 0))) (cSeqS (cBlkS 1 (cSeqS (cRegS (SR53_6)) (cSeqS (cSeqS (cRegS (SR53_7)) (cIfS g3_36 (cSeqS (cRegS (SR53_8)) (cRetS)) (cSkipS))) (cRegS (SR53_9))))) (cRegS (SR53_5)))
def SW53_1 : CodeS 3 :=
 cSeqS (cSeqS (cRegS (SR53_11)) (cIfS g3_60 (cSkipS) (cExitS 2))) (cSeqS (cBlkS 3 (cSeqS (cRegS (SR53_13)) (cRegS (SR53_14)))) (cRegS (SR53_12)))
def SF53 : CodeS 3 :=
 cSeqS (cRegS (SR53_0)) (cSeqS (cRegS (SR53_1)) (cSeqS (cRegS (SR53_2)) (cSeqS (cSeqS (cRegS (SR53_3)) (cBlkS 0 (cLoopS (SW53_0)))) (cSeqS (cSeqS (cRegS (SR53_10)) (cBlkS 2 (cLoopS (SW53_1)))) (cSeqS (cRegS (SR53_15)) (cSeqS (cRegS (SR53_16)) (cSeqS (cRegS (SR53_17)) (cRetS))))))))
def T53 : FnT := runG en3_1 (SF53) (resQ (qc (rT g3_2) (qc (rN 2 g3_3) qn)))
theorem T53_ok : GoodF Tryz.prog ro0 okF 53 (T53) :=
 (good_k (n := 103) acc3 (lv [0, 2, 3, 4, 5, 6, 7, 8, 9, 10, 26, 36, 60]) (rs := [ResultVar.tmp 2, ResultVar.cell 3 37]) Tryz.func53 (by kernel_rfl) (by kernel_rfl) (by kernel_rfl) (by kernel_rfl) (by kernel_rfl) (by kernel_rfl) (by kernel_rfl) (by kernel_rfl) (by kernel_rfl)).enter en3_1_ok (by kernel_rfl)

/-- circheck/checker.newFrame -/
def SR54_0 : RegS 3 := fun c t0 h0 =>
 kNew [.pointer none, .slice none 0 0] h0 fun v1 h1 =>
 p3_2 t0 v1 fun t1 =>
 some (.normal, t1, h1)
def SR54_1 : RegS 3 := fun c t0 h0 =>
 kOf (c 81 [] h0) fun v1 h1 =>
 fShal v1 fun v2 =>
 p3_3 t0 v2 fun t1 =>
 some (.normal, t1, h1)
def SR54_2 : RegS 3 := fun c t0 h0 =>
 fShal (.int .i64 0) fun v1 =>
 p3_4 t0 v1 fun t1 =>
 some (.normal, t1, h0)
def SR54_3 : RegS 3 := fun c t0 h0 =>
 kOf (c 103 [(g3_0 t0)] h0) fun v3 h3 =>
 kLss (g3_4 t0) v3 h3 fun v4 h4 =>
 p3_12 t0 v4 fun t1 =>
 some (.normal, t1, h4)
def SR54_5 : RegS 3 := fun c t0 h0 =>
 kNil (g3_0 t0) h0 fun v4 h4 =>
 kFld 0 v4 h4 fun v5 h5 =>
 kLd v5 h5 fun v6 h6 =>
 kNil (g3_0 t0) h6 fun v8 h8 =>
 kFld 1 v8 h8 fun v9 h9 =>
 kLd v9 h9 fun v10 h10 =>
 kLenSl v10 h10 fun v11 h11 =>
 kAdd v6 v11 h11 fun v12 h12 =>
 kLeq (g3_4 t0) v12 h12 fun v13 h13 =>
 kOf (c 104 [(g3_3 t0), v13] h13) fun v14 h14 =>
 some (.normal, t0, h14)
def SR54_4 : RegS 3 := fun c t0 h0 =>
 kAdd (g3_4 t0) (.int .i64 1) h0 fun v2 h2 =>
 fShal v2 fun v3 =>
 p3_4 t0 v3 fun t1 =>
 some (.normal, t1, h2)
def SR54_6 : RegS 3 := fun c t0 h0 =>
 kMkSl 1 1 #[.int .i64 0] [(0, (.int .i64 1))] h0 fun v2 h2 =>
 kOf (c 105 [(g3_3 t0), v2] h2) fun v3 h3 =>
 some (.normal, t0, h3)
def SR54_7 : RegS 3 := fun c t0 h0 =>
 fShal (.int .i64 0) fun v1 =>
 p3_5 t0 v1 fun t1 =>
 some (.normal, t1, h0)
def SR54_8 : RegS 3 := fun c t0 h0 =>
 kNil (g3_0 t0) h0 fun v3 h3 =>
 kFld 2 v3 h3 fun v4 h4 =>
 kLd v4 h4 fun v5 h5 =>
 kLenSl v5 h5 fun v6 h6 =>
 kLss (g3_5 t0) v6 h6 fun v7 h7 =>
 p3_38 t0 v7 fun t1 =>
 some (.normal, t1, h7)
def SR54_10 : RegS 3 := fun c t0 h0 =>
 kOf (c 106 [(g3_0 t0), (g3_5 t0)] h0) fun v3 h3 =>
 fShal v3 fun v4 =>
 p3_6 t0 v4 fun t1 =>
 some (.normal, t1, h3)
def SR54_11 : RegS 3 := fun c t0 h0 =>
 kNil (g3_0 t0) h0 fun v2 h2 =>
 kFld 2 v2 h2 fun v3 h3 =>
 kLd v3 h3 fun v4 h4 =>
 kIdx 2 v4 (g3_5 t0) h4 fun v6 h6 =>
 kOf (vLdN 2 v6 h6) fun v7 h7 =>
 kNew [.int .i64 0, .int .i64 0] h7 fun v8 h8 =>
 p3_7 t0 v8 fun t1 =>
 kAny (aSt tO ro0 2 (.const v8) (.const v7)) c h8 fun _ h9 =>
 some (.normal, t1, h9)
def SR54_12 : RegS 3 := fun c t0 h0 =>
 kOf (vInt .xor (g3_6 t0) (.int .i64 1) h0) fun v3 h3 =>
 kFld 0 (g3_7 t0) h3 fun v4 h4 =>
 kLd v4 h4 fun v5 h5 =>
 kMkSl 1 2 #[.int .i64 0] [(0, v3), (1, v5)] h5 fun v6 h6 =>
 kOf (c 105 [(g3_3 t0), v6] h6) fun v7 h7 =>
 some (.normal, t0, h7)
def SR54_13 : RegS 3 := fun c t0 h0 =>
 kOf (vInt .xor (g3_6 t0) (.int .i64 1) h0) fun v3 h3 =>
 kFld 1 (g3_7 t0) h3 fun v4 h4 =>
 kLd v4 h4 fun v5 h5 =>
 kMkSl 1 2 #[.int .i64 0] [(0, v3), (1, v5)] h5 fun v6 h6 =>
 kOf (c 105 [(g3_3 t0), v6] h6) fun v7 h7 =>
 some (.normal, t0, h7)
def SR54_14 : RegS 3 := fun c t0 h0 =>
 kFld 0 (g3_7 t0) h0 fun v3 h3 =>
 kLd v3 h3 fun v4 h4 =>
 kOf (vInt .xor v4 (.int .i64 1) h4) fun v5 h5 =>
 kFld 1 (g3_7 t0) h5 fun v6 h6 =>
 kLd v6 h6 fun v7 h7 =>
 kOf (vInt .xor v7 (.int .i64 1) h7) fun v8 h8 =>
 kMkSl 1 3 #[.int .i64 0] [(0, (g3_6 t0)), (1, v5), (2, v8)] h8 fun v9 h9 =>
 kOf (c 105 [(g3_3 t0), v9] h9) fun v10 h10 =>
 some (.normal, t0, h10)
def SR54_9 : RegS 3 := fun c t0 h0 =>
 kAdd (g3_5 t0) (.int .i64 1) h0 fun v2 h2 =>
 fShal v2 fun v3 =>
 p3_5 t0 v3 fun t1 =>
 some (.normal, t1, h2)
def SR54_15 : RegS 3 := fun c t0 h0 =>
 kBuild #[.pointer none, .slice none 0 0] [(0, 1), (1, 1)] [(0, (g3_3 t0))] h0 fun v2 h2 =>
 kAny (aSt tO ro0 2 (.const (g3_2 t0)) (.const v2)) c h2 fun _ h3 =>
 some (.normal, t0, h3)
def SW54_0 : CodeS 3 :=
 cSeqS (cSeqS (cRegS (SR54_3)) (cIfS g3_12 (cSkipS) (cExitS 0))) (cSeqS (cBlkS 1 (cRegS (SR54_5))) (cRegS (SR54_4)))
def SW54_1 : CodeS 3 :=
 cSeqS (cSeqS (cRegS (SR54_8)) (cIfS g3_38 (cSkipS) (cExitS 2))) (cSeqS (cBlkS 3 (cSeqS (cRegS (SR54_10)) (cSeqS (cRegS (SR54_11)) (cSeqS (cRegS (SR54_12)) (cSeqS (cRegS (SR54_13)) (cRegS (SR54_14))))))) (cRegS (SR54_9)))
def SF54 : CodeS 3 :=
 cSeqS (cRegS (SR54_0)) (cSeqS (cRegS (SR54_1)) (cSeqS (cSeqS (cRegS (SR54_2)) (cBlkS 0 (cLoopS (SW54_0)))) (cSeqS (cRegS (SR54_6)) (cSeqS (cSeqS (cRegS (SR54_7)) (cBlkS 2 (cLoopS (SW54_1)))) (cSeqS (cRegS (SR54_15)) (cRetS))))))
def T54 : FnT := runG en3_1 (SF54) (resQ (qc (rN 2 g3_2) qn))
theorem T54_ok : GoodF Tryz.prog ro0 okF 54 (T54) :=
 (good_k (n := 77) acc3 (lv [0, 2, 3, 4, 5, 6, 7, 12, 38]) (rs := [ResultVar.cell 2 92]) Tryz.func54 (by kernel_rfl) (by kernel_rfl) (by kernel_rfl) (by kernel_rfl) (by kernel_rfl) (by kernel_rfl) (by kernel_rfl) (by kernel_rfl) (by kernel_rfl)).enter en3_1_ok (by kernel_rfl)

/-- (*circheck/checker.frame).addResets -/
def SR55_0 : RegS 2 := fun c t0 h0 =>
 fShal (.int .i64 0) fun v1 =>
 p2_4 t0 v1 fun t1 =>
 some (.normal, t1, h0)
def SR55_1 : RegS 2 := fun c t0 h0 =>
 kNil (g2_1 t0) h0 fun v3 h3 =>
 kFld 1 v3 h3 fun v4 h4 =>
 kLd v4 h4 fun v5 h5 =>
 kLenSl v5 h5 fun v6 h6 =>
 kLss (g2_4 t0) v6 h6 fun v7 h7 =>
 p2_12 t0 v7 fun t1 =>
 some (.normal, t1, h7)
def SR55_3 : RegS 2 := fun c t0 h0 =>
 kOf (c 107 [(g2_1 t0), (g2_4 t0)] h0) fun v3 h3 =>
 fShal v3 fun v4 =>
 p2_5 t0 v4 fun t1 =>
 some (.normal, t1, h3)
def SR55_4 : RegS 2 := fun c t0 h0 =>
 kNil (g2_1 t0) h0 fun v2 h2 =>
 kFld 1 v2 h2 fun v3 h3 =>
 kLd v3 h3 fun v4 h4 =>
 kIdx 2 v4 (g2_4 t0) h4 fun v6 h6 =>
 kFld 1 v6 h6 fun v7 h7 =>
 kLd v7 h7 fun v8 h8 =>
 p2_25 t0 v8 fun t1 =>
 some (.normal, t1, h8)
def SR55_5 : RegS 2 := fun c t0 h0 =>
 kEql (g2_25 t0) (.int .i64 0) h0 fun v1 h1 =>
 fShal v1 fun v2 =>
 p2_26 t0 v2 fun t1 =>
 some (.normal, t1, h1)
def SR55_6 : RegS 2 := fun c t0 h0 =>
 kNil (g2_0 t0) h0 fun v2 h2 =>
 kFld 0 v2 h2 fun v3 h3 =>
 kLd v3 h3 fun v4 h4 =>
 kOf (vInt .xor (g2_5 t0) (.int .i64 1) h4) fun v6 h6 =>
 kMkSl 1 1 #[.int .i64 0] [(0, v6)] h6 fun v7 h7 =>
 kOf (c 105 [v4, v7] h7) fun v8 h8 =>
 some (.normal, t0, h8)
def SR55_7 : RegS 2 := fun c t0 h0 =>
 kEql (g2_25 t0) (.int .i64 1) h0 fun v1 h1 =>
 fShal v1 fun v2 =>
 p2_36 t0 v2 fun t1 =>
 some (.normal, t1, h1)
def SR55_8 : RegS 2 := fun c t0 h0 =>
 kNil (g2_0 t0) h0 fun v2 h2 =>
 kFld 0 v2 h2 fun v3 h3 =>
 kLd v3 h3 fun v4 h4 =>
 kMkSl 1 1 #[.int .i64 0] [(0, (g2_5 t0))] h4 fun v6 h6 =>
 kOf (c 105 [v4, v6] h6) fun v7 h7 =>
 some (.normal, t0, h7)
def SR55_2 : RegS 2 := fun c t0 h0 =>
 kAdd (g2_4 t0) (.int .i64 1) h0 fun v2 h2 =>
 fShal v2 fun v3 =>
 p2_4 t0 v3 fun t1 =>
 some (.normal, t1, h2)
def SW55_0 : CodeS 2 :=
 cSeqS (cSeqS (cRegS (SR55_1)) (cIfS g2_12 (cSkipS) (cExitS 0))) (cSeqS (cBlkS 1 (cSeqS (cRegS (SR55_3)) (cSeqS (cRegS (SR55_4)) (cBlkS 2 (cSeqS (cRegS (SR55_5)) (cIfS g2_26 (cRegS (SR55_6)) (cSeqS (cRegS (SR55_7)) (cIfS g2_36 (cRegS (SR55_8)) (cSkipS))))))))) (cRegS (SR55_2)))
def SF55 : CodeS 2 :=
 cSeqS (cRegS (SR55_0)) (cBlkS 0 (cLoopS (SW55_0)))
def T55 : FnT := runG en2_2 (SF55) (resQ qn)
theorem T55_ok : GoodF Tryz.prog ro0 okF 55 (T55) :=
 (good_k (n := 45) acc2 (lv [0, 1, 4, 5, 12, 25, 26, 36]) (rs := []) Tryz.func55 (by kernel_rfl) (by kernel_rfl) (by kernel_rfl) (by kernel_rfl) (by kernel_rfl) (by kernel_rfl) (by kernel_rfl) (by kernel_rfl) (by kernel_rfl)).enter en2_2_ok (by kernel_rfl)

/-- (*circheck/checker.run).clearNewest -/
def SR56_0 : RegS 2 := fun c t0 h0 =>
 fShal (.int .i64 0) fun v1 =>
 p2_2 t0 v1 fun t1 =>
 some (.normal, t1, h0)
def SR56_1 : RegS 2 := fun c t0 h0 =>
 kNil (g2_0 t0) h0 fun v2 h2 =>
 kFld 3 v2 h2 fun v3 h3 =>
 kLd v3 h3 fun v4 h4 =>
 kLenSl v4 h4 fun v5 h5 =>
 kSub v5 (.int .i64 1) h5 fun v6 h6 =>
 fShal v6 fun v7 =>
 p2_3 t0 v7 fun t1 =>
 some (.normal, t1, h6)
def SR56_2 : RegS 2 := fun c t0 h0 =>
 kNil (g2_0 t0) h0 fun v4 h4 =>
 kFld 0 v4 h4 fun v5 h5 =>
 kLd v5 h5 fun v6 h6 =>
 kNil v6 h6 fun v7 h7 =>
 kFld 3 v7 h7 fun v8 h8 =>
 kLd v8 h8 fun v9 h9 =>
 kMkSl 1 1 #[.int .i64 0] [(0, v9)] h9 fun v10 h10 =>
 kOf (c 108 [(g2_0 t0), (g2_3 t0), v10] h10) fun v11 h11 =>
 fShal v11 fun v12 =>
 p2_4 t0 v12 fun t1 =>
 some (.normal, t1, h11)
def SR56_3 : RegS 2 := fun c t0 h0 =>
 fShal (g2_4 t0) fun v1 =>
 p2_23 t0 v1 fun t1 =>
 some (.normal, t1, h0)
def SR56_4 : RegS 2 := fun c t0 h0 =>
 kEql (g2_23 t0) (.int .i64 3) h0 fun v1 h1 =>
 fShal v1 fun v2 =>
 p2_24 t0 v2 fun t1 =>
 some (.normal, t1, h1)
def SR56_5 : RegS 2 := fun c t0 h0 =>
 fShal (.int .i64 3) fun v1 =>
 p2_2 t0 v1 fun t1 =>
 some (.normal, t1, h0)
def SR56_6 : RegS 2 := fun c t0 h0 =>
 kEql (g2_23 t0) (.int .i64 2) h0 fun v1 h1 =>
 fShal v1 fun v2 =>
 p2_26 t0 v2 fun t1 =>
 some (.normal, t1, h1)
def SR56_7 : RegS 2 := fun c t0 h0 =>
 fShal (.int .i64 0) fun v1 =>
 p2_2 t0 v1 fun t1 =>
 some (.normal, t1, h0)
def SR56_8 : RegS 2 := fun c t0 h0 =>
 kOf (c 109 [(g2_0 t0), (g2_3 t0)] h0) fun v3 h3 =>
 some (.normal, t0, h3)
def SR56_9 : RegS 2 := fun c t0 h0 =>
 kOf (c 110 [(g2_0 t0)] h0) fun v2 h2 =>
 fShal v2 fun v3 =>
 p2_5 t0 v3 fun t1 =>
 some (.normal, t1, h2)
def SR56_10 : RegS 2 := fun c t0 h0 =>
 kNeq (g2_5 t0) (.int .i64 0) h0 fun v2 h2 =>
 p2_34 t0 v2 fun t1 =>
 some (.normal, t1, h2)
def SR56_11 : RegS 2 := fun c t0 h0 =>
 fShal (g2_5 t0) fun v2 =>
 p2_2 t0 v2 fun t1 =>
 some (.normal, t1, h0)
def SW56_0 : CodeS 2 :=
 cBlkS 1 (cSeqS (cRegS (SR56_2)) (cSeqS (cSeqS (cRegS (SR56_3)) (cBlkS 2 (cSeqS (cRegS (SR56_4)) (cIfS g2_24 (cSeqS (cRegS (SR56_5)) (cRetS)) (cSeqS (cRegS (SR56_6)) (cIfS g2_26 (cSeqS (cRegS (SR56_7)) (cRetS)) (cSkipS))))))) (cSeqS (cRegS (SR56_8)) (cSeqS (cRegS (SR56_9)) (cSeqS (cRegS (SR56_10)) (cIfS g2_34 (cSeqS (cRegS (SR56_11)) (cRetS)) (cSkipS)))))))
def SF56 : CodeS 2 :=
 cSeqS (cRegS (SR56_0)) (cSeqS (cRegS (SR56_1)) (cBlkS 0 (cLoopS (SW56_0))))
def T56 : FnT := runG en2_1 (SF56) (resQ (qc (rT g2_2) qn))
theorem T56_ok : GoodF Tryz.prog ro0 okF 56 (T56) :=
 (good_k (n := 36) acc2 (lv [0, 2, 3, 4, 5, 23, 24, 26, 34]) (rs := [ResultVar.tmp 2]) Tryz.func56 (by kernel_rfl) (by kernel_rfl) (by kernel_rfl) (by kernel_rfl) (by kernel_rfl) (by kernel_rfl) (by kernel_rfl) (by kernel_rfl) (by kernel_rfl)).enter en2_1_ok (by kernel_rfl)
end Go.Proofs.YtimdkminagnhgaaGreatDoor
