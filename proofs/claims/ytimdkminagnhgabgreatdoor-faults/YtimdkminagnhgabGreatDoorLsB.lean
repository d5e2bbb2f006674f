/-
  The program itself for the kernel, function by function. Printed by program; the kernel checks each. Own work.
-/
import Derived.Test.YtimdkminagnhgabGreatDoorLsA
namespace Go.Proofs.YtimdkminagnhgabGreatDoor
open Go.Vm Go.Proofs
set_option linter.unusedVariables false
set_option maxRecDepth 100000

/-- circheck/circhecksays.Always -/
def SR3_0 : RegS 1 := fun c t0 h0 =>
 fShal (.bool false) fun v1 =>
 p1_6 t0 v1 fun t1 =>
 some (.normal, t1, h0)
def SR3_1 : RegS 1 := fun c t0 h0 =>
 kOf (c 9 [] h0) fun v1 h1 =>
 fShal v1 fun v2 =>
 p1_6 t0 v2 fun t1 =>
 some (.normal, t1, h1)
def SF3 : CodeS 1 :=
 cSeqS (cRegS (SR3_0)) (cSeqS (cRegS (SR3_1)) (cRetS))
def T3 : FnT := runG en1_3 (SF3) (resQ (qc (rT g1_6) qn))
theorem T3_ok : GoodF Tryz.prog ro0 okF 3 (T3) :=
 (good_k (n := 8) acc1 (lv [6]) (rs := [ResultVar.tmp 6]) Tryz.func3 (by kernel_rfl) (by kernel_rfl) (by kernel_rfl) (by kernel_rfl) (by kernel_rfl) (by kernel_rfl) (by kernel_rfl) (by kernel_rfl) (by kernel_rfl)).enter en1_3_ok (by kernel_rfl)

/-- circheck/circhecksays.Idle -/
def SR4_0 : RegS 2 := fun c t0 h0 =>
 fShal (.bool false) fun v1 =>
 p2_6 t0 v1 fun t1 =>
 some (.normal, t1, h0)
def SR4_1 : RegS 2 := fun c t0 h0 =>
 kOf (c 10 [(g2_0 t0), (g2_1 t0), (g2_2 t0)] h0) fun v4 h4 =>
 fShal v4 fun v5 =>
 p2_6 t0 v5 fun t1 =>
 some (.normal, t1, h4)
def SF4 : CodeS 2 :=
 cSeqS (cRegS (SR4_0)) (cSeqS (cRegS (SR4_1)) (cRetS))
def T4 : FnT := runG en2_3 (SF4) (resQ (qc (rT g2_6) qn))
theorem T4_ok : GoodF Tryz.prog ro0 okF 4 (T4) :=
 (good_k (n := 11) acc2 (lv [0, 1, 2, 6]) (rs := [ResultVar.tmp 6]) Tryz.func4 (by kernel_rfl) (by kernel_rfl) (by kernel_rfl) (by kernel_rfl) (by kernel_rfl) (by kernel_rfl) (by kernel_rfl) (by kernel_rfl) (by kernel_rfl)).enter en2_3_ok (by kernel_rfl)

/-- circheck/circhecksays.Wide -/
def SR5_0 : RegS 2 := fun c t0 h0 =>
 fShal (.bool false) fun v1 =>
 p2_6 t0 v1 fun t1 =>
 some (.normal, t1, h0)
def SR5_1 : RegS 2 := fun c t0 h0 =>
 kOf (c 11 [(g2_0 t0), (g2_1 t0)] h0) fun v3 h3 =>
 fShal v3 fun v4 =>
 p2_6 t0 v4 fun t1 =>
 some (.normal, t1, h3)
def SF5 : CodeS 2 :=
 cSeqS (cRegS (SR5_0)) (cSeqS (cRegS (SR5_1)) (cRetS))
def T5 : FnT := runG en2_3 (SF5) (resQ (qc (rT g2_6) qn))
theorem T5_ok : GoodF Tryz.prog ro0 okF 5 (T5) :=
 (good_k (n := 10) acc2 (lv [0, 1, 6]) (rs := [ResultVar.tmp 6]) Tryz.func5 (by kernel_rfl) (by kernel_rfl) (by kernel_rfl) (by kernel_rfl) (by kernel_rfl) (by kernel_rfl) (by kernel_rfl) (by kernel_rfl) (by kernel_rfl)).enter en2_3_ok (by kernel_rfl)

/-- circheck/circhecksays.Faults -/
def SR6_0 : RegS 2 := fun c t0 h0 =>
 fShal (.bool false) fun v1 =>
 p2_6 t0 v1 fun t1 =>
 some (.normal, t1, h0)
def SR6_1 : RegS 2 := fun c t0 h0 =>
 kOf (c 12 [(g2_0 t0)] h0) fun v2 h2 =>
 fShal v2 fun v3 =>
 p2_6 t0 v3 fun t1 =>
 some (.normal, t1, h2)
def SF6 : CodeS 2 :=
 cSeqS (cRegS (SR6_0)) (cSeqS (cRegS (SR6_1)) (cRetS))
def T6 : FnT := runG en2_3 (SF6) (resQ (qc (rT g2_6) qn))
theorem T6_ok : GoodF Tryz.prog ro0 okF 6 (T6) :=
 (good_k (n := 9) acc2 (lv [0, 6]) (rs := [ResultVar.tmp 6]) Tryz.func6 (by kernel_rfl) (by kernel_rfl) (by kernel_rfl) (by kernel_rfl) (by kernel_rfl) (by kernel_rfl) (by kernel_rfl) (by kernel_rfl) (by kernel_rfl)).enter en2_3_ok (by kernel_rfl)

/-- circheck/circhecksays.constant -/
def SR9_0 : RegS 3 := fun c t0 h0 =>
 fShal (.bool false) fun v1 =>
 p3_0 t0 v1 fun t1 =>
 some (.normal, t1, h0)
def SR9_1 : RegS 3 := fun c t0 h0 =>
 kOf (c 16 [(.int .i64 2), (.int .i64 1)] h0) fun v1 h1 =>
 fShal v1 fun v2 =>
 p3_1 t0 v2 fun t1 =>
 some (.normal, t1, h1)
def SR9_2 : RegS 3 := fun c t0 h0 =>
 kOf (c 17 [(g3_1 t0)] h0) fun v2 h2 =>
 fShal v2 fun v3 =>
 p3_2 t0 v3 fun t1 =>
 some (.normal, t1, h2)
def SR9_3 : RegS 3 := fun c t0 h0 =>
 kOf (c 18 [(g3_2 t0)] h0) fun v2 h2 =>
 fShal v2 fun v3 =>
 p3_3 t0 v3 fun t1 =>
 some (.normal, t1, h2)
def SR9_4 : RegS 3 := fun c t0 h0 =>
 kNot (g3_3 t0) h0 fun v2 h2 =>
 p3_15 t0 v2 fun t1 =>
 some (.normal, t1, h2)
def SR9_5 : RegS 3 := fun c t0 h0 =>
 fShal (.bool false) fun v1 =>
 p3_0 t0 v1 fun t1 =>
 some (.normal, t1, h0)
def SR9_6 : RegS 3 := fun c t0 h0 =>
 kNil (g3_1 t0) h0 fun v2 h2 =>
 kFld 5 v2 h2 fun v3 h3 =>
 kSt ro0 v3 (.int .i64 1) h3 fun _ h4 =>
 some (.normal, t0, h4)
def SR9_7 : RegS 3 := fun c t0 h0 =>
 kOf (c 17 [(g3_1 t0)] h0) fun v2 h2 =>
 fShal v2 fun v3 =>
 p3_2 t0 v3 fun t1 =>
 some (.normal, t1, h2)
def SR9_8 : RegS 3 := fun c t0 h0 =>
 kOf (c 19 [(g3_2 t0)] h0) fun v2 h2 =>
 kExt 0 v2 h2 fun v4 h4 =>
 kExt 1 v2 h4 fun v5 h5 =>
 kExt 2 v2 h5 fun v6 h6 =>
 fShal v4 fun v7 =>
 p3_4 t0 v7 fun t1 =>
 fShal v6 fun v9 =>
 p3_6 t1 v9 fun t2 =>
 some (.normal, t2, h6)
def SR9_9 : RegS 3 := fun c t0 h0 =>
 kNot (g3_6 t0) h0 fun v2 h2 =>
 kIf v2 false (fun k => k (g3_4 t0) h2) h2 fun v4 h4 =>
 kIf v2 false (fun k => kLenSl v4 h4 k) h4 fun v5 h5 =>
 kIf v2 false (fun k => kEql v5 (.int .i64 0) h5 k) h5 fun v6 h6 =>
 kPick v2 (.bool true) v6 h6 fun v7 h7 =>
 p3_33 t0 v7 fun t1 =>
 some (.normal, t1, h7)
def SR9_10 : RegS 3 := fun c t0 h0 =>
 fShal (.bool false) fun v1 =>
 p3_0 t0 v1 fun t1 =>
 some (.normal, t1, h0)
def SR9_11 : RegS 3 := fun c t0 h0 =>
 kOf (c 20 [(g3_1 t0), (.int .i64 1)] h0) fun v3 h3 =>
 kNil (g3_1 t0) h3 fun v4 h4 =>
 kFld 5 v4 h4 fun v5 h5 =>
 kSt ro0 v5 v3 h5 fun _ h6 =>
 some (.normal, t0, h6)
def SR9_12 : RegS 3 := fun c t0 h0 =>
 kOf (c 17 [(g3_1 t0)] h0) fun v2 h2 =>
 fShal v2 fun v3 =>
 p3_2 t0 v3 fun t1 =>
 some (.normal, t1, h2)
def SR9_13 : RegS 3 := fun c t0 h0 =>
 kOf (c 19 [(g3_2 t0)] h0) fun v2 h2 =>
 kExt 0 v2 h2 fun v4 h4 =>
 kExt 1 v2 h4 fun v5 h5 =>
 kExt 2 v2 h5 fun v6 h6 =>
 fShal v4 fun v7 =>
 p3_4 t0 v7 fun t1 =>
 fShal v6 fun v8 =>
 p3_6 t1 v8 fun t2 =>
 some (.normal, t2, h6)
def SR9_14 : RegS 3 := fun c t0 h0 =>
 kNot (g3_6 t0) h0 fun v2 h2 =>
 kIf v2 false (fun k => k (g3_4 t0) h2) h2 fun v4 h4 =>
 kIf v2 false (fun k => kLenSl v4 h4 k) h4 fun v5 h5 =>
 kIf v2 false (fun k => kEql v5 (.int .i64 0) h5 k) h5 fun v6 h6 =>
 kPick v2 (.bool true) v6 h6 fun v7 h7 =>
 kIf v7 false (fun k => k (g3_4 t0) h7) h7 fun v9 h9 =>
 kIf v7 false (fun k => k (g3_4 t0) h9) h9 fun v10 h10 =>
 kIf v7 false (fun k => kLenSl v10 h10 k) h10 fun v11 h11 =>
 kIf v7 false (fun k => kSub v11 (.int .i64 1) h11 k) h11 fun v12 h12 =>
 kIf v7 false (fun k => kIdx 1 v9 v12 h12 k) h12 fun v13 h13 =>
 kIf v7 false (fun k => kLd v13 h13 k) h13 fun v14 h14 =>
 kIf v7 false (fun k => kAny (aShift .shr (.const v14) (.const (.int .u64 1))) c h14 k) h14 fun v15 h15 =>
 kIf v7 false (fun k => kOf (vInt .and v15 (.int .i64 1) h15) k) h15 fun v16 h16 =>
 kIf v7 false (fun k => kNeq v16 (.int .i64 1) h16 k) h16 fun v17 h17 =>
 kPick v7 (.bool true) v17 h17 fun v18 h18 =>
 p3_64 t0 v18 fun t1 =>
 some (.normal, t1, h18)
def SR9_15 : RegS 3 := fun c t0 h0 =>
 fShal (.bool false) fun v1 =>
 p3_0 t0 v1 fun t1 =>
 some (.normal, t1, h0)
def SR9_16 : RegS 3 := fun c t0 h0 =>
 kOf (c 20 [(g3_1 t0), (.int .i64 0)] h0) fun v2 h2 =>
 fShal v2 fun v3 =>
 p3_7 t0 v3 fun t1 =>
 some (.normal, t1, h2)
def SR9_17 : RegS 3 := fun c t0 h0 =>
 kOf (vInt .xor (g3_7 t0) (.int .i64 1) h0) fun v4 h4 =>
 kOf (c 21 [(g3_1 t0), (g3_7 t0), v4] h4) fun v5 h5 =>
 fShal v5 fun v6 =>
 p3_8 t0 v6 fun t1 =>
 some (.normal, t1, h5)
def SR9_18 : RegS 3 := fun c t0 h0 =>
 kNil (g3_1 t0) h0 fun v3 h3 =>
 kFld 5 v3 h3 fun v4 h4 =>
 kSt ro0 v4 (g3_8 t0) h4 fun _ h5 =>
 some (.normal, t0, h5)
def SR9_19 : RegS 3 := fun c t0 h0 =>
 kOf (c 17 [(g3_1 t0)] h0) fun v2 h2 =>
 fShal v2 fun v3 =>
 p3_2 t0 v3 fun t1 =>
 some (.normal, t1, h2)
def SR9_20 : RegS 3 := fun c t0 h0 =>
 kOf (c 18 [(g3_2 t0)] h0) fun v2 h2 =>
 fShal v2 fun v3 =>
 p3_3 t0 v3 fun t1 =>
 some (.normal, t1, h2)
def SR9_21 : RegS 3 := fun c t0 h0 =>
 kNot (g3_3 t0) h0 fun v2 h2 =>
 p3_81 t0 v2 fun t1 =>
 some (.normal, t1, h2)
def SR9_22 : RegS 3 := fun c t0 h0 =>
 fShal (.bool false) fun v1 =>
 p3_0 t0 v1 fun t1 =>
 some (.normal, t1, h0)
def SR9_23 : RegS 3 := fun c t0 h0 =>
 kOf (c 18 [(.string { data := #[97, 97, 103, 32, 48, 32, 48, 32, 48, 32, 49, 32, 48, 10, 48, 10] })] h0) fun v1 h1 =>
 fShal v1 fun v2 =>
 p3_3 t0 v2 fun t1 =>
 some (.normal, t1, h1)
def SR9_24 : RegS 3 := fun c t0 h0 =>
 kNot (g3_3 t0) h0 fun v2 h2 =>
 p3_84 t0 v2 fun t1 =>
 some (.normal, t1, h2)
def SR9_25 : RegS 3 := fun c t0 h0 =>
 fShal (.bool false) fun v1 =>
 p3_0 t0 v1 fun t1 =>
 some (.normal, t1, h0)
def SR9_26 : RegS 3 := fun c t0 h0 =>
 kOf (c 19 [(.string { data := #[97, 97, 103, 32, 48, 32, 48, 32, 48, 32, 49, 32, 48, 10, 49, 10] })] h0) fun v1 h1 =>
 kExt 0 v1 h1 fun v3 h3 =>
 kExt 1 v1 h3 fun v4 h4 =>
 kExt 2 v1 h4 fun v5 h5 =>
 fShal v5 fun v6 =>
 p3_6 t0 v6 fun t1 =>
 some (.normal, t1, h5)
def SR9_27 : RegS 3 := fun c t0 h0 =>
 kNot (g3_6 t0) h0 fun v2 h2 =>
 p3_91 t0 v2 fun t1 =>
 some (.normal, t1, h2)
def SR9_28 : RegS 3 := fun c t0 h0 =>
 fShal (.bool false) fun v1 =>
 p3_0 t0 v1 fun t1 =>
 some (.normal, t1, h0)
def SR9_29 : RegS 3 := fun c t0 h0 =>
 kOf (c 18 [(.string { data := #[97, 97, 103, 32, 48, 32, 48, 32, 48, 32, 49, 32, 48, 32, 49, 10, 49, 10, 48, 10] })] h0) fun v1 h1 =>
 fShal v1 fun v2 =>
 p3_3 t0 v2 fun t1 =>
 some (.normal, t1, h1)
def SR9_30 : RegS 3 := fun c t0 h0 =>
 kOf (c 19 [(.string { data := #[97, 105, 103, 32, 48, 32, 48, 32, 48, 32, 49, 32, 48, 32, 49, 10, 48, 10, 49, 10] })] h0) fun v1 h1 =>
 kExt 0 v1 h1 fun v3 h3 =>
 kExt 1 v1 h3 fun v4 h4 =>
 kExt 2 v1 h4 fun v5 h5 =>
 fShal v5 fun v6 =>
 p3_6 t0 v6 fun t1 =>
 some (.normal, t1, h5)
def SR9_31 : RegS 3 := fun c t0 h0 =>
 kIf (g3_3 t0) true (fun k => k (g3_6 t0) h0) h0 fun v3 h3 =>
 kPick (g3_3 t0) v3 (.bool false) h3 fun v4 h4 =>
 fShal v4 fun v5 =>
 p3_0 t0 v5 fun t1 =>
 some (.normal, t1, h4)
def SF9 : CodeS 3 :=
 cSeqS (cRegS (SR9_0)) (cSeqS (cRegS (SR9_1)) (cSeqS (cRegS (SR9_2)) (cSeqS (cRegS (SR9_3)) (cSeqS (cSeqS (cRegS (SR9_4)) (cIfS g3_15 (cSeqS (cRegS (SR9_5)) (cRetS)) (cSkipS))) (cSeqS (cRegS (SR9_6)) (cSeqS (cRegS (SR9_7)) (cSeqS (cRegS (SR9_8)) (cSeqS (cSeqS (cRegS (SR9_9)) (cIfS g3_33 (cSeqS (cRegS (SR9_10)) (cRetS)) (cSkipS))) (cSeqS (cRegS (SR9_11)) (cSeqS (cRegS (SR9_12)) (cSeqS (cRegS (SR9_13)) (cSeqS (cSeqS (cRegS (SR9_14)) (cIfS g3_64 (cSeqS (cRegS (SR9_15)) (cRetS)) (cSkipS))) (cSeqS (cRegS (SR9_16)) (cSeqS (cRegS (SR9_17)) (cSeqS (cRegS (SR9_18)) (cSeqS (cRegS (SR9_19)) (cSeqS (cRegS (SR9_20)) (cSeqS (cSeqS (cRegS (SR9_21)) (cIfS g3_81 (cSeqS (cRegS (SR9_22)) (cRetS)) (cSkipS))) (cSeqS (cRegS (SR9_23)) (cSeqS (cSeqS (cRegS (SR9_24)) (cIfS g3_84 (cSeqS (cRegS (SR9_25)) (cRetS)) (cSkipS))) (cSeqS (cRegS (SR9_26)) (cSeqS (cSeqS (cRegS (SR9_27)) (cIfS g3_91 (cSeqS (cRegS (SR9_28)) (cRetS)) (cSkipS))) (cSeqS (cRegS (SR9_29)) (cSeqS (cRegS (SR9_30)) (cSeqS (cRegS (SR9_31)) (cRetS))))))))))))))))))))))))))
def T9 : FnT := runG en3_0 (SF9) (resQ (qc (rT g3_0) qn))
theorem T9_ok : GoodF Tryz.prog ro0 okF 9 (T9) :=
 (good_k (n := 102) acc3 (lv [0, 1, 2, 3, 4, 6, 7, 8, 15, 33, 64, 81, 84, 91]) (rs := [ResultVar.tmp 0]) Tryz.func9 (by kernel_rfl) (by kernel_rfl) (by kernel_rfl) (by kernel_rfl) (by kernel_rfl) (by kernel_rfl) (by kernel_rfl) (by kernel_rfl) (by kernel_rfl)).enter en3_0_ok (by kernel_rfl)

/-- circheck/circhecksays.idle -/
def SR10_0 : RegS 3 := fun c t0 h0 =>
 fShal (.bool false) fun v1 =>
 p3_6 t0 v1 fun t1 =>
 some (.normal, t1, h0)
def SR10_1 : RegS 3 := fun c t0 h0 =>
 kOf (c 22 [(g3_0 t0), (.int .i64 5)] h0) fun v2 h2 =>
 fShal v2 fun v3 =>
 p3_7 t0 v3 fun t1 =>
 some (.normal, t1, h2)
def SR10_2 : RegS 3 := fun c t0 h0 =>
 kOf (c 22 [(g3_1 t0), (.int .i64 4)] h0) fun v2 h2 =>
 kAdd (.int .i64 1) v2 h2 fun v3 h3 =>
 fShal v3 fun v4 =>
 p3_8 t0 v4 fun t1 =>
 some (.normal, t1, h3)
def SR10_3 : RegS 3 := fun c t0 h0 =>
 kAdd (.int .i64 2) (g3_7 t0) h0 fun v3 h3 =>
 kOf (c 16 [(g3_8 t0), v3] h3) fun v4 h4 =>
 fShal v4 fun v5 =>
 p3_9 t0 v5 fun t1 =>
 some (.normal, t1, h4)
def SR10_4 : RegS 3 := fun c t0 h0 =>
 kSub (g3_8 t0) (.int .i64 1) h0 fun v3 h3 =>
 kOf (c 20 [(g3_9 t0), v3] h3) fun v4 h4 =>
 fShal v4 fun v5 =>
 p3_10 t0 v5 fun t1 =>
 some (.normal, t1, h4)
def SR10_5 : RegS 3 := fun c t0 h0 =>
 kOf (c 23 [(g3_9 t0), (.int .i64 0)] h0) fun v2 h2 =>
 fShal v2 fun v3 =>
 p3_11 t0 v3 fun t1 =>
 some (.normal, t1, h2)
def SR10_6 : RegS 3 := fun c t0 h0 =>
 kNil (g3_9 t0) h0 fun v2 h2 =>
 kFld 3 v2 h2 fun v3 h3 =>
 kLd v3 h3 fun v4 h4 =>
 kIdx 1 v4 (.int .i64 0) h4 fun v6 h6 =>
 kSt ro0 v6 (g3_10 t0) h6 fun _ h7 =>
 some (.normal, t0, h7)
def SR10_7 : RegS 3 := fun c t0 h0 =>
 kNil (g3_9 t0) h0 fun v2 h2 =>
 kFld 3 v2 h2 fun v3 h3 =>
 kLd v3 h3 fun v4 h4 =>
 kIdx 1 v4 (.int .i64 1) h4 fun v6 h6 =>
 kSt ro0 v6 (g3_11 t0) h6 fun _ h7 =>
 some (.normal, t0, h7)
def SR10_8 : RegS 3 := fun c t0 h0 =>
 fShal (.int .i64 0) fun v1 =>
 p3_12 t0 v1 fun t1 =>
 some (.normal, t1, h0)
def SR10_9 : RegS 3 := fun c t0 h0 =>
 kLss (g3_12 t0) (g3_7 t0) h0 fun v3 h3 =>
 p3_49 t0 v3 fun t1 =>
 some (.normal, t1, h3)
def SR10_11 : RegS 3 := fun c t0 h0 =>
 kAdd (.int .i64 2) (g3_12 t0) h0 fun v3 h3 =>
 kOf (c 23 [(g3_9 t0), v3] h3) fun v4 h4 =>
 fShal v4 fun v5 =>
 p3_13 t0 v5 fun t1 =>
 some (.normal, t1, h4)
def SR10_12 : RegS 3 := fun c t0 h0 =>
 kNil (g3_9 t0) h0 fun v2 h2 =>
 kFld 3 v2 h2 fun v3 h3 =>
 kLd v3 h3 fun v4 h4 =>
 kAdd (.int .i64 2) (g3_12 t0) h4 fun v6 h6 =>
 kOf (vInt .xor (g3_13 t0) (.int .i64 1) h6) fun v8 h8 =>
 kIdx 1 v4 v6 h8 fun v9 h9 =>
 kSt ro0 v9 v8 h9 fun _ h10 =>
 some (.normal, t0, h10)
def SR10_13 : RegS 3 := fun c t0 h0 =>
 kNil (g3_9 t0) h0 fun v2 h2 =>
 kFld 4 v2 h2 fun v3 h3 =>
 kLd v3 h3 fun v4 h4 =>
 kAdd (.int .i64 2) (g3_12 t0) h4 fun v6 h6 =>
 kAny (aShift .shr (.const (g3_2 t0)) (.const (g3_12 t0))) c h6 fun v9 h9 =>
 kOf (vInt .and v9 (.int .i64 1) h9) fun v10 h10 =>
 kIdx 1 v4 v6 h10 fun v11 h11 =>
 kSt ro0 v11 v10 h11 fun _ h12 =>
 some (.normal, t0, h12)
def SR10_10 : RegS 3 := fun c t0 h0 =>
 kAdd (g3_12 t0) (.int .i64 1) h0 fun v2 h2 =>
 fShal v2 fun v3 =>
 p3_12 t0 v3 fun t1 =>
 some (.normal, t1, h2)
def SR10_14 : RegS 3 := fun c t0 h0 =>
 kOf (c 23 [(g3_9 t0), (.int .i64 1)] h0) fun v2 h2 =>
 fShal v2 fun v3 =>
 p3_14 t0 v3 fun t1 =>
 some (.normal, t1, h2)
def SR10_15 : RegS 3 := fun c t0 h0 =>
 kOf (vInt .xor (g3_14 t0) (.int .i64 1) h0) fun v5 h5 =>
 kOf (c 21 [(g3_9 t0), (g3_11 t0), v5] h5) fun v6 h6 =>
 kNil (g3_9 t0) h6 fun v7 h7 =>
 kFld 5 v7 h7 fun v8 h8 =>
 kSt ro0 v8 v6 h8 fun _ h9 =>
 some (.normal, t0, h9)
def SR10_16 : RegS 3 := fun c t0 h0 =>
 kOf (c 17 [(g3_9 t0)] h0) fun v2 h2 =>
 fShal v2 fun v3 =>
 p3_15 t0 v3 fun t1 =>
 some (.normal, t1, h2)
def SR10_17 : RegS 3 := fun c t0 h0 =>
 kOf (c 19 [(g3_15 t0)] h0) fun v2 h2 =>
 kExt 0 v2 h2 fun v4 h4 =>
 kExt 1 v2 h4 fun v5 h5 =>
 kExt 2 v2 h5 fun v6 h6 =>
 fShal v4 fun v7 =>
 p3_16 t0 v7 fun t1 =>
 fShal v5 fun v8 =>
 p3_17 t1 v8 fun t2 =>
 fShal v6 fun v9 =>
 p3_18 t2 v9 fun t3 =>
 some (.normal, t3, h6)
def SR10_18 : RegS 3 := fun c t0 h0 =>
 kNot (g3_18 t0) h0 fun v2 h2 =>
 kIf v2 false (fun k => k (g3_17 t0) h2) h2 fun v4 h4 =>
 kIf v2 false (fun k => kOf (vInt .and v4 (.int .i64 3) h4) k) h4 fun v5 h5 =>
 kIf v2 false (fun k => kNeq v5 (.int .i64 0) h5 k) h5 fun v6 h6 =>
 kPick v2 (.bool true) v6 h6 fun v7 h7 =>
 kIf v7 false (fun k => k (g3_16 t0) h7) h7 fun v9 h9 =>
 kIf v7 false (fun k => kLenSl v9 h9 k) h9 fun v10 h10 =>
 kIf v7 false (fun k => kLss v10 (.int .i64 2) h10 k) h10 fun v11 h11 =>
 kPick v7 (.bool true) v11 h11 fun v12 h12 =>
 p3_105 t0 v12 fun t1 =>
 some (.normal, t1, h12)
def SR10_19 : RegS 3 := fun c t0 h0 =>
 fShal (.bool false) fun v1 =>
 p3_6 t0 v1 fun t1 =>
 some (.normal, t1, h0)
def SR10_20 : RegS 3 := fun c t0 h0 =>
 fShal (.int .i64 0) fun v1 =>
 p3_19 t0 v1 fun t1 =>
 some (.normal, t1, h0)
def SR10_21 : RegS 3 := fun c t0 h0 =>
 kLss (g3_19 t0) (g3_7 t0) h0 fun v3 h3 =>
 p3_108 t0 v3 fun t1 =>
 some (.normal, t1, h3)
def SR10_23 : RegS 3 := fun c t0 h0 =>
 kAdd (.int .i64 2) (g3_19 t0) h0 fun v3 h3 =>
 kAny (aShift .shr (.const (g3_17 t0)) (.const v3)) c h3 fun v4 h4 =>
 kOf (vInt .and v4 (.int .i64 1) h4) fun v5 h5 =>
 kAny (aShift .shr (.const (g3_2 t0)) (.const (g3_19 t0))) c h5 fun v8 h8 =>
 kOf (vInt .and v8 (.int .i64 1) h8) fun v9 h9 =>
 kNeq v5 v9 h9 fun v10 h10 =>
 p3_120 t0 v10 fun t1 =>
 some (.normal, t1, h10)
def SR10_24 : RegS 3 := fun c t0 h0 =>
 fShal (.bool false) fun v1 =>
 p3_6 t0 v1 fun t1 =>
 some (.normal, t1, h0)
def SR10_22 : RegS 3 := fun c t0 h0 =>
 kAdd (g3_19 t0) (.int .i64 1) h0 fun v2 h2 =>
 fShal v2 fun v3 =>
 p3_19 t0 v3 fun t1 =>
 some (.normal, t1, h2)
def SR10_25 : RegS 3 := fun c t0 h0 =>
 kLenSl (g3_16 t0) h0 fun v3 h3 =>
 kSub v3 (.int .i64 2) h3 fun v4 h4 =>
 kIdx 1 (g3_16 t0) v4 h4 fun v5 h5 =>
 kLd v5 h5 fun v6 h6 =>
 kSub (g3_8 t0) (.int .i64 1) h6 fun v8 h8 =>
 kAny (aShift .shr (.const v6) (.const v8)) c h8 fun v9 h9 =>
 kOf (vInt .and v9 (.int .i64 1) h9) fun v10 h10 =>
 kEql v10 (.int .i64 1) h10 fun v11 h11 =>
 fShal v11 fun v12 =>
 p3_6 t0 v12 fun t1 =>
 some (.normal, t1, h11)
def SW10_0 : CodeS 3 :=
 cSeqS (cSeqS (cRegS (SR10_9)) (cIfS g3_49 (cSkipS) (cExitS 0))) (cSeqS (cBlkS 1 (cSeqS (cRegS (SR10_11)) (cSeqS (cRegS (SR10_12)) (cRegS (SR10_13))))) (cRegS (SR10_10)))
def SW10_1 : CodeS 3 :=
 cSeqS (cSeqS (cRegS (SR10_21)) (cIfS g3_108 (cSkipS) (cExitS 2))) (cSeqS (cBlkS 3 (cSeqS (cRegS (SR10_23)) (cIfS g3_120 (cSeqS (cRegS (SR10_24)) (cRetS)) (cSkipS)))) (cRegS (SR10_22)))
def SF10 : CodeS 3 :=
 cSeqS (cRegS (SR10_0)) (cSeqS (cRegS (SR10_1)) (cSeqS (cRegS (SR10_2)) (cSeqS (cRegS (SR10_3)) (cSeqS (cRegS (SR10_4)) (cSeqS (cRegS (SR10_5)) (cSeqS (cRegS (SR10_6)) (cSeqS (cRegS (SR10_7)) (cSeqS (cSeqS (cRegS (SR10_8)) (cBlkS 0 (cLoopS (SW10_0)))) (cSeqS (cRegS (SR10_14)) (cSeqS (cRegS (SR10_15)) (cSeqS (cRegS (SR10_16)) (cSeqS (cRegS (SR10_17)) (cSeqS (cSeqS (cRegS (SR10_18)) (cIfS g3_105 (cSeqS (cRegS (SR10_19)) (cRetS)) (cSkipS))) (cSeqS (cSeqS (cRegS (SR10_20)) (cBlkS 2 (cLoopS (SW10_1)))) (cSeqS (cRegS (SR10_25)) (cRetS))))))))))))))))
def T10 : FnT := runG en3_3 (SF10) (resQ (qc (rT g3_6) qn))
theorem T10_ok : GoodF Tryz.prog ro0 okF 10 (T10) :=
 (good_k (n := 132) acc3 (lv [0, 1, 2, 6, 7, 8, 9, 10, 11, 12, 13, 14, 15, 16, 17, 18, 19, 49, 105, 108, 120]) (rs := [ResultVar.tmp 6]) Tryz.func10 (by kernel_rfl) (by kernel_rfl) (by kernel_rfl) (by kernel_rfl) (by kernel_rfl) (by kernel_rfl) (by kernel_rfl) (by kernel_rfl) (by kernel_rfl)).enter en3_3_ok (by kernel_rfl)

/-- circheck/circhecksays.wide -/
def SR11_0 : RegS 3 := fun c t0 h0 =>
 fShal (.bool false) fun v1 =>
 p3_4 t0 v1 fun t1 =>
 some (.normal, t1, h0)
def SR11_1 : RegS 3 := fun c t0 h0 =>
 kOf (c 16 [(.int .i64 4), (.int .i64 6)] h0) fun v1 h1 =>
 fShal v1 fun v2 =>
 p3_5 t0 v2 fun t1 =>
 some (.normal, t1, h1)
def SR11_2 : RegS 3 := fun c t0 h0 =>
 kOf (c 22 [(g3_0 t0), (.int .i64 59)] h0) fun v2 h2 =>
 kAdd (.int .i64 1) v2 h2 fun v3 h3 =>
 fShal v3 fun v4 =>
 p3_6 t0 v4 fun t1 =>
 some (.normal, t1, h3)
def SR11_3 : RegS 3 := fun c t0 h0 =>
 fShal (.int .i64 1) fun v1 =>
 p3_7 t0 v1 fun t1 =>
 some (.normal, t1, h0)
def SR11_4 : RegS 3 := fun c t0 h0 =>
 fShal (.int .i64 0) fun v1 =>
 p3_8 t0 v1 fun t1 =>
 some (.normal, t1, h0)
def SR11_5 : RegS 3 := fun c t0 h0 =>
 kLss (g3_8 t0) (g3_6 t0) h0 fun v3 h3 =>
 p3_24 t0 v3 fun t1 =>
 some (.normal, t1, h3)
def SR11_7 : RegS 3 := fun c t0 h0 =>
 kAdd (g3_1 t0) (g3_8 t0) h0 fun v3 h3 =>
 kOf (c 22 [v3, (.int .i64 4)] h3) fun v4 h4 =>
 fShal v4 fun v5 =>
 p3_9 t0 v5 fun t1 =>
 some (.normal, t1, h4)
def SR11_8 : RegS 3 := fun c t0 h0 =>
 kOf (c 20 [(g3_5 t0), (g3_9 t0)] h0) fun v3 h3 =>
 fShal v3 fun v4 =>
 p3_10 t0 v4 fun t1 =>
 some (.normal, t1, h3)
def SR11_9 : RegS 3 := fun c t0 h0 =>
 kOf (c 21 [(g3_5 t0), (g3_7 t0), (g3_10 t0)] h0) fun v4 h4 =>
 fShal v4 fun v5 =>
 p3_7 t0 v5 fun t1 =>
 some (.normal, t1, h4)
def SR11_6 : RegS 3 := fun c t0 h0 =>
 kAdd (g3_8 t0) (.int .i64 1) h0 fun v2 h2 =>
 fShal v2 fun v3 =>
 p3_8 t0 v3 fun t1 =>
 some (.normal, t1, h2)
def SR11_10 : RegS 3 := fun c t0 h0 =>
 kOf (c 20 [(g3_5 t0), (.int .i64 0)] h0) fun v2 h2 =>
 fShal v2 fun v3 =>
 p3_11 t0 v3 fun t1 =>
 some (.normal, t1, h2)
def SR11_11 : RegS 3 := fun c t0 h0 =>
 kOf (c 21 [(g3_5 t0), (g3_7 t0), (g3_11 t0)] h0) fun v5 h5 =>
 kNil (g3_5 t0) h5 fun v6 h6 =>
 kFld 5 v6 h6 fun v7 h7 =>
 kSt ro0 v7 v5 h7 fun _ h8 =>
 some (.normal, t0, h8)
def SR11_12 : RegS 3 := fun c t0 h0 =>
 kOf (c 17 [(g3_5 t0)] h0) fun v2 h2 =>
 fShal v2 fun v3 =>
 p3_12 t0 v3 fun t1 =>
 some (.normal, t1, h2)
def SR11_13 : RegS 3 := fun c t0 h0 =>
 kOf (c 19 [(g3_12 t0)] h0) fun v2 h2 =>
 kExt 0 v2 h2 fun v4 h4 =>
 kExt 1 v2 h4 fun v5 h5 =>
 kExt 2 v2 h5 fun v6 h6 =>
 fShal v4 fun v7 =>
 p3_13 t0 v7 fun t1 =>
 fShal v5 fun v8 =>
 p3_14 t1 v8 fun t2 =>
 fShal v6 fun v9 =>
 p3_15 t2 v9 fun t3 =>
 some (.normal, t3, h6)
def SR11_14 : RegS 3 := fun c t0 h0 =>
 kNot (g3_15 t0) h0 fun v2 h2 =>
 kIf v2 false (fun k => k (g3_14 t0) h2) h2 fun v4 h4 =>
 kIf v2 false (fun k => kNeq v4 (.int .i64 0) h4 k) h4 fun v5 h5 =>
 kPick v2 (.bool true) v5 h5 fun v6 h6 =>
 kIf v6 false (fun k => k (g3_13 t0) h6) h6 fun v8 h8 =>
 kIf v6 false (fun k => kLenSl v8 h8 k) h8 fun v9 h9 =>
 kIf v6 false (fun k => kEql v9 (.int .i64 0) h9 k) h9 fun v10 h10 =>
 kPick v6 (.bool true) v10 h10 fun v11 h11 =>
 kIf v11 false (fun k => k (g3_13 t0) h11) h11 fun v13 h13 =>
 kIf v11 false (fun k => k (g3_13 t0) h13) h13 fun v14 h14 =>
 kIf v11 false (fun k => kLenSl v14 h14 k) h14 fun v15 h15 =>
 kIf v11 false (fun k => kSub v15 (.int .i64 1) h15 k) h15 fun v16 h16 =>
 kIf v11 false (fun k => kIdx 1 v13 v16 h16 k) h16 fun v17 h17 =>
 kIf v11 false (fun k => kLd v17 h17 k) h17 fun v18 h18 =>
 kIf v11 false (fun k => kOf (vInt .and v18 (.int .i64 1) h18) k) h18 fun v19 h19 =>
 kIf v11 false (fun k => kNeq v19 (.int .i64 1) h19 k) h19 fun v20 h20 =>
 kPick v11 (.bool true) v20 h20 fun v21 h21 =>
 p3_75 t0 v21 fun t1 =>
 some (.normal, t1, h21)
def SR11_15 : RegS 3 := fun c t0 h0 =>
 fShal (.bool false) fun v1 =>
 p3_4 t0 v1 fun t1 =>
 some (.normal, t1, h0)
def SR11_16 : RegS 3 := fun c t0 h0 =>
 fShal (.int .i64 0) fun v1 =>
 p3_16 t0 v1 fun t1 =>
 some (.normal, t1, h0)
def SR11_17 : RegS 3 := fun c t0 h0 =>
 kLss (g3_16 t0) (g3_6 t0) h0 fun v3 h3 =>
 p3_78 t0 v3 fun t1 =>
 some (.normal, t1, h3)
def SR11_19 : RegS 3 := fun c t0 h0 =>
 kAdd (g3_1 t0) (g3_16 t0) h0 fun v3 h3 =>
 kOf (c 22 [v3, (.int .i64 4)] h3) fun v4 h4 =>
 fShal v4 fun v5 =>
 p3_17 t0 v5 fun t1 =>
 some (.normal, t1, h4)
def SR11_20 : RegS 3 := fun c t0 h0 =>
 kLenSl (g3_13 t0) h0 fun v3 h3 =>
 kSub v3 (.int .i64 1) h3 fun v4 h4 =>
 kIdx 1 (g3_13 t0) v4 h4 fun v5 h5 =>
 kLd v5 h5 fun v6 h6 =>
 kAny (aShift .shr (.const v6) (.const (g3_17 t0))) c h6 fun v8 h8 =>
 kOf (vInt .and v8 (.int .i64 1) h8) fun v9 h9 =>
 kNeq v9 (.int .i64 1) h9 fun v10 h10 =>
 p3_94 t0 v10 fun t1 =>
 some (.normal, t1, h10)
def SR11_21 : RegS 3 := fun c t0 h0 =>
 fShal (.bool false) fun v1 =>
 p3_4 t0 v1 fun t1 =>
 some (.normal, t1, h0)
def SR11_18 : RegS 3 := fun c t0 h0 =>
 kAdd (g3_16 t0) (.int .i64 1) h0 fun v2 h2 =>
 fShal v2 fun v3 =>
 p3_16 t0 v3 fun t1 =>
 some (.normal, t1, h2)
def SR11_22 : RegS 3 := fun c t0 h0 =>
 kOf (c 14 [(g3_12 t0), (g3_1 t0)] h0) fun v3 h3 =>
 fShal v3 fun v4 =>
 p3_4 t0 v4 fun t1 =>
 some (.normal, t1, h3)
def SW11_0 : CodeS 3 :=
 cSeqS (cSeqS (cRegS (SR11_5)) (cIfS g3_24 (cSkipS) (cExitS 0))) (cSeqS (cBlkS 1 (cSeqS (cRegS (SR11_7)) (cSeqS (cRegS (SR11_8)) (cRegS (SR11_9))))) (cRegS (SR11_6)))
def SW11_1 : CodeS 3 :=
 cSeqS (cSeqS (cRegS (SR11_17)) (cIfS g3_78 (cSkipS) (cExitS 2))) (cSeqS (cBlkS 3 (cSeqS (cRegS (SR11_19)) (cSeqS (cRegS (SR11_20)) (cIfS g3_94 (cSeqS (cRegS (SR11_21)) (cRetS)) (cSkipS))))) (cRegS (SR11_18)))
def SF11 : CodeS 3 :=
 cSeqS (cRegS (SR11_0)) (cSeqS (cRegS (SR11_1)) (cSeqS (cRegS (SR11_2)) (cSeqS (cRegS (SR11_3)) (cSeqS (cSeqS (cRegS (SR11_4)) (cBlkS 0 (cLoopS (SW11_0)))) (cSeqS (cRegS (SR11_10)) (cSeqS (cRegS (SR11_11)) (cSeqS (cRegS (SR11_12)) (cSeqS (cRegS (SR11_13)) (cSeqS (cSeqS (cRegS (SR11_14)) (cIfS g3_75 (cSeqS (cRegS (SR11_15)) (cRetS)) (cSkipS))) (cSeqS (cSeqS (cRegS (SR11_16)) (cBlkS 2 (cLoopS (SW11_1)))) (cSeqS (cRegS (SR11_22)) (cRetS))))))))))))
def T11 : FnT := runG en3_2 (SF11) (resQ (qc (rT g3_4) qn))
theorem T11_ok : GoodF Tryz.prog ro0 okF 11 (T11) :=
 (good_k (n := 98) acc3 (lv [0, 1, 4, 5, 6, 7, 8, 9, 10, 11, 12, 13, 14, 15, 16, 17, 24, 75, 78, 94]) (rs := [ResultVar.tmp 4]) Tryz.func11 (by kernel_rfl) (by kernel_rfl) (by kernel_rfl) (by kernel_rfl) (by kernel_rfl) (by kernel_rfl) (by kernel_rfl) (by kernel_rfl) (by kernel_rfl)).enter en3_2_ok (by kernel_rfl)

/-- circheck/circhecksays.faulty -/
def SR12_0 : RegS 2 := fun c t0 h0 =>
 fShal (.bool false) fun v1 =>
 p2_2 t0 v1 fun t1 =>
 some (.normal, t1, h0)
def SR12_1 : RegS 2 := fun c t0 h0 =>
 kOf (c 24 [] h0) fun v1 h1 =>
 fShal v1 fun v2 =>
 p2_3 t0 v2 fun t1 =>
 some (.normal, t1, h1)
def SR12_2 : RegS 2 := fun c t0 h0 =>
 kLenSl (g2_3 t0) h0 fun v4 h4 =>
 kOf (c 22 [(g2_0 t0), v4] h4) fun v5 h5 =>
 kIdx 3 (g2_3 t0) v5 h5 fun v6 h6 =>
 kOf (vLdN 3 v6 h6) fun v7 h7 =>
 kNew [.string ⟨#[]⟩, .int .i64 0, .int .i64 0] h7 fun v8 h8 =>
 p2_4 t0 v8 fun t1 =>
 kAny (aSt tO ro0 3 (.const v8) (.const v7)) c h8 fun _ h9 =>
 some (.normal, t1, h9)
def SR12_3 : RegS 2 := fun c t0 h0 =>
 kFld 0 (g2_4 t0) h0 fun v1 h1 =>
 kLd v1 h1 fun v2 h2 =>
 kOf (c 25 [v2] h2) fun v3 h3 =>
 kExt 0 v3 h3 fun v5 h5 =>
 kExt 1 v3 h5 fun v6 h6 =>
 kNew [.int .i64 0, .int .i64 0] h6 fun v7 h7 =>
 p2_6 t0 v7 fun t1 =>
 kAny (aSt tO ro0 2 (.const v7) (.const v6)) c h7 fun _ h9 =>
 some (.normal, t1, h9)
def SR12_4 : RegS 2 := fun c t0 h0 =>
 kFld 0 (g2_4 t0) h0 fun v1 h1 =>
 kLd v1 h1 fun v2 h2 =>
 kOf (c 26 [v2, (.int .i64 1152921504606846976)] h2) fun v3 h3 =>
 fShal v3 fun v4 =>
 p2_7 t0 v4 fun t1 =>
 some (.normal, t1, h3)
def SR12_5 : RegS 2 := fun c t0 h0 =>
 kFld 1 (g2_4 t0) h0 fun v1 h1 =>
 kLd v1 h1 fun v2 h2 =>
 kFld 2 (g2_4 t0) h2 fun v3 h3 =>
 kLd v3 h3 fun v4 h4 =>
 kBuild #[.int .i64 0, .int .i64 0] [(0, 1), (1, 1)] [(0, v2), (1, v4)] h4 fun v5 h5 =>
 kNew [.int .i64 0, .int .i64 0] h5 fun v6 h6 =>
 p2_8 t0 v6 fun t1 =>
 kAny (aSt tO ro0 2 (.const v6) (.const v5)) c h6 fun _ h7 =>
 some (.normal, t1, h7)
def SR12_6 : RegS 2 := fun c t0 h0 =>
 kOf (vLdN 2 (g2_6 t0) h0) fun v1 h1 =>
 kOf (vLdN 2 (g2_8 t0) h1) fun v2 h2 =>
 kAny (aAggEq true 2 (.const v1) (.const v2)) c h2 fun v3 h3 =>
 kIf v3 false (fun k => k (g2_7 t0) h3) h3 fun v5 h5 =>
 kIf v3 false (fun k => kPtrNil false v5 (.pointer none) h5 k) h5 fun v6 h6 =>
 kPick v3 (.bool true) v6 h6 fun v7 h7 =>
 kIf v7 false (fun k => k (g2_7 t0) h7) h7 fun v9 h9 =>
 kIf v7 false (fun k => kNil v9 h9 k) h9 fun v10 h10 =>
 kIf v7 false (fun k => kFld 1 v10 h10 k) h10 fun v11 h11 =>
 kIf v7 false (fun k => kOf (vLdN 2 v11 h11) k) h11 fun v12 h12 =>
 kIf v7 false (fun k => kOf (vLdN 2 (g2_8 t0) h12) k) h12 fun v13 h13 =>
 kIf v7 false (fun k => kAny (aAggEq true 2 (.const v12) (.const v13)) c h13 k) h13 fun v14 h14 =>
 kPick v7 (.bool true) v14 h14 fun v15 h15 =>
 p2_45 t0 v15 fun t1 =>
 some (.normal, t1, h15)
def SR12_7 : RegS 2 := fun c t0 h0 =>
 fShal (.bool false) fun v1 =>
 p2_2 t0 v1 fun t1 =>
 some (.normal, t1, h0)
def SR12_8 : RegS 2 := fun c t0 h0 =>
 kFld 1 (g2_4 t0) h0 fun v1 h1 =>
 kLd v1 h1 fun v2 h2 =>
 kEql v2 (.int .i64 0) h2 fun v3 h3 =>
 kNil (g2_7 t0) h3 fun v5 h5 =>
 kFld 0 v5 h5 fun v6 h6 =>
 kLd v6 h6 fun v7 h7 =>
 kNeq v7 (.int .i64 0) h7 fun v8 h8 =>
 kAny (aBoolEq false (.const v3) (.const v8)) c h8 fun v9 h9 =>
 fShal v9 fun v10 =>
 p2_2 t0 v10 fun t1 =>
 some (.normal, t1, h9)
def SF12 : CodeS 2 :=
 cSeqS (cRegS (SR12_0)) (cSeqS (cRegS (SR12_1)) (cSeqS (cRegS (SR12_2)) (cSeqS (cRegS (SR12_3)) (cSeqS (cRegS (SR12_4)) (cSeqS (cRegS (SR12_5)) (cSeqS (cSeqS (cRegS (SR12_6)) (cIfS g2_45 (cSeqS (cRegS (SR12_7)) (cRetS)) (cSkipS))) (cSeqS (cRegS (SR12_8)) (cRetS))))))))
def T12 : FnT := runG en2_1 (SF12) (resQ (qc (rT g2_2) qn))
theorem T12_ok : GoodF Tryz.prog ro0 okF 12 (T12) :=
 (good_k (n := 55) acc2 (lv [0, 2, 3, 4, 6, 7, 8, 45]) (rs := [ResultVar.tmp 2]) Tryz.func12 (by kernel_rfl) (by kernel_rfl) (by kernel_rfl) (by kernel_rfl) (by kernel_rfl) (by kernel_rfl) (by kernel_rfl) (by kernel_rfl) (by kernel_rfl)).enter en2_1_ok (by kernel_rfl)

/-- circheck/circhecksays.forms -/
def SR14_0 : RegS 3 := fun c t0 h0 =>
 fShal (.bool false) fun v1 =>
 p3_4 t0 v1 fun t1 =>
 some (.normal, t1, h0)
def SR14_1 : RegS 3 := fun c t0 h0 =>
 kOf (c 25 [(g3_0 t0)] h0) fun v2 h2 =>
 kExt 0 v2 h2 fun v4 h4 =>
 kExt 1 v2 h4 fun v5 h5 =>
 kNew [.int .i64 0, .int .i64 0] h5 fun v6 h6 =>
 p3_6 t0 v6 fun t1 =>
 fShal v4 fun v7 =>
 p3_5 t1 v7 fun t2 =>
 kAny (aSt tO ro0 2 (.const v6) (.const v5)) c h6 fun _ h8 =>
 some (.normal, t2, h8)
def SR14_2 : RegS 3 := fun c t0 h0 =>
 kFld 0 (g3_6 t0) h0 fun v1 h1 =>
 kLd v1 h1 fun v2 h2 =>
 kNeq v2 (.int .i64 0) h2 fun v3 h3 =>
 p3_33 t0 v3 fun t1 =>
 some (.normal, t1, h3)
def SR14_3 : RegS 3 := fun c t0 h0 =>
 kOf (c 26 [(g3_0 t0), (.int .i64 7)] h0) fun v2 h2 =>
 fShal v2 fun v3 =>
 p3_7 t0 v3 fun t1 =>
 some (.normal, t1, h2)
def SR14_4 : RegS 3 := fun c t0 h0 =>
 kPtrNil false (g3_5 t0) (.pointer none) h0 fun v2 h2 =>
 kIf v2 true (fun k => k (g3_7 t0) h2) h2 fun v4 h4 =>
 kIf v2 true (fun k => kPtrNil true v4 (.pointer none) h4 k) h4 fun v5 h5 =>
 kPick v2 v5 (.bool false) h5 fun v6 h6 =>
 kIf v6 true (fun k => k (g3_7 t0) h6) h6 fun v8 h8 =>
 kIf v6 true (fun k => kNil v8 h8 k) h8 fun v9 h9 =>
 kIf v6 true (fun k => kFld 0 v9 h9 k) h9 fun v10 h10 =>
 kIf v6 true (fun k => kLd v10 h10 k) h10 fun v11 h11 =>
 kIf v6 true (fun k => kEql v11 (.int .i64 0) h11 k) h11 fun v12 h12 =>
 kPick v6 v12 (.bool false) h12 fun v13 h13 =>
 kIf v13 true (fun k => k (g3_7 t0) h13) h13 fun v15 h15 =>
 kIf v13 true (fun k => kNil v15 h15 k) h15 fun v16 h16 =>
 kIf v13 true (fun k => kFld 1 v16 h16 k) h16 fun v17 h17 =>
 kIf v13 true (fun k => kOf (vLdN 2 v17 h17) k) h17 fun v18 h18 =>
 kIf v13 true (fun k => kOf (vLdN 2 (g3_6 t0) h18) k) h18 fun v19 h19 =>
 kIf v13 true (fun k => kAny (aAggEq false 2 (.const v18) (.const v19)) c h19 k) h19 fun v20 h20 =>
 kPick v13 v20 (.bool false) h20 fun v21 h21 =>
 kIf v21 true (fun k => k (g3_7 t0) h21) h21 fun v23 h23 =>
 kIf v21 true (fun k => kNil v23 h23 k) h23 fun v24 h24 =>
 kIf v21 true (fun k => kFld 7 v24 h24 k) h24 fun v25 h25 =>
 kIf v21 true (fun k => kLd v25 h25 k) h25 fun v26 h26 =>
 kIf v21 true (fun k => kAny (aStr .eql (.const v26) (.const (.string { data := #[] }))) c h26 k) h26 fun v27 h27 =>
 kPick v21 v27 (.bool false) h27 fun v28 h28 =>
 kIf v28 true (fun k => k (g3_7 t0) h28) h28 fun v30 h30 =>
 kIf v28 true (fun k => kNil v30 h30 k) h30 fun v31 h31 =>
 kIf v28 true (fun k => kFld 6 v31 h31 k) h31 fun v32 h32 =>
 kIf v28 true (fun k => kLd v32 h32 k) h32 fun v33 h33 =>
 kIf v28 true (fun k => kEql v33 (.int .i64 0) h33 k) h33 fun v34 h34 =>
 kPick v28 v34 (.bool false) h34 fun v35 h35 =>
 fShal v35 fun v36 =>
 p3_4 t0 v36 fun t1 =>
 some (.normal, t1, h35)
def SR14_5 : RegS 3 := fun c t0 h0 =>
 kOf (c 27 [(g3_5 t0)] h0) fun v2 h2 =>
 fShal v2 fun v3 =>
 p3_8 t0 v3 fun t1 =>
 some (.normal, t1, h2)
def SR14_6 : RegS 3 := fun c t0 h0 =>
 kOf (c 28 [(g3_5 t0)] h0) fun v2 h2 =>
 fShal v2 fun v3 =>
 p3_9 t0 v3 fun t1 =>
 some (.normal, t1, h2)
def SR14_7 : RegS 3 := fun c t0 h0 =>
 kOf (c 25 [(g3_8 t0)] h0) fun v2 h2 =>
 kExt 0 v2 h2 fun v4 h4 =>
 kExt 1 v2 h4 fun v5 h5 =>
 kNew [.int .i64 0, .int .i64 0] h5 fun v6 h6 =>
 p3_11 t0 v6 fun t1 =>
 fShal v4 fun v7 =>
 p3_10 t1 v7 fun t2 =>
 kAny (aSt tO ro0 2 (.const v6) (.const v5)) c h6 fun _ h8 =>
 some (.normal, t2, h8)
def SR14_8 : RegS 3 := fun c t0 h0 =>
 kOf (c 25 [(g3_9 t0)] h0) fun v2 h2 =>
 kExt 0 v2 h2 fun v4 h4 =>
 kExt 1 v2 h4 fun v5 h5 =>
 kNew [.int .i64 0, .int .i64 0] h5 fun v6 h6 =>
 p3_13 t0 v6 fun t1 =>
 fShal v4 fun v7 =>
 p3_12 t1 v7 fun t2 =>
 kAny (aSt tO ro0 2 (.const v6) (.const v5)) c h6 fun _ h8 =>
 some (.normal, t2, h8)
def SR14_9 : RegS 3 := fun c t0 h0 =>
 kFld 0 (g3_11 t0) h0 fun v1 h1 =>
 kLd v1 h1 fun v2 h2 =>
 kNeq v2 (.int .i64 0) h2 fun v3 h3 =>
 kIf v3 false (fun k => kFld 0 (g3_13 t0) h3 k) h3 fun v5 h5 =>
 kIf v3 false (fun k => kLd v5 h5 k) h5 fun v6 h6 =>
 kIf v3 false (fun k => kNeq v6 (.int .i64 0) h6 k) h6 fun v7 h7 =>
 kPick v3 (.bool true) v7 h7 fun v8 h8 =>
 p3_92 t0 v8 fun t1 =>
 some (.normal, t1, h8)
def SR14_10 : RegS 3 := fun c t0 h0 =>
 fShal (.bool false) fun v1 =>
 p3_4 t0 v1 fun t1 =>
 some (.normal, t1, h0)
def SR14_11 : RegS 3 := fun c t0 h0 =>
 kOf (c 27 [(g3_10 t0)] h0) fun v2 h2 =>
 fShal v2 fun v3 =>
 p3_14 t0 v3 fun t1 =>
 some (.normal, t1, h2)
def SR14_12 : RegS 3 := fun c t0 h0 =>
 kOf (c 27 [(g3_12 t0)] h0) fun v2 h2 =>
 fShal v2 fun v3 =>
 p3_15 t0 v3 fun t1 =>
 some (.normal, t1, h2)
def SR14_13 : RegS 3 := fun c t0 h0 =>
 kOf (c 28 [(g3_10 t0)] h0) fun v2 h2 =>
 fShal v2 fun v3 =>
 p3_16 t0 v3 fun t1 =>
 some (.normal, t1, h2)
def SR14_14 : RegS 3 := fun c t0 h0 =>
 kOf (c 28 [(g3_12 t0)] h0) fun v2 h2 =>
 fShal v2 fun v3 =>
 p3_17 t0 v3 fun t1 =>
 some (.normal, t1, h2)
def SR14_15 : RegS 3 := fun c t0 h0 =>
 kAny (aStr .neq (.const (g3_14 t0)) (.const (g3_8 t0))) c h0 fun v3 h3 =>
 kIf v3 false (fun k => k (g3_15 t0) h3) h3 fun v5 h5 =>
 kIf v3 false (fun k => k (g3_8 t0) h5) h5 fun v6 h6 =>
 kIf v3 false (fun k => kAny (aStr .neq (.const v5) (.const v6)) c h6 k) h6 fun v7 h7 =>
 kPick v3 (.bool true) v7 h7 fun v8 h8 =>
 kIf v8 false (fun k => k (g3_16 t0) h8) h8 fun v10 h10 =>
 kIf v8 false (fun k => k (g3_9 t0) h10) h10 fun v11 h11 =>
 kIf v8 false (fun k => kAny (aStr .neq (.const v10) (.const v11)) c h11 k) h11 fun v12 h12 =>
 kPick v8 (.bool true) v12 h12 fun v13 h13 =>
 kIf v13 false (fun k => k (g3_17 t0) h13) h13 fun v15 h15 =>
 kIf v13 false (fun k => k (g3_9 t0) h15) h15 fun v16 h16 =>
 kIf v13 false (fun k => kAny (aStr .neq (.const v15) (.const v16)) c h16 k) h16 fun v17 h17 =>
 kPick v13 (.bool true) v17 h17 fun v18 h18 =>
 p3_118 t0 v18 fun t1 =>
 some (.normal, t1, h18)
def SR14_16 : RegS 3 := fun c t0 h0 =>
 fShal (.bool false) fun v1 =>
 p3_4 t0 v1 fun t1 =>
 some (.normal, t1, h0)
def SR14_17 : RegS 3 := fun c t0 h0 =>
 kOf (c 26 [(g3_0 t0), (.int .i64 1152921504606846976)] h0) fun v2 h2 =>
 fShal v2 fun v3 =>
 p3_18 t0 v3 fun t1 =>
 some (.normal, t1, h2)
def SR14_18 : RegS 3 := fun c t0 h0 =>
 kOf (c 26 [(g3_8 t0), (.int .i64 1152921504606846976)] h0) fun v2 h2 =>
 fShal v2 fun v3 =>
 p3_19 t0 v3 fun t1 =>
 some (.normal, t1, h2)
def SR14_19 : RegS 3 := fun c t0 h0 =>
 kOf (c 26 [(g3_9 t0), (.int .i64 1152921504606846976)] h0) fun v2 h2 =>
 fShal v2 fun v3 =>
 p3_20 t0 v3 fun t1 =>
 some (.normal, t1, h2)
def SR14_20 : RegS 3 := fun c t0 h0 =>
 kPtrNil false (g3_18 t0) (.pointer none) h0 fun v2 h2 =>
 kIf v2 false (fun k => k (g3_19 t0) h2) h2 fun v4 h4 =>
 kIf v2 false (fun k => kPtrNil false v4 (.pointer none) h4 k) h4 fun v5 h5 =>
 kPick v2 (.bool true) v5 h5 fun v6 h6 =>
 kIf v6 false (fun k => k (g3_20 t0) h6) h6 fun v8 h8 =>
 kIf v6 false (fun k => kPtrNil false v8 (.pointer none) h8 k) h8 fun v9 h9 =>
 kPick v6 (.bool true) v9 h9 fun v10 h10 =>
 p3_134 t0 v10 fun t1 =>
 some (.normal, t1, h10)
def SR14_21 : RegS 3 := fun c t0 h0 =>
 fShal (.bool false) fun v1 =>
 p3_4 t0 v1 fun t1 =>
 some (.normal, t1, h0)
def SR14_22 : RegS 3 := fun c t0 h0 =>
 kOf (c 29 [(g3_18 t0), (g3_19 t0)] h0) fun v3 h3 =>
 fShal v3 fun v4 =>
 p3_21 t0 v4 fun t1 =>
 some (.normal, t1, h3)
def SR14_23 : RegS 3 := fun c t0 h0 =>
 kOf (c 29 [(g3_18 t0), (g3_20 t0)] h0) fun v3 h3 =>
 fShal v3 fun v4 =>
 p3_22 t0 v4 fun t1 =>
 some (.normal, t1, h3)
def SR14_24 : RegS 3 := fun c t0 h0 =>
 kNot (g3_21 t0) h0 fun v2 h2 =>
 kIf v2 false (fun k => k (g3_22 t0) h2) h2 fun v4 h4 =>
 kIf v2 false (fun k => kNot v4 h4 k) h4 fun v5 h5 =>
 kPick v2 (.bool true) v5 h5 fun v6 h6 =>
 kIf v6 false (fun k => k (g3_18 t0) h6) h6 fun v8 h8 =>
 kIf v6 false (fun k => kNil v8 h8 k) h8 fun v9 h9 =>
 kIf v6 false (fun k => kFld 0 v9 h9 k) h9 fun v10 h10 =>
 kIf v6 false (fun k => kLd v10 h10 k) h10 fun v11 h11 =>
 kIf v6 false (fun k => kEql v11 (.int .i64 3) h11 k) h11 fun v12 h12 =>
 kPick v6 (.bool true) v12 h12 fun v13 h13 =>
 kIf v13 false (fun k => k (g3_18 t0) h13) h13 fun v15 h15 =>
 kIf v13 false (fun k => kNil v15 h15 k) h15 fun v16 h16 =>
 kIf v13 false (fun k => kFld 0 v16 h16 k) h16 fun v17 h17 =>
 kIf v13 false (fun k => kLd v17 h17 k) h17 fun v18 h18 =>
 kIf v13 false (fun k => kEql v18 (.int .i64 0) h18 k) h18 fun v19 h19 =>
 kPick v13 (.bool true) v19 h19 fun v20 h20 =>
 p3_160 t0 v20 fun t1 =>
 some (.normal, t1, h20)
def SR14_25 : RegS 3 := fun c t0 h0 =>
 fShal (.bool false) fun v1 =>
 p3_4 t0 v1 fun t1 =>
 some (.normal, t1, h0)
def SR14_26 : RegS 3 := fun c t0 h0 =>
 kOf (c 22 [(g3_1 t0), (.int .i64 1099511627776)] h0) fun v2 h2 =>
 fShal v2 fun v3 =>
 p3_23 t0 v3 fun t1 =>
 some (.normal, t1, h2)
def SR14_27 : RegS 3 := fun c t0 h0 =>
 kOf (c 26 [(g3_0 t0), (g3_23 t0)] h0) fun v3 h3 =>
 fShal v3 fun v4 =>
 p3_24 t0 v4 fun t1 =>
 some (.normal, t1, h3)
def SR14_28 : RegS 3 := fun c t0 h0 =>
 kPtrNil false (g3_24 t0) (.pointer none) h0 fun v2 h2 =>
 p3_167 t0 v2 fun t1 =>
 some (.normal, t1, h2)
def SR14_29 : RegS 3 := fun c t0 h0 =>
 fShal (.bool false) fun v1 =>
 p3_4 t0 v1 fun t1 =>
 some (.normal, t1, h0)
def SR14_30 : RegS 3 := fun c t0 h0 =>
 kNil (g3_24 t0) h0 fun v2 h2 =>
 kFld 0 v2 h2 fun v3 h3 =>
 kLd v3 h3 fun v4 h4 =>
 kNeq v4 (.int .i64 3) h4 fun v5 h5 =>
 p3_172 t0 v5 fun t1 =>
 some (.normal, t1, h5)
def SR14_31 : RegS 3 := fun c t0 h0 =>
 kOf (c 29 [(g3_24 t0), (g3_18 t0)] h0) fun v3 h3 =>
 fShal v3 fun v4 =>
 p3_4 t0 v4 fun t1 =>
 some (.normal, t1, h3)
def SR14_32 : RegS 3 := fun c t0 h0 =>
 kOf (vInt .quo (g3_23 t0) (.int .i64 2) h0) fun v3 h3 =>
 kOf (c 26 [(g3_0 t0), v3] h3) fun v4 h4 =>
 fShal v4 fun v5 =>
 p3_25 t0 v5 fun t1 =>
 some (.normal, t1, h4)
def SR14_33 : RegS 3 := fun c t0 h0 =>
 kPtrNil true (g3_25 t0) (.pointer none) h0 fun v2 h2 =>
 kIf v2 true (fun k => k (g3_25 t0) h2) h2 fun v4 h4 =>
 kIf v2 true (fun k => kNil v4 h4 k) h4 fun v5 h5 =>
 kIf v2 true (fun k => kFld 0 v5 h5 k) h5 fun v6 h6 =>
 kIf v2 true (fun k => kLd v6 h6 k) h6 fun v7 h7 =>
 kIf v2 true (fun k => kEql v7 (.int .i64 3) h7 k) h7 fun v8 h8 =>
 kPick v2 v8 (.bool false) h8 fun v9 h9 =>
 fShal v9 fun v10 =>
 p3_4 t0 v10 fun t1 =>
 some (.normal, t1, h9)
def SF14 : CodeS 3 :=
 cSeqS (cRegS (SR14_0)) (cSeqS (cRegS (SR14_1)) (cSeqS (cSeqS (cRegS (SR14_2)) (cIfS g3_33 (cSeqS (cRegS (SR14_3)) (cSeqS (cRegS (SR14_4)) (cRetS))) (cSkipS))) (cSeqS (cRegS (SR14_5)) (cSeqS (cRegS (SR14_6)) (cSeqS (cRegS (SR14_7)) (cSeqS (cRegS (SR14_8)) (cSeqS (cSeqS (cRegS (SR14_9)) (cIfS g3_92 (cSeqS (cRegS (SR14_10)) (cRetS)) (cSkipS))) (cSeqS (cRegS (SR14_11)) (cSeqS (cRegS (SR14_12)) (cSeqS (cRegS (SR14_13)) (cSeqS (cRegS (SR14_14)) (cSeqS (cSeqS (cRegS (SR14_15)) (cIfS g3_118 (cSeqS (cRegS (SR14_16)) (cRetS)) (cSkipS))) (cSeqS (cRegS (SR14_17)) (cSeqS (cRegS (SR14_18)) (cSeqS (cRegS (SR14_19)) (cSeqS (cSeqS (cRegS (SR14_20)) (cIfS g3_134 (cSeqS (cRegS (SR14_21)) (cRetS)) (cSkipS))) (cSeqS (cRegS (SR14_22)) (cSeqS (cRegS (SR14_23)) (cSeqS (cSeqS (cRegS (SR14_24)) (cIfS g3_160 (cSeqS (cRegS (SR14_25)) (cRetS)) (cSkipS))) (cSeqS (cRegS (SR14_26)) (cSeqS (cRegS (SR14_27)) (cSeqS (cSeqS (cRegS (SR14_28)) (cIfS g3_167 (cSeqS (cRegS (SR14_29)) (cRetS)) (cSkipS))) (cSeqS (cSeqS (cRegS (SR14_30)) (cIfS g3_172 (cSeqS (cRegS (SR14_31)) (cRetS)) (cSkipS))) (cSeqS (cRegS (SR14_32)) (cSeqS (cRegS (SR14_33)) (cRetS))))))))))))))))))))))))))
def T14 : FnT := runG en3_2 (SF14) (resQ (qc (rT g3_4) qn))
theorem T14_ok : GoodF Tryz.prog ro0 okF 14 (T14) :=
 (good_k (n := 189) acc3 (lv [0, 1, 4, 5, 6, 7, 8, 9, 10, 11, 12, 13, 14, 15, 16, 17, 18, 19, 20, 21, 22, 23, 24, 25, 33, 92, 118, 134, 160, 167, 172]) (rs := [ResultVar.tmp 4]) Tryz.func14 (by kernel_rfl) (by kernel_rfl) (by kernel_rfl) (by kernel_rfl) (by kernel_rfl) (by kernel_rfl) (by kernel_rfl) (by kernel_rfl) (by kernel_rfl)).enter en3_2_ok (by kernel_rfl)

/-- circheck/circhecksays.blank -/
def SR16_0 : RegS 2 := fun c t0 h0 =>
 fShal (.pointer none) fun v1 =>
 p2_4 t0 v1 fun t1 =>
 some (.normal, t1, h0)
def SR16_1 : RegS 2 := fun c t0 h0 =>
 kBuild #[.int .i64 0, .int .i64 0, .slice none 0 0, .slice none 0 0, .slice none 0 0, .int .i64 0] [(0, 1), (1, 1), (2, 1), (3, 1), (4, 1), (5, 1)] [(0, (g2_0 t0)), (1, (g2_1 t0))] h0 fun v3 h3 =>
 kBox v3 h3 fun v4 h4 =>
 fShal v4 fun v5 =>
 p2_5 t0 v5 fun t1 =>
 some (.normal, t1, h4)
def SR16_2 : RegS 2 := fun c t0 h0 =>
 kAny (aMake tO 1 8 #[.int .i64 0] (.const (g2_1 t0)) (.const (g2_1 t0))) c h0 fun v3 h3 =>
 kNil (g2_5 t0) h3 fun v4 h4 =>
 kFld 3 v4 h4 fun v5 h5 =>
 kSt ro0 v5 v3 h5 fun _ h6 =>
 some (.normal, t0, h6)
def SR16_3 : RegS 2 := fun c t0 h0 =>
 kAny (aMake tO 1 8 #[.int .i64 0] (.const (g2_1 t0)) (.const (g2_1 t0))) c h0 fun v3 h3 =>
 kNil (g2_5 t0) h3 fun v4 h4 =>
 kFld 4 v4 h4 fun v5 h5 =>
 kSt ro0 v5 v3 h5 fun _ h6 =>
 some (.normal, t0, h6)
def SR16_4 : RegS 2 := fun c t0 h0 =>
 fShal (g2_5 t0) fun v2 =>
 p2_4 t0 v2 fun t1 =>
 some (.normal, t1, h0)
def SF16 : CodeS 2 :=
 cSeqS (cRegS (SR16_0)) (cSeqS (cRegS (SR16_1)) (cSeqS (cRegS (SR16_2)) (cSeqS (cRegS (SR16_3)) (cSeqS (cRegS (SR16_4)) (cRetS)))))
def T16 : FnT := runG en2_2 (SF16) (resQ (qc (rT g2_4) qn))
theorem T16_ok : GoodF Tryz.prog ro0 okF 16 (T16) :=
 (good_k (n := 21) acc2 (lv [0, 1, 4, 5]) (rs := [ResultVar.tmp 4]) Tryz.func16 (by kernel_rfl) (by kernel_rfl) (by kernel_rfl) (by kernel_rfl) (by kernel_rfl) (by kernel_rfl) (by kernel_rfl) (by kernel_rfl) (by kernel_rfl)).enter en2_2_ok (by kernel_rfl)

/-- (*circheck/circhecksays.net).text -/
def SR17_0 : RegS 3 := fun c t0 h0 =>
 fShal (.string { data := #[] }) fun v1 =>
 p3_2 t0 v1 fun t1 =>
 some (.normal, t1, h0)
def SR17_1 : RegS 3 := fun c t0 h0 =>
 kNil (g3_0 t0) h0 fun v2 h2 =>
 kFld 2 v2 h2 fun v3 h3 =>
 kLd v3 h3 fun v4 h4 =>
 kLenSl v4 h4 fun v5 h5 =>
 kOf (vInt .quo v5 (.int .i64 2) h5) fun v6 h6 =>
 fShal v6 fun v7 =>
 p3_3 t0 v7 fun t1 =>
 some (.normal, t1, h6)
def SR17_2 : RegS 3 := fun c t0 h0 =>
 kNil (g3_0 t0) h0 fun v2 h2 =>
 kFld 0 v2 h2 fun v3 h3 =>
 kLd v3 h3 fun v4 h4 =>
 kNil (g3_0 t0) h4 fun v6 h6 =>
 kFld 1 v6 h6 fun v7 h7 =>
 kLd v7 h7 fun v8 h8 =>
 kAdd v4 v8 h8 fun v9 h9 =>
 kAdd v9 (g3_3 t0) h9 fun v11 h11 =>
 kNil (g3_0 t0) h11 fun v13 h13 =>
 kFld 0 v13 h13 fun v14 h14 =>
 kLd v14 h14 fun v15 h15 =>
 kNil (g3_0 t0) h15 fun v17 h17 =>
 kFld 1 v17 h17 fun v18 h18 =>
 kLd v18 h18 fun v19 h19 =>
 kMkSl 1 6 #[.int .i64 0] [(0, v11), (1, v15), (2, v19), (3, (.int .i64 0)), (4, (g3_3 t0)), (5, (.int .i64 1))] h19 fun v21 h21 =>
 kOf (c 32 [v21] h21) fun v22 h22 =>
 fShal v22 fun v23 =>
 p3_4 t0 v23 fun t1 =>
 some (.normal, t1, h22)
def SR17_3 : RegS 3 := fun c t0 h0 =>
 kAny (aStr .add (.const (.string { data := #[97, 97, 103, 32] })) (.const (g3_4 t0))) c h0 fun v2 h2 =>
 fShal v2 fun v3 =>
 p3_5 t0 v3 fun t1 =>
 some (.normal, t1, h2)
def SR17_4 : RegS 3 := fun c t0 h0 =>
 fShal (.int .i64 0) fun v1 =>
 p3_6 t0 v1 fun t1 =>
 some (.normal, t1, h0)
def SR17_5 : RegS 3 := fun c t0 h0 =>
 kNil (g3_0 t0) h0 fun v3 h3 =>
 kFld 0 v3 h3 fun v4 h4 =>
 kLd v4 h4 fun v5 h5 =>
 kLss (g3_6 t0) v5 h5 fun v6 h6 =>
 p3_49 t0 v6 fun t1 =>
 some (.normal, t1, h6)
def SR17_7 : RegS 3 := fun c t0 h0 =>
 kOf (c 20 [(g3_0 t0), (g3_6 t0)] h0) fun v3 h3 =>
 fShal v3 fun v4 =>
 p3_7 t0 v4 fun t1 =>
 some (.normal, t1, h3)
def SR17_8 : RegS 3 := fun c t0 h0 =>
 kMkSl 1 1 #[.int .i64 0] [(0, (g3_7 t0))] h0 fun v2 h2 =>
 kOf (c 32 [v2] h2) fun v3 h3 =>
 fShal v3 fun v4 =>
 p3_8 t0 v4 fun t1 =>
 some (.normal, t1, h3)
def SR17_9 : RegS 3 := fun c t0 h0 =>
 kAny (aStr .add (.const (g3_5 t0)) (.const (g3_8 t0))) c h0 fun v3 h3 =>
 fShal v3 fun v4 =>
 p3_5 t0 v4 fun t1 =>
 some (.normal, t1, h3)
def SR17_6 : RegS 3 := fun c t0 h0 =>
 kAdd (g3_6 t0) (.int .i64 1) h0 fun v2 h2 =>
 fShal v2 fun v3 =>
 p3_6 t0 v3 fun t1 =>
 some (.normal, t1, h2)
def SR17_10 : RegS 3 := fun c t0 h0 =>
 fShal (.int .i64 0) fun v1 =>
 p3_9 t0 v1 fun t1 =>
 some (.normal, t1, h0)
def SR17_11 : RegS 3 := fun c t0 h0 =>
 kNil (g3_0 t0) h0 fun v3 h3 =>
 kFld 1 v3 h3 fun v4 h4 =>
 kLd v4 h4 fun v5 h5 =>
 kLss (g3_9 t0) v5 h5 fun v6 h6 =>
 p3_66 t0 v6 fun t1 =>
 some (.normal, t1, h6)
def SR17_13 : RegS 3 := fun c t0 h0 =>
 kOf (c 23 [(g3_0 t0), (g3_9 t0)] h0) fun v3 h3 =>
 fShal v3 fun v4 =>
 p3_10 t0 v4 fun t1 =>
 some (.normal, t1, h3)
def SR17_14 : RegS 3 := fun c t0 h0 =>
 kNil (g3_0 t0) h0 fun v3 h3 =>
 kFld 3 v3 h3 fun v4 h4 =>
 kLd v4 h4 fun v5 h5 =>
 kIdx 1 v5 (g3_9 t0) h5 fun v7 h7 =>
 kLd v7 h7 fun v8 h8 =>
 kNil (g3_0 t0) h8 fun v10 h10 =>
 kFld 4 v10 h10 fun v11 h11 =>
 kLd v11 h11 fun v12 h12 =>
 kIdx 1 v12 (g3_9 t0) h12 fun v14 h14 =>
 kLd v14 h14 fun v15 h15 =>
 kMkSl 1 3 #[.int .i64 0] [(0, (g3_10 t0)), (1, v8), (2, v15)] h15 fun v16 h16 =>
 kOf (c 32 [v16] h16) fun v17 h17 =>
 fShal v17 fun v18 =>
 p3_11 t0 v18 fun t1 =>
 some (.normal, t1, h17)
def SR17_15 : RegS 3 := fun c t0 h0 =>
 kAny (aStr .add (.const (g3_5 t0)) (.const (g3_11 t0))) c h0 fun v3 h3 =>
 fShal v3 fun v4 =>
 p3_5 t0 v4 fun t1 =>
 some (.normal, t1, h3)
def SR17_12 : RegS 3 := fun c t0 h0 =>
 kAdd (g3_9 t0) (.int .i64 1) h0 fun v2 h2 =>
 fShal v2 fun v3 =>
 p3_9 t0 v3 fun t1 =>
 some (.normal, t1, h2)
def SR17_16 : RegS 3 := fun c t0 h0 =>
 kNil (g3_0 t0) h0 fun v2 h2 =>
 kFld 5 v2 h2 fun v3 h3 =>
 kLd v3 h3 fun v4 h4 =>
 kMkSl 1 1 #[.int .i64 0] [(0, v4)] h4 fun v5 h5 =>
 kOf (c 32 [v5] h5) fun v6 h6 =>
 fShal v6 fun v7 =>
 p3_12 t0 v7 fun t1 =>
 some (.normal, t1, h6)
def SR17_17 : RegS 3 := fun c t0 h0 =>
 kAny (aStr .add (.const (g3_5 t0)) (.const (g3_12 t0))) c h0 fun v3 h3 =>
 fShal v3 fun v4 =>
 p3_5 t0 v4 fun t1 =>
 some (.normal, t1, h3)
def SR17_18 : RegS 3 := fun c t0 h0 =>
 kSub (g3_3 t0) (.int .i64 1) h0 fun v2 h2 =>
 fShal v2 fun v3 =>
 p3_13 t0 v3 fun t1 =>
 some (.normal, t1, h2)
def SR17_19 : RegS 3 := fun c t0 h0 =>
 kGeq (g3_13 t0) (.int .i64 0) h0 fun v2 h2 =>
 p3_104 t0 v2 fun t1 =>
 some (.normal, t1, h2)
def SR17_21 : RegS 3 := fun c t0 h0 =>
 kNil (g3_0 t0) h0 fun v2 h2 =>
 kFld 0 v2 h2 fun v3 h3 =>
 kLd v3 h3 fun v4 h4 =>
 kAdd (.int .i64 1) v4 h4 fun v5 h5 =>
 kNil (g3_0 t0) h5 fun v7 h7 =>
 kFld 1 v7 h7 fun v8 h8 =>
 kLd v8 h8 fun v9 h9 =>
 kAdd v5 v9 h9 fun v10 h10 =>
 kAdd v10 (g3_13 t0) h10 fun v12 h12 =>
 kOf (vInt .mul (.int .i64 2) v12 h12) fun v13 h13 =>
 kNil (g3_0 t0) h13 fun v15 h15 =>
 kFld 2 v15 h15 fun v16 h16 =>
 kLd v16 h16 fun v17 h17 =>
 kOf (vInt .mul (.int .i64 2) (g3_13 t0) h17) fun v19 h19 =>
 kIdx 1 v17 v19 h19 fun v20 h20 =>
 kLd v20 h20 fun v21 h21 =>
 kNil (g3_0 t0) h21 fun v23 h23 =>
 kFld 2 v23 h23 fun v24 h24 =>
 kLd v24 h24 fun v25 h25 =>
 kOf (vInt .mul (.int .i64 2) (g3_13 t0) h25) fun v27 h27 =>
 kAdd v27 (.int .i64 1) h27 fun v28 h28 =>
 kIdx 1 v25 v28 h28 fun v29 h29 =>
 kLd v29 h29 fun v30 h30 =>
 kMkSl 1 3 #[.int .i64 0] [(0, v13), (1, v21), (2, v30)] h30 fun v31 h31 =>
 kOf (c 32 [v31] h31) fun v32 h32 =>
 fShal v32 fun v33 =>
 p3_12 t0 v33 fun t1 =>
 some (.normal, t1, h32)
def SR17_22 : RegS 3 := fun c t0 h0 =>
 kAny (aStr .add (.const (g3_5 t0)) (.const (g3_12 t0))) c h0 fun v3 h3 =>
 fShal v3 fun v4 =>
 p3_5 t0 v4 fun t1 =>
 some (.normal, t1, h3)
def SR17_20 : RegS 3 := fun c t0 h0 =>
 kSub (g3_13 t0) (.int .i64 1) h0 fun v2 h2 =>
 fShal v2 fun v3 =>
 p3_13 t0 v3 fun t1 =>
 some (.normal, t1, h2)
def SR17_23 : RegS 3 := fun c t0 h0 =>
 fShal (g3_5 t0) fun v2 =>
 p3_2 t0 v2 fun t1 =>
 some (.normal, t1, h0)
def SW17_0 : CodeS 3 :=
 cSeqS (cSeqS (cRegS (SR17_5)) (cIfS g3_49 (cSkipS) (cExitS 0))) (cSeqS (cBlkS 1 (cSeqS (cRegS (SR17_7)) (cSeqS (cRegS (SR17_8)) (cRegS (SR17_9))))) (cRegS (SR17_6)))
def SW17_1 : CodeS 3 :=
 cSeqS (cSeqS (cRegS (SR17_11)) (cIfS g3_66 (cSkipS) (cExitS 2))) (cSeqS (cBlkS 3 (cSeqS (cRegS (SR17_13)) (cSeqS (cRegS (SR17_14)) (cRegS (SR17_15))))) (cRegS (SR17_12)))
def SW17_2 : CodeS 3 :=
 cSeqS (cSeqS (cRegS (SR17_19)) (cIfS g3_104 (cSkipS) (cExitS 4))) (cSeqS (cBlkS 5 (cSeqS (cRegS (SR17_21)) (cRegS (SR17_22)))) (cRegS (SR17_20)))
def SF17 : CodeS 3 :=
 cSeqS (cRegS (SR17_0)) (cSeqS (cRegS (SR17_1)) (cSeqS (cRegS (SR17_2)) (cSeqS (cRegS (SR17_3)) (cSeqS (cSeqS (cRegS (SR17_4)) (cBlkS 0 (cLoopS (SW17_0)))) (cSeqS (cSeqS (cRegS (SR17_10)) (cBlkS 2 (cLoopS (SW17_1)))) (cSeqS (cRegS (SR17_16)) (cSeqS (cRegS (SR17_17)) (cSeqS (cSeqS (cRegS (SR17_18)) (cBlkS 4 (cLoopS (SW17_2)))) (cSeqS (cRegS (SR17_23)) (cRetS))))))))))
def T17 : FnT := runG en3_1 (SF17) (resQ (qc (rT g3_2) qn))
theorem T17_ok : GoodF Tryz.prog ro0 okF 17 (T17) :=
 (good_k (n := 143) acc3 (lv [0, 2, 3, 4, 5, 6, 7, 8, 9, 10, 11, 12, 13, 49, 66, 104]) (rs := [ResultVar.tmp 2]) Tryz.func17 (by kernel_rfl) (by kernel_rfl) (by kernel_rfl) (by kernel_rfl) (by kernel_rfl) (by kernel_rfl) (by kernel_rfl) (by kernel_rfl) (by kernel_rfl)).enter en3_1_ok (by kernel_rfl)

/-- circheck/circhecksays.safe -/
def SR18_0 : RegS 2 := fun c t0 h0 =>
 fShal (.bool false) fun v1 =>
 p2_2 t0 v1 fun t1 =>
 some (.normal, t1, h0)
def SR18_1 : RegS 2 := fun c t0 h0 =>
 kOf (c 26 [(g2_0 t0), (.int .i64 1152921504606846976)] h0) fun v2 h2 =>
 fShal v2 fun v3 =>
 p2_3 t0 v3 fun t1 =>
 some (.normal, t1, h2)
def SR18_2 : RegS 2 := fun c t0 h0 =>
 kOf (c 26 [(g2_0 t0), (.int .i64 0)] h0) fun v2 h2 =>
 fShal v2 fun v3 =>
 p2_4 t0 v3 fun t1 =>
 some (.normal, t1, h2)
def SR18_3 : RegS 2 := fun c t0 h0 =>
 kPtrNil false (g2_3 t0) (.pointer none) h0 fun v2 h2 =>
 kIf v2 false (fun k => k (g2_4 t0) h2) h2 fun v4 h4 =>
 kIf v2 false (fun k => kPtrNil false v4 (.pointer none) h4 k) h4 fun v5 h5 =>
 kPick v2 (.bool true) v5 h5 fun v6 h6 =>
 p2_15 t0 v6 fun t1 =>
 some (.normal, t1, h6)
def SR18_4 : RegS 2 := fun c t0 h0 =>
 fShal (.bool false) fun v1 =>
 p2_2 t0 v1 fun t1 =>
 some (.normal, t1, h0)
def SR18_5 : RegS 2 := fun c t0 h0 =>
 kNil (g2_3 t0) h0 fun v2 h2 =>
 kFld 1 v2 h2 fun v3 h3 =>
 kOf (vLdN 2 v3 h3) fun v4 h4 =>
 kBuild #[.int .i64 0, .int .i64 0] [(0, 1), (1, 1)] [] h4 fun v5 h5 =>
 kAny (aAggEq false 2 (.const v4) (.const v5)) c h5 fun v6 h6 =>
 fShal v6 fun v7 =>
 p2_5 t0 v7 fun t1 =>
 some (.normal, t1, h6)
def SR18_6 : RegS 2 := fun c t0 h0 =>
 kIf (g2_5 t0) true (fun k => k (g2_3 t0) h0) h0 fun v3 h3 =>
 kIf (g2_5 t0) true (fun k => kNil v3 h3 k) h3 fun v4 h4 =>
 kIf (g2_5 t0) true (fun k => kFld 0 v4 h4 k) h4 fun v5 h5 =>
 kIf (g2_5 t0) true (fun k => kLd v5 h5 k) h5 fun v6 h6 =>
 kIf (g2_5 t0) true (fun k => kEql v6 (.int .i64 1) h6 k) h6 fun v7 h7 =>
 kPick (g2_5 t0) v7 (.bool false) h7 fun v8 h8 =>
 kIf v8 true (fun k => k (g2_4 t0) h8) h8 fun v10 h10 =>
 kIf v8 true (fun k => kNil v10 h10 k) h10 fun v11 h11 =>
 kIf v8 true (fun k => kFld 0 v11 h11 k) h11 fun v12 h12 =>
 kIf v8 true (fun k => kLd v12 h12 k) h12 fun v13 h13 =>
 kIf v8 true (fun k => kEql v13 (.int .i64 1) h13 k) h13 fun v14 h14 =>
 kIf v8 true (fun k => k v14 h14) h14 fun v15 h15 =>
 kIf v15 false (fun k => k (g2_4 t0) h15) h15 fun v16 h16 =>
 kIf v15 false (fun k => kNil v16 h16 k) h16 fun v17 h17 =>
 kIf v15 false (fun k => kFld 0 v17 h17 k) h17 fun v18 h18 =>
 kIf v15 false (fun k => kLd v18 h18 k) h18 fun v19 h19 =>
 kIf v15 false (fun k => kEql v19 (.int .i64 3) h19 k) h19 fun v20 h20 =>
 kIf v8 true (fun k => kPick v15 (.bool true) v20 h20 k) h20 fun v21 h21 =>
 kPick v8 v21 (.bool false) h21 fun v22 h22 =>
 fShal v22 fun v23 =>
 p2_2 t0 v23 fun t1 =>
 some (.normal, t1, h22)
def SF18 : CodeS 2 :=
 cSeqS (cRegS (SR18_0)) (cSeqS (cRegS (SR18_1)) (cSeqS (cRegS (SR18_2)) (cSeqS (cSeqS (cRegS (SR18_3)) (cIfS g2_15 (cSeqS (cRegS (SR18_4)) (cRetS)) (cSkipS))) (cSeqS (cRegS (SR18_5)) (cSeqS (cRegS (SR18_6)) (cRetS))))))
def T18 : FnT := runG en2_1 (SF18) (resQ (qc (rT g2_2) qn))
theorem T18_ok : GoodF Tryz.prog ro0 okF 18 (T18) :=
 (good_k (n := 44) acc2 (lv [0, 2, 3, 4, 5, 15]) (rs := [ResultVar.tmp 2]) Tryz.func18 (by kernel_rfl) (by kernel_rfl) (by kernel_rfl) (by kernel_rfl) (by kernel_rfl) (by kernel_rfl) (by kernel_rfl) (by kernel_rfl) (by kernel_rfl)).enter en2_1_ok (by kernel_rfl)

/-- circheck/circhecksays.un-safe -/
def SR19_0 : RegS 2 := fun c t0 h0 =>
 fShal (.slice none 0 0) fun v1 =>
 p2_2 t0 v1 fun t1 =>
 fShal (.int .i64 0) fun v2 =>
 p2_3 t1 v2 fun t2 =>
 fShal (.bool false) fun v3 =>
 p2_4 t2 v3 fun t3 =>
 some (.normal, t3, h0)
def SR19_1 : RegS 2 := fun c t0 h0 =>
 kOf (c 26 [(g2_0 t0), (.int .i64 1152921504606846976)] h0) fun v2 h2 =>
 fShal v2 fun v3 =>
 p2_5 t0 v3 fun t1 =>
 some (.normal, t1, h2)
def SR19_2 : RegS 2 := fun c t0 h0 =>
 kOf (c 26 [(g2_0 t0), (.int .i64 0)] h0) fun v2 h2 =>
 fShal v2 fun v3 =>
 p2_6 t0 v3 fun t1 =>
 some (.normal, t1, h2)
def SR19_3 : RegS 2 := fun c t0 h0 =>
 kPtrNil false (g2_5 t0) (.pointer none) h0 fun v2 h2 =>
 kIf v2 false (fun k => k (g2_6 t0) h2) h2 fun v4 h4 =>
 kIf v2 false (fun k => kPtrNil false v4 (.pointer none) h4 k) h4 fun v5 h5 =>
 kPick v2 (.bool true) v5 h5 fun v6 h6 =>
 p2_17 t0 v6 fun t1 =>
 some (.normal, t1, h6)
def SR19_4 : RegS 2 := fun c t0 h0 =>
 fShal (.slice none 0 0) fun v1 =>
 p2_2 t0 v1 fun t1 =>
 fShal (.int .i64 0) fun v2 =>
 p2_3 t1 v2 fun t2 =>
 fShal (.bool false) fun v3 =>
 p2_4 t2 v3 fun t3 =>
 some (.normal, t3, h0)
def SR19_5 : RegS 2 := fun c t0 h0 =>
 kNil (g2_5 t0) h0 fun v2 h2 =>
 kFld 0 v2 h2 fun v3 h3 =>
 kLd v3 h3 fun v4 h4 =>
 kEql v4 (.int .i64 2) h4 fun v5 h5 =>
 kIf v5 true (fun k => k (g2_6 t0) h5) h5 fun v7 h7 =>
 kIf v5 true (fun k => kNil v7 h7 k) h7 fun v8 h8 =>
 kIf v5 true (fun k => kFld 0 v8 h8 k) h8 fun v9 h9 =>
 kIf v5 true (fun k => kLd v9 h9 k) h9 fun v10 h10 =>
 kIf v5 true (fun k => kEql v10 (.int .i64 2) h10 k) h10 fun v11 h11 =>
 kIf v5 true (fun k => k v11 h11) h11 fun v12 h12 =>
 kIf v12 false (fun k => k (g2_6 t0) h12) h12 fun v13 h13 =>
 kIf v12 false (fun k => kNil v13 h13 k) h13 fun v14 h14 =>
 kIf v12 false (fun k => kFld 0 v14 h14 k) h14 fun v15 h15 =>
 kIf v12 false (fun k => kLd v15 h15 k) h15 fun v16 h16 =>
 kIf v12 false (fun k => kEql v16 (.int .i64 3) h16 k) h16 fun v17 h17 =>
 kIf v5 true (fun k => kPick v12 (.bool true) v17 h17 k) h17 fun v18 h18 =>
 kPick v5 v18 (.bool false) h18 fun v19 h19 =>
 fShal v19 fun v20 =>
 p2_7 t0 v20 fun t1 =>
 some (.normal, t1, h19)
def SR19_6 : RegS 2 := fun c t0 h0 =>
 kNil (g2_5 t0) h0 fun v2 h2 =>
 kFld 5 v2 h2 fun v3 h3 =>
 kLd v3 h3 fun v4 h4 =>
 kNil (g2_5 t0) h4 fun v6 h6 =>
 kFld 4 v6 h6 fun v7 h7 =>
 kLd v7 h7 fun v8 h8 =>
 fShal v4 fun v10 =>
 p2_2 t0 v10 fun t1 =>
 fShal v8 fun v11 =>
 p2_3 t1 v11 fun t2 =>
 fShal (g2_7 t0) fun v12 =>
 p2_4 t2 v12 fun t3 =>
 some (.normal, t3, h8)
def SF19 : CodeS 2 :=
 cSeqS (cRegS (SR19_0)) (cSeqS (cRegS (SR19_1)) (cSeqS (cRegS (SR19_2)) (cSeqS (cSeqS (cRegS (SR19_3)) (cIfS g2_17 (cSeqS (cRegS (SR19_4)) (cRetS)) (cSkipS))) (cSeqS (cRegS (SR19_5)) (cSeqS (cRegS (SR19_6)) (cRetS))))))
def T19 : FnT := runG en2_1 (SF19) (resQ (qc (rT g2_2) (qc (rT g2_3) (qc (rT g2_4) qn))))
theorem T19_ok : GoodF Tryz.prog ro0 okF 19 (T19) :=
 (good_k (n := 46) acc2 (lv [0, 2, 3, 4, 5, 6, 7, 17]) (rs := [ResultVar.tmp 2, ResultVar.tmp 3, ResultVar.tmp 4]) Tryz.func19 (by kernel_rfl) (by kernel_rfl) (by kernel_rfl) (by kernel_rfl) (by kernel_rfl) (by kernel_rfl) (by kernel_rfl) (by kernel_rfl) (by kernel_rfl)).enter en2_1_ok (by kernel_rfl)

/-- (*circheck/circhecksays.net).input -/
def SR20_0 : RegS 1 := fun c t0 h0 =>
 fShal (.int .i64 0) fun v1 =>
 p1_4 t0 v1 fun t1 =>
 some (.normal, t1, h0)
def SR20_1 : RegS 1 := fun c t0 h0 =>
 kAdd (.int .i64 1) (g1_1 t0) h0 fun v2 h2 =>
 kOf (vInt .mul (.int .i64 2) v2 h2) fun v3 h3 =>
 fShal v3 fun v4 =>
 p1_4 t0 v4 fun t1 =>
 some (.normal, t1, h3)
def SF20 : CodeS 1 :=
 cSeqS (cRegS (SR20_0)) (cSeqS (cRegS (SR20_1)) (cRetS))
def T20 : FnT := runG en1_2 (SF20) (resQ (qc (rT g1_4) qn))
theorem T20_ok : GoodF Tryz.prog ro0 okF 20 (T20) :=
 (good_k (n := 8) acc1 (lv [1, 4]) (rs := [ResultVar.tmp 4]) Tryz.func20 (by kernel_rfl) (by kernel_rfl) (by kernel_rfl) (by kernel_rfl) (by kernel_rfl) (by kernel_rfl) (by kernel_rfl) (by kernel_rfl) (by kernel_rfl)).enter en1_2_ok (by kernel_rfl)

/-- (*circheck/circhecksays.net).and -/
def SR21_0 : RegS 2 := fun c t0 h0 =>
 fShal (.int .i64 0) fun v1 =>
 p2_6 t0 v1 fun t1 =>
 some (.normal, t1, h0)
def SR21_1 : RegS 2 := fun c t0 h0 =>
 kNil (g2_0 t0) h0 fun v3 h3 =>
 kFld 2 v3 h3 fun v4 h4 =>
 kLd v4 h4 fun v5 h5 =>
 kMkSl 1 2 #[.int .i64 0] [(0, (g2_1 t0)), (1, (g2_2 t0))] h5 fun v8 h8 =>
 kOf (vApp ro0 1 8 v5 v8 h8) fun v9 h9 =>
 kNil (g2_0 t0) h9 fun v10 h10 =>
 kFld 2 v10 h10 fun v11 h11 =>
 kSt ro0 v11 v9 h11 fun _ h12 =>
 some (.normal, t0, h12)
def SR21_2 : RegS 2 := fun c t0 h0 =>
 kNil (g2_0 t0) h0 fun v2 h2 =>
 kFld 0 v2 h2 fun v3 h3 =>
 kLd v3 h3 fun v4 h4 =>
 kNil (g2_0 t0) h4 fun v6 h6 =>
 kFld 1 v6 h6 fun v7 h7 =>
 kLd v7 h7 fun v8 h8 =>
 kAdd v4 v8 h8 fun v9 h9 =>
 kNil (g2_0 t0) h9 fun v11 h11 =>
 kFld 2 v11 h11 fun v12 h12 =>
 kLd v12 h12 fun v13 h13 =>
 kLenSl v13 h13 fun v14 h14 =>
 kOf (vInt .quo v14 (.int .i64 2) h14) fun v15 h15 =>
 kAdd v9 v15 h15 fun v16 h16 =>
 kOf (vInt .mul (.int .i64 2) v16 h16) fun v17 h17 =>
 fShal v17 fun v18 =>
 p2_6 t0 v18 fun t1 =>
 some (.normal, t1, h17)
def SF21 : CodeS 2 :=
 cSeqS (cRegS (SR21_0)) (cSeqS (cRegS (SR21_1)) (cSeqS (cRegS (SR21_2)) (cRetS)))
def T21 : FnT := runG en2_3 (SF21) (resQ (qc (rT g2_6) qn))
theorem T21_ok : GoodF Tryz.prog ro0 okF 21 (T21) :=
 (good_k (n := 35) acc2 (lv [0, 1, 2, 6]) (rs := [ResultVar.tmp 6]) Tryz.func21 (by kernel_rfl) (by kernel_rfl) (by kernel_rfl) (by kernel_rfl) (by kernel_rfl) (by kernel_rfl) (by kernel_rfl) (by kernel_rfl) (by kernel_rfl)).enter en2_3_ok (by kernel_rfl)

/-- circheck/circhecksays.pick -/
def SR22_0 : RegS 2 := fun c t0 h0 =>
 fShal (.int .i64 0) fun v1 =>
 p2_4 t0 v1 fun t1 =>
 some (.normal, t1, h0)
def SR22_1 : RegS 2 := fun c t0 h0 =>
 kLss (g2_0 t0) (.int .i64 0) h0 fun v2 h2 =>
 p2_6 t0 v2 fun t1 =>
 some (.normal, t1, h2)
def SR22_2 : RegS 2 := fun c t0 h0 =>
 kAdd (g2_0 t0) (.int .i64 1) h0 fun v2 h2 =>
 kAny (aUn .neg (.const v2)) c h2 fun v3 h3 =>
 fShal v3 fun v4 =>
 p2_0 t0 v4 fun t1 =>
 some (.normal, t1, h3)
def SR22_3 : RegS 2 := fun c t0 h0 =>
 kOf (vInt .rem (g2_0 t0) (g2_1 t0) h0) fun v3 h3 =>
 fShal v3 fun v4 =>
 p2_4 t0 v4 fun t1 =>
 some (.normal, t1, h3)
def SF22 : CodeS 2 :=
 cSeqS (cRegS (SR22_0)) (cSeqS (cSeqS (cRegS (SR22_1)) (cIfS g2_6 (cRegS (SR22_2)) (cSkipS))) (cSeqS (cRegS (SR22_3)) (cRetS)))
def T22 : FnT := runG en2_2 (SF22) (resQ (qc (rT g2_4) qn))
theorem T22_ok : GoodF Tryz.prog ro0 okF 22 (T22) :=
 (good_k (n := 13) acc2 (lv [0, 1, 4, 6]) (rs := [ResultVar.tmp 4]) Tryz.func22 (by kernel_rfl) (by kernel_rfl) (by kernel_rfl) (by kernel_rfl) (by kernel_rfl) (by kernel_rfl) (by kernel_rfl) (by kernel_rfl) (by kernel_rfl)).enter en2_2_ok (by kernel_rfl)

/-- (*circheck/circhecksays.net).latch -/
def SR23_0 : RegS 2 := fun c t0 h0 =>
 fShal (.int .i64 0) fun v1 =>
 p2_4 t0 v1 fun t1 =>
 some (.normal, t1, h0)
def SR23_1 : RegS 2 := fun c t0 h0 =>
 kNil (g2_0 t0) h0 fun v2 h2 =>
 kFld 0 v2 h2 fun v3 h3 =>
 kLd v3 h3 fun v4 h4 =>
 kAdd (.int .i64 1) v4 h4 fun v5 h5 =>
 kAdd v5 (g2_1 t0) h5 fun v7 h7 =>
 kOf (vInt .mul (.int .i64 2) v7 h7) fun v8 h8 =>
 fShal v8 fun v9 =>
 p2_4 t0 v9 fun t1 =>
 some (.normal, t1, h8)
def SF23 : CodeS 2 :=
 cSeqS (cRegS (SR23_0)) (cSeqS (cRegS (SR23_1)) (cRetS))
def T23 : FnT := runG en2_2 (SF23) (resQ (qc (rT g2_4) qn))
theorem T23_ok : GoodF Tryz.prog ro0 okF 23 (T23) :=
 (good_k (n := 13) acc2 (lv [0, 1, 4]) (rs := [ResultVar.tmp 4]) Tryz.func23 (by kernel_rfl) (by kernel_rfl) (by kernel_rfl) (by kernel_rfl) (by kernel_rfl) (by kernel_rfl) (by kernel_rfl) (by kernel_rfl) (by kernel_rfl)).enter en2_2_ok (by kernel_rfl)
end Go.Proofs.YtimdkminagnhgabGreatDoor
