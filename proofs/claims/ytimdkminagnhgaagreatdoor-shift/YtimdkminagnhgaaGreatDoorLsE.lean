/-
  The program itself for the kernel, function by function. Printed by program; the kernel checks each. Own work.
-/
import Derived.Test.YtimdkminagnhgaaGreatDoorLsA
namespace Go.Proofs.YtimdkminagnhgaaGreatDoor
open Go.Vm Go.Proofs
set_option linter.unusedVariables false
set_option maxRecDepth 100000

/-- (*circheck/checker.Solver).Add -/
def SR105_0 : RegS 2 := fun c t0 h0 =>
 fShal (.int .i64 0) fun v1 =>
 p2_4 t0 v1 fun t1 =>
 some (.normal, t1, h0)
def SR105_1 : RegS 2 := fun c t0 h0 =>
 kPtrNil false (g2_0 t0) (.pointer none) h0 fun v2 h2 =>
 kIf v2 false (fun k => k (g2_0 t0) h2) h2 fun v4 h4 =>
 kIf v2 false (fun k => k (g2_1 t0) h4) h4 fun v5 h5 =>
 kIf v2 false (fun k => kOf (c 157 [v4, v5] h5) k) h5 fun v6 h6 =>
 kIf v2 false (fun k => kNot v6 h6 k) h6 fun v7 h7 =>
 kPick v2 (.bool true) v7 h7 fun v8 h8 =>
 p2_13 t0 v8 fun t1 =>
 some (.normal, t1, h8)
def SR105_2 : RegS 2 := fun c t0 h0 =>
 fShal (.int .i64 13) fun v1 =>
 p2_4 t0 v1 fun t1 =>
 some (.normal, t1, h0)
def SR105_3 : RegS 2 := fun c t0 h0 =>
 kOf (c 158 [(g2_0 t0), (g2_1 t0)] h0) fun v3 h3 =>
 fShal v3 fun v4 =>
 p2_5 t0 v4 fun t1 =>
 some (.normal, t1, h3)
def SR105_4 : RegS 2 := fun c t0 h0 =>
 kOf (c 159 [(g2_5 t0)] h0) fun v2 h2 =>
 kNot v2 h2 fun v3 h3 =>
 p2_19 t0 v3 fun t1 =>
 some (.normal, t1, h3)
def SR105_5 : RegS 2 := fun c t0 h0 =>
 kNil (g2_0 t0) h0 fun v3 h3 =>
 kFld 1 v3 h3 fun v4 h4 =>
 kLd v4 h4 fun v5 h5 =>
 kMkSl 1 1 #[.slice none 0 0] [(0, (g2_5 t0))] h5 fun v7 h7 =>
 kOf (vApp ro0 1 24 v5 v7 h7) fun v8 h8 =>
 kNil (g2_0 t0) h8 fun v9 h9 =>
 kFld 1 v9 h9 fun v10 h10 =>
 kSt ro0 v10 v8 h10 fun _ h11 =>
 some (.normal, t0, h11)
def SR105_6 : RegS 2 := fun c t0 h0 =>
 fShal (.int .i64 0) fun v1 =>
 p2_4 t0 v1 fun t1 =>
 some (.normal, t1, h0)
def SF105 : CodeS 2 :=
 cSeqS (cRegS (SR105_0)) (cSeqS (cSeqS (cRegS (SR105_1)) (cIfS g2_13 (cSeqS (cRegS (SR105_2)) (cRetS)) (cSkipS))) (cSeqS (cRegS (SR105_3)) (cSeqS (cSeqS (cRegS (SR105_4)) (cIfS g2_19 (cRegS (SR105_5)) (cSkipS))) (cSeqS (cRegS (SR105_6)) (cRetS)))))
def T105 : FnT := runG en2_2 (SF105) (resQ (qc (rT g2_4) qn))
theorem T105_ok : GoodF Tryz.prog ro0 okF 105 (T105) :=
 (good_k (n := 30) acc2 (lv [0, 1, 4, 5, 13, 19]) (rs := [ResultVar.tmp 4]) Tryz.func105 (by kernel_rfl) (by kernel_rfl) (by kernel_rfl) (by kernel_rfl) (by kernel_rfl) (by kernel_rfl) (by kernel_rfl) (by kernel_rfl) (by kernel_rfl)).enter en2_2_ok (by kernel_rfl)

/-- (*circheck/checker.Circuit).gateLiteral -/
def SR106_0 : RegS 2 := fun c t0 h0 =>
 fShal (.int .i64 0) fun v1 =>
 p2_4 t0 v1 fun t1 =>
 some (.normal, t1, h0)
def SR106_1 : RegS 2 := fun c t0 h0 =>
 kNil (g2_0 t0) h0 fun v2 h2 =>
 kFld 0 v2 h2 fun v3 h3 =>
 kLd v3 h3 fun v4 h4 =>
 kAdd (.int .i64 1) v4 h4 fun v5 h5 =>
 kNil (g2_0 t0) h5 fun v7 h7 =>
 kFld 1 v7 h7 fun v8 h8 =>
 kLd v8 h8 fun v9 h9 =>
 kLenSl v9 h9 fun v10 h10 =>
 kAdd v5 v10 h10 fun v11 h11 =>
 kAdd v11 (g2_1 t0) h11 fun v13 h13 =>
 kOf (vInt .mul (.int .i64 2) v13 h13) fun v14 h14 =>
 fShal v14 fun v15 =>
 p2_4 t0 v15 fun t1 =>
 some (.normal, t1, h14)
def SF106 : CodeS 2 :=
 cSeqS (cRegS (SR106_0)) (cSeqS (cRegS (SR106_1)) (cRetS))
def T106 : FnT := runG en2_2 (SF106) (resQ (qc (rT g2_4) qn))
theorem T106_ok : GoodF Tryz.prog ro0 okF 106 (T106) :=
 (good_k (n := 19) acc2 (lv [0, 1, 4]) (rs := [ResultVar.tmp 4]) Tryz.func106 (by kernel_rfl) (by kernel_rfl) (by kernel_rfl) (by kernel_rfl) (by kernel_rfl) (by kernel_rfl) (by kernel_rfl) (by kernel_rfl) (by kernel_rfl)).enter en2_2_ok (by kernel_rfl)

/-- (*circheck/checker.Circuit).latchLiteral -/
def SR107_0 : RegS 2 := fun c t0 h0 =>
 fShal (.int .i64 0) fun v1 =>
 p2_4 t0 v1 fun t1 =>
 some (.normal, t1, h0)
def SR107_1 : RegS 2 := fun c t0 h0 =>
 kNil (g2_0 t0) h0 fun v2 h2 =>
 kFld 0 v2 h2 fun v3 h3 =>
 kLd v3 h3 fun v4 h4 =>
 kAdd (.int .i64 1) v4 h4 fun v5 h5 =>
 kAdd v5 (g2_1 t0) h5 fun v7 h7 =>
 kOf (vInt .mul (.int .i64 2) v7 h7) fun v8 h8 =>
 fShal v8 fun v9 =>
 p2_4 t0 v9 fun t1 =>
 some (.normal, t1, h8)
def SF107 : CodeS 2 :=
 cSeqS (cRegS (SR107_0)) (cSeqS (cRegS (SR107_1)) (cRetS))
def T107 : FnT := runG en2_2 (SF107) (resQ (qc (rT g2_4) qn))
theorem T107_ok : GoodF Tryz.prog ro0 okF 107 (T107) :=
 (good_k (n := 13) acc2 (lv [0, 1, 4]) (rs := [ResultVar.tmp 4]) Tryz.func107 (by kernel_rfl) (by kernel_rfl) (by kernel_rfl) (by kernel_rfl) (by kernel_rfl) (by kernel_rfl) (by kernel_rfl) (by kernel_rfl) (by kernel_rfl)).enter en2_2_ok (by kernel_rfl)

/-- (*circheck/checker.run).ask -/
def SR108_0 : RegS 2 := fun c t0 h0 =>
 fShal (.int .i64 0) fun v1 =>
 p2_6 t0 v1 fun t1 =>
 some (.normal, t1, h0)
def SR108_1 : RegS 2 := fun c t0 h0 =>
 kNil (g2_0 t0) h0 fun v2 h2 =>
 kFld 3 v2 h2 fun v3 h3 =>
 kLd v3 h3 fun v4 h4 =>
 kIdx 2 v4 (g2_1 t0) h4 fun v6 h6 =>
 kFld 0 v6 h6 fun v7 h7 =>
 kLd v7 h7 fun v8 h8 =>
 fShal v8 fun v9 =>
 p2_7 t0 v9 fun t1 =>
 some (.normal, t1, h8)
def SR108_2 : RegS 2 := fun c t0 h0 =>
 kOf (c 146 [(g2_7 t0)] h0) fun v2 h2 =>
 fShal v2 fun v3 =>
 p2_8 t0 v3 fun t1 =>
 some (.normal, t1, h2)
def SR108_3 : RegS 2 := fun c t0 h0 =>
 kNil (g2_0 t0) h0 fun v4 h4 =>
 kFld 1 v4 h4 fun v5 h5 =>
 kLd v5 h5 fun v6 h6 =>
 kNil (g2_0 t0) h6 fun v8 h8 =>
 kFld 2 v8 h8 fun v9 h9 =>
 kLd v9 h9 fun v10 h10 =>
 kSub v6 v10 h10 fun v11 h11 =>
 kOf (c 160 [(g2_7 t0), (g2_2 t0), v11] h11) fun v12 h12 =>
 fShal v12 fun v13 =>
 p2_9 t0 v13 fun t1 =>
 some (.normal, t1, h12)
def SR108_4 : RegS 2 := fun c t0 h0 =>
 kNil (g2_0 t0) h0 fun v2 h2 =>
 kFld 2 v2 h2 fun v3 h3 =>
 kLd v3 h3 fun v4 h4 =>
 kOf (c 146 [(g2_7 t0)] h4) fun v6 h6 =>
 kSub v6 (g2_8 t0) h6 fun v8 h8 =>
 kAdd v4 v8 h8 fun v9 h9 =>
 kNil (g2_0 t0) h9 fun v10 h10 =>
 kFld 2 v10 h10 fun v11 h11 =>
 kSt ro0 v11 v9 h11 fun _ h12 =>
 some (.normal, t0, h12)
def SR108_5 : RegS 2 := fun c t0 h0 =>
 kNil (g2_0 t0) h0 fun v2 h2 =>
 kFld 2 v2 h2 fun v3 h3 =>
 kLd v3 h3 fun v4 h4 =>
 kNil (g2_0 t0) h4 fun v6 h6 =>
 kFld 1 v6 h6 fun v7 h7 =>
 kLd v7 h7 fun v8 h8 =>
 kGtr v4 v8 h8 fun v9 h9 =>
 p2_51 t0 v9 fun t1 =>
 some (.normal, t1, h9)
def SR108_6 : RegS 2 := fun c t0 h0 =>
 fShal (.int .i64 3) fun v1 =>
 p2_6 t0 v1 fun t1 =>
 some (.normal, t1, h0)
def SR108_7 : RegS 2 := fun c t0 h0 =>
 fShal (g2_9 t0) fun v2 =>
 p2_6 t0 v2 fun t1 =>
 some (.normal, t1, h0)
def SF108 : CodeS 2 :=
 cSeqS (cRegS (SR108_0)) (cSeqS (cRegS (SR108_1)) (cSeqS (cRegS (SR108_2)) (cSeqS (cRegS (SR108_3)) (cSeqS (cRegS (SR108_4)) (cSeqS (cSeqS (cRegS (SR108_5)) (cIfS g2_51 (cSeqS (cRegS (SR108_6)) (cRetS)) (cSkipS))) (cSeqS (cRegS (SR108_7)) (cRetS)))))))
def T108 : FnT := runG en2_3 (SF108) (resQ (qc (rT g2_6) qn))
theorem T108_ok : GoodF Tryz.prog ro0 okF 108 (T108) :=
 (good_k (n := 53) acc2 (lv [0, 1, 2, 6, 7, 8, 9, 51]) (rs := [ResultVar.tmp 6]) Tryz.func108 (by kernel_rfl) (by kernel_rfl) (by kernel_rfl) (by kernel_rfl) (by kernel_rfl) (by kernel_rfl) (by kernel_rfl) (by kernel_rfl) (by kernel_rfl)).enter en2_3_ok (by kernel_rfl)

/-- (*circheck/checker.run).lengthen -/
def SR109_0 : RegS 2 := fun c t0 h0 =>
 kNil (g2_0 t0) h0 fun v2 h2 =>
 kFld 3 v2 h2 fun v3 h3 =>
 kLd v3 h3 fun v4 h4 =>
 kIdx 2 v4 (g2_1 t0) h4 fun v6 h6 =>
 kNil (g2_0 t0) h6 fun v8 h8 =>
 kFld 0 v8 h8 fun v9 h9 =>
 kLd v9 h9 fun v10 h10 =>
 kOf (c 161 [v6, v10] h10) fun v11 h11 =>
 kNew [.int .i64 0, .int .i64 0] h11 fun v12 h12 =>
 p2_4 t0 v12 fun t1 =>
 kAny (aSt tO ro0 2 (.const v12) (.const v11)) c h12 fun _ h13 =>
 some (.normal, t1, h13)
def SR109_1 : RegS 2 := fun c t0 h0 =>
 kNil (g2_0 t0) h0 fun v3 h3 =>
 kFld 4 v3 h3 fun v4 h4 =>
 kLd v4 h4 fun v5 h5 =>
 kOf (vLdN 2 (g2_4 t0) h5) fun v6 h6 =>
 kMkSl 2 1 #[.int .i64 0, .int .i64 0] [(0, v6)] h6 fun v7 h7 =>
 kOf (vApp ro0 2 16 v5 v7 h7) fun v8 h8 =>
 kNil (g2_0 t0) h8 fun v9 h9 =>
 kFld 4 v9 h9 fun v10 h10 =>
 kSt ro0 v10 v8 h10 fun _ h11 =>
 some (.normal, t0, h11)
def SR109_2 : RegS 2 := fun c t0 h0 =>
 kNil (g2_0 t0) h0 fun v2 h2 =>
 kFld 2 v2 h2 fun v3 h3 =>
 kLd v3 h3 fun v4 h4 =>
 kAdd v4 (.int .i64 1) h4 fun v5 h5 =>
 kNil (g2_0 t0) h5 fun v6 h6 =>
 kFld 2 v6 h6 fun v7 h7 =>
 kSt ro0 v7 v5 h7 fun _ h8 =>
 some (.normal, t0, h8)
def SF109 : CodeS 2 :=
 cSeqS (cRegS (SR109_0)) (cSeqS (cRegS (SR109_1)) (cRegS (SR109_2)))
def T109 : FnT := runG en2_2 (SF109) (resQ qn)
theorem T109_ok : GoodF Tryz.prog ro0 okF 109 (T109) :=
 (good_k (n := 33) acc2 (lv [0, 1, 4]) (rs := []) Tryz.func109 (by kernel_rfl) (by kernel_rfl) (by kernel_rfl) (by kernel_rfl) (by kernel_rfl) (by kernel_rfl) (by kernel_rfl) (by kernel_rfl) (by kernel_rfl)).enter en2_2_ok (by kernel_rfl)

/-- (*circheck/checker.run).bar -/
def SR110_0 : RegS 3 := fun c t0 h0 =>
 fShal (.int .i64 0) fun v1 =>
 p3_2 t0 v1 fun t1 =>
 some (.normal, t1, h0)
def SR110_1 : RegS 3 := fun c t0 h0 =>
 kNil (g3_0 t0) h0 fun v2 h2 =>
 kFld 4 v2 h2 fun v3 h3 =>
 kLd v3 h3 fun v4 h4 =>
 kLenSl v4 h4 fun v5 h5 =>
 kGtr v5 (.int .i64 0) h5 fun v6 h6 =>
 p3_15 t0 v6 fun t1 =>
 some (.normal, t1, h6)
def SR110_2 : RegS 3 := fun c t0 h0 =>
 kNil (g3_0 t0) h0 fun v2 h2 =>
 kFld 2 v2 h2 fun v3 h3 =>
 kLd v3 h3 fun v4 h4 =>
 kNil (g3_0 t0) h4 fun v6 h6 =>
 kFld 1 v6 h6 fun v7 h7 =>
 kLd v7 h7 fun v8 h8 =>
 kGtr v4 v8 h8 fun v9 h9 =>
 p3_24 t0 v9 fun t1 =>
 some (.normal, t1, h9)
def SR110_3 : RegS 3 := fun c t0 h0 =>
 fShal (.int .i64 3) fun v1 =>
 p3_2 t0 v1 fun t1 =>
 some (.normal, t1, h0)
def SR110_4 : RegS 3 := fun c t0 h0 =>
 kNil (g3_0 t0) h0 fun v2 h2 =>
 kFld 3 v2 h2 fun v3 h3 =>
 kLd v3 h3 fun v4 h4 =>
 kLenSl v4 h4 fun v5 h5 =>
 kNil (g3_0 t0) h5 fun v7 h7 =>
 kFld 4 v7 h7 fun v8 h8 =>
 kLd v8 h8 fun v9 h9 =>
 kLenSl v9 h9 fun v10 h10 =>
 kSub v5 v10 h10 fun v11 h11 =>
 fShal v11 fun v12 =>
 p3_3 t0 v12 fun t1 =>
 some (.normal, t1, h11)
def SR110_5 : RegS 3 := fun c t0 h0 =>
 kNil (g3_0 t0) h0 fun v2 h2 =>
 kFld 4 v2 h2 fun v3 h3 =>
 kLd v3 h3 fun v4 h4 =>
 kNil (g3_0 t0) h4 fun v6 h6 =>
 kFld 4 v6 h6 fun v7 h7 =>
 kLd v7 h7 fun v8 h8 =>
 kLenSl v8 h8 fun v9 h9 =>
 kSub v9 (.int .i64 1) h9 fun v10 h10 =>
 kIdx 2 v4 v10 h10 fun v11 h11 =>
 kFld 0 v11 h11 fun v12 h12 =>
 kLd v12 h12 fun v13 h13 =>
 fShal v13 fun v14 =>
 p3_4 t0 v14 fun t1 =>
 some (.normal, t1, h13)
def SR110_6 : RegS 3 := fun c t0 h0 =>
 kLeq (g3_3 t0) (.int .i64 0) h0 fun v2 h2 =>
 kIf v2 false (fun k => k (g3_0 t0) h2) h2 fun v4 h4 =>
 kIf v2 false (fun k => kNil v4 h4 k) h4 fun v5 h5 =>
 kIf v2 false (fun k => kFld 0 v5 h5 k) h5 fun v6 h6 =>
 kIf v2 false (fun k => kLd v6 h6 k) h6 fun v7 h7 =>
 kIf v2 false (fun k => k (g3_4 t0) h7) h7 fun v8 h8 =>
 kIf v2 false (fun k => kOf (c 139 [v7, v8] h8) k) h8 fun v9 h9 =>
 kPick v2 (.bool true) v9 h9 fun v10 h10 =>
 p3_58 t0 v10 fun t1 =>
 some (.normal, t1, h10)
def SR110_7 : RegS 3 := fun c t0 h0 =>
 fShal (.int .i64 2) fun v1 =>
 p3_2 t0 v1 fun t1 =>
 some (.normal, t1, h0)
def SR110_8 : RegS 3 := fun c t0 h0 =>
 kNil (g3_0 t0) h0 fun v2 h2 =>
 kFld 0 v2 h2 fun v3 h3 =>
 kLd v3 h3 fun v4 h4 =>
 kOf (c 162 [v4, (g3_4 t0)] h4) fun v6 h6 =>
 fShal v6 fun v7 =>
 p3_5 t0 v7 fun t1 =>
 some (.normal, t1, h6)
def SR110_9 : RegS 3 := fun c t0 h0 =>
 kNil (g3_0 t0) h0 fun v2 h2 =>
 kFld 0 v2 h2 fun v3 h3 =>
 kLd v3 h3 fun v4 h4 =>
 kOf (c 163 [v4, (g3_5 t0)] h4) fun v6 h6 =>
 fShal v6 fun v7 =>
 p3_6 t0 v7 fun t1 =>
 some (.normal, t1, h6)
def SR110_10 : RegS 3 := fun c t0 h0 =>
 kSub (g3_3 t0) (.int .i64 1) h0 fun v3 h3 =>
 kOf (c 108 [(g3_0 t0), v3, (g3_6 t0)] h3) fun v5 h5 =>
 fShal v5 fun v6 =>
 p3_7 t0 v6 fun t1 =>
 some (.normal, t1, h5)
def SR110_11 : RegS 3 := fun c t0 h0 =>
 fShal (g3_7 t0) fun v1 =>
 p3_76 t0 v1 fun t1 =>
 some (.normal, t1, h0)
def SR110_12 : RegS 3 := fun c t0 h0 =>
 kEql (g3_76 t0) (.int .i64 3) h0 fun v1 h1 =>
 fShal v1 fun v2 =>
 p3_77 t0 v2 fun t1 =>
 some (.normal, t1, h1)
def SR110_13 : RegS 3 := fun c t0 h0 =>
 fShal (.int .i64 3) fun v1 =>
 p3_2 t0 v1 fun t1 =>
 some (.normal, t1, h0)
def SR110_14 : RegS 3 := fun c t0 h0 =>
 kEql (g3_76 t0) (.int .i64 1) h0 fun v1 h1 =>
 fShal v1 fun v2 =>
 p3_79 t0 v2 fun t1 =>
 some (.normal, t1, h1)
def SR110_15 : RegS 3 := fun c t0 h0 =>
 kSub (g3_3 t0) (.int .i64 1) h0 fun v3 h3 =>
 kOf (c 109 [(g3_0 t0), v3] h3) fun v4 h4 =>
 some (.normal, t0, h4)
def SR110_16 : RegS 3 := fun c t0 h0 =>
 kEql (g3_76 t0) (.int .i64 2) h0 fun v1 h1 =>
 fShal v1 fun v2 =>
 p3_85 t0 v2 fun t1 =>
 some (.normal, t1, h1)
def SR110_17 : RegS 3 := fun c t0 h0 =>
 kNil (g3_0 t0) h0 fun v2 h2 =>
 kFld 3 v2 h2 fun v3 h3 =>
 kLd v3 h3 fun v4 h4 =>
 kSub (g3_3 t0) (.int .i64 1) h4 fun v6 h6 =>
 kIdx 2 v4 v6 h6 fun v7 h7 =>
 kFld 0 v7 h7 fun v8 h8 =>
 kLd v8 h8 fun v9 h9 =>
 kOf (c 145 [v9] h9) fun v10 h10 =>
 fShal v10 fun v11 =>
 p3_8 t0 v11 fun t1 =>
 some (.normal, t1, h10)
def SR110_18 : RegS 3 := fun c t0 h0 =>
 kNil (g3_0 t0) h0 fun v2 h2 =>
 kFld 0 v2 h2 fun v3 h3 =>
 kLd v3 h3 fun v4 h4 =>
 kOf (c 164 [v4, (g3_5 t0), (g3_8 t0)] h4) fun v7 h7 =>
 fShal v7 fun v8 =>
 p3_9 t0 v8 fun t1 =>
 some (.normal, t1, h7)
def SR110_19 : RegS 3 := fun c t0 h0 =>
 kOf (c 165 [(g3_0 t0), (g3_3 t0), (g3_9 t0)] h0) fun v4 h4 =>
 some (.normal, t0, h4)
def SR110_20 : RegS 3 := fun c t0 h0 =>
 kNil (g3_0 t0) h0 fun v3 h3 =>
 kFld 4 v3 h3 fun v4 h4 =>
 kLd v4 h4 fun v5 h5 =>
 kNil (g3_0 t0) h5 fun v7 h7 =>
 kFld 4 v7 h7 fun v8 h8 =>
 kLd v8 h8 fun v9 h9 =>
 kLenSl v9 h9 fun v10 h10 =>
 kSub v10 (.int .i64 1) h10 fun v11 h11 =>
 kAny (aSliceSl 2 (.const v5) none (some (.const v11))) c h11 fun v12 h12 =>
 kNil (g3_0 t0) h12 fun v13 h13 =>
 kFld 4 v13 h13 fun v14 h14 =>
 kSt ro0 v14 v12 h14 fun _ h15 =>
 some (.normal, t0, h15)
def SR110_21 : RegS 3 := fun c t0 h0 =>
 fShal (.int .i64 0) fun v1 =>
 p3_2 t0 v1 fun t1 =>
 some (.normal, t1, h0)
def SW110_0 : CodeS 3 :=
 cSeqS (cSeqS (cRegS (SR110_1)) (cIfS g3_15 (cSkipS) (cExitS 0))) (cBlkS 1 (cSeqS (cSeqS (cRegS (SR110_2)) (cIfS g3_24 (cSeqS (cRegS (SR110_3)) (cRetS)) (cSkipS))) (cSeqS (cRegS (SR110_4)) (cSeqS (cRegS (SR110_5)) (cSeqS (cSeqS (cRegS (SR110_6)) (cIfS g3_58 (cSeqS (cRegS (SR110_7)) (cRetS)) (cSkipS))) (cSeqS (cRegS (SR110_8)) (cSeqS (cRegS (SR110_9)) (cSeqS (cRegS (SR110_10)) (cSeqS (cRegS (SR110_11)) (cBlkS 2 (cSeqS (cRegS (SR110_12)) (cIfS g3_77 (cSeqS (cRegS (SR110_13)) (cRetS)) (cSeqS (cRegS (SR110_14)) (cIfS g3_79 (cRegS (SR110_15)) (cSeqS (cRegS (SR110_16)) (cIfS g3_85 (cSeqS (cRegS (SR110_17)) (cSeqS (cRegS (SR110_18)) (cSeqS (cRegS (SR110_19)) (cRegS (SR110_20))))) (cSkipS)))))))))))))))))
def SF110 : CodeS 3 :=
 cSeqS (cRegS (SR110_0)) (cSeqS (cBlkS 0 (cLoopS (SW110_0))) (cSeqS (cRegS (SR110_21)) (cRetS)))
def T110 : FnT := runG en3_1 (SF110) (resQ (qc (rT g3_2) qn))
theorem T110_ok : GoodF Tryz.prog ro0 okF 110 (T110) :=
 (good_k (n := 122) acc3 (lv [0, 2, 3, 4, 5, 6, 7, 8, 9, 15, 24, 58, 76, 77, 79, 85]) (rs := [ResultVar.tmp 2]) Tryz.func110 (by kernel_rfl) (by kernel_rfl) (by kernel_rfl) (by kernel_rfl) (by kernel_rfl) (by kernel_rfl) (by kernel_rfl) (by kernel_rfl) (by kernel_rfl)).enter en3_1_ok (by kernel_rfl)

/-- (*circheck/checker.run).carry -/
def SR111_0 : RegS 2 := fun c t0 h0 =>
 fShal (.int .i64 0) fun v1 =>
 p2_4 t0 v1 fun t1 =>
 some (.normal, t1, h0)
def SR111_1 : RegS 2 := fun c t0 h0 =>
 kNil (g2_0 t0) h0 fun v2 h2 =>
 kFld 3 v2 h2 fun v3 h3 =>
 kLd v3 h3 fun v4 h4 =>
 kIdx 2 v4 (g2_1 t0) h4 fun v6 h6 =>
 kFld 1 v6 h6 fun v7 h7 =>
 kLd v7 h7 fun v8 h8 =>
 kLenSl v8 h8 fun v9 h9 =>
 kGtr v9 (.int .i64 0) h9 fun v10 h10 =>
 p2_17 t0 v10 fun t1 =>
 some (.normal, t1, h10)
def SR111_2 : RegS 2 := fun c t0 h0 =>
 kNil (g2_0 t0) h0 fun v2 h2 =>
 kFld 3 v2 h2 fun v3 h3 =>
 kLd v3 h3 fun v4 h4 =>
 kIdx 2 v4 (g2_1 t0) h4 fun v6 h6 =>
 kFld 1 v6 h6 fun v7 h7 =>
 kLd v7 h7 fun v8 h8 =>
 kIdx 1 v8 (.int .i64 0) h8 fun v9 h9 =>
 kLd v9 h9 fun v10 h10 =>
 fShal v10 fun v11 =>
 p2_5 t0 v11 fun t1 =>
 some (.normal, t1, h10)
def SR111_3 : RegS 2 := fun c t0 h0 =>
 kNil (g2_0 t0) h0 fun v2 h2 =>
 kFld 0 v2 h2 fun v3 h3 =>
 kLd v3 h3 fun v4 h4 =>
 kOf (c 163 [v4, (g2_5 t0)] h4) fun v6 h6 =>
 fShal v6 fun v7 =>
 p2_6 t0 v7 fun t1 =>
 some (.normal, t1, h6)
def SR111_4 : RegS 2 := fun c t0 h0 =>
 kOf (c 108 [(g2_0 t0), (g2_1 t0), (g2_6 t0)] h0) fun v4 h4 =>
 fShal v4 fun v5 =>
 p2_7 t0 v5 fun t1 =>
 some (.normal, t1, h4)
def SR111_5 : RegS 2 := fun c t0 h0 =>
 kNeq (g2_7 t0) (.int .i64 2) h0 fun v2 h2 =>
 p2_39 t0 v2 fun t1 =>
 some (.normal, t1, h2)
def SR111_6 : RegS 2 := fun c t0 h0 =>
 fShal (g2_7 t0) fun v2 =>
 p2_4 t0 v2 fun t1 =>
 some (.normal, t1, h0)
def SR111_7 : RegS 2 := fun c t0 h0 =>
 kAdd (g2_1 t0) (.int .i64 1) h0 fun v3 h3 =>
 kOf (c 165 [(g2_0 t0), v3, (g2_5 t0)] h3) fun v5 h5 =>
 some (.normal, t0, h5)
def SR111_8 : RegS 2 := fun c t0 h0 =>
 fShal (.int .i64 2) fun v1 =>
 p2_4 t0 v1 fun t1 =>
 some (.normal, t1, h0)
def SW111_0 : CodeS 2 :=
 cSeqS (cSeqS (cRegS (SR111_1)) (cIfS g2_17 (cSkipS) (cExitS 0))) (cBlkS 1 (cSeqS (cRegS (SR111_2)) (cSeqS (cRegS (SR111_3)) (cSeqS (cRegS (SR111_4)) (cSeqS (cSeqS (cRegS (SR111_5)) (cIfS g2_39 (cSeqS (cRegS (SR111_6)) (cRetS)) (cSkipS))) (cRegS (SR111_7)))))))
def SF111 : CodeS 2 :=
 cSeqS (cRegS (SR111_0)) (cSeqS (cBlkS 0 (cLoopS (SW111_0))) (cSeqS (cRegS (SR111_8)) (cRetS)))
def T111 : FnT := runG en2_2 (SF111) (resQ (qc (rT g2_4) qn))
theorem T111_ok : GoodF Tryz.prog ro0 okF 111 (T111) :=
 (good_k (n := 46) acc2 (lv [0, 1, 4, 5, 6, 7, 17, 39]) (rs := [ResultVar.tmp 4]) Tryz.func111 (by kernel_rfl) (by kernel_rfl) (by kernel_rfl) (by kernel_rfl) (by kernel_rfl) (by kernel_rfl) (by kernel_rfl) (by kernel_rfl) (by kernel_rfl)).enter en2_2_ok (by kernel_rfl)

/-- (*circheck/checker.run).clausesAbove -/
def SR112_0 : RegS 2 := fun c t0 h0 =>
 fShal (.slice none 0 0) fun v1 =>
 p2_4 t0 v1 fun t1 =>
 some (.normal, t1, h0)
def SR112_1 : RegS 2 := fun c t0 h0 =>
 kMkSl 1 0 #[.slice none 0 0] [] h0 fun v1 h1 =>
 fShal v1 fun v2 =>
 p2_5 t0 v2 fun t1 =>
 some (.normal, t1, h1)
def SR112_2 : RegS 2 := fun c t0 h0 =>
 kAdd (g2_1 t0) (.int .i64 1) h0 fun v2 h2 =>
 fShal v2 fun v3 =>
 p2_6 t0 v3 fun t1 =>
 some (.normal, t1, h2)
def SR112_3 : RegS 2 := fun c t0 h0 =>
 kNil (g2_0 t0) h0 fun v3 h3 =>
 kFld 3 v3 h3 fun v4 h4 =>
 kLd v4 h4 fun v5 h5 =>
 kLenSl v5 h5 fun v6 h6 =>
 kLss (g2_6 t0) v6 h6 fun v7 h7 =>
 p2_16 t0 v7 fun t1 =>
 some (.normal, t1, h7)
def SR112_5 : RegS 2 := fun c t0 h0 =>
 kNil (g2_0 t0) h0 fun v3 h3 =>
 kFld 3 v3 h3 fun v4 h4 =>
 kLd v4 h4 fun v5 h5 =>
 kIdx 2 v5 (g2_6 t0) h5 fun v7 h7 =>
 kFld 1 v7 h7 fun v8 h8 =>
 kLd v8 h8 fun v9 h9 =>
 kOf (vApp ro0 1 24 (g2_5 t0) v9 h9) fun v10 h10 =>
 fShal v10 fun v11 =>
 p2_5 t0 v11 fun t1 =>
 some (.normal, t1, h10)
def SR112_4 : RegS 2 := fun c t0 h0 =>
 kAdd (g2_6 t0) (.int .i64 1) h0 fun v2 h2 =>
 fShal v2 fun v3 =>
 p2_6 t0 v3 fun t1 =>
 some (.normal, t1, h2)
def SR112_6 : RegS 2 := fun c t0 h0 =>
 fShal (g2_5 t0) fun v2 =>
 p2_4 t0 v2 fun t1 =>
 some (.normal, t1, h0)
def SW112_0 : CodeS 2 :=
 cSeqS (cSeqS (cRegS (SR112_3)) (cIfS g2_16 (cSkipS) (cExitS 0))) (cSeqS (cBlkS 1 (cRegS (SR112_5))) (cRegS (SR112_4)))
def SF112 : CodeS 2 :=
 cSeqS (cRegS (SR112_0)) (cSeqS (cRegS (SR112_1)) (cSeqS (cSeqS (cRegS (SR112_2)) (cBlkS 0 (cLoopS (SW112_0)))) (cSeqS (cRegS (SR112_6)) (cRetS))))
def T112 : FnT := runG en2_2 (SF112) (resQ (qc (rT g2_4) qn))
theorem T112_ok : GoodF Tryz.prog ro0 okF 112 (T112) :=
 (good_k (n := 30) acc2 (lv [0, 1, 4, 5, 6, 16]) (rs := [ResultVar.tmp 4]) Tryz.func112 (by kernel_rfl) (by kernel_rfl) (by kernel_rfl) (by kernel_rfl) (by kernel_rfl) (by kernel_rfl) (by kernel_rfl) (by kernel_rfl) (by kernel_rfl)).enter en2_2_ok (by kernel_rfl)

/-- circheck/checker.clauseLine -/
def SR113_0 : RegS 2 := fun c t0 h0 =>
 fShal (.string { data := #[] }) fun v1 =>
 p2_2 t0 v1 fun t1 =>
 some (.normal, t1, h0)
def SR113_1 : RegS 2 := fun c t0 h0 =>
 fShal (.string { data := #[] }) fun v1 =>
 p2_3 t0 v1 fun t1 =>
 some (.normal, t1, h0)
def SR113_2 : RegS 2 := fun c t0 h0 =>
 fShal (.int .i64 0) fun v1 =>
 p2_4 t0 v1 fun t1 =>
 some (.normal, t1, h0)
def SR113_3 : RegS 2 := fun c t0 h0 =>
 kLenSl (g2_0 t0) h0 fun v3 h3 =>
 kLss (g2_4 t0) v3 h3 fun v4 h4 =>
 p2_8 t0 v4 fun t1 =>
 some (.normal, t1, h4)
def SR113_5 : RegS 2 := fun c t0 h0 =>
 kGtr (g2_4 t0) (.int .i64 0) h0 fun v2 h2 =>
 p2_12 t0 v2 fun t1 =>
 some (.normal, t1, h2)
def SR113_6 : RegS 2 := fun c t0 h0 =>
 kAny (aStr .add (.const (g2_3 t0)) (.const (.string { data := #[32] }))) c h0 fun v2 h2 =>
 fShal v2 fun v3 =>
 p2_3 t0 v3 fun t1 =>
 some (.normal, t1, h2)
def SR113_7 : RegS 2 := fun c t0 h0 =>
 kIdx 1 (g2_0 t0) (g2_4 t0) h0 fun v3 h3 =>
 kLd v3 h3 fun v4 h4 =>
 kOf (vInt .and v4 (.int .i64 1) h4) fun v5 h5 =>
 kEql v5 (.int .i64 1) h5 fun v6 h6 =>
 p2_20 t0 v6 fun t1 =>
 some (.normal, t1, h6)
def SR113_8 : RegS 2 := fun c t0 h0 =>
 kAny (aStr .add (.const (g2_3 t0)) (.const (.string { data := #[45] }))) c h0 fun v2 h2 =>
 fShal v2 fun v3 =>
 p2_3 t0 v3 fun t1 =>
 some (.normal, t1, h2)
def SR113_9 : RegS 2 := fun c t0 h0 =>
 kIdx 1 (g2_0 t0) (g2_4 t0) h0 fun v4 h4 =>
 kLd v4 h4 fun v5 h5 =>
 kAny (aShift .shr (.const v5) (.const (.int .u64 1))) c h5 fun v6 h6 =>
 kOf (c 166 [v6] h6) fun v7 h7 =>
 kAny (aStr .add (.const (.string { data := #[108] })) (.const v7)) c h7 fun v8 h8 =>
 kAny (aStr .add (.const (g2_3 t0)) (.const v8)) c h8 fun v9 h9 =>
 fShal v9 fun v10 =>
 p2_3 t0 v10 fun t1 =>
 some (.normal, t1, h9)
def SR113_4 : RegS 2 := fun c t0 h0 =>
 kAdd (g2_4 t0) (.int .i64 1) h0 fun v2 h2 =>
 fShal v2 fun v3 =>
 p2_4 t0 v3 fun t1 =>
 some (.normal, t1, h2)
def SR113_10 : RegS 2 := fun c t0 h0 =>
 kAny (aStr .add (.const (g2_3 t0)) (.const (.string { data := #[10] }))) c h0 fun v2 h2 =>
 fShal v2 fun v3 =>
 p2_2 t0 v3 fun t1 =>
 some (.normal, t1, h2)
def SW113_0 : CodeS 2 :=
 cSeqS (cSeqS (cRegS (SR113_3)) (cIfS g2_8 (cSkipS) (cExitS 0))) (cSeqS (cBlkS 1 (cSeqS (cSeqS (cRegS (SR113_5)) (cIfS g2_12 (cRegS (SR113_6)) (cSkipS))) (cSeqS (cSeqS (cRegS (SR113_7)) (cIfS g2_20 (cRegS (SR113_8)) (cSkipS))) (cRegS (SR113_9))))) (cRegS (SR113_4)))
def SF113 : CodeS 2 :=
 cSeqS (cRegS (SR113_0)) (cSeqS (cRegS (SR113_1)) (cSeqS (cSeqS (cRegS (SR113_2)) (cBlkS 0 (cLoopS (SW113_0)))) (cSeqS (cRegS (SR113_10)) (cRetS))))
def T113 : FnT := runG en2_1 (SF113) (resQ (qc (rT g2_2) qn))
theorem T113_ok : GoodF Tryz.prog ro0 okF 113 (T113) :=
 (good_k (n := 34) acc2 (lv [0, 2, 3, 4, 8, 12, 20]) (rs := [ResultVar.tmp 2]) Tryz.func113 (by kernel_rfl) (by kernel_rfl) (by kernel_rfl) (by kernel_rfl) (by kernel_rfl) (by kernel_rfl) (by kernel_rfl) (by kernel_rfl) (by kernel_rfl)).enter en2_1_ok (by kernel_rfl)

/-- circheck/checker.bitLine -/
def SR114_0 : RegS 2 := fun c t0 h0 =>
 fShal (.string { data := #[] }) fun v1 =>
 p2_4 t0 v1 fun t1 =>
 some (.normal, t1, h0)
def SR114_1 : RegS 2 := fun c t0 h0 =>
 fShal (.string { data := #[] }) fun v1 =>
 p2_5 t0 v1 fun t1 =>
 some (.normal, t1, h0)
def SR114_2 : RegS 2 := fun c t0 h0 =>
 fShal (.int .i64 0) fun v1 =>
 p2_6 t0 v1 fun t1 =>
 some (.normal, t1, h0)
def SR114_3 : RegS 2 := fun c t0 h0 =>
 kLss (g2_6 t0) (g2_1 t0) h0 fun v3 h3 =>
 p2_9 t0 v3 fun t1 =>
 some (.normal, t1, h3)
def SR114_5 : RegS 2 := fun c t0 h0 =>
 kAny (aShift .shr (.const (g2_0 t0)) (.const (g2_6 t0))) c h0 fun v4 h4 =>
 kOf (vInt .and v4 (.int .i64 1) h4) fun v5 h5 =>
 kOf (c 166 [v5] h5) fun v6 h6 =>
 kAny (aStr .add (.const (g2_5 t0)) (.const v6)) c h6 fun v7 h7 =>
 fShal v7 fun v8 =>
 p2_5 t0 v8 fun t1 =>
 some (.normal, t1, h7)
def SR114_4 : RegS 2 := fun c t0 h0 =>
 kAdd (g2_6 t0) (.int .i64 1) h0 fun v2 h2 =>
 fShal v2 fun v3 =>
 p2_6 t0 v3 fun t1 =>
 some (.normal, t1, h2)
def SR114_6 : RegS 2 := fun c t0 h0 =>
 kAny (aStr .add (.const (g2_5 t0)) (.const (.string { data := #[10] }))) c h0 fun v2 h2 =>
 fShal v2 fun v3 =>
 p2_4 t0 v3 fun t1 =>
 some (.normal, t1, h2)
def SW114_0 : CodeS 2 :=
 cSeqS (cSeqS (cRegS (SR114_3)) (cIfS g2_9 (cSkipS) (cExitS 0))) (cSeqS (cBlkS 1 (cRegS (SR114_5))) (cRegS (SR114_4)))
def SF114 : CodeS 2 :=
 cSeqS (cRegS (SR114_0)) (cSeqS (cRegS (SR114_1)) (cSeqS (cSeqS (cRegS (SR114_2)) (cBlkS 0 (cLoopS (SW114_0)))) (cSeqS (cRegS (SR114_6)) (cRetS))))
def T114 : FnT := runG en2_2 (SF114) (resQ (qc (rT g2_4) qn))
theorem T114_ok : GoodF Tryz.prog ro0 okF 114 (T114) :=
 (good_k (n := 21) acc2 (lv [0, 1, 4, 5, 6, 9]) (rs := [ResultVar.tmp 4]) Tryz.func114 (by kernel_rfl) (by kernel_rfl) (by kernel_rfl) (by kernel_rfl) (by kernel_rfl) (by kernel_rfl) (by kernel_rfl) (by kernel_rfl) (by kernel_rfl)).enter en2_2_ok (by kernel_rfl)

/-- circheck/circhecksays.num -/
def SR130_0 : RegS 2 := fun c t0 h0 =>
 fShal (.string { data := #[] }) fun v1 =>
 p2_2 t0 v1 fun t1 =>
 some (.normal, t1, h0)
def SR130_1 : RegS 2 := fun c t0 h0 =>
 kLss (g2_0 t0) (.int .i64 10) h0 fun v2 h2 =>
 p2_5 t0 v2 fun t1 =>
 some (.normal, t1, h2)
def SR130_2 : RegS 2 := fun c t0 h0 =>
 kAdd (.int .i64 48) (g2_0 t0) h0 fun v2 h2 =>
 kAny (aConv .u8 (.const v2)) c h2 fun v3 h3 =>
 kMkSl 1 1 #[.int .u8 0] [(0, v3)] h3 fun v4 h4 =>
 kAny (aB2S tO (.const v4)) c h4 fun v5 h5 =>
 fShal v5 fun v6 =>
 p2_2 t0 v6 fun t1 =>
 some (.normal, t1, h5)
def SR130_3 : RegS 2 := fun c t0 h0 =>
 kOf (vInt .quo (g2_0 t0) (.int .i64 10) h0) fun v2 h2 =>
 kOf (c 130 [v2] h2) fun v3 h3 =>
 fShal v3 fun v4 =>
 p2_3 t0 v4 fun t1 =>
 some (.normal, t1, h3)
def SR130_4 : RegS 2 := fun c t0 h0 =>
 kOf (vInt .rem (g2_0 t0) (.int .i64 10) h0) fun v3 h3 =>
 kAdd (.int .i64 48) v3 h3 fun v4 h4 =>
 kAny (aConv .u8 (.const v4)) c h4 fun v5 h5 =>
 kMkSl 1 1 #[.int .u8 0] [(0, v5)] h5 fun v6 h6 =>
 kAny (aB2S tO (.const v6)) c h6 fun v7 h7 =>
 kAny (aStr .add (.const (g2_3 t0)) (.const v7)) c h7 fun v8 h8 =>
 fShal v8 fun v9 =>
 p2_2 t0 v9 fun t1 =>
 some (.normal, t1, h8)
def SF130 : CodeS 2 :=
 cSeqS (cRegS (SR130_0)) (cSeqS (cSeqS (cRegS (SR130_1)) (cIfS g2_5 (cSeqS (cRegS (SR130_2)) (cRetS)) (cSkipS))) (cSeqS (cRegS (SR130_3)) (cSeqS (cRegS (SR130_4)) (cRetS))))
def T130 : FnT := runG en2_1 (SF130) (resQ (qc (rT g2_2) qn))
theorem T130_ok : GoodF Tryz.prog ro0 okF 130 (T130) :=
 (good_k (n := 22) acc2 (lv [0, 2, 3, 5]) (rs := [ResultVar.tmp 2]) Tryz.func130 (by kernel_rfl) (by kernel_rfl) (by kernel_rfl) (by kernel_rfl) (by kernel_rfl) (by kernel_rfl) (by kernel_rfl) (by kernel_rfl) (by kernel_rfl)).enter en2_1_ok (by kernel_rfl)

/-- (*circheck/checker.Circuit).Begins -/
def SR139_0 : RegS 2 := fun c t0 h0 =>
 fShal (.bool false) fun v1 =>
 p2_4 t0 v1 fun t1 =>
 some (.normal, t1, h0)
def SR139_1 : RegS 2 := fun c t0 h0 =>
 kPtrNil false (g2_0 t0) (.pointer none) h0 fun v2 h2 =>
 p2_8 t0 v2 fun t1 =>
 some (.normal, t1, h2)
def SR139_2 : RegS 2 := fun c t0 h0 =>
 fShal (.bool false) fun v1 =>
 p2_4 t0 v1 fun t1 =>
 some (.normal, t1, h0)
def SR139_3 : RegS 2 := fun c t0 h0 =>
 fShal (.int .i64 0) fun v1 =>
 p2_5 t0 v1 fun t1 =>
 some (.normal, t1, h0)
def SR139_4 : RegS 2 := fun c t0 h0 =>
 kNil (g2_0 t0) h0 fun v3 h3 =>
 kFld 1 v3 h3 fun v4 h4 =>
 kLd v4 h4 fun v5 h5 =>
 kLenSl v5 h5 fun v6 h6 =>
 kLss (g2_5 t0) v6 h6 fun v7 h7 =>
 p2_15 t0 v7 fun t1 =>
 some (.normal, t1, h7)
def SR139_6 : RegS 2 := fun c t0 h0 =>
 kNil (g2_0 t0) h0 fun v2 h2 =>
 kFld 1 v2 h2 fun v3 h3 =>
 kLd v3 h3 fun v4 h4 =>
 kIdx 2 v4 (g2_5 t0) h4 fun v6 h6 =>
 kFld 1 v6 h6 fun v7 h7 =>
 kLd v7 h7 fun v8 h8 =>
 fShal v8 fun v9 =>
 p2_6 t0 v9 fun t1 =>
 some (.normal, t1, h8)
def SR139_7 : RegS 2 := fun c t0 h0 =>
 kNeq (g2_6 t0) (.int .i64 2) h0 fun v2 h2 =>
 kIf v2 true (fun k => k (g2_6 t0) h2) h2 fun v4 h4 =>
 kIf v2 true (fun k => k (g2_1 t0) h4) h4 fun v5 h5 =>
 kIf v2 true (fun k => k (g2_5 t0) h5) h5 fun v6 h6 =>
 kIf v2 true (fun k => kAny (aShift .shr (.const v5) (.const v6)) c h6 k) h6 fun v7 h7 =>
 kIf v2 true (fun k => kOf (vInt .and v7 (.int .i64 1) h7) k) h7 fun v8 h8 =>
 kIf v2 true (fun k => kNeq v4 v8 h8 k) h8 fun v9 h9 =>
 kPick v2 v9 (.bool false) h9 fun v10 h10 =>
 p2_35 t0 v10 fun t1 =>
 some (.normal, t1, h10)
def SR139_8 : RegS 2 := fun c t0 h0 =>
 fShal (.bool false) fun v1 =>
 p2_4 t0 v1 fun t1 =>
 some (.normal, t1, h0)
def SR139_5 : RegS 2 := fun c t0 h0 =>
 kAdd (g2_5 t0) (.int .i64 1) h0 fun v2 h2 =>
 fShal v2 fun v3 =>
 p2_5 t0 v3 fun t1 =>
 some (.normal, t1, h2)
def SR139_9 : RegS 2 := fun c t0 h0 =>
 fShal (.bool true) fun v1 =>
 p2_4 t0 v1 fun t1 =>
 some (.normal, t1, h0)
def SW139_0 : CodeS 2 :=
 cSeqS (cSeqS (cRegS (SR139_4)) (cIfS g2_15 (cSkipS) (cExitS 0))) (cSeqS (cBlkS 1 (cSeqS (cRegS (SR139_6)) (cSeqS (cRegS (SR139_7)) (cIfS g2_35 (cSeqS (cRegS (SR139_8)) (cRetS)) (cSkipS))))) (cRegS (SR139_5)))
def SF139 : CodeS 2 :=
 cSeqS (cRegS (SR139_0)) (cSeqS (cSeqS (cRegS (SR139_1)) (cIfS g2_8 (cSeqS (cRegS (SR139_2)) (cRetS)) (cSkipS))) (cSeqS (cSeqS (cRegS (SR139_3)) (cBlkS 0 (cLoopS (SW139_0)))) (cSeqS (cRegS (SR139_9)) (cRetS))))
def T139 : FnT := runG en2_2 (SF139) (resQ (qc (rT g2_4) qn))
theorem T139_ok : GoodF Tryz.prog ro0 okF 139 (T139) :=
 (good_k (n := 36) acc2 (lv [0, 1, 4, 5, 6, 8, 15, 35]) (rs := [ResultVar.tmp 4]) Tryz.func139 (by kernel_rfl) (by kernel_rfl) (by kernel_rfl) (by kernel_rfl) (by kernel_rfl) (by kernel_rfl) (by kernel_rfl) (by kernel_rfl) (by kernel_rfl)).enter en2_2_ok (by kernel_rfl)

/-- (*circheck/checker.Solver).Core -/
def SR145_0 : RegS 2 := fun c t0 h0 =>
 fShal (.slice none 0 0) fun v1 =>
 p2_2 t0 v1 fun t1 =>
 some (.normal, t1, h0)
def SR145_1 : RegS 2 := fun c t0 h0 =>
 kPtrNil false (g2_0 t0) (.pointer none) h0 fun v2 h2 =>
 p2_4 t0 v2 fun t1 =>
 some (.normal, t1, h2)
def SR145_2 : RegS 2 := fun c t0 h0 =>
 fShal (.slice none 0 0) fun v1 =>
 p2_2 t0 v1 fun t1 =>
 some (.normal, t1, h0)
def SR145_3 : RegS 2 := fun c t0 h0 =>
 kNil (g2_0 t0) h0 fun v2 h2 =>
 kFld 3 v2 h2 fun v3 h3 =>
 kLd v3 h3 fun v4 h4 =>
 kOf (vApp ro0 1 8 (.slice none 0 0) v4 h4) fun v5 h5 =>
 fShal v5 fun v6 =>
 p2_2 t0 v6 fun t1 =>
 some (.normal, t1, h5)
def SF145 : CodeS 2 :=
 cSeqS (cRegS (SR145_0)) (cSeqS (cSeqS (cRegS (SR145_1)) (cIfS g2_4 (cSeqS (cRegS (SR145_2)) (cRetS)) (cSkipS))) (cSeqS (cRegS (SR145_3)) (cRetS)))
def T145 : FnT := runG en2_1 (SF145) (resQ (qc (rT g2_2) qn))
theorem T145_ok : GoodF Tryz.prog ro0 okF 145 (T145) :=
 (good_k (n := 10) acc2 (lv [0, 2, 4]) (rs := [ResultVar.tmp 2]) Tryz.func145 (by kernel_rfl) (by kernel_rfl) (by kernel_rfl) (by kernel_rfl) (by kernel_rfl) (by kernel_rfl) (by kernel_rfl) (by kernel_rfl) (by kernel_rfl)).enter en2_1_ok (by kernel_rfl)

/-- (*circheck/checker.Solver).Conflicts -/
def SR146_0 : RegS 2 := fun c t0 h0 =>
 fShal (.int .i64 0) fun v1 =>
 p2_2 t0 v1 fun t1 =>
 some (.normal, t1, h0)
def SR146_1 : RegS 2 := fun c t0 h0 =>
 kPtrNil false (g2_0 t0) (.pointer none) h0 fun v2 h2 =>
 p2_4 t0 v2 fun t1 =>
 some (.normal, t1, h2)
def SR146_2 : RegS 2 := fun c t0 h0 =>
 fShal (.int .i64 0) fun v1 =>
 p2_2 t0 v1 fun t1 =>
 some (.normal, t1, h0)
def SR146_3 : RegS 2 := fun c t0 h0 =>
 kNil (g2_0 t0) h0 fun v2 h2 =>
 kFld 4 v2 h2 fun v3 h3 =>
 kLd v3 h3 fun v4 h4 =>
 fShal v4 fun v5 =>
 p2_2 t0 v5 fun t1 =>
 some (.normal, t1, h4)
def SF146 : CodeS 2 :=
 cSeqS (cRegS (SR146_0)) (cSeqS (cSeqS (cRegS (SR146_1)) (cIfS g2_4 (cSeqS (cRegS (SR146_2)) (cRetS)) (cSkipS))) (cSeqS (cRegS (SR146_3)) (cRetS)))
def T146 : FnT := runG en2_1 (SF146) (resQ (qc (rT g2_2) qn))
theorem T146_ok : GoodF Tryz.prog ro0 okF 146 (T146) :=
 (good_k (n := 9) acc2 (lv [0, 2, 4]) (rs := [ResultVar.tmp 2]) Tryz.func146 (by kernel_rfl) (by kernel_rfl) (by kernel_rfl) (by kernel_rfl) (by kernel_rfl) (by kernel_rfl) (by kernel_rfl) (by kernel_rfl) (by kernel_rfl)).enter en2_1_ok (by kernel_rfl)

/-- circheck/checker.isDigit -/
def SR148_0 : RegS 2 := fun c t0 h0 =>
 fShal (.bool false) fun v1 =>
 p2_2 t0 v1 fun t1 =>
 some (.normal, t1, h0)
def SR148_1 : RegS 2 := fun c t0 h0 =>
 kGeq (g2_0 t0) (.int .i64 48) h0 fun v2 h2 =>
 kIf v2 true (fun k => k (g2_0 t0) h2) h2 fun v4 h4 =>
 kIf v2 true (fun k => kLeq v4 (.int .i64 57) h4 k) h4 fun v5 h5 =>
 kPick v2 v5 (.bool false) h5 fun v6 h6 =>
 fShal v6 fun v7 =>
 p2_2 t0 v7 fun t1 =>
 some (.normal, t1, h6)
def SF148 : CodeS 2 :=
 cSeqS (cRegS (SR148_0)) (cSeqS (cRegS (SR148_1)) (cRetS))
def T148 : FnT := runG en2_1 (SF148) (resQ (qc (rT g2_2) qn))
theorem T148_ok : GoodF Tryz.prog ro0 okF 148 (T148) :=
 (good_k (n := 9) acc2 (lv [0, 2]) (rs := [ResultVar.tmp 2]) Tryz.func148 (by kernel_rfl) (by kernel_rfl) (by kernel_rfl) (by kernel_rfl) (by kernel_rfl) (by kernel_rfl) (by kernel_rfl) (by kernel_rfl) (by kernel_rfl)).enter en2_1_ok (by kernel_rfl)

/-- (*circheck/checker.netlist).has -/
def SR149_0 : RegS 2 := fun c t0 h0 =>
 fShal (.bool false) fun v1 =>
 p2_4 t0 v1 fun t1 =>
 some (.normal, t1, h0)
def SR149_1 : RegS 2 := fun c t0 h0 =>
 kGeq (g2_1 t0) (.int .i64 0) h0 fun v2 h2 =>
 kIf v2 true (fun k => k (g2_1 t0) h2) h2 fun v4 h4 =>
 kIf v2 true (fun k => kAny (aShift .shr (.const v4) (.const (.int .u64 1))) c h4 k) h4 fun v5 h5 =>
 kIf v2 true (fun k => k (g2_0 t0) h5) h5 fun v6 h6 =>
 kIf v2 true (fun k => kNil v6 h6 k) h6 fun v7 h7 =>
 kIf v2 true (fun k => kFld 0 v7 h7 k) h7 fun v8 h8 =>
 kIf v2 true (fun k => kLd v8 h8 k) h8 fun v9 h9 =>
 kIf v2 true (fun k => kLenSl v9 h9 k) h9 fun v10 h10 =>
 kIf v2 true (fun k => kLss v5 v10 h10 k) h10 fun v11 h11 =>
 kPick v2 v11 (.bool false) h11 fun v12 h12 =>
 fShal v12 fun v13 =>
 p2_4 t0 v13 fun t1 =>
 some (.normal, t1, h12)
def SF149 : CodeS 2 :=
 cSeqS (cRegS (SR149_0)) (cSeqS (cRegS (SR149_1)) (cRetS))
def T149 : FnT := runG en2_2 (SF149) (resQ (qc (rT g2_4) qn))
theorem T149_ok : GoodF Tryz.prog ro0 okF 149 (T149) :=
 (good_k (n := 17) acc2 (lv [0, 1, 4]) (rs := [ResultVar.tmp 4]) Tryz.func149 (by kernel_rfl) (by kernel_rfl) (by kernel_rfl) (by kernel_rfl) (by kernel_rfl) (by kernel_rfl) (by kernel_rfl) (by kernel_rfl) (by kernel_rfl)).enter en2_2_ok (by kernel_rfl)

/-- (*circheck/checker.netlist).literal -/
def SR150_0 : RegS 2 := fun c t0 h0 =>
 kNew [.int .i64 0, .int .i64 0] h0 fun v1 h1 =>
 p2_4 t0 v1 fun t1 =>
 some (.normal, t1, h1)
def SR150_1 : RegS 2 := fun c t0 h0 =>
 kNil (g2_1 t0) h0 fun v2 h2 =>
 kFld 1 v2 h2 fun v3 h3 =>
 kLd v3 h3 fun v4 h4 =>
 fShal v4 fun v5 =>
 p2_5 t0 v5 fun t1 =>
 some (.normal, t1, h4)
def SR150_2 : RegS 2 := fun c t0 h0 =>
 kOf (c 87 [(g2_1 t0)] h0) fun v2 h2 =>
 fShal v2 fun v3 =>
 p2_6 t0 v3 fun t1 =>
 some (.normal, t1, h2)
def SR150_3 : RegS 2 := fun c t0 h0 =>
 kOf (c 149 [(g2_0 t0), (g2_6 t0)] h0) fun v3 h3 =>
 kNot v3 h3 fun v4 h4 =>
 p2_16 t0 v4 fun t1 =>
 some (.normal, t1, h4)
def SR150_4 : RegS 2 := fun c t0 h0 =>
 kOf (c 88 [(g2_1 t0), (.int .i64 7), (g2_5 t0)] h0) fun v3 h3 =>
 some (.normal, t0, h3)
def SR150_5 : RegS 2 := fun c t0 h0 =>
 kBuild #[.int .i64 0, .int .i64 0] [(0, 1), (1, 1)] [(0, (g2_6 t0)), (1, (g2_5 t0))] h0 fun v3 h3 =>
 kAny (aSt tO ro0 2 (.const (g2_4 t0)) (.const v3)) c h3 fun _ h4 =>
 some (.normal, t0, h4)
def SF150 : CodeS 2 :=
 cSeqS (cRegS (SR150_0)) (cSeqS (cRegS (SR150_1)) (cSeqS (cRegS (SR150_2)) (cSeqS (cSeqS (cRegS (SR150_3)) (cIfS g2_16 (cRegS (SR150_4)) (cSkipS))) (cSeqS (cRegS (SR150_5)) (cRetS)))))
def T150 : FnT := runG en2_2 (SF150) (resQ (qc (rN 2 g2_4) qn))
theorem T150_ok : GoodF Tryz.prog ro0 okF 150 (T150) :=
 (good_k (n := 23) acc2 (lv [0, 1, 4, 5, 6, 16]) (rs := [ResultVar.cell 4 132]) Tryz.func150 (by kernel_rfl) (by kernel_rfl) (by kernel_rfl) (by kernel_rfl) (by kernel_rfl) (by kernel_rfl) (by kernel_rfl) (by kernel_rfl) (by kernel_rfl)).enter en2_2_ok (by kernel_rfl)

/-- (*circheck/checker.reader).reset -/
def SR151_0 : RegS 2 := fun c t0 h0 =>
 fShal (.int .i64 0) fun v1 =>
 p2_4 t0 v1 fun t1 =>
 some (.normal, t1, h0)
def SR151_1 : RegS 2 := fun c t0 h0 =>
 kNil (g2_0 t0) h0 fun v2 h2 =>
 kFld 1 v2 h2 fun v3 h3 =>
 kLd v3 h3 fun v4 h4 =>
 fShal v4 fun v5 =>
 p2_5 t0 v5 fun t1 =>
 some (.normal, t1, h4)
def SR151_2 : RegS 2 := fun c t0 h0 =>
 kOf (c 87 [(g2_0 t0)] h0) fun v2 h2 =>
 p2_11 t0 v2 fun t1 =>
 some (.normal, t1, h2)
def SR151_3 : RegS 2 := fun c t0 h0 =>
 kEql (g2_11 t0) (.int .i64 0) h0 fun v1 h1 =>
 fShal v1 fun v2 =>
 p2_12 t0 v2 fun t1 =>
 some (.normal, t1, h1)
def SR151_4 : RegS 2 := fun c t0 h0 =>
 fShal (.int .i64 0) fun v1 =>
 p2_4 t0 v1 fun t1 =>
 some (.normal, t1, h0)
def SR151_5 : RegS 2 := fun c t0 h0 =>
 kEql (g2_11 t0) (.int .i64 1) h0 fun v1 h1 =>
 fShal v1 fun v2 =>
 p2_14 t0 v2 fun t1 =>
 some (.normal, t1, h1)
def SR151_6 : RegS 2 := fun c t0 h0 =>
 fShal (.int .i64 1) fun v1 =>
 p2_4 t0 v1 fun t1 =>
 some (.normal, t1, h0)
def SR151_7 : RegS 2 := fun c t0 h0 =>
 kEql (g2_11 t0) (g2_1 t0) h0 fun v2 h2 =>
 fShal v2 fun v3 =>
 p2_16 t0 v3 fun t1 =>
 some (.normal, t1, h2)
def SR151_8 : RegS 2 := fun c t0 h0 =>
 fShal (.int .i64 2) fun v1 =>
 p2_4 t0 v1 fun t1 =>
 some (.normal, t1, h0)
def SR151_9 : RegS 2 := fun c t0 h0 =>
 kOf (c 88 [(g2_0 t0), (.int .i64 9), (g2_5 t0)] h0) fun v3 h3 =>
 some (.normal, t0, h3)
def SR151_10 : RegS 2 := fun c t0 h0 =>
 fShal (.int .i64 0) fun v1 =>
 p2_4 t0 v1 fun t1 =>
 some (.normal, t1, h0)
def SF151 : CodeS 2 :=
 cSeqS (cRegS (SR151_0)) (cSeqS (cRegS (SR151_1)) (cSeqS (cSeqS (cRegS (SR151_2)) (cBlkS 0 (cSeqS (cRegS (SR151_3)) (cIfS g2_12 (cSeqS (cRegS (SR151_4)) (cRetS)) (cSeqS (cRegS (SR151_5)) (cIfS g2_14 (cSeqS (cRegS (SR151_6)) (cRetS)) (cSeqS (cRegS (SR151_7)) (cIfS g2_16 (cSeqS (cRegS (SR151_8)) (cRetS)) (cSkipS))))))))) (cSeqS (cRegS (SR151_9)) (cSeqS (cRegS (SR151_10)) (cRetS)))))
def T151 : FnT := runG en2_2 (SF151) (resQ (qc (rT g2_4) qn))
theorem T151_ok : GoodF Tryz.prog ro0 okF 151 (T151) :=
 (good_k (n := 22) acc2 (lv [0, 1, 4, 5, 11, 12, 14, 16]) (rs := [ResultVar.tmp 4]) Tryz.func151 (by kernel_rfl) (by kernel_rfl) (by kernel_rfl) (by kernel_rfl) (by kernel_rfl) (by kernel_rfl) (by kernel_rfl) (by kernel_rfl) (by kernel_rfl)).enter en2_2_ok (by kernel_rfl)

/-- (*circheck/checker.reader).difference -/
def SR152_0 : RegS 2 := fun c t0 h0 =>
 fShal (.int .i64 0) fun v1 =>
 p2_2 t0 v1 fun t1 =>
 some (.normal, t1, h0)
def SR152_1 : RegS 2 := fun c t0 h0 =>
 kOf (c 185 [(g2_0 t0), (.int .i64 256)] h0) fun v2 h2 =>
 fShal v2 fun v3 =>
 p2_3 t0 v3 fun t1 =>
 some (.normal, t1, h2)
def SR152_2 : RegS 2 := fun c t0 h0 =>
 kLss (g2_3 t0) (.int .i64 128) h0 fun v2 h2 =>
 p2_8 t0 v2 fun t1 =>
 some (.normal, t1, h2)
def SR152_3 : RegS 2 := fun c t0 h0 =>
 fShal (g2_3 t0) fun v2 =>
 p2_2 t0 v2 fun t1 =>
 some (.normal, t1, h0)
def SR152_4 : RegS 2 := fun c t0 h0 =>
 kOf (c 185 [(g2_0 t0), (.int .i64 128)] h0) fun v2 h2 =>
 fShal v2 fun v3 =>
 p2_4 t0 v3 fun t1 =>
 some (.normal, t1, h2)
def SR152_5 : RegS 2 := fun c t0 h0 =>
 kSub (g2_3 t0) (.int .i64 128) h0 fun v2 h2 =>
 kOf (vInt .mul (.int .i64 128) (g2_4 t0) h2) fun v4 h4 =>
 kAdd v2 v4 h4 fun v5 h5 =>
 fShal v5 fun v6 =>
 p2_2 t0 v6 fun t1 =>
 some (.normal, t1, h5)
def SF152 : CodeS 2 :=
 cSeqS (cRegS (SR152_0)) (cSeqS (cRegS (SR152_1)) (cSeqS (cSeqS (cRegS (SR152_2)) (cIfS g2_8 (cSeqS (cRegS (SR152_3)) (cRetS)) (cSkipS))) (cSeqS (cRegS (SR152_4)) (cSeqS (cRegS (SR152_5)) (cRetS)))))
def T152 : FnT := runG en2_1 (SF152) (resQ (qc (rT g2_2) qn))
theorem T152_ok : GoodF Tryz.prog ro0 okF 152 (T152) :=
 (good_k (n := 17) acc2 (lv [0, 2, 3, 4, 8]) (rs := [ResultVar.tmp 2]) Tryz.func152 (by kernel_rfl) (by kernel_rfl) (by kernel_rfl) (by kernel_rfl) (by kernel_rfl) (by kernel_rfl) (by kernel_rfl) (by kernel_rfl) (by kernel_rfl)).enter en2_1_ok (by kernel_rfl)

/-- (*circheck/checker.netlist).isGiven -/
def SR153_0 : RegS 2 := fun c t0 h0 =>
 fShal (.bool false) fun v1 =>
 p2_4 t0 v1 fun t1 =>
 some (.normal, t1, h0)
def SR153_1 : RegS 2 := fun c t0 h0 =>
 kOf (c 149 [(g2_0 t0), (g2_1 t0)] h0) fun v3 h3 =>
 kIf v3 true (fun k => k (g2_0 t0) h3) h3 fun v5 h5 =>
 kIf v3 true (fun k => kNil v5 h5 k) h5 fun v6 h6 =>
 kIf v3 true (fun k => kFld 0 v6 h6 k) h6 fun v7 h7 =>
 kIf v3 true (fun k => kLd v7 h7 k) h7 fun v8 h8 =>
 kIf v3 true (fun k => k (g2_1 t0) h8) h8 fun v9 h9 =>
 kIf v3 true (fun k => kAny (aShift .shr (.const v9) (.const (.int .u64 1))) c h9 k) h9 fun v10 h10 =>
 kIf v3 true (fun k => kIdx 1 v8 v10 h10 k) h10 fun v11 h11 =>
 kIf v3 true (fun k => kLd v11 h11 k) h11 fun v12 h12 =>
 kPick v3 v12 (.bool false) h12 fun v13 h13 =>
 fShal v13 fun v14 =>
 p2_4 t0 v14 fun t1 =>
 some (.normal, t1, h13)
def SF153 : CodeS 2 :=
 cSeqS (cRegS (SR153_0)) (cSeqS (cRegS (SR153_1)) (cRetS))
def T153 : FnT := runG en2_2 (SF153) (resQ (qc (rT g2_4) qn))
theorem T153_ok : GoodF Tryz.prog ro0 okF 153 (T153) :=
 (good_k (n := 18) acc2 (lv [0, 1, 4]) (rs := [ResultVar.tmp 4]) Tryz.func153 (by kernel_rfl) (by kernel_rfl) (by kernel_rfl) (by kernel_rfl) (by kernel_rfl) (by kernel_rfl) (by kernel_rfl) (by kernel_rfl) (by kernel_rfl)).enter en2_2_ok (by kernel_rfl)

/-- (*circheck/checker.reader).name -/
def SR154_0 : RegS 2 := fun c t0 h0 =>
 kNil (g2_0 t0) h0 fun v2 h2 =>
 kFld 1 v2 h2 fun v3 h3 =>
 kLd v3 h3 fun v4 h4 =>
 fShal v4 fun v5 =>
 p2_2 t0 v5 fun t1 =>
 some (.normal, t1, h4)
def SR154_1 : RegS 2 := fun c t0 h0 =>
 kOf (c 86 [(g2_0 t0)] h0) fun v2 h2 =>
 fShal v2 fun v3 =>
 p2_3 t0 v3 fun t1 =>
 some (.normal, t1, h2)
def SR154_2 : RegS 2 := fun c t0 h0 =>
 kNeq (g2_3 t0) (.int .i64 (-1)) h0 fun v2 h2 =>
 kIf v2 true (fun k => k (g2_3 t0) h2) h2 fun v4 h4 =>
 kIf v2 true (fun k => kNeq v4 (.int .i64 10) h4 k) h4 fun v5 h5 =>
 kPick v2 v5 (.bool false) h5 fun v6 h6 =>
 p2_15 t0 v6 fun t1 =>
 some (.normal, t1, h6)
def SR154_4 : RegS 2 := fun c t0 h0 =>
 kNil (g2_0 t0) h0 fun v2 h2 =>
 kFld 1 v2 h2 fun v3 h3 =>
 kLd v3 h3 fun v4 h4 =>
 kAdd v4 (.int .i64 1) h4 fun v5 h5 =>
 kNil (g2_0 t0) h5 fun v6 h6 =>
 kFld 1 v6 h6 fun v7 h7 =>
 kSt ro0 v7 v5 h7 fun _ h8 =>
 some (.normal, t0, h8)
def SR154_3 : RegS 2 := fun c t0 h0 =>
 kOf (c 86 [(g2_0 t0)] h0) fun v2 h2 =>
 fShal v2 fun v3 =>
 p2_3 t0 v3 fun t1 =>
 some (.normal, t1, h2)
def SR154_5 : RegS 2 := fun c t0 h0 =>
 kNil (g2_0 t0) h0 fun v2 h2 =>
 kFld 1 v2 h2 fun v3 h3 =>
 kLd v3 h3 fun v4 h4 =>
 kEql v4 (g2_2 t0) h4 fun v6 h6 =>
 p2_30 t0 v6 fun t1 =>
 some (.normal, t1, h6)
def SR154_6 : RegS 2 := fun c t0 h0 =>
 kNil (g2_0 t0) h0 fun v3 h3 =>
 kFld 1 v3 h3 fun v4 h4 =>
 kLd v4 h4 fun v5 h5 =>
 kOf (c 88 [(g2_0 t0), (.int .i64 2), v5] h5) fun v6 h6 =>
 some (.normal, t0, h6)
def SR154_7 : RegS 2 := fun c t0 h0 =>
 kOf (c 84 [(g2_0 t0), (.int .i64 10)] h0) fun v2 h2 =>
 some (.normal, t0, h2)
def SW154_0 : CodeS 2 :=
 cSeqS (cSeqS (cRegS (SR154_2)) (cIfS g2_15 (cSkipS) (cExitS 0))) (cSeqS (cBlkS 1 (cRegS (SR154_4))) (cRegS (SR154_3)))
def SF154 : CodeS 2 :=
 cSeqS (cRegS (SR154_0)) (cSeqS (cSeqS (cRegS (SR154_1)) (cBlkS 0 (cLoopS (SW154_0)))) (cSeqS (cSeqS (cRegS (SR154_5)) (cIfS g2_30 (cRegS (SR154_6)) (cSkipS))) (cRegS (SR154_7))))
def T154 : FnT := runG en2_1 (SF154) (resQ qn)
theorem T154_ok : GoodF Tryz.prog ro0 okF 154 (T154) :=
 (good_k (n := 39) acc2 (lv [0, 2, 3, 15, 30]) (rs := []) Tryz.func154 (by kernel_rfl) (by kernel_rfl) (by kernel_rfl) (by kernel_rfl) (by kernel_rfl) (by kernel_rfl) (by kernel_rfl) (by kernel_rfl) (by kernel_rfl)).enter en2_1_ok (by kernel_rfl)

/-- (*circheck/checker.order).lay -/
def SR155_0 : RegS 2 := fun c t0 h0 =>
 kAny (aShift .shr (.const (g2_1 t0)) (.const (.int .u64 1))) c h0 fun v2 h2 =>
 fShal v2 fun v3 =>
 p2_4 t0 v3 fun t1 =>
 some (.normal, t1, h2)
def SR155_1 : RegS 2 := fun c t0 h0 =>
 kLss (g2_4 t0) (.int .i64 0) h0 fun v2 h2 =>
 kIf v2 false (fun k => k (g2_4 t0) h2) h2 fun v4 h4 =>
 kIf v2 false (fun k => k (g2_0 t0) h4) h4 fun v5 h5 =>
 kIf v2 false (fun k => kNil v5 h5 k) h5 fun v6 h6 =>
 kIf v2 false (fun k => kFld 0 v6 h6 k) h6 fun v7 h7 =>
 kIf v2 false (fun k => kLd v7 h7 k) h7 fun v8 h8 =>
 kIf v2 false (fun k => kLenSl v8 h8 k) h8 fun v9 h9 =>
 kIf v2 false (fun k => kGeq v4 v9 h9 k) h9 fun v10 h10 =>
 kPick v2 (.bool true) v10 h10 fun v11 h11 =>
 p2_17 t0 v11 fun t1 =>
 some (.normal, t1, h11)
def SR155_2 : RegS 2 := fun c t0 h0 =>
 kNil (g2_0 t0) h0 fun v2 h2 =>
 kFld 0 v2 h2 fun v3 h3 =>
 kLd v3 h3 fun v4 h4 =>
 kNil (g2_0 t0) h4 fun v7 h7 =>
 kFld 1 v7 h7 fun v8 h8 =>
 kLd v8 h8 fun v9 h9 =>
 kIdx 1 v4 (g2_4 t0) h9 fun v10 h10 =>
 kSt ro0 v10 v9 h10 fun _ h11 =>
 some (.normal, t0, h11)
def SR155_3 : RegS 2 := fun c t0 h0 =>
 kNil (g2_0 t0) h0 fun v2 h2 =>
 kFld 1 v2 h2 fun v3 h3 =>
 kLd v3 h3 fun v4 h4 =>
 kAdd v4 (.int .i64 1) h4 fun v5 h5 =>
 kNil (g2_0 t0) h5 fun v6 h6 =>
 kFld 1 v6 h6 fun v7 h7 =>
 kSt ro0 v7 v5 h7 fun _ h8 =>
 some (.normal, t0, h8)
def SF155 : CodeS 2 :=
 cSeqS (cRegS (SR155_0)) (cSeqS (cSeqS (cRegS (SR155_1)) (cIfS g2_17 (cRetS) (cSkipS))) (cSeqS (cRegS (SR155_2)) (cRegS (SR155_3))))
def T155 : FnT := runG en2_2 (SF155) (resQ qn)
theorem T155_ok : GoodF Tryz.prog ro0 okF 155 (T155) :=
 (good_k (n := 35) acc2 (lv [0, 1, 4, 17]) (rs := []) Tryz.func155 (by kernel_rfl) (by kernel_rfl) (by kernel_rfl) (by kernel_rfl) (by kernel_rfl) (by kernel_rfl) (by kernel_rfl) (by kernel_rfl) (by kernel_rfl)).enter en2_2_ok (by kernel_rfl)

/-- (*circheck/checker.order).at -/
def SR156_0 : RegS 2 := fun c t0 h0 =>
 fShal (.int .i64 0) fun v1 =>
 p2_4 t0 v1 fun t1 =>
 some (.normal, t1, h0)
def SR156_1 : RegS 2 := fun c t0 h0 =>
 kAny (aShift .shr (.const (g2_1 t0)) (.const (.int .u64 1))) c h0 fun v2 h2 =>
 fShal v2 fun v3 =>
 p2_5 t0 v3 fun t1 =>
 some (.normal, t1, h2)
def SR156_2 : RegS 2 := fun c t0 h0 =>
 kLss (g2_5 t0) (.int .i64 0) h0 fun v2 h2 =>
 kIf v2 false (fun k => k (g2_5 t0) h2) h2 fun v4 h4 =>
 kIf v2 false (fun k => k (g2_0 t0) h4) h4 fun v5 h5 =>
 kIf v2 false (fun k => kNil v5 h5 k) h5 fun v6 h6 =>
 kIf v2 false (fun k => kFld 0 v6 h6 k) h6 fun v7 h7 =>
 kIf v2 false (fun k => kLd v7 h7 k) h7 fun v8 h8 =>
 kIf v2 false (fun k => kLenSl v8 h8 k) h8 fun v9 h9 =>
 kIf v2 false (fun k => kGeq v4 v9 h9 k) h9 fun v10 h10 =>
 kPick v2 (.bool true) v10 h10 fun v11 h11 =>
 p2_18 t0 v11 fun t1 =>
 some (.normal, t1, h11)
def SR156_3 : RegS 2 := fun c t0 h0 =>
 fShal (.int .i64 (-1)) fun v1 =>
 p2_4 t0 v1 fun t1 =>
 some (.normal, t1, h0)
def SR156_4 : RegS 2 := fun c t0 h0 =>
 kNil (g2_0 t0) h0 fun v2 h2 =>
 kFld 0 v2 h2 fun v3 h3 =>
 kLd v3 h3 fun v4 h4 =>
 kIdx 1 v4 (g2_5 t0) h4 fun v6 h6 =>
 kLd v6 h6 fun v7 h7 =>
 fShal v7 fun v8 =>
 p2_4 t0 v8 fun t1 =>
 some (.normal, t1, h7)
def SF156 : CodeS 2 :=
 cSeqS (cRegS (SR156_0)) (cSeqS (cRegS (SR156_1)) (cSeqS (cSeqS (cRegS (SR156_2)) (cIfS g2_18 (cSeqS (cRegS (SR156_3)) (cRetS)) (cSkipS))) (cSeqS (cRegS (SR156_4)) (cRetS))))
def T156 : FnT := runG en2_2 (SF156) (resQ (qc (rT g2_4) qn))
theorem T156_ok : GoodF Tryz.prog ro0 okF 156 (T156) :=
 (good_k (n := 26) acc2 (lv [0, 1, 4, 5, 18]) (rs := [ResultVar.tmp 4]) Tryz.func156 (by kernel_rfl) (by kernel_rfl) (by kernel_rfl) (by kernel_rfl) (by kernel_rfl) (by kernel_rfl) (by kernel_rfl) (by kernel_rfl) (by kernel_rfl)).enter en2_2_ok (by kernel_rfl)

/-- (*circheck/checker.Solver).haveAll -/
def SR157_0 : RegS 2 := fun c t0 h0 =>
 fShal (.bool false) fun v1 =>
 p2_4 t0 v1 fun t1 =>
 some (.normal, t1, h0)
def SR157_1 : RegS 2 := fun c t0 h0 =>
 fShal (.int .i64 0) fun v1 =>
 p2_5 t0 v1 fun t1 =>
 some (.normal, t1, h0)
def SR157_2 : RegS 2 := fun c t0 h0 =>
 kLenSl (g2_1 t0) h0 fun v3 h3 =>
 kLss (g2_5 t0) v3 h3 fun v4 h4 =>
 p2_9 t0 v4 fun t1 =>
 some (.normal, t1, h4)
def SR157_4 : RegS 2 := fun c t0 h0 =>
 kIdx 1 (g2_1 t0) (g2_5 t0) h0 fun v3 h3 =>
 kLd v3 h3 fun v4 h4 =>
 kLss v4 (.int .i64 0) h4 fun v5 h5 =>
 kIf v5 false (fun k => k (g2_1 t0) h5) h5 fun v7 h7 =>
 kIf v5 false (fun k => k (g2_5 t0) h7) h7 fun v8 h8 =>
 kIf v5 false (fun k => kIdx 1 v7 v8 h8 k) h8 fun v9 h9 =>
 kIf v5 false (fun k => kLd v9 h9 k) h9 fun v10 h10 =>
 kIf v5 false (fun k => k (g2_0 t0) h10) h10 fun v11 h11 =>
 kIf v5 false (fun k => kNil v11 h11 k) h11 fun v12 h12 =>
 kIf v5 false (fun k => kFld 0 v12 h12 k) h12 fun v13 h13 =>
 kIf v5 false (fun k => kLd v13 h13 k) h13 fun v14 h14 =>
 kIf v5 false (fun k => kLenSl v14 h14 k) h14 fun v15 h15 =>
 kIf v5 false (fun k => kOf (vInt .mul (.int .i64 2) v15 h15) k) h15 fun v16 h16 =>
 kIf v5 false (fun k => kGeq v10 v16 h16 k) h16 fun v17 h17 =>
 kPick v5 (.bool true) v17 h17 fun v18 h18 =>
 p2_29 t0 v18 fun t1 =>
 some (.normal, t1, h18)
def SR157_5 : RegS 2 := fun c t0 h0 =>
 fShal (.bool false) fun v1 =>
 p2_4 t0 v1 fun t1 =>
 some (.normal, t1, h0)
def SR157_3 : RegS 2 := fun c t0 h0 =>
 kAdd (g2_5 t0) (.int .i64 1) h0 fun v2 h2 =>
 fShal v2 fun v3 =>
 p2_5 t0 v3 fun t1 =>
 some (.normal, t1, h2)
def SR157_6 : RegS 2 := fun c t0 h0 =>
 fShal (.bool true) fun v1 =>
 p2_4 t0 v1 fun t1 =>
 some (.normal, t1, h0)
def SW157_0 : CodeS 2 :=
 cSeqS (cSeqS (cRegS (SR157_2)) (cIfS g2_9 (cSkipS) (cExitS 0))) (cSeqS (cBlkS 1 (cSeqS (cRegS (SR157_4)) (cIfS g2_29 (cSeqS (cRegS (SR157_5)) (cRetS)) (cSkipS)))) (cRegS (SR157_3)))
def SF157 : CodeS 2 :=
 cSeqS (cRegS (SR157_0)) (cSeqS (cSeqS (cRegS (SR157_1)) (cBlkS 0 (cLoopS (SW157_0)))) (cSeqS (cRegS (SR157_6)) (cRetS)))
def T157 : FnT := runG en2_2 (SF157) (resQ (qc (rT g2_4) qn))
theorem T157_ok : GoodF Tryz.prog ro0 okF 157 (T157) :=
 (good_k (n := 30) acc2 (lv [0, 1, 4, 5, 9, 29]) (rs := [ResultVar.tmp 4]) Tryz.func157 (by kernel_rfl) (by kernel_rfl) (by kernel_rfl) (by kernel_rfl) (by kernel_rfl) (by kernel_rfl) (by kernel_rfl) (by kernel_rfl) (by kernel_rfl)).enter en2_2_ok (by kernel_rfl)

/-- (*circheck/checker.Solver).distinct -/
def SR158_0 : RegS 2 := fun c t0 h0 =>
 fShal (.slice none 0 0) fun v1 =>
 p2_4 t0 v1 fun t1 =>
 some (.normal, t1, h0)
def SR158_1 : RegS 2 := fun c t0 h0 =>
 kNil (g2_0 t0) h0 fun v2 h2 =>
 kFld 0 v2 h2 fun v3 h3 =>
 kLd v3 h3 fun v4 h4 =>
 kLenSl v4 h4 fun v5 h5 =>
 kOf (vInt .mul (.int .i64 2) v5 h5) fun v6 h6 =>
 kAny (aMake tO 1 1 #[.bool false] (.const v6) (.const v6)) c h6 fun v7 h7 =>
 fShal v7 fun v8 =>
 p2_5 t0 v8 fun t1 =>
 some (.normal, t1, h7)
def SR158_2 : RegS 2 := fun c t0 h0 =>
 kMkSl 1 0 #[.int .i64 0] [] h0 fun v1 h1 =>
 fShal v1 fun v2 =>
 p2_6 t0 v2 fun t1 =>
 some (.normal, t1, h1)
def SR158_3 : RegS 2 := fun c t0 h0 =>
 fShal (.int .i64 0) fun v1 =>
 p2_7 t0 v1 fun t1 =>
 some (.normal, t1, h0)
def SR158_4 : RegS 2 := fun c t0 h0 =>
 kLenSl (g2_1 t0) h0 fun v3 h3 =>
 kLss (g2_7 t0) v3 h3 fun v4 h4 =>
 p2_19 t0 v4 fun t1 =>
 some (.normal, t1, h4)
def SR158_6 : RegS 2 := fun c t0 h0 =>
 kIdx 1 (g2_1 t0) (g2_7 t0) h0 fun v4 h4 =>
 kLd v4 h4 fun v5 h5 =>
 kIdx 1 (g2_5 t0) v5 h5 fun v6 h6 =>
 kLd v6 h6 fun v7 h7 =>
 kNot v7 h7 fun v8 h8 =>
 p2_29 t0 v8 fun t1 =>
 some (.normal, t1, h8)
def SR158_7 : RegS 2 := fun c t0 h0 =>
 kIdx 1 (g2_1 t0) (g2_7 t0) h0 fun v4 h4 =>
 kLd v4 h4 fun v5 h5 =>
 kIdx 1 (g2_5 t0) v5 h5 fun v6 h6 =>
 kSt ro0 v6 (.bool true) h6 fun _ h7 =>
 some (.normal, t0, h7)
def SR158_8 : RegS 2 := fun c t0 h0 =>
 kIdx 1 (g2_1 t0) (g2_7 t0) h0 fun v4 h4 =>
 kLd v4 h4 fun v5 h5 =>
 kMkSl 1 1 #[.int .i64 0] [(0, v5)] h5 fun v6 h6 =>
 kOf (vApp ro0 1 8 (g2_6 t0) v6 h6) fun v7 h7 =>
 fShal v7 fun v8 =>
 p2_6 t0 v8 fun t1 =>
 some (.normal, t1, h7)
def SR158_5 : RegS 2 := fun c t0 h0 =>
 kAdd (g2_7 t0) (.int .i64 1) h0 fun v2 h2 =>
 fShal v2 fun v3 =>
 p2_7 t0 v3 fun t1 =>
 some (.normal, t1, h2)
def SR158_9 : RegS 2 := fun c t0 h0 =>
 fShal (g2_6 t0) fun v2 =>
 p2_4 t0 v2 fun t1 =>
 some (.normal, t1, h0)
def SW158_0 : CodeS 2 :=
 cSeqS (cSeqS (cRegS (SR158_4)) (cIfS g2_19 (cSkipS) (cExitS 0))) (cSeqS (cBlkS 1 (cSeqS (cRegS (SR158_6)) (cIfS g2_29 (cSeqS (cRegS (SR158_7)) (cRegS (SR158_8))) (cSkipS)))) (cRegS (SR158_5)))
def SF158 : CodeS 2 :=
 cSeqS (cRegS (SR158_0)) (cSeqS (cRegS (SR158_1)) (cSeqS (cRegS (SR158_2)) (cSeqS (cSeqS (cRegS (SR158_3)) (cBlkS 0 (cLoopS (SW158_0)))) (cSeqS (cRegS (SR158_9)) (cRetS)))))
def T158 : FnT := runG en2_2 (SF158) (resQ (qc (rT g2_4) qn))
theorem T158_ok : GoodF Tryz.prog ro0 okF 158 (T158) :=
 (good_k (n := 44) acc2 (lv [0, 1, 4, 5, 6, 7, 19, 29]) (rs := [ResultVar.tmp 4]) Tryz.func158 (by kernel_rfl) (by kernel_rfl) (by kernel_rfl) (by kernel_rfl) (by kernel_rfl) (by kernel_rfl) (by kernel_rfl) (by kernel_rfl) (by kernel_rfl)).enter en2_2_ok (by kernel_rfl)

/-- circheck/checker.isAlwaysTrue -/
def SR159_0 : RegS 2 := fun c t0 h0 =>
 fShal (.bool false) fun v1 =>
 p2_2 t0 v1 fun t1 =>
 some (.normal, t1, h0)
def SR159_1 : RegS 2 := fun c t0 h0 =>
 fShal (.int .i64 0) fun v1 =>
 p2_3 t0 v1 fun t1 =>
 some (.normal, t1, h0)
def SR159_2 : RegS 2 := fun c t0 h0 =>
 kLenSl (g2_0 t0) h0 fun v3 h3 =>
 kLss (g2_3 t0) v3 h3 fun v4 h4 =>
 p2_8 t0 v4 fun t1 =>
 some (.normal, t1, h4)
def SR159_4 : RegS 2 := fun c t0 h0 =>
 fShal (.int .i64 0) fun v1 =>
 p2_4 t0 v1 fun t1 =>
 some (.normal, t1, h0)
def SR159_5 : RegS 2 := fun c t0 h0 =>
 kLss (g2_4 t0) (g2_3 t0) h0 fun v3 h3 =>
 p2_13 t0 v3 fun t1 =>
 some (.normal, t1, h3)
def SR159_7 : RegS 2 := fun c t0 h0 =>
 kIdx 1 (g2_0 t0) (g2_4 t0) h0 fun v3 h3 =>
 kLd v3 h3 fun v4 h4 =>
 kIdx 1 (g2_0 t0) (g2_3 t0) h4 fun v7 h7 =>
 kLd v7 h7 fun v8 h8 =>
 kOf (vInt .xor v8 (.int .i64 1) h8) fun v9 h9 =>
 kEql v4 v9 h9 fun v10 h10 =>
 p2_25 t0 v10 fun t1 =>
 some (.normal, t1, h10)
def SR159_8 : RegS 2 := fun c t0 h0 =>
 fShal (.bool true) fun v1 =>
 p2_2 t0 v1 fun t1 =>
 some (.normal, t1, h0)
def SR159_6 : RegS 2 := fun c t0 h0 =>
 kAdd (g2_4 t0) (.int .i64 1) h0 fun v2 h2 =>
 fShal v2 fun v3 =>
 p2_4 t0 v3 fun t1 =>
 some (.normal, t1, h2)
def SR159_3 : RegS 2 := fun c t0 h0 =>
 kAdd (g2_3 t0) (.int .i64 1) h0 fun v2 h2 =>
 fShal v2 fun v3 =>
 p2_3 t0 v3 fun t1 =>
 some (.normal, t1, h2)
def SR159_9 : RegS 2 := fun c t0 h0 =>
 fShal (.bool false) fun v1 =>
 p2_2 t0 v1 fun t1 =>
 some (.normal, t1, h0)
def SW159_0 : CodeS 2 :=
 cSeqS (cSeqS (cRegS (SR159_5)) (cIfS g2_13 (cSkipS) (cExitS 2))) (cSeqS (cBlkS 3 (cSeqS (cRegS (SR159_7)) (cIfS g2_25 (cSeqS (cRegS (SR159_8)) (cRetS)) (cSkipS)))) (cRegS (SR159_6)))
def SW159_1 : CodeS 2 :=
 cSeqS (cSeqS (cRegS (SR159_2)) (cIfS g2_8 (cSkipS) (cExitS 0))) (cSeqS (cBlkS 1 (cSeqS (cRegS (SR159_4)) (cBlkS 2 (cLoopS (SW159_0))))) (cRegS (SR159_3)))
def SF159 : CodeS 2 :=
 cSeqS (cRegS (SR159_0)) (cSeqS (cSeqS (cRegS (SR159_1)) (cBlkS 0 (cLoopS (SW159_1)))) (cSeqS (cRegS (SR159_9)) (cRetS)))
def T159 : FnT := runG en2_1 (SF159) (resQ (qc (rT g2_2) qn))
theorem T159_ok : GoodF Tryz.prog ro0 okF 159 (T159) :=
 (good_k (n := 26) acc2 (lv [0, 2, 3, 4, 8, 13, 25]) (rs := [ResultVar.tmp 2]) Tryz.func159 (by kernel_rfl) (by kernel_rfl) (by kernel_rfl) (by kernel_rfl) (by kernel_rfl) (by kernel_rfl) (by kernel_rfl) (by kernel_rfl) (by kernel_rfl)).enter en2_1_ok (by kernel_rfl)

/-- (*circheck/checker.Solver).Solve -/
def SR160_0 : RegS 3 := fun c t0 h0 =>
 fShal (.int .i64 0) fun v1 =>
 p3_6 t0 v1 fun t1 =>
 some (.normal, t1, h0)
def SR160_1 : RegS 3 := fun c t0 h0 =>
 kPtrNil false (g3_0 t0) (.pointer none) h0 fun v2 h2 =>
 kIf v2 false (fun k => k (g3_2 t0) h2) h2 fun v4 h4 =>
 kIf v2 false (fun k => kLss v4 (.int .i64 0) h4 k) h4 fun v5 h5 =>
 kPick v2 (.bool true) v5 h5 fun v6 h6 =>
 kIf v6 false (fun k => k (g3_0 t0) h6) h6 fun v8 h8 =>
 kIf v6 false (fun k => k (g3_1 t0) h8) h8 fun v9 h9 =>
 kIf v6 false (fun k => kOf (c 157 [v8, v9] h9) k) h9 fun v10 h10 =>
 kIf v6 false (fun k => kNot v10 h10 k) h10 fun v11 h11 =>
 kPick v6 (.bool true) v11 h11 fun v12 h12 =>
 p3_21 t0 v12 fun t1 =>
 some (.normal, t1, h12)
def SR160_2 : RegS 3 := fun c t0 h0 =>
 fShal (.int .i64 0) fun v1 =>
 p3_6 t0 v1 fun t1 =>
 some (.normal, t1, h0)
def SR160_3 : RegS 3 := fun c t0 h0 =>
 kOf (c 158 [(g3_0 t0), (g3_1 t0)] h0) fun v3 h3 =>
 fShal v3 fun v4 =>
 p3_7 t0 v4 fun t1 =>
 some (.normal, t1, h3)
def SR160_4 : RegS 3 := fun c t0 h0 =>
 kNil (g3_0 t0) h0 fun v2 h2 =>
 kFld 0 v2 h2 fun v3 h3 =>
 kLd v3 h3 fun v4 h4 =>
 kOf (c 186 [v4, (g3_7 t0)] h4) fun v6 h6 =>
 fShal v6 fun v7 =>
 p3_8 t0 v7 fun t1 =>
 some (.normal, t1, h6)
def SR160_5 : RegS 3 := fun c t0 h0 =>
 kNil (g3_0 t0) h0 fun v3 h3 =>
 kFld 1 v3 h3 fun v4 h4 =>
 kLd v4 h4 fun v5 h5 =>
 kOf (c 187 [(g3_8 t0), v5, (g3_2 t0)] h5) fun v7 h7 =>
 fShal v7 fun v8 =>
 p3_9 t0 v8 fun t1 =>
 some (.normal, t1, h7)
def SR160_6 : RegS 3 := fun c t0 h0 =>
 kNil (g3_0 t0) h0 fun v2 h2 =>
 kFld 4 v2 h2 fun v3 h3 =>
 kLd v3 h3 fun v4 h4 =>
 kNil (g3_8 t0) h4 fun v6 h6 =>
 kFld 11 v6 h6 fun v7 h7 =>
 kLd v7 h7 fun v8 h8 =>
 kAdd v4 v8 h8 fun v9 h9 =>
 kNil (g3_0 t0) h9 fun v10 h10 =>
 kFld 4 v10 h10 fun v11 h11 =>
 kSt ro0 v11 v9 h11 fun _ h12 =>
 some (.normal, t0, h12)
def SR160_7 : RegS 3 := fun c t0 h0 =>
 kNil (g3_0 t0) h0 fun v2 h2 =>
 kFld 2 v2 h2 fun v3 h3 =>
 kSt ro0 v3 (.slice none 0 0) h3 fun _ h4 =>
 some (.normal, t0, h4)
def SR160_8 : RegS 3 := fun c t0 h0 =>
 kNil (g3_0 t0) h0 fun v2 h2 =>
 kFld 3 v2 h2 fun v3 h3 =>
 kSt ro0 v3 (.slice none 0 0) h3 fun _ h4 =>
 some (.normal, t0, h4)
def SR160_9 : RegS 3 := fun c t0 h0 =>
 fShal (g3_9 t0) fun v1 =>
 p3_55 t0 v1 fun t1 =>
 some (.normal, t1, h0)
def SR160_10 : RegS 3 := fun c t0 h0 =>
 kEql (g3_55 t0) (.int .i64 1) h0 fun v1 h1 =>
 fShal v1 fun v2 =>
 p3_56 t0 v2 fun t1 =>
 some (.normal, t1, h1)
def SR160_11 : RegS 3 := fun c t0 h0 =>
 kOf (c 188 [(g3_8 t0)] h0) fun v3 h3 =>
 kNil (g3_0 t0) h3 fun v4 h4 =>
 kFld 2 v4 h4 fun v5 h5 =>
 kSt ro0 v5 v3 h5 fun _ h6 =>
 some (.normal, t0, h6)
def SR160_12 : RegS 3 := fun c t0 h0 =>
 kEql (g3_55 t0) (.int .i64 2) h0 fun v1 h1 =>
 fShal v1 fun v2 =>
 p3_63 t0 v2 fun t1 =>
 some (.normal, t1, h1)
def SR160_13 : RegS 3 := fun c t0 h0 =>
 kNil (g3_8 t0) h0 fun v3 h3 =>
 kFld 12 v3 h3 fun v4 h4 =>
 kLd v4 h4 fun v5 h5 =>
 kNil (g3_0 t0) h5 fun v6 h6 =>
 kFld 3 v6 h6 fun v7 h7 =>
 kSt ro0 v7 v5 h7 fun _ h8 =>
 some (.normal, t0, h8)
def SR160_14 : RegS 3 := fun c t0 h0 =>
 fShal (g3_9 t0) fun v2 =>
 p3_6 t0 v2 fun t1 =>
 some (.normal, t1, h0)
def SF160 : CodeS 3 :=
 cSeqS (cRegS (SR160_0)) (cSeqS (cSeqS (cRegS (SR160_1)) (cIfS g3_21 (cSeqS (cRegS (SR160_2)) (cRetS)) (cSkipS))) (cSeqS (cRegS (SR160_3)) (cSeqS (cRegS (SR160_4)) (cSeqS (cRegS (SR160_5)) (cSeqS (cRegS (SR160_6)) (cSeqS (cRegS (SR160_7)) (cSeqS (cRegS (SR160_8)) (cSeqS (cSeqS (cRegS (SR160_9)) (cBlkS 0 (cSeqS (cRegS (SR160_10)) (cIfS g3_56 (cRegS (SR160_11)) (cSeqS (cRegS (SR160_12)) (cIfS g3_63 (cRegS (SR160_13)) (cSkipS))))))) (cSeqS (cRegS (SR160_14)) (cRetS))))))))))
def T160 : FnT := runG en3_3 (SF160) (resQ (qc (rT g3_6) qn))
theorem T160_ok : GoodF Tryz.prog ro0 okF 160 (T160) :=
 (good_k (n := 73) acc3 (lv [0, 1, 2, 6, 7, 8, 9, 21, 55, 56, 63]) (rs := [ResultVar.tmp 6]) Tryz.func160 (by kernel_rfl) (by kernel_rfl) (by kernel_rfl) (by kernel_rfl) (by kernel_rfl) (by kernel_rfl) (by kernel_rfl) (by kernel_rfl) (by kernel_rfl)).enter en3_3_ok (by kernel_rfl)

/-- (*circheck/checker.frame).found -/
def SR161_0 : RegS 2 := fun c t0 h0 =>
 kNew [.int .i64 0, .int .i64 0] h0 fun v1 h1 =>
 p2_4 t0 v1 fun t1 =>
 some (.normal, t1, h1)
def SR161_1 : RegS 2 := fun c t0 h0 =>
 kNil (g2_1 t0) h0 fun v3 h3 =>
 kFld 0 v3 h3 fun v4 h4 =>
 kLd v4 h4 fun v5 h5 =>
 kOf (c 189 [(g2_0 t0), (.int .i64 1), v5] h5) fun v6 h6 =>
 fShal v6 fun v7 =>
 p2_5 t0 v7 fun t1 =>
 some (.normal, t1, h6)
def SR161_2 : RegS 2 := fun c t0 h0 =>
 kNil (g2_1 t0) h0 fun v3 h3 =>
 kFld 0 v3 h3 fun v4 h4 =>
 kLd v4 h4 fun v5 h5 =>
 kAdd (.int .i64 1) v5 h5 fun v6 h6 =>
 kNil (g2_1 t0) h6 fun v8 h8 =>
 kFld 1 v8 h8 fun v9 h9 =>
 kLd v9 h9 fun v10 h10 =>
 kLenSl v10 h10 fun v11 h11 =>
 kOf (c 189 [(g2_0 t0), v6, v11] h11) fun v12 h12 =>
 fShal v12 fun v13 =>
 p2_6 t0 v13 fun t1 =>
 some (.normal, t1, h12)
def SR161_3 : RegS 2 := fun c t0 h0 =>
 kBuild #[.int .i64 0, .int .i64 0] [(0, 1), (1, 1)] [(0, (g2_6 t0)), (1, (g2_5 t0))] h0 fun v3 h3 =>
 kAny (aSt tO ro0 2 (.const (g2_4 t0)) (.const v3)) c h3 fun _ h4 =>
 some (.normal, t0, h4)
def SF161 : CodeS 2 :=
 cSeqS (cRegS (SR161_0)) (cSeqS (cRegS (SR161_1)) (cSeqS (cRegS (SR161_2)) (cSeqS (cRegS (SR161_3)) (cRetS))))
def T161 : FnT := runG en2_2 (SF161) (resQ (qc (rN 2 g2_4) qn))
theorem T161_ok : GoodF Tryz.prog ro0 okF 161 (T161) :=
 (good_k (n := 28) acc2 (lv [0, 1, 4, 5, 6]) (rs := [ResultVar.cell 4 159]) Tryz.func161 (by kernel_rfl) (by kernel_rfl) (by kernel_rfl) (by kernel_rfl) (by kernel_rfl) (by kernel_rfl) (by kernel_rfl) (by kernel_rfl) (by kernel_rfl)).enter en2_2_ok (by kernel_rfl)
end Go.Proofs.YtimdkminagnhgaaGreatDoor
