/-
  The program itself for the kernel, function by function. Printed by program; the kernel checks each. Own work.
-/
import Derived.Test.YtimdkminagnhgabGreatDoorLsA
namespace Go.Proofs.YtimdkminagnhgabGreatDoor
open Go.Vm Go.Proofs
set_option linter.unusedVariables false
set_option maxRecDepth 100000

/-- (*circheck/checker.order).at -/
def SR121_0 : RegS 2 := fun c t0 h0 =>
 fShal (.int .i64 0) fun v1 =>
 p2_4 t0 v1 fun t1 =>
 some (.normal, t1, h0)
def SR121_1 : RegS 2 := fun c t0 h0 =>
 kAny (aShift .shr (.const (g2_1 t0)) (.const (.int .u64 1))) c h0 fun v2 h2 =>
 fShal v2 fun v3 =>
 p2_5 t0 v3 fun t1 =>
 some (.normal, t1, h2)
def SR121_2 : RegS 2 := fun c t0 h0 =>
 kLss (g2_5 t0) (.int .i64 0) h0 fun v2 h2 =>
 kIf v2 false (fun k => k (g2_5 t0) h2) h2 fun v4 h4 =>
 kIf v2 false (fun k => k (g2_0 t0) h4) h4 fun v5 h5 =>
 kIf v2 false (fun k => kNil v5 h5 k) h5 fun v6 h6 =>
 kIf v2 false (fun k => kFld 0 v6 h6 k) h6 fun v7 h7 =>
 kIf v2 false (fun k => kLd v7 h7 k) h7 fun v8 h8 =>
 kIf v2 false (fun k => kLenSl v8 h8 k) h8 fun v9 h9 =>
 kIf v2 false (fun k => kGeq v4 v9 h9 k) h9 fun v10 h10 =>
 kPick v2 (.bool true) v10 h10 fun v11 h11 =>
 p2_18 t0 v11 fun t1 =>
 some (.normal, t1, h11)
def SR121_3 : RegS 2 := fun c t0 h0 =>
 fShal (.int .i64 (-1)) fun v1 =>
 p2_4 t0 v1 fun t1 =>
 some (.normal, t1, h0)
def SR121_4 : RegS 2 := fun c t0 h0 =>
 kNil (g2_0 t0) h0 fun v2 h2 =>
 kFld 0 v2 h2 fun v3 h3 =>
 kLd v3 h3 fun v4 h4 =>
 kIdx 1 v4 (g2_5 t0) h4 fun v6 h6 =>
 kLd v6 h6 fun v7 h7 =>
 fShal v7 fun v8 =>
 p2_4 t0 v8 fun t1 =>
 some (.normal, t1, h7)
def SF121 : CodeS 2 :=
 cSeqS (cRegS (SR121_0)) (cSeqS (cRegS (SR121_1)) (cSeqS (cSeqS (cRegS (SR121_2)) (cIfS g2_18 (cSeqS (cRegS (SR121_3)) (cRetS)) (cSkipS))) (cSeqS (cRegS (SR121_4)) (cRetS))))
def T121 : FnT := runG en2_2 (SF121) (resQ (qc (rT g2_4) qn))
theorem T121_ok : GoodF Tryz.prog ro0 okF 121 (T121) :=
 (good_k (n := 26) acc2 (lv [0, 1, 4, 5, 18]) (rs := [ResultVar.tmp 4]) Tryz.func121 (by kernel_rfl) (by kernel_rfl) (by kernel_rfl) (by kernel_rfl) (by kernel_rfl) (by kernel_rfl) (by kernel_rfl) (by kernel_rfl) (by kernel_rfl)).enter en2_2_ok (by kernel_rfl)

/-- (*circheck/checker.Solver).Add -/
def SR122_0 : RegS 2 := fun c t0 h0 =>
 fShal (.int .i64 0) fun v1 =>
 p2_4 t0 v1 fun t1 =>
 some (.normal, t1, h0)
def SR122_1 : RegS 2 := fun c t0 h0 =>
 kPtrNil false (g2_0 t0) (.pointer none) h0 fun v2 h2 =>
 kIf v2 false (fun k => k (g2_0 t0) h2) h2 fun v4 h4 =>
 kIf v2 false (fun k => k (g2_1 t0) h4) h4 fun v5 h5 =>
 kIf v2 false (fun k => kOf (c 156 [v4, v5] h5) k) h5 fun v6 h6 =>
 kIf v2 false (fun k => kNot v6 h6 k) h6 fun v7 h7 =>
 kPick v2 (.bool true) v7 h7 fun v8 h8 =>
 p2_13 t0 v8 fun t1 =>
 some (.normal, t1, h8)
def SR122_2 : RegS 2 := fun c t0 h0 =>
 fShal (.int .i64 13) fun v1 =>
 p2_4 t0 v1 fun t1 =>
 some (.normal, t1, h0)
def SR122_3 : RegS 2 := fun c t0 h0 =>
 kOf (c 157 [(g2_0 t0), (g2_1 t0)] h0) fun v3 h3 =>
 fShal v3 fun v4 =>
 p2_5 t0 v4 fun t1 =>
 some (.normal, t1, h3)
def SR122_4 : RegS 2 := fun c t0 h0 =>
 kOf (c 158 [(g2_5 t0)] h0) fun v2 h2 =>
 kNot v2 h2 fun v3 h3 =>
 p2_19 t0 v3 fun t1 =>
 some (.normal, t1, h3)
def SR122_5 : RegS 2 := fun c t0 h0 =>
 kNil (g2_0 t0) h0 fun v3 h3 =>
 kFld 1 v3 h3 fun v4 h4 =>
 kLd v4 h4 fun v5 h5 =>
 kMkSl 1 1 #[.slice none 0 0] [(0, (g2_5 t0))] h5 fun v7 h7 =>
 kOf (vApp ro0 1 24 v5 v7 h7) fun v8 h8 =>
 kNil (g2_0 t0) h8 fun v9 h9 =>
 kFld 1 v9 h9 fun v10 h10 =>
 kSt ro0 v10 v8 h10 fun _ h11 =>
 some (.normal, t0, h11)
def SR122_6 : RegS 2 := fun c t0 h0 =>
 fShal (.int .i64 0) fun v1 =>
 p2_4 t0 v1 fun t1 =>
 some (.normal, t1, h0)
def SF122 : CodeS 2 :=
 cSeqS (cRegS (SR122_0)) (cSeqS (cSeqS (cRegS (SR122_1)) (cIfS g2_13 (cSeqS (cRegS (SR122_2)) (cRetS)) (cSkipS))) (cSeqS (cRegS (SR122_3)) (cSeqS (cSeqS (cRegS (SR122_4)) (cIfS g2_19 (cRegS (SR122_5)) (cSkipS))) (cSeqS (cRegS (SR122_6)) (cRetS)))))
def T122 : FnT := runG en2_2 (SF122) (resQ (qc (rT g2_4) qn))
theorem T122_ok : GoodF Tryz.prog ro0 okF 122 (T122) :=
 (good_k (n := 30) acc2 (lv [0, 1, 4, 5, 13, 19]) (rs := [ResultVar.tmp 4]) Tryz.func122 (by kernel_rfl) (by kernel_rfl) (by kernel_rfl) (by kernel_rfl) (by kernel_rfl) (by kernel_rfl) (by kernel_rfl) (by kernel_rfl) (by kernel_rfl)).enter en2_2_ok (by kernel_rfl)

/-- (*circheck/checker.run).ask -/
def SR123_0 : RegS 2 := fun c t0 h0 =>
 fShal (.int .i64 0) fun v1 =>
 p2_6 t0 v1 fun t1 =>
 some (.normal, t1, h0)
def SR123_1 : RegS 2 := fun c t0 h0 =>
 kNil (g2_0 t0) h0 fun v2 h2 =>
 kFld 3 v2 h2 fun v3 h3 =>
 kLd v3 h3 fun v4 h4 =>
 kIdx 2 v4 (g2_1 t0) h4 fun v6 h6 =>
 kFld 0 v6 h6 fun v7 h7 =>
 kLd v7 h7 fun v8 h8 =>
 fShal v8 fun v9 =>
 p2_7 t0 v9 fun t1 =>
 some (.normal, t1, h8)
def SR123_2 : RegS 2 := fun c t0 h0 =>
 kOf (c 111 [(g2_7 t0)] h0) fun v2 h2 =>
 fShal v2 fun v3 =>
 p2_8 t0 v3 fun t1 =>
 some (.normal, t1, h2)
def SR123_3 : RegS 2 := fun c t0 h0 =>
 kNil (g2_0 t0) h0 fun v4 h4 =>
 kFld 1 v4 h4 fun v5 h5 =>
 kLd v5 h5 fun v6 h6 =>
 kNil (g2_0 t0) h6 fun v8 h8 =>
 kFld 2 v8 h8 fun v9 h9 =>
 kLd v9 h9 fun v10 h10 =>
 kSub v6 v10 h10 fun v11 h11 =>
 kOf (c 151 [(g2_7 t0), (g2_2 t0), v11] h11) fun v12 h12 =>
 fShal v12 fun v13 =>
 p2_9 t0 v13 fun t1 =>
 some (.normal, t1, h12)
def SR123_4 : RegS 2 := fun c t0 h0 =>
 kNil (g2_0 t0) h0 fun v2 h2 =>
 kFld 2 v2 h2 fun v3 h3 =>
 kLd v3 h3 fun v4 h4 =>
 kOf (c 111 [(g2_7 t0)] h4) fun v6 h6 =>
 kSub v6 (g2_8 t0) h6 fun v8 h8 =>
 kAdd v4 v8 h8 fun v9 h9 =>
 kNil (g2_0 t0) h9 fun v10 h10 =>
 kFld 2 v10 h10 fun v11 h11 =>
 kSt ro0 v11 v9 h11 fun _ h12 =>
 some (.normal, t0, h12)
def SR123_5 : RegS 2 := fun c t0 h0 =>
 kNil (g2_0 t0) h0 fun v2 h2 =>
 kFld 2 v2 h2 fun v3 h3 =>
 kLd v3 h3 fun v4 h4 =>
 kNil (g2_0 t0) h4 fun v6 h6 =>
 kFld 1 v6 h6 fun v7 h7 =>
 kLd v7 h7 fun v8 h8 =>
 kGtr v4 v8 h8 fun v9 h9 =>
 p2_51 t0 v9 fun t1 =>
 some (.normal, t1, h9)
def SR123_6 : RegS 2 := fun c t0 h0 =>
 fShal (.int .i64 3) fun v1 =>
 p2_6 t0 v1 fun t1 =>
 some (.normal, t1, h0)
def SR123_7 : RegS 2 := fun c t0 h0 =>
 fShal (g2_9 t0) fun v2 =>
 p2_6 t0 v2 fun t1 =>
 some (.normal, t1, h0)
def SF123 : CodeS 2 :=
 cSeqS (cRegS (SR123_0)) (cSeqS (cRegS (SR123_1)) (cSeqS (cRegS (SR123_2)) (cSeqS (cRegS (SR123_3)) (cSeqS (cRegS (SR123_4)) (cSeqS (cSeqS (cRegS (SR123_5)) (cIfS g2_51 (cSeqS (cRegS (SR123_6)) (cRetS)) (cSkipS))) (cSeqS (cRegS (SR123_7)) (cRetS)))))))
def T123 : FnT := runG en2_3 (SF123) (resQ (qc (rT g2_6) qn))
theorem T123_ok : GoodF Tryz.prog ro0 okF 123 (T123) :=
 (good_k (n := 53) acc2 (lv [0, 1, 2, 6, 7, 8, 9, 51]) (rs := [ResultVar.tmp 6]) Tryz.func123 (by kernel_rfl) (by kernel_rfl) (by kernel_rfl) (by kernel_rfl) (by kernel_rfl) (by kernel_rfl) (by kernel_rfl) (by kernel_rfl) (by kernel_rfl)).enter en2_3_ok (by kernel_rfl)

/-- (*circheck/checker.run).lengthen -/
def SR124_0 : RegS 2 := fun c t0 h0 =>
 kNil (g2_0 t0) h0 fun v2 h2 =>
 kFld 3 v2 h2 fun v3 h3 =>
 kLd v3 h3 fun v4 h4 =>
 kIdx 2 v4 (g2_1 t0) h4 fun v6 h6 =>
 kNil (g2_0 t0) h6 fun v8 h8 =>
 kFld 0 v8 h8 fun v9 h9 =>
 kLd v9 h9 fun v10 h10 =>
 kOf (c 159 [v6, v10] h10) fun v11 h11 =>
 kNew [.int .i64 0, .int .i64 0] h11 fun v12 h12 =>
 p2_4 t0 v12 fun t1 =>
 kAny (aSt tO ro0 2 (.const v12) (.const v11)) c h12 fun _ h13 =>
 some (.normal, t1, h13)
def SR124_1 : RegS 2 := fun c t0 h0 =>
 kNil (g2_0 t0) h0 fun v3 h3 =>
 kFld 4 v3 h3 fun v4 h4 =>
 kLd v4 h4 fun v5 h5 =>
 kOf (vLdN 2 (g2_4 t0) h5) fun v6 h6 =>
 kMkSl 2 1 #[.int .i64 0, .int .i64 0] [(0, v6)] h6 fun v7 h7 =>
 kOf (vApp ro0 2 16 v5 v7 h7) fun v8 h8 =>
 kNil (g2_0 t0) h8 fun v9 h9 =>
 kFld 4 v9 h9 fun v10 h10 =>
 kSt ro0 v10 v8 h10 fun _ h11 =>
 some (.normal, t0, h11)
def SR124_2 : RegS 2 := fun c t0 h0 =>
 kNil (g2_0 t0) h0 fun v2 h2 =>
 kFld 2 v2 h2 fun v3 h3 =>
 kLd v3 h3 fun v4 h4 =>
 kAdd v4 (.int .i64 1) h4 fun v5 h5 =>
 kNil (g2_0 t0) h5 fun v6 h6 =>
 kFld 2 v6 h6 fun v7 h7 =>
 kSt ro0 v7 v5 h7 fun _ h8 =>
 some (.normal, t0, h8)
def SF124 : CodeS 2 :=
 cSeqS (cRegS (SR124_0)) (cSeqS (cRegS (SR124_1)) (cRegS (SR124_2)))
def T124 : FnT := runG en2_2 (SF124) (resQ qn)
theorem T124_ok : GoodF Tryz.prog ro0 okF 124 (T124) :=
 (good_k (n := 33) acc2 (lv [0, 1, 4]) (rs := []) Tryz.func124 (by kernel_rfl) (by kernel_rfl) (by kernel_rfl) (by kernel_rfl) (by kernel_rfl) (by kernel_rfl) (by kernel_rfl) (by kernel_rfl) (by kernel_rfl)).enter en2_2_ok (by kernel_rfl)

/-- (*circheck/checker.run).bar -/
def SR125_0 : RegS 3 := fun c t0 h0 =>
 fShal (.int .i64 0) fun v1 =>
 p3_2 t0 v1 fun t1 =>
 some (.normal, t1, h0)
def SR125_1 : RegS 3 := fun c t0 h0 =>
 kNil (g3_0 t0) h0 fun v2 h2 =>
 kFld 4 v2 h2 fun v3 h3 =>
 kLd v3 h3 fun v4 h4 =>
 kLenSl v4 h4 fun v5 h5 =>
 kGtr v5 (.int .i64 0) h5 fun v6 h6 =>
 p3_15 t0 v6 fun t1 =>
 some (.normal, t1, h6)
def SR125_2 : RegS 3 := fun c t0 h0 =>
 kNil (g3_0 t0) h0 fun v2 h2 =>
 kFld 2 v2 h2 fun v3 h3 =>
 kLd v3 h3 fun v4 h4 =>
 kNil (g3_0 t0) h4 fun v6 h6 =>
 kFld 1 v6 h6 fun v7 h7 =>
 kLd v7 h7 fun v8 h8 =>
 kGtr v4 v8 h8 fun v9 h9 =>
 p3_24 t0 v9 fun t1 =>
 some (.normal, t1, h9)
def SR125_3 : RegS 3 := fun c t0 h0 =>
 fShal (.int .i64 3) fun v1 =>
 p3_2 t0 v1 fun t1 =>
 some (.normal, t1, h0)
def SR125_4 : RegS 3 := fun c t0 h0 =>
 kNil (g3_0 t0) h0 fun v2 h2 =>
 kFld 3 v2 h2 fun v3 h3 =>
 kLd v3 h3 fun v4 h4 =>
 kLenSl v4 h4 fun v5 h5 =>
 kNil (g3_0 t0) h5 fun v7 h7 =>
 kFld 4 v7 h7 fun v8 h8 =>
 kLd v8 h8 fun v9 h9 =>
 kLenSl v9 h9 fun v10 h10 =>
 kSub v5 v10 h10 fun v11 h11 =>
 fShal v11 fun v12 =>
 p3_3 t0 v12 fun t1 =>
 some (.normal, t1, h11)
def SR125_5 : RegS 3 := fun c t0 h0 =>
 kNil (g3_0 t0) h0 fun v2 h2 =>
 kFld 4 v2 h2 fun v3 h3 =>
 kLd v3 h3 fun v4 h4 =>
 kNil (g3_0 t0) h4 fun v6 h6 =>
 kFld 4 v6 h6 fun v7 h7 =>
 kLd v7 h7 fun v8 h8 =>
 kLenSl v8 h8 fun v9 h9 =>
 kSub v9 (.int .i64 1) h9 fun v10 h10 =>
 kIdx 2 v4 v10 h10 fun v11 h11 =>
 kFld 0 v11 h11 fun v12 h12 =>
 kLd v12 h12 fun v13 h13 =>
 fShal v13 fun v14 =>
 p3_4 t0 v14 fun t1 =>
 some (.normal, t1, h13)
def SR125_6 : RegS 3 := fun c t0 h0 =>
 kLeq (g3_3 t0) (.int .i64 0) h0 fun v2 h2 =>
 kIf v2 false (fun k => k (g3_0 t0) h2) h2 fun v4 h4 =>
 kIf v2 false (fun k => kNil v4 h4 k) h4 fun v5 h5 =>
 kIf v2 false (fun k => kFld 0 v5 h5 k) h5 fun v6 h6 =>
 kIf v2 false (fun k => kLd v6 h6 k) h6 fun v7 h7 =>
 kIf v2 false (fun k => k (g3_4 t0) h7) h7 fun v8 h8 =>
 kIf v2 false (fun k => kOf (c 99 [v7, v8] h8) k) h8 fun v9 h9 =>
 kPick v2 (.bool true) v9 h9 fun v10 h10 =>
 p3_58 t0 v10 fun t1 =>
 some (.normal, t1, h10)
def SR125_7 : RegS 3 := fun c t0 h0 =>
 fShal (.int .i64 2) fun v1 =>
 p3_2 t0 v1 fun t1 =>
 some (.normal, t1, h0)
def SR125_8 : RegS 3 := fun c t0 h0 =>
 kNil (g3_0 t0) h0 fun v2 h2 =>
 kFld 0 v2 h2 fun v3 h3 =>
 kLd v3 h3 fun v4 h4 =>
 kOf (c 160 [v4, (g3_4 t0)] h4) fun v6 h6 =>
 fShal v6 fun v7 =>
 p3_5 t0 v7 fun t1 =>
 some (.normal, t1, h6)
def SR125_9 : RegS 3 := fun c t0 h0 =>
 kNil (g3_0 t0) h0 fun v2 h2 =>
 kFld 0 v2 h2 fun v3 h3 =>
 kLd v3 h3 fun v4 h4 =>
 kOf (c 161 [v4, (g3_5 t0)] h4) fun v6 h6 =>
 fShal v6 fun v7 =>
 p3_6 t0 v7 fun t1 =>
 some (.normal, t1, h6)
def SR125_10 : RegS 3 := fun c t0 h0 =>
 kSub (g3_3 t0) (.int .i64 1) h0 fun v3 h3 =>
 kOf (c 123 [(g3_0 t0), v3, (g3_6 t0)] h3) fun v5 h5 =>
 fShal v5 fun v6 =>
 p3_7 t0 v6 fun t1 =>
 some (.normal, t1, h5)
def SR125_11 : RegS 3 := fun c t0 h0 =>
 fShal (g3_7 t0) fun v1 =>
 p3_76 t0 v1 fun t1 =>
 some (.normal, t1, h0)
def SR125_12 : RegS 3 := fun c t0 h0 =>
 kEql (g3_76 t0) (.int .i64 3) h0 fun v1 h1 =>
 fShal v1 fun v2 =>
 p3_77 t0 v2 fun t1 =>
 some (.normal, t1, h1)
def SR125_13 : RegS 3 := fun c t0 h0 =>
 fShal (.int .i64 3) fun v1 =>
 p3_2 t0 v1 fun t1 =>
 some (.normal, t1, h0)
def SR125_14 : RegS 3 := fun c t0 h0 =>
 kEql (g3_76 t0) (.int .i64 1) h0 fun v1 h1 =>
 fShal v1 fun v2 =>
 p3_79 t0 v2 fun t1 =>
 some (.normal, t1, h1)
def SR125_15 : RegS 3 := fun c t0 h0 =>
 kSub (g3_3 t0) (.int .i64 1) h0 fun v3 h3 =>
 kOf (c 124 [(g3_0 t0), v3] h3) fun v4 h4 =>
 some (.normal, t0, h4)
def SR125_16 : RegS 3 := fun c t0 h0 =>
 kEql (g3_76 t0) (.int .i64 2) h0 fun v1 h1 =>
 fShal v1 fun v2 =>
 p3_85 t0 v2 fun t1 =>
 some (.normal, t1, h1)
def SR125_17 : RegS 3 := fun c t0 h0 =>
 kNil (g3_0 t0) h0 fun v2 h2 =>
 kFld 3 v2 h2 fun v3 h3 =>
 kLd v3 h3 fun v4 h4 =>
 kSub (g3_3 t0) (.int .i64 1) h4 fun v6 h6 =>
 kIdx 2 v4 v6 h6 fun v7 h7 =>
 kFld 0 v7 h7 fun v8 h8 =>
 kLd v8 h8 fun v9 h9 =>
 kOf (c 110 [v9] h9) fun v10 h10 =>
 fShal v10 fun v11 =>
 p3_8 t0 v11 fun t1 =>
 some (.normal, t1, h10)
def SR125_18 : RegS 3 := fun c t0 h0 =>
 kNil (g3_0 t0) h0 fun v2 h2 =>
 kFld 0 v2 h2 fun v3 h3 =>
 kLd v3 h3 fun v4 h4 =>
 kOf (c 162 [v4, (g3_5 t0), (g3_8 t0)] h4) fun v7 h7 =>
 fShal v7 fun v8 =>
 p3_9 t0 v8 fun t1 =>
 some (.normal, t1, h7)
def SR125_19 : RegS 3 := fun c t0 h0 =>
 kOf (c 163 [(g3_0 t0), (g3_3 t0), (g3_9 t0)] h0) fun v4 h4 =>
 some (.normal, t0, h4)
def SR125_20 : RegS 3 := fun c t0 h0 =>
 kNil (g3_0 t0) h0 fun v3 h3 =>
 kFld 4 v3 h3 fun v4 h4 =>
 kLd v4 h4 fun v5 h5 =>
 kNil (g3_0 t0) h5 fun v7 h7 =>
 kFld 4 v7 h7 fun v8 h8 =>
 kLd v8 h8 fun v9 h9 =>
 kLenSl v9 h9 fun v10 h10 =>
 kSub v10 (.int .i64 1) h10 fun v11 h11 =>
 kAny (aSliceSl 2 (.const v5) none (some (.const v11))) c h11 fun v12 h12 =>
 kNil (g3_0 t0) h12 fun v13 h13 =>
 kFld 4 v13 h13 fun v14 h14 =>
 kSt ro0 v14 v12 h14 fun _ h15 =>
 some (.normal, t0, h15)
def SR125_21 : RegS 3 := fun c t0 h0 =>
 fShal (.int .i64 0) fun v1 =>
 p3_2 t0 v1 fun t1 =>
 some (.normal, t1, h0)
def SW125_0 : CodeS 3 :=
 cSeqS (cSeqS (cRegS (SR125_1)) (cIfS g3_15 (cSkipS) (cExitS 0))) (cBlkS 1 (cSeqS (cSeqS (cRegS (SR125_2)) (cIfS g3_24 (cSeqS (cRegS (SR125_3)) (cRetS)) (cSkipS))) (cSeqS (cRegS (SR125_4)) (cSeqS (cRegS (SR125_5)) (cSeqS (cSeqS (cRegS (SR125_6)) (cIfS g3_58 (cSeqS (cRegS (SR125_7)) (cRetS)) (cSkipS))) (cSeqS (cRegS (SR125_8)) (cSeqS (cRegS (SR125_9)) (cSeqS (cRegS (SR125_10)) (cSeqS (cRegS (SR125_11)) (cBlkS 2 (cSeqS (cRegS (SR125_12)) (cIfS g3_77 (cSeqS (cRegS (SR125_13)) (cRetS)) (cSeqS (cRegS (SR125_14)) (cIfS g3_79 (cRegS (SR125_15)) (cSeqS (cRegS (SR125_16)) (cIfS g3_85 (cSeqS (cRegS (SR125_17)) (cSeqS (cRegS (SR125_18)) (cSeqS (cRegS (SR125_19)) (cRegS (SR125_20))))) (cSkipS)))))))))))))))))
def SF125 : CodeS 3 :=
 cSeqS (cRegS (SR125_0)) (cSeqS (cBlkS 0 (cLoopS (SW125_0))) (cSeqS (cRegS (SR125_21)) (cRetS)))
def T125 : FnT := runG en3_1 (SF125) (resQ (qc (rT g3_2) qn))
theorem T125_ok : GoodF Tryz.prog ro0 okF 125 (T125) :=
 (good_k (n := 122) acc3 (lv [0, 2, 3, 4, 5, 6, 7, 8, 9, 15, 24, 58, 76, 77, 79, 85]) (rs := [ResultVar.tmp 2]) Tryz.func125 (by kernel_rfl) (by kernel_rfl) (by kernel_rfl) (by kernel_rfl) (by kernel_rfl) (by kernel_rfl) (by kernel_rfl) (by kernel_rfl) (by kernel_rfl)).enter en3_1_ok (by kernel_rfl)

/-- (*circheck/checker.run).carry -/
def SR126_0 : RegS 2 := fun c t0 h0 =>
 fShal (.int .i64 0) fun v1 =>
 p2_4 t0 v1 fun t1 =>
 some (.normal, t1, h0)
def SR126_1 : RegS 2 := fun c t0 h0 =>
 kNil (g2_0 t0) h0 fun v2 h2 =>
 kFld 3 v2 h2 fun v3 h3 =>
 kLd v3 h3 fun v4 h4 =>
 kIdx 2 v4 (g2_1 t0) h4 fun v6 h6 =>
 kFld 1 v6 h6 fun v7 h7 =>
 kLd v7 h7 fun v8 h8 =>
 kLenSl v8 h8 fun v9 h9 =>
 kGtr v9 (.int .i64 0) h9 fun v10 h10 =>
 p2_17 t0 v10 fun t1 =>
 some (.normal, t1, h10)
def SR126_2 : RegS 2 := fun c t0 h0 =>
 kNil (g2_0 t0) h0 fun v2 h2 =>
 kFld 3 v2 h2 fun v3 h3 =>
 kLd v3 h3 fun v4 h4 =>
 kIdx 2 v4 (g2_1 t0) h4 fun v6 h6 =>
 kFld 1 v6 h6 fun v7 h7 =>
 kLd v7 h7 fun v8 h8 =>
 kIdx 1 v8 (.int .i64 0) h8 fun v9 h9 =>
 kLd v9 h9 fun v10 h10 =>
 fShal v10 fun v11 =>
 p2_5 t0 v11 fun t1 =>
 some (.normal, t1, h10)
def SR126_3 : RegS 2 := fun c t0 h0 =>
 kNil (g2_0 t0) h0 fun v2 h2 =>
 kFld 0 v2 h2 fun v3 h3 =>
 kLd v3 h3 fun v4 h4 =>
 kOf (c 161 [v4, (g2_5 t0)] h4) fun v6 h6 =>
 fShal v6 fun v7 =>
 p2_6 t0 v7 fun t1 =>
 some (.normal, t1, h6)
def SR126_4 : RegS 2 := fun c t0 h0 =>
 kOf (c 123 [(g2_0 t0), (g2_1 t0), (g2_6 t0)] h0) fun v4 h4 =>
 fShal v4 fun v5 =>
 p2_7 t0 v5 fun t1 =>
 some (.normal, t1, h4)
def SR126_5 : RegS 2 := fun c t0 h0 =>
 kNeq (g2_7 t0) (.int .i64 2) h0 fun v2 h2 =>
 p2_39 t0 v2 fun t1 =>
 some (.normal, t1, h2)
def SR126_6 : RegS 2 := fun c t0 h0 =>
 fShal (g2_7 t0) fun v2 =>
 p2_4 t0 v2 fun t1 =>
 some (.normal, t1, h0)
def SR126_7 : RegS 2 := fun c t0 h0 =>
 kAdd (g2_1 t0) (.int .i64 1) h0 fun v3 h3 =>
 kOf (c 163 [(g2_0 t0), v3, (g2_5 t0)] h3) fun v5 h5 =>
 some (.normal, t0, h5)
def SR126_8 : RegS 2 := fun c t0 h0 =>
 fShal (.int .i64 2) fun v1 =>
 p2_4 t0 v1 fun t1 =>
 some (.normal, t1, h0)
def SW126_0 : CodeS 2 :=
 cSeqS (cSeqS (cRegS (SR126_1)) (cIfS g2_17 (cSkipS) (cExitS 0))) (cBlkS 1 (cSeqS (cRegS (SR126_2)) (cSeqS (cRegS (SR126_3)) (cSeqS (cRegS (SR126_4)) (cSeqS (cSeqS (cRegS (SR126_5)) (cIfS g2_39 (cSeqS (cRegS (SR126_6)) (cRetS)) (cSkipS))) (cRegS (SR126_7)))))))
def SF126 : CodeS 2 :=
 cSeqS (cRegS (SR126_0)) (cSeqS (cBlkS 0 (cLoopS (SW126_0))) (cSeqS (cRegS (SR126_8)) (cRetS)))
def T126 : FnT := runG en2_2 (SF126) (resQ (qc (rT g2_4) qn))
theorem T126_ok : GoodF Tryz.prog ro0 okF 126 (T126) :=
 (good_k (n := 46) acc2 (lv [0, 1, 4, 5, 6, 7, 17, 39]) (rs := [ResultVar.tmp 4]) Tryz.func126 (by kernel_rfl) (by kernel_rfl) (by kernel_rfl) (by kernel_rfl) (by kernel_rfl) (by kernel_rfl) (by kernel_rfl) (by kernel_rfl) (by kernel_rfl)).enter en2_2_ok (by kernel_rfl)

/-- (*circheck/checker.run).clausesAbove -/
def SR127_0 : RegS 2 := fun c t0 h0 =>
 fShal (.slice none 0 0) fun v1 =>
 p2_4 t0 v1 fun t1 =>
 some (.normal, t1, h0)
def SR127_1 : RegS 2 := fun c t0 h0 =>
 kMkSl 1 0 #[.slice none 0 0] [] h0 fun v1 h1 =>
 fShal v1 fun v2 =>
 p2_5 t0 v2 fun t1 =>
 some (.normal, t1, h1)
def SR127_2 : RegS 2 := fun c t0 h0 =>
 kAdd (g2_1 t0) (.int .i64 1) h0 fun v2 h2 =>
 fShal v2 fun v3 =>
 p2_6 t0 v3 fun t1 =>
 some (.normal, t1, h2)
def SR127_3 : RegS 2 := fun c t0 h0 =>
 kNil (g2_0 t0) h0 fun v3 h3 =>
 kFld 3 v3 h3 fun v4 h4 =>
 kLd v4 h4 fun v5 h5 =>
 kLenSl v5 h5 fun v6 h6 =>
 kLss (g2_6 t0) v6 h6 fun v7 h7 =>
 p2_16 t0 v7 fun t1 =>
 some (.normal, t1, h7)
def SR127_5 : RegS 2 := fun c t0 h0 =>
 kNil (g2_0 t0) h0 fun v3 h3 =>
 kFld 3 v3 h3 fun v4 h4 =>
 kLd v4 h4 fun v5 h5 =>
 kIdx 2 v5 (g2_6 t0) h5 fun v7 h7 =>
 kFld 1 v7 h7 fun v8 h8 =>
 kLd v8 h8 fun v9 h9 =>
 kOf (vApp ro0 1 24 (g2_5 t0) v9 h9) fun v10 h10 =>
 fShal v10 fun v11 =>
 p2_5 t0 v11 fun t1 =>
 some (.normal, t1, h10)
def SR127_4 : RegS 2 := fun c t0 h0 =>
 kAdd (g2_6 t0) (.int .i64 1) h0 fun v2 h2 =>
 fShal v2 fun v3 =>
 p2_6 t0 v3 fun t1 =>
 some (.normal, t1, h2)
def SR127_6 : RegS 2 := fun c t0 h0 =>
 fShal (g2_5 t0) fun v2 =>
 p2_4 t0 v2 fun t1 =>
 some (.normal, t1, h0)
def SW127_0 : CodeS 2 :=
 cSeqS (cSeqS (cRegS (SR127_3)) (cIfS g2_16 (cSkipS) (cExitS 0))) (cSeqS (cBlkS 1 (cRegS (SR127_5))) (cRegS (SR127_4)))
def SF127 : CodeS 2 :=
 cSeqS (cRegS (SR127_0)) (cSeqS (cRegS (SR127_1)) (cSeqS (cSeqS (cRegS (SR127_2)) (cBlkS 0 (cLoopS (SW127_0)))) (cSeqS (cRegS (SR127_6)) (cRetS))))
def T127 : FnT := runG en2_2 (SF127) (resQ (qc (rT g2_4) qn))
theorem T127_ok : GoodF Tryz.prog ro0 okF 127 (T127) :=
 (good_k (n := 30) acc2 (lv [0, 1, 4, 5, 6, 16]) (rs := [ResultVar.tmp 4]) Tryz.func127 (by kernel_rfl) (by kernel_rfl) (by kernel_rfl) (by kernel_rfl) (by kernel_rfl) (by kernel_rfl) (by kernel_rfl) (by kernel_rfl) (by kernel_rfl)).enter en2_2_ok (by kernel_rfl)

/-- circheck/checker.clauseLine -/
def SR128_0 : RegS 2 := fun c t0 h0 =>
 fShal (.string { data := #[] }) fun v1 =>
 p2_2 t0 v1 fun t1 =>
 some (.normal, t1, h0)
def SR128_1 : RegS 2 := fun c t0 h0 =>
 fShal (.string { data := #[] }) fun v1 =>
 p2_3 t0 v1 fun t1 =>
 some (.normal, t1, h0)
def SR128_2 : RegS 2 := fun c t0 h0 =>
 fShal (.int .i64 0) fun v1 =>
 p2_4 t0 v1 fun t1 =>
 some (.normal, t1, h0)
def SR128_3 : RegS 2 := fun c t0 h0 =>
 kLenSl (g2_0 t0) h0 fun v3 h3 =>
 kLss (g2_4 t0) v3 h3 fun v4 h4 =>
 p2_8 t0 v4 fun t1 =>
 some (.normal, t1, h4)
def SR128_5 : RegS 2 := fun c t0 h0 =>
 kGtr (g2_4 t0) (.int .i64 0) h0 fun v2 h2 =>
 p2_12 t0 v2 fun t1 =>
 some (.normal, t1, h2)
def SR128_6 : RegS 2 := fun c t0 h0 =>
 kAny (aStr .add (.const (g2_3 t0)) (.const (.string { data := #[32] }))) c h0 fun v2 h2 =>
 fShal v2 fun v3 =>
 p2_3 t0 v3 fun t1 =>
 some (.normal, t1, h2)
def SR128_7 : RegS 2 := fun c t0 h0 =>
 kIdx 1 (g2_0 t0) (g2_4 t0) h0 fun v3 h3 =>
 kLd v3 h3 fun v4 h4 =>
 kOf (vInt .and v4 (.int .i64 1) h4) fun v5 h5 =>
 kEql v5 (.int .i64 1) h5 fun v6 h6 =>
 p2_20 t0 v6 fun t1 =>
 some (.normal, t1, h6)
def SR128_8 : RegS 2 := fun c t0 h0 =>
 kAny (aStr .add (.const (g2_3 t0)) (.const (.string { data := #[45] }))) c h0 fun v2 h2 =>
 fShal v2 fun v3 =>
 p2_3 t0 v3 fun t1 =>
 some (.normal, t1, h2)
def SR128_9 : RegS 2 := fun c t0 h0 =>
 kIdx 1 (g2_0 t0) (g2_4 t0) h0 fun v4 h4 =>
 kLd v4 h4 fun v5 h5 =>
 kAny (aShift .shr (.const v5) (.const (.int .u64 1))) c h5 fun v6 h6 =>
 kOf (c 48 [v6] h6) fun v7 h7 =>
 kAny (aStr .add (.const (.string { data := #[108] })) (.const v7)) c h7 fun v8 h8 =>
 kAny (aStr .add (.const (g2_3 t0)) (.const v8)) c h8 fun v9 h9 =>
 fShal v9 fun v10 =>
 p2_3 t0 v10 fun t1 =>
 some (.normal, t1, h9)
def SR128_4 : RegS 2 := fun c t0 h0 =>
 kAdd (g2_4 t0) (.int .i64 1) h0 fun v2 h2 =>
 fShal v2 fun v3 =>
 p2_4 t0 v3 fun t1 =>
 some (.normal, t1, h2)
def SR128_10 : RegS 2 := fun c t0 h0 =>
 kAny (aStr .add (.const (g2_3 t0)) (.const (.string { data := #[10] }))) c h0 fun v2 h2 =>
 fShal v2 fun v3 =>
 p2_2 t0 v3 fun t1 =>
 some (.normal, t1, h2)
def SW128_0 : CodeS 2 :=
 cSeqS (cSeqS (cRegS (SR128_3)) (cIfS g2_8 (cSkipS) (cExitS 0))) (cSeqS (cBlkS 1 (cSeqS (cSeqS (cRegS (SR128_5)) (cIfS g2_12 (cRegS (SR128_6)) (cSkipS))) (cSeqS (cSeqS (cRegS (SR128_7)) (cIfS g2_20 (cRegS (SR128_8)) (cSkipS))) (cRegS (SR128_9))))) (cRegS (SR128_4)))
def SF128 : CodeS 2 :=
 cSeqS (cRegS (SR128_0)) (cSeqS (cRegS (SR128_1)) (cSeqS (cSeqS (cRegS (SR128_2)) (cBlkS 0 (cLoopS (SW128_0)))) (cSeqS (cRegS (SR128_10)) (cRetS))))
def T128 : FnT := runG en2_1 (SF128) (resQ (qc (rT g2_2) qn))
theorem T128_ok : GoodF Tryz.prog ro0 okF 128 (T128) :=
 (good_k (n := 34) acc2 (lv [0, 2, 3, 4, 8, 12, 20]) (rs := [ResultVar.tmp 2]) Tryz.func128 (by kernel_rfl) (by kernel_rfl) (by kernel_rfl) (by kernel_rfl) (by kernel_rfl) (by kernel_rfl) (by kernel_rfl) (by kernel_rfl) (by kernel_rfl)).enter en2_1_ok (by kernel_rfl)

/-- circheck/checker.bitLine -/
def SR129_0 : RegS 2 := fun c t0 h0 =>
 fShal (.string { data := #[] }) fun v1 =>
 p2_4 t0 v1 fun t1 =>
 some (.normal, t1, h0)
def SR129_1 : RegS 2 := fun c t0 h0 =>
 fShal (.string { data := #[] }) fun v1 =>
 p2_5 t0 v1 fun t1 =>
 some (.normal, t1, h0)
def SR129_2 : RegS 2 := fun c t0 h0 =>
 fShal (.int .i64 0) fun v1 =>
 p2_6 t0 v1 fun t1 =>
 some (.normal, t1, h0)
def SR129_3 : RegS 2 := fun c t0 h0 =>
 kLss (g2_6 t0) (g2_1 t0) h0 fun v3 h3 =>
 p2_9 t0 v3 fun t1 =>
 some (.normal, t1, h3)
def SR129_5 : RegS 2 := fun c t0 h0 =>
 kAny (aShift .shr (.const (g2_0 t0)) (.const (g2_6 t0))) c h0 fun v4 h4 =>
 kOf (vInt .and v4 (.int .i64 1) h4) fun v5 h5 =>
 kOf (c 48 [v5] h5) fun v6 h6 =>
 kAny (aStr .add (.const (g2_5 t0)) (.const v6)) c h6 fun v7 h7 =>
 fShal v7 fun v8 =>
 p2_5 t0 v8 fun t1 =>
 some (.normal, t1, h7)
def SR129_4 : RegS 2 := fun c t0 h0 =>
 kAdd (g2_6 t0) (.int .i64 1) h0 fun v2 h2 =>
 fShal v2 fun v3 =>
 p2_6 t0 v3 fun t1 =>
 some (.normal, t1, h2)
def SR129_6 : RegS 2 := fun c t0 h0 =>
 kAny (aStr .add (.const (g2_5 t0)) (.const (.string { data := #[10] }))) c h0 fun v2 h2 =>
 fShal v2 fun v3 =>
 p2_4 t0 v3 fun t1 =>
 some (.normal, t1, h2)
def SW129_0 : CodeS 2 :=
 cSeqS (cSeqS (cRegS (SR129_3)) (cIfS g2_9 (cSkipS) (cExitS 0))) (cSeqS (cBlkS 1 (cRegS (SR129_5))) (cRegS (SR129_4)))
def SF129 : CodeS 2 :=
 cSeqS (cRegS (SR129_0)) (cSeqS (cRegS (SR129_1)) (cSeqS (cSeqS (cRegS (SR129_2)) (cBlkS 0 (cLoopS (SW129_0)))) (cSeqS (cRegS (SR129_6)) (cRetS))))
def T129 : FnT := runG en2_2 (SF129) (resQ (qc (rT g2_4) qn))
theorem T129_ok : GoodF Tryz.prog ro0 okF 129 (T129) :=
 (good_k (n := 21) acc2 (lv [0, 1, 4, 5, 6, 9]) (rs := [ResultVar.tmp 4]) Tryz.func129 (by kernel_rfl) (by kernel_rfl) (by kernel_rfl) (by kernel_rfl) (by kernel_rfl) (by kernel_rfl) (by kernel_rfl) (by kernel_rfl) (by kernel_rfl)).enter en2_2_ok (by kernel_rfl)

/-- internal/strconv.FormatInt -/
def SR130_0 : RegS 2 := fun c t0 h0 =>
 fShal (.string { data := #[] }) fun v1 =>
 p2_4 t0 v1 fun t1 =>
 some (.normal, t1, h0)
def SR130_1 : RegS 2 := fun c t0 h0 =>
 kEql (g2_1 t0) (.int .i64 10) h0 fun v2 h2 =>
 p2_11 t0 v2 fun t1 =>
 some (.normal, t1, h2)
def SR130_2 : RegS 2 := fun c t0 h0 =>
 kLeq (.int .i64 0) (g2_0 t0) h0 fun v2 h2 =>
 kIf v2 true (fun k => k (g2_0 t0) h2) h2 fun v4 h4 =>
 kIf v2 true (fun k => kLss v4 (.int .i64 100) h4 k) h4 fun v5 h5 =>
 kPick v2 v5 (.bool false) h5 fun v6 h6 =>
 p2_17 t0 v6 fun t1 =>
 some (.normal, t1, h6)
def SR130_3 : RegS 2 := fun c t0 h0 =>
 kOf (c 164 [(g2_0 t0)] h0) fun v2 h2 =>
 fShal v2 fun v3 =>
 p2_4 t0 v3 fun t1 =>
 some (.normal, t1, h2)
def SR130_4 : RegS 2 := fun c t0 h0 =>
 kNew [.int .u8 0, .int .u8 0, .int .u8 0, .int .u8 0, .int .u8 0, .int .u8 0, .int .u8 0, .int .u8 0, .int .u8 0, .int .u8 0, .int .u8 0, .int .u8 0, .int .u8 0, .int .u8 0, .int .u8 0, .int .u8 0, .int .u8 0, .int .u8 0, .int .u8 0, .int .u8 0, .int .u8 0, .int .u8 0, .int .u8 0, .int .u8 0] h0 fun v1 h1 =>
 p2_5 t0 v1 fun t1 =>
 some (.normal, t1, h1)
def SR130_5 : RegS 2 := fun c t0 h0 =>
 kAny (aConv .u64 (.const (g2_0 t0))) c h0 fun v2 h2 =>
 fShal v2 fun v3 =>
 p2_6 t0 v3 fun t1 =>
 some (.normal, t1, h2)
def SR130_6 : RegS 2 := fun c t0 h0 =>
 kLss (g2_0 t0) (.int .i64 0) h0 fun v2 h2 =>
 p2_23 t0 v2 fun t1 =>
 some (.normal, t1, h2)
def SR130_7 : RegS 2 := fun c t0 h0 =>
 kAny (aUn .neg (.const (g2_6 t0))) c h0 fun v2 h2 =>
 fShal v2 fun v3 =>
 p2_6 t0 v3 fun t1 =>
 some (.normal, t1, h2)
def SR130_8 : RegS 2 := fun c t0 h0 =>
 kOf (c 165 [(g2_6 t0)] h0) fun v2 h2 =>
 fShal v2 fun v3 =>
 p2_7 t0 v3 fun t1 =>
 some (.normal, t1, h2)
def SR130_9 : RegS 2 := fun c t0 h0 =>
 kAdd (.int .i64 1) (g2_7 t0) h0 fun v2 h2 =>
 kAny (aSliceArr tO 24 1 (.const (g2_5 t0)) (some (.const (.int .i64 1))) (some (.const v2))) c h2 fun v3 h3 =>
 kOf (c 166 [v3, (g2_6 t0)] h3) fun v5 h5 =>
 some (.normal, t0, h5)
def SR130_10 : RegS 2 := fun c t0 h0 =>
 kLss (g2_0 t0) (.int .i64 0) h0 fun v2 h2 =>
 p2_34 t0 v2 fun t1 =>
 some (.normal, t1, h2)
def SR130_11 : RegS 2 := fun c t0 h0 =>
 kAny (aIdxArr 24 1 (.const (g2_5 t0)) (.const (.int .i64 0))) c h0 fun v1 h1 =>
 kSt ro0 v1 (.int .u8 45) h1 fun _ h2 =>
 some (.normal, t0, h2)
def SR130_12 : RegS 2 := fun c t0 h0 =>
 kAdd (.int .i64 1) (g2_7 t0) h0 fun v2 h2 =>
 kAny (aSliceArr tO 24 1 (.const (g2_5 t0)) none (some (.const v2))) c h2 fun v3 h3 =>
 kAny (aB2S tO (.const v3)) c h3 fun v4 h4 =>
 fShal v4 fun v5 =>
 p2_4 t0 v5 fun t1 =>
 some (.normal, t1, h4)
def SR130_13 : RegS 2 := fun c t0 h0 =>
 kAdd (.int .i64 1) (g2_7 t0) h0 fun v2 h2 =>
 kAny (aSliceArr tO 24 1 (.const (g2_5 t0)) (some (.const (.int .i64 1))) (some (.const v2))) c h2 fun v3 h3 =>
 kAny (aB2S tO (.const v3)) c h3 fun v4 h4 =>
 fShal v4 fun v5 =>
 p2_4 t0 v5 fun t1 =>
 some (.normal, t1, h4)
def SR130_14 : RegS 2 := fun c t0 h0 =>
 kAny (aConv .u64 (.const (g2_0 t0))) c h0 fun v2 h2 =>
 kLss (g2_0 t0) (.int .i64 0) h2 fun v5 h5 =>
 kOf (c 167 [(.slice none 0 0), v2, (g2_1 t0), v5, (.bool false)] h5) fun v6 h6 =>
 kExt 0 v6 h6 fun v8 h8 =>
 kExt 1 v6 h8 fun v9 h9 =>
 fShal v9 fun v11 =>
 p2_9 t0 v11 fun t1 =>
 some (.normal, t1, h9)
def SR130_15 : RegS 2 := fun c t0 h0 =>
 fShal (g2_9 t0) fun v2 =>
 p2_4 t0 v2 fun t1 =>
 some (.normal, t1, h0)
def SF130 : CodeS 2 :=
 cSeqS (cRegS (SR130_0)) (cSeqS (cSeqS (cRegS (SR130_1)) (cIfS g2_11 (cSeqS (cSeqS (cRegS (SR130_2)) (cIfS g2_17 (cSeqS (cRegS (SR130_3)) (cRetS)) (cSkipS))) (cSeqS (cRegS (SR130_4)) (cSeqS (cRegS (SR130_5)) (cSeqS (cSeqS (cRegS (SR130_6)) (cIfS g2_23 (cRegS (SR130_7)) (cSkipS))) (cSeqS (cRegS (SR130_8)) (cSeqS (cRegS (SR130_9)) (cSeqS (cSeqS (cRegS (SR130_10)) (cIfS g2_34 (cSeqS (cRegS (SR130_11)) (cSeqS (cRegS (SR130_12)) (cRetS))) (cSkipS))) (cSeqS (cRegS (SR130_13)) (cRetS))))))))) (cSkipS))) (cSeqS (cRegS (SR130_14)) (cSeqS (cRegS (SR130_15)) (cRetS))))
def T130 : FnT := runG en2_2 (SF130) (resQ (qc (rT g2_4) qn))
theorem T130_ok : GoodF Tryz.prog ro0 okF 130 (T130) :=
 (good_k (n := 54) acc2 (lv [0, 1, 4, 5, 6, 7, 9, 11, 17, 23, 34]) (rs := [ResultVar.tmp 4]) Tryz.func130 (by kernel_rfl) (by kernel_rfl) (by kernel_rfl) (by kernel_rfl) (by kernel_rfl) (by kernel_rfl) (by kernel_rfl) (by kernel_rfl) (by kernel_rfl)).enter en2_2_ok (by kernel_rfl)

/-- (*circheck/checker.Solver).Solve -/
def SR151_0 : RegS 3 := fun c t0 h0 =>
 fShal (.int .i64 0) fun v1 =>
 p3_6 t0 v1 fun t1 =>
 some (.normal, t1, h0)
def SR151_1 : RegS 3 := fun c t0 h0 =>
 kPtrNil false (g3_0 t0) (.pointer none) h0 fun v2 h2 =>
 kIf v2 false (fun k => k (g3_2 t0) h2) h2 fun v4 h4 =>
 kIf v2 false (fun k => kLss v4 (.int .i64 0) h4 k) h4 fun v5 h5 =>
 kPick v2 (.bool true) v5 h5 fun v6 h6 =>
 kIf v6 false (fun k => k (g3_0 t0) h6) h6 fun v8 h8 =>
 kIf v6 false (fun k => k (g3_1 t0) h8) h8 fun v9 h9 =>
 kIf v6 false (fun k => kOf (c 156 [v8, v9] h9) k) h9 fun v10 h10 =>
 kIf v6 false (fun k => kNot v10 h10 k) h10 fun v11 h11 =>
 kPick v6 (.bool true) v11 h11 fun v12 h12 =>
 p3_21 t0 v12 fun t1 =>
 some (.normal, t1, h12)
def SR151_2 : RegS 3 := fun c t0 h0 =>
 fShal (.int .i64 0) fun v1 =>
 p3_6 t0 v1 fun t1 =>
 some (.normal, t1, h0)
def SR151_3 : RegS 3 := fun c t0 h0 =>
 kOf (c 157 [(g3_0 t0), (g3_1 t0)] h0) fun v3 h3 =>
 fShal v3 fun v4 =>
 p3_7 t0 v4 fun t1 =>
 some (.normal, t1, h3)
def SR151_4 : RegS 3 := fun c t0 h0 =>
 kNil (g3_0 t0) h0 fun v2 h2 =>
 kFld 0 v2 h2 fun v3 h3 =>
 kLd v3 h3 fun v4 h4 =>
 kOf (c 186 [v4, (g3_7 t0)] h4) fun v6 h6 =>
 fShal v6 fun v7 =>
 p3_8 t0 v7 fun t1 =>
 some (.normal, t1, h6)
def SR151_5 : RegS 3 := fun c t0 h0 =>
 kNil (g3_0 t0) h0 fun v3 h3 =>
 kFld 1 v3 h3 fun v4 h4 =>
 kLd v4 h4 fun v5 h5 =>
 kOf (c 187 [(g3_8 t0), v5, (g3_2 t0)] h5) fun v7 h7 =>
 fShal v7 fun v8 =>
 p3_9 t0 v8 fun t1 =>
 some (.normal, t1, h7)
def SR151_6 : RegS 3 := fun c t0 h0 =>
 kNil (g3_0 t0) h0 fun v2 h2 =>
 kFld 4 v2 h2 fun v3 h3 =>
 kLd v3 h3 fun v4 h4 =>
 kNil (g3_8 t0) h4 fun v6 h6 =>
 kFld 11 v6 h6 fun v7 h7 =>
 kLd v7 h7 fun v8 h8 =>
 kAdd v4 v8 h8 fun v9 h9 =>
 kNil (g3_0 t0) h9 fun v10 h10 =>
 kFld 4 v10 h10 fun v11 h11 =>
 kSt ro0 v11 v9 h11 fun _ h12 =>
 some (.normal, t0, h12)
def SR151_7 : RegS 3 := fun c t0 h0 =>
 kNil (g3_0 t0) h0 fun v2 h2 =>
 kFld 2 v2 h2 fun v3 h3 =>
 kSt ro0 v3 (.slice none 0 0) h3 fun _ h4 =>
 some (.normal, t0, h4)
def SR151_8 : RegS 3 := fun c t0 h0 =>
 kNil (g3_0 t0) h0 fun v2 h2 =>
 kFld 3 v2 h2 fun v3 h3 =>
 kSt ro0 v3 (.slice none 0 0) h3 fun _ h4 =>
 some (.normal, t0, h4)
def SR151_9 : RegS 3 := fun c t0 h0 =>
 fShal (g3_9 t0) fun v1 =>
 p3_55 t0 v1 fun t1 =>
 some (.normal, t1, h0)
def SR151_10 : RegS 3 := fun c t0 h0 =>
 kEql (g3_55 t0) (.int .i64 1) h0 fun v1 h1 =>
 fShal v1 fun v2 =>
 p3_56 t0 v2 fun t1 =>
 some (.normal, t1, h1)
def SR151_11 : RegS 3 := fun c t0 h0 =>
 kOf (c 188 [(g3_8 t0)] h0) fun v3 h3 =>
 kNil (g3_0 t0) h3 fun v4 h4 =>
 kFld 2 v4 h4 fun v5 h5 =>
 kSt ro0 v5 v3 h5 fun _ h6 =>
 some (.normal, t0, h6)
def SR151_12 : RegS 3 := fun c t0 h0 =>
 kEql (g3_55 t0) (.int .i64 2) h0 fun v1 h1 =>
 fShal v1 fun v2 =>
 p3_63 t0 v2 fun t1 =>
 some (.normal, t1, h1)
def SR151_13 : RegS 3 := fun c t0 h0 =>
 kNil (g3_8 t0) h0 fun v3 h3 =>
 kFld 12 v3 h3 fun v4 h4 =>
 kLd v4 h4 fun v5 h5 =>
 kNil (g3_0 t0) h5 fun v6 h6 =>
 kFld 3 v6 h6 fun v7 h7 =>
 kSt ro0 v7 v5 h7 fun _ h8 =>
 some (.normal, t0, h8)
def SR151_14 : RegS 3 := fun c t0 h0 =>
 fShal (g3_9 t0) fun v2 =>
 p3_6 t0 v2 fun t1 =>
 some (.normal, t1, h0)
def SF151 : CodeS 3 :=
 cSeqS (cRegS (SR151_0)) (cSeqS (cSeqS (cRegS (SR151_1)) (cIfS g3_21 (cSeqS (cRegS (SR151_2)) (cRetS)) (cSkipS))) (cSeqS (cRegS (SR151_3)) (cSeqS (cRegS (SR151_4)) (cSeqS (cRegS (SR151_5)) (cSeqS (cRegS (SR151_6)) (cSeqS (cRegS (SR151_7)) (cSeqS (cRegS (SR151_8)) (cSeqS (cSeqS (cRegS (SR151_9)) (cBlkS 0 (cSeqS (cRegS (SR151_10)) (cIfS g3_56 (cRegS (SR151_11)) (cSeqS (cRegS (SR151_12)) (cIfS g3_63 (cRegS (SR151_13)) (cSkipS))))))) (cSeqS (cRegS (SR151_14)) (cRetS))))))))))
def T151 : FnT := runG en3_3 (SF151) (resQ (qc (rT g3_6) qn))
theorem T151_ok : GoodF Tryz.prog ro0 okF 151 (T151) :=
 (good_k (n := 73) acc3 (lv [0, 1, 2, 6, 7, 8, 9, 21, 55, 56, 63]) (rs := [ResultVar.tmp 6]) Tryz.func151 (by kernel_rfl) (by kernel_rfl) (by kernel_rfl) (by kernel_rfl) (by kernel_rfl) (by kernel_rfl) (by kernel_rfl) (by kernel_rfl) (by kernel_rfl)).enter en3_3_ok (by kernel_rfl)

/-- (*circheck/checker.Solver).Value -/
def SR153_0 : RegS 2 := fun c t0 h0 =>
 fShal (.bool false) fun v1 =>
 p2_4 t0 v1 fun t1 =>
 fShal (.int .i64 0) fun v2 =>
 p2_5 t1 v2 fun t2 =>
 some (.normal, t2, h0)
def SR153_1 : RegS 2 := fun c t0 h0 =>
 kPtrNil false (g2_0 t0) (.pointer none) h0 fun v2 h2 =>
 kIf v2 false (fun k => k (g2_1 t0) h2) h2 fun v4 h4 =>
 kIf v2 false (fun k => kLss v4 (.int .i64 0) h4 k) h4 fun v5 h5 =>
 kPick v2 (.bool true) v5 h5 fun v6 h6 =>
 kIf v6 false (fun k => k (g2_1 t0) h6) h6 fun v8 h8 =>
 kIf v6 false (fun k => k (g2_0 t0) h8) h8 fun v9 h9 =>
 kIf v6 false (fun k => kNil v9 h9 k) h9 fun v10 h10 =>
 kIf v6 false (fun k => kFld 2 v10 h10 k) h10 fun v11 h11 =>
 kIf v6 false (fun k => kLd v11 h11 k) h11 fun v12 h12 =>
 kIf v6 false (fun k => kLenSl v12 h12 k) h12 fun v13 h13 =>
 kIf v6 false (fun k => kGeq v8 v13 h13 k) h13 fun v14 h14 =>
 kPick v6 (.bool true) v14 h14 fun v15 h15 =>
 p2_20 t0 v15 fun t1 =>
 some (.normal, t1, h15)
def SR153_2 : RegS 2 := fun c t0 h0 =>
 fShal (.bool false) fun v1 =>
 p2_4 t0 v1 fun t1 =>
 fShal (.int .i64 13) fun v2 =>
 p2_5 t1 v2 fun t2 =>
 some (.normal, t2, h0)
def SR153_3 : RegS 2 := fun c t0 h0 =>
 kNil (g2_0 t0) h0 fun v2 h2 =>
 kFld 2 v2 h2 fun v3 h3 =>
 kLd v3 h3 fun v4 h4 =>
 kIdx 1 v4 (g2_1 t0) h4 fun v6 h6 =>
 kLd v6 h6 fun v7 h7 =>
 fShal v7 fun v8 =>
 p2_4 t0 v8 fun t1 =>
 fShal (.int .i64 0) fun v9 =>
 p2_5 t1 v9 fun t2 =>
 some (.normal, t2, h7)
def SF153 : CodeS 2 :=
 cSeqS (cRegS (SR153_0)) (cSeqS (cSeqS (cRegS (SR153_1)) (cIfS g2_20 (cSeqS (cRegS (SR153_2)) (cRetS)) (cSkipS))) (cSeqS (cRegS (SR153_3)) (cRetS)))
def T153 : FnT := runG en2_2 (SF153) (resQ (qc (rT g2_4) (qc (rT g2_5) qn)))
theorem T153_ok : GoodF Tryz.prog ro0 okF 153 (T153) :=
 (good_k (n := 28) acc2 (lv [0, 1, 4, 5, 20]) (rs := [ResultVar.tmp 4, ResultVar.tmp 5]) Tryz.func153 (by kernel_rfl) (by kernel_rfl) (by kernel_rfl) (by kernel_rfl) (by kernel_rfl) (by kernel_rfl) (by kernel_rfl) (by kernel_rfl) (by kernel_rfl)).enter en2_2_ok (by kernel_rfl)

/-- (*circheck/checker.reader).byteBelow -/
def SR155_0 : RegS 2 := fun c t0 h0 =>
 fShal (.int .i64 0) fun v1 =>
 p2_4 t0 v1 fun t1 =>
 some (.normal, t1, h0)
def SR155_1 : RegS 2 := fun c t0 h0 =>
 kOf (c 65 [(g2_0 t0)] h0) fun v2 h2 =>
 fShal v2 fun v3 =>
 p2_5 t0 v3 fun t1 =>
 some (.normal, t1, h2)
def SR155_2 : RegS 2 := fun c t0 h0 =>
 kEql (g2_5 t0) (.int .i64 (-1)) h0 fun v2 h2 =>
 kIf v2 false (fun k => k (g2_5 t0) h2) h2 fun v4 h4 =>
 kIf v2 false (fun k => k (g2_1 t0) h4) h4 fun v5 h5 =>
 kIf v2 false (fun k => kGeq v4 v5 h5 k) h5 fun v6 h6 =>
 kPick v2 (.bool true) v6 h6 fun v7 h7 =>
 p2_14 t0 v7 fun t1 =>
 some (.normal, t1, h7)
def SR155_3 : RegS 2 := fun c t0 h0 =>
 kNil (g2_0 t0) h0 fun v3 h3 =>
 kFld 1 v3 h3 fun v4 h4 =>
 kLd v4 h4 fun v5 h5 =>
 kOf (c 67 [(g2_0 t0), (.int .i64 2), v5] h5) fun v6 h6 =>
 some (.normal, t0, h6)
def SR155_4 : RegS 2 := fun c t0 h0 =>
 fShal (.int .i64 0) fun v1 =>
 p2_4 t0 v1 fun t1 =>
 some (.normal, t1, h0)
def SR155_5 : RegS 2 := fun c t0 h0 =>
 kNil (g2_0 t0) h0 fun v2 h2 =>
 kFld 1 v2 h2 fun v3 h3 =>
 kLd v3 h3 fun v4 h4 =>
 kAdd v4 (.int .i64 1) h4 fun v5 h5 =>
 kNil (g2_0 t0) h5 fun v6 h6 =>
 kFld 1 v6 h6 fun v7 h7 =>
 kSt ro0 v7 v5 h7 fun _ h8 =>
 some (.normal, t0, h8)
def SR155_6 : RegS 2 := fun c t0 h0 =>
 fShal (g2_5 t0) fun v2 =>
 p2_4 t0 v2 fun t1 =>
 some (.normal, t1, h0)
def SF155 : CodeS 2 :=
 cSeqS (cRegS (SR155_0)) (cSeqS (cRegS (SR155_1)) (cSeqS (cSeqS (cRegS (SR155_2)) (cIfS g2_14 (cSeqS (cRegS (SR155_3)) (cSeqS (cRegS (SR155_4)) (cRetS))) (cSkipS))) (cSeqS (cRegS (SR155_5)) (cSeqS (cRegS (SR155_6)) (cRetS)))))
def T155 : FnT := runG en2_2 (SF155) (resQ (qc (rT g2_4) qn))
theorem T155_ok : GoodF Tryz.prog ro0 okF 155 (T155) :=
 (good_k (n := 29) acc2 (lv [0, 1, 4, 5, 14]) (rs := [ResultVar.tmp 4]) Tryz.func155 (by kernel_rfl) (by kernel_rfl) (by kernel_rfl) (by kernel_rfl) (by kernel_rfl) (by kernel_rfl) (by kernel_rfl) (by kernel_rfl) (by kernel_rfl)).enter en2_2_ok (by kernel_rfl)

/-- (*circheck/checker.Solver).haveAll -/
def SR156_0 : RegS 2 := fun c t0 h0 =>
 fShal (.bool false) fun v1 =>
 p2_4 t0 v1 fun t1 =>
 some (.normal, t1, h0)
def SR156_1 : RegS 2 := fun c t0 h0 =>
 fShal (.int .i64 0) fun v1 =>
 p2_5 t0 v1 fun t1 =>
 some (.normal, t1, h0)
def SR156_2 : RegS 2 := fun c t0 h0 =>
 kLenSl (g2_1 t0) h0 fun v3 h3 =>
 kLss (g2_5 t0) v3 h3 fun v4 h4 =>
 p2_9 t0 v4 fun t1 =>
 some (.normal, t1, h4)
def SR156_4 : RegS 2 := fun c t0 h0 =>
 kIdx 1 (g2_1 t0) (g2_5 t0) h0 fun v3 h3 =>
 kLd v3 h3 fun v4 h4 =>
 kLss v4 (.int .i64 0) h4 fun v5 h5 =>
 kIf v5 false (fun k => k (g2_1 t0) h5) h5 fun v7 h7 =>
 kIf v5 false (fun k => k (g2_5 t0) h7) h7 fun v8 h8 =>
 kIf v5 false (fun k => kIdx 1 v7 v8 h8 k) h8 fun v9 h9 =>
 kIf v5 false (fun k => kLd v9 h9 k) h9 fun v10 h10 =>
 kIf v5 false (fun k => k (g2_0 t0) h10) h10 fun v11 h11 =>
 kIf v5 false (fun k => kNil v11 h11 k) h11 fun v12 h12 =>
 kIf v5 false (fun k => kFld 0 v12 h12 k) h12 fun v13 h13 =>
 kIf v5 false (fun k => kLd v13 h13 k) h13 fun v14 h14 =>
 kIf v5 false (fun k => kLenSl v14 h14 k) h14 fun v15 h15 =>
 kIf v5 false (fun k => kOf (vInt .mul (.int .i64 2) v15 h15) k) h15 fun v16 h16 =>
 kIf v5 false (fun k => kGeq v10 v16 h16 k) h16 fun v17 h17 =>
 kPick v5 (.bool true) v17 h17 fun v18 h18 =>
 p2_29 t0 v18 fun t1 =>
 some (.normal, t1, h18)
def SR156_5 : RegS 2 := fun c t0 h0 =>
 fShal (.bool false) fun v1 =>
 p2_4 t0 v1 fun t1 =>
 some (.normal, t1, h0)
def SR156_3 : RegS 2 := fun c t0 h0 =>
 kAdd (g2_5 t0) (.int .i64 1) h0 fun v2 h2 =>
 fShal v2 fun v3 =>
 p2_5 t0 v3 fun t1 =>
 some (.normal, t1, h2)
def SR156_6 : RegS 2 := fun c t0 h0 =>
 fShal (.bool true) fun v1 =>
 p2_4 t0 v1 fun t1 =>
 some (.normal, t1, h0)
def SW156_0 : CodeS 2 :=
 cSeqS (cSeqS (cRegS (SR156_2)) (cIfS g2_9 (cSkipS) (cExitS 0))) (cSeqS (cBlkS 1 (cSeqS (cRegS (SR156_4)) (cIfS g2_29 (cSeqS (cRegS (SR156_5)) (cRetS)) (cSkipS)))) (cRegS (SR156_3)))
def SF156 : CodeS 2 :=
 cSeqS (cRegS (SR156_0)) (cSeqS (cSeqS (cRegS (SR156_1)) (cBlkS 0 (cLoopS (SW156_0)))) (cSeqS (cRegS (SR156_6)) (cRetS)))
def T156 : FnT := runG en2_2 (SF156) (resQ (qc (rT g2_4) qn))
theorem T156_ok : GoodF Tryz.prog ro0 okF 156 (T156) :=
 (good_k (n := 30) acc2 (lv [0, 1, 4, 5, 9, 29]) (rs := [ResultVar.tmp 4]) Tryz.func156 (by kernel_rfl) (by kernel_rfl) (by kernel_rfl) (by kernel_rfl) (by kernel_rfl) (by kernel_rfl) (by kernel_rfl) (by kernel_rfl) (by kernel_rfl)).enter en2_2_ok (by kernel_rfl)

/-- (*circheck/checker.Solver).distinct -/
def SR157_0 : RegS 2 := fun c t0 h0 =>
 fShal (.slice none 0 0) fun v1 =>
 p2_4 t0 v1 fun t1 =>
 some (.normal, t1, h0)
def SR157_1 : RegS 2 := fun c t0 h0 =>
 kNil (g2_0 t0) h0 fun v2 h2 =>
 kFld 0 v2 h2 fun v3 h3 =>
 kLd v3 h3 fun v4 h4 =>
 kLenSl v4 h4 fun v5 h5 =>
 kOf (vInt .mul (.int .i64 2) v5 h5) fun v6 h6 =>
 kAny (aMake tO 1 1 #[.bool false] (.const v6) (.const v6)) c h6 fun v7 h7 =>
 fShal v7 fun v8 =>
 p2_5 t0 v8 fun t1 =>
 some (.normal, t1, h7)
def SR157_2 : RegS 2 := fun c t0 h0 =>
 kMkSl 1 0 #[.int .i64 0] [] h0 fun v1 h1 =>
 fShal v1 fun v2 =>
 p2_6 t0 v2 fun t1 =>
 some (.normal, t1, h1)
def SR157_3 : RegS 2 := fun c t0 h0 =>
 fShal (.int .i64 0) fun v1 =>
 p2_7 t0 v1 fun t1 =>
 some (.normal, t1, h0)
def SR157_4 : RegS 2 := fun c t0 h0 =>
 kLenSl (g2_1 t0) h0 fun v3 h3 =>
 kLss (g2_7 t0) v3 h3 fun v4 h4 =>
 p2_19 t0 v4 fun t1 =>
 some (.normal, t1, h4)
def SR157_6 : RegS 2 := fun c t0 h0 =>
 kIdx 1 (g2_1 t0) (g2_7 t0) h0 fun v4 h4 =>
 kLd v4 h4 fun v5 h5 =>
 kIdx 1 (g2_5 t0) v5 h5 fun v6 h6 =>
 kLd v6 h6 fun v7 h7 =>
 kNot v7 h7 fun v8 h8 =>
 p2_29 t0 v8 fun t1 =>
 some (.normal, t1, h8)
def SR157_7 : RegS 2 := fun c t0 h0 =>
 kIdx 1 (g2_1 t0) (g2_7 t0) h0 fun v4 h4 =>
 kLd v4 h4 fun v5 h5 =>
 kIdx 1 (g2_5 t0) v5 h5 fun v6 h6 =>
 kSt ro0 v6 (.bool true) h6 fun _ h7 =>
 some (.normal, t0, h7)
def SR157_8 : RegS 2 := fun c t0 h0 =>
 kIdx 1 (g2_1 t0) (g2_7 t0) h0 fun v4 h4 =>
 kLd v4 h4 fun v5 h5 =>
 kMkSl 1 1 #[.int .i64 0] [(0, v5)] h5 fun v6 h6 =>
 kOf (vApp ro0 1 8 (g2_6 t0) v6 h6) fun v7 h7 =>
 fShal v7 fun v8 =>
 p2_6 t0 v8 fun t1 =>
 some (.normal, t1, h7)
def SR157_5 : RegS 2 := fun c t0 h0 =>
 kAdd (g2_7 t0) (.int .i64 1) h0 fun v2 h2 =>
 fShal v2 fun v3 =>
 p2_7 t0 v3 fun t1 =>
 some (.normal, t1, h2)
def SR157_9 : RegS 2 := fun c t0 h0 =>
 fShal (g2_6 t0) fun v2 =>
 p2_4 t0 v2 fun t1 =>
 some (.normal, t1, h0)
def SW157_0 : CodeS 2 :=
 cSeqS (cSeqS (cRegS (SR157_4)) (cIfS g2_19 (cSkipS) (cExitS 0))) (cSeqS (cBlkS 1 (cSeqS (cRegS (SR157_6)) (cIfS g2_29 (cSeqS (cRegS (SR157_7)) (cRegS (SR157_8))) (cSkipS)))) (cRegS (SR157_5)))
def SF157 : CodeS 2 :=
 cSeqS (cRegS (SR157_0)) (cSeqS (cRegS (SR157_1)) (cSeqS (cRegS (SR157_2)) (cSeqS (cSeqS (cRegS (SR157_3)) (cBlkS 0 (cLoopS (SW157_0)))) (cSeqS (cRegS (SR157_9)) (cRetS)))))
def T157 : FnT := runG en2_2 (SF157) (resQ (qc (rT g2_4) qn))
theorem T157_ok : GoodF Tryz.prog ro0 okF 157 (T157) :=
 (good_k (n := 44) acc2 (lv [0, 1, 4, 5, 6, 7, 19, 29]) (rs := [ResultVar.tmp 4]) Tryz.func157 (by kernel_rfl) (by kernel_rfl) (by kernel_rfl) (by kernel_rfl) (by kernel_rfl) (by kernel_rfl) (by kernel_rfl) (by kernel_rfl) (by kernel_rfl)).enter en2_2_ok (by kernel_rfl)

/-- circheck/checker.isAlwaysTrue -/
def SR158_0 : RegS 2 := fun c t0 h0 =>
 fShal (.bool false) fun v1 =>
 p2_2 t0 v1 fun t1 =>
 some (.normal, t1, h0)
def SR158_1 : RegS 2 := fun c t0 h0 =>
 fShal (.int .i64 0) fun v1 =>
 p2_3 t0 v1 fun t1 =>
 some (.normal, t1, h0)
def SR158_2 : RegS 2 := fun c t0 h0 =>
 kLenSl (g2_0 t0) h0 fun v3 h3 =>
 kLss (g2_3 t0) v3 h3 fun v4 h4 =>
 p2_8 t0 v4 fun t1 =>
 some (.normal, t1, h4)
def SR158_4 : RegS 2 := fun c t0 h0 =>
 fShal (.int .i64 0) fun v1 =>
 p2_4 t0 v1 fun t1 =>
 some (.normal, t1, h0)
def SR158_5 : RegS 2 := fun c t0 h0 =>
 kLss (g2_4 t0) (g2_3 t0) h0 fun v3 h3 =>
 p2_13 t0 v3 fun t1 =>
 some (.normal, t1, h3)
def SR158_7 : RegS 2 := fun c t0 h0 =>
 kIdx 1 (g2_0 t0) (g2_4 t0) h0 fun v3 h3 =>
 kLd v3 h3 fun v4 h4 =>
 kIdx 1 (g2_0 t0) (g2_3 t0) h4 fun v7 h7 =>
 kLd v7 h7 fun v8 h8 =>
 kOf (vInt .xor v8 (.int .i64 1) h8) fun v9 h9 =>
 kEql v4 v9 h9 fun v10 h10 =>
 p2_25 t0 v10 fun t1 =>
 some (.normal, t1, h10)
def SR158_8 : RegS 2 := fun c t0 h0 =>
 fShal (.bool true) fun v1 =>
 p2_2 t0 v1 fun t1 =>
 some (.normal, t1, h0)
def SR158_6 : RegS 2 := fun c t0 h0 =>
 kAdd (g2_4 t0) (.int .i64 1) h0 fun v2 h2 =>
 fShal v2 fun v3 =>
 p2_4 t0 v3 fun t1 =>
 some (.normal, t1, h2)
def SR158_3 : RegS 2 := fun c t0 h0 =>
 kAdd (g2_3 t0) (.int .i64 1) h0 fun v2 h2 =>
 fShal v2 fun v3 =>
 p2_3 t0 v3 fun t1 =>
 some (.normal, t1, h2)
def SR158_9 : RegS 2 := fun c t0 h0 =>
 fShal (.bool false) fun v1 =>
 p2_2 t0 v1 fun t1 =>
 some (.normal, t1, h0)
def SW158_0 : CodeS 2 :=
 cSeqS (cSeqS (cRegS (SR158_5)) (cIfS g2_13 (cSkipS) (cExitS 2))) (cSeqS (cBlkS 3 (cSeqS (cRegS (SR158_7)) (cIfS g2_25 (cSeqS (cRegS (SR158_8)) (cRetS)) (cSkipS)))) (cRegS (SR158_6)))
def SW158_1 : CodeS 2 :=
 cSeqS (cSeqS (cRegS (SR158_2)) (cIfS g2_8 (cSkipS) (cExitS 0))) (cSeqS (cBlkS 1 (cSeqS (cRegS (SR158_4)) (cBlkS 2 (cLoopS (SW158_0))))) (cRegS (SR158_3)))
def SF158 : CodeS 2 :=
 cSeqS (cRegS (SR158_0)) (cSeqS (cSeqS (cRegS (SR158_1)) (cBlkS 0 (cLoopS (SW158_1)))) (cSeqS (cRegS (SR158_9)) (cRetS)))
def T158 : FnT := runG en2_1 (SF158) (resQ (qc (rT g2_2) qn))
theorem T158_ok : GoodF Tryz.prog ro0 okF 158 (T158) :=
 (good_k (n := 26) acc2 (lv [0, 2, 3, 4, 8, 13, 25]) (rs := [ResultVar.tmp 2]) Tryz.func158 (by kernel_rfl) (by kernel_rfl) (by kernel_rfl) (by kernel_rfl) (by kernel_rfl) (by kernel_rfl) (by kernel_rfl) (by kernel_rfl) (by kernel_rfl)).enter en2_1_ok (by kernel_rfl)

/-- (*circheck/checker.frame).found -/
def SR159_0 : RegS 2 := fun c t0 h0 =>
 kNew [.int .i64 0, .int .i64 0] h0 fun v1 h1 =>
 p2_4 t0 v1 fun t1 =>
 some (.normal, t1, h1)
def SR159_1 : RegS 2 := fun c t0 h0 =>
 kNil (g2_1 t0) h0 fun v3 h3 =>
 kFld 0 v3 h3 fun v4 h4 =>
 kLd v4 h4 fun v5 h5 =>
 kOf (c 191 [(g2_0 t0), (.int .i64 1), v5] h5) fun v6 h6 =>
 fShal v6 fun v7 =>
 p2_5 t0 v7 fun t1 =>
 some (.normal, t1, h6)
def SR159_2 : RegS 2 := fun c t0 h0 =>
 kNil (g2_1 t0) h0 fun v3 h3 =>
 kFld 0 v3 h3 fun v4 h4 =>
 kLd v4 h4 fun v5 h5 =>
 kAdd (.int .i64 1) v5 h5 fun v6 h6 =>
 kNil (g2_1 t0) h6 fun v8 h8 =>
 kFld 1 v8 h8 fun v9 h9 =>
 kLd v9 h9 fun v10 h10 =>
 kLenSl v10 h10 fun v11 h11 =>
 kOf (c 191 [(g2_0 t0), v6, v11] h11) fun v12 h12 =>
 fShal v12 fun v13 =>
 p2_6 t0 v13 fun t1 =>
 some (.normal, t1, h12)
def SR159_3 : RegS 2 := fun c t0 h0 =>
 kBuild #[.int .i64 0, .int .i64 0] [(0, 1), (1, 1)] [(0, (g2_6 t0)), (1, (g2_5 t0))] h0 fun v3 h3 =>
 kAny (aSt tO ro0 2 (.const (g2_4 t0)) (.const v3)) c h3 fun _ h4 =>
 some (.normal, t0, h4)
def SF159 : CodeS 2 :=
 cSeqS (cRegS (SR159_0)) (cSeqS (cRegS (SR159_1)) (cSeqS (cRegS (SR159_2)) (cSeqS (cRegS (SR159_3)) (cRetS))))
def T159 : FnT := runG en2_2 (SF159) (resQ (qc (rN 2 g2_4) qn))
theorem T159_ok : GoodF Tryz.prog ro0 okF 159 (T159) :=
 (good_k (n := 28) acc2 (lv [0, 1, 4, 5, 6]) (rs := [ResultVar.cell 4 162]) Tryz.func159 (by kernel_rfl) (by kernel_rfl) (by kernel_rfl) (by kernel_rfl) (by kernel_rfl) (by kernel_rfl) (by kernel_rfl) (by kernel_rfl) (by kernel_rfl)).enter en2_2_ok (by kernel_rfl)

/-- (*circheck/checker.Circuit).clauseAgainst -/
def SR160_0 : RegS 2 := fun c t0 h0 =>
 fShal (.slice none 0 0) fun v1 =>
 p2_4 t0 v1 fun t1 =>
 some (.normal, t1, h0)
def SR160_1 : RegS 2 := fun c t0 h0 =>
 kMkSl 1 0 #[.int .i64 0] [] h0 fun v1 h1 =>
 fShal v1 fun v2 =>
 p2_5 t0 v2 fun t1 =>
 some (.normal, t1, h1)
def SR160_2 : RegS 2 := fun c t0 h0 =>
 fShal (.int .i64 0) fun v1 =>
 p2_6 t0 v1 fun t1 =>
 some (.normal, t1, h0)
def SR160_3 : RegS 2 := fun c t0 h0 =>
 kNil (g2_0 t0) h0 fun v3 h3 =>
 kFld 1 v3 h3 fun v4 h4 =>
 kLd v4 h4 fun v5 h5 =>
 kLenSl v5 h5 fun v6 h6 =>
 kLss (g2_6 t0) v6 h6 fun v7 h7 =>
 p2_14 t0 v7 fun t1 =>
 some (.normal, t1, h7)
def SR160_5 : RegS 2 := fun c t0 h0 =>
 kOf (vInt .mul (.int .i64 2) (g2_6 t0) h0) fun v3 h3 =>
 kAny (aShift .shr (.const (g2_1 t0)) (.const (g2_6 t0))) c h3 fun v6 h6 =>
 kOf (vInt .and v6 (.int .i64 1) h6) fun v7 h7 =>
 kAdd v3 v7 h7 fun v8 h8 =>
 kMkSl 1 1 #[.int .i64 0] [(0, v8)] h8 fun v9 h9 =>
 kOf (vApp ro0 1 8 (g2_5 t0) v9 h9) fun v10 h10 =>
 fShal v10 fun v11 =>
 p2_5 t0 v11 fun t1 =>
 some (.normal, t1, h10)
def SR160_4 : RegS 2 := fun c t0 h0 =>
 kAdd (g2_6 t0) (.int .i64 1) h0 fun v2 h2 =>
 fShal v2 fun v3 =>
 p2_6 t0 v3 fun t1 =>
 some (.normal, t1, h2)
def SR160_6 : RegS 2 := fun c t0 h0 =>
 fShal (g2_5 t0) fun v2 =>
 p2_4 t0 v2 fun t1 =>
 some (.normal, t1, h0)
def SW160_0 : CodeS 2 :=
 cSeqS (cSeqS (cRegS (SR160_3)) (cIfS g2_14 (cSkipS) (cExitS 0))) (cSeqS (cBlkS 1 (cRegS (SR160_5))) (cRegS (SR160_4)))
def SF160 : CodeS 2 :=
 cSeqS (cRegS (SR160_0)) (cSeqS (cRegS (SR160_1)) (cSeqS (cSeqS (cRegS (SR160_2)) (cBlkS 0 (cLoopS (SW160_0)))) (cSeqS (cRegS (SR160_6)) (cRetS))))
def T160 : FnT := runG en2_2 (SF160) (resQ (qc (rT g2_4) qn))
theorem T160_ok : GoodF Tryz.prog ro0 okF 160 (T160) :=
 (good_k (n := 28) acc2 (lv [0, 1, 4, 5, 6, 14]) (rs := [ResultVar.tmp 4]) Tryz.func160 (by kernel_rfl) (by kernel_rfl) (by kernel_rfl) (by kernel_rfl) (by kernel_rfl) (by kernel_rfl) (by kernel_rfl) (by kernel_rfl) (by kernel_rfl)).enter en2_2_ok (by kernel_rfl)

/-- (*circheck/checker.Circuit).broken -/
def SR161_0 : RegS 2 := fun c t0 h0 =>
 fShal (.slice none 0 0) fun v1 =>
 p2_4 t0 v1 fun t1 =>
 some (.normal, t1, h0)
def SR161_1 : RegS 2 := fun c t0 h0 =>
 kMkSl 1 0 #[.int .i64 0] [] h0 fun v1 h1 =>
 fShal v1 fun v2 =>
 p2_5 t0 v2 fun t1 =>
 some (.normal, t1, h1)
def SR161_2 : RegS 2 := fun c t0 h0 =>
 fShal (.int .i64 0) fun v1 =>
 p2_6 t0 v1 fun t1 =>
 some (.normal, t1, h0)
def SR161_3 : RegS 2 := fun c t0 h0 =>
 kLenSl (g2_1 t0) h0 fun v3 h3 =>
 kLss (g2_6 t0) v3 h3 fun v4 h4 =>
 p2_12 t0 v4 fun t1 =>
 some (.normal, t1, h4)
def SR161_5 : RegS 2 := fun c t0 h0 =>
 kNil (g2_0 t0) h0 fun v2 h2 =>
 kFld 1 v2 h2 fun v3 h3 =>
 kLd v3 h3 fun v4 h4 =>
 kIdx 1 (g2_1 t0) (g2_6 t0) h4 fun v7 h7 =>
 kLd v7 h7 fun v8 h8 =>
 kAny (aShift .shr (.const v8) (.const (.int .u64 1))) c h8 fun v9 h9 =>
 kIdx 2 v4 v9 h9 fun v10 h10 =>
 kFld 0 v10 h10 fun v11 h11 =>
 kLd v11 h11 fun v12 h12 =>
 fShal v12 fun v13 =>
 p2_7 t0 v13 fun t1 =>
 some (.normal, t1, h12)
def SR161_6 : RegS 2 := fun c t0 h0 =>
 kOf (vInt .xor (g2_7 t0) (.int .i64 1) h0) fun v3 h3 =>
 kIdx 1 (g2_1 t0) (g2_6 t0) h3 fun v6 h6 =>
 kLd v6 h6 fun v7 h7 =>
 kOf (vInt .and v7 (.int .i64 1) h7) fun v8 h8 =>
 kOf (vInt .xor v3 v8 h8) fun v9 h9 =>
 kMkSl 1 1 #[.int .i64 0] [(0, v9)] h9 fun v10 h10 =>
 kOf (vApp ro0 1 8 (g2_5 t0) v10 h10) fun v11 h11 =>
 fShal v11 fun v12 =>
 p2_5 t0 v12 fun t1 =>
 some (.normal, t1, h11)
def SR161_4 : RegS 2 := fun c t0 h0 =>
 kAdd (g2_6 t0) (.int .i64 1) h0 fun v2 h2 =>
 fShal v2 fun v3 =>
 p2_6 t0 v3 fun t1 =>
 some (.normal, t1, h2)
def SR161_7 : RegS 2 := fun c t0 h0 =>
 fShal (g2_5 t0) fun v2 =>
 p2_4 t0 v2 fun t1 =>
 some (.normal, t1, h0)
def SW161_0 : CodeS 2 :=
 cSeqS (cSeqS (cRegS (SR161_3)) (cIfS g2_12 (cSkipS) (cExitS 0))) (cSeqS (cBlkS 1 (cSeqS (cRegS (SR161_5)) (cRegS (SR161_6)))) (cRegS (SR161_4)))
def SF161 : CodeS 2 :=
 cSeqS (cRegS (SR161_0)) (cSeqS (cRegS (SR161_1)) (cSeqS (cSeqS (cRegS (SR161_2)) (cBlkS 0 (cLoopS (SW161_0)))) (cSeqS (cRegS (SR161_7)) (cRetS))))
def T161 : FnT := runG en2_2 (SF161) (resQ (qc (rT g2_4) qn))
theorem T161_ok : GoodF Tryz.prog ro0 okF 161 (T161) :=
 (good_k (n := 39) acc2 (lv [0, 1, 4, 5, 6, 7, 12]) (rs := [ResultVar.tmp 4]) Tryz.func161 (by kernel_rfl) (by kernel_rfl) (by kernel_rfl) (by kernel_rfl) (by kernel_rfl) (by kernel_rfl) (by kernel_rfl) (by kernel_rfl) (by kernel_rfl)).enter en2_2_ok (by kernel_rfl)

/-- (*circheck/checker.Circuit).shortened -/
def SR162_0 : RegS 3 := fun c t0 h0 =>
 fShal (.slice none 0 0) fun v1 =>
 p3_6 t0 v1 fun t1 =>
 some (.normal, t1, h0)
def SR162_1 : RegS 3 := fun c t0 h0 =>
 kOf (c 161 [(g3_0 t0), (g3_1 t0)] h0) fun v3 h3 =>
 fShal v3 fun v4 =>
 p3_7 t0 v4 fun t1 =>
 some (.normal, t1, h3)
def SR162_2 : RegS 3 := fun c t0 h0 =>
 kOf (c 192 [(g3_7 t0), (g3_2 t0)] h0) fun v3 h3 =>
 fShal v3 fun v4 =>
 p3_8 t0 v4 fun t1 =>
 some (.normal, t1, h3)
def SR162_3 : RegS 3 := fun c t0 h0 =>
 fShal (.bool true) fun v1 =>
 p3_9 t0 v1 fun t1 =>
 some (.normal, t1, h0)
def SR162_4 : RegS 3 := fun c t0 h0 =>
 fShal (.int .i64 0) fun v1 =>
 p3_10 t0 v1 fun t1 =>
 some (.normal, t1, h0)
def SR162_5 : RegS 3 := fun c t0 h0 =>
 kLenSl (g3_1 t0) h0 fun v3 h3 =>
 kLss (g3_10 t0) v3 h3 fun v4 h4 =>
 p3_22 t0 v4 fun t1 =>
 some (.normal, t1, h4)
def SR162_7 : RegS 3 := fun c t0 h0 =>
 kIdx 1 (g3_8 t0) (g3_10 t0) h0 fun v3 h3 =>
 kLd v3 h3 fun v4 h4 =>
 kIf v4 true (fun k => k (g3_0 t0) h4) h4 fun v6 h6 =>
 kIf v4 true (fun k => k (g3_1 t0) h6) h6 fun v7 h7 =>
 kIf v4 true (fun k => k (g3_10 t0) h7) h7 fun v8 h8 =>
 kIf v4 true (fun k => kIdx 1 v7 v8 h8 k) h8 fun v9 h9 =>
 kIf v4 true (fun k => kLd v9 h9 k) h9 fun v10 h10 =>
 kIf v4 true (fun k => kOf (c 193 [v6, v10] h10) k) h10 fun v11 h11 =>
 kPick v4 v11 (.bool false) h11 fun v12 h12 =>
 p3_36 t0 v12 fun t1 =>
 some (.normal, t1, h12)
def SR162_8 : RegS 3 := fun c t0 h0 =>
 fShal (.bool false) fun v1 =>
 p3_9 t0 v1 fun t1 =>
 some (.normal, t1, h0)
def SR162_6 : RegS 3 := fun c t0 h0 =>
 kAdd (g3_10 t0) (.int .i64 1) h0 fun v2 h2 =>
 fShal v2 fun v3 =>
 p3_10 t0 v3 fun t1 =>
 some (.normal, t1, h2)
def SR162_9 : RegS 3 := fun c t0 h0 =>
 kMkSl 1 0 #[.int .i64 0] [] h0 fun v1 h1 =>
 fShal v1 fun v2 =>
 p3_11 t0 v2 fun t1 =>
 some (.normal, t1, h1)
def SR162_10 : RegS 3 := fun c t0 h0 =>
 fShal (.int .i64 0) fun v1 =>
 p3_12 t0 v1 fun t1 =>
 some (.normal, t1, h0)
def SR162_11 : RegS 3 := fun c t0 h0 =>
 kLenSl (g3_1 t0) h0 fun v3 h3 =>
 kLss (g3_12 t0) v3 h3 fun v4 h4 =>
 p3_41 t0 v4 fun t1 =>
 some (.normal, t1, h4)
def SR162_13 : RegS 3 := fun c t0 h0 =>
 kIdx 1 (g3_8 t0) (g3_12 t0) h0 fun v3 h3 =>
 kLd v3 h3 fun v4 h4 =>
 kNot v4 h4 fun v5 h5 =>
 kIf v5 true (fun k => k (g3_9 t0) h5) h5 fun v7 h7 =>
 kPick v5 v7 (.bool false) h7 fun v8 h8 =>
 kIf v8 true (fun k => k (g3_0 t0) h8) h8 fun v10 h10 =>
 kIf v8 true (fun k => k (g3_1 t0) h10) h10 fun v11 h11 =>
 kIf v8 true (fun k => k (g3_12 t0) h11) h11 fun v12 h12 =>
 kIf v8 true (fun k => kIdx 1 v11 v12 h12 k) h12 fun v13 h13 =>
 kIf v8 true (fun k => kLd v13 h13 k) h13 fun v14 h14 =>
 kIf v8 true (fun k => kOf (c 193 [v10, v14] h14) k) h14 fun v15 h15 =>
 kPick v8 v15 (.bool false) h15 fun v16 h16 =>
 p3_59 t0 v16 fun t1 =>
 some (.normal, t1, h16)
def SR162_14 : RegS 3 := fun c t0 h0 =>
 kIdx 1 (g3_8 t0) (g3_12 t0) h0 fun v3 h3 =>
 kSt ro0 v3 (.bool true) h3 fun _ h4 =>
 some (.normal, t0, h4)
def SR162_15 : RegS 3 := fun c t0 h0 =>
 fShal (.bool false) fun v1 =>
 p3_9 t0 v1 fun t1 =>
 some (.normal, t1, h0)
def SR162_16 : RegS 3 := fun c t0 h0 =>
 kIdx 1 (g3_8 t0) (g3_12 t0) h0 fun v3 h3 =>
 kLd v3 h3 fun v4 h4 =>
 p3_66 t0 v4 fun t1 =>
 some (.normal, t1, h4)
def SR162_17 : RegS 3 := fun c t0 h0 =>
 kIdx 1 (g3_1 t0) (g3_12 t0) h0 fun v4 h4 =>
 kLd v4 h4 fun v5 h5 =>
 kMkSl 1 1 #[.int .i64 0] [(0, v5)] h5 fun v6 h6 =>
 kOf (vApp ro0 1 8 (g3_11 t0) v6 h6) fun v7 h7 =>
 fShal v7 fun v8 =>
 p3_11 t0 v8 fun t1 =>
 some (.normal, t1, h7)
def SR162_12 : RegS 3 := fun c t0 h0 =>
 kAdd (g3_12 t0) (.int .i64 1) h0 fun v2 h2 =>
 fShal v2 fun v3 =>
 p3_12 t0 v3 fun t1 =>
 some (.normal, t1, h2)
def SR162_18 : RegS 3 := fun c t0 h0 =>
 fShal (g3_11 t0) fun v2 =>
 p3_6 t0 v2 fun t1 =>
 some (.normal, t1, h0)
def SW162_0 : CodeS 3 :=
 cSeqS (cSeqS (cRegS (SR162_5)) (cIfS g3_22 (cSkipS) (cExitS 0))) (cSeqS (cBlkS 1 (cSeqS (cRegS (SR162_7)) (cIfS g3_36 (cRegS (SR162_8)) (cSkipS)))) (cRegS (SR162_6)))
def SW162_1 : CodeS 3 :=
 cSeqS (cSeqS (cRegS (SR162_11)) (cIfS g3_41 (cSkipS) (cExitS 2))) (cSeqS (cBlkS 3 (cSeqS (cSeqS (cRegS (SR162_13)) (cIfS g3_59 (cSeqS (cRegS (SR162_14)) (cRegS (SR162_15))) (cSkipS))) (cSeqS (cRegS (SR162_16)) (cIfS g3_66 (cRegS (SR162_17)) (cSkipS))))) (cRegS (SR162_12)))
def SF162 : CodeS 3 :=
 cSeqS (cRegS (SR162_0)) (cSeqS (cRegS (SR162_1)) (cSeqS (cRegS (SR162_2)) (cSeqS (cRegS (SR162_3)) (cSeqS (cSeqS (cRegS (SR162_4)) (cBlkS 0 (cLoopS (SW162_0)))) (cSeqS (cRegS (SR162_9)) (cSeqS (cSeqS (cRegS (SR162_10)) (cBlkS 2 (cLoopS (SW162_1)))) (cSeqS (cRegS (SR162_18)) (cRetS))))))))
def T162 : FnT := runG en3_3 (SF162) (resQ (qc (rT g3_6) qn))
theorem T162_ok : GoodF Tryz.prog ro0 okF 162 (T162) :=
 (good_k (n := 75) acc3 (lv [0, 1, 2, 6, 7, 8, 9, 10, 11, 12, 22, 36, 41, 59, 66]) (rs := [ResultVar.tmp 6]) Tryz.func162 (by kernel_rfl) (by kernel_rfl) (by kernel_rfl) (by kernel_rfl) (by kernel_rfl) (by kernel_rfl) (by kernel_rfl) (by kernel_rfl) (by kernel_rfl)).enter en3_3_ok (by kernel_rfl)

/-- (*circheck/checker.run).learn -/
def SR163_0 : RegS 2 := fun c t0 h0 =>
 fShal (g2_1 t0) fun v2 =>
 p2_6 t0 v2 fun t1 =>
 some (.normal, t1, h0)
def SR163_1 : RegS 2 := fun c t0 h0 =>
 kGtr (g2_6 t0) (.int .i64 0) h0 fun v2 h2 =>
 p2_10 t0 v2 fun t1 =>
 some (.normal, t1, h2)
def SR163_3 : RegS 2 := fun c t0 h0 =>
 kNil (g2_0 t0) h0 fun v2 h2 =>
 kFld 3 v2 h2 fun v3 h3 =>
 kLd v3 h3 fun v4 h4 =>
 kIdx 2 v4 (g2_6 t0) h4 fun v6 h6 =>
 kOf (c 194 [v6, (g2_2 t0)] h6) fun v8 h8 =>
 fShal v8 fun v9 =>
 p2_7 t0 v9 fun t1 =>
 some (.normal, t1, h8)
def SR163_4 : RegS 2 := fun c t0 h0 =>
 fShal (g2_7 t0) fun v1 =>
 p2_21 t0 v1 fun t1 =>
 some (.normal, t1, h0)
def SR163_5 : RegS 2 := fun c t0 h0 =>
 kNil (g2_0 t0) h0 fun v2 h2 =>
 kFld 3 v2 h2 fun v3 h3 =>
 kLd v3 h3 fun v4 h4 =>
 kIdx 2 v4 (g2_6 t0) h4 fun v6 h6 =>
 kNil (g2_0 t0) h6 fun v8 h8 =>
 kFld 0 v8 h8 fun v9 h9 =>
 kLd v9 h9 fun v10 h10 =>
 kOf (c 195 [v6, v10, (g2_2 t0)] h10) fun v12 h12 =>
 some (.normal, t0, h12)
def SR163_2 : RegS 2 := fun c t0 h0 =>
 kSub (g2_6 t0) (.int .i64 1) h0 fun v2 h2 =>
 fShal v2 fun v3 =>
 p2_6 t0 v3 fun t1 =>
 some (.normal, t1, h2)
def SR163_6 : RegS 2 := fun c t0 h0 =>
 kNil (g2_0 t0) h0 fun v2 h2 =>
 kFld 3 v2 h2 fun v3 h3 =>
 kLd v3 h3 fun v4 h4 =>
 kNil (g2_0 t0) h4 fun v7 h7 =>
 kFld 3 v7 h7 fun v8 h8 =>
 kLd v8 h8 fun v9 h9 =>
 kIdx 2 v9 (g2_1 t0) h9 fun v11 h11 =>
 kFld 1 v11 h11 fun v12 h12 =>
 kLd v12 h12 fun v13 h13 =>
 kMkSl 1 1 #[.slice none 0 0] [(0, (g2_2 t0))] h13 fun v15 h15 =>
 kOf (vApp ro0 1 24 v13 v15 h15) fun v16 h16 =>
 kIdx 2 v4 (g2_1 t0) h16 fun v17 h17 =>
 kFld 1 v17 h17 fun v18 h18 =>
 kSt ro0 v18 v16 h18 fun _ h19 =>
 bif sepA v3 v13 then some (.normal, t0, h19) else none
def SW163_0 : CodeS 2 :=
 cSeqS (cSeqS (cRegS (SR163_1)) (cIfS g2_10 (cSkipS) (cExitS 0))) (cSeqS (cBlkS 1 (cSeqS (cRegS (SR163_3)) (cSeqS (cSeqS (cRegS (SR163_4)) (cIfS g2_21 (cExitS 0) (cSkipS))) (cRegS (SR163_5))))) (cRegS (SR163_2)))
def SF163 : CodeS 2 :=
 cSeqS (cSeqS (cRegS (SR163_0)) (cBlkS 0 (cLoopS (SW163_0)))) (cRegS (SR163_6))
def T163 : FnT := runG en2_3 (SF163) (resQ qn)
theorem T163_ok : GoodF Tryz.prog ro0 okF 163 (T163) :=
 (good_k (n := 52) acc2 (lv [0, 1, 2, 6, 7, 10, 21]) (rs := []) Tryz.func163 (by kernel_rfl) (by kernel_rfl) (by kernel_rfl) (by kernel_rfl) (by kernel_rfl) (by kernel_rfl) (by kernel_rfl) (by kernel_rfl) (by kernel_rfl)).enter en2_3_ok (by kernel_rfl)

/-- internal/strconv.small -/
def SR164_0 : RegS 2 := fun c t0 h0 =>
 fShal (.string { data := #[] }) fun v1 =>
 p2_2 t0 v1 fun t1 =>
 some (.normal, t1, h0)
def SR164_1 : RegS 2 := fun c t0 h0 =>
 kLss (g2_0 t0) (.int .i64 10) h0 fun v2 h2 =>
 p2_4 t0 v2 fun t1 =>
 some (.normal, t1, h2)
def SR164_2 : RegS 2 := fun c t0 h0 =>
 kAdd (g2_0 t0) (.int .i64 1) h0 fun v3 h3 =>
 kAny (aSliceStr (.const (.string { data := #[48, 49, 50, 51, 52, 53, 54, 55, 56, 57, 97, 98, 99, 100, 101, 102, 103, 104, 105, 106, 107, 108, 109, 110, 111, 112, 113, 114, 115, 116, 117, 118, 119, 120, 121, 122] })) (some (.const (g2_0 t0))) (some (.const v3))) c h3 fun v4 h4 =>
 fShal v4 fun v5 =>
 p2_2 t0 v5 fun t1 =>
 some (.normal, t1, h4)
def SR164_3 : RegS 2 := fun c t0 h0 =>
 kOf (vInt .mul (g2_0 t0) (.int .i64 2) h0) fun v2 h2 =>
 kOf (vInt .mul (g2_0 t0) (.int .i64 2) h2) fun v4 h4 =>
 kAdd v4 (.int .i64 2) h4 fun v5 h5 =>
 kAny (aSliceStr (.const (.string strC200)) (some (.const v2)) (some (.const v5))) c h5 fun v6 h6 =>
 fShal v6 fun v7 =>
 p2_2 t0 v7 fun t1 =>
 some (.normal, t1, h6)
def SF164 : CodeS 2 :=
 cSeqS (cRegS (SR164_0)) (cSeqS (cSeqS (cRegS (SR164_1)) (cIfS g2_4 (cSeqS (cRegS (SR164_2)) (cRetS)) (cSkipS))) (cSeqS (cRegS (SR164_3)) (cRetS)))
def T164 : FnT := runG en2_1 (SF164) (resQ (qc (rT g2_2) qn))
theorem T164_ok : GoodF Tryz.prog ro0 okF 164 (T164) :=
 (good_k (n := 15) acc2 (lv [0, 2, 4]) (rs := [ResultVar.tmp 2]) Tryz.func164 (by kernel_rfl) (by kernel_rfl) (by kernel_rfl) (by kernel_rfl) (by kernel_rfl) (by kernel_rfl) (by kernel_rfl) (by kernel_rfl) (by kernel_rfl)).enter en2_1_ok (by kernel_rfl)
end Go.Proofs.YtimdkminagnhgabGreatDoor
