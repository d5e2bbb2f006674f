/-
  The program itself for the kernel, function by function. Printed by program; the kernel checks each. Own work.
-/
import Derived.Test.YtimdkminagnhgaaGreatDoorLsA
namespace Go.Proofs.YtimdkminagnhgaaGreatDoor
open Go.Vm Go.Proofs
set_option linter.unusedVariables false
set_option maxRecDepth 100000

/-- (*circheck/checker.run).advance -/
def SR57_0 : RegS 2 := fun c t0 h0 =>
 fShal (.int .i64 0) fun v1 =>
 p2_2 t0 v1 fun t1 =>
 some (.normal, t1, h0)
def SR57_1 : RegS 2 := fun c t0 h0 =>
 kNil (g2_0 t0) h0 fun v2 h2 =>
 kFld 0 v2 h2 fun v3 h3 =>
 kLd v3 h3 fun v4 h4 =>
 kOf (c 54 [v4] h4) fun v5 h5 =>
 kNew [.pointer none, .slice none 0 0] h5 fun v6 h6 =>
 p2_3 t0 v6 fun t1 =>
 kAny (aSt tO ro0 2 (.const v6) (.const v5)) c h6 fun _ h7 =>
 some (.normal, t1, h7)
def SR57_2 : RegS 2 := fun c t0 h0 =>
 kNil (g2_0 t0) h0 fun v3 h3 =>
 kFld 3 v3 h3 fun v4 h4 =>
 kLd v4 h4 fun v5 h5 =>
 kOf (vLdN 2 (g2_3 t0) h5) fun v6 h6 =>
 kMkSl 2 1 #[.pointer none, .slice none 0 0] [(0, v6)] h6 fun v7 h7 =>
 kOf (vApp ro0 2 32 v5 v7 h7) fun v8 h8 =>
 kNil (g2_0 t0) h8 fun v9 h9 =>
 kFld 3 v9 h9 fun v10 h10 =>
 kSt ro0 v10 v8 h10 fun _ h11 =>
 some (.normal, t0, h11)
def SR57_3 : RegS 2 := fun c t0 h0 =>
 fShal (.int .i64 1) fun v1 =>
 p2_4 t0 v1 fun t1 =>
 some (.normal, t1, h0)
def SR57_4 : RegS 2 := fun c t0 h0 =>
 kNil (g2_0 t0) h0 fun v3 h3 =>
 kFld 3 v3 h3 fun v4 h4 =>
 kLd v4 h4 fun v5 h5 =>
 kLenSl v5 h5 fun v6 h6 =>
 kSub v6 (.int .i64 1) h6 fun v7 h7 =>
 kLss (g2_4 t0) v7 h7 fun v8 h8 =>
 p2_28 t0 v8 fun t1 =>
 some (.normal, t1, h8)
def SR57_6 : RegS 2 := fun c t0 h0 =>
 kOf (c 111 [(g2_0 t0), (g2_4 t0)] h0) fun v3 h3 =>
 fShal v3 fun v4 =>
 p2_5 t0 v4 fun t1 =>
 some (.normal, t1, h3)
def SR57_7 : RegS 2 := fun c t0 h0 =>
 fShal (g2_5 t0) fun v1 =>
 p2_34 t0 v1 fun t1 =>
 some (.normal, t1, h0)
def SR57_8 : RegS 2 := fun c t0 h0 =>
 kEql (g2_34 t0) (.int .i64 3) h0 fun v1 h1 =>
 fShal v1 fun v2 =>
 p2_35 t0 v2 fun t1 =>
 some (.normal, t1, h1)
def SR57_9 : RegS 2 := fun c t0 h0 =>
 fShal (.int .i64 3) fun v1 =>
 p2_2 t0 v1 fun t1 =>
 some (.normal, t1, h0)
def SR57_10 : RegS 2 := fun c t0 h0 =>
 kEql (g2_34 t0) (.int .i64 2) h0 fun v1 h1 =>
 fShal v1 fun v2 =>
 p2_37 t0 v2 fun t1 =>
 some (.normal, t1, h1)
def SR57_11 : RegS 2 := fun c t0 h0 =>
 kOf (c 112 [(g2_0 t0), (g2_4 t0)] h0) fun v4 h4 =>
 kNil (g2_0 t0) h4 fun v5 h5 =>
 kFld 5 v5 h5 fun v6 h6 =>
 kSt ro0 v6 v4 h6 fun _ h7 =>
 some (.normal, t0, h7)
def SR57_12 : RegS 2 := fun c t0 h0 =>
 fShal (.int .i64 1) fun v1 =>
 p2_2 t0 v1 fun t1 =>
 some (.normal, t1, h0)
def SR57_5 : RegS 2 := fun c t0 h0 =>
 kAdd (g2_4 t0) (.int .i64 1) h0 fun v2 h2 =>
 fShal v2 fun v3 =>
 p2_4 t0 v3 fun t1 =>
 some (.normal, t1, h2)
def SR57_13 : RegS 2 := fun c t0 h0 =>
 fShal (.int .i64 0) fun v1 =>
 p2_2 t0 v1 fun t1 =>
 some (.normal, t1, h0)
def SW57_0 : CodeS 2 :=
 cSeqS (cSeqS (cRegS (SR57_4)) (cIfS g2_28 (cSkipS) (cExitS 0))) (cSeqS (cBlkS 1 (cSeqS (cRegS (SR57_6)) (cSeqS (cRegS (SR57_7)) (cBlkS 2 (cSeqS (cRegS (SR57_8)) (cIfS g2_35 (cSeqS (cRegS (SR57_9)) (cRetS)) (cSeqS (cRegS (SR57_10)) (cIfS g2_37 (cSeqS (cRegS (SR57_11)) (cSeqS (cRegS (SR57_12)) (cRetS))) (cSkipS))))))))) (cRegS (SR57_5)))
def SF57 : CodeS 2 :=
 cSeqS (cRegS (SR57_0)) (cSeqS (cRegS (SR57_1)) (cSeqS (cRegS (SR57_2)) (cSeqS (cSeqS (cRegS (SR57_3)) (cBlkS 0 (cLoopS (SW57_0)))) (cSeqS (cRegS (SR57_13)) (cRetS)))))
def T57 : FnT := runG en2_1 (SF57) (resQ (qc (rT g2_2) qn))
theorem T57_ok : GoodF Tryz.prog ro0 okF 57 (T57) :=
 (good_k (n := 45) acc2 (lv [0, 2, 3, 4, 5, 28, 34, 35, 37]) (rs := [ResultVar.tmp 2]) Tryz.func57 (by kernel_rfl) (by kernel_rfl) (by kernel_rfl) (by kernel_rfl) (by kernel_rfl) (by kernel_rfl) (by kernel_rfl) (by kernel_rfl) (by kernel_rfl)).enter en2_1_ok (by kernel_rfl)

/-- (*circheck/checker.run).safeText -/
def SR58_0 : RegS 2 := fun c t0 h0 =>
 fShal (.string { data := #[] }) fun v1 =>
 p2_2 t0 v1 fun t1 =>
 some (.normal, t1, h0)
def SR58_1 : RegS 2 := fun c t0 h0 =>
 fShal (.string { data := #[48, 10, 98, 48, 10] }) fun v1 =>
 p2_3 t0 v1 fun t1 =>
 some (.normal, t1, h0)
def SR58_2 : RegS 2 := fun c t0 h0 =>
 fShal (.int .i64 0) fun v1 =>
 p2_4 t0 v1 fun t1 =>
 some (.normal, t1, h0)
def SR58_3 : RegS 2 := fun c t0 h0 =>
 kNil (g2_0 t0) h0 fun v3 h3 =>
 kFld 5 v3 h3 fun v4 h4 =>
 kLd v4 h4 fun v5 h5 =>
 kLenSl v5 h5 fun v6 h6 =>
 kLss (g2_4 t0) v6 h6 fun v7 h7 =>
 p2_11 t0 v7 fun t1 =>
 some (.normal, t1, h7)
def SR58_5 : RegS 2 := fun c t0 h0 =>
 kNil (g2_0 t0) h0 fun v3 h3 =>
 kFld 5 v3 h3 fun v4 h4 =>
 kLd v4 h4 fun v5 h5 =>
 kIdx 1 v5 (g2_4 t0) h5 fun v7 h7 =>
 kLd v7 h7 fun v8 h8 =>
 kOf (c 113 [v8] h8) fun v9 h9 =>
 kAny (aStr .add (.const (g2_3 t0)) (.const v9)) c h9 fun v10 h10 =>
 fShal v10 fun v11 =>
 p2_3 t0 v11 fun t1 =>
 some (.normal, t1, h10)
def SR58_4 : RegS 2 := fun c t0 h0 =>
 kAdd (g2_4 t0) (.int .i64 1) h0 fun v2 h2 =>
 fShal v2 fun v3 =>
 p2_4 t0 v3 fun t1 =>
 some (.normal, t1, h2)
def SR58_6 : RegS 2 := fun c t0 h0 =>
 kAny (aStr .add (.const (g2_3 t0)) (.const (.string { data := #[46, 10] }))) c h0 fun v2 h2 =>
 fShal v2 fun v3 =>
 p2_2 t0 v3 fun t1 =>
 some (.normal, t1, h2)
def SW58_0 : CodeS 2 :=
 cSeqS (cSeqS (cRegS (SR58_3)) (cIfS g2_11 (cSkipS) (cExitS 0))) (cSeqS (cBlkS 1 (cRegS (SR58_5))) (cRegS (SR58_4)))
def SF58 : CodeS 2 :=
 cSeqS (cRegS (SR58_0)) (cSeqS (cRegS (SR58_1)) (cSeqS (cSeqS (cRegS (SR58_2)) (cBlkS 0 (cLoopS (SW58_0)))) (cSeqS (cRegS (SR58_6)) (cRetS))))
def T58 : FnT := runG en2_1 (SF58) (resQ (qc (rT g2_2) qn))
theorem T58_ok : GoodF Tryz.prog ro0 okF 58 (T58) :=
 (good_k (n := 26) acc2 (lv [0, 2, 3, 4, 11]) (rs := [ResultVar.tmp 2]) Tryz.func58 (by kernel_rfl) (by kernel_rfl) (by kernel_rfl) (by kernel_rfl) (by kernel_rfl) (by kernel_rfl) (by kernel_rfl) (by kernel_rfl) (by kernel_rfl)).enter en2_1_ok (by kernel_rfl)

/-- (*circheck/checker.run).firstState -/
def SR59_0 : RegS 2 := fun c t0 h0 =>
 fShal (.int .i64 0) fun v1 =>
 p2_2 t0 v1 fun t1 =>
 some (.normal, t1, h0)
def SR59_1 : RegS 2 := fun c t0 h0 =>
 kNil (g2_0 t0) h0 fun v2 h2 =>
 kFld 4 v2 h2 fun v3 h3 =>
 kLd v3 h3 fun v4 h4 =>
 kLenSl v4 h4 fun v5 h5 =>
 kEql v5 (.int .i64 0) h5 fun v6 h6 =>
 p2_8 t0 v6 fun t1 =>
 some (.normal, t1, h6)
def SR59_2 : RegS 2 := fun c t0 h0 =>
 fShal (.int .i64 0) fun v1 =>
 p2_2 t0 v1 fun t1 =>
 some (.normal, t1, h0)
def SR59_3 : RegS 2 := fun c t0 h0 =>
 kNil (g2_0 t0) h0 fun v2 h2 =>
 kFld 4 v2 h2 fun v3 h3 =>
 kLd v3 h3 fun v4 h4 =>
 kNil (g2_0 t0) h4 fun v6 h6 =>
 kFld 4 v6 h6 fun v7 h7 =>
 kLd v7 h7 fun v8 h8 =>
 kLenSl v8 h8 fun v9 h9 =>
 kSub v9 (.int .i64 1) h9 fun v10 h10 =>
 kIdx 2 v4 v10 h10 fun v11 h11 =>
 kFld 0 v11 h11 fun v12 h12 =>
 kLd v12 h12 fun v13 h13 =>
 fShal v13 fun v14 =>
 p2_2 t0 v14 fun t1 =>
 some (.normal, t1, h13)
def SF59 : CodeS 2 :=
 cSeqS (cRegS (SR59_0)) (cSeqS (cSeqS (cRegS (SR59_1)) (cIfS g2_8 (cSeqS (cRegS (SR59_2)) (cRetS)) (cSkipS))) (cSeqS (cRegS (SR59_3)) (cRetS)))
def T59 : FnT := runG en2_1 (SF59) (resQ (qc (rT g2_2) qn))
theorem T59_ok : GoodF Tryz.prog ro0 okF 59 (T59) :=
 (good_k (n := 22) acc2 (lv [0, 2, 8]) (rs := [ResultVar.tmp 2]) Tryz.func59 (by kernel_rfl) (by kernel_rfl) (by kernel_rfl) (by kernel_rfl) (by kernel_rfl) (by kernel_rfl) (by kernel_rfl) (by kernel_rfl) (by kernel_rfl)).enter en2_1_ok (by kernel_rfl)

/-- (*circheck/checker.run).inputs -/
def SR60_0 : RegS 2 := fun c t0 h0 =>
 fShal (.slice none 0 0) fun v1 =>
 p2_2 t0 v1 fun t1 =>
 some (.normal, t1, h0)
def SR60_1 : RegS 2 := fun c t0 h0 =>
 kMkSl 1 0 #[.int .i64 0] [] h0 fun v1 h1 =>
 fShal v1 fun v2 =>
 p2_3 t0 v2 fun t1 =>
 some (.normal, t1, h1)
def SR60_2 : RegS 2 := fun c t0 h0 =>
 kNil (g2_0 t0) h0 fun v2 h2 =>
 kFld 4 v2 h2 fun v3 h3 =>
 kLd v3 h3 fun v4 h4 =>
 kLenSl v4 h4 fun v5 h5 =>
 kSub v5 (.int .i64 1) h5 fun v6 h6 =>
 fShal v6 fun v7 =>
 p2_4 t0 v7 fun t1 =>
 some (.normal, t1, h6)
def SR60_3 : RegS 2 := fun c t0 h0 =>
 kGeq (g2_4 t0) (.int .i64 0) h0 fun v2 h2 =>
 p2_13 t0 v2 fun t1 =>
 some (.normal, t1, h2)
def SR60_5 : RegS 2 := fun c t0 h0 =>
 kNil (g2_0 t0) h0 fun v3 h3 =>
 kFld 4 v3 h3 fun v4 h4 =>
 kLd v4 h4 fun v5 h5 =>
 kIdx 2 v5 (g2_4 t0) h5 fun v7 h7 =>
 kFld 1 v7 h7 fun v8 h8 =>
 kLd v8 h8 fun v9 h9 =>
 kMkSl 1 1 #[.int .i64 0] [(0, v9)] h9 fun v10 h10 =>
 kOf (vApp ro0 1 8 (g2_3 t0) v10 h10) fun v11 h11 =>
 fShal v11 fun v12 =>
 p2_3 t0 v12 fun t1 =>
 some (.normal, t1, h11)
def SR60_4 : RegS 2 := fun c t0 h0 =>
 kSub (g2_4 t0) (.int .i64 1) h0 fun v2 h2 =>
 fShal v2 fun v3 =>
 p2_4 t0 v3 fun t1 =>
 some (.normal, t1, h2)
def SR60_6 : RegS 2 := fun c t0 h0 =>
 fShal (g2_3 t0) fun v2 =>
 p2_2 t0 v2 fun t1 =>
 some (.normal, t1, h0)
def SW60_0 : CodeS 2 :=
 cSeqS (cSeqS (cRegS (SR60_3)) (cIfS g2_13 (cSkipS) (cExitS 0))) (cSeqS (cBlkS 1 (cRegS (SR60_5))) (cRegS (SR60_4)))
def SF60 : CodeS 2 :=
 cSeqS (cRegS (SR60_0)) (cSeqS (cRegS (SR60_1)) (cSeqS (cSeqS (cRegS (SR60_2)) (cBlkS 0 (cLoopS (SW60_0)))) (cSeqS (cRegS (SR60_6)) (cRetS))))
def T60 : FnT := runG en2_1 (SF60) (resQ (qc (rT g2_2) qn))
theorem T60_ok : GoodF Tryz.prog ro0 okF 60 (T60) :=
 (good_k (n := 28) acc2 (lv [0, 2, 3, 4, 13]) (rs := [ResultVar.tmp 2]) Tryz.func60 (by kernel_rfl) (by kernel_rfl) (by kernel_rfl) (by kernel_rfl) (by kernel_rfl) (by kernel_rfl) (by kernel_rfl) (by kernel_rfl) (by kernel_rfl)).enter en2_1_ok (by kernel_rfl)

/-- (*circheck/checker.run).un-safeText -/
def SR61_0 : RegS 2 := fun c t0 h0 =>
 fShal (.string { data := #[] }) fun v1 =>
 p2_2 t0 v1 fun t1 =>
 some (.normal, t1, h0)
def SR61_1 : RegS 2 := fun c t0 h0 =>
 kOf (c 59 [(g2_0 t0)] h0) fun v2 h2 =>
 fShal v2 fun v3 =>
 p2_3 t0 v3 fun t1 =>
 some (.normal, t1, h2)
def SR61_2 : RegS 2 := fun c t0 h0 =>
 kOf (c 60 [(g2_0 t0)] h0) fun v2 h2 =>
 fShal v2 fun v3 =>
 p2_4 t0 v3 fun t1 =>
 some (.normal, t1, h2)
def SR61_3 : RegS 2 := fun c t0 h0 =>
 kNil (g2_0 t0) h0 fun v3 h3 =>
 kFld 0 v3 h3 fun v4 h4 =>
 kLd v4 h4 fun v5 h5 =>
 kNil v5 h5 fun v6 h6 =>
 kFld 1 v6 h6 fun v7 h7 =>
 kLd v7 h7 fun v8 h8 =>
 kLenSl v8 h8 fun v9 h9 =>
 kOf (c 114 [(g2_3 t0), v9] h9) fun v10 h10 =>
 kAny (aStr .add (.const (.string { data := #[49, 10, 98, 48, 10] })) (.const v10)) c h10 fun v11 h11 =>
 fShal v11 fun v12 =>
 p2_5 t0 v12 fun t1 =>
 some (.normal, t1, h11)
def SR61_4 : RegS 2 := fun c t0 h0 =>
 fShal (.int .i64 0) fun v1 =>
 p2_6 t0 v1 fun t1 =>
 some (.normal, t1, h0)
def SR61_5 : RegS 2 := fun c t0 h0 =>
 kLenSl (g2_4 t0) h0 fun v3 h3 =>
 kLss (g2_6 t0) v3 h3 fun v4 h4 =>
 p2_25 t0 v4 fun t1 =>
 some (.normal, t1, h4)
def SR61_7 : RegS 2 := fun c t0 h0 =>
 kIdx 1 (g2_4 t0) (g2_6 t0) h0 fun v4 h4 =>
 kLd v4 h4 fun v5 h5 =>
 kNil (g2_0 t0) h5 fun v7 h7 =>
 kFld 0 v7 h7 fun v8 h8 =>
 kLd v8 h8 fun v9 h9 =>
 kNil v9 h9 fun v10 h10 =>
 kFld 0 v10 h10 fun v11 h11 =>
 kLd v11 h11 fun v12 h12 =>
 kOf (c 114 [v5, v12] h12) fun v13 h13 =>
 kAny (aStr .add (.const (g2_5 t0)) (.const v13)) c h13 fun v14 h14 =>
 fShal v14 fun v15 =>
 p2_5 t0 v15 fun t1 =>
 some (.normal, t1, h14)
def SR61_6 : RegS 2 := fun c t0 h0 =>
 kAdd (g2_6 t0) (.int .i64 1) h0 fun v2 h2 =>
 fShal v2 fun v3 =>
 p2_6 t0 v3 fun t1 =>
 some (.normal, t1, h2)
def SR61_8 : RegS 2 := fun c t0 h0 =>
 kAny (aStr .add (.const (g2_5 t0)) (.const (.string { data := #[46, 10] }))) c h0 fun v2 h2 =>
 fShal v2 fun v3 =>
 p2_2 t0 v3 fun t1 =>
 some (.normal, t1, h2)
def SW61_0 : CodeS 2 :=
 cSeqS (cSeqS (cRegS (SR61_5)) (cIfS g2_25 (cSkipS) (cExitS 0))) (cSeqS (cBlkS 1 (cRegS (SR61_7))) (cRegS (SR61_6)))
def SF61 : CodeS 2 :=
 cSeqS (cRegS (SR61_0)) (cSeqS (cRegS (SR61_1)) (cSeqS (cRegS (SR61_2)) (cSeqS (cRegS (SR61_3)) (cSeqS (cSeqS (cRegS (SR61_4)) (cBlkS 0 (cLoopS (SW61_0)))) (cSeqS (cRegS (SR61_8)) (cRetS))))))
def T61 : FnT := runG en2_1 (SF61) (resQ (qc (rT g2_2) qn))
theorem T61_ok : GoodF Tryz.prog ro0 okF 61 (T61) :=
 (good_k (n := 44) acc2 (lv [0, 2, 3, 4, 5, 6, 25]) (rs := [ResultVar.tmp 2]) Tryz.func61 (by kernel_rfl) (by kernel_rfl) (by kernel_rfl) (by kernel_rfl) (by kernel_rfl) (by kernel_rfl) (by kernel_rfl) (by kernel_rfl) (by kernel_rfl)).enter en2_1_ok (by kernel_rfl)

/-- circheck/circhecksays.line -/
def SR75_0 : RegS 2 := fun c t0 h0 =>
 fShal (.string { data := #[] }) fun v1 =>
 p2_2 t0 v1 fun t1 =>
 some (.normal, t1, h0)
def SR75_1 : RegS 2 := fun c t0 h0 =>
 fShal (.string { data := #[] }) fun v1 =>
 p2_3 t0 v1 fun t1 =>
 some (.normal, t1, h0)
def SR75_2 : RegS 2 := fun c t0 h0 =>
 fShal (.int .i64 0) fun v1 =>
 p2_4 t0 v1 fun t1 =>
 some (.normal, t1, h0)
def SR75_3 : RegS 2 := fun c t0 h0 =>
 kLenSl (g2_0 t0) h0 fun v3 h3 =>
 kLss (g2_4 t0) v3 h3 fun v4 h4 =>
 p2_9 t0 v4 fun t1 =>
 some (.normal, t1, h4)
def SR75_5 : RegS 2 := fun c t0 h0 =>
 kGtr (g2_4 t0) (.int .i64 0) h0 fun v2 h2 =>
 p2_13 t0 v2 fun t1 =>
 some (.normal, t1, h2)
def SR75_6 : RegS 2 := fun c t0 h0 =>
 kAny (aStr .add (.const (g2_3 t0)) (.const (.string { data := #[32] }))) c h0 fun v2 h2 =>
 fShal v2 fun v3 =>
 p2_3 t0 v3 fun t1 =>
 some (.normal, t1, h2)
def SR75_7 : RegS 2 := fun c t0 h0 =>
 kIdx 1 (g2_0 t0) (g2_4 t0) h0 fun v3 h3 =>
 kLd v3 h3 fun v4 h4 =>
 kOf (c 130 [v4] h4) fun v5 h5 =>
 fShal v5 fun v6 =>
 p2_5 t0 v6 fun t1 =>
 some (.normal, t1, h5)
def SR75_8 : RegS 2 := fun c t0 h0 =>
 kAny (aStr .add (.const (g2_3 t0)) (.const (g2_5 t0))) c h0 fun v3 h3 =>
 fShal v3 fun v4 =>
 p2_3 t0 v4 fun t1 =>
 some (.normal, t1, h3)
def SR75_4 : RegS 2 := fun c t0 h0 =>
 kAdd (g2_4 t0) (.int .i64 1) h0 fun v2 h2 =>
 fShal v2 fun v3 =>
 p2_4 t0 v3 fun t1 =>
 some (.normal, t1, h2)
def SR75_9 : RegS 2 := fun c t0 h0 =>
 kAny (aStr .add (.const (g2_3 t0)) (.const (.string { data := #[10] }))) c h0 fun v2 h2 =>
 fShal v2 fun v3 =>
 p2_2 t0 v3 fun t1 =>
 some (.normal, t1, h2)
def SW75_0 : CodeS 2 :=
 cSeqS (cSeqS (cRegS (SR75_3)) (cIfS g2_9 (cSkipS) (cExitS 0))) (cSeqS (cBlkS 1 (cSeqS (cSeqS (cRegS (SR75_5)) (cIfS g2_13 (cRegS (SR75_6)) (cSkipS))) (cSeqS (cRegS (SR75_7)) (cRegS (SR75_8))))) (cRegS (SR75_4)))
def SF75 : CodeS 2 :=
 cSeqS (cRegS (SR75_0)) (cSeqS (cRegS (SR75_1)) (cSeqS (cSeqS (cRegS (SR75_2)) (cBlkS 0 (cLoopS (SW75_0)))) (cSeqS (cRegS (SR75_9)) (cRetS))))
def T75 : FnT := runG en2_1 (SF75) (resQ (qc (rT g2_2) qn))
theorem T75_ok : GoodF Tryz.prog ro0 okF 75 (T75) :=
 (good_k (n := 26) acc2 (lv [0, 2, 3, 4, 5, 9, 13]) (rs := [ResultVar.tmp 2]) Tryz.func75 (by kernel_rfl) (by kernel_rfl) (by kernel_rfl) (by kernel_rfl) (by kernel_rfl) (by kernel_rfl) (by kernel_rfl) (by kernel_rfl) (by kernel_rfl)).enter en2_1_ok (by kernel_rfl)

/-- circheck/checker.New -/
def SR81_0 : RegS 1 := fun c t0 h0 =>
 fShal (.pointer none) fun v1 =>
 p1_0 t0 v1 fun t1 =>
 some (.normal, t1, h0)
def SR81_1 : RegS 1 := fun c t0 h0 =>
 kBuild #[.slice none 0 0, .slice none 0 0, .slice none 0 0, .slice none 0 0, .int .i64 0] [(0, 1), (1, 1), (2, 1), (3, 1), (4, 1)] [] h0 fun v1 h1 =>
 kBox v1 h1 fun v2 h2 =>
 fShal v2 fun v3 =>
 p1_0 t0 v3 fun t1 =>
 some (.normal, t1, h2)
def SF81 : CodeS 1 :=
 cSeqS (cRegS (SR81_0)) (cSeqS (cRegS (SR81_1)) (cRetS))
def T81 : FnT := runG en1_0 (SF81) (resQ (qc (rT g1_0) qn))
theorem T81_ok : GoodF Tryz.prog ro0 okF 81 (T81) :=
 (good_k (n := 3) acc1 (lv [0]) (rs := [ResultVar.tmp 0]) Tryz.func81 (by kernel_rfl) (by kernel_rfl) (by kernel_rfl) (by kernel_rfl) (by kernel_rfl) (by kernel_rfl) (by kernel_rfl) (by kernel_rfl) (by kernel_rfl)).enter en1_0_ok (by kernel_rfl)

/-- (*circheck/checker.reader).expect -/
def SR84_0 : RegS 2 := fun c t0 h0 =>
 kOf (c 85 [(g2_0 t0), (g2_1 t0)] h0) fun v3 h3 =>
 kNot v3 h3 fun v4 h4 =>
 p2_7 t0 v4 fun t1 =>
 some (.normal, t1, h4)
def SR84_1 : RegS 2 := fun c t0 h0 =>
 kNil (g2_0 t0) h0 fun v3 h3 =>
 kFld 1 v3 h3 fun v4 h4 =>
 kLd v4 h4 fun v5 h5 =>
 kOf (c 88 [(g2_0 t0), (.int .i64 2), v5] h5) fun v6 h6 =>
 some (.normal, t0, h6)
def SF84 : CodeS 2 :=
 cSeqS (cRegS (SR84_0)) (cIfS g2_7 (cRegS (SR84_1)) (cSkipS))
def T84 : FnT := runG en2_2 (SF84) (resQ qn)
theorem T84_ok : GoodF Tryz.prog ro0 okF 84 (T84) :=
 (good_k (n := 14) acc2 (lv [0, 1, 7]) (rs := []) Tryz.func84 (by kernel_rfl) (by kernel_rfl) (by kernel_rfl) (by kernel_rfl) (by kernel_rfl) (by kernel_rfl) (by kernel_rfl) (by kernel_rfl) (by kernel_rfl)).enter en2_2_ok (by kernel_rfl)

/-- (*circheck/checker.reader).take -/
def SR85_0 : RegS 2 := fun c t0 h0 =>
 fShal (.bool false) fun v1 =>
 p2_4 t0 v1 fun t1 =>
 some (.normal, t1, h0)
def SR85_1 : RegS 2 := fun c t0 h0 =>
 kOf (c 86 [(g2_0 t0)] h0) fun v2 h2 =>
 kNeq v2 (g2_1 t0) h2 fun v4 h4 =>
 p2_8 t0 v4 fun t1 =>
 some (.normal, t1, h4)
def SR85_2 : RegS 2 := fun c t0 h0 =>
 fShal (.bool false) fun v1 =>
 p2_4 t0 v1 fun t1 =>
 some (.normal, t1, h0)
def SR85_3 : RegS 2 := fun c t0 h0 =>
 kNil (g2_0 t0) h0 fun v2 h2 =>
 kFld 1 v2 h2 fun v3 h3 =>
 kLd v3 h3 fun v4 h4 =>
 kAdd v4 (.int .i64 1) h4 fun v5 h5 =>
 kNil (g2_0 t0) h5 fun v6 h6 =>
 kFld 1 v6 h6 fun v7 h7 =>
 kSt ro0 v7 v5 h7 fun _ h8 =>
 some (.normal, t0, h8)
def SR85_4 : RegS 2 := fun c t0 h0 =>
 fShal (.bool true) fun v1 =>
 p2_4 t0 v1 fun t1 =>
 some (.normal, t1, h0)
def SF85 : CodeS 2 :=
 cSeqS (cRegS (SR85_0)) (cSeqS (cSeqS (cRegS (SR85_1)) (cIfS g2_8 (cSeqS (cRegS (SR85_2)) (cRetS)) (cSkipS))) (cSeqS (cRegS (SR85_3)) (cSeqS (cRegS (SR85_4)) (cRetS))))
def T85 : FnT := runG en2_2 (SF85) (resQ (qc (rT g2_4) qn))
theorem T85_ok : GoodF Tryz.prog ro0 okF 85 (T85) :=
 (good_k (n := 16) acc2 (lv [0, 1, 4, 8]) (rs := [ResultVar.tmp 4]) Tryz.func85 (by kernel_rfl) (by kernel_rfl) (by kernel_rfl) (by kernel_rfl) (by kernel_rfl) (by kernel_rfl) (by kernel_rfl) (by kernel_rfl) (by kernel_rfl)).enter en2_2_ok (by kernel_rfl)

/-- (*circheck/checker.reader).peek -/
def SR86_0 : RegS 2 := fun c t0 h0 =>
 fShal (.int .i64 0) fun v1 =>
 p2_2 t0 v1 fun t1 =>
 some (.normal, t1, h0)
def SR86_1 : RegS 2 := fun c t0 h0 =>
 kNil (g2_0 t0) h0 fun v2 h2 =>
 kFld 2 v2 h2 fun v3 h3 =>
 kFld 0 v3 h3 fun v4 h4 =>
 kLd v4 h4 fun v5 h5 =>
 kNeq v5 (.int .i64 0) h5 fun v6 h6 =>
 kIf v6 false (fun k => k (g2_0 t0) h6) h6 fun v8 h8 =>
 kIf v6 false (fun k => kNil v8 h8 k) h8 fun v9 h9 =>
 kIf v6 false (fun k => kFld 1 v9 h9 k) h9 fun v10 h10 =>
 kIf v6 false (fun k => kLd v10 h10 k) h10 fun v11 h11 =>
 kIf v6 false (fun k => kLss v11 (.int .i64 0) h11 k) h11 fun v12 h12 =>
 kPick v6 (.bool true) v12 h12 fun v13 h13 =>
 kIf v13 false (fun k => k (g2_0 t0) h13) h13 fun v15 h15 =>
 kIf v13 false (fun k => kNil v15 h15 k) h15 fun v16 h16 =>
 kIf v13 false (fun k => kFld 1 v16 h16 k) h16 fun v17 h17 =>
 kIf v13 false (fun k => kLd v17 h17 k) h17 fun v18 h18 =>
 kIf v13 false (fun k => k (g2_0 t0) h18) h18 fun v19 h19 =>
 kIf v13 false (fun k => kNil v19 h19 k) h19 fun v20 h20 =>
 kIf v13 false (fun k => kFld 0 v20 h20 k) h20 fun v21 h21 =>
 kIf v13 false (fun k => kLd v21 h21 k) h21 fun v22 h22 =>
 kIf v13 false (fun k => kLenStr v22 h22 k) h22 fun v23 h23 =>
 kIf v13 false (fun k => kGeq v18 v23 h23 k) h23 fun v24 h24 =>
 kPick v13 (.bool true) v24 h24 fun v25 h25 =>
 p2_27 t0 v25 fun t1 =>
 some (.normal, t1, h25)
def SR86_2 : RegS 2 := fun c t0 h0 =>
 fShal (.int .i64 (-1)) fun v1 =>
 p2_2 t0 v1 fun t1 =>
 some (.normal, t1, h0)
def SR86_3 : RegS 2 := fun c t0 h0 =>
 kNil (g2_0 t0) h0 fun v2 h2 =>
 kFld 0 v2 h2 fun v3 h3 =>
 kLd v3 h3 fun v4 h4 =>
 kNil (g2_0 t0) h4 fun v6 h6 =>
 kFld 1 v6 h6 fun v7 h7 =>
 kLd v7 h7 fun v8 h8 =>
 kIdxStr v4 v8 h8 fun v9 h9 =>
 kConv v9 h9 fun v10 h10 =>
 fShal v10 fun v11 =>
 p2_2 t0 v11 fun t1 =>
 some (.normal, t1, h10)
def SF86 : CodeS 2 :=
 cSeqS (cRegS (SR86_0)) (cSeqS (cSeqS (cRegS (SR86_1)) (cIfS g2_27 (cSeqS (cRegS (SR86_2)) (cRetS)) (cSkipS))) (cSeqS (cRegS (SR86_3)) (cRetS)))
def T86 : FnT := runG en2_1 (SF86) (resQ (qc (rT g2_2) qn))
theorem T86_ok : GoodF Tryz.prog ro0 okF 86 (T86) :=
 (good_k (n := 38) acc2 (lv [0, 2, 27]) (rs := [ResultVar.tmp 2]) Tryz.func86 (by kernel_rfl) (by kernel_rfl) (by kernel_rfl) (by kernel_rfl) (by kernel_rfl) (by kernel_rfl) (by kernel_rfl) (by kernel_rfl) (by kernel_rfl)).enter en2_1_ok (by kernel_rfl)

/-- (*circheck/checker.reader).number -/
def SR87_0 : RegS 2 := fun c t0 h0 =>
 fShal (.int .i64 0) fun v1 =>
 p2_2 t0 v1 fun t1 =>
 some (.normal, t1, h0)
def SR87_1 : RegS 2 := fun c t0 h0 =>
 kNil (g2_0 t0) h0 fun v2 h2 =>
 kFld 1 v2 h2 fun v3 h3 =>
 kLd v3 h3 fun v4 h4 =>
 fShal v4 fun v5 =>
 p2_3 t0 v5 fun t1 =>
 some (.normal, t1, h4)
def SR87_2 : RegS 2 := fun c t0 h0 =>
 fShal (.int .i64 0) fun v1 =>
 p2_4 t0 v1 fun t1 =>
 some (.normal, t1, h0)
def SR87_3 : RegS 2 := fun c t0 h0 =>
 kOf (c 86 [(g2_0 t0)] h0) fun v2 h2 =>
 fShal v2 fun v3 =>
 p2_5 t0 v3 fun t1 =>
 some (.normal, t1, h2)
def SR87_4 : RegS 2 := fun c t0 h0 =>
 kOf (c 148 [(g2_5 t0)] h0) fun v2 h2 =>
 p2_14 t0 v2 fun t1 =>
 some (.normal, t1, h2)
def SR87_6 : RegS 2 := fun c t0 h0 =>
 kNil (g2_0 t0) h0 fun v2 h2 =>
 kFld 1 v2 h2 fun v3 h3 =>
 kLd v3 h3 fun v4 h4 =>
 kSub v4 (g2_3 t0) h4 fun v6 h6 =>
 fShal v6 fun v7 =>
 p2_6 t0 v7 fun t1 =>
 some (.normal, t1, h6)
def SR87_7 : RegS 2 := fun c t0 h0 =>
 kEql (g2_6 t0) (.int .i64 4) h0 fun v2 h2 =>
 kIf v2 false (fun k => k (g2_6 t0) h2) h2 fun v4 h4 =>
 kIf v2 false (fun k => kGtr v4 (.int .i64 0) h4 k) h4 fun v5 h5 =>
 kIf v2 false (fun k => k v5 h5) h5 fun v6 h6 =>
 kIf v6 true (fun k => k (g2_4 t0) h6) h6 fun v7 h7 =>
 kIf v6 true (fun k => kEql v7 (.int .i64 0) h7 k) h7 fun v8 h8 =>
 kIf v2 false (fun k => kPick v6 v8 (.bool false) h8 k) h8 fun v9 h9 =>
 kPick v2 (.bool true) v9 h9 fun v10 h10 =>
 p2_32 t0 v10 fun t1 =>
 some (.normal, t1, h10)
def SR87_8 : RegS 2 := fun c t0 h0 =>
 kNil (g2_0 t0) h0 fun v3 h3 =>
 kFld 1 v3 h3 fun v4 h4 =>
 kLd v4 h4 fun v5 h5 =>
 kOf (c 88 [(g2_0 t0), (.int .i64 2), v5] h5) fun v6 h6 =>
 some (.normal, t0, h6)
def SR87_9 : RegS 2 := fun c t0 h0 =>
 fShal (.int .i64 0) fun v1 =>
 p2_2 t0 v1 fun t1 =>
 some (.normal, t1, h0)
def SR87_10 : RegS 2 := fun c t0 h0 =>
 kOf (vInt .mul (.int .i64 10) (g2_4 t0) h0) fun v2 h2 =>
 kAdd v2 (g2_5 t0) h2 fun v4 h4 =>
 kSub v4 (.int .i64 48) h4 fun v5 h5 =>
 fShal v5 fun v6 =>
 p2_4 t0 v6 fun t1 =>
 some (.normal, t1, h5)
def SR87_11 : RegS 2 := fun c t0 h0 =>
 kNil (g2_0 t0) h0 fun v2 h2 =>
 kFld 1 v2 h2 fun v3 h3 =>
 kLd v3 h3 fun v4 h4 =>
 kAdd v4 (.int .i64 1) h4 fun v5 h5 =>
 kNil (g2_0 t0) h5 fun v6 h6 =>
 kFld 1 v6 h6 fun v7 h7 =>
 kSt ro0 v7 v5 h7 fun _ h8 =>
 some (.normal, t0, h8)
def SR87_5 : RegS 2 := fun c t0 h0 =>
 kOf (c 86 [(g2_0 t0)] h0) fun v2 h2 =>
 fShal v2 fun v3 =>
 p2_5 t0 v3 fun t1 =>
 some (.normal, t1, h2)
def SR87_12 : RegS 2 := fun c t0 h0 =>
 kNil (g2_0 t0) h0 fun v2 h2 =>
 kFld 1 v2 h2 fun v3 h3 =>
 kLd v3 h3 fun v4 h4 =>
 kEql v4 (g2_3 t0) h4 fun v6 h6 =>
 p2_56 t0 v6 fun t1 =>
 some (.normal, t1, h6)
def SR87_13 : RegS 2 := fun c t0 h0 =>
 kNil (g2_0 t0) h0 fun v3 h3 =>
 kFld 1 v3 h3 fun v4 h4 =>
 kLd v4 h4 fun v5 h5 =>
 kOf (c 88 [(g2_0 t0), (.int .i64 2), v5] h5) fun v6 h6 =>
 some (.normal, t0, h6)
def SR87_14 : RegS 2 := fun c t0 h0 =>
 fShal (g2_4 t0) fun v2 =>
 p2_2 t0 v2 fun t1 =>
 some (.normal, t1, h0)
def SW87_0 : CodeS 2 :=
 cSeqS (cSeqS (cRegS (SR87_4)) (cIfS g2_14 (cSkipS) (cExitS 0))) (cSeqS (cBlkS 1 (cSeqS (cRegS (SR87_6)) (cSeqS (cSeqS (cRegS (SR87_7)) (cIfS g2_32 (cSeqS (cRegS (SR87_8)) (cSeqS (cRegS (SR87_9)) (cRetS))) (cSkipS))) (cSeqS (cRegS (SR87_10)) (cRegS (SR87_11)))))) (cRegS (SR87_5)))
def SF87 : CodeS 2 :=
 cSeqS (cRegS (SR87_0)) (cSeqS (cRegS (SR87_1)) (cSeqS (cRegS (SR87_2)) (cSeqS (cSeqS (cRegS (SR87_3)) (cBlkS 0 (cLoopS (SW87_0)))) (cSeqS (cSeqS (cRegS (SR87_12)) (cIfS g2_56 (cRegS (SR87_13)) (cSkipS))) (cSeqS (cRegS (SR87_14)) (cRetS))))))
def T87 : FnT := runG en2_1 (SF87) (resQ (qc (rT g2_2) qn))
theorem T87_ok : GoodF Tryz.prog ro0 okF 87 (T87) :=
 (good_k (n := 64) acc2 (lv [0, 2, 3, 4, 5, 6, 14, 32, 56]) (rs := [ResultVar.tmp 2]) Tryz.func87 (by kernel_rfl) (by kernel_rfl) (by kernel_rfl) (by kernel_rfl) (by kernel_rfl) (by kernel_rfl) (by kernel_rfl) (by kernel_rfl) (by kernel_rfl)).enter en2_1_ok (by kernel_rfl)

/-- (*circheck/checker.reader).fail -/
def SR88_0 : RegS 2 := fun c t0 h0 =>
 kNil (g2_0 t0) h0 fun v2 h2 =>
 kFld 2 v2 h2 fun v3 h3 =>
 kFld 0 v3 h3 fun v4 h4 =>
 kLd v4 h4 fun v5 h5 =>
 kEql v5 (.int .i64 0) h5 fun v6 h6 =>
 p2_11 t0 v6 fun t1 =>
 some (.normal, t1, h6)
def SR88_1 : RegS 2 := fun c t0 h0 =>
 kBuild #[.int .i64 0, .int .i64 0] [(0, 1), (1, 1)] [(0, (g2_1 t0)), (1, (g2_2 t0))] h0 fun v4 h4 =>
 kNil (g2_0 t0) h4 fun v5 h5 =>
 kFld 2 v5 h5 fun v6 h6 =>
 kAny (aSt tO ro0 2 (.const v6) (.const v4)) c h6 fun _ h7 =>
 some (.normal, t0, h7)
def SF88 : CodeS 2 :=
 cSeqS (cRegS (SR88_0)) (cIfS g2_11 (cRegS (SR88_1)) (cSkipS))
def T88 : FnT := runG en2_3 (SF88) (resQ qn)
theorem T88_ok : GoodF Tryz.prog ro0 okF 88 (T88) :=
 (good_k (n := 18) acc2 (lv [0, 1, 2, 11]) (rs := []) Tryz.func88 (by kernel_rfl) (by kernel_rfl) (by kernel_rfl) (by kernel_rfl) (by kernel_rfl) (by kernel_rfl) (by kernel_rfl) (by kernel_rfl) (by kernel_rfl)).enter en2_3_ok (by kernel_rfl)

/-- (*circheck/checker.netlist).give -/
def SR89_0 : RegS 2 := fun c t0 h0 =>
 kOf (c 149 [(g2_0 t0), (g2_1 t0)] h0) fun v3 h3 =>
 p2_6 t0 v3 fun t1 =>
 some (.normal, t1, h3)
def SR89_1 : RegS 2 := fun c t0 h0 =>
 kNil (g2_0 t0) h0 fun v2 h2 =>
 kFld 0 v2 h2 fun v3 h3 =>
 kLd v3 h3 fun v4 h4 =>
 kAny (aShift .shr (.const (g2_1 t0)) (.const (.int .u64 1))) c h4 fun v6 h6 =>
 kIdx 1 v4 v6 h6 fun v7 h7 =>
 kSt ro0 v7 (.bool true) h7 fun _ h8 =>
 some (.normal, t0, h8)
def SF89 : CodeS 2 :=
 cSeqS (cRegS (SR89_0)) (cIfS g2_6 (cRegS (SR89_1)) (cSkipS))
def T89 : FnT := runG en2_2 (SF89) (resQ qn)
theorem T89_ok : GoodF Tryz.prog ro0 okF 89 (T89) :=
 (good_k (n := 14) acc2 (lv [0, 1, 6]) (rs := []) Tryz.func89 (by kernel_rfl) (by kernel_rfl) (by kernel_rfl) (by kernel_rfl) (by kernel_rfl) (by kernel_rfl) (by kernel_rfl) (by kernel_rfl) (by kernel_rfl)).enter en2_2_ok (by kernel_rfl)

/-- (*circheck/checker.netlist).latch -/
def SR90_0 : RegS 2 := fun c t0 h0 =>
 kOf (c 150 [(g2_0 t0), (g2_1 t0)] h0) fun v3 h3 =>
 kNew [.int .i64 0, .int .i64 0] h3 fun v4 h4 =>
 p2_6 t0 v4 fun t1 =>
 kAny (aSt tO ro0 2 (.const v4) (.const v3)) c h4 fun _ h5 =>
 some (.normal, t1, h5)
def SR90_1 : RegS 2 := fun c t0 h0 =>
 fShal (.int .i64 0) fun v1 =>
 p2_7 t0 v1 fun t1 =>
 some (.normal, t1, h0)
def SR90_2 : RegS 2 := fun c t0 h0 =>
 kOf (c 85 [(g2_1 t0), (.int .i64 32)] h0) fun v2 h2 =>
 p2_12 t0 v2 fun t1 =>
 some (.normal, t1, h2)
def SR90_3 : RegS 2 := fun c t0 h0 =>
 kOf (c 151 [(g2_1 t0), (g2_2 t0)] h0) fun v3 h3 =>
 fShal v3 fun v4 =>
 p2_7 t0 v4 fun t1 =>
 some (.normal, t1, h3)
def SR90_4 : RegS 2 := fun c t0 h0 =>
 kOf (c 84 [(g2_1 t0), (.int .i64 10)] h0) fun v2 h2 =>
 some (.normal, t0, h2)
def SR90_5 : RegS 2 := fun c t0 h0 =>
 kNil (g2_0 t0) h0 fun v3 h3 =>
 kFld 2 v3 h3 fun v4 h4 =>
 kLd v4 h4 fun v5 h5 =>
 kOf (vLdN 2 (g2_6 t0) h5) fun v7 h7 =>
 kBuild #[.int .i64 0, .int .i64 0, .int .i64 0, .int .i64 0] [(0, 1), (1, 2), (3, 1)] [(0, (g2_2 t0)), (1, v7), (2, (g2_7 t0))] h7 fun v9 h9 =>
 kMkSl 4 1 #[.int .i64 0, .int .i64 0, .int .i64 0, .int .i64 0] [(0, v9)] h9 fun v10 h10 =>
 kOf (vApp ro0 4 32 v5 v10 h10) fun v11 h11 =>
 kNil (g2_0 t0) h11 fun v12 h12 =>
 kFld 2 v12 h12 fun v13 h13 =>
 kSt ro0 v13 v11 h13 fun _ h14 =>
 some (.normal, t0, h14)
def SF90 : CodeS 2 :=
 cSeqS (cRegS (SR90_0)) (cSeqS (cRegS (SR90_1)) (cSeqS (cSeqS (cRegS (SR90_2)) (cIfS g2_12 (cRegS (SR90_3)) (cSkipS))) (cSeqS (cRegS (SR90_4)) (cRegS (SR90_5)))))
def T90 : FnT := runG en2_3 (SF90) (resQ qn)
theorem T90_ok : GoodF Tryz.prog ro0 okF 90 (T90) :=
 (good_k (n := 31) acc2 (lv [0, 1, 2, 6, 7, 12]) (rs := []) Tryz.func90 (by kernel_rfl) (by kernel_rfl) (by kernel_rfl) (by kernel_rfl) (by kernel_rfl) (by kernel_rfl) (by kernel_rfl) (by kernel_rfl) (by kernel_rfl)).enter en2_3_ok (by kernel_rfl)

/-- (*circheck/checker.netlist).properties -/
def SR91_0 : RegS 2 := fun c t0 h0 =>
 fShal (.slice none 0 0) fun v1 =>
 p2_6 t0 v1 fun t1 =>
 some (.normal, t1, h0)
def SR91_1 : RegS 2 := fun c t0 h0 =>
 fShal (.slice none 0 0) fun v1 =>
 p2_7 t0 v1 fun t1 =>
 some (.normal, t1, h0)
def SR91_2 : RegS 2 := fun c t0 h0 =>
 fShal (.int .i64 0) fun v1 =>
 p2_8 t0 v1 fun t1 =>
 some (.normal, t1, h0)
def SR91_3 : RegS 2 := fun c t0 h0 =>
 kLss (g2_8 t0) (g2_2 t0) h0 fun v3 h3 =>
 p2_12 t0 v3 fun t1 =>
 some (.normal, t1, h3)
def SR91_5 : RegS 2 := fun c t0 h0 =>
 kOf (c 150 [(g2_0 t0), (g2_1 t0)] h0) fun v3 h3 =>
 kNew [.int .i64 0, .int .i64 0] h3 fun v4 h4 =>
 p2_9 t0 v4 fun t1 =>
 kAny (aSt tO ro0 2 (.const v4) (.const v3)) c h4 fun _ h5 =>
 some (.normal, t1, h5)
def SR91_6 : RegS 2 := fun c t0 h0 =>
 kOf (c 84 [(g2_1 t0), (.int .i64 10)] h0) fun v2 h2 =>
 some (.normal, t0, h2)
def SR91_7 : RegS 2 := fun c t0 h0 =>
 kOf (vLdN 2 (g2_9 t0) h0) fun v2 h2 =>
 kMkSl 2 1 #[.int .i64 0, .int .i64 0] [(0, v2)] h2 fun v3 h3 =>
 kOf (vApp ro0 2 16 (g2_7 t0) v3 h3) fun v4 h4 =>
 fShal v4 fun v5 =>
 p2_7 t0 v5 fun t1 =>
 some (.normal, t1, h4)
def SR91_4 : RegS 2 := fun c t0 h0 =>
 kAdd (g2_8 t0) (.int .i64 1) h0 fun v2 h2 =>
 fShal v2 fun v3 =>
 p2_8 t0 v3 fun t1 =>
 some (.normal, t1, h2)
def SR91_8 : RegS 2 := fun c t0 h0 =>
 fShal (g2_7 t0) fun v2 =>
 p2_6 t0 v2 fun t1 =>
 some (.normal, t1, h0)
def SW91_0 : CodeS 2 :=
 cSeqS (cSeqS (cRegS (SR91_3)) (cIfS g2_12 (cSkipS) (cExitS 0))) (cSeqS (cBlkS 1 (cSeqS (cRegS (SR91_5)) (cSeqS (cRegS (SR91_6)) (cRegS (SR91_7))))) (cRegS (SR91_4)))
def SF91 : CodeS 2 :=
 cSeqS (cRegS (SR91_0)) (cSeqS (cRegS (SR91_1)) (cSeqS (cSeqS (cRegS (SR91_2)) (cBlkS 0 (cLoopS (SW91_0)))) (cSeqS (cRegS (SR91_8)) (cRetS))))
def T91 : FnT := runG en2_3 (SF91) (resQ (qc (rT g2_6) qn))
theorem T91_ok : GoodF Tryz.prog ro0 okF 91 (T91) :=
 (good_k (n := 25) acc2 (lv [0, 1, 2, 6, 7, 8, 9, 12]) (rs := [ResultVar.tmp 6]) Tryz.func91 (by kernel_rfl) (by kernel_rfl) (by kernel_rfl) (by kernel_rfl) (by kernel_rfl) (by kernel_rfl) (by kernel_rfl) (by kernel_rfl) (by kernel_rfl)).enter en2_3_ok (by kernel_rfl)

/-- (*circheck/checker.netlist).binaryGate -/
def SR92_0 : RegS 3 := fun c t0 h0 =>
 kNil (g3_1 t0) h0 fun v2 h2 =>
 kFld 1 v2 h2 fun v3 h3 =>
 kLd v3 h3 fun v4 h4 =>
 fShal v4 fun v5 =>
 p3_6 t0 v5 fun t1 =>
 some (.normal, t1, h4)
def SR92_1 : RegS 3 := fun c t0 h0 =>
 kOf (c 152 [(g3_1 t0)] h0) fun v2 h2 =>
 fShal v2 fun v3 =>
 p3_7 t0 v3 fun t1 =>
 some (.normal, t1, h2)
def SR92_2 : RegS 3 := fun c t0 h0 =>
 kEql (g3_7 t0) (.int .i64 0) h0 fun v2 h2 =>
 kIf v2 false (fun k => k (g3_7 t0) h2) h2 fun v4 h4 =>
 kIf v2 false (fun k => k (g3_2 t0) h4) h4 fun v5 h5 =>
 kIf v2 false (fun k => kGtr v4 v5 h5 k) h5 fun v6 h6 =>
 kPick v2 (.bool true) v6 h6 fun v7 h7 =>
 p3_22 t0 v7 fun t1 =>
 some (.normal, t1, h7)
def SR92_3 : RegS 3 := fun c t0 h0 =>
 kOf (c 88 [(g3_1 t0), (.int .i64 10), (g3_6 t0)] h0) fun v3 h3 =>
 some (.normal, t0, h3)
def SR92_4 : RegS 3 := fun c t0 h0 =>
 kSub (g3_2 t0) (g3_7 t0) h0 fun v3 h3 =>
 fShal v3 fun v4 =>
 p3_8 t0 v4 fun t1 =>
 some (.normal, t1, h3)
def SR92_5 : RegS 3 := fun c t0 h0 =>
 kNil (g3_1 t0) h0 fun v2 h2 =>
 kFld 1 v2 h2 fun v3 h3 =>
 kLd v3 h3 fun v4 h4 =>
 fShal v4 fun v5 =>
 p3_9 t0 v5 fun t1 =>
 some (.normal, t1, h4)
def SR92_6 : RegS 3 := fun c t0 h0 =>
 kOf (c 152 [(g3_1 t0)] h0) fun v2 h2 =>
 fShal v2 fun v3 =>
 p3_7 t0 v3 fun t1 =>
 some (.normal, t1, h2)
def SR92_7 : RegS 3 := fun c t0 h0 =>
 kGtr (g3_7 t0) (g3_8 t0) h0 fun v3 h3 =>
 p3_37 t0 v3 fun t1 =>
 some (.normal, t1, h3)
def SR92_8 : RegS 3 := fun c t0 h0 =>
 kOf (c 88 [(g3_1 t0), (.int .i64 10), (g3_9 t0)] h0) fun v3 h3 =>
 some (.normal, t0, h3)
def SR92_9 : RegS 3 := fun c t0 h0 =>
 kOf (c 89 [(g3_0 t0), (g3_2 t0)] h0) fun v3 h3 =>
 some (.normal, t0, h3)
def SR92_10 : RegS 3 := fun c t0 h0 =>
 kNil (g3_0 t0) h0 fun v3 h3 =>
 kFld 5 v3 h3 fun v4 h4 =>
 kLd v4 h4 fun v5 h5 =>
 kBuild #[.int .i64 0, .int .i64 0] [(0, 1), (1, 1)] [(0, (g3_2 t0)), (1, (g3_6 t0))] h5 fun v8 h8 =>
 kBuild #[.int .i64 0, .int .i64 0] [(0, 1), (1, 1)] [(0, (g3_8 t0)), (1, (g3_6 t0))] h8 fun v11 h11 =>
 kSub (g3_8 t0) (g3_7 t0) h11 fun v14 h14 =>
 kBuild #[.int .i64 0, .int .i64 0] [(0, 1), (1, 1)] [(0, v14), (1, (g3_9 t0))] h14 fun v16 h16 =>
 kBuild #[.int .i64 0, .int .i64 0, .int .i64 0, .int .i64 0, .int .i64 0, .int .i64 0] [(0, 2), (2, 2), (4, 2)] [(0, v8), (1, v11), (2, v16)] h16 fun v17 h17 =>
 kMkSl 6 1 #[.int .i64 0, .int .i64 0, .int .i64 0, .int .i64 0, .int .i64 0, .int .i64 0] [(0, v17)] h17 fun v18 h18 =>
 kOf (vApp ro0 6 48 v5 v18 h18) fun v19 h19 =>
 kNil (g3_0 t0) h19 fun v20 h20 =>
 kFld 5 v20 h20 fun v21 h21 =>
 kSt ro0 v21 v19 h21 fun _ h22 =>
 some (.normal, t0, h22)
def SF92 : CodeS 3 :=
 cSeqS (cRegS (SR92_0)) (cSeqS (cRegS (SR92_1)) (cSeqS (cSeqS (cRegS (SR92_2)) (cIfS g3_22 (cRegS (SR92_3)) (cSkipS))) (cSeqS (cRegS (SR92_4)) (cSeqS (cRegS (SR92_5)) (cSeqS (cRegS (SR92_6)) (cSeqS (cSeqS (cRegS (SR92_7)) (cIfS g3_37 (cRegS (SR92_8)) (cSkipS))) (cSeqS (cRegS (SR92_9)) (cRegS (SR92_10)))))))))
def T92 : FnT := runG en3_3 (SF92) (resQ qn)
theorem T92_ok : GoodF Tryz.prog ro0 okF 92 (T92) :=
 (good_k (n := 65) acc3 (lv [0, 1, 2, 6, 7, 8, 9, 22, 37]) (rs := []) Tryz.func92 (by kernel_rfl) (by kernel_rfl) (by kernel_rfl) (by kernel_rfl) (by kernel_rfl) (by kernel_rfl) (by kernel_rfl) (by kernel_rfl) (by kernel_rfl)).enter en3_3_ok (by kernel_rfl)

/-- (*circheck/checker.netlist).definition -/
def SR93_0 : RegS 2 := fun c t0 h0 =>
 kNew [.int .i64 0, .int .i64 0] h0 fun v1 h1 =>
 p2_4 t0 v1 fun t1 =>
 some (.normal, t1, h1)
def SR93_1 : RegS 2 := fun c t0 h0 =>
 kOf (c 150 [(g2_0 t0), (g2_1 t0)] h0) fun v3 h3 =>
 kNew [.int .i64 0, .int .i64 0] h3 fun v4 h4 =>
 p2_5 t0 v4 fun t1 =>
 kAny (aSt tO ro0 2 (.const v4) (.const v3)) c h4 fun _ h5 =>
 some (.normal, t1, h5)
def SR93_2 : RegS 2 := fun c t0 h0 =>
 kFld 0 (g2_5 t0) h0 fun v1 h1 =>
 kLd v1 h1 fun v2 h2 =>
 kOf (vInt .and v2 (.int .i64 1) h2) fun v3 h3 =>
 kEql v3 (.int .i64 1) h3 fun v4 h4 =>
 kIf v4 false (fun k => k (g2_0 t0) h4) h4 fun v6 h6 =>
 kIf v4 false (fun k => kFld 0 (g2_5 t0) h6 k) h6 fun v7 h7 =>
 kIf v4 false (fun k => kLd v7 h7 k) h7 fun v8 h8 =>
 kIf v4 false (fun k => kOf (c 153 [v6, v8] h8) k) h8 fun v9 h9 =>
 kPick v4 (.bool true) v9 h9 fun v10 h10 =>
 p2_18 t0 v10 fun t1 =>
 some (.normal, t1, h10)
def SR93_3 : RegS 2 := fun c t0 h0 =>
 kFld 1 (g2_5 t0) h0 fun v2 h2 =>
 kLd v2 h2 fun v3 h3 =>
 kOf (c 88 [(g2_1 t0), (.int .i64 8), v3] h3) fun v4 h4 =>
 some (.normal, t0, h4)
def SR93_4 : RegS 2 := fun c t0 h0 =>
 kFld 0 (g2_5 t0) h0 fun v2 h2 =>
 kLd v2 h2 fun v3 h3 =>
 kOf (c 89 [(g2_0 t0), v3] h3) fun v4 h4 =>
 some (.normal, t0, h4)
def SR93_5 : RegS 2 := fun c t0 h0 =>
 kOf (vLdN 2 (g2_5 t0) h0) fun v1 h1 =>
 kAny (aSt tO ro0 2 (.const (g2_4 t0)) (.const v1)) c h1 fun _ h2 =>
 some (.normal, t0, h2)
def SF93 : CodeS 2 :=
 cSeqS (cRegS (SR93_0)) (cSeqS (cRegS (SR93_1)) (cSeqS (cSeqS (cRegS (SR93_2)) (cIfS g2_18 (cRegS (SR93_3)) (cSkipS))) (cSeqS (cRegS (SR93_4)) (cSeqS (cRegS (SR93_5)) (cRetS)))))
def T93 : FnT := runG en2_2 (SF93) (resQ (qc (rN 2 g2_4) qn))
theorem T93_ok : GoodF Tryz.prog ro0 okF 93 (T93) :=
 (good_k (n := 28) acc2 (lv [0, 1, 4, 5, 18]) (rs := [ResultVar.cell 4 132]) Tryz.func93 (by kernel_rfl) (by kernel_rfl) (by kernel_rfl) (by kernel_rfl) (by kernel_rfl) (by kernel_rfl) (by kernel_rfl) (by kernel_rfl) (by kernel_rfl)).enter en2_2_ok (by kernel_rfl)

/-- (*circheck/checker.netlist).plainGate -/
def SR94_0 : RegS 2 := fun c t0 h0 =>
 kOf (c 93 [(g2_0 t0), (g2_1 t0)] h0) fun v3 h3 =>
 kNew [.int .i64 0, .int .i64 0] h3 fun v4 h4 =>
 p2_4 t0 v4 fun t1 =>
 kAny (aSt tO ro0 2 (.const v4) (.const v3)) c h4 fun _ h5 =>
 some (.normal, t1, h5)
def SR94_1 : RegS 2 := fun c t0 h0 =>
 kOf (c 84 [(g2_1 t0), (.int .i64 32)] h0) fun v2 h2 =>
 some (.normal, t0, h2)
def SR94_2 : RegS 2 := fun c t0 h0 =>
 kOf (c 150 [(g2_0 t0), (g2_1 t0)] h0) fun v3 h3 =>
 kNew [.int .i64 0, .int .i64 0] h3 fun v4 h4 =>
 p2_5 t0 v4 fun t1 =>
 kAny (aSt tO ro0 2 (.const v4) (.const v3)) c h4 fun _ h5 =>
 some (.normal, t1, h5)
def SR94_3 : RegS 2 := fun c t0 h0 =>
 kOf (c 84 [(g2_1 t0), (.int .i64 32)] h0) fun v2 h2 =>
 some (.normal, t0, h2)
def SR94_4 : RegS 2 := fun c t0 h0 =>
 kOf (c 150 [(g2_0 t0), (g2_1 t0)] h0) fun v3 h3 =>
 kNew [.int .i64 0, .int .i64 0] h3 fun v4 h4 =>
 p2_6 t0 v4 fun t1 =>
 kAny (aSt tO ro0 2 (.const v4) (.const v3)) c h4 fun _ h5 =>
 some (.normal, t1, h5)
def SR94_5 : RegS 2 := fun c t0 h0 =>
 kOf (c 84 [(g2_1 t0), (.int .i64 10)] h0) fun v2 h2 =>
 some (.normal, t0, h2)
def SR94_6 : RegS 2 := fun c t0 h0 =>
 kNil (g2_0 t0) h0 fun v3 h3 =>
 kFld 5 v3 h3 fun v4 h4 =>
 kLd v4 h4 fun v5 h5 =>
 kOf (vLdN 2 (g2_4 t0) h5) fun v6 h6 =>
 kOf (vLdN 2 (g2_5 t0) h6) fun v7 h7 =>
 kOf (vLdN 2 (g2_6 t0) h7) fun v8 h8 =>
 kBuild #[.int .i64 0, .int .i64 0, .int .i64 0, .int .i64 0, .int .i64 0, .int .i64 0] [(0, 2), (2, 2), (4, 2)] [(0, v6), (1, v7), (2, v8)] h8 fun v9 h9 =>
 kMkSl 6 1 #[.int .i64 0, .int .i64 0, .int .i64 0, .int .i64 0, .int .i64 0, .int .i64 0] [(0, v9)] h9 fun v10 h10 =>
 kOf (vApp ro0 6 48 v5 v10 h10) fun v11 h11 =>
 kNil (g2_0 t0) h11 fun v12 h12 =>
 kFld 5 v12 h12 fun v13 h13 =>
 kSt ro0 v13 v11 h13 fun _ h14 =>
 some (.normal, t0, h14)
def SF94 : CodeS 2 :=
 cSeqS (cRegS (SR94_0)) (cSeqS (cRegS (SR94_1)) (cSeqS (cRegS (SR94_2)) (cSeqS (cRegS (SR94_3)) (cSeqS (cRegS (SR94_4)) (cSeqS (cRegS (SR94_5)) (cRegS (SR94_6)))))))
def T94 : FnT := runG en2_2 (SF94) (resQ qn)
theorem T94_ok : GoodF Tryz.prog ro0 okF 94 (T94) :=
 (good_k (n := 35) acc2 (lv [0, 1, 4, 5, 6]) (rs := []) Tryz.func94 (by kernel_rfl) (by kernel_rfl) (by kernel_rfl) (by kernel_rfl) (by kernel_rfl) (by kernel_rfl) (by kernel_rfl) (by kernel_rfl) (by kernel_rfl)).enter en2_2_ok (by kernel_rfl)

/-- (*circheck/checker.reader).symbol -/
def SR95_0 : RegS 2 := fun c t0 h0 =>
 kBox (g2_1 t0) h0 fun v1 h1 =>
 p2_3 t0 v1 fun t1 =>
 some (.normal, t1, h1)
def SR95_1 : RegS 2 := fun c t0 h0 =>
 fShal (.int .i64 0) fun v1 =>
 p2_4 t0 v1 fun t1 =>
 some (.normal, t1, h0)
def SR95_2 : RegS 2 := fun c t0 h0 =>
 kOf (c 86 [(g2_0 t0)] h0) fun v2 h2 =>
 p2_8 t0 v2 fun t1 =>
 some (.normal, t1, h2)
def SR95_4 : RegS 2 := fun c t0 h0 =>
 kEql (g2_8 t0) (.int .i64 105) h0 fun v1 h1 =>
 fShal v1 fun v2 =>
 p2_15 t0 v2 fun t1 =>
 some (.normal, t1, h1)
def SR95_5 : RegS 2 := fun c t0 h0 =>
 kFld 2 (g2_3 t0) h0 fun v1 h1 =>
 kLd v1 h1 fun v2 h2 =>
 fShal v2 fun v3 =>
 p2_4 t0 v3 fun t1 =>
 some (.normal, t1, h2)
def SR95_6 : RegS 2 := fun c t0 h0 =>
 kEql (g2_8 t0) (.int .i64 108) h0 fun v1 h1 =>
 fShal v1 fun v2 =>
 p2_19 t0 v2 fun t1 =>
 some (.normal, t1, h1)
def SR95_7 : RegS 2 := fun c t0 h0 =>
 kFld 3 (g2_3 t0) h0 fun v1 h1 =>
 kLd v1 h1 fun v2 h2 =>
 fShal v2 fun v3 =>
 p2_4 t0 v3 fun t1 =>
 some (.normal, t1, h2)
def SR95_8 : RegS 2 := fun c t0 h0 =>
 kEql (g2_8 t0) (.int .i64 111) h0 fun v1 h1 =>
 fShal v1 fun v2 =>
 p2_23 t0 v2 fun t1 =>
 some (.normal, t1, h1)
def SR95_9 : RegS 2 := fun c t0 h0 =>
 kFld 4 (g2_3 t0) h0 fun v1 h1 =>
 kLd v1 h1 fun v2 h2 =>
 fShal v2 fun v3 =>
 p2_4 t0 v3 fun t1 =>
 some (.normal, t1, h2)
def SR95_10 : RegS 2 := fun c t0 h0 =>
 kEql (g2_8 t0) (.int .i64 98) h0 fun v1 h1 =>
 fShal v1 fun v2 =>
 p2_27 t0 v2 fun t1 =>
 some (.normal, t1, h1)
def SR95_11 : RegS 2 := fun c t0 h0 =>
 kFld 6 (g2_3 t0) h0 fun v1 h1 =>
 kLd v1 h1 fun v2 h2 =>
 fShal v2 fun v3 =>
 p2_4 t0 v3 fun t1 =>
 some (.normal, t1, h2)
def SR95_3 : RegS 2 := fun c t0 h0 =>
 kNil (g2_0 t0) h0 fun v3 h3 =>
 kFld 1 v3 h3 fun v4 h4 =>
 kLd v4 h4 fun v5 h5 =>
 kOf (c 88 [(g2_0 t0), (.int .i64 2), v5] h5) fun v6 h6 =>
 some (.normal, t0, h6)
def SR95_12 : RegS 2 := fun c t0 h0 =>
 kNil (g2_0 t0) h0 fun v2 h2 =>
 kFld 1 v2 h2 fun v3 h3 =>
 kLd v3 h3 fun v4 h4 =>
 kAdd v4 (.int .i64 1) h4 fun v5 h5 =>
 kNil (g2_0 t0) h5 fun v6 h6 =>
 kFld 1 v6 h6 fun v7 h7 =>
 kSt ro0 v7 v5 h7 fun _ h8 =>
 some (.normal, t0, h8)
def SR95_13 : RegS 2 := fun c t0 h0 =>
 kNil (g2_0 t0) h0 fun v2 h2 =>
 kFld 1 v2 h2 fun v3 h3 =>
 kLd v3 h3 fun v4 h4 =>
 fShal v4 fun v5 =>
 p2_5 t0 v5 fun t1 =>
 some (.normal, t1, h4)
def SR95_14 : RegS 2 := fun c t0 h0 =>
 kOf (c 87 [(g2_0 t0)] h0) fun v2 h2 =>
 fShal v2 fun v3 =>
 p2_6 t0 v3 fun t1 =>
 some (.normal, t1, h2)
def SR95_15 : RegS 2 := fun c t0 h0 =>
 kGeq (g2_6 t0) (g2_4 t0) h0 fun v3 h3 =>
 p2_46 t0 v3 fun t1 =>
 some (.normal, t1, h3)
def SR95_16 : RegS 2 := fun c t0 h0 =>
 kOf (c 88 [(g2_0 t0), (.int .i64 2), (g2_5 t0)] h0) fun v3 h3 =>
 some (.normal, t0, h3)
def SR95_17 : RegS 2 := fun c t0 h0 =>
 kOf (c 84 [(g2_0 t0), (.int .i64 32)] h0) fun v2 h2 =>
 some (.normal, t0, h2)
def SR95_18 : RegS 2 := fun c t0 h0 =>
 kOf (c 154 [(g2_0 t0)] h0) fun v2 h2 =>
 some (.normal, t0, h2)
def SF95 : CodeS 2 :=
 cSeqS (cRegS (SR95_0)) (cSeqS (cRegS (SR95_1)) (cSeqS (cSeqS (cRegS (SR95_2)) (cBlkS 0 (cSeqS (cRegS (SR95_4)) (cIfS g2_15 (cRegS (SR95_5)) (cSeqS (cRegS (SR95_6)) (cIfS g2_19 (cRegS (SR95_7)) (cSeqS (cRegS (SR95_8)) (cIfS g2_23 (cRegS (SR95_9)) (cSeqS (cRegS (SR95_10)) (cIfS g2_27 (cRegS (SR95_11)) (cSeqS (cRegS (SR95_3)) (cRetS)))))))))))) (cSeqS (cRegS (SR95_12)) (cSeqS (cRegS (SR95_13)) (cSeqS (cRegS (SR95_14)) (cSeqS (cSeqS (cRegS (SR95_15)) (cIfS g2_46 (cRegS (SR95_16)) (cSkipS))) (cSeqS (cRegS (SR95_17)) (cRegS (SR95_18)))))))))
def T95 : FnT := runG en2_2 (SF95) (resQ qn)
theorem T95_ok : GoodF Tryz.prog ro0 okF 95 (T95) :=
 (good_k (n := 54) acc2 (lv [0, 1, 3, 4, 5, 6, 8, 15, 19, 23, 27, 46]) (rs := []) Tryz.func95 (by kernel_rfl) (by kernel_rfl) (by kernel_rfl) (by kernel_rfl) (by kernel_rfl) (by kernel_rfl) (by kernel_rfl) (by kernel_rfl) (by kernel_rfl)).enter en2_2_ok (by kernel_rfl)

/-- (*circheck/checker.netlist).judgeUse -/
def SR96_0 : RegS 2 := fun c t0 h0 =>
 kBox (g2_2 t0) h0 fun v1 h1 =>
 p2_5 t0 v1 fun t1 =>
 some (.normal, t1, h1)
def SR96_1 : RegS 2 := fun c t0 h0 =>
 kFld 0 (g2_5 t0) h0 fun v2 h2 =>
 kLd v2 h2 fun v3 h3 =>
 kOf (c 153 [(g2_0 t0), v3] h3) fun v4 h4 =>
 kNot v4 h4 fun v5 h5 =>
 p2_10 t0 v5 fun t1 =>
 some (.normal, t1, h5)
def SR96_2 : RegS 2 := fun c t0 h0 =>
 kFld 1 (g2_5 t0) h0 fun v2 h2 =>
 kLd v2 h2 fun v3 h3 =>
 kOf (c 88 [(g2_1 t0), (.int .i64 11), v3] h3) fun v4 h4 =>
 some (.normal, t0, h4)
def SF96 : CodeS 2 :=
 cSeqS (cRegS (SR96_0)) (cSeqS (cRegS (SR96_1)) (cIfS g2_10 (cRegS (SR96_2)) (cSkipS)))
def T96 : FnT := runG en2_3 (SF96) (resQ qn)
theorem T96_ok : GoodF Tryz.prog ro0 okF 96 (T96) :=
 (good_k (n := 15) acc2 (lv [0, 1, 2, 5, 10]) (rs := []) Tryz.func96 (by kernel_rfl) (by kernel_rfl) (by kernel_rfl) (by kernel_rfl) (by kernel_rfl) (by kernel_rfl) (by kernel_rfl) (by kernel_rfl) (by kernel_rfl)).enter en2_3_ok (by kernel_rfl)

/-- circheck/checker.newOrder -/
def SR97_0 : RegS 3 := fun c t0 h0 =>
 fShal (.pointer none) fun v1 =>
 p3_2 t0 v1 fun t1 =>
 some (.normal, t1, h0)
def SR97_1 : RegS 3 := fun c t0 h0 =>
 kBuild #[.slice none 0 0, .int .i64 0] [(0, 1), (1, 1)] [] h0 fun v1 h1 =>
 kBox v1 h1 fun v2 h2 =>
 fShal v2 fun v3 =>
 p3_3 t0 v3 fun t1 =>
 some (.normal, t1, h2)
def SR97_2 : RegS 3 := fun c t0 h0 =>
 fShal (.int .i64 0) fun v1 =>
 p3_4 t0 v1 fun t1 =>
 some (.normal, t1, h0)
def SR97_3 : RegS 3 := fun c t0 h0 =>
 kNil (g3_0 t0) h0 fun v3 h3 =>
 kFld 0 v3 h3 fun v4 h4 =>
 kLd v4 h4 fun v5 h5 =>
 kLenSl v5 h5 fun v6 h6 =>
 kLss (g3_4 t0) v6 h6 fun v7 h7 =>
 p3_15 t0 v7 fun t1 =>
 some (.normal, t1, h7)
def SR97_5 : RegS 3 := fun c t0 h0 =>
 kNil (g3_3 t0) h0 fun v3 h3 =>
 kFld 0 v3 h3 fun v4 h4 =>
 kLd v4 h4 fun v5 h5 =>
 kMkSl 1 1 #[.int .i64 0] [(0, (.int .i64 (-1)))] h5 fun v6 h6 =>
 kOf (vApp ro0 1 8 v5 v6 h6) fun v7 h7 =>
 kNil (g3_3 t0) h7 fun v8 h8 =>
 kFld 0 v8 h8 fun v9 h9 =>
 kSt ro0 v9 v7 h9 fun _ h10 =>
 some (.normal, t0, h10)
def SR97_4 : RegS 3 := fun c t0 h0 =>
 kAdd (g3_4 t0) (.int .i64 1) h0 fun v2 h2 =>
 fShal v2 fun v3 =>
 p3_4 t0 v3 fun t1 =>
 some (.normal, t1, h2)
def SR97_6 : RegS 3 := fun c t0 h0 =>
 kOf (c 155 [(g3_3 t0), (.int .i64 0)] h0) fun v2 h2 =>
 some (.normal, t0, h2)
def SR97_7 : RegS 3 := fun c t0 h0 =>
 fShal (.int .i64 0) fun v1 =>
 p3_5 t0 v1 fun t1 =>
 some (.normal, t1, h0)
def SR97_8 : RegS 3 := fun c t0 h0 =>
 kNil (g3_0 t0) h0 fun v3 h3 =>
 kFld 1 v3 h3 fun v4 h4 =>
 kLd v4 h4 fun v5 h5 =>
 kLenSl v5 h5 fun v6 h6 =>
 kLss (g3_5 t0) v6 h6 fun v7 h7 =>
 p3_35 t0 v7 fun t1 =>
 some (.normal, t1, h7)
def SR97_10 : RegS 3 := fun c t0 h0 =>
 kNil (g3_0 t0) h0 fun v3 h3 =>
 kFld 1 v3 h3 fun v4 h4 =>
 kLd v4 h4 fun v5 h5 =>
 kIdx 1 v5 (g3_5 t0) h5 fun v7 h7 =>
 kLd v7 h7 fun v8 h8 =>
 kOf (c 155 [(g3_3 t0), v8] h8) fun v9 h9 =>
 some (.normal, t0, h9)
def SR97_9 : RegS 3 := fun c t0 h0 =>
 kAdd (g3_5 t0) (.int .i64 1) h0 fun v2 h2 =>
 fShal v2 fun v3 =>
 p3_5 t0 v3 fun t1 =>
 some (.normal, t1, h2)
def SR97_11 : RegS 3 := fun c t0 h0 =>
 fShal (.int .i64 0) fun v1 =>
 p3_6 t0 v1 fun t1 =>
 some (.normal, t1, h0)
def SR97_12 : RegS 3 := fun c t0 h0 =>
 kNil (g3_0 t0) h0 fun v3 h3 =>
 kFld 2 v3 h3 fun v4 h4 =>
 kLd v4 h4 fun v5 h5 =>
 kLenSl v5 h5 fun v6 h6 =>
 kLss (g3_6 t0) v6 h6 fun v7 h7 =>
 p3_53 t0 v7 fun t1 =>
 some (.normal, t1, h7)
def SR97_14 : RegS 3 := fun c t0 h0 =>
 kNil (g3_0 t0) h0 fun v3 h3 =>
 kFld 2 v3 h3 fun v4 h4 =>
 kLd v4 h4 fun v5 h5 =>
 kIdx 4 v5 (g3_6 t0) h5 fun v7 h7 =>
 kFld 0 v7 h7 fun v8 h8 =>
 kLd v8 h8 fun v9 h9 =>
 kOf (c 155 [(g3_3 t0), v9] h9) fun v10 h10 =>
 some (.normal, t0, h10)
def SR97_13 : RegS 3 := fun c t0 h0 =>
 kAdd (g3_6 t0) (.int .i64 1) h0 fun v2 h2 =>
 fShal v2 fun v3 =>
 p3_6 t0 v3 fun t1 =>
 some (.normal, t1, h2)
def SR97_15 : RegS 3 := fun c t0 h0 =>
 fShal (g3_3 t0) fun v2 =>
 p3_2 t0 v2 fun t1 =>
 some (.normal, t1, h0)
def SW97_0 : CodeS 3 :=
 cSeqS (cSeqS (cRegS (SR97_3)) (cIfS g3_15 (cSkipS) (cExitS 0))) (cSeqS (cBlkS 1 (cRegS (SR97_5))) (cRegS (SR97_4)))
def SW97_1 : CodeS 3 :=
 cSeqS (cSeqS (cRegS (SR97_8)) (cIfS g3_35 (cSkipS) (cExitS 2))) (cSeqS (cBlkS 3 (cRegS (SR97_10))) (cRegS (SR97_9)))
def SW97_2 : CodeS 3 :=
 cSeqS (cSeqS (cRegS (SR97_12)) (cIfS g3_53 (cSkipS) (cExitS 4))) (cSeqS (cBlkS 5 (cRegS (SR97_14))) (cRegS (SR97_13)))
def SF97 : CodeS 3 :=
 cSeqS (cRegS (SR97_0)) (cSeqS (cRegS (SR97_1)) (cSeqS (cSeqS (cRegS (SR97_2)) (cBlkS 0 (cLoopS (SW97_0)))) (cSeqS (cRegS (SR97_6)) (cSeqS (cSeqS (cRegS (SR97_7)) (cBlkS 2 (cLoopS (SW97_1)))) (cSeqS (cSeqS (cRegS (SR97_11)) (cBlkS 4 (cLoopS (SW97_2)))) (cSeqS (cRegS (SR97_15)) (cRetS)))))))
def T97 : FnT := runG en3_1 (SF97) (resQ (qc (rT g3_2) qn))
theorem T97_ok : GoodF Tryz.prog ro0 okF 97 (T97) :=
 (good_k (n := 67) acc3 (lv [0, 2, 3, 4, 5, 6, 15, 35, 53]) (rs := [ResultVar.tmp 2]) Tryz.func97 (by kernel_rfl) (by kernel_rfl) (by kernel_rfl) (by kernel_rfl) (by kernel_rfl) (by kernel_rfl) (by kernel_rfl) (by kernel_rfl) (by kernel_rfl)).enter en3_1_ok (by kernel_rfl)

/-- (*circheck/checker.order).firstReady -/
def SR98_0 : RegS 2 := fun c t0 h0 =>
 fShal (.int .i64 0) fun v1 =>
 p2_4 t0 v1 fun t1 =>
 some (.normal, t1, h0)
def SR98_1 : RegS 2 := fun c t0 h0 =>
 fShal (.int .i64 0) fun v1 =>
 p2_5 t0 v1 fun t1 =>
 some (.normal, t1, h0)
def SR98_2 : RegS 2 := fun c t0 h0 =>
 kLenSl (g2_1 t0) h0 fun v3 h3 =>
 kLss (g2_5 t0) v3 h3 fun v4 h4 =>
 p2_12 t0 v4 fun t1 =>
 some (.normal, t1, h4)
def SR98_4 : RegS 2 := fun c t0 h0 =>
 kIdx 6 (g2_1 t0) (g2_5 t0) h0 fun v4 h4 =>
 kFld 0 v4 h4 fun v5 h5 =>
 kFld 0 v5 h5 fun v6 h6 =>
 kLd v6 h6 fun v7 h7 =>
 kOf (c 156 [(g2_0 t0), v7] h7) fun v8 h8 =>
 fShal v8 fun v9 =>
 p2_6 t0 v9 fun t1 =>
 some (.normal, t1, h8)
def SR98_5 : RegS 2 := fun c t0 h0 =>
 kIdx 6 (g2_1 t0) (g2_5 t0) h0 fun v4 h4 =>
 kFld 2 v4 h4 fun v5 h5 =>
 kFld 0 v5 h5 fun v6 h6 =>
 kLd v6 h6 fun v7 h7 =>
 kOf (c 156 [(g2_0 t0), v7] h7) fun v8 h8 =>
 fShal v8 fun v9 =>
 p2_7 t0 v9 fun t1 =>
 some (.normal, t1, h8)
def SR98_6 : RegS 2 := fun c t0 h0 =>
 kIdx 6 (g2_1 t0) (g2_5 t0) h0 fun v4 h4 =>
 kFld 4 v4 h4 fun v5 h5 =>
 kFld 0 v5 h5 fun v6 h6 =>
 kLd v6 h6 fun v7 h7 =>
 kOf (c 156 [(g2_0 t0), v7] h7) fun v8 h8 =>
 fShal v8 fun v9 =>
 p2_8 t0 v9 fun t1 =>
 some (.normal, t1, h8)
def SR98_7 : RegS 2 := fun c t0 h0 =>
 kEql (g2_6 t0) (.int .i64 (-1)) h0 fun v2 h2 =>
 kIf v2 true (fun k => k (g2_7 t0) h2) h2 fun v4 h4 =>
 kIf v2 true (fun k => kNeq v4 (.int .i64 (-1)) h4 k) h4 fun v5 h5 =>
 kPick v2 v5 (.bool false) h5 fun v6 h6 =>
 kIf v6 true (fun k => k (g2_8 t0) h6) h6 fun v8 h8 =>
 kIf v6 true (fun k => kNeq v8 (.int .i64 (-1)) h8 k) h8 fun v9 h9 =>
 kPick v6 v9 (.bool false) h9 fun v10 h10 =>
 p2_48 t0 v10 fun t1 =>
 some (.normal, t1, h10)
def SR98_8 : RegS 2 := fun c t0 h0 =>
 fShal (g2_5 t0) fun v2 =>
 p2_4 t0 v2 fun t1 =>
 some (.normal, t1, h0)
def SR98_3 : RegS 2 := fun c t0 h0 =>
 kAdd (g2_5 t0) (.int .i64 1) h0 fun v2 h2 =>
 fShal v2 fun v3 =>
 p2_5 t0 v3 fun t1 =>
 some (.normal, t1, h2)
def SR98_9 : RegS 2 := fun c t0 h0 =>
 fShal (.int .i64 (-1)) fun v1 =>
 p2_4 t0 v1 fun t1 =>
 some (.normal, t1, h0)
def SW98_0 : CodeS 2 :=
 cSeqS (cSeqS (cRegS (SR98_2)) (cIfS g2_12 (cSkipS) (cExitS 0))) (cSeqS (cBlkS 1 (cSeqS (cRegS (SR98_4)) (cSeqS (cRegS (SR98_5)) (cSeqS (cRegS (SR98_6)) (cSeqS (cRegS (SR98_7)) (cIfS g2_48 (cSeqS (cRegS (SR98_8)) (cRetS)) (cSkipS))))))) (cRegS (SR98_3)))
def SF98 : CodeS 2 :=
 cSeqS (cRegS (SR98_0)) (cSeqS (cSeqS (cRegS (SR98_1)) (cBlkS 0 (cLoopS (SW98_0)))) (cSeqS (cRegS (SR98_9)) (cRetS)))
def T98 : FnT := runG en2_2 (SF98) (resQ (qc (rT g2_4) qn))
theorem T98_ok : GoodF Tryz.prog ro0 okF 98 (T98) :=
 (good_k (n := 50) acc2 (lv [0, 1, 4, 5, 6, 7, 8, 12, 48]) (rs := [ResultVar.tmp 4]) Tryz.func98 (by kernel_rfl) (by kernel_rfl) (by kernel_rfl) (by kernel_rfl) (by kernel_rfl) (by kernel_rfl) (by kernel_rfl) (by kernel_rfl) (by kernel_rfl)).enter en2_2_ok (by kernel_rfl)

/-- (*circheck/checker.order).firstUnlaid -/
def SR99_0 : RegS 2 := fun c t0 h0 =>
 fShal (.int .i64 0) fun v1 =>
 p2_4 t0 v1 fun t1 =>
 some (.normal, t1, h0)
def SR99_1 : RegS 2 := fun c t0 h0 =>
 fShal (.int .i64 0) fun v1 =>
 p2_5 t0 v1 fun t1 =>
 some (.normal, t1, h0)
def SR99_2 : RegS 2 := fun c t0 h0 =>
 kLenSl (g2_1 t0) h0 fun v3 h3 =>
 kLss (g2_5 t0) v3 h3 fun v4 h4 =>
 p2_10 t0 v4 fun t1 =>
 some (.normal, t1, h4)
def SR99_4 : RegS 2 := fun c t0 h0 =>
 kIdx 6 (g2_1 t0) (g2_5 t0) h0 fun v4 h4 =>
 kFld 0 v4 h4 fun v5 h5 =>
 kFld 0 v5 h5 fun v6 h6 =>
 kLd v6 h6 fun v7 h7 =>
 kOf (c 156 [(g2_0 t0), v7] h7) fun v8 h8 =>
 fShal v8 fun v9 =>
 p2_6 t0 v9 fun t1 =>
 some (.normal, t1, h8)
def SR99_5 : RegS 2 := fun c t0 h0 =>
 kEql (g2_6 t0) (.int .i64 (-1)) h0 fun v2 h2 =>
 p2_22 t0 v2 fun t1 =>
 some (.normal, t1, h2)
def SR99_6 : RegS 2 := fun c t0 h0 =>
 kIdx 6 (g2_1 t0) (g2_5 t0) h0 fun v3 h3 =>
 kFld 0 v3 h3 fun v4 h4 =>
 kFld 1 v4 h4 fun v5 h5 =>
 kLd v5 h5 fun v6 h6 =>
 fShal v6 fun v7 =>
 p2_4 t0 v7 fun t1 =>
 some (.normal, t1, h6)
def SR99_3 : RegS 2 := fun c t0 h0 =>
 kAdd (g2_5 t0) (.int .i64 1) h0 fun v2 h2 =>
 fShal v2 fun v3 =>
 p2_5 t0 v3 fun t1 =>
 some (.normal, t1, h2)
def SR99_7 : RegS 2 := fun c t0 h0 =>
 fShal (.int .i64 0) fun v1 =>
 p2_4 t0 v1 fun t1 =>
 some (.normal, t1, h0)
def SW99_0 : CodeS 2 :=
 cSeqS (cSeqS (cRegS (SR99_2)) (cIfS g2_10 (cSkipS) (cExitS 0))) (cSeqS (cBlkS 1 (cSeqS (cRegS (SR99_4)) (cSeqS (cRegS (SR99_5)) (cIfS g2_22 (cSeqS (cRegS (SR99_6)) (cRetS)) (cSkipS))))) (cRegS (SR99_3)))
def SF99 : CodeS 2 :=
 cSeqS (cRegS (SR99_0)) (cSeqS (cSeqS (cRegS (SR99_1)) (cBlkS 0 (cLoopS (SW99_0)))) (cSeqS (cRegS (SR99_7)) (cRetS)))
def T99 : FnT := runG en2_2 (SF99) (resQ (qc (rT g2_4) qn))
theorem T99_ok : GoodF Tryz.prog ro0 okF 99 (T99) :=
 (good_k (n := 29) acc2 (lv [0, 1, 4, 5, 6, 10, 22]) (rs := [ResultVar.tmp 4]) Tryz.func99 (by kernel_rfl) (by kernel_rfl) (by kernel_rfl) (by kernel_rfl) (by kernel_rfl) (by kernel_rfl) (by kernel_rfl) (by kernel_rfl) (by kernel_rfl)).enter en2_2_ok (by kernel_rfl)

/-- (*circheck/checker.order).layGate -/
def SR100_0 : RegS 2 := fun c t0 h0 =>
 kBox (g2_2 t0) h0 fun v1 h1 =>
 p2_5 t0 v1 fun t1 =>
 some (.normal, t1, h1)
def SR100_1 : RegS 2 := fun c t0 h0 =>
 kFld 2 (g2_5 t0) h0 fun v2 h2 =>
 kFld 0 v2 h2 fun v3 h3 =>
 kLd v3 h3 fun v4 h4 =>
 kOf (c 101 [(g2_0 t0), v4] h4) fun v5 h5 =>
 fShal v5 fun v6 =>
 p2_6 t0 v6 fun t1 =>
 some (.normal, t1, h5)
def SR100_2 : RegS 2 := fun c t0 h0 =>
 kFld 4 (g2_5 t0) h0 fun v2 h2 =>
 kFld 0 v2 h2 fun v3 h3 =>
 kLd v3 h3 fun v4 h4 =>
 kOf (c 101 [(g2_0 t0), v4] h4) fun v5 h5 =>
 fShal v5 fun v6 =>
 p2_7 t0 v6 fun t1 =>
 some (.normal, t1, h5)
def SR100_3 : RegS 2 := fun c t0 h0 =>
 kLss (g2_6 t0) (g2_7 t0) h0 fun v3 h3 =>
 p2_20 t0 v3 fun t1 =>
 some (.normal, t1, h3)
def SR100_4 : RegS 2 := fun c t0 h0 =>
 fShal (g2_7 t0) fun v3 =>
 p2_6 t0 v3 fun t1 =>
 fShal (g2_6 t0) fun v4 =>
 p2_7 t1 v4 fun t2 =>
 some (.normal, t2, h0)
def SR100_5 : RegS 2 := fun c t0 h0 =>
 kNil (g2_1 t0) h0 fun v3 h3 =>
 kFld 2 v3 h3 fun v4 h4 =>
 kLd v4 h4 fun v5 h5 =>
 kBuild #[.int .i64 0, .int .i64 0] [(0, 1), (1, 1)] [(0, (g2_6 t0)), (1, (g2_7 t0))] h5 fun v8 h8 =>
 kMkSl 2 1 #[.int .i64 0, .int .i64 0] [(0, v8)] h8 fun v9 h9 =>
 kOf (vApp ro0 2 16 v5 v9 h9) fun v10 h10 =>
 kNil (g2_1 t0) h10 fun v11 h11 =>
 kFld 2 v11 h11 fun v12 h12 =>
 kSt ro0 v12 v10 h12 fun _ h13 =>
 some (.normal, t0, h13)
def SR100_6 : RegS 2 := fun c t0 h0 =>
 kFld 0 (g2_5 t0) h0 fun v2 h2 =>
 kFld 0 v2 h2 fun v3 h3 =>
 kLd v3 h3 fun v4 h4 =>
 kOf (c 155 [(g2_0 t0), v4] h4) fun v5 h5 =>
 some (.normal, t0, h5)
def SF100 : CodeS 2 :=
 cSeqS (cRegS (SR100_0)) (cSeqS (cRegS (SR100_1)) (cSeqS (cRegS (SR100_2)) (cSeqS (cSeqS (cRegS (SR100_3)) (cIfS g2_20 (cRegS (SR100_4)) (cSkipS))) (cSeqS (cRegS (SR100_5)) (cRegS (SR100_6))))))
def T100 : FnT := runG en2_3 (SF100) (resQ qn)
theorem T100_ok : GoodF Tryz.prog ro0 okF 100 (T100) :=
 (good_k (n := 40) acc2 (lv [0, 1, 2, 5, 6, 7, 20]) (rs := []) Tryz.func100 (by kernel_rfl) (by kernel_rfl) (by kernel_rfl) (by kernel_rfl) (by kernel_rfl) (by kernel_rfl) (by kernel_rfl) (by kernel_rfl) (by kernel_rfl)).enter en2_3_ok (by kernel_rfl)

/-- (*circheck/checker.order).literal -/
def SR101_0 : RegS 2 := fun c t0 h0 =>
 fShal (.int .i64 0) fun v1 =>
 p2_4 t0 v1 fun t1 =>
 some (.normal, t1, h0)
def SR101_1 : RegS 2 := fun c t0 h0 =>
 kOf (c 156 [(g2_0 t0), (g2_1 t0)] h0) fun v3 h3 =>
 fShal v3 fun v4 =>
 p2_5 t0 v4 fun t1 =>
 some (.normal, t1, h3)
def SR101_2 : RegS 2 := fun c t0 h0 =>
 kOf (vInt .mul (.int .i64 2) (g2_5 t0) h0) fun v2 h2 =>
 kOf (vInt .and (g2_1 t0) (.int .i64 1) h2) fun v4 h4 =>
 kAdd v2 v4 h4 fun v5 h5 =>
 fShal v5 fun v6 =>
 p2_4 t0 v6 fun t1 =>
 some (.normal, t1, h5)
def SF101 : CodeS 2 :=
 cSeqS (cRegS (SR101_0)) (cSeqS (cRegS (SR101_1)) (cSeqS (cRegS (SR101_2)) (cRetS)))
def T101 : FnT := runG en2_2 (SF101) (resQ (qc (rT g2_4) qn))
theorem T101_ok : GoodF Tryz.prog ro0 okF 101 (T101) :=
 (good_k (n := 14) acc2 (lv [0, 1, 4, 5]) (rs := [ResultVar.tmp 4]) Tryz.func101 (by kernel_rfl) (by kernel_rfl) (by kernel_rfl) (by kernel_rfl) (by kernel_rfl) (by kernel_rfl) (by kernel_rfl) (by kernel_rfl) (by kernel_rfl)).enter en2_2_ok (by kernel_rfl)

/-- (*circheck/checker.netlist).property -/
def SR102_0 : RegS 2 := fun c t0 h0 =>
 fShal (.int .i64 0) fun v1 =>
 p2_2 t0 v1 fun t1 =>
 some (.normal, t1, h0)
def SR102_1 : RegS 2 := fun c t0 h0 =>
 kNil (g2_0 t0) h0 fun v2 h2 =>
 kFld 4 v2 h2 fun v3 h3 =>
 kLd v3 h3 fun v4 h4 =>
 kLenSl v4 h4 fun v5 h5 =>
 kGtr v5 (.int .i64 0) h5 fun v6 h6 =>
 p2_8 t0 v6 fun t1 =>
 some (.normal, t1, h6)
def SR102_2 : RegS 2 := fun c t0 h0 =>
 kNil (g2_0 t0) h0 fun v2 h2 =>
 kFld 4 v2 h2 fun v3 h3 =>
 kLd v3 h3 fun v4 h4 =>
 kIdx 2 v4 (.int .i64 0) h4 fun v5 h5 =>
 kFld 0 v5 h5 fun v6 h6 =>
 kLd v6 h6 fun v7 h7 =>
 fShal v7 fun v8 =>
 p2_2 t0 v8 fun t1 =>
 some (.normal, t1, h7)
def SR102_3 : RegS 2 := fun c t0 h0 =>
 kNil (g2_0 t0) h0 fun v2 h2 =>
 kFld 3 v2 h2 fun v3 h3 =>
 kLd v3 h3 fun v4 h4 =>
 kLenSl v4 h4 fun v5 h5 =>
 kGtr v5 (.int .i64 0) h5 fun v6 h6 =>
 p2_21 t0 v6 fun t1 =>
 some (.normal, t1, h6)
def SR102_4 : RegS 2 := fun c t0 h0 =>
 kNil (g2_0 t0) h0 fun v2 h2 =>
 kFld 3 v2 h2 fun v3 h3 =>
 kLd v3 h3 fun v4 h4 =>
 kIdx 2 v4 (.int .i64 0) h4 fun v5 h5 =>
 kFld 0 v5 h5 fun v6 h6 =>
 kLd v6 h6 fun v7 h7 =>
 fShal v7 fun v8 =>
 p2_2 t0 v8 fun t1 =>
 some (.normal, t1, h7)
def SR102_5 : RegS 2 := fun c t0 h0 =>
 fShal (.int .i64 0) fun v1 =>
 p2_2 t0 v1 fun t1 =>
 some (.normal, t1, h0)
def SF102 : CodeS 2 :=
 cSeqS (cRegS (SR102_0)) (cSeqS (cSeqS (cRegS (SR102_1)) (cIfS g2_8 (cSeqS (cRegS (SR102_2)) (cRetS)) (cSkipS))) (cSeqS (cSeqS (cRegS (SR102_3)) (cIfS g2_21 (cSeqS (cRegS (SR102_4)) (cRetS)) (cSkipS))) (cSeqS (cRegS (SR102_5)) (cRetS))))
def T102 : FnT := runG en2_1 (SF102) (resQ (qc (rT g2_2) qn))
theorem T102_ok : GoodF Tryz.prog ro0 okF 102 (T102) :=
 (good_k (n := 29) acc2 (lv [0, 2, 8, 21]) (rs := [ResultVar.tmp 2]) Tryz.func102 (by kernel_rfl) (by kernel_rfl) (by kernel_rfl) (by kernel_rfl) (by kernel_rfl) (by kernel_rfl) (by kernel_rfl) (by kernel_rfl) (by kernel_rfl)).enter en2_1_ok (by kernel_rfl)

/-- (*circheck/checker.Circuit).NVars -/
def SR103_0 : RegS 2 := fun c t0 h0 =>
 fShal (.int .i64 0) fun v1 =>
 p2_2 t0 v1 fun t1 =>
 some (.normal, t1, h0)
def SR103_1 : RegS 2 := fun c t0 h0 =>
 kPtrNil false (g2_0 t0) (.pointer none) h0 fun v2 h2 =>
 p2_4 t0 v2 fun t1 =>
 some (.normal, t1, h2)
def SR103_2 : RegS 2 := fun c t0 h0 =>
 fShal (.int .i64 0) fun v1 =>
 p2_2 t0 v1 fun t1 =>
 some (.normal, t1, h0)
def SR103_3 : RegS 2 := fun c t0 h0 =>
 kNil (g2_0 t0) h0 fun v2 h2 =>
 kFld 0 v2 h2 fun v3 h3 =>
 kLd v3 h3 fun v4 h4 =>
 kAdd (.int .i64 1) v4 h4 fun v5 h5 =>
 kNil (g2_0 t0) h5 fun v7 h7 =>
 kFld 1 v7 h7 fun v8 h8 =>
 kLd v8 h8 fun v9 h9 =>
 kLenSl v9 h9 fun v10 h10 =>
 kAdd v5 v10 h10 fun v11 h11 =>
 kNil (g2_0 t0) h11 fun v13 h13 =>
 kFld 2 v13 h13 fun v14 h14 =>
 kLd v14 h14 fun v15 h15 =>
 kLenSl v15 h15 fun v16 h16 =>
 kAdd v11 v16 h16 fun v17 h17 =>
 fShal v17 fun v18 =>
 p2_2 t0 v18 fun t1 =>
 some (.normal, t1, h17)
def SF103 : CodeS 2 :=
 cSeqS (cRegS (SR103_0)) (cSeqS (cSeqS (cRegS (SR103_1)) (cIfS g2_4 (cSeqS (cRegS (SR103_2)) (cRetS)) (cSkipS))) (cSeqS (cRegS (SR103_3)) (cRetS)))
def T103 : FnT := runG en2_1 (SF103) (resQ (qc (rT g2_2) qn))
theorem T103_ok : GoodF Tryz.prog ro0 okF 103 (T103) :=
 (good_k (n := 22) acc2 (lv [0, 2, 4]) (rs := [ResultVar.tmp 2]) Tryz.func103 (by kernel_rfl) (by kernel_rfl) (by kernel_rfl) (by kernel_rfl) (by kernel_rfl) (by kernel_rfl) (by kernel_rfl) (by kernel_rfl) (by kernel_rfl)).enter en2_1_ok (by kernel_rfl)

/-- (*circheck/checker.Solver).NewVar -/
def SR104_0 : RegS 2 := fun c t0 h0 =>
 fShal (.int .i64 0) fun v1 =>
 p2_4 t0 v1 fun t1 =>
 fShal (.int .i64 0) fun v2 =>
 p2_5 t1 v2 fun t2 =>
 some (.normal, t2, h0)
def SR104_1 : RegS 2 := fun c t0 h0 =>
 kPtrNil false (g2_0 t0) (.pointer none) h0 fun v2 h2 =>
 kIf v2 false (fun k => k (g2_0 t0) h2) h2 fun v4 h4 =>
 kIf v2 false (fun k => kNil v4 h4 k) h4 fun v5 h5 =>
 kIf v2 false (fun k => kFld 0 v5 h5 k) h5 fun v6 h6 =>
 kIf v2 false (fun k => kLd v6 h6 k) h6 fun v7 h7 =>
 kIf v2 false (fun k => kLenSl v7 h7 k) h7 fun v8 h8 =>
 kIf v2 false (fun k => kGeq v8 (.int .i64 192) h8 k) h8 fun v9 h9 =>
 kPick v2 (.bool true) v9 h9 fun v10 h10 =>
 p2_15 t0 v10 fun t1 =>
 some (.normal, t1, h10)
def SR104_2 : RegS 2 := fun c t0 h0 =>
 fShal (.int .i64 0) fun v1 =>
 p2_4 t0 v1 fun t1 =>
 fShal (.int .i64 14) fun v2 =>
 p2_5 t1 v2 fun t2 =>
 some (.normal, t2, h0)
def SR104_3 : RegS 2 := fun c t0 h0 =>
 kNil (g2_0 t0) h0 fun v3 h3 =>
 kFld 0 v3 h3 fun v4 h4 =>
 kLd v4 h4 fun v5 h5 =>
 kMkSl 1 1 #[.bool false] [(0, (g2_1 t0))] h5 fun v7 h7 =>
 kOf (vApp ro0 1 1 v5 v7 h7) fun v8 h8 =>
 kNil (g2_0 t0) h8 fun v9 h9 =>
 kFld 0 v9 h9 fun v10 h10 =>
 kSt ro0 v10 v8 h10 fun _ h11 =>
 some (.normal, t0, h11)
def SR104_4 : RegS 2 := fun c t0 h0 =>
 kNil (g2_0 t0) h0 fun v2 h2 =>
 kFld 0 v2 h2 fun v3 h3 =>
 kLd v3 h3 fun v4 h4 =>
 kLenSl v4 h4 fun v5 h5 =>
 kSub v5 (.int .i64 1) h5 fun v6 h6 =>
 fShal v6 fun v7 =>
 p2_4 t0 v7 fun t1 =>
 fShal (.int .i64 0) fun v8 =>
 p2_5 t1 v8 fun t2 =>
 some (.normal, t2, h6)
def SF104 : CodeS 2 :=
 cSeqS (cRegS (SR104_0)) (cSeqS (cSeqS (cRegS (SR104_1)) (cIfS g2_15 (cSeqS (cRegS (SR104_2)) (cRetS)) (cSkipS))) (cSeqS (cRegS (SR104_3)) (cSeqS (cRegS (SR104_4)) (cRetS))))
def T104 : FnT := runG en2_2 (SF104) (resQ (qc (rT g2_4) (qc (rT g2_5) qn)))
theorem T104_ok : GoodF Tryz.prog ro0 okF 104 (T104) :=
 (good_k (n := 32) acc2 (lv [0, 1, 4, 5, 15]) (rs := [ResultVar.tmp 4, ResultVar.tmp 5]) Tryz.func104 (by kernel_rfl) (by kernel_rfl) (by kernel_rfl) (by kernel_rfl) (by kernel_rfl) (by kernel_rfl) (by kernel_rfl) (by kernel_rfl) (by kernel_rfl)).enter en2_2_ok (by kernel_rfl)
end Go.Proofs.YtimdkminagnhgaaGreatDoor
