/-
  The program itself for the kernel, function by function. Printed by program; the kernel checks each. Own work.
-/
import Derived.Test.YtimdkminagnhgabGreatDoorLsA
namespace Go.Proofs.YtimdkminagnhgabGreatDoor
open Go.Vm Go.Proofs
set_option linter.unusedVariables false
set_option maxRecDepth 100000

/-- circheck/circhecksays.faults -/
def SR24_0 : RegS 2 := fun c t0 h0 =>
 fShal (.slice none 0 0) fun v1 =>
 p2_0 t0 v1 fun t1 =>
 some (.normal, t1, h0)
def SR24_1 : RegS 2 := fun c t0 h0 =>
 kBuild #[.string ⟨#[]⟩, .int .i64 0, .int .i64 0] [(0, 1), (1, 1), (2, 1)] [(0, (.string { data := #[] })), (1, (.int .i64 2)), (2, (.int .i64 0))] h0 fun v1 h1 =>
 kBuild #[.string ⟨#[]⟩, .int .i64 0, .int .i64 0] [(0, 1), (1, 1), (2, 1)] [(0, (.string { data := #[97, 97, 103] })), (1, (.int .i64 2)), (2, (.int .i64 3))] h1 fun v2 h2 =>
 kBuild #[.string ⟨#[]⟩, .int .i64 0, .int .i64 0] [(0, 1), (1, 1), (2, 1)] [(0, (.string { data := #[97, 97, 103, 32, 48, 32, 48, 32, 48, 32, 49, 32, 48] })), (1, (.int .i64 2)), (2, (.int .i64 13))] h2 fun v3 h3 =>
 kBuild #[.string ⟨#[]⟩, .int .i64 0, .int .i64 0] [(0, 1), (1, 1), (2, 1)] [(0, (.string { data := #[97, 97, 103, 32, 48, 32, 48, 32, 48, 32, 49, 32, 48, 10] })), (1, (.int .i64 2)), (2, (.int .i64 14))] h3 fun v4 h4 =>
 kBuild #[.string ⟨#[]⟩, .int .i64 0, .int .i64 0] [(0, 1), (1, 1), (2, 1)] [(0, (.string { data := #[97, 97, 103, 32, 48, 32, 48, 32, 48, 32, 49, 32, 48, 10, 50, 10] })), (1, (.int .i64 7)), (2, (.int .i64 14))] h4 fun v5 h5 =>
 kBuild #[.string ⟨#[]⟩, .int .i64 0, .int .i64 0] [(0, 1), (1, 1), (2, 1)] [(0, (.string { data := #[97, 97, 103, 32, 48, 48, 32, 48, 32, 48, 32, 49, 32, 48, 10, 48, 10] })), (1, (.int .i64 2)), (2, (.int .i64 5))] h5 fun v6 h6 =>
 kBuild #[.string ⟨#[]⟩, .int .i64 0, .int .i64 0] [(0, 1), (1, 1), (2, 1)] [(0, (.string { data := #[97, 97, 103, 32, 48, 32, 32, 48, 32, 48, 32, 49, 32, 48, 10, 48, 10] })), (1, (.int .i64 2)), (2, (.int .i64 6))] h6 fun v7 h7 =>
 kBuild #[.string ⟨#[]⟩, .int .i64 0, .int .i64 0] [(0, 1), (1, 1), (2, 1)] [(0, (.string { data := #[97, 97, 103, 32, 49, 50, 51, 52, 53, 32, 48, 32, 48, 32, 49, 32, 48, 10, 48, 10] })), (1, (.int .i64 2)), (2, (.int .i64 8))] h7 fun v8 h8 =>
 kBuild #[.string ⟨#[]⟩, .int .i64 0, .int .i64 0] [(0, 1), (1, 1), (2, 1)] [(0, (.string { data := #[97, 97, 103, 32, 56, 49, 32, 48, 32, 48, 32, 49, 32, 48, 10, 48, 10] })), (1, (.int .i64 3)), (2, (.int .i64 0))] h8 fun v9 h9 =>
 kBuild #[.string ⟨#[]⟩, .int .i64 0, .int .i64 0] [(0, 1), (1, 1), (2, 1)] [(0, (.string { data := #[97, 97, 103, 32, 48, 32, 49, 32, 48, 32, 49, 32, 48, 10, 48, 10] })), (1, (.int .i64 4)), (2, (.int .i64 0))] h9 fun v10 h10 =>
 kBuild #[.string ⟨#[]⟩, .int .i64 0, .int .i64 0] [(0, 1), (1, 1), (2, 1)] [(0, (.string { data := #[97, 105, 103, 32, 49, 32, 48, 32, 48, 32, 49, 32, 48, 10, 48, 10] })), (1, (.int .i64 4)), (2, (.int .i64 0))] h10 fun v11 h11 =>
 kBuild #[.string ⟨#[]⟩, .int .i64 0, .int .i64 0] [(0, 1), (1, 1), (2, 1)] [(0, (.string { data := #[97, 97, 103, 32, 48, 32, 48, 32, 48, 32, 49, 32, 48, 32, 48, 32, 49, 10, 48, 10, 48, 10] })), (1, (.int .i64 5)), (2, (.int .i64 0))] h11 fun v12 h12 =>
 kBuild #[.string ⟨#[]⟩, .int .i64 0, .int .i64 0] [(0, 1), (1, 1), (2, 1)] [(0, (.string { data := #[97, 97, 103, 32, 48, 32, 48, 32, 48, 32, 48, 32, 48, 10] })), (1, (.int .i64 6)), (2, (.int .i64 0))] h12 fun v13 h13 =>
 kBuild #[.string ⟨#[]⟩, .int .i64 0, .int .i64 0] [(0, 1), (1, 1), (2, 1)] [(0, (.string { data := #[97, 97, 103, 32, 48, 32, 48, 32, 48, 32, 50, 32, 48, 10, 48, 10, 49, 10] })), (1, (.int .i64 6)), (2, (.int .i64 0))] h13 fun v14 h14 =>
 kBuild #[.string ⟨#[]⟩, .int .i64 0, .int .i64 0] [(0, 1), (1, 1), (2, 1)] [(0, (.string { data := #[97, 97, 103, 32, 48, 32, 48, 32, 48, 32, 48, 32, 48, 32, 50, 10, 48, 10, 49, 10] })), (1, (.int .i64 6)), (2, (.int .i64 0))] h14 fun v15 h15 =>
 kBuild #[.string ⟨#[]⟩, .int .i64 0, .int .i64 0] [(0, 1), (1, 1), (2, 1)] [(0, (.string { data := #[97, 97, 103, 32, 49, 32, 49, 32, 48, 32, 49, 32, 48, 10, 51, 10, 50, 10] })), (1, (.int .i64 8)), (2, (.int .i64 14))] h15 fun v16 h16 =>
 kBuild #[.string ⟨#[]⟩, .int .i64 0, .int .i64 0] [(0, 1), (1, 1), (2, 1)] [(0, (.string { data := #[97, 97, 103, 32, 49, 32, 49, 32, 48, 32, 49, 32, 48, 10, 48, 10, 50, 10] })), (1, (.int .i64 8)), (2, (.int .i64 14))] h16 fun v17 h17 =>
 kBuild #[.string ⟨#[]⟩, .int .i64 0, .int .i64 0] [(0, 1), (1, 1), (2, 1)] [(0, (.string { data := #[97, 97, 103, 32, 50, 32, 50, 32, 48, 32, 49, 32, 48, 10, 50, 10, 50, 10, 50, 10] })), (1, (.int .i64 8)), (2, (.int .i64 16))] h17 fun v18 h18 =>
 kBuild #[.string ⟨#[]⟩, .int .i64 0, .int .i64 0] [(0, 1), (1, 1), (2, 1)] [(0, (.string { data := #[97, 97, 103, 32, 49, 32, 48, 32, 49, 32, 49, 32, 48, 10, 50, 32, 50, 32, 51, 10, 50, 10] })), (1, (.int .i64 9)), (2, (.int .i64 18))] h18 fun v19 h19 =>
 kBuild #[.string ⟨#[]⟩, .int .i64 0, .int .i64 0] [(0, 1), (1, 1), (2, 1)] [(0, (.string { data := #[97, 97, 103, 32, 49, 32, 48, 32, 49, 32, 49, 32, 48, 10, 50, 32, 50, 32, 50, 10, 50, 10] })), (1, (.int .i64 0)), (2, (.int .i64 0))] h19 fun v20 h20 =>
 kBuild #[.string ⟨#[]⟩, .int .i64 0, .int .i64 0] [(0, 1), (1, 1), (2, 1)] [(0, (.string { data := #[97, 97, 103, 32, 50, 32, 49, 32, 48, 32, 49, 32, 48, 10, 50, 10, 52, 10] })), (1, (.int .i64 11)), (2, (.int .i64 16))] h20 fun v21 h21 =>
 kBuild #[.string ⟨#[]⟩, .int .i64 0, .int .i64 0] [(0, 1), (1, 1), (2, 1)] [(0, (.string { data := #[97, 97, 103, 32, 50, 32, 48, 32, 48, 32, 49, 32, 50, 10, 50, 10, 50, 32, 52, 32, 52, 10, 52, 32, 50, 32, 50, 10] })), (1, (.int .i64 12)), (2, (.int .i64 16))] h21 fun v22 h22 =>
 kBuild #[.string ⟨#[]⟩, .int .i64 0, .int .i64 0] [(0, 1), (1, 1), (2, 1)] [(0, (.string { data := #[97, 97, 103, 32, 49, 32, 48, 32, 48, 32, 49, 32, 49, 10, 50, 10, 50, 32, 51, 32, 49, 10] })), (1, (.int .i64 12)), (2, (.int .i64 16))] h22 fun v23 h23 =>
 kBuild #[.string ⟨#[]⟩, .int .i64 0, .int .i64 0] [(0, 1), (1, 1), (2, 1)] [(0, (.string { data := #[97, 97, 103, 32, 48, 32, 48, 32, 48, 32, 49, 32, 48, 10, 48, 10, 120] })), (1, (.int .i64 2)), (2, (.int .i64 16))] h23 fun v24 h24 =>
 kBuild #[.string ⟨#[]⟩, .int .i64 0, .int .i64 0] [(0, 1), (1, 1), (2, 1)] [(0, (.string { data := #[97, 97, 103, 32, 48, 32, 48, 32, 48, 32, 49, 32, 48, 10, 48, 10, 111, 49, 32, 120, 10] })), (1, (.int .i64 2)), (2, (.int .i64 17))] h24 fun v25 h25 =>
 kBuild #[.string ⟨#[]⟩, .int .i64 0, .int .i64 0] [(0, 1), (1, 1), (2, 1)] [(0, (.string { data := #[97, 97, 103, 32, 48, 32, 48, 32, 48, 32, 49, 32, 48, 10, 48, 10, 111, 48, 32, 120, 10, 99, 10, 0] })), (1, (.int .i64 0)), (2, (.int .i64 0))] h25 fun v26 h26 =>
 kBuild #[.string ⟨#[]⟩, .int .i64 0, .int .i64 0] [(0, 1), (1, 1), (2, 1)] [(0, (.string { data := #[97, 97, 103, 32, 48, 32, 48, 32, 48, 32, 49, 32, 48, 10, 48, 10, 111, 48, 32, 10] })), (1, (.int .i64 2)), (2, (.int .i64 19))] h26 fun v27 h27 =>
 kBuild #[.string ⟨#[]⟩, .int .i64 0, .int .i64 0] [(0, 1), (1, 1), (2, 1)] [(0, (.string { data := #[97, 105, 103, 32, 49, 32, 48, 32, 48, 32, 49, 32, 49, 10, 50, 10, 0, 0] })), (1, (.int .i64 10)), (2, (.int .i64 16))] h27 fun v28 h28 =>
 kBuild #[.string ⟨#[]⟩, .int .i64 0, .int .i64 0] [(0, 1), (1, 1), (2, 1)] [(0, (.string { data := #[97, 105, 103, 32, 49, 32, 48, 32, 48, 32, 49, 32, 49, 10, 50, 10, 3, 0] })), (1, (.int .i64 10)), (2, (.int .i64 16))] h28 fun v29 h29 =>
 kBuild #[.string ⟨#[]⟩, .int .i64 0, .int .i64 0] [(0, 1), (1, 1), (2, 1)] [(0, (.string { data := #[97, 105, 103, 32, 49, 32, 48, 32, 48, 32, 49, 32, 49, 10, 50, 10, 1, 2] })), (1, (.int .i64 10)), (2, (.int .i64 17))] h29 fun v30 h30 =>
 kBuild #[.string ⟨#[]⟩, .int .i64 0, .int .i64 0] [(0, 1), (1, 1), (2, 1)] [(0, (.string { data := #[97, 105, 103, 32, 49, 32, 48, 32, 48, 32, 49, 32, 49, 10, 50, 10, 128, 128] })), (1, (.int .i64 2)), (2, (.int .i64 17))] h30 fun v31 h31 =>
 kBuild #[.string ⟨#[]⟩, .int .i64 0, .int .i64 0] [(0, 1), (1, 1), (2, 1)] [(0, (.string { data := #[97, 105, 103, 32, 49, 32, 48, 32, 48, 32, 49, 32, 49, 10, 50, 10, 1, 1] })), (1, (.int .i64 0)), (2, (.int .i64 0))] h31 fun v32 h32 =>
 kBuild #[.string ⟨#[]⟩, .int .i64 0, .int .i64 0] [(0, 1), (1, 1), (2, 1)] [(0, (.string { data := #[97, 105, 103, 32, 49, 32, 48, 32, 48, 32, 49, 32, 49, 10, 50, 10, 1] })), (1, (.int .i64 2)), (2, (.int .i64 17))] h32 fun v33 h33 =>
 kMkSl 3 33 #[.string ⟨#[]⟩, .int .i64 0, .int .i64 0] [(0, v1), (1, v2), (2, v3), (3, v4), (4, v5), (5, v6), (6, v7), (7, v8), (8, v9), (9, v10), (10, v11), (11, v12), (12, v13), (13, v14), (14, v15), (15, v16), (16, v17), (17, v18), (18, v19), (19, v20), (20, v21), (21, v22), (22, v23), (23, v24), (24, v25), (25, v26), (26, v27), (27, v28), (28, v29), (29, v30), (30, v31), (31, v32), (32, v33)] h33 fun v34 h34 =>
 fShal v34 fun v35 =>
 p2_0 t0 v35 fun t1 =>
 some (.normal, t1, h34)
def SF24 : CodeS 2 :=
 cSeqS (cRegS (SR24_0)) (cSeqS (cRegS (SR24_1)) (cRetS))
def T24 : FnT := runG en2_0 (SF24) (resQ (qc (rT g2_0) qn))
theorem T24_ok : GoodF Tryz.prog ro0 okF 24 (T24) :=
 (good_k (n := 35) acc2 (lv [0]) (rs := [ResultVar.tmp 0]) Tryz.func24 (by kernel_rfl) (by kernel_rfl) (by kernel_rfl) (by kernel_rfl) (by kernel_rfl) (by kernel_rfl) (by kernel_rfl) (by kernel_rfl) (by kernel_rfl)).enter en2_0_ok (by kernel_rfl)

/-- circheck/checker.Read -/
def SR25_0 : RegS 2 := fun c t0 h0 =>
 fShal (.pointer none) fun v1 =>
 p2_2 t0 v1 fun t1 =>
 kNew [.int .i64 0, .int .i64 0] h0 fun v2 h2 =>
 p2_3 t1 v2 fun t2 =>
 some (.normal, t2, h2)
def SR25_1 : RegS 2 := fun c t0 h0 =>
 kLenStr (g2_0 t0) h0 fun v2 h2 =>
 kGtr v2 (.int .i64 1000) h2 fun v3 h3 =>
 p2_9 t0 v3 fun t1 =>
 some (.normal, t1, h3)
def SR25_2 : RegS 2 := fun c t0 h0 =>
 kBuild #[.int .i64 0, .int .i64 0] [(0, 1), (1, 1)] [(0, (.int .i64 1))] h0 fun v1 h1 =>
 fShal (.pointer none) fun v2 =>
 p2_2 t0 v2 fun t1 =>
 kAny (aSt tO ro0 2 (.const (g2_3 t1)) (.const v1)) c h1 fun _ h3 =>
 some (.normal, t1, h3)
def SR25_3 : RegS 2 := fun c t0 h0 =>
 kBuild #[.string ⟨#[]⟩, .int .i64 0, .int .i64 0, .int .i64 0] [(0, 1), (1, 1), (2, 2)] [(0, (g2_0 t0))] h0 fun v2 h2 =>
 kBox v2 h2 fun v3 h3 =>
 fShal v3 fun v4 =>
 p2_4 t0 v4 fun t1 =>
 some (.normal, t1, h3)
def SR25_4 : RegS 2 := fun c t0 h0 =>
 kOf (c 33 [(g2_4 t0)] h0) fun v2 h2 =>
 kNew [.bool false, .int .i64 0, .int .i64 0, .int .i64 0, .int .i64 0, .int .i64 0, .int .i64 0, .int .i64 0] h2 fun v3 h3 =>
 p2_5 t0 v3 fun t1 =>
 kAny (aSt tO ro0 8 (.const v3) (.const v2)) c h3 fun _ h4 =>
 some (.normal, t1, h4)
def SR25_5 : RegS 2 := fun c t0 h0 =>
 kOf (vLdN 8 (g2_5 t0) h0) fun v1 h1 =>
 kOf (c 34 [v1, (g2_4 t0)] h1) fun v3 h3 =>
 some (.normal, t0, h3)
def SR25_6 : RegS 2 := fun c t0 h0 =>
 kOf (c 35 [(g2_4 t0)] h0) fun v2 h2 =>
 p2_20 t0 v2 fun t1 =>
 some (.normal, t1, h2)
def SR25_7 : RegS 2 := fun c t0 h0 =>
 kNil (g2_4 t0) h0 fun v2 h2 =>
 kFld 2 v2 h2 fun v3 h3 =>
 kOf (vLdN 2 v3 h3) fun v4 h4 =>
 fShal (.pointer none) fun v5 =>
 p2_2 t0 v5 fun t1 =>
 kAny (aSt tO ro0 2 (.const (g2_3 t1)) (.const v4)) c h4 fun _ h6 =>
 some (.normal, t1, h6)
def SR25_8 : RegS 2 := fun c t0 h0 =>
 kFld 1 (g2_5 t0) h0 fun v1 h1 =>
 kLd v1 h1 fun v2 h2 =>
 kOf (c 36 [v2] h2) fun v3 h3 =>
 fShal v3 fun v4 =>
 p2_6 t0 v4 fun t1 =>
 some (.normal, t1, h3)
def SR25_9 : RegS 2 := fun c t0 h0 =>
 kFld 0 (g2_5 t0) h0 fun v1 h1 =>
 kLd v1 h1 fun v2 h2 =>
 p2_29 t0 v2 fun t1 =>
 some (.normal, t1, h2)
def SR25_10 : RegS 2 := fun c t0 h0 =>
 kOf (vLdN 8 (g2_5 t0) h0) fun v3 h3 =>
 kOf (c 37 [(g2_6 t0), (g2_4 t0), v3] h3) fun v4 h4 =>
 some (.normal, t0, h4)
def SR25_11 : RegS 2 := fun c t0 h0 =>
 kOf (vLdN 8 (g2_5 t0) h0) fun v3 h3 =>
 kOf (c 38 [(g2_6 t0), (g2_4 t0), v3] h3) fun v4 h4 =>
 some (.normal, t0, h4)
def SR25_12 : RegS 2 := fun c t0 h0 =>
 kOf (vLdN 8 (g2_5 t0) h0) fun v2 h2 =>
 kOf (c 39 [(g2_4 t0), v2] h2) fun v3 h3 =>
 some (.normal, t0, h3)
def SR25_13 : RegS 2 := fun c t0 h0 =>
 kOf (c 40 [(g2_6 t0), (g2_4 t0)] h0) fun v3 h3 =>
 some (.normal, t0, h3)
def SR25_14 : RegS 2 := fun c t0 h0 =>
 kOf (c 35 [(g2_4 t0)] h0) fun v2 h2 =>
 p2_45 t0 v2 fun t1 =>
 some (.normal, t1, h2)
def SR25_15 : RegS 2 := fun c t0 h0 =>
 kNil (g2_4 t0) h0 fun v2 h2 =>
 kFld 2 v2 h2 fun v3 h3 =>
 kOf (vLdN 2 v3 h3) fun v4 h4 =>
 fShal (.pointer none) fun v5 =>
 p2_2 t0 v5 fun t1 =>
 kAny (aSt tO ro0 2 (.const (g2_3 t1)) (.const v4)) c h4 fun _ h6 =>
 some (.normal, t1, h6)
def SR25_16 : RegS 2 := fun c t0 h0 =>
 kOf (c 41 [(g2_6 t0)] h0) fun v2 h2 =>
 kExt 0 v2 h2 fun v3 h3 =>
 kExt 1 v2 h3 fun v4 h4 =>
 fShal v3 fun v5 =>
 p2_2 t0 v5 fun t1 =>
 kAny (aSt tO ro0 2 (.const (g2_3 t1)) (.const v4)) c h4 fun _ h6 =>
 some (.normal, t1, h6)
def SF25 : CodeS 2 :=
 cSeqS (cRegS (SR25_0)) (cSeqS (cSeqS (cRegS (SR25_1)) (cIfS g2_9 (cSeqS (cRegS (SR25_2)) (cRetS)) (cSkipS))) (cSeqS (cRegS (SR25_3)) (cSeqS (cRegS (SR25_4)) (cSeqS (cRegS (SR25_5)) (cSeqS (cSeqS (cRegS (SR25_6)) (cIfS g2_20 (cSeqS (cRegS (SR25_7)) (cRetS)) (cSkipS))) (cSeqS (cRegS (SR25_8)) (cSeqS (cSeqS (cRegS (SR25_9)) (cIfS g2_29 (cRegS (SR25_10)) (cRegS (SR25_11)))) (cSeqS (cRegS (SR25_12)) (cSeqS (cRegS (SR25_13)) (cSeqS (cSeqS (cRegS (SR25_14)) (cIfS g2_45 (cSeqS (cRegS (SR25_15)) (cRetS)) (cSkipS))) (cSeqS (cRegS (SR25_16)) (cRetS))))))))))))
def T25 : FnT := runG en2_1 (SF25) (resQ (qc (rT g2_2) (qc (rN 2 g2_3) qn)))
theorem T25_ok : GoodF Tryz.prog ro0 okF 25 (T25) :=
 (good_k (n := 54) acc2 (lv [0, 2, 3, 4, 5, 6, 9, 20, 29, 45]) (rs := [ResultVar.tmp 2, ResultVar.cell 3 49]) Tryz.func25 (by kernel_rfl) (by kernel_rfl) (by kernel_rfl) (by kernel_rfl) (by kernel_rfl) (by kernel_rfl) (by kernel_rfl) (by kernel_rfl) (by kernel_rfl)).enter en2_1_ok (by kernel_rfl)

/-- circheck/checker.Run -/
def SR26_0 : RegS 2 := fun c t0 h0 =>
 fShal (.pointer none) fun v1 =>
 p2_4 t0 v1 fun t1 =>
 some (.normal, t1, h0)
def SR26_1 : RegS 2 := fun c t0 h0 =>
 kLss (g2_1 t0) (.int .i64 0) h0 fun v2 h2 =>
 p2_10 t0 v2 fun t1 =>
 some (.normal, t1, h2)
def SR26_2 : RegS 2 := fun c t0 h0 =>
 kBuild #[.int .i64 0, .int .i64 0] [(0, 1), (1, 1)] [(0, (.int .i64 13))] h0 fun v1 h1 =>
 kBuild #[.int .i64 0, .int .i64 0, .int .i64 0, .slice none 0 0, .int .i64 0, .slice none 0 0, .int .i64 0, .string ⟨#[]⟩] [(0, 1), (1, 2), (3, 1), (4, 1), (5, 1), (6, 1), (7, 1)] [(1, v1)] h1 fun v2 h2 =>
 kBox v2 h2 fun v3 h3 =>
 fShal v3 fun v4 =>
 p2_4 t0 v4 fun t1 =>
 some (.normal, t1, h3)
def SR26_3 : RegS 2 := fun c t0 h0 =>
 kOf (c 25 [(g2_0 t0)] h0) fun v2 h2 =>
 kExt 0 v2 h2 fun v4 h4 =>
 kExt 1 v2 h4 fun v5 h5 =>
 kNew [.int .i64 0, .int .i64 0] h5 fun v6 h6 =>
 p2_6 t0 v6 fun t1 =>
 fShal v4 fun v7 =>
 p2_5 t1 v7 fun t2 =>
 kAny (aSt tO ro0 2 (.const v6) (.const v5)) c h6 fun _ h8 =>
 some (.normal, t2, h8)
def SR26_4 : RegS 2 := fun c t0 h0 =>
 kFld 0 (g2_6 t0) h0 fun v1 h1 =>
 kLd v1 h1 fun v2 h2 =>
 kNeq v2 (.int .i64 0) h2 fun v3 h3 =>
 p2_21 t0 v3 fun t1 =>
 some (.normal, t1, h3)
def SR26_5 : RegS 2 := fun c t0 h0 =>
 kOf (vLdN 2 (g2_6 t0) h0) fun v1 h1 =>
 kBuild #[.int .i64 0, .int .i64 0, .int .i64 0, .slice none 0 0, .int .i64 0, .slice none 0 0, .int .i64 0, .string ⟨#[]⟩] [(0, 1), (1, 2), (3, 1), (4, 1), (5, 1), (6, 1), (7, 1)] [(1, v1)] h1 fun v2 h2 =>
 kBox v2 h2 fun v3 h3 =>
 fShal v3 fun v4 =>
 p2_4 t0 v4 fun t1 =>
 some (.normal, t1, h3)
def SR26_6 : RegS 2 := fun c t0 h0 =>
 kOf (c 42 [(g2_5 t0), (g2_1 t0)] h0) fun v3 h3 =>
 fShal v3 fun v4 =>
 p2_7 t0 v4 fun t1 =>
 some (.normal, t1, h3)
def SR26_7 : RegS 2 := fun c t0 h0 =>
 kOf (c 43 [(g2_7 t0)] h0) fun v2 h2 =>
 fShal v2 fun v3 =>
 p2_8 t0 v3 fun t1 =>
 some (.normal, t1, h2)
def SR26_8 : RegS 2 := fun c t0 h0 =>
 kOf (c 44 [(g2_7 t0), (g2_8 t0)] h0) fun v3 h3 =>
 fShal v3 fun v4 =>
 p2_4 t0 v4 fun t1 =>
 some (.normal, t1, h3)
def SF26 : CodeS 2 :=
 cSeqS (cRegS (SR26_0)) (cSeqS (cSeqS (cRegS (SR26_1)) (cIfS g2_10 (cSeqS (cRegS (SR26_2)) (cRetS)) (cSkipS))) (cSeqS (cRegS (SR26_3)) (cSeqS (cSeqS (cRegS (SR26_4)) (cIfS g2_21 (cSeqS (cRegS (SR26_5)) (cRetS)) (cSkipS))) (cSeqS (cRegS (SR26_6)) (cSeqS (cRegS (SR26_7)) (cSeqS (cRegS (SR26_8)) (cRetS)))))))
def T26 : FnT := runG en2_2 (SF26) (resQ (qc (rT g2_4) qn))
theorem T26_ok : GoodF Tryz.prog ro0 okF 26 (T26) :=
 (good_k (n := 33) acc2 (lv [0, 1, 4, 5, 6, 7, 8, 10, 21]) (rs := [ResultVar.tmp 4]) Tryz.func26 (by kernel_rfl) (by kernel_rfl) (by kernel_rfl) (by kernel_rfl) (by kernel_rfl) (by kernel_rfl) (by kernel_rfl) (by kernel_rfl) (by kernel_rfl)).enter en2_2_ok (by kernel_rfl)

/-- (*circheck/checker.Circuit).Ascii -/
def SR27_0 : RegS 3 := fun c t0 h0 =>
 fShal (.string { data := #[] }) fun v1 =>
 p3_2 t0 v1 fun t1 =>
 some (.normal, t1, h0)
def SR27_1 : RegS 3 := fun c t0 h0 =>
 kPtrNil false (g3_0 t0) (.pointer none) h0 fun v2 h2 =>
 p3_10 t0 v2 fun t1 =>
 some (.normal, t1, h2)
def SR27_2 : RegS 3 := fun c t0 h0 =>
 fShal (.string { data := #[] }) fun v1 =>
 p3_2 t0 v1 fun t1 =>
 some (.normal, t1, h0)
def SR27_3 : RegS 3 := fun c t0 h0 =>
 kOf (c 45 [(g3_0 t0)] h0) fun v2 h2 =>
 kAny (aStr .add (.const (.string { data := #[97, 97, 103, 32] })) (.const v2)) c h2 fun v3 h3 =>
 fShal v3 fun v4 =>
 p3_3 t0 v4 fun t1 =>
 some (.normal, t1, h3)
def SR27_4 : RegS 3 := fun c t0 h0 =>
 fShal (.int .i64 0) fun v1 =>
 p3_4 t0 v1 fun t1 =>
 some (.normal, t1, h0)
def SR27_5 : RegS 3 := fun c t0 h0 =>
 kNil (g3_0 t0) h0 fun v3 h3 =>
 kFld 0 v3 h3 fun v4 h4 =>
 kLd v4 h4 fun v5 h5 =>
 kLss (g3_4 t0) v5 h5 fun v6 h6 =>
 p3_19 t0 v6 fun t1 =>
 some (.normal, t1, h6)
def SR27_7 : RegS 3 := fun c t0 h0 =>
 kAdd (.int .i64 1) (g3_4 t0) h0 fun v3 h3 =>
 kOf (vInt .mul (.int .i64 2) v3 h3) fun v4 h4 =>
 kMkSl 1 1 #[.int .i64 0] [(0, v4)] h4 fun v5 h5 =>
 kOf (c 46 [v5] h5) fun v6 h6 =>
 kAny (aStr .add (.const (g3_3 t0)) (.const v6)) c h6 fun v7 h7 =>
 fShal v7 fun v8 =>
 p3_3 t0 v8 fun t1 =>
 some (.normal, t1, h7)
def SR27_6 : RegS 3 := fun c t0 h0 =>
 kAdd (g3_4 t0) (.int .i64 1) h0 fun v2 h2 =>
 fShal v2 fun v3 =>
 p3_4 t0 v3 fun t1 =>
 some (.normal, t1, h2)
def SR27_8 : RegS 3 := fun c t0 h0 =>
 fShal (.int .i64 0) fun v1 =>
 p3_5 t0 v1 fun t1 =>
 some (.normal, t1, h0)
def SR27_9 : RegS 3 := fun c t0 h0 =>
 kNil (g3_0 t0) h0 fun v3 h3 =>
 kFld 1 v3 h3 fun v4 h4 =>
 kLd v4 h4 fun v5 h5 =>
 kLenSl v5 h5 fun v6 h6 =>
 kLss (g3_5 t0) v6 h6 fun v7 h7 =>
 p3_35 t0 v7 fun t1 =>
 some (.normal, t1, h7)
def SR27_11 : RegS 3 := fun c t0 h0 =>
 kOf (c 47 [(g3_0 t0), (g3_5 t0)] h0) fun v3 h3 =>
 fShal v3 fun v4 =>
 p3_6 t0 v4 fun t1 =>
 some (.normal, t1, h3)
def SR27_12 : RegS 3 := fun c t0 h0 =>
 kOf (c 48 [(g3_6 t0)] h0) fun v3 h3 =>
 kAny (aStr .add (.const (g3_3 t0)) (.const v3)) c h3 fun v4 h4 =>
 fShal v4 fun v5 =>
 p3_3 t0 v5 fun t1 =>
 some (.normal, t1, h4)
def SR27_13 : RegS 3 := fun c t0 h0 =>
 kNil (g3_0 t0) h0 fun v3 h3 =>
 kFld 1 v3 h3 fun v4 h4 =>
 kLd v4 h4 fun v5 h5 =>
 kIdx 2 v5 (g3_5 t0) h5 fun v7 h7 =>
 kOf (vLdN 2 v7 h7) fun v8 h8 =>
 kOf (c 49 [v8, (g3_6 t0)] h8) fun v10 h10 =>
 kAny (aStr .add (.const (.string { data := #[32] })) (.const v10)) c h10 fun v11 h11 =>
 kAny (aStr .add (.const (g3_3 t0)) (.const v11)) c h11 fun v12 h12 =>
 fShal v12 fun v13 =>
 p3_3 t0 v13 fun t1 =>
 some (.normal, t1, h12)
def SR27_10 : RegS 3 := fun c t0 h0 =>
 kAdd (g3_5 t0) (.int .i64 1) h0 fun v2 h2 =>
 fShal v2 fun v3 =>
 p3_5 t0 v3 fun t1 =>
 some (.normal, t1, h2)
def SR27_14 : RegS 3 := fun c t0 h0 =>
 kNil (g3_0 t0) h0 fun v3 h3 =>
 kFld 3 v3 h3 fun v4 h4 =>
 kLd v4 h4 fun v5 h5 =>
 kMkSl 1 1 #[.int .i64 0] [(0, v5)] h5 fun v6 h6 =>
 kOf (c 46 [v6] h6) fun v7 h7 =>
 kAny (aStr .add (.const (g3_3 t0)) (.const v7)) c h7 fun v8 h8 =>
 fShal v8 fun v9 =>
 p3_3 t0 v9 fun t1 =>
 some (.normal, t1, h8)
def SR27_15 : RegS 3 := fun c t0 h0 =>
 fShal (.int .i64 0) fun v1 =>
 p3_7 t0 v1 fun t1 =>
 some (.normal, t1, h0)
def SR27_16 : RegS 3 := fun c t0 h0 =>
 kNil (g3_0 t0) h0 fun v3 h3 =>
 kFld 2 v3 h3 fun v4 h4 =>
 kLd v4 h4 fun v5 h5 =>
 kLenSl v5 h5 fun v6 h6 =>
 kLss (g3_7 t0) v6 h6 fun v7 h7 =>
 p3_71 t0 v7 fun t1 =>
 some (.normal, t1, h7)
def SR27_18 : RegS 3 := fun c t0 h0 =>
 kOf (c 50 [(g3_0 t0), (g3_7 t0)] h0) fun v3 h3 =>
 fShal v3 fun v4 =>
 p3_8 t0 v4 fun t1 =>
 some (.normal, t1, h3)
def SR27_19 : RegS 3 := fun c t0 h0 =>
 kNil (g3_0 t0) h0 fun v4 h4 =>
 kFld 2 v4 h4 fun v5 h5 =>
 kLd v5 h5 fun v6 h6 =>
 kIdx 2 v6 (g3_7 t0) h6 fun v8 h8 =>
 kFld 0 v8 h8 fun v9 h9 =>
 kLd v9 h9 fun v10 h10 =>
 kNil (g3_0 t0) h10 fun v12 h12 =>
 kFld 2 v12 h12 fun v13 h13 =>
 kLd v13 h13 fun v14 h14 =>
 kIdx 2 v14 (g3_7 t0) h14 fun v16 h16 =>
 kFld 1 v16 h16 fun v17 h17 =>
 kLd v17 h17 fun v18 h18 =>
 kMkSl 1 3 #[.int .i64 0] [(0, (g3_8 t0)), (1, v10), (2, v18)] h18 fun v19 h19 =>
 kOf (c 46 [v19] h19) fun v20 h20 =>
 kAny (aStr .add (.const (g3_3 t0)) (.const v20)) c h20 fun v21 h21 =>
 fShal v21 fun v22 =>
 p3_3 t0 v22 fun t1 =>
 some (.normal, t1, h21)
def SR27_17 : RegS 3 := fun c t0 h0 =>
 kAdd (g3_7 t0) (.int .i64 1) h0 fun v2 h2 =>
 fShal v2 fun v3 =>
 p3_7 t0 v3 fun t1 =>
 some (.normal, t1, h2)
def SR27_20 : RegS 3 := fun c t0 h0 =>
 fShal (g3_3 t0) fun v2 =>
 p3_2 t0 v2 fun t1 =>
 some (.normal, t1, h0)
def SW27_0 : CodeS 3 :=
 cSeqS (cSeqS (cRegS (SR27_5)) (cIfS g3_19 (cSkipS) (cExitS 0))) (cSeqS (cBlkS 1 (cRegS (SR27_7))) (cRegS (SR27_6)))
def SW27_1 : CodeS 3 :=
 cSeqS (cSeqS (cRegS (SR27_9)) (cIfS g3_35 (cSkipS) (cExitS 2))) (cSeqS (cBlkS 3 (cSeqS (cRegS (SR27_11)) (cSeqS (cRegS (SR27_12)) (cRegS (SR27_13))))) (cRegS (SR27_10)))
def SW27_2 : CodeS 3 :=
 cSeqS (cSeqS (cRegS (SR27_16)) (cIfS g3_71 (cSkipS) (cExitS 4))) (cSeqS (cBlkS 5 (cSeqS (cRegS (SR27_18)) (cRegS (SR27_19)))) (cRegS (SR27_17)))
def SF27 : CodeS 3 :=
 cSeqS (cRegS (SR27_0)) (cSeqS (cSeqS (cRegS (SR27_1)) (cIfS g3_10 (cSeqS (cRegS (SR27_2)) (cRetS)) (cSkipS))) (cSeqS (cRegS (SR27_3)) (cSeqS (cSeqS (cRegS (SR27_4)) (cBlkS 0 (cLoopS (SW27_0)))) (cSeqS (cSeqS (cRegS (SR27_8)) (cBlkS 2 (cLoopS (SW27_1)))) (cSeqS (cRegS (SR27_14)) (cSeqS (cSeqS (cRegS (SR27_15)) (cBlkS 4 (cLoopS (SW27_2)))) (cSeqS (cRegS (SR27_20)) (cRetS))))))))
def T27 : FnT := runG en3_1 (SF27) (resQ (qc (rT g3_2) qn))
theorem T27_ok : GoodF Tryz.prog ro0 okF 27 (T27) :=
 (good_k (n := 99) acc3 (lv [0, 2, 3, 4, 5, 6, 7, 8, 10, 19, 35, 71]) (rs := [ResultVar.tmp 2]) Tryz.func27 (by kernel_rfl) (by kernel_rfl) (by kernel_rfl) (by kernel_rfl) (by kernel_rfl) (by kernel_rfl) (by kernel_rfl) (by kernel_rfl) (by kernel_rfl)).enter en3_1_ok (by kernel_rfl)

/-- (*circheck/checker.Circuit).Binary -/
def SR28_0 : RegS 3 := fun c t0 h0 =>
 fShal (.string { data := #[] }) fun v1 =>
 p3_2 t0 v1 fun t1 =>
 some (.normal, t1, h0)
def SR28_1 : RegS 3 := fun c t0 h0 =>
 kPtrNil false (g3_0 t0) (.pointer none) h0 fun v2 h2 =>
 p3_10 t0 v2 fun t1 =>
 some (.normal, t1, h2)
def SR28_2 : RegS 3 := fun c t0 h0 =>
 fShal (.string { data := #[] }) fun v1 =>
 p3_2 t0 v1 fun t1 =>
 some (.normal, t1, h0)
def SR28_3 : RegS 3 := fun c t0 h0 =>
 kOf (c 45 [(g3_0 t0)] h0) fun v2 h2 =>
 kAny (aStr .add (.const (.string { data := #[97, 105, 103, 32] })) (.const v2)) c h2 fun v3 h3 =>
 fShal v3 fun v4 =>
 p3_3 t0 v4 fun t1 =>
 some (.normal, t1, h3)
def SR28_4 : RegS 3 := fun c t0 h0 =>
 fShal (.int .i64 0) fun v1 =>
 p3_4 t0 v1 fun t1 =>
 some (.normal, t1, h0)
def SR28_5 : RegS 3 := fun c t0 h0 =>
 kNil (g3_0 t0) h0 fun v3 h3 =>
 kFld 1 v3 h3 fun v4 h4 =>
 kLd v4 h4 fun v5 h5 =>
 kLenSl v5 h5 fun v6 h6 =>
 kLss (g3_4 t0) v6 h6 fun v7 h7 =>
 p3_20 t0 v7 fun t1 =>
 some (.normal, t1, h7)
def SR28_7 : RegS 3 := fun c t0 h0 =>
 kOf (c 47 [(g3_0 t0), (g3_4 t0)] h0) fun v3 h3 =>
 fShal v3 fun v4 =>
 p3_5 t0 v4 fun t1 =>
 some (.normal, t1, h3)
def SR28_8 : RegS 3 := fun c t0 h0 =>
 kNil (g3_0 t0) h0 fun v3 h3 =>
 kFld 1 v3 h3 fun v4 h4 =>
 kLd v4 h4 fun v5 h5 =>
 kIdx 2 v5 (g3_4 t0) h5 fun v7 h7 =>
 kOf (vLdN 2 v7 h7) fun v8 h8 =>
 kOf (c 49 [v8, (g3_5 t0)] h8) fun v10 h10 =>
 kAny (aStr .add (.const (g3_3 t0)) (.const v10)) c h10 fun v11 h11 =>
 fShal v11 fun v12 =>
 p3_3 t0 v12 fun t1 =>
 some (.normal, t1, h11)
def SR28_6 : RegS 3 := fun c t0 h0 =>
 kAdd (g3_4 t0) (.int .i64 1) h0 fun v2 h2 =>
 fShal v2 fun v3 =>
 p3_4 t0 v3 fun t1 =>
 some (.normal, t1, h2)
def SR28_9 : RegS 3 := fun c t0 h0 =>
 kNil (g3_0 t0) h0 fun v3 h3 =>
 kFld 3 v3 h3 fun v4 h4 =>
 kLd v4 h4 fun v5 h5 =>
 kMkSl 1 1 #[.int .i64 0] [(0, v5)] h5 fun v6 h6 =>
 kOf (c 46 [v6] h6) fun v7 h7 =>
 kAny (aStr .add (.const (g3_3 t0)) (.const v7)) c h7 fun v8 h8 =>
 fShal v8 fun v9 =>
 p3_3 t0 v9 fun t1 =>
 some (.normal, t1, h8)
def SR28_10 : RegS 3 := fun c t0 h0 =>
 fShal (.int .i64 0) fun v1 =>
 p3_6 t0 v1 fun t1 =>
 some (.normal, t1, h0)
def SR28_11 : RegS 3 := fun c t0 h0 =>
 kNil (g3_0 t0) h0 fun v3 h3 =>
 kFld 2 v3 h3 fun v4 h4 =>
 kLd v4 h4 fun v5 h5 =>
 kLenSl v5 h5 fun v6 h6 =>
 kLss (g3_6 t0) v6 h6 fun v7 h7 =>
 p3_51 t0 v7 fun t1 =>
 some (.normal, t1, h7)
def SR28_13 : RegS 3 := fun c t0 h0 =>
 kOf (c 50 [(g3_0 t0), (g3_6 t0)] h0) fun v3 h3 =>
 fShal v3 fun v4 =>
 p3_7 t0 v4 fun t1 =>
 some (.normal, t1, h3)
def SR28_14 : RegS 3 := fun c t0 h0 =>
 kNil (g3_0 t0) h0 fun v2 h2 =>
 kFld 2 v2 h2 fun v3 h3 =>
 kLd v3 h3 fun v4 h4 =>
 kIdx 2 v4 (g3_6 t0) h4 fun v6 h6 =>
 kOf (vLdN 2 v6 h6) fun v7 h7 =>
 kNew [.int .i64 0, .int .i64 0] h7 fun v8 h8 =>
 p3_8 t0 v8 fun t1 =>
 kAny (aSt tO ro0 2 (.const v8) (.const v7)) c h8 fun _ h9 =>
 some (.normal, t1, h9)
def SR28_15 : RegS 3 := fun c t0 h0 =>
 kFld 0 (g3_8 t0) h0 fun v3 h3 =>
 kLd v3 h3 fun v4 h4 =>
 kSub (g3_7 t0) v4 h4 fun v5 h5 =>
 kOf (c 51 [v5] h5) fun v6 h6 =>
 kAny (aStr .add (.const (g3_3 t0)) (.const v6)) c h6 fun v7 h7 =>
 fShal v7 fun v8 =>
 p3_3 t0 v8 fun t1 =>
 some (.normal, t1, h7)
def SR28_16 : RegS 3 := fun c t0 h0 =>
 kFld 0 (g3_8 t0) h0 fun v2 h2 =>
 kLd v2 h2 fun v3 h3 =>
 kFld 1 (g3_8 t0) h3 fun v4 h4 =>
 kLd v4 h4 fun v5 h5 =>
 kSub v3 v5 h5 fun v6 h6 =>
 kOf (c 51 [v6] h6) fun v7 h7 =>
 kAny (aStr .add (.const (g3_3 t0)) (.const v7)) c h7 fun v8 h8 =>
 fShal v8 fun v9 =>
 p3_3 t0 v9 fun t1 =>
 some (.normal, t1, h8)
def SR28_12 : RegS 3 := fun c t0 h0 =>
 kAdd (g3_6 t0) (.int .i64 1) h0 fun v2 h2 =>
 fShal v2 fun v3 =>
 p3_6 t0 v3 fun t1 =>
 some (.normal, t1, h2)
def SR28_17 : RegS 3 := fun c t0 h0 =>
 fShal (g3_3 t0) fun v2 =>
 p3_2 t0 v2 fun t1 =>
 some (.normal, t1, h0)
def SW28_0 : CodeS 3 :=
 cSeqS (cSeqS (cRegS (SR28_5)) (cIfS g3_20 (cSkipS) (cExitS 0))) (cSeqS (cBlkS 1 (cSeqS (cRegS (SR28_7)) (cRegS (SR28_8)))) (cRegS (SR28_6)))
def SW28_1 : CodeS 3 :=
 cSeqS (cSeqS (cRegS (SR28_11)) (cIfS g3_51 (cSkipS) (cExitS 2))) (cSeqS (cBlkS 3 (cSeqS (cRegS (SR28_13)) (cSeqS (cRegS (SR28_14)) (cSeqS (cRegS (SR28_15)) (cRegS (SR28_16)))))) (cRegS (SR28_12)))
def SF28 : CodeS 3 :=
 cSeqS (cRegS (SR28_0)) (cSeqS (cSeqS (cRegS (SR28_1)) (cIfS g3_10 (cSeqS (cRegS (SR28_2)) (cRetS)) (cSkipS))) (cSeqS (cRegS (SR28_3)) (cSeqS (cSeqS (cRegS (SR28_4)) (cBlkS 0 (cLoopS (SW28_0)))) (cSeqS (cRegS (SR28_9)) (cSeqS (cSeqS (cRegS (SR28_10)) (cBlkS 2 (cLoopS (SW28_1)))) (cSeqS (cRegS (SR28_17)) (cRetS)))))))
def T28 : FnT := runG en3_1 (SF28) (resQ (qc (rT g3_2) qn))
theorem T28_ok : GoodF Tryz.prog ro0 okF 28 (T28) :=
 (good_k (n := 80) acc3 (lv [0, 2, 3, 4, 5, 6, 7, 8, 10, 20, 51]) (rs := [ResultVar.tmp 2]) Tryz.func28 (by kernel_rfl) (by kernel_rfl) (by kernel_rfl) (by kernel_rfl) (by kernel_rfl) (by kernel_rfl) (by kernel_rfl) (by kernel_rfl) (by kernel_rfl)).enter en3_1_ok (by kernel_rfl)

/-- circheck/circhecksays.same -/
def SR29_0 : RegS 3 := fun c t0 h0 =>
 fShal (.bool false) fun v1 =>
 p3_4 t0 v1 fun t1 =>
 some (.normal, t1, h0)
def SR29_1 : RegS 3 := fun c t0 h0 =>
 kNil (g3_0 t0) h0 fun v2 h2 =>
 kFld 0 v2 h2 fun v3 h3 =>
 kLd v3 h3 fun v4 h4 =>
 kNil (g3_1 t0) h4 fun v6 h6 =>
 kFld 0 v6 h6 fun v7 h7 =>
 kLd v7 h7 fun v8 h8 =>
 kNeq v4 v8 h8 fun v9 h9 =>
 kIf v9 false (fun k => k (g3_0 t0) h9) h9 fun v11 h11 =>
 kIf v9 false (fun k => kNil v11 h11 k) h11 fun v12 h12 =>
 kIf v9 false (fun k => kFld 7 v12 h12 k) h12 fun v13 h13 =>
 kIf v9 false (fun k => kLd v13 h13 k) h13 fun v14 h14 =>
 kIf v9 false (fun k => k (g3_1 t0) h14) h14 fun v15 h15 =>
 kIf v9 false (fun k => kNil v15 h15 k) h15 fun v16 h16 =>
 kIf v9 false (fun k => kFld 7 v16 h16 k) h16 fun v17 h17 =>
 kIf v9 false (fun k => kLd v17 h17 k) h17 fun v18 h18 =>
 kIf v9 false (fun k => kAny (aStr .neq (.const v14) (.const v18)) c h18 k) h18 fun v19 h19 =>
 kPick v9 (.bool true) v19 h19 fun v20 h20 =>
 kIf v20 false (fun k => k (g3_0 t0) h20) h20 fun v22 h22 =>
 kIf v20 false (fun k => kNil v22 h22 k) h22 fun v23 h23 =>
 kIf v20 false (fun k => kFld 4 v23 h23 k) h23 fun v24 h24 =>
 kIf v20 false (fun k => kLd v24 h24 k) h24 fun v25 h25 =>
 kIf v20 false (fun k => k (g3_1 t0) h25) h25 fun v26 h26 =>
 kIf v20 false (fun k => kNil v26 h26 k) h26 fun v27 h27 =>
 kIf v20 false (fun k => kFld 4 v27 h27 k) h27 fun v28 h28 =>
 kIf v20 false (fun k => kLd v28 h28 k) h28 fun v29 h29 =>
 kIf v20 false (fun k => kNeq v25 v29 h29 k) h29 fun v30 h30 =>
 kPick v20 (.bool true) v30 h30 fun v31 h31 =>
 kIf v31 false (fun k => k (g3_0 t0) h31) h31 fun v33 h33 =>
 kIf v31 false (fun k => kNil v33 h33 k) h33 fun v34 h34 =>
 kIf v31 false (fun k => kFld 6 v34 h34 k) h34 fun v35 h35 =>
 kIf v31 false (fun k => kLd v35 h35 k) h35 fun v36 h36 =>
 kIf v31 false (fun k => k (g3_1 t0) h36) h36 fun v37 h37 =>
 kIf v31 false (fun k => kNil v37 h37 k) h37 fun v38 h38 =>
 kIf v31 false (fun k => kFld 6 v38 h38 k) h38 fun v39 h39 =>
 kIf v31 false (fun k => kLd v39 h39 k) h39 fun v40 h40 =>
 kIf v31 false (fun k => kNeq v36 v40 h40 k) h40 fun v41 h41 =>
 kPick v31 (.bool true) v41 h41 fun v42 h42 =>
 kIf v42 false (fun k => k (g3_0 t0) h42) h42 fun v44 h44 =>
 kIf v42 false (fun k => kNil v44 h44 k) h44 fun v45 h45 =>
 kIf v42 false (fun k => kFld 3 v45 h45 k) h45 fun v46 h46 =>
 kIf v42 false (fun k => kLd v46 h46 k) h46 fun v47 h47 =>
 kIf v42 false (fun k => kLenSl v47 h47 k) h47 fun v48 h48 =>
 kIf v42 false (fun k => k (g3_1 t0) h48) h48 fun v49 h49 =>
 kIf v42 false (fun k => kNil v49 h49 k) h49 fun v50 h50 =>
 kIf v42 false (fun k => kFld 3 v50 h50 k) h50 fun v51 h51 =>
 kIf v42 false (fun k => kLd v51 h51 k) h51 fun v52 h52 =>
 kIf v42 false (fun k => kLenSl v52 h52 k) h52 fun v53 h53 =>
 kIf v42 false (fun k => kNeq v48 v53 h53 k) h53 fun v54 h54 =>
 kPick v42 (.bool true) v54 h54 fun v55 h55 =>
 p3_61 t0 v55 fun t1 =>
 some (.normal, t1, h55)
def SR29_2 : RegS 3 := fun c t0 h0 =>
 fShal (.bool false) fun v1 =>
 p3_4 t0 v1 fun t1 =>
 some (.normal, t1, h0)
def SR29_3 : RegS 3 := fun c t0 h0 =>
 fShal (.int .i64 0) fun v1 =>
 p3_5 t0 v1 fun t1 =>
 some (.normal, t1, h0)
def SR29_4 : RegS 3 := fun c t0 h0 =>
 kNil (g3_0 t0) h0 fun v3 h3 =>
 kFld 3 v3 h3 fun v4 h4 =>
 kLd v4 h4 fun v5 h5 =>
 kLenSl v5 h5 fun v6 h6 =>
 kLss (g3_5 t0) v6 h6 fun v7 h7 =>
 p3_68 t0 v7 fun t1 =>
 some (.normal, t1, h7)
def SR29_6 : RegS 3 := fun c t0 h0 =>
 kNil (g3_0 t0) h0 fun v2 h2 =>
 kFld 3 v2 h2 fun v3 h3 =>
 kLd v3 h3 fun v4 h4 =>
 kIdx 1 v4 (g3_5 t0) h4 fun v6 h6 =>
 kLd v6 h6 fun v7 h7 =>
 kNil (g3_1 t0) h7 fun v9 h9 =>
 kFld 3 v9 h9 fun v10 h10 =>
 kLd v10 h10 fun v11 h11 =>
 kIdx 1 v11 (g3_5 t0) h11 fun v13 h13 =>
 kLd v13 h13 fun v14 h14 =>
 kOf (c 52 [v7, v14] h14) fun v15 h15 =>
 fShal v15 fun v16 =>
 p3_6 t0 v16 fun t1 =>
 some (.normal, t1, h15)
def SR29_7 : RegS 3 := fun c t0 h0 =>
 kNot (g3_6 t0) h0 fun v2 h2 =>
 p3_87 t0 v2 fun t1 =>
 some (.normal, t1, h2)
def SR29_8 : RegS 3 := fun c t0 h0 =>
 fShal (.bool false) fun v1 =>
 p3_4 t0 v1 fun t1 =>
 some (.normal, t1, h0)
def SR29_5 : RegS 3 := fun c t0 h0 =>
 kAdd (g3_5 t0) (.int .i64 1) h0 fun v2 h2 =>
 fShal v2 fun v3 =>
 p3_5 t0 v3 fun t1 =>
 some (.normal, t1, h2)
def SR29_9 : RegS 3 := fun c t0 h0 =>
 kNil (g3_0 t0) h0 fun v2 h2 =>
 kFld 5 v2 h2 fun v3 h3 =>
 kLd v3 h3 fun v4 h4 =>
 kNil (g3_1 t0) h4 fun v6 h6 =>
 kFld 5 v6 h6 fun v7 h7 =>
 kLd v7 h7 fun v8 h8 =>
 kOf (c 52 [v4, v8] h8) fun v9 h9 =>
 fShal v9 fun v10 =>
 p3_4 t0 v10 fun t1 =>
 some (.normal, t1, h9)
def SW29_0 : CodeS 3 :=
 cSeqS (cSeqS (cRegS (SR29_4)) (cIfS g3_68 (cSkipS) (cExitS 0))) (cSeqS (cBlkS 1 (cSeqS (cRegS (SR29_6)) (cSeqS (cRegS (SR29_7)) (cIfS g3_87 (cSeqS (cRegS (SR29_8)) (cRetS)) (cSkipS))))) (cRegS (SR29_5)))
def SF29 : CodeS 3 :=
 cSeqS (cRegS (SR29_0)) (cSeqS (cSeqS (cRegS (SR29_1)) (cIfS g3_61 (cSeqS (cRegS (SR29_2)) (cRetS)) (cSkipS))) (cSeqS (cSeqS (cRegS (SR29_3)) (cBlkS 0 (cLoopS (SW29_0)))) (cSeqS (cRegS (SR29_9)) (cRetS))))
def T29 : FnT := runG en3_2 (SF29) (resQ (qc (rT g3_4) qn))
theorem T29_ok : GoodF Tryz.prog ro0 okF 29 (T29) :=
 (good_k (n := 97) acc3 (lv [0, 1, 4, 5, 6, 61, 68, 87]) (rs := [ResultVar.tmp 4]) Tryz.func29 (by kernel_rfl) (by kernel_rfl) (by kernel_rfl) (by kernel_rfl) (by kernel_rfl) (by kernel_rfl) (by kernel_rfl) (by kernel_rfl) (by kernel_rfl)).enter en3_2_ok (by kernel_rfl)

/-- circheck/circhecksays.line -/
def SR32_0 : RegS 2 := fun c t0 h0 =>
 fShal (.string { data := #[] }) fun v1 =>
 p2_2 t0 v1 fun t1 =>
 some (.normal, t1, h0)
def SR32_1 : RegS 2 := fun c t0 h0 =>
 fShal (.string { data := #[] }) fun v1 =>
 p2_3 t0 v1 fun t1 =>
 some (.normal, t1, h0)
def SR32_2 : RegS 2 := fun c t0 h0 =>
 fShal (.int .i64 0) fun v1 =>
 p2_4 t0 v1 fun t1 =>
 some (.normal, t1, h0)
def SR32_3 : RegS 2 := fun c t0 h0 =>
 kLenSl (g2_0 t0) h0 fun v3 h3 =>
 kLss (g2_4 t0) v3 h3 fun v4 h4 =>
 p2_9 t0 v4 fun t1 =>
 some (.normal, t1, h4)
def SR32_5 : RegS 2 := fun c t0 h0 =>
 kGtr (g2_4 t0) (.int .i64 0) h0 fun v2 h2 =>
 p2_13 t0 v2 fun t1 =>
 some (.normal, t1, h2)
def SR32_6 : RegS 2 := fun c t0 h0 =>
 kAny (aStr .add (.const (g2_3 t0)) (.const (.string { data := #[32] }))) c h0 fun v2 h2 =>
 fShal v2 fun v3 =>
 p2_3 t0 v3 fun t1 =>
 some (.normal, t1, h2)
def SR32_7 : RegS 2 := fun c t0 h0 =>
 kIdx 1 (g2_0 t0) (g2_4 t0) h0 fun v3 h3 =>
 kLd v3 h3 fun v4 h4 =>
 kOf (c 62 [v4] h4) fun v5 h5 =>
 fShal v5 fun v6 =>
 p2_5 t0 v6 fun t1 =>
 some (.normal, t1, h5)
def SR32_8 : RegS 2 := fun c t0 h0 =>
 kAny (aStr .add (.const (g2_3 t0)) (.const (g2_5 t0))) c h0 fun v3 h3 =>
 fShal v3 fun v4 =>
 p2_3 t0 v4 fun t1 =>
 some (.normal, t1, h3)
def SR32_4 : RegS 2 := fun c t0 h0 =>
 kAdd (g2_4 t0) (.int .i64 1) h0 fun v2 h2 =>
 fShal v2 fun v3 =>
 p2_4 t0 v3 fun t1 =>
 some (.normal, t1, h2)
def SR32_9 : RegS 2 := fun c t0 h0 =>
 kAny (aStr .add (.const (g2_3 t0)) (.const (.string { data := #[10] }))) c h0 fun v2 h2 =>
 fShal v2 fun v3 =>
 p2_2 t0 v3 fun t1 =>
 some (.normal, t1, h2)
def SW32_0 : CodeS 2 :=
 cSeqS (cSeqS (cRegS (SR32_3)) (cIfS g2_9 (cSkipS) (cExitS 0))) (cSeqS (cBlkS 1 (cSeqS (cSeqS (cRegS (SR32_5)) (cIfS g2_13 (cRegS (SR32_6)) (cSkipS))) (cSeqS (cRegS (SR32_7)) (cRegS (SR32_8))))) (cRegS (SR32_4)))
def SF32 : CodeS 2 :=
 cSeqS (cRegS (SR32_0)) (cSeqS (cRegS (SR32_1)) (cSeqS (cSeqS (cRegS (SR32_2)) (cBlkS 0 (cLoopS (SW32_0)))) (cSeqS (cRegS (SR32_9)) (cRetS))))
def T32 : FnT := runG en2_1 (SF32) (resQ (qc (rT g2_2) qn))
theorem T32_ok : GoodF Tryz.prog ro0 okF 32 (T32) :=
 (good_k (n := 26) acc2 (lv [0, 2, 3, 4, 5, 9, 13]) (rs := [ResultVar.tmp 2]) Tryz.func32 (by kernel_rfl) (by kernel_rfl) (by kernel_rfl) (by kernel_rfl) (by kernel_rfl) (by kernel_rfl) (by kernel_rfl) (by kernel_rfl) (by kernel_rfl)).enter en2_1_ok (by kernel_rfl)

/-- (*circheck/checker.reader).header -/
def SR33_0 : RegS 2 := fun c t0 h0 =>
 kNew [.bool false, .int .i64 0, .int .i64 0, .int .i64 0, .int .i64 0, .int .i64 0, .int .i64 0, .int .i64 0] h0 fun v1 h1 =>
 p2_2 t0 v1 fun t1 =>
 some (.normal, t1, h1)
def SR33_1 : RegS 2 := fun c t0 h0 =>
 kOf (c 63 [(g2_0 t0), (.int .i64 97)] h0) fun v2 h2 =>
 some (.normal, t0, h2)
def SR33_2 : RegS 2 := fun c t0 h0 =>
 kOf (c 64 [(g2_0 t0), (.int .i64 105)] h0) fun v2 h2 =>
 fShal v2 fun v3 =>
 p2_3 t0 v3 fun t1 =>
 some (.normal, t1, h2)
def SR33_3 : RegS 2 := fun c t0 h0 =>
 kNot (g2_3 t0) h0 fun v2 h2 =>
 p2_11 t0 v2 fun t1 =>
 some (.normal, t1, h2)
def SR33_4 : RegS 2 := fun c t0 h0 =>
 kOf (c 63 [(g2_0 t0), (.int .i64 97)] h0) fun v2 h2 =>
 some (.normal, t0, h2)
def SR33_5 : RegS 2 := fun c t0 h0 =>
 kOf (c 63 [(g2_0 t0), (.int .i64 103)] h0) fun v2 h2 =>
 some (.normal, t0, h2)
def SR33_6 : RegS 2 := fun c t0 h0 =>
 kNew [.int .i64 0, .int .i64 0, .int .i64 0, .int .i64 0, .int .i64 0, .int .i64 0, .int .i64 0, .int .i64 0, .int .i64 0] h0 fun v1 h1 =>
 p2_4 t0 v1 fun t1 =>
 some (.normal, t1, h1)
def SR33_7 : RegS 2 := fun c t0 h0 =>
 fShal (.int .i64 0) fun v1 =>
 p2_5 t0 v1 fun t1 =>
 some (.normal, t1, h0)
def SR33_8 : RegS 2 := fun c t0 h0 =>
 kLss (g2_5 t0) (.int .i64 9) h0 fun v2 h2 =>
 p2_17 t0 v2 fun t1 =>
 some (.normal, t1, h2)
def SR33_10 : RegS 2 := fun c t0 h0 =>
 kGeq (g2_5 t0) (.int .i64 5) h0 fun v2 h2 =>
 kIf v2 true (fun k => k (g2_0 t0) h2) h2 fun v4 h4 =>
 kIf v2 true (fun k => kOf (c 65 [v4] h4) k) h4 fun v5 h5 =>
 kIf v2 true (fun k => kNeq v5 (.int .i64 32) h5 k) h5 fun v6 h6 =>
 kPick v2 v6 (.bool false) h6 fun v7 h7 =>
 p2_26 t0 v7 fun t1 =>
 some (.normal, t1, h7)
def SR33_11 : RegS 2 := fun c t0 h0 =>
 kOf (c 63 [(g2_0 t0), (.int .i64 32)] h0) fun v2 h2 =>
 some (.normal, t0, h2)
def SR33_12 : RegS 2 := fun c t0 h0 =>
 kOf (c 66 [(g2_0 t0)] h0) fun v3 h3 =>
 kAny (aIdxArr 9 1 (.const (g2_4 t0)) (.const (g2_5 t0))) c h3 fun v4 h4 =>
 kSt ro0 v4 v3 h4 fun _ h5 =>
 some (.normal, t0, h5)
def SR33_9 : RegS 2 := fun c t0 h0 =>
 kAdd (g2_5 t0) (.int .i64 1) h0 fun v2 h2 =>
 fShal v2 fun v3 =>
 p2_5 t0 v3 fun t1 =>
 some (.normal, t1, h2)
def SR33_13 : RegS 2 := fun c t0 h0 =>
 kOf (c 63 [(g2_0 t0), (.int .i64 10)] h0) fun v2 h2 =>
 some (.normal, t0, h2)
def SR33_14 : RegS 2 := fun c t0 h0 =>
 kAny (aIdxArr 9 1 (.const (g2_4 t0)) (.const (.int .i64 0))) c h0 fun v2 h2 =>
 kLd v2 h2 fun v3 h3 =>
 kAny (aIdxArr 9 1 (.const (g2_4 t0)) (.const (.int .i64 1))) c h3 fun v4 h4 =>
 kLd v4 h4 fun v5 h5 =>
 kAny (aIdxArr 9 1 (.const (g2_4 t0)) (.const (.int .i64 2))) c h5 fun v6 h6 =>
 kLd v6 h6 fun v7 h7 =>
 kAny (aIdxArr 9 1 (.const (g2_4 t0)) (.const (.int .i64 3))) c h7 fun v8 h8 =>
 kLd v8 h8 fun v9 h9 =>
 kAny (aIdxArr 9 1 (.const (g2_4 t0)) (.const (.int .i64 4))) c h9 fun v10 h10 =>
 kLd v10 h10 fun v11 h11 =>
 kAny (aIdxArr 9 1 (.const (g2_4 t0)) (.const (.int .i64 5))) c h11 fun v12 h12 =>
 kLd v12 h12 fun v13 h13 =>
 kAny (aIdxArr 9 1 (.const (g2_4 t0)) (.const (.int .i64 6))) c h13 fun v14 h14 =>
 kLd v14 h14 fun v15 h15 =>
 kAny (aIdxArr 9 1 (.const (g2_4 t0)) (.const (.int .i64 7))) c h15 fun v16 h16 =>
 kLd v16 h16 fun v17 h17 =>
 kAdd v15 v17 h17 fun v18 h18 =>
 kAny (aIdxArr 9 1 (.const (g2_4 t0)) (.const (.int .i64 8))) c h18 fun v19 h19 =>
 kLd v19 h19 fun v20 h20 =>
 kAdd v18 v20 h20 fun v21 h21 =>
 kBuild #[.bool false, .int .i64 0, .int .i64 0, .int .i64 0, .int .i64 0, .int .i64 0, .int .i64 0, .int .i64 0] [(0, 1), (1, 1), (2, 1), (3, 1), (4, 1), (5, 1), (6, 1), (7, 1)] [(0, (g2_3 t0)), (1, v3), (2, v5), (3, v7), (4, v9), (5, v11), (6, v13), (7, v21)] h21 fun v22 h22 =>
 kAny (aSt tO ro0 8 (.const (g2_2 t0)) (.const v22)) c h22 fun _ h23 =>
 some (.normal, t0, h23)
def SW33_0 : CodeS 2 :=
 cSeqS (cSeqS (cRegS (SR33_8)) (cIfS g2_17 (cSkipS) (cExitS 0))) (cSeqS (cBlkS 1 (cSeqS (cSeqS (cRegS (SR33_10)) (cIfS g2_26 (cExitS 0) (cSkipS))) (cSeqS (cRegS (SR33_11)) (cRegS (SR33_12))))) (cRegS (SR33_9)))
def SF33 : CodeS 2 :=
 cSeqS (cRegS (SR33_0)) (cSeqS (cRegS (SR33_1)) (cSeqS (cRegS (SR33_2)) (cSeqS (cSeqS (cRegS (SR33_3)) (cIfS g2_11 (cRegS (SR33_4)) (cSkipS))) (cSeqS (cRegS (SR33_5)) (cSeqS (cRegS (SR33_6)) (cSeqS (cSeqS (cRegS (SR33_7)) (cBlkS 0 (cLoopS (SW33_0)))) (cSeqS (cRegS (SR33_13)) (cSeqS (cRegS (SR33_14)) (cRetS)))))))))
def T33 : FnT := runG en2_1 (SF33) (resQ (qc (rN 8 g2_2) qn))
theorem T33_ok : GoodF Tryz.prog ro0 okF 33 (T33) :=
 (good_k (n := 57) acc2 (lv [0, 2, 3, 4, 5, 11, 17, 26]) (rs := [ResultVar.cell 2 73]) Tryz.func33 (by kernel_rfl) (by kernel_rfl) (by kernel_rfl) (by kernel_rfl) (by kernel_rfl) (by kernel_rfl) (by kernel_rfl) (by kernel_rfl) (by kernel_rfl)).enter en2_1_ok (by kernel_rfl)

/-- (circheck/checker.header).judge -/
def SR34_0 : RegS 3 := fun c t0 h0 =>
 kBox (g3_0 t0) h0 fun v1 h1 =>
 p3_2 t0 v1 fun t1 =>
 some (.normal, t1, h1)
def SR34_1 : RegS 3 := fun c t0 h0 =>
 kFld 1 (g3_2 t0) h0 fun v1 h1 =>
 kLd v1 h1 fun v2 h2 =>
 kGtr v2 (.int .i64 80) h2 fun v3 h3 =>
 kIf v3 false (fun k => kFld 2 (g3_2 t0) h3 k) h3 fun v5 h5 =>
 kIf v3 false (fun k => kLd v5 h5 k) h5 fun v6 h6 =>
 kIf v3 false (fun k => kGtr v6 (.int .i64 4) h6 k) h6 fun v7 h7 =>
 kPick v3 (.bool true) v7 h7 fun v8 h8 =>
 kIf v8 false (fun k => kFld 3 (g3_2 t0) h8 k) h8 fun v10 h10 =>
 kIf v8 false (fun k => kLd v10 h10 k) h10 fun v11 h11 =>
 kIf v8 false (fun k => kGtr v11 (.int .i64 6) h11 k) h11 fun v12 h12 =>
 kPick v8 (.bool true) v12 h12 fun v13 h13 =>
 kIf v13 false (fun k => kFld 4 (g3_2 t0) h13 k) h13 fun v15 h15 =>
 kIf v13 false (fun k => kLd v15 h15 k) h15 fun v16 h16 =>
 kIf v13 false (fun k => kGtr v16 (.int .i64 4) h16 k) h16 fun v17 h17 =>
 kPick v13 (.bool true) v17 h17 fun v18 h18 =>
 kIf v18 false (fun k => kFld 5 (g3_2 t0) h18 k) h18 fun v20 h20 =>
 kIf v18 false (fun k => kLd v20 h20 k) h20 fun v21 h21 =>
 kIf v18 false (fun k => kGtr v21 (.int .i64 60) h21 k) h21 fun v22 h22 =>
 kPick v18 (.bool true) v22 h22 fun v23 h23 =>
 p3_27 t0 v23 fun t1 =>
 some (.normal, t1, h23)
def SR34_2 : RegS 3 := fun c t0 h0 =>
 kOf (c 67 [(g3_1 t0), (.int .i64 3), (.int .i64 0)] h0) fun v2 h2 =>
 some (.normal, t0, h2)
def SR34_3 : RegS 3 := fun c t0 h0 =>
 kFld 2 (g3_2 t0) h0 fun v1 h1 =>
 kLd v1 h1 fun v2 h2 =>
 kFld 3 (g3_2 t0) h2 fun v3 h3 =>
 kLd v3 h3 fun v4 h4 =>
 kAdd v2 v4 h4 fun v5 h5 =>
 kFld 5 (g3_2 t0) h5 fun v6 h6 =>
 kLd v6 h6 fun v7 h7 =>
 kAdd v5 v7 h7 fun v8 h8 =>
 fShal v8 fun v9 =>
 p3_4 t0 v9 fun t1 =>
 some (.normal, t1, h8)
def SR34_4 : RegS 3 := fun c t0 h0 =>
 kFld 1 (g3_2 t0) h0 fun v2 h2 =>
 kLd v2 h2 fun v3 h3 =>
 kGtr (g3_4 t0) v3 h3 fun v4 h4 =>
 kIf v4 false (fun k => kFld 0 (g3_2 t0) h4 k) h4 fun v6 h6 =>
 kIf v4 false (fun k => kLd v6 h6 k) h6 fun v7 h7 =>
 kIf v4 false (fun k => k v7 h7) h7 fun v8 h8 =>
 kIf v8 true (fun k => k (g3_4 t0) h8) h8 fun v9 h9 =>
 kIf v8 true (fun k => kFld 1 (g3_2 t0) h9 k) h9 fun v10 h10 =>
 kIf v8 true (fun k => kLd v10 h10 k) h10 fun v11 h11 =>
 kIf v8 true (fun k => kNeq v9 v11 h11 k) h11 fun v12 h12 =>
 kIf v4 false (fun k => kPick v8 v12 (.bool false) h12 k) h12 fun v13 h13 =>
 kPick v4 (.bool true) v13 h13 fun v14 h14 =>
 p3_51 t0 v14 fun t1 =>
 some (.normal, t1, h14)
def SR34_5 : RegS 3 := fun c t0 h0 =>
 kOf (c 67 [(g3_1 t0), (.int .i64 4), (.int .i64 0)] h0) fun v2 h2 =>
 some (.normal, t0, h2)
def SR34_6 : RegS 3 := fun c t0 h0 =>
 kFld 7 (g3_2 t0) h0 fun v1 h1 =>
 kLd v1 h1 fun v2 h2 =>
 kNeq v2 (.int .i64 0) h2 fun v3 h3 =>
 p3_56 t0 v3 fun t1 =>
 some (.normal, t1, h3)
def SR34_7 : RegS 3 := fun c t0 h0 =>
 kOf (c 67 [(g3_1 t0), (.int .i64 5), (.int .i64 0)] h0) fun v2 h2 =>
 some (.normal, t0, h2)
def SR34_8 : RegS 3 := fun c t0 h0 =>
 kFld 6 (g3_2 t0) h0 fun v1 h1 =>
 kLd v1 h1 fun v2 h2 =>
 kGtr v2 (.int .i64 1) h2 fun v3 h3 =>
 kIf v3 false (fun k => kFld 6 (g3_2 t0) h3 k) h3 fun v5 h5 =>
 kIf v3 false (fun k => kLd v5 h5 k) h5 fun v6 h6 =>
 kIf v3 false (fun k => kEql v6 (.int .i64 0) h6 k) h6 fun v7 h7 =>
 kIf v3 false (fun k => k v7 h7) h7 fun v8 h8 =>
 kIf v8 true (fun k => kFld 4 (g3_2 t0) h8 k) h8 fun v9 h9 =>
 kIf v8 true (fun k => kLd v9 h9 k) h9 fun v10 h10 =>
 kIf v8 true (fun k => kNeq v10 (.int .i64 1) h10 k) h10 fun v11 h11 =>
 kIf v3 false (fun k => kPick v8 v11 (.bool false) h11 k) h11 fun v12 h12 =>
 kPick v3 (.bool true) v12 h12 fun v13 h13 =>
 p3_71 t0 v13 fun t1 =>
 some (.normal, t1, h13)
def SR34_9 : RegS 3 := fun c t0 h0 =>
 kOf (c 67 [(g3_1 t0), (.int .i64 6), (.int .i64 0)] h0) fun v2 h2 =>
 some (.normal, t0, h2)
def SF34 : CodeS 3 :=
 cSeqS (cRegS (SR34_0)) (cSeqS (cSeqS (cRegS (SR34_1)) (cIfS g3_27 (cRegS (SR34_2)) (cSkipS))) (cSeqS (cRegS (SR34_3)) (cSeqS (cSeqS (cRegS (SR34_4)) (cIfS g3_51 (cRegS (SR34_5)) (cSkipS))) (cSeqS (cSeqS (cRegS (SR34_6)) (cIfS g3_56 (cRegS (SR34_7)) (cSkipS))) (cSeqS (cRegS (SR34_8)) (cIfS g3_71 (cRegS (SR34_9)) (cSkipS)))))))
def T34 : FnT := runG en3_2 (SF34) (resQ qn)
theorem T34_ok : GoodF Tryz.prog ro0 okF 34 (T34) :=
 (good_k (n := 74) acc3 (lv [0, 1, 2, 4, 27, 51, 56, 71]) (rs := []) Tryz.func34 (by kernel_rfl) (by kernel_rfl) (by kernel_rfl) (by kernel_rfl) (by kernel_rfl) (by kernel_rfl) (by kernel_rfl) (by kernel_rfl) (by kernel_rfl)).enter en3_2_ok (by kernel_rfl)

/-- (*circheck/checker.reader).failed -/
def SR35_0 : RegS 2 := fun c t0 h0 =>
 fShal (.bool false) fun v1 =>
 p2_2 t0 v1 fun t1 =>
 some (.normal, t1, h0)
def SR35_1 : RegS 2 := fun c t0 h0 =>
 kNil (g2_0 t0) h0 fun v2 h2 =>
 kFld 2 v2 h2 fun v3 h3 =>
 kFld 0 v3 h3 fun v4 h4 =>
 kLd v4 h4 fun v5 h5 =>
 kNeq v5 (.int .i64 0) h5 fun v6 h6 =>
 fShal v6 fun v7 =>
 p2_2 t0 v7 fun t1 =>
 some (.normal, t1, h6)
def SF35 : CodeS 2 :=
 cSeqS (cRegS (SR35_0)) (cSeqS (cRegS (SR35_1)) (cRetS))
def T35 : FnT := runG en2_1 (SF35) (resQ (qc (rT g2_2) qn))
theorem T35_ok : GoodF Tryz.prog ro0 okF 35 (T35) :=
 (good_k (n := 9) acc2 (lv [0, 2]) (rs := [ResultVar.tmp 2]) Tryz.func35 (by kernel_rfl) (by kernel_rfl) (by kernel_rfl) (by kernel_rfl) (by kernel_rfl) (by kernel_rfl) (by kernel_rfl) (by kernel_rfl) (by kernel_rfl)).enter en2_1_ok (by kernel_rfl)

/-- circheck/checker.newNetlist -/
def SR36_0 : RegS 2 := fun c t0 h0 =>
 fShal (.pointer none) fun v1 =>
 p2_2 t0 v1 fun t1 =>
 some (.normal, t1, h0)
def SR36_1 : RegS 2 := fun c t0 h0 =>
 kBuild #[.slice none 0 0, .slice none 0 0, .slice none 0 0, .slice none 0 0, .slice none 0 0, .slice none 0 0] [(0, 1), (1, 1), (2, 1), (3, 1), (4, 1), (5, 1)] [] h0 fun v1 h1 =>
 kBox v1 h1 fun v2 h2 =>
 fShal v2 fun v3 =>
 p2_3 t0 v3 fun t1 =>
 some (.normal, t1, h2)
def SR36_2 : RegS 2 := fun c t0 h0 =>
 fShal (.int .i64 0) fun v1 =>
 p2_4 t0 v1 fun t1 =>
 some (.normal, t1, h0)
def SR36_3 : RegS 2 := fun c t0 h0 =>
 kLeq (g2_4 t0) (g2_0 t0) h0 fun v3 h3 =>
 p2_9 t0 v3 fun t1 =>
 some (.normal, t1, h3)
def SR36_5 : RegS 2 := fun c t0 h0 =>
 kNil (g2_3 t0) h0 fun v3 h3 =>
 kFld 0 v3 h3 fun v4 h4 =>
 kLd v4 h4 fun v5 h5 =>
 kEql (g2_4 t0) (.int .i64 0) h5 fun v7 h7 =>
 kMkSl 1 1 #[.bool false] [(0, v7)] h7 fun v8 h8 =>
 kOf (vApp ro0 1 1 v5 v8 h8) fun v9 h9 =>
 kNil (g2_3 t0) h9 fun v10 h10 =>
 kFld 0 v10 h10 fun v11 h11 =>
 kSt ro0 v11 v9 h11 fun _ h12 =>
 some (.normal, t0, h12)
def SR36_4 : RegS 2 := fun c t0 h0 =>
 kAdd (g2_4 t0) (.int .i64 1) h0 fun v2 h2 =>
 fShal v2 fun v3 =>
 p2_4 t0 v3 fun t1 =>
 some (.normal, t1, h2)
def SR36_6 : RegS 2 := fun c t0 h0 =>
 fShal (g2_3 t0) fun v2 =>
 p2_2 t0 v2 fun t1 =>
 some (.normal, t1, h0)
def SW36_0 : CodeS 2 :=
 cSeqS (cSeqS (cRegS (SR36_3)) (cIfS g2_9 (cSkipS) (cExitS 0))) (cSeqS (cBlkS 1 (cRegS (SR36_5))) (cRegS (SR36_4)))
def SF36 : CodeS 2 :=
 cSeqS (cRegS (SR36_0)) (cSeqS (cRegS (SR36_1)) (cSeqS (cSeqS (cRegS (SR36_2)) (cBlkS 0 (cLoopS (SW36_0)))) (cSeqS (cRegS (SR36_6)) (cRetS))))
def T36 : FnT := runG en2_1 (SF36) (resQ (qc (rT g2_2) qn))
theorem T36_ok : GoodF Tryz.prog ro0 okF 36 (T36) :=
 (good_k (n := 24) acc2 (lv [0, 2, 3, 4, 9]) (rs := [ResultVar.tmp 2]) Tryz.func36 (by kernel_rfl) (by kernel_rfl) (by kernel_rfl) (by kernel_rfl) (by kernel_rfl) (by kernel_rfl) (by kernel_rfl) (by kernel_rfl) (by kernel_rfl)).enter en2_1_ok (by kernel_rfl)

/-- (*circheck/checker.netlist).readBinary -/
def SR37_0 : RegS 3 := fun c t0 h0 =>
 kBox (g3_2 t0) h0 fun v1 h1 =>
 p3_5 t0 v1 fun t1 =>
 some (.normal, t1, h1)
def SR37_1 : RegS 3 := fun c t0 h0 =>
 fShal (.int .i64 0) fun v1 =>
 p3_6 t0 v1 fun t1 =>
 some (.normal, t1, h0)
def SR37_2 : RegS 3 := fun c t0 h0 =>
 kFld 2 (g3_5 t0) h0 fun v2 h2 =>
 kLd v2 h2 fun v3 h3 =>
 kLss (g3_6 t0) v3 h3 fun v4 h4 =>
 p3_14 t0 v4 fun t1 =>
 some (.normal, t1, h4)
def SR37_4 : RegS 3 := fun c t0 h0 =>
 kAdd (.int .i64 1) (g3_6 t0) h0 fun v2 h2 =>
 kOf (vInt .mul (.int .i64 2) v2 h2) fun v3 h3 =>
 fShal v3 fun v4 =>
 p3_7 t0 v4 fun t1 =>
 some (.normal, t1, h3)
def SR37_5 : RegS 3 := fun c t0 h0 =>
 kOf (c 68 [(g3_0 t0), (g3_7 t0)] h0) fun v3 h3 =>
 some (.normal, t0, h3)
def SR37_6 : RegS 3 := fun c t0 h0 =>
 kNil (g3_0 t0) h0 fun v3 h3 =>
 kFld 1 v3 h3 fun v4 h4 =>
 kLd v4 h4 fun v5 h5 =>
 kMkSl 1 1 #[.int .i64 0] [(0, (g3_7 t0))] h5 fun v7 h7 =>
 kOf (vApp ro0 1 8 v5 v7 h7) fun v8 h8 =>
 kNil (g3_0 t0) h8 fun v9 h9 =>
 kFld 1 v9 h9 fun v10 h10 =>
 kSt ro0 v10 v8 h10 fun _ h11 =>
 some (.normal, t0, h11)
def SR37_3 : RegS 3 := fun c t0 h0 =>
 kAdd (g3_6 t0) (.int .i64 1) h0 fun v2 h2 =>
 fShal v2 fun v3 =>
 p3_6 t0 v3 fun t1 =>
 some (.normal, t1, h2)
def SR37_7 : RegS 3 := fun c t0 h0 =>
 fShal (.int .i64 0) fun v1 =>
 p3_8 t0 v1 fun t1 =>
 some (.normal, t1, h0)
def SR37_8 : RegS 3 := fun c t0 h0 =>
 kFld 3 (g3_5 t0) h0 fun v2 h2 =>
 kLd v2 h2 fun v3 h3 =>
 kLss (g3_8 t0) v3 h3 fun v4 h4 =>
 p3_36 t0 v4 fun t1 =>
 some (.normal, t1, h4)
def SR37_10 : RegS 3 := fun c t0 h0 =>
 kFld 2 (g3_5 t0) h0 fun v1 h1 =>
 kLd v1 h1 fun v2 h2 =>
 kAdd (.int .i64 1) v2 h2 fun v3 h3 =>
 kAdd v3 (g3_8 t0) h3 fun v5 h5 =>
 kOf (vInt .mul (.int .i64 2) v5 h5) fun v6 h6 =>
 fShal v6 fun v7 =>
 p3_9 t0 v7 fun t1 =>
 some (.normal, t1, h6)
def SR37_11 : RegS 3 := fun c t0 h0 =>
 kOf (c 68 [(g3_0 t0), (g3_9 t0)] h0) fun v3 h3 =>
 some (.normal, t0, h3)
def SR37_12 : RegS 3 := fun c t0 h0 =>
 kOf (c 69 [(g3_0 t0), (g3_1 t0), (g3_9 t0)] h0) fun v4 h4 =>
 some (.normal, t0, h4)
def SR37_9 : RegS 3 := fun c t0 h0 =>
 kAdd (g3_8 t0) (.int .i64 1) h0 fun v2 h2 =>
 fShal v2 fun v3 =>
 p3_8 t0 v3 fun t1 =>
 some (.normal, t1, h2)
def SR37_13 : RegS 3 := fun c t0 h0 =>
 kFld 4 (g3_5 t0) h0 fun v4 h4 =>
 kLd v4 h4 fun v5 h5 =>
 kOf (c 70 [(g3_0 t0), (g3_1 t0), v5] h5) fun v6 h6 =>
 kNil (g3_0 t0) h6 fun v7 h7 =>
 kFld 3 v7 h7 fun v8 h8 =>
 kSt ro0 v8 v6 h8 fun _ h9 =>
 some (.normal, t0, h9)
def SR37_14 : RegS 3 := fun c t0 h0 =>
 kFld 6 (g3_5 t0) h0 fun v4 h4 =>
 kLd v4 h4 fun v5 h5 =>
 kOf (c 70 [(g3_0 t0), (g3_1 t0), v5] h5) fun v6 h6 =>
 kNil (g3_0 t0) h6 fun v7 h7 =>
 kFld 4 v7 h7 fun v8 h8 =>
 kSt ro0 v8 v6 h8 fun _ h9 =>
 some (.normal, t0, h9)
def SR37_15 : RegS 3 := fun c t0 h0 =>
 fShal (.int .i64 0) fun v1 =>
 p3_10 t0 v1 fun t1 =>
 some (.normal, t1, h0)
def SR37_16 : RegS 3 := fun c t0 h0 =>
 kFld 5 (g3_5 t0) h0 fun v2 h2 =>
 kLd v2 h2 fun v3 h3 =>
 kLss (g3_10 t0) v3 h3 fun v4 h4 =>
 p3_71 t0 v4 fun t1 =>
 some (.normal, t1, h4)
def SR37_18 : RegS 3 := fun c t0 h0 =>
 kFld 2 (g3_5 t0) h0 fun v3 h3 =>
 kLd v3 h3 fun v4 h4 =>
 kAdd (.int .i64 1) v4 h4 fun v5 h5 =>
 kFld 3 (g3_5 t0) h5 fun v6 h6 =>
 kLd v6 h6 fun v7 h7 =>
 kAdd v5 v7 h7 fun v8 h8 =>
 kAdd v8 (g3_10 t0) h8 fun v10 h10 =>
 kOf (vInt .mul (.int .i64 2) v10 h10) fun v11 h11 =>
 kOf (c 71 [(g3_0 t0), (g3_1 t0), v11] h11) fun v12 h12 =>
 some (.normal, t0, h12)
def SR37_17 : RegS 3 := fun c t0 h0 =>
 kAdd (g3_10 t0) (.int .i64 1) h0 fun v2 h2 =>
 fShal v2 fun v3 =>
 p3_10 t0 v3 fun t1 =>
 some (.normal, t1, h2)
def SW37_0 : CodeS 3 :=
 cSeqS (cSeqS (cRegS (SR37_2)) (cIfS g3_14 (cSkipS) (cExitS 0))) (cSeqS (cBlkS 1 (cSeqS (cRegS (SR37_4)) (cSeqS (cRegS (SR37_5)) (cRegS (SR37_6))))) (cRegS (SR37_3)))
def SW37_1 : CodeS 3 :=
 cSeqS (cSeqS (cRegS (SR37_8)) (cIfS g3_36 (cSkipS) (cExitS 2))) (cSeqS (cBlkS 3 (cSeqS (cRegS (SR37_10)) (cSeqS (cRegS (SR37_11)) (cRegS (SR37_12))))) (cRegS (SR37_9)))
def SW37_2 : CodeS 3 :=
 cSeqS (cSeqS (cRegS (SR37_16)) (cIfS g3_71 (cSkipS) (cExitS 4))) (cSeqS (cBlkS 5 (cRegS (SR37_18))) (cRegS (SR37_17)))
def SF37 : CodeS 3 :=
 cSeqS (cRegS (SR37_0)) (cSeqS (cSeqS (cRegS (SR37_1)) (cBlkS 0 (cLoopS (SW37_0)))) (cSeqS (cSeqS (cRegS (SR37_7)) (cBlkS 2 (cLoopS (SW37_1)))) (cSeqS (cRegS (SR37_13)) (cSeqS (cRegS (SR37_14)) (cSeqS (cRegS (SR37_15)) (cBlkS 4 (cLoopS (SW37_2))))))))
def T37 : FnT := runG en3_3 (SF37) (resQ qn)
theorem T37_ok : GoodF Tryz.prog ro0 okF 37 (T37) :=
 (good_k (n := 86) acc3 (lv [0, 1, 2, 5, 6, 7, 8, 9, 10, 14, 36, 71]) (rs := []) Tryz.func37 (by kernel_rfl) (by kernel_rfl) (by kernel_rfl) (by kernel_rfl) (by kernel_rfl) (by kernel_rfl) (by kernel_rfl) (by kernel_rfl) (by kernel_rfl)).enter en3_3_ok (by kernel_rfl)

/-- (*circheck/checker.netlist).readPlain -/
def SR38_0 : RegS 3 := fun c t0 h0 =>
 kBox (g3_2 t0) h0 fun v1 h1 =>
 p3_5 t0 v1 fun t1 =>
 some (.normal, t1, h1)
def SR38_1 : RegS 3 := fun c t0 h0 =>
 fShal (.int .i64 0) fun v1 =>
 p3_6 t0 v1 fun t1 =>
 some (.normal, t1, h0)
def SR38_2 : RegS 3 := fun c t0 h0 =>
 kFld 2 (g3_5 t0) h0 fun v2 h2 =>
 kLd v2 h2 fun v3 h3 =>
 kLss (g3_6 t0) v3 h3 fun v4 h4 =>
 p3_14 t0 v4 fun t1 =>
 some (.normal, t1, h4)
def SR38_4 : RegS 3 := fun c t0 h0 =>
 kOf (c 72 [(g3_0 t0), (g3_1 t0)] h0) fun v3 h3 =>
 kNew [.int .i64 0, .int .i64 0] h3 fun v4 h4 =>
 p3_7 t0 v4 fun t1 =>
 kAny (aSt tO ro0 2 (.const v4) (.const v3)) c h4 fun _ h5 =>
 some (.normal, t1, h5)
def SR38_5 : RegS 3 := fun c t0 h0 =>
 kOf (c 63 [(g3_1 t0), (.int .i64 10)] h0) fun v2 h2 =>
 some (.normal, t0, h2)
def SR38_6 : RegS 3 := fun c t0 h0 =>
 kNil (g3_0 t0) h0 fun v3 h3 =>
 kFld 1 v3 h3 fun v4 h4 =>
 kLd v4 h4 fun v5 h5 =>
 kFld 0 (g3_7 t0) h5 fun v6 h6 =>
 kLd v6 h6 fun v7 h7 =>
 kMkSl 1 1 #[.int .i64 0] [(0, v7)] h7 fun v8 h8 =>
 kOf (vApp ro0 1 8 v5 v8 h8) fun v9 h9 =>
 kNil (g3_0 t0) h9 fun v10 h10 =>
 kFld 1 v10 h10 fun v11 h11 =>
 kSt ro0 v11 v9 h11 fun _ h12 =>
 some (.normal, t0, h12)
def SR38_3 : RegS 3 := fun c t0 h0 =>
 kAdd (g3_6 t0) (.int .i64 1) h0 fun v2 h2 =>
 fShal v2 fun v3 =>
 p3_6 t0 v3 fun t1 =>
 some (.normal, t1, h2)
def SR38_7 : RegS 3 := fun c t0 h0 =>
 fShal (.int .i64 0) fun v1 =>
 p3_8 t0 v1 fun t1 =>
 some (.normal, t1, h0)
def SR38_8 : RegS 3 := fun c t0 h0 =>
 kFld 3 (g3_5 t0) h0 fun v2 h2 =>
 kLd v2 h2 fun v3 h3 =>
 kLss (g3_8 t0) v3 h3 fun v4 h4 =>
 p3_36 t0 v4 fun t1 =>
 some (.normal, t1, h4)
def SR38_10 : RegS 3 := fun c t0 h0 =>
 kOf (c 72 [(g3_0 t0), (g3_1 t0)] h0) fun v3 h3 =>
 kNew [.int .i64 0, .int .i64 0] h3 fun v4 h4 =>
 p3_9 t0 v4 fun t1 =>
 kAny (aSt tO ro0 2 (.const v4) (.const v3)) c h4 fun _ h5 =>
 some (.normal, t1, h5)
def SR38_11 : RegS 3 := fun c t0 h0 =>
 kOf (c 63 [(g3_1 t0), (.int .i64 32)] h0) fun v2 h2 =>
 some (.normal, t0, h2)
def SR38_12 : RegS 3 := fun c t0 h0 =>
 kFld 0 (g3_9 t0) h0 fun v3 h3 =>
 kLd v3 h3 fun v4 h4 =>
 kOf (c 69 [(g3_0 t0), (g3_1 t0), v4] h4) fun v5 h5 =>
 some (.normal, t0, h5)
def SR38_9 : RegS 3 := fun c t0 h0 =>
 kAdd (g3_8 t0) (.int .i64 1) h0 fun v2 h2 =>
 fShal v2 fun v3 =>
 p3_8 t0 v3 fun t1 =>
 some (.normal, t1, h2)
def SR38_13 : RegS 3 := fun c t0 h0 =>
 kFld 4 (g3_5 t0) h0 fun v4 h4 =>
 kLd v4 h4 fun v5 h5 =>
 kOf (c 70 [(g3_0 t0), (g3_1 t0), v5] h5) fun v6 h6 =>
 kNil (g3_0 t0) h6 fun v7 h7 =>
 kFld 3 v7 h7 fun v8 h8 =>
 kSt ro0 v8 v6 h8 fun _ h9 =>
 some (.normal, t0, h9)
def SR38_14 : RegS 3 := fun c t0 h0 =>
 kFld 6 (g3_5 t0) h0 fun v4 h4 =>
 kLd v4 h4 fun v5 h5 =>
 kOf (c 70 [(g3_0 t0), (g3_1 t0), v5] h5) fun v6 h6 =>
 kNil (g3_0 t0) h6 fun v7 h7 =>
 kFld 4 v7 h7 fun v8 h8 =>
 kSt ro0 v8 v6 h8 fun _ h9 =>
 some (.normal, t0, h9)
def SR38_15 : RegS 3 := fun c t0 h0 =>
 fShal (.int .i64 0) fun v1 =>
 p3_10 t0 v1 fun t1 =>
 some (.normal, t1, h0)
def SR38_16 : RegS 3 := fun c t0 h0 =>
 kFld 5 (g3_5 t0) h0 fun v2 h2 =>
 kLd v2 h2 fun v3 h3 =>
 kLss (g3_10 t0) v3 h3 fun v4 h4 =>
 p3_68 t0 v4 fun t1 =>
 some (.normal, t1, h4)
def SR38_18 : RegS 3 := fun c t0 h0 =>
 kOf (c 73 [(g3_0 t0), (g3_1 t0)] h0) fun v3 h3 =>
 some (.normal, t0, h3)
def SR38_17 : RegS 3 := fun c t0 h0 =>
 kAdd (g3_10 t0) (.int .i64 1) h0 fun v2 h2 =>
 fShal v2 fun v3 =>
 p3_10 t0 v3 fun t1 =>
 some (.normal, t1, h2)
def SW38_0 : CodeS 3 :=
 cSeqS (cSeqS (cRegS (SR38_2)) (cIfS g3_14 (cSkipS) (cExitS 0))) (cSeqS (cBlkS 1 (cSeqS (cRegS (SR38_4)) (cSeqS (cRegS (SR38_5)) (cRegS (SR38_6))))) (cRegS (SR38_3)))
def SW38_1 : CodeS 3 :=
 cSeqS (cSeqS (cRegS (SR38_8)) (cIfS g3_36 (cSkipS) (cExitS 2))) (cSeqS (cBlkS 3 (cSeqS (cRegS (SR38_10)) (cSeqS (cRegS (SR38_11)) (cRegS (SR38_12))))) (cRegS (SR38_9)))
def SW38_2 : CodeS 3 :=
 cSeqS (cSeqS (cRegS (SR38_16)) (cIfS g3_68 (cSkipS) (cExitS 4))) (cSeqS (cBlkS 5 (cRegS (SR38_18))) (cRegS (SR38_17)))
def SF38 : CodeS 3 :=
 cSeqS (cRegS (SR38_0)) (cSeqS (cSeqS (cRegS (SR38_1)) (cBlkS 0 (cLoopS (SW38_0)))) (cSeqS (cSeqS (cRegS (SR38_7)) (cBlkS 2 (cLoopS (SW38_1)))) (cSeqS (cRegS (SR38_13)) (cSeqS (cRegS (SR38_14)) (cSeqS (cRegS (SR38_15)) (cBlkS 4 (cLoopS (SW38_2))))))))
def T38 : FnT := runG en3_3 (SF38) (resQ qn)
theorem T38_ok : GoodF Tryz.prog ro0 okF 38 (T38) :=
 (good_k (n := 74) acc3 (lv [0, 1, 2, 5, 6, 7, 8, 9, 10, 14, 36, 68]) (rs := []) Tryz.func38 (by kernel_rfl) (by kernel_rfl) (by kernel_rfl) (by kernel_rfl) (by kernel_rfl) (by kernel_rfl) (by kernel_rfl) (by kernel_rfl) (by kernel_rfl)).enter en3_3_ok (by kernel_rfl)

/-- (*circheck/checker.reader).symbols -/
def SR39_0 : RegS 2 := fun c t0 h0 =>
 kBox (g2_1 t0) h0 fun v1 h1 =>
 p2_3 t0 v1 fun t1 =>
 some (.normal, t1, h1)
def SR39_1 : RegS 2 := fun c t0 h0 =>
 kNil (g2_0 t0) h0 fun v2 h2 =>
 kFld 1 v2 h2 fun v3 h3 =>
 kLd v3 h3 fun v4 h4 =>
 kNil (g2_0 t0) h4 fun v6 h6 =>
 kFld 0 v6 h6 fun v7 h7 =>
 kLd v7 h7 fun v8 h8 =>
 kLenStr v8 h8 fun v9 h9 =>
 kLss v4 v9 h9 fun v10 h10 =>
 kIf v10 true (fun k => k (g2_0 t0) h10) h10 fun v12 h12 =>
 kIf v10 true (fun k => kOf (c 35 [v12] h12) k) h12 fun v13 h13 =>
 kIf v10 true (fun k => kNot v13 h13 k) h13 fun v14 h14 =>
 kPick v10 v14 (.bool false) h14 fun v15 h15 =>
 p2_18 t0 v15 fun t1 =>
 some (.normal, t1, h15)
def SR39_2 : RegS 2 := fun c t0 h0 =>
 kOf (c 64 [(g2_0 t0), (.int .i64 99)] h0) fun v2 h2 =>
 p2_20 t0 v2 fun t1 =>
 some (.normal, t1, h2)
def SR39_3 : RegS 2 := fun c t0 h0 =>
 kOf (c 63 [(g2_0 t0), (.int .i64 10)] h0) fun v2 h2 =>
 some (.normal, t0, h2)
def SR39_4 : RegS 2 := fun c t0 h0 =>
 kOf (vLdN 8 (g2_3 t0) h0) fun v2 h2 =>
 kOf (c 74 [(g2_0 t0), v2] h2) fun v3 h3 =>
 some (.normal, t0, h3)
def SW39_0 : CodeS 2 :=
 cSeqS (cSeqS (cRegS (SR39_1)) (cIfS g2_18 (cSkipS) (cExitS 0))) (cBlkS 1 (cSeqS (cSeqS (cRegS (SR39_2)) (cIfS g2_20 (cSeqS (cRegS (SR39_3)) (cRetS)) (cSkipS))) (cRegS (SR39_4))))
def SF39 : CodeS 2 :=
 cSeqS (cRegS (SR39_0)) (cBlkS 0 (cLoopS (SW39_0)))
def T39 : FnT := runG en2_2 (SF39) (resQ qn)
theorem T39_ok : GoodF Tryz.prog ro0 okF 39 (T39) :=
 (good_k (n := 26) acc2 (lv [0, 1, 3, 18, 20]) (rs := []) Tryz.func39 (by kernel_rfl) (by kernel_rfl) (by kernel_rfl) (by kernel_rfl) (by kernel_rfl) (by kernel_rfl) (by kernel_rfl) (by kernel_rfl) (by kernel_rfl)).enter en2_2_ok (by kernel_rfl)
end Go.Proofs.YtimdkminagnhgabGreatDoor
