/-
  The program itself for the kernel, function by function. Printed by program; the kernel checks each. Own work.
-/
import Derived.Test.YtimdkminagnhgabGreatDoorLsA
namespace Go.Proofs.YtimdkminagnhgabGreatDoor
open Go.Vm Go.Proofs
set_option linter.unusedVariables false
set_option maxRecDepth 100000

/-- math/bits.TrailingZeros32 -/
def SR209_0 : RegS 2 := fun c t0 h0 =>
 fShal (.int .i64 0) fun v1 =>
 p2_2 t0 v1 fun t1 =>
 some (.normal, t1, h0)
def SR209_1 : RegS 2 := fun c t0 h0 =>
 kEql (g2_0 t0) (.int .u32 0) h0 fun v2 h2 =>
 p2_4 t0 v2 fun t1 =>
 some (.normal, t1, h2)
def SR209_2 : RegS 2 := fun c t0 h0 =>
 fShal (.int .i64 32) fun v1 =>
 p2_2 t0 v1 fun t1 =>
 some (.normal, t1, h0)
def SR209_3 : RegS 2 := fun c t0 h0 =>
 kAny (aUn .neg (.const (g2_0 t0))) c h0 fun v3 h3 =>
 kOf (vInt .and (g2_0 t0) v3 h3) fun v4 h4 =>
 kOf (vInt .mul v4 (.int .u32 125613361) h4) fun v5 h5 =>
 kAny (aShift .shr (.const v5) (.const (.int .u64 27))) c h5 fun v6 h6 =>
 kAny (aIdxArr 32 1 (.const (.pointer (some ⟨1, 0, none⟩))) (.const v6)) c h6 fun v7 h7 =>
 kLd v7 h7 fun v8 h8 =>
 kConv v8 h8 fun v9 h9 =>
 fShal v9 fun v10 =>
 p2_2 t0 v10 fun t1 =>
 some (.normal, t1, h9)
def SF209 : CodeS 2 :=
 cSeqS (cRegS (SR209_0)) (cSeqS (cSeqS (cRegS (SR209_1)) (cIfS g2_4 (cSeqS (cRegS (SR209_2)) (cRetS)) (cSkipS))) (cSeqS (cRegS (SR209_3)) (cRetS)))
def T209 : FnT := runG en2_1 (SF209) (resQ (qc (rT g2_2) qn))
theorem T209_ok : GoodF Tryz.prog ro0 okF 209 (T209) :=
 (good_k (n := 14) acc2 (lv [0, 2, 4]) (rs := [ResultVar.tmp 2]) Tryz.func209 (by kernel_rfl) (by kernel_rfl) (by kernel_rfl) (by kernel_rfl) (by kernel_rfl) (by kernel_rfl) (by kernel_rfl) (by kernel_rfl) (by kernel_rfl)).enter en2_1_ok (by kernel_rfl)

/-- math/bits.TrailingZeros64 -/
def SR210_0 : RegS 2 := fun c t0 h0 =>
 fShal (.int .i64 0) fun v1 =>
 p2_2 t0 v1 fun t1 =>
 some (.normal, t1, h0)
def SR210_1 : RegS 2 := fun c t0 h0 =>
 kEql (g2_0 t0) (.int .u64 0) h0 fun v2 h2 =>
 p2_4 t0 v2 fun t1 =>
 some (.normal, t1, h2)
def SR210_2 : RegS 2 := fun c t0 h0 =>
 fShal (.int .i64 64) fun v1 =>
 p2_2 t0 v1 fun t1 =>
 some (.normal, t1, h0)
def SR210_3 : RegS 2 := fun c t0 h0 =>
 kAny (aUn .neg (.const (g2_0 t0))) c h0 fun v3 h3 =>
 kOf (vInt .and (g2_0 t0) v3 h3) fun v4 h4 =>
 kOf (vInt .mul v4 (.int .u64 285870213051353865) h4) fun v5 h5 =>
 kAny (aShift .shr (.const v5) (.const (.int .u64 58))) c h5 fun v6 h6 =>
 kAny (aIdxArr 64 1 (.const (.pointer (some ⟨2, 0, none⟩))) (.const v6)) c h6 fun v7 h7 =>
 kLd v7 h7 fun v8 h8 =>
 kConv v8 h8 fun v9 h9 =>
 fShal v9 fun v10 =>
 p2_2 t0 v10 fun t1 =>
 some (.normal, t1, h9)
def SF210 : CodeS 2 :=
 cSeqS (cRegS (SR210_0)) (cSeqS (cSeqS (cRegS (SR210_1)) (cIfS g2_4 (cSeqS (cRegS (SR210_2)) (cRetS)) (cSkipS))) (cSeqS (cRegS (SR210_3)) (cRetS)))
def T210 : FnT := runG en2_1 (SF210) (resQ (qc (rT g2_2) qn))
theorem T210_ok : GoodF Tryz.prog ro0 okF 210 (T210) :=
 (good_k (n := 14) acc2 (lv [0, 2, 4]) (rs := [ResultVar.tmp 2]) Tryz.func210 (by kernel_rfl) (by kernel_rfl) (by kernel_rfl) (by kernel_rfl) (by kernel_rfl) (by kernel_rfl) (by kernel_rfl) (by kernel_rfl) (by kernel_rfl)).enter en2_1_ok (by kernel_rfl)

/-- (*circheck/checker.search).attach -/
def SR212_0 : RegS 2 := fun c t0 h0 =>
 kBox (g2_1 t0) h0 fun v1 h1 =>
 p2_3 t0 v1 fun t1 =>
 some (.normal, t1, h1)
def SR212_1 : RegS 2 := fun c t0 h0 =>
 kNil (g2_0 t0) h0 fun v3 h3 =>
 kFld 1 v3 h3 fun v4 h4 =>
 kLd v4 h4 fun v5 h5 =>
 kOf (vLdN 4 (g2_3 t0) h5) fun v6 h6 =>
 kMkSl 4 1 #[.slice none 0 0, .int .i64 0, .int .i64 0, .int .i64 0] [(0, v6)] h6 fun v7 h7 =>
 kOf (vApp ro0 4 48 v5 v7 h7) fun v8 h8 =>
 kNil (g2_0 t0) h8 fun v9 h9 =>
 kFld 1 v9 h9 fun v10 h10 =>
 kSt ro0 v10 v8 h10 fun _ h11 =>
 some (.normal, t0, h11)
def SR212_2 : RegS 2 := fun c t0 h0 =>
 kNil (g2_0 t0) h0 fun v3 h3 =>
 kFld 1 v3 h3 fun v4 h4 =>
 kLd v4 h4 fun v5 h5 =>
 kLenSl v5 h5 fun v6 h6 =>
 kSub v6 (.int .i64 1) h6 fun v7 h7 =>
 kOf (c 220 [(g2_0 t0), v7] h7) fun v8 h8 =>
 some (.normal, t0, h8)
def SF212 : CodeS 2 :=
 cSeqS (cRegS (SR212_0)) (cSeqS (cRegS (SR212_1)) (cRegS (SR212_2)))
def T212 : FnT := runG en2_2 (SF212) (resQ qn)
theorem T212_ok : GoodF Tryz.prog ro0 okF 212 (T212) :=
 (good_k (n := 22) acc2 (lv [0, 1, 3]) (rs := []) Tryz.func212 (by kernel_rfl) (by kernel_rfl) (by kernel_rfl) (by kernel_rfl) (by kernel_rfl) (by kernel_rfl) (by kernel_rfl) (by kernel_rfl) (by kernel_rfl)).enter en2_2_ok (by kernel_rfl)

/-- (*circheck/checker.search).set -/
def SR213_0 : RegS 2 := fun c t0 h0 =>
 kAny (aShift .shr (.const (g2_1 t0)) (.const (.int .u64 1))) c h0 fun v2 h2 =>
 fShal v2 fun v3 =>
 p2_6 t0 v3 fun t1 =>
 some (.normal, t1, h2)
def SR213_1 : RegS 2 := fun c t0 h0 =>
 kNil (g2_0 t0) h0 fun v2 h2 =>
 kFld 5 v2 h2 fun v3 h3 =>
 kLd v3 h3 fun v4 h4 =>
 kIdx 1 v4 (g2_1 t0) h4 fun v6 h6 =>
 kSt ro0 v6 (.bool true) h6 fun _ h7 =>
 some (.normal, t0, h7)
def SR213_2 : RegS 2 := fun c t0 h0 =>
 kNil (g2_0 t0) h0 fun v2 h2 =>
 kFld 6 v2 h2 fun v3 h3 =>
 kLd v3 h3 fun v4 h4 =>
 kNil (g2_0 t0) h4 fun v7 h7 =>
 kFld 8 v7 h7 fun v8 h8 =>
 kLd v8 h8 fun v9 h9 =>
 kLenSl v9 h9 fun v10 h10 =>
 kIdx 5 v4 (g2_6 t0) h10 fun v11 h11 =>
 kFld 0 v11 h11 fun v12 h12 =>
 kSt ro0 v12 v10 h12 fun _ h13 =>
 some (.normal, t0, h13)
def SR213_3 : RegS 2 := fun c t0 h0 =>
 kNil (g2_0 t0) h0 fun v2 h2 =>
 kFld 6 v2 h2 fun v3 h3 =>
 kLd v3 h3 fun v4 h4 =>
 kIdx 5 v4 (g2_6 t0) h4 fun v7 h7 =>
 kFld 1 v7 h7 fun v8 h8 =>
 kSt ro0 v8 (g2_2 t0) h8 fun _ h9 =>
 some (.normal, t0, h9)
def SR213_4 : RegS 2 := fun c t0 h0 =>
 kNil (g2_0 t0) h0 fun v2 h2 =>
 kFld 6 v2 h2 fun v3 h3 =>
 kLd v3 h3 fun v4 h4 =>
 kOf (vInt .and (g2_1 t0) (.int .i64 1) h4) fun v7 h7 =>
 kEql v7 (.int .i64 0) h7 fun v8 h8 =>
 kIdx 5 v4 (g2_6 t0) h8 fun v9 h9 =>
 kFld 4 v9 h9 fun v10 h10 =>
 kSt ro0 v10 v8 h10 fun _ h11 =>
 some (.normal, t0, h11)
def SR213_5 : RegS 2 := fun c t0 h0 =>
 kNil (g2_0 t0) h0 fun v3 h3 =>
 kFld 7 v3 h3 fun v4 h4 =>
 kLd v4 h4 fun v5 h5 =>
 kMkSl 1 1 #[.int .i64 0] [(0, (g2_1 t0))] h5 fun v7 h7 =>
 kOf (vApp ro0 1 8 v5 v7 h7) fun v8 h8 =>
 kNil (g2_0 t0) h8 fun v9 h9 =>
 kFld 7 v9 h9 fun v10 h10 =>
 kSt ro0 v10 v8 h10 fun _ h11 =>
 some (.normal, t0, h11)
def SF213 : CodeS 2 :=
 cSeqS (cRegS (SR213_0)) (cSeqS (cRegS (SR213_1)) (cSeqS (cRegS (SR213_2)) (cSeqS (cRegS (SR213_3)) (cSeqS (cRegS (SR213_4)) (cRegS (SR213_5))))))
def T213 : FnT := runG en2_3 (SF213) (resQ qn)
theorem T213_ok : GoodF Tryz.prog ro0 okF 213 (T213) :=
 (good_k (n := 55) acc2 (lv [0, 1, 2, 6]) (rs := []) Tryz.func213 (by kernel_rfl) (by kernel_rfl) (by kernel_rfl) (by kernel_rfl) (by kernel_rfl) (by kernel_rfl) (by kernel_rfl) (by kernel_rfl) (by kernel_rfl)).enter en2_3_ok (by kernel_rfl)

/-- (*circheck/checker.search).visit -/
def SR214_0 : RegS 3 := fun c t0 h0 =>
 fShal (.int .i64 0) fun v1 =>
 p3_4 t0 v1 fun t1 =>
 some (.normal, t1, h0)
def SR214_1 : RegS 3 := fun c t0 h0 =>
 kNil (g3_0 t0) h0 fun v2 h2 =>
 kFld 4 v2 h2 fun v3 h3 =>
 kLd v3 h3 fun v4 h4 =>
 kIdx 1 v4 (g3_1 t0) h4 fun v6 h6 =>
 kLd v6 h6 fun v7 h7 =>
 fShal v7 fun v8 =>
 p3_5 t0 v8 fun t1 =>
 some (.normal, t1, h7)
def SR214_2 : RegS 3 := fun c t0 h0 =>
 fShal (.int .i64 (-1)) fun v1 =>
 p3_6 t0 v1 fun t1 =>
 some (.normal, t1, h0)
def SR214_3 : RegS 3 := fun c t0 h0 =>
 fShal (.int .i64 0) fun v1 =>
 p3_7 t0 v1 fun t1 =>
 some (.normal, t1, h0)
def SR214_4 : RegS 3 := fun c t0 h0 =>
 fShal (.int .i64 0) fun v1 =>
 p3_8 t0 v1 fun t1 =>
 some (.normal, t1, h0)
def SR214_5 : RegS 3 := fun c t0 h0 =>
 kLenSl (g3_5 t0) h0 fun v3 h3 =>
 kLss (g3_8 t0) v3 h3 fun v4 h4 =>
 p3_22 t0 v4 fun t1 =>
 some (.normal, t1, h4)
def SR214_7 : RegS 3 := fun c t0 h0 =>
 kIdx 1 (g3_5 t0) (g3_8 t0) h0 fun v3 h3 =>
 kLd v3 h3 fun v4 h4 =>
 fShal v4 fun v5 =>
 p3_9 t0 v5 fun t1 =>
 some (.normal, t1, h4)
def SR214_8 : RegS 3 := fun c t0 h0 =>
 kOf (c 221 [(g3_0 t0), (g3_9 t0), (g3_1 t0)] h0) fun v4 h4 =>
 fShal v4 fun v5 =>
 p3_10 t0 v5 fun t1 =>
 some (.normal, t1, h4)
def SR214_9 : RegS 3 := fun c t0 h0 =>
 fShal (g3_10 t0) fun v1 =>
 p3_33 t0 v1 fun t1 =>
 some (.normal, t1, h0)
def SR214_10 : RegS 3 := fun c t0 h0 =>
 kIdx 1 (g3_5 t0) (g3_7 t0) h0 fun v4 h4 =>
 kSt ro0 v4 (g3_9 t0) h4 fun _ h5 =>
 some (.normal, t0, h5)
def SR214_11 : RegS 3 := fun c t0 h0 =>
 kAdd (g3_7 t0) (.int .i64 1) h0 fun v2 h2 =>
 fShal v2 fun v3 =>
 p3_7 t0 v3 fun t1 =>
 some (.normal, t1, h2)
def SR214_12 : RegS 3 := fun c t0 h0 =>
 kNil (g3_0 t0) h0 fun v2 h2 =>
 kFld 1 v2 h2 fun v3 h3 =>
 kLd v3 h3 fun v4 h4 =>
 kIdx 4 v4 (g3_9 t0) h4 fun v6 h6 =>
 kFld 1 v6 h6 fun v7 h7 =>
 kLd v7 h7 fun v8 h8 =>
 fShal v8 fun v9 =>
 p3_11 t0 v9 fun t1 =>
 some (.normal, t1, h8)
def SR214_13 : RegS 3 := fun c t0 h0 =>
 kNil (g3_0 t0) h0 fun v2 h2 =>
 kFld 5 v2 h2 fun v3 h3 =>
 kLd v3 h3 fun v4 h4 =>
 kOf (vInt .xor (g3_11 t0) (.int .i64 1) h4) fun v6 h6 =>
 kIdx 1 v4 v6 h6 fun v7 h7 =>
 kLd v7 h7 fun v8 h8 =>
 p3_55 t0 v8 fun t1 =>
 some (.normal, t1, h8)
def SR214_14 : RegS 3 := fun c t0 h0 =>
 fShal (g3_9 t0) fun v2 =>
 p3_6 t0 v2 fun t1 =>
 some (.normal, t1, h0)
def SR214_15 : RegS 3 := fun c t0 h0 =>
 kNil (g3_0 t0) h0 fun v2 h2 =>
 kFld 5 v2 h2 fun v3 h3 =>
 kLd v3 h3 fun v4 h4 =>
 kIdx 1 v4 (g3_11 t0) h4 fun v6 h6 =>
 kLd v6 h6 fun v7 h7 =>
 kNot v7 h7 fun v8 h8 =>
 p3_64 t0 v8 fun t1 =>
 some (.normal, t1, h8)
def SR214_16 : RegS 3 := fun c t0 h0 =>
 kOf (c 213 [(g3_0 t0), (g3_11 t0), (g3_9 t0)] h0) fun v4 h4 =>
 some (.normal, t0, h4)
def SR214_6 : RegS 3 := fun c t0 h0 =>
 kAdd (g3_8 t0) (.int .i64 1) h0 fun v2 h2 =>
 fShal v2 fun v3 =>
 p3_8 t0 v3 fun t1 =>
 some (.normal, t1, h2)
def SR214_17 : RegS 3 := fun c t0 h0 =>
 kNil (g3_0 t0) h0 fun v2 h2 =>
 kFld 4 v2 h2 fun v3 h3 =>
 kLd v3 h3 fun v4 h4 =>
 kAny (aSliceSl 1 (.const (g3_5 t0)) none (some (.const (g3_7 t0)))) c h4 fun v8 h8 =>
 kIdx 1 v4 (g3_1 t0) h8 fun v9 h9 =>
 kSt ro0 v9 v8 h9 fun _ h10 =>
 some (.normal, t0, h10)
def SR214_18 : RegS 3 := fun c t0 h0 =>
 fShal (g3_6 t0) fun v2 =>
 p3_4 t0 v2 fun t1 =>
 some (.normal, t1, h0)
def SW214_0 : CodeS 3 :=
 cSeqS (cSeqS (cRegS (SR214_5)) (cIfS g3_22 (cSkipS) (cExitS 0))) (cSeqS (cBlkS 1 (cSeqS (cRegS (SR214_7)) (cSeqS (cRegS (SR214_8)) (cSeqS (cSeqS (cRegS (SR214_9)) (cIfS g3_33 (cExitS 1) (cSkipS))) (cSeqS (cRegS (SR214_10)) (cSeqS (cRegS (SR214_11)) (cSeqS (cRegS (SR214_12)) (cSeqS (cRegS (SR214_13)) (cIfS g3_55 (cRegS (SR214_14)) (cSeqS (cRegS (SR214_15)) (cIfS g3_64 (cRegS (SR214_16)) (cSkipS)))))))))))) (cRegS (SR214_6)))
def SF214 : CodeS 3 :=
 cSeqS (cRegS (SR214_0)) (cSeqS (cRegS (SR214_1)) (cSeqS (cRegS (SR214_2)) (cSeqS (cRegS (SR214_3)) (cSeqS (cSeqS (cRegS (SR214_4)) (cBlkS 0 (cLoopS (SW214_0)))) (cSeqS (cRegS (SR214_17)) (cSeqS (cRegS (SR214_18)) (cRetS)))))))
def T214 : FnT := runG en3_2 (SF214) (resQ (qc (rT g3_4) qn))
theorem T214_ok : GoodF Tryz.prog ro0 okF 214 (T214) :=
 (good_k (n := 79) acc3 (lv [0, 1, 4, 5, 6, 7, 8, 9, 10, 11, 22, 33, 55, 64]) (rs := [ResultVar.tmp 4]) Tryz.func214 (by kernel_rfl) (by kernel_rfl) (by kernel_rfl) (by kernel_rfl) (by kernel_rfl) (by kernel_rfl) (by kernel_rfl) (by kernel_rfl) (by kernel_rfl)).enter en3_2_ok (by kernel_rfl)

/-- (*circheck/checker.search).assume -/
def SR215_0 : RegS 2 := fun c t0 h0 =>
 fShal (.int .i64 0) fun v1 =>
 p2_4 t0 v1 fun t1 =>
 some (.normal, t1, h0)
def SR215_1 : RegS 2 := fun c t0 h0 =>
 kNil (g2_0 t0) h0 fun v2 h2 =>
 kFld 5 v2 h2 fun v3 h3 =>
 kLd v3 h3 fun v4 h4 =>
 kOf (vInt .xor (g2_1 t0) (.int .i64 1) h4) fun v6 h6 =>
 kIdx 1 v4 v6 h6 fun v7 h7 =>
 kLd v7 h7 fun v8 h8 =>
 p2_12 t0 v8 fun t1 =>
 some (.normal, t1, h8)
def SR215_2 : RegS 2 := fun c t0 h0 =>
 kMkSl 1 1 #[.int .i64 0] [(0, (g2_1 t0))] h0 fun v3 h3 =>
 kOf (c 217 [(g2_0 t0), v3] h3) fun v4 h4 =>
 some (.normal, t0, h4)
def SR215_3 : RegS 2 := fun c t0 h0 =>
 kNil (g2_0 t0) h0 fun v3 h3 =>
 kFld 12 v3 h3 fun v4 h4 =>
 kLd v4 h4 fun v5 h5 =>
 kMkSl 1 1 #[.int .i64 0] [(0, (g2_1 t0))] h5 fun v7 h7 =>
 kOf (vApp ro0 1 8 v5 v7 h7) fun v8 h8 =>
 kNil (g2_0 t0) h8 fun v9 h9 =>
 kFld 12 v9 h9 fun v10 h10 =>
 kSt ro0 v10 v8 h10 fun _ h11 =>
 some (.normal, t0, h11)
def SR215_4 : RegS 2 := fun c t0 h0 =>
 fShal (.int .i64 2) fun v1 =>
 p2_4 t0 v1 fun t1 =>
 some (.normal, t1, h0)
def SR215_5 : RegS 2 := fun c t0 h0 =>
 kNil (g2_0 t0) h0 fun v3 h3 =>
 kFld 8 v3 h3 fun v4 h4 =>
 kLd v4 h4 fun v5 h5 =>
 kNil (g2_0 t0) h5 fun v7 h7 =>
 kFld 7 v7 h7 fun v8 h8 =>
 kLd v8 h8 fun v9 h9 =>
 kLenSl v9 h9 fun v10 h10 =>
 kMkSl 1 1 #[.int .i64 0] [(0, v10)] h10 fun v11 h11 =>
 kOf (vApp ro0 1 8 v5 v11 h11) fun v12 h12 =>
 kNil (g2_0 t0) h12 fun v13 h13 =>
 kFld 8 v13 h13 fun v14 h14 =>
 kSt ro0 v14 v12 h14 fun _ h15 =>
 some (.normal, t0, h15)
def SR215_6 : RegS 2 := fun c t0 h0 =>
 kNil (g2_0 t0) h0 fun v2 h2 =>
 kFld 5 v2 h2 fun v3 h3 =>
 kLd v3 h3 fun v4 h4 =>
 kIdx 1 v4 (g2_1 t0) h4 fun v6 h6 =>
 kLd v6 h6 fun v7 h7 =>
 kNot v7 h7 fun v8 h8 =>
 p2_48 t0 v8 fun t1 =>
 some (.normal, t1, h8)
def SR215_7 : RegS 2 := fun c t0 h0 =>
 kOf (c 213 [(g2_0 t0), (g2_1 t0), (.int .i64 (-1))] h0) fun v3 h3 =>
 some (.normal, t0, h3)
def SR215_8 : RegS 2 := fun c t0 h0 =>
 fShal (.int .i64 0) fun v1 =>
 p2_4 t0 v1 fun t1 =>
 some (.normal, t1, h0)
def SF215 : CodeS 2 :=
 cSeqS (cRegS (SR215_0)) (cSeqS (cSeqS (cRegS (SR215_1)) (cIfS g2_12 (cSeqS (cRegS (SR215_2)) (cSeqS (cRegS (SR215_3)) (cSeqS (cRegS (SR215_4)) (cRetS)))) (cSkipS))) (cSeqS (cRegS (SR215_5)) (cSeqS (cSeqS (cRegS (SR215_6)) (cIfS g2_48 (cRegS (SR215_7)) (cSkipS))) (cSeqS (cRegS (SR215_8)) (cRetS)))))
def T215 : FnT := runG en2_2 (SF215) (resQ (qc (rT g2_4) qn))
theorem T215_ok : GoodF Tryz.prog ro0 okF 215 (T215) :=
 (good_k (n := 52) acc2 (lv [0, 1, 4, 12, 48]) (rs := [ResultVar.tmp 4]) Tryz.func215 (by kernel_rfl) (by kernel_rfl) (by kernel_rfl) (by kernel_rfl) (by kernel_rfl) (by kernel_rfl) (by kernel_rfl) (by kernel_rfl) (by kernel_rfl)).enter en2_2_ok (by kernel_rfl)

/-- (*circheck/checker.search).heaviest -/
def SR216_0 : RegS 2 := fun c t0 h0 =>
 fShal (.int .i64 0) fun v1 =>
 p2_2 t0 v1 fun t1 =>
 some (.normal, t1, h0)
def SR216_1 : RegS 2 := fun c t0 h0 =>
 fShal (.int .i64 (-1)) fun v1 =>
 p2_3 t0 v1 fun t1 =>
 some (.normal, t1, h0)
def SR216_2 : RegS 2 := fun c t0 h0 =>
 fShal (.int .i64 0) fun v1 =>
 p2_4 t0 v1 fun t1 =>
 some (.normal, t1, h0)
def SR216_3 : RegS 2 := fun c t0 h0 =>
 kNil (g2_0 t0) h0 fun v3 h3 =>
 kFld 6 v3 h3 fun v4 h4 =>
 kLd v4 h4 fun v5 h5 =>
 kLenSl v5 h5 fun v6 h6 =>
 kLss (g2_4 t0) v6 h6 fun v7 h7 =>
 p2_11 t0 v7 fun t1 =>
 some (.normal, t1, h7)
def SR216_5 : RegS 2 := fun c t0 h0 =>
 kNil (g2_0 t0) h0 fun v2 h2 =>
 kFld 5 v2 h2 fun v3 h3 =>
 kLd v3 h3 fun v4 h4 =>
 kOf (vInt .mul (.int .i64 2) (g2_4 t0) h4) fun v6 h6 =>
 kIdx 1 v4 v6 h6 fun v7 h7 =>
 kLd v7 h7 fun v8 h8 =>
 kIf v8 false (fun k => k (g2_0 t0) h8) h8 fun v10 h10 =>
 kIf v8 false (fun k => kNil v10 h10 k) h10 fun v11 h11 =>
 kIf v8 false (fun k => kFld 5 v11 h11 k) h11 fun v12 h12 =>
 kIf v8 false (fun k => kLd v12 h12 k) h12 fun v13 h13 =>
 kIf v8 false (fun k => k (g2_4 t0) h13) h13 fun v14 h14 =>
 kIf v8 false (fun k => kOf (vInt .mul (.int .i64 2) v14 h14) k) h14 fun v15 h15 =>
 kIf v8 false (fun k => kAdd v15 (.int .i64 1) h15 k) h15 fun v16 h16 =>
 kIf v8 false (fun k => kIdx 1 v13 v16 h16 k) h16 fun v17 h17 =>
 kIf v8 false (fun k => kLd v17 h17 k) h17 fun v18 h18 =>
 kPick v8 (.bool true) v18 h18 fun v19 h19 =>
 p2_32 t0 v19 fun t1 =>
 some (.normal, t1, h19)
def SR216_6 : RegS 2 := fun c t0 h0 =>
 kEql (g2_3 t0) (.int .i64 (-1)) h0 fun v2 h2 =>
 kIf v2 false (fun k => k (g2_0 t0) h2) h2 fun v4 h4 =>
 kIf v2 false (fun k => kNil v4 h4 k) h4 fun v5 h5 =>
 kIf v2 false (fun k => kFld 6 v5 h5 k) h5 fun v6 h6 =>
 kIf v2 false (fun k => kLd v6 h6 k) h6 fun v7 h7 =>
 kIf v2 false (fun k => k (g2_4 t0) h7) h7 fun v8 h8 =>
 kIf v2 false (fun k => kIdx 5 v7 v8 h8 k) h8 fun v9 h9 =>
 kIf v2 false (fun k => kFld 3 v9 h9 k) h9 fun v10 h10 =>
 kIf v2 false (fun k => kLd v10 h10 k) h10 fun v11 h11 =>
 kIf v2 false (fun k => k (g2_0 t0) h11) h11 fun v12 h12 =>
 kIf v2 false (fun k => kNil v12 h12 k) h12 fun v13 h13 =>
 kIf v2 false (fun k => kFld 6 v13 h13 k) h13 fun v14 h14 =>
 kIf v2 false (fun k => kLd v14 h14 k) h14 fun v15 h15 =>
 kIf v2 false (fun k => k (g2_3 t0) h15) h15 fun v16 h16 =>
 kIf v2 false (fun k => kIdx 5 v15 v16 h16 k) h16 fun v17 h17 =>
 kIf v2 false (fun k => kFld 3 v17 h17 k) h17 fun v18 h18 =>
 kIf v2 false (fun k => kLd v18 h18 k) h18 fun v19 h19 =>
 kIf v2 false (fun k => kGtr v11 v19 h19 k) h19 fun v20 h20 =>
 kPick v2 (.bool true) v20 h20 fun v21 h21 =>
 p2_53 t0 v21 fun t1 =>
 some (.normal, t1, h21)
def SR216_7 : RegS 2 := fun c t0 h0 =>
 fShal (g2_4 t0) fun v2 =>
 p2_3 t0 v2 fun t1 =>
 some (.normal, t1, h0)
def SR216_4 : RegS 2 := fun c t0 h0 =>
 kAdd (g2_4 t0) (.int .i64 1) h0 fun v2 h2 =>
 fShal v2 fun v3 =>
 p2_4 t0 v3 fun t1 =>
 some (.normal, t1, h2)
def SR216_8 : RegS 2 := fun c t0 h0 =>
 fShal (g2_3 t0) fun v2 =>
 p2_2 t0 v2 fun t1 =>
 some (.normal, t1, h0)
def SW216_0 : CodeS 2 :=
 cSeqS (cSeqS (cRegS (SR216_3)) (cIfS g2_11 (cSkipS) (cExitS 0))) (cSeqS (cBlkS 1 (cSeqS (cSeqS (cRegS (SR216_5)) (cIfS g2_32 (cExitS 1) (cSkipS))) (cSeqS (cRegS (SR216_6)) (cIfS g2_53 (cRegS (SR216_7)) (cSkipS))))) (cRegS (SR216_4)))
def SF216 : CodeS 2 :=
 cSeqS (cRegS (SR216_0)) (cSeqS (cRegS (SR216_1)) (cSeqS (cSeqS (cRegS (SR216_2)) (cBlkS 0 (cLoopS (SW216_0)))) (cSeqS (cRegS (SR216_8)) (cRetS))))
def T216 : FnT := runG en2_1 (SF216) (resQ (qc (rT g2_2) qn))
theorem T216_ok : GoodF Tryz.prog ro0 okF 216 (T216) :=
 (good_k (n := 56) acc2 (lv [0, 2, 3, 4, 11, 32, 53]) (rs := [ResultVar.tmp 2]) Tryz.func216 (by kernel_rfl) (by kernel_rfl) (by kernel_rfl) (by kernel_rfl) (by kernel_rfl) (by kernel_rfl) (by kernel_rfl) (by kernel_rfl) (by kernel_rfl)).enter en2_1_ok (by kernel_rfl)

/-- (*circheck/checker.search).blame -/
def SR217_0 : RegS 3 := fun c t0 h0 =>
 kOf (c 222 [(g3_0 t0), (g3_1 t0)] h0) fun v3 h3 =>
 some (.normal, t0, h3)
def SR217_1 : RegS 3 := fun c t0 h0 =>
 kNil (g3_0 t0) h0 fun v2 h2 =>
 kFld 7 v2 h2 fun v3 h3 =>
 kLd v3 h3 fun v4 h4 =>
 kLenSl v4 h4 fun v5 h5 =>
 kSub v5 (.int .i64 1) h5 fun v6 h6 =>
 fShal v6 fun v7 =>
 p3_4 t0 v7 fun t1 =>
 some (.normal, t1, h6)
def SR217_2 : RegS 3 := fun c t0 h0 =>
 kGeq (g3_4 t0) (.int .i64 0) h0 fun v2 h2 =>
 p3_17 t0 v2 fun t1 =>
 some (.normal, t1, h2)
def SR217_4 : RegS 3 := fun c t0 h0 =>
 kNil (g3_0 t0) h0 fun v2 h2 =>
 kFld 7 v2 h2 fun v3 h3 =>
 kLd v3 h3 fun v4 h4 =>
 kIdx 1 v4 (g3_4 t0) h4 fun v6 h6 =>
 kLd v6 h6 fun v7 h7 =>
 kAny (aShift .shr (.const v7) (.const (.int .u64 1))) c h7 fun v8 h8 =>
 fShal v8 fun v9 =>
 p3_5 t0 v9 fun t1 =>
 some (.normal, t1, h8)
def SR217_5 : RegS 3 := fun c t0 h0 =>
 kNil (g3_0 t0) h0 fun v2 h2 =>
 kFld 6 v2 h2 fun v3 h3 =>
 kLd v3 h3 fun v4 h4 =>
 kIdx 5 v4 (g3_5 t0) h4 fun v6 h6 =>
 kFld 2 v6 h6 fun v7 h7 =>
 kLd v7 h7 fun v8 h8 =>
 kNot v8 h8 fun v9 h9 =>
 p3_36 t0 v9 fun t1 =>
 some (.normal, t1, h9)
def SR217_6 : RegS 3 := fun c t0 h0 =>
 kNil (g3_0 t0) h0 fun v2 h2 =>
 kFld 6 v2 h2 fun v3 h3 =>
 kLd v3 h3 fun v4 h4 =>
 kIdx 5 v4 (g3_5 t0) h4 fun v6 h6 =>
 kFld 1 v6 h6 fun v7 h7 =>
 kLd v7 h7 fun v8 h8 =>
 fShal v8 fun v9 =>
 p3_6 t0 v9 fun t1 =>
 some (.normal, t1, h8)
def SR217_7 : RegS 3 := fun c t0 h0 =>
 kEql (g3_6 t0) (.int .i64 (-1)) h0 fun v2 h2 =>
 p3_46 t0 v2 fun t1 =>
 some (.normal, t1, h2)
def SR217_8 : RegS 3 := fun c t0 h0 =>
 kNil (g3_0 t0) h0 fun v3 h3 =>
 kFld 12 v3 h3 fun v4 h4 =>
 kLd v4 h4 fun v5 h5 =>
 kNil (g3_0 t0) h5 fun v7 h7 =>
 kFld 7 v7 h7 fun v8 h8 =>
 kLd v8 h8 fun v9 h9 =>
 kIdx 1 v9 (g3_4 t0) h9 fun v11 h11 =>
 kLd v11 h11 fun v12 h12 =>
 kMkSl 1 1 #[.int .i64 0] [(0, v12)] h12 fun v13 h13 =>
 kOf (vApp ro0 1 8 v5 v13 h13) fun v14 h14 =>
 kNil (g3_0 t0) h14 fun v15 h15 =>
 kFld 12 v15 h15 fun v16 h16 =>
 kSt ro0 v16 v14 h16 fun _ h17 =>
 some (.normal, t0, h17)
def SR217_9 : RegS 3 := fun c t0 h0 =>
 kNil (g3_0 t0) h0 fun v3 h3 =>
 kFld 1 v3 h3 fun v4 h4 =>
 kLd v4 h4 fun v5 h5 =>
 kIdx 4 v5 (g3_6 t0) h5 fun v7 h7 =>
 kFld 0 v7 h7 fun v8 h8 =>
 kLd v8 h8 fun v9 h9 =>
 kOf (c 222 [(g3_0 t0), v9] h9) fun v10 h10 =>
 some (.normal, t0, h10)
def SR217_3 : RegS 3 := fun c t0 h0 =>
 kSub (g3_4 t0) (.int .i64 1) h0 fun v2 h2 =>
 fShal v2 fun v3 =>
 p3_4 t0 v3 fun t1 =>
 some (.normal, t1, h2)
def SW217_0 : CodeS 3 :=
 cSeqS (cSeqS (cRegS (SR217_2)) (cIfS g3_17 (cSkipS) (cExitS 0))) (cSeqS (cBlkS 1 (cSeqS (cRegS (SR217_4)) (cSeqS (cSeqS (cRegS (SR217_5)) (cIfS g3_36 (cExitS 1) (cSkipS))) (cSeqS (cRegS (SR217_6)) (cSeqS (cRegS (SR217_7)) (cIfS g3_46 (cRegS (SR217_8)) (cRegS (SR217_9)))))))) (cRegS (SR217_3)))
def SF217 : CodeS 3 :=
 cSeqS (cRegS (SR217_0)) (cSeqS (cRegS (SR217_1)) (cBlkS 0 (cLoopS (SW217_0))))
def T217 : FnT := runG en3_2 (SF217) (resQ qn)
theorem T217_ok : GoodF Tryz.prog ro0 okF 217 (T217) :=
 (good_k (n := 73) acc3 (lv [0, 1, 4, 5, 6, 17, 36, 46]) (rs := []) Tryz.func217 (by kernel_rfl) (by kernel_rfl) (by kernel_rfl) (by kernel_rfl) (by kernel_rfl) (by kernel_rfl) (by kernel_rfl) (by kernel_rfl) (by kernel_rfl)).enter en3_2_ok (by kernel_rfl)

/-- (*circheck/checker.search).learn -/
def SR218_0 : RegS 3 := fun c t0 h0 =>
 kOf (c 223 [(g3_0 t0), (g3_1 t0)] h0) fun v3 h3 =>
 fShal v3 fun v4 =>
 p3_4 t0 v4 fun t1 =>
 some (.normal, t1, h3)
def SR218_1 : RegS 3 := fun c t0 h0 =>
 kOf (c 224 [(g3_0 t0), (g3_4 t0)] h0) fun v3 h3 =>
 fShal v3 fun v4 =>
 p3_5 t0 v4 fun t1 =>
 some (.normal, t1, h3)
def SR218_2 : RegS 3 := fun c t0 h0 =>
 kOf (c 225 [(g3_0 t0), (g3_5 t0)] h0) fun v3 h3 =>
 fShal v3 fun v4 =>
 p3_6 t0 v4 fun t1 =>
 some (.normal, t1, h3)
def SR218_3 : RegS 3 := fun c t0 h0 =>
 kOf (c 226 [(g3_0 t0)] h0) fun v2 h2 =>
 some (.normal, t0, h2)
def SR218_4 : RegS 3 := fun c t0 h0 =>
 kOf (c 227 [(g3_0 t0)] h0) fun v2 h2 =>
 some (.normal, t0, h2)
def SR218_5 : RegS 3 := fun c t0 h0 =>
 kLenSl (g3_5 t0) h0 fun v2 h2 =>
 kEql v2 (.int .i64 1) h2 fun v3 h3 =>
 p3_24 t0 v3 fun t1 =>
 some (.normal, t1, h3)
def SR218_6 : RegS 3 := fun c t0 h0 =>
 kOf (c 228 [(g3_0 t0), (.int .i64 0)] h0) fun v2 h2 =>
 some (.normal, t0, h2)
def SR218_7 : RegS 3 := fun c t0 h0 =>
 kIdx 1 (g3_5 t0) (.int .i64 0) h0 fun v3 h3 =>
 kLd v3 h3 fun v4 h4 =>
 kOf (c 213 [(g3_0 t0), v4, (.int .i64 (-1))] h4) fun v5 h5 =>
 some (.normal, t0, h5)
def SR218_8 : RegS 3 := fun c t0 h0 =>
 kLenSl (g3_5 t0) h0 fun v3 h3 =>
 kSub v3 (.int .i64 1) h3 fun v4 h4 =>
 kIdx 1 (g3_5 t0) v4 h4 fun v5 h5 =>
 kLd v5 h5 fun v6 h6 =>
 fShal v6 fun v7 =>
 p3_7 t0 v7 fun t1 =>
 some (.normal, t1, h6)
def SR218_9 : RegS 3 := fun c t0 h0 =>
 kNil (g3_0 t0) h0 fun v2 h2 =>
 kFld 6 v2 h2 fun v3 h3 =>
 kLd v3 h3 fun v4 h4 =>
 kAny (aShift .shr (.const (g3_7 t0)) (.const (.int .u64 1))) c h4 fun v6 h6 =>
 kIdx 5 v4 v6 h6 fun v7 h7 =>
 kFld 0 v7 h7 fun v8 h8 =>
 kLd v8 h8 fun v9 h9 =>
 fShal v9 fun v10 =>
 p3_8 t0 v10 fun t1 =>
 some (.normal, t1, h9)
def SR218_10 : RegS 3 := fun c t0 h0 =>
 kOf (c 228 [(g3_0 t0), (g3_8 t0)] h0) fun v3 h3 =>
 some (.normal, t0, h3)
def SR218_11 : RegS 3 := fun c t0 h0 =>
 kOf (c 229 [(g3_0 t0)] h0) fun v2 h2 =>
 some (.normal, t0, h2)
def SR218_12 : RegS 3 := fun c t0 h0 =>
 kIdx 1 (g3_5 t0) (.int .i64 0) h0 fun v4 h4 =>
 kLd v4 h4 fun v5 h5 =>
 kBuild #[.slice none 0 0, .int .i64 0, .int .i64 0, .int .i64 0] [(0, 1), (1, 1), (2, 1), (3, 1)] [(0, (g3_5 t0)), (1, v5), (2, (g3_7 t0)), (3, (g3_6 t0))] h5 fun v8 h8 =>
 kOf (c 212 [(g3_0 t0), v8] h8) fun v9 h9 =>
 some (.normal, t0, h9)
def SR218_13 : RegS 3 := fun c t0 h0 =>
 kIdx 1 (g3_5 t0) (.int .i64 0) h0 fun v3 h3 =>
 kLd v3 h3 fun v4 h4 =>
 kNil (g3_0 t0) h4 fun v6 h6 =>
 kFld 1 v6 h6 fun v7 h7 =>
 kLd v7 h7 fun v8 h8 =>
 kLenSl v8 h8 fun v9 h9 =>
 kSub v9 (.int .i64 1) h9 fun v10 h10 =>
 kOf (c 213 [(g3_0 t0), v4, v10] h10) fun v11 h11 =>
 some (.normal, t0, h11)
def SF218 : CodeS 3 :=
 cSeqS (cRegS (SR218_0)) (cSeqS (cRegS (SR218_1)) (cSeqS (cRegS (SR218_2)) (cSeqS (cRegS (SR218_3)) (cSeqS (cRegS (SR218_4)) (cSeqS (cSeqS (cRegS (SR218_5)) (cIfS g3_24 (cSeqS (cRegS (SR218_6)) (cSeqS (cRegS (SR218_7)) (cRetS))) (cSkipS))) (cSeqS (cRegS (SR218_8)) (cSeqS (cRegS (SR218_9)) (cSeqS (cRegS (SR218_10)) (cSeqS (cRegS (SR218_11)) (cSeqS (cRegS (SR218_12)) (cRegS (SR218_13))))))))))))
def T218 : FnT := runG en3_2 (SF218) (resQ qn)
theorem T218_ok : GoodF Tryz.prog ro0 okF 218 (T218) :=
 (good_k (n := 72) acc3 (lv [0, 1, 4, 5, 6, 7, 8, 24]) (rs := []) Tryz.func218 (by kernel_rfl) (by kernel_rfl) (by kernel_rfl) (by kernel_rfl) (by kernel_rfl) (by kernel_rfl) (by kernel_rfl) (by kernel_rfl) (by kernel_rfl)).enter en3_2_ok (by kernel_rfl)

/-- (*circheck/checker.search).enter -/
def SR220_0 : RegS 2 := fun c t0 h0 =>
 kNil (g2_0 t0) h0 fun v2 h2 =>
 kFld 1 v2 h2 fun v3 h3 =>
 kLd v3 h3 fun v4 h4 =>
 kIdx 4 v4 (g2_1 t0) h4 fun v6 h6 =>
 kFld 1 v6 h6 fun v7 h7 =>
 kLd v7 h7 fun v8 h8 =>
 fShal v8 fun v9 =>
 p2_4 t0 v9 fun t1 =>
 some (.normal, t1, h8)
def SR220_1 : RegS 2 := fun c t0 h0 =>
 kNil (g2_0 t0) h0 fun v2 h2 =>
 kFld 1 v2 h2 fun v3 h3 =>
 kLd v3 h3 fun v4 h4 =>
 kIdx 4 v4 (g2_1 t0) h4 fun v6 h6 =>
 kFld 2 v6 h6 fun v7 h7 =>
 kLd v7 h7 fun v8 h8 =>
 fShal v8 fun v9 =>
 p2_5 t0 v9 fun t1 =>
 some (.normal, t1, h8)
def SR220_2 : RegS 2 := fun c t0 h0 =>
 kNil (g2_0 t0) h0 fun v2 h2 =>
 kFld 4 v2 h2 fun v3 h3 =>
 kLd v3 h3 fun v4 h4 =>
 kNil (g2_0 t0) h4 fun v7 h7 =>
 kFld 4 v7 h7 fun v8 h8 =>
 kLd v8 h8 fun v9 h9 =>
 kIdx 1 v9 (g2_4 t0) h9 fun v11 h11 =>
 kLd v11 h11 fun v12 h12 =>
 kMkSl 1 1 #[.int .i64 0] [(0, (g2_1 t0))] h12 fun v14 h14 =>
 kOf (vApp ro0 1 8 v12 v14 h14) fun v15 h15 =>
 kIdx 1 v4 (g2_4 t0) h15 fun v16 h16 =>
 kSt ro0 v16 v15 h16 fun _ h17 =>
 bif sepA v3 v12 then some (.normal, t0, h17) else none
def SR220_3 : RegS 2 := fun c t0 h0 =>
 kNil (g2_0 t0) h0 fun v2 h2 =>
 kFld 4 v2 h2 fun v3 h3 =>
 kLd v3 h3 fun v4 h4 =>
 kNil (g2_0 t0) h4 fun v7 h7 =>
 kFld 4 v7 h7 fun v8 h8 =>
 kLd v8 h8 fun v9 h9 =>
 kIdx 1 v9 (g2_5 t0) h9 fun v11 h11 =>
 kLd v11 h11 fun v12 h12 =>
 kMkSl 1 1 #[.int .i64 0] [(0, (g2_1 t0))] h12 fun v14 h14 =>
 kOf (vApp ro0 1 8 v12 v14 h14) fun v15 h15 =>
 kIdx 1 v4 (g2_5 t0) h15 fun v16 h16 =>
 kSt ro0 v16 v15 h16 fun _ h17 =>
 bif sepA v3 v12 then some (.normal, t0, h17) else none
def SF220 : CodeS 2 :=
 cSeqS (cRegS (SR220_0)) (cSeqS (cRegS (SR220_1)) (cSeqS (cRegS (SR220_2)) (cRegS (SR220_3))))
def T220 : FnT := runG en2_2 (SF220) (resQ qn)
theorem T220_ok : GoodF Tryz.prog ro0 okF 220 (T220) :=
 (good_k (n := 54) acc2 (lv [0, 1, 4, 5]) (rs := []) Tryz.func220 (by kernel_rfl) (by kernel_rfl) (by kernel_rfl) (by kernel_rfl) (by kernel_rfl) (by kernel_rfl) (by kernel_rfl) (by kernel_rfl) (by kernel_rfl)).enter en2_2_ok (by kernel_rfl)

/-- (*circheck/checker.search).lookElsewhere -/
def SR221_0 : RegS 3 := fun c t0 h0 =>
 fShal (.bool false) fun v1 =>
 p3_6 t0 v1 fun t1 =>
 some (.normal, t1, h0)
def SR221_1 : RegS 3 := fun c t0 h0 =>
 kNil (g3_0 t0) h0 fun v2 h2 =>
 kFld 1 v2 h2 fun v3 h3 =>
 kLd v3 h3 fun v4 h4 =>
 kIdx 4 v4 (g3_1 t0) h4 fun v6 h6 =>
 kFld 1 v6 h6 fun v7 h7 =>
 kLd v7 h7 fun v8 h8 =>
 kEql v8 (g3_2 t0) h8 fun v10 h10 =>
 p3_20 t0 v10 fun t1 =>
 some (.normal, t1, h10)
def SR221_2 : RegS 3 := fun c t0 h0 =>
 kNil (g3_0 t0) h0 fun v2 h2 =>
 kFld 1 v2 h2 fun v3 h3 =>
 kLd v3 h3 fun v4 h4 =>
 kNil (g3_0 t0) h4 fun v7 h7 =>
 kFld 1 v7 h7 fun v8 h8 =>
 kLd v8 h8 fun v9 h9 =>
 kIdx 4 v9 (g3_1 t0) h9 fun v11 h11 =>
 kFld 2 v11 h11 fun v12 h12 =>
 kLd v12 h12 fun v13 h13 =>
 kIdx 4 v4 (g3_1 t0) h13 fun v14 h14 =>
 kFld 1 v14 h14 fun v15 h15 =>
 kSt ro0 v15 v13 h15 fun _ h16 =>
 some (.normal, t0, h16)
def SR221_3 : RegS 3 := fun c t0 h0 =>
 kNil (g3_0 t0) h0 fun v2 h2 =>
 kFld 1 v2 h2 fun v3 h3 =>
 kLd v3 h3 fun v4 h4 =>
 kIdx 4 v4 (g3_1 t0) h4 fun v7 h7 =>
 kFld 2 v7 h7 fun v8 h8 =>
 kSt ro0 v8 (g3_2 t0) h8 fun _ h9 =>
 some (.normal, t0, h9)
def SR221_4 : RegS 3 := fun c t0 h0 =>
 kNil (g3_0 t0) h0 fun v2 h2 =>
 kFld 1 v2 h2 fun v3 h3 =>
 kLd v3 h3 fun v4 h4 =>
 kIdx 4 v4 (g3_1 t0) h4 fun v6 h6 =>
 kFld 1 v6 h6 fun v7 h7 =>
 kLd v7 h7 fun v8 h8 =>
 fShal v8 fun v9 =>
 p3_7 t0 v9 fun t1 =>
 some (.normal, t1, h8)
def SR221_5 : RegS 3 := fun c t0 h0 =>
 kNil (g3_0 t0) h0 fun v2 h2 =>
 kFld 5 v2 h2 fun v3 h3 =>
 kLd v3 h3 fun v4 h4 =>
 kIdx 1 v4 (g3_7 t0) h4 fun v6 h6 =>
 kLd v6 h6 fun v7 h7 =>
 p3_58 t0 v7 fun t1 =>
 some (.normal, t1, h7)
def SR221_6 : RegS 3 := fun c t0 h0 =>
 fShal (.bool false) fun v1 =>
 p3_6 t0 v1 fun t1 =>
 some (.normal, t1, h0)
def SR221_7 : RegS 3 := fun c t0 h0 =>
 kNil (g3_0 t0) h0 fun v2 h2 =>
 kFld 1 v2 h2 fun v3 h3 =>
 kLd v3 h3 fun v4 h4 =>
 kIdx 4 v4 (g3_1 t0) h4 fun v6 h6 =>
 kFld 0 v6 h6 fun v7 h7 =>
 kLd v7 h7 fun v8 h8 =>
 fShal v8 fun v9 =>
 p3_8 t0 v9 fun t1 =>
 some (.normal, t1, h8)
def SR221_8 : RegS 3 := fun c t0 h0 =>
 fShal (.int .i64 0) fun v1 =>
 p3_9 t0 v1 fun t1 =>
 some (.normal, t1, h0)
def SR221_9 : RegS 3 := fun c t0 h0 =>
 kLenSl (g3_8 t0) h0 fun v3 h3 =>
 kLss (g3_9 t0) v3 h3 fun v4 h4 =>
 p3_70 t0 v4 fun t1 =>
 some (.normal, t1, h4)
def SR221_11 : RegS 3 := fun c t0 h0 =>
 kIdx 1 (g3_8 t0) (g3_9 t0) h0 fun v3 h3 =>
 kLd v3 h3 fun v4 h4 =>
 fShal v4 fun v5 =>
 p3_10 t0 v5 fun t1 =>
 some (.normal, t1, h4)
def SR221_12 : RegS 3 := fun c t0 h0 =>
 kNeq (g3_10 t0) (g3_7 t0) h0 fun v3 h3 =>
 kIf v3 true (fun k => k (g3_0 t0) h3) h3 fun v5 h5 =>
 kIf v3 true (fun k => kNil v5 h5 k) h5 fun v6 h6 =>
 kIf v3 true (fun k => kFld 5 v6 h6 k) h6 fun v7 h7 =>
 kIf v3 true (fun k => kLd v7 h7 k) h7 fun v8 h8 =>
 kIf v3 true (fun k => k (g3_10 t0) h8) h8 fun v9 h9 =>
 kIf v3 true (fun k => kOf (vInt .xor v9 (.int .i64 1) h9) k) h9 fun v10 h10 =>
 kIf v3 true (fun k => kIdx 1 v8 v10 h10 k) h10 fun v11 h11 =>
 kIf v3 true (fun k => kLd v11 h11 k) h11 fun v12 h12 =>
 kIf v3 true (fun k => kNot v12 h12 k) h12 fun v13 h13 =>
 kPick v3 v13 (.bool false) h13 fun v14 h14 =>
 p3_90 t0 v14 fun t1 =>
 some (.normal, t1, h14)
def SR221_13 : RegS 3 := fun c t0 h0 =>
 kNil (g3_0 t0) h0 fun v2 h2 =>
 kFld 1 v2 h2 fun v3 h3 =>
 kLd v3 h3 fun v4 h4 =>
 kIdx 4 v4 (g3_1 t0) h4 fun v7 h7 =>
 kFld 2 v7 h7 fun v8 h8 =>
 kSt ro0 v8 (g3_10 t0) h8 fun _ h9 =>
 some (.normal, t0, h9)
def SR221_14 : RegS 3 := fun c t0 h0 =>
 kNil (g3_0 t0) h0 fun v2 h2 =>
 kFld 4 v2 h2 fun v3 h3 =>
 kLd v3 h3 fun v4 h4 =>
 kNil (g3_0 t0) h4 fun v7 h7 =>
 kFld 4 v7 h7 fun v8 h8 =>
 kLd v8 h8 fun v9 h9 =>
 kIdx 1 v9 (g3_10 t0) h9 fun v11 h11 =>
 kLd v11 h11 fun v12 h12 =>
 kMkSl 1 1 #[.int .i64 0] [(0, (g3_1 t0))] h12 fun v14 h14 =>
 kOf (vApp ro0 1 8 v12 v14 h14) fun v15 h15 =>
 kIdx 1 v4 (g3_10 t0) h15 fun v16 h16 =>
 kSt ro0 v16 v15 h16 fun _ h17 =>
 bif sepA v3 v12 then some (.normal, t0, h17) else none
def SR221_15 : RegS 3 := fun c t0 h0 =>
 fShal (.bool true) fun v1 =>
 p3_6 t0 v1 fun t1 =>
 some (.normal, t1, h0)
def SR221_10 : RegS 3 := fun c t0 h0 =>
 kAdd (g3_9 t0) (.int .i64 1) h0 fun v2 h2 =>
 fShal v2 fun v3 =>
 p3_9 t0 v3 fun t1 =>
 some (.normal, t1, h2)
def SR221_16 : RegS 3 := fun c t0 h0 =>
 fShal (.bool false) fun v1 =>
 p3_6 t0 v1 fun t1 =>
 some (.normal, t1, h0)
def SW221_0 : CodeS 3 :=
 cSeqS (cSeqS (cRegS (SR221_9)) (cIfS g3_70 (cSkipS) (cExitS 0))) (cSeqS (cBlkS 1 (cSeqS (cRegS (SR221_11)) (cSeqS (cRegS (SR221_12)) (cIfS g3_90 (cSeqS (cRegS (SR221_13)) (cSeqS (cRegS (SR221_14)) (cSeqS (cRegS (SR221_15)) (cRetS)))) (cSkipS))))) (cRegS (SR221_10)))
def SF221 : CodeS 3 :=
 cSeqS (cRegS (SR221_0)) (cSeqS (cSeqS (cRegS (SR221_1)) (cIfS g3_20 (cSeqS (cRegS (SR221_2)) (cRegS (SR221_3))) (cSkipS))) (cSeqS (cRegS (SR221_4)) (cSeqS (cSeqS (cRegS (SR221_5)) (cIfS g3_58 (cSeqS (cRegS (SR221_6)) (cRetS)) (cSkipS))) (cSeqS (cRegS (SR221_7)) (cSeqS (cSeqS (cRegS (SR221_8)) (cBlkS 0 (cLoopS (SW221_0)))) (cSeqS (cRegS (SR221_16)) (cRetS)))))))
def T221 : FnT := runG en3_3 (SF221) (resQ (qc (rT g3_6) qn))
theorem T221_ok : GoodF Tryz.prog ro0 okF 221 (T221) :=
 (good_k (n := 115) acc3 (lv [0, 1, 2, 6, 7, 8, 9, 10, 20, 58, 70, 90]) (rs := [ResultVar.tmp 6]) Tryz.func221 (by kernel_rfl) (by kernel_rfl) (by kernel_rfl) (by kernel_rfl) (by kernel_rfl) (by kernel_rfl) (by kernel_rfl) (by kernel_rfl) (by kernel_rfl)).enter en3_3_ok (by kernel_rfl)

/-- (*circheck/checker.search).mark -/
def SR222_0 : RegS 3 := fun c t0 h0 =>
 fShal (.int .i64 0) fun v1 =>
 p3_4 t0 v1 fun t1 =>
 some (.normal, t1, h0)
def SR222_1 : RegS 3 := fun c t0 h0 =>
 fShal (.int .i64 0) fun v1 =>
 p3_5 t0 v1 fun t1 =>
 some (.normal, t1, h0)
def SR222_2 : RegS 3 := fun c t0 h0 =>
 fShal (.int .i64 0) fun v1 =>
 p3_6 t0 v1 fun t1 =>
 some (.normal, t1, h0)
def SR222_3 : RegS 3 := fun c t0 h0 =>
 kLenSl (g3_1 t0) h0 fun v3 h3 =>
 kLss (g3_6 t0) v3 h3 fun v4 h4 =>
 p3_11 t0 v4 fun t1 =>
 some (.normal, t1, h4)
def SR222_5 : RegS 3 := fun c t0 h0 =>
 kIdx 1 (g3_1 t0) (g3_6 t0) h0 fun v3 h3 =>
 kLd v3 h3 fun v4 h4 =>
 kAny (aShift .shr (.const v4) (.const (.int .u64 1))) c h4 fun v5 h5 =>
 fShal v5 fun v6 =>
 p3_7 t0 v6 fun t1 =>
 some (.normal, t1, h5)
def SR222_6 : RegS 3 := fun c t0 h0 =>
 kNil (g3_0 t0) h0 fun v2 h2 =>
 kFld 6 v2 h2 fun v3 h3 =>
 kLd v3 h3 fun v4 h4 =>
 kIdx 5 v4 (g3_7 t0) h4 fun v6 h6 =>
 kFld 2 v6 h6 fun v7 h7 =>
 kLd v7 h7 fun v8 h8 =>
 kIf v8 false (fun k => k (g3_0 t0) h8) h8 fun v10 h10 =>
 kIf v8 false (fun k => kNil v10 h10 k) h10 fun v11 h11 =>
 kIf v8 false (fun k => kFld 6 v11 h11 k) h11 fun v12 h12 =>
 kIf v8 false (fun k => kLd v12 h12 k) h12 fun v13 h13 =>
 kIf v8 false (fun k => k (g3_7 t0) h13) h13 fun v14 h14 =>
 kIf v8 false (fun k => kIdx 5 v13 v14 h14 k) h14 fun v15 h15 =>
 kIf v8 false (fun k => kFld 0 v15 h15 k) h15 fun v16 h16 =>
 kIf v8 false (fun k => kLd v16 h16 k) h16 fun v17 h17 =>
 kIf v8 false (fun k => kEql v17 (.int .i64 0) h17 k) h17 fun v18 h18 =>
 kPick v8 (.bool true) v18 h18 fun v19 h19 =>
 p3_37 t0 v19 fun t1 =>
 some (.normal, t1, h19)
def SR222_7 : RegS 3 := fun c t0 h0 =>
 kNil (g3_0 t0) h0 fun v2 h2 =>
 kFld 6 v2 h2 fun v3 h3 =>
 kLd v3 h3 fun v4 h4 =>
 kIdx 5 v4 (g3_7 t0) h4 fun v6 h6 =>
 kFld 2 v6 h6 fun v7 h7 =>
 kSt ro0 v7 (.bool true) h7 fun _ h8 =>
 some (.normal, t0, h8)
def SR222_8 : RegS 3 := fun c t0 h0 =>
 kNil (g3_0 t0) h0 fun v2 h2 =>
 kFld 6 v2 h2 fun v3 h3 =>
 kLd v3 h3 fun v4 h4 =>
 kIdx 5 v4 (g3_7 t0) h4 fun v6 h6 =>
 kFld 3 v6 h6 fun v7 h7 =>
 kLd v7 h7 fun v8 h8 =>
 kNil (g3_0 t0) h8 fun v10 h10 =>
 kFld 10 v10 h10 fun v11 h11 =>
 kLd v11 h11 fun v12 h12 =>
 kAdd v8 v12 h12 fun v13 h13 =>
 kIdx 5 v4 (g3_7 t0) h13 fun v14 h14 =>
 kFld 3 v14 h14 fun v15 h15 =>
 kSt ro0 v15 v13 h15 fun _ h16 =>
 some (.normal, t0, h16)
def SR222_9 : RegS 3 := fun c t0 h0 =>
 kNil (g3_0 t0) h0 fun v2 h2 =>
 kFld 6 v2 h2 fun v3 h3 =>
 kLd v3 h3 fun v4 h4 =>
 kIdx 5 v4 (g3_7 t0) h4 fun v6 h6 =>
 kFld 0 v6 h6 fun v7 h7 =>
 kLd v7 h7 fun v8 h8 =>
 kNil (g3_0 t0) h8 fun v10 h10 =>
 kFld 8 v10 h10 fun v11 h11 =>
 kLd v11 h11 fun v12 h12 =>
 kLenSl v12 h12 fun v13 h13 =>
 kEql v8 v13 h13 fun v14 h14 =>
 p3_73 t0 v14 fun t1 =>
 some (.normal, t1, h14)
def SR222_10 : RegS 3 := fun c t0 h0 =>
 kAdd (g3_5 t0) (.int .i64 1) h0 fun v2 h2 =>
 fShal v2 fun v3 =>
 p3_5 t0 v3 fun t1 =>
 some (.normal, t1, h2)
def SR222_4 : RegS 3 := fun c t0 h0 =>
 kAdd (g3_6 t0) (.int .i64 1) h0 fun v2 h2 =>
 fShal v2 fun v3 =>
 p3_6 t0 v3 fun t1 =>
 some (.normal, t1, h2)
def SR222_11 : RegS 3 := fun c t0 h0 =>
 fShal (g3_5 t0) fun v2 =>
 p3_4 t0 v2 fun t1 =>
 some (.normal, t1, h0)
def SW222_0 : CodeS 3 :=
 cSeqS (cSeqS (cRegS (SR222_3)) (cIfS g3_11 (cSkipS) (cExitS 0))) (cSeqS (cBlkS 1 (cSeqS (cRegS (SR222_5)) (cSeqS (cSeqS (cRegS (SR222_6)) (cIfS g3_37 (cExitS 1) (cSkipS))) (cSeqS (cRegS (SR222_7)) (cSeqS (cRegS (SR222_8)) (cSeqS (cRegS (SR222_9)) (cIfS g3_73 (cRegS (SR222_10)) (cSkipS)))))))) (cRegS (SR222_4)))
def SF222 : CodeS 3 :=
 cSeqS (cRegS (SR222_0)) (cSeqS (cRegS (SR222_1)) (cSeqS (cSeqS (cRegS (SR222_2)) (cBlkS 0 (cLoopS (SW222_0)))) (cSeqS (cRegS (SR222_11)) (cRetS))))
def T222 : FnT := runG en3_2 (SF222) (resQ (qc (rT g3_4) qn))
theorem T222_ok : GoodF Tryz.prog ro0 okF 222 (T222) :=
 (good_k (n := 77) acc3 (lv [0, 1, 4, 5, 6, 7, 11, 37, 73]) (rs := [ResultVar.tmp 4]) Tryz.func222 (by kernel_rfl) (by kernel_rfl) (by kernel_rfl) (by kernel_rfl) (by kernel_rfl) (by kernel_rfl) (by kernel_rfl) (by kernel_rfl) (by kernel_rfl)).enter en3_2_ok (by kernel_rfl)

/-- (*circheck/checker.search).trace -/
def SR223_0 : RegS 3 := fun c t0 h0 =>
 fShal (.int .i64 0) fun v1 =>
 p3_4 t0 v1 fun t1 =>
 some (.normal, t1, h0)
def SR223_1 : RegS 3 := fun c t0 h0 =>
 kNil (g3_0 t0) h0 fun v3 h3 =>
 kFld 1 v3 h3 fun v4 h4 =>
 kLd v4 h4 fun v5 h5 =>
 kIdx 4 v5 (g3_1 t0) h5 fun v7 h7 =>
 kFld 0 v7 h7 fun v8 h8 =>
 kLd v8 h8 fun v9 h9 =>
 kOf (c 222 [(g3_0 t0), v9] h9) fun v10 h10 =>
 fShal v10 fun v11 =>
 p3_5 t0 v11 fun t1 =>
 some (.normal, t1, h10)
def SR223_2 : RegS 3 := fun c t0 h0 =>
 kNil (g3_0 t0) h0 fun v2 h2 =>
 kFld 7 v2 h2 fun v3 h3 =>
 kLd v3 h3 fun v4 h4 =>
 kLenSl v4 h4 fun v5 h5 =>
 kSub v5 (.int .i64 1) h5 fun v6 h6 =>
 fShal v6 fun v7 =>
 p3_6 t0 v7 fun t1 =>
 some (.normal, t1, h6)
def SR223_3 : RegS 3 := fun c t0 h0 =>
 kGtr (g3_6 t0) (.int .i64 0) h0 fun v2 h2 =>
 p3_27 t0 v2 fun t1 =>
 some (.normal, t1, h2)
def SR223_4 : RegS 3 := fun c t0 h0 =>
 kNil (g3_0 t0) h0 fun v2 h2 =>
 kFld 7 v2 h2 fun v3 h3 =>
 kLd v3 h3 fun v4 h4 =>
 kIdx 1 v4 (g3_6 t0) h4 fun v6 h6 =>
 kLd v6 h6 fun v7 h7 =>
 kAny (aShift .shr (.const v7) (.const (.int .u64 1))) c h7 fun v8 h8 =>
 fShal v8 fun v9 =>
 p3_7 t0 v9 fun t1 =>
 some (.normal, t1, h8)
def SR223_5 : RegS 3 := fun c t0 h0 =>
 kNil (g3_0 t0) h0 fun v2 h2 =>
 kFld 6 v2 h2 fun v3 h3 =>
 kLd v3 h3 fun v4 h4 =>
 kIdx 5 v4 (g3_7 t0) h4 fun v6 h6 =>
 kFld 1 v6 h6 fun v7 h7 =>
 kLd v7 h7 fun v8 h8 =>
 fShal v8 fun v9 =>
 p3_8 t0 v9 fun t1 =>
 some (.normal, t1, h8)
def SR223_6 : RegS 3 := fun c t0 h0 =>
 kNil (g3_0 t0) h0 fun v2 h2 =>
 kFld 6 v2 h2 fun v3 h3 =>
 kLd v3 h3 fun v4 h4 =>
 kIdx 5 v4 (g3_7 t0) h4 fun v6 h6 =>
 kFld 2 v6 h6 fun v7 h7 =>
 kLd v7 h7 fun v8 h8 =>
 p3_51 t0 v8 fun t1 =>
 some (.normal, t1, h8)
def SR223_7 : RegS 3 := fun c t0 h0 =>
 kEql (g3_5 t0) (.int .i64 1) h0 fun v2 h2 =>
 kIf v2 false (fun k => k (g3_8 t0) h2) h2 fun v4 h4 =>
 kIf v2 false (fun k => kEql v4 (.int .i64 (-1)) h4 k) h4 fun v5 h5 =>
 kPick v2 (.bool true) v5 h5 fun v6 h6 =>
 p3_57 t0 v6 fun t1 =>
 some (.normal, t1, h6)
def SR223_8 : RegS 3 := fun c t0 h0 =>
 fShal (g3_6 t0) fun v2 =>
 p3_4 t0 v2 fun t1 =>
 some (.normal, t1, h0)
def SR223_9 : RegS 3 := fun c t0 h0 =>
 kNil (g3_0 t0) h0 fun v3 h3 =>
 kFld 1 v3 h3 fun v4 h4 =>
 kLd v4 h4 fun v5 h5 =>
 kIdx 4 v5 (g3_8 t0) h5 fun v7 h7 =>
 kFld 0 v7 h7 fun v8 h8 =>
 kLd v8 h8 fun v9 h9 =>
 kOf (c 222 [(g3_0 t0), v9] h9) fun v10 h10 =>
 fShal v10 fun v11 =>
 p3_9 t0 v11 fun t1 =>
 some (.normal, t1, h10)
def SR223_10 : RegS 3 := fun c t0 h0 =>
 kSub (g3_9 t0) (.int .i64 1) h0 fun v3 h3 =>
 kAdd (g3_5 t0) v3 h3 fun v4 h4 =>
 fShal v4 fun v5 =>
 p3_5 t0 v5 fun t1 =>
 some (.normal, t1, h4)
def SR223_11 : RegS 3 := fun c t0 h0 =>
 kSub (g3_6 t0) (.int .i64 1) h0 fun v2 h2 =>
 fShal v2 fun v3 =>
 p3_6 t0 v3 fun t1 =>
 some (.normal, t1, h2)
def SR223_12 : RegS 3 := fun c t0 h0 =>
 fShal (g3_6 t0) fun v2 =>
 p3_4 t0 v2 fun t1 =>
 some (.normal, t1, h0)
def SW223_0 : CodeS 3 :=
 cSeqS (cSeqS (cRegS (SR223_3)) (cIfS g3_27 (cSkipS) (cExitS 0))) (cBlkS 1 (cSeqS (cRegS (SR223_4)) (cSeqS (cRegS (SR223_5)) (cSeqS (cSeqS (cRegS (SR223_6)) (cIfS g3_51 (cSeqS (cSeqS (cRegS (SR223_7)) (cIfS g3_57 (cSeqS (cRegS (SR223_8)) (cRetS)) (cSkipS))) (cSeqS (cRegS (SR223_9)) (cRegS (SR223_10)))) (cSkipS))) (cRegS (SR223_11))))))
def SF223 : CodeS 3 :=
 cSeqS (cRegS (SR223_0)) (cSeqS (cRegS (SR223_1)) (cSeqS (cRegS (SR223_2)) (cSeqS (cBlkS 0 (cLoopS (SW223_0))) (cSeqS (cRegS (SR223_12)) (cRetS)))))
def T223 : FnT := runG en3_2 (SF223) (resQ (qc (rT g3_4) qn))
theorem T223_ok : GoodF Tryz.prog ro0 okF 223 (T223) :=
 (good_k (n := 76) acc3 (lv [0, 1, 4, 5, 6, 7, 8, 9, 27, 51, 57]) (rs := [ResultVar.tmp 4]) Tryz.func223 (by kernel_rfl) (by kernel_rfl) (by kernel_rfl) (by kernel_rfl) (by kernel_rfl) (by kernel_rfl) (by kernel_rfl) (by kernel_rfl) (by kernel_rfl)).enter en3_2_ok (by kernel_rfl)

/-- (*circheck/checker.search).barring -/
def SR224_0 : RegS 2 := fun c t0 h0 =>
 fShal (.slice none 0 0) fun v1 =>
 p2_4 t0 v1 fun t1 =>
 some (.normal, t1, h0)
def SR224_1 : RegS 2 := fun c t0 h0 =>
 kNil (g2_0 t0) h0 fun v2 h2 =>
 kFld 7 v2 h2 fun v3 h3 =>
 kLd v3 h3 fun v4 h4 =>
 kIdx 1 v4 (g2_1 t0) h4 fun v6 h6 =>
 kLd v6 h6 fun v7 h7 =>
 kOf (vInt .xor v7 (.int .i64 1) h7) fun v8 h8 =>
 kMkSl 1 1 #[.int .i64 0] [(0, v8)] h8 fun v9 h9 =>
 fShal v9 fun v10 =>
 p2_5 t0 v10 fun t1 =>
 some (.normal, t1, h9)
def SR224_2 : RegS 2 := fun c t0 h0 =>
 fShal (.int .i64 0) fun v1 =>
 p2_6 t0 v1 fun t1 =>
 some (.normal, t1, h0)
def SR224_3 : RegS 2 := fun c t0 h0 =>
 kLss (g2_6 t0) (g2_1 t0) h0 fun v3 h3 =>
 p2_19 t0 v3 fun t1 =>
 some (.normal, t1, h3)
def SR224_5 : RegS 2 := fun c t0 h0 =>
 kNil (g2_0 t0) h0 fun v2 h2 =>
 kFld 7 v2 h2 fun v3 h3 =>
 kLd v3 h3 fun v4 h4 =>
 kIdx 1 v4 (g2_6 t0) h4 fun v6 h6 =>
 kLd v6 h6 fun v7 h7 =>
 kAny (aShift .shr (.const v7) (.const (.int .u64 1))) c h7 fun v8 h8 =>
 fShal v8 fun v9 =>
 p2_7 t0 v9 fun t1 =>
 some (.normal, t1, h8)
def SR224_6 : RegS 2 := fun c t0 h0 =>
 kNil (g2_0 t0) h0 fun v2 h2 =>
 kFld 6 v2 h2 fun v3 h3 =>
 kLd v3 h3 fun v4 h4 =>
 kIdx 5 v4 (g2_7 t0) h4 fun v6 h6 =>
 kFld 2 v6 h6 fun v7 h7 =>
 kLd v7 h7 fun v8 h8 =>
 kIf v8 true (fun k => k (g2_0 t0) h8) h8 fun v10 h10 =>
 kIf v8 true (fun k => k (g2_7 t0) h10) h10 fun v11 h11 =>
 kIf v8 true (fun k => kOf (c 230 [v10, v11] h11) k) h11 fun v12 h12 =>
 kIf v8 true (fun k => kNot v12 h12 k) h12 fun v13 h13 =>
 kPick v8 v13 (.bool false) h13 fun v14 h14 =>
 p2_43 t0 v14 fun t1 =>
 some (.normal, t1, h14)
def SR224_7 : RegS 2 := fun c t0 h0 =>
 kNil (g2_0 t0) h0 fun v3 h3 =>
 kFld 7 v3 h3 fun v4 h4 =>
 kLd v4 h4 fun v5 h5 =>
 kIdx 1 v5 (g2_6 t0) h5 fun v7 h7 =>
 kLd v7 h7 fun v8 h8 =>
 kOf (vInt .xor v8 (.int .i64 1) h8) fun v9 h9 =>
 kMkSl 1 1 #[.int .i64 0] [(0, v9)] h9 fun v10 h10 =>
 kOf (vApp ro0 1 8 (g2_5 t0) v10 h10) fun v11 h11 =>
 fShal v11 fun v12 =>
 p2_5 t0 v12 fun t1 =>
 some (.normal, t1, h11)
def SR224_4 : RegS 2 := fun c t0 h0 =>
 kAdd (g2_6 t0) (.int .i64 1) h0 fun v2 h2 =>
 fShal v2 fun v3 =>
 p2_6 t0 v3 fun t1 =>
 some (.normal, t1, h2)
def SR224_8 : RegS 2 := fun c t0 h0 =>
 fShal (g2_5 t0) fun v2 =>
 p2_4 t0 v2 fun t1 =>
 some (.normal, t1, h0)
def SW224_0 : CodeS 2 :=
 cSeqS (cSeqS (cRegS (SR224_3)) (cIfS g2_19 (cSkipS) (cExitS 0))) (cSeqS (cBlkS 1 (cSeqS (cRegS (SR224_5)) (cSeqS (cRegS (SR224_6)) (cIfS g2_43 (cRegS (SR224_7)) (cSkipS))))) (cRegS (SR224_4)))
def SF224 : CodeS 2 :=
 cSeqS (cRegS (SR224_0)) (cSeqS (cRegS (SR224_1)) (cSeqS (cSeqS (cRegS (SR224_2)) (cBlkS 0 (cLoopS (SW224_0)))) (cSeqS (cRegS (SR224_8)) (cRetS))))
def T224 : FnT := runG en2_2 (SF224) (resQ (qc (rT g2_4) qn))
theorem T224_ok : GoodF Tryz.prog ro0 okF 224 (T224) :=
 (good_k (n := 56) acc2 (lv [0, 1, 4, 5, 6, 7, 19, 43]) (rs := [ResultVar.tmp 4]) Tryz.func224 (by kernel_rfl) (by kernel_rfl) (by kernel_rfl) (by kernel_rfl) (by kernel_rfl) (by kernel_rfl) (by kernel_rfl) (by kernel_rfl) (by kernel_rfl)).enter en2_2_ok (by kernel_rfl)

/-- (*circheck/checker.search).spanOf -/
def SR225_0 : RegS 2 := fun c t0 h0 =>
 fShal (.int .i64 0) fun v1 =>
 p2_4 t0 v1 fun t1 =>
 some (.normal, t1, h0)
def SR225_1 : RegS 2 := fun c t0 h0 =>
 fShal (.int .i64 1) fun v1 =>
 p2_5 t0 v1 fun t1 =>
 some (.normal, t1, h0)
def SR225_2 : RegS 2 := fun c t0 h0 =>
 fShal (.int .i64 0) fun v1 =>
 p2_6 t0 v1 fun t1 =>
 some (.normal, t1, h0)
def SR225_3 : RegS 2 := fun c t0 h0 =>
 fShal (.int .i64 1) fun v1 =>
 p2_7 t0 v1 fun t1 =>
 some (.normal, t1, h0)
def SR225_4 : RegS 2 := fun c t0 h0 =>
 kLenSl (g2_1 t0) h0 fun v3 h3 =>
 kLss (g2_7 t0) v3 h3 fun v4 h4 =>
 p2_12 t0 v4 fun t1 =>
 some (.normal, t1, h4)
def SR225_6 : RegS 2 := fun c t0 h0 =>
 kNil (g2_0 t0) h0 fun v2 h2 =>
 kFld 6 v2 h2 fun v3 h3 =>
 kLd v3 h3 fun v4 h4 =>
 kIdx 1 (g2_1 t0) (g2_7 t0) h4 fun v7 h7 =>
 kLd v7 h7 fun v8 h8 =>
 kAny (aShift .shr (.const v8) (.const (.int .u64 1))) c h8 fun v9 h9 =>
 kIdx 5 v4 v9 h9 fun v10 h10 =>
 kFld 0 v10 h10 fun v11 h11 =>
 kLd v11 h11 fun v12 h12 =>
 fShal v12 fun v13 =>
 p2_8 t0 v13 fun t1 =>
 some (.normal, t1, h12)
def SR225_7 : RegS 2 := fun c t0 h0 =>
 kNeq (g2_8 t0) (g2_6 t0) h0 fun v3 h3 =>
 p2_29 t0 v3 fun t1 =>
 some (.normal, t1, h3)
def SR225_8 : RegS 2 := fun c t0 h0 =>
 kAdd (g2_5 t0) (.int .i64 1) h0 fun v2 h2 =>
 fShal v2 fun v3 =>
 p2_5 t0 v3 fun t1 =>
 some (.normal, t1, h2)
def SR225_9 : RegS 2 := fun c t0 h0 =>
 fShal (g2_8 t0) fun v2 =>
 p2_6 t0 v2 fun t1 =>
 some (.normal, t1, h0)
def SR225_5 : RegS 2 := fun c t0 h0 =>
 kAdd (g2_7 t0) (.int .i64 1) h0 fun v2 h2 =>
 fShal v2 fun v3 =>
 p2_7 t0 v3 fun t1 =>
 some (.normal, t1, h2)
def SR225_10 : RegS 2 := fun c t0 h0 =>
 fShal (g2_5 t0) fun v2 =>
 p2_4 t0 v2 fun t1 =>
 some (.normal, t1, h0)
def SW225_0 : CodeS 2 :=
 cSeqS (cSeqS (cRegS (SR225_4)) (cIfS g2_12 (cSkipS) (cExitS 0))) (cSeqS (cBlkS 1 (cSeqS (cRegS (SR225_6)) (cSeqS (cSeqS (cRegS (SR225_7)) (cIfS g2_29 (cRegS (SR225_8)) (cSkipS))) (cRegS (SR225_9))))) (cRegS (SR225_5)))
def SF225 : CodeS 2 :=
 cSeqS (cRegS (SR225_0)) (cSeqS (cRegS (SR225_1)) (cSeqS (cRegS (SR225_2)) (cSeqS (cSeqS (cRegS (SR225_3)) (cBlkS 0 (cLoopS (SW225_0)))) (cSeqS (cRegS (SR225_10)) (cRetS)))))
def T225 : FnT := runG en2_2 (SF225) (resQ (qc (rT g2_4) qn))
theorem T225_ok : GoodF Tryz.prog ro0 okF 225 (T225) :=
 (good_k (n := 34) acc2 (lv [0, 1, 4, 5, 6, 7, 8, 12, 29]) (rs := [ResultVar.tmp 4]) Tryz.func225 (by kernel_rfl) (by kernel_rfl) (by kernel_rfl) (by kernel_rfl) (by kernel_rfl) (by kernel_rfl) (by kernel_rfl) (by kernel_rfl) (by kernel_rfl)).enter en2_2_ok (by kernel_rfl)

/-- (*circheck/checker.search).clearMarks -/
def SR226_0 : RegS 2 := fun c t0 h0 =>
 fShal (.int .i64 0) fun v1 =>
 p2_2 t0 v1 fun t1 =>
 some (.normal, t1, h0)
def SR226_1 : RegS 2 := fun c t0 h0 =>
 kNil (g2_0 t0) h0 fun v3 h3 =>
 kFld 6 v3 h3 fun v4 h4 =>
 kLd v4 h4 fun v5 h5 =>
 kLenSl v5 h5 fun v6 h6 =>
 kLss (g2_2 t0) v6 h6 fun v7 h7 =>
 p2_9 t0 v7 fun t1 =>
 some (.normal, t1, h7)
def SR226_3 : RegS 2 := fun c t0 h0 =>
 kNil (g2_0 t0) h0 fun v2 h2 =>
 kFld 6 v2 h2 fun v3 h3 =>
 kLd v3 h3 fun v4 h4 =>
 kIdx 5 v4 (g2_2 t0) h4 fun v6 h6 =>
 kFld 2 v6 h6 fun v7 h7 =>
 kSt ro0 v7 (.bool false) h7 fun _ h8 =>
 some (.normal, t0, h8)
def SR226_2 : RegS 2 := fun c t0 h0 =>
 kAdd (g2_2 t0) (.int .i64 1) h0 fun v2 h2 =>
 fShal v2 fun v3 =>
 p2_2 t0 v3 fun t1 =>
 some (.normal, t1, h2)
def SW226_0 : CodeS 2 :=
 cSeqS (cSeqS (cRegS (SR226_1)) (cIfS g2_9 (cSkipS) (cExitS 0))) (cSeqS (cBlkS 1 (cRegS (SR226_3))) (cRegS (SR226_2)))
def SF226 : CodeS 2 :=
 cSeqS (cRegS (SR226_0)) (cBlkS 0 (cLoopS (SW226_0)))
def T226 : FnT := runG en2_1 (SF226) (resQ qn)
theorem T226_ok : GoodF Tryz.prog ro0 okF 226 (T226) :=
 (good_k (n := 19) acc2 (lv [0, 2, 9]) (rs := []) Tryz.func226 (by kernel_rfl) (by kernel_rfl) (by kernel_rfl) (by kernel_rfl) (by kernel_rfl) (by kernel_rfl) (by kernel_rfl) (by kernel_rfl) (by kernel_rfl)).enter en2_1_ok (by kernel_rfl)

/-- (*circheck/checker.search).raiseBonus -/
def SR227_0 : RegS 2 := fun c t0 h0 =>
 kNil (g2_0 t0) h0 fun v2 h2 =>
 kFld 10 v2 h2 fun v3 h3 =>
 kLd v3 h3 fun v4 h4 =>
 kNil (g2_0 t0) h4 fun v6 h6 =>
 kFld 10 v6 h6 fun v7 h7 =>
 kLd v7 h7 fun v8 h8 =>
 kOf (vInt .quo v8 (.int .i64 16) h8) fun v9 h9 =>
 kAdd v4 v9 h9 fun v10 h10 =>
 kNil (g2_0 t0) h10 fun v11 h11 =>
 kFld 10 v11 h11 fun v12 h12 =>
 kSt ro0 v12 v10 h12 fun _ h13 =>
 some (.normal, t0, h13)
def SR227_1 : RegS 2 := fun c t0 h0 =>
 kNil (g2_0 t0) h0 fun v2 h2 =>
 kFld 10 v2 h2 fun v3 h3 =>
 kLd v3 h3 fun v4 h4 =>
 kLeq v4 (.int .i64 1099511627776) h4 fun v5 h5 =>
 p2_19 t0 v5 fun t1 =>
 some (.normal, t1, h5)
def SR227_2 : RegS 2 := fun c t0 h0 =>
 kNil (g2_0 t0) h0 fun v2 h2 =>
 kFld 10 v2 h2 fun v3 h3 =>
 kLd v3 h3 fun v4 h4 =>
 kOf (vInt .quo v4 (.int .i64 68719476736) h4) fun v5 h5 =>
 kNil (g2_0 t0) h5 fun v6 h6 =>
 kFld 10 v6 h6 fun v7 h7 =>
 kSt ro0 v7 v5 h7 fun _ h8 =>
 some (.normal, t0, h8)
def SR227_3 : RegS 2 := fun c t0 h0 =>
 fShal (.int .i64 0) fun v1 =>
 p2_2 t0 v1 fun t1 =>
 some (.normal, t1, h0)
def SR227_4 : RegS 2 := fun c t0 h0 =>
 kNil (g2_0 t0) h0 fun v3 h3 =>
 kFld 6 v3 h3 fun v4 h4 =>
 kLd v4 h4 fun v5 h5 =>
 kLenSl v5 h5 fun v6 h6 =>
 kLss (g2_2 t0) v6 h6 fun v7 h7 =>
 p2_33 t0 v7 fun t1 =>
 some (.normal, t1, h7)
def SR227_6 : RegS 2 := fun c t0 h0 =>
 kNil (g2_0 t0) h0 fun v2 h2 =>
 kFld 6 v2 h2 fun v3 h3 =>
 kLd v3 h3 fun v4 h4 =>
 kIdx 5 v4 (g2_2 t0) h4 fun v6 h6 =>
 kFld 3 v6 h6 fun v7 h7 =>
 kLd v7 h7 fun v8 h8 =>
 kOf (vInt .quo v8 (.int .i64 68719476736) h8) fun v9 h9 =>
 kIdx 5 v4 (g2_2 t0) h9 fun v10 h10 =>
 kFld 3 v10 h10 fun v11 h11 =>
 kSt ro0 v11 v9 h11 fun _ h12 =>
 some (.normal, t0, h12)
def SR227_5 : RegS 2 := fun c t0 h0 =>
 kAdd (g2_2 t0) (.int .i64 1) h0 fun v2 h2 =>
 fShal v2 fun v3 =>
 p2_2 t0 v3 fun t1 =>
 some (.normal, t1, h2)
def SW227_0 : CodeS 2 :=
 cSeqS (cSeqS (cRegS (SR227_4)) (cIfS g2_33 (cSkipS) (cExitS 0))) (cSeqS (cBlkS 1 (cRegS (SR227_6))) (cRegS (SR227_5)))
def SF227 : CodeS 2 :=
 cSeqS (cRegS (SR227_0)) (cSeqS (cSeqS (cRegS (SR227_1)) (cIfS g2_19 (cRetS) (cSkipS))) (cSeqS (cRegS (SR227_2)) (cSeqS (cRegS (SR227_3)) (cBlkS 0 (cLoopS (SW227_0))))))
def T227 : FnT := runG en2_1 (SF227) (resQ qn)
theorem T227_ok : GoodF Tryz.prog ro0 okF 227 (T227) :=
 (good_k (n := 47) acc2 (lv [0, 2, 19, 33]) (rs := []) Tryz.func227 (by kernel_rfl) (by kernel_rfl) (by kernel_rfl) (by kernel_rfl) (by kernel_rfl) (by kernel_rfl) (by kernel_rfl) (by kernel_rfl) (by kernel_rfl)).enter en2_1_ok (by kernel_rfl)

/-- (*circheck/checker.search).back -/
def SR228_0 : RegS 2 := fun c t0 h0 =>
 kNil (g2_0 t0) h0 fun v3 h3 =>
 kFld 8 v3 h3 fun v4 h4 =>
 kLd v4 h4 fun v5 h5 =>
 kLenSl v5 h5 fun v6 h6 =>
 kGeq (g2_1 t0) v6 h6 fun v7 h7 =>
 p2_12 t0 v7 fun t1 =>
 some (.normal, t1, h7)
def SR228_1 : RegS 2 := fun c t0 h0 =>
 kNil (g2_0 t0) h0 fun v2 h2 =>
 kFld 8 v2 h2 fun v3 h3 =>
 kLd v3 h3 fun v4 h4 =>
 kIdx 1 v4 (g2_1 t0) h4 fun v6 h6 =>
 kLd v6 h6 fun v7 h7 =>
 fShal v7 fun v8 =>
 p2_4 t0 v8 fun t1 =>
 some (.normal, t1, h7)
def SR228_2 : RegS 2 := fun c t0 h0 =>
 fShal (g2_4 t0) fun v2 =>
 p2_5 t0 v2 fun t1 =>
 some (.normal, t1, h0)
def SR228_3 : RegS 2 := fun c t0 h0 =>
 kNil (g2_0 t0) h0 fun v3 h3 =>
 kFld 7 v3 h3 fun v4 h4 =>
 kLd v4 h4 fun v5 h5 =>
 kLenSl v5 h5 fun v6 h6 =>
 kLss (g2_5 t0) v6 h6 fun v7 h7 =>
 p2_27 t0 v7 fun t1 =>
 some (.normal, t1, h7)
def SR228_5 : RegS 2 := fun c t0 h0 =>
 kNil (g2_0 t0) h0 fun v2 h2 =>
 kFld 5 v2 h2 fun v3 h3 =>
 kLd v3 h3 fun v4 h4 =>
 kNil (g2_0 t0) h4 fun v6 h6 =>
 kFld 7 v6 h6 fun v7 h7 =>
 kLd v7 h7 fun v8 h8 =>
 kIdx 1 v8 (g2_5 t0) h8 fun v10 h10 =>
 kLd v10 h10 fun v11 h11 =>
 kIdx 1 v4 v11 h11 fun v12 h12 =>
 kSt ro0 v12 (.bool false) h12 fun _ h13 =>
 some (.normal, t0, h13)
def SR228_4 : RegS 2 := fun c t0 h0 =>
 kAdd (g2_5 t0) (.int .i64 1) h0 fun v2 h2 =>
 fShal v2 fun v3 =>
 p2_5 t0 v3 fun t1 =>
 some (.normal, t1, h2)
def SR228_6 : RegS 2 := fun c t0 h0 =>
 kNil (g2_0 t0) h0 fun v3 h3 =>
 kFld 7 v3 h3 fun v4 h4 =>
 kLd v4 h4 fun v5 h5 =>
 kAny (aSliceSl 1 (.const v5) none (some (.const (g2_4 t0)))) c h5 fun v7 h7 =>
 kNil (g2_0 t0) h7 fun v8 h8 =>
 kFld 7 v8 h8 fun v9 h9 =>
 kSt ro0 v9 v7 h9 fun _ h10 =>
 some (.normal, t0, h10)
def SR228_7 : RegS 2 := fun c t0 h0 =>
 kNil (g2_0 t0) h0 fun v3 h3 =>
 kFld 8 v3 h3 fun v4 h4 =>
 kLd v4 h4 fun v5 h5 =>
 kAny (aSliceSl 1 (.const v5) none (some (.const (g2_1 t0)))) c h5 fun v7 h7 =>
 kNil (g2_0 t0) h7 fun v8 h8 =>
 kFld 8 v8 h8 fun v9 h9 =>
 kSt ro0 v9 v7 h9 fun _ h10 =>
 some (.normal, t0, h10)
def SR228_8 : RegS 2 := fun c t0 h0 =>
 kNil (g2_0 t0) h0 fun v3 h3 =>
 kFld 9 v3 h3 fun v4 h4 =>
 kSt ro0 v4 (g2_4 t0) h4 fun _ h5 =>
 some (.normal, t0, h5)
def SW228_0 : CodeS 2 :=
 cSeqS (cSeqS (cRegS (SR228_3)) (cIfS g2_27 (cSkipS) (cExitS 0))) (cSeqS (cBlkS 1 (cRegS (SR228_5))) (cRegS (SR228_4)))
def SF228 : CodeS 2 :=
 cSeqS (cSeqS (cRegS (SR228_0)) (cIfS g2_12 (cRetS) (cSkipS))) (cSeqS (cRegS (SR228_1)) (cSeqS (cSeqS (cRegS (SR228_2)) (cBlkS 0 (cLoopS (SW228_0)))) (cSeqS (cRegS (SR228_6)) (cSeqS (cRegS (SR228_7)) (cRegS (SR228_8))))))
def T228 : FnT := runG en2_2 (SF228) (resQ qn)
theorem T228_ok : GoodF Tryz.prog ro0 okF 228 (T228) :=
 (good_k (n := 64) acc2 (lv [0, 1, 4, 5, 12, 27]) (rs := []) Tryz.func228 (by kernel_rfl) (by kernel_rfl) (by kernel_rfl) (by kernel_rfl) (by kernel_rfl) (by kernel_rfl) (by kernel_rfl) (by kernel_rfl) (by kernel_rfl)).enter en2_2_ok (by kernel_rfl)

/-- (*circheck/checker.search).makeRoom -/
def SR229_0 : RegS 3 := fun c t0 h0 =>
 kNil (g3_0 t0) h0 fun v2 h2 =>
 kFld 1 v2 h2 fun v3 h3 =>
 kLd v3 h3 fun v4 h4 =>
 kLenSl v4 h4 fun v5 h5 =>
 kNil (g3_0 t0) h5 fun v7 h7 =>
 kFld 2 v7 h7 fun v8 h8 =>
 kLd v8 h8 fun v9 h9 =>
 kSub v5 v9 h9 fun v10 h10 =>
 kNil (g3_0 t0) h10 fun v12 h12 =>
 kFld 3 v12 h12 fun v13 h13 =>
 kLd v13 h13 fun v14 h14 =>
 kLss v10 v14 h14 fun v15 h15 =>
 p3_22 t0 v15 fun t1 =>
 some (.normal, t1, h15)
def SR229_1 : RegS 3 := fun c t0 h0 =>
 kOf (c 231 [(g3_0 t0)] h0) fun v2 h2 =>
 fShal v2 fun v3 =>
 p3_2 t0 v3 fun t1 =>
 some (.normal, t1, h2)
def SR229_2 : RegS 3 := fun c t0 h0 =>
 kNil (g3_0 t0) h0 fun v2 h2 =>
 kFld 1 v2 h2 fun v3 h3 =>
 kLd v3 h3 fun v4 h4 =>
 kLenSl v4 h4 fun v5 h5 =>
 kAny (aMake tO 1 8 #[.int .i64 0] (.const v5) (.const v5)) c h5 fun v6 h6 =>
 fShal v6 fun v7 =>
 p3_3 t0 v7 fun t1 =>
 some (.normal, t1, h6)
def SR229_3 : RegS 3 := fun c t0 h0 =>
 fShal (.int .i64 0) fun v1 =>
 p3_4 t0 v1 fun t1 =>
 some (.normal, t1, h0)
def SR229_4 : RegS 3 := fun c t0 h0 =>
 fShal (.int .i64 0) fun v1 =>
 p3_5 t0 v1 fun t1 =>
 some (.normal, t1, h0)
def SR229_5 : RegS 3 := fun c t0 h0 =>
 kNil (g3_0 t0) h0 fun v3 h3 =>
 kFld 1 v3 h3 fun v4 h4 =>
 kLd v4 h4 fun v5 h5 =>
 kLenSl v5 h5 fun v6 h6 =>
 kLss (g3_5 t0) v6 h6 fun v7 h7 =>
 p3_37 t0 v7 fun t1 =>
 some (.normal, t1, h7)
def SR229_7 : RegS 3 := fun c t0 h0 =>
 kIdx 1 (g3_2 t0) (g3_5 t0) h0 fun v3 h3 =>
 kLd v3 h3 fun v4 h4 =>
 p3_43 t0 v4 fun t1 =>
 some (.normal, t1, h4)
def SR229_8 : RegS 3 := fun c t0 h0 =>
 kNil (g3_0 t0) h0 fun v2 h2 =>
 kFld 1 v2 h2 fun v3 h3 =>
 kLd v3 h3 fun v4 h4 =>
 kNil (g3_0 t0) h4 fun v7 h7 =>
 kFld 1 v7 h7 fun v8 h8 =>
 kLd v8 h8 fun v9 h9 =>
 kIdx 4 v9 (g3_5 t0) h9 fun v11 h11 =>
 kOf (vLdN 4 v11 h11) fun v12 h12 =>
 kIdx 4 v4 (g3_4 t0) h12 fun v13 h13 =>
 kAny (aSt tO ro0 4 (.const v13) (.const v12)) c h13 fun _ h14 =>
 some (.normal, t0, h14)
def SR229_9 : RegS 3 := fun c t0 h0 =>
 kIdx 1 (g3_3 t0) (g3_5 t0) h0 fun v4 h4 =>
 kSt ro0 v4 (g3_4 t0) h4 fun _ h5 =>
 some (.normal, t0, h5)
def SR229_10 : RegS 3 := fun c t0 h0 =>
 kAdd (g3_4 t0) (.int .i64 1) h0 fun v2 h2 =>
 fShal v2 fun v3 =>
 p3_4 t0 v3 fun t1 =>
 some (.normal, t1, h2)
def SR229_6 : RegS 3 := fun c t0 h0 =>
 kAdd (g3_5 t0) (.int .i64 1) h0 fun v2 h2 =>
 fShal v2 fun v3 =>
 p3_5 t0 v3 fun t1 =>
 some (.normal, t1, h2)
def SR229_11 : RegS 3 := fun c t0 h0 =>
 kNil (g3_0 t0) h0 fun v3 h3 =>
 kFld 1 v3 h3 fun v4 h4 =>
 kLd v4 h4 fun v5 h5 =>
 kAny (aSliceSl 4 (.const v5) none (some (.const (g3_4 t0)))) c h5 fun v7 h7 =>
 kNil (g3_0 t0) h7 fun v8 h8 =>
 kFld 1 v8 h8 fun v9 h9 =>
 kSt ro0 v9 v7 h9 fun _ h10 =>
 some (.normal, t0, h10)
def SR229_12 : RegS 3 := fun c t0 h0 =>
 fShal (.int .i64 0) fun v1 =>
 p3_6 t0 v1 fun t1 =>
 some (.normal, t1, h0)
def SR229_13 : RegS 3 := fun c t0 h0 =>
 kNil (g3_0 t0) h0 fun v3 h3 =>
 kFld 7 v3 h3 fun v4 h4 =>
 kLd v4 h4 fun v5 h5 =>
 kLenSl v5 h5 fun v6 h6 =>
 kLss (g3_6 t0) v6 h6 fun v7 h7 =>
 p3_78 t0 v7 fun t1 =>
 some (.normal, t1, h7)
def SR229_15 : RegS 3 := fun c t0 h0 =>
 kNil (g3_0 t0) h0 fun v2 h2 =>
 kFld 7 v2 h2 fun v3 h3 =>
 kLd v3 h3 fun v4 h4 =>
 kIdx 1 v4 (g3_6 t0) h4 fun v6 h6 =>
 kLd v6 h6 fun v7 h7 =>
 kAny (aShift .shr (.const v7) (.const (.int .u64 1))) c h7 fun v8 h8 =>
 fShal v8 fun v9 =>
 p3_7 t0 v9 fun t1 =>
 some (.normal, t1, h8)
def SR229_16 : RegS 3 := fun c t0 h0 =>
 kNil (g3_0 t0) h0 fun v2 h2 =>
 kFld 6 v2 h2 fun v3 h3 =>
 kLd v3 h3 fun v4 h4 =>
 kIdx 5 v4 (g3_7 t0) h4 fun v6 h6 =>
 kFld 1 v6 h6 fun v7 h7 =>
 kLd v7 h7 fun v8 h8 =>
 kNeq v8 (.int .i64 (-1)) h8 fun v9 h9 =>
 p3_97 t0 v9 fun t1 =>
 some (.normal, t1, h9)
def SR229_17 : RegS 3 := fun c t0 h0 =>
 kNil (g3_0 t0) h0 fun v2 h2 =>
 kFld 6 v2 h2 fun v3 h3 =>
 kLd v3 h3 fun v4 h4 =>
 kNil (g3_0 t0) h4 fun v8 h8 =>
 kFld 6 v8 h8 fun v9 h9 =>
 kLd v9 h9 fun v10 h10 =>
 kIdx 5 v10 (g3_7 t0) h10 fun v12 h12 =>
 kFld 1 v12 h12 fun v13 h13 =>
 kLd v13 h13 fun v14 h14 =>
 kIdx 1 (g3_3 t0) v14 h14 fun v15 h15 =>
 kLd v15 h15 fun v16 h16 =>
 kIdx 5 v4 (g3_7 t0) h16 fun v17 h17 =>
 kFld 1 v17 h17 fun v18 h18 =>
 kSt ro0 v18 v16 h18 fun _ h19 =>
 some (.normal, t0, h19)
def SR229_14 : RegS 3 := fun c t0 h0 =>
 kAdd (g3_6 t0) (.int .i64 1) h0 fun v2 h2 =>
 fShal v2 fun v3 =>
 p3_6 t0 v3 fun t1 =>
 some (.normal, t1, h2)
def SR229_18 : RegS 3 := fun c t0 h0 =>
 kOf (c 232 [(g3_0 t0)] h0) fun v2 h2 =>
 some (.normal, t0, h2)
def SW229_0 : CodeS 3 :=
 cSeqS (cSeqS (cRegS (SR229_5)) (cIfS g3_37 (cSkipS) (cExitS 0))) (cSeqS (cBlkS 1 (cSeqS (cRegS (SR229_7)) (cIfS g3_43 (cSeqS (cRegS (SR229_8)) (cSeqS (cRegS (SR229_9)) (cRegS (SR229_10)))) (cSkipS)))) (cRegS (SR229_6)))
def SW229_1 : CodeS 3 :=
 cSeqS (cSeqS (cRegS (SR229_13)) (cIfS g3_78 (cSkipS) (cExitS 2))) (cSeqS (cBlkS 3 (cSeqS (cRegS (SR229_15)) (cSeqS (cRegS (SR229_16)) (cIfS g3_97 (cRegS (SR229_17)) (cSkipS))))) (cRegS (SR229_14)))
def SF229 : CodeS 3 :=
 cSeqS (cSeqS (cRegS (SR229_0)) (cIfS g3_22 (cRetS) (cSkipS))) (cSeqS (cRegS (SR229_1)) (cSeqS (cRegS (SR229_2)) (cSeqS (cRegS (SR229_3)) (cSeqS (cSeqS (cRegS (SR229_4)) (cBlkS 0 (cLoopS (SW229_0)))) (cSeqS (cRegS (SR229_11)) (cSeqS (cSeqS (cRegS (SR229_12)) (cBlkS 2 (cLoopS (SW229_1)))) (cRegS (SR229_18))))))))
def T229 : FnT := runG en3_1 (SF229) (resQ qn)
theorem T229_ok : GoodF Tryz.prog ro0 okF 229 (T229) :=
 (good_k (n := 118) acc3 (lv [0, 2, 3, 4, 5, 6, 7, 22, 37, 43, 78, 97]) (rs := []) Tryz.func229 (by kernel_rfl) (by kernel_rfl) (by kernel_rfl) (by kernel_rfl) (by kernel_rfl) (by kernel_rfl) (by kernel_rfl) (by kernel_rfl) (by kernel_rfl)).enter en3_1_ok (by kernel_rfl)
end Go.Proofs.YtimdkminagnhgabGreatDoor
