/-
  The program itself for the kernel, function by function. Printed by program; the kernel checks each. Own work.
-/
import Derived.Test.YtimdkminagnhgabGreatDoorLsA
namespace Go.Proofs.YtimdkminagnhgabGreatDoor
open Go.Vm Go.Proofs
set_option linter.unusedVariables false
set_option maxRecDepth 100000

/-- internal/strconv.numDigits -/
def SR165_0 : RegS 2 := fun c t0 h0 =>
 fShal (.int .i64 0) fun v1 =>
 p2_2 t0 v1 fun t1 =>
 some (.normal, t1, h0)
def SR165_1 : RegS 2 := fun c t0 h0 =>
 kOf (c 197 [(g2_0 t0)] h0) fun v2 h2 =>
 kOf (c 196 [v2] h2) fun v3 h3 =>
 fShal v3 fun v4 =>
 p2_3 t0 v4 fun t1 =>
 some (.normal, t1, h3)
def SR165_2 : RegS 2 := fun c t0 h0 =>
 kAny (aIdxArr 20 1 (.const (.pointer (some ⟨0, 0, none⟩))) (.const (g2_3 t0))) c h0 fun v4 h4 =>
 kLd v4 h4 fun v5 h5 =>
 kGeq (g2_0 t0) v5 h5 fun v6 h6 =>
 kOf (c 198 [v6] h6) fun v7 h7 =>
 kAdd (g2_3 t0) v7 h7 fun v8 h8 =>
 fShal v8 fun v9 =>
 p2_2 t0 v9 fun t1 =>
 some (.normal, t1, h8)
def SF165 : CodeS 2 :=
 cSeqS (cRegS (SR165_0)) (cSeqS (cRegS (SR165_1)) (cSeqS (cRegS (SR165_2)) (cRetS)))
def T165 : FnT := runG en2_1 (SF165) (resQ (qc (rT g2_2) qn))
theorem T165_ok : GoodF Tryz.prog ro0 okF 165 (T165) :=
 (good_k (n := 15) acc2 (lv [0, 2, 3]) (rs := [ResultVar.tmp 2]) Tryz.func165 (by kernel_rfl) (by kernel_rfl) (by kernel_rfl) (by kernel_rfl) (by kernel_rfl) (by kernel_rfl) (by kernel_rfl) (by kernel_rfl) (by kernel_rfl)).enter en2_1_ok (by kernel_rfl)

/-- internal/strconv.formatBase10 -/
def SR166_0 : RegS 3 := fun c t0 h0 =>
 kLenSl (g3_0 t0) h0 fun v2 h2 =>
 fShal v2 fun v3 =>
 p3_4 t0 v3 fun t1 =>
 some (.normal, t1, h2)
def SR166_1 : RegS 3 := fun c t0 h0 =>
 kGeq (g3_4 t0) (.int .i64 8) h0 fun v2 h2 =>
 p3_20 t0 v2 fun t1 =>
 some (.normal, t1, h2)
def SR166_2 : RegS 3 := fun c t0 h0 =>
 kOf (vInt .rem (g3_1 t0) (.int .u64 100000000) h0) fun v2 h2 =>
 kAny (aConv .u32 (.const v2)) c h2 fun v3 h3 =>
 fShal v3 fun v4 =>
 p3_5 t0 v4 fun t1 =>
 some (.normal, t1, h3)
def SR166_3 : RegS 3 := fun c t0 h0 =>
 kOf (vInt .quo (g3_1 t0) (.int .u64 100000000) h0) fun v2 h2 =>
 fShal v2 fun v3 =>
 p3_1 t0 v3 fun t1 =>
 some (.normal, t1, h2)
def SR166_4 : RegS 3 := fun c t0 h0 =>
 kOf (vInt .quo (g3_5 t0) (.int .u32 10000) h0) fun v2 h2 =>
 kOf (vInt .rem (g3_5 t0) (.int .u32 10000) h2) fun v4 h4 =>
 fShal v2 fun v5 =>
 p3_6 t0 v5 fun t1 =>
 fShal v4 fun v6 =>
 p3_7 t1 v6 fun t2 =>
 some (.normal, t2, h4)
def SR166_5 : RegS 3 := fun c t0 h0 =>
 kOf (vInt .quo (g3_7 t0) (.int .u32 100) h0) fun v2 h2 =>
 kOf (vInt .mul v2 (.int .u32 2) h2) fun v3 h3 =>
 kOf (vInt .rem (g3_7 t0) (.int .u32 100) h3) fun v5 h5 =>
 kOf (vInt .mul v5 (.int .u32 2) h5) fun v6 h6 =>
 fShal v3 fun v7 =>
 p3_8 t0 v7 fun t1 =>
 fShal v6 fun v8 =>
 p3_9 t1 v8 fun t2 =>
 some (.normal, t2, h6)
def SR166_6 : RegS 3 := fun c t0 h0 =>
 kOf (vInt .quo (g3_6 t0) (.int .u32 100) h0) fun v2 h2 =>
 kOf (vInt .mul v2 (.int .u32 2) h2) fun v3 h3 =>
 kOf (vInt .rem (g3_6 t0) (.int .u32 100) h3) fun v5 h5 =>
 kOf (vInt .mul v5 (.int .u32 2) h5) fun v6 h6 =>
 fShal v3 fun v7 =>
 p3_10 t0 v7 fun t1 =>
 fShal v6 fun v8 =>
 p3_11 t1 v8 fun t2 =>
 some (.normal, t2, h6)
def SR166_7 : RegS 3 := fun c t0 h0 =>
 kSub (g3_4 t0) (.int .i64 1) h0 fun v3 h3 =>
 kSub (g3_4 t0) (.int .i64 2) h3 fun v6 h6 =>
 kAdd (g3_9 t0) (.int .u32 1) h6 fun v8 h8 =>
 kIdxStr (.string strC200) v8 h8 fun v9 h9 =>
 kIdxStr (.string strC200) (g3_9 t0) h9 fun v11 h11 =>
 kIdx 1 (g3_0 t0) v3 h11 fun v12 h12 =>
 kSt ro0 v12 v9 h12 fun _ h13 =>
 kIdx 1 (g3_0 t0) v6 h13 fun v14 h14 =>
 kSt ro0 v14 v11 h14 fun _ h15 =>
 some (.normal, t0, h15)
def SR166_8 : RegS 3 := fun c t0 h0 =>
 kSub (g3_4 t0) (.int .i64 3) h0 fun v3 h3 =>
 kSub (g3_4 t0) (.int .i64 4) h3 fun v6 h6 =>
 kAdd (g3_8 t0) (.int .u32 1) h6 fun v8 h8 =>
 kIdxStr (.string strC200) v8 h8 fun v9 h9 =>
 kIdxStr (.string strC200) (g3_8 t0) h9 fun v11 h11 =>
 kIdx 1 (g3_0 t0) v3 h11 fun v12 h12 =>
 kSt ro0 v12 v9 h12 fun _ h13 =>
 kIdx 1 (g3_0 t0) v6 h13 fun v14 h14 =>
 kSt ro0 v14 v11 h14 fun _ h15 =>
 some (.normal, t0, h15)
def SR166_9 : RegS 3 := fun c t0 h0 =>
 kSub (g3_4 t0) (.int .i64 5) h0 fun v3 h3 =>
 kSub (g3_4 t0) (.int .i64 6) h3 fun v6 h6 =>
 kAdd (g3_11 t0) (.int .u32 1) h6 fun v8 h8 =>
 kIdxStr (.string strC200) v8 h8 fun v9 h9 =>
 kIdxStr (.string strC200) (g3_11 t0) h9 fun v11 h11 =>
 kIdx 1 (g3_0 t0) v3 h11 fun v12 h12 =>
 kSt ro0 v12 v9 h12 fun _ h13 =>
 kIdx 1 (g3_0 t0) v6 h13 fun v14 h14 =>
 kSt ro0 v14 v11 h14 fun _ h15 =>
 some (.normal, t0, h15)
def SR166_10 : RegS 3 := fun c t0 h0 =>
 kSub (g3_4 t0) (.int .i64 7) h0 fun v3 h3 =>
 kSub (g3_4 t0) (.int .i64 8) h3 fun v6 h6 =>
 kAdd (g3_10 t0) (.int .u32 1) h6 fun v8 h8 =>
 kIdxStr (.string strC200) v8 h8 fun v9 h9 =>
 kIdxStr (.string strC200) (g3_10 t0) h9 fun v11 h11 =>
 kIdx 1 (g3_0 t0) v3 h11 fun v12 h12 =>
 kSt ro0 v12 v9 h12 fun _ h13 =>
 kIdx 1 (g3_0 t0) v6 h13 fun v14 h14 =>
 kSt ro0 v14 v11 h14 fun _ h15 =>
 some (.normal, t0, h15)
def SR166_11 : RegS 3 := fun c t0 h0 =>
 kSub (g3_4 t0) (.int .i64 8) h0 fun v2 h2 =>
 fShal v2 fun v3 =>
 p3_4 t0 v3 fun t1 =>
 some (.normal, t1, h2)
def SR166_12 : RegS 3 := fun c t0 h0 =>
 kAny (aConv .u32 (.const (g3_1 t0))) c h0 fun v2 h2 =>
 fShal v2 fun v3 =>
 p3_12 t0 v3 fun t1 =>
 some (.normal, t1, h2)
def SR166_13 : RegS 3 := fun c t0 h0 =>
 kGeq (g3_4 t0) (.int .i64 4) h0 fun v2 h2 =>
 p3_99 t0 v2 fun t1 =>
 some (.normal, t1, h2)
def SR166_14 : RegS 3 := fun c t0 h0 =>
 kOf (vInt .rem (g3_12 t0) (.int .u32 10000) h0) fun v2 h2 =>
 fShal v2 fun v3 =>
 p3_13 t0 v3 fun t1 =>
 some (.normal, t1, h2)
def SR166_15 : RegS 3 := fun c t0 h0 =>
 kOf (vInt .quo (g3_12 t0) (.int .u32 10000) h0) fun v2 h2 =>
 fShal v2 fun v3 =>
 p3_12 t0 v3 fun t1 =>
 some (.normal, t1, h2)
def SR166_16 : RegS 3 := fun c t0 h0 =>
 kOf (vInt .quo (g3_13 t0) (.int .u32 100) h0) fun v2 h2 =>
 kOf (vInt .mul v2 (.int .u32 2) h2) fun v3 h3 =>
 kOf (vInt .rem (g3_13 t0) (.int .u32 100) h3) fun v5 h5 =>
 kOf (vInt .mul v5 (.int .u32 2) h5) fun v6 h6 =>
 fShal v3 fun v7 =>
 p3_14 t0 v7 fun t1 =>
 fShal v6 fun v8 =>
 p3_15 t1 v8 fun t2 =>
 some (.normal, t2, h6)
def SR166_17 : RegS 3 := fun c t0 h0 =>
 kSub (g3_4 t0) (.int .i64 1) h0 fun v3 h3 =>
 kSub (g3_4 t0) (.int .i64 2) h3 fun v6 h6 =>
 kAdd (g3_15 t0) (.int .u32 1) h6 fun v8 h8 =>
 kIdxStr (.string strC200) v8 h8 fun v9 h9 =>
 kIdxStr (.string strC200) (g3_15 t0) h9 fun v11 h11 =>
 kIdx 1 (g3_0 t0) v3 h11 fun v12 h12 =>
 kSt ro0 v12 v9 h12 fun _ h13 =>
 kIdx 1 (g3_0 t0) v6 h13 fun v14 h14 =>
 kSt ro0 v14 v11 h14 fun _ h15 =>
 some (.normal, t0, h15)
def SR166_18 : RegS 3 := fun c t0 h0 =>
 kSub (g3_4 t0) (.int .i64 3) h0 fun v3 h3 =>
 kSub (g3_4 t0) (.int .i64 4) h3 fun v6 h6 =>
 kAdd (g3_14 t0) (.int .u32 1) h6 fun v8 h8 =>
 kIdxStr (.string strC200) v8 h8 fun v9 h9 =>
 kIdxStr (.string strC200) (g3_14 t0) h9 fun v11 h11 =>
 kIdx 1 (g3_0 t0) v3 h11 fun v12 h12 =>
 kSt ro0 v12 v9 h12 fun _ h13 =>
 kIdx 1 (g3_0 t0) v6 h13 fun v14 h14 =>
 kSt ro0 v14 v11 h14 fun _ h15 =>
 some (.normal, t0, h15)
def SR166_19 : RegS 3 := fun c t0 h0 =>
 kSub (g3_4 t0) (.int .i64 4) h0 fun v2 h2 =>
 fShal v2 fun v3 =>
 p3_4 t0 v3 fun t1 =>
 some (.normal, t1, h2)
def SR166_20 : RegS 3 := fun c t0 h0 =>
 kGeq (g3_4 t0) (.int .i64 2) h0 fun v2 h2 =>
 p3_139 t0 v2 fun t1 =>
 some (.normal, t1, h2)
def SR166_21 : RegS 3 := fun c t0 h0 =>
 kOf (vInt .rem (g3_12 t0) (.int .u32 100) h0) fun v2 h2 =>
 kOf (vInt .mul v2 (.int .u32 2) h2) fun v3 h3 =>
 fShal v3 fun v4 =>
 p3_16 t0 v4 fun t1 =>
 some (.normal, t1, h3)
def SR166_22 : RegS 3 := fun c t0 h0 =>
 kOf (vInt .quo (g3_12 t0) (.int .u32 100) h0) fun v2 h2 =>
 fShal v2 fun v3 =>
 p3_12 t0 v3 fun t1 =>
 some (.normal, t1, h2)
def SR166_23 : RegS 3 := fun c t0 h0 =>
 kSub (g3_4 t0) (.int .i64 1) h0 fun v3 h3 =>
 kSub (g3_4 t0) (.int .i64 2) h3 fun v6 h6 =>
 kAdd (g3_16 t0) (.int .u32 1) h6 fun v8 h8 =>
 kIdxStr (.string strC200) v8 h8 fun v9 h9 =>
 kIdxStr (.string strC200) (g3_16 t0) h9 fun v11 h11 =>
 kIdx 1 (g3_0 t0) v3 h11 fun v12 h12 =>
 kSt ro0 v12 v9 h12 fun _ h13 =>
 kIdx 1 (g3_0 t0) v6 h13 fun v14 h14 =>
 kSt ro0 v14 v11 h14 fun _ h15 =>
 some (.normal, t0, h15)
def SR166_24 : RegS 3 := fun c t0 h0 =>
 kSub (g3_4 t0) (.int .i64 2) h0 fun v2 h2 =>
 fShal v2 fun v3 =>
 p3_4 t0 v3 fun t1 =>
 some (.normal, t1, h2)
def SR166_25 : RegS 3 := fun c t0 h0 =>
 kGtr (g3_4 t0) (.int .i64 0) h0 fun v2 h2 =>
 p3_161 t0 v2 fun t1 =>
 some (.normal, t1, h2)
def SR166_26 : RegS 3 := fun c t0 h0 =>
 kAdd (.int .u32 48) (g3_12 t0) h0 fun v3 h3 =>
 kAny (aConv .u8 (.const v3)) c h3 fun v4 h4 =>
 kIdx 1 (g3_0 t0) (.int .i64 0) h4 fun v5 h5 =>
 kSt ro0 v5 v4 h5 fun _ h6 =>
 some (.normal, t0, h6)
def SW166_0 : CodeS 3 :=
 cSeqS (cSeqS (cRegS (SR166_1)) (cIfS g3_20 (cSkipS) (cExitS 0))) (cBlkS 1 (cSeqS (cRegS (SR166_2)) (cSeqS (cRegS (SR166_3)) (cSeqS (cRegS (SR166_4)) (cSeqS (cRegS (SR166_5)) (cSeqS (cRegS (SR166_6)) (cSeqS (cRegS (SR166_7)) (cSeqS (cRegS (SR166_8)) (cSeqS (cRegS (SR166_9)) (cSeqS (cRegS (SR166_10)) (cRegS (SR166_11))))))))))))
def SF166 : CodeS 3 :=
 cSeqS (cRegS (SR166_0)) (cSeqS (cBlkS 0 (cLoopS (SW166_0))) (cSeqS (cRegS (SR166_12)) (cSeqS (cSeqS (cRegS (SR166_13)) (cIfS g3_99 (cSeqS (cRegS (SR166_14)) (cSeqS (cRegS (SR166_15)) (cSeqS (cRegS (SR166_16)) (cSeqS (cRegS (SR166_17)) (cSeqS (cRegS (SR166_18)) (cRegS (SR166_19))))))) (cSkipS))) (cSeqS (cSeqS (cRegS (SR166_20)) (cIfS g3_139 (cSeqS (cRegS (SR166_21)) (cSeqS (cRegS (SR166_22)) (cSeqS (cRegS (SR166_23)) (cRegS (SR166_24))))) (cSkipS))) (cSeqS (cRegS (SR166_25)) (cIfS g3_161 (cRegS (SR166_26)) (cSkipS)))))))
def T166 : FnT := runG en3_2 (SF166) (resQ qn)
theorem T166_ok : GoodF Tryz.prog ro0 okF 166 (T166) :=
 (good_k (n := 167) acc3 (lv [0, 1, 4, 5, 6, 7, 8, 9, 10, 11, 12, 13, 14, 15, 16, 20, 99, 139, 161]) (rs := []) Tryz.func166 (by kernel_rfl) (by kernel_rfl) (by kernel_rfl) (by kernel_rfl) (by kernel_rfl) (by kernel_rfl) (by kernel_rfl) (by kernel_rfl) (by kernel_rfl)).enter en3_2_ok (by kernel_rfl)

/-- internal/strconv.formatBits -/
def SR167_0 : RegS 3 := fun c t0 h0 =>
 fShal (.slice none 0 0) fun v1 =>
 p3_10 t0 v1 fun t1 =>
 fShal (.string { data := #[] }) fun v2 =>
 p3_11 t1 v2 fun t2 =>
 some (.normal, t2, h0)
def SR167_1 : RegS 3 := fun c t0 h0 =>
 kLss (g3_2 t0) (.int .i64 2) h0 fun v2 h2 =>
 kIf v2 false (fun k => k (g3_2 t0) h2) h2 fun v4 h4 =>
 kIf v2 false (fun k => kEql v4 (.int .i64 10) h4 k) h4 fun v5 h5 =>
 kPick v2 (.bool true) v5 h5 fun v6 h6 =>
 kIf v6 false (fun k => k (g3_2 t0) h6) h6 fun v8 h8 =>
 kIf v6 false (fun k => kGtr v8 (.int .i64 36) h8 k) h8 fun v9 h9 =>
 kPick v6 (.bool true) v9 h9 fun v10 h10 =>
 p3_28 t0 v10 fun t1 =>
 some (.normal, t1, h10)
def SR167_2 : RegS 3 := fun c t0 h0 =>
 none
def SR167_3 : RegS 3 := fun c t0 h0 =>
 kNew [.int .u8 0, .int .u8 0, .int .u8 0, .int .u8 0, .int .u8 0, .int .u8 0, .int .u8 0, .int .u8 0, .int .u8 0, .int .u8 0, .int .u8 0, .int .u8 0, .int .u8 0, .int .u8 0, .int .u8 0, .int .u8 0, .int .u8 0, .int .u8 0, .int .u8 0, .int .u8 0, .int .u8 0, .int .u8 0, .int .u8 0, .int .u8 0, .int .u8 0, .int .u8 0, .int .u8 0, .int .u8 0, .int .u8 0, .int .u8 0, .int .u8 0, .int .u8 0, .int .u8 0, .int .u8 0, .int .u8 0, .int .u8 0, .int .u8 0, .int .u8 0, .int .u8 0, .int .u8 0, .int .u8 0, .int .u8 0, .int .u8 0, .int .u8 0, .int .u8 0, .int .u8 0, .int .u8 0, .int .u8 0, .int .u8 0, .int .u8 0, .int .u8 0, .int .u8 0, .int .u8 0, .int .u8 0, .int .u8 0, .int .u8 0, .int .u8 0, .int .u8 0, .int .u8 0, .int .u8 0, .int .u8 0, .int .u8 0, .int .u8 0, .int .u8 0, .int .u8 0] h0 fun v1 h1 =>
 p3_12 t0 v1 fun t1 =>
 some (.normal, t1, h1)
def SR167_4 : RegS 3 := fun c t0 h0 =>
 fShal (.int .i64 65) fun v1 =>
 p3_13 t0 v1 fun t1 =>
 some (.normal, t1, h0)
def SR167_5 : RegS 3 := fun c t0 h0 =>
 fShal (g3_3 t0) fun v1 =>
 p3_30 t0 v1 fun t1 =>
 some (.normal, t1, h0)
def SR167_6 : RegS 3 := fun c t0 h0 =>
 kAny (aUn .neg (.const (g3_1 t0))) c h0 fun v2 h2 =>
 fShal v2 fun v3 =>
 p3_1 t0 v3 fun t1 =>
 some (.normal, t1, h2)
def SR167_7 : RegS 3 := fun c t0 h0 =>
 kOf (c 199 [(g3_2 t0)] h0) fun v2 h2 =>
 p3_34 t0 v2 fun t1 =>
 some (.normal, t1, h2)
def SR167_8 : RegS 3 := fun c t0 h0 =>
 kAny (aConv .u64 (.const (g3_2 t0))) c h0 fun v2 h2 =>
 kOf (c 200 [v2] h2) fun v3 h3 =>
 kAny (aConv .u64 (.const v3)) c h3 fun v4 h4 =>
 fShal v4 fun v5 =>
 p3_14 t0 v5 fun t1 =>
 some (.normal, t1, h4)
def SR167_9 : RegS 3 := fun c t0 h0 =>
 kAny (aConv .u64 (.const (g3_2 t0))) c h0 fun v2 h2 =>
 fShal v2 fun v3 =>
 p3_15 t0 v3 fun t1 =>
 some (.normal, t1, h2)
def SR167_10 : RegS 3 := fun c t0 h0 =>
 kAny (aConv .u64 (.const (g3_2 t0))) c h0 fun v2 h2 =>
 kSub v2 (.int .u64 1) h2 fun v3 h3 =>
 fShal v3 fun v4 =>
 p3_16 t0 v4 fun t1 =>
 some (.normal, t1, h3)
def SR167_11 : RegS 3 := fun c t0 h0 =>
 kGeq (g3_1 t0) (g3_15 t0) h0 fun v3 h3 =>
 p3_46 t0 v3 fun t1 =>
 some (.normal, t1, h3)
def SR167_12 : RegS 3 := fun c t0 h0 =>
 kSub (g3_13 t0) (.int .i64 1) h0 fun v2 h2 =>
 fShal v2 fun v3 =>
 p3_13 t0 v3 fun t1 =>
 some (.normal, t1, h2)
def SR167_13 : RegS 3 := fun c t0 h0 =>
 kOf (vInt .and (g3_1 t0) (g3_16 t0) h0) fun v4 h4 =>
 kIdxStr (.string { data := #[48, 49, 50, 51, 52, 53, 54, 55, 56, 57, 97, 98, 99, 100, 101, 102, 103, 104, 105, 106, 107, 108, 109, 110, 111, 112, 113, 114, 115, 116, 117, 118, 119, 120, 121, 122] }) v4 h4 fun v5 h5 =>
 kAny (aIdxArr 65 1 (.const (g3_12 t0)) (.const (g3_13 t0))) c h5 fun v6 h6 =>
 kSt ro0 v6 v5 h6 fun _ h7 =>
 some (.normal, t0, h7)
def SR167_14 : RegS 3 := fun c t0 h0 =>
 kAny (aShift .shr (.const (g3_1 t0)) (.const (g3_14 t0))) c h0 fun v3 h3 =>
 fShal v3 fun v4 =>
 p3_1 t0 v4 fun t1 =>
 some (.normal, t1, h3)
def SR167_15 : RegS 3 := fun c t0 h0 =>
 kSub (g3_13 t0) (.int .i64 1) h0 fun v2 h2 =>
 fShal v2 fun v3 =>
 p3_13 t0 v3 fun t1 =>
 some (.normal, t1, h2)
def SR167_16 : RegS 3 := fun c t0 h0 =>
 kIdxStr (.string { data := #[48, 49, 50, 51, 52, 53, 54, 55, 56, 57, 97, 98, 99, 100, 101, 102, 103, 104, 105, 106, 107, 108, 109, 110, 111, 112, 113, 114, 115, 116, 117, 118, 119, 120, 121, 122] }) (g3_1 t0) h0 fun v3 h3 =>
 kAny (aIdxArr 65 1 (.const (g3_12 t0)) (.const (g3_13 t0))) c h3 fun v4 h4 =>
 kSt ro0 v4 v3 h4 fun _ h5 =>
 some (.normal, t0, h5)
def SR167_17 : RegS 3 := fun c t0 h0 =>
 kAny (aConv .u64 (.const (g3_2 t0))) c h0 fun v2 h2 =>
 fShal v2 fun v3 =>
 p3_17 t0 v3 fun t1 =>
 some (.normal, t1, h2)
def SR167_18 : RegS 3 := fun c t0 h0 =>
 kGeq (g3_1 t0) (g3_17 t0) h0 fun v3 h3 =>
 p3_68 t0 v3 fun t1 =>
 some (.normal, t1, h3)
def SR167_19 : RegS 3 := fun c t0 h0 =>
 kSub (g3_13 t0) (.int .i64 1) h0 fun v2 h2 =>
 fShal v2 fun v3 =>
 p3_13 t0 v3 fun t1 =>
 some (.normal, t1, h2)
def SR167_20 : RegS 3 := fun c t0 h0 =>
 kOf (vInt .quo (g3_1 t0) (g3_17 t0) h0) fun v3 h3 =>
 fShal v3 fun v4 =>
 p3_18 t0 v4 fun t1 =>
 some (.normal, t1, h3)
def SR167_21 : RegS 3 := fun c t0 h0 =>
 kOf (vInt .mul (g3_18 t0) (g3_17 t0) h0) fun v5 h5 =>
 kSub (g3_1 t0) v5 h5 fun v6 h6 =>
 kIdxStr (.string { data := #[48, 49, 50, 51, 52, 53, 54, 55, 56, 57, 97, 98, 99, 100, 101, 102, 103, 104, 105, 106, 107, 108, 109, 110, 111, 112, 113, 114, 115, 116, 117, 118, 119, 120, 121, 122] }) v6 h6 fun v7 h7 =>
 kAny (aIdxArr 65 1 (.const (g3_12 t0)) (.const (g3_13 t0))) c h7 fun v8 h8 =>
 kSt ro0 v8 v7 h8 fun _ h9 =>
 some (.normal, t0, h9)
def SR167_22 : RegS 3 := fun c t0 h0 =>
 fShal (g3_18 t0) fun v2 =>
 p3_1 t0 v2 fun t1 =>
 some (.normal, t1, h0)
def SR167_23 : RegS 3 := fun c t0 h0 =>
 kSub (g3_13 t0) (.int .i64 1) h0 fun v2 h2 =>
 fShal v2 fun v3 =>
 p3_13 t0 v3 fun t1 =>
 some (.normal, t1, h2)
def SR167_24 : RegS 3 := fun c t0 h0 =>
 kIdxStr (.string { data := #[48, 49, 50, 51, 52, 53, 54, 55, 56, 57, 97, 98, 99, 100, 101, 102, 103, 104, 105, 106, 107, 108, 109, 110, 111, 112, 113, 114, 115, 116, 117, 118, 119, 120, 121, 122] }) (g3_1 t0) h0 fun v3 h3 =>
 kAny (aIdxArr 65 1 (.const (g3_12 t0)) (.const (g3_13 t0))) c h3 fun v4 h4 =>
 kSt ro0 v4 v3 h4 fun _ h5 =>
 some (.normal, t0, h5)
def SR167_25 : RegS 3 := fun c t0 h0 =>
 fShal (g3_3 t0) fun v1 =>
 p3_89 t0 v1 fun t1 =>
 some (.normal, t1, h0)
def SR167_26 : RegS 3 := fun c t0 h0 =>
 kSub (g3_13 t0) (.int .i64 1) h0 fun v2 h2 =>
 fShal v2 fun v3 =>
 p3_13 t0 v3 fun t1 =>
 some (.normal, t1, h2)
def SR167_27 : RegS 3 := fun c t0 h0 =>
 kAny (aIdxArr 65 1 (.const (g3_12 t0)) (.const (g3_13 t0))) c h0 fun v2 h2 =>
 kSt ro0 v2 (.int .u8 45) h2 fun _ h3 =>
 some (.normal, t0, h3)
def SR167_28 : RegS 3 := fun c t0 h0 =>
 fShal (g3_4 t0) fun v1 =>
 p3_94 t0 v1 fun t1 =>
 some (.normal, t1, h0)
def SR167_29 : RegS 3 := fun c t0 h0 =>
 kAny (aSliceArr tO 65 1 (.const (g3_12 t0)) (some (.const (g3_13 t0))) none) c h0 fun v3 h3 =>
 kOf (vApp ro0 1 1 (g3_0 t0) v3 h3) fun v4 h4 =>
 fShal v4 fun v5 =>
 p3_10 t0 v5 fun t1 =>
 some (.normal, t1, h4)
def SR167_30 : RegS 3 := fun c t0 h0 =>
 kAny (aSliceArr tO 65 1 (.const (g3_12 t0)) (some (.const (g3_13 t0))) none) c h0 fun v2 h2 =>
 kAny (aB2S tO (.const v2)) c h2 fun v3 h3 =>
 fShal v3 fun v4 =>
 p3_11 t0 v4 fun t1 =>
 some (.normal, t1, h3)
def SW167_0 : CodeS 3 :=
 cSeqS (cSeqS (cRegS (SR167_11)) (cIfS g3_46 (cSkipS) (cExitS 0))) (cBlkS 1 (cSeqS (cRegS (SR167_12)) (cSeqS (cRegS (SR167_13)) (cRegS (SR167_14)))))
def SW167_1 : CodeS 3 :=
 cSeqS (cSeqS (cRegS (SR167_18)) (cIfS g3_68 (cSkipS) (cExitS 2))) (cBlkS 3 (cSeqS (cRegS (SR167_19)) (cSeqS (cRegS (SR167_20)) (cSeqS (cRegS (SR167_21)) (cRegS (SR167_22))))))
def SF167 : CodeS 3 :=
 cSeqS (cRegS (SR167_0)) (cSeqS (cSeqS (cRegS (SR167_1)) (cIfS g3_28 (cRegS (SR167_2)) (cSkipS))) (cSeqS (cRegS (SR167_3)) (cSeqS (cRegS (SR167_4)) (cSeqS (cSeqS (cRegS (SR167_5)) (cIfS g3_30 (cRegS (SR167_6)) (cSkipS))) (cSeqS (cSeqS (cRegS (SR167_7)) (cIfS g3_34 (cSeqS (cRegS (SR167_8)) (cSeqS (cRegS (SR167_9)) (cSeqS (cRegS (SR167_10)) (cSeqS (cBlkS 0 (cLoopS (SW167_0))) (cSeqS (cRegS (SR167_15)) (cRegS (SR167_16))))))) (cSeqS (cRegS (SR167_17)) (cSeqS (cBlkS 2 (cLoopS (SW167_1))) (cSeqS (cRegS (SR167_23)) (cRegS (SR167_24))))))) (cSeqS (cSeqS (cRegS (SR167_25)) (cIfS g3_89 (cSeqS (cRegS (SR167_26)) (cRegS (SR167_27))) (cSkipS))) (cSeqS (cSeqS (cRegS (SR167_28)) (cIfS g3_94 (cSeqS (cRegS (SR167_29)) (cRetS)) (cSkipS))) (cSeqS (cRegS (SR167_30)) (cRetS)))))))))
def T167 : FnT := runG en3_5 (SF167) (resQ (qc (rT g3_10) (qc (rT g3_11) qn)))
theorem T167_ok : GoodF Tryz.prog ro0 okF 167 (T167) :=
 (good_k (n := 102) acc3 (lv [0, 1, 2, 3, 4, 10, 11, 12, 13, 14, 15, 16, 17, 18, 28, 30, 34, 46, 68, 89, 94]) (rs := [ResultVar.tmp 10, ResultVar.tmp 11]) Tryz.func167 (by kernel_rfl) (by kernel_rfl) (by kernel_rfl) (by kernel_rfl) (by kernel_rfl) (by kernel_rfl) (by kernel_rfl) (by kernel_rfl) (by kernel_rfl)).enter en3_5_ok (by kernel_rfl)

/-- circheck/checker.newSearch -/
def SR186_0 : RegS 2 := fun c t0 h0 =>
 fShal (.pointer none) fun v1 =>
 p2_4 t0 v1 fun t1 =>
 some (.normal, t1, h0)
def SR186_1 : RegS 2 := fun c t0 h0 =>
 kBuild #[.slice none 0 0, .slice none 0 0, .int .i64 0, .int .i64 0, .slice none 0 0, .slice none 0 0, .slice none 0 0, .slice none 0 0, .slice none 0 0, .int .i64 0, .int .i64 0, .int .i64 0, .slice none 0 0] [(0, 1), (1, 1), (2, 1), (3, 1), (4, 1), (5, 1), (6, 1), (7, 1), (8, 1), (9, 1), (10, 1), (11, 1), (12, 1)] [(0, (g2_1 t0)), (3, (.int .i64 4000)), (10, (.int .i64 16))] h0 fun v2 h2 =>
 kBox v2 h2 fun v3 h3 =>
 fShal v3 fun v4 =>
 p2_5 t0 v4 fun t1 =>
 some (.normal, t1, h3)
def SR186_2 : RegS 2 := fun c t0 h0 =>
 kLenSl (g2_0 t0) h0 fun v3 h3 =>
 kOf (vInt .mul (.int .i64 2) v3 h3) fun v4 h4 =>
 kAny (aMake tO 1 24 #[.slice none 0 0] (.const v4) (.const v4)) c h4 fun v5 h5 =>
 kNil (g2_5 t0) h5 fun v6 h6 =>
 kFld 4 v6 h6 fun v7 h7 =>
 kSt ro0 v7 v5 h7 fun _ h8 =>
 some (.normal, t0, h8)
def SR186_3 : RegS 2 := fun c t0 h0 =>
 kLenSl (g2_0 t0) h0 fun v3 h3 =>
 kOf (vInt .mul (.int .i64 2) v3 h3) fun v4 h4 =>
 kAny (aMake tO 1 1 #[.bool false] (.const v4) (.const v4)) c h4 fun v5 h5 =>
 kNil (g2_5 t0) h5 fun v6 h6 =>
 kFld 5 v6 h6 fun v7 h7 =>
 kSt ro0 v7 v5 h7 fun _ h8 =>
 some (.normal, t0, h8)
def SR186_4 : RegS 2 := fun c t0 h0 =>
 kLenSl (g2_0 t0) h0 fun v3 h3 =>
 kAny (aMake tO 5 40 #[.int .i64 0, .int .i64 0, .bool false, .int .i64 0, .bool false] (.const v3) (.const v3)) c h3 fun v4 h4 =>
 kNil (g2_5 t0) h4 fun v5 h5 =>
 kFld 6 v5 h5 fun v6 h6 =>
 kSt ro0 v6 v4 h6 fun _ h7 =>
 some (.normal, t0, h7)
def SR186_5 : RegS 2 := fun c t0 h0 =>
 fShal (.int .i64 0) fun v1 =>
 p2_6 t0 v1 fun t1 =>
 some (.normal, t1, h0)
def SR186_6 : RegS 2 := fun c t0 h0 =>
 kLenSl (g2_0 t0) h0 fun v3 h3 =>
 kLss (g2_6 t0) v3 h3 fun v4 h4 =>
 p2_33 t0 v4 fun t1 =>
 some (.normal, t1, h4)
def SR186_8 : RegS 2 := fun c t0 h0 =>
 kIdx 1 (g2_0 t0) (g2_6 t0) h0 fun v3 h3 =>
 kLd v3 h3 fun v4 h4 =>
 p2_39 t0 v4 fun t1 =>
 some (.normal, t1, h4)
def SR186_9 : RegS 2 := fun c t0 h0 =>
 kNil (g2_5 t0) h0 fun v2 h2 =>
 kFld 6 v2 h2 fun v3 h3 =>
 kLd v3 h3 fun v4 h4 =>
 kIdx 5 v4 (g2_6 t0) h4 fun v6 h6 =>
 kFld 3 v6 h6 fun v7 h7 =>
 kSt ro0 v7 (.int .i64 1) h7 fun _ h8 =>
 some (.normal, t0, h8)
def SR186_7 : RegS 2 := fun c t0 h0 =>
 kAdd (g2_6 t0) (.int .i64 1) h0 fun v2 h2 =>
 fShal v2 fun v3 =>
 p2_6 t0 v3 fun t1 =>
 some (.normal, t1, h2)
def SR186_10 : RegS 2 := fun c t0 h0 =>
 fShal (g2_5 t0) fun v2 =>
 p2_4 t0 v2 fun t1 =>
 some (.normal, t1, h0)
def SW186_0 : CodeS 2 :=
 cSeqS (cSeqS (cRegS (SR186_6)) (cIfS g2_33 (cSkipS) (cExitS 0))) (cSeqS (cBlkS 1 (cSeqS (cRegS (SR186_8)) (cIfS g2_39 (cRegS (SR186_9)) (cSkipS)))) (cRegS (SR186_7)))
def SF186 : CodeS 2 :=
 cSeqS (cRegS (SR186_0)) (cSeqS (cRegS (SR186_1)) (cSeqS (cRegS (SR186_2)) (cSeqS (cRegS (SR186_3)) (cSeqS (cRegS (SR186_4)) (cSeqS (cSeqS (cRegS (SR186_5)) (cBlkS 0 (cLoopS (SW186_0)))) (cSeqS (cRegS (SR186_10)) (cRetS)))))))
def T186 : FnT := runG en2_2 (SF186) (resQ (qc (rT g2_4) qn))
theorem T186_ok : GoodF Tryz.prog ro0 okF 186 (T186) :=
 (good_k (n := 48) acc2 (lv [0, 1, 4, 5, 6, 33, 39]) (rs := [ResultVar.tmp 4]) Tryz.func186 (by kernel_rfl) (by kernel_rfl) (by kernel_rfl) (by kernel_rfl) (by kernel_rfl) (by kernel_rfl) (by kernel_rfl) (by kernel_rfl) (by kernel_rfl)).enter en2_2_ok (by kernel_rfl)

/-- (*circheck/checker.search).answer -/
def SR187_0 : RegS 2 := fun c t0 h0 =>
 fShal (.int .i64 0) fun v1 =>
 p2_6 t0 v1 fun t1 =>
 some (.normal, t1, h0)
def SR187_1 : RegS 2 := fun c t0 h0 =>
 kOf (c 202 [(g2_0 t0), (g2_1 t0)] h0) fun v3 h3 =>
 fShal v3 fun v4 =>
 p2_7 t0 v4 fun t1 =>
 some (.normal, t1, h3)
def SR187_2 : RegS 2 := fun c t0 h0 =>
 fShal (.int .i64 0) fun v1 =>
 p2_8 t0 v1 fun t1 =>
 some (.normal, t1, h0)
def SR187_3 : RegS 2 := fun c t0 h0 =>
 kEql (g2_8 t0) (.int .i64 0) h0 fun v2 h2 =>
 p2_13 t0 v2 fun t1 =>
 some (.normal, t1, h2)
def SR187_4 : RegS 2 := fun c t0 h0 =>
 kEql (g2_7 t0) (.int .i64 (-1)) h0 fun v2 h2 =>
 p2_15 t0 v2 fun t1 =>
 some (.normal, t1, h2)
def SR187_5 : RegS 2 := fun c t0 h0 =>
 kOf (c 203 [(g2_0 t0)] h0) fun v2 h2 =>
 fShal v2 fun v3 =>
 p2_7 t0 v3 fun t1 =>
 some (.normal, t1, h2)
def SR187_6 : RegS 2 := fun c t0 h0 =>
 kEql (g2_7 t0) (.int .i64 (-1)) h0 fun v2 h2 =>
 p2_19 t0 v2 fun t1 =>
 some (.normal, t1, h2)
def SR187_7 : RegS 2 := fun c t0 h0 =>
 kOf (c 204 [(g2_0 t0)] h0) fun v2 h2 =>
 fShal v2 fun v3 =>
 p2_8 t0 v3 fun t1 =>
 some (.normal, t1, h2)
def SR187_8 : RegS 2 := fun c t0 h0 =>
 kOf (c 205 [(g2_0 t0), (g2_7 t0), (g2_2 t0)] h0) fun v4 h4 =>
 fShal v4 fun v5 =>
 p2_8 t0 v5 fun t1 =>
 some (.normal, t1, h4)
def SR187_9 : RegS 2 := fun c t0 h0 =>
 fShal (.int .i64 (-1)) fun v1 =>
 p2_7 t0 v1 fun t1 =>
 some (.normal, t1, h0)
def SR187_10 : RegS 2 := fun c t0 h0 =>
 fShal (g2_8 t0) fun v2 =>
 p2_6 t0 v2 fun t1 =>
 some (.normal, t1, h0)
def SW187_0 : CodeS 2 :=
 cSeqS (cSeqS (cRegS (SR187_3)) (cIfS g2_13 (cSkipS) (cExitS 0))) (cBlkS 1 (cSeqS (cSeqS (cRegS (SR187_4)) (cIfS g2_15 (cRegS (SR187_5)) (cSkipS))) (cSeqS (cRegS (SR187_6)) (cIfS g2_19 (cRegS (SR187_7)) (cSeqS (cRegS (SR187_8)) (cRegS (SR187_9)))))))
def SF187 : CodeS 2 :=
 cSeqS (cRegS (SR187_0)) (cSeqS (cRegS (SR187_1)) (cSeqS (cRegS (SR187_2)) (cSeqS (cBlkS 0 (cLoopS (SW187_0))) (cSeqS (cRegS (SR187_10)) (cRetS)))))
def T187 : FnT := runG en2_3 (SF187) (resQ (qc (rT g2_6) qn))
theorem T187_ok : GoodF Tryz.prog ro0 okF 187 (T187) :=
 (good_k (n := 27) acc2 (lv [0, 1, 2, 6, 7, 8, 13, 15, 19]) (rs := [ResultVar.tmp 6]) Tryz.func187 (by kernel_rfl) (by kernel_rfl) (by kernel_rfl) (by kernel_rfl) (by kernel_rfl) (by kernel_rfl) (by kernel_rfl) (by kernel_rfl) (by kernel_rfl)).enter en2_3_ok (by kernel_rfl)

/-- (*circheck/checker.search).model -/
def SR188_0 : RegS 2 := fun c t0 h0 =>
 fShal (.slice none 0 0) fun v1 =>
 p2_2 t0 v1 fun t1 =>
 some (.normal, t1, h0)
def SR188_1 : RegS 2 := fun c t0 h0 =>
 kMkSl 1 0 #[.bool false] [] h0 fun v1 h1 =>
 fShal v1 fun v2 =>
 p2_3 t0 v2 fun t1 =>
 some (.normal, t1, h1)
def SR188_2 : RegS 2 := fun c t0 h0 =>
 fShal (.int .i64 0) fun v1 =>
 p2_4 t0 v1 fun t1 =>
 some (.normal, t1, h0)
def SR188_3 : RegS 2 := fun c t0 h0 =>
 kNil (g2_0 t0) h0 fun v3 h3 =>
 kFld 6 v3 h3 fun v4 h4 =>
 kLd v4 h4 fun v5 h5 =>
 kLenSl v5 h5 fun v6 h6 =>
 kLss (g2_4 t0) v6 h6 fun v7 h7 =>
 p2_12 t0 v7 fun t1 =>
 some (.normal, t1, h7)
def SR188_5 : RegS 2 := fun c t0 h0 =>
 kNil (g2_0 t0) h0 fun v3 h3 =>
 kFld 5 v3 h3 fun v4 h4 =>
 kLd v4 h4 fun v5 h5 =>
 kOf (vInt .mul (.int .i64 2) (g2_4 t0) h5) fun v7 h7 =>
 kIdx 1 v5 v7 h7 fun v8 h8 =>
 kLd v8 h8 fun v9 h9 =>
 kMkSl 1 1 #[.bool false] [(0, v9)] h9 fun v10 h10 =>
 kOf (vApp ro0 1 1 (g2_3 t0) v10 h10) fun v11 h11 =>
 fShal v11 fun v12 =>
 p2_3 t0 v12 fun t1 =>
 some (.normal, t1, h11)
def SR188_4 : RegS 2 := fun c t0 h0 =>
 kAdd (g2_4 t0) (.int .i64 1) h0 fun v2 h2 =>
 fShal v2 fun v3 =>
 p2_4 t0 v3 fun t1 =>
 some (.normal, t1, h2)
def SR188_6 : RegS 2 := fun c t0 h0 =>
 fShal (g2_3 t0) fun v2 =>
 p2_2 t0 v2 fun t1 =>
 some (.normal, t1, h0)
def SW188_0 : CodeS 2 :=
 cSeqS (cSeqS (cRegS (SR188_3)) (cIfS g2_12 (cSkipS) (cExitS 0))) (cSeqS (cBlkS 1 (cRegS (SR188_5))) (cRegS (SR188_4)))
def SF188 : CodeS 2 :=
 cSeqS (cRegS (SR188_0)) (cSeqS (cRegS (SR188_1)) (cSeqS (cSeqS (cRegS (SR188_2)) (cBlkS 0 (cLoopS (SW188_0)))) (cSeqS (cRegS (SR188_6)) (cRetS))))
def T188 : FnT := runG en2_1 (SF188) (resQ (qc (rT g2_2) qn))
theorem T188_ok : GoodF Tryz.prog ro0 okF 188 (T188) :=
 (good_k (n := 27) acc2 (lv [0, 2, 3, 4, 12]) (rs := [ResultVar.tmp 2]) Tryz.func188 (by kernel_rfl) (by kernel_rfl) (by kernel_rfl) (by kernel_rfl) (by kernel_rfl) (by kernel_rfl) (by kernel_rfl) (by kernel_rfl) (by kernel_rfl)).enter en2_1_ok (by kernel_rfl)

/-- (*circheck/checker.frame).bits -/
def SR191_0 : RegS 2 := fun c t0 h0 =>
 fShal (.int .i64 0) fun v1 =>
 p2_6 t0 v1 fun t1 =>
 some (.normal, t1, h0)
def SR191_1 : RegS 2 := fun c t0 h0 =>
 fShal (.int .i64 0) fun v1 =>
 p2_7 t0 v1 fun t1 =>
 some (.normal, t1, h0)
def SR191_2 : RegS 2 := fun c t0 h0 =>
 fShal (.int .i64 0) fun v1 =>
 p2_8 t0 v1 fun t1 =>
 some (.normal, t1, h0)
def SR191_3 : RegS 2 := fun c t0 h0 =>
 kLss (g2_8 t0) (g2_2 t0) h0 fun v3 h3 =>
 p2_13 t0 v3 fun t1 =>
 some (.normal, t1, h3)
def SR191_5 : RegS 2 := fun c t0 h0 =>
 kNil (g2_0 t0) h0 fun v2 h2 =>
 kFld 0 v2 h2 fun v3 h3 =>
 kLd v3 h3 fun v4 h4 =>
 kAdd (g2_1 t0) (g2_8 t0) h4 fun v7 h7 =>
 kOf (c 153 [v4, v7] h7) fun v8 h8 =>
 kExt 0 v8 h8 fun v10 h10 =>
 kExt 1 v8 h10 fun v11 h11 =>
 fShal v10 fun v12 =>
 p2_9 t0 v12 fun t1 =>
 some (.normal, t1, h11)
def SR191_6 : RegS 2 := fun c t0 h0 =>
 fShal (g2_9 t0) fun v1 =>
 p2_27 t0 v1 fun t1 =>
 some (.normal, t1, h0)
def SR191_7 : RegS 2 := fun c t0 h0 =>
 kAny (aShift .shl (.const (.int .i64 1)) (.const (g2_8 t0))) c h0 fun v3 h3 =>
 kOf (vInt .or (g2_7 t0) v3 h3) fun v4 h4 =>
 fShal v4 fun v5 =>
 p2_7 t0 v5 fun t1 =>
 some (.normal, t1, h4)
def SR191_4 : RegS 2 := fun c t0 h0 =>
 kAdd (g2_8 t0) (.int .i64 1) h0 fun v2 h2 =>
 fShal v2 fun v3 =>
 p2_8 t0 v3 fun t1 =>
 some (.normal, t1, h2)
def SR191_8 : RegS 2 := fun c t0 h0 =>
 fShal (g2_7 t0) fun v2 =>
 p2_6 t0 v2 fun t1 =>
 some (.normal, t1, h0)
def SW191_0 : CodeS 2 :=
 cSeqS (cSeqS (cRegS (SR191_3)) (cIfS g2_13 (cSkipS) (cExitS 0))) (cSeqS (cBlkS 1 (cSeqS (cRegS (SR191_5)) (cSeqS (cRegS (SR191_6)) (cIfS g2_27 (cRegS (SR191_7)) (cSkipS))))) (cRegS (SR191_4)))
def SF191 : CodeS 2 :=
 cSeqS (cRegS (SR191_0)) (cSeqS (cRegS (SR191_1)) (cSeqS (cSeqS (cRegS (SR191_2)) (cBlkS 0 (cLoopS (SW191_0)))) (cSeqS (cRegS (SR191_8)) (cRetS))))
def T191 : FnT := runG en2_3 (SF191) (resQ (qc (rT g2_6) qn))
theorem T191_ok : GoodF Tryz.prog ro0 okF 191 (T191) :=
 (good_k (n := 33) acc2 (lv [0, 1, 2, 6, 7, 8, 9, 13, 27]) (rs := [ResultVar.tmp 6]) Tryz.func191 (by kernel_rfl) (by kernel_rfl) (by kernel_rfl) (by kernel_rfl) (by kernel_rfl) (by kernel_rfl) (by kernel_rfl) (by kernel_rfl) (by kernel_rfl)).enter en2_3_ok (by kernel_rfl)

/-- circheck/checker.firstPlaces -/
def SR192_0 : RegS 2 := fun c t0 h0 =>
 fShal (.slice none 0 0) fun v1 =>
 p2_4 t0 v1 fun t1 =>
 some (.normal, t1, h0)
def SR192_1 : RegS 2 := fun c t0 h0 =>
 kLenSl (g2_0 t0) h0 fun v2 h2 =>
 kAny (aMake tO 1 1 #[.bool false] (.const v2) (.const v2)) c h2 fun v3 h3 =>
 fShal v3 fun v4 =>
 p2_5 t0 v4 fun t1 =>
 some (.normal, t1, h3)
def SR192_2 : RegS 2 := fun c t0 h0 =>
 fShal (.int .i64 0) fun v1 =>
 p2_6 t0 v1 fun t1 =>
 some (.normal, t1, h0)
def SR192_3 : RegS 2 := fun c t0 h0 =>
 kLenSl (g2_1 t0) h0 fun v3 h3 =>
 kLss (g2_6 t0) v3 h3 fun v4 h4 =>
 p2_14 t0 v4 fun t1 =>
 some (.normal, t1, h4)
def SR192_5 : RegS 2 := fun c t0 h0 =>
 fShal (.int .i64 0) fun v1 =>
 p2_7 t0 v1 fun t1 =>
 some (.normal, t1, h0)
def SR192_6 : RegS 2 := fun c t0 h0 =>
 kLenSl (g2_0 t0) h0 fun v3 h3 =>
 kLss (g2_7 t0) v3 h3 fun v4 h4 =>
 p2_20 t0 v4 fun t1 =>
 some (.normal, t1, h4)
def SR192_8 : RegS 2 := fun c t0 h0 =>
 kIdx 1 (g2_0 t0) (g2_7 t0) h0 fun v3 h3 =>
 kLd v3 h3 fun v4 h4 =>
 kIdx 1 (g2_1 t0) (g2_6 t0) h4 fun v7 h7 =>
 kLd v7 h7 fun v8 h8 =>
 kEql v4 v8 h8 fun v9 h9 =>
 p2_31 t0 v9 fun t1 =>
 some (.normal, t1, h9)
def SR192_9 : RegS 2 := fun c t0 h0 =>
 kIdx 1 (g2_5 t0) (g2_7 t0) h0 fun v3 h3 =>
 kSt ro0 v3 (.bool true) h3 fun _ h4 =>
 some (.normal, t0, h4)
def SR192_7 : RegS 2 := fun c t0 h0 =>
 kAdd (g2_7 t0) (.int .i64 1) h0 fun v2 h2 =>
 fShal v2 fun v3 =>
 p2_7 t0 v3 fun t1 =>
 some (.normal, t1, h2)
def SR192_4 : RegS 2 := fun c t0 h0 =>
 kAdd (g2_6 t0) (.int .i64 1) h0 fun v2 h2 =>
 fShal v2 fun v3 =>
 p2_6 t0 v3 fun t1 =>
 some (.normal, t1, h2)
def SR192_10 : RegS 2 := fun c t0 h0 =>
 fShal (g2_5 t0) fun v2 =>
 p2_4 t0 v2 fun t1 =>
 some (.normal, t1, h0)
def SW192_0 : CodeS 2 :=
 cSeqS (cSeqS (cRegS (SR192_6)) (cIfS g2_20 (cSkipS) (cExitS 2))) (cSeqS (cBlkS 3 (cSeqS (cRegS (SR192_8)) (cIfS g2_31 (cSeqS (cRegS (SR192_9)) (cExitS 2)) (cSkipS)))) (cRegS (SR192_7)))
def SW192_1 : CodeS 2 :=
 cSeqS (cSeqS (cRegS (SR192_3)) (cIfS g2_14 (cSkipS) (cExitS 0))) (cSeqS (cBlkS 1 (cSeqS (cRegS (SR192_5)) (cBlkS 2 (cLoopS (SW192_0))))) (cRegS (SR192_4)))
def SF192 : CodeS 2 :=
 cSeqS (cRegS (SR192_0)) (cSeqS (cRegS (SR192_1)) (cSeqS (cSeqS (cRegS (SR192_2)) (cBlkS 0 (cLoopS (SW192_1)))) (cSeqS (cRegS (SR192_10)) (cRetS))))
def T192 : FnT := runG en2_2 (SF192) (resQ (qc (rT g2_4) qn))
theorem T192_ok : GoodF Tryz.prog ro0 okF 192 (T192) :=
 (good_k (n := 36) acc2 (lv [0, 1, 4, 5, 6, 7, 14, 20, 31]) (rs := [ResultVar.tmp 4]) Tryz.func192 (by kernel_rfl) (by kernel_rfl) (by kernel_rfl) (by kernel_rfl) (by kernel_rfl) (by kernel_rfl) (by kernel_rfl) (by kernel_rfl) (by kernel_rfl)).enter en2_2_ok (by kernel_rfl)

/-- (*circheck/checker.Circuit).beginsTrue -/
def SR193_0 : RegS 2 := fun c t0 h0 =>
 fShal (.bool false) fun v1 =>
 p2_4 t0 v1 fun t1 =>
 some (.normal, t1, h0)
def SR193_1 : RegS 2 := fun c t0 h0 =>
 kNil (g2_0 t0) h0 fun v2 h2 =>
 kFld 1 v2 h2 fun v3 h3 =>
 kLd v3 h3 fun v4 h4 =>
 kAny (aShift .shr (.const (g2_1 t0)) (.const (.int .u64 1))) c h4 fun v6 h6 =>
 kIdx 2 v4 v6 h6 fun v7 h7 =>
 kFld 1 v7 h7 fun v8 h8 =>
 kLd v8 h8 fun v9 h9 =>
 fShal v9 fun v10 =>
 p2_5 t0 v10 fun t1 =>
 some (.normal, t1, h9)
def SR193_2 : RegS 2 := fun c t0 h0 =>
 kNeq (g2_5 t0) (.int .i64 2) h0 fun v2 h2 =>
 kIf v2 true (fun k => k (g2_5 t0) h2) h2 fun v4 h4 =>
 kIf v2 true (fun k => k (g2_1 t0) h4) h4 fun v5 h5 =>
 kIf v2 true (fun k => kOf (vInt .and v5 (.int .i64 1) h5) k) h5 fun v6 h6 =>
 kIf v2 true (fun k => kNeq v4 v6 h6 k) h6 fun v7 h7 =>
 kPick v2 v7 (.bool false) h7 fun v8 h8 =>
 fShal v8 fun v9 =>
 p2_4 t0 v9 fun t1 =>
 some (.normal, t1, h8)
def SF193 : CodeS 2 :=
 cSeqS (cRegS (SR193_0)) (cSeqS (cRegS (SR193_1)) (cSeqS (cRegS (SR193_2)) (cRetS)))
def T193 : FnT := runG en2_2 (SF193) (resQ (qc (rT g2_4) qn))
theorem T193_ok : GoodF Tryz.prog ro0 okF 193 (T193) :=
 (good_k (n := 23) acc2 (lv [0, 1, 4, 5]) (rs := [ResultVar.tmp 4]) Tryz.func193 (by kernel_rfl) (by kernel_rfl) (by kernel_rfl) (by kernel_rfl) (by kernel_rfl) (by kernel_rfl) (by kernel_rfl) (by kernel_rfl) (by kernel_rfl)).enter en2_2_ok (by kernel_rfl)

/-- (*circheck/checker.frame).drop -/
def SR194_0 : RegS 2 := fun c t0 h0 =>
 fShal (.bool false) fun v1 =>
 p2_4 t0 v1 fun t1 =>
 some (.normal, t1, h0)
def SR194_1 : RegS 2 := fun c t0 h0 =>
 kMkSl 1 0 #[.slice none 0 0] [] h0 fun v1 h1 =>
 fShal v1 fun v2 =>
 p2_5 t0 v2 fun t1 =>
 some (.normal, t1, h1)
def SR194_2 : RegS 2 := fun c t0 h0 =>
 fShal (.int .i64 0) fun v1 =>
 p2_6 t0 v1 fun t1 =>
 some (.normal, t1, h0)
def SR194_3 : RegS 2 := fun c t0 h0 =>
 kNil (g2_0 t0) h0 fun v3 h3 =>
 kFld 1 v3 h3 fun v4 h4 =>
 kLd v4 h4 fun v5 h5 =>
 kLenSl v5 h5 fun v6 h6 =>
 kLss (g2_6 t0) v6 h6 fun v7 h7 =>
 p2_15 t0 v7 fun t1 =>
 some (.normal, t1, h7)
def SR194_5 : RegS 2 := fun c t0 h0 =>
 kNil (g2_0 t0) h0 fun v2 h2 =>
 kFld 1 v2 h2 fun v3 h3 =>
 kLd v3 h3 fun v4 h4 =>
 kIdx 1 v4 (g2_6 t0) h4 fun v6 h6 =>
 kLd v6 h6 fun v7 h7 =>
 kOf (c 208 [v7, (g2_1 t0)] h7) fun v9 h9 =>
 kNot v9 h9 fun v10 h10 =>
 p2_27 t0 v10 fun t1 =>
 some (.normal, t1, h10)
def SR194_6 : RegS 2 := fun c t0 h0 =>
 kNil (g2_0 t0) h0 fun v3 h3 =>
 kFld 1 v3 h3 fun v4 h4 =>
 kLd v4 h4 fun v5 h5 =>
 kIdx 1 v5 (g2_6 t0) h5 fun v7 h7 =>
 kLd v7 h7 fun v8 h8 =>
 kMkSl 1 1 #[.slice none 0 0] [(0, v8)] h8 fun v9 h9 =>
 kOf (vApp ro0 1 24 (g2_5 t0) v9 h9) fun v10 h10 =>
 fShal v10 fun v11 =>
 p2_5 t0 v11 fun t1 =>
 some (.normal, t1, h10)
def SR194_4 : RegS 2 := fun c t0 h0 =>
 kAdd (g2_6 t0) (.int .i64 1) h0 fun v2 h2 =>
 fShal v2 fun v3 =>
 p2_6 t0 v3 fun t1 =>
 some (.normal, t1, h2)
def SR194_7 : RegS 2 := fun c t0 h0 =>
 kLenSl (g2_5 t0) h0 fun v2 h2 =>
 kNil (g2_0 t0) h2 fun v4 h4 =>
 kFld 1 v4 h4 fun v5 h5 =>
 kLd v5 h5 fun v6 h6 =>
 kLenSl v6 h6 fun v7 h7 =>
 kLss v2 v7 h7 fun v8 h8 =>
 fShal v8 fun v9 =>
 p2_7 t0 v9 fun t1 =>
 some (.normal, t1, h8)
def SR194_8 : RegS 2 := fun c t0 h0 =>
 kNil (g2_0 t0) h0 fun v3 h3 =>
 kFld 1 v3 h3 fun v4 h4 =>
 kSt ro0 v4 (g2_5 t0) h4 fun _ h5 =>
 some (.normal, t0, h5)
def SR194_9 : RegS 2 := fun c t0 h0 =>
 fShal (g2_7 t0) fun v2 =>
 p2_4 t0 v2 fun t1 =>
 some (.normal, t1, h0)
def SW194_0 : CodeS 2 :=
 cSeqS (cSeqS (cRegS (SR194_3)) (cIfS g2_15 (cSkipS) (cExitS 0))) (cSeqS (cBlkS 1 (cSeqS (cRegS (SR194_5)) (cIfS g2_27 (cRegS (SR194_6)) (cSkipS)))) (cRegS (SR194_4)))
def SF194 : CodeS 2 :=
 cSeqS (cRegS (SR194_0)) (cSeqS (cRegS (SR194_1)) (cSeqS (cSeqS (cRegS (SR194_2)) (cBlkS 0 (cLoopS (SW194_0)))) (cSeqS (cRegS (SR194_7)) (cSeqS (cRegS (SR194_8)) (cSeqS (cRegS (SR194_9)) (cRetS))))))
def T194 : FnT := runG en2_2 (SF194) (resQ (qc (rT g2_4) qn))
theorem T194_ok : GoodF Tryz.prog ro0 okF 194 (T194) :=
 (good_k (n := 51) acc2 (lv [0, 1, 4, 5, 6, 7, 15, 27]) (rs := [ResultVar.tmp 4]) Tryz.func194 (by kernel_rfl) (by kernel_rfl) (by kernel_rfl) (by kernel_rfl) (by kernel_rfl) (by kernel_rfl) (by kernel_rfl) (by kernel_rfl) (by kernel_rfl)).enter en2_2_ok (by kernel_rfl)

/-- (*circheck/checker.frame).add -/
def SR195_0 : RegS 2 := fun c t0 h0 =>
 kMkSl 1 0 #[.int .i64 0] [] h0 fun v1 h1 =>
 fShal v1 fun v2 =>
 p2_6 t0 v2 fun t1 =>
 some (.normal, t1, h1)
def SR195_1 : RegS 2 := fun c t0 h0 =>
 fShal (.int .i64 0) fun v1 =>
 p2_7 t0 v1 fun t1 =>
 some (.normal, t1, h0)
def SR195_2 : RegS 2 := fun c t0 h0 =>
 kLenSl (g2_2 t0) h0 fun v3 h3 =>
 kLss (g2_7 t0) v3 h3 fun v4 h4 =>
 p2_13 t0 v4 fun t1 =>
 some (.normal, t1, h4)
def SR195_4 : RegS 2 := fun c t0 h0 =>
 kIdx 1 (g2_2 t0) (g2_7 t0) h0 fun v4 h4 =>
 kLd v4 h4 fun v5 h5 =>
 kAny (aShift .shr (.const v5) (.const (.int .u64 1))) c h5 fun v6 h6 =>
 kOf (c 47 [(g2_1 t0), v6] h6) fun v7 h7 =>
 fShal v7 fun v8 =>
 p2_8 t0 v8 fun t1 =>
 some (.normal, t1, h7)
def SR195_5 : RegS 2 := fun c t0 h0 =>
 kIdx 1 (g2_2 t0) (g2_7 t0) h0 fun v5 h5 =>
 kLd v5 h5 fun v6 h6 =>
 kOf (vInt .and v6 (.int .i64 1) h6) fun v7 h7 =>
 kOf (vInt .xor (g2_8 t0) v7 h7) fun v8 h8 =>
 kMkSl 1 1 #[.int .i64 0] [(0, v8)] h8 fun v9 h9 =>
 kOf (vApp ro0 1 8 (g2_6 t0) v9 h9) fun v10 h10 =>
 fShal v10 fun v11 =>
 p2_6 t0 v11 fun t1 =>
 some (.normal, t1, h10)
def SR195_3 : RegS 2 := fun c t0 h0 =>
 kAdd (g2_7 t0) (.int .i64 1) h0 fun v2 h2 =>
 fShal v2 fun v3 =>
 p2_7 t0 v3 fun t1 =>
 some (.normal, t1, h2)
def SR195_6 : RegS 2 := fun c t0 h0 =>
 kNil (g2_0 t0) h0 fun v2 h2 =>
 kFld 0 v2 h2 fun v3 h3 =>
 kLd v3 h3 fun v4 h4 =>
 kOf (c 122 [v4, (g2_6 t0)] h4) fun v6 h6 =>
 some (.normal, t0, h6)
def SW195_0 : CodeS 2 :=
 cSeqS (cSeqS (cRegS (SR195_2)) (cIfS g2_13 (cSkipS) (cExitS 0))) (cSeqS (cBlkS 1 (cSeqS (cRegS (SR195_4)) (cRegS (SR195_5)))) (cRegS (SR195_3)))
def SF195 : CodeS 2 :=
 cSeqS (cRegS (SR195_0)) (cSeqS (cSeqS (cRegS (SR195_1)) (cBlkS 0 (cLoopS (SW195_0)))) (cRegS (SR195_6)))
def T195 : FnT := runG en2_3 (SF195) (resQ qn)
theorem T195_ok : GoodF Tryz.prog ro0 okF 195 (T195) :=
 (good_k (n := 39) acc2 (lv [0, 1, 2, 6, 7, 8, 13]) (rs := []) Tryz.func195 (by kernel_rfl) (by kernel_rfl) (by kernel_rfl) (by kernel_rfl) (by kernel_rfl) (by kernel_rfl) (by kernel_rfl) (by kernel_rfl) (by kernel_rfl)).enter en2_3_ok (by kernel_rfl)

/-- internal/strconv.log10Pow2 -/
def SR196_0 : RegS 1 := fun c t0 h0 =>
 fShal (.int .i64 0) fun v1 =>
 p1_2 t0 v1 fun t1 =>
 some (.normal, t1, h0)
def SR196_1 : RegS 1 := fun c t0 h0 =>
 kOf (vInt .mul (g1_0 t0) (.int .i64 78913) h0) fun v2 h2 =>
 kAny (aShift .shr (.const v2) (.const (.int .u64 18))) c h2 fun v3 h3 =>
 fShal v3 fun v4 =>
 p1_2 t0 v4 fun t1 =>
 some (.normal, t1, h3)
def SF196 : CodeS 1 :=
 cSeqS (cRegS (SR196_0)) (cSeqS (cRegS (SR196_1)) (cRetS))
def T196 : FnT := runG en1_1 (SF196) (resQ (qc (rT g1_2) qn))
theorem T196_ok : GoodF Tryz.prog ro0 okF 196 (T196) :=
 (good_k (n := 6) acc1 (lv [0, 2]) (rs := [ResultVar.tmp 2]) Tryz.func196 (by kernel_rfl) (by kernel_rfl) (by kernel_rfl) (by kernel_rfl) (by kernel_rfl) (by kernel_rfl) (by kernel_rfl) (by kernel_rfl) (by kernel_rfl)).enter en1_1_ok (by kernel_rfl)

/-- math/bits.Len64 -/
def SR197_0 : RegS 2 := fun c t0 h0 =>
 fShal (.int .i64 0) fun v1 =>
 p2_2 t0 v1 fun t1 =>
 some (.normal, t1, h0)
def SR197_1 : RegS 2 := fun c t0 h0 =>
 kGeq (g2_0 t0) (.int .u64 4294967296) h0 fun v2 h2 =>
 p2_4 t0 v2 fun t1 =>
 some (.normal, t1, h2)
def SR197_2 : RegS 2 := fun c t0 h0 =>
 kAny (aShift .shr (.const (g2_0 t0)) (.const (.int .u64 32))) c h0 fun v2 h2 =>
 fShal v2 fun v3 =>
 p2_0 t0 v3 fun t1 =>
 some (.normal, t1, h2)
def SR197_3 : RegS 2 := fun c t0 h0 =>
 fShal (.int .i64 32) fun v1 =>
 p2_2 t0 v1 fun t1 =>
 some (.normal, t1, h0)
def SR197_4 : RegS 2 := fun c t0 h0 =>
 kGeq (g2_0 t0) (.int .u64 65536) h0 fun v2 h2 =>
 p2_8 t0 v2 fun t1 =>
 some (.normal, t1, h2)
def SR197_5 : RegS 2 := fun c t0 h0 =>
 kAny (aShift .shr (.const (g2_0 t0)) (.const (.int .u64 16))) c h0 fun v2 h2 =>
 fShal v2 fun v3 =>
 p2_0 t0 v3 fun t1 =>
 some (.normal, t1, h2)
def SR197_6 : RegS 2 := fun c t0 h0 =>
 kAdd (g2_2 t0) (.int .i64 16) h0 fun v2 h2 =>
 fShal v2 fun v3 =>
 p2_2 t0 v3 fun t1 =>
 some (.normal, t1, h2)
def SR197_7 : RegS 2 := fun c t0 h0 =>
 kGeq (g2_0 t0) (.int .u64 256) h0 fun v2 h2 =>
 p2_14 t0 v2 fun t1 =>
 some (.normal, t1, h2)
def SR197_8 : RegS 2 := fun c t0 h0 =>
 kAny (aShift .shr (.const (g2_0 t0)) (.const (.int .u64 8))) c h0 fun v2 h2 =>
 fShal v2 fun v3 =>
 p2_0 t0 v3 fun t1 =>
 some (.normal, t1, h2)
def SR197_9 : RegS 2 := fun c t0 h0 =>
 kAdd (g2_2 t0) (.int .i64 8) h0 fun v2 h2 =>
 fShal v2 fun v3 =>
 p2_2 t0 v3 fun t1 =>
 some (.normal, t1, h2)
def SR197_10 : RegS 2 := fun c t0 h0 =>
 kAny (aConv .u8 (.const (g2_0 t0))) c h0 fun v3 h3 =>
 kIdxStr (.string strC256) v3 h3 fun v4 h4 =>
 kConv v4 h4 fun v5 h5 =>
 kAdd (g2_2 t0) v5 h5 fun v6 h6 =>
 fShal v6 fun v7 =>
 p2_2 t0 v7 fun t1 =>
 some (.normal, t1, h6)
def SF197 : CodeS 2 :=
 cSeqS (cRegS (SR197_0)) (cSeqS (cSeqS (cRegS (SR197_1)) (cIfS g2_4 (cSeqS (cRegS (SR197_2)) (cRegS (SR197_3))) (cSkipS))) (cSeqS (cSeqS (cRegS (SR197_4)) (cIfS g2_8 (cSeqS (cRegS (SR197_5)) (cRegS (SR197_6))) (cSkipS))) (cSeqS (cSeqS (cRegS (SR197_7)) (cIfS g2_14 (cSeqS (cRegS (SR197_8)) (cRegS (SR197_9))) (cSkipS))) (cSeqS (cRegS (SR197_10)) (cRetS)))))
def T197 : FnT := runG en2_1 (SF197) (resQ (qc (rT g2_2) qn))
theorem T197_ok : GoodF Tryz.prog ro0 okF 197 (T197) :=
 (good_k (n := 25) acc2 (lv [0, 2, 4, 8, 14]) (rs := [ResultVar.tmp 2]) Tryz.func197 (by kernel_rfl) (by kernel_rfl) (by kernel_rfl) (by kernel_rfl) (by kernel_rfl) (by kernel_rfl) (by kernel_rfl) (by kernel_rfl) (by kernel_rfl)).enter en2_1_ok (by kernel_rfl)

/-- internal/strconv.bool2[int] -/
def SR198_0 : RegS 1 := fun c t0 h0 =>
 fShal (.int .i64 0) fun v1 =>
 p1_2 t0 v1 fun t1 =>
 some (.normal, t1, h0)
def SR198_1 : RegS 1 := fun c t0 h0 =>
 fShal (g1_0 t0) fun v1 =>
 p1_3 t0 v1 fun t1 =>
 some (.normal, t1, h0)
def SR198_2 : RegS 1 := fun c t0 h0 =>
 fShal (.int .i64 1) fun v1 =>
 p1_2 t0 v1 fun t1 =>
 some (.normal, t1, h0)
def SR198_3 : RegS 1 := fun c t0 h0 =>
 fShal (.int .i64 0) fun v1 =>
 p1_2 t0 v1 fun t1 =>
 some (.normal, t1, h0)
def SF198 : CodeS 1 :=
 cSeqS (cRegS (SR198_0)) (cSeqS (cSeqS (cRegS (SR198_1)) (cIfS g1_3 (cSeqS (cRegS (SR198_2)) (cRetS)) (cSkipS))) (cSeqS (cRegS (SR198_3)) (cRetS)))
def T198 : FnT := runG en1_1 (SF198) (resQ (qc (rT g1_2) qn))
theorem T198_ok : GoodF Tryz.prog ro0 okF 198 (T198) :=
 (good_k (n := 4) acc1 (lv [0, 2, 3]) (rs := [ResultVar.tmp 2]) Tryz.func198 (by kernel_rfl) (by kernel_rfl) (by kernel_rfl) (by kernel_rfl) (by kernel_rfl) (by kernel_rfl) (by kernel_rfl) (by kernel_rfl) (by kernel_rfl)).enter en1_1_ok (by kernel_rfl)

/-- internal/strconv.isPowerOfTwo -/
def SR199_0 : RegS 1 := fun c t0 h0 =>
 fShal (.bool false) fun v1 =>
 p1_2 t0 v1 fun t1 =>
 some (.normal, t1, h0)
def SR199_1 : RegS 1 := fun c t0 h0 =>
 kSub (g1_0 t0) (.int .i64 1) h0 fun v3 h3 =>
 kOf (vInt .and (g1_0 t0) v3 h3) fun v4 h4 =>
 kEql v4 (.int .i64 0) h4 fun v5 h5 =>
 fShal v5 fun v6 =>
 p1_2 t0 v6 fun t1 =>
 some (.normal, t1, h5)
def SF199 : CodeS 1 :=
 cSeqS (cRegS (SR199_0)) (cSeqS (cRegS (SR199_1)) (cRetS))
def T199 : FnT := runG en1_1 (SF199) (resQ (qc (rT g1_2) qn))
theorem T199_ok : GoodF Tryz.prog ro0 okF 199 (T199) :=
 (good_k (n := 8) acc1 (lv [0, 2]) (rs := [ResultVar.tmp 2]) Tryz.func199 (by kernel_rfl) (by kernel_rfl) (by kernel_rfl) (by kernel_rfl) (by kernel_rfl) (by kernel_rfl) (by kernel_rfl) (by kernel_rfl) (by kernel_rfl)).enter en1_1_ok (by kernel_rfl)

/-- math/bits.TrailingZeros -/
def SR200_0 : RegS 1 := fun c t0 h0 =>
 fShal (.int .i64 0) fun v1 =>
 p1_2 t0 v1 fun t1 =>
 some (.normal, t1, h0)
def SR200_1 : RegS 1 := fun c t0 h0 =>
 kAny (aConv .u32 (.const (g1_0 t0))) c h0 fun v2 h2 =>
 kOf (c 209 [v2] h2) fun v3 h3 =>
 fShal v3 fun v4 =>
 p1_2 t0 v4 fun t1 =>
 some (.normal, t1, h3)
def SR200_2 : RegS 1 := fun c t0 h0 =>
 kOf (c 210 [(g1_0 t0)] h0) fun v2 h2 =>
 fShal v2 fun v3 =>
 p1_2 t0 v3 fun t1 =>
 some (.normal, t1, h2)
def SF200 : CodeS 1 :=
 cSeqS (cRegS (SR200_0)) (cSeqS (cIfS (kc (.bool false)) (cSeqS (cRegS (SR200_1)) (cRetS)) (cSkipS)) (cSeqS (cRegS (SR200_2)) (cRetS)))
def T200 : FnT := runG en1_1 (SF200) (resQ (qc (rT g1_2) qn))
theorem T200_ok : GoodF Tryz.prog ro0 okF 200 (T200) :=
 (good_k (n := 8) acc1 (lv [0, 2]) (rs := [ResultVar.tmp 2]) Tryz.func200 (by kernel_rfl) (by kernel_rfl) (by kernel_rfl) (by kernel_rfl) (by kernel_rfl) (by kernel_rfl) (by kernel_rfl) (by kernel_rfl) (by kernel_rfl)).enter en1_1_ok (by kernel_rfl)

/-- (*circheck/checker.search).load -/
def SR202_0 : RegS 3 := fun c t0 h0 =>
 fShal (.int .i64 0) fun v1 =>
 p3_4 t0 v1 fun t1 =>
 some (.normal, t1, h0)
def SR202_1 : RegS 3 := fun c t0 h0 =>
 fShal (.int .i64 (-1)) fun v1 =>
 p3_5 t0 v1 fun t1 =>
 some (.normal, t1, h0)
def SR202_2 : RegS 3 := fun c t0 h0 =>
 fShal (.int .i64 0) fun v1 =>
 p3_6 t0 v1 fun t1 =>
 some (.normal, t1, h0)
def SR202_3 : RegS 3 := fun c t0 h0 =>
 kLenSl (g3_1 t0) h0 fun v3 h3 =>
 kLss (g3_6 t0) v3 h3 fun v4 h4 =>
 p3_11 t0 v4 fun t1 =>
 some (.normal, t1, h4)
def SR202_5 : RegS 3 := fun c t0 h0 =>
 kIdx 1 (g3_1 t0) (g3_6 t0) h0 fun v3 h3 =>
 kLd v3 h3 fun v4 h4 =>
 fShal v4 fun v5 =>
 p3_7 t0 v5 fun t1 =>
 some (.normal, t1, h4)
def SR202_6 : RegS 3 := fun c t0 h0 =>
 kLenSl (g3_7 t0) h0 fun v2 h2 =>
 kGtr v2 (.int .i64 1) h2 fun v3 h3 =>
 p3_20 t0 v3 fun t1 =>
 some (.normal, t1, h3)
def SR202_7 : RegS 3 := fun c t0 h0 =>
 kIdx 1 (g3_7 t0) (.int .i64 0) h0 fun v4 h4 =>
 kLd v4 h4 fun v5 h5 =>
 kIdx 1 (g3_7 t0) (.int .i64 1) h5 fun v7 h7 =>
 kLd v7 h7 fun v8 h8 =>
 kBuild #[.slice none 0 0, .int .i64 0, .int .i64 0, .int .i64 0] [(0, 1), (1, 1), (2, 1), (3, 1)] [(0, (g3_7 t0)), (1, v5), (2, v8)] h8 fun v9 h9 =>
 kOf (c 212 [(g3_0 t0), v9] h9) fun v10 h10 =>
 some (.normal, t0, h10)
def SR202_8 : RegS 3 := fun c t0 h0 =>
 kNil (g3_0 t0) h0 fun v3 h3 =>
 kFld 1 v3 h3 fun v4 h4 =>
 kLd v4 h4 fun v5 h5 =>
 kBuild #[.slice none 0 0, .int .i64 0, .int .i64 0, .int .i64 0] [(0, 1), (1, 1), (2, 1), (3, 1)] [(0, (g3_7 t0))] h5 fun v7 h7 =>
 kMkSl 4 1 #[.slice none 0 0, .int .i64 0, .int .i64 0, .int .i64 0] [(0, v7)] h7 fun v8 h8 =>
 kOf (vApp ro0 4 48 v5 v8 h8) fun v9 h9 =>
 kNil (g3_0 t0) h9 fun v10 h10 =>
 kFld 1 v10 h10 fun v11 h11 =>
 kSt ro0 v11 v9 h11 fun _ h12 =>
 some (.normal, t0, h12)
def SR202_9 : RegS 3 := fun c t0 h0 =>
 kLenSl (g3_7 t0) h0 fun v2 h2 =>
 kEql v2 (.int .i64 0) h2 fun v3 h3 =>
 kIf v3 false (fun k => k (g3_0 t0) h3) h3 fun v5 h5 =>
 kIf v3 false (fun k => kNil v5 h5 k) h5 fun v6 h6 =>
 kIf v3 false (fun k => kFld 5 v6 h6 k) h6 fun v7 h7 =>
 kIf v3 false (fun k => kLd v7 h7 k) h7 fun v8 h8 =>
 kIf v3 false (fun k => k (g3_7 t0) h8) h8 fun v9 h9 =>
 kIf v3 false (fun k => kIdx 1 v9 (.int .i64 0) h9 k) h9 fun v10 h10 =>
 kIf v3 false (fun k => kLd v10 h10 k) h10 fun v11 h11 =>
 kIf v3 false (fun k => kOf (vInt .xor v11 (.int .i64 1) h11) k) h11 fun v12 h12 =>
 kIf v3 false (fun k => kIdx 1 v8 v12 h12 k) h12 fun v13 h13 =>
 kIf v3 false (fun k => kLd v13 h13 k) h13 fun v14 h14 =>
 kPick v3 (.bool true) v14 h14 fun v15 h15 =>
 p3_56 t0 v15 fun t1 =>
 some (.normal, t1, h15)
def SR202_10 : RegS 3 := fun c t0 h0 =>
 fShal (g3_6 t0) fun v2 =>
 p3_5 t0 v2 fun t1 =>
 some (.normal, t1, h0)
def SR202_11 : RegS 3 := fun c t0 h0 =>
 kNil (g3_0 t0) h0 fun v2 h2 =>
 kFld 5 v2 h2 fun v3 h3 =>
 kLd v3 h3 fun v4 h4 =>
 kIdx 1 (g3_7 t0) (.int .i64 0) h4 fun v6 h6 =>
 kLd v6 h6 fun v7 h7 =>
 kIdx 1 v4 v7 h7 fun v8 h8 =>
 kLd v8 h8 fun v9 h9 =>
 kNot v9 h9 fun v10 h10 =>
 p3_67 t0 v10 fun t1 =>
 some (.normal, t1, h10)
def SR202_12 : RegS 3 := fun c t0 h0 =>
 kIdx 1 (g3_7 t0) (.int .i64 0) h0 fun v3 h3 =>
 kLd v3 h3 fun v4 h4 =>
 kOf (c 213 [(g3_0 t0), v4, (g3_6 t0)] h4) fun v6 h6 =>
 some (.normal, t0, h6)
def SR202_4 : RegS 3 := fun c t0 h0 =>
 kAdd (g3_6 t0) (.int .i64 1) h0 fun v2 h2 =>
 fShal v2 fun v3 =>
 p3_6 t0 v3 fun t1 =>
 some (.normal, t1, h2)
def SR202_13 : RegS 3 := fun c t0 h0 =>
 kLenSl (g3_1 t0) h0 fun v3 h3 =>
 kNil (g3_0 t0) h3 fun v4 h4 =>
 kFld 2 v4 h4 fun v5 h5 =>
 kSt ro0 v5 v3 h5 fun _ h6 =>
 some (.normal, t0, h6)
def SR202_14 : RegS 3 := fun c t0 h0 =>
 fShal (g3_5 t0) fun v2 =>
 p3_4 t0 v2 fun t1 =>
 some (.normal, t1, h0)
def SW202_0 : CodeS 3 :=
 cSeqS (cSeqS (cRegS (SR202_3)) (cIfS g3_11 (cSkipS) (cExitS 0))) (cSeqS (cBlkS 1 (cSeqS (cRegS (SR202_5)) (cSeqS (cSeqS (cRegS (SR202_6)) (cIfS g3_20 (cSeqS (cRegS (SR202_7)) (cExitS 1)) (cSkipS))) (cSeqS (cRegS (SR202_8)) (cSeqS (cRegS (SR202_9)) (cIfS g3_56 (cRegS (SR202_10)) (cSeqS (cRegS (SR202_11)) (cIfS g3_67 (cRegS (SR202_12)) (cSkipS))))))))) (cRegS (SR202_4)))
def SF202 : CodeS 3 :=
 cSeqS (cRegS (SR202_0)) (cSeqS (cRegS (SR202_1)) (cSeqS (cSeqS (cRegS (SR202_2)) (cBlkS 0 (cLoopS (SW202_0)))) (cSeqS (cRegS (SR202_13)) (cSeqS (cRegS (SR202_14)) (cRetS)))))
def T202 : FnT := runG en3_2 (SF202) (resQ (qc (rT g3_4) qn))
theorem T202_ok : GoodF Tryz.prog ro0 okF 202 (T202) :=
 (good_k (n := 80) acc3 (lv [0, 1, 4, 5, 6, 7, 11, 20, 56, 67]) (rs := [ResultVar.tmp 4]) Tryz.func202 (by kernel_rfl) (by kernel_rfl) (by kernel_rfl) (by kernel_rfl) (by kernel_rfl) (by kernel_rfl) (by kernel_rfl) (by kernel_rfl) (by kernel_rfl)).enter en3_2_ok (by kernel_rfl)

/-- (*circheck/checker.search).draw -/
def SR203_0 : RegS 2 := fun c t0 h0 =>
 fShal (.int .i64 0) fun v1 =>
 p2_2 t0 v1 fun t1 =>
 some (.normal, t1, h0)
def SR203_1 : RegS 2 := fun c t0 h0 =>
 fShal (.int .i64 (-1)) fun v1 =>
 p2_3 t0 v1 fun t1 =>
 some (.normal, t1, h0)
def SR203_2 : RegS 2 := fun c t0 h0 =>
 kEql (g2_3 t0) (.int .i64 (-1)) h0 fun v2 h2 =>
 kIf v2 true (fun k => k (g2_0 t0) h2) h2 fun v4 h4 =>
 kIf v2 true (fun k => kNil v4 h4 k) h4 fun v5 h5 =>
 kIf v2 true (fun k => kFld 9 v5 h5 k) h5 fun v6 h6 =>
 kIf v2 true (fun k => kLd v6 h6 k) h6 fun v7 h7 =>
 kIf v2 true (fun k => k (g2_0 t0) h7) h7 fun v8 h8 =>
 kIf v2 true (fun k => kNil v8 h8 k) h8 fun v9 h9 =>
 kIf v2 true (fun k => kFld 7 v9 h9 k) h9 fun v10 h10 =>
 kIf v2 true (fun k => kLd v10 h10 k) h10 fun v11 h11 =>
 kIf v2 true (fun k => kLenSl v11 h11 k) h11 fun v12 h12 =>
 kIf v2 true (fun k => kLss v7 v12 h12 k) h12 fun v13 h13 =>
 kPick v2 v13 (.bool false) h13 fun v14 h14 =>
 p2_18 t0 v14 fun t1 =>
 some (.normal, t1, h14)
def SR203_3 : RegS 2 := fun c t0 h0 =>
 kNil (g2_0 t0) h0 fun v2 h2 =>
 kFld 7 v2 h2 fun v3 h3 =>
 kLd v3 h3 fun v4 h4 =>
 kNil (g2_0 t0) h4 fun v6 h6 =>
 kFld 9 v6 h6 fun v7 h7 =>
 kLd v7 h7 fun v8 h8 =>
 kIdx 1 v4 v8 h8 fun v9 h9 =>
 kLd v9 h9 fun v10 h10 =>
 kOf (vInt .xor v10 (.int .i64 1) h10) fun v11 h11 =>
 fShal v11 fun v12 =>
 p2_4 t0 v12 fun t1 =>
 some (.normal, t1, h11)
def SR203_4 : RegS 2 := fun c t0 h0 =>
 kNil (g2_0 t0) h0 fun v2 h2 =>
 kFld 9 v2 h2 fun v3 h3 =>
 kLd v3 h3 fun v4 h4 =>
 kAdd v4 (.int .i64 1) h4 fun v5 h5 =>
 kNil (g2_0 t0) h5 fun v6 h6 =>
 kFld 9 v6 h6 fun v7 h7 =>
 kSt ro0 v7 v5 h7 fun _ h8 =>
 some (.normal, t0, h8)
def SR203_5 : RegS 2 := fun c t0 h0 =>
 kOf (c 214 [(g2_0 t0), (g2_4 t0)] h0) fun v3 h3 =>
 fShal v3 fun v4 =>
 p2_3 t0 v4 fun t1 =>
 some (.normal, t1, h3)
def SR203_6 : RegS 2 := fun c t0 h0 =>
 fShal (g2_3 t0) fun v2 =>
 p2_2 t0 v2 fun t1 =>
 some (.normal, t1, h0)
def SW203_0 : CodeS 2 :=
 cSeqS (cSeqS (cRegS (SR203_2)) (cIfS g2_18 (cSkipS) (cExitS 0))) (cBlkS 1 (cSeqS (cRegS (SR203_3)) (cSeqS (cRegS (SR203_4)) (cRegS (SR203_5)))))
def SF203 : CodeS 2 :=
 cSeqS (cRegS (SR203_0)) (cSeqS (cRegS (SR203_1)) (cSeqS (cBlkS 0 (cLoopS (SW203_0))) (cSeqS (cRegS (SR203_6)) (cRetS))))
def T203 : FnT := runG en2_1 (SF203) (resQ (qc (rT g2_2) qn))
theorem T203_ok : GoodF Tryz.prog ro0 okF 203 (T203) :=
 (good_k (n := 41) acc2 (lv [0, 2, 3, 4, 18]) (rs := [ResultVar.tmp 2]) Tryz.func203 (by kernel_rfl) (by kernel_rfl) (by kernel_rfl) (by kernel_rfl) (by kernel_rfl) (by kernel_rfl) (by kernel_rfl) (by kernel_rfl) (by kernel_rfl)).enter en2_1_ok (by kernel_rfl)

/-- (*circheck/checker.search).guess -/
def SR204_0 : RegS 2 := fun c t0 h0 =>
 fShal (.int .i64 0) fun v1 =>
 p2_2 t0 v1 fun t1 =>
 some (.normal, t1, h0)
def SR204_1 : RegS 2 := fun c t0 h0 =>
 kNil (g2_0 t0) h0 fun v2 h2 =>
 kFld 8 v2 h2 fun v3 h3 =>
 kLd v3 h3 fun v4 h4 =>
 kLenSl v4 h4 fun v5 h5 =>
 fShal v5 fun v6 =>
 p2_3 t0 v6 fun t1 =>
 some (.normal, t1, h5)
def SR204_2 : RegS 2 := fun c t0 h0 =>
 kNil (g2_0 t0) h0 fun v3 h3 =>
 kFld 0 v3 h3 fun v4 h4 =>
 kLd v4 h4 fun v5 h5 =>
 kLenSl v5 h5 fun v6 h6 =>
 kLss (g2_3 t0) v6 h6 fun v7 h7 =>
 p2_17 t0 v7 fun t1 =>
 some (.normal, t1, h7)
def SR204_3 : RegS 2 := fun c t0 h0 =>
 kNil (g2_0 t0) h0 fun v3 h3 =>
 kFld 0 v3 h3 fun v4 h4 =>
 kLd v4 h4 fun v5 h5 =>
 kIdx 1 v5 (g2_3 t0) h5 fun v7 h7 =>
 kLd v7 h7 fun v8 h8 =>
 kOf (c 215 [(g2_0 t0), v8] h8) fun v9 h9 =>
 fShal v9 fun v10 =>
 p2_2 t0 v10 fun t1 =>
 some (.normal, t1, h9)
def SR204_4 : RegS 2 := fun c t0 h0 =>
 kOf (c 216 [(g2_0 t0)] h0) fun v2 h2 =>
 fShal v2 fun v3 =>
 p2_4 t0 v3 fun t1 =>
 some (.normal, t1, h2)
def SR204_5 : RegS 2 := fun c t0 h0 =>
 kEql (g2_4 t0) (.int .i64 (-1)) h0 fun v2 h2 =>
 p2_30 t0 v2 fun t1 =>
 some (.normal, t1, h2)
def SR204_6 : RegS 2 := fun c t0 h0 =>
 fShal (.int .i64 1) fun v1 =>
 p2_2 t0 v1 fun t1 =>
 some (.normal, t1, h0)
def SR204_7 : RegS 2 := fun c t0 h0 =>
 kOf (vInt .mul (.int .i64 2) (g2_4 t0) h0) fun v2 h2 =>
 fShal v2 fun v3 =>
 p2_5 t0 v3 fun t1 =>
 some (.normal, t1, h2)
def SR204_8 : RegS 2 := fun c t0 h0 =>
 kNil (g2_0 t0) h0 fun v2 h2 =>
 kFld 6 v2 h2 fun v3 h3 =>
 kLd v3 h3 fun v4 h4 =>
 kIdx 5 v4 (g2_4 t0) h4 fun v6 h6 =>
 kFld 4 v6 h6 fun v7 h7 =>
 kLd v7 h7 fun v8 h8 =>
 kNot v8 h8 fun v9 h9 =>
 p2_41 t0 v9 fun t1 =>
 some (.normal, t1, h9)
def SR204_9 : RegS 2 := fun c t0 h0 =>
 kAdd (g2_5 t0) (.int .i64 1) h0 fun v2 h2 =>
 fShal v2 fun v3 =>
 p2_5 t0 v3 fun t1 =>
 some (.normal, t1, h2)
def SR204_10 : RegS 2 := fun c t0 h0 =>
 kNil (g2_0 t0) h0 fun v3 h3 =>
 kFld 8 v3 h3 fun v4 h4 =>
 kLd v4 h4 fun v5 h5 =>
 kNil (g2_0 t0) h5 fun v7 h7 =>
 kFld 7 v7 h7 fun v8 h8 =>
 kLd v8 h8 fun v9 h9 =>
 kLenSl v9 h9 fun v10 h10 =>
 kMkSl 1 1 #[.int .i64 0] [(0, v10)] h10 fun v11 h11 =>
 kOf (vApp ro0 1 8 v5 v11 h11) fun v12 h12 =>
 kNil (g2_0 t0) h12 fun v13 h13 =>
 kFld 8 v13 h13 fun v14 h14 =>
 kSt ro0 v14 v12 h14 fun _ h15 =>
 some (.normal, t0, h15)
def SR204_11 : RegS 2 := fun c t0 h0 =>
 kOf (c 213 [(g2_0 t0), (g2_5 t0), (.int .i64 (-1))] h0) fun v3 h3 =>
 some (.normal, t0, h3)
def SR204_12 : RegS 2 := fun c t0 h0 =>
 fShal (.int .i64 0) fun v1 =>
 p2_2 t0 v1 fun t1 =>
 some (.normal, t1, h0)
def SF204 : CodeS 2 :=
 cSeqS (cRegS (SR204_0)) (cSeqS (cRegS (SR204_1)) (cSeqS (cSeqS (cRegS (SR204_2)) (cIfS g2_17 (cSeqS (cRegS (SR204_3)) (cRetS)) (cSkipS))) (cSeqS (cRegS (SR204_4)) (cSeqS (cSeqS (cRegS (SR204_5)) (cIfS g2_30 (cSeqS (cRegS (SR204_6)) (cRetS)) (cSkipS))) (cSeqS (cRegS (SR204_7)) (cSeqS (cSeqS (cRegS (SR204_8)) (cIfS g2_41 (cRegS (SR204_9)) (cSkipS))) (cSeqS (cRegS (SR204_10)) (cSeqS (cRegS (SR204_11)) (cSeqS (cRegS (SR204_12)) (cRetS))))))))))
def T204 : FnT := runG en2_1 (SF204) (resQ (qc (rT g2_2) qn))
theorem T204_ok : GoodF Tryz.prog ro0 okF 204 (T204) :=
 (good_k (n := 61) acc2 (lv [0, 2, 3, 4, 5, 17, 30, 41]) (rs := [ResultVar.tmp 2]) Tryz.func204 (by kernel_rfl) (by kernel_rfl) (by kernel_rfl) (by kernel_rfl) (by kernel_rfl) (by kernel_rfl) (by kernel_rfl) (by kernel_rfl) (by kernel_rfl)).enter en2_1_ok (by kernel_rfl)

/-- (*circheck/checker.search).meet -/
def SR205_0 : RegS 2 := fun c t0 h0 =>
 fShal (.int .i64 0) fun v1 =>
 p2_6 t0 v1 fun t1 =>
 some (.normal, t1, h0)
def SR205_1 : RegS 2 := fun c t0 h0 =>
 kNil (g2_0 t0) h0 fun v2 h2 =>
 kFld 11 v2 h2 fun v3 h3 =>
 kLd v3 h3 fun v4 h4 =>
 kAdd v4 (.int .i64 1) h4 fun v5 h5 =>
 kNil (g2_0 t0) h5 fun v6 h6 =>
 kFld 11 v6 h6 fun v7 h7 =>
 kSt ro0 v7 v5 h7 fun _ h8 =>
 some (.normal, t0, h8)
def SR205_2 : RegS 2 := fun c t0 h0 =>
 kNil (g2_0 t0) h0 fun v2 h2 =>
 kFld 8 v2 h2 fun v3 h3 =>
 kLd v3 h3 fun v4 h4 =>
 kLenSl v4 h4 fun v5 h5 =>
 kNil (g2_0 t0) h5 fun v7 h7 =>
 kFld 0 v7 h7 fun v8 h8 =>
 kLd v8 h8 fun v9 h9 =>
 kLenSl v9 h9 fun v10 h10 =>
 kLeq v5 v10 h10 fun v11 h11 =>
 fShal v11 fun v12 =>
 p2_7 t0 v12 fun t1 =>
 some (.normal, t1, h11)
def SR205_3 : RegS 2 := fun c t0 h0 =>
 fShal (g2_7 t0) fun v1 =>
 p2_26 t0 v1 fun t1 =>
 some (.normal, t1, h0)
def SR205_4 : RegS 2 := fun c t0 h0 =>
 kNil (g2_0 t0) h0 fun v3 h3 =>
 kFld 1 v3 h3 fun v4 h4 =>
 kLd v4 h4 fun v5 h5 =>
 kIdx 4 v5 (g2_1 t0) h5 fun v7 h7 =>
 kFld 0 v7 h7 fun v8 h8 =>
 kLd v8 h8 fun v9 h9 =>
 kOf (c 217 [(g2_0 t0), v9] h9) fun v10 h10 =>
 some (.normal, t0, h10)
def SR205_5 : RegS 2 := fun c t0 h0 =>
 fShal (.int .i64 2) fun v1 =>
 p2_6 t0 v1 fun t1 =>
 some (.normal, t1, h0)
def SR205_6 : RegS 2 := fun c t0 h0 =>
 kNil (g2_0 t0) h0 fun v2 h2 =>
 kFld 11 v2 h2 fun v3 h3 =>
 kLd v3 h3 fun v4 h4 =>
 kGtr v4 (g2_2 t0) h4 fun v6 h6 =>
 p2_42 t0 v6 fun t1 =>
 some (.normal, t1, h6)
def SR205_7 : RegS 2 := fun c t0 h0 =>
 fShal (.int .i64 3) fun v1 =>
 p2_6 t0 v1 fun t1 =>
 some (.normal, t1, h0)
def SR205_8 : RegS 2 := fun c t0 h0 =>
 kOf (c 218 [(g2_0 t0), (g2_1 t0)] h0) fun v3 h3 =>
 some (.normal, t0, h3)
def SR205_9 : RegS 2 := fun c t0 h0 =>
 fShal (.int .i64 0) fun v1 =>
 p2_6 t0 v1 fun t1 =>
 some (.normal, t1, h0)
def SF205 : CodeS 2 :=
 cSeqS (cRegS (SR205_0)) (cSeqS (cRegS (SR205_1)) (cSeqS (cRegS (SR205_2)) (cSeqS (cSeqS (cRegS (SR205_3)) (cIfS g2_26 (cSeqS (cRegS (SR205_4)) (cSeqS (cRegS (SR205_5)) (cRetS))) (cSkipS))) (cSeqS (cSeqS (cRegS (SR205_6)) (cIfS g2_42 (cSeqS (cRegS (SR205_7)) (cRetS)) (cSkipS))) (cSeqS (cRegS (SR205_8)) (cSeqS (cRegS (SR205_9)) (cRetS)))))))
def T205 : FnT := runG en2_3 (SF205) (resQ (qc (rT g2_6) qn))
theorem T205_ok : GoodF Tryz.prog ro0 okF 205 (T205) :=
 (good_k (n := 46) acc2 (lv [0, 1, 2, 6, 7, 26, 42]) (rs := [ResultVar.tmp 6]) Tryz.func205 (by kernel_rfl) (by kernel_rfl) (by kernel_rfl) (by kernel_rfl) (by kernel_rfl) (by kernel_rfl) (by kernel_rfl) (by kernel_rfl) (by kernel_rfl)).enter en2_3_ok (by kernel_rfl)

/-- circheck/checker.areEqual -/
def SR208_0 : RegS 2 := fun c t0 h0 =>
 fShal (.bool false) fun v1 =>
 p2_4 t0 v1 fun t1 =>
 some (.normal, t1, h0)
def SR208_1 : RegS 2 := fun c t0 h0 =>
 kLenSl (g2_0 t0) h0 fun v2 h2 =>
 kLenSl (g2_1 t0) h2 fun v4 h4 =>
 kNeq v2 v4 h4 fun v5 h5 =>
 p2_10 t0 v5 fun t1 =>
 some (.normal, t1, h5)
def SR208_2 : RegS 2 := fun c t0 h0 =>
 fShal (.bool false) fun v1 =>
 p2_4 t0 v1 fun t1 =>
 some (.normal, t1, h0)
def SR208_3 : RegS 2 := fun c t0 h0 =>
 fShal (.int .i64 0) fun v1 =>
 p2_5 t0 v1 fun t1 =>
 some (.normal, t1, h0)
def SR208_4 : RegS 2 := fun c t0 h0 =>
 kLenSl (g2_0 t0) h0 fun v3 h3 =>
 kLss (g2_5 t0) v3 h3 fun v4 h4 =>
 p2_14 t0 v4 fun t1 =>
 some (.normal, t1, h4)
def SR208_6 : RegS 2 := fun c t0 h0 =>
 kIdx 1 (g2_0 t0) (g2_5 t0) h0 fun v3 h3 =>
 kLd v3 h3 fun v4 h4 =>
 kIdx 1 (g2_1 t0) (g2_5 t0) h4 fun v7 h7 =>
 kLd v7 h7 fun v8 h8 =>
 kNeq v4 v8 h8 fun v9 h9 =>
 p2_25 t0 v9 fun t1 =>
 some (.normal, t1, h9)
def SR208_7 : RegS 2 := fun c t0 h0 =>
 fShal (.bool false) fun v1 =>
 p2_4 t0 v1 fun t1 =>
 some (.normal, t1, h0)
def SR208_5 : RegS 2 := fun c t0 h0 =>
 kAdd (g2_5 t0) (.int .i64 1) h0 fun v2 h2 =>
 fShal v2 fun v3 =>
 p2_5 t0 v3 fun t1 =>
 some (.normal, t1, h2)
def SR208_8 : RegS 2 := fun c t0 h0 =>
 fShal (.bool true) fun v1 =>
 p2_4 t0 v1 fun t1 =>
 some (.normal, t1, h0)
def SW208_0 : CodeS 2 :=
 cSeqS (cSeqS (cRegS (SR208_4)) (cIfS g2_14 (cSkipS) (cExitS 0))) (cSeqS (cBlkS 1 (cSeqS (cRegS (SR208_6)) (cIfS g2_25 (cSeqS (cRegS (SR208_7)) (cRetS)) (cSkipS)))) (cRegS (SR208_5)))
def SF208 : CodeS 2 :=
 cSeqS (cRegS (SR208_0)) (cSeqS (cSeqS (cRegS (SR208_1)) (cIfS g2_10 (cSeqS (cRegS (SR208_2)) (cRetS)) (cSkipS))) (cSeqS (cSeqS (cRegS (SR208_3)) (cBlkS 0 (cLoopS (SW208_0)))) (cSeqS (cRegS (SR208_8)) (cRetS))))
def T208 : FnT := runG en2_2 (SF208) (resQ (qc (rT g2_4) qn))
theorem T208_ok : GoodF Tryz.prog ro0 okF 208 (T208) :=
 (good_k (n := 26) acc2 (lv [0, 1, 4, 5, 10, 14, 25]) (rs := [ResultVar.tmp 4]) Tryz.func208 (by kernel_rfl) (by kernel_rfl) (by kernel_rfl) (by kernel_rfl) (by kernel_rfl) (by kernel_rfl) (by kernel_rfl) (by kernel_rfl) (by kernel_rfl)).enter en2_2_ok (by kernel_rfl)
end Go.Proofs.YtimdkminagnhgabGreatDoor
