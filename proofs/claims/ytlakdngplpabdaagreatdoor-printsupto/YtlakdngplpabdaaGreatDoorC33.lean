/- Own work. -/
import Derived.Test.YtlakdngplpabdaaGreatDoorC32
namespace Go.Proofs.YtlakdngplpabdaaGreatDoor
open Go.Vm Go.Proofs
set_option linter.unusedSimpArgs false
set_option linter.unusedVariables false
set_option maxHeartbeats 400000
set_option maxRecDepth 4000
structure OpT where
 k : Int
 a : Int
 b : Int
 c : Int
 s : ByteArray
def OpT.cells (o : OpT) : List Value := [.int .i64 o.k, .int .i64 o.a, .int .i64 o.b, .int .i64 o.c, .string o.s]
def OpT.val (o : OpT) : Value := .agg #[.int .i64 o.k, .int .i64 o.a, .int .i64 o.b, .int .i64 o.c, .string o.s]
section
variable {H : Type} {O : HI H} {ro : Nat} {c : CallT H}
theorem own_n (L : O.Law) {w : Own} {h : H} (k : WK O ro w h) (l : List Value) (i : Nat) :
 ∃ b w' h', b = O.next h /\ h' = O.new h l /\ Bx O ro w' h' (58, i) b l /\ Al O w h w' h' /\ WK O ro w' h' /\ ¬ b < ro := by
 have al : Al O w h (w.set (O.next h) (58, i)) (O.new h l) := fun K => Ch.new L _ _ _ _ _
 have y := Bx.new L (ro := ro) w h k.lo (58, i) l
 refine ⟨_, _, _, rfl, rfl, nrm_bx (al fun _ => False) y (by simp), fun K => nrm_ch (al K), ?_, by have := k.lo; omega⟩
 exact k.up L (nrm_ch (al fun _ => False)) (by simp) (cl_rt (K := fun _ => True) k.cl _ r50_cl)
attribute [local simp] cSeq cReg reg to mv too onlyIf onlyIfo aMove aNil aFld aLd aInt aPick aLenStr aIdxStr aConv aUn unA ev upd_get isB envOf iA_add iA_sub iA_mul iA_eql iA_neq iA_lss iA_leq iA_gtr iA_geq cIf cRet cSkip okc_some resE resLE rvE aSt vc_int vc_bool vc_agg vc_str vc_ptr vc_sl ft_int ft_bool ft_str ft_ptr ft_sl tp_int tp_bool tp_agg tp_str tp_ptr tp_sl aBuild Instr.fill aCall cExit cBlk outOf ptr undef aNew aBox aIdxArr aLdN aShift aLenSl aIdx aMkSl aApp rangeA aExt aSliceStr aStr strA aPtrNil aBoolEq aAggEq intsA
theorem new_l (C : Lim Tryz.prog O ro okS c) (h : H) : c 15 [] h = some (.pointer none, h) := by
 refine C.eq (F15_fn O ro) rfl rfl (okE.flat (fun _ => rfl) ?_)
 simp [F15, R15_0, R15_1]
theorem run_l (C : Lim Tryz.prog O ro okS c) (h : H) (s : ByteArray) (n : Int) : c 35 [.string s, .int .i64 n] h = some (.pointer none, h) := by
 refine C.eq (F35_fn O ro) rfl rfl (okE.flat (fun _ => rfl) ?_)
 simp [F35, R35_0, R35_1]
theorem ran_l (C : Lim Tryz.prog O ro okS c) (h : H) (v : Value) (s : ByteArray) (n : Int) : c 14 [v, .string s, .int .i64 n] h = some (.bool false, h) := by
 have e := run_l C h s n
 refine C.eq (F14_fn O ro) rfl rfl ?_
 unfold F14
 refine okE.seq (okE.flat (fun _ => rfl) ?_)
 simp [R14_0, thenE, -resE, -resLE, -rvE]
 refine okE.seq (okE.flat (fun _ => rfl) ?_)
 simp [R14_1, e, thenE, -resE, -resLE, -rvE]
 refine okE.seq (okE.flat (fun _ => rfl) ?_)
 simp [R14_2, R14_3, thenE]
theorem full_l (C : Lim Tryz.prog O ro okS c) (h : H) : c 17 [] h = some (.bool false, h) := by
 have e := new_l C h
 refine C.eq (F17_fn O ro) rfl rfl ?_
 unfold F17
 refine okE.seq (okE.flat (fun _ => rfl) ?_)
 simp [R17_0, thenE, -resE, -resLE, -rvE]
 refine okE.seq (okE.flat (fun _ => rfl) ?_)
 simp [R17_1, e, thenE, -resE, -resLE, -rvE]
 refine okE.seq (okE.flat (fun _ => rfl) ?_)
 simp [R17_2, R17_3, thenE]
theorem asked_l (C : Lim Tryz.prog O ro okS c) (L : O.Law) {w : Own} {h : H} {W : Nat} {D : WD} (x : WX O ro w h W D) (hl : D.tx.length < 10000000) (y : Nat × Nat × CN) (hy : y ∈ D.cs) (o : OpT) :
 ∃ w' h' D', c 13 [.pointer (some ⟨W, 0, none⟩), .agg #[.pointer (some ⟨y.1, 0, none⟩), .pointer (some ⟨y.2.1, 0, none⟩)], o.val] h = some (.bool true, h') /\ WX O ro w' h' W D' /\ D'.cs = D.cs /\ D'.tx.length <= D.tx.length + 1 /\ D'.li = D.li /\ Ch O Kw w h w' h' := by
 obtain ⟨k, vc, vt, vi, vw, vis, vws, x⟩ := x
 obtain ⟨p, p', N⟩ := y
 obtain ⟨⟨v1, v2, xc⟩, ⟨vn, vr, vo, yc⟩, ok⟩ := x.cx _ hy
 simp only at xc yc ok ⊢
 obtain ⟨bc, w1, h1, hbc, hh1, y1, al1, k1, _⟩ := own_n L k [.pointer (some ⟨p, 0, none⟩), .pointer (some ⟨p', 0, none⟩)] 0
 obtain ⟨bo, w2, h2, hbo, hh2, y2, al2, k2, _⟩ := own_n L k1 o.cells 1
 have hh2' : h2 = O.new h1 [.int .i64 o.k, .int .i64 o.a, .int .i64 o.b, .int .i64 o.c, .string o.s] := hh2
 have y1' := y1.al' L al2
 have al12 := al1.trans al2
 have xc2 := xc.al L al12
 have yc2 := yc.al L al12
 have x2 := x.al L al12
 have d0 := y1'.get 0 _ rfl
 have d1 := y1'.get 1 _ rfl
 have q0 := y2.get 0 _ rfl
 have q2 := y2.get 2 _ rfl
 have q3 := y2.get 3 _ rfl
 have o1 := ok.ni
 have o2 := ok.nl
 have o3 := ok.na
 unfold OpT.val
 by_cases c3 : o.k = 3
 ·
  have i3 : (o.k == 3) = true := by simpa using c3
  obtain ⟨w3, h3, e3, al3⟩ := asc_b C L k2.g k2.lo xc2 ok
  obtain ⟨w3', al3', k3⟩ := k2.al L al3
  have d1' := (y1'.al' L al3').get 1 _ rfl
  obtain ⟨w4, h4, e4, al4⟩ := ras_b C L k3.lo (yc2.al L al3') ok
  obtain ⟨w4', al4', k4⟩ := k3.al L al4
  have x4 := (x2.al L al3').al L al4'
  obtain ⟨v', h5, w5, h6, a1, a2, a3, a4, a5, x6, k6, c6'⟩ := x4.addT L k4 (ascS N) hl
  refine ⟨w5, h6, _, ?_, ⟨k6, _, _, _, _, _, _, x6⟩, rfl, by simp, rfl, (kw_al ((al12.trans al3').trans al4')).trans c6'⟩
  refine C.eq (F13_fn O ro) rfl rfl (okE.flat (fun _ => rfl) ?_)
  simp [F13, R13_0, R13_1, R13_2, R13_3, R13_4, R13_5, R13_6, <- hbc, <- hh1, <- hbo, <- hh2', q0, i3, d0, d1', e3, e4, a1, List.zipIdx, List.range_succ, a2, a3.1, a3.2.1, a3.2.2, a4, a5]
 by_cases c4 : o.k = 4
 . have i3 : (o.k == 3) = false := by simpa using c3
   have i4 : (o.k == 4) = true := by simpa using c4
   obtain ⟨w3, h3, e3, al3⟩ := bin_b C L k2.g k2.lo xc2 ok
   obtain ⟨w3', al3', k3⟩ := k2.al L al3
   have d1' := (y1'.al' L al3').get 1 _ rfl
   obtain ⟨w4, h4, e4, al4⟩ := rbi_b C L k3.lo (yc2.al L al3') ok
   obtain ⟨w4', al4', k4⟩ := k3.al L al4
   have x4 := (x2.al L al3').al L al4'
   obtain ⟨v', h5, w5, h6, a1, a2, a3, a4, a5, x6, k6, c6'⟩ := x4.addT L k4 (binS N) hl
   refine ⟨w5, h6, _, ?_, ⟨k6, _, _, _, _, _, _, x6⟩, rfl, by simp, rfl, (kw_al ((al12.trans al3').trans al4')).trans c6'⟩
   refine C.eq (F13_fn O ro) rfl rfl (okE.flat (fun _ => rfl) ?_)
   simp [F13, R13_0, R13_1, R13_2, R13_7, R13_8, R13_9, R13_10, R13_11, <- hbc, <- hh1, <- hbo, <- hh2', q0, i3, i4, d0, d1', e3, e4, a1, List.zipIdx, List.range_succ, a2, a3.1, a3.2.1, a3.2.2, a4, a5]
 have c3' : (o.k == 3) = false := by simpa using c3
 have c4' : (o.k == 4) = false := by simpa using c4
 by_cases c5 : o.k = 5
 . have i5 : (o.k == 5) = true := by simpa using c5
   have e1 := nin_b C xc2
   have e2 := nla_b C xc2
   have e3 := nan_b C xc2
   have e4 := nva_b C xc2 ok
   obtain ⟨ao, cpo, rfl⟩ := ops_len yc2
   have m0 := yc2.m.get 0 _ rfl
   have m1 := yc2.m.get 1 _ rfl
   have m4 := yc2.m.get 4 _ rfl
   obtain ⟨a, ha⟩ : ∃ a, a = 1 + N.ni := ⟨_, rfl⟩
   obtain ⟨b, hb⟩ : ∃ b, b = 1 + N.ni + N.las.length := ⟨_, rfl⟩
   obtain ⟨d, hd⟩ : ∃ d, d = 1 + N.ni + N.las.length + N.gts.length := ⟨_, rfl⟩
   obtain ⟨f, hf⟩ : ∃ f, f = N.gts.length * 2 := ⟨_, rfl⟩
   rw [<- hd] at e4
   rw [<- hf] at m4
   have hw1 : IntKind.i64.wrap (1 + (N.ni : Int)) = (a : Int) := wr (by omega) (by omega)
   have hw2 : IntKind.i64.wrap ((a : Int) + (N.las.length : Int)) = (b : Int) := wr (by omega) (by omega)
   have hw3 : IntKind.i64.wrap ((b : Int) + (N.gts.length : Int)) = (d : Int) := wr (by omega) (by omega)
   have hw4 : IntKind.i64.wrap (2 * (N.gts.length : Int)) = (f : Int) := wr (by omega) (by omega)
   refine ⟨w2, h2, D, ?_, ⟨k2, _, _, _, _, _, _, x2⟩, rfl, by omega, rfl, kw_al al12⟩
   refine C.eq (F13_fn O ro) rfl rfl (okE.flat (fun _ => rfl) ?_)
   simp [F13, R13_0, R13_1, R13_2, R13_7, R13_12, R13_13, R13_14, R13_15, R13_16, R13_17, <- hbc, <- hh1, <- hbo, <- hh2', q0, c3', c4', i5, d0, d1, e1, e2, e3, e4, m0, m1, m4, hw1, hw2, hw3, hw4]
 have c5' : (o.k == 5) = false := by simpa using c5
 by_cases c7 : o.k = 7
 . have i7 : (o.k == 7) = true := by simpa using c7
   have e1 := beg_b C xc2 ok o.b
   have e2 := fst_b C yc2 ok o.b
   refine ⟨w2, h2, D, ?_, ⟨k2, _, _, _, _, _, _, x2⟩, rfl, by omega, rfl, kw_al al12⟩
   refine C.eq (F13_fn O ro) rfl rfl (okE.flat (fun _ => rfl) ?_)
   simp [F13, R13_0, R13_1, R13_2, R13_7, R13_12, R13_18, R13_19, R13_20, R13_21, <- hbc, <- hh1, <- hbo, <- hh2', q0, c3', c4', c5', i7, d0, d1, q2, e1, e2]
 have c7' : (o.k == 7) = false := by simpa using c7
 . obtain ⟨w3, h3, e3, al3⟩ := step_b C L k2.lo xc2 ok o.b o.c
   obtain ⟨w3', al3', k3⟩ := k2.al L al3
   have y3 := y1'.al' L al3'
   have z3 := y2.al' L al3'
   have yc3 := yc2.al L al3'
   have f1 := y3.get 1 _ rfl
   have f2 := z3.get 2 _ rfl
   have f3 := z3.get 3 _ rfl
   obtain ⟨w4, h4, e4, al4⟩ := aft_b C L k3.lo yc3 ok o.b o.c
   obtain ⟨w4', al4', k4⟩ := k3.al L al4
   have y4 := y3.al' L al4'
   have z4 := z3.al' L al4'
   have yc4 := yc3.al L al4'
   have g1 := y4.get 1 _ rfl
   have g2 := z4.get 2 _ rfl
   have g3 := z4.get 3 _ rfl
   have m5 := yc4.m.get 5 _ rfl
   obtain ⟨w5, h5, e5, al5⟩ := val_b C L k4.lo yc4 ok o.b o.c
   obtain ⟨w5', al5', k5⟩ := k4.al L al5
   have x5 := ((x2.al L al3').al L al4').al L al5'
   refine ⟨w5', h5, D, ?_, ⟨k5, _, _, _, _, _, _, x5⟩, rfl, by omega, rfl, kw_al (((al12.trans al3').trans al4').trans al5')⟩
   refine C.eq (F13_fn O ro) rfl rfl (okE.flat (fun _ => rfl) ?_)
   simp [F13, R13_0, R13_1, R13_2, R13_7, R13_12, R13_18, R13_22, R13_23, R13_24, R13_25, <- hbc, <- hh1, <- hbo, <- hh2', q0, c3', c4', c5', c7', d0, q2, q3, e3, f1, f2, f3, e4, g1, g2, g3, m5, e5]
end
def I64 (n : Int) : Prop := -9223372036854775808 <= n /\ n < 9223372036854775808
section
variable {H : Type} {O : HI H} {ro : Nat} {c : CallT H}
attribute [local simp] cSeq cReg reg to mv too onlyIf onlyIfo aMove aNil aFld aLd aInt aPick aLenStr aIdxStr aConv aUn unA ev upd_get isB envOf iA_add iA_sub iA_mul iA_eql iA_neq iA_lss iA_leq iA_gtr iA_geq cIf cRet cSkip okc_some resE resLE rvE aSt vc_int vc_bool vc_agg vc_str vc_ptr vc_sl ft_int ft_bool ft_str ft_ptr ft_sl tp_int tp_bool tp_agg tp_str tp_ptr tp_sl aBuild Instr.fill aCall cExit cBlk outOf ptr undef aNew aBox aIdxArr aLdN aShift aLenSl aIdx aMkSl aApp rangeA aExt aSliceStr aStr strA aPtrNil aBoolEq aAggEq intsA
theorem pick_b (C : Lim Tryz.prog O ro okS c) (h : H) (a : Int) (ha : I64 a) (n : Nat) (hn : 0 < n) : ∃ k : Nat, k < n /\ c 12 [.int .i64 a, .int .i64 (n : Nat)] h = some (.int .i64 (k : Nat), h) := by
 obtain ⟨a1, a2⟩ := ha
 have key : ∀ x : Int, 0 <= x -> ∃ k : Nat, k < n /\ intA .rem .i64 x (n : Int) = some (.int .i64 (k : Int)) := by
  intro x hx
  refine ⟨x.toNat % n, Nat.mod_lt _ hn, ?_⟩
  have := iA_rem .i64 x.toNat n hn
  rw [Int.toNat_of_nonneg hx] at this
  exact this
 by_cases h0 : a < 0
 . have w1 : IntKind.i64.wrap (a + 1) = a + 1 := wrap_id (by omega) (by omega)
   have w2 : IntKind.i64.wrap (0 - (a + 1)) = -(a + 1) := by rw [wrap_id (by omega) (by omega)]; omega
   have w2' : IntKind.i64.wrap (-(a + 1)) = -(a + 1) := wrap_id (by omega) (by omega)
   obtain ⟨k, hk, e⟩ := key (-(a + 1)) (by omega)
   refine ⟨k, hk, C.eq (F12_fn O ro) rfl rfl (okE.flat (fun _ => rfl) ?_)⟩
   generalize hx : -(a + 1) = x at *
   simp [F12, R12_0, R12_1, R12_2, R12_3, h0, w1, w2, w2', hx, e]
 . obtain ⟨k, hk, e⟩ := key a (by omega)
   refine ⟨k, hk, C.eq (F12_fn O ro) rfl rfl (okE.flat (fun _ => rfl) ?_)⟩
   simp [F12, R12_0, R12_1, R12_3, h0, e]
theorem same_b (C : Lim Tryz.prog O ro okS c) {w : Own} {h : H} {i : Nat} {vi vw : Value} {l : Option (List Int)} (x : LiR O ro w h i vi vw l) (hl : ∀ xs, l = some xs -> xs.length < 1000000000) :
 c 18 [vi, vw] h = some (.bool true, h) := by
 refine C.eq (F18_fn O ro) rfl rfl ?_
 unfold F18
 refine okE.seq (okE.flat (fun _ => rfl) ?_)
 simp [R18_0, thenE, -resE, -resLE, -rvE]
 cases l with
 | none =>
  obtain ⟨rfl, rfl⟩ := x
  refine okE.seq (okE.flat (fun _ => rfl) ?_)
  simp [R18_1, thenE, -resE, -resLE, -rvE]
  refine okE.seq (okE.seq (okE.flat (fun _ => rfl) ?_))
  simp [R18_3, thenE, -resE, -resLE, -rvE]
  refine okE.blk (okE.once1 (okE.flat (fun _ => rfl) ?_))
  simp [W18_0, R18_4, thenE]
  refine okE.flat (fun _ => rfl) ?_
  simp [R18_8]
 | some xs =>
  obtain ⟨b, b', rfl, rfl, x1, x2⟩ := x
  have hl := hl xs rfl
  refine okE.seq (okE.flat (fun _ => rfl) ?_)
  simp [R18_1, thenE, -resE, -resLE, -rvE]
  refine okE.seq (okE.seq (okE.flat (fun _ => rfl) ?_))
  simp [R18_3, thenE, -resE, -resLE, -rvE]
  refine okE.blk ?_
  refine okE.loop (fun m t g => ∃ j, g = h /\ t 0 = .slice (some ⟨b, 0, some 1⟩) xs.length (xs.length + 1) /\ t 1 = .slice (some ⟨b', 0, some 1⟩) xs.length (xs.length + 1) /\ t 5 = .int .i64 (j : Nat) /\ j + m = xs.length + 1 /\ 0 < m) ?_ (xs.length + 1) _ _ ⟨0, rfl, by simp, by simp, by simp, by omega, by omega⟩
  intro m t g hI
  obtain ⟨j, rfl, t0, t1, t5, hj, hm⟩ := hI
  by_cases hlt : j < xs.length
  . have c1 := x1.get j (.int .i64 xs[j]) (by simp [iv, hlt])
    have c2 := x2.get j (.int .i64 xs[j]) (by simp [iv, hlt])
    obtain ⟨q, hq⟩ : ∃ q, q = j + 1 := ⟨_, rfl⟩
    have hw : IntKind.i64.wrap ((j : Int) + 1) = (q : Int) := by rw [wrap_id (by omega) (by omega)]; omega
    have hlt' : (j : Int) < xs.length := by omega
    refine okE.flat (fun _ => rfl) ?_
    simp [W18_0, R18_4, R18_6, R18_5, t0, t1, t5, hlt, hlt', c1, c2, hw]
    exact ⟨m - 1, by omega, q, rfl, by omega, by omega⟩
  . have hlt' : ¬ (j : Int) < xs.length := by omega
    refine okE.flat (fun _ => rfl) ?_
    simp [W18_0, R18_4, t0, t1, t5, hlt, hlt', thenE]
    refine okE.flat (fun _ => rfl) ?_
    simp [R18_8]
def liOk (l : List (Option (List Int))) : Prop := ∀ xs, some xs ∈ l -> xs.length < 1000000000
theorem looks_l (C : Lim Tryz.prog O ro okS c) {w : Own} {h : H} {W : Nat} {D : WD} (x : WX O ro w h W D) (hl : D.li.length < 1000000000) (ho : liOk D.li) :
 c 9 [.pointer (some ⟨W, 0, none⟩)] h = some (.bool true, h) := by
 obtain ⟨k, vc, vt, vi, vw, vis, vws, x⟩ := x
 have k3 := x.m.get 3 _ rfl
 have k4 := x.m.get 4 _ rfl
 have l1 := x.l1
 have l2 := x.l2
 refine C.eq (F9_fn O ro) rfl rfl ?_
 unfold F9
 refine okE.seq (okE.flat (fun _ => rfl) ?_)
 simp [R9_0, thenE, -resE, -resLE, -rvE]
 refine okE.seq (okE.seq (okE.flat (fun _ => rfl) ?_))
 simp [R9_1, thenE, -resE, -resLE, -rvE]
 refine okE.blk ?_
 refine okE.loop (fun m t g => ∃ j, g = h /\ t 0 = .pointer (some ⟨W, 0, none⟩) /\ t 3 = .int .i64 (j : Nat) /\ j + m = vis.length + 1 /\ 0 < m) ?_ (vis.length + 1) _ _ ⟨0, rfl, by simp, by simp, by omega, by omega⟩
 intro m t g hI
 obtain ⟨j, rfl, t0, t3, hj, hm⟩ := hI
 by_cases hlt : j < vis.length
 . obtain ⟨bi, cpi, hvi, yi⟩ := x.i.blk (by omega) vis.length (by simp) (by omega)
   obtain ⟨bw, cpw, hvw, yw⟩ := x.v.blk (by omega) vws.length (by simp) (by omega)
   rw [hvi] at k3
   rw [hvw] at k4
   have ci := yi.get j vis[j] (by simp [hlt])
   have cw := yw.get j (vws[j]'(by omega)) (by simp)
   have hli := x.li j (by omega) hlt (by omega)
   have e1 := same_b C hli (fun xs hx => ho xs (by rw [<- hx]; exact List.getElem_mem _))
   obtain ⟨q, hq⟩ : ∃ q, q = j + 1 := ⟨_, rfl⟩
   have hw : IntKind.i64.wrap ((j : Int) + 1) = (q : Int) := by rw [wrap_id (by omega) (by omega)]; omega
   have hlt' : (j : Int) < vis.length := by omega
   have hlt2 : (j : Int) < vws.length := by omega
   have hlt3 : j < vws.length := by omega
   generalize vis[j] = u1 at ci e1
   generalize vws[j] = u2 at cw e1
   refine okE.flat (fun _ => rfl) ?_
   simp [W9_0, R9_2, R9_4, R9_5, R9_3, t0, t3, k3, k4, hlt, hlt', hlt2, hlt3, ci, cw, e1, hw]
   exact ⟨m - 1, by omega, q, rfl, by omega, by omega⟩
 . obtain ⟨ai, cpi, hvi⟩ := x.i.len (by omega) vis.length (by simp)
   rw [hvi] at k3
   have hlt' : ¬ (j : Int) < vis.length := by omega
   refine okE.flat (fun _ => rfl) ?_
   simp [W9_0, R9_2, t0, t3, k3, hlt, hlt', thenE]
   refine okE.flat (fun _ => rfl) ?_
   simp [R9_7]
end
section
variable {H : Type} {O : HI H} {ro : Nat} {c : CallT H}
theorem putsA_next (L : O.Law) : ∀ (l : List Value) (b o : Nat) (h h' : H), putsA O h b o l = some h' -> O.next h' = O.next h := by
 intro l
 induction l with
 | nil => intro b o h h' e; simp only [putsA, Option.some.injEq] at e; rw [e]
 | cons v l ih =>
  intro b o h h' e
  simp only [putsA] at e
  split at e
  . rw [ih _ _ _ _ e, L.next_put]
  . simp at e
theorem und48 : Tryz.prog.underlying 48 = some (.slice 3) := by kernel_rfl
theorem inf3 : ∃ i, Tryz.prog.info? 3 = some i /\ i.size = 1 := by
 have hi : (Tryz.prog.info? 3).map (·.size) = some 1 := by kernel_rfl
 cases hx : Tryz.prog.info? 3 with
 | none => rw [hx] at hi; simp at hi
 | some i => rw [hx] at hi; exact ⟨i, rfl, by simpa using hi⟩
theorem cap_48 (x : Operand) (call : CallT H) (t : Env) (h : H) (a : Addr) (m cp : Nat) (hx : ev t x = .slice (some a) m (cp + 1)) :
 aAny O Tryz.prog ro (.call { callee := .builtin .cap, args := #[x], argTypes := #[48] }) call t h = some (.int .i64 (cp : Nat), h) := by
 simp only [aAny, opA, cls, pureA, und48, hx]
 simp
theorem copy_48 (x y : Operand) (call : CallT H) (t : Env) (h h' : H) (a b : Addr) (m c1 c2 : Nat) (hx : ev t x = .slice (some a) m c1) (hy : ev t y = .slice (some b) m c2) (hro : ¬ a.block < ro) {new : List Value} (h1 : cellsA O h b.block b.off m = some new) (h2 : putsA O h a.block a.off new = some h') :
 aAny O Tryz.prog ro (.call { callee := .builtin .copy, args := #[x, y], argTypes := #[48, 48] }) call t h = some (.int .i64 (m : Nat), h') := by
 obtain ⟨i, hi, hs⟩ := inf3
 simp only [aAny, opA, cls, effA, copyA, List.map_cons, List.map_nil, hx, hy, und48, hi, hs, if_neg hro, Nat.mul_one, Nat.min_self, h1, h2]
theorem WI.addL (L : O.Law) {w : Own} {h : H} (k : WK O ro w h) {W : Nat} {D : WD} {vc vt vi vw : Value} {vis vws : List Value} (x : WI O ro w h W D vc vt vi vw vis vws) (l : Option (List Int)) (u z : Value) (hu : LiR O ro w h D.li.length u z l) (hl : D.li.length < 1000000000) :
 ∃ v3 h1 h2 v4 h3 h4 w', O.cell h W 3 = some vi /\ appI O ro 1 24 vi (.slice (some ⟨O.next h, 0, some 1⟩) 1 2) (O.new h [u]) = some (v3, h1) /\ (v3.cells = #[v3] /\ isFlat v3 = true /\ isTup v3 = false) /\ putsA O h1 W 3 [v3] = some h2 /\ ¬ W < ro /\
  O.cell h2 W 4 = some vw /\ appI O ro 1 24 vw (.slice (some ⟨O.next h2, 0, some 1⟩) 1 2) (O.new h2 [z]) = some (v4, h3) /\ (v4.cells = #[v4] /\ isFlat v4 = true /\ isTup v4 = false) /\ putsA O h3 W 4 [v4] = some h4 /\ WI O ro w' h4 W { D with li := D.li ++ [l] } vc vt v3 v4 (vis ++ [u]) (vws ++ [z]) /\ WK O ro w' h4 /\ Ch O Kw w h w' h4 := by
 have l1 := x.l1
 have l2 := x.l2
 obtain ⟨v3, h1, w1, h2, a1, a2, a3, a4, a5, m2, s2, cc, k2⟩ := wapp L k x.m (f := 3) (sz := 1) (bytes := 24) (by omega) rfl x.i (new := [u]) (by omega) rfl (by omega) (by omega)
 have sv := x.v.ch L cc (by simp)
 obtain ⟨v4, h3, w3, h4, b1, b2, b3, b4, b5, m4, s4, cd, k4⟩ := wapp L k2 m2 (f := 4) (sz := 1) (bytes := 24) (by omega) rfl sv (new := [z]) (by omega) rfl (by omega) (by omega)
 refine ⟨v3, h1, h2, v4, h3, h4, w3, a1, a2, a3, a4, a5, b1, b2, b3, b4, ?_, k4, (kw_f cc).trans (kw_f cd)⟩
 refine ⟨m4, (x.c.ch L cc (by simp)).ch L cd (by simp), (x.t.ch L cc (by simp)).ch L cd (by simp), s2.ch L cd (by simp), s4, by simp [l1], by simp [l2], ?_, ?_⟩
 . intro j j1 j2 j3
   simp only [List.length_append, List.length_singleton] at j1 j2 j3
   by_cases hj : j < D.li.length
   . have := x.li j hj (by omega) (by omega)
     simp only [List.getElem_append_left hj, List.getElem_append_left (show j < vis.length by omega), List.getElem_append_left (show j < vws.length by omega)]
     exact (this.ch L cc (by simp) (by simp)).ch L cd (by simp) (by simp)
   . have hj' : j = D.li.length := by omega
     have e1 : (vis ++ [u])[j]'(by simp; omega) = u := by simp only [show j = vis.length by omega, List.getElem_concat_length]
     have e2 : (vws ++ [z])[j]'(by simp; omega) = z := by simp only [show j = vws.length by omega, List.getElem_concat_length]
     have e3 : (D.li ++ [l])[j]'(by simp; omega) = l := by simp only [hj', List.getElem_concat_length]
     rw [e1, e2, e3, hj']
     exact (hu.ch L cc (by simp) (by simp)).ch L cd (by simp) (by simp)
 . intro y hy
   obtain ⟨⟨v1, v2, x1⟩, ⟨vn, vr, vo, x2⟩, ok⟩ := x.cx y hy
   exact ⟨⟨v1, v2, (x1.m.ch L cc (by simp)).ch L cd (by simp), (x1.s1.ch L cc (by simp)).ch L cd (by simp), (x1.s2.ch L cc (by simp)).ch L cd (by simp)⟩, ⟨vn, vr, vo, (x2.m.ch L cc (by simp)).ch L cd (by simp), (x2.sn.ch L cc (by simp)).ch L cd (by simp), (x2.sr.ch L cc (by simp)).ch L cd (by simp), (x2.so.ch L cc (by simp)).ch L cd (by simp)⟩, ok⟩
attribute [local simp] cSeq cReg reg to mv too onlyIf onlyIfo aMove aNil aFld aLd aInt aPick aLenStr aIdxStr aConv aUn unA ev upd_get isB envOf iA_add iA_sub iA_mul iA_eql iA_neq iA_lss iA_leq iA_gtr iA_geq cIf cRet cSkip okc_some resE resLE rvE aSt vc_int vc_bool vc_agg vc_str vc_ptr vc_sl ft_int ft_bool ft_str ft_ptr ft_sl tp_int tp_bool tp_agg tp_str tp_ptr tp_sl aBuild Instr.fill aCall cExit cBlk outOf ptr undef aNew aBox aIdxArr aLdN aShift aLenSl aIdx aMkSl aApp aExt aSliceStr aStr strA aPtrNil aBoolEq aAggEq intsA aSlNil aMake
theorem range_i (n : Nat) : rangeA #[.int .i64 0] n = List.replicate n (.int .i64 0) := by
 unfold rangeA
 apply List.ext_getElem
 . simp
 . intro i h1 h2
   simp [Nat.mod_one]
theorem keep_l (C : Lim Tryz.prog O ro okS c) (L : O.Law) {w : Own} {h : H} (k : WK O ro w h) {W : Nat} {D : WD} {vc vt vi vw : Value} {vis vws : List Value} (x : WI O ro w h W D vc vt vi vw vis vws) (hl : D.li.length < 1000000000) (xs : List Int) (hxs : xs.length < 1000000000) (b : Nat) (y : Bx O ro w h (51, D.li.length) b (xs.map iv)) :
 ∃ w' h', c 19 [.pointer (some ⟨W, 0, none⟩), .slice (some ⟨b, 0, some 1⟩) xs.length (xs.length + 1)] h = some (.tuple #[], h') /\ WX O ro w' h' W { D with li := D.li ++ [some xs] } /\ Ch O Kw w h w' h' := by
 obtain ⟨n, hn⟩ : ∃ n, n = xs.length := ⟨_, rfl⟩
 obtain ⟨b', hb'⟩ : ∃ b', b' = O.next h := ⟨_, rfl⟩
 obtain ⟨h1, hh1⟩ : ∃ h1, h1 = O.new h (List.replicate n (.int .i64 0)) := ⟨_, rfl⟩
 have al1 : Al O w h (w.set b' (52, D.li.length)) h1 := fun K => by rw [hh1, hb']; exact Ch.new L _ _ _ _ _
 have y1 : Bx O ro (w.set b' (52, D.li.length)) h1 (52, D.li.length) b' (List.replicate n (.int .i64 0)) := by rw [hh1, hb']; exact Bx.new L _ _ k.lo _ _
 have y1' := nrm_bx (al1 fun _ => False) y1 (by simp)
 have al1' : Al O w h (rt w (w.set b' (52, D.li.length)) (O.next h) r50) h1 := fun K => nrm_ch (al1 K)
 have k1 : WK O ro (rt w (w.set b' (52, D.li.length)) (O.next h) r50) h1 := k.up L (al1' fun _ => False) (by simp) (cl_rt (K := fun _ => True) k.cl _ r50_cl)
 obtain ⟨w1, hw1⟩ : ∃ w1, w1 = rt w (w.set b' (52, D.li.length)) (O.next h) r50 := ⟨_, rfl⟩
 rw [<- hw1] at y1' al1' k1
 obtain ⟨h2, e2, y2, c2⟩ := Bx.over L (K := fun u => u = (52, D.li.length)) (new := xs.map iv) rfl y1' (by simp [hn])
 have k2 : WK O ro w1 h2 := k1.up L c2 (by simp) (fun q hq => k1.cl q (by
  by_cases hlt : q < O.next h1
  . exact hlt
  . exfalso
    have hnx : O.next h2 = O.next h1 := putsA_next L _ _ _ _ _ e2
    omega))
 have x1 := x.al L al1'
 have x2 : WI O ro w1 h2 W D vc vt vi vw vis vws := by
  obtain ⟨a1, a2, a3, a4, a5, a6, a7, a8, a9⟩ := x1
  refine ⟨a1.ch L c2 (by simp), a2.ch L c2 (by simp), a3.ch L c2 (by simp), a4.ch L c2 (by simp), a5.ch L c2 (by simp), a6, a7, fun j j1 j2 j3 => (a8 j j1 j2 j3).ch L c2 (by simp) (by simp; omega), fun z hz => ?_⟩
  obtain ⟨⟨v1, v2, z1⟩, ⟨vn, vr, vo, z2⟩, ok⟩ := a9 z hz
  exact ⟨⟨v1, v2, z1.m.ch L c2 (by simp), z1.s1.ch L c2 (by simp), z1.s2.ch L c2 (by simp)⟩, ⟨vn, vr, vo, z2.m.ch L c2 (by simp), z2.sn.ch L c2 (by simp), z2.sr.ch L c2 (by simp), z2.so.ch L c2 (by simp)⟩, ok⟩
 have yb1 := y.al' L al1'
 have yb2 := yb1.ch L c2 (by simp)
 have hro' : ¬ b' < ro := by have := y1'.lo; omega
 have lb1 : cellsA O h1 b 0 n = some (xs.map iv) := by have := yb1.all; rw [List.length_map, <- hn] at this; exact this
 obtain ⟨v3, g1, g2, v4, g3, g4, w', a1, a2, a3, a4, a5, b1, b2, b3, b4, x4, k4, c4'⟩ := x2.addL L k2 (some xs) (.slice (some ⟨b, 0, some 1⟩) n (n + 1)) (.slice (some ⟨b', 0, some 1⟩) n (n + 1)) ⟨b, b', by rw [hn], by rw [hn], yb2, y2⟩ hl
 refine ⟨w', g4, ?_, ⟨k4, _, _, _, _, _, _, x4⟩, ((kw_al al1').trans (c2.mono fun t ht => by rw [ht]; simp [Kw])).trans c4'⟩
 rw [<- hn]
 have hr := range_i n
 have n1 : (n : Int) <= 140737488355328 := by omega
 have n2 : (n : Int) * 8 <= 140737488355328 := by omega
 have n3 : (0 : Int) <= n := by omega
 have bd := bnd n n n (Nat.le_refl _)
 have b0 : boundA none 0 n = some 0 := rfl
 refine C.eq (F19_fn O ro) rfl rfl ?_
 unfold F19
 refine okE.seq (okE.flat (fun _ => rfl) ?_)
 simp [R19_0, thenE, -resE, -resLE, -rvE]
 refine okE.cond true (by simp) ?_
 simp only [if_true]
 have cp : ∀ (call : CallT H) (t : Env) (h : H), t 11 = .slice (some ⟨b, 0, some 1⟩) n (n + 1) -> aAny O Tryz.prog ro (.call { callee := .builtin .cap, args := #[.tmp 11], argTypes := #[48] }) call t h = some (.int .i64 (n : Nat), h) := fun call t h ht => cap_48 _ _ _ _ _ n n ht
 refine okE.seq (okE.flat (fun _ => rfl) ?_)
 simp [R19_1, cp, aSliceSl, bd, b0, thenE, -resE, -resLE, -rvE]
 refine okE.seq (okE.flat (fun _ => rfl) ?_)
 simp [R19_2, n1, n2, n3, hr, <- hb', <- hh1, thenE, -resE, -resLE, -rvE]
 have cy : ∀ (call : CallT H) (t : Env), t 17 = .slice (some ⟨b', 0, some 1⟩) n (n + 1) -> t 18 = .slice (some ⟨b, 0, some 1⟩) n (n + 1) -> aAny O Tryz.prog ro (.call { callee := .builtin .copy, args := #[.tmp 17, .tmp 18], argTypes := #[48, 48] }) call t h1 = some (.int .i64 (n : Nat), h2) := fun call t t1 t2 => copy_48 _ _ _ _ _ _ _ _ n _ _ t1 t2 hro' lb1 e2
 refine okE.seq (okE.flat (fun _ => rfl) ?_)
 simp [R19_3, cy, thenE, -resE, -resLE, -rvE]
 refine okE.seq (okE.flat (fun _ => rfl) ?_)
 simp [R19_4, a1, List.zipIdx, List.range_succ, rangeA, a2, thenE, -resE, -resLE, -rvE]
 refine okE.seq (okE.flat (fun _ => rfl) ?_)
 simp [R19_5, a3.1, a3.2.1, a3.2.2, a4, a5, thenE, -resE, -resLE, -rvE]
 refine okE.seq (okE.flat (fun _ => rfl) ?_)
 simp [R19_6, b1, List.zipIdx, List.range_succ, rangeA, b2, thenE, -resE, -resLE, -rvE]
 refine okE.flat (fun _ => rfl) ?_
 simp [R19_7, b3.1, b3.2.1, b3.2.2, b4, a5]
end
def xsL (s : ByteArray) (j : Nat) : List Int := ((List.range j).map fun i => (byteS s i : Int)) ++ List.replicate (s.size - j) 0
theorem xsL_len (s : ByteArray) (j : Nat) (h : j <= s.size) : (xsL s j).length = s.size := by simp [xsL]; omega
theorem xsL_set (s : ByteArray) (j : Nat) (h : j < s.size) : (xsL s j).set j (byteS s j : Int) = xsL s (j + 1) := by
 unfold xsL
 rw [List.set_append_right _ _ (by simp), List.length_map, List.length_range, Nat.sub_self, show s.size - j = (s.size - (j + 1)) + 1 by omega, List.replicate_succ, List.set_cons_zero, List.range_succ]
 simp
theorem ivs_set (l : List Int) (i : Nat) (x : Int) : (l.map iv).set i (.int .i64 x) = (l.set i x).map iv := by rw [List.map_set]; rfl
section
variable {H : Type} {O : HI H} {ro : Nat} {c : CallT H}
theorem WI.wrt (L : O.Law) {w : Own} {h : H} (k : WK O ro w h) {W : Nat} {D : WD} {vc vt vi vw : Value} {vis vws : List Value} (x : WI O ro w h W D vc vt vi vw vis vws) (j : Nat) (hj : j < D.li.length) (xs : List Int) (hx : D.li[j] = some xs) (i : Nat) (hi : i < xs.length) (y : Int) :
 ∃ b b' h1 h2, vis[j]? = some (.slice (some ⟨b, 0, some 1⟩) xs.length (xs.length + 1)) /\ vws[j]? = some (.slice (some ⟨b', 0, some 1⟩) xs.length (xs.length + 1)) /\ putsA O h b i [.int .i64 y] = some h1 /\ putsA O h1 b' i [.int .i64 y] = some h2 /\ ¬ b < ro /\ ¬ b' < ro /\
  (∀ {t : Tag} {q : Nat} {l : List Value}, t.1 ≠ 51 -> t.1 ≠ 52 -> Bx O ro w h t q l -> Bx O ro w h1 t q l) /\ (∀ {t : Tag} {q : Nat} {l : List Value}, t.1 ≠ 51 -> t.1 ≠ 52 -> Bx O ro w h t q l -> Bx O ro w h2 t q l) /\ WI O ro w h2 W { D with li := D.li.set j (some (xs.set i y)) } vc vt vi vw vis vws /\ WK O ro w h2 /\ Ch O Kw w h w h2 := by
 have l1 := x.l1
 have l2 := x.l2
 have hli := x.li j hj (by omega) (by omega)
 rw [hx] at hli
 obtain ⟨b, b', e1, e2, x1, x2⟩ := hli
 have hil : i < (xs.map iv).length := by simp; exact hi
 have hc1 := x1.get i (.int .i64 xs[i]) (by simp [iv, hi])
 have y1 := x1.put L i hil (.int .i64 y)
 have c1 := Ch.put L (K := fun u => u = (51, j)) x1 i hil (.int .i64 y) rfl
 have x2' := x2.ch L c1 (by simp)
 have hc2 := x2'.get i (.int .i64 xs[i]) (by simp [iv, hi])
 have y2 := x2'.put L i hil (.int .i64 y)
 have c2 := Ch.put L (K := fun u => u = (52, j)) x2' i hil (.int .i64 y) rfl
 have y1' := y1.ch L c2 (by simp)
 rw [ivs_set] at y1' y2
 have k2 : WK O ro w (O.put (O.put h b i (.int .i64 y)) b' i (.int .i64 y)) := by
  refine ⟨(k.g.ch L c1 (by simp)).ch L c2 (by simp), fun q hq => k.cl q ?_, ?_⟩
  . rw [L.next_put, L.next_put] at hq; exact hq
  . rw [L.next_put, L.next_put]; exact k.lo
 refine ⟨b, b', O.put h b i (.int .i64 y), O.put (O.put h b i (.int .i64 y)) b' i (.int .i64 y), by rw [<- e1]; simp, by rw [<- e2]; simp, by simp [putsA, hc1], by simp [putsA, hc2], by have := x1.lo; omega, by have := x2.lo; omega, ?_, ?_, ?_, k2, (c1.mono fun t ht => by rw [ht]; simp [Kw]).trans (c2.mono fun t ht => by rw [ht]; simp [Kw])⟩
 . intro t q l h51 h52 z
   exact z.ch L c1 (by rintro rfl; exact h51 rfl)
 . intro t q l h51 h52 z
   exact (z.ch L c1 (by rintro rfl; exact h51 rfl)).ch L c2 (by rintro rfl; exact h52 rfl)
 . obtain ⟨a1, a2, a3, a4, a5, a6, a7, a8, a9⟩ := x
   refine ⟨(a1.ch L c1 (by simp)).ch L c2 (by simp), (a2.ch L c1 (by simp)).ch L c2 (by simp), (a3.ch L c1 (by simp)).ch L c2 (by simp), (a4.ch L c1 (by simp)).ch L c2 (by simp), (a5.ch L c1 (by simp)).ch L c2 (by simp), by simp [a6], by simp [a7], ?_, ?_⟩
   . intro m m1 m2 m3
     simp only [List.length_set] at m1
     by_cases hm : m = j
     . subst hm
       simp only [List.getElem_set_self]
       rw [e1, e2]
       exact ⟨b, b', by simp, by simp, y1', y2⟩
     . simp only [List.getElem_set_ne (Ne.symm hm)]
       exact ((a8 m m1 m2 m3).ch L c1 (by simp [hm]) (by simp)).ch L c2 (by simp) (by simp [hm])
   . intro z hz
     obtain ⟨⟨v1, v2, z1⟩, ⟨vn, vr, vo, z2⟩, ok⟩ := a9 z hz
     exact ⟨⟨v1, v2, (z1.m.ch L c1 (by simp)).ch L c2 (by simp), (z1.s1.ch L c1 (by simp)).ch L c2 (by simp), (z1.s2.ch L c1 (by simp)).ch L c2 (by simp)⟩, ⟨vn, vr, vo, (z2.m.ch L c1 (by simp)).ch L c2 (by simp), (z2.sn.ch L c1 (by simp)).ch L c2 (by simp), (z2.sr.ch L c1 (by simp)).ch L c2 (by simp), (z2.so.ch L c1 (by simp)).ch L c2 (by simp)⟩, ok⟩
theorem WI.setN (L : O.Law) {w : Own} {h : H} (k : WK O ro w h) {W : Nat} {D D' : WD} {vc vt vi vw : Value} {vis vws : List Value} (x : WI O ro w h W D vc vt vi vw vis vws) (f : Nat) (hf : 5 <= f /\ f < 8) (y : Int) (h1 : D'.cs = D.cs) (h2 : D'.tx = D.tx) (h3 : D'.li = D.li) (h4 : [vc, vt, .slice none 0 0, vi, vw, .int .i64 D.a, .int .i64 D.n, .int .i64 D.x].set f (.int .i64 y) = [vc, vt, .slice none 0 0, vi, vw, .int .i64 D'.a, .int .i64 D'.n, .int .i64 D'.x]) :
 ∃ h', putsA O h W f [.int .i64 y] = some h' /\ ¬ W < ro /\ (∀ {t : Tag} {q : Nat} {l : List Value}, t ≠ (50, 1000) -> Bx O ro w h t q l -> Bx O ro w h' t q l) /\ WI O ro w h' W D' vc vt vi vw vis vws /\ WK O ro w h' /\ Ch O Kw w h w h' := by
 have hfl : f < [vc, vt, .slice none 0 0, vi, vw, .int .i64 D.a, .int .i64 D.n, .int .i64 D.x].length := by simp; omega
 have hc : O.cell h W f = some [vc, vt, .slice none 0 0, vi, vw, .int .i64 D.a, .int .i64 D.n, .int .i64 D.x][f] := by rw [x.m.cell f hfl]; simp
 have m1 := x.m.put L f hfl (.int .i64 y)
 have c1 := Ch.put L (K := fun u => u = (50, 1000)) x.m f hfl (.int .i64 y) rfl
 rw [h4] at m1
 have k2 : WK O ro w (O.put h W f (.int .i64 y)) := by
  refine ⟨k.g.ch L c1 (by simp), fun q hq => k.cl q ?_, ?_⟩
  . rw [L.next_put] at hq; exact hq
  . rw [L.next_put]; exact k.lo
 refine ⟨O.put h W f (.int .i64 y), by simp [putsA, hc], by have := x.m.lo; omega, fun ht z => z.ch L c1 (by simpa using ht), ?_, k2, c1.mono fun t ht => by rw [ht]; simp [Kw]⟩
 obtain ⟨a1, a2, a3, a4, a5, a6, a7, a8, a9⟩ := x
 refine ⟨m1, by rw [h1]; exact a2.ch L c1 (by simp), by rw [h2]; exact a3.ch L c1 (by simp), a4.ch L c1 (by simp), a5.ch L c1 (by simp), by rw [h3]; exact a6, by rw [h3]; exact a7, ?_, ?_⟩
 . intro m m1 m2 m3
   have m1' : m < D.li.length := by rw [<- h3]; exact m1
   have e : D'.li[m] = D.li[m] := by simp only [h3]
   rw [e]
   exact (a8 m m1' m2 m3).ch L c1 (by simp) (by simp)
 . intro z hz
   obtain ⟨⟨v1, v2, z1⟩, ⟨vn, vr, vo, z2⟩, ok⟩ := a9 z (by rw [<- h1]; exact hz)
   exact ⟨⟨v1, v2, z1.m.ch L c1 (by simp), z1.s1.ch L c1 (by simp), z1.s2.ch L c1 (by simp)⟩, ⟨vn, vr, vo, z2.m.ch L c1 (by simp), z2.sn.ch L c1 (by simp), z2.sr.ch L c1 (by simp), z2.so.ch L c1 (by simp)⟩, ok⟩
attribute [local simp] cSeq cReg reg to mv too onlyIf onlyIfo aMove aNil aFld aLd aInt aPick aLenStr aIdxStr aConv aUn unA ev upd_get isB envOf iA_add iA_sub iA_mul iA_eql iA_neq iA_lss iA_leq iA_gtr iA_geq cIf cRet cSkip okc_some resE resLE rvE aSt vc_int vc_bool vc_agg vc_str vc_ptr vc_sl ft_int ft_bool ft_str ft_ptr ft_sl tp_int tp_bool tp_agg tp_str tp_ptr tp_sl aBuild Instr.fill aCall cExit cBlk outOf ptr undef aNew aBox aIdxArr aLdN aShift aLenSl aIdx aMkSl aApp aExt aSliceStr aStr strA aPtrNil aBoolEq aAggEq intsA aSlNil aMake
theorem own_fill (C : Lim Tryz.prog O ro okS c) (L : O.Law) {w : Own} {h0 : H} {W bo b kk : Nat} {s : ByteArray} (hs : s.size < 1000000000) {o : OpT} (ho : o.s = s) (yo : Bx O ro w h0 (58, 1) bo o.cells) (h : H) (y : Bx O ro w h (51, kk) b ((xsL s 0).map iv)) (ch : Ch O (fun u => u = (51, kk)) w h0 w h) (hnx : O.next h = O.next h0) (t : Env) (t0 : t 0 = .pointer (some ⟨W, 0, none⟩)) (t3 : t 3 = .pointer (some ⟨bo, 0, none⟩)) (t5 : t 5 = .slice (some ⟨b, 0, some 1⟩) s.size (s.size + 1)) (t6 : t 6 = .int .i64 0) :
 okE c (cBlk 1 (cLoop (W10_0 O Tryz.prog ro))) (t, h) (fun e t' h' => e = .normal /\ t' 0 = .pointer (some ⟨W, 0, none⟩) /\ t' 5 = .slice (some ⟨b, 0, some 1⟩) s.size (s.size + 1) /\ Bx O ro w h' (51, kk) b ((xsL s s.size).map iv) /\ Ch O (fun u => u = (51, kk)) w h0 w h' /\ O.next h' = O.next h0) := by
 refine okE.blk ?_
 refine okE.loop (fun m t g => ∃ j, Bx O ro w g (51, kk) b ((xsL s j).map iv) /\ Ch O (fun u => u = (51, kk)) w h0 w g /\ O.next g = O.next h0 /\ t 0 = .pointer (some ⟨W, 0, none⟩) /\ t 3 = .pointer (some ⟨bo, 0, none⟩) /\ t 5 = .slice (some ⟨b, 0, some 1⟩) s.size (s.size + 1) /\ t 6 = .int .i64 (j : Nat) /\ j + m = s.size + 1 /\ 0 < m) ?_ (s.size + 1) _ _ ⟨0, y, ch, hnx, t0, t3, t5, t6, by omega, by omega⟩
 intro m t g hI
 obtain ⟨j, y, ch, hnx, t0, t3, t5, t6, hj, hm⟩ := hI
 have yo' := yo.ch L ch (by simp)
 have q4 : O.cell g bo 4 = some (.string s) := by rw [<- ho]; exact yo'.get 4 _ rfl
 by_cases hlt : j < s.size
 . have hlen : (xsL s j).length = s.size := xsL_len s j (by omega)
   have hu : s[j]? = some s[j] := by rw [ByteArray.getElem?_lt' s j hlt]
   have hby : byteS s j = s[j].toNat := by simp [byteS, hu]
   have hul : s[j].toNat < 256 := s[j].toNat_lt
   obtain ⟨n, hn⟩ : ∃ n, n = s[j].toNat := ⟨_, rfl⟩
   have hw1 : IntKind.i64.wrap (n : Int) = (n : Int) := wrap_id (by omega) (by omega)
   have hcl := y.get j (.int .i64 (xsL s j)[j]) (by simp [iv, hlen, hlt])
   have y2 := y.put L j (by simp [hlen]; exact hlt) (.int .i64 (n : Int))
   have c2 := Ch.put L (K := fun u => u = (51, kk)) y j (by simp [hlen]; exact hlt) (.int .i64 (n : Int)) rfl
   rw [ivs_set, hn, <- hby, xsL_set s j hlt, hby, <- hn] at y2
   have p1 : putsA O g b j [.int .i64 (n : Int)] = some (O.put g b j (.int .i64 (n : Int))) := by simp [putsA, hcl]
   have hro : ¬ b < ro := by have := y.lo; omega
   have hnx2 : O.next (O.put g b j (.int .i64 (n : Int))) = O.next h0 := by rw [L.next_put, hnx]
   generalize O.put g b j (.int .i64 (n : Int)) = g2 at *
   obtain ⟨q, hq⟩ : ∃ q, q = j + 1 := ⟨_, rfl⟩
   have hw : IntKind.i64.wrap ((j : Int) + 1) = (q : Int) := by rw [wrap_id (by omega) (by omega)]; omega
   have hlt' : (j : Int) < s.size := by omega
   rw [<- hq] at y2
   refine okE.flat (fun _ => rfl) ?_
   simp [W10_0, R10_6, R10_8, R10_7, t0, t3, t5, t6, q4, hlt, hlt', hu, <- hn, hw1, hro, p1, hw]
   exact ⟨m - 1, by omega, q, y2, ch.trans c2, hnx2, rfl, by omega, by omega⟩
 . have hlt' : ¬ (j : Int) < s.size := by omega
   have hjs : j = s.size := by omega
   refine okE.flat (fun _ => rfl) ?_
   simp [W10_0, R10_6, t0, t3, t5, t6, q4, hlt, hlt']
   rw [hjs] at y
   exact ⟨y, ch, hnx⟩
end
end Go.Proofs.YtlakdngplpabdaaGreatDoor
