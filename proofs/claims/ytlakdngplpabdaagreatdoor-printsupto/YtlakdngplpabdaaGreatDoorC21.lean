/- Own work. -/
import Derived.Test.YtlakdngplpabdaaGreatDoorC20
namespace Go.Proofs.YtlakdngplpabdaaGreatDoor
open Go.Vm Go.Proofs
set_option linter.unusedSimpArgs false
set_option linter.unusedVariables false
set_option maxHeartbeats 1000000
def laW (s : ByteArray) (ul : Int) (R : RS) : Nat × RS :=
 if byA s R.pos = 32 then
  let R1 := exS s R 32
  let v := wdS s R1
  if v.1.l = ul then (2, v.2) else (v.1.l.toNat, if 1 < v.1.l then fl v.2 9 R1.pos else v.2)
 else (0, R)
def laN (s : ByteArray) (F : FD) : FD := { F with R := (lwS F.hd.m s F.R).2, next := F.next ++ [⟨(lwS F.hd.m s F.R).1.l, F.R.pos⟩] }
def laQ (s : ByteArray) (ul : Int) (F : FD) : FD := { F with R := exS s (laW s ul F.R).2 10, resets := F.resets ++ [(laW s ul F.R).1] }
theorem laW_pos {s : ByteArray} {ul : Int} {R : RS} (hp : R.pos <= s.size) : (laW s ul R).2.pos <= s.size := by
 unfold laW
 split
 . simp only
   have := wdS_pos (s := s) (R := exS s R 32) (exS_pos _ hp)
   split
   . exact this
   . simp only
     split
     . rw [fl_pos]; exact this
     . exact this
 . exact hp
def bdU (s : ByteArray) (j : Nat) (F : FD) : Us × FD :=
 if F.hd.bin = true then (⟨((2 + 2 * F.hd.nin + 2 * j : Nat) : Int), 0⟩, deS F ⟨((2 + 2 * F.hd.nin + 2 * j : Nat) : Int), 0⟩)
 else
  let u : Us := ⟨(lwS F.hd.m s F.R).1.l, F.R.pos⟩
  let F1 := deS { F with R := (lwS F.hd.m s F.R).2 } u
  (u, { F1 with R := exS s F1.R 32 })
def bdL (s : ByteArray) (j : Nat) (F : FD) : FD := laQ s (bdU s j F).1.l (laN s (bdU s j F).2)
theorem bdU_fi {D : HR} {s : ByteArray} {F : FD} {B j : Nat} (h : FI D s F B) (hj : j < 1000) (hD : D.nin <= 1000) : FI D s (bdU s j F).2 (B + 1) := by
 unfold bdU
 split
 . exact deS_fi h _ (by rw [h.hd]; simp only; omega)
 . have h1 := deS_fi (h.setR _ (lwS_pos (m := F.hd.m) h.pos)) ⟨(lwS F.hd.m s F.R).1.l, F.R.pos⟩ (lwS_l F.hd.m s F.R)
   exact h1.setR _ (exS_pos _ h1.pos)
theorem laN_fi {D : HR} {s : ByteArray} {F : FD} {B : Nat} (h : FI D s F B) : FI D s (laN s F) (B + 1) := by
 obtain ⟨a, b, c, d, e, f, g, i, j, k⟩ := h
 exact ⟨a, lwS_pos b, c, by simp only [laN]; omega, by simp only [laN, List.length_append, List.length_singleton]; omega, by simp only [laN]; omega, by simp only [laN]; omega, by simp only [laN]; omega, by simp only [laN]; omega, by simp only [laN]; omega⟩
theorem laQ_fi {D : HR} {s : ByteArray} {F : FD} {B : Nat} {ul : Int} (h : FI D s F B) : FI D s (laQ s ul F) (B + 1) := by
 obtain ⟨a, b, c, d, e, f, g, i, j, k⟩ := h
 exact ⟨a, exS_pos _ (laW_pos b), c, by simp only [laQ]; omega, by simp only [laQ]; omega, by simp only [laQ]; omega, by simp only [laQ]; omega, by simp only [laQ, List.length_append, List.length_singleton]; omega, by simp only [laQ]; omega, by simp only [laQ]; omega⟩
theorem bdL_fi {D : HR} {s : ByteArray} {F : FD} {B j : Nat} (h : FI D s F B) (hj : j < 1000) (hD : D.nin <= 1000) : FI D s (bdL s j F) (B + 3) := laQ_fi (laN_fi (bdU_fi h hj hD))
attribute [local simp] cSeq cReg reg to mv too onlyIf onlyIfo aMove aNil aFld aLd aInt aPick aLenStr aIdxStr aConv aUn unA ev upd_get isB envOf iA_add iA_sub iA_mul iA_eql iA_neq iA_lss iA_leq iA_gtr iA_geq cIf cRet cSkip okc_some resE resLE rvE aSt vc_int vc_bool vc_agg vc_str vc_ptr vc_sl ft_int ft_bool ft_str ft_ptr ft_sl tp_int tp_bool tp_agg tp_str tp_ptr tp_sl aBuild Instr.fill aCall cExit cBlk outOf ptr undef aNew aBox aIdxArr aLdN aShift shiftA aLenSl aIdx aMkSl aApp rangeA aExt
section
variable {H : Type} {O : HI H} {ro : Nat} {c : CallT H}
theorem la_z (C : Lim Tryz.prog O ro okS c) (L : O.Law) {w : Own} {h : H} {f b5 j : Nat} {s : ByteArray} {F : FD} (hs : s.size <= 1000) (hp : F.R.pos <= s.size) (x : FX O ro w h f s F) (lo : ro <= O.next h) (ul : Int) (up : Value) (y : Bx O ro w h (102, 1) b5 [.int .i64 ul, up]) (t : Env) (t0 : t 0 = .pointer (some ⟨f, 0, none⟩)) (t4 : t 4 = .int .i64 (j : Nat)) (t5 : t 5 = .pointer (some ⟨b5, 0, none⟩)) (t7 : t 7 = .int .i64 0) (t8 : t 8 = .int .i64 (byA s F.R.pos)) :
 okE c (cSeq (cReg (R56_21 O Tryz.prog ro)) (cIf (.tmp 110) (cSeq (cReg (R56_22 O Tryz.prog ro)) (cSeq (cReg (R56_23 O Tryz.prog ro)) (cSeq (cReg (R56_24 O Tryz.prog ro)) (cSeq (cReg (R56_25 O Tryz.prog ro)) (cIf (.tmp 121) (cReg (R56_26 O Tryz.prog ro)) (cSeq (cReg (R56_27 O Tryz.prog ro)) (cIf (.tmp 124) (cReg (R56_28 O Tryz.prog ro)) cSkip))))))) cSkip)) (t, h)
  (fun e t' h' => e = .normal /\ t' 0 = .pointer (some ⟨f, 0, none⟩) /\ t' 4 = .int .i64 (j : Nat) /\ t' 7 = .int .i64 ((laW s ul F.R).1 : Nat) /\ ∃ w', FX O ro w' h' f s { F with R := (laW s ul F.R).2 } /\ Ch O (Kc [1] 3) w h w' h' /\ ro <= O.next h') := by
 unfold laW
 by_cases hb : byA s F.R.pos = 32
 . have hb' : (byA s F.R.pos == 32) = true := by simpa using hb
   simp only [if_pos hb]
   obtain ⟨h2, hc2, x2, c2⟩ := sign_x C L x hs 32
   have lo2 := Nat.le_trans lo c2.nx
   have p2 := exS_pos (s := s) (R := F.R) 32 hp
   obtain ⟨w3, h3, hc3, x3, c3, lo3⟩ := word_x C L x2 lo2 hs p2
   obtain ⟨k, hk, hu⟩ := wdS_l s (exS s F.R 32)
   have hu' : (wdS s (exS s F.R 32)).1.l = k := by rw [hu]
   obtain ⟨R1, hR1⟩ : ∃ R1, R1 = exS s F.R 32 := ⟨_, rfl⟩
   obtain ⟨V, hV⟩ : ∃ V, V = (wdS s (exS s F.R 32)).2 := ⟨_, rfl⟩
   have hc3x : c 107 [.pointer (some ⟨f, 0, none⟩)] h2 = some (.agg #[.int .i64 (k : Nat), .int .i64 R1.pos], h3) := by rw [hR1, <- hu']; exact hc3
   have x3x : FX O ro w3 h3 f s { F with R := V } := by rw [hV]; exact x3
   rw [hu', <- hV, <- hR1]
   clear hu' hV hu hc3 x3
   obtain ⟨b, w4, h4, hbe, e4, z4, c4, lo4, hrob⟩ := loc2 L w3 h3 lo3 (.int .i64 (k : Nat)) (.int .i64 R1.pos) (102, 2)
   have x4 := x3x.ch L (c4 fun _ => False) (by simp)
   have y4 := ((y.ch L c2 (by simp)).ch L c3 (by simp [Kc])).ch L (c4 fun _ => False) (by simp)
   have z0 := z4.get 0 _ rfl
   have z1 := z4.get 1 _ rfl
   have u0 := y4.get 0 _ rfl
   have cc4 : Ch O (Kc [1] 3) w h w4 h4 := ((chR c2 3).trans (Kc.mono c3 (by decide) (by omega))).trans (c4 _)
   have hc2' : c 105 [.pointer (some ⟨f, 0, none⟩), .int .i64 32] h = some (.tuple #[], h2) := hc2
   by_cases hku : (k : Int) = ul
   . have hku' : ((k : Int) == ul) = true := by simpa using hku
     simp only [if_pos hku]
     refine okE.flat (fun _ => rfl) ?_
     simp [R56_21, R56_22, R56_23, R56_24, R56_25, R56_26, t0, t4, t5, t7, t8, hb', hc2', hc3x, <- hbe, e4, hrob, z0, u0, hku']
     exact ⟨w4, x4, cc4, lo4⟩
   . have hku' : ((k : Int) == ul) = false := by simpa using hku
     simp only [if_neg hku, Int.toNat_natCast]
     by_cases hk1 : (1 : Int) < k
     . have hk2 : 1 < k := by omega
       simp only [if_pos hk1]
       obtain ⟨h5, hc5, x5, c5⟩ := bad_x C L x4 9 R1.pos
       have hc5' : c 108 [.pointer (some ⟨f, 0, none⟩), .int .i64 9, .int .i64 R1.pos] h4 = some (.tuple #[], h5) := hc5
       refine okE.flat (fun _ => rfl) ?_
       simp [R56_21, R56_22, R56_23, R56_24, R56_25, R56_27, R56_28, t0, t4, t5, t7, t8, hb', hc2', hc3x, <- hbe, e4, hrob, z0, z1, u0, hku', hk1, hk2, hc5']
       exact ⟨w4, x5, cc4.trans (chR c5 3), Nat.le_trans lo4 c5.nx⟩
     . have hk2 : ¬ 1 < k := by omega
       simp only [if_neg hk1]
       refine okE.flat (fun _ => rfl) ?_
       simp [R56_21, R56_22, R56_23, R56_24, R56_25, R56_27, t0, t4, t5, t7, t8, hb', hc2', hc3x, <- hbe, e4, hrob, z0, z1, u0, hku', hk1, hk2]
       exact ⟨w4, x4, cc4, lo4⟩
 . have hb' : (byA s F.R.pos == 32) = false := by simpa using hb
   simp only [if_neg hb]
   refine okE.flat (fun _ => rfl) ?_
   simp [R56_21, t0, t4, t5, t7, t8, hb']
   exact ⟨w, x, Ch.refl _ _ _, lo⟩
theorem la_rest (C : Lim Tryz.prog O ro okS c) (L : O.Law) {w : Own} {h : H} {f b5 j B : Nat} {s : ByteArray} {D : HR} {F : FD} (hs : s.size <= 1000) (hB : B <= 5000) (hD : D.m <= 10000) (fi : FI D s F B) (x : FX O ro w h f s F) (lo : ro <= O.next h) (ul : Int) (up : Value) (y : Bx O ro w h (102, 1) b5 [.int .i64 ul, up]) (t : Env) (t0 : t 0 = .pointer (some ⟨f, 0, none⟩)) (t4 : t 4 = .int .i64 (j : Nat)) (t5 : t 5 = .pointer (some ⟨b5, 0, none⟩)) :
 okE c (cSeq (cReg (R56_17 O Tryz.prog ro)) (cSeq (cReg (R56_18 O Tryz.prog ro)) (cSeq (cReg (R56_19 O Tryz.prog ro)) (cSeq (cReg (R56_20 O Tryz.prog ro)) (cSeq (cSeq (cReg (R56_21 O Tryz.prog ro)) (cIf (.tmp 110) (cSeq (cReg (R56_22 O Tryz.prog ro)) (cSeq (cReg (R56_23 O Tryz.prog ro)) (cSeq (cReg (R56_24 O Tryz.prog ro)) (cSeq (cReg (R56_25 O Tryz.prog ro)) (cIf (.tmp 121) (cReg (R56_26 O Tryz.prog ro)) (cSeq (cReg (R56_27 O Tryz.prog ro)) (cIf (.tmp 124) (cReg (R56_28 O Tryz.prog ro)) cSkip))))))) cSkip)) (cSeq (cReg (R56_29 O Tryz.prog ro)) (cReg (R56_30 O Tryz.prog ro)))))))) (t, h)
  (fun e t' h' => e = .normal /\ t' 0 = .pointer (some ⟨f, 0, none⟩) /\ t' 4 = .int .i64 (j : Nat) /\ ∃ w', FX O ro w' h' f s (laQ s ul (laN s F)) /\ Ch O (Kc [1] 3) w h w' h' /\ ro <= O.next h') := by
 obtain ⟨w2, h2, hc2, x2, c2, lo2⟩ := lw_x C L x lo hs fi.pos (by rw [fi.hd]; omega)
 obtain ⟨b, w3, h3, hbe, e3, z3, c3, lo3, hrob⟩ := loc2 L w2 h2 lo2 (.int .i64 (lwS F.hd.m s F.R).1.l) (.int .i64 F.R.pos) (102, 0)
 have x3 := x2.ch L (c3 fun _ => False) (by simp)
 have hl3 : cellsA O h3 b 0 2 = some [.int .i64 (lwS F.hd.m s F.R).1.l, .int .i64 F.R.pos] := z3.all
 obtain ⟨v0, v1, v2, v3, v4, v5, v6, y3⟩ := x3
 obtain ⟨v', h4, w4, e4, ⟨f1, f2, f3⟩, g1, g2, hro, y4, c4, lo4⟩ := y3.app1 L lo3 ⟨(lwS F.hd.m s F.R).1.l, F.R.pos⟩ (by have := fi.l1; simp only; omega)
 obtain ⟨hA, hhA⟩ : ∃ hA, hA = O.put h4 f 11 v' := ⟨_, rfl⟩
 rw [<- hhA] at y4 c4 lo4
 have x4 : FX O ro w4 hA f s (laN s F) := ⟨_, _, _, _, _, _, _, y4⟩
 have fi4 := laN_fi fi
 have yy4 := ((y.ch L c2 (by simp [Kc])).ch L (c3 fun _ => False) (by simp)).ch L c4 (by simp [Kc])
 obtain ⟨_, _, _, _, _, _, _, k17, k18, k19, k20, _⟩ := x4.cells
 have hby := by_w C hA s hs (laN s F).R.pos
 have cc4 : Ch O (Kc [1] 3) w h w4 hA := ((Kc.mono c2 (by decide) (by omega)).trans (c3 _)).trans (Kc.mono c4 (by decide) (by omega))
 simp only [Us.cells] at e4
 refine okE.seq (okE.flat (fun _ => rfl) ?_)
 simp [R56_17, t0, hc2, <- hbe, e3, hrob, thenE]
 refine okE.seq (okE.flat (fun _ => rfl) ?_)
 simp [R56_18, t0, g1, hl3, List.zipIdx, List.range_succ, e4, f1, f2, f3, g2, hro, putsA, <- hhA, thenE]
 refine okE.seq (okE.flat (fun _ => rfl) ?_)
 simp [R56_19, thenE]
 refine okE.seq (okE.flat (fun _ => rfl) ?_)
 simp [R56_20, t0, k19, k20, hby, thenE]
 refine okE.seq (okE.mono (la_z C L (j := j) hs fi4.pos x4 lo4 ul up yy4 _ ?_ ?_ ?_ ?_ ?_) ?_)
 . simp [t0]
 . simp [t4]
 . simp [t5]
 . simp
 . simp
 rintro e t g ⟨rfl, t0, t4, t7, w5, x5, c5, lo5⟩
 simp only [thenE]
 obtain ⟨u0, u1, u2, u3, u4, u5, u6, y5⟩ := x5
 obtain ⟨v'', h6, w6, e6, ⟨f1', f2', f3'⟩, g1', g2', hro', y6, c6, lo6⟩ := y5.app4 L lo5 (laW s ul (laN s F).R).1 (by have := fi4.l4; simp only; omega)
 obtain ⟨h7, hc7, x7, c7⟩ := sign_x C L ⟨_, _, _, _, _, _, _, y6⟩ hs 10
 have hc7' : c 105 [.pointer (some ⟨f, 0, none⟩), .int .i64 10] (O.put h6 f 14 v'') = some (.tuple #[], h7) := hc7
 refine okE.flat (fun _ => rfl) ?_
 simp [R56_29, R56_30, t0, t4, t7, g1', List.zipIdx, List.range_succ, e6, f1', f2', f3', g2', hro', putsA, hc7']
 exact ⟨w6, x7, ((cc4.trans c5).trans (Kc.mono c6 (by decide) (by omega))).trans (chR c7 3), Nat.le_trans lo6 c7.nx⟩
theorem bd_las (C : Lim Tryz.prog O ro okS c) (L : O.Law) {w0 : Own} {h0 : H} {f : Nat} {s : ByteArray} {D : HR} (hs : s.size <= 1000) (hD : D.nla <= 100 /\ D.m <= 10000 /\ D.nin <= 100) (F0 : FD) (B : Nat) (hB : B <= 1000) (fi : FI D s F0 B) (w : Own) (h : H) (x : FX O ro w h f s F0) (lo : ro <= O.next h) (cc : Ch O (Kc [1] 3) w0 h0 w h) (t : Env) (t0 : t 0 = .pointer (some ⟨f, 0, none⟩)) (t4 : t 4 = .int .i64 0) :
 okE c (cBlk 2 (cLoop (W56_1 O Tryz.prog ro))) (t, h) (fun e t' h' => e = .normal /\ t' 0 = .pointer (some ⟨f, 0, none⟩) /\ ∃ w', FX O ro w' h' f s (itE (bdL s) 0 D.nla F0) /\ FI D s (itE (bdL s) 0 D.nla F0) (B + 300) /\ Ch O (Kc [1] 3) w0 h0 w' h' /\ ro <= O.next h') := by
 refine okE.blk ?_
 generalize hE : itE (bdL s) 0 D.nla F0 = E
 refine okE.loop (fun m t g => ∃ j F w', FX O ro w' g f s F /\ FI D s F (B + 3 * j) /\ Ch O (Kc [1] 3) w0 h0 w' g /\ ro <= O.next g /\ t 0 = .pointer (some ⟨f, 0, none⟩) /\ t 4 = .int .i64 (j : Nat) /\ j + m = D.nla + 1 /\ 0 < m /\ itE (bdL s) j (m - 1) F = E) ?_ (D.nla + 1) _ _ ⟨0, F0, w, x, fi, cc, lo, t0, t4, by omega, by omega, hE⟩
 intro m t g hI
 obtain ⟨j, F, w', x', fi', c', lo', t0, t4, hj, hm, hfin⟩ := hI
 obtain ⟨k0, k1, k2, k3, k4, k5, k6, k17, k18, k19, k20, hro⟩ := x'.cells
 rw [fi'.hd] at k0 k1 k2 k3 k4 k5 k6
 by_cases hlt : j < D.nla
 . obtain ⟨m', rfl⟩ : ∃ m', m = m' + 2 := ⟨m - 2, by omega⟩
   simp only [Nat.add_one_sub_one, itE] at hfin
   have hlt' : (j : Int) < D.nla := by omega
   by_cases he : F.R.e = 0
   . have he' : ((F.R.e : Int) == 0) = true := by simp; omega
     rw [if_pos he] at hfin
     obtain ⟨q, hq⟩ : ∃ q, q = j + 1 := ⟨_, rfl⟩
     have hw : IntKind.i64.wrap ((j : Int) + 1) = (q : Int) := by rw [wrap_id (by omega) (by omega)]; omega
     have fi2 : FI D s (bdL s j F) (B + 3 * q) := by rw [hq]; exact bdL_fi fi' (by omega) (by omega)
     have fiU := bdU_fi (j := j) fi' (by omega) (by omega)
     rw [<- hq] at hfin
     have rest : ∀ (t' : Env) (g' : H) (w2 : Own) (b5 : Nat) (up : Value), FX O ro w2 g' f s (bdU s j F).2 -> ro <= O.next g' -> Bx O ro w2 g' (102, 1) b5 [.int .i64 (bdU s j F).1.l, up] -> Ch O (Kc [1] 3) w0 h0 w2 g' -> t' 0 = .pointer (some ⟨f, 0, none⟩) -> t' 4 = .int .i64 (j : Nat) -> t' 5 = .pointer (some ⟨b5, 0, none⟩) ->
      okE c (cSeq (cReg (R56_17 O Tryz.prog ro)) (cSeq (cReg (R56_18 O Tryz.prog ro)) (cSeq (cReg (R56_19 O Tryz.prog ro)) (cSeq (cReg (R56_20 O Tryz.prog ro)) (cSeq (cSeq (cReg (R56_21 O Tryz.prog ro)) (cIf (.tmp 110) (cSeq (cReg (R56_22 O Tryz.prog ro)) (cSeq (cReg (R56_23 O Tryz.prog ro)) (cSeq (cReg (R56_24 O Tryz.prog ro)) (cSeq (cReg (R56_25 O Tryz.prog ro)) (cIf (.tmp 121) (cReg (R56_26 O Tryz.prog ro)) (cSeq (cReg (R56_27 O Tryz.prog ro)) (cIf (.tmp 124) (cReg (R56_28 O Tryz.prog ro)) cSkip))))))) cSkip)) (cSeq (cReg (R56_29 O Tryz.prog ro)) (cReg (R56_30 O Tryz.prog ro)))))))) (t', g')
       (fun e t' h' => e = .normal /\ t' 0 = .pointer (some ⟨f, 0, none⟩) /\ t' 4 = .int .i64 (j : Nat) /\ ∃ w', FX O ro w' h' f s (bdL s j F) /\ Ch O (Kc [1] 3) w0 h0 w' h' /\ ro <= O.next h') := by
      intro t' g' w2 b5 up x2 lo2 y2 cc2 t0' t4' t5'
      refine okE.mono (la_rest C L (j := j) hs (B := B + 3 * j + 1) (by omega) hD.2.1 fiU x2 lo2 _ up y2 t' t0' t4' t5') ?_
      rintro e t3 g3 ⟨rfl, a1, a2, w3, a3, a4, a5⟩
      exact ⟨rfl, a1, a2, w3, a3, cc2.trans a4, a5⟩
     unfold W56_1
     refine okE.seq (okE.flat (fun _ => rfl) ?_)
     simp [R56_9, t0, t4, k3, hlt, hlt', k17, he', thenE]
     refine okE.seq (okE.blk (okE.mono (Q := fun e t' h' => e = .normal /\ t' 0 = .pointer (some ⟨f, 0, none⟩) /\ t' 4 = .int .i64 (j : Nat) /\ ∃ w', FX O ro w' h' f s (bdL s j F) /\ Ch O (Kc [1] 3) w0 h0 w' h' /\ ro <= O.next h') ?_ ?_))
     ·
      obtain ⟨l, hl⟩ : ∃ l : Nat, l = 2 + 2 * D.nin + 2 * j := ⟨_, rfl⟩
      have hw1 : IntKind.i64.wrap (2 * (D.nin : Int)) = 2 * (D.nin : Int) := wrap_id (by omega) (by omega)
      have hw2 : IntKind.i64.wrap (2 + 2 * (D.nin : Int)) = 2 + 2 * (D.nin : Int) := wrap_id (by omega) (by omega)
      have hw3 : IntKind.i64.wrap (2 * (j : Int)) = 2 * (j : Int) := wrap_id (by omega) (by omega)
      have hw4 : IntKind.i64.wrap (2 + 2 * (D.nin : Int) + 2 * (j : Int)) = (l : Int) := by rw [wrap_id (by omega) (by omega)]; omega
      obtain ⟨b, w3, h3, hbe, e3, z3, c3, lo3, hrob⟩ := loc2 L w' g lo' (.int .i64 (l : Nat)) (.int .i64 0) (102, 1)
      have x3 := x'.ch L (c3 fun _ => False) (by simp)
      obtain ⟨j0, _, _, _, _, _, _, _, _, _, _, _⟩ := x3.cells
      rw [fi'.hd] at j0
      refine okE.seq (okE.flat (fun _ => rfl) ?_)
      simp [R56_11, t0, t4, k2, hw1, hw2, hw3, hw4, List.zipIdx, <- hbe, e3, hrob, thenE]
      by_cases hb : D.bin = true
      . have hl3 : cellsA O h3 b 0 2 = some [.int .i64 (l : Nat), .int .i64 0] := z3.all
        obtain ⟨w4, h4, hc4, x4, c4, lo4⟩ := de_x C L x3 lo3 (by have := fi'.l0; omega) fi'.sm l 0 (by omega) (by omega)
        have hz : bdU s j F = (⟨(l : Int), 0⟩, deS F ⟨(l : Int), 0⟩) := by unfold bdU; rw [fi'.hd, if_pos hb, hl]
        obtain ⟨i0, _, _, _, _, _, _, _, _, _, _, _⟩ := x4.cells
        rw [deS_hd, fi'.hd] at i0
        have z4 := z3.ch L c4 (by simp [Kc])
        have hc4' : c 109 [.pointer (some ⟨f, 0, none⟩), .agg #[.int .i64 l, .int .i64 0]] h3 = some (.tuple #[], h4) := hc4
        refine okE.seq (okE.flat (fun _ => rfl) ?_)
        simp [R56_12, t0, j0, hb, thenE]
        refine okE.seq (okE.flat (fun _ => rfl) ?_)
        simp [R56_14, t0, hl3, hc4', thenE]
        refine okE.seq (okE.flat (fun _ => rfl) ?_)
        simp [R56_15, t0, i0, hb, thenE]
        refine rest _ h4 w4 b (.int .i64 0) (by rw [hz]; exact x4) lo4 (by rw [hz]; exact z4) ((c'.trans (c3 _)).trans (Kc.mono c4 (by decide) (by omega))) ?_ ?_ ?_
        . simp [t0]
        . simp [t4]
        . simp
      . obtain ⟨w4, h4, hc4, x4, c4, lo4⟩ := lw_x C L x3 lo3 hs fi'.pos (by rw [fi'.hd]; omega)
        have z4 := z3.ch L c4 (by simp [Kc])
        obtain ⟨h5, e5, z5, c5⟩ := Bx.over L (K := fun u => u = (102, 1)) (new := [.int .i64 (lwS F.hd.m s F.R).1.l, .int .i64 F.R.pos]) rfl z4 rfl
        have x5 := x4.ch L c5 (by simp)
        have hl5 : cellsA O h5 b 0 2 = some [.int .i64 (lwS F.hd.m s F.R).1.l, .int .i64 F.R.pos] := z5.all
        have hll := lwS_l F.hd.m s F.R
        obtain ⟨w6, h6, hc6, x6, c6, lo6⟩ := de_x C L x5 (Nat.le_trans lo4 c5.nx) (by have := fi'.l0; simp only; omega) fi'.sm (lwS F.hd.m s F.R).1.l F.R.pos hll.1 hll.2
        obtain ⟨h7, hc7, x7, c7⟩ := sign_x C L x6 hs 32
        obtain ⟨i0, _, _, _, _, _, _, _, _, _, _, _⟩ := x6.cells
        rw [deS_hd] at i0
        simp only [fi'.hd] at i0
        have z7 := (z5.ch L c6 (by simp [Kc])).ch L c7 (by simp)
        have hz : bdU s j F = (⟨(lwS F.hd.m s F.R).1.l, F.R.pos⟩, { deS { F with R := (lwS F.hd.m s F.R).2 } ⟨(lwS F.hd.m s F.R).1.l, F.R.pos⟩ with R := exS s (deS { F with R := (lwS F.hd.m s F.R).2 } ⟨(lwS F.hd.m s F.R).1.l, F.R.pos⟩).R 32 }) := by unfold bdU; rw [fi'.hd, if_neg hb]
        have hc7' : c 105 [.pointer (some ⟨f, 0, none⟩), .int .i64 32] h6 = some (.tuple #[], h7) := hc7
        refine okE.seq (okE.flat (fun _ => rfl) ?_)
        simp [R56_12, R56_13, t0, j0, hb, hc4, hrob, e5, thenE]
        refine okE.seq (okE.flat (fun _ => rfl) ?_)
        simp [R56_14, t0, hl5, hc6, thenE]
        refine okE.seq (okE.flat (fun _ => rfl) ?_)
        simp [R56_15, R56_16, t0, i0, hb, hc7', thenE]
        refine rest _ h7 w6 b (.int .i64 F.R.pos) (by rw [hz]; exact x7) (Nat.le_trans lo6 c7.nx) (by rw [hz]; exact z7) (((((c'.trans (c3 _)).trans (Kc.mono c4 (by decide) (by omega))).trans (chL c5 3 (by omega))).trans (Kc.mono c6 (by decide) (by omega))).trans (chR c7 3)) ?_ ?_ ?_
        . simp [t0]
        . simp [t4]
        . simp
     . rintro e t3 g3 ⟨rfl, t0, t4, w3, x3, c3, lo3⟩
       simp only [outOf, thenE]
       refine okE.flat (fun _ => rfl) ?_
       simp [R56_10, t0, t4, hw]
       exact ⟨m' + 1, by omega, q, bdL s j F, w3, x3, fi2, c3, lo3, rfl, by omega, by omega, hfin⟩
   . have he' : ((F.R.e : Int) == 0) = false := by simp; omega
     rw [if_neg he] at hfin
     subst hfin
     refine okE.flat (fun _ => rfl) ?_
     simp [W56_1, R56_9, t0, t4, k3, hlt, hlt', k17, he']
     exact ⟨w', x', fi'.mono (by omega), c', lo'⟩
 . have hm1 : m = 1 := by omega
   subst hm1
   have hfin2 : F = E := hfin
   subst hfin2
   have hlt' : ¬ (j : Int) < D.nla := by omega
   refine okE.flat (fun _ => rfl) ?_
   simp [W56_1, R56_9, t0, t4, k3, hlt, hlt']
   exact ⟨w', x', fi'.mono (by omega), c', lo'⟩
def bdS (s : ByteArray) (D : HR) (F : FD) : FD := itE (bdB s) 0 D.nbs (itE (bdO s) 0 D.nou (itE (bdL s) 0 D.nla (itE (bdI s) 0 D.nin F)))
theorem body_b (C : Lim Tryz.prog O ro okS c) (L : O.Law) {w : Own} {h : H} {f : Nat} {s : ByteArray} {D : HR} (hs : s.size <= 1000) (hD : D.nin <= 100 /\ D.nla <= 100 /\ D.nou <= 100 /\ D.nbs <= 100 /\ D.m <= 10000) (F : FD) (fi : FI D s F 10) (x : FX O ro w h f s F) (lo : ro <= O.next h) :
 ∃ w' h', c 56 [.pointer (some ⟨f, 0, none⟩)] h = some (.tuple #[], h') /\ FX O ro w' h' f s (bdS s D F) /\ FI D s (bdS s D F) 610 /\ Ch O (Kc [1] 3) w h w' h' /\ ro <= O.next h' := by
 have key : ∃ v h', c 56 [.pointer (some ⟨f, 0, none⟩)] h = some (v, h') /\ (v = .tuple #[] /\ ∃ w', FX O ro w' h' f s (bdS s D F) /\ FI D s (bdS s D F) 610 /\ Ch O (Kc [1] 3) w h w' h' /\ ro <= O.next h') := by
  refine C.fn (F56_fn O ro) rfl rfl ?_
  unfold F56
  refine okE.seq (okE.seq (okE.flat (fun _ => rfl) ?_))
  simp [R56_0, thenE, -resE, -resLE, -rvE]
  refine okE.mono (bd_ins C L hs ⟨hD.1, hD.2.2.2.2⟩ F 10 (by omega) fi w h x lo (Ch.refl _ _ _) _ ?_ ?_) ?_
  . simp
  . simp
  rintro e t g ⟨rfl, t0, w2, x2, f2, c2, lo2⟩
  simp only [thenE]
  refine okE.seq (okE.seq (okE.flat (fun _ => rfl) ?_))
  simp [R56_8, thenE, -resE, -resLE, -rvE]
  refine okE.mono (bd_las C L hs ⟨hD.2.1, hD.2.2.2.2, hD.1⟩ _ 110 (by omega) f2 w2 g x2 lo2 c2 _ ?_ ?_) ?_
  . simp [t0]
  . simp
  rintro e t g ⟨rfl, t0, w3, x3, f3, c3, lo3⟩
  simp only [thenE]
  refine okE.seq (okE.seq (okE.flat (fun _ => rfl) ?_))
  simp [R56_31, thenE, -resE, -resLE, -rvE]
  refine okE.mono (bd_outs C L hs ⟨hD.2.2.1, hD.2.2.2.2⟩ _ 410 (by omega) f3 w3 g x3 lo3 c3 _ ?_ ?_) ?_
  . simp [t0]
  . simp
  rintro e t g ⟨rfl, t0, w4, x4, f4, c4, lo4⟩
  simp only [thenE]
  refine okE.seq (okE.flat (fun _ => rfl) ?_)
  simp [R56_37, thenE, -resE, -resLE, -rvE]
  refine okE.mono (bd_bads C L hs ⟨hD.2.2.2.1, hD.2.2.2.2⟩ _ 510 (by omega) f4 w4 g x4 lo4 c4 _ ?_ ?_) ?_
  . simp [t0]
  . simp
  rintro e t g ⟨rfl, t0, w5, x5, f5, c5, lo5⟩
  simp
  exact ⟨w5, x5, f5, c5, lo5⟩
 obtain ⟨v, h', e1, rfl, w', e2⟩ := key
 exact ⟨w', h', e1, e2⟩
end
def dwR (s : ByteArray) (R : RS) : RS := match (dwS s R.pos).2.1 with
 | some q => ⟨R.pos, 2, q⟩
 | none => ⟨(dwS s R.pos).2.2, R.e, R.ep⟩
theorem dwS_le (s : ByteArray) (p : Nat) : 0 <= (dwS s p).1 /\ (dwS s p).1 < 100000 := by
 have h1 := byA_le s p
 have h2 := byA_le s (p + 1)
 unfold dwS
 split
 . simp
 . split
   . simp only; omega
   . split
     . simp
     . simp only; omega
theorem dwR_pos {s : ByteArray} {R : RS} (hp : R.pos <= s.size) : (dwR s R).pos <= s.size := by
 unfold dwR dwS
 have key : ∀ p, ¬ byA s p < 0 -> p < s.size := by
  intro p h
  unfold byA at h
  split at h
  . assumption
  . omega
 by_cases h1 : byA s R.pos < 0
 . simp only [if_pos h1]; exact hp
 . simp only [if_neg h1]
   have := key _ h1
   by_cases h2 : byA s R.pos < 128
   . simp only [if_pos h2]; omega
   . simp only [if_neg h2]
     by_cases h3 : byA s (R.pos + 1) < 0 \/ 128 <= byA s (R.pos + 1)
     . simp only [if_pos h3]; exact hp
     . simp only [if_neg h3]
       have := key (R.pos + 1) (by omega)
       omega
def adP (s : ByteArray) (F : FD) : FD :=
 let A := lwS F.hd.m s F.R
 let F1 := deS { F with R := A.2 } ⟨A.1.l, F.R.pos⟩
 let R1 := exS s F1.R 32
 let X := lwS F.hd.m s R1
 let R2 := exS s X.2 32
 let Y := lwS F.hd.m s R2
 { F1 with R := exS s Y.2 10, left := F1.left ++ [⟨X.1.l, R1.pos⟩], right := F1.right ++ [⟨Y.1.l, R2.pos⟩] }
def adA (s : ByteArray) (l : Nat) (R : RS) : RS := if (dwS s R.pos).1 = 0 \/ (l : Int) < (dwS s R.pos).1 then fl (dwR s R) 10 R.pos else dwR s R
def adC (s : ByteArray) (a : Int) (R : RS) : RS := if a < (dwS s R.pos).1 then fl (dwR s R) 10 R.pos else dwR s R
def adB (s : ByteArray) (l : Nat) (F : FD) : FD :=
 let R1 := adA s l F.R
 if R1.e = 0 then
  let a : Int := (l : Int) - (dwS s F.R.pos).1
  let R2 := adC s a R1
  let F2 := deS { F with R := R2 } ⟨(l : Int), F.R.pos⟩
  { F2 with left := F2.left ++ [⟨a, F.R.pos⟩], right := F2.right ++ [⟨a - (dwS s R1.pos).1, R1.pos⟩] }
 else { F with R := R1 }
def adF (s : ByteArray) (j : Nat) (F : FD) : FD := if F.hd.bin = true then adB s (2 * (1 + F.hd.nin + F.hd.nla + j)) F else adP s F
theorem adA_pos {s : ByteArray} {l : Nat} {R : RS} (hp : R.pos <= s.size) : (adA s l R).pos <= s.size := by
 unfold adA; split
 . rw [fl_pos]; exact dwR_pos hp
 . exact dwR_pos hp
theorem adC_pos {s : ByteArray} {a : Int} {R : RS} (hp : R.pos <= s.size) : (adC s a R).pos <= s.size := by
 unfold adC; split
 . rw [fl_pos]; exact dwR_pos hp
 . exact dwR_pos hp
theorem FI.app {D : HR} {s : ByteArray} {F : FD} {B : Nat} (h : FI D s F B) (R : RS) (hp : R.pos <= s.size) (a b : Us) : FI D s { F with R := R, left := F.left ++ [a], right := F.right ++ [b] } (B + 1) := by
 obtain ⟨h1, h2, h3, h4, h5, h6, h7, h8, h9, h10⟩ := h
 exact ⟨h1, hp, h3, by simp only; omega, by simp only; omega, by simp only; omega, by simp only; omega, by simp only; omega, by simp only [List.length_append, List.length_singleton]; omega, by simp only [List.length_append, List.length_singleton]; omega⟩
theorem adP_fi {D : HR} {s : ByteArray} {F : FD} {B : Nat} (h : FI D s F B) : FI D s (adP s F) (B + 2) := by
 have h1 := deS_fi (h.setR _ (lwS_pos (m := F.hd.m) h.pos)) ⟨(lwS F.hd.m s F.R).1.l, F.R.pos⟩ (lwS_l F.hd.m s F.R)
 exact h1.app _ (exS_pos _ (lwS_pos (exS_pos _ (lwS_pos (exS_pos _ h1.pos))))) _ _
theorem adB_fi {D : HR} {s : ByteArray} {F : FD} {B l : Nat} (h : FI D s F B) (hl : l < 10000) : FI D s (adB s l F) (B + 2) := by
 unfold adB
 simp only
 have p1 := adA_pos (s := s) (l := l) (R := F.R) h.pos
 split
 . have h1 := deS_fi (h.setR _ (adC_pos (a := (l : Int) - (dwS s F.R.pos).1) p1)) ⟨(l : Int), F.R.pos⟩ (by simp only; omega)
   exact h1.app _ h1.pos _ _
 . exact (h.setR _ p1).mono (by omega)
theorem adF_fi {D : HR} {s : ByteArray} {F : FD} {B j : Nat} (h : FI D s F B) (hj : j < 1000) (hD : D.nin <= 100 /\ D.nla <= 100) : FI D s (adF s j F) (B + 2) := by
 unfold adF
 split
 . exact adB_fi h (by rw [h.hd]; omega)
 . exact adP_fi h
section
variable {H : Type} {O : HI H} {ro : Nat} {c : CallT H}
theorem dw_x (C : Lim Tryz.prog O ro okS c) (L : O.Law) {w : Own} {h : H} {f : Nat} {s : ByteArray} {F : FD} (x : FX O ro w h f s F) (lo : ro <= O.next h) (hs : s.size <= 1000) (hp : F.R.pos <= s.size) (he : F.R.e = 0) :
 ∃ w' h', c 111 [.pointer (some ⟨f, 0, none⟩)] h = some (.agg #[.int .i64 (dwS s F.R.pos).1, .int .i64 F.R.pos], h') /\ FX O ro w' h' f s { F with R := dwR s F.R } /\ Ch O (Kc [1] 1) w h w' h' /\ ro <= O.next h' := by
 obtain ⟨v0, v1, v2, v3, v4, v5, v6, x⟩ := x
 obtain ⟨w', h', e1, x1, c1, l1⟩ := dw_b C L x lo hs hp he
 exact ⟨w', h', e1, ⟨v0, v1, v2, v3, v4, v5, v6, x1⟩, c1, l1⟩
theorem ad_plain (C : Lim Tryz.prog O ro okS c) (L : O.Law) {w : Own} {h : H} {f j B : Nat} {s : ByteArray} {D : HR} {F : FD} (hs : s.size <= 1000) (hB : B <= 5000) (hD : D.m <= 10000) (fi : FI D s F B) (x : FX O ro w h f s F) (lo : ro <= O.next h) (t : Env) (t0 : t 0 = .pointer (some ⟨f, 0, none⟩)) (t2 : t 2 = .int .i64 (j : Nat)) :
 okE c (cSeq (cReg (R57_4 O Tryz.prog ro)) (cSeq (cReg (R57_5 O Tryz.prog ro)) (cSeq (cReg (R57_6 O Tryz.prog ro)) (cSeq (cReg (R57_7 O Tryz.prog ro)) (cSeq (cReg (R57_8 O Tryz.prog ro)) (cSeq (cReg (R57_9 O Tryz.prog ro)) (cSeq (cReg (R57_10 O Tryz.prog ro)) (cSeq (cReg (R57_11 O Tryz.prog ro)) (cSeq (cReg (R57_12 O Tryz.prog ro)) (cExit 1)))))))))) (t, h)
  (fun e t' h' => e = .exit 1 /\ t' 0 = .pointer (some ⟨f, 0, none⟩) /\ t' 2 = .int .i64 (j : Nat) /\ ∃ w', FX O ro w' h' f s (adP s F) /\ Ch O (Kc [1] 3) w h w' h' /\ ro <= O.next h') := by
 obtain ⟨w2, h2, hc2, x2, c2, lo2⟩ := lw_x C L x lo hs fi.pos (by rw [fi.hd]; omega)
 obtain ⟨b, w3, h3, hbe, e3, z3, c3, lo3, hrob⟩ := loc2 L w2 h2 lo2 (.int .i64 (lwS F.hd.m s F.R).1.l) (.int .i64 F.R.pos) (102, 0)
 have x3 := x2.ch L (c3 fun _ => False) (by simp)
 have hl3 : cellsA O h3 b 0 2 = some [.int .i64 (lwS F.hd.m s F.R).1.l, .int .i64 F.R.pos] := z3.all
 have hll := lwS_l F.hd.m s F.R
 obtain ⟨w4, h4, hc4, x4, c4, lo4⟩ := de_x C L x3 lo3 (by have := fi.l0; simp only; omega) fi.sm (lwS F.hd.m s F.R).1.l F.R.pos hll.1 hll.2
 have fi4 := deS_fi (fi.setR _ (lwS_pos (m := F.hd.m) fi.pos)) ⟨(lwS F.hd.m s F.R).1.l, F.R.pos⟩ hll
 obtain ⟨F1, hF1⟩ : ∃ F1, F1 = deS { F with R := (lwS F.hd.m s F.R).2 } ⟨(lwS F.hd.m s F.R).1.l, F.R.pos⟩ := ⟨_, rfl⟩
 have hm1 : F1.hd.m = F.hd.m := by rw [hF1, deS_hd]
 have hfin : adP s F = { F1 with R := exS s (lwS F.hd.m s (exS s (lwS F.hd.m s (exS s F1.R 32)).2 32)).2 10, left := F1.left ++ [⟨(lwS F.hd.m s (exS s F1.R 32)).1.l, (exS s F1.R 32).pos⟩], right := F1.right ++ [⟨(lwS F.hd.m s (exS s (lwS F.hd.m s (exS s F1.R 32)).2 32)).1.l, (exS s (lwS F.hd.m s (exS s F1.R 32)).2 32).pos⟩] } := by rw [hF1]; rfl
 rw [hfin]
 rw [<- hF1] at x4 fi4
 clear hfin hF1
 obtain ⟨h5, hc5, x5, c5⟩ := sign_x C L x4 hs 32
 have p5 := exS_pos (s := s) (R := F1.R) 32 fi4.pos
 obtain ⟨w6, h6, hc6, x6, c6, lo6⟩ := lw_x C L x5 (Nat.le_trans lo4 c5.nx) hs p5 (by rw [fi4.hd]; omega)
 simp only [hm1] at hc6 x6
 obtain ⟨R1, hR1⟩ : ∃ R1, R1 = exS s F1.R 32 := ⟨_, rfl⟩
 rw [<- hR1] at hc6 x6 p5 ⊢
 obtain ⟨X, hX⟩ : ∃ X, X = lwS F.hd.m s R1 := ⟨_, rfl⟩
 have p6 : X.2.pos <= s.size := by rw [hX]; exact lwS_pos p5
 rw [<- hX] at hc6 x6 ⊢
 obtain ⟨b7, w7, h7, hbe7, e7, z7, c7, lo7, hrob7⟩ := loc2 L w6 h6 lo6 (.int .i64 X.1.l) (.int .i64 R1.pos) (102, 1)
 have x7 := x6.ch L (c7 fun _ => False) (by simp)
 obtain ⟨h8, hc8, x8, c8⟩ := sign_x C L x7 hs 32
 have p8 := exS_pos (s := s) (R := X.2) 32 p6
 obtain ⟨w9, h9, hc9, x9, c9, lo9⟩ := lw_x C L x8 (Nat.le_trans lo7 c8.nx) hs p8 (by rw [fi4.hd]; omega)
 simp only [hm1] at hc9 x9
 obtain ⟨R2, hR2⟩ : ∃ R2, R2 = exS s X.2 32 := ⟨_, rfl⟩
 rw [<- hR2] at hc9 x9 p8 ⊢
 obtain ⟨Y, hY⟩ : ∃ Y, Y = lwS F.hd.m s R2 := ⟨_, rfl⟩
 rw [<- hY] at hc9 x9 ⊢
 obtain ⟨bA, wA, hA, hbeA, eA, zA, cA, loA, hrobA⟩ := loc2 L w9 h9 lo9 (.int .i64 Y.1.l) (.int .i64 R2.pos) (102, 2)
 have xA := x9.ch L (cA fun _ => False) (by simp)
 have z7A := ((z7.ch L c8 (by simp)).ch L c9 (by simp [Kc])).ch L (cA fun _ => False) (by simp)
 obtain ⟨hB', hcB, xB, cB⟩ := sign_x C L xA hs 10
 have z7B := z7A.ch L cB (by simp)
 have zAB := zA.ch L cB (by simp)
 have l7 : cellsA O hB' b7 0 2 = some [.int .i64 X.1.l, .int .i64 R1.pos] := z7B.all
 have loB := Nat.le_trans loA cB.nx
 obtain ⟨v0, v1, v2, v3, v4, v5, v6, yB⟩ := xB
 obtain ⟨v', hC', wC, eC, ⟨f1, f2, f3⟩, g1, g2, hro, yC, cC, loC⟩ := yB.app5 L loB ⟨X.1.l, R1.pos⟩ (by have := fi4.l5; simp only; omega)
 have zAC := zAB.ch L cC (by simp [Kc])
 have lA : cellsA O (O.put hC' f 15 v') bA 0 2 = some [.int .i64 Y.1.l, .int .i64 R2.pos] := zAC.all
 obtain ⟨v'', hD', wD, eD, ⟨f1', f2', f3'⟩, g1', g2', _, yD, cD, loD⟩ := yC.app6 L loC ⟨Y.1.l, R2.pos⟩ (by have := fi4.l6; simp only; omega)
 have hc5' : c 105 [.pointer (some ⟨f, 0, none⟩), .int .i64 32] h4 = some (.tuple #[], h5) := hc5
 have hc8' : c 105 [.pointer (some ⟨f, 0, none⟩), .int .i64 32] h7 = some (.tuple #[], h8) := hc8
 have hcB' : c 105 [.pointer (some ⟨f, 0, none⟩), .int .i64 10] hA = some (.tuple #[], hB') := hcB
 simp only [Us.cells] at eC eD
 obtain ⟨hE, hhE⟩ : ∃ hE, hE = O.put hC' f 15 v' := ⟨_, rfl⟩
 rw [<- hhE] at lA eD g1' yC cC loC cD
 have cc : Ch O (Kc [1] 3) w h wD (O.put hD' f 16 v'') :=
  (((((((((Kc.mono c2 (by decide) (by omega)).trans (c3 _)).trans (Kc.mono c4 (by decide) (by omega))).trans (chR c5 3)).trans (Kc.mono c6 (by decide) (by omega))).trans (c7 _)).trans (chR c8 3)).trans (Kc.mono c9 (by decide) (by omega))).trans (cA _)).trans (((chR cB 3).trans (Kc.mono cC (by decide) (by omega))).trans (Kc.mono cD (by decide) (by omega)))
 refine okE.seq (okE.flat (fun _ => rfl) ?_)
 simp [R57_4, t0, hc2, <- hbe, e3, hrob, thenE]
 refine okE.seq (okE.flat (fun _ => rfl) ?_)
 simp [R57_5, t0, hl3, hc4, thenE]
 refine okE.seq (okE.flat (fun _ => rfl) ?_)
 simp [R57_6, t0, hc5', thenE]
 refine okE.seq (okE.flat (fun _ => rfl) ?_)
 simp [R57_7, t0, hc6, <- hbe7, e7, hrob7, thenE]
 refine okE.seq (okE.flat (fun _ => rfl) ?_)
 simp [R57_8, t0, hc8', thenE]
 refine okE.seq (okE.flat (fun _ => rfl) ?_)
 simp [R57_9, t0, hc9, <- hbeA, eA, hrobA, thenE]
 refine okE.seq (okE.flat (fun _ => rfl) ?_)
 simp [R57_10, t0, hcB', thenE]
 refine okE.seq (okE.flat (fun _ => rfl) ?_)
 simp [R57_11, t0, g1, l7, List.zipIdx, List.range_succ, eC, f1, f2, f3, g2, hro, putsA, <- hhE, thenE]
 refine okE.seq (okE.flat (fun _ => rfl) ?_)
 simp [R57_12, t0, g1', lA, List.zipIdx, List.range_succ, eD, f1', f2', f3', g2', hro, putsA, thenE]
 refine okE.flat (fun _ => rfl) ?_
 simp [t0, t2]
 exact ⟨wD, ⟨_, _, _, _, _, _, _, yD⟩, cc, loD⟩
end
section
variable {H : Type} {O : HI H} {ro : Nat} {c : CallT H}
theorem ad_first (C : Lim Tryz.prog O ro okS c) (L : O.Law) {w : Own} {h : H} {f j l : Nat} {s : ByteArray} {F : FD} (hs : s.size <= 1000) (hp : F.R.pos <= s.size) (he : F.R.e = 0) (hl : l < 10000) (x : FX O ro w h f s F) (lo : ro <= O.next h) (t : Env) (t0 : t 0 = .pointer (some ⟨f, 0, none⟩)) (t2 : t 2 = .int .i64 (j : Nat)) (t6 : t 6 = .int .i64 (l : Nat)) :
 okE c (cSeq (cReg (R57_14 O Tryz.prog ro)) (cSeq (cReg (R57_15 O Tryz.prog ro)) (cIf (.tmp 94) (cReg (R57_16 O Tryz.prog ro)) cSkip))) (t, h)
  (fun e t' h' => e = .normal /\ t' 0 = .pointer (some ⟨f, 0, none⟩) /\ t' 2 = .int .i64 (j : Nat) /\ t' 6 = .int .i64 (l : Nat) /\ ∃ b w', t' 7 = .pointer (some ⟨b, 0, none⟩) /\ Bx O ro w' h' (102, 0) b [.int .i64 (dwS s F.R.pos).1, .int .i64 F.R.pos] /\ FX O ro w' h' f s { F with R := adA s l F.R } /\ Ch O (Kc [1] 3) w h w' h' /\ ro <= O.next h') := by
 obtain ⟨w2, h2, hc2, x2, c2, lo2⟩ := dw_x C L x lo hs hp he
 obtain ⟨b, w3, h3, hbe, e3, z3, c3, lo3, hrob⟩ := loc2 L w2 h2 lo2 (.int .i64 (dwS s F.R.pos).1) (.int .i64 F.R.pos) (102, 0)
 have x3 := x2.ch L (c3 fun _ => False) (by simp)
 obtain ⟨_, _, _, _, _, _, _, k17, _, _, _, _⟩ := x3.cells
 have z0 := z3.get 0 _ rfl
 have z1 := z3.get 1 _ rfl
 have cc3 : Ch O (Kc [1] 3) w h w3 h3 := (Kc.mono c2 (by decide) (by omega)).trans (c3 _)
 unfold adA
 generalize (dwS s F.R.pos).1 = d at hc2 e3 z3 z0
 generalize dwR s F.R = R1 at x2 x3 k17
 simp only at k17
 by_cases he1 : R1.e = 0
 . have he1' : ((R1.e : Int) == 0) = true := by simp; omega
   by_cases hq : d = 0 \/ (l : Int) < d
   . rw [if_pos hq]
     obtain ⟨h5, hc5, x5, c5⟩ := bad_x C L x3 10 F.R.pos
     have hc5' : c 108 [.pointer (some ⟨f, 0, none⟩), .int .i64 10, .int .i64 F.R.pos] h3 = some (.tuple #[], h5) := hc5
     have z5 := z3.ch L c5 (by simp)
     refine okE.flat (fun _ => rfl) ?_
     by_cases hd0 : d = 0
     . have hd0' : (d == 0) = true := by simpa using hd0
       simp [R57_14, R57_15, R57_16, t0, t2, t6, hc2, <- hbe, e3, hrob, k17, he1', z0, z1, hd0', hc5']
       exact ⟨w3, z5, x5, cc3.trans (chR c5 3), Nat.le_trans lo3 c5.nx⟩
     . have hd0' : (d == 0) = false := by simpa using hd0
       have hd1 : (l : Int) < d := hq.resolve_left hd0
       simp [R57_14, R57_15, R57_16, t0, t2, t6, hc2, <- hbe, e3, hrob, k17, he1', z0, z1, hd0', hd1, hc5']
       exact ⟨w3, z5, x5, cc3.trans (chR c5 3), Nat.le_trans lo3 c5.nx⟩
   . rw [if_neg hq]
     have hd0' : (d == 0) = false := by simp; omega
     have hd1 : ¬ (l : Int) < d := by omega
     refine okE.flat (fun _ => rfl) ?_
     simp [R57_14, R57_15, R57_16, t0, t2, t6, hc2, <- hbe, e3, hrob, k17, he1', z0, z1, hd0', hd1]
     exact ⟨w3, z3, x3, cc3, lo3⟩
 . have he1' : ((R1.e : Int) == 0) = false := by simp; omega
   have hfl : fl R1 10 F.R.pos = R1 := by simp [fl, he1]
   have : (if d = 0 \/ (l : Int) < d then fl R1 10 F.R.pos else R1) = R1 := by split; exact hfl; rfl
   rw [this]
   refine okE.flat (fun _ => rfl) ?_
   simp [R57_14, R57_15, t0, t2, t6, hc2, <- hbe, e3, hrob, k17, he1']
   exact ⟨w3, z3, x3, cc3, lo3⟩
theorem ad_second (C : Lim Tryz.prog O ro okS c) (L : O.Law) {w : Own} {h : H} {f j l b : Nat} {d : Int} {s : ByteArray} {F : FD} {dp : Nat} (hs : s.size <= 1000) (hp : F.R.pos <= s.size) (he : F.R.e = 0) (hl : l < 10000) (hd : 0 <= d /\ d < 100000) (x : FX O ro w h f s F) (lo : ro <= O.next h) (y : Bx O ro w h (102, 0) b [.int .i64 d, .int .i64 dp]) (t : Env) (t0 : t 0 = .pointer (some ⟨f, 0, none⟩)) (t2 : t 2 = .int .i64 (j : Nat)) (t6 : t 6 = .int .i64 (l : Nat)) (t7 : t 7 = .pointer (some ⟨b, 0, none⟩)) :
 okE c (cSeq (cReg (R57_18 O Tryz.prog ro)) (cSeq (cReg (R57_19 O Tryz.prog ro)) (cIf (.tmp 119) (cReg (R57_20 O Tryz.prog ro)) cSkip))) (t, h)
  (fun e t' h' => e = .normal /\ t' 0 = .pointer (some ⟨f, 0, none⟩) /\ t' 2 = .int .i64 (j : Nat) /\ t' 6 = .int .i64 (l : Nat) /\ t' 7 = .pointer (some ⟨b, 0, none⟩) /\ ∃ b8 w', t' 8 = .pointer (some ⟨b8, 0, none⟩) /\ Bx O ro w' h' (102, 0) b [.int .i64 d, .int .i64 dp] /\ Bx O ro w' h' (102, 1) b8 [.int .i64 (dwS s F.R.pos).1, .int .i64 F.R.pos] /\ FX O ro w' h' f s { F with R := adC s ((l : Int) - d) F.R } /\ Ch O (Kc [1] 3) w h w' h' /\ ro <= O.next h') := by
 obtain ⟨w2, h2, hc2, x2, c2, lo2⟩ := dw_x C L x lo hs hp he
 obtain ⟨b8, w3, h3, hbe, e3, z3, c3, lo3, hrob⟩ := loc2 L w2 h2 lo2 (.int .i64 (dwS s F.R.pos).1) (.int .i64 F.R.pos) (102, 1)
 have x3 := x2.ch L (c3 fun _ => False) (by simp)
 have y3 := (y.ch L c2 (by simp [Kc])).ch L (c3 fun _ => False) (by simp)
 obtain ⟨_, _, _, _, _, _, _, k17, _, _, _, _⟩ := x3.cells
 have z0 := z3.get 0 _ rfl
 have z1 := z3.get 1 _ rfl
 have y0 := y3.get 0 _ rfl
 have cc3 : Ch O (Kc [1] 3) w h w3 h3 := (Kc.mono c2 (by decide) (by omega)).trans (c3 _)
 obtain ⟨a, ha⟩ : ∃ a, a = (l : Int) - d := ⟨_, rfl⟩
 have hw : IntKind.i64.wrap ((l : Int) - d) = a := by rw [wrap_id (by omega) (by omega), ha]
 rw [<- ha]
 unfold adC
 generalize (dwS s F.R.pos).1 = g at hc2 e3 z3 z0
 generalize dwR s F.R = R1 at x2 x3 k17
 simp only at k17
 by_cases he1 : R1.e = 0
 . have he1' : ((R1.e : Int) == 0) = true := by simp; omega
   by_cases hq : a < g
   . rw [if_pos hq]
     obtain ⟨h5, hc5, x5, c5⟩ := bad_x C L x3 10 F.R.pos
     have hc5' : c 108 [.pointer (some ⟨f, 0, none⟩), .int .i64 10, .int .i64 F.R.pos] h3 = some (.tuple #[], h5) := hc5
     refine okE.flat (fun _ => rfl) ?_
     simp [R57_18, R57_19, R57_20, t0, t2, t6, t7, hc2, <- hbe, e3, hrob, k17, he1', z0, z1, y0, hw, hq, hc5']
     exact ⟨w3, y3.ch L c5 (by simp), z3.ch L c5 (by simp), x5, cc3.trans (chR c5 3), Nat.le_trans lo3 c5.nx⟩
   . rw [if_neg hq]
     refine okE.flat (fun _ => rfl) ?_
     simp [R57_18, R57_19, R57_20, t0, t2, t6, t7, hc2, <- hbe, e3, hrob, k17, he1', z0, z1, y0, hw, hq]
     exact ⟨w3, y3, z3, x3, cc3, lo3⟩
 . have he1' : ((R1.e : Int) == 0) = false := by simp; omega
   have hfl : fl R1 10 F.R.pos = R1 := by simp [fl, he1]
   have : (if a < g then fl R1 10 F.R.pos else R1) = R1 := by split; exact hfl; rfl
   rw [this]
   refine okE.flat (fun _ => rfl) ?_
   simp [R57_18, R57_19, t0, t2, t6, t7, hc2, <- hbe, e3, hrob, k17, he1']
   exact ⟨w3, y3, z3, x3, cc3, lo3⟩
theorem ad_bin (C : Lim Tryz.prog O ro okS c) (L : O.Law) {w : Own} {h : H} {f j l B : Nat} {s : ByteArray} {D : HR} {F : FD} (hs : s.size <= 1000) (hB : B <= 5000) (fi : FI D s F B) (he : F.R.e = 0) (hl : l < 10000) (x : FX O ro w h f s F) (lo : ro <= O.next h) (t : Env) (t0 : t 0 = .pointer (some ⟨f, 0, none⟩)) (t2 : t 2 = .int .i64 (j : Nat)) (t6 : t 6 = .int .i64 (l : Nat)) :
 okE c (cSeq (cReg (R57_14 O Tryz.prog ro)) (cSeq (cSeq (cReg (R57_15 O Tryz.prog ro)) (cIf (.tmp 94) (cReg (R57_16 O Tryz.prog ro)) cSkip)) (cSeq (cSeq (cReg (R57_17 O Tryz.prog ro)) (cIf (.tmp 103) cRet cSkip)) (cSeq (cReg (R57_18 O Tryz.prog ro)) (cSeq (cSeq (cReg (R57_19 O Tryz.prog ro)) (cIf (.tmp 119) (cReg (R57_20 O Tryz.prog ro)) cSkip)) (cSeq (cReg (R57_21 O Tryz.prog ro)) (cSeq (cReg (R57_22 O Tryz.prog ro)) (cReg (R57_23 O Tryz.prog ro))))))))) (t, h)
  (fun e t' h' => ∃ w', FX O ro w' h' f s (adB s l F) /\ Ch O (Kc [1] 3) w h w' h' /\ ro <= O.next h' /\ ((e = .ret /\ (adB s l F).R.e ≠ 0) \/ (e = .normal /\ t' 0 = .pointer (some ⟨f, 0, none⟩) /\ t' 2 = .int .i64 (j : Nat)))) := by
 rw [<- cSeq_assoc]
 refine okE.seq (okE.mono (ad_first C L (j := j) (l := l) hs fi.pos he hl x lo t t0 t2 t6) ?_)
 rintro e t g ⟨rfl, t0, t2, t6, b, w2, t7, z2, x2, c2, lo2⟩
 simp only [thenE]
 obtain ⟨_, _, _, _, _, _, _, k17, _, _, _, _⟩ := x2.cells
 simp only at k17
 have p1 := adA_pos (s := s) (l := l) (R := F.R) fi.pos
 have hdw := dwS_le s F.R.pos
 obtain ⟨R1, hR1⟩ : ∃ R1, R1 = adA s l F.R := ⟨_, rfl⟩
 obtain ⟨d, hd⟩ : ∃ d, d = (dwS s F.R.pos).1 := ⟨_, rfl⟩
 have hfin : adB s l F = if R1.e = 0 then { deS { F with R := adC s ((l : Int) - d) R1 } ⟨(l : Int), F.R.pos⟩ with left := (deS { F with R := adC s ((l : Int) - d) R1 } ⟨(l : Int), F.R.pos⟩).left ++ [⟨(l : Int) - d, F.R.pos⟩], right := (deS { F with R := adC s ((l : Int) - d) R1 } ⟨(l : Int), F.R.pos⟩).right ++ [⟨(l : Int) - d - (dwS s R1.pos).1, R1.pos⟩] } else { F with R := R1 } := by rw [hR1, hd]; rfl
 rw [<- hR1] at x2 k17 p1
 rw [<- hd] at z2 hdw
 rw [hfin]
 clear hfin hR1 hd
 by_cases he1 : R1.e = 0
 . have he1' : ((R1.e : Int) != 0) = false := by simp; omega
   simp only [if_pos he1]
   refine okE.seq (okE.flat (fun _ => rfl) ?_)
   simp [R57_17, t0, k17, he1', thenE]
   rw [<- cSeq_assoc]
   refine okE.seq (okE.mono (ad_second C L (j := j) (l := l) (d := d) (dp := F.R.pos) (F := { F with R := R1 }) hs p1 he1 hl hdw x2 lo2 z2 _ ?_ ?_ ?_ ?_) ?_)
   . simp [t0]
   . simp [t2]
   . simp [t6]
   . simp [t7]
   rintro e t g ⟨rfl, t0, t2, t6, t7, b8, w3, t8, z3, y3, x3, c3, lo3⟩
   simp only [thenE]
   have hdw2 := dwS_le s R1.pos
   simp only at y3 x3
   generalize (dwS s R1.pos).1 = gg at y3 hdw2
   generalize hR2 : adC s ((l : Int) - d) R1 = R2 at x3
   obtain ⟨w4, h4, hc4, x4, c4, lo4⟩ := de_x C L x3 lo3 (by have := fi.l0; simp only; omega) fi.sm l F.R.pos (by omega) (by omega)
   have z4 := z3.ch L c4 (by simp [Kc])
   have y4 := y3.ch L c4 (by simp [Kc])
   obtain ⟨F2, hF2⟩ : ∃ F2, F2 = deS { F with R := R2 } ⟨(l : Int), F.R.pos⟩ := ⟨_, rfl⟩
   have hlen : F2.left.length <= 10000 /\ F2.right.length <= 10000 := by
    have h5 := fi.l5
    have h6 := fi.l6
    have e5 : F2.left = F.left := by rw [hF2]; unfold deS; split <;> rfl
    have e6 : F2.right = F.right := by rw [hF2]; unfold deS; split <;> rfl
    rw [e5, e6]; omega
   rw [<- hF2] at x4 ⊢
   obtain ⟨a, ha⟩ : ∃ a, a = (l : Int) - d := ⟨_, rfl⟩
   have hw1 : IntKind.i64.wrap ((l : Int) - d) = a := by rw [wrap_id (by omega) (by omega), ha]
   have hw2 : IntKind.i64.wrap (a - gg) = a - gg := wrap_id (by omega) (by omega)
   rw [<- ha]
   obtain ⟨v0, v1, v2, v3, v4, v5, v6, q4⟩ := x4
   obtain ⟨v', h5, w5, e5, ⟨f1, f2, f3⟩, g1, g2, hro, q5, c5, lo5⟩ := q4.app5 L lo4 ⟨a, F.R.pos⟩ hlen.1
   obtain ⟨v'', h6, w6, e6, ⟨f1', f2', f3'⟩, g1', g2', _, q6, c6, lo6⟩ := q5.app6 L lo5 ⟨a - gg, R1.pos⟩ hlen.2
   have z40 := z4.get 0 _ rfl
   have z41 := z4.get 1 _ rfl
   have z31 := z3.get 1 _ rfl
   have z50 := (z4.ch L c5 (by simp [Kc])).get 0 _ rfl
   have y50 := (y4.ch L c5 (by simp [Kc])).get 0 _ rfl
   have y51 := (y4.ch L c5 (by simp [Kc])).get 1 _ rfl
   obtain ⟨hE, hhE⟩ : ∃ hE, hE = O.put h5 f 15 v' := ⟨_, rfl⟩
   rw [<- hhE] at z50 y50 y51 e6 g1' c5 c6
   simp only [Us.cells] at e5 e6
   refine okE.seq (okE.flat (fun _ => rfl) ?_)
   simp [R57_21, t0, t6, t7, z31, List.zipIdx, hc4, thenE]
   refine okE.seq (okE.flat (fun _ => rfl) ?_)
   simp [R57_22, t0, t6, t7, g1, z40, z41, hw1, List.zipIdx, List.range_succ, e5, f1, f2, f3, g2, hro, putsA, <- hhE, thenE]
   refine okE.flat (fun _ => rfl) ?_
   simp [R57_23, t0, t2, t6, t7, t8, g1', z50, y50, y51, hw1, hw2, List.zipIdx, List.range_succ, e6, f1', f2', f3', g2', hro, putsA]
   exact ⟨w6, ⟨_, _, _, _, _, _, _, q6⟩, (((c2.trans c3).trans (Kc.mono c4 (by decide) (by omega))).trans (Kc.mono c5 (by decide) (by omega))).trans (Kc.mono c6 (by decide) (by omega)), lo6⟩
 . have he1' : ((R1.e : Int) != 0) = true := by simp; omega
   simp only [if_neg he1]
   refine okE.seq (okE.flat (fun _ => rfl) ?_)
   simp [R57_17, t0, k17, he1', thenE]
   exact ⟨w2, x2, c2, lo2, he1⟩
theorem ands_b (C : Lim Tryz.prog O ro okS c) (L : O.Law) {w : Own} {h : H} {f : Nat} {s : ByteArray} {D : HR} (hs : s.size <= 1000) (hD : D.nin <= 100 /\ D.nla <= 100 /\ D.nan <= 100 /\ D.m <= 10000) (F0 : FD) (fi : FI D s F0 610) (x : FX O ro w h f s F0) (lo : ro <= O.next h) :
 ∃ w' h', c 57 [.pointer (some ⟨f, 0, none⟩)] h = some (.tuple #[], h') /\ FX O ro w' h' f s (itE (adF s) 0 D.nan F0) /\ FI D s (itE (adF s) 0 D.nan F0) 810 /\ Ch O (Kc [1] 3) w h w' h' /\ ro <= O.next h' := by
 generalize hE : itE (adF s) 0 D.nan F0 = E
 have key : ∃ v h', c 57 [.pointer (some ⟨f, 0, none⟩)] h = some (v, h') /\ (v = .tuple #[] /\ ∃ w', FX O ro w' h' f s E /\ FI D s E 810 /\ Ch O (Kc [1] 3) w h w' h' /\ ro <= O.next h') := by
  refine C.fn (F57_fn O ro) rfl rfl ?_
  unfold F57
  refine okE.seq (okE.flat (fun _ => rfl) ?_)
  simp [R57_0, thenE, -resE, -resLE, -rvE]
  refine okE.blk ?_
  refine okE.loop (fun m t g => ∃ j F w', FX O ro w' g f s F /\ FI D s F (610 + 2 * j) /\ Ch O (Kc [1] 3) w h w' g /\ ro <= O.next g /\ t 0 = .pointer (some ⟨f, 0, none⟩) /\ t 2 = .int .i64 (j : Nat) /\ j + m = D.nan + 1 /\ 0 < m /\ itE (adF s) j (m - 1) F = E) ?_ (D.nan + 1) _ _ ⟨0, F0, w, x, fi, Ch.refl _ _ _, lo, by simp, by simp, by omega, by omega, hE⟩
  intro m t g hI
  obtain ⟨j, F, w', x', fi', c', lo', t0, t2, hj, hm, hfin⟩ := hI
  obtain ⟨k0, k1, k2, k3, k4, k5, k6, k17, k18, k19, k20, hro⟩ := x'.cells
  rw [fi'.hd] at k0 k1 k2 k3 k4 k5 k6
  by_cases hlt : j < D.nan
  . obtain ⟨m', rfl⟩ : ∃ m', m = m' + 2 := ⟨m - 2, by omega⟩
    simp only [Nat.add_one_sub_one, itE] at hfin
    have hlt' : (j : Int) < D.nan := by omega
    by_cases he : F.R.e = 0
    . have he' : ((F.R.e : Int) == 0) = true := by simp; omega
      rw [if_pos he] at hfin
      obtain ⟨q, hq⟩ : ∃ q, q = j + 1 := ⟨_, rfl⟩
      have hw : IntKind.i64.wrap ((j : Int) + 1) = (q : Int) := by rw [wrap_id (by omega) (by omega)]; omega
      have fi2 : FI D s (adF s j F) (610 + 2 * q) := by rw [hq]; exact adF_fi fi' (by omega) ⟨hD.1, hD.2.1⟩
      rw [<- hq] at hfin
      unfold W57_0
      refine okE.seq (okE.flat (fun _ => rfl) ?_)
      simp [R57_1, t0, t2, k5, hlt, hlt', k17, he', thenE, -resE, -resLE, -rvE]
      by_cases hb : D.bin = true
      . obtain ⟨l, hl⟩ : ∃ l : Nat, l = 2 * (1 + D.nin + D.nla + j) := ⟨_, rfl⟩
        have hw1 : IntKind.i64.wrap (1 + (D.nin : Int)) = 1 + (D.nin : Int) := wrap_id (by omega) (by omega)
        have hw2 : IntKind.i64.wrap (1 + (D.nin : Int) + (D.nla : Int)) = 1 + (D.nin : Int) + (D.nla : Int) := wrap_id (by omega) (by omega)
        have hw3 : IntKind.i64.wrap (1 + (D.nin : Int) + (D.nla : Int) + (j : Int)) = 1 + (D.nin : Int) + (D.nla : Int) + (j : Int) := wrap_id (by omega) (by omega)
        have hw4 : IntKind.i64.wrap (2 * (1 + (D.nin : Int) + (D.nla : Int) + (j : Int))) = (l : Int) := by rw [wrap_id (by omega) (by omega)]; omega
        have hz : adF s j F = adB s l F := by unfold adF; rw [fi'.hd, if_pos hb, hl]
        refine okE.seq (okE.blk ?_)
        refine okE.seq (okE.flat (fun _ => rfl) ?_)
        simp [R57_3, t0, k0, hb, thenE, -resE, -resLE, -rvE]
        refine okE.seq (okE.flat (fun _ => rfl) ?_)
        simp [R57_13, t0, t2, k2, k3, hw1, hw2, hw3, hw4, thenE, -resE, -resLE, -rvE]
        refine okE.mono (ad_bin C L (j := j) (l := l) (B := 610 + 2 * j) hs (by omega) fi' he (by omega) x' lo' _ ?_ ?_ ?_) ?_
        . simp [t0]
        . simp [t2]
        . simp
        rintro e t3 g3 ⟨w3, x3, c3, lo3, ⟨rfl, hne⟩ | ⟨rfl, t0, t2⟩⟩
        . simp only [outOf, thenE]
          have hEe : E = adF s j F := by
           rw [<- hfin]
           cases m' with
           | zero => rfl
           | succ m' => simp only [itE]; rw [if_neg (by rw [hz]; exact hne)]
          rw [hEe]
          simp
          exact ⟨w3, by rw [hz]; exact x3, fi2.mono (by omega), c'.trans c3, lo3⟩
        . simp only [outOf, thenE]
          refine okE.flat (fun _ => rfl) ?_
          simp [R57_2, t0, t2, hw]
          exact ⟨m' + 1, by omega, q, adF s j F, w3, by rw [hz]; exact x3, fi2, c'.trans c3, lo3, rfl, by omega, by omega, hfin⟩
      . have hz : adF s j F = adP s F := by unfold adF; rw [fi'.hd, if_neg hb]
        refine okE.seq (okE.blk ?_)
        refine okE.seq (okE.seq (okE.flat (fun _ => rfl) ?_))
        simp [R57_3, t0, k0, hb, thenE, -resE, -resLE, -rvE]
        refine okE.cond true (by simp) ?_
        simp only [if_true]
        refine okE.mono (ad_plain C L (j := j) (B := 610 + 2 * j) hs (by omega) hD.2.2.2 fi' x' lo' _ ?_ ?_) ?_
        . simp [t0]
        . simp [t2]
        rintro e t3 g3 ⟨rfl, t0, t2, w3, x3, c3, lo3⟩
        simp only [outOf, thenE, if_true]
        refine okE.flat (fun _ => rfl) ?_
        simp [R57_2, t0, t2, hw]
        exact ⟨m' + 1, by omega, q, adF s j F, w3, by rw [hz]; exact x3, fi2, c'.trans c3, lo3, rfl, by omega, by omega, hfin⟩
    . have he' : ((F.R.e : Int) == 0) = false := by simp; omega
      rw [if_neg he] at hfin
      subst hfin
      refine okE.flat (fun _ => rfl) ?_
      simp [W57_0, R57_1, t0, t2, k5, hlt, hlt', k17, he']
      exact ⟨w', x', fi'.mono (by omega), c', lo'⟩
  . have hm1 : m = 1 := by omega
    subst hm1
    have hfin2 : F = E := hfin
    subst hfin2
    have hlt' : ¬ (j : Int) < D.nan := by omega
    refine okE.flat (fun _ => rfl) ?_
    simp [W57_0, R57_1, t0, t2, k5, hlt, hlt']
    exact ⟨w', x', fi'.mono (by omega), c', lo'⟩
 obtain ⟨v, h', e1, rfl, w', e2⟩ := key
 exact ⟨w', h', e1, e2⟩
end
end Go.Proofs.YtlakdngplpabdaaGreatDoor
