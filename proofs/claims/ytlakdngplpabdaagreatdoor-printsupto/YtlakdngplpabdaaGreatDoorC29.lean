/- Own work. -/
import Derived.Test.YtlakdngplpabdaaGreatDoorC28
namespace Go.Proofs.YtlakdngplpabdaaGreatDoor
open Go.Vm Go.Proofs
set_option linter.unusedSimpArgs false
set_option linter.unusedVariables false
set_option maxHeartbeats 400000
set_option maxRecDepth 4000
attribute [local simp] cSeq cReg reg to mv too onlyIf onlyIfo aMove aNil aFld aLd aInt aPick aLenStr aIdxStr aConv aUn unA ev upd_get isB envOf iA_add iA_sub iA_mul iA_eql iA_neq iA_lss iA_leq iA_gtr iA_geq cIf cRet cSkip okc_some resE resLE rvE aSt vc_int vc_bool vc_agg vc_str vc_ptr vc_sl ft_int ft_bool ft_str ft_ptr ft_sl tp_int tp_bool tp_agg tp_str tp_ptr tp_sl aBuild Instr.fill aCall cExit cBlk outOf ptr undef aNew aBox aIdxArr aLdN aShift shiftA aLenSl aIdx aMkSl aApp rangeA aExt aSliceStr aStr strA aPtrNil
section
variable {H : Type} {O : HI H} {ro : Nat} {c : CallT H}
theorem bin_la (C : Lim Tryz.prog O ro okS c) (L : O.Law) {w0 : Own} {h0 : H} (g : Gl O w0 h0) (lo : ro <= O.next h0) {k p : Nat} {N : CN} {v1 v2 : Value} (x : XC O ro w0 h0 k p N v1 v2) (ok : COk N) (w : Own) (h : H) (al : Al O w0 h0 w h) (t : Env) (T : ByteArray) (hT : T.size <= 500) (t0 : t 0 = .pointer (some ⟨p, 0, none⟩)) (t3 : t 3 = .string T) (t4 : t 4 = .int .i64 0) :
 okE c (cBlk 0 (cLoop (W24_0 O Tryz.prog ro))) (t, h) (TxP O w0 h0 p (itT (laB N) 0 N.las.length T)) := by
 have o1 := ok.ni
 have o2 := ok.nl
 have o3 := ok.na
 generalize hE : itT (laB N) 0 N.las.length T = E
 refine okE.blk ?_
 refine okE.loop (fun m t g' => ∃ j T w', Al O w0 h0 w' g' /\ t 0 = .pointer (some ⟨p, 0, none⟩) /\ t 3 = .string T /\ t 4 = .int .i64 (j : Nat) /\ j + m = N.las.length + 1 /\ 0 < m /\ T.size <= 500 + 100 * j /\ itT (laB N) j (m - 1) T = E) ?_ (N.las.length + 1) _ _ ⟨0, T, w, al, t0, t3, t4, by omega, by omega, by omega, hE⟩
 intro m t g' hI
 obtain ⟨j, T, w', al, t0, t3, t4, hj, hm, hT, hfin⟩ := hI
 have x' := x.al L al
 have k1 := x'.m.get 1 _ rfl
 by_cases hlt : j < N.las.length
 . obtain ⟨m', rfl⟩ : ∃ m', m = m' + 2 := ⟨m - 2, by omega⟩
   simp only [Nat.add_one_sub_one, itT] at hfin
   have c1 := latl_b C x' ok j (by omega)
   have hsz := laB_size N j
   obtain ⟨own, hown⟩ : ∃ own, own = 2 * (1 + N.ni + j) := ⟨_, rfl⟩
   have hla : laB N j = lnS (tlS N.las[j] own) := by unfold laB; rw [pAt_lt hlt, <- hown]
   rw [<- hown] at c1
   have hmem := ok.n _ (List.getElem_mem hlt)
   obtain ⟨b1, cp1, hv1, _, _, cl⟩ := pair_at x'.s1 j hlt
   obtain ⟨w3, h3, e3, al3⟩ := tail_b C L (g.al' L al) (al.lo lo) N.las[j] own (by omega) (by omega) (by omega)
   rw [<- hla] at e3
   rw [hv1] at k1
   obtain ⟨q, hq⟩ : ∃ q, q = j + 1 := ⟨_, rfl⟩
   have hw : IntKind.i64.wrap ((j : Int) + 1) = (q : Int) := wr (by omega) (by omega)
   have hlt' : (j : Int) < N.las.length := by omega
   rw [<- hq] at hfin
   generalize laB N j = E3 at *
   have z1 : T.size + E3.size <= 9223372036854775807 := by omega
   have z4 : T.size + E3.size <= 500 + 100 * q := by omega
   refine okE.flat (fun _ => rfl) ?_
   simp [W24_0, R24_5, R24_7, R24_8, R24_6, t0, t3, t4, k1, hlt, hlt', c1, cl, e3, z1, hw]
   exact ⟨m' + 1, by omega, ⟨w3, al.trans al3⟩, q, rfl, by omega, by omega, z4, hfin⟩
 . have hm1 : m = 1 := by omega
   subst hm1
   have hfin2 : T = E := hfin
   subst hfin2
   obtain ⟨a1, cp1, hv1⟩ := pair_len x'.s1
   rw [hv1] at k1
   have hlt' : ¬ (j : Int) < N.las.length := by omega
   refine okE.flat (fun _ => rfl) ?_
   simp [W24_0, R24_5, t0, t3, t4, k1, hlt, hlt', TxP]
   exact ⟨w', al⟩
theorem bin_ga (C : Lim Tryz.prog O ro okS c) (L : O.Law) {w0 : Own} {h0 : H} (g : Gl O w0 h0) (lo : ro <= O.next h0) {k p : Nat} {N : CN} {v1 v2 : Value} (x : XC O ro w0 h0 k p N v1 v2) (ok : COk N) (w : Own) (h : H) (al : Al O w0 h0 w h) (t : Env) (T : ByteArray) (hT : T.size <= 2000) (t0 : t 0 = .pointer (some ⟨p, 0, none⟩)) (t3 : t 3 = .string T) (t6 : t 6 = .int .i64 0) :
 okE c (cBlk 2 (cLoop (W24_1 O Tryz.prog ro))) (t, h) (TxP O w0 h0 p (itT (gaB N) 0 N.gts.length T)) := by
 have o1 := ok.ni
 have o2 := ok.nl
 have o3 := ok.na
 generalize hE : itT (gaB N) 0 N.gts.length T = E
 refine okE.blk ?_
 refine okE.loop (fun m t g' => ∃ j T w', Al O w0 h0 w' g' /\ t 0 = .pointer (some ⟨p, 0, none⟩) /\ t 3 = .string T /\ t 6 = .int .i64 (j : Nat) /\ j + m = N.gts.length + 1 /\ 0 < m /\ T.size <= 2000 + 100 * j /\ itT (gaB N) j (m - 1) T = E) ?_ (N.gts.length + 1) _ _ ⟨0, T, w, al, t0, t3, t6, by omega, by omega, by omega, hE⟩
 intro m t g' hI
 obtain ⟨j, T, w', al, t0, t3, t6, hj, hm, hT, hfin⟩ := hI
 have x' := x.al L al
 have k2 := x'.m.get 2 _ rfl
 by_cases hlt : j < N.gts.length
 . obtain ⟨m', rfl⟩ : ∃ m', m = m' + 2 := ⟨m - 2, by omega⟩
   simp only [Nat.add_one_sub_one, itT] at hfin
   have c1 := gatl_b C x' ok j (by omega)
   obtain ⟨own, hown⟩ : ∃ own, own = 2 * (1 + N.ni + N.las.length + j) := ⟨_, rfl⟩
   have hg := ok.g j hlt
   obtain ⟨a, ha⟩ : ∃ a, a = own - N.gts[j].1 := ⟨_, rfl⟩
   obtain ⟨b, hb⟩ : ∃ b, b = N.gts[j].1 - N.gts[j].2 := ⟨_, rfl⟩
   have hga : gaB N j = by7 a ++ by7 b := by unfold gaB; rw [pAt_lt hlt, <- hown, <- ha, <- hb]
   rw [hga, <- ByteArray.append_assoc] at hfin
   rw [<- hown] at c1
   obtain ⟨b2, cp2, hv2, _, _, cl⟩ := pair_at x'.s2 j hlt
   obtain ⟨d, w1, h1, hd, e1, y1, al1, lo1, hdro⟩ := loc2 L w' g' (al.lo lo) (.int .i64 (N.gts[j].1 : Int)) (.int .i64 (N.gts[j].2 : Int)) (100, 7)
   have al1 : Al O w' g' w1 h1 := al1
   obtain ⟨w2, h2, e2, al2⟩ := diff_b C L (w := w1) lo1 a (by omega)
   have y2 := y1.al' L al2
   obtain ⟨w3, h3, e3, al3⟩ := diff_b C L (w := w2) (al2.lo lo1) b (by omega)
   have d0 := y1.get 0 _ rfl
   have d1 := y2.get 0 _ rfl
   have d2 := y2.get 1 _ rfl
   rw [hv2] at k2
   have hw1 : IntKind.i64.wrap ((own : Int) - (N.gts[j].1 : Int)) = (a : Int) := wr (by omega) (by omega)
   have hw2 : IntKind.i64.wrap ((N.gts[j].1 : Int) - (N.gts[j].2 : Int)) = (b : Int) := wr (by omega) (by omega)
   obtain ⟨q, hq⟩ : ∃ q, q = j + 1 := ⟨_, rfl⟩
   have hw : IntKind.i64.wrap ((j : Int) + 1) = (q : Int) := wr (by omega) (by omega)
   have hlt' : (j : Int) < N.gts.length := by omega
   rw [<- hq] at hfin
   have s1 := by7_size a
   have s2 := by7_size b
   generalize by7 a = E1 at *
   generalize by7 b = E2 at *
   have z1 : T.size + E1.size <= 9223372036854775807 := by omega
   have z2 : T.size + E1.size + E2.size <= 9223372036854775807 := by omega
   have z4 : T.size + E1.size + E2.size <= 2000 + 100 * q := by omega
   refine okE.flat (fun _ => rfl) ?_
   simp [W24_1, R24_11, R24_13, R24_14, R24_15, R24_16, R24_12, t0, t3, t6, k2, hlt, hlt', c1, cl, <- hd, hdro, e1, d0, hw1, e2, z1, d1, d2, hw2, e3, z2, hw]
   exact ⟨m' + 1, by omega, ⟨w3, ((al.trans al1).trans al2).trans al3⟩, q, rfl, by omega, by omega, z4, hfin⟩
 . have hm1 : m = 1 := by omega
   subst hm1
   have hfin2 : T = E := hfin
   subst hfin2
   obtain ⟨a2, cp2, hv2⟩ := pair_len x'.s2
   rw [hv2] at k2
   have hlt' : ¬ (j : Int) < N.gts.length := by omega
   refine okE.flat (fun _ => rfl) ?_
   simp [W24_1, R24_11, t0, t3, t6, k2, hlt, hlt', TxP]
   exact ⟨w', al⟩
theorem bin_b (C : Lim Tryz.prog O ro okS c) (L : O.Law) {w : Own} {h : H} (g : Gl O w h) (lo : ro <= O.next h) {k p : Nat} {N : CN} {v1 v2 : Value} (x : XC O ro w h k p N v1 v2) (ok : COk N) :
 ∃ w' h', c 24 [.pointer (some ⟨p, 0, none⟩)] h = some (.string (binS N), h') /\ Al O w h w' h' := by
 have o1 := ok.ni
 have o2 := ok.nl
 have o3 := ok.na
 have ob := ok.b
 obtain ⟨w1, h1, e1, al1⟩ := counts_b C L g lo x ok
 have s0 := bin0_size N
 have s1 : (bin1 N).size <= 1200 := by have := itT_size (laB_size N) N.las.length 0 (bin0 N); unfold bin1; omega
 have sb := lnS_size [N.bad]
 simp only [List.length_cons, List.length_nil] at sb
 have key : ∃ u h', c 24 [.pointer (some ⟨p, 0, none⟩)] h = some (u, h') /\ (u = .string (binS N) /\ ∃ w', Al O w h w' h') := by
  refine C.fn (F24_fn O ro) rfl rfl ?_
  have z0 : (⟨#[97, 105, 103, 32]⟩ : ByteArray).size + (cntS N).size <= 9223372036854775807 := by unfold bin0 at s0; rw [ByteArray.size_append] at s0; omega
  unfold F24
  refine okE.seq (okE.flat (fun _ => rfl) ?_)
  simp [R24_0, thenE, -resE, -resLE, -rvE]
  refine okE.seq (okE.flat (fun _ => rfl) ?_)
  simp [R24_1, thenE, -resE, -resLE, -rvE]
  refine okE.seq (okE.flat (fun _ => rfl) ?_)
  simp [R24_3, e1, z0, thenE, -resE, -resLE, -rvE]
  refine okE.seq (okE.seq (okE.flat (fun _ => rfl) ?_))
  simp [R24_4, thenE, -resE, -resLE, -rvE]
  refine okE.mono (bin_la C L g lo x ok w1 h1 al1 _ (bin0 N) (by omega) (by simp) (by simp [bin0]) (by simp)) ?_
  rintro e t h3 ⟨rfl, t0, t3, w3, al3⟩
  simp only [thenE]
  have x3 := x.al L al3
  have k3 := x3.m.get 3 _ rfl
  obtain ⟨w4, h4, e4, al4⟩ := line_n C L (g.al' L al3) (al3.lo lo) [N.bad] (by simp) (by simp; omega) (by simp)
  have e4' : c 62 [.slice (some ⟨O.next h3, 0, some 1⟩) 1 2] (O.new h3 [.int .i64 (N.bad : Int)]) = some (.string (lnS [N.bad]), h4) := e4
  have t3' : t 3 = .string (bin1 N) := t3
  have z1 : (bin1 N).size + (lnS [N.bad]).size <= 9223372036854775807 := by omega
  refine okE.seq (okE.flat (fun _ => rfl) ?_)
  simp [R24_9, t0, t3', k3, List.zipIdx, List.range_succ, e4', z1, thenE, -resE, -resLE, -rvE]
  refine okE.seq (okE.seq (okE.flat (fun _ => rfl) ?_))
  simp [R24_10, thenE, -resE, -resLE, -rvE]
  refine okE.mono (bin_ga C L g lo x ok w4 h4 (al3.trans al4) _ (bin1 N ++ lnS [N.bad]) (by rw [ByteArray.size_append]; omega) (by simp [t0]) (by simp) (by simp)) ?_
  rintro e t h5 ⟨rfl, t0, t3, w5, al5⟩
  simp only [thenE]
  refine okE.flat (fun _ => rfl) ?_
  simp [R24_17, t3, binS]
  exact ⟨w5, al5⟩
 obtain ⟨u, h', e1, rfl, w', a⟩ := key
 exact ⟨w', h', e1, a⟩
end
def opsN (N : CN) : List Nat := N.gts.flatMap fun g => [g.1, g.2]
theorem two_len : ∀ l : List (Nat × Nat), (l.flatMap fun g => [g.1, g.2]).length = l.length * 2 := by
 intro l
 induction l with
 | nil => rfl
 | cons g l ih => simp only [List.flatMap_cons, List.length_append, ih, List.length_cons, List.length_nil]; omega
theorem two_at : ∀ (l : List (Nat × Nat)) (k : Nat) (h : k < l.length), (l.flatMap fun g => [g.1, g.2])[k * 2]? = some l[k].1 /\ (l.flatMap fun g => [g.1, g.2])[k * 2 + 1]? = some l[k].2 := by
 intro l
 induction l with
 | nil => intro k h; simp at h
 | cons g l ih =>
  intro k h
  cases k with
  | zero => exact ⟨rfl, rfl⟩
  | succ k =>
   have := ih k (by simpa using h)
   simp only [List.flatMap_cons, List.cons_append, List.nil_append, List.getElem_cons_succ]
   rw [show (k + 1) * 2 = k * 2 + 1 + 1 by omega]
   simp only [List.getElem?_cons_succ]
   exact this
theorem opsN_len (N : CN) : (opsN N).length = N.gts.length * 2 := two_len N.gts
theorem opsN_at (N : CN) (k : Nat) (h : k < N.gts.length) : (opsN N)[k * 2]? = some N.gts[k].1 /\ (opsN N)[k * 2 + 1]? = some N.gts[k].2 := two_at N.gts k h
def rsN (x : Nat × Nat) (own : Nat) : List Nat := if x.2 = 1 then [1] else if x.2 = 2 then [own] else []
theorem tlS_rs (x : Nat × Nat) (own : Nat) : tlS x own = x.1 :: rsN x own := rfl
section
variable {H : Type} {O : HI H} {ro : Nat} {c : CallT H}
structure YC (O : HI H) (ro : Nat) (w : Own) (h : H) (k p : Nat) (N : CN) (vn vr vo : Value) : Prop where
 m : Bx O ro w h (k, 1000) p [.int .i64 (N.ni : Nat), .int .i64 (N.las.length : Nat), vn, vr, vo, .int .i64 (N.bad : Nat)]
 sn : Sl O ro w h (k, 2) 1 vn (nvs (N.las.map (·.1)))
 sr : Sl O ro w h (k, 3) 1 vr (nvs (N.las.map (·.2)))
 so : Sl O ro w h (k, 4) 1 vo (nvs (opsN N))
theorem YC.al (L : O.Law) {w w' : Own} {h h' : H} {k p : Nat} {N : CN} {vn vr vo : Value} (x : YC O ro w h k p N vn vr vo) (a : Al O w h w' h') : YC O ro w' h' k p N vn vr vo := ⟨x.m.al' L a, x.sn.al L a, x.sr.al L a, x.so.al L a⟩
theorem begins_b (C : Lim Tryz.prog O ro okS c) (L : O.Law) {w w1 : Own} {h h1 : H} {n : Nat} (hn : ∀ b, b < O.next h -> w b ≠ (100, n)) (al : Al O w h w1 h1) (lo : ro <= O.next h) {k p : Nat} {N : CN} {vn vr vo : Value} (x : YC O ro w h k p N vn vr vo) (ok : COk N) (j : Nat) (hj : j < N.las.length) {v : Value} {ns : List Nat} (sl : Sl O ro w1 h1 (100, n) 1 v (nvs ns)) (hl : ns.length <= 100) :
 ∃ v' w2 h2, c 68 [.pointer (some ⟨p, 0, none⟩), .int .i64 (j : Nat), v] h1 = some (v', h2) /\ Sl O ro w2 h2 (100, n) 1 v' (nvs (ns ++ rsN N.las[j] (2 * (1 + N.ni + j)))) /\ Al O w h w2 h2 := by
 have o1 := ok.ni
 have o2 := ok.nl
 have x1 := x.al L al
 have k0 := x1.m.get 0 _ rfl
 have k3 := x1.m.get 3 _ rfl
 obtain ⟨br, cpr, hvr, clr⟩ := sl_at x1.sr j (by simpa using hj)
 simp only [List.length_map, List.getElem_map] at hvr clr
 rw [hvr] at k3
 have hlt' : (j : Int) < N.las.length := by omega
 have hz := (ok.n _ (List.getElem_mem hj)).2
 obtain ⟨z, hze⟩ : ∃ z, z = N.las[j].2 := ⟨_, rfl⟩
 unfold rsN
 rw [<- hze] at clr hz ⊢
 have fl := sl.flat
 by_cases c1 : z = 1
 . rw [if_pos c1]
   subst c1
   obtain ⟨v', w3, g3, e3, s3, al3⟩ := app_own L hn al lo sl hl 1
   refine ⟨v', w3, g3, ?_, s3, al3⟩
   have e3' : appI O ro 1 8 v (.slice (some ⟨O.next h1, 0, some 1⟩) 1 2) (O.new h1 [.int .i64 1]) = some (v', g3) := e3
   have f' := s3.flat
   have clr' : O.cell h1 br j = some (.int .i64 1) := clr
   refine C.eq (F68_fn O ro) rfl rfl (okE.flat (fun _ => rfl) ?_)
   simp [F68, R68_0, R68_1, R68_2, R68_3, k3, hj, hlt', clr', List.zipIdx, List.range_succ, e3', f'.2.2]
 . rw [if_neg c1]
   by_cases c2 : z = 2
   . rw [if_pos c2]
     subst c2
     obtain ⟨a, ha⟩ : ∃ a, a = 1 + N.ni := ⟨_, rfl⟩
     obtain ⟨b, hb⟩ : ∃ b, b = 1 + N.ni + j := ⟨_, rfl⟩
     obtain ⟨own, hown⟩ : ∃ own, own = 2 * (1 + N.ni + j) := ⟨_, rfl⟩
     have hw1 : IntKind.i64.wrap (1 + (N.ni : Int)) = (a : Int) := wr (by omega) (by omega)
     have hw2 : IntKind.i64.wrap ((a : Int) + (j : Int)) = (b : Int) := wr (by omega) (by omega)
     have hw3 : IntKind.i64.wrap (2 * (b : Int)) = (own : Int) := wr (by omega) (by omega)
     rw [<- hown]
     obtain ⟨v', w3, g3, e3, s3, al3⟩ := app_own L hn al lo sl hl own
     refine ⟨v', w3, g3, ?_, s3, al3⟩
     have f' := s3.flat
     have clr' : O.cell h1 br j = some (.int .i64 2) := clr
     refine C.eq (F68_fn O ro) rfl rfl (okE.flat (fun _ => rfl) ?_)
     simp [F68, R68_0, R68_1, R68_2, R68_4, R68_5, k0, k3, hj, hlt', clr', hw1, hw2, hw3, List.zipIdx, List.range_succ, e3, f'.2.2]
   . rw [if_neg c2]
     have c0 : z = 0 := by omega
     subst c0
     refine ⟨v, w1, h1, ?_, by simpa using sl, al⟩
     have clr' : O.cell h1 br j = some (.int .i64 0) := clr
     refine C.eq (F68_fn O ro) rfl rfl (okE.flat (fun _ => rfl) ?_)
     simp [F68, R68_0, R68_1, R68_2, R68_4, R68_6, k3, hj, hlt', clr', fl.2.2]
def TyP (O : HI H) (w0 : Own) (h0 : H) (p n : Nat) (E : ByteArray) (e : Exit) (t : Env) (h : H) : Prop := e = .normal /\ t 0 = .pointer (some ⟨p, 0, none⟩) /\ t 3 = .int .i64 (n : Nat) /\ t 4 = .string E /\ ∃ w, Al O w0 h0 w h
theorem ras_in (C : Lim Tryz.prog O ro okS c) (L : O.Law) {w0 : Own} {h0 : H} (lo : ro <= O.next h0) {k p n : Nat} {N : CN} {vn vr vo : Value} (x : YC O ro w0 h0 k p N vn vr vo) (ok : COk N) (w : Own) (h : H) (al : Al O w0 h0 w h) (t : Env) (T : ByteArray) (hT : T.size <= 100) (t0 : t 0 = .pointer (some ⟨p, 0, none⟩)) (tn : t 3 = .int .i64 (n : Nat)) (t4 : t 4 = .string T) (t5 : t 5 = .int .i64 0) :
 okE c (cBlk 0 (cLoop (W23_0 O Tryz.prog ro))) (t, h) (TyP O w0 h0 p n (itT inL 0 N.ni T)) := by
 have o1 := ok.ni
 generalize hE : itT inL 0 N.ni T = E
 refine okE.blk ?_
 refine okE.loop (fun m t g' => ∃ j T w', Al O w0 h0 w' g' /\ t 0 = .pointer (some ⟨p, 0, none⟩) /\ t 3 = .int .i64 (n : Nat) /\ t 4 = .string T /\ t 5 = .int .i64 (j : Nat) /\ j + m = N.ni + 1 /\ 0 < m /\ T.size <= 100 + 100 * j /\ itT inL j (m - 1) T = E) ?_ (N.ni + 1) _ _ ⟨0, T, w, al, t0, tn, t4, t5, by omega, by omega, by omega, hE⟩
 intro m t g' hI
 obtain ⟨j, T, w', al, t0, tn, t4, t5, hj, hm, hT, hfin⟩ := hI
 have x' := x.al L al
 have k0 := x'.m.get 0 _ rfl
 by_cases hlt : j < N.ni
 . obtain ⟨m', rfl⟩ : ∃ m', m = m' + 2 := ⟨m - 2, by omega⟩
   simp only [Nat.add_one_sub_one, itT] at hfin
   obtain ⟨a, ha⟩ : ∃ a, a = 1 + j := ⟨_, rfl⟩
   obtain ⟨b, hb⟩ : ∃ b, b = 2 * (1 + j) := ⟨_, rfl⟩
   obtain ⟨w2, h2, e2, al2⟩ := row_n C L (w := w') (al.lo lo) [b] (by simp) (by simp; omega) (by simp)
   have e3 : c 67 [.slice (some ⟨O.next g', 0, some 1⟩) 1 2] (O.new g' [.int .i64 (b : Int)]) = some (.string (inL j), h2) := by unfold inL; rw [<- hb]; exact e2
   have hsz := inL_size j
   have hw1 : IntKind.i64.wrap (1 + (j : Int)) = (a : Int) := wr (by omega) (by omega)
   have hw2 : IntKind.i64.wrap (2 * (a : Int)) = (b : Int) := wr (by omega) (by omega)
   obtain ⟨q, hq⟩ : ∃ q, q = j + 1 := ⟨_, rfl⟩
   have hw : IntKind.i64.wrap ((j : Int) + 1) = (q : Int) := wr (by omega) (by omega)
   have hlt' : (j : Int) < N.ni := by omega
   rw [<- hq] at hfin
   have z1 : T.size + (inL j).size <= 9223372036854775807 := by omega
   have z2 : T.size + (inL j).size <= 100 + 100 * q := by omega
   refine okE.flat (fun _ => rfl) ?_
   simp [W23_0, R23_4, R23_6, R23_5, t0, tn, t4, t5, k0, hlt, hlt', hw1, hw2, List.zipIdx, List.range_succ, e3, z1, hw]
   exact ⟨m' + 1, by omega, ⟨w2, al.trans al2⟩, q, rfl, by omega, by omega, z2, hfin⟩
 . have hm1 : m = 1 := by omega
   subst hm1
   have hfin2 : T = E := hfin
   subst hfin2
   have hlt' : ¬ (j : Int) < N.ni := by omega
   refine okE.flat (fun _ => rfl) ?_
   simp [W23_0, R23_4, t0, tn, t4, t5, k0, hlt, hlt', TyP]
   exact ⟨w', al⟩
theorem ras_la (C : Lim Tryz.prog O ro okS c) (L : O.Law) {w0 : Own} {h0 : H} (lo : ro <= O.next h0) {k p n : Nat} {N : CN} {vn vr vo : Value} (x : YC O ro w0 h0 k p N vn vr vo) (ok : COk N) (w : Own) (h : H) (al : Al O w0 h0 w h) (t : Env) (T : ByteArray) (hT : T.size <= 500) (t0 : t 0 = .pointer (some ⟨p, 0, none⟩)) (tn : t 3 = .int .i64 (n : Nat)) (t4 : t 4 = .string T) (t6 : t 6 = .int .i64 0) :
 okE c (cBlk 2 (cLoop (W23_1 O Tryz.prog ro))) (t, h) (TyP O w0 h0 p n (itT (laL N) 0 N.las.length T)) := by
 have o1 := ok.ni
 have o2 := ok.nl
 have o3 := ok.na
 generalize hE : itT (laL N) 0 N.las.length T = E
 refine okE.blk ?_
 refine okE.loop (fun m t g' => ∃ j T w', Al O w0 h0 w' g' /\ t 0 = .pointer (some ⟨p, 0, none⟩) /\ t 3 = .int .i64 (n : Nat) /\ t 4 = .string T /\ t 6 = .int .i64 (j : Nat) /\ j + m = N.las.length + 1 /\ 0 < m /\ T.size <= 500 + 100 * j /\ itT (laL N) j (m - 1) T = E) ?_ (N.las.length + 1) _ _ ⟨0, T, w, al, t0, tn, t4, t6, by omega, by omega, by omega, hE⟩
 intro m t g' hI
 obtain ⟨j, T, w', al, t0, tn, t4, t6, hj, hm, hT, hfin⟩ := hI
 have x' := x.al L al
 have k0 := x'.m.get 0 _ rfl
 have k1 := x'.m.get 1 _ rfl
 have k2 := x'.m.get 2 _ rfl
 by_cases hlt : j < N.las.length
 . obtain ⟨m', rfl⟩ : ∃ m', m = m' + 2 := ⟨m - 2, by omega⟩
   simp only [Nat.add_one_sub_one, itT] at hfin
   have hsz := laL_size N j
   obtain ⟨a, ha⟩ : ∃ a, a = 1 + N.ni := ⟨_, rfl⟩
   obtain ⟨b, hb⟩ : ∃ b, b = 1 + N.ni + j := ⟨_, rfl⟩
   obtain ⟨own, hown⟩ : ∃ own, own = 2 * (1 + N.ni + j) := ⟨_, rfl⟩
   have hw1 : IntKind.i64.wrap (1 + (N.ni : Int)) = (a : Int) := wr (by omega) (by omega)
   have hw2 : IntKind.i64.wrap ((a : Int) + (j : Int)) = (b : Int) := wr (by omega) (by omega)
   have hw3 : IntKind.i64.wrap (2 * (b : Int)) = (own : Int) := wr (by omega) (by omega)
   have hla : laL N j = lnS ([own, N.las[j].1] ++ rsN N.las[j] own) := by unfold laL; rw [pAt_lt hlt, <- hown, tlS_rs]; rfl
   have hmem := ok.n _ (List.getElem_mem hlt)
   obtain ⟨bn, cpn, hvn, cln⟩ := sl_at x'.sn j (by simpa using hlt)
   simp only [List.length_map, List.getElem_map] at hvn cln
   rw [hvn] at k2
   obtain ⟨fr, hfr⟩ := fresh w' (O.next g')
   obtain ⟨w1, h1, hh1, s1, al1, _⟩ := mk_sl L w' g' (al.lo lo) (100, fr) (nvs [own, N.las[j].1]) (by simp [nvs])
   have hh1' : h1 = O.new g' [.int .i64 (own : Int), .int .i64 (N.las[j].1 : Int)] := hh1
   obtain ⟨v', w2, h2, e2, s2, al2⟩ := begins_b C L hfr al1 (al.lo lo) x' ok j hlt s1 (by simp)
   rw [<- hown] at s2
   have e2' : c 68 [.pointer (some ⟨p, 0, none⟩), .int .i64 (j : Nat), .slice (some ⟨O.next g', 0, some 1⟩) 2 3] h1 = some (v', h2) := e2
   have hrs : ∀ y ∈ rsN N.las[j] own, y < 256 := by
    intro y hy
    unfold rsN at hy
    split at hy
    . simp at hy; omega
    . split at hy
      . simp at hy; omega
      . simp at hy
   have hrl : (rsN N.las[j] own).length <= 1 := by unfold rsN; split; simp; split <;> simp
   obtain ⟨w3, h3, e3, al3⟩ := row_b C L (w := w2) (al2.lo (al.lo lo)) _ s2 (by
    intro y hy
    rcases List.mem_append.1 hy with hy | hy
    . simp at hy; omega
    . exact hrs y hy) (by simp; omega)
   rw [<- hla] at e3
   have f' := s2.flat
   obtain ⟨q, hq⟩ : ∃ q, q = j + 1 := ⟨_, rfl⟩
   have hw : IntKind.i64.wrap ((j : Int) + 1) = (q : Int) := wr (by omega) (by omega)
   have hlt' : (j : Int) < N.las.length := by omega
   rw [<- hq] at hfin
   generalize laL N j = E3 at *
   have z1 : T.size + E3.size <= 9223372036854775807 := by omega
   have z4 : T.size + E3.size <= 500 + 100 * q := by omega
   refine okE.flat (fun _ => rfl) ?_
   simp [W23_1, R23_8, R23_10, R23_11, R23_9, t0, tn, t4, t6, k0, k1, k2, hlt, hlt', hw1, hw2, hw3, cln, List.zipIdx, List.range_succ, <- hh1', e2', e3, z1, hw]
   exact ⟨m' + 1, by omega, ⟨w3, (al.trans al2).trans al3⟩, q, rfl, by omega, by omega, z4, hfin⟩
 . have hm1 : m = 1 := by omega
   subst hm1
   have hfin2 : T = E := hfin
   subst hfin2
   have hlt' : ¬ (j : Int) < N.las.length := by omega
   refine okE.flat (fun _ => rfl) ?_
   simp [W23_1, R23_8, t0, tn, t4, t6, k1, hlt, hlt', TyP]
   exact ⟨w', al⟩
theorem ops_at {w : Own} {h : H} {k p : Nat} {N : CN} {vn vr vo : Value} (x : YC O ro w h k p N vn vr vo) (j : Nat) (hj : j < N.gts.length) : ∃ b cp, vo = .slice (some ⟨b, 0, some 1⟩) (N.gts.length * 2) cp /\ O.cell h b (j * 2) = some (.int .i64 ((N.gts[j].1 : Nat) : Int)) /\ O.cell h b (j * 2 + 1) = some (.int .i64 ((N.gts[j].2 : Nat) : Int)) := by
 have hl := opsN_len N
 obtain ⟨b, cp, e, y⟩ := x.so.blk (by omega) (N.gts.length * 2) (by simp [nvs, hl]) (by omega)
 obtain ⟨a0, a1⟩ := opsN_at N j hj
 exact ⟨b, cp, e, y.get _ _ (by simp [nvs, a0]), y.get _ _ (by simp [nvs, a1])⟩
theorem ops_len {w : Own} {h : H} {k p : Nat} {N : CN} {vn vr vo : Value} (x : YC O ro w h k p N vn vr vo) : ∃ a cp, vo = .slice a (N.gts.length * 2) cp := x.so.len (by omega) (N.gts.length * 2) (by simp [nvs, opsN_len])
theorem ras_ga (C : Lim Tryz.prog O ro okS c) (L : O.Law) {w0 : Own} {h0 : H} (lo : ro <= O.next h0) {k p : Nat} {N : CN} {vn vr vo : Value} (x : YC O ro w0 h0 k p N vn vr vo) (ok : COk N) (w : Own) (h : H) (al : Al O w0 h0 w h) (t : Env) (T : ByteArray) (hT : T.size <= 2000) (t0 : t 0 = .pointer (some ⟨p, 0, none⟩)) (tn : t 3 = .int .i64 (N.gts.length : Nat)) (t4 : t 4 = .string T) (t8 : t 8 = .int .i64 0) :
 okE c (cBlk 4 (cLoop (W23_2 O Tryz.prog ro))) (t, h) (TyP O w0 h0 p N.gts.length (itT (gaL N) 0 N.gts.length T)) := by
 have o1 := ok.ni
 have o2 := ok.nl
 have o3 := ok.na
 generalize hE : itT (gaL N) 0 N.gts.length T = E
 refine okE.blk ?_
 refine okE.loop (fun m t g' => ∃ j T w', Al O w0 h0 w' g' /\ t 0 = .pointer (some ⟨p, 0, none⟩) /\ t 3 = .int .i64 (N.gts.length : Nat) /\ t 4 = .string T /\ t 8 = .int .i64 (j : Nat) /\ j + m = N.gts.length + 1 /\ 0 < m /\ T.size <= 2000 + 100 * j /\ itT (gaL N) j (m - 1) T = E) ?_ (N.gts.length + 1) _ _ ⟨0, T, w, al, t0, tn, t4, t8, by omega, by omega, by omega, hE⟩
 intro m t g' hI
 obtain ⟨j, T, w', al, t0, tn, t4, t8, hj, hm, hT, hfin⟩ := hI
 have x' := x.al L al
 have k0 := x'.m.get 0 _ rfl
 have k1 := x'.m.get 1 _ rfl
 have k4 := x'.m.get 4 _ rfl
 by_cases hlt : j < N.gts.length
 . obtain ⟨m', rfl⟩ : ∃ m', m = m' + 2 := ⟨m - 2, by omega⟩
   simp only [Nat.add_one_sub_one, itT] at hfin
   have hsz := gaL_size N j
   obtain ⟨a, ha⟩ : ∃ a, a = 1 + N.ni := ⟨_, rfl⟩
   obtain ⟨b, hb⟩ : ∃ b, b = 1 + N.ni + N.las.length := ⟨_, rfl⟩
   obtain ⟨d, hd⟩ : ∃ d, d = 1 + N.ni + N.las.length + j := ⟨_, rfl⟩
   obtain ⟨own, hown⟩ : ∃ own, own = 2 * (1 + N.ni + N.las.length + j) := ⟨_, rfl⟩
   obtain ⟨e, he⟩ : ∃ e, e = j * 2 := ⟨_, rfl⟩
   obtain ⟨f, hf⟩ : ∃ f, f = j * 2 + 1 := ⟨_, rfl⟩
   have hw1 : IntKind.i64.wrap (1 + (N.ni : Int)) = (a : Int) := wr (by omega) (by omega)
   have hw2 : IntKind.i64.wrap ((a : Int) + (N.las.length : Int)) = (b : Int) := wr (by omega) (by omega)
   have hw3 : IntKind.i64.wrap ((b : Int) + (j : Int)) = (d : Int) := wr (by omega) (by omega)
   have hw4 : IntKind.i64.wrap (2 * (d : Int)) = (own : Int) := wr (by omega) (by omega)
   have hw5 : IntKind.i64.wrap (2 * (j : Int)) = (e : Int) := wr (by omega) (by omega)
   have hw6 : IntKind.i64.wrap ((e : Int) + 1) = (f : Int) := wr (by omega) (by omega)
   have hga : gaL N j = lnS [own, N.gts[j].1, N.gts[j].2] := by unfold gaL; rw [pAt_lt hlt, <- hown]
   have hg := ok.g j hlt
   obtain ⟨b2, cp2, hv2, cl0, cl1⟩ := ops_at x' j hlt
   rw [<- hf] at cl1
   rw [<- he] at cl0
   rw [hv2] at k4
   have i1 : (e : Int) < N.gts.length * 2 := by omega
   have i2 : (f : Int) < N.gts.length * 2 := by omega
   have i3 : e < N.gts.length * 2 := by omega
   have i4 : f < N.gts.length * 2 := by omega
   obtain ⟨w3, h3, e3, al3⟩ := row_n C L (w := w') (al.lo lo) [own, N.gts[j].1, N.gts[j].2] (by simp) (by simp; omega) (by simp)
   rw [<- hga] at e3
   have e3' : c 67 [.slice (some ⟨O.next g', 0, some 1⟩) 3 4] (O.new g' [.int .i64 (own : Int), .int .i64 (N.gts[j].1 : Int), .int .i64 (N.gts[j].2 : Int)]) = some (.string (gaL N j), h3) := e3
   obtain ⟨q, hq⟩ : ∃ q, q = j + 1 := ⟨_, rfl⟩
   have hw : IntKind.i64.wrap ((j : Int) + 1) = (q : Int) := wr (by omega) (by omega)
   have hlt' : (j : Int) < N.gts.length := by omega
   rw [<- hq] at hfin
   generalize gaL N j = E3 at *
   have z1 : T.size + E3.size <= 9223372036854775807 := by omega
   have z4 : T.size + E3.size <= 2000 + 100 * q := by omega
   refine okE.flat (fun _ => rfl) ?_
   simp [W23_2, R23_14, R23_16, R23_15, t0, tn, t4, t8, k0, k1, k4, hlt, hlt', hw1, hw2, hw3, hw4, hw5, hw6, i1, i2, i3, i4, cl0, cl1, List.zipIdx, List.range_succ, e3', z1, hw]
   exact ⟨m' + 1, by omega, ⟨w3, al.trans al3⟩, q, rfl, by omega, by omega, z4, hfin⟩
 . have hm1 : m = 1 := by omega
   subst hm1
   have hfin2 : T = E := hfin
   subst hfin2
   have hlt' : ¬ (j : Int) < N.gts.length := by omega
   refine okE.flat (fun _ => rfl) ?_
   simp [W23_2, R23_14, t0, tn, t4, t8, hlt, hlt', TyP]
   exact ⟨w', al⟩
theorem ras_b (C : Lim Tryz.prog O ro okS c) (L : O.Law) {w : Own} {h : H} (lo : ro <= O.next h) {k p : Nat} {N : CN} {vn vr vo : Value} (x : YC O ro w h k p N vn vr vo) (ok : COk N) :
 ∃ w' h', c 23 [.pointer (some ⟨p, 0, none⟩)] h = some (.string (ascS N), h') /\ Al O w h w' h' := by
 have o1 := ok.ni
 have o2 := ok.nl
 have o3 := ok.na
 have ob := ok.b
 have s0 := asc0_size N
 have s1 : (asc1 N).size <= 500 := by have := itT_size inL_size N.ni 0 (asc0 N); unfold asc1; omega
 have s2 : (asc2 N).size <= 1200 := by have := itT_size (laL_size N) N.las.length 0 (asc1 N); unfold asc2; omega
 have sb := lnS_size [N.bad]
 simp only [List.length_cons, List.length_nil] at sb
 have k0 := x.m.get 0 _ rfl
 have k1 := x.m.get 1 _ rfl
 have k4 := x.m.get 4 _ rfl
 obtain ⟨ao, cpo, hvo⟩ := ops_len x
 rw [hvo] at k4
 obtain ⟨m, hm⟩ : ∃ m, m = N.ni + N.las.length := ⟨_, rfl⟩
 obtain ⟨q, hq⟩ : ∃ q, q = N.ni + N.las.length + N.gts.length := ⟨_, rfl⟩
 have hq1 : intA .quo .i64 ((N.gts.length * 2 : Nat) : Int) 2 = some (.int .i64 (N.gts.length : Int)) := by
  have := iA_quo2 (N.gts.length * 2) (by omega)
  rw [Nat.mul_div_cancel _ (by omega)] at this
  exact this
 have hq2 : intA .quo .i64 ((N.gts.length : Int) * 2) 2 = some (.int .i64 (N.gts.length : Int)) := by have := hq1; rw [Int.natCast_mul] at this; exact this
 have hw1 : IntKind.i64.wrap ((N.ni : Int) + (N.las.length : Int)) = (m : Int) := wr (by omega) (by omega)
 have hw2 : IntKind.i64.wrap ((m : Int) + (N.gts.length : Int)) = (q : Int) := wr (by omega) (by omega)
 obtain ⟨w1, h1, e1, al1⟩ := row_n C L (w := w) lo [q, N.ni, N.las.length, 0, N.gts.length, 1] (by simp) (by simp; omega) (by simp)
 have e1' : c 67 [.slice (some ⟨O.next h, 0, some 1⟩) 6 7] (O.new h [.int .i64 (q : Int), .int .i64 (N.ni : Int), .int .i64 (N.las.length : Int), .int .i64 0, .int .i64 (N.gts.length : Int), .int .i64 1]) = some (.string (cntS N), h1) := by
  unfold cntS
  rw [<- hq]
  exact e1
 have key : ∃ u h', c 23 [.pointer (some ⟨p, 0, none⟩)] h = some (u, h') /\ (u = .string (ascS N) /\ ∃ w', Al O w h w' h') := by
  refine C.fn (F23_fn O ro) rfl rfl ?_
  have z0 : (⟨#[97, 97, 103, 32]⟩ : ByteArray).size + (cntS N).size <= 9223372036854775807 := by unfold asc0 at s0; rw [ByteArray.size_append] at s0; omega
  unfold F23
  refine okE.seq (okE.flat (fun _ => rfl) ?_)
  simp [R23_0, thenE, -resE, -resLE, -rvE]
  refine okE.seq (okE.flat (fun _ => rfl) ?_)
  simp [R23_1, k4, hq1, hq2, thenE, -resE, -resLE, -rvE]
  refine okE.seq (okE.flat (fun _ => rfl) ?_)
  simp [R23_2, k0, k1, hw1, hw2, List.zipIdx, List.range_succ, e1', z0, thenE, -resE, -resLE, -rvE]
  refine okE.seq (okE.seq (okE.flat (fun _ => rfl) ?_))
  simp [R23_3, thenE, -resE, -resLE, -rvE]
  refine okE.mono (ras_in C L lo x ok w1 h1 al1 _ (asc0 N) s0 (n := N.gts.length) (by simp) (by simp) (by simp [asc0]) (by simp)) ?_
  rintro e t h2 ⟨rfl, t0, tn, t4, w2, al2⟩
  simp only [thenE]
  refine okE.seq (okE.seq (okE.flat (fun _ => rfl) ?_))
  simp [R23_7, thenE, -resE, -resLE, -rvE]
  refine okE.mono (ras_la C L lo x ok w2 h2 al2 _ (asc1 N) s1 (n := N.gts.length) (by simp [t0]) (by simp [tn]) (by simp [t4]; rfl) (by simp)) ?_
  rintro e t h3 ⟨rfl, t0, tn, t4, w3, al3⟩
  simp only [thenE]
  have x3 := x.al L al3
  have k5 := x3.m.get 5 _ rfl
  obtain ⟨w4, h4, e4, al4⟩ := row_n C L (w := w3) (al3.lo lo) [N.bad] (by simp) (by simp; omega) (by simp)
  have e4' : c 67 [.slice (some ⟨O.next h3, 0, some 1⟩) 1 2] (O.new h3 [.int .i64 (N.bad : Int)]) = some (.string (lnS [N.bad]), h4) := e4
  have t4' : t 4 = .string (asc2 N) := t4
  have z1 : (asc2 N).size + (lnS [N.bad]).size <= 9223372036854775807 := by omega
  refine okE.seq (okE.flat (fun _ => rfl) ?_)
  simp [R23_12, t0, t4', k5, List.zipIdx, List.range_succ, e4', z1, thenE, -resE, -resLE, -rvE]
  refine okE.seq (okE.seq (okE.flat (fun _ => rfl) ?_))
  simp [R23_13, thenE, -resE, -resLE, -rvE]
  refine okE.mono (ras_ga C L lo x ok w4 h4 (al3.trans al4) _ (asc2 N ++ lnS [N.bad]) (by rw [ByteArray.size_append]; omega) (by simp [t0]) (by simp [tn]) (by simp) (by simp)) ?_
  rintro e t h5 ⟨rfl, t0, tn, t4, w5, al5⟩
  simp only [thenE]
  refine okE.flat (fun _ => rfl) ?_
  simp [R23_17, t4, ascS]
  exact ⟨w5, al5⟩
 obtain ⟨u, h', e1, rfl, w', a⟩ := key
 exact ⟨w', h', e1, a⟩
end
end Go.Proofs.YtlakdngplpabdaaGreatDoor
