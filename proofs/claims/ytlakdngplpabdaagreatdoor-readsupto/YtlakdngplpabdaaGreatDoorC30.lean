/- Own work. -/
import Derived.Test.YtlakdngplpabdaaGreatDoorC29
namespace Go.Proofs.YtlakdngplpabdaaGreatDoor
open Go.Vm Go.Proofs
set_option linter.unusedSimpArgs false
set_option linter.unusedVariables false
set_option maxHeartbeats 400000
set_option maxRecDepth 4000
section
variable {H : Type} {O : HI H} {ro : Nat} {c : CallT H}
attribute [local simp] cSeq cReg reg to mv too onlyIf onlyIfo aMove aNil aFld aLd aInt aPick aLenStr aIdxStr aConv aUn unA ev upd_get isB envOf iA_add iA_sub iA_mul iA_eql iA_neq iA_lss iA_leq iA_gtr iA_geq cIf cRet cSkip okc_some resE resLE rvE aSt vc_int vc_bool vc_agg vc_str vc_ptr vc_sl ft_int ft_bool ft_str ft_ptr ft_sl tp_int tp_bool tp_agg tp_str tp_ptr tp_sl aBuild Instr.fill aCall cExit cBlk outOf ptr undef aNew aBox aIdxArr aLdN aShift shiftA aLenSl aIdx aMkSl aApp rangeA aExt aSliceStr aStr strA aPtrNil
theorem rbi_la (C : Lim Tryz.prog O ro okS c) (L : O.Law) {w0 : Own} {h0 : H} (lo : ro <= O.next h0) {k p n : Nat} {N : CN} {vn vr vo : Value} (x : YC O ro w0 h0 k p N vn vr vo) (ok : COk N) (w : Own) (h : H) (al : Al O w0 h0 w h) (t : Env) (T : ByteArray) (hT : T.size <= 500) (t0 : t 0 = .pointer (some ⟨p, 0, none⟩)) (tn : t 3 = .int .i64 (n : Nat)) (t4 : t 4 = .string T) (t5 : t 5 = .int .i64 0) :
 okE c (cBlk 0 (cLoop (W25_0 O Tryz.prog ro))) (t, h) (TyP O w0 h0 p n (itT (laB N) 0 N.las.length T)) := by
 have o1 := ok.ni
 have o2 := ok.nl
 have o3 := ok.na
 generalize hE : itT (laB N) 0 N.las.length T = E
 refine okE.blk ?_
 refine okE.loop (fun m t g' => ∃ j T w', Al O w0 h0 w' g' /\ t 0 = .pointer (some ⟨p, 0, none⟩) /\ t 3 = .int .i64 (n : Nat) /\ t 4 = .string T /\ t 5 = .int .i64 (j : Nat) /\ j + m = N.las.length + 1 /\ 0 < m /\ T.size <= 500 + 100 * j /\ itT (laB N) j (m - 1) T = E) ?_ (N.las.length + 1) _ _ ⟨0, T, w, al, t0, tn, t4, t5, by omega, by omega, by omega, hE⟩
 intro m t g' hI
 obtain ⟨j, T, w', al, t0, tn, t4, t5, hj, hm, hT, hfin⟩ := hI
 have x' := x.al L al
 have k1 := x'.m.get 1 _ rfl
 have k2 := x'.m.get 2 _ rfl
 by_cases hlt : j < N.las.length
 . obtain ⟨m', rfl⟩ : ∃ m', m = m' + 2 := ⟨m - 2, by omega⟩
   simp only [Nat.add_one_sub_one, itT] at hfin
   have hsz := laB_size N j
   obtain ⟨own, hown⟩ : ∃ own, own = 2 * (1 + N.ni + j) := ⟨_, rfl⟩
   have hla : laB N j = lnS ([N.las[j].1] ++ rsN N.las[j] own) := by unfold laB; rw [pAt_lt hlt, <- hown, tlS_rs]; rfl
   have hmem := ok.n _ (List.getElem_mem hlt)
   obtain ⟨bn, cpn, hvn, cln⟩ := sl_at x'.sn j (by simpa using hlt)
   simp only [List.length_map, List.getElem_map] at hvn cln
   rw [hvn] at k2
   obtain ⟨fr, hfr⟩ := fresh w' (O.next g')
   obtain ⟨w1, h1, hh1, s1, al1, _⟩ := mk_sl L w' g' (al.lo lo) (100, fr) (nvs [N.las[j].1]) (by simp [nvs])
   have hh1' : h1 = O.new g' [.int .i64 (N.las[j].1 : Int)] := hh1
   obtain ⟨v', w2, h2, e2, s2, al2⟩ := begins_b C L hfr al1 (al.lo lo) x' ok j hlt s1 (by simp)
   rw [<- hown] at s2
   have e2' : c 68 [.pointer (some ⟨p, 0, none⟩), .int .i64 (j : Nat), .slice (some ⟨O.next g', 0, some 1⟩) 1 2] h1 = some (v', h2) := e2
   have hrs : ∀ y ∈ rsN N.las[j] own, y < 256 := by
    intro y hy
    unfold rsN at hy
    split at hy
    . simp at hy; omega
    . split at hy
      . simp at hy; omega
      . simp at hy
   have hrl : (rsN N.las[j] own).length <= 1 := by unfold rsN; split; simp; split <;> simp
   obtain ⟨w3, h3, e3, al3⟩ := row_b C L (w := w2) (al2.lo (al.lo lo)) _ s2 (by
    intro y hy
    rcases List.mem_append.1 hy with hy | hy
    . simp at hy; omega
    . exact hrs y hy) (by simp; omega)
   rw [<- hla] at e3
   obtain ⟨q, hq⟩ : ∃ q, q = j + 1 := ⟨_, rfl⟩
   have hw : IntKind.i64.wrap ((j : Int) + 1) = (q : Int) := wr (by omega) (by omega)
   have hlt' : (j : Int) < N.las.length := by omega
   rw [<- hq] at hfin
   generalize laB N j = E3 at *
   have z1 : T.size + E3.size <= 9223372036854775807 := by omega
   have z4 : T.size + E3.size <= 500 + 100 * q := by omega
   refine okE.flat (fun _ => rfl) ?_
   simp [W25_0, R25_4, R25_6, R25_7, R25_5, t0, tn, t4, t5, k1, k2, hlt, hlt', cln, List.zipIdx, List.range_succ, <- hh1', e2', e3, z1, hw]
   exact ⟨m' + 1, by omega, ⟨w3, (al.trans al2).trans al3⟩, q, rfl, by omega, by omega, z4, hfin⟩
 . have hm1 : m = 1 := by omega
   subst hm1
   have hfin2 : T = E := hfin
   subst hfin2
   have hlt' : ¬ (j : Int) < N.las.length := by omega
   refine okE.flat (fun _ => rfl) ?_
   simp [W25_0, R25_4, t0, tn, t4, t5, k1, hlt, hlt', TyP]
   exact ⟨w', al⟩
theorem rbi_ga (C : Lim Tryz.prog O ro okS c) (L : O.Law) {w0 : Own} {h0 : H} (lo : ro <= O.next h0) {k p : Nat} {N : CN} {vn vr vo : Value} (x : YC O ro w0 h0 k p N vn vr vo) (ok : COk N) (w : Own) (h : H) (al : Al O w0 h0 w h) (t : Env) (T : ByteArray) (hT : T.size <= 2000) (t0 : t 0 = .pointer (some ⟨p, 0, none⟩)) (tn : t 3 = .int .i64 (N.gts.length : Nat)) (t4 : t 4 = .string T) (t7 : t 7 = .int .i64 0) :
 okE c (cBlk 2 (cLoop (W25_1 O Tryz.prog ro))) (t, h) (TyP O w0 h0 p N.gts.length (itT (gaB N) 0 N.gts.length T)) := by
 have o1 := ok.ni
 have o2 := ok.nl
 have o3 := ok.na
 generalize hE : itT (gaB N) 0 N.gts.length T = E
 refine okE.blk ?_
 refine okE.loop (fun m t g' => ∃ j T w', Al O w0 h0 w' g' /\ t 0 = .pointer (some ⟨p, 0, none⟩) /\ t 3 = .int .i64 (N.gts.length : Nat) /\ t 4 = .string T /\ t 7 = .int .i64 (j : Nat) /\ j + m = N.gts.length + 1 /\ 0 < m /\ T.size <= 2000 + 100 * j /\ itT (gaB N) j (m - 1) T = E) ?_ (N.gts.length + 1) _ _ ⟨0, T, w, al, t0, tn, t4, t7, by omega, by omega, by omega, hE⟩
 intro m t g' hI
 obtain ⟨j, T, w', al, t0, tn, t4, t7, hj, hm, hT, hfin⟩ := hI
 have x' := x.al L al
 have k0 := x'.m.get 0 _ rfl
 have k1 := x'.m.get 1 _ rfl
 have k4 := x'.m.get 4 _ rfl
 by_cases hlt : j < N.gts.length
 . obtain ⟨m', rfl⟩ : ∃ m', m = m' + 2 := ⟨m - 2, by omega⟩
   simp only [Nat.add_one_sub_one, itT] at hfin
   obtain ⟨a, ha⟩ : ∃ a, a = 1 + N.ni := ⟨_, rfl⟩
   obtain ⟨b, hb⟩ : ∃ b, b = 1 + N.ni + N.las.length := ⟨_, rfl⟩
   obtain ⟨d, hd⟩ : ∃ d, d = 1 + N.ni + N.las.length + j := ⟨_, rfl⟩
   obtain ⟨own, hown⟩ : ∃ own, own = 2 * (1 + N.ni + N.las.length + j) := ⟨_, rfl⟩
   obtain ⟨e, he⟩ : ∃ e, e = j * 2 := ⟨_, rfl⟩
   obtain ⟨f, hf⟩ : ∃ f, f = j * 2 + 1 := ⟨_, rfl⟩
   have hg := ok.g j hlt
   obtain ⟨u, hu⟩ : ∃ u, u = own - N.gts[j].1 := ⟨_, rfl⟩
   obtain ⟨v, hv⟩ : ∃ v, v = N.gts[j].1 - N.gts[j].2 := ⟨_, rfl⟩
   have hw1 : IntKind.i64.wrap (1 + (N.ni : Int)) = (a : Int) := wr (by omega) (by omega)
   have hw2 : IntKind.i64.wrap ((a : Int) + (N.las.length : Int)) = (b : Int) := wr (by omega) (by omega)
   have hw3 : IntKind.i64.wrap ((b : Int) + (j : Int)) = (d : Int) := wr (by omega) (by omega)
   have hw4 : IntKind.i64.wrap (2 * (d : Int)) = (own : Int) := wr (by omega) (by omega)
   have hw5 : IntKind.i64.wrap (2 * (j : Int)) = (e : Int) := wr (by omega) (by omega)
   have hw6 : IntKind.i64.wrap ((e : Int) + 1) = (f : Int) := wr (by omega) (by omega)
   have hw7 : IntKind.i64.wrap ((own : Int) - (N.gts[j].1 : Int)) = (u : Int) := wr (by omega) (by omega)
   have hw8 : IntKind.i64.wrap ((N.gts[j].1 : Int) - (N.gts[j].2 : Int)) = (v : Int) := wr (by omega) (by omega)
   have hga : gaB N j = by7 u ++ by7 v := by unfold gaB; rw [pAt_lt hlt, <- hown, <- hu, <- hv]
   rw [hga, <- ByteArray.append_assoc] at hfin
   obtain ⟨b2, cp2, hv2, cl0, cl1⟩ := ops_at x' j hlt
   rw [<- hf] at cl1
   rw [<- he] at cl0
   rw [hv2] at k4
   have i1 : (e : Int) < N.gts.length * 2 := by omega
   have i2 : (f : Int) < N.gts.length * 2 := by omega
   have i3 : e < N.gts.length * 2 := by omega
   have i4 : f < N.gts.length * 2 := by omega
   obtain ⟨w2, h2, e2, al2⟩ := by7_b C L (w := w') (al.lo lo) u (by omega)
   obtain ⟨w3, h3, e3, al3⟩ := by7_b C L (w := w2) (al2.lo (al.lo lo)) v (by omega)
   obtain ⟨q, hq⟩ : ∃ q, q = j + 1 := ⟨_, rfl⟩
   have hw : IntKind.i64.wrap ((j : Int) + 1) = (q : Int) := wr (by omega) (by omega)
   have hlt' : (j : Int) < N.gts.length := by omega
   rw [<- hq] at hfin
   have s1 := by7_size u
   have s2 := by7_size v
   generalize by7 u = E1 at *
   generalize by7 v = E2 at *
   have z1 : T.size + E1.size <= 9223372036854775807 := by omega
   have z2 : T.size + E1.size + E2.size <= 9223372036854775807 := by omega
   have z4 : T.size + E1.size + E2.size <= 2000 + 100 * q := by omega
   refine okE.flat (fun _ => rfl) ?_
   simp [W25_1, R25_10, R25_12, R25_13, R25_14, R25_15, R25_16, R25_11, t0, tn, t4, t7, k0, k1, k4, hlt, hlt', hw1, hw2, hw3, hw4, hw5, hw6, hw7, hw8, i1, i2, i3, i4, cl0, cl1, e2, e3, z1, z2, hw]
   exact ⟨m' + 1, by omega, ⟨w3, (al.trans al2).trans al3⟩, q, rfl, by omega, by omega, z4, hfin⟩
 . have hm1 : m = 1 := by omega
   subst hm1
   have hfin2 : T = E := hfin
   subst hfin2
   have hlt' : ¬ (j : Int) < N.gts.length := by omega
   refine okE.flat (fun _ => rfl) ?_
   simp [W25_1, R25_10, t0, tn, t4, t7, hlt, hlt', TyP]
   exact ⟨w', al⟩
theorem rbi_b (C : Lim Tryz.prog O ro okS c) (L : O.Law) {w : Own} {h : H} (lo : ro <= O.next h) {k p : Nat} {N : CN} {vn vr vo : Value} (x : YC O ro w h k p N vn vr vo) (ok : COk N) :
 ∃ w' h', c 25 [.pointer (some ⟨p, 0, none⟩)] h = some (.string (binS N), h') /\ Al O w h w' h' := by
 have o1 := ok.ni
 have o2 := ok.nl
 have o3 := ok.na
 have ob := ok.b
 have s0 := bin0_size N
 have s1 : (bin1 N).size <= 1200 := by have := itT_size (laB_size N) N.las.length 0 (bin0 N); unfold bin1; omega
 have sb := lnS_size [N.bad]
 simp only [List.length_cons, List.length_nil] at sb
 have k0 := x.m.get 0 _ rfl
 have k1 := x.m.get 1 _ rfl
 have k4 := x.m.get 4 _ rfl
 obtain ⟨ao, cpo, hvo⟩ := ops_len x
 rw [hvo] at k4
 obtain ⟨m, hm⟩ : ∃ m, m = N.ni + N.las.length := ⟨_, rfl⟩
 obtain ⟨q, hq⟩ : ∃ q, q = N.ni + N.las.length + N.gts.length := ⟨_, rfl⟩
 have hq1 : intA .quo .i64 ((N.gts.length * 2 : Nat) : Int) 2 = some (.int .i64 (N.gts.length : Int)) := by
  have := iA_quo2 (N.gts.length * 2) (by omega)
  rw [Nat.mul_div_cancel _ (by omega)] at this
  exact this
 have hq2 : intA .quo .i64 ((N.gts.length : Int) * 2) 2 = some (.int .i64 (N.gts.length : Int)) := by have := hq1; rw [Int.natCast_mul] at this; exact this
 have hw1 : IntKind.i64.wrap ((N.ni : Int) + (N.las.length : Int)) = (m : Int) := wr (by omega) (by omega)
 have hw2 : IntKind.i64.wrap ((m : Int) + (N.gts.length : Int)) = (q : Int) := wr (by omega) (by omega)
 obtain ⟨w1, h1, e1, al1⟩ := row_n C L (w := w) lo [q, N.ni, N.las.length, 0, N.gts.length, 1] (by simp) (by simp; omega) (by simp)
 have e1' : c 67 [.slice (some ⟨O.next h, 0, some 1⟩) 6 7] (O.new h [.int .i64 (q : Int), .int .i64 (N.ni : Int), .int .i64 (N.las.length : Int), .int .i64 0, .int .i64 (N.gts.length : Int), .int .i64 1]) = some (.string (cntS N), h1) := by
  unfold cntS
  rw [<- hq]
  exact e1
 have key : ∃ u h', c 25 [.pointer (some ⟨p, 0, none⟩)] h = some (u, h') /\ (u = .string (binS N) /\ ∃ w', Al O w h w' h') := by
  refine C.fn (F25_fn O ro) rfl rfl ?_
  have z0 : (⟨#[97, 105, 103, 32]⟩ : ByteArray).size + (cntS N).size <= 9223372036854775807 := by unfold bin0 at s0; rw [ByteArray.size_append] at s0; omega
  unfold F25
  refine okE.seq (okE.flat (fun _ => rfl) ?_)
  simp [R25_0, thenE, -resE, -resLE, -rvE]
  refine okE.seq (okE.flat (fun _ => rfl) ?_)
  simp [R25_1, k4, hq1, hq2, thenE, -resE, -resLE, -rvE]
  refine okE.seq (okE.flat (fun _ => rfl) ?_)
  simp [R25_2, k0, k1, hw1, hw2, List.zipIdx, List.range_succ, e1', z0, thenE, -resE, -resLE, -rvE]
  refine okE.seq (okE.seq (okE.flat (fun _ => rfl) ?_))
  simp [R25_3, thenE, -resE, -resLE, -rvE]
  refine okE.mono (rbi_la C L lo x ok w1 h1 al1 _ (bin0 N) (by omega) (n := N.gts.length) (by simp) (by simp) (by simp [bin0]) (by simp)) ?_
  rintro e t h3 ⟨rfl, t0, tn, t4, w3, al3⟩
  simp only [thenE]
  have x3 := x.al L al3
  have k5 := x3.m.get 5 _ rfl
  obtain ⟨w4, h4, e4, al4⟩ := row_n C L (w := w3) (al3.lo lo) [N.bad] (by simp) (by simp; omega) (by simp)
  have e4' : c 67 [.slice (some ⟨O.next h3, 0, some 1⟩) 1 2] (O.new h3 [.int .i64 (N.bad : Int)]) = some (.string (lnS [N.bad]), h4) := e4
  have t4' : t 4 = .string (bin1 N) := t4
  have z1 : (bin1 N).size + (lnS [N.bad]).size <= 9223372036854775807 := by omega
  refine okE.seq (okE.flat (fun _ => rfl) ?_)
  simp [R25_8, t0, t4', k5, List.zipIdx, List.range_succ, e4', z1, thenE, -resE, -resLE, -rvE]
  refine okE.seq (okE.seq (okE.flat (fun _ => rfl) ?_))
  simp [R25_9, thenE, -resE, -resLE, -rvE]
  refine okE.mono (rbi_ga C L lo x ok w4 h4 (al3.trans al4) _ (bin1 N ++ lnS [N.bad]) (by rw [ByteArray.size_append]; omega) (by simp [t0]) (by simp [tn]) (by simp) (by simp)) ?_
  rintro e t h5 ⟨rfl, t0, tn, t4, w5, al5⟩
  simp only [thenE]
  refine okE.flat (fun _ => rfl) ?_
  simp [R25_17, t4, binS]
  exact ⟨w5, al5⟩
 obtain ⟨u, h', e1, rfl, w', a⟩ := key
 exact ⟨w', h', e1, a⟩
end
def shr (a : Int) (j : Nat) : Int := a.fdiv (2 ^ (min j 64))
def and1 (a : Int) : Int := IntKind.i64.wrap (BitVec.ofInt 64 a &&& BitVec.ofInt 64 1).toNat
def bt (a : Int) (j : Nat) : Int := and1 (shr a j)
theorem sh_r (a : Int) (j : Nat) : shiftA .shr .i64 a (j : Int) = some (.int .i64 (shr a j)) := by
 unfold shiftA shr
 rw [if_neg (by omega)]
 rfl
theorem iA_and1 (a : Int) : intA .and .i64 a 1 = some (.int .i64 (and1 a)) := rfl
def bgL (st : Int) : List (Nat × Nat) -> Nat -> Bool
 | [], _ => true
 | x :: r, j => if x.2 ≠ 2 /\ (x.2 : Int) ≠ bt st j then false else bgL st r (j + 1)
section
variable {H : Type} {O : HI H} {ro : Nat} {c : CallT H}
attribute [local simp] cSeq cReg reg to mv too onlyIf onlyIfo aMove aNil aFld aLd aInt aPick aLenStr aIdxStr aConv aUn unA ev upd_get isB envOf iA_add iA_sub iA_mul iA_eql iA_neq iA_lss iA_leq iA_gtr iA_geq cIf cRet cSkip okc_some resE resLE rvE aSt vc_int vc_bool vc_agg vc_str vc_ptr vc_sl ft_int ft_bool ft_str ft_ptr ft_sl tp_int tp_bool tp_agg tp_str tp_ptr tp_sl aBuild Instr.fill aCall cExit cBlk outOf ptr undef aNew aBox aIdxArr aLdN aShift aLenSl aIdx aMkSl aApp rangeA aExt aSliceStr aStr strA aPtrNil
theorem nin_b (C : Lim Tryz.prog O ro okS c) {w : Own} {h : H} {k p : Nat} {N : CN} {v1 v2 : Value} (x : XC O ro w h k p N v1 v2) : c 26 [.pointer (some ⟨p, 0, none⟩)] h = some (.int .i64 (N.ni : Nat), h) := by
 have k0 := x.m.get 0 _ rfl
 refine C.eq (F26_fn O ro) rfl rfl (okE.flat (fun _ => rfl) ?_)
 simp [F26, R26_0, R26_1, R26_3, k0]
theorem nla_b (C : Lim Tryz.prog O ro okS c) {w : Own} {h : H} {k p : Nat} {N : CN} {v1 v2 : Value} (x : XC O ro w h k p N v1 v2) : c 27 [.pointer (some ⟨p, 0, none⟩)] h = some (.int .i64 (N.las.length : Nat), h) := by
 obtain ⟨a1, cp1, rfl⟩ := pair_len x.s1
 have k1 := x.m.get 1 _ rfl
 refine C.eq (F27_fn O ro) rfl rfl (okE.flat (fun _ => rfl) ?_)
 simp [F27, R27_0, R27_1, R27_3, k1]
theorem nan_b (C : Lim Tryz.prog O ro okS c) {w : Own} {h : H} {k p : Nat} {N : CN} {v1 v2 : Value} (x : XC O ro w h k p N v1 v2) : c 28 [.pointer (some ⟨p, 0, none⟩)] h = some (.int .i64 (N.gts.length : Nat), h) := by
 obtain ⟨a2, cp2, rfl⟩ := pair_len x.s2
 have k2 := x.m.get 2 _ rfl
 refine C.eq (F28_fn O ro) rfl rfl (okE.flat (fun _ => rfl) ?_)
 simp [F28, R28_0, R28_1, R28_3, k2]
theorem nva_b (C : Lim Tryz.prog O ro okS c) {w : Own} {h : H} {k p : Nat} {N : CN} {v1 v2 : Value} (x : XC O ro w h k p N v1 v2) (ok : COk N) : c 29 [.pointer (some ⟨p, 0, none⟩)] h = some (.int .i64 ((1 + N.ni + N.las.length + N.gts.length : Nat) : Int), h) := by
 have o1 := ok.ni
 have o2 := ok.nl
 have o3 := ok.na
 obtain ⟨a1, cp1, rfl⟩ := pair_len x.s1
 obtain ⟨a2, cp2, rfl⟩ := pair_len x.s2
 have k0 := x.m.get 0 _ rfl
 have k1 := x.m.get 1 _ rfl
 have k2 := x.m.get 2 _ rfl
 obtain ⟨a, ha⟩ : ∃ a, a = 1 + N.ni := ⟨_, rfl⟩
 obtain ⟨b, hb⟩ : ∃ b, b = 1 + N.ni + N.las.length := ⟨_, rfl⟩
 obtain ⟨d, hd⟩ : ∃ d, d = 1 + N.ni + N.las.length + N.gts.length := ⟨_, rfl⟩
 have hw1 : IntKind.i64.wrap (1 + (N.ni : Int)) = (a : Int) := wr (by omega) (by omega)
 have hw2 : IntKind.i64.wrap ((a : Int) + (N.las.length : Int)) = (b : Int) := wr (by omega) (by omega)
 have hw3 : IntKind.i64.wrap ((b : Int) + (N.gts.length : Int)) = (d : Int) := wr (by omega) (by omega)
 rw [<- hd]
 refine C.eq (F29_fn O ro) rfl rfl (okE.flat (fun _ => rfl) ?_)
 simp [F29, R29_0, R29_1, R29_3, k0, k1, k2, hw1, hw2, hw3]
theorem beg_b (C : Lim Tryz.prog O ro okS c) {w : Own} {h : H} {k p : Nat} {N : CN} {v1 v2 : Value} (x : XC O ro w h k p N v1 v2) (ok : COk N) (st : Int) :
 c 30 [.pointer (some ⟨p, 0, none⟩), .int .i64 st] h = some (.bool (bgL st N.las 0), h) := by
 have o2 := ok.nl
 have k1 := x.m.get 1 _ rfl
 generalize hE : bgL st N.las 0 = E
 refine C.eq (F30_fn O ro) rfl rfl ?_
 unfold F30
 refine okE.seq (okE.flat (fun _ => rfl) ?_)
 simp [R30_0, thenE, -resE, -resLE, -rvE]
 refine okE.seq (okE.flat (fun _ => rfl) ?_)
 simp [R30_1, thenE, -resE, -resLE, -rvE]
 refine okE.seq (okE.seq (okE.flat (fun _ => rfl) ?_))
 simp [R30_3, thenE, -resE, -resLE, -rvE]
 refine okE.blk ?_
 refine okE.loop (fun m t g => ∃ j, g = h /\ t 0 = .pointer (some ⟨p, 0, none⟩) /\ t 1 = .int .i64 st /\ t 5 = .int .i64 (j : Nat) /\ j + m = N.las.length + 1 /\ 0 < m /\ bgL st (N.las.drop j) j = E) ?_ (N.las.length + 1) _ _ ⟨0, rfl, by simp, by simp, by simp, by omega, by omega, hE⟩
 intro m t g hI
 obtain ⟨j, rfl, t0, t1, t5, hj, hm, hfin⟩ := hI
 by_cases hlt : j < N.las.length
 . obtain ⟨b1, cp1, hv1, _, cl1, _⟩ := pair_at x.s1 j hlt
   rw [hv1] at k1
   rw [List.drop_eq_getElem_cons hlt] at hfin
   simp only [bgL] at hfin
   obtain ⟨z, hz⟩ : ∃ z, z = N.las[j].2 := ⟨_, rfl⟩
   rw [<- hz] at cl1 hfin
   have s1 := sh_r st j
   have s2 := iA_and1 (shr st j)
   obtain ⟨q, hq⟩ : ∃ q, q = j + 1 := ⟨_, rfl⟩
   have hw : IntKind.i64.wrap ((j : Int) + 1) = (q : Int) := wr (by omega) (by omega)
   have hlt' : (j : Int) < N.las.length := by omega
   rw [<- hq] at hfin
   refine okE.flat (fun _ => rfl) ?_
   by_cases c1 : z = 2
   . have c1' : ((z : Int) != 2) = false := by simp; omega
     rw [if_neg (by simp [c1])] at hfin
     simp [W30_0, R30_4, R30_6, R30_7, R30_5, t0, t1, t5, k1, hlt, hlt', cl1, c1', hw]
     exact ⟨m - 1, by omega, q, rfl, by omega, by omega, hfin⟩
   . have c1' : ((z : Int) != 2) = true := by simp; omega
     by_cases c2 : (z : Int) = bt st j
     . have c2' : ((z : Int) != and1 (shr st j)) = false := by rw [show and1 (shr st j) = bt st j from rfl]; simp [c2]
       rw [if_neg (by simp [c2])] at hfin
       simp [W30_0, R30_4, R30_6, R30_7, R30_5, t0, t1, t5, k1, hlt, hlt', cl1, c1', s1, s2, c2', hw]
       exact ⟨m - 1, by omega, q, rfl, by omega, by omega, hfin⟩
     . have c2' : ((z : Int) != and1 (shr st j)) = true := by rw [show and1 (shr st j) = bt st j from rfl]; simp [c2]
       rw [if_pos ⟨c1, c2⟩] at hfin
       subst hfin
       simp [W30_0, R30_4, R30_6, R30_7, R30_8, t0, t1, t5, k1, hlt, hlt', cl1, c1', s1, s2, c2', thenE]
 . rw [List.drop_eq_nil_of_le (by omega)] at hfin
   have hfin2 : true = E := hfin
   subst hfin2
   obtain ⟨a1, cp1, hv1⟩ := pair_len x.s1
   rw [hv1] at k1
   have hlt' : ¬ (j : Int) < N.las.length := by omega
   refine okE.flat (fun _ => rfl) ?_
   simp [W30_0, R30_4, t0, t1, t5, k1, hlt, hlt', thenE]
   refine okE.flat (fun _ => rfl) ?_
   simp [R30_9]
theorem fst_b (C : Lim Tryz.prog O ro okS c) {w : Own} {h : H} {k p : Nat} {N : CN} {vn vr vo : Value} (x : YC O ro w h k p N vn vr vo) (ok : COk N) (st : Int) :
 c 31 [.pointer (some ⟨p, 0, none⟩), .int .i64 st] h = some (.bool (bgL st N.las 0), h) := by
 have o2 := ok.nl
 have k1 := x.m.get 1 _ rfl
 have k3 := x.m.get 3 _ rfl
 generalize hE : bgL st N.las 0 = E
 refine C.eq (F31_fn O ro) rfl rfl ?_
 unfold F31
 refine okE.seq (okE.flat (fun _ => rfl) ?_)
 simp [R31_0, thenE, -resE, -resLE, -rvE]
 refine okE.seq (okE.seq (okE.flat (fun _ => rfl) ?_))
 simp [R31_1, thenE, -resE, -resLE, -rvE]
 refine okE.blk ?_
 refine okE.loop (fun m t g => ∃ j, g = h /\ t 0 = .pointer (some ⟨p, 0, none⟩) /\ t 1 = .int .i64 st /\ t 5 = .int .i64 (j : Nat) /\ j + m = N.las.length + 1 /\ 0 < m /\ bgL st (N.las.drop j) j = E) ?_ (N.las.length + 1) _ _ ⟨0, rfl, by simp, by simp, by simp, by omega, by omega, hE⟩
 intro m t g hI
 obtain ⟨j, rfl, t0, t1, t5, hj, hm, hfin⟩ := hI
 by_cases hlt : j < N.las.length
 . obtain ⟨br, cpr, hvr, clr⟩ := sl_at x.sr j (by simpa using hlt)
   simp only [List.length_map, List.getElem_map] at hvr clr
   rw [hvr] at k3
   rw [List.drop_eq_getElem_cons hlt] at hfin
   simp only [bgL] at hfin
   obtain ⟨z, hz⟩ : ∃ z, z = N.las[j].2 := ⟨_, rfl⟩
   rw [<- hz] at clr hfin
   have s1 := sh_r st j
   have s2 := iA_and1 (shr st j)
   obtain ⟨q, hq⟩ : ∃ q, q = j + 1 := ⟨_, rfl⟩
   have hw : IntKind.i64.wrap ((j : Int) + 1) = (q : Int) := wr (by omega) (by omega)
   have hlt' : (j : Int) < N.las.length := by omega
   rw [<- hq] at hfin
   refine okE.flat (fun _ => rfl) ?_
   by_cases c1 : z = 2
   . have c1' : ((z : Int) != 2) = false := by simp; omega
     rw [if_neg (by simp [c1])] at hfin
     simp [W31_0, R31_2, R31_4, R31_3, t0, t1, t5, k1, k3, hlt, hlt', clr, c1', hw]
     exact ⟨m - 1, by omega, q, rfl, by omega, by omega, hfin⟩
   . have c1' : ((z : Int) != 2) = true := by simp; omega
     by_cases c2 : (z : Int) = bt st j
     . have c2' : ((z : Int) != and1 (shr st j)) = false := by rw [show and1 (shr st j) = bt st j from rfl]; simp [c2]
       rw [if_neg (by simp [c2])] at hfin
       simp [W31_0, R31_2, R31_4, R31_3, t0, t1, t5, k1, k3, hlt, hlt', clr, c1', s1, s2, c2', hw]
       exact ⟨m - 1, by omega, q, rfl, by omega, by omega, hfin⟩
     . have c2' : ((z : Int) != and1 (shr st j)) = true := by rw [show and1 (shr st j) = bt st j from rfl]; simp [c2]
       rw [if_pos ⟨c1, c2⟩] at hfin
       subst hfin
       simp [W31_0, R31_2, R31_4, R31_5, t0, t1, t5, k1, k3, hlt, hlt', clr, c1', s1, s2, c2', thenE]
 . rw [List.drop_eq_nil_of_le (by omega)] at hfin
   have hfin2 : true = E := hfin
   subst hfin2
   have hlt' : ¬ (j : Int) < N.las.length := by omega
   refine okE.flat (fun _ => rfl) ?_
   simp [W31_0, R31_2, t0, t1, t5, k1, hlt, hlt', thenE]
   refine okE.flat (fun _ => rfl) ?_
   simp [R31_6]
end
end Go.Proofs.YtlakdngplpabdaaGreatDoor
