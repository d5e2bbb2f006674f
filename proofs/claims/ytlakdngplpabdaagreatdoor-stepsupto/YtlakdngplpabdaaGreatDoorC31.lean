/- Own work. -/
import Derived.Test.YtlakdngplpabdaaGreatDoorC30
namespace Go.Proofs.YtlakdngplpabdaaGreatDoor
open Go.Vm Go.Proofs
set_option linter.unusedSimpArgs false
set_option linter.unusedVariables false
set_option maxHeartbeats 400000
set_option maxRecDepth 4000
def bvs (l : List Bool) : List Value := l.map Value.bool
def isS (v : List Bool) (l : Nat) : Bool := ((v[l / 2]?).getD false) != (l % 2 == 1)
def vIn (N : CN) (inp : Int) : List Bool := (List.range N.ni).map fun j => bt inp j == 1
def vLa (N : CN) (st : Int) : List Bool := (List.range N.las.length).map fun j => bt st j == 1
def vG : List (Nat × Nat) -> List Bool -> List Bool
 | [], v => v
 | g :: r, v => vG r (v ++ [isS v g.1 && isS v g.2])
def v0S (N : CN) (st inp : Int) : List Bool := false :: (vIn N inp ++ vLa N st)
def vlS (N : CN) (st inp : Int) : List Bool := vG N.gts (v0S N st inp)
def afL (v : List Bool) : List (Nat × Nat) -> Nat -> Nat -> Nat
 | [], _, n => n
 | x :: r, j, n => afL v r (j + 1) (if isS v x.1 = true then n + 2 ^ j else n)
theorem v0_len (N : CN) (st inp : Int) : (v0S N st inp).length = 1 + N.ni + N.las.length := by simp [v0S, vIn, vLa]; omega
theorem vG_len : ∀ (gs : List (Nat × Nat)) (v : List Bool), (vG gs v).length = v.length + gs.length := by
 intro gs
 induction gs with
 | nil => intro v; rfl
 | cons g r ih => intro v; simp only [vG, ih]; simp; omega
theorem vl_len (N : CN) (st inp : Int) : (vlS N st inp).length = 1 + N.ni + N.las.length + N.gts.length := by unfold vlS; rw [vG_len, v0_len]
theorem and1_nat : ∀ n : Fin 256, and1 (n.val : Int) = ((n.val % 2 : Nat) : Int) := by decide
theorem shr_nat (l : Nat) : shr (l : Int) 1 = ((l / 2 : Nat) : Int) := by
 unfold shr
 rw [show min 1 64 = 1 from rfl, Int.fdiv_eq_ediv_of_nonneg _ (by decide)]
 rfl
theorem or_add : ∀ j : Fin 6, ∀ n : Fin 32, n.val < 2 ^ j.val -> IntKind.i64.wrap (BitVec.ofInt 64 (n.val : Int) ||| BitVec.ofInt 64 ((2 ^ j.val : Nat) : Int)).toNat = ((n.val + 2 ^ j.val : Nat) : Int) := by decide
section
variable {H : Type} {O : HI H} {ro : Nat} {c : CallT H}
theorem app_ownB (L : O.Law) {w w1 : Own} {h h1 : H} {n : Nat} (hn : ∀ b, b < O.next h -> w b ≠ (100, n)) (al : Al O w h w1 h1) (lo : ro <= O.next h) {v : Value} {ns : List Bool} (sl : Sl O ro w1 h1 (100, n) 1 v (bvs ns)) (hl : ns.length <= 1000) (x : Bool) :
 ∃ v' w2 h2, appI O ro 1 1 v (.slice (some ⟨O.next h1, 0, some 1⟩) 1 2) (O.new h1 [.bool x]) = some (v', h2) /\ Sl O ro w2 h2 (100, n) 1 v' (bvs (ns ++ [x])) /\ Al O w h w2 h2 := by
 obtain ⟨v', h2, w2, e1, s2, c2, lo2⟩ := appI_one L (bytes := 1) (al.lo lo) sl (new := [.bool x]) (by omega) rfl (by simp [bvs]; omega) (by simp [bvs]; omega)
 exact ⟨v', w2, h2, e1, by simpa [bvs] using s2, Ch.loc hn al c2⟩
theorem bl_at {w : Own} {h : H} {tg : Tag} {v : Value} {ns : List Bool} (sl : Sl O ro w h tg 1 v (bvs ns)) (j : Nat) (hj : j < ns.length) : ∃ b cp, v = .slice (some ⟨b, 0, some 1⟩) ns.length cp /\ O.cell h b j = some (.bool ns[j]) := by
 obtain ⟨b, cp, e, y⟩ := sl.blk (by omega) ns.length (by simp [bvs]) (by omega)
 exact ⟨b, cp, e, y.get j _ (by simp [bvs, hj])⟩
attribute [local simp] cSeq cReg reg to mv too onlyIf onlyIfo aMove aNil aFld aLd aInt aPick aLenStr aIdxStr aConv aUn unA ev upd_get isB envOf iA_add iA_sub iA_mul iA_eql iA_neq iA_lss iA_leq iA_gtr iA_geq cIf cRet cSkip okc_some resE resLE rvE aSt vc_int vc_bool vc_agg vc_str vc_ptr vc_sl ft_int ft_bool ft_str ft_ptr ft_sl tp_int tp_bool tp_agg tp_str tp_ptr tp_sl aBuild Instr.fill aCall cExit cBlk outOf ptr undef aNew aBox aIdxArr aLdN aShift aLenSl aIdx aMkSl aApp rangeA aExt aSliceStr aStr strA aPtrNil aBoolEq
theorem isT_b (C : Lim Tryz.prog O ro okS c) {w : Own} {h : H} {tg : Tag} {v : Value} {vs : List Bool} (sl : Sl O ro w h tg 1 v (bvs vs)) (l : Nat) (hl : l / 2 < vs.length) (h2 : l < 256) :
 c 72 [v, .int .i64 (l : Nat)] h = some (.bool (isS vs l), h) := by
 obtain ⟨b, cp, rfl, hc⟩ := bl_at sl (l / 2) hl
 have s1 : shiftA .shr .i64 (l : Int) 1 = some (.int .i64 (shr (l : Int) 1)) := sh_r (l : Int) 1
 rw [shr_nat] at s1
 have s2 := iA_and1 (l : Int)
 rw [and1_nat ⟨l, h2⟩] at s2
 simp only at s2
 have hg : isS vs l = (vs[l / 2] != (l % 2 == 1)) := by simp [isS, hl]
 obtain ⟨q, hq⟩ : ∃ q, q = l / 2 := ⟨_, rfl⟩
 obtain ⟨r, hr⟩ : ∃ r, r = l % 2 := ⟨_, rfl⟩
 obtain ⟨y, hy⟩ : ∃ y, y = vs[l / 2] := ⟨_, rfl⟩
 rw [<- hy] at hc hg
 rw [<- hq] at s1 hc hl
 rw [<- hr] at s2 hg
 have a1 : ¬ (vs.length : Int) <= q := by omega
 have a2 : ¬ vs.length <= q := by omega
 have a3 : (q : Int) < vs.length := by omega
 have a4 : ¬ (q : Int) < 0 := by omega
 have e : ((r : Int) == 1) = (r == 1) := by
  by_cases hr1 : r = 1
  . subst hr1; rfl
  . have e1 : ((r : Int) == 1) = false := by simp; omega
    have e2 : (r == 1) = false := by simpa using hr1
    rw [e1, e2]
 rw [hg]
 refine C.eq (F72_fn O ro) rfl rfl (okE.flat (fun _ => rfl) ?_)
 generalize hb1 : (r == 1) = b1 at e ⊢
 cases y <;> cases b1 <;> simp [F72, R72_0, R72_1, R72_2, R72_4, s1, a1, a2, a3, a4, hl, hc, s2, e]
structure VlI (O : HI H) (ro : Nat) (w0 : Own) (h0 : H) (n : Nat) (w : Own) (h : H) (v : Value) (vs : List Bool) : Prop where
 sl : Sl O ro w h (100, n) 1 v (bvs vs)
 al : Al O w0 h0 w h
theorem vl_in (C : Lim Tryz.prog O ro okS c) (L : O.Law) {w0 : Own} {h0 : H} (lo : ro <= O.next h0) {n : Nat} (hn : ∀ b, b < O.next h0 -> w0 b ≠ (100, n)) {k p : Nat} {N : CN} {v1 v2 : Value} (x : XC O ro w0 h0 k p N v1 v2) (ok : COk N) (st inp : Int) (w : Own) (h : H) (v : Value) (i : VlI O ro w0 h0 n w h v [false]) (t : Env) (t0 : t 0 = .pointer (some ⟨p, 0, none⟩)) (t1 : t 1 = .int .i64 st) (t2 : t 2 = .int .i64 inp) (t7 : t 7 = v) (t8 : t 8 = .int .i64 0) :
 okE c (cBlk 0 (cLoop (W71_0 O Tryz.prog ro))) (t, h) (fun e t' h' => e = .normal /\ t' 0 = .pointer (some ⟨p, 0, none⟩) /\ t' 1 = .int .i64 st /\ t' 2 = .int .i64 inp /\ ∃ w' v', t' 7 = v' /\ VlI O ro w0 h0 n w' h' v' (false :: vIn N inp)) := by
 have o1 := ok.ni
 refine okE.blk ?_
 refine okE.loop (fun m t g' => ∃ j w' v', VlI O ro w0 h0 n w' g' v' (false :: ((List.range j).map fun j => bt inp j == 1)) /\ t 0 = .pointer (some ⟨p, 0, none⟩) /\ t 1 = .int .i64 st /\ t 2 = .int .i64 inp /\ t 7 = v' /\ t 8 = .int .i64 (j : Nat) /\ j + m = N.ni + 1 /\ 0 < m) ?_ (N.ni + 1) _ _ ⟨0, w, v, i, t0, t1, t2, t7, t8, by omega, by omega⟩
 intro m t g' hI
 obtain ⟨j, w', v', i, t0, t1, t2, t7, t8, hj, hm⟩ := hI
 have x' := x.al L i.al
 have k0 := x'.m.get 0 _ rfl
 by_cases hlt : j < N.ni
 . obtain ⟨v3, w3, h3, e3, s3, al3⟩ := app_ownB L hn i.al lo i.sl (by simp; omega) (bt inp j == 1)
   have s1 := sh_r inp j
   have s2 := iA_and1 (shr inp j)
   have s4 : and1 (shr inp j) = bt inp j := rfl
   rw [s4] at s2
   obtain ⟨q, hq⟩ : ∃ q, q = j + 1 := ⟨_, rfl⟩
   have hw : IntKind.i64.wrap ((j : Int) + 1) = (q : Int) := wr (by omega) (by omega)
   have hlt' : (j : Int) < N.ni := by omega
   have i' : VlI O ro w0 h0 n w3 h3 v3 (false :: ((List.range q).map fun j => bt inp j == 1)) := ⟨by rw [hq, List.range_succ]; simpa using s3, al3⟩
   refine okE.flat (fun _ => rfl) ?_
   simp [W71_0, R71_3, R71_5, R71_4, t0, t1, t2, t7, t8, k0, hlt, hlt', s1, s2, List.zipIdx, List.range_succ, e3, hw]
   exact ⟨m - 1, by omega, q, w3, v3, i', rfl, rfl, by omega, by omega⟩
 . have hlt' : ¬ (j : Int) < N.ni := by omega
   have hjn : j = N.ni := by omega
   refine okE.flat (fun _ => rfl) ?_
   simp [W71_0, R71_3, t0, t1, t2, t7, t8, k0, hlt, hlt']
   rw [hjn] at i
   exact ⟨w', i⟩
theorem vl_la (C : Lim Tryz.prog O ro okS c) (L : O.Law) {w0 : Own} {h0 : H} (lo : ro <= O.next h0) {n : Nat} (hn : ∀ b, b < O.next h0 -> w0 b ≠ (100, n)) {k p : Nat} {N : CN} {v1 v2 : Value} (x : XC O ro w0 h0 k p N v1 v2) (ok : COk N) (st inp : Int) (w : Own) (h : H) (v : Value) (i : VlI O ro w0 h0 n w h v (false :: vIn N inp)) (t : Env) (t0 : t 0 = .pointer (some ⟨p, 0, none⟩)) (t1 : t 1 = .int .i64 st) (t2 : t 2 = .int .i64 inp) (t7 : t 7 = v) (t9 : t 9 = .int .i64 0) :
 okE c (cBlk 2 (cLoop (W71_1 O Tryz.prog ro))) (t, h) (fun e t' h' => e = .normal /\ t' 0 = .pointer (some ⟨p, 0, none⟩) /\ ∃ w' v', t' 7 = v' /\ VlI O ro w0 h0 n w' h' v' (v0S N st inp)) := by
 have o1 := ok.ni
 have o2 := ok.nl
 refine okE.blk ?_
 refine okE.loop (fun m t g' => ∃ j w' v', VlI O ro w0 h0 n w' g' v' (false :: (vIn N inp ++ ((List.range j).map fun j => bt st j == 1))) /\ t 0 = .pointer (some ⟨p, 0, none⟩) /\ t 1 = .int .i64 st /\ t 7 = v' /\ t 9 = .int .i64 (j : Nat) /\ j + m = N.las.length + 1 /\ 0 < m) ?_ (N.las.length + 1) _ _ ⟨0, w, v, by simpa using i, t0, t1, t7, t9, by omega, by omega⟩
 intro m t g' hI
 obtain ⟨j, w', v', i, t0, t1, t7, t9, hj, hm⟩ := hI
 have x' := x.al L i.al
 have k1 := x'.m.get 1 _ rfl
 obtain ⟨a1, cp1, hv1⟩ := pair_len x'.s1
 rw [hv1] at k1
 by_cases hlt : j < N.las.length
 . obtain ⟨v3, w3, h3, e3, s3, al3⟩ := app_ownB L hn i.al lo i.sl (by simp [vIn]; omega) (bt st j == 1)
   have s1 := sh_r st j
   have s2 := iA_and1 (shr st j)
   have s4 : and1 (shr st j) = bt st j := rfl
   rw [s4] at s2
   obtain ⟨q, hq⟩ : ∃ q, q = j + 1 := ⟨_, rfl⟩
   have hw : IntKind.i64.wrap ((j : Int) + 1) = (q : Int) := wr (by omega) (by omega)
   have hlt' : (j : Int) < N.las.length := by omega
   have i' : VlI O ro w0 h0 n w3 h3 v3 (false :: (vIn N inp ++ ((List.range q).map fun j => bt st j == 1))) := ⟨by rw [hq, List.range_succ]; simpa using s3, al3⟩
   refine okE.flat (fun _ => rfl) ?_
   simp [W71_1, R71_7, R71_9, R71_8, t0, t1, t7, t9, k1, hlt, hlt', s1, s2, List.zipIdx, List.range_succ, e3, hw]
   exact ⟨m - 1, by omega, q, w3, v3, i', rfl, rfl, by omega, by omega⟩
 . have hlt' : ¬ (j : Int) < N.las.length := by omega
   have hjn : j = N.las.length := by omega
   refine okE.flat (fun _ => rfl) ?_
   simp [W71_1, R71_7, t0, t1, t7, t9, k1, hlt, hlt']
   rw [hjn] at i
   exact ⟨w', i⟩
theorem vl_ga (C : Lim Tryz.prog O ro okS c) (L : O.Law) {w0 : Own} {h0 : H} (lo : ro <= O.next h0) {n : Nat} (hn : ∀ b, b < O.next h0 -> w0 b ≠ (100, n)) {k p : Nat} {N : CN} {v1 v2 : Value} (x : XC O ro w0 h0 k p N v1 v2) (ok : COk N) (vs : List Bool) (hvs : vs.length = 1 + N.ni + N.las.length) (w : Own) (h : H) (v : Value) (i : VlI O ro w0 h0 n w h v vs) (t : Env) (t0 : t 0 = .pointer (some ⟨p, 0, none⟩)) (t7 : t 7 = v) (t10 : t 10 = .int .i64 0) :
 okE c (cBlk 4 (cLoop (W71_2 O Tryz.prog ro))) (t, h) (fun e t' h' => e = .normal /\ ∃ w' v', t' 7 = v' /\ VlI O ro w0 h0 n w' h' v' (vG N.gts vs)) := by
 have o1 := ok.ni
 have o2 := ok.nl
 have o3 := ok.na
 generalize hE : vG N.gts vs = E
 refine okE.blk ?_
 refine okE.loop (fun m t g' => ∃ j vs w' v', VlI O ro w0 h0 n w' g' v' vs /\ t 0 = .pointer (some ⟨p, 0, none⟩) /\ t 7 = v' /\ t 10 = .int .i64 (j : Nat) /\ j + m = N.gts.length + 1 /\ 0 < m /\ vs.length = 1 + N.ni + N.las.length + j /\ vG (N.gts.drop j) vs = E) ?_ (N.gts.length + 1) _ _ ⟨0, vs, w, v, i, t0, t7, t10, by omega, by omega, by omega, hE⟩
 intro m t g' hI
 obtain ⟨j, vs, w', v', i, t0, t7, t10, hj, hm, hvs, hfin⟩ := hI
 have x' := x.al L i.al
 have k2 := x'.m.get 2 _ rfl
 by_cases hlt : j < N.gts.length
 . obtain ⟨b2, cp2, hv2, cl0, cl1, _⟩ := pair_at x'.s2 j hlt
   rw [hv2] at k2
   have hg := ok.g j hlt
   rw [List.drop_eq_getElem_cons hlt] at hfin
   simp only [vG] at hfin
   have e1 := isT_b C i.sl N.gts[j].1 (by omega) (by omega)
   have e2 := isT_b C i.sl N.gts[j].2 (by omega) (by omega)
   obtain ⟨v3, w3, h3, e3, s3, al3⟩ := app_ownB L hn i.al lo i.sl (by omega) (isS vs N.gts[j].1 && isS vs N.gts[j].2)
   generalize isS vs N.gts[j].1 = b1 at e1 e3 s3 hfin
   generalize isS vs N.gts[j].2 = b2 at e2 e3 s3 hfin
   obtain ⟨q, hq⟩ : ∃ q, q = j + 1 := ⟨_, rfl⟩
   have hw : IntKind.i64.wrap ((j : Int) + 1) = (q : Int) := wr (by omega) (by omega)
   have hlt' : (j : Int) < N.gts.length := by omega
   rw [<- hq] at hfin
   refine okE.flat (fun _ => rfl) ?_
   cases b1 with
   | false =>
    simp only [Bool.false_and] at e3 s3 hfin
    simp [W71_2, R71_11, R71_13, R71_14, R71_15, R71_12, t0, t7, t10, k2, hlt, hlt', cl0, cl1, e1, e2, List.zipIdx, List.range_succ, e3, hw]
    exact ⟨m - 1, by omega, q, _, w3, v3, ⟨s3, al3⟩, rfl, rfl, by omega, by omega, by simp; omega, hfin⟩
   | true =>
    simp only [Bool.true_and] at e3 s3 hfin
    simp [W71_2, R71_11, R71_13, R71_14, R71_15, R71_12, t0, t7, t10, k2, hlt, hlt', cl0, cl1, e1, e2, List.zipIdx, List.range_succ, e3, hw]
    exact ⟨m - 1, by omega, q, _, w3, v3, ⟨s3, al3⟩, rfl, rfl, by omega, by omega, by simp; omega, hfin⟩
 . rw [List.drop_eq_nil_of_le (by omega)] at hfin
   have hfin2 : vs = E := hfin
   subst hfin2
   obtain ⟨a2, cp2, hv2⟩ := pair_len x'.s2
   rw [hv2] at k2
   have hlt' : ¬ (j : Int) < N.gts.length := by omega
   refine okE.flat (fun _ => rfl) ?_
   simp [W71_2, R71_11, t0, t7, t10, k2, hlt, hlt']
   exact ⟨w', i⟩
theorem vals_b (C : Lim Tryz.prog O ro okS c) (L : O.Law) {w : Own} {h : H} (lo : ro <= O.next h) {k p : Nat} {N : CN} {v1 v2 : Value} (x : XC O ro w h k p N v1 v2) (ok : COk N) (st inp : Int) :
 ∃ n v w' h', c 71 [.pointer (some ⟨p, 0, none⟩), .int .i64 st, .int .i64 inp] h = some (v, h') /\ VlI O ro w h n w' h' v (vlS N st inp) := by
 obtain ⟨n, hn⟩ := fresh w (O.next h)
 obtain ⟨w1, h1, hh1, s1, al1, _⟩ := mk_sl L w h lo (100, n) (bvs [false]) (by simp [bvs])
 have hh1' : h1 = O.new h [.bool false] := hh1
 have i1 : VlI O ro w h n w1 h1 (.slice (some ⟨O.next h, 0, some 1⟩) 1 2) [false] := ⟨s1, al1⟩
 have key : ∃ u h', c 71 [.pointer (some ⟨p, 0, none⟩), .int .i64 st, .int .i64 inp] h = some (u, h') /\ ∃ w', VlI O ro w h n w' h' u (vlS N st inp) := by
  refine C.fn (F71_fn O ro) rfl rfl ?_
  unfold F71
  refine okE.seq (okE.flat (fun _ => rfl) ?_)
  simp [R71_0, thenE, -resE, -resLE, -rvE]
  refine okE.seq (okE.flat (fun _ => rfl) ?_)
  simp [R71_1, List.zipIdx, List.range_succ, <- hh1', thenE, -resE, -resLE, -rvE]
  refine okE.seq (okE.seq (okE.flat (fun _ => rfl) ?_))
  simp [R71_2, thenE, -resE, -resLE, -rvE]
  refine okE.mono (vl_in C L lo hn x ok st inp w1 h1 _ i1 _ (by simp) (by simp) (by simp) (by simp) (by simp)) ?_
  rintro e t h2 ⟨rfl, t0, t1, t2, w2, v2', t7, i2⟩
  simp only [thenE]
  refine okE.seq (okE.seq (okE.flat (fun _ => rfl) ?_))
  simp [R71_6, thenE, -resE, -resLE, -rvE]
  refine okE.mono (vl_la C L lo hn x ok st inp w2 h2 _ i2 _ (by simp [t0]) (by simp [t1]) (by simp [t2]) (by simp [t7]) (by simp)) ?_
  rintro e t h3 ⟨rfl, t0, w3, v3', t7, i3⟩
  simp only [thenE]
  refine okE.seq (okE.seq (okE.flat (fun _ => rfl) ?_))
  simp [R71_10, thenE, -resE, -resLE, -rvE]
  refine okE.mono (vl_ga C L lo hn x ok _ (v0_len N st inp) w3 h3 _ i3 _ (by simp [t0]) (by simp [t7]) (by simp)) ?_
  rintro e t h4 ⟨rfl, w4, v4', t7, i4⟩
  simp only [thenE]
  have f4 := i4.sl.flat
  refine okE.flat (fun _ => rfl) ?_
  simp [R71_16, t7, f4.2.2]
  exact ⟨w4, i4⟩
 obtain ⟨u, h', e1, w', i⟩ := key
 exact ⟨n, u, w', h', e1, i⟩
theorem step_b (C : Lim Tryz.prog O ro okS c) (L : O.Law) {w : Own} {h : H} (lo : ro <= O.next h) {k p : Nat} {N : CN} {v1 v2 : Value} (x : XC O ro w h k p N v1 v2) (ok : COk N) (st inp : Int) :
 ∃ w' h', c 32 [.pointer (some ⟨p, 0, none⟩), .int .i64 st, .int .i64 inp] h = some (.tuple #[.int .i64 (afL (vlS N st inp) N.las 0 0 : Nat), .bool (isS (vlS N st inp) N.bad)], h') /\ Al O w h w' h' := by
 have o1 := ok.ni
 have o2 := ok.nl
 have o3 := ok.na
 have ob := ok.b
 obtain ⟨n, v, w1, h1, e1, i1⟩ := vals_b C L lo x ok st inp
 have hvl := vl_len N st inp
 generalize vlS N st inp = vs at *
 have x1 := x.al L i1.al
 have k1 := x1.m.get 1 _ rfl
 have k3 := x1.m.get 3 _ rfl
 have eb := isT_b C i1.sl N.bad (by omega) (by omega)
 have f1 := i1.sl.flat
 generalize hE : afL vs N.las 0 0 = E
 refine ⟨w1, h1, ?_, i1.al⟩
 refine C.eq (F32_fn O ro) rfl rfl ?_
 unfold F32
 refine okE.seq (okE.flat (fun _ => rfl) ?_)
 simp [R32_0, thenE, -resE, -resLE, -rvE]
 refine okE.seq (okE.flat (fun _ => rfl) ?_)
 simp [R32_1, thenE, -resE, -resLE, -rvE]
 refine okE.seq (okE.flat (fun _ => rfl) ?_)
 simp [R32_3, e1, thenE, -resE, -resLE, -rvE]
 refine okE.seq (okE.flat (fun _ => rfl) ?_)
 simp [R32_4, thenE, -resE, -resLE, -rvE]
 refine okE.seq (okE.seq (okE.flat (fun _ => rfl) ?_))
 simp [R32_5, thenE, -resE, -resLE, -rvE]
 refine okE.blk ?_
 refine okE.loop (fun m t g => ∃ j a, g = h1 /\ t 0 = .pointer (some ⟨p, 0, none⟩) /\ t 8 = v /\ t 9 = .int .i64 (a : Nat) /\ t 10 = .int .i64 (j : Nat) /\ j + m = N.las.length + 1 /\ 0 < m /\ a < 2 ^ j /\ afL vs (N.las.drop j) j a = E) ?_ (N.las.length + 1) _ _ ⟨0, 0, rfl, by simp, by simp, by simp, by simp, by omega, by omega, by simp, hE⟩
 intro m t g hI
 obtain ⟨j, a, rfl, t0, t8, t9, t10, hj, hm, ha, hfin⟩ := hI
 by_cases hlt : j < N.las.length
 . obtain ⟨b1, cp1, hv1, cl0, _, _⟩ := pair_at x1.s1 j hlt
   rw [hv1] at k1
   have hmem := ok.n _ (List.getElem_mem hlt)
   rw [List.drop_eq_getElem_cons hlt] at hfin
   simp only [afL] at hfin
   have e2 := isT_b C i1.sl N.las[j].1 (by omega) (by omega)
   obtain ⟨q, hq⟩ : ∃ q, q = j + 1 := ⟨_, rfl⟩
   have hw : IntKind.i64.wrap ((j : Int) + 1) = (q : Int) := wr (by omega) (by omega)
   have hlt' : (j : Int) < N.las.length := by omega
   have hp2 : 2 ^ q = 2 * 2 ^ j := by rw [hq, Nat.pow_succ]; omega
   rw [<- hq] at hfin
   generalize isS vs N.las[j].1 = bb at e2 hfin
   refine okE.flat (fun _ => rfl) ?_
   cases bb with
   | false =>
    simp only [Bool.false_eq_true, if_false] at hfin
    simp [W32_0, R32_6, R32_8, R32_7, t0, t8, t9, t10, k1, hlt, hlt', cl0, e2, hw]
    exact ⟨m - 1, by omega, q, a, rfl, rfl, by omega, by omega, by omega, hfin⟩
   | true =>
    simp only [if_true] at hfin
    obtain ⟨d, hd⟩ : ∃ d, d = 2 ^ j := ⟨_, rfl⟩
    have hd32 : d <= 32 := by rw [hd]; exact Nat.pow_le_pow_right (n := 2) (by omega) (show j <= 5 by omega)
    have s1 : shiftA .shl .i64 1 (j : Int) = some (.int .i64 (d : Int)) := by
     unfold shiftA
     rw [if_neg (by omega)]
     simp only [Int.toNat_natCast, Int.one_mul]
     have : min j IntKind.i64.bits = j := by simp only [IntKind.bits]; omega
     rw [this, show ((2 : Int) ^ j) = ((2 ^ j : Nat) : Int) by simp, <- hd, wr rfl (by omega)]
    obtain ⟨f, hf⟩ : ∃ f, f = a + d := ⟨_, rfl⟩
    have s2 : intA .or .i64 (a : Int) (d : Int) = some (.int .i64 (f : Int)) := by
     have := or_add ⟨j, by omega⟩ ⟨a, by omega⟩ ha
     simp only at this
     rw [<- hd] at this
     have e9 : intA .or .i64 (a : Int) (d : Int) = some (.int .i64 (IntKind.i64.wrap ((BitVec.ofInt 64 (a : Int) ||| BitVec.ofInt 64 (d : Int)).toNat : Int))) := rfl
     rw [e9, this, hf]
    rw [<- hd, <- hf] at hfin
    simp [W32_0, R32_6, R32_8, R32_9, R32_7, t0, t8, t9, t10, k1, hlt, hlt', cl0, e2, s1, s2, hw]
    exact ⟨m - 1, by omega, q, f, rfl, rfl, by omega, by omega, by omega, hfin⟩
 . rw [List.drop_eq_nil_of_le (by omega)] at hfin
   have hfin2 : a = E := hfin
   subst hfin2
   obtain ⟨a1, cp1, hv1⟩ := pair_len x1.s1
   rw [hv1] at k1
   have hlt' : ¬ (j : Int) < N.las.length := by omega
   refine okE.flat (fun _ => rfl) ?_
   simp [W32_0, R32_6, t0, t8, t9, t10, k1, hlt, hlt', thenE]
   refine okE.flat (fun _ => rfl) ?_
   simp [R32_10, t0, t8, t9, k3, eb]
end
theorem range_b (n : Nat) : rangeA #[.bool false] n = bvs (List.replicate n false) := by
 unfold rangeA bvs
 apply List.ext_getElem
 . simp
 . intro i h1 h2
   simp [Nat.mod_one]
theorem set_grow (A : List Bool) (m : Nat) (x : Bool) : (false :: (A ++ List.replicate (m + 1) false)).set (1 + A.length) x = false :: ((A ++ [x]) ++ List.replicate m false) := by
 rw [Nat.add_comm 1 A.length, List.set_cons_succ, List.set_append_right _ _ (Nat.le_refl _), Nat.sub_self]
 simp [List.replicate_succ]
theorem bvs_set (l : List Bool) (i : Nat) (x : Bool) : (bvs l).set i (.bool x) = bvs (l.set i x) := by
 unfold bvs; rw [List.map_set]
section
variable {H : Type} {O : HI H} {ro : Nat} {c : CallT H}
attribute [local simp] cSeq cReg reg to mv too onlyIf onlyIfo aMove aNil aFld aLd aInt aPick aLenStr aIdxStr aConv aUn unA ev upd_get isB envOf iA_add iA_sub iA_mul iA_eql iA_neq iA_lss iA_leq iA_gtr iA_geq cIf cRet cSkip okc_some resE resLE rvE aSt vc_int vc_bool vc_agg vc_str vc_ptr vc_sl ft_int ft_bool ft_str ft_ptr ft_sl tp_int tp_bool tp_agg tp_str tp_ptr tp_sl aBuild Instr.fill aCall cExit cBlk outOf ptr undef aNew aBox aIdxArr aLdN aShift aLenSl aIdx aMkSl aApp aExt aSliceStr aStr strA aPtrNil aBoolEq aMake
theorem is_b (C : Lim Tryz.prog O ro okS c) {w : Own} {h : H} {tg : Tag} {v : Value} {vs : List Bool} (sl : Sl O ro w h tg 1 v (bvs vs)) (l : Nat) (hl : l / 2 < vs.length) (h2 : l < 256) :
 c 74 [v, .int .i64 (l : Nat)] h = some (.bool (isS vs l), h) := by
 obtain ⟨b, cp, rfl, hc⟩ := bl_at sl (l / 2) hl
 have s1 := iA_quo2 l (by omega)
 have s2 := iA_rem2 l
 have hg : isS vs l = (vs[l / 2] != (l % 2 == 1)) := by simp [isS, hl]
 obtain ⟨q, hq⟩ : ∃ q, q = l / 2 := ⟨_, rfl⟩
 obtain ⟨r, hr⟩ : ∃ r, r = l % 2 := ⟨_, rfl⟩
 obtain ⟨y, hy⟩ : ∃ y, y = vs[l / 2] := ⟨_, rfl⟩
 rw [<- hy] at hc hg
 rw [<- hq] at s1 hc hl
 rw [<- hr] at s2 hg
 have a3 : (q : Int) < vs.length := by omega
 have e : ((r : Int) == 1) = (r == 1) := by
  by_cases hr1 : r = 1
  . subst hr1; rfl
  . have e1 : ((r : Int) == 1) = false := by simp; omega
    have e2 : (r == 1) = false := by simpa using hr1
    rw [e1, e2]
 rw [hg]
 refine C.eq (F74_fn O ro) rfl rfl (okE.flat (fun _ => rfl) ?_)
 generalize hb1 : (r == 1) = b1 at e ⊢
 cases y <;> cases b1 <;> simp [F74, R74_0, R74_1, s1, a3, hl, hc, s2, e]
structure VfI (O : HI H) (ro : Nat) (w0 : Own) (h0 : H) (n b M : Nat) (w : Own) (h : H) (vs : List Bool) : Prop where
 x : Bx O ro w h (100, n) b (bvs vs)
 l : vs.length = M
 al : Al O w0 h0 w h
theorem VfI.set (L : O.Law) {w0 w : Own} {h0 h : H} {n b M : Nat} (hn : ∀ b, b < O.next h0 -> w0 b ≠ (100, n)) {vs : List Bool} (i : VfI O ro w0 h0 n b M w h vs) (j : Nat) (hj : j < M) (y : Bool) :
 putsA O h b j [.bool y] = some (O.put h b j (.bool y)) /\ VfI O ro w0 h0 n b M w (O.put h b j (.bool y)) (vs.set j y) /\ ¬ b < ro := by
 have hl := i.l
 have hjl : j < (bvs vs).length := by simp [bvs, hl]; exact hj
 have hc : O.cell h b j = some (bvs vs)[j] := by rw [i.x.cell j hjl]; simp
 have x1 := i.x.put L j hjl (.bool y)
 rw [bvs_set] at x1
 refine ⟨by simp [putsA, hc], ⟨x1, by simp [hl], Ch.loc hn i.al (Ch.put L i.x j hjl (.bool y) rfl)⟩, by have := i.x.lo; omega⟩
theorem vs_in (C : Lim Tryz.prog O ro okS c) (L : O.Law) {w0 : Own} {h0 : H} (lo : ro <= O.next h0) {n : Nat} (hn : ∀ b, b < O.next h0 -> w0 b ≠ (100, n)) {k p : Nat} {N : CN} {vn vr vo : Value} (x : YC O ro w0 h0 k p N vn vr vo) (ok : COk N) (st inp : Int) (M b cp : Nat) (hM : M = 1 + N.ni + N.las.length) (w : Own) (h : H) (i : VfI O ro w0 h0 n b M w h (false :: ([] ++ List.replicate (N.ni + N.las.length) false))) (t : Env) (t0 : t 0 = .pointer (some ⟨p, 0, none⟩)) (t1 : t 1 = .int .i64 st) (t2 : t 2 = .int .i64 inp) (t7 : t 7 = .slice (some ⟨b, 0, some 1⟩) M cp) (t8 : t 8 = .int .i64 0) :
 okE c (cBlk 0 (cLoop (W73_0 O Tryz.prog ro))) (t, h) (fun e t' h' => e = .normal /\ t' 0 = .pointer (some ⟨p, 0, none⟩) /\ t' 1 = .int .i64 st /\ t' 7 = .slice (some ⟨b, 0, some 1⟩) M cp /\ ∃ w', VfI O ro w0 h0 n b M w' h' (false :: (vIn N inp ++ List.replicate N.las.length false))) := by
 have o1 := ok.ni
 have o2 := ok.nl
 refine okE.blk ?_
 refine okE.loop (fun m t g' => ∃ j w', VfI O ro w0 h0 n b M w' g' (false :: (((List.range j).map fun j => bt inp j == 1) ++ List.replicate (N.ni - j + N.las.length) false)) /\ t 0 = .pointer (some ⟨p, 0, none⟩) /\ t 1 = .int .i64 st /\ t 2 = .int .i64 inp /\ t 7 = .slice (some ⟨b, 0, some 1⟩) M cp /\ t 8 = .int .i64 (j : Nat) /\ j + m = N.ni + 1 /\ 0 < m) ?_ (N.ni + 1) _ _ ⟨0, w, i, t0, t1, t2, t7, t8, by omega, by omega⟩
 intro m t g' hI
 obtain ⟨j, w', i, t0, t1, t2, t7, t8, hj, hm⟩ := hI
 have x' := x.al L i.al
 have k0 := x'.m.get 0 _ rfl
 by_cases hlt : j < N.ni
 . obtain ⟨a, ha⟩ : ∃ a, a = 1 + j := ⟨_, rfl⟩
   obtain ⟨e3, i3, hro⟩ := i.set L hn a (by omega) (bt inp j == 1)
   have hset := set_grow ((List.range j).map fun j => bt inp j == 1) (N.ni - (j + 1) + N.las.length) (bt inp j == 1)
   rw [List.length_map, List.length_range, <- ha, show N.ni - (j + 1) + N.las.length + 1 = N.ni - j + N.las.length by omega] at hset
   rw [hset] at i3
   have s1 := sh_r inp j
   have s2 := iA_and1 (shr inp j)
   have s4 : and1 (shr inp j) = bt inp j := rfl
   rw [s4] at s2
   obtain ⟨q, hq⟩ : ∃ q, q = j + 1 := ⟨_, rfl⟩
   have hw : IntKind.i64.wrap ((j : Int) + 1) = (q : Int) := wr (by omega) (by omega)
   have hw1 : IntKind.i64.wrap (1 + (j : Int)) = (a : Int) := wr (by omega) (by omega)
   have hlt' : (j : Int) < N.ni := by omega
   have ha1 : (a : Int) < M := by omega
   have ha2 : a < M := by omega
   generalize hh3 : O.put g' b a (.bool (bt inp j == 1)) = h3 at *
   have i' : VfI O ro w0 h0 n b M w' h3 (false :: (((List.range q).map fun j => bt inp j == 1) ++ List.replicate (N.ni - q + N.las.length) false)) := by rw [hq, List.range_succ]; simpa using i3
   refine okE.flat (fun _ => rfl) ?_
   simp [W73_0, R73_3, R73_5, R73_4, t0, t1, t2, t7, t8, k0, hlt, hlt', hw1, s1, s2, ha1, ha2, hro, e3, hw]
   exact ⟨m - 1, by omega, q, ⟨w', i'⟩, rfl, by omega, by omega⟩
 . have hlt' : ¬ (j : Int) < N.ni := by omega
   have hjn : j = N.ni := by omega
   refine okE.flat (fun _ => rfl) ?_
   simp [W73_0, R73_3, t0, t1, t2, t7, t8, k0, hlt, hlt']
   rw [hjn, Nat.sub_self, Nat.zero_add] at i
   exact ⟨w', i⟩
theorem vs_la (C : Lim Tryz.prog O ro okS c) (L : O.Law) {w0 : Own} {h0 : H} (lo : ro <= O.next h0) {n : Nat} (hn : ∀ b, b < O.next h0 -> w0 b ≠ (100, n)) {k p : Nat} {N : CN} {vn vr vo : Value} (x : YC O ro w0 h0 k p N vn vr vo) (ok : COk N) (st inp : Int) (M b cp : Nat) (hM : M = 1 + N.ni + N.las.length) (w : Own) (h : H) (i : VfI O ro w0 h0 n b M w h (false :: (vIn N inp ++ List.replicate N.las.length false))) (t : Env) (t0 : t 0 = .pointer (some ⟨p, 0, none⟩)) (t1 : t 1 = .int .i64 st) (t7 : t 7 = .slice (some ⟨b, 0, some 1⟩) M cp) (t9 : t 9 = .int .i64 0) :
 okE c (cBlk 2 (cLoop (W73_1 O Tryz.prog ro))) (t, h) (fun e t' h' => e = .normal /\ t' 0 = .pointer (some ⟨p, 0, none⟩) /\ t' 7 = .slice (some ⟨b, 0, some 1⟩) M cp /\ ∃ w', VfI O ro w0 h0 n b M w' h' (v0S N st inp)) := by
 have o1 := ok.ni
 have o2 := ok.nl
 have hvin : (vIn N inp).length = N.ni := by simp [vIn]
 refine okE.blk ?_
 refine okE.loop (fun m t g' => ∃ j w', VfI O ro w0 h0 n b M w' g' (false :: ((vIn N inp ++ ((List.range j).map fun j => bt st j == 1)) ++ List.replicate (N.las.length - j) false)) /\ t 0 = .pointer (some ⟨p, 0, none⟩) /\ t 1 = .int .i64 st /\ t 7 = .slice (some ⟨b, 0, some 1⟩) M cp /\ t 9 = .int .i64 (j : Nat) /\ j + m = N.las.length + 1 /\ 0 < m) ?_ (N.las.length + 1) _ _ ⟨0, w, by simpa using i, t0, t1, t7, t9, by omega, by omega⟩
 intro m t g' hI
 obtain ⟨j, w', i, t0, t1, t7, t9, hj, hm⟩ := hI
 have x' := x.al L i.al
 have k0 := x'.m.get 0 _ rfl
 have k1 := x'.m.get 1 _ rfl
 by_cases hlt : j < N.las.length
 . obtain ⟨a, ha⟩ : ∃ a, a = 1 + N.ni + j := ⟨_, rfl⟩
   obtain ⟨a1, ha1⟩ : ∃ a1, a1 = 1 + N.ni := ⟨_, rfl⟩
   obtain ⟨e3, i3, hro⟩ := i.set L hn a (by omega) (bt st j == 1)
   have hset := set_grow (vIn N inp ++ ((List.range j).map fun j => bt st j == 1)) (N.las.length - (j + 1)) (bt st j == 1)
   rw [List.length_append, hvin, List.length_map, List.length_range, <- Nat.add_assoc, <- ha, show N.las.length - (j + 1) + 1 = N.las.length - j by omega] at hset
   rw [hset] at i3
   have s1 := sh_r st j
   have s2 := iA_and1 (shr st j)
   have s4 : and1 (shr st j) = bt st j := rfl
   rw [s4] at s2
   obtain ⟨q, hq⟩ : ∃ q, q = j + 1 := ⟨_, rfl⟩
   have hw : IntKind.i64.wrap ((j : Int) + 1) = (q : Int) := wr (by omega) (by omega)
   have hw1 : IntKind.i64.wrap (1 + (N.ni : Int)) = (a1 : Int) := wr (by omega) (by omega)
   have hw2 : IntKind.i64.wrap ((a1 : Int) + (j : Int)) = (a : Int) := wr (by omega) (by omega)
   have hlt' : (j : Int) < N.las.length := by omega
   have hb1 : (a : Int) < M := by omega
   have hb2 : a < M := by omega
   generalize hh3 : O.put g' b a (.bool (bt st j == 1)) = h3 at *
   have i' : VfI O ro w0 h0 n b M w' h3 (false :: ((vIn N inp ++ ((List.range q).map fun j => bt st j == 1)) ++ List.replicate (N.las.length - q) false)) := by rw [hq, List.range_succ]; simpa using i3
   refine okE.flat (fun _ => rfl) ?_
   simp [W73_1, R73_7, R73_9, R73_8, t0, t1, t7, t9, k0, k1, hlt, hlt', hw1, hw2, s1, s2, hb1, hb2, hro, e3, hw]
   exact ⟨m - 1, by omega, q, ⟨w', by simpa using i'⟩, rfl, by omega, by omega⟩
 . have hlt' : ¬ (j : Int) < N.las.length := by omega
   have hjn : j = N.las.length := by omega
   refine okE.flat (fun _ => rfl) ?_
   simp [W73_1, R73_7, t0, t1, t7, t9, k1, hlt, hlt']
   rw [hjn, Nat.sub_self] at i
   exact ⟨w', by simpa [v0S, vLa] using i⟩
theorem vs_ga (C : Lim Tryz.prog O ro okS c) (L : O.Law) {w0 : Own} {h0 : H} (lo : ro <= O.next h0) {n : Nat} (hn : ∀ b, b < O.next h0 -> w0 b ≠ (100, n)) {k p : Nat} {N : CN} {vn vr vo : Value} (x : YC O ro w0 h0 k p N vn vr vo) (ok : COk N) (vs : List Bool) (hvs : vs.length = 1 + N.ni + N.las.length) (w : Own) (h : H) (v : Value) (i : VlI O ro w0 h0 n w h v vs) (t : Env) (t0 : t 0 = .pointer (some ⟨p, 0, none⟩)) (t7 : t 7 = v) (t10 : t 10 = .int .i64 0) :
 okE c (cBlk 4 (cLoop (W73_2 O Tryz.prog ro))) (t, h) (fun e t' h' => e = .normal /\ ∃ w' v', t' 7 = v' /\ VlI O ro w0 h0 n w' h' v' (vG N.gts vs)) := by
 have o1 := ok.ni
 have o2 := ok.nl
 have o3 := ok.na
 generalize hE : vG N.gts vs = E
 refine okE.blk ?_
 refine okE.loop (fun m t g' => ∃ j j2 vs w' v', j2 = j * 2 /\ VlI O ro w0 h0 n w' g' v' vs /\ t 0 = .pointer (some ⟨p, 0, none⟩) /\ t 7 = v' /\ t 10 = .int .i64 (j2 : Nat) /\ j + m = N.gts.length + 1 /\ 0 < m /\ vs.length = 1 + N.ni + N.las.length + j /\ vG (N.gts.drop j) vs = E) ?_ (N.gts.length + 1) _ _ ⟨0, 0, vs, w, v, rfl, i, t0, t7, t10, by omega, by omega, by omega, hE⟩
 intro m t g' hI
 obtain ⟨j, j2, vs, w', v', hj2, i, t0, t7, t10, hj, hm, hvs, hfin⟩ := hI
 have x' := x.al L i.al
 have k4 := x'.m.get 4 _ rfl
 obtain ⟨ML, hML⟩ : ∃ ML, ML = N.gts.length * 2 := ⟨_, rfl⟩
 by_cases hlt : j < N.gts.length
 . obtain ⟨b2, cp2, hv2, cl0, cl1⟩ := ops_at x' j hlt
   obtain ⟨j3, hj3⟩ : ∃ j3, j3 = j * 2 + 1 := ⟨_, rfl⟩
   rw [<- hj3] at cl1
   rw [<- hj2] at cl0
   rw [hv2, <- hML] at k4
   have hg := ok.g j hlt
   rw [List.drop_eq_getElem_cons hlt] at hfin
   simp only [vG] at hfin
   have e1 := is_b C i.sl N.gts[j].1 (by omega) (by omega)
   have e2 := is_b C i.sl N.gts[j].2 (by omega) (by omega)
   obtain ⟨v3, w3, h3, e3, s3, al3⟩ := app_ownB L hn i.al lo i.sl (by omega) (isS vs N.gts[j].1 && isS vs N.gts[j].2)
   generalize isS vs N.gts[j].1 = b1 at e1 e3 s3 hfin
   generalize isS vs N.gts[j].2 = b2 at e2 e3 s3 hfin
   obtain ⟨q, hq⟩ : ∃ q, q = j + 1 := ⟨_, rfl⟩
   obtain ⟨q2, hq2⟩ : ∃ q2, q2 = j2 + 2 := ⟨_, rfl⟩
   have hw1 : IntKind.i64.wrap ((j2 : Int) + 1) = (j3 : Int) := wr (by omega) (by omega)
   have hw : IntKind.i64.wrap ((j2 : Int) + 2) = (q2 : Int) := wr (by omega) (by omega)
   have l1 : (j2 : Int) < ML := by omega
   have l2 : j2 < ML := by omega
   have l3 : (j3 : Int) < ML := by omega
   have l4 : j3 < ML := by omega
   rw [<- hq] at hfin
   refine okE.flat (fun _ => rfl) ?_
   cases b1 with
   | false =>
    simp only [Bool.false_and] at e3 s3 hfin
    simp [W73_2, R73_11, R73_13, R73_14, R73_15, R73_12, t0, t7, t10, k4, l1, l2, l3, l4, hw1, cl0, cl1, e1, e2, List.zipIdx, List.range_succ, rangeA, e3, hw]
    exact ⟨m - 1, by omega, q, _, w3, v3, ⟨s3, al3⟩, rfl, by omega, by omega, by omega, by simp; omega, hfin⟩
   | true =>
    simp only [Bool.true_and] at e3 s3 hfin
    simp [W73_2, R73_11, R73_13, R73_14, R73_15, R73_12, t0, t7, t10, k4, l1, l2, l3, l4, hw1, cl0, cl1, e1, e2, List.zipIdx, List.range_succ, rangeA, e3, hw]
    exact ⟨m - 1, by omega, q, _, w3, v3, ⟨s3, al3⟩, rfl, by omega, by omega, by omega, by simp; omega, hfin⟩
 . rw [List.drop_eq_nil_of_le (by omega)] at hfin
   have hfin2 : vs = E := hfin
   subst hfin2
   obtain ⟨a2, cp2, hv2⟩ := ops_len x'
   rw [hv2, <- hML] at k4
   have l1 : ¬ (j2 : Int) < ML := by omega
   have l2 : ¬ j2 < ML := by omega
   refine okE.flat (fun _ => rfl) ?_
   simp [W73_2, R73_11, t0, t7, t10, k4, l1, l2]
   exact ⟨w', i⟩
theorem vls_b (C : Lim Tryz.prog O ro okS c) (L : O.Law) {w : Own} {h : H} (lo : ro <= O.next h) {k p : Nat} {N : CN} {vn vr vo : Value} (x : YC O ro w h k p N vn vr vo) (ok : COk N) (st inp : Int) :
 ∃ n v w' h', c 73 [.pointer (some ⟨p, 0, none⟩), .int .i64 st, .int .i64 inp] h = some (v, h') /\ VlI O ro w h n w' h' v (vlS N st inp) := by
 have o1 := ok.ni
 have o2 := ok.nl
 obtain ⟨n, hn⟩ := fresh w (O.next h)
 obtain ⟨a, ha⟩ : ∃ a, a = 1 + N.ni := ⟨_, rfl⟩
 obtain ⟨M, hM⟩ : ∃ M, M = 1 + N.ni + N.las.length := ⟨_, rfl⟩
 have hw1 : IntKind.i64.wrap (1 + (N.ni : Int)) = (a : Int) := wr (by omega) (by omega)
 have hw2 : IntKind.i64.wrap ((a : Int) + (N.las.length : Int)) = (M : Int) := wr (by omega) (by omega)
 have k0 := x.m.get 0 _ rfl
 have k1 := x.m.get 1 _ rfl
 obtain ⟨b, hb⟩ : ∃ b, b = O.next h := ⟨_, rfl⟩
 obtain ⟨h1, hh1⟩ : ∃ h1, h1 = O.new h (bvs (List.replicate M false)) := ⟨_, rfl⟩
 obtain ⟨w1, hw1'⟩ : ∃ w1, w1 = w.set b (100, n) := ⟨_, rfl⟩
 have al1 : Al O w h w1 h1 := fun K => by rw [hh1, hw1', hb]; exact Ch.new L _ _ _ _ _
 have x1 : Bx O ro w1 h1 (100, n) b (bvs (List.replicate M false)) := by rw [hh1, hw1', hb]; exact Bx.new L _ _ lo _ _
 have hrep : List.replicate M false = false :: ([] ++ List.replicate (N.ni + N.las.length) false) := by
  rw [hM, show 1 + N.ni + N.las.length = N.ni + N.las.length + 1 by omega, List.replicate_succ]; rfl
 have i1 : VfI O ro w h n b M w1 h1 (false :: ([] ++ List.replicate (N.ni + N.las.length) false)) := ⟨by rw [<- hrep]; exact x1, by rw [<- hrep]; simp, al1⟩
 have hr : rangeA #[.bool false] M = bvs (List.replicate M false) := range_b M
 have hM0 : (M : Int) <= 140737488355328 := by omega
 have hM1 : (0 : Int) <= M := by omega
 have hM2 : M <= 140737488355328 := by omega
 have key : ∃ u h', c 73 [.pointer (some ⟨p, 0, none⟩), .int .i64 st, .int .i64 inp] h = some (u, h') /\ ∃ w', VlI O ro w h n w' h' u (vlS N st inp) := by
  refine C.fn (F73_fn O ro) rfl rfl ?_
  unfold F73
  refine okE.seq (okE.flat (fun _ => rfl) ?_)
  simp [R73_0, thenE, -resE, -resLE, -rvE]
  refine okE.seq (okE.flat (fun _ => rfl) ?_)
  simp [R73_1, k0, k1, hw1, hw2, hM0, hM1, hM2, hr, <- hb, <- hh1, thenE, -resE, -resLE, -rvE]
  refine okE.seq (okE.seq (okE.flat (fun _ => rfl) ?_))
  simp [R73_2, thenE, -resE, -resLE, -rvE]
  refine okE.mono (vs_in C L lo hn x ok st inp M b (M + 1) hM w1 h1 i1 _ (by simp) (by simp) (by simp) (by simp) (by simp)) ?_
  rintro e t h2 ⟨rfl, t0, t1, t7, w2, i2⟩
  simp only [thenE]
  refine okE.seq (okE.seq (okE.flat (fun _ => rfl) ?_))
  simp [R73_6, thenE, -resE, -resLE, -rvE]
  refine okE.mono (vs_la C L lo hn x ok st inp M b (M + 1) hM w2 h2 i2 _ (by simp [t0]) (by simp [t1]) (by simp [t7]) (by simp)) ?_
  rintro e t h3 ⟨rfl, t0, t7, w3, i3⟩
  simp only [thenE]
  refine okE.seq (okE.seq (okE.flat (fun _ => rfl) ?_))
  simp [R73_10, thenE, -resE, -resLE, -rvE]
  have i3' : VlI O ro w h n w3 h3 (.slice (some ⟨b, 0, some 1⟩) M (M + 1)) (v0S N st inp) := ⟨.inr ⟨b, M, M + 1, rfl, .inr rfl, by simp [bvs, i3.l], by
   intro he
   have hl := i3.l
   have h9 : (bvs (v0S N st inp)).length = M := by simp [bvs, hl]
   rw [he, List.length_nil] at h9
   omega, i3.x⟩, i3.al⟩
  refine okE.mono (vs_ga C L lo hn x ok _ (v0_len N st inp) w3 h3 _ i3' _ (by simp [t0]) (by simp [t7]) (by simp)) ?_
  rintro e t h4 ⟨rfl, w4, v4', t7, i4⟩
  simp only [thenE]
  have f4 := i4.sl.flat
  refine okE.flat (fun _ => rfl) ?_
  simp [R73_16, t7, f4.2.2]
  exact ⟨w4, i4⟩
 obtain ⟨u, h', e1, w', i⟩ := key
 exact ⟨n, u, w', h', e1, i⟩
theorem val_b (C : Lim Tryz.prog O ro okS c) (L : O.Law) {w : Own} {h : H} (lo : ro <= O.next h) {k p : Nat} {N : CN} {vn vr vo : Value} (x : YC O ro w h k p N vn vr vo) (ok : COk N) (st inp : Int) :
 ∃ w' h', c 34 [.pointer (some ⟨p, 0, none⟩), .int .i64 (N.bad : Nat), .int .i64 st, .int .i64 inp] h = some (.bool (isS (vlS N st inp) N.bad), h') /\ Al O w h w' h' := by
 have o1 := ok.ni
 have o2 := ok.nl
 have o3 := ok.na
 have ob := ok.b
 obtain ⟨n, v, w1, h1, e1, i1⟩ := vls_b C L lo x ok st inp
 have hvl := vl_len N st inp
 have eb := is_b C i1.sl N.bad (by omega) (by omega)
 refine ⟨w1, h1, ?_, i1.al⟩
 refine C.eq (F34_fn O ro) rfl rfl (okE.flat (fun _ => rfl) ?_)
 simp [F34, R34_0, R34_1, R34_2, e1, eb]
theorem aft_b (C : Lim Tryz.prog O ro okS c) (L : O.Law) {w : Own} {h : H} (lo : ro <= O.next h) {k p : Nat} {N : CN} {vn vr vo : Value} (x : YC O ro w h k p N vn vr vo) (ok : COk N) (st inp : Int) :
 ∃ w' h', c 33 [.pointer (some ⟨p, 0, none⟩), .int .i64 st, .int .i64 inp] h = some (.int .i64 (afL (vlS N st inp) N.las 0 0 : Nat), h') /\ Al O w h w' h' := by
 have o1 := ok.ni
 have o2 := ok.nl
 have o3 := ok.na
 obtain ⟨n, v, w1, h1, e1, i1⟩ := vls_b C L lo x ok st inp
 have hvl := vl_len N st inp
 generalize vlS N st inp = vs at *
 have x1 := x.al L i1.al
 have k1 := x1.m.get 1 _ rfl
 have k2 := x1.m.get 2 _ rfl
 generalize hE : afL vs N.las 0 0 = E
 refine ⟨w1, h1, ?_, i1.al⟩
 refine C.eq (F33_fn O ro) rfl rfl ?_
 unfold F33
 refine okE.seq (okE.flat (fun _ => rfl) ?_)
 simp [R33_0, thenE, -resE, -resLE, -rvE]
 refine okE.seq (okE.flat (fun _ => rfl) ?_)
 simp [R33_1, thenE, -resE, -resLE, -rvE]
 refine okE.seq (okE.flat (fun _ => rfl) ?_)
 simp [R33_2, e1, thenE, -resE, -resLE, -rvE]
 refine okE.seq (okE.seq (okE.flat (fun _ => rfl) ?_))
 simp [R33_3, thenE, -resE, -resLE, -rvE]
 refine okE.blk ?_
 refine okE.loop (fun m t g => ∃ j a, g = h1 /\ t 0 = .pointer (some ⟨p, 0, none⟩) /\ t 8 = v /\ t 7 = .int .i64 (a : Nat) /\ t 9 = .int .i64 (j : Nat) /\ j + m = N.las.length + 1 /\ 0 < m /\ a < 2 ^ j /\ afL vs (N.las.drop j) j a = E) ?_ (N.las.length + 1) _ _ ⟨0, 0, rfl, by simp, by simp, by simp, by simp, by omega, by omega, by simp, hE⟩
 intro m t g hI
 obtain ⟨j, a, rfl, t0, t8, t7, t9, hj, hm, ha, hfin⟩ := hI
 by_cases hlt : j < N.las.length
 . obtain ⟨bn, cpn, hvn, cln⟩ := sl_at x1.sn j (by simpa using hlt)
   simp only [List.length_map, List.getElem_map] at hvn cln
   rw [hvn] at k2
   have hmem := ok.n _ (List.getElem_mem hlt)
   rw [List.drop_eq_getElem_cons hlt] at hfin
   simp only [afL] at hfin
   have e2 := is_b C i1.sl N.las[j].1 (by omega) (by omega)
   obtain ⟨q, hq⟩ : ∃ q, q = j + 1 := ⟨_, rfl⟩
   have hw : IntKind.i64.wrap ((j : Int) + 1) = (q : Int) := wr (by omega) (by omega)
   have hlt' : (j : Int) < N.las.length := by omega
   have hp2 : 2 ^ q = 2 * 2 ^ j := by rw [hq, Nat.pow_succ]; omega
   rw [<- hq] at hfin
   generalize isS vs N.las[j].1 = bb at e2 hfin
   refine okE.flat (fun _ => rfl) ?_
   cases bb with
   | false =>
    simp only [Bool.false_eq_true, if_false] at hfin
    simp [W33_0, R33_4, R33_6, R33_7, R33_5, t0, t8, t7, t9, k1, k2, hlt, hlt', cln, e2, hw]
    exact ⟨m - 1, by omega, q, a, rfl, rfl, by omega, by omega, by omega, hfin⟩
   | true =>
    simp only [if_true] at hfin
    obtain ⟨d, hd⟩ : ∃ d, d = 2 ^ j := ⟨_, rfl⟩
    have hd32 : d <= 32 := by rw [hd]; exact Nat.pow_le_pow_right (n := 2) (by omega) (show j <= 5 by omega)
    have s1 : shiftA .shl .i64 1 (j : Int) = some (.int .i64 (d : Int)) := by
     unfold shiftA
     rw [if_neg (by omega)]
     simp only [Int.toNat_natCast, Int.one_mul]
     have : min j IntKind.i64.bits = j := by simp only [IntKind.bits]; omega
     rw [this, show ((2 : Int) ^ j) = ((2 ^ j : Nat) : Int) by simp, <- hd, wr rfl (by omega)]
    obtain ⟨f, hf⟩ : ∃ f, f = a + d := ⟨_, rfl⟩
    have s2 : IntKind.i64.wrap ((a : Int) + (d : Int)) = (f : Int) := wr (by omega) (by omega)
    rw [<- hd, <- hf] at hfin
    simp [W33_0, R33_4, R33_6, R33_7, R33_8, R33_5, t0, t8, t7, t9, k1, k2, hlt, hlt', cln, e2, s1, s2, hw]
    exact ⟨m - 1, by omega, q, f, rfl, rfl, by omega, by omega, by omega, hfin⟩
 . rw [List.drop_eq_nil_of_le (by omega)] at hfin
   have hfin2 : a = E := hfin
   subst hfin2
   have hlt' : ¬ (j : Int) < N.las.length := by omega
   refine okE.flat (fun _ => rfl) ?_
   simp [W33_0, R33_4, t0, t8, t7, t9, k1, hlt, hlt', thenE]
   refine okE.flat (fun _ => rfl) ?_
   simp [R33_9, t7]
end
end Go.Proofs.YtlakdngplpabdaaGreatDoor
