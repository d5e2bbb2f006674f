/- Own work. -/
import Derived.Test.YtlakdngplpabdaaGreatDoorC17
namespace Go.Proofs.YtlakdngplpabdaaGreatDoor
open Go.Vm Go.Proofs
set_option linter.unusedSimpArgs false
set_option linter.unusedVariables false
set_option maxHeartbeats 1000000
theorem iA_quo2 (a : Nat) (h : a < 9223372036854775808) : intA .quo .i64 (a : Int) 2 = some (.int .i64 ((a / 2 : Nat) : Int)) := by
 simp only [intA]
 rw [if_neg (by omega)]
 have : (a : Int).tdiv 2 = ((a / 2 : Nat) : Int) := by
  rw [Int.tdiv_eq_ediv_of_nonneg (by omega)]; omega
 rw [this, wrap_nat (by omega)]
theorem iA_rem2 (a : Nat) : intA .rem .i64 (a : Int) 2 = some (.int .i64 ((a % 2 : Nat) : Int)) := by
 simp only [intA]
 rw [if_neg (by omega)]
 have : (a : Int).tmod 2 = ((a % 2 : Nat) : Int) := by
  rw [Int.tmod_eq_emod_of_nonneg (by omega)]; omega
 rw [this]
theorem extract_get (s : ByteArray) (a b i : Nat) (h : a + i < b) (hb : b <= s.size) : (s.extract a b)[i]? = s[a + i]? := by
 have hs : (s.extract a b).size = b - a := by rw [ByteArray.size_extract]; omega
 rw [ByteArray.getElem?_lt' _ i (by omega), ByteArray.getElem?_lt' s (a + i) (by omega), ByteArray.getElem_extract]
def dgE (s : ByteArray) : Nat -> Nat -> Nat
 | 0, p => p
 | n + 1, p => if isDg (byA s p) then dgE s n (p + 1) else p
theorem byA_dg {s : ByteArray} {p : Nat} (h : isDg (byA s p) = true) : p < s.size /\ 48 <= byteS s p /\ byteS s p <= 57 := by
 unfold byA at h
 split at h
 . rename_i hp
   simp only [isDg, Bool.and_eq_true, decide_eq_true_eq] at h
   omega
 . simp [isDg] at h
theorem dgE_spec (s : ByteArray) : ∀ (n p : Nat), s.size < p + n -> p <= s.size -> p <= dgE s n p /\ dgE s n p <= s.size /\ (∀ i, p <= i -> i < dgE s n p -> isDg (byA s i) = true) /\ isDg (byA s (dgE s n p)) = false := by
 intro n
 induction n with
 | zero => intro p h1 h2; omega
 | succ n ih =>
  intro p h1 h2
  simp only [dgE]
  split
  . rename_i hd
    have := byA_dg hd
    obtain ⟨i1, i2, i3, i4⟩ := ih (p + 1) (by omega) (by omega)
    refine ⟨by omega, i2, fun i hi hi2 => ?_, i4⟩
    by_cases e : i = p
    . subst e; exact hd
    . exact i3 i (by omega) hi2
  . rename_i hd
    exact ⟨Nat.le_refl _, h2, fun i hi hi2 => by omega, by simpa using hd⟩
def wdS (s : ByteArray) (R : RS) : Us × RS :=
 let q := numS s R
 (⟨q.1, R.pos⟩, if q.2.e = 0 then q.2 else ⟨R.pos, q.2.e, q.2.ep⟩)
theorem numS_bad {s : ByteArray} {R : RS} (he : R.e ≠ 0) : numS s R = (0, R) := by
 have hpk : pk s R = -1 := by simp [pk, he]
 simp [numS, numL, hpk, isDg, fl, he]
theorem wdS_bad {s : ByteArray} {R : RS} (he : R.e ≠ 0) : wdS s R = (⟨0, R.pos⟩, R) := by
 unfold wdS
 rw [numS_bad he]
 simp [he]
section
variable {H : Type} {O : HI H} {ro : Nat} {c : CallT H}
attribute [local simp] cSeq cReg reg to mv too onlyIf onlyIfo aMove aNil aFld aLd aInt aPick aLenStr aIdxStr aConv aUn unA ev upd_get isB envOf iA_add iA_sub iA_mul iA_eql iA_neq iA_lss iA_leq iA_gtr iA_geq cIf cRet cSkip okc_some resE resLE rvE aSt vc_int vc_bool vc_agg vc_str vc_ptr vc_sl ft_int ft_bool ft_str ft_ptr ft_sl tp_int tp_bool tp_agg tp_str tp_ptr tp_sl aBuild Instr.fill aCall cExit cBlk outOf ptr undef aNew aBox aIdxArr aLdN aShift shiftA aLenSl aIdx aMkSl aApp rangeA aExt aSliceStr aStr strA boundA
theorem wd_scan {w : Own} {h : H} {f b : Nat} {s : ByteArray} {F : FD} {v0 v1 v2 v3 v4 v5 v6 : Value} (x : FB O ro w h f s F v0 v1 v2 v3 v4 v5 v6) (hs : s.size <= 1000) (hp : F.R.pos <= s.size) (t : Env) (t0 : t 0 = ptr f) (t2 : t 2 = ptr b) (t3 : t 3 = .int .i64 F.R.pos) (t4 : t 4 = .int .i64 F.R.pos) :
 okE c (cBlk 0 (cLoop (W107_0 O Tryz.prog ro))) (t, h) (fun e t' h' => e = .normal /\ h' = h /\ t' 0 = ptr f /\ t' 2 = ptr b /\ t' 3 = .int .i64 F.R.pos /\ t' 4 = .int .i64 (dgE s (s.size + 1) F.R.pos)) := by
 have k20 := x.m.get 20 _ rfl
 generalize hE : dgE s (s.size + 1) F.R.pos = E
 refine okE.blk ?_
 refine okE.loop (fun m t g => ∃ k, g = h /\ t 0 = ptr f /\ t 2 = ptr b /\ t 3 = .int .i64 F.R.pos /\ t 4 = .int .i64 (k : Nat) /\ k <= s.size /\ s.size < k + m /\ dgE s m k = E) ?_ (s.size + 1) _ _ ⟨F.R.pos, rfl, t0, t2, t3, t4, hp, by omega, hE⟩
 intro m t g hI
 obtain ⟨k, rfl, t0, t2, t3, t4, hk, hm, hfin⟩ := hI
 unfold ptr at t0 t2
 obtain ⟨m', rfl⟩ : ∃ m', m = m' + 1 := ⟨m - 1, by omega⟩
 simp only [dgE] at hfin
 refine okE.flat (fun _ => rfl) ?_
 by_cases hlt : k < s.size
 . have hlt' : (k : Int) < s.size := by omega
   have hb : s[k]? = some s[k] := ByteArray.getElem?_lt' s k hlt
   have hby : byA s k = (s[k].toNat : Int) := by simp [byA, byteS, hlt, hb]
   have h255 := s[k].toNat_lt
   rw [hby] at hfin
   by_cases h48 : 48 <= s[k].toNat
   . have h48' : (48 : Int) <= s[k].toNat := by omega
     by_cases h57 : s[k].toNat <= 57
     . have h57' : (s[k].toNat : Int) <= 57 := by omega
       rw [if_pos (by simp [isDg]; omega)] at hfin
       obtain ⟨q, hq⟩ : ∃ q, q = k + 1 := ⟨_, rfl⟩
       have hw : IntKind.i64.wrap ((k : Int) + 1) = (q : Int) := by rw [wrap_id (by omega) (by omega)]; omega
       rw [<- hq] at hfin
       simp [W107_0, R107_5, R107_6, t0, t2, t3, t4, k20, hlt, hlt', hb, h48, h48', h57, h57', hw]
       exact ⟨m', by omega, q, rfl, by omega, by omega, hfin⟩
     . have h57' : ¬ (s[k].toNat : Int) <= 57 := by omega
       rw [if_neg (by simp [isDg]; omega)] at hfin
       simp [W107_0, R107_5, t0, t2, t3, t4, k20, hlt, hlt', hb, h48, h48', h57, h57', <- hfin]
   . have h48' : ¬ (48 : Int) <= s[k].toNat := by omega
     rw [if_neg (by simp [isDg]; omega)] at hfin
     simp [W107_0, R107_5, t0, t2, t3, t4, k20, hlt, hlt', hb, h48, h48', <- hfin]
 . have hlt' : ¬ (k : Int) < s.size := by omega
   have hby : byA s k = -1 := by simp [byA, hlt]
   rw [hby, if_neg (by simp [isDg])] at hfin
   simp [W107_0, R107_5, t0, t2, t3, t4, k20, hlt, hlt', <- hfin]
theorem wd_loop (C : Lim Tryz.prog O ro okS c) (L : O.Law) {w : Own} {h : H} {f b K : Nat} {s : ByteArray} {F : FD} {v0 v1 v2 v3 v4 v5 v6 : Value} (x : FB O ro w h f s F v0 v1 v2 v3 v4 v5 v6) (y : Bx O ro w h (100, 0) b [.int .i64 0, .int .i64 0]) (hs : s.size <= 1000) (he : F.R.e = 0) (hK : F.R.pos <= K /\ K <= s.size /\ (∀ i, F.R.pos <= i -> i < K -> isDg (byA s i) = true) /\ isDg (byA s K) = false)
 (t : Env) (t0 : t 0 = ptr f) (t2 : t 2 = ptr b) (t3 : t 3 = .int .i64 F.R.pos) (t4 : t 4 = .int .i64 (K : Nat)) (t5 : t 5 = .string (s.extract F.R.pos K)) (t6 : t 6 = .int .i64 0) (t7 : t 7 = .int .i64 0) :
 okE c (cBlk 2 (cLoop (W107_1 O Tryz.prog ro))) (t, h) (fun e t' h' =>
  (e = .ret /\ t' 2 = ptr b /\ (numS s F.R).1 = 0 /\ (numS s F.R).2.e ≠ 0 /\ FB O ro w h' f s { F with R := ⟨F.R.pos, (numS s F.R).2.e, (numS s F.R).2.ep⟩ } v0 v1 v2 v3 v4 v5 v6 /\ Bx O ro w h' (100, 0) b [.int .i64 0, .int .i64 F.R.pos] /\ Ch O (Kc [1] 1) w h w h') \/
  (e = .normal /\ h' = h /\ t' 0 = ptr f /\ t' 2 = ptr b /\ t' 3 = .int .i64 F.R.pos /\ t' 4 = .int .i64 (K : Nat) /\ t' 5 = .string (s.extract F.R.pos K) /\ t' 6 = .int .i64 (numS s F.R).1 /\ (numS s F.R).2 = if K = F.R.pos then ⟨F.R.pos, 2, F.R.pos⟩ else ⟨K, F.R.e, F.R.ep⟩)) := by
 obtain ⟨hK1, hK2, hK3, hK4⟩ := hK
 have hsz : (s.extract F.R.pos K).size = K - F.R.pos := by rw [ByteArray.size_extract]; omega
 refine okE.blk ?_
 refine okE.loop (fun m t g => ∃ i v : Nat, g = h /\ t 0 = ptr f /\ t 2 = ptr b /\ t 3 = .int .i64 F.R.pos /\ t 4 = .int .i64 (K : Nat) /\ t 5 = .string (s.extract F.R.pos K) /\ t 6 = .int .i64 (v : Nat) /\ t 7 = .int .i64 (i : Nat) /\ i <= 4 /\ F.R.pos + i <= K /\ m = 5 - i /\ v < 10 ^ i /\ (2 <= i -> 0 < v) /\ (i = 1 -> (v = 0 ↔ byteS s F.R.pos = 48)) /\ numL (5 - i) s F.R.pos ⟨F.R.pos + i, F.R.e, F.R.ep⟩ v = numS s F.R) ?_ 5 _ _ ⟨0, 0, rfl, t0, t2, t3, t4, t5, t6, t7, by omega, by omega, rfl, by simp, by omega, by omega, rfl⟩
 intro m t g hI
 obtain ⟨i, v, rfl, t0, t2, t3, t4, t5, t6, t7, hi4, hiK, hm, hv, hv2, hv1, hfin⟩ := hI
 unfold ptr at t0 t2
 have hv4 : v < 10000 := Nat.lt_of_lt_of_le hv (Nat.pow_le_pow_right (n := 10) (by omega) (show i <= 4 by omega))
 rw [show 5 - i = (4 - i) + 1 by omega] at hfin
 simp only [numL] at hfin
 have hpk : pk s ⟨F.R.pos + i, F.R.e, F.R.ep⟩ = byA s (F.R.pos + i) := pk_by he
 have hdd : F.R.pos + i - F.R.pos = i := by omega
 rw [hpk, hdd] at hfin
 by_cases hlt : F.R.pos + i < K
 . have hdg := hK3 (F.R.pos + i) (by omega) hlt
   have hdb := byA_dg hdg
   have hlt' : (i : Int) < ((K - F.R.pos : Nat) : Int) := by omega
   have hlt2 : (i : Int) < (K : Int) - (F.R.pos : Int) := by omega
   have hlt3 : i < K - F.R.pos := by omega
   rw [if_pos hdg] at hfin
   have hbyte : byA s (F.R.pos + i) = (byteS s (F.R.pos + i) : Int) := by simp [byA, hdb.1]
   have hgi : (s.extract F.R.pos K)[i]? = some s[F.R.pos + i] := by rw [extract_get s _ _ _ hlt hK2]; exact ByteArray.getElem?_lt' s _ hdb.1
   have hg0 : (s.extract F.R.pos K)[0]? = some s[F.R.pos] := by
    rw [extract_get s _ _ _ (by omega) hK2]
    exact ByteArray.getElem?_lt' s _ (by omega)
   have hbi : s[F.R.pos + i].toNat = byteS s (F.R.pos + i) := by simp [byteS, ByteArray.getElem?_lt' s _ hdb.1]
   have hb0 : s[F.R.pos].toNat = byteS s F.R.pos := by simp [byteS, ByteArray.getElem?_lt' s F.R.pos (by omega)]
   by_cases hfault : i = 4 \/ (0 < i /\ v = 0)
   . rw [if_pos hfault] at hfin
     have hfl : fl (⟨F.R.pos + i, F.R.e, F.R.ep⟩ : RS) 2 (F.R.pos + i) = ⟨F.R.pos + i, 2, F.R.pos + i⟩ := by simp [fl, he]
     rw [hfl] at hfin
     obtain ⟨q, hq⟩ : ∃ q, q = F.R.pos + i := ⟨_, rfl⟩
     obtain ⟨h2, hc2, x2, c2⟩ := bad_w C L x 2 q
     have y2 := y.ch L c2 (by simp)
     obtain ⟨h3, e3, y3, c3⟩ := Bx.over L (K := fun u => u = (100, 0)) (new := [.int .i64 0, .int .i64 F.R.pos]) rfl y2 rfl
     have hfl2 : fl F.R 2 q = ⟨F.R.pos, 2, q⟩ := by simp [fl, he]
     rw [hfl2] at x2
     have x3 := x2.ch L c3 (by simp)
     have hw : IntKind.i64.wrap ((F.R.pos : Int) + (i : Int)) = (q : Int) := by rw [wrap_id (by omega) (by omega)]; omega
     have hro : ¬ b < ro := by have := y.lo; omega
     have hc2' : c 108 [Value.pointer (some ⟨f, 0, none⟩), .int .i64 2, .int .i64 q] g = some (.tuple #[], h2) := hc2
     have fin : (numS s F.R).1 = 0 /\ (numS s F.R).2.e ≠ 0 /\ FB O ro w h3 f s { F with R := ⟨F.R.pos, (numS s F.R).2.e, (numS s F.R).2.ep⟩ } v0 v1 v2 v3 v4 v5 v6 /\ Bx O ro w h3 (100, 0) b [.int .i64 0, .int .i64 F.R.pos] /\ Ch O (Kc [1] 1) w g w h3 := by
      rw [<- hfin]
      refine ⟨rfl, by simp, ?_, y3, (chR c2 1).trans (chL c3 1 (by omega))⟩
      rw [<- hq]
      exact x3
     refine okE.flat (fun _ => rfl) ?_
     by_cases h4 : i = 4
     . have k4 : ((i : Int) == 4) = true := by simp; omega
       simp [W107_1, R107_10, R107_12, R107_13, R107_14, t0, t2, t3, t4, t5, t6, t7, hsz, hlt', hlt2, hlt3, k4, hw, hc2', List.zipIdx, hro, e3]
       exact fin
     . have k4 : ((i : Int) == 4) = false := by simp; omega
       have hi1 : i = 1 := by
        rcases hfault with h | ⟨h1, h2⟩
        . exact absurd h h4
        . by_cases h : 2 <= i
          . have := hv2 h; omega
          . omega
       have h48 := (hv1 hi1).1 (by omega)
       have k1 : ((i : Int) == 1) = true := by simp; omega
       have k48 : ((s[F.R.pos].toNat : Int) == 48) = true := by rw [hb0]; simp; omega
       simp [W107_1, R107_10, R107_12, R107_13, R107_14, t0, t2, t3, t4, t5, t6, t7, hsz, hlt', hlt2, hlt3, k4, k1, hg0, k48, hw, hc2', List.zipIdx, hro, e3]
       exact fin
   . rw [if_neg hfault] at hfin
     have k4 : ((i : Int) == 4) = false := by simp; omega
     have hwu : IntKind.u8.wrap ((s[F.R.pos + i].toNat : Int) - 48) = (s[F.R.pos + i].toNat : Int) - 48 := by
      rw [IntKind.wrap_u8]; omega
     have hw8 : IntKind.i64.wrap ((s[F.R.pos + i].toNat : Int) - 48) = (s[F.R.pos + i].toNat : Int) - 48 := wrap_id (by omega) (by omega)
     have hw1 : IntKind.i64.wrap (10 * (v : Int)) = 10 * (v : Int) := wrap_id (by omega) (by omega)
     obtain ⟨z, hz⟩ : ∃ z, z = 10 * v + (byA s (F.R.pos + i)).toNat - 48 := ⟨_, rfl⟩
     rw [<- hz] at hfin
     have hzv : (z : Int) = 10 * (v : Int) + ((s[F.R.pos + i].toNat : Int) - 48) := by rw [hz, hbyte, hbi]; omega
     have hw2 : IntKind.i64.wrap (10 * (v : Int) + ((s[F.R.pos + i].toNat : Int) - 48)) = (z : Int) := by rw [wrap_id (by omega) (by omega), hzv]
     have hzb : (z : Int) = 10 * (v : Int) + ((byteS s (F.R.pos + i) : Int) - 48) := by rw [hzv, hbi]
     obtain ⟨q, hq⟩ : ∃ q, q = i + 1 := ⟨_, rfl⟩
     have hwq : IntKind.i64.wrap ((i : Int) + 1) = (q : Int) := by rw [wrap_id (by omega) (by omega)]; omega
     have hzlt : z < 10 ^ q := by rw [hq, Nat.pow_succ]; omega
     have hres : numL (5 - q) s F.R.pos ⟨F.R.pos + q, F.R.e, F.R.ep⟩ z = numS s F.R := by rw [hq, show 5 - (i + 1) = 4 - i by omega, <- Nat.add_assoc]; exact hfin
     have hz2 : 2 <= q -> 0 < z := by intro h; omega
     have hz1 : q = 1 -> (z = 0 ↔ byteS s F.R.pos = 48) := by
      intro h
      have hi0 : i = 0 := by omega
      subst hi0
      simp only [Nat.pow_zero] at hv
      simp only [Nat.add_zero] at hzb hdb
      omega
     refine okE.flat (fun _ => rfl) ?_
     by_cases h1 : i = 1
     . have k1 : ((i : Int) == 1) = true := by simp; omega
       have k48 : ((s[F.R.pos].toNat : Int) == 48) = false := by
        have := hv1 h1
        rw [hb0]; simp; omega
       simp [W107_1, R107_10, R107_12, R107_15, R107_11, t0, t2, t3, t4, t5, t6, t7, hsz, hlt', hlt2, hlt3, k4, k1, hg0, k48, hgi, ByteArray.getElem_extract, hwu, hw8, hw1, hw2, hwq]
       exact ⟨5 - q, by omega, q, z, rfl, rfl, by omega, by omega, rfl, hzlt, hz2, hz1, hres⟩
     . have k1 : ((i : Int) == 1) = false := by simp; omega
       simp [W107_1, R107_10, R107_12, R107_15, R107_11, t0, t2, t3, t4, t5, t6, t7, hsz, hlt', hlt2, hlt3, k4, k1, hgi, ByteArray.getElem_extract, hwu, hw8, hw1, hw2, hwq]
       exact ⟨5 - q, by omega, q, z, rfl, rfl, by omega, by omega, rfl, hzlt, hz2, hz1, hres⟩
 . have hiK' : F.R.pos + i = K := by omega
   have hlt' : ¬ (i : Int) < ((K - F.R.pos : Nat) : Int) := by omega
   have hlt3 : ¬ i < K - F.R.pos := by omega
   rw [hiK', hK4, if_neg (by simp)] at hfin
   have fin : (numS s F.R).1 = v /\ (numS s F.R).2 = if K = F.R.pos then ⟨F.R.pos, 2, F.R.pos⟩ else ⟨K, F.R.e, F.R.ep⟩ := by
    rw [<- hfin]
    refine ⟨rfl, ?_⟩
    simp only
    by_cases hz : K = F.R.pos
    . rw [if_pos hz, if_pos hz, hz]; simp [fl, he]
    . rw [if_neg hz, if_neg hz]
   refine okE.flat (fun _ => rfl) ?_
   simp [W107_1, R107_10, t0, t2, t3, t4, t5, t6, t7, hsz, hlt', hlt3]
   exact ⟨by rw [fin.1], fin.2⟩
end
section
variable {H : Type} {O : HI H} {ro : Nat} {c : CallT H}
attribute [local simp] cSeq cReg reg to mv too onlyIf onlyIfo aMove aNil aFld aLd aInt aPick aLenStr aIdxStr aConv aUn unA ev upd_get isB envOf iA_add iA_sub iA_mul iA_eql iA_neq iA_lss iA_leq iA_gtr iA_geq cIf cRet cSkip okc_some resE resLE rvE aSt vc_int vc_bool vc_agg vc_str vc_ptr vc_sl ft_int ft_bool ft_str ft_ptr ft_sl tp_int tp_bool tp_agg tp_str tp_ptr tp_sl aBuild Instr.fill aCall cExit cBlk outOf ptr undef aNew aBox aIdxArr aLdN aShift shiftA aLenSl aIdx aMkSl aApp rangeA aExt
theorem empty_eq (d : ByteArray) : (d.toList == (⟨#[]⟩ : ByteArray).toList) = decide (d.size = 0) := by
 rw [Go.ByteArray.toList_eq, Go.ByteArray.toList_eq]
 have : d.size = d.data.toList.length := by rw [Array.length_toList]; rfl
 rw [this]
 cases d.data.toList <;> simp
abbrev FX (O : HI H) (ro : Nat) (w : Own) (h : H) (f : Nat) (s : ByteArray) (F : FD) : Prop := ∃ v0 v1 v2 v3 v4 v5 v6, FB O ro w h f s F v0 v1 v2 v3 v4 v5 v6
theorem word_b (C : Lim Tryz.prog O ro okS c) (L : O.Law) {w : Own} {h : H} {f : Nat} {s : ByteArray} {F : FD} {v0 v1 v2 v3 v4 v5 v6 : Value} (x : FB O ro w h f s F v0 v1 v2 v3 v4 v5 v6) (lo : ro <= O.next h) (hs : s.size <= 1000) (hp : F.R.pos <= s.size) :
 ∃ w' h', c 107 [ptr f] h = some ((wdS s F.R).1.val, h') /\ FB O ro w' h' f s { F with R := (wdS s F.R).2 } v0 v1 v2 v3 v4 v5 v6 /\ Ch O (Kc [1] 1) w h w' h' /\ ro <= O.next h' := by
 obtain ⟨b, hb⟩ : ∃ b, b = O.next h := ⟨_, rfl⟩
 obtain ⟨h1, hh1⟩ : ∃ h1, h1 = O.new h [.int .i64 0, .int .i64 0] := ⟨_, rfl⟩
 obtain ⟨w1, hw1⟩ : ∃ w1, w1 = w.set b (100, 0) := ⟨_, rfl⟩
 have c1 : ∀ K, Ch O K w h w1 h1 := fun K => by rw [hh1, hw1, hb]; exact Ch.new L _ _ _ _ _
 have y1 : Bx O ro w1 h1 (100, 0) b [.int .i64 0, .int .i64 0] := by rw [hh1, hw1, hb]; exact Bx.new L _ _ lo _ _
 have x1 := x.ch L (c1 fun _ => False) (by simp)
 have lo1 : ro <= O.next h1 := Nat.le_trans lo (c1 fun _ => True).nx
 have k19 := x1.m.get 19 _ rfl
 have k17 := x1.m.get 17 _ rfl
 have k20 := x1.m.get 20 _ rfl
 have hro : ¬ b < ro := by have := y1.lo; omega
 have hrof : ¬ f < ro := by have := x.m.lo; omega
 by_cases he : F.R.e = 0
 . have hk0 : ((F.R.e : Int) != 0) = false := by simp; omega
   obtain ⟨K, hK⟩ : ∃ K, K = dgE s (s.size + 1) F.R.pos := ⟨_, rfl⟩
   have hKs := dgE_spec s (s.size + 1) F.R.pos (by omega) hp
   rw [<- hK] at hKs
   have key : ∃ v h', c 107 [ptr f] h = some (v, h') /\ (v = (wdS s F.R).1.val /\ FB O ro w1 h' f s { F with R := (wdS s F.R).2 } v0 v1 v2 v3 v4 v5 v6 /\ Ch O (Kc [1] 1) w h w1 h' /\ ro <= O.next h') := by
    refine C.fn (F107_fn O ro) rfl rfl ?_
    unfold F107
    refine okE.seq (okE.flat (fun _ => rfl) ?_)
    simp [R107_0, <- hb, <- hh1, thenE, -resE, -resLE, -rvE]
    refine okE.seq (okE.flat (fun _ => rfl) ?_)
    simp [R107_1, k19, thenE, -resE, -resLE, -rvE]
    refine okE.seq (okE.flat (fun _ => rfl) ?_)
    simp [R107_2, k17, hk0, he, thenE, -resE, -resLE, -rvE]
    refine okE.seq (okE.flat (fun _ => rfl) ?_)
    simp [R107_4, thenE, -resE, -resLE, -rvE]
    refine okE.seq (okE.mono (wd_scan (b := b) x1 hs hp _ ?_ ?_ ?_ ?_) ?_)
    . simp
    . simp
    . simp
    . simp
    rintro e t g ⟨rfl, rfl, t0, t2, t3, t4⟩
    rw [<- hK] at t4
    unfold ptr at t0 t2
    simp only [thenE]
    have q1 : (0 : Int) <= K /\ (K : Int) <= s.size := by omega
    have q2 : (0 : Int) <= F.R.pos /\ (F.R.pos : Int) <= K := by omega
    have bK : boundA (some (.int .i64 (K : Nat))) s.size s.size = some K := by simp [boundA]; omega
    have bp : boundA (some (.int .i64 F.R.pos)) 0 K = some F.R.pos := by simp [boundA]; omega
    refine okE.seq (okE.flat (fun _ => rfl) ?_)
    simp [R107_7, aSliceStr, t0, t3, t4, k20, bK, bp, thenE, -resE, -resLE, -rvE]
    refine okE.seq (okE.flat (fun _ => rfl) ?_)
    simp [R107_8, thenE, -resE, -resLE, -rvE]
    refine okE.seq (okE.seq (okE.flat (fun _ => rfl) ?_))
    simp [R107_9, thenE, -resE, -resLE, -rvE]
    refine okE.mono (wd_loop C L (b := b) (K := K) x1 y1 hs he hKs _ ?_ ?_ ?_ ?_ ?_ ?_ ?_) ?_
    . simp [t0]
    . simp [t2]
    . simp [t3]
    . simp [t4]
    . simp
    . simp
    . simp
    rintro e t g (⟨rfl, t2, z1, z2, x3, y3, c3⟩ | ⟨rfl, rfl, t0, t2, t3, t4, t5, t6, hq⟩)
    . simp only [thenE]
      have hl : cellsA O g b 0 2 = some [.int .i64 0, .int .i64 F.R.pos] := y3.all
      have hv : (wdS s F.R).1.val = .agg #[.int .i64 0, .int .i64 F.R.pos] := by unfold wdS; simp only [z1]; rfl
      have hR : (wdS s F.R).2 = ⟨F.R.pos, (numS s F.R).2.e, (numS s F.R).2.ep⟩ := by unfold wdS; simp only; rw [if_neg z2]
      rw [hv, hR]
      unfold ptr at t2
      simp [t2, load150, hl]
      exact ⟨x3, (c1 _).trans c3, Nat.le_trans lo1 c3.nx⟩
    . simp only [thenE]
      unfold ptr at t0 t2
      have hsz : (s.extract F.R.pos K).size = K - F.R.pos := by rw [ByteArray.size_extract]; omega
      have hval : (wdS s F.R).1.val = .agg #[.int .i64 (numS s F.R).1, .int .i64 F.R.pos] := rfl
      rw [hval]
      by_cases hz : K = F.R.pos
      . rw [if_pos hz] at hq
        have hR : (wdS s F.R).2 = ⟨F.R.pos, 2, F.R.pos⟩ := by unfold wdS; simp only; rw [hq, if_neg (by simp)]
        rw [hR]
        obtain ⟨h4, hc4, x4, c4⟩ := bad_w C L x1 2 F.R.pos
        have hfl : fl F.R 2 F.R.pos = ⟨F.R.pos, 2, F.R.pos⟩ := by simp [fl, he]
        rw [hfl] at x4
        have y4 := y1.ch L c4 (by simp)
        have m5 := x4.m.put L 19 (by simp [fcells]) (.int .i64 K)
        have c5 := Ch.put L (K := fun u => u = (1, 1000)) x4.m 19 (by simp [fcells]) (.int .i64 K) rfl
        have k5 := x4.m.get 19 _ rfl
        have m5' : Bx O ro w1 (O.put h4 f 19 (.int .i64 K)) (1, 1000) f (fcells s F.hd ⟨F.R.pos, 2, F.R.pos⟩ v0 v1 v2 v3 v4 v5 v6) := by rw [hz] at m5 ⊢; exact m5
        have x5 := x4.own L c5 F.hd ⟨F.R.pos, 2, F.R.pos⟩ m5'
        have y5 := y4.ch L c5 (by simp)
        obtain ⟨h6, e6, y6, c6⟩ := Bx.over L (K := fun u => u = (100, 0)) (new := [.int .i64 (numS s F.R).1, .int .i64 F.R.pos]) rfl y5 rfl
        have x6 := x5.ch L c6 (by simp)
        have hl : cellsA O h6 b 0 2 = some [.int .i64 (numS s F.R).1, .int .i64 F.R.pos] := y6.all
        have hem : ((s.extract F.R.pos K).toList == (⟨#[]⟩ : ByteArray).toList) = true := by rw [empty_eq, hsz]; simp; omega
        have hc4' : c 108 [Value.pointer (some ⟨f, 0, none⟩), .int .i64 2, .int .i64 F.R.pos] g = some (.tuple #[], h4) := hc4
        have hpu : putsA O h4 f 19 [.int .i64 K] = some (O.put h4 f 19 (.int .i64 K)) := by simp [putsA, k5]
        refine okE.flat (fun _ => rfl) ?_
        simp only [cSeq, cReg, R107_16, R107_17, R107_18, R107_19, reg, to, too, aMove, aStr, strA, ev, t0, t2, t3, t4, t5, t6, hem, upd_get, reduceIte, cIf, Option.map_some]
        simp [t0, t2, t3, t4, t5, t6, hc4', hrof, hpu, List.zipIdx, hro, e6, load150, hl]
        exact ⟨x6, (((c1 _).trans (chR c4 1)).trans (chR c5 1)).trans (chL c6 1 (by omega)), Nat.le_trans (Nat.le_trans (Nat.le_trans lo1 c4.nx) c5.nx) c6.nx⟩
      . rw [if_neg hz] at hq
        have hR : (wdS s F.R).2 = ⟨K, F.R.e, F.R.ep⟩ := by unfold wdS; simp only; rw [hq, if_pos he]
        rw [hR]
        have m5 := x1.m.put L 19 (by simp [fcells]) (.int .i64 K)
        have c5 := Ch.put L (K := fun u => u = (1, 1000)) x1.m 19 (by simp [fcells]) (.int .i64 K) rfl
        have k5 := x1.m.get 19 _ rfl
        have x5 := x1.own L c5 F.hd ⟨K, F.R.e, F.R.ep⟩ m5
        have y5 := y1.ch L c5 (by simp)
        obtain ⟨h6, e6, y6, c6⟩ := Bx.over L (K := fun u => u = (100, 0)) (new := [.int .i64 (numS s F.R).1, .int .i64 F.R.pos]) rfl y5 rfl
        have x6 := x5.ch L c6 (by simp)
        have hl : cellsA O h6 b 0 2 = some [.int .i64 (numS s F.R).1, .int .i64 F.R.pos] := y6.all
        have hem : ((s.extract F.R.pos K).toList == (⟨#[]⟩ : ByteArray).toList) = false := by rw [empty_eq, hsz]; simp; omega
        have hpu : putsA O g f 19 [.int .i64 K] = some (O.put g f 19 (.int .i64 K)) := by simp [putsA, k5]
        refine okE.flat (fun _ => rfl) ?_
        simp only [cSeq, cReg, R107_16, R107_17, R107_18, R107_19, reg, to, too, aMove, aStr, strA, ev, t0, t2, t3, t4, t5, t6, hem, upd_get, reduceIte, cIf, Option.map_some]
        simp [t0, t2, t3, t4, t5, t6, hrof, hpu, List.zipIdx, hro, e6, load150, hl]
        exact ⟨x6, ((c1 _).trans (chR c5 1)).trans (chL c6 1 (by omega)), Nat.le_trans (Nat.le_trans lo1 c5.nx) c6.nx⟩
   obtain ⟨v, h', e1, rfl, e2⟩ := key
   exact ⟨w1, h', e1, e2⟩
 . have hk0 : ((F.R.e : Int) != 0) = true := by simp; omega
   rw [wdS_bad he]
   obtain ⟨h6, e6, y6, c6⟩ := Bx.over L (K := fun u => u = (100, 0)) (new := [.int .i64 0, .int .i64 F.R.pos]) rfl y1 rfl
   have hl : cellsA O h6 b 0 2 = some [.int .i64 0, .int .i64 F.R.pos] := y6.all
   refine ⟨w1, h6, ?_, x1.ch L c6 (by simp), (c1 _).trans (chL c6 1 (by omega)), Nat.le_trans lo1 c6.nx⟩
   refine C.eq (F107_fn O ro) rfl rfl ?_
   unfold F107
   refine okE.seq (okE.flat (fun _ => rfl) ?_)
   simp [R107_0, <- hb, <- hh1, thenE, -resE, -resLE, -rvE]
   refine okE.seq (okE.flat (fun _ => rfl) ?_)
   simp [R107_1, k19, thenE, -resE, -resLE, -rvE]
   refine okE.seq (okE.flat (fun _ => rfl) ?_)
   simp [R107_2, R107_3, k17, hk0, he, List.zipIdx, hro, e6, load150, hl, Us.val, thenE]
def lwS (m : Nat) (s : ByteArray) (R : RS) : Us × RS :=
 let u := wdS s R
 (u.1, if ((2 * m + 1 : Nat) : Int) < u.1.l then fl u.2 7 R.pos else u.2)
theorem wdS_l (s : ByteArray) (R : RS) : ∃ k : Nat, k < 10000 /\ (wdS s R).1 = ⟨(k : Int), R.pos⟩ := ⟨(numS s R).1, numS_le s R, rfl⟩
theorem wdS_pos {s : ByteArray} {R : RS} (hp : R.pos <= s.size) : (wdS s R).2.pos <= s.size := by
 unfold wdS
 simp only
 split
 . exact numS_pos hp
 . exact hp
theorem lwS_pos {m : Nat} {s : ByteArray} {R : RS} (hp : R.pos <= s.size) : (lwS m s R).2.pos <= s.size := by
 unfold lwS
 simp only
 split
 . rw [fl_pos]; exact wdS_pos hp
 . exact wdS_pos hp
theorem lw_b (C : Lim Tryz.prog O ro okS c) (L : O.Law) {w : Own} {h : H} {f : Nat} {s : ByteArray} {F : FD} {v0 v1 v2 v3 v4 v5 v6 : Value} (x : FB O ro w h f s F v0 v1 v2 v3 v4 v5 v6) (lo : ro <= O.next h) (hs : s.size <= 1000) (hp : F.R.pos <= s.size) (hm : F.hd.m <= 10000) :
 ∃ w' h', c 110 [ptr f] h = some ((lwS F.hd.m s F.R).1.val, h') /\ FB O ro w' h' f s { F with R := (lwS F.hd.m s F.R).2 } v0 v1 v2 v3 v4 v5 v6 /\ Ch O (Kc [1] 2) w h w' h' /\ ro <= O.next h' := by
 obtain ⟨b, hb⟩ : ∃ b, b = O.next h := ⟨_, rfl⟩
 obtain ⟨h1, hh1⟩ : ∃ h1, h1 = O.new h [.int .i64 0, .int .i64 0] := ⟨_, rfl⟩
 obtain ⟨w1, hw1⟩ : ∃ w1, w1 = w.set b (101, 0) := ⟨_, rfl⟩
 have c1 : ∀ K, Ch O K w h w1 h1 := fun K => by rw [hh1, hw1, hb]; exact Ch.new L _ _ _ _ _
 have y1 : Bx O ro w1 h1 (101, 0) b [.int .i64 0, .int .i64 0] := by rw [hh1, hw1, hb]; exact Bx.new L _ _ lo _ _
 have x1 := x.ch L (c1 fun _ => False) (by simp)
 have lo1 : ro <= O.next h1 := Nat.le_trans lo (c1 fun _ => True).nx
 obtain ⟨w2, h2, hc2, x2, c2, lo2⟩ := word_b C L x1 lo1 hs hp
 have y2 := y1.ch L c2 (by simp [Kc])
 obtain ⟨k, hk, hu⟩ := wdS_l s F.R
 obtain ⟨R2, hR2⟩ : ∃ R2, R2 = (wdS s F.R).2 := ⟨_, rfl⟩
 have hfin : lwS F.hd.m s F.R = (⟨(k : Int), F.R.pos⟩, if ((2 * F.hd.m + 1 : Nat) : Int) < (k : Int) then fl R2 7 F.R.pos else R2) := by unfold lwS; simp only; rw [hu, hR2]
 rw [hu] at hc2
 rw [<- hR2] at x2
 rw [hfin]
 clear hfin hR2 hu
 obtain ⟨h3, e3, z3, c3, lo3⟩ := local2 L w2 h2 lo2 (.int .i64 0) (.int .i64 0) (.int .i64 (k : Nat)) (.int .i64 F.R.pos) (101, 1)
 obtain ⟨b3, hb3⟩ : ∃ b3, b3 = O.next h2 := ⟨_, rfl⟩
 obtain ⟨w3, hw3⟩ : ∃ w3, w3 = w2.set b3 (101, 1) := ⟨_, rfl⟩
 rw [<- hb3, <- hw3] at z3
 rw [<- hb3] at e3
 have c3' : ∀ K, Ch O K w2 h2 w3 h3 := fun K => by rw [hw3, hb3]; exact c3 K
 have x3 := x2.ch L (c3' fun _ => False) (by simp)
 have y3 := y2.ch L (c3' fun _ => False) (by simp)
 have k17 : O.cell h3 f 17 = some (.int .i64 R2.e) := x3.m.get 17 _ rfl
 have k1 : O.cell h3 f 1 = some (.int .i64 F.hd.m) := x3.m.get 1 _ rfl
 have z0 := z3.get 0 _ rfl
 have z1 := z3.get 1 _ rfl
 have hro3 : ¬ b3 < ro := by have := z3.lo; omega
 have hro1 : ¬ b < ro := by have := y3.lo; omega
 have hw1 : IntKind.i64.wrap (2 * (F.hd.m : Int)) = 2 * (F.hd.m : Int) := wrap_id (by omega) (by omega)
 have hw2 : IntKind.i64.wrap (2 * (F.hd.m : Int) + 1) = ((2 * F.hd.m + 1 : Nat) : Int) := by rw [wrap_id (by omega) (by omega)]; omega
 obtain ⟨M, hM⟩ : ∃ M, M = 2 * F.hd.m + 1 := ⟨_, rfl⟩
 rw [<- hM] at hw2 ⊢
 have fault : ∃ h4, (if R2.e = 0 /\ (M : Int) < (k : Int) then c 108 [Value.pointer (some ⟨f, 0, none⟩), .int .i64 7, .int .i64 F.R.pos] h3 = some (.tuple #[], h4) else h4 = h3) /\ FB O ro w3 h4 f s { F with R := if (M : Int) < (k : Int) then fl R2 7 F.R.pos else R2 } v0 v1 v2 v3 v4 v5 v6 /\ Ch O (fun u => u = (1, 1000)) w3 h3 w3 h4 := by
  by_cases hq : (M : Int) < (k : Int)
  . by_cases he : R2.e = 0
    . obtain ⟨h4, hc4, x4, c4⟩ := bad_w C L x3 7 F.R.pos
      exact ⟨h4, by rw [if_pos ⟨he, hq⟩]; exact hc4, by rw [if_pos hq]; exact x4, c4⟩
    . have : fl R2 7 F.R.pos = R2 := by simp [fl, he]
      exact ⟨h3, by rw [if_neg (by simp [he])], by rw [if_pos hq, this]; exact x3, Ch.refl _ _ _⟩
  . exact ⟨h3, by rw [if_neg (by simp [hq])], by rw [if_neg hq]; exact x3, Ch.refl _ _ _⟩
 obtain ⟨h4, e4, x4, c4⟩ := fault
 have z4 := z3.ch L c4 (by simp)
 have y4 := y3.ch L c4 (by simp)
 have hl4 : cellsA O h4 b3 0 2 = some [.int .i64 (k : Nat), .int .i64 F.R.pos] := z4.all
 obtain ⟨h6, e6, y6, c6⟩ := Bx.over L (K := fun u => u = (101, 0)) (new := [.int .i64 (k : Nat), .int .i64 F.R.pos]) rfl y4 rfl
 have hl6 : cellsA O h6 b 0 2 = some [.int .i64 (k : Nat), .int .i64 F.R.pos] := y6.all
 refine ⟨w3, h6, ?_, x4.ch L c6 (by simp), ((((c1 _).trans (Kc.mono c2 (by decide) (by omega))).trans (c3' _)).trans (chR c4 _)).trans (chL c6 2 (by omega)), Nat.le_trans (Nat.le_trans lo3 c4.nx) c6.nx⟩
 refine C.eq (F110_fn O ro) rfl rfl (okE.flat (fun _ => rfl) ?_)
 unfold ptr at hc2
 simp only [Us.val] at hc2 ⊢
 by_cases he : R2.e = 0
 . have he' : ((R2.e : Int) == 0) = true := by simp; omega
   by_cases hq : (M : Int) < (k : Int)
   . rw [if_pos ⟨he, hq⟩] at e4
     have hq2 : M < k := by omega
     simp [F110, R110_0, R110_1, R110_2, R110_3, R110_4, <- hb, <- hh1, hc2, <- hb3, e3, hro1, hro3, k17, he', k1, z0, z1, hw1, hw2, hq, hq2, e4, hl4, e6, load150, hl6, List.zipIdx]
   . rw [if_neg (by simp [hq])] at e4
     subst e4
     have hq2 : ¬ M < k := by omega
     simp [F110, R110_0, R110_1, R110_2, R110_3, R110_4, <- hb, <- hh1, hc2, <- hb3, e3, hro1, hro3, k17, he', k1, z0, z1, hw1, hw2, hq, hq2, hl4, e6, load150, hl6, List.zipIdx]
 . have he' : ((R2.e : Int) == 0) = false := by simp; omega
   rw [if_neg (by simp [he])] at e4
   subst e4
   simp [F110, R110_0, R110_1, R110_2, R110_3, R110_4, <- hb, <- hh1, hc2, <- hb3, e3, hro1, hro3, k17, he', hl4, e6, load150, hl6, List.zipIdx]
end
end Go.Proofs.YtlakdngplpabdaaGreatDoor
