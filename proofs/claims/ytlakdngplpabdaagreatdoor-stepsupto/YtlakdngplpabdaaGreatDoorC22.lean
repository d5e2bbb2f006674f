/- Own work. -/
import Derived.Test.YtlakdngplpabdaaGreatDoorC21
namespace Go.Proofs.YtlakdngplpabdaaGreatDoor
open Go.Vm Go.Proofs
set_option linter.unusedSimpArgs false
set_option linter.unusedVariables false
set_option maxHeartbeats 1000000
def nlE (s : ByteArray) : Nat -> Nat -> Nat
 | 0, p => p
 | n + 1, p => if p < s.size /\ byteS s p ≠ 10 then nlE s n (p + 1) else p
theorem nlE_le (s : ByteArray) : ∀ (n p : Nat), p <= s.size -> p <= nlE s n p /\ nlE s n p <= s.size := by
 intro n
 induction n with
 | zero => intro p h; exact ⟨Nat.le_refl _, h⟩
 | succ n ih =>
  intro p h
  simp only [nlE]
  split
  . have := ih (p + 1) (by omega); omega
  . exact ⟨Nat.le_refl _, h⟩
def nmK (s : ByteArray) (R : RS) : Nat := nlE s (s.size + 1) R.pos
def nmX (s : ByteArray) (R : RS) : RS := if nmK s R = R.pos then fl R 2 R.pos else R
def nmY (s : ByteArray) (R : RS) : RS := if (nmX s R).e = 0 then ⟨nmK s R, R.e, R.ep⟩ else nmX s R
def nmA (s : ByteArray) (n : Nat) (R : RS) : RS :=
 let u := wdS s ⟨R.pos + 1, R.e, R.ep⟩
 exS s (if (n : Int) <= u.1.l then fl u.2 2 (R.pos + 1) else u.2) 32
def nmF (s : ByteArray) (n : Nat) (R : RS) : RS := exS s (nmY s (nmA s n R)) 10
def nmC (D : HR) (b : Int) : Option Nat := if b = 105 then some D.nin else if b = 108 then some D.nla else if b = 111 then some D.nou else if b = 98 then some D.nbs else none
def nmsL (D : HR) (s : ByteArray) : Nat -> RS -> RS
 | 0, R => R
 | m + 1, R =>
  if R.e = 0 /\ R.pos < s.size then
   match nmC D (byA s R.pos) with
   | some n => nmsL D s m (nmF s n R)
   | none => if byA s R.pos = 99 then exS s ⟨R.pos + 1, R.e, R.ep⟩ 10 else fl R 2 R.pos
  else R
theorem nmX_pos (s : ByteArray) (R : RS) : (nmX s R).pos = R.pos := by unfold nmX; split; rw [fl_pos]; rfl
theorem nmY_pos {s : ByteArray} {R : RS} (hp : R.pos <= s.size) : R.pos <= (nmY s R).pos /\ (nmY s R).pos <= s.size := by
 unfold nmY
 split
 . exact nlE_le s _ _ hp
 . rw [nmX_pos]; exact ⟨Nat.le_refl _, hp⟩
theorem wdS_mono (s : ByteArray) (R : RS) : R.pos <= (wdS s R).2.pos := by
 unfold wdS
 simp only
 split
 . exact numS_mono s R
 . exact Nat.le_refl _
theorem nmA_pos {s : ByteArray} {n : Nat} {R : RS} (hp : R.pos < s.size) : R.pos < (nmA s n R).pos /\ (nmA s n R).pos <= s.size := by
 unfold nmA
 simp only
 have h1 := wdS_mono s ⟨R.pos + 1, R.e, R.ep⟩
 have h2 := wdS_pos (s := s) (R := ⟨R.pos + 1, R.e, R.ep⟩) (by simp only; omega)
 simp only at h1
 generalize wdS s ⟨R.pos + 1, R.e, R.ep⟩ = u at h1 h2
 generalize hR : (if (n : Int) <= u.1.l then fl u.2 2 (R.pos + 1) else u.2) = R2
 have h3 : R2.pos = u.2.pos := by rw [<- hR]; split; rw [fl_pos]; rfl
 have h4 := exS_mono s R2 32
 have h5 := exS_pos (s := s) (R := R2) 32 (by omega)
 omega
theorem nmF_pos {s : ByteArray} {n : Nat} {R : RS} (hp : R.pos < s.size) : R.pos < (nmF s n R).pos /\ (nmF s n R).pos <= s.size := by
 have h1 := nmA_pos (n := n) hp
 have h2 := nmY_pos (R := nmA s n R) h1.2
 unfold nmF
 have h3 := exS_mono s (nmY s (nmA s n R)) 10
 have h4 := exS_pos (s := s) (R := nmY s (nmA s n R)) 10 h2.2
 omega
attribute [local simp] cSeq cReg reg to mv too onlyIf onlyIfo aMove aNil aFld aLd aInt aPick aLenStr aIdxStr aConv aUn unA ev upd_get isB envOf iA_add iA_sub iA_mul iA_eql iA_neq iA_lss iA_leq iA_gtr iA_geq cIf cRet cSkip okc_some resE resLE rvE aSt vc_int vc_bool vc_agg vc_str vc_ptr vc_sl ft_int ft_bool ft_str ft_ptr ft_sl tp_int tp_bool tp_agg tp_str tp_ptr tp_sl aBuild Instr.fill aCall cExit cBlk outOf ptr undef aNew aBox aIdxArr aLdN aShift shiftA aLenSl aIdx aMkSl aApp rangeA aExt
section
variable {H : Type} {O : HI H} {ro : Nat} {c : CallT H}
theorem pos_x (L : O.Law) {w : Own} {h : H} {f : Nat} {s : ByteArray} {F : FD} (x : FX O ro w h f s F) (p : Nat) :
 putsA O h f 19 [.int .i64 (p : Nat)] = some (O.put h f 19 (.int .i64 (p : Nat))) /\ FX O ro w (O.put h f 19 (.int .i64 (p : Nat))) f s { F with R := ⟨p, F.R.e, F.R.ep⟩ } /\ Ch O (fun u => u = (1, 1000)) w h w (O.put h f 19 (.int .i64 (p : Nat))) := by
 obtain ⟨v0, v1, v2, v3, v4, v5, v6, x⟩ := x
 have m1 := x.m.put L 19 (by simp [fcells]) (.int .i64 (p : Nat))
 have c1 := Ch.put L (K := fun u => u = (1, 1000)) x.m 19 (by simp [fcells]) (.int .i64 (p : Nat)) rfl
 have k19 := x.m.get 19 _ rfl
 exact ⟨by simp [putsA, k19], ⟨v0, v1, v2, v3, v4, v5, v6, x.own L c1 F.hd ⟨p, F.R.e, F.R.ep⟩ m1⟩, c1⟩
theorem nm_scan {w : Own} {h : H} {f : Nat} {s : ByteArray} {F : FD} (x : FX O ro w h f s F) (hs : s.size <= 1000) (hp : F.R.pos <= s.size) (t : Env) (t0 : t 0 = .pointer (some ⟨f, 0, none⟩)) (t4 : t 4 = .int .i64 F.R.pos) :
 okE c (cBlk 3 (cLoop (W58_0 O Tryz.prog ro))) (t, h) (fun e t' h' => e = .normal /\ h' = h /\ t' 0 = .pointer (some ⟨f, 0, none⟩) /\ t' 4 = .int .i64 (nmK s F.R)) := by
 obtain ⟨_, _, _, _, _, _, _, _, _, _, k20, _⟩ := x.cells
 unfold nmK
 generalize hE : nlE s (s.size + 1) F.R.pos = E
 refine okE.blk ?_
 refine okE.loop (fun m t g => ∃ k, g = h /\ t 0 = .pointer (some ⟨f, 0, none⟩) /\ t 4 = .int .i64 (k : Nat) /\ k <= s.size /\ s.size < k + m /\ nlE s m k = E) ?_ (s.size + 1) _ _ ⟨F.R.pos, rfl, t0, t4, hp, by omega, hE⟩
 intro m t g hI
 obtain ⟨k, rfl, t0, t4, hk, hm, hfin⟩ := hI
 obtain ⟨m', rfl⟩ : ∃ m', m = m' + 1 := ⟨m - 1, by omega⟩
 simp only [nlE] at hfin
 refine okE.flat (fun _ => rfl) ?_
 by_cases hlt : k < s.size
 . have hlt' : (k : Int) < s.size := by omega
   have hb : s[k]? = some s[k] := ByteArray.getElem?_lt' s k hlt
   have hby : byteS s k = s[k].toNat := by simp [byteS, hb]
   rw [hby] at hfin
   by_cases h10 : s[k].toNat = 10
   . rw [if_neg (by simp [h10])] at hfin
     have h10' : ((s[k].toNat : Int) != 10) = false := by simp; omega
     simp [W58_0, R58_22, t0, t4, k20, hlt, hlt', hb, h10', <- hfin]
   . rw [if_pos ⟨hlt, h10⟩] at hfin
     have h10' : ((s[k].toNat : Int) != 10) = true := by simp; omega
     obtain ⟨q, hq⟩ : ∃ q, q = k + 1 := ⟨_, rfl⟩
     have hw : IntKind.i64.wrap ((k : Int) + 1) = (q : Int) := by rw [wrap_id (by omega) (by omega)]; omega
     rw [<- hq] at hfin
     simp [W58_0, R58_22, R58_23, t0, t4, k20, hlt, hlt', hb, h10', hw]
     exact ⟨m', by omega, q, rfl, by omega, by omega, hfin⟩
 . have hlt' : ¬ (k : Int) < s.size := by omega
   rw [if_neg (by simp [hlt])] at hfin
   simp [W58_0, R58_22, t0, t4, k20, hlt, hlt', <- hfin]
theorem nm_one (C : Lim Tryz.prog O ro okS c) (L : O.Law) {w : Own} {h : H} {f n : Nat} {s : ByteArray} {F : FD} (hs : s.size <= 1000) (hp : F.R.pos < s.size) (hn : n < 10000) (x : FX O ro w h f s F) (lo : ro <= O.next h) (t : Env) (t0 : t 0 = .pointer (some ⟨f, 0, none⟩)) (t2 : t 2 = .int .i64 (n : Nat)) :
 okE c (cSeq (cReg (R58_16 O Tryz.prog ro)) (cSeq (cReg (R58_17 O Tryz.prog ro)) (cSeq (cSeq (cReg (R58_18 O Tryz.prog ro)) (cIf (.tmp 93) (cReg (R58_19 O Tryz.prog ro)) cSkip)) (cSeq (cReg (R58_20 O Tryz.prog ro)) (cSeq (cReg (R58_21 O Tryz.prog ro)) (cSeq (cBlk 3 (cLoop (W58_0 O Tryz.prog ro))) (cSeq (cSeq (cReg (R58_24 O Tryz.prog ro)) (cIf (.tmp 134) (cReg (R58_25 O Tryz.prog ro)) cSkip)) (cSeq (cSeq (cReg (R58_26 O Tryz.prog ro)) (cIf (.tmp 145) (cReg (R58_27 O Tryz.prog ro)) cSkip)) (cReg (R58_28 O Tryz.prog ro)))))))))) (t, h)
  (fun e t' h' => e = .normal /\ t' 0 = .pointer (some ⟨f, 0, none⟩) /\ ∃ w', FX O ro w' h' f s { F with R := nmF s n F.R } /\ Ch O (Kc [1] 2) w h w' h' /\ ro <= O.next h') := by
 obtain ⟨_, _, _, _, _, _, _, k17, _, k19, k20, hro⟩ := x.cells
 obtain ⟨q, hq⟩ : ∃ q, q = F.R.pos + 1 := ⟨_, rfl⟩
 have hw : IntKind.i64.wrap ((F.R.pos : Int) + 1) = (q : Int) := by rw [wrap_id (by omega) (by omega)]; omega
 obtain ⟨p1, x1, c1⟩ := pos_x L x q
 obtain ⟨h1, hh1⟩ : ∃ h1, h1 = O.put h f 19 (.int .i64 (q : Nat)) := ⟨_, rfl⟩
 rw [<- hh1] at p1 x1 c1
 have lo1 := Nat.le_trans lo c1.nx
 obtain ⟨w2, h2, hc2, x2, c2, lo2⟩ := word_x C L x1 lo1 hs (by simp only; omega)
 obtain ⟨k, hk, hu⟩ := wdS_l s ⟨q, F.R.e, F.R.ep⟩
 obtain ⟨R2, hR2⟩ : ∃ R2, R2 = (wdS s ⟨q, F.R.e, F.R.ep⟩).2 := ⟨_, rfl⟩
 have hA : nmA s n F.R = exS s (if (n : Int) <= (k : Int) then fl R2 2 q else R2) 32 := by unfold nmA; simp only; rw [<- hq, hu, hR2]
 have pA := nmA_pos (s := s) (n := n) (R := F.R) hp
 simp only at hc2 x2
 rw [hu] at hc2
 rw [<- hR2] at x2
 simp only at hc2
 obtain ⟨b, w3, h3, hbe, e3, z3, c3, lo3, hrob⟩ := loc2 L w2 h2 lo2 (.int .i64 (k : Nat)) (.int .i64 (q : Nat)) (101, 0)
 have x3 := x2.ch L (c3 fun _ => False) (by simp)
 obtain ⟨_, _, _, _, _, _, _, j17, _, _, _, _⟩ := x3.cells
 simp only at j17
 have z0 := z3.get 0 _ rfl
 have z1 := z3.get 1 _ rfl
 have fault : ∃ h4, (if R2.e = 0 /\ (n : Int) <= (k : Int) then c 108 [.pointer (some ⟨f, 0, none⟩), .int .i64 2, .int .i64 (q : Nat)] h3 = some (.tuple #[], h4) else h4 = h3) /\ FX O ro w3 h4 f s { F with R := if (n : Int) <= (k : Int) then fl R2 2 q else R2 } /\ Ch O (fun u => u = (1, 1000)) w3 h3 w3 h4 := by
  by_cases hq2 : (n : Int) <= (k : Int)
  . by_cases he : R2.e = 0
    . obtain ⟨h4, hc4, x4, c4⟩ := bad_x C L x3 2 q
      exact ⟨h4, by rw [if_pos ⟨he, hq2⟩]; exact hc4, by rw [if_pos hq2]; exact x4, c4⟩
    . have : fl R2 2 q = R2 := by simp [fl, he]
      exact ⟨h3, by rw [if_neg (by simp [he])], by rw [if_pos hq2, this]; exact x3, Ch.refl _ _ _⟩
  . exact ⟨h3, by rw [if_neg (by simp [hq2])], by rw [if_neg hq2]; exact x3, Ch.refl _ _ _⟩
 obtain ⟨h4, e4, x4, c4⟩ := fault
 obtain ⟨h5, hc5, x5, c5⟩ := sign_x C L x4 hs 32
 simp only at x5
 rw [<- hA] at x5
 have hc5' : c 105 [.pointer (some ⟨f, 0, none⟩), .int .i64 32] h4 = some (.tuple #[], h5) := hc5
 have cc5 : Ch O (Kc [1] 2) w h w3 h5 := ((((chR (cs := [1]) c1 2).trans (Kc.mono c2 (by decide) (by omega))).trans (c3 _)).trans (chR c4 2)).trans (chR c5 2)
 have lo5 : ro <= O.next h5 := Nat.le_trans (Nat.le_trans lo3 c4.nx) c5.nx
 obtain ⟨R5, hR5⟩ : ∃ R5, R5 = nmA s n F.R := ⟨_, rfl⟩
 have hfin : nmF s n F.R = exS s (nmY s R5) 10 := by rw [hR5]; rfl
 rw [<- hR5] at x5 pA
 rw [hfin]
 clear hfin hA hR5
 refine okE.seq (okE.flat (fun _ => rfl) ?_)
 simp [R58_16, t0, k19, hw, hro, p1, thenE]
 refine okE.seq (okE.flat (fun _ => rfl) ?_)
 simp [R58_17, t0, hc2, <- hbe, e3, hrob, thenE]
 refine okE.seq (okE.mono (Q := fun e t' h' => e = .normal /\ h' = h4 /\ t' 0 = .pointer (some ⟨f, 0, none⟩)) ?_ ?_)
 . refine okE.flat (fun _ => rfl) ?_
   by_cases he : R2.e = 0
   . have he' : ((R2.e : Int) == 0) = true := by simp; omega
     by_cases hq2 : (n : Int) <= (k : Int)
     . rw [if_pos ⟨he, hq2⟩] at e4
       have hq3 : n <= k := by omega
       simp [R58_18, R58_19, t0, t2, j17, he', z0, z1, hq2, hq3, e4]
     . rw [if_neg (by simp [hq2])] at e4
       have hq3 : ¬ n <= k := by omega
       simp [R58_18, t0, t2, j17, he', z0, z1, hq2, hq3, e4]
   . have he' : ((R2.e : Int) == 0) = false := by simp; omega
     rw [if_neg (by simp [he])] at e4
     simp [R58_18, t0, t2, j17, he', e4]
 rintro e t g ⟨rfl, rfl, t0⟩
 simp only [thenE]
 obtain ⟨_, _, _, _, _, _, _, i17, _, i19, _, _⟩ := x5.cells
 simp only at i17 i19
 refine okE.seq (okE.flat (fun _ => rfl) ?_)
 simp [R58_20, t0, hc5', thenE]
 refine okE.seq (okE.flat (fun _ => rfl) ?_)
 simp [R58_21, t0, i19, thenE]
 refine okE.seq (okE.mono (nm_scan x5 hs pA.2 _ ?_ ?_) ?_)
 . simp [t0]
 . simp
 rintro e t g ⟨rfl, rfl, t0, t4⟩
 simp only at t4
 simp only [thenE]
 have fault2 : ∃ h6, (if R5.e = 0 /\ nmK s R5 = R5.pos then c 108 [.pointer (some ⟨f, 0, none⟩), .int .i64 2, .int .i64 R5.pos] g = some (.tuple #[], h6) else h6 = g) /\ FX O ro w3 h6 f s { F with R := nmX s R5 } /\ Ch O (fun u => u = (1, 1000)) w3 g w3 h6 := by
  unfold nmX
  by_cases hq2 : nmK s R5 = R5.pos
  . by_cases he : R5.e = 0
    . obtain ⟨h6, hc6, x6, c6⟩ := bad_x C L x5 2 R5.pos
      exact ⟨h6, by rw [if_pos ⟨he, hq2⟩]; exact hc6, by rw [if_pos hq2]; exact x6, c6⟩
    . have : fl R5 2 R5.pos = R5 := by simp [fl, he]
      exact ⟨g, by rw [if_neg (by simp [he])], by rw [if_pos hq2, this]; exact x5, Ch.refl _ _ _⟩
  . exact ⟨g, by rw [if_neg (by simp [hq2])], by rw [if_neg hq2]; exact x5, Ch.refl _ _ _⟩
 obtain ⟨h6, e6, x6, c6⟩ := fault2
 obtain ⟨_, _, _, _, _, _, _, l17, _, _, _, _⟩ := x6.cells
 simp only at l17
 have past : ∃ h7, (if (nmX s R5).e = 0 then putsA O h6 f 19 [.int .i64 (nmK s R5 : Nat)] = some h7 else h7 = h6) /\ FX O ro w3 h7 f s { F with R := nmY s R5 } /\ Ch O (fun u => u = (1, 1000)) w3 h6 w3 h7 := by
  unfold nmY
  by_cases he : (nmX s R5).e = 0
  . obtain ⟨p7, x7, c7⟩ := pos_x L x6 (nmK s R5)
    have hx : nmX s R5 = R5 := by
     unfold nmX at he ⊢
     split at he
     . exact (fl_e (by omega) he).elim
     . rename_i h; rw [if_neg h]
    refine ⟨_, by rw [if_pos he]; exact p7, ?_, c7⟩
    rw [if_pos he]
    simp only [hx] at x7
    exact x7
  . exact ⟨h6, by rw [if_neg he], by rw [if_neg he]; exact x6, Ch.refl _ _ _⟩
 obtain ⟨h7, e7, x7, c7⟩ := past
 obtain ⟨h8, hc8, x8, c8⟩ := sign_x C L x7 hs 10
 have hc8' : c 105 [.pointer (some ⟨f, 0, none⟩), .int .i64 10] h7 = some (.tuple #[], h8) := hc8
 refine okE.seq (okE.mono (Q := fun e t' h' => e = .normal /\ h' = h6 /\ t' 0 = .pointer (some ⟨f, 0, none⟩) /\ t' 4 = .int .i64 (nmK s R5)) ?_ ?_)
 . refine okE.flat (fun _ => rfl) ?_
   by_cases he : R5.e = 0
   . have he' : ((R5.e : Int) == 0) = true := by simp; omega
     by_cases hq2 : nmK s R5 = R5.pos
     . rw [if_pos ⟨he, hq2⟩] at e6
       have hq3 : ((nmK s R5 : Int) == (R5.pos : Int)) = true := by simp; omega
       simp [R58_24, R58_25, t0, t4, i17, he', i19, hq3, e6]
     . rw [if_neg (by simp [hq2])] at e6
       have hq3 : ((nmK s R5 : Int) == (R5.pos : Int)) = false := by simp; omega
       simp [R58_24, t0, t4, i17, he', i19, hq3, e6]
   . have he' : ((R5.e : Int) == 0) = false := by simp; omega
     rw [if_neg (by simp [he])] at e6
     simp [R58_24, t0, t4, i17, he', e6]
 rintro e t g2 ⟨rfl, rfl, t0, t4⟩
 simp only [thenE]
 refine okE.flat (fun _ => rfl) ?_
 have fin : FX O ro w3 h8 f s { F with R := exS s (nmY s R5) 10 } /\ Ch O (Kc [1] 2) w h w3 h8 /\ ro <= O.next h8 := ⟨x8, ((cc5.trans (chR c6 2)).trans (chR c7 2)).trans (chR c8 2), Nat.le_trans (Nat.le_trans (Nat.le_trans lo5 c6.nx) c7.nx) c8.nx⟩
 by_cases he : (nmX s R5).e = 0
 . have he' : (((nmX s R5).e : Int) == 0) = true := by simp; omega
   rw [if_pos he] at e7
   simp [R58_26, R58_27, R58_28, t0, t4, l17, he', hro, e7, hc8']
   exact ⟨w3, fin⟩
 . have he' : (((nmX s R5).e : Int) == 0) = false := by simp; omega
   rw [if_neg he] at e7
   subst e7
   simp [R58_26, R58_28, t0, t4, l17, he', hc8']
   exact ⟨w3, fin⟩
end
section
variable {H : Type} {O : HI H} {ro : Nat} {c : CallT H}
def nmsS (D : HR) (s : ByteArray) (R : RS) : RS := nmsL D s 1002 R
theorem names_b (C : Lim Tryz.prog O ro okS c) (L : O.Law) {w : Own} {h : H} {f : Nat} {s : ByteArray} {D : HR} (hs : s.size <= 1000) (hD : D.nin < 10000 /\ D.nla < 10000 /\ D.nou < 10000 /\ D.nbs < 10000) (F : FD) (hF : F.hd = D) (hp : F.R.pos <= s.size) (x : FX O ro w h f s F) (lo : ro <= O.next h) :
 ∃ w' h', c 58 [.pointer (some ⟨f, 0, none⟩)] h = some (.tuple #[], h') /\ FX O ro w' h' f s { F with R := nmsS D s F.R } /\ Ch O (Kc [1] 2) w h w' h' /\ ro <= O.next h' := by
 generalize hE : nmsS D s F.R = E
 have key : ∃ v h', c 58 [.pointer (some ⟨f, 0, none⟩)] h = some (v, h') /\ (v = .tuple #[] /\ ∃ w', FX O ro w' h' f s { F with R := E } /\ Ch O (Kc [1] 2) w h w' h' /\ ro <= O.next h') := by
  refine C.fn (F58_fn O ro) rfl rfl ?_
  unfold F58
  refine okE.blk ?_
  refine okE.loop (fun m t g => ∃ R w', FX O ro w' g f s { F with R := R } /\ Ch O (Kc [1] 2) w h w' g /\ ro <= O.next g /\ t 0 = .pointer (some ⟨f, 0, none⟩) /\ R.pos <= s.size /\ s.size < m + R.pos /\ nmsL D s m R = E) ?_ 1002 _ _ ⟨F.R, w, x, Ch.refl _ _ _, lo, by simp, hp, by omega, hE⟩
  intro m t g hI
  obtain ⟨R, w', x', c', lo', t0, hp', hm, hfin⟩ := hI
  obtain ⟨m', rfl⟩ : ∃ m', m = m' + 1 := ⟨m - 1, by omega⟩
  obtain ⟨k0, k1, k2, k3, k4, k5, k6, k17, k18, k19, k20, hro⟩ := x'.cells
  simp only [hF] at k0 k1 k2 k3 k4 k5 k6 k17 k18 k19
  simp only [nmsL] at hfin
  by_cases hgo : R.e = 0 /\ R.pos < s.size
  . rw [if_pos hgo] at hfin
    have q1 : ((R.e : Int) == 0) = true := by simp; omega
    have q2 : (R.pos : Int) < s.size := by omega
    have hb : s[R.pos]? = some s[R.pos] := ByteArray.getElem?_lt' s R.pos hgo.2
    have hby : byA s R.pos = (s[R.pos].toNat : Int) := by simp [byA, byteS, hgo.2, hb]
    rw [hby] at hfin
    generalize hbv : s[R.pos].toNat = bv at hfin
    unfold W58_1
    refine okE.seq (okE.flat (fun _ => rfl) ?_)
    simp [R58_0, t0, k17, q1, k19, k20, q2, hgo.2, thenE, -resE, -resLE, -rvE]
    refine okE.blk ?_
    refine okE.seq (okE.flat (fun _ => rfl) ?_)
    simp [R58_1, thenE, -resE, -resLE, -rvE]
    have letter : ∀ n, n < 10000 -> nmC D (bv : Int) = some n -> ∀ t' : Env, t' 0 = .pointer (some ⟨f, 0, none⟩) -> t' 2 = .int .i64 (n : Nat) ->
     okE c (cSeq (cSeq (cReg (R58_14 O Tryz.prog ro)) (cIf (.tmp 67) (cSeq (cReg (R58_15 O Tryz.prog ro)) cRet) cSkip)) (cSeq (cReg (R58_16 O Tryz.prog ro)) (cSeq (cReg (R58_17 O Tryz.prog ro)) (cSeq (cSeq (cReg (R58_18 O Tryz.prog ro)) (cIf (.tmp 93) (cReg (R58_19 O Tryz.prog ro)) cSkip)) (cSeq (cReg (R58_20 O Tryz.prog ro)) (cSeq (cReg (R58_21 O Tryz.prog ro)) (cSeq (cBlk 3 (cLoop (W58_0 O Tryz.prog ro))) (cSeq (cSeq (cReg (R58_24 O Tryz.prog ro)) (cIf (.tmp 134) (cReg (R58_25 O Tryz.prog ro)) cSkip)) (cSeq (cSeq (cReg (R58_26 O Tryz.prog ro)) (cIf (.tmp 145) (cReg (R58_27 O Tryz.prog ro)) cSkip)) (cReg (R58_28 O Tryz.prog ro))))))))))) (t', g)
      (fun e t' h' => e = .normal /\ ∃ n', n' < m' + 1 /\ ∃ R w', FX O ro w' h' f s { F with R := R } /\ Ch O (Kc [1] 2) w h w' h' /\ ro <= O.next h' /\ t' 0 = .pointer (some ⟨f, 0, none⟩) /\ R.pos <= s.size /\ s.size < n' + R.pos /\ nmsL D s n' R = E) := by
     intro n hn hc t' t0' t2'
     rw [hc] at hfin
     have hfin2 : nmsL D s m' (nmF s n R) = E := hfin
     have hn0 : ¬ (n : Int) < 0 := by omega
     have hpp := nmF_pos (s := s) (n := n) (R := R) hgo.2
     refine okE.seq (okE.flat (fun _ => rfl) ?_)
     simp [R58_14, t0', t2', hn0, thenE, -resE, -resLE, -rvE]
     refine okE.mono (nm_one C L (n := n) hs hgo.2 hn x' lo' _ ?_ ?_) ?_
     . simp [t0']
     . simp [t2']
     rintro e t3 g3 ⟨rfl, t03, w3, x3, c3, lo3⟩
     exact ⟨rfl, m', by omega, nmF s n R, w3, x3, c'.trans c3, lo3, t03, hpp.2, by omega, hfin2⟩
    by_cases b1 : bv = 105
    . have e1 : ((bv : Int) == 105) = true := by simp; omega
      refine okE.seq (okE.flat (fun _ => rfl) ?_)
      simp [R58_2, R58_3, R58_4, t0, k19, k20, hb, hbv, e1, k2, thenE, -resE, -resLE, -rvE]
      refine okE.mono (letter D.nin hD.1 (by subst b1; rfl) _ ?_ ?_) ?_
      . simp [t0]
      . simp
      rintro e t3 g3 ⟨rfl, hq⟩
      simp [-resE, -resLE, -rvE]
      exact hq
    . have e1 : ((bv : Int) == 105) = false := by simp; omega
      by_cases b2 : bv = 108
      . have e2 : ((bv : Int) == 108) = true := by simp; omega
        refine okE.seq (okE.flat (fun _ => rfl) ?_)
        simp [R58_2, R58_3, R58_5, R58_6, t0, k19, k20, hb, hbv, e1, e2, k3, thenE, -resE, -resLE, -rvE]
        refine okE.mono (letter D.nla hD.2.1 (by subst b2; rfl) _ ?_ ?_) ?_
        . simp [t0]
        . simp
        rintro e t3 g3 ⟨rfl, hq⟩
        simp [-resE, -resLE, -rvE]
        exact hq
      . have e2 : ((bv : Int) == 108) = false := by simp; omega
        by_cases b3 : bv = 111
        . have e3 : ((bv : Int) == 111) = true := by simp; omega
          refine okE.seq (okE.flat (fun _ => rfl) ?_)
          simp [R58_2, R58_3, R58_5, R58_7, R58_8, t0, k19, k20, hb, hbv, e1, e2, e3, k4, thenE, -resE, -resLE, -rvE]
          refine okE.mono (letter D.nou hD.2.2.1 (by subst b3; rfl) _ ?_ ?_) ?_
          . simp [t0]
          . simp
          rintro e t3 g3 ⟨rfl, hq⟩
          simp [-resE, -resLE, -rvE]
          exact hq
        . have e3 : ((bv : Int) == 111) = false := by simp; omega
          by_cases b4 : bv = 98
          . have e4 : ((bv : Int) == 98) = true := by simp; omega
            refine okE.seq (okE.flat (fun _ => rfl) ?_)
            simp [R58_2, R58_3, R58_5, R58_7, R58_9, R58_10, t0, k19, k20, hb, hbv, e1, e2, e3, e4, k6, thenE, -resE, -resLE, -rvE]
            refine okE.mono (letter D.nbs hD.2.2.2 (by subst b4; rfl) _ ?_ ?_) ?_
            . simp [t0]
            . simp
            rintro e t3 g3 ⟨rfl, hq⟩
            simp [-resE, -resLE, -rvE]
            exact hq
          . have e4 : ((bv : Int) == 98) = false := by simp; omega
            have hnc : nmC D (bv : Int) = none := by unfold nmC; rw [if_neg (by omega), if_neg (by omega), if_neg (by omega), if_neg (by omega)]
            rw [hnc] at hfin
            simp only at hfin
            by_cases b5 : bv = 99
            . have e5 : ((bv : Int) == 99) = true := by simp; omega
              rw [if_pos (by omega)] at hfin
              obtain ⟨q, hq⟩ : ∃ q, q = R.pos + 1 := ⟨_, rfl⟩
              have hw : IntKind.i64.wrap ((R.pos : Int) + 1) = (q : Int) := by rw [wrap_id (by omega) (by omega)]; omega
              rw [<- hq] at hfin
              obtain ⟨p1, x1, c1⟩ := pos_x L x' q
              obtain ⟨h2, hc2, x2, c2⟩ := sign_x C L x1 hs 10
              simp only at x2
              rw [hfin] at x2
              have hc2' : c 105 [.pointer (some ⟨f, 0, none⟩), .int .i64 10] (O.put g f 19 (.int .i64 (q : Nat))) = some (.tuple #[], h2) := hc2
              refine okE.seq (okE.flat (fun _ => rfl) ?_)
              simp [R58_2, R58_3, R58_5, R58_7, R58_9, R58_11, R58_12, R58_13, t0, k19, k20, hb, hbv, e1, e2, e3, e4, e5, hw, hro, p1, hc2', thenE]
              exact ⟨w', x2, (c'.trans (chR c1 2)).trans (chR c2 2), Nat.le_trans (Nat.le_trans lo' c1.nx) c2.nx⟩
            . have e5 : ((bv : Int) == 99) = false := by simp; omega
              rw [if_neg (by omega)] at hfin
              obtain ⟨h2, hc2, x2, c2⟩ := bad_x C L x' 2 R.pos
              simp only at x2
              rw [hfin] at x2
              have hc2' : c 108 [.pointer (some ⟨f, 0, none⟩), .int .i64 2, .int .i64 R.pos] g = some (.tuple #[], h2) := hc2
              refine okE.seq (okE.flat (fun _ => rfl) ?_)
              simp [R58_2, R58_3, R58_5, R58_7, R58_9, R58_11, t0, k19, k20, hb, hbv, e1, e2, e3, e4, e5, thenE, -resE, -resLE, -rvE]
              refine okE.seq (okE.flat (fun _ => rfl) ?_)
              simp [R58_14, R58_15, t0, k19, hc2', thenE]
              exact ⟨w', x2, c'.trans (chR c2 2), Nat.le_trans lo' c2.nx⟩
  . rw [if_neg hgo] at hfin
    subst hfin
    unfold W58_1
    refine okE.seq (okE.flat (fun _ => rfl) ?_)
    by_cases he : R.e = 0
    . have q1 : ((R.e : Int) == 0) = true := by simp; omega
      have q2 : ¬ (R.pos : Int) < s.size := by omega
      have q3 : ¬ R.pos < s.size := by omega
      simp [R58_0, t0, k17, q1, k19, k20, q2, q3, thenE]
      exact ⟨w', x', c', lo'⟩
    . have q1 : ((R.e : Int) == 0) = false := by simp; omega
      simp [R58_0, t0, k17, q1, thenE]
      exact ⟨w', x', c', lo'⟩
 obtain ⟨v, h', e1, rfl, w', e2⟩ := key
 exact ⟨w', h', e1, e2⟩
end
def nd1 (ds : List Us) (R : RS) (u : Us) : RS := if dfS ds u.l = true then R else fl R 11 u.p
section
variable {H : Type} {O : HI H} {ro : Nat} {c : CallT H}
theorem need_b (C : Lim Tryz.prog O ro okS c) (L : O.Law) {w : Own} {h : H} {f : Nat} {s : ByteArray} {F : FD} {v0 v1 v2 v3 v4 v5 v6 : Value} (x : FB O ro w h f s F v0 v1 v2 v3 v4 v5 v6) (hl : F.defs.length <= 10000) (hd : smallU F.defs) (us : List Us) (hu : smallU us) (hul : us.length <= 10000) (a : Option Addr) (cp : Nat)
 (hc : us ≠ [] -> ∃ b off k cs, a = some ⟨b, off, some 2⟩ /\ k ≠ 1000 /\ Bx O ro w h (1, k) b cs /\ ∀ i (hi : i < us.length), cs[off + i * 2]? = some (.int .i64 us[i].l) /\ cs[off + i * 2 + 1]? = some (.int .i64 us[i].p)) :
 ∃ h', c 59 [.pointer (some ⟨f, 0, none⟩), .slice a us.length cp] h = some (.tuple #[], h') /\ FB O ro w h' f s { F with R := us.foldl (nd1 F.defs) F.R } v0 v1 v2 v3 v4 v5 v6 /\ Ch O (fun u => u = (1, 1000)) w h w h' := by
 generalize hE : us.foldl (nd1 F.defs) F.R = E
 have key : ∃ v h', c 59 [.pointer (some ⟨f, 0, none⟩), .slice a us.length cp] h = some (v, h') /\ (v = .tuple #[] /\ FB O ro w h' f s { F with R := E } v0 v1 v2 v3 v4 v5 v6 /\ Ch O (fun u => u = (1, 1000)) w h w h') := by
  refine C.fn (F59_fn O ro) rfl rfl ?_
  unfold F59
  refine okE.seq (okE.flat (fun _ => rfl) ?_)
  simp [R59_0, thenE, -resE, -resLE, -rvE]
  refine okE.blk ?_
  refine okE.loop (fun m t g => ∃ j R, FB O ro w g f s { F with R := R } v0 v1 v2 v3 v4 v5 v6 /\ Ch O (fun u => u = (1, 1000)) w h w g /\ t 0 = .pointer (some ⟨f, 0, none⟩) /\ t 1 = .slice a us.length cp /\ t 4 = .int .i64 (j : Nat) /\ j + m = us.length + 1 /\ 0 < m /\ (us.drop j).foldl (nd1 F.defs) R = E) ?_ (us.length + 1) _ _ ⟨0, F.R, x, Ch.refl _ _ _, by simp, by simp, by simp, by omega, by omega, hE⟩
  intro m t g hI
  obtain ⟨j, R, x', c', t0, t1, t4, hj, hm, hfin⟩ := hI
  by_cases hlt : j < us.length
  . obtain ⟨b, off, k, cs, rfl, hk, y, hcs⟩ := hc (by intro e; rw [e] at hlt; simp at hlt)
    have y' := y.ch L c' (by simp [hk])
    obtain ⟨g0, g1⟩ := hcs j hlt
    have g0 := y'.get _ _ g0
    have g1 := y'.get _ _ g1
    rw [foldl_at _ _ _ hlt] at hfin
    have hus := hu _ (List.getElem_mem hlt)
    have hdf := df_b C x' hl hd us[j].l hus.1 hus.2
    unfold ptr at hdf
    simp only at hdf
    obtain ⟨q, hq⟩ : ∃ q, q = j + 1 := ⟨_, rfl⟩
    have hw : IntKind.i64.wrap ((j : Int) + 1) = (q : Int) := by rw [wrap_id (by omega) (by omega)]; omega
    have hlt' : (j : Int) < us.length := by omega
    rw [<- hq] at hfin
    refine okE.flat (fun _ => rfl) ?_
    unfold nd1 at hfin
    by_cases hdd : dfS F.defs us[j].l = true
    . rw [if_pos hdd] at hfin
      simp [W59_0, R59_1, R59_3, R59_4, R59_2, t0, t1, t4, hlt, hlt', g0, hdf, hdd, hw]
      exact ⟨m - 1, by omega, q, R, x', c', rfl, by omega, by omega, hfin⟩
    . rw [if_neg hdd] at hfin
      obtain ⟨h2, hc2, x2, c2⟩ := bad_w C L x' 11 us[j].p
      have hc2' : c 108 [.pointer (some ⟨f, 0, none⟩), .int .i64 11, .int .i64 us[j].p] g = some (.tuple #[], h2) := hc2
      simp [W59_0, R59_1, R59_3, R59_4, R59_5, R59_2, t0, t1, t4, hlt, hlt', g0, g1, hdf, hdd, hc2', hw]
      exact ⟨m - 1, by omega, q, _, x2, c'.trans c2, rfl, by omega, by omega, hfin⟩
  . rw [List.drop_eq_nil_of_le (by omega)] at hfin
    have hfin2 : R = E := hfin
    subst hfin2
    have hlt' : ¬ (j : Int) < us.length := by omega
    refine okE.flat (fun _ => rfl) ?_
    simp [W59_0, R59_1, t0, t1, t4, hlt, hlt']
    exact ⟨x', c'⟩
 obtain ⟨v, h', e1, rfl, e2⟩ := key
 exact ⟨h', e1, e2⟩
def stL (l : Nat) : List Nat -> Nat -> Int
 | [], _ => -1
 | v :: vs, k => if v = l / 2 then ((2 * (k + 1) + l % 2 : Nat) : Int) else stL l vs (k + 1)
def stS (ord : List Nat) (l : Nat) : Int := if l < 2 then (l : Int) else stL l ord 0
theorem st_b (C : Lim Tryz.prog O ro okS c) {w : Own} {h : H} {tg : Tag} {v : Value} {ord : List Nat} (sl : Sl O ro w h tg 1 v (ord.map niv)) (hl : ord.length <= 10000) (l : Nat) (h1 : l < 1000000) :
 c 115 [v, .int .i64 (l : Nat)] h = some (.int .i64 (stS ord l), h) := by
 refine C.eq (F115_fn O ro) rfl rfl ?_
 unfold F115 stS
 refine okE.seq (okE.flat (fun _ => rfl) ?_)
 simp [R115_0, thenE, -resE, -resLE, -rvE]
 by_cases h2 : l < 2
 . have h2' : (l : Int) < 2 := by omega
   rw [if_pos h2]
   refine okE.seq (okE.flat (fun _ => rfl) ?_)
   simp [R115_1, R115_2, h2, h2', thenE]
 . have h2' : ¬ (l : Int) < 2 := by omega
   rw [if_neg h2]
   generalize hE : stL l ord 0 = E
   refine okE.seq (okE.flat (fun _ => rfl) ?_)
   simp [R115_1, h2, h2', thenE, -resE, -resLE, -rvE]
   refine okE.seq (okE.seq (okE.flat (fun _ => rfl) ?_))
   simp [R115_3, thenE, -resE, -resLE, -rvE]
   refine okE.blk ?_
   refine okE.loop (fun m t g => ∃ j, g = h /\ t 0 = v /\ t 1 = .int .i64 (l : Nat) /\ t 5 = .int .i64 (j : Nat) /\ j + m = ord.length + 1 /\ 0 < m /\ stL l (ord.drop j) j = E) ?_ (ord.length + 1) _ _ ⟨0, rfl, by simp, by simp, by simp, by omega, by omega, hE⟩
   intro m t g hI
   obtain ⟨j, rfl, t0, t1, t5, hj, hm, hfin⟩ := hI
   by_cases hlt : j < ord.length
   . obtain ⟨b, cp, rfl, y⟩ := sl.blk (by omega) ord.length (by simp) (by omega)
     have hc := y.get j (niv ord[j]) (by simp [hlt])
     unfold niv at hc
     rw [List.drop_eq_getElem_cons hlt] at hfin
     simp only [stL] at hfin
     have q1 := iA_quo2 l (by omega)
     have q2 := iA_rem2 l
     obtain ⟨a, ha⟩ : ∃ a, a = l / 2 := ⟨_, rfl⟩
     obtain ⟨r, hr⟩ : ∃ r, r = l % 2 := ⟨_, rfl⟩
     rw [<- ha] at q1 hfin
     rw [<- hr] at q2 hfin
     obtain ⟨u, hu⟩ : ∃ u, u = ord[j] := ⟨_, rfl⟩
     rw [<- hu] at hc hfin
     obtain ⟨q, hq⟩ : ∃ q, q = j + 1 := ⟨_, rfl⟩
     have hw : IntKind.i64.wrap ((j : Int) + 1) = (q : Int) := by rw [wrap_id (by omega) (by omega)]; omega
     have hlt' : (j : Int) < ord.length := by omega
     rw [<- hq] at hfin
     refine okE.flat (fun _ => rfl) ?_
     by_cases hk : u = a
     . rw [if_pos hk] at hfin
       have hk' : ((u : Int) == (a : Int)) = true := by simp; omega
       have hw2 : IntKind.i64.wrap (2 * (q : Int)) = 2 * (q : Int) := wrap_id (by omega) (by omega)
       have hw3 : IntKind.i64.wrap (2 * (q : Int) + (r : Int)) = E := by rw [wrap_id (by omega) (by omega), <- hfin]; omega
       simp [W115_0, R115_4, R115_6, R115_7, t0, t1, t5, hlt, hlt', hc, q1, q2, hk', hw, hw2, hw3, thenE]
     . rw [if_neg hk] at hfin
       have hk' : ((u : Int) == (a : Int)) = false := by simp; omega
       simp [W115_0, R115_4, R115_6, R115_5, t0, t1, t5, hlt, hlt', hc, q1, hk', hw]
       exact ⟨m - 1, by omega, q, rfl, by omega, by omega, hfin⟩
   . obtain ⟨a, cp, rfl⟩ := sl.len (by omega) ord.length (by simp)
     rw [List.drop_eq_nil_of_le (by omega)] at hfin
     have hfin2 : -1 = E := hfin
     subst hfin2
     have hlt' : ¬ (j : Int) < ord.length := by omega
     refine okE.flat (fun _ => rfl) ?_
     simp [W115_0, R115_4, t0, t1, t5, hlt, hlt', thenE]
     refine okE.flat (fun _ => rfl) ?_
     simp [R115_8]
def gN (us : List Us) (k : Nat) : Nat := ((us[k]?).map fun u => u.l.toNat).getD 0
def gP (us : List Us) (k : Nat) : Nat := ((us[k]?).map Us.p).getD 0
def fsL (ord : List Nat) (F : FD) : Nat -> Nat -> Int
 | 0, _ => -1
 | n + 1, k => if stS ord (gN F.defs (F.hd.nin + F.hd.nla + k)) < 0 /\ 0 <= stS ord (gN F.left k) /\ 0 <= stS ord (gN F.right k) then (k : Int) else fsL ord F n (k + 1)
def wtL (ord : List Nat) (F : FD) : Nat -> Nat -> Nat
 | 0, _ => 0
 | n + 1, k => if stS ord (gN F.defs (F.hd.nin + F.hd.nla + k)) < 0 then gP F.defs (F.hd.nin + F.hd.nla + k) else wtL ord F n (k + 1)
structure FOk (F : FD) : Prop where
 d : smallU F.defs
 l : smallU F.left
 r : smallU F.right
 n : F.defs.length = F.hd.nin + F.hd.nla + F.left.length
 m : F.right.length = F.left.length
 z : F.defs.length <= 10000
theorem us_at {w : Own} {h : H} {tg : Tag} {b : Nat} {us : List Us} (y : Bx O ro w h tg b (us.flatMap Us.cells)) (hu : smallU us) (k : Nat) (hk : k < us.length) :
 O.cell h b (k * 2) = some (.int .i64 (gN us k : Nat)) /\ gN us k < 1000000 /\ cellsA O h b (k * 2) 2 = some [.int .i64 (gN us k : Nat), .int .i64 (gP us k : Nat)] := by
 have e0 := flat_at Us.cells 2 (fun _ => rfl) us k hk 0 (by omega)
 have hs := hu _ (List.getElem_mem hk)
 have hg : ((gN us k : Nat) : Int) = us[k].l := by simp [gN, List.getElem?_eq_getElem hk]; omega
 have hgp : gP us k = us[k].p := by simp [gP, List.getElem?_eq_getElem hk]
 refine ⟨?_, by omega, ?_⟩
 . rw [hg]; exact y.get _ _ e0
 . rw [hg, hgp]
   exact y.at (k * 2) us[k].cells fun i hi => flat_at Us.cells 2 (fun _ => rfl) us k hk i hi
theorem fs_b (C : Lim Tryz.prog O ro okS c) {w : Own} {h : H} {f : Nat} {s : ByteArray} {F : FD} {v0 v1 v2 v3 v4 v5 v6 : Value} (x : FB O ro w h f s F v0 v1 v2 v3 v4 v5 v6) (ok : FOk F) {tg : Tag} {v : Value} {ord : List Nat} (sl : Sl O ro w h tg 1 v (ord.map niv)) (ho : ord.length <= 10000) :
 c 113 [.pointer (some ⟨f, 0, none⟩), v] h = some (.int .i64 (fsL ord F F.left.length 0), h) := by
 have hn := ok.n
 have hz := ok.z
 have hm := ok.m
 have k2 := x.m.get 2 _ rfl
 have k3 := x.m.get 3 _ rfl
 have k10 := x.m.get 10 _ rfl
 have k15 := x.m.get 15 _ rfl
 have k16 := x.m.get 16 _ rfl
 have l0 := flat_len Us.cells 2 (fun _ => rfl) F.defs
 have l5 := flat_len Us.cells 2 (fun _ => rfl) F.left
 have l6 := flat_len Us.cells 2 (fun _ => rfl) F.right
 generalize hE : fsL ord F F.left.length 0 = E
 refine C.eq (F113_fn O ro) rfl rfl ?_
 unfold F113
 refine okE.seq (okE.flat (fun _ => rfl) ?_)
 simp [R113_0, thenE, -resE, -resLE, -rvE]
 refine okE.seq (okE.seq (okE.flat (fun _ => rfl) ?_))
 simp [R113_1, thenE, -resE, -resLE, -rvE]
 refine okE.blk ?_
 refine okE.loop (fun m t g => ∃ j, g = h /\ t 0 = .pointer (some ⟨f, 0, none⟩) /\ t 1 = v /\ t 5 = .int .i64 (j : Nat) /\ j + m = F.left.length + 1 /\ 0 < m /\ fsL ord F (m - 1) j = E) ?_ (F.left.length + 1) _ _ ⟨0, rfl, by simp, by simp, by simp, by omega, by omega, hE⟩
 intro m t g hI
 obtain ⟨j, rfl, t0, t1, t5, hj, hm', hfin⟩ := hI
 obtain ⟨a5, cp5, hv5⟩ := x.s5.len (by omega) F.left.length l5
 by_cases hlt : j < F.left.length
 . obtain ⟨m', rfl⟩ : ∃ m', m = m' + 2 := ⟨m - 2, by omega⟩
   simp only [Nat.add_one_sub_one, fsL] at hfin
   obtain ⟨b0, c0, hv0, y0⟩ := x.s0.blk (by omega) F.defs.length l0 (by omega)
   obtain ⟨b5, c5, hv5', y5⟩ := x.s5.blk (by omega) F.left.length l5 (by omega)
   obtain ⟨b6, c6, hv6, y6⟩ := x.s6.blk (by omega) F.right.length l6 (by omega)
   obtain ⟨P, hP⟩ : ∃ P, P = F.hd.nin + F.hd.nla + j := ⟨_, rfl⟩
   obtain ⟨g0, s0, _⟩ := us_at y0 ok.d P (by omega)
   obtain ⟨g5, s5, _⟩ := us_at y5 ok.l j hlt
   obtain ⟨g6, s6, _⟩ := us_at y6 ok.r j (by omega)
   rw [<- hP] at hfin
   have a0 := st_b C sl ho _ s0
   have a5 := st_b C sl ho _ s5
   have a6 := st_b C sl ho _ s6
   have hw1 : IntKind.i64.wrap ((F.hd.nin : Int) + (F.hd.nla : Int)) = (F.hd.nin : Int) + (F.hd.nla : Int) := wrap_id (by omega) (by omega)
   have hw2 : IntKind.i64.wrap ((F.hd.nin : Int) + (F.hd.nla : Int) + (j : Int)) = (P : Int) := by rw [wrap_id (by omega) (by omega)]; omega
   obtain ⟨q, hq⟩ : ∃ q, q = j + 1 := ⟨_, rfl⟩
   have hw : IntKind.i64.wrap ((j : Int) + 1) = (q : Int) := by rw [wrap_id (by omega) (by omega)]; omega
   have hlt' : (j : Int) < F.left.length := by omega
   have hP1 : (P : Int) < F.defs.length := by omega
   have hP2 : P < F.defs.length := by omega
   have hr1 : (j : Int) < F.right.length := by omega
   have hr2 : j < F.right.length := by omega
   rw [<- hq] at hfin
   rw [hv0] at k10
   rw [hv5'] at k15
   rw [hv6] at k16
   generalize stS ord (gN F.defs P) = r0 at a0 hfin
   generalize stS ord (gN F.left j) = r5 at a5 hfin
   generalize stS ord (gN F.right j) = r6 at a6 hfin
   refine okE.flat (fun _ => rfl) ?_
   by_cases e0 : r0 < 0
   . by_cases e5 : 0 <= r5
     . by_cases e6 : 0 <= r6
       . rw [if_pos ⟨e0, e5, e6⟩] at hfin
         subst hfin
         simp [W113_0, R113_2, R113_4, R113_5, R113_6, R113_7, R113_8, t0, t1, t5, k15, hlt, hlt', k10, k2, k3, hw1, hw2, hP1, hP2, g0, a0, g5, a5, k16, hr1, hr2, g6, a6, e0, e5, e6, thenE]
       . rw [if_neg (by omega)] at hfin
         simp [W113_0, R113_2, R113_4, R113_5, R113_6, R113_7, R113_3, t0, t1, t5, k15, hlt, hlt', k10, k2, k3, hw1, hw2, hP1, hP2, g0, a0, g5, a5, k16, hr1, hr2, g6, a6, e0, e5, e6, hw]
         exact ⟨m' + 1, by omega, q, rfl, by omega, by omega, hfin⟩
     . rw [if_neg (by omega)] at hfin
       simp [W113_0, R113_2, R113_4, R113_5, R113_6, R113_7, R113_3, t0, t1, t5, k15, hlt, hlt', k10, k2, k3, hw1, hw2, hP1, hP2, g0, a0, g5, a5, k16, hr1, hr2, g6, a6, e0, e5, hw]
       exact ⟨m' + 1, by omega, q, rfl, by omega, by omega, hfin⟩
   . rw [if_neg (by omega)] at hfin
     simp [W113_0, R113_2, R113_4, R113_5, R113_6, R113_7, R113_3, t0, t1, t5, k15, hlt, hlt', k10, k2, k3, hw1, hw2, hP1, hP2, g0, a0, g5, a5, k16, hr1, hr2, g6, a6, e0, hw]
     exact ⟨m' + 1, by omega, q, rfl, by omega, by omega, hfin⟩
 . have hm1 : m = 1 := by omega
   subst hm1
   have hfin2 : -1 = E := hfin
   subst hfin2
   have hlt' : ¬ (j : Int) < F.left.length := by omega
   rw [hv5] at k15
   refine okE.flat (fun _ => rfl) ?_
   simp [W113_0, R113_2, t0, t1, t5, k15, hlt, hlt', thenE]
   refine okE.flat (fun _ => rfl) ?_
   simp [R113_9]
theorem wt_b (C : Lim Tryz.prog O ro okS c) (L : O.Law) {w : Own} {h : H} {f : Nat} {s : ByteArray} {F : FD} {v0 v1 v2 v3 v4 v5 v6 : Value} (x : FB O ro w h f s F v0 v1 v2 v3 v4 v5 v6) (ok : FOk F) (lo : ro <= O.next h) {tg : Tag} {v : Value} {ord : List Nat} (sl : Sl O ro w h tg 1 v (ord.map niv)) (ho : ord.length <= 10000) :
 ∃ w' h', c 114 [.pointer (some ⟨f, 0, none⟩), v] h = some (.int .i64 (wtL ord F F.left.length 0), h') /\ (∀ K, Ch O K w h w' h') /\ ro <= O.next h' := by
 have hn := ok.n
 have hz := ok.z
 have hm := ok.m
 have l0 := flat_len Us.cells 2 (fun _ => rfl) F.defs
 have l5 := flat_len Us.cells 2 (fun _ => rfl) F.left
 generalize hE : wtL ord F F.left.length 0 = E
 have key : ∃ u h', c 114 [.pointer (some ⟨f, 0, none⟩), v] h = some (u, h') /\ (u = .int .i64 (E : Nat) /\ ∃ w', (∀ K, Ch O K w h w' h') /\ ro <= O.next h') := by
  refine C.fn (F114_fn O ro) rfl rfl ?_
  unfold F114
  refine okE.seq (okE.flat (fun _ => rfl) ?_)
  simp [R114_0, thenE, -resE, -resLE, -rvE]
  refine okE.seq (okE.seq (okE.flat (fun _ => rfl) ?_))
  simp [R114_1, thenE, -resE, -resLE, -rvE]
  refine okE.blk ?_
  refine okE.loop (fun m t g => ∃ j w', (∀ K, Ch O K w h w' g) /\ ro <= O.next g /\ t 0 = .pointer (some ⟨f, 0, none⟩) /\ t 1 = v /\ t 5 = .int .i64 (j : Nat) /\ j + m = F.left.length + 1 /\ 0 < m /\ wtL ord F (m - 1) j = E) ?_ (F.left.length + 1) _ _ ⟨0, w, fun _ => Ch.refl _ _ _, lo, by simp, by simp, by simp, by omega, by omega, hE⟩
  intro m t g hI
  obtain ⟨j, w', cc', lo', t0, t1, t5, hj, hm', hfin⟩ := hI
  have x' := x.ch L (cc' fun _ => False) (by simp)
  have sl' := sl.ch L (cc' fun _ => False) (by simp)
  have k2 := x'.m.get 2 _ rfl
  have k3 := x'.m.get 3 _ rfl
  have k10 := x'.m.get 10 _ rfl
  have k15 := x'.m.get 15 _ rfl
  obtain ⟨a5, cp5, hv5⟩ := x'.s5.len (by omega) F.left.length l5
  rw [hv5] at k15
  by_cases hlt : j < F.left.length
  . obtain ⟨m', rfl⟩ : ∃ m', m = m' + 2 := ⟨m - 2, by omega⟩
    simp only [Nat.add_one_sub_one, wtL] at hfin
    obtain ⟨b0, c0, hv0, y0⟩ := x'.s0.blk (by omega) F.defs.length l0 (by omega)
    obtain ⟨P, hP⟩ : ∃ P, P = F.hd.nin + F.hd.nla + j := ⟨_, rfl⟩
    obtain ⟨g0, s0, gg⟩ := us_at y0 ok.d P (by omega)
    rw [<- hP] at hfin
    obtain ⟨b, w3, h3, hbe, e3, z3, c3, lo3, hrob⟩ := loc2 L w' g lo' (.int .i64 (gN F.defs P : Nat)) (.int .i64 (gP F.defs P : Nat)) (100, 0)
    have a0 := st_b C (sl'.ch L (c3 fun _ => False) (by simp)) ho _ s0
    have z0 := z3.get 0 _ rfl
    have z1 := z3.get 1 _ rfl
    have hw1 : IntKind.i64.wrap ((F.hd.nin : Int) + (F.hd.nla : Int)) = (F.hd.nin : Int) + (F.hd.nla : Int) := wrap_id (by omega) (by omega)
    have hw2 : IntKind.i64.wrap ((F.hd.nin : Int) + (F.hd.nla : Int) + (j : Int)) = (P : Int) := by rw [wrap_id (by omega) (by omega)]; omega
    obtain ⟨q, hq⟩ : ∃ q, q = j + 1 := ⟨_, rfl⟩
    have hw : IntKind.i64.wrap ((j : Int) + 1) = (q : Int) := by rw [wrap_id (by omega) (by omega)]; omega
    have hlt' : (j : Int) < F.left.length := by omega
    have hP1 : (P : Int) < F.defs.length := by omega
    have hP2 : P < F.defs.length := by omega
    rw [<- hq] at hfin
    rw [hv0] at k10
    generalize stS ord (gN F.defs P) = r0 at a0 hfin
    refine okE.flat (fun _ => rfl) ?_
    by_cases e0 : r0 < 0
    . rw [if_pos e0] at hfin
      subst hfin
      simp [W114_0, R114_2, R114_4, R114_5, R114_6, R114_7, t0, t1, t5, k15, hlt, hlt', k10, k2, k3, hw1, hw2, hP1, hP2, gg, <- hbe, e3, hrob, z0, z1, a0, e0, thenE]
      exact ⟨⟨w3, fun K => (cc' K).trans (c3 K)⟩, lo3⟩
    . rw [if_neg e0] at hfin
      simp [W114_0, R114_2, R114_4, R114_5, R114_6, R114_3, t0, t1, t5, k15, hlt, hlt', k10, k2, k3, hw1, hw2, hP1, hP2, gg, <- hbe, e3, hrob, z0, z1, a0, e0, hw]
      exact ⟨m' + 1, by omega, ⟨w3, fun K => (cc' K).trans (c3 K)⟩, lo3, q, rfl, by omega, by omega, hfin⟩
  . have hm1 : m = 1 := by omega
    subst hm1
    have hfin2 : 0 = E := hfin
    subst hfin2
    have hlt' : ¬ (j : Int) < F.left.length := by omega
    refine okE.flat (fun _ => rfl) ?_
    simp [W114_0, R114_2, t0, t1, t5, k15, hlt, hlt', thenE]
    refine okE.flat (fun _ => rfl) ?_
    simp [R114_8]
    exact ⟨⟨w', cc'⟩, lo'⟩
 obtain ⟨u, h', e1, rfl, w', e2⟩ := key
 exact ⟨w', h', e1, e2⟩
end
end Go.Proofs.YtlakdngplpabdaaGreatDoor
