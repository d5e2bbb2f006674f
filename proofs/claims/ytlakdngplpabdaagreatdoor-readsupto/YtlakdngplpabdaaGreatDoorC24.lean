/- Own work. -/
import Derived.Test.YtlakdngplpabdaaGreatDoorC23
namespace Go.Proofs.YtlakdngplpabdaaGreatDoor
set_option linter.unusedSimpArgs false
set_option linter.unusedVariables false
set_option maxHeartbeats 1000000
structure Qr (R R' : RS) : Prop where
 e : R.e = R'.e
 ep : R.ep = R'.ep
 pos : R.e = 0 -> R.pos = R'.pos
theorem Qr.refl (R : RS) : Qr R R := ⟨rfl, rfl, fun _ => rfl⟩
theorem Qr.eq {R R' : RS} (q : Qr R R') (h : R.e = 0) : R = R' := by
 obtain ⟨p, e, ep⟩ := R
 obtain ⟨p', e', ep'⟩ := R'
 obtain ⟨h1, h2, h3⟩ := q
 simp only at h1 h2 h3 h
 subst h1 h2
 rw [h3 h]
theorem Qr.ne {R R' : RS} (q : Qr R R') (h : R.e ≠ 0) : R'.e ≠ 0 := by rw [<- q.e]; exact h
theorem fl_ne {R : RS} (h : R.e ≠ 0) (e p : Nat) : fl R e p = R := by unfold fl; rw [if_neg h]
theorem pk_ne {s : ByteArray} {R : RS} (h : R.e ≠ 0) : pk s R = -1 := by simp [pk, h]
theorem exS_ne {s : ByteArray} {R : RS} (h : R.e ≠ 0) (b : Nat) : exS s R b = R := by
 unfold exS
 rw [pk_ne h, if_neg (by omega), fl_ne h]
theorem fl_bad {R : RS} {e p : Nat} (he : e ≠ 0) : (fl R e p).e ≠ 0 := fun h => fl_e he h
theorem Qr.ex {s : ByteArray} {R R' : RS} (q : Qr R R') (b : Nat) : Qr (exS s R b) (exS s R' b) := by
 by_cases h : R.e = 0
 . rw [q.eq h]; exact Qr.refl _
 . rw [exS_ne h, exS_ne (q.ne h)]; exact q
theorem Qr.fl {R R' : RS} (q : Qr R R') (e p : Nat) : Qr (fl R e p) (fl R' e p) := by
 by_cases h : R.e = 0
 . rw [q.eq h]; exact Qr.refl _
 . rw [fl_ne h, fl_ne (q.ne h)]; exact q
theorem wd_q {s : ByteArray} {R R' : RS} (q : Qr R R') : Qr (numS s R).2 (wdS s R').2 /\ (wdS s R').1.l = ((numS s R).1 : Int) := by
 by_cases h : R.e = 0
 . rw [<- q.eq h]
   refine ⟨?_, rfl⟩
   unfold wdS
   simp only
   split
   . exact Qr.refl _
   . rename_i h2; exact ⟨rfl, rfl, fun h3 => absurd h3 h2⟩
 . rw [numS_bad h, wdS_bad (q.ne h)]
   exact ⟨q, rfl⟩
theorem hd0_q (s : ByteArray) (R : RS) : Qr (hdS0 s R).2 (hrR s R) /\ ((exS s R 97).e = 0 -> (hdS0 s R).1 = hrB s R) := by
 unfold hdS0 hrR hrB
 simp only
 by_cases h : (exS s R 97).e = 0
 . rw [pk_by h]
   by_cases h1 : byA s (exS s R 97).pos = 105
   . rw [if_pos h1]
     have e1 : ∀ X : RS, pk s X = 105 -> exS s X 105 = ⟨X.pos + 1, X.e, X.ep⟩ := by
      intro X hX
      unfold exS
      rw [if_pos (by rw [hX]; rfl)]
     have h2 : (byA s (exS s R 97).pos == 105) = true := by simpa using h1
     rw [h2, if_pos rfl, e1 _ (by rw [pk_by h, h1])]
     exact ⟨Qr.refl _, fun _ => rfl⟩
   . have h2 : (byA s (exS s R 97).pos == 105) = false := by simpa using h1
     rw [if_neg h1, h2]
     exact ⟨Qr.refl _, fun _ => rfl⟩
 . rw [pk_ne h, if_neg (by omega)]
   simp only [exS_ne h]
   exact ⟨Qr.refl _, fun h' => absurd h' h⟩
theorem hdS0_e {s : ByteArray} {R : RS} (h : (hdS0 s R).2.e = 0) : (exS s R 97).e = 0 := by
 by_cases h1 : (exS s R 97).e = 0
 . exact h1
 . unfold hdS0 at h
   simp only at h
   rw [pk_ne h1, if_neg (by omega)] at h
   simp only [exS_ne h1] at h
   exact h
theorem hdL_ne {s : ByteArray} : ∀ (n k : Nat) (R : RS) (ns : List Nat), R.e ≠ 0 -> (hdL n s k R ns).2 = R := by
 intro n
 induction n with
 | zero => intro k R ns h; rfl
 | succ n ih =>
  intro k R ns h
  simp only [hdL]
  split
  . rfl
  . rw [exS_ne h, numS_bad h]
    exact ih _ _ _ h
theorem hrL_ne {s : ByteArray} (n : Nat) (R : RS) (ns : List Nat) (h : R.e ≠ 0) : hrL s n R ns = (ns, R) := by
 cases n with
 | zero => rfl
 | succ n => simp only [hrL]; rw [if_neg (by simp [h])]
theorem hdL_q {s : ByteArray} : ∀ (n : Nat) (R R' : RS) (l : List Nat), Qr R R' -> l.length + n = 9 ->
 Qr (exS s (hdL n s l.length R (l ++ List.replicate n 0)).2 10) (exS s (hrL s (n + 1) R' l).2 10) /\ ((exS s (hdL n s l.length R (l ++ List.replicate n 0)).2 10).e = 0 -> (hdL n s l.length R (l ++ List.replicate n 0)).1 = (hrL s (n + 1) R' l).1 ++ List.replicate (9 - (hrL s (n + 1) R' l).1.length) 0) := by
 intro n
 induction n with
 | zero =>
  intro R R' l q hl
  simp only [hdL, hrL]
  have hl2 : ¬ (R'.e = 0 /\ l.length < 9) := by omega
  rw [if_neg hl2]
  refine ⟨q.ex 10, fun _ => ?_⟩
  simp [show 9 - l.length = 0 by omega]
 | succ n ih =>
  intro R R' l q hl
  by_cases h : R.e = 0
  . have hq := q.eq h
    subst hq
    have hset : ∀ v, (l ++ List.replicate (n + 1) 0).set l.length v = (l ++ [v]) ++ List.replicate n 0 := by
     intro v
     rw [List.set_append_right _ _ (Nat.le_refl _)]
     simp [List.replicate_succ]
    rw [hrL]
    simp only [hdL]
    rw [if_pos (c := R.e = 0 /\ l.length < 9) ⟨h, by omega⟩, pk_by h]
    have next : ∀ (a : RS), Qr (exS s (hdL n s (l.length + 1) (numS s a).2 ((l ++ List.replicate (n + 1) 0).set l.length (numS s a).1)).2 10) (exS s (hrL s (n + 1) (wdS s a).2 (l ++ [(wdS s a).1.l.toNat])).2 10) /\ ((exS s (hdL n s (l.length + 1) (numS s a).2 ((l ++ List.replicate (n + 1) 0).set l.length (numS s a).1)).2 10).e = 0 -> (hdL n s (l.length + 1) (numS s a).2 ((l ++ List.replicate (n + 1) 0).set l.length (numS s a).1)).1 = (hrL s (n + 1) (wdS s a).2 (l ++ [(wdS s a).1.l.toNat])).1 ++ List.replicate (9 - (hrL s (n + 1) (wdS s a).2 (l ++ [(wdS s a).1.l.toNat])).1.length) 0) := by
     intro a
     obtain ⟨q1, q2⟩ := wd_q (s := s) (Qr.refl a)
     rw [q2, Int.toNat_natCast, hset]
     have := ih (numS s a).2 (wdS s a).2 (l ++ [(numS s a).1]) q1 (by simp; omega)
     simpa using this
    by_cases h5 : 5 <= l.length
    . by_cases h10 : byA s R.pos = 10
      . rw [if_pos (c := 5 <= l.length /\ byA s R.pos ≠ 32) ⟨h5, by rw [h10]; omega⟩, if_pos (c := 5 <= l.length /\ byA s R.pos = 10) ⟨h5, h10⟩]
        refine ⟨Qr.refl _, fun _ => ?_⟩
        rw [show 9 - l.length = n + 1 by omega]
      . rw [if_neg (c := 5 <= l.length /\ byA s R.pos = 10) (by simp [h10])]
        by_cases h32 : byA s R.pos = 32
        . rw [if_neg (c := 5 <= l.length /\ byA s R.pos ≠ 32) (by simp [h32])]
          exact next _
        . rw [if_pos (c := 5 <= l.length /\ byA s R.pos ≠ 32) ⟨h5, h32⟩]
          have e1 : exS s R 32 = fl R 2 R.pos := by unfold exS; rw [pk_by h, if_neg (by omega)]
          have e2 : exS s R 10 = fl R 2 R.pos := by unfold exS; rw [pk_by h, if_neg (by omega)]
          have ne : (fl R 2 R.pos).e ≠ 0 := fl_bad (by omega)
          rw [e1, wdS_bad ne, hrL_ne _ _ _ ne]
          simp only
          rw [exS_ne ne, e2]
          exact ⟨Qr.refl _, fun h' => absurd h' ne⟩
    . rw [if_neg (c := 5 <= l.length /\ byA s R.pos ≠ 32) (by omega), if_neg (c := 5 <= l.length /\ byA s R.pos = 10) (by omega)]
      exact next _
  . rw [hdL_ne _ _ _ _ h, hrL_ne _ _ _ (q.ne h), exS_ne h, exS_ne (q.ne h)]
    exact ⟨q, fun h' => absurd h' h⟩
theorem head_q (s : ByteArray) : Qr (hdS s ⟨0, 0, 0⟩).2.2 (hrE s ⟨0, 0, 0⟩) /\ ((hdS s ⟨0, 0, 0⟩).2.2.e = 0 -> hdD (hdS s ⟨0, 0, 0⟩).1 (hdS s ⟨0, 0, 0⟩).2.1 = (hrH (hrB s ⟨0, 0, 0⟩) (hrN s ⟨0, 0, 0⟩)).hd) := by
 obtain ⟨q0, b0⟩ := hd0_q s ⟨0, 0, 0⟩
 obtain ⟨q1, l1⟩ := hdL_q (s := s) 9 _ _ [] q0 rfl
 have hz : ([] : List Nat) ++ List.replicate 9 0 = [0, 0, 0, 0, 0, 0, 0, 0, 0] := rfl
 rw [hz, List.length_nil] at q1 l1
 unfold hdS hrE hrN
 simp only
 refine ⟨q1, fun h => ?_⟩
 have l2 := l1 h
 have hb : (hdS0 s ⟨0, 0, 0⟩).2.e = 0 := by
  by_cases hb : (hdS0 s ⟨0, 0, 0⟩).2.e = 0
  . exact hb
  . exfalso
    have e1 := hdL_ne (s := s) 9 0 _ [0, 0, 0, 0, 0, 0, 0, 0, 0] hb
    rw [e1, exS_ne hb] at h
    exact hb h
 have b1 := b0 (hdS0_e hb)
 rw [b1, l2]
 generalize (hrL s (9 + 1) (hrR s ⟨0, 0, 0⟩) []).1 ++ List.replicate (9 - (hrL s (9 + 1) (hrR s ⟨0, 0, 0⟩) []).1.length) 0 = ns
 rfl
theorem nl_q {s : ByteArray} (ep : Nat) : ∀ (n p m : Nat), s.size < n + p -> s.size < m + p -> nmL n s ⟨p, 0, ep⟩ = ⟨nlE s m p, 0, ep⟩ := by
 intro n
 induction n with
 | zero =>
  intro p m hn hm
  simp only [nmL]
  cases m with
  | zero => rfl
  | succ m => simp only [nlE]; rw [if_neg (by omega)]
 | succ n ih =>
  intro p m hn hm
  simp only [nmL]
  rw [pk_by rfl]
  cases m with
  | zero =>
   have : byA s p = -1 := by unfold byA; rw [if_neg (by omega)]
   simp only [this, true_or, if_true, nlE]
  | succ m =>
   simp only [nlE]
   by_cases hp : p < s.size
   . have hb : byA s p = (byteS s p : Int) := by unfold byA; rw [if_pos hp]
     by_cases h10 : byteS s p = 10
     . rw [if_pos (.inr (by rw [hb, h10]; rfl)), if_neg (by simp [h10])]
     . rw [if_neg (by rw [hb]; omega), if_pos ⟨hp, h10⟩]
       exact ih _ _ (by omega) (by omega)
   . have hb : byA s p = -1 := by unfold byA; rw [if_neg hp]
     rw [if_pos (.inl hb), if_neg (by simp [hp])]
theorem nmS_q {s : ByteArray} {R R' : RS} (q : Qr R R') (hp : R.pos <= s.size) : Qr (nmS s R) (exS s (nmY s R') 10) := by
 by_cases h : R.e = 0
 . rw [<- q.eq h]
   obtain ⟨p, e, ep⟩ := R
   simp only at h hp
   subst h
   unfold nmS nmY nmX
   rw [nl_q ep (s.size + 1 - p) p (s.size + 1) (by omega) (by omega)]
   have hk : nmK s ⟨p, 0, ep⟩ = nlE s (s.size + 1) p := rfl
   rw [hk]
   simp only
   by_cases h1 : nlE s (s.size + 1) p = p
   . rw [if_pos h1, if_pos h1, h1, if_neg (fl_bad (by omega))]
     exact Qr.refl _
   . rw [if_neg h1, if_neg h1]
     simp only [if_true]
     exact Qr.refl _
 . have h' := q.ne h
   have e1 : nmL (s.size + 1 - R.pos) s R = R := by
    cases hn : s.size + 1 - R.pos with
    | zero => rfl
    | succ n => simp only [nmL]; rw [if_pos (.inl (pk_ne h))]
   have e2 : nmX s R' = R' := by unfold nmX; split; exact fl_ne h' _ _; rfl
   unfold nmS nmY
   rw [e1, e2]
   simp only [if_true, fl_ne h, if_neg h']
   exact q.ex 10
theorem nm_q {s : ByteArray} {R : RS} (n : Nat) (hp : R.pos < s.size) : Qr (nmS s (exS s (if n <= (numS s ⟨R.pos + 1, R.e, R.ep⟩).1 then fl (numS s ⟨R.pos + 1, R.e, R.ep⟩).2 2 (R.pos + 1) else (numS s ⟨R.pos + 1, R.e, R.ep⟩).2) 32)) (nmF s n R) := by
 unfold nmF nmA
 simp only
 obtain ⟨q1, q2⟩ := wd_q (s := s) (Qr.refl (⟨R.pos + 1, R.e, R.ep⟩ : RS))
 have p1 := numS_pos (s := s) (R := ⟨R.pos + 1, R.e, R.ep⟩) (by simp only; omega)
 rw [q2]
 by_cases h : n <= (numS s ⟨R.pos + 1, R.e, R.ep⟩).1
 . rw [if_pos h, if_pos (by omega)]
   exact nmS_q ((q1.fl _ _).ex 32) (exS_pos 32 (by rw [fl_pos]; exact p1))
 . rw [if_neg h, if_neg (by omega)]
   exact nmS_q (q1.ex 32) (exS_pos 32 p1)
theorem syms_q {s : ByteArray} (D : HR) : ∀ (n : Nat) (R R' : RS), Qr R R' -> Qr (symsL n D.hd s R) (nmsL D s n R') := by
 intro n
 induction n with
 | zero => intro R R' q; exact q
 | succ n ih =>
  intro R R' q
  by_cases h : R.e = 0
  . have hq := q.eq h
    subst hq
    simp only [symsL, nmsL]
    by_cases hp : R.pos < s.size
    . rw [if_pos (c := R.pos < s.size /\ R.e = 0) ⟨hp, h⟩, if_pos (c := R.e = 0 /\ R.pos < s.size) ⟨h, hp⟩, pk_by h]
      have bad : ∀ (X : RS), X.e ≠ 0 -> symsL n D.hd s X = X := by
       intro X hX
       cases n with
       | zero => rfl
       | succ n => simp only [symsL]; rw [if_neg (by simp [hX])]
      unfold nmC
      by_cases c : byA s R.pos = 99
      . simp [c]; exact Qr.refl _
      . rw [if_neg c]
        unfold symS
        rw [pk_by h]
        by_cases i1 : byA s R.pos = 105
        . simp only [i1, true_or, if_true]
          exact ih _ _ (nm_q _ hp)
        by_cases i2 : byA s R.pos = 108
        . simp [i2]
          exact ih _ _ (nm_q _ hp)
        by_cases i3 : byA s R.pos = 111
        . simp [i3]
          exact ih _ _ (nm_q _ hp)
        by_cases i4 : byA s R.pos = 98
        . simp [i4]
          exact ih _ _ (nm_q _ hp)
        . simp only [i1, i2, i3, i4, or_self, if_false, c]
          rw [bad _ (fl_bad (by omega))]
          exact Qr.refl _
    . rw [if_neg (by simp [hp]), if_neg (by simp [hp])]
      exact Qr.refl _
  . have h' := q.ne h
    simp only [symsL, nmsL]
    rw [if_neg (by simp [h]), if_neg (by simp [h'])]
    exact q
theorem exS_0 {s : ByteArray} {R : RS} {b : Nat} (h : (exS s R b).e = 0) : R.e = 0 := by
 by_cases h1 : R.e = 0
 . exact h1
 . rw [exS_ne h1] at h; exact h
structure GD (m : Nat) (N : Net) (ds : List Us) : Prop where
 len : N.given.length = m + 1
 gv : ∀ l : Int, 0 <= l -> l <= 2 * m + 1 -> N.isGiven l = dfS ds l
 rg : ∀ u ∈ ds, 2 <= u.l /\ u.l <= 2 * m + 1
 nd : (ds.map fun u => u.l / 2).Nodup
theorem dfS_no {ds : List Us} {l : Int} (h : dfS ds l = false) : 2 <= l /\ ∀ u ∈ ds, u.l / 2 ≠ l / 2 := by
 unfold dfS at h
 simp only [Bool.or_eq_false_iff, List.any_eq_false, beq_iff_eq, decide_eq_false_iff_not] at h
 exact ⟨by omega, h.1⟩
theorem has_iff {N : Net} {m : Nat} (hl : N.given.length = m + 1) (l : Int) : N.has l = true ↔ 0 <= l /\ l <= 2 * m + 1 := by
 unfold Net.has
 rw [hl]
 simp only [Bool.and_eq_true, decide_eq_true_eq]
 omega
theorem give_of {N : Net} {l : Int} (h : N.has l = true) : N.give l = { N with given := N.given.set (l / 2).toNat true } := by
 unfold Net.give; rw [if_pos h]
theorem give_ln (N : Net) (l : Int) : (N.give l).given.length = N.given.length := by
 unfold Net.give; split
 . simp
 . rfl
theorem GD.give {m : Nat} {N : Net} {ds : List Us} (g : GD m N ds) {l : Int} (h0 : 0 <= l) (h1 : l <= 2 * m + 1) (hd : dfS ds l = false) (p : Nat) : GD m (N.give l) (ds ++ [⟨l, p⟩]) := by
 obtain ⟨h2, h3⟩ := dfS_no hd
 have hh : N.has l = true := (has_iff g.len l).2 ⟨h0, h1⟩
 rw [give_of hh]
 refine ⟨by simp [g.len], ?_, ?_, ?_⟩
 . intro k k0 k1
   have hk := g.gv k k0 k1
   have hhk : N.has k = true := (has_iff g.len k).2 ⟨k0, k1⟩
   have hhk' : Net.has { N with given := N.given.set (l / 2).toNat true } k = true := (has_iff (m := m) (by simp [g.len]) k).2 ⟨k0, k1⟩
   unfold Net.isGiven at hk ⊢
   rw [hhk, Bool.true_and] at hk
   rw [hhk', Bool.true_and]
   have e1 : dfS (ds ++ [⟨l, p⟩]) k = (dfS ds k || (l / 2 == k / 2)) := by
    unfold dfS
    simp only [List.any_append, List.any_cons, List.any_nil, Bool.or_false]
    cases ds.any (fun u => u.l / 2 == k / 2) <;> cases (l / 2 == k / 2) <;> simp
   rw [e1, <- hk]
   simp only
   by_cases he : l / 2 = k / 2
   . have : (l / 2 == k / 2) = true := by simpa using he
     rw [this, he, Bool.or_true, List.getElem?_set_self (by rw [g.len]; omega)]
     rfl
   . have : (l / 2 == k / 2) = false := by simpa using he
     rw [this, Bool.or_false, List.getElem?_set_ne (by omega)]
 . intro u hu
   rcases List.mem_append.1 hu with hu | hu
   . exact g.rg u hu
   . rw [List.mem_singleton.1 hu]; exact ⟨h2, h1⟩
 . rw [List.map_append]
   refine List.nodup_append.2 ⟨g.nd, by simp, ?_⟩
   intro a ha b hb
   simp only [List.map_cons, List.map_nil, List.mem_singleton] at hb
   subst hb
   obtain ⟨u, hu, rfl⟩ := List.mem_map.1 ha
   exact h3 u hu
theorem lit_q {s : ByteArray} {N : Net} {m : Nat} {R R' : RS} (hl : N.given.length = m + 1) (q : Qr R R') :
 Qr (litS N s R).2 (lwS m s R').2 /\ (R.e = 0 -> (litS N s R).1 = ⟨(lwS m s R').1.l, R'.pos⟩) /\ ((litS N s R).2.e = 0 -> 0 <= (litS N s R).1.l /\ (litS N s R).1.l <= 2 * m + 1) := by
 obtain ⟨q1, q2⟩ := wd_q (s := s) q
 unfold litS lwS
 simp only
 rw [q2]
 have hh := has_iff hl ((numS s R).1 : Int)
 refine ⟨?_, fun h => ?_, ?_⟩
 . by_cases h1 : N.has ((numS s R).1 : Int) = true
   . rw [if_pos h1, if_neg (by have := hh.1 h1; omega)]; exact q1
   . rw [if_neg h1, if_pos (by
      have : ¬ (0 <= ((numS s R).1 : Int) /\ ((numS s R).1 : Int) <= 2 * m + 1) := fun x => h1 (hh.2 x)
      omega)]
     by_cases h : R.e = 0
     . rw [q.eq h] at q1 ⊢; exact q1.fl _ _
     . rw [numS_bad h, wdS_bad (q.ne h), fl_ne h, fl_ne (q.ne h)]; exact q
 . rw [q.eq h]
 . intro h
   by_cases h1 : N.has ((numS s R).1 : Int) = true
   . exact hh.1 h1
   . rw [if_neg h1] at h; exact absurd h (fl_bad (by omega))
theorem def_q {s : ByteArray} {m : Nat} {N : Net} {F : FD} (g : GD m N F.defs) (e0 : F.R.e = 0) :
 Qr (defS N s F.R).2.2 (deS { F with R := (lwS m s F.R).2 } ⟨(lwS m s F.R).1.l, F.R.pos⟩).R /\ (defS N s F.R).1 = ⟨(lwS m s F.R).1.l, F.R.pos⟩ /\
  ((defS N s F.R).2.2.e = 0 -> deS { F with R := (lwS m s F.R).2 } ⟨(lwS m s F.R).1.l, F.R.pos⟩ = { F with R := (defS N s F.R).2.2, defs := F.defs ++ [(defS N s F.R).1] } /\ GD m (defS N s F.R).2.1 (F.defs ++ [(defS N s F.R).1]) /\ (∃ G, (defS N s F.R).2.1 = { N with given := G }) /\ 2 <= (defS N s F.R).1.l) /\ (defS N s F.R).2.1.given.length = m + 1 := by
 obtain ⟨q1, q2, q3⟩ := lit_q (s := s) g.len (Qr.refl F.R)
 have q2 := q2 e0
 have q9 := give_ln N (litS N s F.R).1.l
 rw [g.len] at q9
 unfold defS
 simp only
 rw [q2] at q3 q9 ⊢
 generalize hl : (lwS m s F.R).1.l = l at *
 generalize hA : (lwS m s F.R).2 = A at *
 generalize hB : (litS N s F.R).2 = B at *
 by_cases hB0 : B.e = 0
 . have hAB := q1.eq hB0
   subst hAB
   obtain ⟨r0, r1⟩ := q3 hB0
   have hgv := g.gv l r0 r1
   unfold deS deR
   simp only [hB0, if_true]
   rw [hgv]
   by_cases hx : dfS F.defs l = true \/ l % 2 = 1
   . rw [if_pos hx, if_pos (by rcases hx with h | h; exact .inr h; exact .inl h)]
     exact ⟨Qr.refl _, trivial, fun h => absurd h (fl_bad (by omega)), q9⟩
   . rw [if_neg hx, if_neg (by intro h; exact hx (by rcases h with h | h; exact .inr h; exact .inl h))]
     have hdf : dfS F.defs l = false := by
      cases hd : dfS F.defs l with
      | false => rfl
      | true => exact absurd (.inl hd) hx
     exact ⟨Qr.refl _, trivial, fun _ => ⟨rfl, g.give r0 r1 hdf _, ⟨_, give_of ((has_iff g.len l).2 ⟨r0, r1⟩)⟩, (dfS_no hdf).1⟩, q9⟩
 . have hA0 : A.e ≠ 0 := q1.ne hB0
   unfold deS
   simp only [hA0, if_false, fl_ne hB0, ite_self]
   exact ⟨q1, trivial, fun h => absurd h hB0, q9⟩
structure NR (D : HR) (N : Net) (F : FD) : Prop where
 hd : F.hd = D
 gd : GD D.m N F.defs
 sp : ∃ ds, F.defs = ds ++ N.gates.map (·.g) /\ ds.map Us.l = N.ins ++ N.las.map (·.l)
 n : N.las.map (·.n) = F.next
 z : N.las.map (·.z) = F.resets
 o : N.outs = F.outs
 b : N.bads = F.bads
 l : N.gates.map (·.a) = F.left
 r : N.gates.map (·.b) = F.right
 rn : ∀ u ∈ F.next, 0 <= u.l /\ u.l <= 2 * D.m + 1
 ro : ∀ u ∈ F.outs, 0 <= u.l /\ u.l <= 2 * D.m + 1
 rb : ∀ u ∈ F.bads, 0 <= u.l /\ u.l <= 2 * D.m + 1
 rl : ∀ u ∈ F.left, 0 <= u.l /\ u.l <= 2 * D.m + 1
 rr : ∀ u ∈ F.right, 0 <= u.l /\ u.l <= 2 * D.m + 1
 bi : D.bin = true -> ∀ u ∈ F.defs, u.l <= 2 * F.defs.length
 rz : ∀ x ∈ N.las, x.z <= 2
theorem NR.dlen {D : HR} {N : Net} {F : FD} (h : NR D N F) : F.defs.length = N.ins.length + N.las.length + N.gates.length := by
 obtain ⟨ds, h1, h2⟩ := h.sp
 have := congrArg List.length h2
 simp at this
 rw [h1]; simp; omega
theorem mem_app {P : Us -> Prop} {l : List Us} {x : Us} (h : ∀ u ∈ l, P u) (hx : P x) : ∀ u ∈ l ++ [x], P u := by
 intro u hu
 rcases List.mem_append.1 hu with hu | hu
 . exact h u hu
 . rw [List.mem_singleton.1 hu]; exact hx
theorem bi_app {ds : List Us} {u : Us} (h : ∀ v ∈ ds, v.l <= 2 * (ds.length : Int)) (hu : u.l <= 2 * ((ds.length : Int) + 1)) : ∀ v ∈ ds ++ [u], v.l <= 2 * ((ds ++ [u]).length : Int) := by
 refine mem_app (fun v hv => ?_) ?_
 . have := h v hv; simp; omega
 . simp; omega
theorem NR.insA {D : HR} {N : Net} {F : FD} (h : NR D N F) (hl : N.las = []) (hg : N.gates = []) (G : List Bool) (u : Us) (gd : GD D.m { N with given := G } (F.defs ++ [u])) (hb : D.bin = true -> u.l <= 2 * ((F.defs.length : Int) + 1)) (R : RS) :
 NR D { N with given := G, ins := N.ins ++ [u.l] } { F with R := R, defs := F.defs ++ [u] } := by
 obtain ⟨a1, a2, ⟨ds, a3, a3'⟩, a4, a5, a6, a7, a8, a9, b1, b2, b3, b4, b5, b6, b7⟩ := h
 refine ⟨a1, ⟨gd.len, gd.gv, gd.rg, gd.nd⟩, ⟨ds ++ [u], ?_, ?_⟩, a4, a5, a6, a7, a8, a9, b1, b2, b3, b4, b5, fun h => bi_app (b6 h) (hb h), b7⟩
 . simp only [a3, hg]; simp
 . simp only [List.map_append, a3', hl]; simp
theorem NR.lasA {D : HR} {N : Net} {F : FD} (h : NR D N F) (hg : N.gates = []) (G : List Bool) (u : Us) (gd : GD D.m { N with given := G } (F.defs ++ [u])) (hb : D.bin = true -> u.l <= 2 * ((F.defs.length : Int) + 1)) (x : Us) (hx : 0 <= x.l /\ x.l <= 2 * D.m + 1) (z : Nat) (hz : z <= 2) (R : RS) :
 NR D { N with given := G, las := N.las ++ [⟨u.l, x, z⟩] } { F with R := R, defs := F.defs ++ [u], next := F.next ++ [x], resets := F.resets ++ [z] } := by
 obtain ⟨a1, a2, ⟨ds, a3, a3'⟩, a4, a5, a6, a7, a8, a9, b1, b2, b3, b4, b5, b6, b7⟩ := h
 refine ⟨a1, ⟨gd.len, gd.gv, gd.rg, gd.nd⟩, ⟨ds ++ [u], ?_, ?_⟩, by simp [a4], by simp [a5], a6, a7, a8, a9, mem_app b1 hx, b2, b3, b4, b5, fun h => bi_app (b6 h) (hb h), fun y hy => ?_⟩
 . simp only [a3, hg]; simp
 . simp only [List.map_append, a3']; simp
 . rcases List.mem_append.1 hy with hy | hy
   . exact b7 y hy
   . rw [List.mem_singleton.1 hy]; exact hz
theorem NR.gatA {D : HR} {N : Net} {F : FD} (h : NR D N F) (G : List Bool) (u : Us) (gd : GD D.m { N with given := G } (F.defs ++ [u])) (hb : D.bin = true -> u.l <= 2 * ((F.defs.length : Int) + 1)) (x y : Us) (hx : 0 <= x.l /\ x.l <= 2 * D.m + 1) (hy : 0 <= y.l /\ y.l <= 2 * D.m + 1) (R : RS) :
 NR D { N with given := G, gates := N.gates ++ [⟨u, x, y⟩] } { F with R := R, defs := F.defs ++ [u], left := F.left ++ [x], right := F.right ++ [y] } := by
 obtain ⟨a1, a2, ⟨ds, a3, a3'⟩, a4, a5, a6, a7, a8, a9, b1, b2, b3, b4, b5, b6, b7⟩ := h
 refine ⟨a1, ⟨gd.len, gd.gv, gd.rg, gd.nd⟩, ⟨ds, ?_, a3'⟩, a4, a5, a6, a7, by simp [a8], by simp [a9], b1, b2, b3, mem_app b4 hx, mem_app b5 hy, fun h => bi_app (b6 h) (hb h), b7⟩
 simp only [a3]; simp
theorem NR.setR {D : HR} {N : Net} {F : FD} (h : NR D N F) (R : RS) : NR D N { F with R := R } := by
 obtain ⟨a1, a2, a3, a4, a5, a6, a7, a8, a9, b1, b2, b3, b4, b5, b6, b7⟩ := h
 exact ⟨a1, a2, a3, a4, a5, a6, a7, a8, a9, b1, b2, b3, b4, b5, b6, b7⟩
def Sr (D : HR) (P : Net -> Prop) (x : Net × RS) (F : FD) : Prop := Qr x.2 F.R /\ (x.2.e = 0 -> NR D x.1 F /\ P x.1)
theorem it_q {D : HR} {P : Nat -> Net -> Prop} {f : Nat -> Net × RS -> Net × RS} {g : Nat -> FD -> FD} {J : Nat} (hz : ∀ j x, x.2.e ≠ 0 -> (f j x).2 = x.2)
 (hs : ∀ j N F, j < J -> NR D N F -> P j N -> F.R.e = 0 -> Sr D (P (j + 1)) (f j (N, F.R)) (g j F)) :
 ∀ (m j : Nat) (x : Net × RS) (F : FD), j + m <= J -> Sr D (P j) x F -> Sr D (P (j + m)) (itK f j m x) (itE g j m F) := by
 intro m
 induction m with
 | zero => intro j x F hj h; exact h
 | succ m ih =>
  intro j x F hj h
  obtain ⟨N, R⟩ := x
  obtain ⟨q, h2⟩ := h
  simp only at q h2
  simp only [itK, itE]
  by_cases he : R.e = 0
  . obtain ⟨h3, h4⟩ := h2 he
    have hq := q.eq he
    subst hq
    rw [if_pos he]
    have := ih (j + 1) _ _ (by omega) (hs j N F (by omega) h3 h4 he)
    rw [show j + (m + 1) = j + 1 + m by omega]
    exact this
  . rw [if_neg (q.ne he)]
    have h5 := hz j (N, R) he
    have h6 : Sr D (P (j + 1)) (f j (N, R)) F := ⟨by rw [h5]; exact q, fun h => absurd (by rw [h5] at h; exact h) he⟩
    have h7 := ih (j + 1) _ _ (by omega) h6
    have h8 : itE g (j + 1) m F = F := by
     cases m with
     | zero => rfl
     | succ m => simp only [itE]; rw [if_neg (q.ne he)]
    rw [h8] at h7
    rw [show j + (m + 1) = j + 1 + m by omega]
    exact h7
theorem litS_ne {N : Net} {s : ByteArray} {R : RS} (h : R.e ≠ 0) : (litS N s R).2 = R := by
 unfold litS; simp only; rw [numS_bad h]; split
 . rfl
 . exact fl_ne h _ _
theorem defS_ne {N : Net} {s : ByteArray} {R : RS} (h : R.e ≠ 0) : (defS N s R).2.2 = R := by
 unfold defS; simp only; rw [litS_ne h, fl_ne h, ite_self]
theorem laZ_ne {own : Int} {s : ByteArray} {R : RS} (h : R.e ≠ 0) : laZ own s R = (0, R) := by
 unfold laZ; rw [pk_ne h, if_neg (by omega)]
theorem laS_ne {N : Net} {s : ByteArray} {R : RS} {own : Int} (h : R.e ≠ 0) : (laS N s R own).2 = R := by
 unfold laS; simp only; rw [litS_ne h, laZ_ne h]; exact exS_ne h _
theorem insF_ne (s : ByteArray) (j : Nat) (x : Net × RS) (h : x.2.e ≠ 0) : (insF s j x).2 = x.2 := by
 unfold insF; simp only; rw [defS_ne h, exS_ne h]
theorem lasF_ne (s : ByteArray) (j : Nat) (x : Net × RS) (h : x.2.e ≠ 0) : (lasF s j x).2 = x.2 := by
 unfold lasF; simp only; rw [defS_ne h, exS_ne h]; exact laS_ne h
theorem gtsF_ne (s : ByteArray) (j : Nat) (x : Net × RS) (h : x.2.e ≠ 0) : (gtsF s j x).2 = x.2 := by
 unfold gtsF pgS; simp only; rw [defS_ne h, exS_ne h, litS_ne h, exS_ne h, litS_ne h, exS_ne h]
theorem insB_ne (j : Nat) (x : Net × RS) (h : x.2.e ≠ 0) : (insB j x).2 = x.2 := rfl
theorem lasB_ne (D : HD) (s : ByteArray) (j : Nat) (x : Net × RS) (h : x.2.e ≠ 0) : (lasB D s j x).2 = x.2 := by
 unfold lasB; exact laS_ne h
theorem diS_ne {s : ByteArray} {R : RS} (h : R.e ≠ 0) : diS s R = (0, R) := by
 have h1 : bbS s R 256 = (0, R) := by unfold bbS; rw [if_pos (.inl (pk_ne h)), fl_ne h]
 unfold diS; simp only; rw [h1]; simp
theorem gtsB_ne (D : HD) (s : ByteArray) (j : Nat) (x : Net × RS) (h : x.2.e ≠ 0) : (gtsB D s j x).2 = x.2 := by
 unfold gtsB bgS bgA bgB; simp only; rw [diS_ne h]; simp only [fl_ne h, ite_self]; rw [diS_ne h]; simp only [fl_ne h, ite_self]
theorem prL_ne {s : ByteArray} {N : Net} : ∀ (k : Nat) (R : RS) (l : List Us), R.e ≠ 0 -> (prL k N s R l).2 = R := by
 intro k
 induction k with
 | zero => intro R l h; rfl
 | succ k ih => intro R l h; simp only [prL]; rw [litS_ne h, exS_ne h]; exact ih _ _ h
end Go.Proofs.YtlakdngplpabdaaGreatDoor
namespace Go.Proofs.YtlakdngplpabdaaGreatDoor
set_option linter.unusedSimpArgs false
set_option linter.unusedVariables false
set_option maxHeartbeats 400000
theorem litS_0 {N : Net} {s : ByteArray} {R : RS} (h : (litS N s R).2.e = 0) : R.e = 0 := by
 by_cases h1 : R.e = 0
 . exact h1
 . rw [litS_ne h1] at h; exact h
theorem lwS_ne {m : Nat} {s : ByteArray} {R : RS} (h : R.e ≠ 0) : (lwS m s R).2 = R := by
 unfold lwS; simp only; rw [wdS_bad h]; simp only [fl_ne h, ite_self]
theorem laW_ne {ul : Int} {s : ByteArray} {R : RS} (h : R.e ≠ 0) : (laW s ul R).2 = R := by
 unfold laW
 split
 . simp only [exS_ne h, wdS_bad h, fl_ne h, ite_self]
   split <;> rfl
 . rfl
theorem ins_q {s : ByteArray} {D : HR} (hb : D.bin = false) (j : Nat) (N : Net) (F : FD) (h : NR D N F) (hp : N.las = [] /\ N.gates = []) (e0 : F.R.e = 0) :
 Sr D (fun N => N.las = [] /\ N.gates = []) (insF s j (N, F.R)) (bdI s j F) := by
 have hhd := h.hd
 subst hhd
 obtain ⟨q, e1, e2, e5⟩ := def_q (s := s) h.gd e0
 unfold insF bdI
 rw [if_neg (by simp [hb])]
 simp only
 generalize deS { F with R := (lwS F.hd.m s F.R).2 } ⟨(lwS F.hd.m s F.R).1.l, F.R.pos⟩ = F1 at q e2 ⊢
 generalize defS N s F.R = d at q e1 e2 e5 ⊢
 refine ⟨q.ex 10, fun h0 => ?_⟩
 obtain ⟨e3, gd, ⟨G, e4⟩, _⟩ := e2 (exS_0 h0)
 rw [e3]
 simp only
 rw [e4] at gd ⊢
 exact ⟨h.insA hp.1 hp.2 G _ gd (fun h' => by rw [hb] at h'; exact absurd h' (by simp)) _, hp⟩
theorem laZ_le (own : Int) (s : ByteArray) (R : RS) : (laZ own s R).1 <= 2 := by
 unfold laZ rsS
 split
 . simp only
   split
   . simp
   . split
     . simp
     . split <;> simp
 . simp
theorem laZ_q {s : ByteArray} {own : Int} {R R' : RS} (q : Qr R R') (ho : R.e = 0 -> 2 <= own) : Qr (laZ own s R).2 (laW s own R').2 /\ ((laZ own s R).2.e = 0 -> R.e = 0 /\ (laZ own s R).1 = (laW s own R').1) := by
 by_cases h : R.e = 0
 . have hq := q.eq h
   subst hq
   have ho := ho h
   unfold laZ laW
   rw [pk_by h]
   by_cases h32 : byA s R.pos = 32
   . rw [if_pos h32, if_pos h32]
     have e1 : exS s R 32 = ⟨R.pos + 1, R.e, R.ep⟩ := by unfold exS; rw [if_pos (by rw [pk_by h, h32]; rfl)]
     rw [e1]
     obtain ⟨q1, q2⟩ := wd_q (s := s) (Qr.refl (⟨R.pos + 1, R.e, R.ep⟩ : RS))
     unfold rsS
     simp only
     rw [q2]
     generalize hA : (numS s ⟨R.pos + 1, R.e, R.ep⟩).1 = a at *
     by_cases a0 : a = 0
     . subst a0
       rw [if_pos rfl, if_neg (by omega), if_neg (by omega)]
       exact ⟨q1, fun _ => ⟨h, rfl⟩⟩
     . rw [if_neg a0]
       by_cases a1 : a = 1
       . subst a1
         rw [if_pos rfl, if_neg (by omega), if_neg (by omega)]
         exact ⟨q1, fun _ => ⟨h, rfl⟩⟩
       . rw [if_neg a1]
         by_cases a2 : (a : Int) = own
         . rw [if_pos a2, if_pos a2]
           exact ⟨q1, fun _ => ⟨h, rfl⟩⟩
         . rw [if_neg a2, if_neg a2, if_pos (by omega)]
           exact ⟨q1.fl _ _, fun h' => absurd h' (fl_bad (by omega))⟩
   . rw [if_neg h32, if_neg h32]
     exact ⟨Qr.refl _, fun _ => ⟨h, rfl⟩⟩
 . rw [laZ_ne h, laW_ne (q.ne h)]
   exact ⟨q, fun h' => absurd h' h⟩
theorem la_q {s : ByteArray} {D : HR} {N : Net} {F : FD} (h : NR D N F) (hg : N.gates = []) (u : Us) (N' : Net) (R : RS) (F' : FD) (q : Qr R F'.R)
 (hi : R.e = 0 -> ∃ G, N' = { N with given := G } /\ F' = { F with R := F'.R, defs := F.defs ++ [u] } /\ GD D.m { N with given := G } (F.defs ++ [u]) /\ 2 <= u.l) (hb : D.bin = true -> u.l <= 2 * ((F.defs.length : Int) + 1)) :
 Qr (laS N' s R u.l).2 (laQ s u.l (laN s F')).R /\ ((laS N' s R u.l).2.e = 0 -> NR D (laS N' s R u.l).1 (laQ s u.l (laN s F')) /\ (laS N' s R u.l).1.gates = [] /\ (laS N' s R u.l).1.ins = N.ins /\ (laS N' s R u.l).1.las.length = N.las.length + 1) := by
 have hhd := h.hd
 subst hhd
 by_cases he : R.e = 0
 . obtain ⟨G, rfl, hF, gd, hu⟩ := hi he
   clear hi
   obtain ⟨R', hR'⟩ : ∃ R', R' = F'.R := ⟨_, rfl⟩
   rw [<- hR'] at q hF
   subst hF
   have hq := q.eq he
   subst hq
   obtain ⟨q1, q2, q3⟩ := lit_q (s := s) (N := { N with given := G }) (m := F.hd.m) gd.len (Qr.refl R)
   obtain ⟨q4, q5⟩ := laZ_q (s := s) (own := u.l) q1 (fun _ => hu)
   have hz := laZ_le u.l s (litS { N with given := G } s R).2
   unfold laS laQ laN
   simp only
   generalize lwS F.hd.m s R = A at q1 q2 q4 q5 ⊢
   generalize litS { N with given := G } s R = B at q1 q2 q3 q4 q5 hz ⊢
   generalize laZ u.l s B.2 = Z at q4 q5 hz ⊢
   generalize laW s u.l A.2 = W at q4 q5 ⊢
   refine ⟨q4.ex 10, fun h0 => ?_⟩
   obtain ⟨h1, h2⟩ := q5 (exS_0 h0)
   have q2 := q2 he
   rw [h2] at hz
   have q3 := q3 h1
   rw [q2] at q3
   have key := h.lasA hg G u gd hb _ q3 _ hz (exS s W.2 10)
   refine ⟨?_, hg, trivial, by simp⟩
   rw [h2, q2]
   exact key
 . have he' := q.ne he
   have e1 : (laQ s u.l (laN s F')).R = F'.R := by
    unfold laQ laN
    simp only
    rw [lwS_ne he', laW_ne he', exS_ne he']
   rw [e1, laS_ne he]
   exact ⟨q, fun h' => absurd h' he⟩
theorem las_q {s : ByteArray} {D : HR} (hb : D.bin = false) (j : Nat) (N : Net) (F : FD) (h : NR D N F) (hp : N.gates = []) (e0 : F.R.e = 0) :
 Sr D (fun N => N.gates = []) (lasF s j (N, F.R)) (bdL s j F) := by
 have hhd := h.hd
 subst hhd
 obtain ⟨q, e1, e2, e5⟩ := def_q (s := s) h.gd e0
 unfold lasF bdL bdU
 rw [if_neg (by simp [hb])]
 simp only
 generalize deS { F with R := (lwS F.hd.m s F.R).2 } ⟨(lwS F.hd.m s F.R).1.l, F.R.pos⟩ = F1 at q e2 ⊢
 generalize (lwS F.hd.m s F.R).1.l = ul at e1 ⊢
 generalize defS N s F.R = d at q e1 e2 e5 ⊢
 rw [e1]
 have key := la_q (s := s) h hp ⟨ul, F.R.pos⟩ d.2.1 (exS s d.2.2 32) { F1 with R := exS s F1.R 32 } (q.ex 32) (fun h0 => by
  obtain ⟨e3, gd, ⟨G, e4⟩, e6⟩ := e2 (exS_0 h0)
  rw [e1] at e3 gd e6
  rw [e4] at gd
  exact ⟨G, e4, by rw [e3], gd, e6⟩) (fun h' => by rw [hb] at h'; exact absurd h' (by simp))
 exact ⟨key.1, fun h0 => ⟨(key.2 h0).1, (key.2 h0).2.1⟩⟩
theorem gts_q {s : ByteArray} {D : HR} (hb : D.bin = false) (j : Nat) (N : Net) (F : FD) (h : NR D N F) (hp : True) (e0 : F.R.e = 0) :
 Sr D (fun _ => True) (gtsF s j (N, F.R)) (adF s j F) := by
 have hhd := h.hd
 subst hhd
 obtain ⟨q, e1, e2, e5⟩ := def_q (s := s) h.gd e0
 unfold gtsF adF
 rw [if_neg (by simp [hb])]
 unfold pgS adP
 simp only
 generalize deS { F with R := (lwS F.hd.m s F.R).2 } ⟨(lwS F.hd.m s F.R).1.l, F.R.pos⟩ = F1 at q e2 ⊢
 generalize (lwS F.hd.m s F.R).1.l = ul at e1
 generalize defS N s F.R = d at q e1 e2 e5 ⊢
 have q1 := q.ex (s := s) 32
 obtain ⟨a1, a2, a3⟩ := lit_q (s := s) e5 q1
 have a4 := a1.ex (s := s) 32
 obtain ⟨b1, b2, b3⟩ := lit_q (s := s) e5 a4
 have i1 : (exS s d.2.2 32).e = 0 -> d.2.2.e = 0 := exS_0
 have i2 : (litS d.2.1 s (exS s d.2.2 32)).2.e = 0 -> (exS s d.2.2 32).e = 0 := litS_0
 have i3 : (exS s (litS d.2.1 s (exS s d.2.2 32)).2 32).e = 0 -> (litS d.2.1 s (exS s d.2.2 32)).2.e = 0 := exS_0
 have i4 : (litS d.2.1 s (exS s (litS d.2.1 s (exS s d.2.2 32)).2 32)).2.e = 0 -> (exS s (litS d.2.1 s (exS s d.2.2 32)).2 32).e = 0 := litS_0
 generalize exS s d.2.2 32 = c1 at q1 a1 a2 a3 a4 b1 b2 b3 i1 i2 i3 i4 ⊢
 generalize exS s F1.R 32 = C1 at q1 a1 a2 a4 b1 b2 ⊢
 generalize litS d.2.1 s c1 = A at a1 a2 a3 a4 b1 b2 b3 i2 i3 i4 ⊢
 generalize lwS F.hd.m s C1 = A' at a1 a2 a4 b1 b2 ⊢
 generalize exS s A.2 32 = c2 at a4 b1 b2 b3 i3 i4 ⊢
 generalize exS s A'.2 32 = C2 at a4 b1 b2 ⊢
 generalize litS d.2.1 s c2 = B at b1 b2 b3 i4 ⊢
 generalize lwS F.hd.m s C2 = B' at b1 b2 ⊢
 refine ⟨b1.ex 10, fun h0 => ⟨?_, trivial⟩⟩
 have h1 := exS_0 h0
 have h2 := i4 h1
 have h3 := i3 h2
 have h4 := i2 h3
 obtain ⟨e3, gd, ⟨G, e4⟩, e6⟩ := e2 (i1 h4)
 have a3 := a3 h3
 have b3 := b3 h1
 have a2 := a2 h4
 have b2 := b2 h2
 rw [a2] at a3
 rw [b2] at b3
 rw [e4] at gd
 have key := h.gatA G _ gd (fun h' => by rw [hb] at h'; exact absurd h' (by simp)) _ _ a3 b3 (exS s B'.2 10)
 simp only
 rw [e3, e4, a2, b2]
 exact key
theorem prO_q {s : ByteArray} {D : HR} {N : Net} (hl : N.given.length = D.m + 1) : ∀ (k j : Nat) (R : RS) (F : FD) (l : List Us), Qr R F.R -> F.hd = D -> (R.e = 0 -> F.outs = l /\ ∀ u ∈ l, 0 <= u.l /\ u.l <= 2 * D.m + 1) ->
 Qr (prL k N s R l).2 (itE (bdO s) j k F).R /\ ((prL k N s R l).2.e = 0 -> itE (bdO s) j k F = { F with R := (prL k N s R l).2, outs := (prL k N s R l).1 } /\ R.e = 0 /\ ∀ u ∈ (prL k N s R l).1, 0 <= u.l /\ u.l <= 2 * D.m + 1) := by
 intro k
 induction k with
 | zero =>
  intro j R F l q hF hi
  refine ⟨q, fun h0 => ?_⟩
  obtain ⟨h1, h2⟩ := hi h0
  refine ⟨?_, h0, h2⟩
  simp only [itE, prL]
  rw [q.eq h0, <- h1]
 | succ k ih =>
  intro j R F l q hF hi
  by_cases he : R.e = 0
  . have hq := q.eq he
    obtain ⟨h1, h2⟩ := hi he
    obtain ⟨a1, a2, a3⟩ := lit_q (s := s) hl (Qr.refl R)
    have a2 := a2 he
    simp only [prL, itE]
    rw [if_pos (by rw [<- hq]; exact he)]
    have := ih (j + 1) (exS s (litS N s R).2 10) (bdO s j F) (l ++ [(litS N s R).1]) (by unfold bdO; simp only; rw [hF, <- hq]; exact a1.ex 10) hF (fun h0 => by
     refine ⟨?_, mem_app h2 (a3 (exS_0 h0))⟩
     unfold bdO; simp only; rw [hF, <- hq, h1, a2])
    refine ⟨this.1, fun h0 => ?_⟩
    obtain ⟨b1, b2, b3⟩ := this.2 h0
    exact ⟨by rw [b1]; rfl, he, b3⟩
  . have he' := q.ne he
    simp only [itE]
    rw [if_neg he', prL_ne _ _ _ he]
    exact ⟨q, fun h0 => absurd h0 he⟩
theorem prB_q {s : ByteArray} {D : HR} {N : Net} (hl : N.given.length = D.m + 1) : ∀ (k j : Nat) (R : RS) (F : FD) (l : List Us), Qr R F.R -> F.hd = D -> (R.e = 0 -> F.bads = l /\ ∀ u ∈ l, 0 <= u.l /\ u.l <= 2 * D.m + 1) ->
 Qr (prL k N s R l).2 (itE (bdB s) j k F).R /\ ((prL k N s R l).2.e = 0 -> itE (bdB s) j k F = { F with R := (prL k N s R l).2, bads := (prL k N s R l).1 } /\ R.e = 0 /\ ∀ u ∈ (prL k N s R l).1, 0 <= u.l /\ u.l <= 2 * D.m + 1) := by
 intro k
 induction k with
 | zero =>
  intro j R F l q hF hi
  refine ⟨q, fun h0 => ?_⟩
  obtain ⟨h1, h2⟩ := hi h0
  refine ⟨?_, h0, h2⟩
  simp only [itE, prL]
  rw [q.eq h0, <- h1]
 | succ k ih =>
  intro j R F l q hF hi
  by_cases he : R.e = 0
  . have hq := q.eq he
    obtain ⟨h1, h2⟩ := hi he
    obtain ⟨a1, a2, a3⟩ := lit_q (s := s) hl (Qr.refl R)
    have a2 := a2 he
    simp only [prL, itE]
    rw [if_pos (by rw [<- hq]; exact he)]
    have := ih (j + 1) (exS s (litS N s R).2 10) (bdB s j F) (l ++ [(litS N s R).1]) (by unfold bdB; simp only; rw [hF, <- hq]; exact a1.ex 10) hF (fun h0 => by
     refine ⟨?_, mem_app h2 (a3 (exS_0 h0))⟩
     unfold bdB; simp only; rw [hF, <- hq, h1, a2])
    refine ⟨this.1, fun h0 => ?_⟩
    obtain ⟨b1, b2, b3⟩ := this.2 h0
    exact ⟨by rw [b1]; rfl, he, b3⟩
  . have he' := q.ne he
    simp only [itE]
    rw [if_neg he', prL_ne _ _ _ he]
    exact ⟨q, fun h0 => absurd h0 he⟩
theorem itE_ne {f : Nat -> FD -> FD} {j m : Nat} {F : FD} (h : F.R.e ≠ 0) : itE f j m F = F := by
 cases m with
 | zero => rfl
 | succ m => simp only [itE]; rw [if_neg h]
theorem pr_q {s : ByteArray} {D : HR} {P : Net -> Prop} (hP : ∀ N o b, P N -> P { N with outs := o, bads := b }) (x : Net × RS) (F : FD) (h : Sr D P x F) (ho : x.2.e = 0 -> x.1.outs = [] /\ x.1.bads = []) :
 Sr D P (prF s D.hd x) (itE (bdB s) 0 D.nbs (itE (bdO s) 0 D.nou F)) := by
 obtain ⟨N, R⟩ := x
 obtain ⟨q, h2⟩ := h
 simp only at q h2 ho
 unfold prF
 by_cases he : R.e = 0
 . obtain ⟨nr, hp⟩ := h2 he
   obtain ⟨ho1, ho2⟩ := ho he
   obtain ⟨a1, a2⟩ := prO_q (s := s) nr.gd.len D.nou 0 R F [] q nr.hd (fun _ => ⟨by rw [<- nr.o, ho1], by simp⟩)
   have hhd : (itE (bdO s) 0 D.nou F).hd = D \/ (prL D.nou N s R []).2.e ≠ 0 := by
    by_cases h0 : (prL D.nou N s R []).2.e = 0
    . left; rw [(a2 h0).1]; exact nr.hd
    . exact .inr h0
   rcases hhd with hhd | hhd
   . obtain ⟨b1, b2⟩ := prB_q (s := s) (N := { N with outs := (prL D.nou N s R []).1 }) nr.gd.len D.nbs 0 (prL D.nou N s R []).2 (itE (bdO s) 0 D.nou F) [] a1 hhd (fun h0 => ⟨by rw [(a2 h0).1]; rw [<- ho2, nr.b], by simp⟩)
     refine ⟨b1, fun h0 => ?_⟩
     obtain ⟨c1, c2, c3⟩ := b2 h0
     obtain ⟨d1, d2, d3⟩ := a2 c2
     simp only at h0 ⊢
     rw [c1, d1]
     refine ⟨?_, hP _ _ _ hp⟩
     obtain ⟨a1, a2, ⟨ds, a3, a3'⟩, a4, a5, a6, a7, a8, a9, b1, b2, b3, b4, b5, b6, b7⟩ := nr
     exact ⟨a1, ⟨a2.len, a2.gv, a2.rg, a2.nd⟩, ⟨ds, a3, a3'⟩, a4, a5, rfl, rfl, a8, a9, b1, d3, c3, b4, b5, b6, b7⟩
   . have e1 : (prL D.nbs { N with outs := (prL D.nou N s R []).1 } s (prL D.nou N s R []).2 []).2 = (prL D.nou N s R []).2 := prL_ne _ _ _ hhd
     simp only [Sr]
     have : (prL D.hd.nbs { N with outs := (prL D.hd.nou N s R []).1 } s (prL D.hd.nou N s R []).2 []).2 = (prL D.nou N s R []).2 := e1
     rw [this, itE_ne (a1.ne hhd)]
     exact ⟨a1, fun h0 => absurd h0 hhd⟩
 . have e1 : (prL D.hd.nou N s R []).2 = R := prL_ne _ _ _ he
   simp only [Sr]
   rw [e1, prL_ne _ _ _ he, itE_ne (F := F) (q.ne he), itE_ne (q.ne he)]
   exact ⟨q, fun h0 => absurd h0 he⟩
end Go.Proofs.YtlakdngplpabdaaGreatDoor
