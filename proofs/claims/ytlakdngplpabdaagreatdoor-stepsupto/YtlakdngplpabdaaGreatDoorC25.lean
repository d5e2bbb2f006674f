/- Own work. -/
import Derived.Test.YtlakdngplpabdaaGreatDoorC24
namespace Go.Proofs.YtlakdngplpabdaaGreatDoor
set_option linter.unusedSimpArgs false
set_option linter.unusedVariables false
set_option maxHeartbeats 1000000
theorem de_bin {D : HR} {N : Net} {F : FD} (h : NR D N F) (hb : D.bin = true) (e0 : F.R.e = 0) (R : RS) (hR : R.e = 0) (l : Int) (hl : l = 2 * ((F.defs.length : Int) + 1)) (hm : F.defs.length + 1 <= D.m) (p : Nat) :
 deS { F with R := R } ⟨l, p⟩ = { F with R := R, defs := F.defs ++ [⟨l, p⟩] } /\ GD D.m (N.give l) (F.defs ++ [⟨l, p⟩]) /\ ∃ G, N.give l = { N with given := G } := by
 have hdf : dfS F.defs l = false := by
  unfold dfS
  simp only [Bool.or_eq_false_iff, List.any_eq_false, beq_iff_eq, decide_eq_false_iff_not]
  refine ⟨fun u hu => ?_, by omega⟩
  have := h.bi hb u hu
  omega
 refine ⟨?_, h.gd.give (by omega) (by omega) hdf _, ⟨_, give_of ((has_iff h.gd.len l).2 ⟨by omega, by omega⟩)⟩⟩
 unfold deS deR
 simp only [hR, if_true, hdf]
 rw [if_neg (by simp; omega)]
theorem insB_q {s : ByteArray} {D : HR} (hb : D.bin = true) (hm : D.nin <= D.m) (j : Nat) (N : Net) (F : FD) (hj : j < D.nin) (h : NR D N F) (hp : N.las = [] /\ N.gates = [] /\ N.ins.length = j) (e0 : F.R.e = 0) :
 Sr D (fun N => N.las = [] /\ N.gates = [] /\ N.ins.length = j + 1) (insB j (N, F.R)) (bdI s j F) := by
 obtain ⟨hp1, hp2, hp3⟩ := hp
 have hd := h.dlen
 rw [hp1, hp2, hp3] at hd
 simp only [List.length_nil] at hd
 obtain ⟨e1, gd, G, e2⟩ := de_bin h hb e0 F.R e0 ((2 * (1 + j) : Nat) : Int) (by omega) (by omega) 0
 unfold insB bdI
 rw [h.hd, if_pos hb]
 have e3 : deS F ⟨((2 + 2 * j : Nat) : Int), 0⟩ = { F with R := F.R, defs := F.defs ++ [⟨((2 * (1 + j) : Nat) : Int), 0⟩] } := by
  rw [show 2 + 2 * j = 2 * (1 + j) by omega]; exact e1
 rw [e3]
 refine ⟨Qr.refl _, fun _ => ?_⟩
 simp only
 rw [e2] at gd ⊢
 exact ⟨h.insA hp1 hp2 G ⟨((2 * (1 + j) : Nat) : Int), 0⟩ gd (fun _ => by simp only; omega) _, hp1, hp2, by simp [hp3]⟩
theorem lasB_q {s : ByteArray} {D : HR} (hb : D.bin = true) (hm : D.nin + D.nla <= D.m) (j : Nat) (N : Net) (F : FD) (hj : j < D.nla) (h : NR D N F) (hp : N.gates = [] /\ N.ins.length = D.nin /\ N.las.length = j) (e0 : F.R.e = 0) :
 Sr D (fun N => N.gates = [] /\ N.ins.length = D.nin /\ N.las.length = j + 1) (lasB D.hd s j (N, F.R)) (bdL s j F) := by
 obtain ⟨hp1, hp2, hp3⟩ := hp
 have hd := h.dlen
 rw [hp1, hp2, hp3] at hd
 simp only [List.length_nil] at hd
 obtain ⟨e1, gd, G, e2⟩ := de_bin h hb e0 F.R e0 ((2 * (1 + D.nin + j) : Nat) : Int) (by omega) (by omega) 0
 unfold lasB bdL bdU
 rw [h.hd, if_pos hb]
 have e3 : deS F ⟨((2 + 2 * D.nin + 2 * j : Nat) : Int), 0⟩ = { F with R := F.R, defs := F.defs ++ [⟨((2 * (1 + D.nin + j) : Nat) : Int), 0⟩] } := by
  rw [show 2 + 2 * D.nin + 2 * j = 2 * (1 + D.nin + j) by omega]; exact e1
 simp only
 rw [e3, show 2 + 2 * D.nin + 2 * j = 2 * (1 + D.nin + j) by omega]
 have hnin : D.hd.nin = D.nin := rfl
 rw [hnin]
 rw [e2] at gd ⊢
 have := la_q (s := s) h hp1 ⟨((2 * (1 + D.nin + j) : Nat) : Int), 0⟩ { N with given := G } F.R { F with R := F.R, defs := F.defs ++ [⟨((2 * (1 + D.nin + j) : Nat) : Int), 0⟩] } (Qr.refl _) (fun _ => ⟨G, rfl, rfl, gd, by simp only; omega⟩) (fun _ => by simp only; omega)
 exact ⟨this.1, fun h0 => by
  obtain ⟨a1, a2, a3, a4⟩ := this.2 h0
  exact ⟨a1, a2, by rw [a3]; exact hp2, by rw [a4, hp3]⟩⟩
theorem bb_by {s : ByteArray} {R : RS} (he : R.e = 0) (b : Nat) : bbS s R b = if byA s R.pos = -1 \/ (b : Int) <= byA s R.pos then (0, ⟨R.pos, 2, R.pos⟩) else ((byA s R.pos).toNat, ⟨R.pos + 1, R.e, R.ep⟩) := by
 unfold bbS
 rw [pk_by he]
 unfold fl
 rw [if_pos he]
theorem di_q {s : ByteArray} {R : RS} (he : R.e = 0) : Qr (diS s R).2 (dwR s R) /\ ((diS s R).2.e = 0 -> ((diS s R).1 : Int) = (dwS s R.pos).1) := by
 have h1 := byA_le s R.pos
 have h2 := byA_le s (R.pos + 1)
 have b1 := bb_by (s := s) he 256
 unfold diS dwR dwS
 simp only
 by_cases c1 : byA s R.pos < 0
 . rw [if_pos (by omega)] at b1
   rw [b1, if_pos c1]
   simp only
   rw [if_pos (by omega)]
   exact ⟨⟨rfl, rfl, fun h => absurd h (by simp)⟩, fun h => absurd h (by simp)⟩
 . rw [if_neg (by omega)] at b1
   rw [b1, if_neg c1]
   simp only
   by_cases c2 : byA s R.pos < 128
   . rw [if_pos (show (byA s R.pos).toNat < 128 by omega), if_pos c2]
     exact ⟨Qr.refl _, fun _ => by simp only; omega⟩
   . rw [if_neg (show ¬ (byA s R.pos).toNat < 128 by omega), if_neg c2]
     have b2 := bb_by (s := s) (R := ⟨R.pos + 1, R.e, R.ep⟩) he 128
     simp only at b2
     by_cases c3 : byA s (R.pos + 1) < 0 \/ 128 <= byA s (R.pos + 1)
     . rw [if_pos (by omega)] at b2
       rw [b2, if_pos c3]
       exact ⟨⟨rfl, rfl, fun h => absurd h (by simp)⟩, fun h => absurd h (by simp)⟩
     . rw [if_neg (by omega)] at b2
       rw [b2, if_neg c3]
       simp only
       refine ⟨Qr.refl _, fun _ => ?_⟩
       omega
theorem gtsB_q {s : ByteArray} {D : HR} (hb : D.bin = true) (hm : D.nin + D.nla + D.nan <= D.m) (j : Nat) (N : Net) (F : FD) (hj : j < D.nan) (h : NR D N F) (hp : N.ins.length = D.nin /\ N.las.length = D.nla /\ N.gates.length = j) (e0 : F.R.e = 0) :
 Sr D (fun N => N.ins.length = D.nin /\ N.las.length = D.nla /\ N.gates.length = j + 1) (gtsB D.hd s j (N, F.R)) (adF s j F) := by
 obtain ⟨hp1, hp2, hp3⟩ := hp
 have hd := h.dlen
 rw [hp1, hp2, hp3] at hd
 obtain ⟨l, hl⟩ : ∃ l, l = 2 * (1 + D.nin + D.nla + j) := ⟨_, rfl⟩
 unfold gtsB adF
 rw [h.hd, if_pos hb]
 have h9 : D.hd.nin = D.nin := rfl
 have h8 : D.hd.nla = D.nla := rfl
 rw [h9, h8, <- hl]
 simp only
 obtain ⟨q1, v1⟩ := di_q (s := s) e0
 have p1 := dwS_le s F.R.pos
 have A : Qr (bgA s F.R l).2 (adA s l F.R) /\ ((bgA s F.R l).2.e = 0 -> ((bgA s F.R l).1 : Int) = (dwS s F.R.pos).1 /\ 0 < (dwS s F.R.pos).1 /\ (dwS s F.R.pos).1 <= l) := by
  unfold bgA adA
  simp only
  by_cases hz : (diS s F.R).2.e = 0
  . have v1 := v1 hz
    by_cases hx : (diS s F.R).1 = 0 \/ l < (diS s F.R).1
    . rw [if_pos hx, if_pos (by omega)]
      exact ⟨q1.fl _ _, fun h' => absurd h' (fl_bad (by omega))⟩
    . rw [if_neg hx, if_neg (by omega)]
      exact ⟨q1, fun _ => ⟨v1, by omega, by omega⟩⟩
  . rw [fl_ne hz, fl_ne (q1.ne hz), ite_self, ite_self]
    exact ⟨q1, fun h' => absurd h' hz⟩
 unfold bgS adB
 simp only
 obtain ⟨qA, vA⟩ := A
 by_cases hA : (bgA s F.R l).2.e = 0
 . have hA' : (adA s l F.R).e = 0 := by rw [<- qA.e]; exact hA
   obtain ⟨vA, vA1, vA2⟩ := vA hA
   have hAe := qA.eq hA
   rw [if_pos hA']
   rw [vA, hAe]
   generalize adA s l F.R = R1 at *
   generalize hd1 : (dwS s F.R.pos).1 = d1 at *
   obtain ⟨q2, v2⟩ := di_q (s := s) hA'
   have p2 := dwS_le s R1.pos
   have B : Qr (bgB s R1 ((l : Int) - d1)).2 (adC s ((l : Int) - d1) R1) /\ ((bgB s R1 ((l : Int) - d1)).2.e = 0 -> ((bgB s R1 ((l : Int) - d1)).1 : Int) = (dwS s R1.pos).1 /\ (dwS s R1.pos).1 <= (l : Int) - d1) := by
    unfold bgB adC
    simp only
    by_cases hz : (diS s R1).2.e = 0
    . have v2 := v2 hz
      by_cases hx : (l : Int) - d1 < ((diS s R1).1 : Int)
      . rw [if_pos hx, if_pos (by omega)]
        exact ⟨q2.fl _ _, fun h' => absurd h' (fl_bad (by omega))⟩
      . rw [if_neg hx, if_neg (by omega)]
        exact ⟨q2, fun _ => ⟨v2, by omega⟩⟩
    . rw [fl_ne hz, fl_ne (q2.ne hz), ite_self, ite_self]
      exact ⟨q2, fun h' => absurd h' hz⟩
   obtain ⟨qB, vB⟩ := B
   by_cases hB : (bgB s R1 ((l : Int) - d1)).2.e = 0
   . obtain ⟨vB, vB1⟩ := vB hB
     have hBe := qB.eq hB
     have hB' : (adC s ((l : Int) - d1) R1).e = 0 := by rw [<- qB.e]; exact hB
     obtain ⟨e1, gd, G, e2⟩ := de_bin h hb e0 (adC s ((l : Int) - d1) R1) hB' (l : Int) (by omega) (by omega) F.R.pos
     rw [e1]
     rw [e2] at gd ⊢
     rw [vB]
     refine ⟨qB, fun _ => ⟨?_, hp1, hp2, by simp [hp3]⟩⟩
     exact h.gatA G ⟨(l : Int), F.R.pos⟩ gd (fun _ => by simp only; omega) ⟨(l : Int) - d1, F.R.pos⟩ ⟨(l : Int) - d1 - (dwS s R1.pos).1, R1.pos⟩ ⟨by simp only; omega, by simp only; omega⟩ ⟨by simp only; omega, by simp only; omega⟩ _
   . have hB' := qB.ne hB
     have e1 : deS { F with R := adC s ((l : Int) - d1) R1 } ⟨(l : Int), F.R.pos⟩ = { F with R := adC s ((l : Int) - d1) R1 } := by unfold deS; rw [if_neg hB']
     rw [e1]
     exact ⟨qB, fun h' => absurd h' hB⟩
 . have hA' := qA.ne hA
   rw [if_neg hA']
   have e1 : (bgB s (bgA s F.R l).2 ((l : Int) - ((bgA s F.R l).1 : Int))).2 = (bgA s F.R l).2 := by
    unfold bgB
    simp only
    rw [diS_ne hA]
    simp only [fl_ne hA, ite_self]
   refine ⟨by rw [e1]; exact qA, fun h' => absurd (by rw [e1] at h'; exact h') hA⟩
theorem net0_nr (D : HR) (R : RS) : NR D (net0 D.m) ⟨D, R, [], [], [], [], [], [], []⟩ := by
 refine ⟨rfl, ⟨by simp [net0], ?_, by simp, by simp⟩, ⟨[], rfl, rfl⟩, rfl, rfl, rfl, rfl, rfl, rfl, by simp, by simp, by simp, by simp, by simp, by simp, by simp [net0]⟩
 intro l h0 h1
 have hh := (has_iff (N := net0 D.m) (m := D.m) (by simp [net0]) l).2 ⟨h0, h1⟩
 unfold Net.isGiven
 rw [hh, Bool.true_and]
 have : (net0 D.m).given[(l / 2).toNat]? = some ((l / 2).toNat == 0) := by
  unfold net0
  simp only [List.getElem?_map]
  rw [List.getElem?_range (by omega)]
  rfl
 rw [this]
 unfold dfS
 simp only [Option.getD_some, List.any_nil, Bool.false_or]
 by_cases hl : l < 2
 . have : (l / 2).toNat = 0 := by omega
   simp [this, hl]
 . have : (l / 2).toNat ≠ 0 := by omega
   simp [this, hl]
theorem bod_q {s : ByteArray} {D : HR} {R : RS} (hm : D.nin + D.nla + D.nan <= D.m) :
 Sr D (fun _ => True) (bodS D.hd s R) (itE (adF s) 0 D.nan (bdS s D ⟨D, R, [], [], [], [], [], [], []⟩)) := by
 have h0 := net0_nr D R
 have htop : D.hd.top = D.m := rfl
 unfold bodS bdS
 have hbin : D.hd.bin = D.bin := rfl
 rw [hbin, htop]
 by_cases hb : D.bin = true
 . rw [if_pos hb]
   unfold rbS
   have a1 := it_q (D := D) (P := fun j N => (N.las = [] /\ N.gates = [] /\ N.ins.length = j) /\ N.outs = [] /\ N.bads = []) (f := insB) (g := bdI s) (J := D.nin) insB_ne (fun j N F hj h hp e0 => by
    have := insB_q (s := s) hb (by omega) j N F hj h hp.1 e0
    refine ⟨this.1, fun h0 => ⟨(this.2 h0).1, (this.2 h0).2, ?_⟩⟩
    have hg : ∀ l, (N.give l).outs = N.outs /\ (N.give l).bads = N.bads := fun l => by unfold Net.give; split <;> exact ⟨rfl, rfl⟩
    exact ⟨(hg _).1.trans hp.2.1, (hg _).2.trans hp.2.2⟩) D.nin 0 (net0 D.m, R) _ (by omega) ⟨Qr.refl _, fun _ => ⟨h0, ⟨rfl, rfl, rfl⟩, rfl, rfl⟩⟩
   rw [Nat.zero_add] at a1
   have a2 := it_q (D := D) (P := fun j N => (N.gates = [] /\ N.ins.length = D.nin /\ N.las.length = j) /\ N.outs = [] /\ N.bads = []) (f := lasB D.hd s) (g := bdL s) (J := D.nla) (lasB_ne _ s) (fun j N F hj h hp e0 => by
    have := lasB_q (s := s) hb (by omega) j N F hj h hp.1 e0
    refine ⟨this.1, fun h0 => ⟨(this.2 h0).1, (this.2 h0).2, ?_⟩⟩
    have hg : ∀ l, (N.give l).outs = N.outs /\ (N.give l).bads = N.bads := fun l => by unfold Net.give; split <;> exact ⟨rfl, rfl⟩
    exact ⟨(hg _).1.trans hp.2.1, (hg _).2.trans hp.2.2⟩) D.nla 0 _ _ (by omega) (show Sr D _ _ _ from ⟨a1.1, fun h => ⟨(a1.2 h).1, ⟨(a1.2 h).2.1.2.1, (a1.2 h).2.1.2.2, by rw [(a1.2 h).2.1.1]; rfl⟩, (a1.2 h).2.2⟩⟩)
   rw [Nat.zero_add] at a2
   have a3 := pr_q (s := s) (P := fun N => N.ins.length = D.nin /\ N.las.length = D.nla /\ N.gates.length = 0) (fun N o b h => h) _ _ (show Sr D _ _ _ from ⟨a2.1, fun h => ⟨(a2.2 h).1, (a2.2 h).2.1.2.1, (a2.2 h).2.1.2.2, by rw [(a2.2 h).2.1.1]; rfl⟩⟩) (fun h => (a2.2 h).2.2)
   have a4 := it_q (D := D) (P := fun j N => N.ins.length = D.nin /\ N.las.length = D.nla /\ N.gates.length = j) (f := gtsB D.hd s) (g := adF s) (J := D.nan) (gtsB_ne _ s) (fun j N F hj h hp e0 => gtsB_q (s := s) hb hm j N F hj h hp e0) D.nan 0 _ _ (by omega) a3
   exact ⟨a4.1, fun h => ⟨(a4.2 h).1, trivial⟩⟩
 . rw [if_neg hb]
   have hb' : D.bin = false := by cases h : D.bin with | true => exact absurd h hb | false => rfl
   unfold rpS
   have a1 := it_q (D := D) (P := fun _ N => (N.las = [] /\ N.gates = []) /\ N.outs = [] /\ N.bads = []) (f := insF s) (g := bdI s) (J := D.nin) (insF_ne s) (fun j N F hj h hp e0 => by
    have := ins_q (s := s) hb' j N F h hp.1 e0
    refine ⟨this.1, fun h0 => ⟨(this.2 h0).1, (this.2 h0).2, ?_⟩⟩
    have hg : ∀ l, (N.give l).outs = N.outs /\ (N.give l).bads = N.bads := fun l => by unfold Net.give; split <;> exact ⟨rfl, rfl⟩
    exact ⟨(hg _).1.trans hp.2.1, (hg _).2.trans hp.2.2⟩) D.nin 0 (net0 D.m, R) _ (by omega) ⟨Qr.refl _, fun _ => ⟨h0, ⟨rfl, rfl⟩, rfl, rfl⟩⟩
   have a2 := it_q (D := D) (P := fun _ N => N.gates = [] /\ N.outs = [] /\ N.bads = []) (f := lasF s) (g := bdL s) (J := D.nla) (lasF_ne s) (fun j N F hj h hp e0 => by
    have := las_q (s := s) hb' j N F h hp.1 e0
    refine ⟨this.1, fun h0 => ⟨(this.2 h0).1, (this.2 h0).2, ?_⟩⟩
    have hg : ∀ l, (N.give l).outs = N.outs /\ (N.give l).bads = N.bads := fun l => by unfold Net.give; split <;> exact ⟨rfl, rfl⟩
    exact ⟨(hg _).1.trans hp.2.1, (hg _).2.trans hp.2.2⟩) D.nla 0 _ _ (by omega) (show Sr D _ _ _ from ⟨a1.1, fun h => ⟨(a1.2 h).1, (a1.2 h).2.1.2, (a1.2 h).2.2⟩⟩)
   have a3 := pr_q (s := s) (P := fun N => True) (fun N o b h => h) _ _ (show Sr D _ _ _ from ⟨a2.1, fun h => ⟨(a2.2 h).1, trivial⟩⟩) (fun h => (a2.2 h).2.2)
   exact it_q (D := D) (P := fun j N => True) (f := gtsF s) (g := adF s) (J := D.nan) (gtsF_ne s) (fun j N F hj h hp e0 => gts_q (s := s) hb' j N F h hp e0) D.nan 0 _ _ (by omega) a3
def ixL (v : Nat) : List Nat -> Nat -> Int
 | [], _ => -1
 | x :: xs, k => if x = v then ((k + 1 : Nat) : Int) else ixL v xs (k + 1)
def ixS (ord : List Nat) (v : Nat) : Int := if v = 0 then 0 else ixL v ord 0
theorem ixL_ge (v : Nat) : ∀ (ord : List Nat) (k : Nat), ixL v ord k = -1 \/ ((k : Int) < ixL v ord k /\ ixL v ord k <= k + ord.length) := by
 intro ord
 induction ord with
 | nil => intro k; left; rfl
 | cons x xs ih =>
  intro k
  simp only [ixL]
  split
  . right; simp; omega
  . rcases ih (k + 1) with h | h
    . left; exact h
    . right; simp; omega
theorem ixL_no (v : Nat) : ∀ (ord : List Nat) (k : Nat), ixL v ord k = -1 ↔ v ∉ ord := by
 intro ord
 induction ord with
 | nil => intro k; simp [ixL]
 | cons x xs ih =>
  intro k
  simp only [ixL, List.mem_cons]
  by_cases h : x = v
  . rw [if_pos h]; constructor
    . intro h'; omega
    . intro h'; exact absurd (.inl h.symm) h'
  . rw [if_neg h, ih]; constructor
    . intro h' h2; rcases h2 with h2 | h2
      . exact h h2.symm
      . exact h' h2
    . intro h' h2; exact h' (.inr h2)
theorem ixL_app (v x : Nat) : ∀ (ord : List Nat) (k : Nat), ixL v (ord ++ [x]) k = if ixL v ord k = -1 then (if x = v then ((k + ord.length + 1 : Nat) : Int) else -1) else ixL v ord k := by
 intro ord
 induction ord with
 | nil => intro k; simp [ixL]
 | cons y ys ih =>
  intro k
  rw [List.cons_append]
  by_cases h : y = v
  . have e1 : ∀ zs, ixL v (y :: zs) k = ((k + 1 : Nat) : Int) := fun zs => by simp only [ixL]; rw [if_pos h]
    rw [e1, e1, if_neg (by omega)]
  . have e1 : ∀ zs, ixL v (y :: zs) k = ixL v zs (k + 1) := fun zs => by simp only [ixL]; rw [if_neg h]
    rw [e1, e1, ih (k + 1)]
    simp only [List.length_cons]
    rw [show k + 1 + ys.length + 1 = k + (ys.length + 1) + 1 by omega]
theorem ixS_ge (ord : List Nat) (v : Nat) : ixS ord v = -1 \/ (0 <= ixS ord v /\ ixS ord v <= ord.length) := by
 unfold ixS
 split
 . right; omega
 . rcases ixL_ge v ord 0 with h | h
   . exact .inl h
   . right; omega
theorem ixS_no (ord : List Nat) (v : Nat) : ixS ord v = -1 ↔ v ≠ 0 /\ v ∉ ord := by
 unfold ixS
 split
 . rename_i h; constructor
   . intro h'; omega
   . intro h'; exact absurd h h'.1
 . rename_i h; rw [ixL_no]; exact ⟨fun h' => ⟨h, h'⟩, fun h' => h'.2⟩
theorem stL_ix (l : Nat) : ∀ (ord : List Nat) (k : Nat), stL l ord k = if ixL (l / 2) ord k = -1 then -1 else 2 * ixL (l / 2) ord k + ((l % 2 : Nat) : Int) := by
 intro ord
 induction ord with
 | nil => intro k; simp [stL, ixL]
 | cons x xs ih =>
  intro k
  by_cases h : x = l / 2
  . have e1 : ixL (l / 2) (x :: xs) k = ((k + 1 : Nat) : Int) := by simp only [ixL]; rw [if_pos h]
    rw [e1, if_neg (by omega)]
    simp only [stL]
    rw [if_pos h]
    omega
  . have e1 : ixL (l / 2) (x :: xs) k = ixL (l / 2) xs (k + 1) := by simp only [ixL]; rw [if_neg h]
    rw [e1]
    simp only [stL]
    rw [if_neg h]
    exact ih _
theorem stS_ix (ord : List Nat) (l : Nat) : stS ord l = if ixS ord (l / 2) = -1 then -1 else 2 * ixS ord (l / 2) + ((l % 2 : Nat) : Int) := by
 unfold stS ixS
 by_cases h : l < 2
 . rw [if_pos h, if_pos (show l / 2 = 0 by omega), if_neg (by omega)]; omega
 . rw [if_neg h, if_neg (show ¬ l / 2 = 0 by omega)]; exact stL_ix l ord 0
structure OR (m : Nat) (P : Ord) (ord : List Nat) : Prop where
 len : P.place.length = m + 1
 cnt : P.count = ord.length + 1
 at' : ∀ v, v <= m -> P.place[v]? = some (ixS ord v)
theorem OR.at {m : Nat} {P : Ord} {ord : List Nat} (h : OR m P ord) {l : Int} (h0 : 0 <= l) (h1 : l <= 2 * m + 1) : P.at l = ixS ord (l.toNat / 2) := by
 unfold Ord.at
 rw [if_neg (by rw [h.len]; omega), show (l / 2).toNat = l.toNat / 2 by omega, h.at' _ (by omega)]
 rfl
theorem OR.lit {m : Nat} {P : Ord} {ord : List Nat} (h : OR m P ord) {l : Int} (h0 : 0 <= l) (h1 : l <= 2 * m + 1) (h2 : P.at l ≠ -1) : P.lit l = stS ord l.toNat /\ 0 <= stS ord l.toNat /\ stS ord l.toNat <= 2 * ord.length + 1 := by
 have e1 := h.at h0 h1
 rw [e1] at h2
 unfold Ord.lit
 rw [e1, stS_ix, if_neg h2]
 have := ixS_ge ord (l.toNat / 2)
 exact ⟨by omega, by omega, by omega⟩
theorem OR.neg {m : Nat} {P : Ord} {ord : List Nat} (h : OR m P ord) {l : Int} (h0 : 0 <= l) (h1 : l <= 2 * m + 1) : stS ord l.toNat < 0 ↔ P.at l = -1 := by
 have e1 := h.at h0 h1
 rw [e1, stS_ix]
 have := ixS_ge ord (l.toNat / 2)
 by_cases h2 : ixS ord (l.toNat / 2) = -1
 . rw [if_pos h2]; omega
 . rw [if_neg h2]; omega
theorem OR.lay {m : Nat} {P : Ord} {ord : List Nat} (h : OR m P ord) {l : Int} (h0 : 2 <= l) (h1 : l <= 2 * m + 1) (hn : l.toNat / 2 ∉ ord) : OR m (P.lay l) (ord ++ [l.toNat / 2]) := by
 unfold Ord.lay
 rw [if_neg (by rw [h.len]; omega), show (l / 2).toNat = l.toNat / 2 by omega]
 refine ⟨by simp [h.len], by simp [h.cnt], fun v hv => ?_⟩
 simp only
 by_cases e : l.toNat / 2 = v
 . subst e
   rw [List.getElem?_set_self (by rw [h.len]; omega)]
   unfold ixS
   rw [if_neg (by omega), ixL_app, if_pos ((ixL_no _ _ _).2 hn), if_pos rfl, h.cnt]
   simp
 . rw [List.getElem?_set_ne e, h.at' v hv]
   unfold ixS
   by_cases v0 : v = 0
   . rw [if_pos v0, if_pos v0]
   . rw [if_neg v0, if_neg v0, ixL_app]
     by_cases hx : ixL v ord 0 = -1
     . rw [if_pos hx, if_neg e, hx]
     . rw [if_neg hx]
theorem lay_all {m : Nat} : ∀ (L : List Int) (P : Ord) (ord : List Nat), OR m P ord -> (∀ l ∈ L, 2 <= l /\ l <= 2 * m + 1) -> (ord ++ L.map fun l : Int => l.toNat / 2).Nodup -> OR m (L.foldl Ord.lay P) (ord ++ L.map fun l : Int => l.toNat / 2) := by
 intro L
 induction L with
 | nil => intro P ord h _ _; simpa using h
 | cons l L ih =>
  intro P ord h hr hn
  obtain ⟨r0, r1⟩ := hr l (List.mem_cons_self ..)
  have hn1 : l.toNat / 2 ∉ ord := by
   intro hx
   have := (List.nodup_append.1 hn).2.2 _ hx (l.toNat / 2) (by simp)
   exact this rfl
  have := ih (P.lay l) (ord ++ [l.toNat / 2]) (h.lay r0 r1 hn1) (fun x hx => hr x (List.mem_cons_of_mem _ hx)) (by simpa using hn)
  simpa using this
theorem nw_or {N : Net} {m : Nat} (hl : N.given.length = m + 1) (hr : ∀ l ∈ N.ins ++ N.las.map (·.l), 2 <= l /\ l <= 2 * m + 1) (hn : ((N.ins ++ N.las.map (·.l)).map fun l => l.toNat / 2).Nodup) : OR m (nwS N) ((N.ins ++ N.las.map (·.l)).map fun l => l.toNat / 2) := by
 have h0 : OR m ((nw0 N).lay 0) [] := by
  unfold nw0 Ord.lay
  simp only [List.length_replicate, hl]
  rw [if_neg (by omega)]
  refine ⟨by simp, rfl, fun v hv => ?_⟩
  simp only
  by_cases e : v = 0
  . subst e
    rw [show ((0 : Int) / 2).toNat = 0 by rfl, List.getElem?_set_self (by simp)]
    simp [ixS]
  . rw [show ((0 : Int) / 2).toNat = 0 by rfl, List.getElem?_set_ne (by omega)]
    rw [List.getElem?_replicate, if_pos (by omega)]
    simp [ixS, e, ixL]
 have := lay_all (N.ins ++ N.las.map (·.l)) _ [] h0 hr (by simpa using hn)
 rw [List.foldl_append, List.foldl_map] at this
 simpa [nwS] using this
theorem nodup_len {α : Type} [DecidableEq α] : ∀ (l L : List α), l.Nodup -> (∀ x ∈ l, x ∈ L) -> l.length <= L.length := by
 intro l
 induction l with
 | nil => intro L _ _; simp
 | cons a t ih =>
  intro L hn hs
  have ha := hs a (List.mem_cons_self ..)
  obtain ⟨h1, h2⟩ := List.nodup_cons.1 hn
  have := ih (L.erase a) h2 (fun x hx => by
   have hne : x ≠ a := by rintro rfl; exact h1 hx
   exact (List.mem_erase_of_ne hne).2 (hs x (List.mem_cons_of_mem _ hx)))
  rw [List.length_erase_of_mem ha] at this
  have hpos : 0 < L.length := List.length_pos_of_mem ha
  simp only [List.length_cons]
  omega
theorem nodup_all {l L : List Nat} (hn : l.Nodup) (hs : ∀ x ∈ l, x ∈ L) (hlen : L.length <= l.length) : ∀ x ∈ L, x ∈ l := by
 intro x hx
 by_cases h : x ∈ l
 . exact h
 . have := nodup_len (x :: l) L (List.nodup_cons.2 ⟨h, hn⟩) (fun y hy => by
    rcases List.mem_cons.1 hy with rfl | hy
    . exact hx
    . exact hs y hy)
   simp only [List.length_cons] at this
   omega
structure Whole (D : HR) (N : Net) (F : FD) : Prop where
 nr : NR D N F
 i : N.ins.length = D.nin
 a : N.las.length = D.nla
theorem gN_at {us : List Us} {k : Nat} (h : k < us.length) : gN us k = us[k].l.toNat := by simp [gN, List.getElem?_eq_getElem h]
theorem gP_at {us : List Us} {k : Nat} (h : k < us.length) : gP us k = us[k].p := by simp [gP, List.getElem?_eq_getElem h]
theorem Whole.gate {D : HR} {N : Net} {F : FD} (h : Whole D N F) (k : Nat) (hk : k < N.gates.length) :
 gN F.defs (D.nin + D.nla + k) = N.gates[k].g.l.toNat /\ gP F.defs (D.nin + D.nla + k) = N.gates[k].g.p /\ gN F.left k = N.gates[k].a.l.toNat /\ gN F.right k = N.gates[k].b.l.toNat /\ N.gates[k].g ∈ F.defs /\ N.gates[k].a ∈ F.left /\ N.gates[k].b ∈ F.right := by
 obtain ⟨ds, h1, h2⟩ := h.nr.sp
 have hlen := congrArg List.length h2
 simp only [List.length_map, List.length_append, h.i, h.a] at hlen
 have hd : F.defs[D.nin + D.nla + k]? = some N.gates[k].g := by
  rw [h1, List.getElem?_append_right (by omega), hlen, show D.nin + D.nla + k - (D.nin + D.nla) = k by omega]
  simp [hk]
 have hl : F.left[k]? = some N.gates[k].a := by rw [<- h.nr.l]; simp [hk]
 have hr : F.right[k]? = some N.gates[k].b := by rw [<- h.nr.r]; simp [hk]
 refine ⟨by simp [gN, hd], by simp [gP, hd], by simp [gN, hl], by simp [gN, hr], List.mem_of_getElem? hd, List.mem_of_getElem? hl, List.mem_of_getElem? hr⟩
theorem fr_q {D : HR} {N : Net} {F : FD} (h : Whole D N F) {P : Ord} {ord : List Nat} (o : OR D.m P ord) : ∀ (n k : Nat), k + n = N.gates.length -> frL P (N.gates.drop k) k = fsL ord F n k := by
 intro n
 induction n with
 | zero => intro k hk; rw [List.drop_eq_nil_of_le (by omega)]; rfl
 | succ n ih =>
  intro k hk
  have hlt : k < N.gates.length := by omega
  rw [List.drop_eq_getElem_cons hlt]
  simp only [frL, fsL]
  obtain ⟨g1, g2, g3, g4, g5, g6, g7⟩ := h.gate k hlt
  have hd := h.nr.hd
  rw [hd, g1, g3, g4, ih (k + 1) (by omega)]
  have r1 := h.nr.gd.rg _ g5
  have r2 := h.nr.rl _ g6
  have r3 := h.nr.rr _ g7
  have n1 := o.neg (l := N.gates[k].g.l) (by omega) r1.2
  have n2 := o.neg (l := N.gates[k].a.l) r2.1 r2.2
  have n3 := o.neg (l := N.gates[k].b.l) r3.1 r3.2
  by_cases c : P.at N.gates[k].g.l = -1 /\ P.at N.gates[k].a.l ≠ -1 /\ P.at N.gates[k].b.l ≠ -1
  . rw [if_pos c, if_pos ⟨n1.2 c.1, by have := fun x => c.2.1 (n2.1 x); omega, by have := fun x => c.2.2 (n3.1 x); omega⟩]
  . rw [if_neg c, if_neg]
    intro c'
    refine c ⟨n1.1 c'.1, fun x => ?_, fun x => ?_⟩
    . have := n2.2 x; omega
    . have := n3.2 x; omega
theorem fu_q {D : HR} {N : Net} {F : FD} (h : Whole D N F) {P : Ord} {ord : List Nat} (o : OR D.m P ord) : ∀ (n k : Nat), k + n = N.gates.length -> fuL P (N.gates.drop k) = wtL ord F n k := by
 intro n
 induction n with
 | zero => intro k hk; rw [List.drop_eq_nil_of_le (by omega)]; rfl
 | succ n ih =>
  intro k hk
  have hlt : k < N.gates.length := by omega
  rw [List.drop_eq_getElem_cons hlt]
  simp only [fuL, wtL]
  obtain ⟨g1, g2, g3, g4, g5, g6, g7⟩ := h.gate k hlt
  have hd := h.nr.hd
  rw [hd, g1, g2, ih (k + 1) (by omega)]
  have r1 := h.nr.gd.rg _ g5
  have n1 := o.neg (l := N.gates[k].g.l) (by omega) r1.2
  by_cases c : P.at N.gates[k].g.l = -1
  . rw [if_pos c, if_pos (n1.2 c)]
  . rw [if_neg c, if_neg (fun x => c (n1.1 x))]
structure OOk (F : FD) (ord : List Nat) : Prop where
 nd : ord.Nodup
 df : ∀ v ∈ ord, v ∈ F.defs.map fun u => u.l.toNat / 2
def gfl (g : Int × Int) : List Int := [g.1, g.2]
def GOk (b : Nat) (gts : List (Int × Int)) : Prop := ∀ k (h : k < gts.length), 0 <= gts[k].2 /\ gts[k].2 <= gts[k].1 /\ gts[k].1 <= 2 * ((b + k : Nat) : Int) + 1
theorem fr_at (P : Ord) : ∀ (gs : List GaL) (k : Nat), frL P gs k = -1 \/ ∃ i, ∃ h : i < gs.length, frL P gs k = ((k + i : Nat) : Int) /\ P.at gs[i].g.l = -1 /\ P.at gs[i].a.l ≠ -1 /\ P.at gs[i].b.l ≠ -1 := by
 intro gs
 induction gs with
 | nil => intro k; left; rfl
 | cons g gs ih =>
  intro k
  simp only [frL]
  by_cases c : P.at g.g.l = -1 /\ P.at g.a.l ≠ -1 /\ P.at g.b.l ≠ -1
  . rw [if_pos c]; right; exact ⟨0, by simp, by simp, c⟩
  . rw [if_neg c]
    rcases ih (k + 1) with h | ⟨i, hi, h1, h2⟩
    . exact .inl h
    . right; exact ⟨i + 1, by simp; omega, by rw [h1]; omega, by simpa using h2⟩
theorem ar_q {D : HR} {N : Net} {F : FD} (h : Whole D N F) : ∀ (m : Nat) (P : Ord) (T : CkT) (ord : List Nat) (ops : List Int), OR D.m P ord -> OOk F ord -> T.gts.flatMap gfl = ops -> ord.length = D.nin + D.nla + T.gts.length -> GOk (D.nin + D.nla) T.gts ->
 (∃ q, arL N.gates m P T = .error q /\ crL F m ord ops = .error q) \/ (∃ P' T' ord' ops', arL N.gates m P T = .ok (P', T') /\ crL F m ord ops = .ok (ord', ops') /\ OR D.m P' ord' /\ OOk F ord' /\ T'.gts.flatMap gfl = ops' /\ ord'.length = D.nin + D.nla + T'.gts.length /\ GOk (D.nin + D.nla) T'.gts /\ T'.ni = T.ni /\ T'.gts.length = T.gts.length + m) := by
 intro m
 have hleft : F.left.length = N.gates.length := by rw [<- h.nr.l]; simp
 induction m with
 | zero => intro P T ord ops o k e1 e2 e3; exact .inr ⟨P, T, ord, ops, rfl, rfl, o, k, e1, e2, e3, rfl, rfl⟩
 | succ m ih =>
  intro P T ord ops o k e1 e2 e3
  have f1 := fr_q h o N.gates.length 0 (by omega)
  have f2 := fu_q h o N.gates.length 0 (by omega)
  rw [List.drop_zero] at f1 f2
  simp only [arL, crL]
  rw [hleft, <- f1, <- f2]
  rcases fr_at P N.gates 0 with hx | ⟨i, hi, h1, h2, h3, h4⟩
  . left
    refine ⟨fuL P N.gates, ?_, by rw [if_pos (by omega)]⟩
    split
    . rw [if_pos hx]
    . rfl
  . rw [Nat.zero_add] at h1
    have h1' : (frL P N.gates 0).toNat = i := by omega
    rw [if_neg (c := frL P N.gates 0 < 0) (by omega), h1', List.getElem?_eq_getElem hi]
    simp only
    rw [if_neg (by omega)]
    obtain ⟨g1, g2, g3, g4, g5, g6, g7⟩ := h.gate i hi
    have r1 := h.nr.gd.rg _ g5
    have r2 := h.nr.rl _ g6
    have r3 := h.nr.rr _ g7
    obtain ⟨l2, l2a, l2b⟩ := o.lit r2.1 r2.2 h3
    obtain ⟨l3, l3a, l3b⟩ := o.lit r3.1 r3.2 h4
    have hno : N.gates[i].g.l.toNat / 2 ∉ ord := by
     have := o.at (l := N.gates[i].g.l) (by omega) r1.2
     rw [h2] at this
     exact ((ixS_no _ _).1 this.symm).2
    rw [h.nr.hd, g1]
    have hpair : crP F ord i = gfl (gpair P N.gates[i]) := by
     unfold crP gpair gfl
     rw [g3, g4, l2, l3]
     split <;> rfl
    rw [hpair]
    have hgp : 0 <= (gpair P N.gates[i]).2 /\ (gpair P N.gates[i]).2 <= (gpair P N.gates[i]).1 /\ (gpair P N.gates[i]).1 <= 2 * (ord.length : Int) + 1 := by
     unfold gpair
     rw [l2, l3]
     split <;> simp only <;> omega
    have := ih (P.lay N.gates[i].g.l) { T with gts := T.gts ++ [gpair P N.gates[i]] } (ord ++ [N.gates[i].g.l.toNat / 2]) (ops ++ gfl (gpair P N.gates[i])) (o.lay r1.1 r1.2 hno)
     ⟨List.nodup_append.2 ⟨k.nd, by simp, by
      intro a ha b hb
      rw [List.mem_singleton.1 hb]
      rintro rfl
      exact hno ha⟩, by
      intro v hv
      rcases List.mem_append.1 hv with hv | hv
      . exact k.df v hv
      . rw [List.mem_singleton.1 hv]; exact List.mem_map.2 ⟨_, g5, rfl⟩⟩
     (by simp [e1]) (by simp [e2]; omega) (by
      intro j hj
      simp only [List.length_append, List.length_singleton] at hj
      by_cases hjl : j < T.gts.length
      . simp only [List.getElem_append_left hjl]; exact e3 j hjl
      . have : j = T.gts.length := by omega
        subst this
        simp only [List.getElem_concat_length]
        rw [<- e2]
        exact hgp)
    rcases this with ⟨q, a1, a2⟩ | ⟨P', T', ord', ops', a1, a2, a3, a4, a5, a6, a7, a8, a9⟩
    . exact .inl ⟨q, a1, a2⟩
    . exact .inr ⟨P', T', ord', ops', a1, a2, a3, a4, a5, a6, a7, a8, by rw [a9]; simp; omega⟩
def ndG (ds : List Us) (R : RS) (p : Us × Us) : RS := nd1 ds (nd1 ds R p.1) p.2
def ndS (F : FD) (R : RS) : RS := (F.left.zip F.right).foldl (ndG F.defs) (F.bads.foldl (nd1 F.defs) (F.outs.foldl (nd1 F.defs) (F.next.foldl (nd1 F.defs) R)))
def rrF (s : ByteArray) (D : HR) (R1 : RS) : FD := itE (adF s) 0 D.nan (bdS s D ⟨D, R1, [], [], [], [], [], [], []⟩)
def rr3 (F : FD) (R3 : RS) : Except (Nat × Nat) RcT :=
 if R3.e = 0 then
  match crS { F with R := R3 } with
  | .error q => .error (12, q)
  | .ok T => .ok T
 else .error (R3.e, R3.ep)
def rr2 (s : ByteArray) (D : HR) (R1 : RS) : Except (Nat × Nat) RcT :=
 rr3 (rrF s D R1) (if (nmsS D s (rrF s D R1).R).e = 0 then ndS (rrF s D R1) (nmsS D s (rrF s D R1).R) else nmsS D s (rrF s D R1).R)
def rrS (s : ByteArray) : Except (Nat × Nat) RcT :=
 if 1000 < s.size then .error (1, 0) else
 let D := hrH (hrB s ⟨0, 0, 0⟩) (hrN s ⟨0, 0, 0⟩)
 let R0 := hrE s ⟨0, 0, 0⟩
 let R1 := if R0.e = 0 then jdS D.hd R0 else R0
 if R1.e = 0 then rr2 s D R1 else .error (R1.e, R1.ep)
def toRc (T : CkT) : RcT := ⟨T.ni, T.las.length, T.las.map (·.1), T.las.map (·.2), T.gts.flatMap gfl, T.bad⟩
structure TOk (T : CkT) : Prop where
 ni : T.ni <= 4
 nl : T.las.length <= 6
 na : T.gts.length <= 60
 g : GOk (T.ni + T.las.length) T.gts
 n : ∀ x ∈ T.las, (0 <= x.1 /\ x.1 <= 2 * ((T.ni + T.las.length + T.gts.length : Nat) : Int) + 1) /\ x.2 <= 2
 b : 0 <= T.bad /\ T.bad <= 2 * ((T.ni + T.las.length + T.gts.length : Nat) : Int) + 1
theorem foldl_eq {α β : Type} {f g : α -> β -> α} : ∀ (l : List β) (a : α), (∀ b ∈ l, ∀ a, f a b = g a b) -> l.foldl f a = l.foldl g a := by
 intro l
 induction l with
 | nil => intro a _; rfl
 | cons b l ih =>
  intro a h
  simp only [List.foldl_cons]
  rw [h b (List.mem_cons_self ..) a]
  exact ih _ fun b' hb' => h b' (List.mem_cons_of_mem _ hb')
theorem ju1_q {D : HR} {N : Net} {F : FD} (h : NR D N F) (R : RS) (u : Us) (h0 : 0 <= u.l /\ u.l <= 2 * D.m + 1) : ju1 N R u = nd1 F.defs R u := by
 unfold ju1 nd1
 rw [h.gd.gv u.l h0.1 h0.2]
theorem ju_q {D : HR} {N : Net} {F : FD} (h : NR D N F) (R : RS) : juS N R = ndS F R := by
 have hz : F.left.zip F.right = N.gates.map fun g => (g.a, g.b) := by
  rw [<- h.l, <- h.r]
  induction N.gates with
  | nil => rfl
  | cons g gs ih => simp [ih]
 unfold juS ndS
 rw [hz, List.foldl_map, <- h.n, List.foldl_map, <- h.o, <- h.b]
 have e1 : N.las.foldl (fun R x => ju1 N R x.n) R = N.las.foldl (fun R x => nd1 F.defs R x.n) R := foldl_eq _ _ fun x hx a => ju1_q h a x.n (h.rn _ (by rw [<- h.n]; exact List.mem_map.2 ⟨x, hx, rfl⟩))
 rw [e1, foldl_eq (g := nd1 F.defs) N.outs _ fun x hx a => ju1_q h a x (h.ro _ (by rw [<- h.o]; exact hx)), foldl_eq (g := nd1 F.defs) N.bads _ fun x hx a => ju1_q h a x (h.rb _ (by rw [<- h.b]; exact hx))]
 refine foldl_eq _ _ fun g hg a => ?_
 unfold ndG
 rw [ju1_q h _ g.b (h.rr _ (by rw [<- h.r]; exact List.mem_map.2 ⟨g, hg, rfl⟩)), ju1_q h _ g.a (h.rl _ (by rw [<- h.l]; exact List.mem_map.2 ⟨g, hg, rfl⟩))]
theorem foldl_keep {α β : Type} {f : α -> β -> α} (a : α) : ∀ (l : List β), (∀ b ∈ l, f a b = a) -> l.foldl f a = a := by
 intro l
 induction l with
 | nil => intro _; rfl
 | cons b l ih =>
  intro h
  simp only [List.foldl_cons]
  rw [h b (List.mem_cons_self ..)]
  exact ih fun b' hb' => h b' (List.mem_cons_of_mem _ hb')
theorem ju_ne {N : Net} {R : RS} (h : R.e ≠ 0) : juS N R = R := by
 have h1 : ∀ u, ju1 N R u = R := fun u => by unfold ju1; rw [fl_ne h, ite_self]
 unfold juS
 rw [foldl_keep R N.las fun x _ => h1 _, foldl_keep R N.outs fun x _ => h1 _, foldl_keep R N.bads fun x _ => h1 _]
 exact foldl_keep R N.gates fun x _ => by rw [h1, h1]
theorem range_map_get {α β : Type} (l : List α) (n : Nat) (hn : l.length = n) (f : Nat -> β) (g : α -> β) (h : ∀ i (hi : i < l.length), f i = g l[i]) : (List.range n).map f = l.map g := by
 apply List.ext_getElem
 . simp [hn]
 . intro i h1 h2
   simp only [List.length_map, List.length_range] at h1
   simp only [List.getElem_map, List.getElem_range]
   exact h i (by omega)
theorem cr_q {D : HR} {N : Net} {F : FD} (h : Whole D N F) (hlim : D.nin <= 4 /\ D.nla <= 6 /\ D.nan <= 60 /\ D.nbs <= 1 /\ (D.nbs = 0 -> D.nou = 1)) (ho : N.outs.length = D.nou) (hb : N.bads.length = D.nbs) (ha : N.gates.length = D.nan)
 (g1 : ∀ x ∈ N.las, N.isGiven x.n.l = true) (g2 : ∀ u ∈ N.outs, N.isGiven u.l = true) (g3 : ∀ u ∈ N.bads, N.isGiven u.l = true) :
 (∃ q, arS N = .error q /\ crS F = .error q) \/ (∃ T, arS N = .ok T /\ crS F = .ok (toRc T) /\ TOk T) := by
 have hleft : F.left.length = N.gates.length := by rw [<- h.nr.l]; simp
 obtain ⟨ds, hs1, hs2⟩ := h.nr.sp
 have hdl := congrArg List.length hs2
 simp only [List.length_map, List.length_append, h.i, h.a] at hdl
 have hcr : crO F = (N.ins ++ N.las.map (·.l)).map fun l => l.toNat / 2 := by
  unfold crO
  rw [<- hs2, List.map_map, h.nr.hd]
  refine range_map_get ds _ hdl _ _ fun i hi => ?_
  have : F.defs[i]? = some ds[i] := by rw [hs1, List.getElem?_append_left hi]; simp
  simp [gN, this]
 have hsub : ∀ l ∈ N.ins ++ N.las.map (·.l), ∃ u ∈ F.defs, u.l = l := by
  intro l hl
  rw [<- hs2] at hl
  obtain ⟨u, hu, rfl⟩ := List.mem_map.1 hl
  exact ⟨u, by rw [hs1]; exact List.mem_append_left _ hu, rfl⟩
 have hrg : ∀ l ∈ N.ins ++ N.las.map (·.l), 2 <= l /\ l <= 2 * D.m + 1 := by
  intro l hl
  obtain ⟨u, hu, rfl⟩ := hsub l hl
  exact h.nr.gd.rg u hu
 have hndF : (F.defs.map fun u => u.l.toNat / 2).Nodup := by
  have e1 : (F.defs.map fun u => u.l.toNat / 2) = (F.defs.map fun u => u.l / 2).map Int.toNat := by
   rw [List.map_map]
   refine List.map_congr_left fun u hu => ?_
   have := h.nr.gd.rg u hu
   simp only [Function.comp]
   omega
  rw [e1]
  unfold List.Nodup
  rw [List.pairwise_map]
  refine List.Pairwise.imp_of_mem ?_ h.nr.gd.nd
  intro a b ha hb hab
  obtain ⟨u, hu, rfl⟩ := List.mem_map.1 ha
  obtain ⟨v, hv, rfl⟩ := List.mem_map.1 hb
  have := h.nr.gd.rg u hu
  have := h.nr.gd.rg v hv
  omega
 have hnd : ((N.ins ++ N.las.map (·.l)).map fun l => l.toNat / 2).Nodup := by
  rw [<- hs2, List.map_map]
  rw [hs1, List.map_append] at hndF
  exact (List.nodup_append.1 hndF).1
 have o0 := nw_or h.nr.gd.len hrg hnd
 rw [<- hcr] at o0
 have k0 : OOk F (crO F) := by
  rw [hcr]
  refine ⟨hnd, fun v hv => ?_⟩
  obtain ⟨l, hl, rfl⟩ := List.mem_map.1 hv
  obtain ⟨u, hu, rfl⟩ := hsub l hl
  exact List.mem_map.2 ⟨u, hu, rfl⟩
 have l0 : (crO F).length = D.nin + D.nla := by rw [hcr]; simp [h.i, h.a]
 unfold arS crS
 rw [hleft]
 rcases ar_q h N.gates.length (nwS N) ⟨N.ins.length, [], [], 0⟩ (crO F) [] o0 k0 rfl (by simpa using l0) (by intro k hk; simp at hk) with ⟨q, a1, a2⟩ | ⟨P', T', ord', ops', a1, a2, a3, a4, a5, a6, a7, a8, a9⟩
 . left; exact ⟨q, by rw [a1], by rw [a2]⟩
 . right
   rw [a1, a2]
   simp only at a8 a9 ⊢
   simp only [List.length_nil, Nat.zero_add] at a9
   have hd := h.nr.dlen
   rw [h.i, h.a] at hd
   have all : ∀ v ∈ F.defs.map (fun u => u.l.toNat / 2), v ∈ ord' := nodup_all a4.nd a4.df (by simp; omega)
   have laid : ∀ l : Int, N.isGiven l = true -> 0 <= l /\ l <= 2 * D.m + 1 /\ P'.lit l = stS ord' l.toNat /\ 0 <= stS ord' l.toNat /\ stS ord' l.toNat <= 2 * ord'.length + 1 := by
    intro l hl
    have hh : N.has l = true := by unfold Net.isGiven at hl; exact (Bool.and_eq_true _ _ ▸ hl).1
    obtain ⟨r0, r1⟩ := (has_iff h.nr.gd.len l).1 hh
    have hdf := h.nr.gd.gv l r0 r1
    rw [hl] at hdf
    have hat : P'.at l ≠ -1 := by
     rw [a3.at r0 r1]
     intro hx
     obtain ⟨x1, x2⟩ := (ixS_no _ _).1 hx
     unfold dfS at hdf
     have hdf := hdf.symm
     simp only [Bool.or_eq_true, List.any_eq_true, beq_iff_eq, decide_eq_true_eq] at hdf
     rcases hdf with ⟨u, hu, hul⟩ | hlt
     . refine x2 (all _ (List.mem_map.2 ⟨u, hu, ?_⟩))
       have := h.nr.gd.rg u hu
       omega
     . omega
    obtain ⟨b1, b2, b3⟩ := a3.lit r0 r1 hat
    exact ⟨r0, r1, b1, b2, b3⟩
   have hol : ord'.length = D.nin + D.nla + D.nan := by omega
   have hn : ∀ x ∈ N.las, P'.lit x.n.l = stS ord' x.n.l.toNat := fun x hx => (laid _ (g1 x hx)).2.2.1
   have hprop : N.isGiven (propS N) = true /\ (if D.nbs = 1 then stS ord' (gN F.bads 0) else stS ord' (gN F.outs 0)) = stS ord' (propS N).toNat := by
    unfold propS
    rw [<- h.nr.b, <- h.nr.o]
    cases hbl : N.bads with
    | cons u us =>
     rw [hbl] at hb
     have : D.nbs = 1 := by simp at hb; omega
     rw [if_pos this]
     exact ⟨g3 u (by rw [hbl]; exact List.mem_cons_self ..), rfl⟩
    | nil =>
     rw [hbl] at hb
     have hnb : D.nbs = 0 := by simpa using hb.symm
     rw [if_neg (by omega)]
     cases hol : N.outs with
     | cons u us => exact ⟨g2 u (by rw [hol]; exact List.mem_cons_self ..), rfl⟩
     | nil => rw [hol] at ho; have := hlim.2.2.2.2 hnb; simp at ho; omega
   have hbad := laid _ hprop.1
   refine ⟨{ T' with las := N.las.map fun x => (P'.lit x.n.l, x.z), bad := P'.lit (propS N) }, rfl, ?_, ?_⟩
   . unfold toRc
     simp only [Except.ok.injEq, RcT.mk.injEq, h.nr.hd]
     refine ⟨by rw [a8, h.i], by simp [h.a], ?_, by rw [<- h.nr.z]; simp, a5.symm, ?_⟩
     . rw [List.map_map]
       refine range_map_get N.las _ h.a _ _ fun i hi => ?_
       have e1 : F.next[i]? = some N.las[i].n := by rw [<- h.nr.n]; simp [hi]
       simp only [Function.comp]
       rw [hn _ (List.getElem_mem hi)]
       simp [gN, e1]
     . rw [hprop.2, hbad.2.2.1]
   . have hni : T'.ni = D.nin := by rw [a8, h.i]
     have hgl : T'.gts.length = D.nan := by omega
     refine ⟨by simp only; omega, by simp [h.a]; omega, by simp only; omega, ?_, ?_, ?_⟩
     . simp only [List.length_map, hni, h.a]; exact a7
     . intro x hx
       obtain ⟨y, hy, rfl⟩ := List.mem_map.1 hx
       have := laid _ (g1 y hy)
       simp only [List.length_map, hni, h.a, hgl]
       rw [hn y hy]
       exact ⟨⟨this.2.2.2.1, by rw [<- hol]; exact this.2.2.2.2⟩, h.nr.rz y hy⟩
     . simp only [List.length_map, hni, h.a, hgl]
       rw [hbad.2.2.1]
       exact ⟨hbad.2.2.2.1, by rw [<- hol]; exact hbad.2.2.2.2⟩
theorem jd_ne {D : HD} {R : RS} (h : R.e ≠ 0) : jdS D R = R := by
 unfold jdS jd1 jd2 jd3 jd4
 simp only [fl_ne h, ite_self]
theorem symsL_ne {D : HD} {s : ByteArray} {R : RS} (h : R.e ≠ 0) : ∀ n, symsL n D s R = R := by
 intro n
 cases n with
 | zero => rfl
 | succ n => simp only [symsL]; rw [if_neg (by simp [h])]
theorem syms_ne {D : HD} {s : ByteArray} {R : RS} (h : R.e ≠ 0) : symsS D s R = R := symsL_ne h 1002
theorem nmsL_ne {D : HR} {s : ByteArray} {R : RS} (h : R.e ≠ 0) : ∀ n, nmsL D s n R = R := by
 intro n
 cases n with
 | zero => rfl
 | succ n => simp only [nmsL]; rw [if_neg (by simp [h])]
theorem nms_ne {D : HR} {s : ByteArray} {R : RS} (h : R.e ≠ 0) : nmsS D s R = R := nmsL_ne h 1002
theorem read_q (s : ByteArray) : (∃ q, rdS s = .error q /\ rrS s = .error q) \/ (∃ T, rdS s = .ok T /\ rrS s = .ok (toRc T) /\ TOk T) := by
 unfold rdS rrS
 by_cases hl : 1000 < s.size
 . rw [if_pos hl, if_pos hl]; exact .inl ⟨_, rfl, rfl⟩
 rw [if_neg hl, if_neg hl]
 simp only
 obtain ⟨q0, d0⟩ := head_q s
 generalize hA : hdS s ⟨0, 0, 0⟩ = A at *
 generalize hD : hrH (hrB s ⟨0, 0, 0⟩) (hrN s ⟨0, 0, 0⟩) = D at *
 generalize hR : hrE s ⟨0, 0, 0⟩ = R0 at *
 by_cases he : A.2.2.e = 0
 . have hq := q0.eq he
   rw [d0 he, hq]
   rw [hq] at he
   rw [if_pos he]
   generalize hR1 : jdS D.hd R0 = R1
   by_cases he1 : R1.e = 0
   . rw [if_pos he1, if_pos he1]
     obtain ⟨m1, m2, m3, m4, m5, m6, m7, m8, m9, m10, _⟩ := jdS_lim (D := D.hd) (R := R0) (by rw [hR1]; exact he1)
     have m8' : D.nin + D.nla + D.nan <= D.m := m8
     have B := bod_q (s := s) (R := R1) m8'
     have hlen : (bodS D.hd s R1).1.Len (D.hd.top + 1) D.hd.nin D.hd.nla D.hd.nou D.hd.nbs D.hd.nan := by
      unfold bodS; split
      . exact rbS_len D.hd s R1 D.hd.top
      . exact rpS_len D.hd s R1 D.hd.top
     unfold rd2 rr2 rrF
     obtain ⟨qB, nB⟩ := B
     generalize bodS D.hd s R1 = X at *
     generalize itE (adF s) 0 D.nan (bdS s D ⟨D, R1, [], [], [], [], [], [], []⟩) = F at *
     have qS := syms_q (s := s) D 1002 X.2 F.R qB
     have qS : Qr (symsS D.hd s X.2) (nmsS D s F.R) := qS
     by_cases hX : X.2.e = 0
     . obtain ⟨nr, _⟩ := nB hX
       by_cases hS : (symsS D.hd s X.2).e = 0
       . have hSe := qS.eq hS
         have hS' : (nmsS D s F.R).e = 0 := by rw [<- qS.e]; exact hS
         rw [if_pos hS', hSe, ju_q nr]
         unfold rd3 rr3
         by_cases hj : (ndS F (nmsS D s F.R)).e = 0
         . rw [if_pos hj, if_pos hj]
           have hj2 : (juS X.1 (nmsS D s F.R)).e = 0 := by rw [ju_q nr]; exact hj
           obtain ⟨_, j1, j2, j3, _⟩ := juS_e hj2
           have hw : Whole D X.1 { F with R := ndS F (nmsS D s F.R) } := ⟨nr.setR _, hlen.i, hlen.l⟩
           rcases cr_q hw ⟨m2, m3, m5, m6, m10⟩ hlen.o hlen.b hlen.a j1 j2 j3 with ⟨q, c1, c2⟩ | ⟨T, c1, c2, c3⟩
           . left; exact ⟨(12, q), by rw [c1], by rw [c2]⟩
           . right; exact ⟨T, by rw [c1], by rw [c2], c3⟩
         . rw [if_neg hj, if_neg hj]; exact .inl ⟨_, rfl, rfl⟩
       . have hS' := qS.ne hS
         rw [if_neg hS', ju_ne hS]
         unfold rd3 rr3
         rw [if_neg hS, if_neg hS', qS.e, qS.ep]
         exact .inl ⟨_, rfl, rfl⟩
     . have hS : (symsS D.hd s X.2).e ≠ 0 := by
        rw [syms_ne hX]; exact hX
       have hS' := qS.ne hS
       rw [if_neg hS', ju_ne hS]
       unfold rd3 rr3
       rw [if_neg hS, if_neg hS', qS.e, qS.ep]
       exact .inl ⟨_, rfl, rfl⟩
   . rw [if_neg he1, if_neg he1]; exact .inl ⟨_, rfl, rfl⟩
 . have he' := q0.ne he
   rw [jd_ne he, if_neg he, if_neg he', if_neg he', q0.e, q0.ep]
   exact .inl ⟨_, rfl, rfl⟩
end Go.Proofs.YtlakdngplpabdaaGreatDoor
