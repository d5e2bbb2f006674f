/- Own work. -/
import Derived.Test.YtlakdngplpabdaaGreatDoorC25
namespace Go.Proofs.YtlakdngplpabdaaGreatDoor
open Go.Vm Go.Proofs
set_option linter.unusedSimpArgs false
set_option linter.unusedVariables false
set_option maxHeartbeats 1000000
attribute [local simp] cSeq cReg reg to mv too onlyIf onlyIfo aMove aNil aFld aLd aInt aPick aLenStr aIdxStr aConv aUn unA ev upd_get isB envOf iA_add iA_sub iA_mul iA_eql iA_neq iA_lss iA_leq iA_gtr iA_geq cIf cRet cSkip okc_some resE resLE rvE aSt vc_int vc_bool vc_agg vc_str vc_ptr vc_sl ft_int ft_bool ft_str ft_ptr ft_sl tp_int tp_bool tp_agg tp_str tp_ptr tp_sl aBuild Instr.fill aCall cExit cBlk outOf ptr undef aNew aBox aIdxArr aLdN aShift shiftA aLenSl aIdx aMkSl aApp rangeA aExt
section
variable {H : Type} {O : HI H} {ro : Nat} {c : CallT H}
theorem need_s (C : Lim Tryz.prog O ro okS c) (L : O.Law) {w : Own} {h : H} {f : Nat} {s : ByteArray} {F : FD} {v0 v1 v2 v3 v4 v5 v6 : Value} (x : FB O ro w h f s F v0 v1 v2 v3 v4 v5 v6) (hl : F.defs.length <= 10000) (hd : smallU F.defs) (us : List Us) (hu : smallU us) (hul : us.length <= 10000) (k : Nat) (hk : k ≠ 1000) (v : Value) (sl : Sl O ro w h (1, k) 2 v (us.flatMap Us.cells)) :
 ∃ h', c 59 [.pointer (some ⟨f, 0, none⟩), v] h = some (.tuple #[], h') /\ FB O ro w h' f s { F with R := us.foldl (nd1 F.defs) F.R } v0 v1 v2 v3 v4 v5 v6 /\ Ch O (fun u => u = (1, 1000)) w h w h' := by
 have l0 := flat_len Us.cells 2 (fun _ => rfl) us
 obtain ⟨a, cp, rfl⟩ := sl.len (by omega) us.length l0
 refine need_b C L x hl hd us hu hul a cp fun hne => ?_
 have hpos : 0 < us.length := List.length_pos_iff.2 hne
 obtain ⟨b, cp', e, y⟩ := sl.blk (by omega) us.length l0 hpos
 simp only [Value.slice.injEq] at e
 obtain ⟨rfl, _, rfl⟩ := e
 refine ⟨b, 0, k, _, rfl, hk, y, fun i hi => ?_⟩
 have e0 := flat_at Us.cells 2 (fun _ => rfl) us i hi 0 (by omega)
 have e1 := flat_at Us.cells 2 (fun _ => rfl) us i hi 1 (by omega)
 simp only [Nat.add_zero, Nat.zero_add] at e0 e1 ⊢
 exact ⟨e0, e1⟩
theorem need_1 (C : Lim Tryz.prog O ro okS c) (L : O.Law) {w : Own} {h : H} {f : Nat} {s : ByteArray} {F : FD} {v0 v1 v2 v3 v4 v5 v6 : Value} (x : FB O ro w h f s F v0 v1 v2 v3 v4 v5 v6) (hl : F.defs.length <= 10000) (hd : smallU F.defs) (us : List Us) (hu : smallU us) (k : Nat) (hk : k ≠ 1000) (b : Nat) (y : Bx O ro w h (1, k) b (us.flatMap Us.cells)) (j : Nat) (hj : j < us.length) (cp : Nat) :
 ∃ h', c 59 [.pointer (some ⟨f, 0, none⟩), .slice (some ⟨b, j * 2, some 2⟩) 1 cp] h = some (.tuple #[], h') /\ FB O ro w h' f s { F with R := nd1 F.defs F.R us[j] } v0 v1 v2 v3 v4 v5 v6 /\ Ch O (fun u => u = (1, 1000)) w h w h' := by
 have := need_b C L x hl hd [us[j]] (by intro u hu'; rw [List.mem_singleton.1 hu']; exact hu _ (List.getElem_mem hj)) (by simp) (some ⟨b, j * 2, some 2⟩) cp (fun _ => ⟨b, j * 2, k, _, rfl, hk, y, fun i hi => by
  have hi0 : i = 0 := by simp at hi; omega
  subst hi0
  have e0 := flat_at Us.cells 2 (fun _ => rfl) us j hj 0 (by omega)
  have e1 := flat_at Us.cells 2 (fun _ => rfl) us j hj 1 (by omega)
  simp only [Nat.zero_mul, Nat.add_zero] at e0 e1 ⊢
  exact ⟨e0, e1⟩⟩)
 exact this
structure FAll (F : FD) : Prop where
 d : smallU F.defs
 n : smallU F.next
 o : smallU F.outs
 b : smallU F.bads
 l : smallU F.left
 r : smallU F.right
 dl : F.defs.length <= 10000
 nl : F.next.length <= 10000
 ol : F.outs.length <= 10000
 bl : F.bads.length <= 10000
 ll : F.left.length <= 10000
 rl : F.right.length = F.left.length
theorem nd_loop (C : Lim Tryz.prog O ro okS c) (L : O.Law) {w : Own} {h : H} {f b : Nat} {s : ByteArray} {F : FD} {v0 v1 v2 v3 v4 v5 v6 : Value} (x : FB O ro w h f s F v0 v1 v2 v3 v4 v5 v6) (al : FAll F) (E : RS) (hE : (F.left.zip F.right).foldl (ndG F.defs) F.R = E) (t : Env) (t3 : t 3 = .pointer (some ⟨b, 0, none⟩)) (t4 : t 4 = .pointer (some ⟨f, 0, none⟩)) (t5 : t 5 = .int .i64 0) :
 okE c (cBlk 0 (cLoop (W21_0 O Tryz.prog ro))) (t, h) (fun e t' h' => e = .normal /\ t' 3 = .pointer (some ⟨b, 0, none⟩) /\ t' 4 = .pointer (some ⟨f, 0, none⟩) /\ FB O ro w h' f s { F with R := E } v0 v1 v2 v3 v4 v5 v6 /\ Ch O (fun u => u = (1, 1000)) w h w h') := by
 have l5 := flat_len Us.cells 2 (fun _ => rfl) F.left
 have l6 := flat_len Us.cells 2 (fun _ => rfl) F.right
 have hrl := al.rl
 have hll := al.ll
 refine okE.blk ?_
 refine okE.loop (fun m t g => ∃ j R, FB O ro w g f s { F with R := R } v0 v1 v2 v3 v4 v5 v6 /\ Ch O (fun u => u = (1, 1000)) w h w g /\ t 3 = .pointer (some ⟨b, 0, none⟩) /\ t 4 = .pointer (some ⟨f, 0, none⟩) /\ t 5 = .int .i64 (j : Nat) /\ j + m = F.left.length + 1 /\ 0 < m /\ ((F.left.zip F.right).drop j).foldl (ndG F.defs) R = E) ?_ (F.left.length + 1) _ _ ⟨0, F.R, x, Ch.refl _ _ _, t3, t4, t5, by omega, by omega, hE⟩
 intro m t g hI
 obtain ⟨j, R, x', c', t3, t4, t5, hj, hm, hfin⟩ := hI
 have k15 := x'.m.get 15 _ rfl
 have hzl : (F.left.zip F.right).length = F.left.length := by simp [hrl]
 by_cases hlt : j < F.left.length
 . rcases x'.s5 with ⟨e5, e5'⟩ | ⟨b5, m5, cp5, rfl, hcp5, el5, en5, y5⟩
   . simp only at e5'; rw [e5'] at l5; simp at l5; omega
   rcases x'.s6 with ⟨e6, e6'⟩ | ⟨b6, m6, cp6, rfl, hcp6, el6, en6, y6⟩
   . simp only at e6'; rw [e6'] at l6; simp at l6; omega
   simp only at el5 el6 y5 y6 k15
   have hm5 : m5 = F.left.length := by omega
   have hm6 : m6 = F.right.length := by omega
   rw [foldl_at _ _ _ (by omega)] at hfin
   have hz : (F.left.zip F.right)[j]'(by omega) = (F.left[j], F.right[j]'(by omega)) := by simp
   rw [hz] at hfin
   unfold ndG at hfin
   simp only at hfin
   obtain ⟨q, hq⟩ : ∃ q, q = j + 1 := ⟨_, rfl⟩
   have hw : IntKind.i64.wrap ((j : Int) + 1) = (q : Int) := by rw [wrap_id (by omega) (by omega)]; omega
   have hlt' : (j : Int) < F.left.length := by omega
   rw [<- hq] at hfin
   have T5 : (if cp5 = 0 then m5 else cp5 - 1) = m5 := by rcases hcp5 with rfl | rfl <;> simp
   have T6 : (if cp6 = 0 then m6 else cp6 - 1) = m6 := by rcases hcp6 with rfl | rfl <;> simp
   have B5 : boundA (some (.int .i64 (q : Int))) m5 m5 = some q := by simp [boundA]; omega
   have B6 : boundA (some (.int .i64 (q : Int))) m6 m6 = some q := by simp [boundA]; omega
   have B0 : boundA (some (.int .i64 (j : Int))) 0 q = some j := by simp [boundA]; omega
   have hqj : q - j = 1 := by omega
   have hjq : j < q := by omega
   have hlm : (j : Int) < m5 := by omega
   have n1 : ∀ cp, _ := fun cp => need_1 C L x' al.dl al.d F.left al.l 15 (by omega) b5 y5 j hlt cp
   by_cases hj0 : j = 0
   . have hq1 : q = 1 := by omega
     obtain ⟨h1, hc1, x1, c1⟩ := n1 cp5
     have k16 := x1.m.get 16 _ rfl
     have y61 := y6.ch L c1 (by simp)
     obtain ⟨h2, hc2, x2, c2⟩ := need_1 C L x1 al.dl al.d F.right al.r 16 (by omega) b6 y61 j (by omega) cp6
     have x2' := x2
     subst hj0
     subst hq1
     simp only [Nat.zero_mul] at hc1 hc2
     have hm0 : 0 < m5 := by omega
     have C5 : boundA (some (.int .i64 1)) m5 m5 = some 1 := B5
     have C6 : boundA (some (.int .i64 1)) m6 m6 = some 1 := B6
     have C0 : boundA (some (.int .i64 0)) 0 1 = some 0 := B0
     have hw0 : IntKind.i64.wrap 1 = 1 := by decide
     have t5' : t 5 = .int .i64 0 := t5
     refine okE.flat (fun _ => rfl) ?_
     simp [W21_0, R21_15, R21_17, R21_18, R21_16, t3, t4, t5', k15, hm0, hw0, aSliceSl, T5, T6, C5, C6, C0, hc1, k16, hc2]
     exact ⟨m - 1, by omega, 1, _, x2', (c'.trans c1).trans c2, rfl, by omega, by omega, hfin⟩
   . obtain ⟨h1, hc1, x1, c1⟩ := n1 (if cp5 = 0 then 0 else cp5 - j)
     have k16 := x1.m.get 16 _ rfl
     have y61 := y6.ch L c1 (by simp)
     obtain ⟨h2, hc2, x2, c2⟩ := need_1 C L x1 al.dl al.d F.right al.r 16 (by omega) b6 y61 j (by omega) (if cp6 = 0 then 0 else cp6 - j)
     refine okE.flat (fun _ => rfl) ?_
     simp [W21_0, R21_15, R21_17, R21_18, R21_16, t3, t4, t5, k15, hlt, hlt', hlm, hw, aSliceSl, T5, T6, B5, B6, B0, hj0, hqj, hjq, hc1, k16, hc2]
     exact ⟨m - 1, by omega, q, _, x2, (c'.trans c1).trans c2, rfl, by omega, by omega, hfin⟩
 . rw [List.drop_eq_nil_of_le (by omega)] at hfin
   have hfin2 : R = E := hfin
   subst hfin2
   obtain ⟨a5, cp5, hv5⟩ := x'.s5.len (by omega) F.left.length l5
   rw [hv5] at k15
   have hlt' : ¬ (j : Int) < F.left.length := by omega
   refine okE.flat (fun _ => rfl) ?_
   simp [W21_0, R21_15, t3, t4, t5, k15, hlt, hlt']
   exact ⟨x', c'⟩
theorem nd_part (C : Lim Tryz.prog O ro okS c) (L : O.Law) {w : Own} {h : H} {f b : Nat} {s : ByteArray} {F : FD} {v0 v1 v2 v3 v4 v5 v6 : Value} (x : FB O ro w h f s F v0 v1 v2 v3 v4 v5 v6) (al : F.R.e = 0 -> FAll F) (t : Env) (t3 : t 3 = .pointer (some ⟨b, 0, none⟩)) (t4 : t 4 = .pointer (some ⟨f, 0, none⟩)) :
 okE c (cSeq (cReg (R21_10 O Tryz.prog ro)) (cIf (.tmp 32) (cSeq (cReg (R21_11 O Tryz.prog ro)) (cSeq (cReg (R21_12 O Tryz.prog ro)) (cSeq (cReg (R21_13 O Tryz.prog ro)) (cSeq (cReg (R21_14 O Tryz.prog ro)) (cBlk 0 (cLoop (W21_0 O Tryz.prog ro))))))) cSkip)) (t, h) (fun e t' h' => e = .normal /\ t' 3 = .pointer (some ⟨b, 0, none⟩) /\ t' 4 = .pointer (some ⟨f, 0, none⟩) /\ FB O ro w h' f s { F with R := if F.R.e = 0 then ndS F F.R else F.R } v0 v1 v2 v3 v4 v5 v6 /\ Ch O (fun u => u = (1, 1000)) w h w h') := by
 have k17 := x.m.get 17 _ rfl
 by_cases he : F.R.e = 0
 . rw [if_pos he]
   have al := al he
   have he' : ((F.R.e : Int) == 0) = true := by simp; omega
   have k11 := x.m.get 11 _ rfl
   obtain ⟨h1, hc1, x1, c1⟩ := need_s C L x al.dl al.d F.next al.n al.nl 11 (by omega) v1 x.s1
   have k12 := x1.m.get 12 _ rfl
   obtain ⟨h2, hc2, x2, c2⟩ := need_s C L x1 al.dl al.d F.outs al.o al.ol 12 (by omega) v2 x1.s2
   have k13 := x2.m.get 13 _ rfl
   obtain ⟨h3, hc3, x3, c3⟩ := need_s C L x2 al.dl al.d F.bads al.b al.bl 13 (by omega) v3 x2.s3
   have f1 := x.s1.flat
   have f2 := x.s2.flat
   have f3 := x.s3.flat
   refine okE.seq (okE.flat (fun _ => rfl) ?_)
   simp [R21_10, t4, k17, he', thenE, -resE, -resLE, -rvE]
   refine okE.cond true (by simp [he]) ?_
   simp only [if_true]
   refine okE.seq (okE.flat (fun _ => rfl) ?_)
   simp [R21_11, t4, k11, hc1, thenE, -resE, -resLE, -rvE]
   refine okE.seq (okE.flat (fun _ => rfl) ?_)
   simp [R21_12, t4, k12, hc2, thenE, -resE, -resLE, -rvE]
   refine okE.seq (okE.flat (fun _ => rfl) ?_)
   simp [R21_13, t4, k13, hc3, thenE, -resE, -resLE, -rvE]
   refine okE.seq (okE.flat (fun _ => rfl) ?_)
   simp [R21_14, thenE, -resE, -resLE, -rvE]
   refine okE.mono (nd_loop C L (b := b) x3 ⟨al.d, al.n, al.o, al.b, al.l, al.r, al.dl, al.nl, al.ol, al.bl, al.ll, al.rl⟩ (ndS F F.R) rfl _ (by simp [t3]) (by simp [t4]) (by simp)) ?_
   rintro e t' h' ⟨rfl, t3, t4, x4, c4⟩
   exact ⟨rfl, t3, t4, x4, ((c1.trans c2).trans c3).trans c4⟩
 . rw [if_neg he]
   have he' : ((F.R.e : Int) == 0) = false := by simp; omega
   refine okE.seq (okE.flat (fun _ => rfl) ?_)
   simp [R21_10, t4, k17, he', thenE, -resE, -resLE, -rvE]
   refine okE.cond false (by simp [he]) ?_
   refine okE.skip ?_
   simp [t3, t4]
   exact ⟨x, Ch.refl _ _ _⟩
end
theorem jdS_pos (D : HD) (R : RS) : (jdS D R).pos = R.pos := by
 have h1 : ∀ (R : RS), (jd1 D R).pos = R.pos := fun R => by unfold jd1; split; exact fl_pos _ _ _; rfl
 have h2 : ∀ (R : RS), (jd2 D R).pos = R.pos := fun R => by unfold jd2; split; exact fl_pos _ _ _; rfl
 have h3 : ∀ (R : RS), (jd3 D R).pos = R.pos := fun R => by unfold jd3; split; exact fl_pos _ _ _; rfl
 have h4 : ∀ (R : RS), (jd4 D R).pos = R.pos := fun R => by unfold jd4; split; exact fl_pos _ _ _; rfl
 unfold jdS
 rw [h4, h3, h2, h1]
theorem rr_all {s : ByteArray} {D : HR} {R0 R1 : RS} (hR : jdS D.hd R0 = R1) (he1 : R1.e = 0) (he : (nmsS D s (rrF s D R1).R).e = 0) : ∃ N, Whole D N (rrF s D R1) /\ N.outs.length = D.nou /\ N.bads.length = D.nbs /\ N.gates.length = D.nan := by
 have hF : (rrF s D R1).R.e = 0 := by
  by_cases h : (rrF s D R1).R.e = 0
  . exact h
  . rw [nms_ne h] at he; exact he
 obtain ⟨m1, m2, m3, m4, m5, m6, m7, m8, m9, m10, _⟩ := jdS_lim (D := D.hd) (R := R0) (by rw [hR]; exact he1)
 have m8' : D.nin + D.nla + D.nan <= D.m := m8
 have B := bod_q (s := s) (R := R1) m8'
 have hlen : (bodS D.hd s R1).1.Len (D.hd.top + 1) D.hd.nin D.hd.nla D.hd.nou D.hd.nbs D.hd.nan := by
  unfold bodS; split
  . exact rbS_len D.hd s R1 D.hd.top
  . exact rpS_len D.hd s R1 D.hd.top
 obtain ⟨qB, nB⟩ := B
 have hX : (bodS D.hd s R1).2.e = 0 := by rw [qB.e]; exact hF
 exact ⟨_, ⟨(nB hX).1, hlen.i, hlen.l⟩, hlen.o, hlen.b, hlen.a⟩
theorem small_of {us : List Us} {m : Nat} (hm : m <= 10000) (h : ∀ u ∈ us, 0 <= u.l /\ u.l <= 2 * (m : Int) + 1) : smallU us := by
 intro u hu
 have := h u hu
 omega
theorem all_of {D : HR} {N : Net} {F : FD} (h : Whole D N F) (hm : D.m <= 80) (hl : D.nin <= 4 /\ D.nla <= 6 /\ D.nou <= 4 /\ D.nan <= 60 /\ D.nbs <= 1) (ho : N.outs.length = D.nou) (hb : N.bads.length = D.nbs) (ha : N.gates.length = D.nan) (hbs : D.nbs = 0 -> D.nou = 1) (R : RS) :
 FAll { F with R := R } /\ FOk { F with R := R } /\ FPr { F with R := R } := by
 have hd := h.nr.dlen
 rw [h.i, h.a, ha] at hd
 have e1 : F.next.length = D.nla := by rw [<- h.nr.n]; simp [h.a]
 have e2 : F.outs.length = D.nou := by rw [<- h.nr.o, ho]
 have e3 : F.bads.length = D.nbs := by rw [<- h.nr.b, hb]
 have e4 : F.left.length = D.nan := by rw [<- h.nr.l]; simp [ha]
 have e5 : F.right.length = D.nan := by rw [<- h.nr.r]; simp [ha]
 have s0 : smallU F.defs := by
  intro u hu
  have := h.nr.gd.rg u hu
  omega
 have s1 := small_of (by omega) h.nr.rn
 have s2 := small_of (by omega) h.nr.ro
 have s3 := small_of (by omega) h.nr.rb
 have s4 := small_of (by omega) h.nr.rl
 have s5 := small_of (by omega) h.nr.rr
 have hhd := h.nr.hd
 refine ⟨⟨s0, s1, s2, s3, s4, s5, by simp only; omega, by simp only; omega, by simp only; omega, by simp only; omega, by simp only; omega, by simp only; omega⟩, ⟨s0, s4, s5, by simp only [hhd]; omega, by simp only; omega, by simp only; omega⟩, ⟨by simp only [hhd]; omega, s1, fun hx => ⟨?_, s3⟩, fun hx => ⟨?_, s2⟩⟩⟩
 . simp only [hhd] at hx ⊢; omega
 . simp only [hhd] at hx ⊢; omega
section
variable {H : Type} {O : HI H} {ro : Nat} {c : CallT H}
def RrQ (O : HI H) (ro : Nat) (w0 : Own) (h0 : H) (E : Except (Nat × Nat) RcT) (v : Value) (h' : H) : Prop :=
 ∃ w', ((∃ q, E = .error q /\ v = .tuple #[.pointer none, fv q.1 q.2]) \/ (∃ T p, E = .ok T /\ v = .tuple #[.pointer (some ⟨p, 0, none⟩), fv 0 0] /\ RC O ro w' h' p T)) /\ Ch O (Kc [1, 2, 3] 4) w0 h0 w' h' /\ ro <= O.next h'
theorem rr_tail (C : Lim Tryz.prog O ro okS c) (L : O.Law) {w0 : Own} {h0 : H} {w : Own} {h : H} {f b : Nat} {s : ByteArray} {F : FD} (x : FX O ro w h f s F) (z : Bx O ro w h (103, 0) b [.int .i64 0, .int .i64 0]) (lo : ro <= O.next h) (cc : Ch O (Kc [1, 2, 3] 4) w0 h0 w h) (al : F.R.e = 0 -> ∀ R, FAll { F with R := R } /\ FOk { F with R := R } /\ FPr { F with R := R }) (t : Env) (t3 : t 3 = .pointer (some ⟨b, 0, none⟩)) (t4 : t 4 = .pointer (some ⟨f, 0, none⟩)) :
 okE c (cSeq (cSeq (cReg (R21_10 O Tryz.prog ro)) (cIf (.tmp 32) (cSeq (cReg (R21_11 O Tryz.prog ro)) (cSeq (cReg (R21_12 O Tryz.prog ro)) (cSeq (cReg (R21_13 O Tryz.prog ro)) (cSeq (cReg (R21_14 O Tryz.prog ro)) (cBlk 0 (cLoop (W21_0 O Tryz.prog ro))))))) cSkip)) (cSeq (cSeq (cReg (R21_19 O Tryz.prog ro)) (cIf (.tmp 84) (cSeq (cReg (R21_20 O Tryz.prog ro)) cRet) cSkip)) (cSeq (cReg (R21_21 O Tryz.prog ro)) cRet))) (t, h)
  (fun e t' h' => (e = .ret \/ e = .normal) /\ ∃ v, resE O Tryz.prog [ResultVar.tmp 2, ResultVar.cell 3 58] t' h' = some v /\ RrQ O ro w0 h0 (rr3 F (if F.R.e = 0 then ndS F F.R else F.R)) v h') := by
 obtain ⟨v0, v1, v2, v3, v4, v5, v6, x⟩ := x
 refine okE.seq (okE.mono (nd_part C L x (fun h => (al h F.R).1) t t3 t4) ?_)
 rintro e t h1 ⟨rfl, t3, t4, x1, c1⟩
 simp only [thenE]
 have z1 := z.ch L c1 (by simp)
 have lo1 : ro <= O.next h1 := Nat.le_trans lo c1.nx
 have cc1 := cc.trans (Kc.one (cs := [1, 2, 3]) (n := 4) c1 (.inl (by simp)))
 have hrob : ¬ b < ro := by have := z1.lo; omega
 generalize hR3 : (if F.R.e = 0 then ndS F F.R else F.R) = R3 at *
 have k17 : O.cell h1 f 17 = some (.int .i64 R3.e) := x1.m.get 17 _ rfl
 have k18 : O.cell h1 f 18 = some (.int .i64 R3.ep) := x1.m.get 18 _ rfl
 by_cases he : R3.e = 0
 . have he' : ((R3.e : Int) != 0) = false := by simp [he]
   have hF0 : F.R.e = 0 := by
    by_cases h : F.R.e = 0
    . exact h
    . rw [if_neg h] at hR3; rw [hR3]; exact he
   obtain ⟨a1, a2, a3⟩ := al hF0 R3
   obtain ⟨v, w2, h2, hc2, res2, c2, lo2⟩ := circ_b C L x1 lo1 a2 a3
   have z2 := z1.ch L c2 (by simp [Kc])
   have cc2 := cc1.trans (Kc.mono (cs' := [1, 2, 3]) (n' := 4) c2 (by decide) (by omega))
   rcases res2 with ⟨q, eq, rfl⟩ | ⟨T, p, eq, rfl, rc⟩
   . obtain ⟨h3, e3, z3, c3⟩ := Bx.over L (K := fun u => u = (103, 0)) (new := [.int .i64 12, .int .i64 (q : Nat)]) rfl z2 rfl
     have hz3 : cellsA O h3 b 0 2 = some [.int .i64 12, .int .i64 (q : Nat)] := z3.all
     have hfin : rr3 F R3 = .error (12, q) := by unfold rr3; rw [if_pos he, eq]
     rw [hfin]
     refine okE.flat (fun _ => rfl) ?_
     simp [R21_19, R21_21, t3, t4, k17, he', he, hc2, fv, hrob, e3, load58, hz3]
     exact ⟨w2, .inl ⟨(12, q), rfl, rfl⟩, cc2.trans (Kc.one c3 (.inr (by simp))), Nat.le_trans lo2 c3.nx⟩
   . obtain ⟨h3, e3, z3, c3⟩ := Bx.over L (K := fun u => u = (103, 0)) (new := [.int .i64 0, .int .i64 0]) rfl z2 rfl
     have hz3 : cellsA O h3 b 0 2 = some [.int .i64 0, .int .i64 0] := z3.all
     have hfin : rr3 F R3 = .ok T := by unfold rr3; rw [if_pos he, eq]
     rw [hfin]
     have rc3 := rc.ch L c3 (by simp) (by simp)
     refine okE.flat (fun _ => rfl) ?_
     simp [R21_19, R21_21, t3, t4, k17, he', he, hc2, fv, hrob, e3, load58, hz3]
     exact ⟨w2, .inr ⟨T, p, rfl, rfl, rc3⟩, cc2.trans (Kc.one c3 (.inr (by simp))), Nat.le_trans lo2 c3.nx⟩
 . have he' : ((R3.e : Int) != 0) = true := by simp; omega
   obtain ⟨h3, e3, z3, c3⟩ := Bx.over L (K := fun u => u = (103, 0)) (new := [.int .i64 R3.e, .int .i64 R3.ep]) rfl z1 rfl
   have hz3 : cellsA O h3 b 0 2 = some [.int .i64 R3.e, .int .i64 R3.ep] := z3.all
   have hfin : rr3 F R3 = .error (R3.e, R3.ep) := by unfold rr3; rw [if_neg he]
   rw [hfin]
   refine okE.flat (fun _ => rfl) ?_
   simp [R21_19, R21_20, t3, t4, k17, k18, he', he, List.zipIdx, hrob, e3, load58, hz3]
   exact ⟨w, .inl ⟨(R3.e, R3.ep), rfl, rfl⟩, cc1.trans (Kc.one c3 (.inr (by simp))), Nat.le_trans lo1 c3.nx⟩
theorem rr_mid (C : Lim Tryz.prog O ro okS c) (L : O.Law) {w0 : Own} {h0 : H} {w : Own} {h : H} {f b : Nat} {s : ByteArray} (hs : s.size <= 1000) {D : HR} (ok : D.Ok) {R0 R1 : RS} (hp : R1.pos <= s.size) (hR : R1.e = 0 -> jdS D.hd R0 = R1) (x : FX O ro w h f s ⟨D, R1, [], [], [], [], [], [], []⟩) (z : Bx O ro w h (103, 0) b [.int .i64 0, .int .i64 0]) (lo : ro <= O.next h) (cc : Ch O (Kc [1, 2, 3] 4) w0 h0 w h) :
 ∃ h1 h2 h3 w3, c 56 [.pointer (some ⟨f, 0, none⟩)] h = some (.tuple #[], h1) /\ c 57 [.pointer (some ⟨f, 0, none⟩)] h1 = some (.tuple #[], h2) /\ c 58 [.pointer (some ⟨f, 0, none⟩)] h2 = some (.tuple #[], h3) /\
  ∃ F, FX O ro w3 h3 f s F /\ Bx O ro w3 h3 (103, 0) b [.int .i64 0, .int .i64 0] /\ ro <= O.next h3 /\ Ch O (Kc [1, 2, 3] 4) w0 h0 w3 h3 /\ (F.R.e = 0 -> ∀ R, FAll { F with R := R } /\ FOk { F with R := R } /\ FPr { F with R := R }) /\
   rr3 F (if F.R.e = 0 then ndS F F.R else F.R) = (if R1.e = 0 then rr2 s D R1 else .error (R1.e, R1.ep)) := by
 obtain ⟨o1, o2⟩ := ok
 by_cases he : R1.e = 0
 . have hR := hR he
   obtain ⟨m1, m2, m3, m4, m5, m6, m7, m8, m9, m10, _⟩ := jdS_lim (D := D.hd) (R := R0) (by rw [hR]; exact he)
   have n1 : D.m <= 80 := m1
   have n2 : D.nin <= 4 := m2
   have n3 : D.nla <= 6 := m3
   have n4 : D.nou <= 4 := m4
   have n5 : D.nan <= 60 := m5
   have n6 : D.nbs <= 1 := m6
   have fi : FI D s ⟨D, R1, [], [], [], [], [], [], []⟩ 10 := ⟨rfl, hp, by intro u hu; simp at hu, by simp, by simp, by simp, by simp, by simp, by simp, by simp⟩
   obtain ⟨w1, h1, hc1, x1, f1, c1, lo1⟩ := body_b C L hs ⟨by omega, by omega, by omega, by omega, by omega⟩ _ fi x lo
   have z1 := z.ch L c1 (by simp [Kc])
   obtain ⟨w2, h2, hc2, x2, f2, c2, lo2⟩ := ands_b C L hs (D := D) ⟨by omega, by omega, by omega, by omega⟩ _ f1 x1 lo1
   have z2 := z1.ch L c2 (by simp [Kc])
   obtain ⟨w3, h3, hc3, x3, c3, lo3⟩ := names_b C L hs (D := D) ⟨by omega, by omega, by omega, by omega⟩ _ f2.hd f2.pos x2 lo2
   have z3 := z2.ch L c3 (by simp [Kc])
   refine ⟨h1, h2, h3, w3, hc1, hc2, hc3, _, x3, z3, lo3, ((cc.trans (Kc.mono c1 (by decide) (by omega))).trans (Kc.mono c2 (by decide) (by omega))).trans (Kc.mono c3 (by decide) (by omega)), ?_, ?_⟩
   . intro h0 R
     obtain ⟨N, hw, ho, hb, ha⟩ := rr_all hR he h0
     exact all_of hw n1 ⟨n2, n3, n4, n5, n6⟩ ho hb ha m10 R
   . rw [if_pos he]
     rfl
 . have e1 := body_e C x he
   have e2 := ands_e C x he
   obtain ⟨w3, h3, hc3, x3, c3, lo3⟩ := names_b C L hs (D := D) ⟨o1.2.1, o1.2.2.1, o1.2.2.2.1, o1.2.2.2.2.2⟩ _ rfl hp x lo
   have z3 := z.ch L c3 (by simp [Kc])
   have hn : nmsS D s R1 = R1 := nms_ne he
   refine ⟨h, h, h3, w3, e1, e2, hc3, _, x3, z3, lo3, cc.trans (Kc.mono c3 (by decide) (by omega)), ?_, ?_⟩
   . intro h0
     simp only [hn] at h0
     exact absurd h0 he
   . simp only [hn, if_neg he]
     unfold rr3
     rw [if_neg he]
theorem rr_w (C : Lim Tryz.prog O ro okS c) (L : O.Law) {w : Own} {h : H} (lo : ro <= O.next h) (s : ByteArray) :
 ∃ v h', c 21 [.string s] h = some (v, h') /\ RrQ O ro w h (rrS s) v h' := by
 obtain ⟨b, hb⟩ : ∃ b, b = O.next h := ⟨_, rfl⟩
 obtain ⟨h1, hh1⟩ : ∃ h1, h1 = O.new h [.int .i64 0, .int .i64 0] := ⟨_, rfl⟩
 obtain ⟨w1, hw1⟩ : ∃ w1, w1 = w.set b (103, 0) := ⟨_, rfl⟩
 have c1 : ∀ K, Ch O K w h w1 h1 := fun K => by rw [hh1, hw1, hb]; exact Ch.new L _ _ _ _ _
 have z1 : Bx O ro w1 h1 (103, 0) b [.int .i64 0, .int .i64 0] := by rw [hh1, hw1, hb]; exact Bx.new L _ _ lo _ _
 have lo1 : ro <= O.next h1 := Nat.le_trans lo (c1 fun _ => True).nx
 have hrob : ¬ b < ro := by have := z1.lo; omega
 by_cases hlong : 1000 < s.size
 . obtain ⟨h3, e3, z3, c3⟩ := Bx.over L (K := fun u => u = (103, 0)) (new := [.int .i64 1, .int .i64 0]) rfl z1 rfl
   have hz : cellsA O h3 b 0 2 = some [.int .i64 1, .int .i64 0] := z3.all
   have hrd : rrS s = .error (1, 0) := by unfold rrS; rw [if_pos hlong]
   have hk : (1000 : Int) < s.size := by omega
   refine ⟨.tuple #[.pointer none, fv 1 0], h3, ?_, w1, .inl ⟨(1, 0), hrd, rfl⟩, (c1 _).trans (Kc.one c3 (.inr (by simp))), Nat.le_trans lo1 c3.nx⟩
   refine C.eq (F21_fn O ro) rfl rfl (okE.seq (okE.flat (fun _ => rfl) ?_))
   simp [R21_0, <- hb, <- hh1, thenE, -resE, -resLE, -rvE]
   refine okE.seq (okE.flat (fun _ => rfl) ?_)
   simp [R21_1, R21_2, hk, hlong, List.zipIdx, hrob, e3, load58, hz, fv, thenE]
 . have hs : s.size <= 1000 := by omega
   have hk : ¬ (1000 : Int) < s.size := by omega
   obtain ⟨f, hf⟩ : ∃ f, f = O.next h1 := ⟨_, rfl⟩
   obtain ⟨h2, hh2⟩ : ∃ h2, h2 = O.new h1 (fcells s ⟨false, 0, 0, 0, 0, 0, 0, 0, 0, 0⟩ ⟨0, 0, 0⟩ (.slice none 0 0) (.slice none 0 0) (.slice none 0 0) (.slice none 0 0) (.slice none 0 0) (.slice none 0 0) (.slice none 0 0)) := ⟨_, rfl⟩
   obtain ⟨w2, hw2⟩ : ∃ w2, w2 = w1.set f (1, 1000) := ⟨_, rfl⟩
   have c2 : ∀ K, Ch O K w1 h1 w2 h2 := fun K => by rw [hh2, hw2, hf]; exact Ch.new L _ _ _ _ _
   have x2 : FB O ro w2 h2 f s ⟨⟨false, 0, 0, 0, 0, 0, 0, 0, 0, 0⟩, ⟨0, 0, 0⟩, [], [], [], [], [], [], []⟩ (.slice none 0 0) (.slice none 0 0) (.slice none 0 0) (.slice none 0 0) (.slice none 0 0) (.slice none 0 0) (.slice none 0 0) :=
    ⟨by rw [hh2, hw2, hf]; exact Bx.new L _ _ lo1 _ _, Sl.nil _ _ _ _, Sl.nil _ _ _ _, Sl.nil _ _ _ _, Sl.nil _ _ _ _, Sl.nil _ _ _ _, Sl.nil _ _ _ _, Sl.nil _ _ _ _⟩
   have z2 := z1.ch L (c2 fun _ => False) (by simp)
   have lo2 : ro <= O.next h2 := Nat.le_trans lo1 (c2 fun _ => True).nx
   obtain ⟨w3, h3, hc3, x3, c3, lo3, p3, n3, l3⟩ := head_b C L x2 lo2 hs (Nat.zero_le _)
   have z3 := z2.ch L c3 (by simp [Kc])
   simp only at x3 p3 n3 l3
   obtain ⟨D, hD⟩ : ∃ D, D = hrH (hrB s ⟨0, 0, 0⟩) (hrN s ⟨0, 0, 0⟩) := ⟨_, rfl⟩
   obtain ⟨R0, hR0⟩ : ∃ R0, R0 = hrE s ⟨0, 0, 0⟩ := ⟨_, rfl⟩
   have hDok : D.Ok := by
    rw [hD]
    exact ⟨⟨getD_lt n3 0, getD_lt n3 1, getD_lt n3 2, getD_lt n3 3, getD_lt n3 4, getD_lt n3 5⟩, getD_lt n3 6, getD_lt n3 7, getD_lt n3 8⟩
   rw [<- hD, <- hR0] at x3
   rw [<- hR0] at p3
   have cc3 : Ch O (Kc [1, 2, 3] 4) w h w3 h3 := ((c1 _).trans (c2 _)).trans (Kc.mono c3 (by decide) (by omega))
   have hrr : rrS s = (if (if R0.e = 0 then jdS D.hd R0 else R0).e = 0 then rr2 s D (if R0.e = 0 then jdS D.hd R0 else R0) else .error ((if R0.e = 0 then jdS D.hd R0 else R0).e, (if R0.e = 0 then jdS D.hd R0 else R0).ep)) := by
    unfold rrS
    rw [if_neg hlong]
    simp only
    rw [<- hD, <- hR0]
   have k17 : O.cell h3 f 17 = some (.int .i64 R0.e) := x3.m.get 17 _ rfl
   have hc3' : c 54 [.pointer (some ⟨f, 0, none⟩)] h2 = some (.tuple #[], h3) := hc3
   refine C.fn (F21_fn O ro) rfl rfl ?_
   obtain ⟨e0, he0⟩ : ∃ e0, e0 = envOf [.string s] := ⟨_, rfl⟩
   have a0 : e0 0 = .string s := by subst he0; rfl
   rw [<- he0]
   unfold F21
   have hh2' : h2 = O.new h1 [.bool false, .int .i64 0, .int .i64 0, .int .i64 0, .int .i64 0, .int .i64 0, .int .i64 0, .int .i64 0, .int .i64 0, .int .i64 0, .slice none 0 0, .slice none 0 0, .slice none 0 0, .slice none 0 0, .slice none 0 0, .slice none 0 0, .slice none 0 0, .int .i64 0, .int .i64 0, .int .i64 0, .string s] := hh2
   refine okE.seq (okE.flat (fun _ => rfl) ?_)
   simp [R21_0, <- hb, <- hh1, thenE, -resE, -resLE, -rvE]
   refine okE.seq (okE.flat (fun _ => rfl) ?_)
   simp [R21_1, a0, hk, hlong, thenE, -resE, -resLE, -rvE]
   refine okE.seq (okE.flat (fun _ => rfl) ?_)
   simp [R21_3, a0, List.zipIdx, <- hf, <- hh2', thenE, -resE, -resLE, -rvE]
   refine okE.seq (okE.flat (fun _ => rfl) ?_)
   simp [R21_4, hc3', thenE, -resE, -resLE, -rvE]
   obtain ⟨R1, hR1⟩ : ∃ R1, R1 = (if R0.e = 0 then jdS D.hd R0 else R0) := ⟨_, rfl⟩
   rw [<- hR1] at hrr
   rw [hrr]
   refine okE.seq (okE.mono (Q := fun e t' h' => e = .normal /\ t' 3 = .pointer (some ⟨b, 0, none⟩) /\ t' 4 = .pointer (some ⟨f, 0, none⟩) /\ FX O ro w3 h' f s ⟨D, R1, [], [], [], [], [], [], []⟩ /\ Ch O (fun u => u = (1, 1000)) w3 h3 w3 h') ?_ ?_)
   . by_cases he : R0.e = 0
     . have he' : ((R0.e : Int) == 0) = true := by simp [he]
       obtain ⟨h4, hc4, x4, c4⟩ := sums_b C L x3 hDok
       have hc4' : c 55 [.pointer (some ⟨f, 0, none⟩)] h3 = some (.tuple #[], h4) := hc4
       rw [if_pos he] at hR1
       simp only at x4
       rw [<- hR1] at x4
       refine okE.flat (fun _ => rfl) ?_
       simp [R21_5, R21_6, k17, he', he, hc4']
       exact ⟨⟨_, _, _, _, _, _, _, x4⟩, c4⟩
     . have he' : ((R0.e : Int) == 0) = false := by simp; omega
       rw [if_neg he] at hR1
       rw [<- hR1] at x3
       refine okE.flat (fun _ => rfl) ?_
       simp [R21_5, k17, he', he]
       exact ⟨⟨_, _, _, _, _, _, _, x3⟩, Ch.refl _ _ _⟩
   . rintro e t h4 ⟨rfl, t3, t4, x4, c4⟩
     simp only [thenE]
     have z4 := z3.ch L c4 (by simp)
     have lo4 : ro <= O.next h4 := Nat.le_trans lo3 c4.nx
     have cc4 := cc3.trans (Kc.one (cs := [1, 2, 3]) (n := 4) c4 (.inl (by simp)))
     have hRj : R1.e = 0 -> jdS D.hd R0 = R1 := by
      intro h0
      by_cases he : R0.e = 0
      . rw [if_pos he] at hR1; exact hR1.symm
      . rw [if_neg he] at hR1; rw [hR1] at h0; exact absurd h0 he
     have hp1 : R1.pos <= s.size := by
      rw [hR1]
      split
      . rw [jdS_pos]; exact p3
      . exact p3
     obtain ⟨h5, h6, h7, w7, hc5, hc6, hc7, F, x7, z7, lo7, cc7, al7, fin⟩ := rr_mid C L hs hDok hp1 hRj x4 z4 lo4 cc4
     rw [<- fin]
     refine okE.seq (okE.flat (fun _ => rfl) ?_)
     simp [R21_7, t4, hc5, thenE, -resE, -resLE, -rvE]
     refine okE.seq (okE.flat (fun _ => rfl) ?_)
     simp [R21_8, t4, hc6, thenE, -resE, -resLE, -rvE]
     refine okE.seq (okE.flat (fun _ => rfl) ?_)
     simp [R21_9, t4, hc7, thenE, -resE, -resLE, -rvE]
     exact rr_tail C L x7 z7 lo7 cc7 al7 _ (by simp [t3]) (by simp [t4])
end
end Go.Proofs.YtlakdngplpabdaaGreatDoor
