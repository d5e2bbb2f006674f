/- Own work. -/
import Derived.Test.YtlakdngplpabdaaGreatDoorC26
namespace Go.Proofs.YtlakdngplpabdaaGreatDoor
open Go.Vm Go.Proofs
set_option linter.unusedSimpArgs false
set_option linter.unusedVariables false
set_option maxHeartbeats 300000
set_option maxRecDepth 4000
def dg (n : Nat) : UInt8 := UInt8.ofNat (48 + n)
def decS (n : Nat) : ByteArray :=
 if n < 10 then ⟨#[dg n]⟩ else if n < 100 then ⟨#[dg (n / 10), dg (n % 10)]⟩ else ⟨#[dg (n / 100), dg (n / 10 % 10), dg (n % 10)]⟩
theorem okE.once1 {H : Type} {c : CallT H} {F : CodeT H} {t : Env} {h : H} {Q : Exit -> Env -> H -> Prop} (a : okE c F (t, h) (fun e t' h' => e ≠ .normal /\ Q e t' h')) : okE c (cLoop F) (t, h) Q := by
 refine okE.loop (fun n t' h' => t' = t /\ h' = h) ?_ 0 t h ⟨rfl, rfl⟩
 rintro n t' h' ⟨rfl, rfl⟩
 exact okE.mono a fun e t' h' hq => .inr hq
theorem dig36 : ∀ n : Fin 10, (⟨#[48, 49, 50, 51, 52, 53, 54, 55, 56, 57, 97, 98, 99, 100, 101, 102, 103, 104, 105, 106, 107, 108, 109, 110, 111, 112, 113, 114, 115, 116, 117, 118, 119, 120, 121, 122]⟩ : ByteArray).extract n (n + 1) = decS n := by decide
theorem dig200 : ∀ n : Fin 100, 10 <= n.val -> strC200.extract (n * 2) (n * 2 + 2) = decS n := by decide
theorem dig2 : ∀ n : Fin 100, strC200[n.val * 2]? = some (dg (n / 10)) /\ strC200[n.val * 2 + 1]? = some (dg (n % 10)) := by decide
theorem len8 : ∀ n : Fin 256, 100 <= n.val -> strC256[n.val]? = some (if n.val < 128 then 7 else 8) := by decide
theorem wrap_u8 (n : Nat) (h : n < 256) : IntKind.u8.wrap (n : Int) = (n : Int) := by
 simp only [IntKind.wrap, IntKind.bits, IntKind.signed, Bool.false_and, Bool.false_eq_true, if_false]
 omega
theorem wrap_u32 (n : Nat) (h : n < 4294967296) : IntKind.u32.wrap (n : Int) = (n : Int) := by
 simp only [IntKind.wrap, IntKind.bits, IntKind.signed, Bool.false_and, Bool.false_eq_true, if_false]
 omega
theorem wrap_u64 (n : Nat) (h : n < 4294967296) : IntKind.u64.wrap (n : Int) = (n : Int) := by
 simp only [IntKind.wrap, IntKind.bits, IntKind.signed, Bool.false_and, Bool.false_eq_true, if_false]
 omega
theorem iA_rem (k : IntKind) (a b : Nat) (h : 0 < b) : intA .rem k (a : Int) (b : Int) = some (.int k ((a % b : Nat) : Int)) := by
 simp only [intA]
 rw [if_neg (by omega), Int.tmod_eq_emod_of_nonneg (by omega)]
 rfl
theorem iA_quo (k : IntKind) (a b : Nat) (h : 0 < b) (hw : k.wrap ((a / b : Nat) : Int) = ((a / b : Nat) : Int)) : intA .quo k (a : Int) (b : Int) = some (.int k ((a / b : Nat) : Int)) := by
 simp only [intA]
 have : (a : Int).tdiv b = ((a / b : Nat) : Int) := by rw [Int.tdiv_eq_ediv_of_nonneg (by omega)]; rfl
 rw [if_neg (by omega), this, hw]
section
variable {H : Type} {O : HI H} {ro : Nat} {c : CallT H}
structure Gl (O : HI H) (w : Own) (h : H) : Prop where
 tag : w 0 = (60, 0)
 al : O.alive h 0 = true
 c : ∀ i, i < 20 -> O.cell h 0 i = some (.int .u64 ((10 ^ i : Nat) : Int))
theorem Gl.ch (L : O.Law) {K : Tag -> Prop} {w w' : Own} {h h' : H} (x : Gl O w h) (a : Ch O K w h w' h') (hk : ¬ K (60, 0)) : Gl O w' h' := by
 have hb := L.alive_lt _ _ x.al
 have hf := a.fr 0 hb (by rw [x.tag]; exact hk)
 exact ⟨by rw [a.ow 0 hb, x.tag], by rw [hf.2, x.al], fun i hi => by rw [hf.1, x.c i hi]⟩
theorem fresh (w : Own) (N : Nat) : ∃ n, ∀ b, b < N -> w b ≠ (100, n) := by
 have : ∃ n, ∀ b, b < N -> (w b).2 < n := by
  induction N with
  | zero => exact ⟨0, fun b hb => by omega⟩
  | succ N ih =>
   obtain ⟨n, hn⟩ := ih
   refine ⟨max n ((w N).2 + 1), fun b hb => ?_⟩
   by_cases h : b = N
   . subst h; omega
   . have := hn b (by omega); omega
 obtain ⟨n, hn⟩ := this
 exact ⟨n, fun b hb he => by have := hn b hb; rw [he] at this; simp at this⟩
theorem Ch.loc {w w1 w2 : Own} {h h1 h2 : H} {n : Nat} (hn : ∀ b, b < O.next h -> w b ≠ (100, n)) (a : ∀ K, Ch O K w h w1 h1) (b : Ch O (fun u => u = (100, n)) w1 h1 w2 h2) : ∀ K, Ch O K w h w2 h2 := by
 intro K
 have a := a K
 refine ⟨Nat.le_trans a.nx b.nx, fun x hx => ?_, fun x hx hk => ?_⟩
 . rw [b.ow x (Nat.lt_of_lt_of_le hx a.nx), a.ow x hx]
 . have h1 := a.fr x hx hk
   have h2 := b.fr x (Nat.lt_of_lt_of_le hx a.nx) (by rw [a.ow x hx]; exact hn x hx)
   exact ⟨fun o => (h2.1 o).trans (h1.1 o), h2.2.trans h1.2⟩
attribute [local simp] cSeq cReg reg to mv too onlyIf onlyIfo aMove aNil aFld aLd aInt aPick aLenStr aIdxStr aConv aUn unA ev upd_get isB envOf iA_add iA_sub iA_mul iA_eql iA_neq iA_lss iA_leq iA_gtr iA_geq cIf cRet cSkip okc_some resE resLE rvE aSt vc_int vc_bool vc_agg vc_str vc_ptr vc_sl ft_int ft_bool ft_str ft_ptr ft_sl tp_int tp_bool tp_agg tp_str tp_ptr tp_sl aBuild Instr.fill aCall cExit cBlk outOf ptr undef aNew aBox aIdxArr aLdN aShift shiftA aLenSl aIdx aMkSl aApp rangeA aExt aSliceStr aStr strA
theorem bnd (q d top : Nat) (h : q <= top) : boundA (some (.int .i64 (q : Int))) d top = some q := by
 simp only [boundA]
 rw [if_pos (by omega)]
 simp
theorem small_b (C : Lim Tryz.prog O ro okS c) (h : H) (n : Nat) (hn : n < 100) : c 140 [.int .i64 (n : Nat)] h = some (.string (decS n), h) := by
 refine C.eq (F140_fn O ro) rfl rfl (okE.flat (fun _ => rfl) ?_)
 by_cases h1 : n < 10
 . have h1' : (n : Int) < 10 := by omega
   have e1 := dig36 ⟨n, h1⟩
   simp only at e1
   obtain ⟨q, hq⟩ : ∃ q, q = n + 1 := ⟨_, rfl⟩
   have hw : IntKind.i64.wrap ((n : Int) + 1) = (q : Int) := by rw [wrap_id (by omega) (by omega)]; omega
   have s1 : (⟨#[48, 49, 50, 51, 52, 53, 54, 55, 56, 57, 97, 98, 99, 100, 101, 102, 103, 104, 105, 106, 107, 108, 109, 110, 111, 112, 113, 114, 115, 116, 117, 118, 119, 120, 121, 122]⟩ : ByteArray).size = 36 := rfl
   have b1 := bnd q 36 36 (by omega)
   have b2 := bnd n 0 q (by omega)
   rw [<- hq] at e1
   simp [F140, R140_0, R140_1, R140_2, h1, h1', hw, s1, b1, b2, e1]
 . have h1' : ¬ (n : Int) < 10 := by omega
   have e1 := dig200 ⟨n, hn⟩ (by simp only; omega)
   simp only at e1
   obtain ⟨m, hm⟩ : ∃ m, m = n * 2 := ⟨_, rfl⟩
   obtain ⟨q, hq⟩ : ∃ q, q = m + 2 := ⟨_, rfl⟩
   have hw : IntKind.i64.wrap ((n : Int) * 2) = (m : Int) := by rw [wrap_id (by omega) (by omega)]; omega
   have hw2 : IntKind.i64.wrap ((m : Int) + 2) = (q : Int) := by rw [wrap_id (by omega) (by omega)]; omega
   rw [<- hm, <- hq] at e1
   have s1 : strC200.size = 200 := rfl
   have b1 := bnd q 200 200 (by omega)
   have b2 := bnd m 0 q (by omega)
   simp [F140, R140_0, R140_1, R140_3, h1, h1', hw, hw2, s1, b1, b2, e1]
theorem len64_b (C : Lim Tryz.prog O ro okS c) (h : H) (n : Nat) (h0 : 100 <= n) (hn : n < 256) : c 147 [.int .u64 (n : Nat)] h = some (.int .i64 (if n < 128 then 7 else 8), h) := by
 refine C.eq (F147_fn O ro) rfl rfl (okE.flat (fun _ => rfl) ?_)
 have e1 := len8 ⟨n, hn⟩ h0
 simp only at e1
 have b1 : ¬ (4294967296 : Int) <= n := by omega
 have b2 : ¬ (65536 : Int) <= n := by omega
 have b3 : ¬ (256 : Int) <= n := by omega
 have d1 : ¬ 4294967296 <= n := by omega
 have d2 : ¬ 65536 <= n := by omega
 have d3 : ¬ 256 <= n := by omega
 have w1 := wrap_u8 n hn
 have w2 : IntKind.i64.wrap 7 = 7 := by decide
 have w3 : IntKind.i64.wrap 8 = 8 := by decide
 by_cases hx : n < 128
 . rw [if_pos hx] at e1 ⊢
   simp [F147, R147_0, R147_1, R147_4, R147_7, R147_10, b1, b2, b3, d1, d2, d3, w1, e1, w2]
 . rw [if_neg hx] at e1 ⊢
   simp [F147, R147_0, R147_1, R147_4, R147_7, R147_10, b1, b2, b3, d1, d2, d3, w1, e1, w3]
theorem log_b (C : Lim Tryz.prog O ro okS c) (h : H) (n : Nat) (h0 : n = 7 \/ n = 8) : c 146 [.int .i64 (n : Nat)] h = some (.int .i64 2, h) := by
 refine C.eq (F146_fn O ro) rfl rfl (okE.flat (fun _ => rfl) ?_)
 have w1 : IntKind.i64.wrap 552391 = 552391 := by decide
 have w2 : IntKind.i64.wrap 631304 = 631304 := by decide
 have f1 : Int.fdiv 552391 (2 ^ min 18 IntKind.i64.bits) = 2 := by decide
 have f2 : Int.fdiv 631304 (2 ^ min 18 IntKind.i64.bits) = 2 := by decide
 rcases h0 with rfl | rfl
 . simp [F146, R146_0, R146_1, w1, f1]
 . simp [F146, R146_0, R146_1, w2, f2]
theorem bool2_b (C : Lim Tryz.prog O ro okS c) (h : H) (b : Bool) : c 148 [.bool b] h = some (.int .i64 (if b then 1 else 0), h) := by
 refine C.eq (F148_fn O ro) rfl rfl (okE.flat (fun _ => rfl) ?_)
 cases b
 . simp [F148, R148_0, R148_1, R148_3]
 . simp [F148, R148_0, R148_1, R148_2]
theorem numd_b (C : Lim Tryz.prog O ro okS c) {w : Own} {h : H} (g : Gl O w h) (n : Nat) (h0 : 100 <= n) (hn : n < 256) : c 141 [.int .u64 (n : Nat)] h = some (.int .i64 3, h) := by
 refine C.eq (F141_fn O ro) rfl rfl (okE.flat (fun _ => rfl) ?_)
 have e1 := len64_b C h n h0 hn
 have e2 : c 146 [.int .i64 (if n < 128 then 7 else 8)] h = some (.int .i64 2, h) := by
  by_cases hx : n < 128
  . rw [if_pos hx]; exact log_b C h 7 (.inl rfl)
  . rw [if_neg hx]; exact log_b C h 8 (.inr rfl)
 have e3 := g.c 2 (by omega)
 have e4 : c 148 [.bool true] h = some (.int .i64 1, h) := bool2_b C h true
 have e5 : (100 : Int) <= n := by omega
 have w3 : IntKind.i64.wrap 3 = 3 := by decide
 simp [F141, R141_0, R141_1, R141_2, e1, e2, e3, e4, e5, h0, w3]
theorem dg_nat {k : Nat} (h : k < 200) : (dg k).toNat = 48 + k := by
 simp only [dg, UInt8.toNat_ofNat']
 omega
def z24 : List Value := [.int .u8 0, .int .u8 0, .int .u8 0, .int .u8 0, .int .u8 0, .int .u8 0, .int .u8 0, .int .u8 0, .int .u8 0, .int .u8 0, .int .u8 0, .int .u8 0, .int .u8 0, .int .u8 0, .int .u8 0, .int .u8 0, .int .u8 0, .int .u8 0, .int .u8 0, .int .u8 0, .int .u8 0, .int .u8 0, .int .u8 0, .int .u8 0]
theorem fmt_b (C : Lim Tryz.prog O ro okS c) (L : O.Law) {w : Own} {h : H} {t : Tag} {b : Nat} (x : Bx O ro w h t b z24) (n : Nat) (h0 : 100 <= n) (hn : n < 1000) (v1 v2 : Value) (hv1 : v1 = .int .u8 ((dg (n % 10)).toNat : Int)) (hv2 : v2 = .int .u8 ((dg (n / 10 % 10)).toNat : Int)) (q : Nat) (hq : q = n / 100) :
 ∃ h', c 142 [.slice (some ⟨b, 1, some 1⟩) 3 0, .int .u64 (n : Nat)] h = some (.tuple #[], h') /\ Bx O ro w h' t b (((z24.set 3 v1).set 2 v2).set 1 (.int .u8 (48 + (q : Int)))) /\ Ch O (fun u => u = t) w h w h' := by
 obtain ⟨q1, q2⟩ := dig2 ⟨n % 100, by omega⟩
 simp only at q1 q2
 rw [show n % 100 / 10 = n / 10 % 10 by omega] at q1
 rw [show n % 100 % 10 = n % 10 by omega] at q2
 obtain ⟨m, hm⟩ : ∃ m, m = n % 100 := ⟨_, rfl⟩
 obtain ⟨m2, hm2⟩ : ∃ m2, m2 = m * 2 := ⟨_, rfl⟩
 obtain ⟨m3, hm3⟩ : ∃ m3, m3 = m2 + 1 := ⟨_, rfl⟩
 rw [<- hm, <- hm2] at q1 q2
 rw [<- hm3] at q2
 have w1 := wrap_u32 n (by omega)
 have w2 : IntKind.u32.wrap ((m : Int) * 2) = (m2 : Int) := by rw [show ((m : Int) * 2) = ((m2 : Nat) : Int) by omega]; exact wrap_u32 _ (by omega)
 have w3 : IntKind.u32.wrap ((m2 : Int) + 1) = (m3 : Int) := by rw [show ((m2 : Int) + 1) = ((m3 : Nat) : Int) by omega]; exact wrap_u32 _ (by omega)
 have w4 : IntKind.u32.wrap (48 + (q : Int)) = 48 + (q : Int) := by rw [show (48 + (q : Int)) = ((48 + q : Nat) : Int) by omega]; exact wrap_u32 _ (by omega)
 have w5 : IntKind.u8.wrap (48 + (q : Int)) = 48 + (q : Int) := by rw [show (48 + (q : Int)) = ((48 + q : Nat) : Int) by omega]; exact wrap_u8 _ (by omega)
 have w6 : IntKind.i64.wrap 2 = 2 := by decide
 have w7 : IntKind.i64.wrap 1 = 1 := by decide
 have r1 : intA .rem .u32 (n : Int) 100 = some (.int .u32 (m : Int)) := by rw [hm]; exact iA_rem .u32 n 100 (by omega)
 have r2 : intA .quo .u32 (n : Int) 100 = some (.int .u32 (q : Int)) := by rw [hq]; exact iA_quo .u32 n 100 (by omega) (wrap_u32 _ (by omega))
 have hrob : ¬ b < ro := by have := x.lo; omega
 have x1 := x.put L 3 (by simp [z24]) v1
 have c1 := Ch.put L (K := fun u => u = t) x 3 (by simp [z24]) v1 rfl
 have k1 := x.get 3 (.int .u8 0) rfl
 obtain ⟨h1, hh1⟩ : ∃ h1, h1 = O.put h b 3 v1 := ⟨_, rfl⟩
 rw [<- hh1] at x1 c1
 have x2 := x1.put L 2 (by simp [z24]) v2
 have c2 := Ch.put L (K := fun u => u = t) x1 2 (by simp [z24]) v2 rfl
 have k2 := x1.get 2 (.int .u8 0) rfl
 obtain ⟨h2, hh2⟩ : ∃ h2, h2 = O.put h1 b 2 v2 := ⟨_, rfl⟩
 rw [<- hh2] at x2 c2
 have x3 := x2.put L 1 (by simp [z24]) (.int .u8 (48 + (q : Int)))
 have c3 := Ch.put L (K := fun u => u = t) x2 1 (by simp [z24]) (.int .u8 (48 + (q : Int))) rfl
 have k3 := x2.get 1 (.int .u8 0) rfl
 obtain ⟨h3, hh3⟩ : ∃ h3, h3 = O.put h2 b 1 (.int .u8 (48 + (q : Int))) := ⟨_, rfl⟩
 rw [<- hh3] at x3 c3
 have p1 : putsA O h b 3 [v1] = some h1 := by simp [putsA, k1, hh1]
 have p2 : putsA O h1 b 2 [v2] = some h2 := by simp [putsA, k2, hh2]
 have p3 : putsA O h2 b 1 [.int .u8 (48 + (q : Int))] = some h3 := by simp [putsA, k3, hh3]
 have f1 : v1.cells = #[v1] /\ isFlat v1 = true /\ isTup v1 = false := by subst hv1; exact ⟨rfl, rfl, rfl⟩
 have f2 : v2.cells = #[v2] /\ isFlat v2 = true /\ isTup v2 = false := by subst hv2; exact ⟨rfl, rfl, rfl⟩
 refine ⟨h3, ?_, x3, (c1.trans c2).trans c3⟩
 refine C.eq (F142_fn O ro) rfl rfl ?_
 unfold F142
 refine okE.seq (okE.flat (fun _ => rfl) ?_)
 simp [R142_0, thenE, -resE, -resLE, -rvE]
 refine okE.seq (okE.blk (okE.once1 ?_))
 unfold W142_0
 refine okE.seq (okE.flat (fun _ => rfl) ?_)
 simp [R142_1, thenE, -resE, -resLE, -rvE]
 refine okE.seq (okE.flat (fun _ => rfl) ?_)
 simp [R142_12, w1, thenE, -resE, -resLE, -rvE]
 refine okE.seq (okE.seq (okE.flat (fun _ => rfl) ?_))
 simp [R142_13, thenE, -resE, -resLE, -rvE]
 refine okE.cond false (by simp) ?_
 refine okE.skip ?_
 simp only [thenE]
 refine okE.seq (okE.seq (okE.flat (fun _ => rfl) ?_))
 simp [R142_20, thenE, -resE, -resLE, -rvE]
 refine okE.cond true (by simp) ?_
 simp only [if_true]
 refine okE.seq (okE.flat (fun _ => rfl) ?_)
 simp [R142_21, r1, w2, thenE, -resE, -resLE, -rvE]
 refine okE.seq (okE.flat (fun _ => rfl) ?_)
 simp [R142_22, r2, thenE, -resE, -resLE, -rvE]
 refine okE.seq (okE.flat (fun _ => rfl) ?_)
 simp [R142_23, w3, w6, w7, q1, q2, <- hv1, <- hv2, hrob, f1.1, f1.2.1, f1.2.2, f2.1, f2.2.1, f2.2.2, p1, p2, thenE, -resE, -resLE, -rvE]
 refine okE.flat (fun _ => rfl) ?_
 simp [R142_24, w7, thenE, -resE, -resLE, -rvE]
 refine okE.flat (fun _ => rfl) ?_
 simp [R142_25, R142_26, w4, w5, w7, hrob, p3]
theorem fi_b (C : Lim Tryz.prog O ro okS c) (L : O.Law) {w : Own} {h : H} (g : Gl O w h) (lo : ro <= O.next h) (n : Nat) (hn : n < 256) :
 ∃ w' h', c 135 [.int .i64 (n : Nat), .int .i64 10] h = some (.string (decS n), h') /\ (∀ K, Ch O K w h w' h') /\ ro <= O.next h' := by
 by_cases h1 : n < 100
 . refine ⟨w, h, ?_, fun K => Ch.refl _ _ _, lo⟩
   have e1 := small_b C h n h1
   have h1' : (n : Int) < 100 := by omega
   refine C.eq (F135_fn O ro) rfl rfl ?_
   unfold F135
   refine okE.seq (okE.flat (fun _ => rfl) ?_)
   simp [R135_0, thenE, -resE, -resLE, -rvE]
   refine okE.seq (okE.seq (okE.flat (fun _ => rfl) ?_))
   simp [R135_1, thenE, -resE, -resLE, -rvE]
   refine okE.cond true (by simp) ?_
   simp only [if_true]
   refine okE.seq (okE.flat (fun _ => rfl) ?_)
   simp [R135_2, R135_3, h1, h1', e1, thenE]
 . obtain ⟨k, hk⟩ := fresh w (O.next h)
   obtain ⟨b, hb⟩ : ∃ b, b = O.next h := ⟨_, rfl⟩
   obtain ⟨h2, hh2⟩ : ∃ h2, h2 = O.new h z24 := ⟨_, rfl⟩
   obtain ⟨w2, hw2⟩ : ∃ w2, w2 = w.set b (100, k) := ⟨_, rfl⟩
   have c2 : ∀ K, Ch O K w h w2 h2 := fun K => by rw [hh2, hw2, hb]; exact Ch.new L _ _ _ _ _
   have x2 : Bx O ro w2 h2 (100, k) b z24 := by rw [hh2, hw2, hb]; exact Bx.new L _ _ lo _ _
   have lo2 : ro <= O.next h2 := Nat.le_trans lo (c2 fun _ => True).nx
   have g2 := g.ch L (c2 fun _ => False) (by simp)
   have e1 := numd_b C g2 n (by omega) hn
   obtain ⟨v1, hv1⟩ : ∃ v1 : Value, v1 = .int .u8 ((dg (n % 10)).toNat : Int) := ⟨_, rfl⟩
   obtain ⟨v2, hv2⟩ : ∃ v2 : Value, v2 = .int .u8 ((dg (n / 10 % 10)).toNat : Int) := ⟨_, rfl⟩
   obtain ⟨q, hq⟩ : ∃ q, q = n / 100 := ⟨_, rfl⟩
   obtain ⟨h3, hc3, x3, c3⟩ := fmt_b C L x2 n (by omega) (by omega) v1 v2 hv1 hv2 q hq
   have cc : ∀ K, Ch O K w h w2 h3 := Ch.loc hk c2 c3
   have lo3 : ro <= O.next h3 := Nat.le_trans lo2 c3.nx
   refine ⟨w2, h3, ?_, cc, lo3⟩
   have k23 := x2.get 23 (.int .u8 0) rfl
   have k23' := x3.get 23 (.int .u8 0) rfl
   have l3 : cellsA O h3 b 1 3 = some [.int .u8 (48 + (q : Int)), v2, v1] := by
    have := x3.cells 1 3 (by simp [z24])
    simpa [z24] using this
   have h1' : ¬ (n : Int) < 100 := by omega
   have n0 : ¬ (n : Int) < 0 := by omega
   have w1 := wrap_u64 n (by omega)
   have w4 : IntKind.i64.wrap 4 = 4 := by decide
   have b1 : boundA (some (.int .i64 4)) 24 24 = some 4 := rfl
   have b2 : boundA (some (.int .i64 1)) 0 4 = some 1 := rfl
   have hby : bytesA [.int .u8 (48 + (q : Int)), v2, v1] = some [dg (n / 100), dg (n / 10 % 10), dg (n % 10)] := by
    rw [hv1, hv2]
    simp only [bytesA, Option.map_some, Int.toNat_natCast]
    rw [show (48 + (q : Int)).toNat = 48 + q by omega, hq, dg_nat (by omega), dg_nat (by omega)]
    rfl
   have hdec : (⟨([dg (n / 100), dg (n / 10 % 10), dg (n % 10)]).toArray⟩ : ByteArray) = decS n := by
    unfold decS
    rw [if_neg (by omega), if_neg h1]
   have hh2' : h2 = O.new h [.int .u8 0, .int .u8 0, .int .u8 0, .int .u8 0, .int .u8 0, .int .u8 0, .int .u8 0, .int .u8 0, .int .u8 0, .int .u8 0, .int .u8 0, .int .u8 0, .int .u8 0, .int .u8 0, .int .u8 0, .int .u8 0, .int .u8 0, .int .u8 0, .int .u8 0, .int .u8 0, .int .u8 0, .int .u8 0, .int .u8 0, .int .u8 0] := hh2
   refine C.eq (F135_fn O ro) rfl rfl ?_
   unfold F135
   refine okE.seq (okE.flat (fun _ => rfl) ?_)
   simp [R135_0, thenE, -resE, -resLE, -rvE]
   refine okE.seq (okE.seq (okE.flat (fun _ => rfl) ?_))
   simp [R135_1, thenE, -resE, -resLE, -rvE]
   refine okE.cond true (by simp) ?_
   simp only [if_true]
   refine okE.seq (okE.flat (fun _ => rfl) ?_)
   simp [R135_2, h1, h1', thenE, -resE, -resLE, -rvE]
   refine okE.seq (okE.flat (fun _ => rfl) ?_)
   simp [R135_4, <- hb, <- hh2', thenE, -resE, -resLE, -rvE]
   refine okE.seq (okE.flat (fun _ => rfl) ?_)
   simp [R135_5, w1, thenE, -resE, -resLE, -rvE]
   refine okE.seq (okE.flat (fun _ => rfl) ?_)
   simp [R135_6, n0, thenE, -resE, -resLE, -rvE]
   refine okE.seq (okE.flat (fun _ => rfl) ?_)
   simp [R135_8, e1, thenE, -resE, -resLE, -rvE]
   refine okE.seq (okE.flat (fun _ => rfl) ?_)
   simp [R135_9, w4, aSliceArr, b1, b2, k23, hc3, thenE, -resE, -resLE, -rvE]
   refine okE.seq (okE.flat (fun _ => rfl) ?_)
   simp [R135_10, n0, thenE, -resE, -resLE, -rvE]
   refine okE.flat (fun _ => rfl) ?_
   simp [R135_13, w4, aSliceArr, b1, b2, k23', aB2S, l3, hby, hdec, thenE]
theorem itoa_b (C : Lim Tryz.prog O ro okS c) (L : O.Law) {w : Own} {h : H} (g : Gl O w h) (lo : ro <= O.next h) (n : Nat) (hn : n < 256) :
 ∃ w' h', c 64 [.int .i64 (n : Nat)] h = some (.string (decS n), h') /\ (∀ K, Ch O K w h w' h') /\ ro <= O.next h' := by
 obtain ⟨w', h', e1, c1, lo1⟩ := fi_b C L g lo n hn
 refine ⟨w', h', ?_, c1, lo1⟩
 have e2 : c 116 [.int .i64 (n : Nat)] h = some (.string (decS n), h') := by
  refine C.eq (F116_fn O ro) rfl rfl (okE.flat (fun _ => rfl) ?_)
  simp [F116, R116_0, R116_1, e1]
 refine C.eq (F64_fn O ro) rfl rfl (okE.flat (fun _ => rfl) ?_)
 simp [F64, R64_0, R64_1, e2]
end
end Go.Proofs.YtlakdngplpabdaaGreatDoor
namespace Go.Proofs.YtlakdngplpabdaaGreatDoor
open Go.Vm Go.Proofs
set_option linter.unusedSimpArgs false
set_option linter.unusedVariables false
set_option maxHeartbeats 400000
set_option maxRecDepth 4000
def lnT : List Nat -> Nat -> ByteArray -> ByteArray
 | [], _, t => t
 | n :: r, j, t => lnT r (j + 1) ((if 0 < j then t ++ ⟨#[32]⟩ else t) ++ decS n)
def lnS (ns : List Nat) : ByteArray := lnT ns 0 ⟨#[]⟩ ++ ⟨#[10]⟩
theorem decS_size (n : Nat) : 1 <= (decS n).size /\ (decS n).size <= 3 := by
 unfold decS
 split
 . exact (by decide : 1 <= 1 /\ 1 <= 3)
 . split
   . exact (by decide : 1 <= 2 /\ 2 <= 3)
   . exact (by decide : 1 <= 3 /\ 3 <= 3)
theorem lnT_size : ∀ (ns : List Nat) (j : Nat) (t : ByteArray), (lnT ns j t).size <= t.size + 4 * ns.length := by
 intro ns
 induction ns with
 | nil => intro j t; simp [lnT]
 | cons n r ih =>
  intro j t
  simp only [lnT]
  have h1 := ih (j + 1) ((if 0 < j then t ++ ⟨#[32]⟩ else t) ++ decS n)
  have h2 := (decS_size n).2
  have h3 : (if 0 < j then t ++ (⟨#[32]⟩ : ByteArray) else t).size <= t.size + 1 := by
   split
   . rw [ByteArray.size_append]; exact Nat.le_refl _
   . omega
  rw [ByteArray.size_append] at h1
  simp only [List.length_cons]
  omega
theorem lnS_size (ns : List Nat) : (lnS ns).size <= 4 * ns.length + 1 := by
 unfold lnS
 rw [ByteArray.size_append]
 have := lnT_size ns 0 ⟨#[]⟩
 have e : (⟨#[]⟩ : ByteArray).size = 0 := rfl
 have e2 : (⟨#[10]⟩ : ByteArray).size = 1 := rfl
 omega
section
variable {H : Type} {O : HI H} {ro : Nat} {c : CallT H}
abbrev Al (O : HI H) (w : Own) (h : H) (w' : Own) (h' : H) : Prop := ∀ K, Ch O K w h w' h'
theorem Al.refl (w : Own) (h : H) : Al O w h w h := fun K => Ch.refl _ _ _
theorem Al.trans {w1 w2 w3 : Own} {h1 h2 h3 : H} (a : Al O w1 h1 w2 h2) (b : Al O w2 h2 w3 h3) : Al O w1 h1 w3 h3 := fun K => (a K).trans (b K)
theorem Al.lo {w w' : Own} {h h' : H} (a : Al O w h w' h') (lo : ro <= O.next h) : ro <= O.next h' := Nat.le_trans lo (a fun _ => True).nx
theorem Sl.al (L : O.Law) {w w' : Own} {h h' : H} {t : Tag} {sz : Nat} {v : Value} {l : List Value} (x : Sl O ro w h t sz v l) (a : Al O w h w' h') : Sl O ro w' h' t sz v l := x.ch L (a fun _ => False) (by simp)
theorem Bx.al' (L : O.Law) {w w' : Own} {h h' : H} {t : Tag} {b : Nat} {l : List Value} (x : Bx O ro w h t b l) (a : Al O w h w' h') : Bx O ro w' h' t b l := x.ch L (a fun _ => False) (by simp)
theorem Gl.al' (L : O.Law) {w w' : Own} {h h' : H} (x : Gl O w h) (a : Al O w h w' h') : Gl O w' h' := x.ch L (a fun _ => False) (by simp)
theorem mk_sl (L : O.Law) (w : Own) (h : H) (lo : ro <= O.next h) (t : Tag) (l : List Value) (hl : l ≠ []) :
 ∃ w' h', h' = O.new h l /\ Sl O ro w' h' t 1 (.slice (some ⟨O.next h, 0, some 1⟩) l.length (l.length + 1)) l /\ Al O w h w' h' /\ cellsA O h' (O.next h) 0 l.length = some l := by
 have x := Bx.new L (ro := ro) w h lo t l
 exact ⟨_, _, rfl, .inr ⟨_, _, _, rfl, .inr rfl, by simp, hl, x⟩, fun K => Ch.new L K w h t l, x.all⟩
attribute [local simp] cSeq cReg reg to mv too onlyIf onlyIfo aMove aNil aFld aLd aInt aPick aLenStr aIdxStr aConv aUn unA ev upd_get isB envOf iA_add iA_sub iA_mul iA_eql iA_neq iA_lss iA_leq iA_gtr iA_geq cIf cRet cSkip okc_some resE resLE rvE aSt vc_int vc_bool vc_agg vc_str vc_ptr vc_sl ft_int ft_bool ft_str ft_ptr ft_sl tp_int tp_bool tp_agg tp_str tp_ptr tp_sl aBuild Instr.fill aCall cExit cBlk outOf ptr undef aNew aBox aIdxArr aLdN aShift shiftA aLenSl aIdx aMkSl aApp rangeA aExt aSliceStr aStr strA
theorem b2s1 (n : Nat) (h : n < 256) : bytesA [.int .u8 (n : Int)] = some [UInt8.ofNat n] := by simp [bytesA]
theorem digits_1 (C : Lim Tryz.prog O ro okS c) (L : O.Law) {w : Own} {h : H} (lo : ro <= O.next h) (n : Nat) (hn : n < 10) :
 ∃ w' h', c 117 [.int .i64 (n : Nat)] h = some (.string (decS n), h') /\ Al O w h w' h' := by
 obtain ⟨m, hm⟩ : ∃ m, m = 48 + n := ⟨_, rfl⟩
 obtain ⟨w1, h1, hh1, s1, a1, l1⟩ := mk_sl L w h lo (100, 0) [.int .u8 (m : Int)] (by simp)
 refine ⟨w1, h1, ?_, a1⟩
 have hn' : (n : Int) < 10 := by omega
 have hw : IntKind.i64.wrap (48 + (n : Int)) = (m : Int) := by rw [wrap_id (by omega) (by omega)]; omega
 have hw2 := wrap_u8 m (by omega)
 have hb := b2s1 m (by omega)
 have l1' : cellsA O h1 (O.next h) 0 1 = some [.int .u8 (m : Int)] := l1
 have hd : (⟨[UInt8.ofNat m].toArray⟩ : ByteArray) = decS n := by unfold decS dg; rw [if_pos hn, hm]
 have hd' : (⟨#[UInt8.ofNat m]⟩ : ByteArray) = decS n := hd
 refine C.eq (F117_fn O ro) rfl rfl (okE.flat (fun _ => rfl) ?_)
 simp [F117, R117_0, R117_1, R117_2, hn, hn', hw, hw2, List.zipIdx, List.range_succ, <- hh1, aB2S, l1', hb, hd']
theorem decS_app (n : Nat) (h0 : 10 <= n) (h1 : n < 1000) : decS (n / 10) ++ (⟨#[UInt8.ofNat (48 + n % 10)]⟩ : ByteArray) = decS n := by
 by_cases h2 : n < 100
 . have e1 : decS (n / 10) = ⟨#[dg (n / 10)]⟩ := by unfold decS; rw [if_pos (by omega)]
   have e2 : decS n = ⟨#[dg (n / 10), dg (n % 10)]⟩ := by unfold decS; rw [if_neg (by omega), if_pos h2]
   rw [e1, e2]; rfl
 . have e1 : decS (n / 10) = ⟨#[dg (n / 10 / 10), dg (n / 10 % 10)]⟩ := by unfold decS; rw [if_neg (by omega), if_pos (by omega)]
   have e2 : decS n = ⟨#[dg (n / 100), dg (n / 10 % 10), dg (n % 10)]⟩ := by unfold decS; rw [if_neg (by omega), if_neg h2]
   rw [e1, e2, Nat.div_div_eq_div_mul]; rfl
theorem digits_s (C : Lim Tryz.prog O ro okS c) (L : O.Law) {w w1 : Own} {h h1 : H} (lo : ro <= O.next h) (n : Nat) (h0 : 10 <= n) (hn : n < 1000) (e1 : c 117 [.int .i64 ((n / 10 : Nat) : Int)] h = some (.string (decS (n / 10)), h1)) (a1 : Al O w h w1 h1) :
 ∃ w' h', c 117 [.int .i64 (n : Nat)] h = some (.string (decS n), h') /\ Al O w h w' h' := by
 obtain ⟨m, hm⟩ : ∃ m, m = 48 + n % 10 := ⟨_, rfl⟩
 obtain ⟨r, hr⟩ : ∃ r, r = n % 10 := ⟨_, rfl⟩
 obtain ⟨q, hq⟩ : ∃ q, q = n / 10 := ⟨_, rfl⟩
 obtain ⟨w2, h2, hh2, s2, a2, l2⟩ := mk_sl L w1 h1 (a1.lo lo) (100, 0) [.int .u8 (m : Int)] (by simp)
 refine ⟨w2, h2, ?_, a1.trans a2⟩
 have hn' : ¬ (n : Int) < 10 := by omega
 have hn2 : ¬ n < 10 := by omega
 have r1 : intA .quo .i64 (n : Int) 10 = some (.int .i64 (q : Int)) := by rw [hq]; exact iA_quo .i64 n 10 (by omega) (wrap_id (by omega) (by omega))
 have r2 : intA .rem .i64 (n : Int) 10 = some (.int .i64 (r : Int)) := by rw [hr]; exact iA_rem .i64 n 10 (by omega)
 have hw : IntKind.i64.wrap (48 + (r : Int)) = (m : Int) := by rw [wrap_id (by omega) (by omega)]; omega
 have hw2 := wrap_u8 m (by omega)
 have hb := b2s1 m (by omega)
 have l2' : cellsA O h2 (O.next h1) 0 1 = some [.int .u8 (m : Int)] := l2
 have hd := decS_app n h0 hn
 rw [<- hm] at hd
 rw [<- hq] at e1 hd
 have hsz : (decS q).size + (⟨#[UInt8.ofNat m]⟩ : ByteArray).size <= 9223372036854775807 := by
  have := decS_size q
  have e : (⟨#[UInt8.ofNat m]⟩ : ByteArray).size = 1 := rfl
  omega
 refine C.eq (F117_fn O ro) rfl rfl (okE.flat (fun _ => rfl) ?_)
 simp [F117, R117_0, R117_1, R117_3, R117_4, hn2, hn', r1, r2, e1, hw, hw2, List.zipIdx, List.range_succ, <- hh2, aB2S, l2', hb, hsz, hd]
theorem digits_b (C : Lim Tryz.prog O ro okS c) (L : O.Law) {w : Own} {h : H} (lo : ro <= O.next h) (n : Nat) (hn : n < 1000) :
 ∃ w' h', c 117 [.int .i64 (n : Nat)] h = some (.string (decS n), h') /\ Al O w h w' h' := by
 by_cases h1 : n < 10
 . exact digits_1 C L lo n h1
 by_cases h2 : n < 100
 . obtain ⟨w1, h1', e1, a1⟩ := digits_1 C L (w := w) lo (n / 10) (by omega)
   exact digits_s C L lo n (by omega) hn e1 a1
 . obtain ⟨w1, h1', e1, a1⟩ := digits_1 C L (w := w) lo (n / 10 / 10) (by omega)
   obtain ⟨w2, h2', e2, a2⟩ := digits_s C L lo (n / 10) (by omega) (by omega) e1 a1
   exact digits_s C L lo n (by omega) hn e2 a2
def nvs (ns : List Nat) : List Value := ns.map fun n : Nat => Value.int .i64 (n : Int)
theorem sl_at {w : Own} {h : H} {tg : Tag} {v : Value} {ns : List Nat} (sl : Sl O ro w h tg 1 v (nvs ns)) (j : Nat) (hj : j < ns.length) : ∃ b cp, v = .slice (some ⟨b, 0, some 1⟩) ns.length cp /\ O.cell h b j = some (.int .i64 ((ns[j] : Nat) : Int)) := by
 obtain ⟨b, cp, e, y⟩ := sl.blk (by omega) ns.length (by simp [nvs]) (by omega)
 exact ⟨b, cp, e, y.get j _ (by simp [nvs, hj])⟩
theorem sl_len {w : Own} {h : H} {tg : Tag} {v : Value} {ns : List Nat} (sl : Sl O ro w h tg 1 v (nvs ns)) : ∃ a cp, v = .slice a ns.length cp := sl.len (by omega) ns.length (by simp [nvs])
theorem app_sz {a b : ByteArray} (h : a.size + b.size <= 1000000) : a.size + b.size <= 9223372036854775807 := by omega
theorem line_b (C : Lim Tryz.prog O ro okS c) (L : O.Law) {w : Own} {h : H} (g : Gl O w h) (lo : ro <= O.next h) {tg : Tag} {v : Value} (ns : List Nat) (sl : Sl O ro w h tg 1 v (nvs ns)) (hn : ∀ n ∈ ns, n < 256) (hl : ns.length <= 100) :
 ∃ w' h', c 62 [v] h = some (.string (lnS ns), h') /\ Al O w h w' h' := by
 have hsz := lnT_size ns 0 ⟨#[]⟩
 have e0 : (⟨#[]⟩ : ByteArray).size = 0 := rfl
 unfold lnS
 generalize hE : lnT ns 0 ⟨#[]⟩ = E at *
 have key : ∃ u h', c 62 [v] h = some (u, h') /\ (u = .string (E ++ ⟨#[10]⟩) /\ ∃ w', Al O w h w' h') := by
  refine C.fn (F62_fn O ro) rfl rfl ?_
  unfold F62
  refine okE.seq (okE.flat (fun _ => rfl) ?_)
  simp [R62_0, thenE, -resE, -resLE, -rvE]
  refine okE.seq (okE.flat (fun _ => rfl) ?_)
  simp [R62_1, thenE, -resE, -resLE, -rvE]
  refine okE.seq (okE.seq (okE.flat (fun _ => rfl) ?_))
  simp [R62_2, thenE, -resE, -resLE, -rvE]
  refine okE.blk ?_
  refine okE.loop (fun m t g' => ∃ j T w', Al O w h w' g' /\ t 0 = v /\ t 3 = .string T /\ t 4 = .int .i64 (j : Nat) /\ j + m = ns.length + 1 /\ 0 < m /\ T.size <= 4 * j /\ lnT (ns.drop j) j T = E) ?_ (ns.length + 1) _ _ ⟨0, ⟨#[]⟩, w, Al.refl _ _, by simp, by simp, by simp, by omega, by omega, by omega, hE⟩
  intro m t g' hI
  obtain ⟨j, T, w', al, t0, t3, t4, hj, hm, hT, hfin⟩ := hI
  have sl' := sl.al L al
  by_cases hlt : j < ns.length
  . obtain ⟨b, cp, rfl, hc⟩ := sl_at sl' j hlt
    have hnj := hn _ (List.getElem_mem hlt)
    rw [List.drop_eq_getElem_cons hlt] at hfin
    simp only [lnT] at hfin
    obtain ⟨x, hx⟩ : ∃ x, x = ns[j] := ⟨_, rfl⟩
    rw [<- hx] at hc hnj hfin
    obtain ⟨w2, h2, e2, a2, lo2⟩ := itoa_b C L (g.al' L al) (al.lo lo) x hnj
    have hds := decS_size x
    obtain ⟨q, hq⟩ : ∃ q, q = j + 1 := ⟨_, rfl⟩
    have hw : IntKind.i64.wrap ((j : Int) + 1) = (q : Int) := by rw [wrap_id (by omega) (by omega)]; omega
    have hlt' : (j : Int) < ns.length := by omega
    rw [<- hq] at hfin
    have e1 : (⟨#[32]⟩ : ByteArray).size = 1 := rfl
    refine okE.flat (fun _ => rfl) ?_
    by_cases hj0 : 0 < j
    . have hj0' : (0 : Int) < j := by omega
      rw [if_pos hj0] at hfin
      have z1 : T.size + (⟨#[32]⟩ : ByteArray).size <= 9223372036854775807 := by omega
      have z2 : T.size + (⟨#[32]⟩ : ByteArray).size + (decS x).size <= 9223372036854775807 := by omega
      have z3 : T.size + (⟨#[32]⟩ : ByteArray).size + (decS x).size <= 4 * q := by omega
      simp [W62_0, R62_3, R62_5, R62_6, R62_7, R62_4, t0, t3, t4, hlt, hlt', hj0, hj0', z1, hc, e2, z2, hw]
      exact ⟨m - 1, by omega, ⟨w2, al.trans a2⟩, q, rfl, by omega, by omega, z3, hfin⟩
    . have hj0' : ¬ (0 : Int) < j := by omega
      rw [if_neg hj0] at hfin
      have z2 : T.size + (decS x).size <= 9223372036854775807 := by omega
      have z3 : T.size + (decS x).size <= 4 * q := by omega
      simp [W62_0, R62_3, R62_5, R62_7, R62_4, t0, t3, t4, hlt, hlt', hj0, hj0', hc, e2, z2, hw]
      exact ⟨m - 1, by omega, ⟨w2, al.trans a2⟩, q, rfl, by omega, by omega, z3, hfin⟩
  . obtain ⟨a, cp, rfl⟩ := sl_len sl'
    rw [List.drop_eq_nil_of_le (by omega)] at hfin
    have hfin2 : T = E := hfin
    subst hfin2
    have hlt' : ¬ (j : Int) < ns.length := by omega
    have e1 : (⟨#[10]⟩ : ByteArray).size = 1 := rfl
    have z1 : T.size + (⟨#[10]⟩ : ByteArray).size <= 9223372036854775807 := by omega
    refine okE.flat (fun _ => rfl) ?_
    simp [W62_0, R62_3, t0, t3, t4, hlt, hlt', thenE]
    refine okE.flat (fun _ => rfl) ?_
    simp [R62_8, t3, z1]
    exact ⟨w', al⟩
 obtain ⟨u, h', e1, rfl, w', a⟩ := key
 exact ⟨w', h', e1, a⟩
theorem row_b (C : Lim Tryz.prog O ro okS c) (L : O.Law) {w : Own} {h : H} (lo : ro <= O.next h) {tg : Tag} {v : Value} (ns : List Nat) (sl : Sl O ro w h tg 1 v (nvs ns)) (hn : ∀ n ∈ ns, n < 256) (hl : ns.length <= 100) :
 ∃ w' h', c 67 [v] h = some (.string (lnS ns), h') /\ Al O w h w' h' := by
 have hsz := lnT_size ns 0 ⟨#[]⟩
 have e0 : (⟨#[]⟩ : ByteArray).size = 0 := rfl
 unfold lnS
 generalize hE : lnT ns 0 ⟨#[]⟩ = E at *
 have key : ∃ u h', c 67 [v] h = some (u, h') /\ (u = .string (E ++ ⟨#[10]⟩) /\ ∃ w', Al O w h w' h') := by
  refine C.fn (F67_fn O ro) rfl rfl ?_
  unfold F67
  refine okE.seq (okE.flat (fun _ => rfl) ?_)
  simp [R67_0, thenE, -resE, -resLE, -rvE]
  refine okE.seq (okE.flat (fun _ => rfl) ?_)
  simp [R67_1, thenE, -resE, -resLE, -rvE]
  refine okE.seq (okE.seq (okE.flat (fun _ => rfl) ?_))
  simp [R67_2, thenE, -resE, -resLE, -rvE]
  refine okE.blk ?_
  refine okE.loop (fun m t g' => ∃ j T w', Al O w h w' g' /\ t 0 = v /\ t 3 = .string T /\ t 4 = .int .i64 (j : Nat) /\ j + m = ns.length + 1 /\ 0 < m /\ T.size <= 4 * j /\ lnT (ns.drop j) j T = E) ?_ (ns.length + 1) _ _ ⟨0, ⟨#[]⟩, w, Al.refl _ _, by simp, by simp, by simp, by omega, by omega, by omega, hE⟩
  intro m t g' hI
  obtain ⟨j, T, w', al, t0, t3, t4, hj, hm, hT, hfin⟩ := hI
  have sl' := sl.al L al
  by_cases hlt : j < ns.length
  . obtain ⟨b, cp, rfl, hc⟩ := sl_at sl' j hlt
    have hnj := hn _ (List.getElem_mem hlt)
    rw [List.drop_eq_getElem_cons hlt] at hfin
    simp only [lnT] at hfin
    obtain ⟨x, hx⟩ : ∃ x, x = ns[j] := ⟨_, rfl⟩
    rw [<- hx] at hc hnj hfin
    obtain ⟨w2, h2, e2, a2⟩ := digits_b C L (w := w') (al.lo lo) x (by omega)
    have hds := decS_size x
    obtain ⟨q, hq⟩ : ∃ q, q = j + 1 := ⟨_, rfl⟩
    have hw : IntKind.i64.wrap ((j : Int) + 1) = (q : Int) := by rw [wrap_id (by omega) (by omega)]; omega
    have hlt' : (j : Int) < ns.length := by omega
    rw [<- hq] at hfin
    have e1 : (⟨#[32]⟩ : ByteArray).size = 1 := rfl
    refine okE.flat (fun _ => rfl) ?_
    by_cases hj0 : 0 < j
    . have hj0' : (0 : Int) < j := by omega
      rw [if_pos hj0] at hfin
      have z1 : T.size + (⟨#[32]⟩ : ByteArray).size <= 9223372036854775807 := by omega
      have z2 : T.size + (⟨#[32]⟩ : ByteArray).size + (decS x).size <= 9223372036854775807 := by omega
      have z3 : T.size + (⟨#[32]⟩ : ByteArray).size + (decS x).size <= 4 * q := by omega
      simp [W67_0, R67_3, R67_5, R67_6, R67_7, R67_8, R67_4, t0, t3, t4, hlt, hlt', hj0, hj0', z1, hc, e2, z2, hw]
      exact ⟨m - 1, by omega, ⟨w2, al.trans a2⟩, q, rfl, by omega, by omega, z3, hfin⟩
    . have hj0' : ¬ (0 : Int) < j := by omega
      rw [if_neg hj0] at hfin
      have z2 : T.size + (decS x).size <= 9223372036854775807 := by omega
      have z3 : T.size + (decS x).size <= 4 * q := by omega
      simp [W67_0, R67_3, R67_5, R67_6, R67_8, R67_4, t0, t3, t4, hlt, hlt', hj0, hj0', hc, e2, z2, hw]
      exact ⟨m - 1, by omega, ⟨w2, al.trans a2⟩, q, rfl, by omega, by omega, z3, hfin⟩
  . obtain ⟨a, cp, rfl⟩ := sl_len sl'
    rw [List.drop_eq_nil_of_le (by omega)] at hfin
    have hfin2 : T = E := hfin
    subst hfin2
    have hlt' : ¬ (j : Int) < ns.length := by omega
    have e1 : (⟨#[10]⟩ : ByteArray).size = 1 := rfl
    have z1 : T.size + (⟨#[10]⟩ : ByteArray).size <= 9223372036854775807 := by omega
    refine okE.flat (fun _ => rfl) ?_
    simp [W67_0, R67_3, t0, t3, t4, hlt, hlt', thenE]
    refine okE.flat (fun _ => rfl) ?_
    simp [R67_9, t3, z1]
    exact ⟨w', al⟩
 obtain ⟨u, h', e1, rfl, w', a⟩ := key
 exact ⟨w', h', e1, a⟩
end
end Go.Proofs.YtlakdngplpabdaaGreatDoor
