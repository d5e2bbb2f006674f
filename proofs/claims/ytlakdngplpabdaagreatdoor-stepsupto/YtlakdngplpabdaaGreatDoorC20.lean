/- Own work. -/
import Derived.Test.YtlakdngplpabdaaGreatDoorC19
namespace Go.Proofs.YtlakdngplpabdaaGreatDoor
open Go.Vm Go.Proofs
set_option linter.unusedSimpArgs false
set_option linter.unusedVariables false
set_option maxHeartbeats 1000000
def HR.hd (D : HR) : HD := ⟨D.bin, D.m, D.nin, D.nla, D.nou, D.nan, D.nbs, D.cs + D.js + D.fs⟩
structure HR.Ok (D : HR) : Prop where
 a : D.m < 10000 /\ D.nin < 10000 /\ D.nla < 10000 /\ D.nou < 10000 /\ D.nan < 10000 /\ D.nbs < 10000
 b : D.cs < 10000 /\ D.js < 10000 /\ D.fs < 10000
attribute [local simp] cSeq cReg reg to mv too onlyIf onlyIfo aMove aNil aFld aLd aInt aPick aLenStr aIdxStr aConv aUn unA ev upd_get isB envOf iA_add iA_sub iA_mul iA_eql iA_neq iA_lss iA_leq iA_gtr iA_geq cIf cRet cSkip okc_some resE resLE rvE aSt vc_int vc_bool vc_agg vc_str vc_ptr vc_sl ft_int ft_bool ft_str ft_ptr ft_sl tp_int tp_bool tp_agg tp_str tp_ptr tp_sl aBuild Instr.fill aCall cExit cBlk outOf ptr undef aNew aBox aIdxArr aLdN aShift shiftA aLenSl aIdx aMkSl aApp rangeA aExt
section
variable {H : Type} {O : HI H} {ro : Nat} {c : CallT H}
theorem cSeq_assoc (a b d : CodeT H) : cSeq (cSeq a b) d = cSeq a (cSeq b d) := by
 funext call n s
 simp only [cSeq]
 cases hx : a call n s with
 | none => rfl
 | some r =>
  obtain ⟨e, s'⟩ := r
  cases e <;> rfl
theorem sums1 (C : Lim Tryz.prog O ro okS c) (L : O.Law) {w : Own} {h : H} {f : Nat} {s : ByteArray} {F : FD} {v0 v1 v2 v3 v4 v5 v6 : Value} (x : FB O ro w h f s F v0 v1 v2 v3 v4 v5 v6) (ok : F.hd.Ok) {t : Env} (t0 : t 0 = ptr f) :
 okE c (cSeq (cReg (R55_0 O Tryz.prog ro)) (cIf (.tmp 35) (cReg (R55_1 O Tryz.prog ro)) cSkip)) (t, h) (fun e t' h' => e = .normal /\ t' 0 = ptr f /\ FB O ro w h' f s { F with R := jd1 F.hd.hd F.R } v0 v1 v2 v3 v4 v5 v6 /\ Ch O (fun u => u = (1, 1000)) w h w h') := by
 unfold ptr at t0
 have x0 := x.m.get 0 _ rfl
 have x1 := x.m.get 1 _ rfl
 have x2 := x.m.get 2 _ rfl
 have x3 := x.m.get 3 _ rfl
 have x4 := x.m.get 4 _ rfl
 have x5 := x.m.get 5 _ rfl
 have x6 := x.m.get 6 _ rfl
 have x7 := x.m.get 7 _ rfl
 have x8 := x.m.get 8 _ rfl
 have x9 := x.m.get 9 _ rfl
 obtain ⟨⟨a1, a2, a3, a4, a5, a6⟩, b1, b2, b3⟩ := ok
 by_cases hbad : 80 < F.hd.m \/ 4 < F.hd.nin \/ 6 < F.hd.nla \/ 4 < F.hd.nou \/ 60 < F.hd.nan
 . obtain ⟨h2, hc2, y2, f2⟩ := bad_w C L x 3 0
   have hc2' : c 108 [Value.pointer (some ⟨f, 0, none⟩), .int .i64 3, .int .i64 0] h = some (.tuple #[], h2) := hc2
   have fin : FB O ro w h2 f s { F with R := jd1 F.hd.hd F.R } v0 v1 v2 v3 v4 v5 v6 := by rw [show jd1 F.hd.hd F.R = fl F.R 3 0 from if_pos hbad]; exact y2
   refine okE.flat (fun _ => rfl) ?_
   by_cases k1 : 80 < F.hd.m
   . have k1' : (80 : Int) < F.hd.m := by omega
     simp [R55_0, R55_1, t0, x1, x2, x3, x4, x5, k1, k1', hc2', fin, f2]
   . have k1' : ¬ (80 : Int) < F.hd.m := by omega
     by_cases k2 : 4 < F.hd.nin
     . have k2' : (4 : Int) < F.hd.nin := by omega
       simp [R55_0, R55_1, t0, x1, x2, x3, x4, x5, k1, k1', k2, k2', hc2', fin, f2]
     . have k2' : ¬ (4 : Int) < F.hd.nin := by omega
       by_cases k3 : 6 < F.hd.nla
       . have k3' : (6 : Int) < F.hd.nla := by omega
         simp [R55_0, R55_1, t0, x1, x2, x3, x4, x5, k1, k1', k2, k2', k3, k3', hc2', fin, f2]
       . have k3' : ¬ (6 : Int) < F.hd.nla := by omega
         by_cases k4 : 4 < F.hd.nou
         . have k4' : (4 : Int) < F.hd.nou := by omega
           simp [R55_0, R55_1, t0, x1, x2, x3, x4, x5, k1, k1', k2, k2', k3, k3', k4, k4', hc2', fin, f2]
         . have k4' : ¬ (4 : Int) < F.hd.nou := by omega
           have k5 : 60 < F.hd.nan := by omega
           have k5' : (60 : Int) < F.hd.nan := by omega
           simp [R55_0, R55_1, t0, x1, x2, x3, x4, x5, k1, k1', k2, k2', k3, k3', k4, k4', k5, k5', hc2', fin, f2]
 . have fin : FB O ro w h f s { F with R := jd1 F.hd.hd F.R } v0 v1 v2 v3 v4 v5 v6 := by rw [show jd1 F.hd.hd F.R = F.R from if_neg hbad]; exact x
   have k1 : ¬ 80 < F.hd.m := by omega
   have k2 : ¬ 4 < F.hd.nin := by omega
   have k3 : ¬ 6 < F.hd.nla := by omega
   have k4 : ¬ 4 < F.hd.nou := by omega
   have k5 : ¬ 60 < F.hd.nan := by omega
   have k1' : ¬ (80 : Int) < F.hd.m := by omega
   have k2' : ¬ (4 : Int) < F.hd.nin := by omega
   have k3' : ¬ (6 : Int) < F.hd.nla := by omega
   have k4' : ¬ (4 : Int) < F.hd.nou := by omega
   have k5' : ¬ (60 : Int) < F.hd.nan := by omega
   refine okE.flat (fun _ => rfl) ?_
   simp [R55_0, R55_1, t0, x1, x2, x3, x4, x5, k1, k1', k2, k2', k3, k3', k4, k4', k5, k5', fin, Ch.refl]
theorem sums2 (C : Lim Tryz.prog O ro okS c) (L : O.Law) {w : Own} {h : H} {f : Nat} {s : ByteArray} {F : FD} {v0 v1 v2 v3 v4 v5 v6 : Value} (x : FB O ro w h f s F v0 v1 v2 v3 v4 v5 v6) (ok : F.hd.Ok) {t : Env} (t0 : t 0 = ptr f) :
 okE c (cSeq (cReg (R55_2 O Tryz.prog ro)) (cSeq (cReg (R55_3 O Tryz.prog ro)) (cIf (.tmp 71) (cReg (R55_4 O Tryz.prog ro)) cSkip))) (t, h) (fun e t' h' => e = .normal /\ t' 0 = ptr f /\ FB O ro w h' f s { F with R := jd2 F.hd.hd F.R } v0 v1 v2 v3 v4 v5 v6 /\ Ch O (fun u => u = (1, 1000)) w h w h') := by
 unfold ptr at t0
 have x0 := x.m.get 0 _ rfl
 have x1 := x.m.get 1 _ rfl
 have x2 := x.m.get 2 _ rfl
 have x3 := x.m.get 3 _ rfl
 have x4 := x.m.get 4 _ rfl
 have x5 := x.m.get 5 _ rfl
 have x6 := x.m.get 6 _ rfl
 have x7 := x.m.get 7 _ rfl
 have x8 := x.m.get 8 _ rfl
 have x9 := x.m.get 9 _ rfl
 obtain ⟨⟨a1, a2, a3, a4, a5, a6⟩, b1, b2, b3⟩ := ok
 obtain ⟨nm, hnm⟩ : ∃ nm, nm = F.hd.nin + F.hd.nla + F.hd.nan := ⟨_, rfl⟩
 have w1 : IntKind.i64.wrap ((F.hd.nin : Int) + F.hd.nla) = (F.hd.nin : Int) + F.hd.nla := wrap_id (by omega) (by omega)
 have w2 : IntKind.i64.wrap ((F.hd.nin : Int) + F.hd.nla + F.hd.nan) = (nm : Int) := by rw [wrap_id (by omega) (by omega)]; omega
 by_cases hbad : F.hd.m < nm \/ (F.hd.bin = true /\ nm ≠ F.hd.m)
 . obtain ⟨h2, hc2, y2, f2⟩ := bad_w C L x 4 0
   have hc2' : c 108 [Value.pointer (some ⟨f, 0, none⟩), .int .i64 4, .int .i64 0] h = some (.tuple #[], h2) := hc2
   have fin : FB O ro w h2 f s { F with R := jd2 F.hd.hd F.R } v0 v1 v2 v3 v4 v5 v6 := by rw [hnm] at hbad; rw [show jd2 F.hd.hd F.R = fl F.R 4 0 from if_pos hbad]; exact y2
   refine okE.flat (fun _ => rfl) ?_
   by_cases k1 : F.hd.m < nm
   . have k1' : (F.hd.m : Int) < nm := by omega
     simp [R55_2, R55_3, R55_4, t0, x0, x1, x2, x3, x5, w1, w2, k1, k1', hc2', fin, f2]
   . have k1' : ¬ (F.hd.m : Int) < nm := by omega
     have kb : F.hd.bin = true := (hbad.resolve_left k1).1
     have kn : (nm : Int) < (F.hd.m : Int) := by have := (hbad.resolve_left k1).2; omega
     have kn2 : nm < F.hd.m := by omega
     simp [R55_2, R55_3, R55_4, t0, x0, x1, x2, x3, x5, w1, w2, k1, k1', kb, kn, kn2, hc2', fin, f2]
 . have fin : FB O ro w h f s { F with R := jd2 F.hd.hd F.R } v0 v1 v2 v3 v4 v5 v6 := by rw [hnm] at hbad; rw [show jd2 F.hd.hd F.R = F.R from if_neg hbad]; exact x
   have k1 : ¬ F.hd.m < nm := by omega
   have k1' : ¬ (F.hd.m : Int) < nm := by omega
   refine okE.flat (fun _ => rfl) ?_
   by_cases kb : F.hd.bin = true
   . have he : nm = F.hd.m := Classical.byContradiction fun e => hbad (.inr ⟨kb, e⟩)
     have kn : ¬ (nm : Int) < (F.hd.m : Int) := by omega
     have kn2 : ¬ nm < F.hd.m := by omega
     simp [R55_2, R55_3, R55_4, t0, x0, x1, x2, x3, x5, w1, w2, k1, k1', kb, kn, kn2, fin, Ch.refl]
   . simp [R55_2, R55_3, R55_4, t0, x0, x1, x2, x3, x5, w1, w2, k1, k1', kb, fin, Ch.refl]
theorem sums3 (C : Lim Tryz.prog O ro okS c) (L : O.Law) {w : Own} {h : H} {f : Nat} {s : ByteArray} {F : FD} {v0 v1 v2 v3 v4 v5 v6 : Value} (x : FB O ro w h f s F v0 v1 v2 v3 v4 v5 v6) (ok : F.hd.Ok) {t : Env} (t0 : t 0 = ptr f) :
 okE c (cSeq (cReg (R55_5 O Tryz.prog ro)) (cIf (.tmp 88) (cReg (R55_6 O Tryz.prog ro)) cSkip)) (t, h) (fun e t' h' => e = .normal /\ t' 0 = ptr f /\ FB O ro w h' f s { F with R := jd3 F.hd.hd F.R } v0 v1 v2 v3 v4 v5 v6 /\ Ch O (fun u => u = (1, 1000)) w h w h') := by
 unfold ptr at t0
 have x0 := x.m.get 0 _ rfl
 have x1 := x.m.get 1 _ rfl
 have x2 := x.m.get 2 _ rfl
 have x3 := x.m.get 3 _ rfl
 have x4 := x.m.get 4 _ rfl
 have x5 := x.m.get 5 _ rfl
 have x6 := x.m.get 6 _ rfl
 have x7 := x.m.get 7 _ rfl
 have x8 := x.m.get 8 _ rfl
 have x9 := x.m.get 9 _ rfl
 obtain ⟨⟨a1, a2, a3, a4, a5, a6⟩, b1, b2, b3⟩ := ok
 obtain ⟨nm, hnm⟩ : ∃ nm, nm = F.hd.cs + F.hd.js + F.hd.fs := ⟨_, rfl⟩
 have w1 : IntKind.i64.wrap ((F.hd.cs : Int) + F.hd.js) = (F.hd.cs : Int) + F.hd.js := wrap_id (by omega) (by omega)
 have w2 : IntKind.i64.wrap ((F.hd.cs : Int) + F.hd.js + F.hd.fs) = (nm : Int) := by rw [wrap_id (by omega) (by omega)]; omega
 by_cases hbad : nm ≠ 0
 . obtain ⟨h2, hc2, y2, f2⟩ := bad_w C L x 5 0
   have hc2' : c 108 [Value.pointer (some ⟨f, 0, none⟩), .int .i64 5, .int .i64 0] h = some (.tuple #[], h2) := hc2
   have fin : FB O ro w h2 f s { F with R := jd3 F.hd.hd F.R } v0 v1 v2 v3 v4 v5 v6 := by rw [hnm] at hbad; rw [show jd3 F.hd.hd F.R = fl F.R 5 0 from if_pos hbad]; exact y2
   have k1 : (0 : Int) < nm := by omega
   have k2 : 0 < nm := by omega
   refine okE.flat (fun _ => rfl) ?_
   simp [R55_5, R55_6, t0, x7, x8, x9, w1, w2, k1, k2, hc2', fin, f2]
 . have fin : FB O ro w h f s { F with R := jd3 F.hd.hd F.R } v0 v1 v2 v3 v4 v5 v6 := by rw [hnm] at hbad; rw [show jd3 F.hd.hd F.R = F.R from if_neg hbad]; exact x
   have k1 : ¬ (0 : Int) < nm := by omega
   have k2 : ¬ 0 < nm := by omega
   refine okE.flat (fun _ => rfl) ?_
   simp [R55_5, R55_6, t0, x7, x8, x9, w1, w2, k1, k2, fin, Ch.refl]
theorem sums4 (C : Lim Tryz.prog O ro okS c) (L : O.Law) {w : Own} {h : H} {f : Nat} {s : ByteArray} {F : FD} {v0 v1 v2 v3 v4 v5 v6 : Value} (x : FB O ro w h f s F v0 v1 v2 v3 v4 v5 v6) (ok : F.hd.Ok) {t : Env} (t0 : t 0 = ptr f) :
 okE c (cSeq (cReg (R55_7 O Tryz.prog ro)) (cIf (.tmp 109) (cReg (R55_8 O Tryz.prog ro)) cSkip)) (t, h) (fun e t' h' => e = .normal /\ t' 0 = ptr f /\ FB O ro w h' f s { F with R := jd4 F.hd.hd F.R } v0 v1 v2 v3 v4 v5 v6 /\ Ch O (fun u => u = (1, 1000)) w h w h') := by
 unfold ptr at t0
 have x0 := x.m.get 0 _ rfl
 have x1 := x.m.get 1 _ rfl
 have x2 := x.m.get 2 _ rfl
 have x3 := x.m.get 3 _ rfl
 have x4 := x.m.get 4 _ rfl
 have x5 := x.m.get 5 _ rfl
 have x6 := x.m.get 6 _ rfl
 have x7 := x.m.get 7 _ rfl
 have x8 := x.m.get 8 _ rfl
 have x9 := x.m.get 9 _ rfl
 obtain ⟨⟨a1, a2, a3, a4, a5, a6⟩, b1, b2, b3⟩ := ok
 by_cases hbad : 1 < F.hd.nbs \/ (F.hd.nbs = 0 /\ F.hd.nou ≠ 1)
 . obtain ⟨h2, hc2, y2, f2⟩ := bad_w C L x 6 0
   have hc2' : c 108 [Value.pointer (some ⟨f, 0, none⟩), .int .i64 6, .int .i64 0] h = some (.tuple #[], h2) := hc2
   have fin : FB O ro w h2 f s { F with R := jd4 F.hd.hd F.R } v0 v1 v2 v3 v4 v5 v6 := by rw [show jd4 F.hd.hd F.R = fl F.R 6 0 from if_pos hbad]; exact y2
   refine okE.flat (fun _ => rfl) ?_
   by_cases k1 : 1 < F.hd.nbs
   . have k1' : (1 : Int) < F.hd.nbs := by omega
     simp [R55_7, R55_8, t0, x6, x4, k1, k1', hc2', fin, f2]
   . have k1' : ¬ (1 : Int) < F.hd.nbs := by omega
     have k2 : ((F.hd.nbs : Int) == 0) = true := by simp; omega
     have k3 : ((F.hd.nou : Int) != 1) = true := by simp; omega
     simp [R55_7, R55_8, t0, x6, x4, k1, k1', k2, k3, hc2', fin, f2]
 . have fin : FB O ro w h f s { F with R := jd4 F.hd.hd F.R } v0 v1 v2 v3 v4 v5 v6 := by rw [show jd4 F.hd.hd F.R = F.R from if_neg hbad]; exact x
   have k1 : ¬ 1 < F.hd.nbs := by omega
   have k1' : ¬ (1 : Int) < F.hd.nbs := by omega
   refine okE.flat (fun _ => rfl) ?_
   by_cases k0 : F.hd.nbs = 0
   . have k2 : ((F.hd.nbs : Int) == 0) = true := by simp; omega
     have k3 : ((F.hd.nou : Int) != 1) = false := by simp; omega
     simp [R55_7, R55_8, t0, x6, x4, k1, k1', k2, k3, fin, Ch.refl]
   . have k2 : ((F.hd.nbs : Int) == 0) = false := by simp; omega
     simp [R55_7, R55_8, t0, x6, x4, k1, k1', k2, fin, Ch.refl]
theorem sums_b (C : Lim Tryz.prog O ro okS c) (L : O.Law) {w : Own} {h : H} {f : Nat} {s : ByteArray} {F : FD} {v0 v1 v2 v3 v4 v5 v6 : Value} (x : FB O ro w h f s F v0 v1 v2 v3 v4 v5 v6) (ok : F.hd.Ok) :
 ∃ h', c 55 [ptr f] h = some (.tuple #[], h') /\ FB O ro w h' f s { F with R := jdS F.hd.hd F.R } v0 v1 v2 v3 v4 v5 v6 /\ Ch O (fun u => u = (1, 1000)) w h w h' := by
 have key : ∃ v h', c 55 [ptr f] h = some (v, h') /\ (v = .tuple #[] /\ FB O ro w h' f s { F with R := jdS F.hd.hd F.R } v0 v1 v2 v3 v4 v5 v6 /\ Ch O (fun u => u = (1, 1000)) w h w h') := by
  refine C.fn (F55_fn O ro) rfl rfl ?_
  unfold F55
  refine okE.seq (okE.mono (sums1 C L x ok rfl) ?_)
  rintro e t g ⟨rfl, t0, x1, c1⟩
  simp only [thenE]
  rw [<- cSeq_assoc]
  rw [<- cSeq_assoc]
  refine okE.seq (okE.seq (okE.mono (sums2 C L x1 ok t0) ?_))
  rintro e t g ⟨rfl, t0, x2, c2⟩
  simp only [thenE]
  refine okE.mono (sums3 C L x2 ok t0) ?_
  rintro e t g ⟨rfl, t0, x3, c3⟩
  simp only [thenE]
  refine okE.mono (sums4 C L x3 ok t0) ?_
  rintro e t g ⟨rfl, t0, x4, c4⟩
  exact ⟨.inr rfl, .tuple #[], rfl, rfl, x4, ((c1.trans c2).trans c3).trans c4⟩
 obtain ⟨v, h', e1, rfl, e2⟩ := key
 exact ⟨h', e1, e2⟩
def dwS (s : ByteArray) (p : Nat) : Int × Option Nat × Nat :=
 if byA s p < 0 then (0, some p, p)
 else if byA s p < 128 then (byA s p, none, p + 1)
 else if byA s (p + 1) < 0 \/ 128 <= byA s (p + 1) then (0, some (p + 1), p)
 else (byA s p - 128 + 128 * byA s (p + 1), none, p + 2)
theorem byA_le (s : ByteArray) (p : Nat) : -1 <= byA s p /\ byA s p <= 255 := by
 unfold byA byteS
 split
 . cases h : s[p]? with
   | none => simp
   | some b => simp; have := b.toNat_lt; omega
 . omega
theorem dw_b (C : Lim Tryz.prog O ro okS c) (L : O.Law) {w : Own} {h : H} {f : Nat} {s : ByteArray} {F : FD} {v0 v1 v2 v3 v4 v5 v6 : Value} (x : FB O ro w h f s F v0 v1 v2 v3 v4 v5 v6) (lo : ro <= O.next h) (hs : s.size <= 1000) (hp : F.R.pos <= s.size) (he : F.R.e = 0) :
 ∃ w' h', c 111 [ptr f] h = some ((⟨(dwS s F.R.pos).1, F.R.pos⟩ : Us).val, h') /\ FB O ro w' h' f s { F with R := match (dwS s F.R.pos).2.1 with | some q => ⟨F.R.pos, 2, q⟩ | none => ⟨(dwS s F.R.pos).2.2, F.R.e, F.R.ep⟩ } v0 v1 v2 v3 v4 v5 v6 /\ Ch O (Kc [1] 1) w h w' h' /\ ro <= O.next h' := by
 obtain ⟨b, hb⟩ : ∃ b, b = O.next h := ⟨_, rfl⟩
 obtain ⟨h1, hh1⟩ : ∃ h1, h1 = O.new h [.int .i64 0, .int .i64 0] := ⟨_, rfl⟩
 obtain ⟨w1, hw1⟩ : ∃ w1, w1 = w.set b (100, 0) := ⟨_, rfl⟩
 have c1 : ∀ K, Ch O K w h w1 h1 := fun K => by rw [hh1, hw1, hb]; exact Ch.new L _ _ _ _ _
 have y1 : Bx O ro w1 h1 (100, 0) b [.int .i64 0, .int .i64 0] := by rw [hh1, hw1, hb]; exact Bx.new L _ _ lo _ _
 have x1 := x.ch L (c1 fun _ => False) (by simp)
 have lo1 : ro <= O.next h1 := Nat.le_trans lo (c1 fun _ => True).nx
 have k19 := x1.m.get 19 _ rfl
 have k20 := x1.m.get 20 _ rfl
 have hro : ¬ b < ro := by have := y1.lo; omega
 have hrof : ¬ f < ro := by have := x.m.lo; omega
 obtain ⟨q1, hq1⟩ : ∃ q, q = F.R.pos + 1 := ⟨_, rfl⟩
 obtain ⟨q2, hq2⟩ : ∃ q, q = F.R.pos + 2 := ⟨_, rfl⟩
 have hw1 : IntKind.i64.wrap ((F.R.pos : Int) + 1) = (q1 : Int) := by rw [wrap_id (by omega) (by omega)]; omega
 have hw2 : IntKind.i64.wrap ((F.R.pos : Int) + 2) = (q2 : Int) := by rw [wrap_id (by omega) (by omega)]; omega
 have b1 := by_w C h1 s hs F.R.pos
 have b2 := by_w C h1 s hs q1
 have l1 := byA_le s F.R.pos
 have l2 := byA_le s q1
 unfold dwS
 rw [<- hq1, <- hq2]
 generalize byA s F.R.pos = A at b1 l1
 generalize byA s q1 = B at b2 l2
 by_cases hA : A < 0
 . simp only [if_pos hA]
   obtain ⟨h4, hc4, x4, c4⟩ := bad_w C L x1 2 F.R.pos
   have hfl : fl F.R 2 F.R.pos = ⟨F.R.pos, 2, F.R.pos⟩ := by simp [fl, he]
   rw [hfl] at x4
   have y4 := y1.ch L c4 (by simp)
   obtain ⟨h6, e6, y6, c6⟩ := Bx.over L (K := fun u => u = (100, 0)) (new := [.int .i64 0, .int .i64 F.R.pos]) rfl y4 rfl
   have hl : cellsA O h6 b 0 2 = some [.int .i64 0, .int .i64 F.R.pos] := y6.all
   have hc4' : c 108 [Value.pointer (some ⟨f, 0, none⟩), .int .i64 2, .int .i64 F.R.pos] h1 = some (.tuple #[], h4) := hc4
   refine ⟨w1, h6, ?_, x4.ch L c6 (by simp), ((c1 _).trans (chR c4 1)).trans (chL c6 1 (by omega)), Nat.le_trans (Nat.le_trans lo1 c4.nx) c6.nx⟩
   refine C.eq (F111_fn O ro) rfl rfl (okE.flat (fun _ => rfl) ?_)
   simp [F111, R111_0, R111_1, R111_2, R111_3, R111_4, R111_5, R111_6, <- hb, <- hh1, k19, k20, b1, hw1, b2, hA, hc4', List.zipIdx, hro, e6, load150, hl, Us.val]
 . simp only [if_neg hA]
   by_cases hA2 : A < 128
   . simp only [if_pos hA2]
     have m5 := x1.m.put L 19 (by simp [fcells]) (.int .i64 q1)
     have c5 := Ch.put L (K := fun u => u = (1, 1000)) x1.m 19 (by simp [fcells]) (.int .i64 q1) rfl
     have x5 := x1.own L c5 F.hd ⟨q1, F.R.e, F.R.ep⟩ m5
     have y5 := y1.ch L c5 (by simp)
     obtain ⟨h6, e6, y6, c6⟩ := Bx.over L (K := fun u => u = (100, 0)) (new := [.int .i64 A, .int .i64 F.R.pos]) rfl y5 rfl
     have hl : cellsA O h6 b 0 2 = some [.int .i64 A, .int .i64 F.R.pos] := y6.all
     have hpu : putsA O h1 f 19 [.int .i64 q1] = some (O.put h1 f 19 (.int .i64 q1)) := by simp [putsA, k19]
     refine ⟨w1, h6, ?_, x5.ch L c6 (by simp), ((c1 _).trans (chR c5 1)).trans (chL c6 1 (by omega)), Nat.le_trans (Nat.le_trans lo1 c5.nx) c6.nx⟩
     refine C.eq (F111_fn O ro) rfl rfl (okE.flat (fun _ => rfl) ?_)
     simp [F111, R111_0, R111_1, R111_2, R111_3, R111_4, R111_7, R111_8, R111_9, <- hb, <- hh1, k19, k20, b1, hw1, b2, hA, hA2, hrof, hpu, List.zipIdx, hro, e6, load150, hl, Us.val]
   . simp only [if_neg hA2]
     by_cases hB : B < 0 \/ 128 <= B
     . simp only [if_pos hB]
       obtain ⟨h4, hc4, x4, c4⟩ := bad_w C L x1 2 q1
       have hfl : fl F.R 2 q1 = ⟨F.R.pos, 2, q1⟩ := by simp [fl, he]
       rw [hfl] at x4
       have y4 := y1.ch L c4 (by simp)
       obtain ⟨h6, e6, y6, c6⟩ := Bx.over L (K := fun u => u = (100, 0)) (new := [.int .i64 0, .int .i64 F.R.pos]) rfl y4 rfl
       have hl : cellsA O h6 b 0 2 = some [.int .i64 0, .int .i64 F.R.pos] := y6.all
       have hc4' : c 108 [Value.pointer (some ⟨f, 0, none⟩), .int .i64 2, .int .i64 q1] h1 = some (.tuple #[], h4) := hc4
       refine ⟨w1, h6, ?_, x4.ch L c6 (by simp), ((c1 _).trans (chR c4 1)).trans (chL c6 1 (by omega)), Nat.le_trans (Nat.le_trans lo1 c4.nx) c6.nx⟩
       refine C.eq (F111_fn O ro) rfl rfl (okE.flat (fun _ => rfl) ?_)
       by_cases hB0 : B < 0
       . simp [F111, R111_0, R111_1, R111_2, R111_3, R111_4, R111_7, R111_10, R111_11, R111_12, <- hb, <- hh1, k19, k20, b1, hw1, b2, hA, hA2, hB0, hc4', List.zipIdx, hro, e6, load150, hl, Us.val]
       . have hB1 : 128 <= B := by omega
         simp [F111, R111_0, R111_1, R111_2, R111_3, R111_4, R111_7, R111_10, R111_11, R111_12, <- hb, <- hh1, k19, k20, b1, hw1, b2, hA, hA2, hB0, hB1, hc4', List.zipIdx, hro, e6, load150, hl, Us.val]
     . simp only [if_neg hB]
       have hB0 : ¬ B < 0 := by omega
       have hB1 : ¬ 128 <= B := by omega
       obtain ⟨Z, hZ⟩ : ∃ Z, Z = A - 128 + 128 * B := ⟨_, rfl⟩
       rw [<- hZ]
       have u1 : IntKind.i64.wrap (A - 128) = A - 128 := wrap_id (by omega) (by omega)
       have u2 : IntKind.i64.wrap (128 * B) = 128 * B := wrap_id (by omega) (by omega)
       have u3 : IntKind.i64.wrap (A - 128 + 128 * B) = Z := by rw [wrap_id (by omega) (by omega), hZ]
       have m5 := x1.m.put L 19 (by simp [fcells]) (.int .i64 q2)
       have c5 := Ch.put L (K := fun u => u = (1, 1000)) x1.m 19 (by simp [fcells]) (.int .i64 q2) rfl
       have x5 := x1.own L c5 F.hd ⟨q2, F.R.e, F.R.ep⟩ m5
       have y5 := y1.ch L c5 (by simp)
       obtain ⟨h6, e6, y6, c6⟩ := Bx.over L (K := fun u => u = (100, 0)) (new := [.int .i64 Z, .int .i64 F.R.pos]) rfl y5 rfl
       have hl : cellsA O h6 b 0 2 = some [.int .i64 Z, .int .i64 F.R.pos] := y6.all
       have hpu : putsA O h1 f 19 [.int .i64 q2] = some (O.put h1 f 19 (.int .i64 q2)) := by simp [putsA, k19]
       refine ⟨w1, h6, ?_, x5.ch L c6 (by simp), ((c1 _).trans (chR c5 1)).trans (chL c6 1 (by omega)), Nat.le_trans (Nat.le_trans lo1 c5.nx) c6.nx⟩
       refine C.eq (F111_fn O ro) rfl rfl (okE.flat (fun _ => rfl) ?_)
       simp [F111, R111_0, R111_1, R111_2, R111_3, R111_4, R111_7, R111_10, R111_13, R111_14, <- hb, <- hh1, k19, k20, b1, hw1, hw2, b2, hA, hA2, hB0, hB1, u1, u2, u3, hrof, hpu, List.zipIdx, hro, e6, load150, hl, Us.val]
end
def itE (f : Nat -> FD -> FD) : Nat -> Nat -> FD -> FD
 | _, 0, F => F
 | j, m + 1, F => if F.R.e = 0 then itE f (j + 1) m (f j F) else F
structure FI (D : HR) (s : ByteArray) (F : FD) (B : Nat) : Prop where
 hd : F.hd = D
 pos : F.R.pos <= s.size
 sm : smallU F.defs
 l0 : F.defs.length <= B
 l1 : F.next.length <= B
 l2 : F.outs.length <= B
 l3 : F.bads.length <= B
 l4 : F.resets.length <= B
 l5 : F.left.length <= B
 l6 : F.right.length <= B
theorem FI.mono {D : HR} {s : ByteArray} {F : FD} {B B' : Nat} (h : FI D s F B) (hb : B <= B') : FI D s F B' := by
 obtain ⟨a, b, c, d, e, f, g, i, j, k⟩ := h
 exact ⟨a, b, c, by omega, by omega, by omega, by omega, by omega, by omega, by omega⟩
theorem FI.setR {D : HR} {s : ByteArray} {F : FD} {B : Nat} (h : FI D s F B) (R : RS) (hp : R.pos <= s.size) : FI D s { F with R := R } B :=
 ⟨h.hd, hp, h.sm, h.l0, h.l1, h.l2, h.l3, h.l4, h.l5, h.l6⟩
theorem deS_fi {D : HR} {s : ByteArray} {F : FD} {B : Nat} (h : FI D s F B) (u : Us) (hu : 0 <= u.l /\ u.l < 1000000) : FI D s (deS F u) (B + 1) := by
 unfold deS
 split
 . refine ⟨h.hd, ?_, ?_, by have := h.l0; simp; omega, by have := h.l1; simp; omega, by have := h.l2; simp; omega, by have := h.l3; simp; omega, by have := h.l4; simp; omega, by have := h.l5; simp; omega, by have := h.l6; simp; omega⟩
   . simp only [deR]
     split
     . rw [fl_pos]; exact h.pos
     . exact h.pos
   . intro v hv
     rcases List.mem_append.1 hv with hv | hv
     . exact h.sm v hv
     . simp only [List.mem_singleton] at hv; subst hv; exact hu
 . exact h.mono (by omega)
theorem deS_hd (F : FD) (u : Us) : (deS F u).hd = F.hd := by unfold deS; split <;> rfl
theorem lwS_l (m : Nat) (s : ByteArray) (R : RS) : 0 <= (lwS m s R).1.l /\ (lwS m s R).1.l < 1000000 := by
 obtain ⟨k, hk, hu⟩ := wdS_l s R
 have : (lwS m s R).1 = ⟨(k : Int), R.pos⟩ := hu
 rw [this]; simp only; omega
section
variable {H : Type} {O : HI H} {ro : Nat} {c : CallT H}
theorem FX.ch (L : O.Law) {K : Tag -> Prop} {w w' : Own} {h h' : H} {f : Nat} {s : ByteArray} {F : FD} (x : FX O ro w h f s F) (a : Ch O K w h w' h') (hk : ∀ o, ¬ K (1, o)) : FX O ro w' h' f s F := by
 obtain ⟨v0, v1, v2, v3, v4, v5, v6, x⟩ := x
 exact ⟨v0, v1, v2, v3, v4, v5, v6, x.ch L a hk⟩
theorem FX.cells {w : Own} {h : H} {f : Nat} {s : ByteArray} {F : FD} (x : FX O ro w h f s F) :
 O.cell h f 0 = some (.bool F.hd.bin) /\ O.cell h f 1 = some (.int .i64 F.hd.m) /\ O.cell h f 2 = some (.int .i64 F.hd.nin) /\ O.cell h f 3 = some (.int .i64 F.hd.nla) /\ O.cell h f 4 = some (.int .i64 F.hd.nou) /\ O.cell h f 5 = some (.int .i64 F.hd.nan) /\ O.cell h f 6 = some (.int .i64 F.hd.nbs) /\ O.cell h f 17 = some (.int .i64 F.R.e) /\ O.cell h f 18 = some (.int .i64 F.R.ep) /\ O.cell h f 19 = some (.int .i64 F.R.pos) /\ O.cell h f 20 = some (.string s) /\ ¬ f < ro := by
 obtain ⟨v0, v1, v2, v3, v4, v5, v6, x⟩ := x
 exact ⟨x.m.get 0 _ rfl, x.m.get 1 _ rfl, x.m.get 2 _ rfl, x.m.get 3 _ rfl, x.m.get 4 _ rfl, x.m.get 5 _ rfl, x.m.get 6 _ rfl, x.m.get 17 _ rfl, x.m.get 18 _ rfl, x.m.get 19 _ rfl, x.m.get 20 _ rfl, by have := x.m.lo; omega⟩
theorem bad_x (C : Lim Tryz.prog O ro okS c) (L : O.Law) {w : Own} {h : H} {f : Nat} {s : ByteArray} {F : FD} (x : FX O ro w h f s F) (e p : Nat) :
 ∃ h', c 108 [.pointer (some ⟨f, 0, none⟩), .int .i64 e, .int .i64 p] h = some (.tuple #[], h') /\ FX O ro w h' f s { F with R := fl F.R e p } /\ Ch O (fun u => u = (1, 1000)) w h w h' := by
 obtain ⟨v0, v1, v2, v3, v4, v5, v6, x⟩ := x
 obtain ⟨h', e1, x1, c1⟩ := bad_w C L x e p
 exact ⟨h', e1, ⟨v0, v1, v2, v3, v4, v5, v6, x1⟩, c1⟩
theorem sign_x (C : Lim Tryz.prog O ro okS c) (L : O.Law) {w : Own} {h : H} {f : Nat} {s : ByteArray} {F : FD} (x : FX O ro w h f s F) (hs : s.size <= 1000) (b : Nat) :
 ∃ h', c 105 [.pointer (some ⟨f, 0, none⟩), .int .i64 b] h = some (.tuple #[], h') /\ FX O ro w h' f s { F with R := exS s F.R b } /\ Ch O (fun u => u = (1, 1000)) w h w h' := by
 obtain ⟨v0, v1, v2, v3, v4, v5, v6, x⟩ := x
 obtain ⟨h', e1, x1, c1⟩ := sign_w C L x hs b
 exact ⟨h', e1, ⟨v0, v1, v2, v3, v4, v5, v6, x1⟩, c1⟩
theorem word_x (C : Lim Tryz.prog O ro okS c) (L : O.Law) {w : Own} {h : H} {f : Nat} {s : ByteArray} {F : FD} (x : FX O ro w h f s F) (lo : ro <= O.next h) (hs : s.size <= 1000) (hp : F.R.pos <= s.size) :
 ∃ w' h', c 107 [.pointer (some ⟨f, 0, none⟩)] h = some (.agg #[.int .i64 (wdS s F.R).1.l, .int .i64 F.R.pos], h') /\ FX O ro w' h' f s { F with R := (wdS s F.R).2 } /\ Ch O (Kc [1] 1) w h w' h' /\ ro <= O.next h' := by
 obtain ⟨v0, v1, v2, v3, v4, v5, v6, x⟩ := x
 obtain ⟨w', h', e1, x1, c1, l1⟩ := word_b C L x lo hs hp
 exact ⟨w', h', e1, ⟨v0, v1, v2, v3, v4, v5, v6, x1⟩, c1, l1⟩
theorem lw_x (C : Lim Tryz.prog O ro okS c) (L : O.Law) {w : Own} {h : H} {f : Nat} {s : ByteArray} {F : FD} (x : FX O ro w h f s F) (lo : ro <= O.next h) (hs : s.size <= 1000) (hp : F.R.pos <= s.size) (hm : F.hd.m <= 10000) :
 ∃ w' h', c 110 [.pointer (some ⟨f, 0, none⟩)] h = some (.agg #[.int .i64 (lwS F.hd.m s F.R).1.l, .int .i64 F.R.pos], h') /\ FX O ro w' h' f s { F with R := (lwS F.hd.m s F.R).2 } /\ Ch O (Kc [1] 2) w h w' h' /\ ro <= O.next h' := by
 obtain ⟨v0, v1, v2, v3, v4, v5, v6, x⟩ := x
 obtain ⟨w', h', e1, x1, c1, l1⟩ := lw_b C L x lo hs hp hm
 exact ⟨w', h', e1, ⟨v0, v1, v2, v3, v4, v5, v6, x1⟩, c1, l1⟩
theorem de_x (C : Lim Tryz.prog O ro okS c) (L : O.Law) {w : Own} {h : H} {f : Nat} {s : ByteArray} {F : FD} (x : FX O ro w h f s F) (lo : ro <= O.next h) (hl : F.defs.length <= 10000) (hd : smallU F.defs) (l : Int) (p : Nat) (h0 : 0 <= l) (h1 : l < 1000000) :
 ∃ w' h', c 109 [.pointer (some ⟨f, 0, none⟩), .agg #[.int .i64 l, .int .i64 p]] h = some (.tuple #[], h') /\ FX O ro w' h' f s (deS F ⟨l, p⟩) /\ Ch O (Kc [1] 1) w h w' h' /\ ro <= O.next h' := de_b C L x lo hl hd ⟨l, p⟩ h0 h1
theorem loc2 (L : O.Law) (w : Own) (h : H) (hro : ro <= O.next h) (x y : Value) (t : Tag) :
 ∃ b w' h', b = O.next h /\ putsA O (O.new h [.int .i64 0, .int .i64 0]) b 0 [x, y] = some h' /\ Bx O ro w' h' t b [x, y] /\ (∀ K, Ch O K w h w' h') /\ ro <= O.next h' /\ ¬ b < ro := by
 obtain ⟨h', e1, e2, e3, e4⟩ := local2 L w h hro (.int .i64 0) (.int .i64 0) x y t
 exact ⟨_, _, h', rfl, e1, e2, e3, e4, by omega⟩
def bdI (s : ByteArray) (j : Nat) (F : FD) : FD :=
 if F.hd.bin = true then deS F ⟨((2 + 2 * j : Nat) : Int), 0⟩
 else
  let F1 := deS { F with R := (lwS F.hd.m s F.R).2 } ⟨(lwS F.hd.m s F.R).1.l, F.R.pos⟩
  { F1 with R := exS s F1.R 10 }
theorem bdI_fi {D : HR} {s : ByteArray} {F : FD} {B j : Nat} (h : FI D s F B) (hj : j < 1000) : FI D s (bdI s j F) (B + 1) := by
 unfold bdI
 split
 . exact deS_fi h _ (by simp only; omega)
 . have h1 := deS_fi (h.setR _ (lwS_pos (m := F.hd.m) h.pos)) ⟨(lwS F.hd.m s F.R).1.l, F.R.pos⟩ (lwS_l F.hd.m s F.R)
   exact h1.setR _ (exS_pos _ h1.pos)
theorem bd_ins (C : Lim Tryz.prog O ro okS c) (L : O.Law) {w0 : Own} {h0 : H} {f : Nat} {s : ByteArray} {D : HR} (hs : s.size <= 1000) (hD : D.nin <= 100 /\ D.m <= 10000) (F0 : FD) (B : Nat) (hB : B <= 1000) (fi : FI D s F0 B) (w : Own) (h : H) (x : FX O ro w h f s F0) (lo : ro <= O.next h) (cc : Ch O (Kc [1] 3) w0 h0 w h) (t : Env) (t0 : t 0 = .pointer (some ⟨f, 0, none⟩)) (t2 : t 2 = .int .i64 0) :
 okE c (cBlk 0 (cLoop (W56_0 O Tryz.prog ro))) (t, h) (fun e t' h' => e = .normal /\ t' 0 = .pointer (some ⟨f, 0, none⟩) /\ ∃ w', FX O ro w' h' f s (itE (bdI s) 0 D.nin F0) /\ FI D s (itE (bdI s) 0 D.nin F0) (B + 100) /\ Ch O (Kc [1] 3) w0 h0 w' h' /\ ro <= O.next h') := by
 refine okE.blk ?_
 generalize hE : itE (bdI s) 0 D.nin F0 = E
 refine okE.loop (fun m t g => ∃ j F w', FX O ro w' g f s F /\ FI D s F (B + j) /\ Ch O (Kc [1] 3) w0 h0 w' g /\ ro <= O.next g /\ t 0 = .pointer (some ⟨f, 0, none⟩) /\ t 2 = .int .i64 (j : Nat) /\ j + m = D.nin + 1 /\ 0 < m /\ itE (bdI s) j (m - 1) F = E) ?_ (D.nin + 1) _ _ ⟨0, F0, w, x, fi, cc, lo, t0, t2, by omega, by omega, hE⟩
 intro m t g hI
 obtain ⟨j, F, w', x', fi', c', lo', t0, t2, hj, hm, hfin⟩ := hI
 obtain ⟨k0, k1, k2, k3, k4, k5, k6, k17, k18, k19, k20, hro⟩ := x'.cells
 rw [fi'.hd] at k0 k1 k2 k3 k4 k5 k6
 by_cases hlt : j < D.nin
 . obtain ⟨m', rfl⟩ : ∃ m', m = m' + 2 := ⟨m - 2, by omega⟩
   simp only [Nat.add_one_sub_one, itE] at hfin
   have hlt' : (j : Int) < D.nin := by omega
   by_cases he : F.R.e = 0
   . have he' : ((F.R.e : Int) == 0) = true := by simp; omega
     rw [if_pos he] at hfin
     obtain ⟨q, hq⟩ : ∃ q, q = j + 1 := ⟨_, rfl⟩
     have hw : IntKind.i64.wrap ((j : Int) + 1) = (q : Int) := by rw [wrap_id (by omega) (by omega)]; omega
     have fi2 : FI D s (bdI s j F) (B + q) := by rw [hq]; exact bdI_fi fi' (by omega)
     rw [<- hq] at hfin
     by_cases hb : D.bin = true
     . obtain ⟨l, hl⟩ : ∃ l : Nat, l = 2 + 2 * j := ⟨_, rfl⟩
       have hw1 : IntKind.i64.wrap (2 * (j : Int)) = 2 * (j : Int) := wrap_id (by omega) (by omega)
       have hw2 : IntKind.i64.wrap (2 + 2 * (j : Int)) = (l : Int) := by rw [wrap_id (by omega) (by omega)]; omega
       obtain ⟨w2, h2, hc2, x2, c2, lo2⟩ := de_x C L x' lo' (by have := fi'.l0; omega) fi'.sm l 0 (by omega) (by omega)
       have hz : bdI s j F = deS F ⟨(l : Int), 0⟩ := by unfold bdI; rw [fi'.hd, if_pos hb, hl]
       have hc2' : c 109 [.pointer (some ⟨f, 0, none⟩), .agg #[.int .i64 l, .int .i64 0]] g = some (.tuple #[], h2) := hc2
       refine okE.flat (fun _ => rfl) ?_
       simp [W56_0, R56_1, R56_3, R56_4, R56_2, t0, t2, k2, hlt, hlt', k17, he', k0, hb, hw1, hw2, List.zipIdx, hc2', hw]
       exact ⟨m' + 1, by omega, q, bdI s j F, w2, by rw [hz]; exact x2, fi2, c'.trans (Kc.mono c2 (by decide) (by omega)), lo2, rfl, by omega, by omega, hfin⟩
     . obtain ⟨w2, h2, hc2, x2, c2, lo2⟩ := lw_x C L x' lo' hs fi'.pos (by rw [fi'.hd]; omega)
       obtain ⟨b, w3, h3, hbe, e3, z3, c3, lo3, hrob⟩ := loc2 L w2 h2 lo2 (.int .i64 (lwS F.hd.m s F.R).1.l) (.int .i64 F.R.pos) (102, 0)
       have x3 := x2.ch L (c3 fun _ => False) (by simp)
       have hl3 : cellsA O h3 b 0 2 = some [.int .i64 (lwS F.hd.m s F.R).1.l, .int .i64 F.R.pos] := z3.all
       have hll := lwS_l F.hd.m s F.R
       obtain ⟨w4, h4, hc4, x4, c4, lo4⟩ := de_x C L x3 lo3 (by have := fi'.l0; simp only; omega) fi'.sm (lwS F.hd.m s F.R).1.l F.R.pos hll.1 hll.2
       obtain ⟨h5, hc5, x5, c5⟩ := sign_x C L x4 hs 10
       have hz : bdI s j F = { deS { F with R := (lwS F.hd.m s F.R).2 } ⟨(lwS F.hd.m s F.R).1.l, F.R.pos⟩ with R := exS s (deS { F with R := (lwS F.hd.m s F.R).2 } ⟨(lwS F.hd.m s F.R).1.l, F.R.pos⟩).R 10 } := by unfold bdI; rw [fi'.hd, if_neg hb]
       have hc5' : c 105 [.pointer (some ⟨f, 0, none⟩), .int .i64 10] h4 = some (.tuple #[], h5) := hc5
       refine okE.flat (fun _ => rfl) ?_
       simp [W56_0, R56_1, R56_3, R56_5, R56_6, R56_7, R56_2, t0, t2, k2, hlt, hlt', k17, he', k0, hb, hc2, <- hbe, e3, hrob, hl3, hc4, hc5', hw]
       exact ⟨m' + 1, by omega, q, bdI s j F, w4, by rw [hz]; exact x5, fi2, (((c'.trans (Kc.mono c2 (by decide) (by omega))).trans (c3 _)).trans (Kc.mono c4 (by decide) (by omega))).trans (chR c5 3), Nat.le_trans lo4 c5.nx, rfl, by omega, by omega, hfin⟩
   . have he' : ((F.R.e : Int) == 0) = false := by simp; omega
     rw [if_neg he] at hfin
     subst hfin
     refine okE.flat (fun _ => rfl) ?_
     simp [W56_0, R56_1, t0, t2, k2, hlt, hlt', k17, he']
     exact ⟨w', x', fi'.mono (by omega), c', lo'⟩
 . have hm1 : m = 1 := by omega
   subst hm1
   have hfin2 : F = E := hfin
   subst hfin2
   have hlt' : ¬ (j : Int) < D.nin := by omega
   refine okE.flat (fun _ => rfl) ?_
   simp [W56_0, R56_1, t0, t2, k2, hlt, hlt']
   exact ⟨w', x', fi'.mono (by omega), c', lo'⟩
def bdO (s : ByteArray) (_ : Nat) (F : FD) : FD := { F with R := exS s (lwS F.hd.m s F.R).2 10, outs := F.outs ++ [⟨(lwS F.hd.m s F.R).1.l, F.R.pos⟩] }
theorem bdO_fi {D : HR} {s : ByteArray} {F : FD} {B j : Nat} (h : FI D s F B) : FI D s (bdO s j F) (B + 1) := by
 obtain ⟨a, b, c, d, e, f, g, i, j, k⟩ := h
 exact ⟨a, exS_pos _ (lwS_pos b), c, by simp only [bdO]; omega, by simp only [bdO]; omega, by simp only [bdO, List.length_append, List.length_singleton]; omega, by simp only [bdO, List.length_append, List.length_singleton]; omega, by simp only [bdO]; omega, by simp only [bdO]; omega, by simp only [bdO]; omega⟩
theorem bd_outs (C : Lim Tryz.prog O ro okS c) (L : O.Law) {w0 : Own} {h0 : H} {f : Nat} {s : ByteArray} {D : HR} (hs : s.size <= 1000) (hD : D.nou <= 100 /\ D.m <= 10000) (F0 : FD) (B : Nat) (hB : B <= 1000) (fi : FI D s F0 B) (w : Own) (h : H) (x : FX O ro w h f s F0) (lo : ro <= O.next h) (cc : Ch O (Kc [1] 3) w0 h0 w h) (t : Env) (t0 : t 0 = .pointer (some ⟨f, 0, none⟩)) (t2 : t 10 = .int .i64 0) :
 okE c (cBlk 4 (cLoop (W56_2 O Tryz.prog ro))) (t, h) (fun e t' h' => e = .normal /\ t' 0 = .pointer (some ⟨f, 0, none⟩) /\ ∃ w', FX O ro w' h' f s (itE (bdO s) 0 D.nou F0) /\ FI D s (itE (bdO s) 0 D.nou F0) (B + 100) /\ Ch O (Kc [1] 3) w0 h0 w' h' /\ ro <= O.next h') := by
 refine okE.blk ?_
 generalize hE : itE (bdO s) 0 D.nou F0 = E
 refine okE.loop (fun m t g => ∃ j F w', FX O ro w' g f s F /\ FI D s F (B + j) /\ Ch O (Kc [1] 3) w0 h0 w' g /\ ro <= O.next g /\ t 0 = .pointer (some ⟨f, 0, none⟩) /\ t 10 = .int .i64 (j : Nat) /\ j + m = D.nou + 1 /\ 0 < m /\ itE (bdO s) j (m - 1) F = E) ?_ (D.nou + 1) _ _ ⟨0, F0, w, x, fi, cc, lo, t0, t2, by omega, by omega, hE⟩
 intro m t g hI
 obtain ⟨j, F, w', x', fi', c', lo', t0, t2, hj, hm, hfin⟩ := hI
 obtain ⟨k0, k1, k2, k3, k4, k5, k6, k17, k18, k19, k20, hro⟩ := x'.cells
 rw [fi'.hd] at k0 k1 k2 k3 k4 k5 k6
 by_cases hlt : j < D.nou
 . obtain ⟨m', rfl⟩ : ∃ m', m = m' + 2 := ⟨m - 2, by omega⟩
   simp only [Nat.add_one_sub_one, itE] at hfin
   have hlt' : (j : Int) < D.nou := by omega
   by_cases he : F.R.e = 0
   . have he' : ((F.R.e : Int) == 0) = true := by simp; omega
     rw [if_pos he] at hfin
     obtain ⟨q, hq⟩ : ∃ q, q = j + 1 := ⟨_, rfl⟩
     have hw : IntKind.i64.wrap ((j : Int) + 1) = (q : Int) := by rw [wrap_id (by omega) (by omega)]; omega
     have fi2 : FI D s (bdO s j F) (B + q) := by rw [hq]; exact bdO_fi fi'
     rw [<- hq] at hfin
     obtain ⟨w2, h2, hc2, x2, c2, lo2⟩ := lw_x C L x' lo' hs fi'.pos (by rw [fi'.hd]; omega)
     obtain ⟨b, w3, h3, hbe, e3, z3, c3, lo3, hrob⟩ := loc2 L w2 h2 lo2 (.int .i64 (lwS F.hd.m s F.R).1.l) (.int .i64 F.R.pos) (102, 0)
     have x3 := x2.ch L (c3 fun _ => False) (by simp)
     have hl3 : cellsA O h3 b 0 2 = some [.int .i64 (lwS F.hd.m s F.R).1.l, .int .i64 F.R.pos] := z3.all
     obtain ⟨v0, v1, v2, v3, v4, v5, v6, y3⟩ := x3
     obtain ⟨v', h4, w4, e4, ⟨f1, f2, f3⟩, g1, g2, _, y4, c4, lo4⟩ := y3.app2 L lo3 ⟨(lwS F.hd.m s F.R).1.l, F.R.pos⟩ (by have := fi'.l2; simp only; omega)
     obtain ⟨h5, hc5, x5, c5⟩ := sign_x C L ⟨_, _, _, _, _, _, _, y4⟩ hs 10
     have hc5' : c 105 [.pointer (some ⟨f, 0, none⟩), .int .i64 10] (O.put h4 f 12 v') = some (.tuple #[], h5) := hc5
     simp only [Us.cells] at e4
     refine okE.flat (fun _ => rfl) ?_
     simp [W56_2, R56_32, R56_34, R56_35, R56_36, R56_33, t0, t2, k4, hlt, hlt', k17, he', hc2, <- hbe, e3, hrob, hl3, g1, List.zipIdx, List.range_succ, e4, f1, f2, f3, g2, hro, putsA, hc5', hw]
     exact ⟨m' + 1, by omega, q, bdO s j F, w4, x5, fi2, (((c'.trans (Kc.mono c2 (by decide) (by omega))).trans (c3 _)).trans (Kc.mono c4 (by decide) (by omega))).trans (chR c5 3), Nat.le_trans lo4 c5.nx, rfl, by omega, by omega, hfin⟩
   . have he' : ((F.R.e : Int) == 0) = false := by simp; omega
     rw [if_neg he] at hfin
     subst hfin
     refine okE.flat (fun _ => rfl) ?_
     simp [W56_2, R56_32, t0, t2, k4, hlt, hlt', k17, he']
     exact ⟨w', x', fi'.mono (by omega), c', lo'⟩
 . have hm1 : m = 1 := by omega
   subst hm1
   have hfin2 : F = E := hfin
   subst hfin2
   have hlt' : ¬ (j : Int) < D.nou := by omega
   refine okE.flat (fun _ => rfl) ?_
   simp [W56_2, R56_32, t0, t2, k4, hlt, hlt']
   exact ⟨w', x', fi'.mono (by omega), c', lo'⟩
def bdB (s : ByteArray) (_ : Nat) (F : FD) : FD := { F with R := exS s (lwS F.hd.m s F.R).2 10, bads := F.bads ++ [⟨(lwS F.hd.m s F.R).1.l, F.R.pos⟩] }
theorem bdB_fi {D : HR} {s : ByteArray} {F : FD} {B j : Nat} (h : FI D s F B) : FI D s (bdB s j F) (B + 1) := by
 obtain ⟨a, b, c, d, e, f, g, i, j, k⟩ := h
 exact ⟨a, exS_pos _ (lwS_pos b), c, by simp only [bdB]; omega, by simp only [bdB]; omega, by simp only [bdB, List.length_append, List.length_singleton]; omega, by simp only [bdB, List.length_append, List.length_singleton]; omega, by simp only [bdB]; omega, by simp only [bdB]; omega, by simp only [bdB]; omega⟩
theorem bd_bads (C : Lim Tryz.prog O ro okS c) (L : O.Law) {w0 : Own} {h0 : H} {f : Nat} {s : ByteArray} {D : HR} (hs : s.size <= 1000) (hD : D.nbs <= 100 /\ D.m <= 10000) (F0 : FD) (B : Nat) (hB : B <= 1000) (fi : FI D s F0 B) (w : Own) (h : H) (x : FX O ro w h f s F0) (lo : ro <= O.next h) (cc : Ch O (Kc [1] 3) w0 h0 w h) (t : Env) (t0 : t 0 = .pointer (some ⟨f, 0, none⟩)) (t2 : t 12 = .int .i64 0) :
 okE c (cBlk 6 (cLoop (W56_3 O Tryz.prog ro))) (t, h) (fun e t' h' => e = .normal /\ t' 0 = .pointer (some ⟨f, 0, none⟩) /\ ∃ w', FX O ro w' h' f s (itE (bdB s) 0 D.nbs F0) /\ FI D s (itE (bdB s) 0 D.nbs F0) (B + 100) /\ Ch O (Kc [1] 3) w0 h0 w' h' /\ ro <= O.next h') := by
 refine okE.blk ?_
 generalize hE : itE (bdB s) 0 D.nbs F0 = E
 refine okE.loop (fun m t g => ∃ j F w', FX O ro w' g f s F /\ FI D s F (B + j) /\ Ch O (Kc [1] 3) w0 h0 w' g /\ ro <= O.next g /\ t 0 = .pointer (some ⟨f, 0, none⟩) /\ t 12 = .int .i64 (j : Nat) /\ j + m = D.nbs + 1 /\ 0 < m /\ itE (bdB s) j (m - 1) F = E) ?_ (D.nbs + 1) _ _ ⟨0, F0, w, x, fi, cc, lo, t0, t2, by omega, by omega, hE⟩
 intro m t g hI
 obtain ⟨j, F, w', x', fi', c', lo', t0, t2, hj, hm, hfin⟩ := hI
 obtain ⟨k0, k1, k2, k3, k4, k5, k6, k17, k18, k19, k20, hro⟩ := x'.cells
 rw [fi'.hd] at k0 k1 k2 k3 k4 k5 k6
 by_cases hlt : j < D.nbs
 . obtain ⟨m', rfl⟩ : ∃ m', m = m' + 2 := ⟨m - 2, by omega⟩
   simp only [Nat.add_one_sub_one, itE] at hfin
   have hlt' : (j : Int) < D.nbs := by omega
   by_cases he : F.R.e = 0
   . have he' : ((F.R.e : Int) == 0) = true := by simp; omega
     rw [if_pos he] at hfin
     obtain ⟨q, hq⟩ : ∃ q, q = j + 1 := ⟨_, rfl⟩
     have hw : IntKind.i64.wrap ((j : Int) + 1) = (q : Int) := by rw [wrap_id (by omega) (by omega)]; omega
     have fi2 : FI D s (bdB s j F) (B + q) := by rw [hq]; exact bdB_fi fi'
     rw [<- hq] at hfin
     obtain ⟨w2, h2, hc2, x2, c2, lo2⟩ := lw_x C L x' lo' hs fi'.pos (by rw [fi'.hd]; omega)
     obtain ⟨b, w3, h3, hbe, e3, z3, c3, lo3, hrob⟩ := loc2 L w2 h2 lo2 (.int .i64 (lwS F.hd.m s F.R).1.l) (.int .i64 F.R.pos) (102, 0)
     have x3 := x2.ch L (c3 fun _ => False) (by simp)
     have hl3 : cellsA O h3 b 0 2 = some [.int .i64 (lwS F.hd.m s F.R).1.l, .int .i64 F.R.pos] := z3.all
     obtain ⟨v0, v1, v2, v3, v4, v5, v6, y3⟩ := x3
     obtain ⟨v', h4, w4, e4, ⟨f1, f2, f3⟩, g1, g2, _, y4, c4, lo4⟩ := y3.app3 L lo3 ⟨(lwS F.hd.m s F.R).1.l, F.R.pos⟩ (by have := fi'.l3; simp only; omega)
     obtain ⟨h5, hc5, x5, c5⟩ := sign_x C L ⟨_, _, _, _, _, _, _, y4⟩ hs 10
     have hc5' : c 105 [.pointer (some ⟨f, 0, none⟩), .int .i64 10] (O.put h4 f 13 v') = some (.tuple #[], h5) := hc5
     simp only [Us.cells] at e4
     refine okE.flat (fun _ => rfl) ?_
     simp [W56_3, R56_38, R56_40, R56_41, R56_42, R56_39, t0, t2, k6, hlt, hlt', k17, he', hc2, <- hbe, e3, hrob, hl3, g1, List.zipIdx, List.range_succ, e4, f1, f2, f3, g2, hro, putsA, hc5', hw]
     exact ⟨m' + 1, by omega, q, bdB s j F, w4, x5, fi2, (((c'.trans (Kc.mono c2 (by decide) (by omega))).trans (c3 _)).trans (Kc.mono c4 (by decide) (by omega))).trans (chR c5 3), Nat.le_trans lo4 c5.nx, rfl, by omega, by omega, hfin⟩
   . have he' : ((F.R.e : Int) == 0) = false := by simp; omega
     rw [if_neg he] at hfin
     subst hfin
     refine okE.flat (fun _ => rfl) ?_
     simp [W56_3, R56_38, t0, t2, k6, hlt, hlt', k17, he']
     exact ⟨w', x', fi'.mono (by omega), c', lo'⟩
 . have hm1 : m = 1 := by omega
   subst hm1
   have hfin2 : F = E := hfin
   subst hfin2
   have hlt' : ¬ (j : Int) < D.nbs := by omega
   refine okE.flat (fun _ => rfl) ?_
   simp [W56_3, R56_38, t0, t2, k6, hlt, hlt']
   exact ⟨w', x', fi'.mono (by omega), c', lo'⟩
end
end Go.Proofs.YtlakdngplpabdaaGreatDoor
