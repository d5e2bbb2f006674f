/- Own work. -/
import Derived.Test.YtlakdngplpabdaaGreatDoorC11
namespace Go.Proofs.YtlakdngplpabdaaGreatDoor
open Go.Vm Go.Proofs
set_option linter.unusedSimpArgs false
set_option linter.unusedVariables false
set_option maxHeartbeats 1000000
attribute [local simp] cSeq cReg reg to mv too onlyIf onlyIfo aMove aNil aFld aLd aInt aPick aLenStr aIdxStr aConv aUn unA ev upd_get isB envOf intA cIf cRet cSkip okc_some resE resLE rvE isTup aSt putsA Value.cells isFlat aBuild Instr.fill aCall cExit cBlk outOf ptr undef aNew aBox aIdxArr
section
variable {H : Type} {O : HI H} {ro : Nat} {c : CallT H}
structure HD where
 bin : Bool
 top : Nat
 nin : Nat
 nla : Nat
 nou : Nat
 nan : Nat
 nbs : Nat
 oth : Nat
def HD.val (d : HD) : Value := .agg #[.bool d.bin, .int .i64 d.top, .int .i64 d.nin, .int .i64 d.nla, .int .i64 d.nou, .int .i64 d.nan, .int .i64 d.nbs, .int .i64 d.oth]
structure HB (O : HI H) (h : H) (b : Nat) (d : HD) : Prop where
 c0 : O.cell h b 0 = some (.bool d.bin)
 c1 : O.cell h b 1 = some (.int .i64 d.top)
 c2 : O.cell h b 2 = some (.int .i64 d.nin)
 c3 : O.cell h b 3 = some (.int .i64 d.nla)
 c4 : O.cell h b 4 = some (.int .i64 d.nou)
 c5 : O.cell h b 5 = some (.int .i64 d.nan)
 c6 : O.cell h b 6 = some (.int .i64 d.nbs)
 c7 : O.cell h b 7 = some (.int .i64 d.oth)
theorem HB.lt (L : O.Law) {h : H} {b : Nat} {d : HD} (x : HB O h b d) : b < O.next h := L.alive_lt _ _ (L.cell_alive _ _ _ _ x.c0)
theorem HB.fr (L : O.Law) {S : List Nat} {h h' : H} {b : Nat} {d : HD} (x : HB O h b d) (f : Fr O S h h') (hb : b ∉ S) : HB O h' b d := by
 have := (f.2 b (x.lt L) hb).1
 exact ⟨by rw [this]; exact x.c0, by rw [this]; exact x.c1, by rw [this]; exact x.c2, by rw [this]; exact x.c3, by rw [this]; exact x.c4, by rw [this]; exact x.c5, by rw [this]; exact x.c6, by rw [this]; exact x.c7⟩
theorem HB.box (L : O.Law) (h : H) (d : HD) : HB O (O.new h d.val.cells.toList) (O.next h) d := by
 constructor <;> rw [L.cell_new, if_pos rfl] <;> rfl
def jd1 (d : HD) (R : RS) : RS := if 80 < d.top \/ 4 < d.nin \/ 6 < d.nla \/ 4 < d.nou \/ 60 < d.nan then fl R 3 0 else R
def jd2 (d : HD) (R : RS) : RS := if d.top < d.nin + d.nla + d.nan \/ (d.bin = true /\ d.nin + d.nla + d.nan ≠ d.top) then fl R 4 0 else R
def jd3 (d : HD) (R : RS) : RS := if d.oth ≠ 0 then fl R 5 0 else R
def jd4 (d : HD) (R : RS) : RS := if 1 < d.nbs \/ (d.nbs = 0 /\ d.nou ≠ 1) then fl R 6 0 else R
def jdS (d : HD) (R : RS) : RS := jd4 d (jd3 d (jd2 d (jd1 d R)))
structure HD.Ok (D : HD) : Prop where
 ok1 : D.top < 10000
 ok2 : D.nin < 10000
 ok3 : D.nla < 10000
 ok4 : D.nou < 10000
 ok5 : D.nan < 10000
 ok6 : D.nbs < 10000
 ok7 : D.oth < 30000
theorem judge1 (C : Lim Tryz.prog O ro okS c) (L : O.Law) {h : H} {r b : Nat} {s : ByteArray} {R : RS} {D : HD} (d : Rd O h r s R) (x : HB O h b D) (hr : ro <= r) (hne : b ≠ r) {t : Env} (t1 : t 1 = ptr r) (t2 : t 2 = ptr b) :
 okE c (cSeq (cReg (R46_1 O Tryz.prog ro)) (cIf (.tmp 27) (cReg (R46_2 O Tryz.prog ro)) cSkip)) (t, h) (fun e t' h' => e = .normal /\ t' 1 = ptr r /\ t' 2 = ptr b /\ Rd O h' r s (jd1 D R) /\ HB O h' b D /\ Fr O [r] h h') := by
 unfold ptr at t1 t2
 obtain ⟨x0, x1, x2, x3, x4, x5, x6, x7⟩ := id x
 by_cases hbad : 80 < D.top \/ 4 < D.nin \/ 6 < D.nla \/ 4 < D.nou \/ 60 < D.nan
 . obtain ⟨h2, hc2, d2, f2⟩ := fail_sp C L d hr 3 0
   have hc2' : c 90 [Value.pointer (some ⟨r, 0, none⟩), .int .i64 3, .int .i64 0] h = some (.tuple #[], h2) := hc2
   have x2' := x.fr L f2 (by simpa using hne)
   have fin : Rd O h2 r s (jd1 D R) := by unfold jd1; rw [if_pos hbad]; exact d2
   refine okE.flat (fun _ => rfl) ?_
   by_cases k1 : 80 < D.top
   . have k1' : (80 : Int) < D.top := by omega
     simp [R46_1, R46_2, t1, t2, x1, x2, x3, x4, x5, k1, k1', hc2', fin, x2', f2]
   . have k1' : ¬ (80 : Int) < D.top := by omega
     by_cases k2 : 4 < D.nin
     . have k2' : (4 : Int) < D.nin := by omega
       simp [R46_1, R46_2, t1, t2, x1, x2, x3, x4, x5, k1, k1', k2, k2', hc2', fin, x2', f2]
     . have k2' : ¬ (4 : Int) < D.nin := by omega
       by_cases k3 : 6 < D.nla
       . have k3' : (6 : Int) < D.nla := by omega
         simp [R46_1, R46_2, t1, t2, x1, x2, x3, x4, x5, k1, k1', k2, k2', k3, k3', hc2', fin, x2', f2]
       . have k3' : ¬ (6 : Int) < D.nla := by omega
         by_cases k4 : 4 < D.nou
         . have k4' : (4 : Int) < D.nou := by omega
           simp [R46_1, R46_2, t1, t2, x1, x2, x3, x4, x5, k1, k1', k2, k2', k3, k3', k4, k4', hc2', fin, x2', f2]
         . have k4' : ¬ (4 : Int) < D.nou := by omega
           have k5 : 60 < D.nan := by omega
           have k5' : (60 : Int) < D.nan := by omega
           simp [R46_1, R46_2, t1, t2, x1, x2, x3, x4, x5, k1, k1', k2, k2', k3, k3', k4, k4', k5, k5', hc2', fin, x2', f2]
 . have fin : Rd O h r s (jd1 D R) := by unfold jd1; rw [if_neg hbad]; exact d
   have k1 : ¬ 80 < D.top := by omega
   have k2 : ¬ 4 < D.nin := by omega
   have k3 : ¬ 6 < D.nla := by omega
   have k4 : ¬ 4 < D.nou := by omega
   have k5 : ¬ 60 < D.nan := by omega
   have k1' : ¬ (80 : Int) < D.top := by omega
   have k2' : ¬ (4 : Int) < D.nin := by omega
   have k3' : ¬ (6 : Int) < D.nla := by omega
   have k4' : ¬ (4 : Int) < D.nou := by omega
   have k5' : ¬ (60 : Int) < D.nan := by omega
   refine okE.flat (fun _ => rfl) ?_
   simp [R46_1, R46_2, t1, t2, x1, x2, x3, x4, x5, k1, k1', k2, k2', k3, k3', k4, k4', k5, k5', fin, x, Fr.refl]
theorem judge2 (C : Lim Tryz.prog O ro okS c) (L : O.Law) {h : H} {r b : Nat} {s : ByteArray} {R : RS} {D : HD} (ok : D.Ok) (d : Rd O h r s R) (x : HB O h b D) (hr : ro <= r) (hne : b ≠ r) {t : Env} (t1 : t 1 = ptr r) (t2 : t 2 = ptr b) :
 okE c (cSeq (cReg (R46_3 O Tryz.prog ro)) (cSeq (cReg (R46_4 O Tryz.prog ro)) (cIf (.tmp 51) (cReg (R46_5 O Tryz.prog ro)) cSkip))) (t, h) (fun e t' h' => e = .normal /\ t' 1 = ptr r /\ t' 2 = ptr b /\ Rd O h' r s (jd2 D R) /\ HB O h' b D /\ Fr O [r] h h') := by
 unfold ptr at t1 t2
 obtain ⟨x0, x1, x2, x3, x4, x5, x6, x7⟩ := id x
 obtain ⟨o1, o2, o3, o4, o5, o6, o7⟩ := ok
 obtain ⟨nm, hnm⟩ : ∃ nm, nm = D.nin + D.nla + D.nan := ⟨_, rfl⟩
 have w1 : IntKind.i64.wrap ((D.nin : Int) + D.nla) = (D.nin : Int) + D.nla := wrap_id (by omega) (by omega)
 have w2 : IntKind.i64.wrap ((D.nin : Int) + D.nla + D.nan) = (nm : Int) := by rw [wrap_id (by omega) (by omega)]; omega
 by_cases hbad : D.top < nm \/ (D.bin = true /\ nm ≠ D.top)
 . obtain ⟨h2, hc2, d2, f2⟩ := fail_sp C L d hr 4 0
   have hc2' : c 90 [Value.pointer (some ⟨r, 0, none⟩), .int .i64 4, .int .i64 0] h = some (.tuple #[], h2) := hc2
   have x2' := x.fr L f2 (by simpa using hne)
   have fin : Rd O h2 r s (jd2 D R) := by unfold jd2; rw [<- hnm, if_pos hbad]; exact d2
   refine okE.flat (fun _ => rfl) ?_
   by_cases k1 : D.top < nm
   . have k1' : (D.top : Int) < nm := by omega
     simp [R46_3, R46_4, R46_5, t1, t2, x0, x1, x2, x3, x5, w1, w2, k1, k1', hc2', fin, x2', f2]
   . have k1' : ¬ (D.top : Int) < nm := by omega
     have kb : D.bin = true := (hbad.resolve_left k1).1
     have kn : ((nm : Int) != (D.top : Int)) = true := by have := (hbad.resolve_left k1).2; simp; omega
     simp [R46_3, R46_4, R46_5, t1, t2, x0, x1, x2, x3, x5, w1, w2, k1, k1', kb, kn, hc2', fin, x2', f2]
 . have fin : Rd O h r s (jd2 D R) := by unfold jd2; rw [<- hnm, if_neg hbad]; exact d
   have k1 : ¬ D.top < nm := by omega
   have k1' : ¬ (D.top : Int) < nm := by omega
   refine okE.flat (fun _ => rfl) ?_
   by_cases kb : D.bin = true
   . have kn : ((nm : Int) != (D.top : Int)) = false := by
      have : nm = D.top := Classical.byContradiction fun e => hbad (.inr ⟨kb, e⟩)
      simp; omega
     simp [R46_3, R46_4, R46_5, t1, t2, x0, x1, x2, x3, x5, w1, w2, k1, k1', kb, kn, fin, x, Fr.refl]
   . simp [R46_3, R46_4, R46_5, t1, t2, x0, x1, x2, x3, x5, w1, w2, k1, k1', kb, fin, x, Fr.refl]
theorem judge3 (C : Lim Tryz.prog O ro okS c) (L : O.Law) {h : H} {r b : Nat} {s : ByteArray} {R : RS} {D : HD} (d : Rd O h r s R) (x : HB O h b D) (hr : ro <= r) (hne : b ≠ r) {t : Env} (t1 : t 1 = ptr r) (t2 : t 2 = ptr b) :
 okE c (cSeq (cReg (R46_6 O Tryz.prog ro)) (cIf (.tmp 56) (cReg (R46_7 O Tryz.prog ro)) cSkip)) (t, h) (fun e t' h' => e = .normal /\ t' 1 = ptr r /\ t' 2 = ptr b /\ Rd O h' r s (jd3 D R) /\ HB O h' b D /\ Fr O [r] h h') := by
 unfold ptr at t1 t2
 obtain ⟨x0, x1, x2, x3, x4, x5, x6, x7⟩ := id x
 by_cases hbad : D.oth ≠ 0
 . obtain ⟨h2, hc2, d2, f2⟩ := fail_sp C L d hr 5 0
   have hc2' : c 90 [Value.pointer (some ⟨r, 0, none⟩), .int .i64 5, .int .i64 0] h = some (.tuple #[], h2) := hc2
   have x2' := x.fr L f2 (by simpa using hne)
   have fin : Rd O h2 r s (jd3 D R) := by unfold jd3; rw [if_pos hbad]; exact d2
   have k1 : ((D.oth : Int) != 0) = true := by simp; omega
   refine okE.flat (fun _ => rfl) ?_
   simp [R46_6, R46_7, t1, t2, x7, k1, hc2', fin, x2', f2]
 . have fin : Rd O h r s (jd3 D R) := by unfold jd3; rw [if_neg hbad]; exact d
   have k1 : ((D.oth : Int) != 0) = false := by simp; omega
   refine okE.flat (fun _ => rfl) ?_
   simp [R46_6, R46_7, t1, t2, x7, k1, fin, x, Fr.refl]
theorem judge4 (C : Lim Tryz.prog O ro okS c) (L : O.Law) {h : H} {r b : Nat} {s : ByteArray} {R : RS} {D : HD} (d : Rd O h r s R) (x : HB O h b D) (hr : ro <= r) (hne : b ≠ r) {t : Env} (t1 : t 1 = ptr r) (t2 : t 2 = ptr b) :
 okE c (cSeq (cReg (R46_8 O Tryz.prog ro)) (cIf (.tmp 71) (cReg (R46_9 O Tryz.prog ro)) cSkip)) (t, h) (fun e t' h' => e = .normal /\ t' 1 = ptr r /\ t' 2 = ptr b /\ Rd O h' r s (jd4 D R) /\ HB O h' b D /\ Fr O [r] h h') := by
 unfold ptr at t1 t2
 obtain ⟨x0, x1, x2, x3, x4, x5, x6, x7⟩ := id x
 by_cases hbad : 1 < D.nbs \/ (D.nbs = 0 /\ D.nou ≠ 1)
 . obtain ⟨h2, hc2, d2, f2⟩ := fail_sp C L d hr 6 0
   have hc2' : c 90 [Value.pointer (some ⟨r, 0, none⟩), .int .i64 6, .int .i64 0] h = some (.tuple #[], h2) := hc2
   have x2' := x.fr L f2 (by simpa using hne)
   have fin : Rd O h2 r s (jd4 D R) := by unfold jd4; rw [if_pos hbad]; exact d2
   refine okE.flat (fun _ => rfl) ?_
   by_cases k1 : 1 < D.nbs
   . have k1' : (1 : Int) < D.nbs := by omega
     simp [R46_8, R46_9, t1, t2, x6, x4, k1, k1', hc2', fin, x2', f2]
   . have k1' : ¬ (1 : Int) < D.nbs := by omega
     have k2 : ((D.nbs : Int) == 0) = true := by simp; omega
     have k3 : ((D.nou : Int) != 1) = true := by simp; omega
     simp [R46_8, R46_9, t1, t2, x6, x4, k1, k1', k2, k3, hc2', fin, x2', f2]
 . have fin : Rd O h r s (jd4 D R) := by unfold jd4; rw [if_neg hbad]; exact d
   have k1 : ¬ 1 < D.nbs := by omega
   have k1' : ¬ (1 : Int) < D.nbs := by omega
   refine okE.flat (fun _ => rfl) ?_
   by_cases k0 : D.nbs = 0
   . have k2 : ((D.nbs : Int) == 0) = true := by simp; omega
     have k3 : ((D.nou : Int) != 1) = false := by simp; omega
     simp [R46_8, R46_9, t1, t2, x6, x4, k1, k1', k2, k3, fin, x, Fr.refl]
   . have k2 : ((D.nbs : Int) == 0) = false := by simp; omega
     simp [R46_8, R46_9, t1, t2, x6, x4, k1, k1', k2, fin, x, Fr.refl]
theorem judge_sp (C : Lim Tryz.prog O ro okS c) (L : O.Law) {h : H} {r : Nat} {s : ByteArray} {R : RS} {D : HD} (ok : D.Ok) (d : Rd O h r s R) (hr : ro <= r) :
 ∃ h', c 46 [D.val, ptr r] h = some (.tuple #[], h') /\ Rd O h' r s (jdS D R) /\ Fr O [r] h h' := by
 have hlt := d.lt L
 obtain ⟨b, hb⟩ : ∃ b, b = O.next h := ⟨_, rfl⟩
 obtain ⟨h1, hh1⟩ : ∃ h1, h1 = O.new h D.val.cells.toList := ⟨_, rfl⟩
 have d1 : Rd O h1 r s R := by rw [hh1]; exact d.new L _
 have f1 : Fr O [r] h h1 := by rw [hh1]; exact Fr.new L _
 have x1 : HB O h1 b D := by rw [hh1, hb]; exact HB.box L h D
 have hne : b ≠ r := by omega
 have key : ∃ v h', c 46 [D.val, ptr r] h = some (v, h') /\ (v = .tuple #[] /\ Rd O h' r s (jdS D R) /\ Fr O [r] h h') := by
  refine C.fn (F46_fn O ro) rfl rfl ?_
  unfold F46
  refine okE.seq (okE.flat (fun _ => rfl) ?_)
  have hbox : okc (cReg (R46_0 O Tryz.prog ro) c 0 (envOf [D.val, ptr r], h)) (fun e t g => e = .normal /\ g = h1 /\ t 1 = ptr r /\ t 2 = ptr b) := by
   have : isTup D.val = false := rfl
   simp [R46_0, this, <- hb, <- hh1, -isTup, -Value.cells]
  revert hbox
  generalize cReg (R46_0 O Tryz.prog ro) c 0 (envOf [D.val, ptr r], h) = q
  intro hbox
  cases q with
  | none => exact hbox.elim
  | some q =>
   obtain ⟨e, t, g⟩ := q
   obtain ⟨rfl, rfl, t1, t2⟩ := hbox
   refine okE.seq ((judge1 C L d1 x1 hr hne t1 t2).mono fun e t g hq => ?_)
   obtain ⟨rfl, t1, t2, d2, x2, f2⟩ := hq
   have j2 := judge2 C L ok d2 x2 hr hne t1 t2
   obtain ⟨k0, e, t', g', hk, rfl, t1', t2', d3, x3, f3⟩ := j2
   have rest : okE c (cSeq (cSeq (cReg (R46_6 O Tryz.prog ro)) (cIf (.tmp 56) (cReg (R46_7 O Tryz.prog ro)) cSkip)) (cSeq (cReg (R46_8 O Tryz.prog ro)) (cIf (.tmp 71) (cReg (R46_9 O Tryz.prog ro)) cSkip))) (t', g')
    (fun e t h' => (e = .ret \/ e = .normal) /\ ∃ v, resE O Tryz.prog [] t h' = some v /\ (v = .tuple #[] /\ Rd O h' r s (jdS D R) /\ Fr O [r] h h')) := by
    refine okE.seq ((judge3 C L d3 x3 hr hne t1' t2').mono fun e t4 g4 hq => ?_)
    obtain ⟨rfl, t1'', t2'', d4, x4, f4⟩ := hq
    refine (judge4 C L d4 x4 hr hne t1'' t2'').mono fun e t5 g5 hq => ?_
    obtain ⟨rfl, _, _, d5, x5, f5⟩ := hq
    exact ⟨.inr rfl, .tuple #[], rfl, rfl, d5, (((f1.trans f2).trans f3).trans f4).trans f5⟩
   obtain ⟨k1, e1, t6, g6, hk1, hq1⟩ := rest
   refine ⟨max k0 k1, e1, t6, g6, fun k hkk => ?_, hq1⟩
   have a := hk k (by omega)
   have b' := hk1 k (by omega)
   simp only [cSeq] at a b' ⊢
   revert a
   cases hA : cReg (R46_3 O Tryz.prog ro) c k (t, g) with
   | none => intro a; simp at a
   | some qa =>
    obtain ⟨ea, sa⟩ := qa
    cases ea with
    | normal =>
     simp only
     intro a
     rw [a]
     exact b'
    | _ => intro a; simp at a
 obtain ⟨v, h', e1, rfl, e2⟩ := key
 exact ⟨h', e1, e2⟩
end
section
variable {H : Type} {O : HI H} {ro : Nat} {c : CallT H}
def nmL : Nat -> ByteArray -> RS -> RS
 | 0, _, R => R
 | n + 1, s, R => if pk s R = -1 \/ pk s R = 10 then R else nmL n s ⟨R.pos + 1, R.e, R.ep⟩
def nmS (s : ByteArray) (R : RS) : RS :=
 let R1 := nmL (s.size + 1 - R.pos) s R
 exS s (if R1.pos = R.pos then fl R1 2 R1.pos else R1) 10
theorem nmL_pos {s : ByteArray} : ∀ (n : Nat) (R : RS), R.pos <= s.size -> R.pos <= (nmL n s R).pos /\ (nmL n s R).pos <= s.size := by
 intro n
 induction n with
 | zero => intro R h; exact ⟨Nat.le_refl _, h⟩
 | succ n ih =>
  intro R h
  simp only [nmL]
  split
  . exact ⟨Nat.le_refl _, h⟩
  . rename_i hk
    have := pk_le s R
    have := pk_lt (s := s) (R := R) (by omega)
    have := ih ⟨R.pos + 1, R.e, R.ep⟩ (by simp only; omega)
    simp only at this
    omega
theorem name_sp (C : Lim Tryz.prog O ro okS c) (L : O.Law) {h : H} {r : Nat} {s : ByteArray} {R : RS} (d : Rd O h r s R) (hr : ro <= r) (hs : s.size <= 1000) (hp : R.pos <= s.size) :
 ∃ h', c 132 [ptr r] h = some (.tuple #[], h') /\ Rd O h' r s (nmS s R) /\ Fr O [r] h h' := by
 have hro : ¬ r < ro := by omega
 have hpk := peek_sp C d hs
 have c1 := d.c1
 have key : ∃ v h', c 132 [ptr r] h = some (v, h') /\ (v = .tuple #[] /\ Rd O h' r s (nmS s R) /\ Fr O [r] h h') := by
  refine C.fn (F132_fn O ro) rfl rfl ?_
  unfold F132
  refine okE.seq (okE.flat (fun _ => rfl) ?_)
  simp [R132_0, c1, thenE]
  refine okE.seq (okE.seq (okE.flat (fun _ => rfl) ?_))
  unfold ptr at hpk
  simp [R132_1, hpk, thenE]
  refine okE.blk ?_
  refine okE.loop (fun n t g => ∃ R', Rd O g r s R' /\ Fr O [r] h g /\ t 0 = ptr r /\ t 2 = .int .i64 R.pos /\ t 3 = .int .i64 (pk s R') /\ R'.pos <= s.size /\ s.size + 1 <= n + R'.pos /\ nmL n s R' = nmL (s.size + 1 - R.pos) s R) ?_ (s.size + 1 - R.pos) _ _ ⟨R, d, Fr.refl _ _, by simp, by simp, by simp, hp, by omega, rfl⟩
  intro n t g hI
  obtain ⟨R', d', f', t0, t2, t3, hp', hn, hfin⟩ := hI
  have c1' := d'.c1
  have hple := pk_le s R'
  unfold ptr at t0
  obtain ⟨m, rfl⟩ : ∃ m, n = m + 1 := ⟨n - 1, by omega⟩
  simp only [nmL] at hfin
  by_cases hst : pk s R' = -1 \/ pk s R' = 10
  . rw [if_pos hst] at hfin
    have after : ∀ t' : Env, t' 0 = .pointer (some ⟨r, 0, none⟩) -> t' 2 = .int .i64 R.pos -> okE c (cSeq (cSeq (cReg (R132_5 O Tryz.prog ro)) (cIf (.tmp 30) (cReg (R132_6 O Tryz.prog ro)) cSkip)) (cReg (R132_7 O Tryz.prog ro))) (t', g)
     (fun e t h' => (e = .ret \/ e = .normal) /\ Rd O h' r s (nmS s R) /\ Fr O [r] h h') := by
     intro t' q0 q2
     by_cases hz : R'.pos = R.pos
     . obtain ⟨g2, hc2, d2, f2⟩ := fail_sp C L d' hr 2 R'.pos
       obtain ⟨g3, hc3, d3, f3⟩ := expect_sp C L d2 hr hs 10
       have hc2' : c 90 [Value.pointer (some ⟨r, 0, none⟩), .int .i64 2, .int .i64 R'.pos] g = some (.tuple #[], g2) := hc2
       have hc3' : c 86 [Value.pointer (some ⟨r, 0, none⟩), .int .i64 10] g2 = some (.tuple #[], g3) := hc3
       have kz : ((R'.pos : Int) == (R.pos : Int)) = true := by simp; omega
       have fin : Rd O g3 r s (nmS s R) := by unfold nmS; simp only; rw [<- hfin, if_pos hz]; exact d3
       refine okE.flat (fun _ => rfl) ?_
       simp [R132_5, R132_6, R132_7, q0, q2, c1', kz, hc2', hc3', fin, (f'.trans f2).trans f3]
     . obtain ⟨g3, hc3, d3, f3⟩ := expect_sp C L d' hr hs 10
       have hc3' : c 86 [Value.pointer (some ⟨r, 0, none⟩), .int .i64 10] g = some (.tuple #[], g3) := hc3
       have kz : ((R'.pos : Int) == (R.pos : Int)) = false := by simp; omega
       have fin : Rd O g3 r s (nmS s R) := by unfold nmS; simp only; rw [<- hfin, if_neg hz]; exact d3
       refine okE.flat (fun _ => rfl) ?_
       simp [R132_5, R132_6, R132_7, q0, q2, c1', kz, hc3', fin, f'.trans f3]
    refine okE.flat (fun _ => rfl) ?_
    by_cases h1 : pk s R' = -1
    . simp [W132_0, R132_2, t3, h1, thenE, -resE, -resLE, -rvE]
      refine after _ ?_ ?_ <;> simp [t0, t2]
    . have h1' : (pk s R' != -1) = true := by simpa using h1
      have h2 : pk s R' = 10 := hst.resolve_left h1
      simp [W132_0, R132_2, t3, h1', h2, thenE, -resE, -resLE, -rvE]
      refine after _ ?_ ?_ <;> simp [t0, t2]
  . rw [if_neg hst] at hfin
    have hpos := pk_lt (s := s) (R := R') (by omega)
    have h1' : (pk s R' != -1) = true := by simp; omega
    have h2' : (pk s R' != 10) = true := by simp; omega
    obtain ⟨q, hq⟩ : ∃ q, q = R'.pos + 1 := ⟨_, rfl⟩
    rw [<- hq] at hfin
    obtain ⟨d2, f2⟩ := d'.setPos L q
    have hpk2 := peek_sp C d2 hs
    unfold ptr at hpk2
    have hw1 : IntKind.i64.wrap ((R'.pos : Int) + 1) = (q : Int) := by rw [wrap_id (by omega) (by omega)]; omega
    refine okE.flat (fun _ => rfl) ?_
    simp [W132_0, R132_2, R132_4, R132_3, t0, t2, t3, h1', h2', c1', hro, hw1, hpk2]
    exact ⟨m, by omega, _, d2, f'.trans f2, rfl, by simp only; omega, by simp only; omega, hfin⟩
 obtain ⟨v, h', h1, rfl, h2, h3⟩ := key
 exact ⟨h', h1, h2, h3⟩
def symS (D : HD) (s : ByteArray) (R : RS) : RS :=
 if pk s R = 105 \/ pk s R = 108 \/ pk s R = 111 \/ pk s R = 98 then
  let n := if pk s R = 105 then D.nin else if pk s R = 108 then D.nla else if pk s R = 111 then D.nou else D.nbs
  let q := numS s ⟨R.pos + 1, R.e, R.ep⟩
  nmS s (exS s (if n <= q.1 then fl q.2 2 (R.pos + 1) else q.2) 32)
 else fl R 2 R.pos
theorem sym_sp (C : Lim Tryz.prog O ro okS c) (L : O.Law) {h : H} {r : Nat} {s : ByteArray} {R : RS} {D : HD} (d : Rd O h r s R) (hr : ro <= r) (hs : s.size <= 1000) (hp : R.pos <= s.size) :
 ∃ h', c 97 [ptr r, D.val] h = some (.tuple #[], h') /\ Rd O h' r s (symS D s R) /\ Fr O [r] h h' := by
 have hro : ¬ r < ro := by omega
 have hlt := d.lt L
 obtain ⟨b, hb⟩ : ∃ b, b = O.next h := ⟨_, rfl⟩
 obtain ⟨h1, hh1⟩ : ∃ h1, h1 = O.new h D.val.cells.toList := ⟨_, rfl⟩
 have d1 : Rd O h1 r s R := by rw [hh1]; exact d.new L _
 have f1 : Fr O [r] h h1 := by rw [hh1]; exact Fr.new L _
 have x1 : HB O h1 b D := by rw [hh1, hb]; exact HB.box L h D
 have hne : b ≠ r := by omega
 have hpk := peek_sp C d1 hs
 have c1 := d1.c1
 unfold ptr at hpk
 have htv : isTup D.val = false := rfl
 have hev : ∀ e0 : Env, e0 = envOf [ptr r, D.val] -> e0 0 = .pointer (some ⟨r, 0, none⟩) /\ e0 1 = D.val := by intro e0 he; subst he; exact ⟨rfl, rfl⟩
 have key : ∃ v h', c 97 [ptr r, D.val] h = some (v, h') /\ (v = .tuple #[] /\ Rd O h' r s (symS D s R) /\ Fr O [r] h h') := by
  refine C.fn (F97_fn O ro) rfl rfl ?_
  obtain ⟨e0, he0⟩ : ∃ e0, e0 = envOf [ptr r, D.val] := ⟨_, rfl⟩
  obtain ⟨a0, a1⟩ := hev e0 he0
  rw [<- he0]
  by_cases hk : pk s R = 105 \/ pk s R = 108 \/ pk s R = 111 \/ pk s R = 98
  . have hpos := pk_lt (s := s) (R := R) (by omega)
    obtain ⟨q, hq⟩ : ∃ q, q = R.pos + 1 := ⟨_, rfl⟩
    obtain ⟨d2, f2⟩ := d1.setPos L q
    have hw1 : IntKind.i64.wrap ((R.pos : Int) + 1) = (q : Int) := by rw [wrap_id (by omega) (by omega)]; omega
    have c1q := d2.c1
    have x2 := x1.fr L f2 (by simpa using hne)
    obtain ⟨h3, hc3, d3, f3⟩ := num_sp C L d2 hr hs (by simp only; omega)
    have p3 := numS_pos (s := s) (R := ⟨q, R.e, R.ep⟩) (by simp only; omega)
    have hle := numS_le s ⟨q, R.e, R.ep⟩
    obtain ⟨n, hn⟩ : ∃ n, n = if pk s R = 105 then D.nin else if pk s R = 108 then D.nla else if pk s R = 111 then D.nou else D.nbs := ⟨_, rfl⟩
    have hfin : symS D s R = nmS s (exS s (if n <= (numS s ⟨q, R.e, R.ep⟩).1 then fl (numS s ⟨q, R.e, R.ep⟩).2 2 q else (numS s ⟨q, R.e, R.ep⟩).2) 32) := by
     unfold symS; rw [if_pos hk, hq, hn]
    generalize numS s ⟨q, R.e, R.ep⟩ = u at hc3 d3 p3 hle hfin
    have last : ∃ h6, (∃ h4, (if n <= u.1 then c 90 [Value.pointer (some ⟨r, 0, none⟩), .int .i64 2, .int .i64 q] h3 = some (.tuple #[], h4) else h4 = h3) /\ ∃ h5, c 86 [Value.pointer (some ⟨r, 0, none⟩), .int .i64 32] h4 = some (.tuple #[], h5) /\ c 132 [Value.pointer (some ⟨r, 0, none⟩)] h5 = some (.tuple #[], h6)) /\ Rd O h6 r s (symS D s R) /\ Fr O [r] h3 h6 := by
     by_cases hge : n <= u.1
     . obtain ⟨h4, hc4, d4, f4⟩ := fail_sp C L d3 hr 2 q
       obtain ⟨h5, hc5, d5, f5⟩ := expect_sp C L d4 hr hs 32
       have p5 := exS_pos (s := s) (R := fl u.2 2 q) 32 (by rw [fl_pos]; exact p3)
       obtain ⟨h6, hc6, d6, f6⟩ := name_sp C L d5 hr hs p5
       exact ⟨h6, ⟨h4, by rw [if_pos hge]; exact hc4, h5, hc5, hc6⟩, by rw [hfin, if_pos hge]; exact d6, (f4.trans f5).trans f6⟩
     . obtain ⟨h5, hc5, d5, f5⟩ := expect_sp C L d3 hr hs 32
       have p5 := exS_pos (s := s) (R := u.2) 32 p3
       obtain ⟨h6, hc6, d6, f6⟩ := name_sp C L d5 hr hs p5
       exact ⟨h6, ⟨h3, by rw [if_neg hge], h5, hc5, hc6⟩, by rw [hfin, if_neg hge]; exact d6, f5.trans f6⟩
    obtain ⟨h6, ⟨h4, e4, h5, e5, e6⟩, d6, f6⟩ := last
    have ff := ((f1.trans f2).trans f3).trans f6
    unfold ptr at hc3
    have rest : ∀ t' : Env, t' 0 = .pointer (some ⟨r, 0, none⟩) -> t' 4 = .int .i64 n -> okE c (cSeq (cReg (R97_12 O Tryz.prog ro)) (cSeq (cReg (R97_13 O Tryz.prog ro)) (cSeq (cReg (R97_14 O Tryz.prog ro)) (cSeq (cSeq (cReg (R97_15 O Tryz.prog ro)) (cIf (.tmp 46) (cReg (R97_16 O Tryz.prog ro)) cSkip)) (cSeq (cReg (R97_17 O Tryz.prog ro)) (cReg (R97_18 O Tryz.prog ro))))))) (t', h1)
     (fun e t h' => (e = .ret \/ e = .normal) /\ ∃ v, resE O Tryz.prog [] t h' = some v /\ (v = .tuple #[] /\ Rd O h' r s (symS D s R) /\ Fr O [r] h h')) := by
     intro t' q0 q4
     refine okE.flat (fun _ => rfl) ?_
     by_cases hge : n <= u.1
     . rw [if_pos hge] at e4
       have hge' : (n : Int) <= u.1 := by omega
       simp [R97_12, R97_13, R97_14, R97_15, R97_16, R97_17, R97_18, q0, q4, c1, hro, hw1, c1q, hc3, hge, hge', e4, e5, e6, d6, ff]
     . rw [if_neg hge] at e4
       subst e4
       have hge' : ¬ (n : Int) <= u.1 := by omega
       simp [R97_12, R97_13, R97_14, R97_15, R97_16, R97_17, R97_18, q0, q4, c1, hro, hw1, c1q, hc3, hge, hge', e5, e6, d6, ff]
    unfold F97
    refine okE.seq (okE.flat (fun _ => rfl) ?_)
    simp [R97_0, a1, htv, <- hb, <- hh1, thenE, -isTup, -Value.cells, -resE, -resLE, -rvE]
    refine okE.seq (okE.flat (fun _ => rfl) ?_)
    simp [R97_1, thenE, -resE, -resLE, -rvE]
    refine okE.seq (okE.seq (okE.flat (fun _ => rfl) ?_))
    simp [R97_2, a0, hpk, thenE, -resE, -resLE, -rvE]
    refine okE.blk (okE.flat (fun _ => rfl) ?_)
    obtain ⟨x10, x11, x12, x13, x14, x15, x16, x17⟩ := x1
    rcases hk with hk | hk | hk | hk
    . simp [R97_4, R97_5, hk, x12, thenE, -resE, -resLE, -rvE]
      exact rest _ (by simp [a0]) (by simp [hn, hk])
    . simp [R97_4, R97_6, R97_7, hk, x13, thenE, -resE, -resLE, -rvE]
      exact rest _ (by simp [a0]) (by simp [hn, hk])
    . simp [R97_4, R97_6, R97_8, R97_9, hk, x14, thenE, -resE, -resLE, -rvE]
      exact rest _ (by simp [a0]) (by simp [hn, hk])
    . simp [R97_4, R97_6, R97_8, R97_10, R97_11, hk, x16, thenE, -resE, -resLE, -rvE]
      exact rest _ (by simp [a0]) (by simp [hn, hk])
  . have k1 : (pk s R == 105) = false := by simp; omega
    have k2 : (pk s R == 108) = false := by simp; omega
    have k3 : (pk s R == 111) = false := by simp; omega
    have k4 : (pk s R == 98) = false := by simp; omega
    obtain ⟨h2, hc2, d2, f2⟩ := fail_sp C L d1 hr 2 R.pos
    have hc2' : c 90 [Value.pointer (some ⟨r, 0, none⟩), .int .i64 2, .int .i64 R.pos] h1 = some (.tuple #[], h2) := hc2
    have fin : Rd O h2 r s (symS D s R) := by unfold symS; rw [if_neg hk]; exact d2
    refine okE.flat (fun _ => rfl) ?_
    simp [F97, R97_0, R97_1, R97_2, R97_4, R97_6, R97_8, R97_10, R97_3, a0, a1, htv, <- hb, <- hh1, hpk, k1, k2, k3, k4, c1, hc2', fin, f1.trans f2, -isTup, -Value.cells]
 obtain ⟨v, h', e1, rfl, e2⟩ := key
 exact ⟨h', e1, e2⟩
end
abbrev Tag := Nat × Nat
abbrev Own := Nat -> Tag
def Own.set (w : Own) (b : Nat) (t : Tag) : Own := fun i => if i = b then t else w i
section
variable {H : Type} {O : HI H} {ro : Nat} {c : CallT H}
structure Ch (O : HI H) (K : Tag -> Prop) (w : Own) (h : H) (w' : Own) (h' : H) : Prop where
 nx : O.next h <= O.next h'
 ow : ∀ b, b < O.next h -> w' b = w b
 fr : ∀ b, b < O.next h -> ¬ K (w b) -> (∀ o, O.cell h' b o = O.cell h b o) /\ O.alive h' b = O.alive h b
theorem Ch.refl (K : Tag -> Prop) (w : Own) (h : H) : Ch O K w h w h := ⟨Nat.le_refl _, fun _ _ => rfl, fun _ _ _ => ⟨fun _ => rfl, rfl⟩⟩
theorem Ch.trans {K : Tag -> Prop} {w1 w2 w3 : Own} {h1 h2 h3 : H} (a : Ch O K w1 h1 w2 h2) (b : Ch O K w2 h2 w3 h3) : Ch O K w1 h1 w3 h3 := by
 refine ⟨Nat.le_trans a.nx b.nx, fun x hx => ?_, fun x hx hk => ?_⟩
 . rw [b.ow x (Nat.lt_of_lt_of_le hx a.nx), a.ow x hx]
 . have h1 := a.fr x hx hk
   have h2 := b.fr x (Nat.lt_of_lt_of_le hx a.nx) (by rw [a.ow x hx]; exact hk)
   exact ⟨fun o => (h2.1 o).trans (h1.1 o), h2.2.trans h1.2⟩
theorem Ch.mono {K K' : Tag -> Prop} {w w' : Own} {h h' : H} (a : Ch O K w h w' h') (hk : ∀ t, K t -> K' t) : Ch O K' w h w' h' :=
 ⟨a.nx, a.ow, fun b hb hn => a.fr b hb fun hx => hn (hk _ hx)⟩
theorem Ch.trans' {K K' K'' : Tag -> Prop} {w1 w2 w3 : Own} {h1 h2 h3 : H} (a : Ch O K w1 h1 w2 h2) (b : Ch O K' w2 h2 w3 h3) (hk : ∀ t, K t -> K'' t) (hk' : ∀ t, K' t -> K'' t) : Ch O K'' w1 h1 w3 h3 := (a.mono hk).trans (b.mono hk')
structure Bx (O : HI H) (ro : Nat) (w : Own) (h : H) (t : Tag) (b : Nat) (l : List Value) : Prop where
 tag : w b = t
 lo : ro <= b
 al : O.alive h b = true
 cell : ∀ i, i < l.length -> O.cell h b i = l[i]?
theorem Bx.lt (L : O.Law) {w : Own} {h : H} {t : Tag} {b : Nat} {l : List Value} (x : Bx O ro w h t b l) : b < O.next h := L.alive_lt _ _ x.al
theorem Bx.ch (L : O.Law) {K : Tag -> Prop} {w w' : Own} {h h' : H} {t : Tag} {b : Nat} {l : List Value} (x : Bx O ro w h t b l) (a : Ch O K w h w' h') (hk : ¬ K t) : Bx O ro w' h' t b l := by
 have hb := x.lt L
 have := a.fr b hb (by rw [x.tag]; exact hk)
 exact ⟨by rw [a.ow b hb, x.tag], x.lo, by rw [this.2, x.al], fun i hi => by rw [this.1, x.cell i hi]⟩
theorem Bx.get {w : Own} {h : H} {t : Tag} {b : Nat} {l : List Value} (x : Bx O ro w h t b l) (i : Nat) (v : Value) (hv : l[i]? = some v) : O.cell h b i = some v := by
 rw [x.cell i (by by_cases hi : i < l.length; exact hi; rw [List.getElem?_eq_none (by omega)] at hv; simp at hv), hv]
theorem Bx.new (L : O.Law) (w : Own) (h : H) (hro : ro <= O.next h) (t : Tag) (l : List Value) : Bx O ro (w.set (O.next h) t) (O.new h l) t (O.next h) l := by
 refine ⟨by simp [Own.set], hro, ?_, fun i hi => ?_⟩
 . rw [L.alive_new, if_pos rfl]
 . rw [L.cell_new, if_pos rfl]
theorem Ch.new (L : O.Law) (K : Tag -> Prop) (w : Own) (h : H) (t : Tag) (l : List Value) : Ch O K w h (w.set (O.next h) t) (O.new h l) := by
 refine ⟨by rw [L.next_new]; omega, fun b hb => ?_, fun b hb _ => ⟨fun o => ?_, ?_⟩⟩
 . simp only [Own.set]; rw [if_neg (by omega)]
 . rw [L.cell_new, if_neg (by omega)]
 . rw [L.alive_new, if_neg (by omega)]
theorem Bx.put (L : O.Law) {w : Own} {h : H} {t : Tag} {b : Nat} {l : List Value} (x : Bx O ro w h t b l) (i : Nat) (hi : i < l.length) (v : Value) : Bx O ro w (O.put h b i v) t b (l.set i v) := by
 have hc : O.cell h b i = some l[i] := by rw [x.cell i hi]; simp
 refine ⟨x.tag, x.lo, by rw [L.alive_put, x.al], fun j hj => ?_⟩
 rw [L.cell_put _ _ _ _ _ hc]
 simp only [List.length_set] at hj
 by_cases e : j = i
 . subst e; simp [hj]
 . rw [if_neg (by simp [e]), x.cell j hj, List.getElem?_set_ne (fun q => e q.symm)]
theorem Ch.put (L : O.Law) {K : Tag -> Prop} {w : Own} {h : H} {t : Tag} {b : Nat} {l : List Value} (x : Bx O ro w h t b l) (i : Nat) (hi : i < l.length) (v : Value) (hk : K t) : Ch O K w h w (O.put h b i v) := by
 have hc : O.cell h b i = some l[i] := by rw [x.cell i hi]; simp
 refine ⟨by rw [L.next_put]; exact Nat.le_refl _, fun _ _ => rfl, fun b' hb hn => ⟨fun o => ?_, ?_⟩⟩
 . rw [L.cell_put _ _ _ _ _ hc, if_neg]
   rintro ⟨rfl, _⟩
   rw [x.tag] at hn
   exact hn hk
 . rw [L.alive_put]
theorem Ch.kill (L : O.Law) {K : Tag -> Prop} {w : Own} {h : H} {t : Tag} {b : Nat} {l : List Value} (x : Bx O ro w h t b l) (hk : K t) : Ch O K w h w (O.kill h b) := by
 refine ⟨by rw [L.next_kill]; exact Nat.le_refl _, fun _ _ => rfl, fun b' hb hn => ?_⟩
 have : b' ≠ b := by rintro rfl; rw [x.tag] at hn; exact hn hk
 exact ⟨fun o => by rw [L.cell_kill, if_neg this], by rw [L.alive_kill, if_neg this]⟩
theorem cellsA_get {h : H} {b : Nat} : ∀ (n o : Nat) (l : List Value), l.length = n -> (∀ i, i < n -> O.cell h b (o + i) = l[i]?) -> cellsA O h b o n = some l := by
 intro n
 induction n with
 | zero => intro o l hl _; cases l with | nil => rfl | cons _ _ => simp at hl
 | succ n ih =>
  intro o l hl hc
  cases l with
  | nil => simp at hl
  | cons v l =>
   have h0 := hc 0 (by omega)
   have h1 := ih (o + 1) l (by simpa using hl) (fun i hi => by have := hc (i + 1) (by omega); rw [show o + 1 + i = o + (i + 1) by omega, this]; simp)
   simp only [Nat.add_zero] at h0
   simp [cellsA, h0, h1]
theorem Bx.cells {w : Own} {h : H} {t : Tag} {b : Nat} {l : List Value} (x : Bx O ro w h t b l) (o n : Nat) (hn : o + n <= l.length) : cellsA O h b o n = some ((l.drop o).take n) := by
 refine cellsA_get n o _ (by simp; omega) fun i hi => ?_
 rw [x.cell _ (by omega), List.getElem?_take_of_lt hi, List.getElem?_drop]
theorem Bx.all {w : Own} {h : H} {t : Tag} {b : Nat} {l : List Value} (x : Bx O ro w h t b l) : cellsA O h b 0 l.length = some l := by
 rw [x.cells 0 l.length (by omega)]; simp
theorem Bx.puts (L : O.Law) {K : Tag -> Prop} {w : Own} {t : Tag} {b : Nat} (hk : K t) : ∀ (new : List Value) (o : Nat) (h : H) (l : List Value), Bx O ro w h t b l -> o + new.length <= l.length ->
 ∃ h', putsA O h b o new = some h' /\ Bx O ro w h' t b (l.take o ++ new ++ l.drop (o + new.length)) /\ Ch O K w h w h' := by
 intro new
 induction new with
 | nil => intro o h l x ho; exact ⟨h, rfl, by simpa using x, Ch.refl _ _ _⟩
 | cons v new ih =>
  intro o h l x ho
  simp only [List.length_cons] at ho
  obtain ⟨h', e1, e2, e3⟩ := ih (o + 1) (O.put h b o v) (l.set o v) (x.put L o (by omega) v) (by simp; omega)
  have hc : O.cell h b o = some l[o] := by rw [x.cell o (by omega)]; simp
  refine ⟨h', by simp [putsA, hc, e1], ?_, (Ch.put L x o (by omega) v hk).trans e3⟩
  have : (l.set o v).take (o + 1) ++ new ++ (l.set o v).drop (o + 1 + new.length) = l.take o ++ (v :: new) ++ l.drop (o + (v :: new).length) := by
   rw [List.take_add_one]
   have h1 : (l.set o v)[o]? = some v := by simp [show o < l.length by omega]
   rw [h1, List.take_set_of_le (Nat.le_refl o), List.drop_set_of_lt (by omega)]
   simp [Nat.add_assoc, Nat.add_comm 1]
  rw [<- this]
  exact e2
def Sl (O : HI H) (ro : Nat) (w : Own) (h : H) (t : Tag) (sz : Nat) (v : Value) (l : List Value) : Prop :=
 (v = .slice none 0 0 /\ l = []) \/ ∃ b m cp, v = .slice (some ⟨b, 0, some sz⟩) m cp /\ (cp = 0 \/ cp = m + 1) /\ l.length = m * sz /\ l ≠ [] /\ Bx O ro w h t b l
theorem Sl.nil (w : Own) (h : H) (t : Tag) (sz : Nat) : Sl O ro w h t sz (.slice none 0 0) [] := .inl ⟨rfl, rfl⟩
theorem Sl.ch (L : O.Law) {K : Tag -> Prop} {w w' : Own} {h h' : H} {t : Tag} {sz : Nat} {v : Value} {l : List Value} (x : Sl O ro w h t sz v l) (a : Ch O K w h w' h') (hk : ¬ K t) : Sl O ro w' h' t sz v l := by
 rcases x with x | ⟨b, m, cp, e, ec, el, en, x⟩
 . exact .inl x
 . exact .inr ⟨b, m, cp, e, ec, el, en, x.ch L a hk⟩
theorem Sl.flat {w : Own} {h : H} {t : Tag} {sz : Nat} {v : Value} {l : List Value} (x : Sl O ro w h t sz v l) : v.cells = #[v] /\ isFlat v = true /\ isTup v = false := by
 rcases x with ⟨rfl, _⟩ | ⟨b, m, cp, rfl, _⟩ <;> exact ⟨rfl, rfl, rfl⟩
theorem Sl.len {w : Own} {h : H} {t : Tag} {sz : Nat} {v : Value} {l : List Value} (x : Sl O ro w h t sz v l) (hsz : 0 < sz) (n : Nat) (hn : l.length = n * sz) : ∃ a cp, v = .slice a n cp := by
 rcases x with ⟨rfl, rfl⟩ | ⟨b, m, cp, rfl, _, el, _⟩
 . have : n = 0 := by
    simp only [List.length_nil] at hn
    rcases Nat.mul_eq_zero.1 hn.symm with h | h <;> omega
   subst this; exact ⟨_, _, rfl⟩
 . have : m = n := Nat.eq_of_mul_eq_mul_right hsz (by omega)
   subst this; exact ⟨_, _, rfl⟩
theorem Sl.blk {w : Own} {h : H} {t : Tag} {sz : Nat} {v : Value} {l : List Value} (x : Sl O ro w h t sz v l) (hsz : 0 < sz) (n : Nat) (hn : l.length = n * sz) (h0 : 0 < n) : ∃ b cp, v = .slice (some ⟨b, 0, some sz⟩) n cp /\ Bx O ro w h t b l := by
 rcases x with ⟨rfl, rfl⟩ | ⟨b, m, cp, rfl, _, el, _, x⟩
 . simp only [List.length_nil] at hn
   rcases Nat.mul_eq_zero.1 hn.symm with h | h <;> omega
 . have : m = n := Nat.eq_of_mul_eq_mul_right hsz (by omega)
   subst this; exact ⟨_, _, rfl, x⟩
theorem appI_one (L : O.Law) {w : Own} {h : H} {t : Tag} {sz bytes : Nat} {v : Value} {l new : List Value} (hro : ro <= O.next h) (x : Sl O ro w h t sz v l) (hsz : 0 < sz) (hn : new.length = sz) (hsize : (l.length + 1) * bytes <= 140737488355328) (hl : l.length < 1000000) :
 ∃ v' h' w', appI O ro sz bytes v (.slice (some ⟨O.next h, 0, some sz⟩) 1 2) (O.new h new) = some (v', h') /\ Sl O ro w' h' t sz v' (l ++ new) /\ Ch O (fun u => u = t) w h w' h' /\ ro <= O.next h' := by
 have hnew : cellsA O (O.new h new) (O.next h) 0 (1 * sz) = some new := by
  rw [Nat.one_mul]
  exact cellsA_get sz 0 new hn fun i hi => by rw [L.cell_new, if_pos rfl]; simp
 have hne : new ≠ [] := by intro e; subst e; simp at hn; omega
 rcases x with ⟨rfl, rfl⟩ | ⟨b, m, cp, rfl, hcp, el, en, x⟩
 . have hb1 : ¬ ((0 + 1) * bytes > 140737488355328 \/ 0 + 1 > 140737488355328) := by simp at hsize; omega
   refine ⟨.slice (some ⟨O.next h + 1, 0, some sz⟩) 1 0, O.new (O.new h new) new, (w.set (O.next h) t).set (O.next h + 1) t, ?_, ?_, ?_, ?_⟩
   . simp only [appI, hb1, if_false, hnew, true_and, and_self, if_true, L.next_new]
     simp
   . refine .inr ⟨O.next h + 1, 1, 0, rfl, .inl rfl, by simp [hn], by simpa using hne, ?_⟩
     have := Bx.new L (ro := ro) (w.set (O.next h) t) (O.new h new) (by rw [L.next_new]; omega) t new
     rw [L.next_new] at this
     simpa using this
   . have h1 := Ch.new L (fun u => u = t) w h t new
     have h2 := Ch.new L (fun u => u = t) (w.set (O.next h) t) (O.new h new) t new
     rw [L.next_new] at h2
     exact h1.trans h2
   . simp only [L.next_new]; omega
 . have hb1 : ¬ ((m + 1) * bytes > 140737488355328 \/ m + 1 > 140737488355328) := by
    have h1 : m <= l.length := by rw [el]; exact Nat.le_mul_of_pos_right m hsz
    have h2 : (m + 1) * bytes <= (l.length + 1) * bytes := Nat.mul_le_mul_right _ (by omega)
    omega
   have hlt := x.lt L
   have x1 : Bx O ro (w.set (O.next h) t) (O.new h new) t b l := x.ch L (Ch.new L (fun _ => False) w h t new) (by simp)
   have c1 := Ch.new L (fun u => u = t) w h t new
   have hold : cellsA O (O.new h new) b 0 (m * sz) = some l := by rw [<- el]; exact x1.all
   have hbro : ¬ b < ro := by have := x.lo; omega
   rcases hcp with rfl | rfl
   . have nk : O.next (O.kill (O.new h new) b) = O.next h + 1 := by rw [L.next_kill, L.next_new]
     refine ⟨.slice (some ⟨O.next h + 1, 0, some sz⟩) (m + 1) 0, O.new (O.kill (O.new h new) b) (l ++ new), (w.set (O.next h) t).set (O.next h + 1) t, ?_, ?_, ?_, ?_⟩
     . simp only [appI, hb1, if_false, hnew, hbro, x1.al, and_self, if_true, hold, L.next_new]
     . refine .inr ⟨O.next h + 1, m + 1, 0, rfl, .inl rfl, by simp [hn, el, Nat.add_mul], by simp [hne], ?_⟩
       have := Bx.new L (ro := ro) (w.set (O.next h) t) (O.kill (O.new h new) b) (by rw [nk]; omega) t (l ++ new)
       rw [nk] at this
       exact this
     . have c2 := Ch.kill L (K := fun u => u = t) x1 rfl
       have c3 := Ch.new L (fun u => u = t) (w.set (O.next h) t) (O.kill (O.new h new) b) t (l ++ new)
       rw [nk] at c3
       exact (c1.trans c2).trans c3
     . rw [L.next_new, nk]; omega
   . refine ⟨.slice (some ⟨O.next h + 1, 0, some sz⟩) (m + 1) 0, O.new (O.new h new) (l ++ new), (w.set (O.next h) t).set (O.next h + 1) t, ?_, ?_, ?_, ?_⟩
     . simp only [appI, hb1, if_false, hnew, hbro, x1.al, and_self, if_true, hold, L.next_new]
       rw [if_neg (by omega), if_neg (by omega)]
     . refine .inr ⟨O.next h + 1, m + 1, 0, rfl, .inl rfl, by simp [hn, el, Nat.add_mul], by simp [hne], ?_⟩
       have := Bx.new L (ro := ro) (w.set (O.next h) t) (O.new h new) (by rw [L.next_new]; omega) t (l ++ new)
       rw [L.next_new] at this
       exact this
     . have c3 := Ch.new L (fun u => u = t) (w.set (O.next h) t) (O.new h new) t (l ++ new)
       rw [L.next_new] at c3
       exact c1.trans c3
     . simp only [L.next_new]; omega
def rdv (s : ByteArray) (R : RS) : List Value := [.string s, .int .i64 R.pos, .int .i64 R.e, .int .i64 R.ep]
abbrev RB (O : HI H) (ro : Nat) (w : Own) (h : H) (r : Nat) (s : ByteArray) (R : RS) : Prop := Bx O ro w h (1, 1000) r (rdv s R)
theorem RB.rd {w : Own} {h : H} {r : Nat} {s : ByteArray} {R : RS} (x : RB O ro w h r s R) : Rd O h r s R :=
 ⟨x.get 0 _ rfl, x.get 1 _ rfl, x.get 2 _ rfl, x.get 3 _ rfl⟩
theorem RB.up {w : Own} {h h' : H} {r : Nat} {s : ByteArray} {R R' : RS} (L : O.Law) (x : RB O ro w h r s R) (d : Rd O h' r s R') (f : Fr O [r] h h') : RB O ro w h' r s R' /\ Ch O (fun u => u = (1, 1000)) w h w h' := by
 refine ⟨⟨x.tag, x.lo, L.cell_alive _ _ _ _ d.c0, fun i hi => ?_⟩, ⟨f.1, fun _ _ => rfl, fun b hb hk => f.2 b hb ?_⟩⟩
 . obtain ⟨c0, c1, c2, c3⟩ := d
   match i, hi with
   | 0, _ => exact c0
   | 1, _ => exact c1
   | 2, _ => exact c2
   | 3, _ => exact c3
   | n + 4, h => simp [rdv] at h; omega
 . simp only [List.mem_singleton]
   rintro rfl
   exact hk x.tag
theorem fail_w (C : Lim Tryz.prog O ro okS c) (L : O.Law) {w : Own} {h : H} {r : Nat} {s : ByteArray} {R : RS} (x : RB O ro w h r s R) (e p : Nat) :
 ∃ h', c 90 [ptr r, .int .i64 e, .int .i64 p] h = some (.tuple #[], h') /\ RB O ro w h' r s (fl R e p) /\ Ch O (fun u => u = (1, 1000)) w h w h' := by
 obtain ⟨h', e1, d, f⟩ := fail_sp C L x.rd x.lo e p
 exact ⟨h', e1, RB.up L x d f⟩
theorem take_w (C : Lim Tryz.prog O ro okS c) (L : O.Law) {w : Own} {h : H} {r : Nat} {s : ByteArray} {R : RS} (x : RB O ro w h r s R) (hs : s.size <= 1000) (b : Nat) :
 ∃ h', c 87 [ptr r, .int .i64 b] h = some (.bool (decide (pk s R = b)), h') /\ RB O ro w h' r s (if pk s R = b then ⟨R.pos + 1, R.e, R.ep⟩ else R) /\ Ch O (fun u => u = (1, 1000)) w h w h' := by
 obtain ⟨h', e1, d, f⟩ := take_sp C L x.rd x.lo hs b
 exact ⟨h', e1, RB.up L x d f⟩
theorem expect_w (C : Lim Tryz.prog O ro okS c) (L : O.Law) {w : Own} {h : H} {r : Nat} {s : ByteArray} {R : RS} (x : RB O ro w h r s R) (hs : s.size <= 1000) (b : Nat) :
 ∃ h', c 86 [ptr r, .int .i64 b] h = some (.tuple #[], h') /\ RB O ro w h' r s (exS s R b) /\ Ch O (fun u => u = (1, 1000)) w h w h' := by
 obtain ⟨h', e1, d, f⟩ := expect_sp C L x.rd x.lo hs b
 exact ⟨h', e1, RB.up L x d f⟩
theorem num_w (C : Lim Tryz.prog O ro okS c) (L : O.Law) {w : Own} {h : H} {r : Nat} {s : ByteArray} {R : RS} (x : RB O ro w h r s R) (hs : s.size <= 1000) (hp : R.pos <= s.size) :
 ∃ h', c 89 [ptr r] h = some (.int .i64 (numS s R).1, h') /\ RB O ro w h' r s (numS s R).2 /\ Ch O (fun u => u = (1, 1000)) w h w h' := by
 obtain ⟨h', e1, d, f⟩ := num_sp C L x.rd x.lo hs hp
 exact ⟨h', e1, RB.up L x d f⟩
theorem di_w (C : Lim Tryz.prog O ro okS c) (L : O.Law) {w : Own} {h : H} {r : Nat} {s : ByteArray} {R : RS} (x : RB O ro w h r s R) (hs : s.size <= 1000) :
 ∃ h', c 130 [ptr r] h = some (.int .i64 (diS s R).1, h') /\ RB O ro w h' r s (diS s R).2 /\ Ch O (fun u => u = (1, 1000)) w h w h' := by
 obtain ⟨h', e1, d, f⟩ := di_sp C L x.rd x.lo hs
 exact ⟨h', e1, RB.up L x d f⟩
theorem sym_w (C : Lim Tryz.prog O ro okS c) (L : O.Law) {w : Own} {h : H} {r : Nat} {s : ByteArray} {R : RS} {D : HD} (x : RB O ro w h r s R) (hs : s.size <= 1000) (hp : R.pos <= s.size) :
 ∃ h', c 97 [ptr r, D.val] h = some (.tuple #[], h') /\ RB O ro w h' r s (symS D s R) /\ Ch O (fun u => u = (1, 1000)) w h w h' := by
 obtain ⟨h', e1, d, f⟩ := sym_sp C L x.rd x.lo hs hp
 exact ⟨h', e1, RB.up L x d f⟩
end
end Go.Proofs.YtlakdngplpabdaaGreatDoor
