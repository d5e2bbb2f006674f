/- Own work. -/
import Derived.Test.YtlakdngplpabdaaGreatDoorC10
import Derived.Laws.Wrap64
namespace Go.Proofs.YtlakdngplpabdaaGreatDoor
open Go.Vm Go.Proofs
set_option linter.unusedSimpArgs false
set_option linter.unusedVariables false
set_option maxHeartbeats 1000000
def okS (f : FuncId) : Bool := decide (3 <= f) && decide (f <= 152)
theorem wrap_id {x : Int} (h1 : -9223372036854775808 <= x) (h2 : x <= 9223372036854775807) : IntKind.i64.wrap x = x := by
 rw [IntKind.wrap_i64]; omega
section
variable {H : Type} {O : HI H} {ro : Nat} {c : CallT H}
def Fr (O : HI H) (S : List Nat) (h h' : H) : Prop := O.next h <= O.next h' /\ ∀ b, b < O.next h -> b ∉ S -> (∀ o, O.cell h' b o = O.cell h b o) /\ O.alive h' b = O.alive h b
theorem Fr.refl (S : List Nat) (h : H) : Fr O S h h := ⟨Nat.le_refl _, fun _ _ _ => ⟨fun _ => rfl, rfl⟩⟩
theorem Fr.trans {S : List Nat} {a b d : H} (h1 : Fr O S a b) (h2 : Fr O S b d) : Fr O S a d :=
 ⟨Nat.le_trans h1.1 h2.1, fun x hx hs => ⟨fun o => ((h2.2 x (Nat.lt_of_lt_of_le hx h1.1) hs).1 o).trans ((h1.2 x hx hs).1 o), ((h2.2 x (Nat.lt_of_lt_of_le hx h1.1) hs).2).trans (h1.2 x hx hs).2⟩⟩
theorem Fr.mono {S T : List Nat} {a b : H} (h : Fr O S a b) (hs : ∀ x ∈ S, x ∈ T) : Fr O T a b :=
 ⟨h.1, fun x hx ht => h.2 x hx fun hm => ht (hs x hm)⟩
theorem Fr.put (L : O.Law) {S : List Nat} {h : H} {b o : Nat} {v x : Value} (hb : b ∈ S) (hc : O.cell h b o = some x) : Fr O S h (O.put h b o v) := by
 refine ⟨by rw [L.next_put]; exact Nat.le_refl _, fun k hk hs => ⟨fun o' => ?_, L.alive_put _ _ _ _ _⟩⟩
 rw [L.cell_put _ _ _ _ _ hc, if_neg]
 rintro ⟨rfl, _⟩
 exact hs hb
theorem Fr.new (L : O.Law) {S : List Nat} {h : H} (cs : List Value) : Fr O S h (O.new h cs) := by
 refine ⟨by rw [L.next_new]; omega, fun k hk hs => ⟨fun o' => ?_, ?_⟩⟩
 . rw [L.cell_new, if_neg (by omega)]
 . rw [L.alive_new, if_neg (by omega)]
structure RS where
 pos : Nat
 e : Nat
 ep : Nat
structure Rd (O : HI H) (h : H) (r : Nat) (s : ByteArray) (R : RS) : Prop where
 c0 : O.cell h r 0 = some (.string s)
 c1 : O.cell h r 1 = some (.int .i64 R.pos)
 c2 : O.cell h r 2 = some (.int .i64 R.e)
 c3 : O.cell h r 3 = some (.int .i64 R.ep)
theorem Rd.lt (L : O.Law) {h : H} {r : Nat} {s : ByteArray} {R : RS} (d : Rd O h r s R) : r < O.next h := L.alive_lt _ _ (L.cell_alive _ _ _ _ d.c0)
theorem Rd.fr (L : O.Law) {S : List Nat} {h h' : H} {r : Nat} {s : ByteArray} {R : RS} (d : Rd O h r s R) (f : Fr O S h h') (hr : r ∉ S) : Rd O h' r s R := by
 have := (f.2 r (d.lt L) hr).1
 exact ⟨by rw [this]; exact d.c0, by rw [this]; exact d.c1, by rw [this]; exact d.c2, by rw [this]; exact d.c3⟩
def ptr (b : Nat) : Value := .pointer (some ⟨b, 0, none⟩)
def byteS (s : ByteArray) (p : Nat) : Nat := ((s[p]?).map UInt8.toNat).getD 0
def pk (s : ByteArray) (R : RS) : Int := if R.e = 0 /\ R.pos < s.size then (byteS s R.pos : Int) else -1
def fl (R : RS) (e p : Nat) : RS := if R.e = 0 then ⟨R.pos, e, p⟩ else R
def isDg (b : Int) : Bool := decide (48 <= b) && decide (b <= 57)
def numL : Nat -> ByteArray -> Nat -> RS -> Nat -> Nat × RS
 | 0, _, _, R, _ => (0, R)
 | n + 1, s, st, R, v =>
  if isDg (pk s R) then
   if R.pos - st = 4 \/ (0 < R.pos - st /\ v = 0) then (0, fl R 2 R.pos)
   else numL n s st ⟨R.pos + 1, R.e, R.ep⟩ (10 * v + (pk s R).toNat - 48)
  else (v, if R.pos = st then fl R 2 R.pos else R)
attribute [local simp] cSeq cReg reg to mv too onlyIf onlyIfo aMove aNil aFld aLd aInt aPick aLenStr aIdxStr aConv aUn unA ev upd_get isB envOf intA cIf cRet cSkip okc_some resE resLE rvE isTup aSt putsA Value.cells isFlat aBuild Instr.fill aCall cExit
theorem peek_sp (C : Lim Tryz.prog O ro okS c) {h : H} {r : Nat} {s : ByteArray} {R : RS} (d : Rd O h r s R) (hs : s.size <= 1000) : c 88 [ptr r] h = some (.int .i64 (pk s R), h) := by
 refine C.eq (F88_fn O ro) rfl rfl (okE.flat (fun _ => rfl) ?_)
 obtain ⟨c0, c1, c2, c3⟩ := d
 unfold ptr pk
 by_cases he : R.e = 0
 . by_cases hp : R.pos < s.size
   . have d1 : ¬ ((R.pos : Int) < 0) := by omega
     have d2 : ¬ ((s.size : Int) <= R.pos) := by omega
     have hb : s[R.pos]? = some s[R.pos] := ByteArray.getElem?_lt' s R.pos hp
     have hw : IntKind.i64.wrap (s[R.pos].toNat : Int) = (s[R.pos].toNat : Int) := wrap_id (by omega) (by have := s[R.pos].toNat_lt; omega)
     simp [F88, R88_0, R88_1, R88_2, R88_3, c0, c1, c2, he, d1, d2, hb, hp, byteS, hw]
   . have d1 : ¬ ((R.pos : Int) < 0) := by omega
     have d2 : ((s.size : Int) <= R.pos) := by omega
     simp [F88, R88_0, R88_1, R88_2, R88_3, c0, c1, c2, he, d1, d2, hp]
 . have d0 : ((R.e : Int) != 0) = true := by simp; omega
   simp [F88, R88_0, R88_1, R88_2, R88_3, c0, c1, c2, he, d0]
theorem isDigit_sp (C : Lim Tryz.prog O ro okS c) (h : H) (b : Int) : c 126 [.int .i64 b] h = some (.bool (isDg b), h) := by
 refine C.eq (F126_fn O ro) rfl rfl (okE.flat (fun _ => rfl) ?_)
 unfold isDg
 by_cases h1 : 48 <= b <;> by_cases h2 : b <= 57 <;> simp [F126, R126_0, R126_1, h1, h2]
theorem fail_sp (C : Lim Tryz.prog O ro okS c) (L : O.Law) {h : H} {r : Nat} {s : ByteArray} {R : RS} (d : Rd O h r s R) (hr : ro <= r) (e p : Nat) :
 ∃ h', c 90 [ptr r, .int .i64 e, .int .i64 p] h = some (.tuple #[], h') /\ Rd O h' r s (fl R e p) /\ Fr O [r] h h' := by
 have hro : ¬ r < ro := by omega
 by_cases he : R.e = 0
 . obtain ⟨c0, c1, c2, c3⟩ := d
   have k1 : O.cell (O.put h r 2 (.int .i64 e)) r 3 = some (.int .i64 R.ep) := by rw [L.cell_put _ _ _ _ _ c2]; simp [c3]
   refine ⟨O.put (O.put h r 2 (.int .i64 e)) r 3 (.int .i64 p), ?_, ?_, ?_⟩
   . refine C.eq (F90_fn O ro) rfl rfl (okE.flat (fun _ => rfl) ?_)
     unfold ptr
     simp [F90, R90_0, R90_1, c2, he, hro, k1, Array.foldl, List.zipIdx]
   . simp only [fl, if_pos he]
     refine ⟨?_, ?_, ?_, ?_⟩ <;> rw [L.cell_put _ _ _ _ _ k1, L.cell_put _ _ _ _ _ c2] <;> simp [c0, c1]
   . exact (Fr.put L (by simp) c2).trans (Fr.put L (by simp) k1)
 . refine ⟨h, ?_, by simpa [fl, he] using d, Fr.refl _ _⟩
   obtain ⟨c0, c1, c2, c3⟩ := d
   refine C.eq (F90_fn O ro) rfl rfl (okE.flat (fun _ => rfl) ?_)
   have d0 : ((R.e : Int) == 0) = false := by simp; omega
   unfold ptr
   simp [F90, R90_0, R90_1, c2, d0]
theorem take_sp (C : Lim Tryz.prog O ro okS c) (L : O.Law) {h : H} {r : Nat} {s : ByteArray} {R : RS} (d : Rd O h r s R) (hr : ro <= r) (hs : s.size <= 1000) (b : Nat) :
 ∃ h', c 87 [ptr r, .int .i64 b] h = some (.bool (decide (pk s R = b)), h') /\ Rd O h' r s (if pk s R = b then ⟨R.pos + 1, R.e, R.ep⟩ else R) /\ Fr O [r] h h' := by
 have hro : ¬ r < ro := by omega
 have hpk := peek_sp C d hs
 by_cases hb : pk s R = b
 . have hpos : R.pos < s.size := by
    unfold pk at hb
    split at hb
    . rename_i hc; exact hc.2
    . omega
   obtain ⟨c0, c1, c2, c3⟩ := d
   refine ⟨O.put h r 1 (.int .i64 ((R.pos + 1 : Nat) : Int)), ?_, ?_, Fr.put L (by simp) c1⟩
   . refine C.eq (F87_fn O ro) rfl rfl (okE.flat (fun _ => rfl) ?_)
     have hw : IntKind.i64.wrap ((R.pos : Int) + 1) = ((R.pos + 1 : Nat) : Int) := by rw [wrap_id (by omega) (by omega)]; omega
     unfold ptr at hpk ⊢
     simp [F87, R87_0, R87_1, R87_2, R87_3, R87_4, hpk, hb, c1, hro, hw]
   . rw [if_pos hb]
     refine ⟨?_, ?_, ?_, ?_⟩ <;> rw [L.cell_put _ _ _ _ _ c1] <;> simp [c0, c2, c3]
 . refine ⟨h, ?_, by simpa [hb] using d, Fr.refl _ _⟩
   refine C.eq (F87_fn O ro) rfl rfl (okE.flat (fun _ => rfl) ?_)
   have hb' : (pk s R != (b : Int)) = true := by simpa using hb
   unfold ptr at hpk ⊢
   simp [F87, R87_0, R87_1, R87_2, R87_3, R87_4, hpk, hb, hb']
def exS (s : ByteArray) (R : RS) (b : Nat) : RS := if pk s R = b then ⟨R.pos + 1, R.e, R.ep⟩ else fl R 2 R.pos
theorem expect_sp (C : Lim Tryz.prog O ro okS c) (L : O.Law) {h : H} {r : Nat} {s : ByteArray} {R : RS} (d : Rd O h r s R) (hr : ro <= r) (hs : s.size <= 1000) (b : Nat) :
 ∃ h', c 86 [ptr r, .int .i64 b] h = some (.tuple #[], h') /\ Rd O h' r s (exS s R b) /\ Fr O [r] h h' := by
 obtain ⟨h1, hc1, d1, f1⟩ := take_sp C L d hr hs b
 by_cases hb : pk s R = b
 . rw [if_pos hb] at d1
   refine ⟨h1, ?_, by simpa [exS, hb] using d1, f1⟩
   refine C.eq (F86_fn O ro) rfl rfl (okE.flat (fun _ => rfl) ?_)
   unfold ptr at hc1 ⊢
   simp [F86, R86_0, R86_1, hc1, hb]
 . rw [if_neg hb] at d1
   obtain ⟨h2, hc2, d2, f2⟩ := fail_sp C L d1 hr 2 R.pos
   refine ⟨h2, ?_, by simpa [exS, hb] using d2, f1.trans f2⟩
   refine C.eq (F86_fn O ro) rfl rfl (okE.flat (fun _ => rfl) ?_)
   obtain ⟨c0, c1, c2, c3⟩ := d1
   unfold ptr at hc1 hc2 ⊢
   have hc2' : c 90 [Value.pointer (some ⟨r, 0, none⟩), .int .i64 2, .int .i64 R.pos] h1 = some (.tuple #[], h2) := hc2
   simp [F86, R86_0, R86_1, hc1, hb, c1, hc2']
end
section
variable {H : Type} {O : HI H} {ro : Nat} {c : CallT H}
attribute [local simp] cSeq cReg reg to mv too onlyIf onlyIfo aMove aNil aFld aLd aInt aPick aLenStr aIdxStr aConv aUn unA ev upd_get isB envOf intA cIf cRet cSkip okc_some resE resLE rvE isTup aSt putsA Value.cells isFlat aBuild Instr.fill aCall cExit cBlk outOf ptr undef
theorem pk_lt {s : ByteArray} {R : RS} (h : 0 <= pk s R) : R.e = 0 /\ R.pos < s.size := by
 unfold pk at h
 split at h
 . assumption
 . omega
theorem pk_le (s : ByteArray) (R : RS) : -1 <= pk s R /\ pk s R <= 255 := by
 unfold pk byteS
 split
 . cases h : s[R.pos]? with
   | none => simp
   | some b => simp; have := b.toNat_lt; omega
 . omega
theorem Rd.setPos (L : O.Law) {h : H} {r : Nat} {s : ByteArray} {R : RS} (d : Rd O h r s R) (p : Nat) : Rd O (O.put h r 1 (.int .i64 p)) r s ⟨p, R.e, R.ep⟩ /\ Fr O [r] h (O.put h r 1 (.int .i64 p)) := by
 obtain ⟨c0, c1, c2, c3⟩ := d
 refine ⟨?_, Fr.put L (by simp) c1⟩
 refine ⟨?_, ?_, ?_, ?_⟩ <;> rw [L.cell_put _ _ _ _ _ c1] <;> simp [c0, c2, c3]
theorem failed_sp (C : Lim Tryz.prog O ro okS c) {h : H} {r : Nat} {s : ByteArray} {R : RS} (d : Rd O h r s R) : c 47 [ptr r] h = some (.bool (R.e != 0), h) := by
 refine C.eq (F47_fn O ro) rfl rfl (okE.flat (fun _ => rfl) ?_)
 obtain ⟨c0, c1, c2, c3⟩ := d
 by_cases he : R.e = 0
 . simp [F47, R47_0, R47_1, c2, he]
 . have h1 : ((R.e : Int) != 0) = true := by simp; omega
   simp [F47, R47_0, R47_1, c2, h1, he]
def bbS (s : ByteArray) (R : RS) (b : Nat) : Nat × RS := if pk s R = -1 \/ (b : Int) <= pk s R then (0, fl R 2 R.pos) else ((pk s R).toNat, ⟨R.pos + 1, R.e, R.ep⟩)
theorem bb_sp (C : Lim Tryz.prog O ro okS c) (L : O.Law) {h : H} {r : Nat} {s : ByteArray} {R : RS} (d : Rd O h r s R) (hr : ro <= r) (hs : s.size <= 1000) (b : Nat) :
 ∃ h', c 139 [ptr r, .int .i64 b] h = some (.int .i64 (bbS s R b).1, h') /\ Rd O h' r s (bbS s R b).2 /\ Fr O [r] h h' := by
 have hro : ¬ r < ro := by omega
 have hpk := peek_sp C d hs
 have hle := pk_le s R
 unfold bbS
 by_cases h1 : pk s R = -1
 . obtain ⟨h2, hc2, d2, f2⟩ := fail_sp C L d hr 2 R.pos
   refine ⟨h2, ?_, by simpa [h1] using d2, f2⟩
   refine C.eq (F139_fn O ro) rfl rfl (okE.flat (fun _ => rfl) ?_)
   have c1 := d.c1
   have hc2' : c 90 [Value.pointer (some ⟨r, 0, none⟩), .int .i64 2, .int .i64 R.pos] h = some (.tuple #[], h2) := hc2
   unfold ptr at hpk
   simp [F139, R139_0, R139_1, R139_2, R139_3, R139_4, hpk, h1, c1, hc2']
 . have h1' : (pk s R == -1) = false := by simpa using h1
   by_cases h2 : (b : Int) <= pk s R
   . obtain ⟨h3, hc2, d2, f2⟩ := fail_sp C L d hr 2 R.pos
     refine ⟨h3, ?_, by simpa [h2] using d2, f2⟩
     refine C.eq (F139_fn O ro) rfl rfl (okE.flat (fun _ => rfl) ?_)
     have c1 := d.c1
     have hc2' : c 90 [Value.pointer (some ⟨r, 0, none⟩), .int .i64 2, .int .i64 R.pos] h = some (.tuple #[], h3) := hc2
     unfold ptr at hpk
     simp [F139, R139_0, R139_1, R139_2, R139_3, R139_4, hpk, h1', h2, c1, hc2']
   . have hpos := pk_lt (s := s) (R := R) (by omega)
     obtain ⟨d2, f2⟩ := d.setPos L (R.pos + 1)
     refine ⟨_, ?_, by simpa [h1, h2] using d2, f2⟩
     refine C.eq (F139_fn O ro) rfl rfl (okE.flat (fun _ => rfl) ?_)
     have c1 := d.c1
     have hw : IntKind.i64.wrap ((R.pos : Int) + 1) = ((R.pos + 1 : Nat) : Int) := by rw [wrap_id (by omega) (by omega)]; omega
     have hn : (((pk s R).toNat : Nat) : Int) = pk s R := by omega
     unfold ptr at hpk
     simp [F139, R139_0, R139_1, R139_2, R139_5, R139_6, hpk, h1', h1, h2, c1, hro, hw, hn]
def diS (s : ByteArray) (R : RS) : Nat × RS :=
 let a := bbS s R 256
 if a.1 < 128 then a else
 let b := bbS s a.2 128
 (a.1 - 128 + 128 * b.1, b.2)
theorem bbS_le (s : ByteArray) (R : RS) (b : Nat) : (bbS s R b).1 <= 255 := by
 have := pk_le s R
 unfold bbS
 split
 . simp
 . simp only; omega
theorem di_sp (C : Lim Tryz.prog O ro okS c) (L : O.Law) {h : H} {r : Nat} {s : ByteArray} {R : RS} (d : Rd O h r s R) (hr : ro <= r) (hs : s.size <= 1000) :
 ∃ h', c 130 [ptr r] h = some (.int .i64 (diS s R).1, h') /\ Rd O h' r s (diS s R).2 /\ Fr O [r] h h' := by
 obtain ⟨h1, hc1, d1, f1⟩ := bb_sp C L d hr hs 256
 have hb1 := bbS_le s R 256
 unfold diS
 generalize bbS s R 256 = a at hc1 d1 hb1
 by_cases hlt : a.1 < 128
 . refine ⟨h1, ?_, by simpa [hlt] using d1, f1⟩
   refine C.eq (F130_fn O ro) rfl rfl (okE.flat (fun _ => rfl) ?_)
   have hlt' : (a.1 : Int) < 128 := by omega
   have hc1' : c 139 [Value.pointer (some ⟨r, 0, none⟩), .int .i64 256] h = some (.int .i64 a.1, h1) := hc1
   simp [F130, R130_0, R130_1, R130_2, R130_3, R130_4, R130_5, hc1', hlt, hlt']
 . obtain ⟨h2, hc2, d2, f2⟩ := bb_sp C L d1 hr hs 128
   have hb2 := bbS_le s a.2 128
   simp only [hlt, if_false]
   generalize bbS s a.2 128 = b at hc2 d2 hb2 ⊢
   refine ⟨h2, ?_, d2, f1.trans f2⟩
   refine C.eq (F130_fn O ro) rfl rfl (okE.flat (fun _ => rfl) ?_)
   have hlt' : ¬ (a.1 : Int) < 128 := by omega
   have hc1' : c 139 [Value.pointer (some ⟨r, 0, none⟩), .int .i64 256] h = some (.int .i64 a.1, h1) := hc1
   have hc2' : c 139 [Value.pointer (some ⟨r, 0, none⟩), .int .i64 128] h1 = some (.int .i64 b.1, h2) := hc2
   have w1 : IntKind.i64.wrap ((a.1 : Int) - 128) = (a.1 : Int) - 128 := wrap_id (by omega) (by omega)
   have w2 : IntKind.i64.wrap (128 * (b.1 : Int)) = 128 * (b.1 : Int) := wrap_id (by omega) (by omega)
   have w3 : IntKind.i64.wrap ((a.1 : Int) - 128 + 128 * (b.1 : Int)) = ((a.1 - 128 + 128 * b.1 : Nat) : Int) := by rw [wrap_id (by omega) (by omega)]; omega
   simp [F130, R130_0, R130_1, R130_2, R130_3, R130_4, R130_5, hc1', hc2', hlt, hlt', w1, w2, w3]
def numS (s : ByteArray) (R : RS) : Nat × RS := numL 5 s R.pos R 0
theorem num_sp (C : Lim Tryz.prog O ro okS c) (L : O.Law) {h : H} {r : Nat} {s : ByteArray} {R : RS} (d : Rd O h r s R) (hr : ro <= r) (hs : s.size <= 1000) (hp : R.pos <= s.size) :
 ∃ h', c 89 [ptr r] h = some (.int .i64 (numS s R).1, h') /\ Rd O h' r s (numS s R).2 /\ Fr O [r] h h' := by
 have hro : ¬ r < ro := by omega
 have hpk := peek_sp C d hs
 have key : ∃ v h', c 89 [ptr r] h = some (v, h') /\ (v = .int .i64 (numS s R).1 /\ Rd O h' r s (numS s R).2 /\ Fr O [r] h h') := by
  refine C.fn (F89_fn O ro) rfl rfl ?_
  unfold F89
  have c1 := d.c1
  refine okE.seq (okE.flat (fun _ => rfl) ?_)
  simp only [R89_0, cReg, reg, to, aMove, ev, Option.map_some, okc_some, thenE]
  refine okE.seq (okE.flat (fun _ => rfl) ?_)
  simp [R89_1, c1, thenE]
  refine okE.seq (okE.flat (fun _ => rfl) ?_)
  simp [R89_2, thenE]
  refine okE.seq (okE.seq (okE.flat (fun _ => rfl) ?_))
  unfold ptr at hpk
  simp [R89_3, thenE, hpk]
  refine okE.blk ?_
  refine okE.loop (fun n t g => ∃ R' v, Rd O g r s R' /\ Fr O [r] h g /\ t 0 = ptr r /\ t 3 = .int .i64 R.pos /\ t 4 = .int .i64 (v : Nat) /\ t 5 = .int .i64 (pk s R') /\ R.pos <= R'.pos /\ R'.pos + n = R.pos + 5 /\ 1 <= n /\ v < 10 ^ (R'.pos - R.pos) /\ numL n s R.pos R' v = numS s R) ?_ 5 _ _ ⟨R, 0, d, Fr.refl _ _, by simp, by simp, by simp, by simp, Nat.le_refl _, rfl, by omega, by simp, rfl⟩
  intro n t g hI
  obtain ⟨R', v, d', f', t0, t3, t4, t5, hge, hn, hn1, hv, hfin⟩ := hI
  obtain ⟨D, hD⟩ : ∃ D, R'.pos = R.pos + D := ⟨R'.pos - R.pos, by omega⟩
  have hnD : n = 5 - D := by omega
  have e1 : R'.pos - R.pos = D := by omega
  rw [e1] at hv
  have hv4 : v < 10000 := Nat.lt_of_lt_of_le hv (Nat.pow_le_pow_right (n := 10) (by omega) (show D <= 4 by omega))
  have wD : IntKind.i64.wrap ((R'.pos : Int) - (R.pos : Int)) = (D : Int) := by
   have hp' : R'.pos <= R.pos + 5 := by omega
   rw [wrap_id (by omega) (by omega)]; omega
  have c1' := d'.c1
  have hple := pk_le s R'
  obtain ⟨m, rfl⟩ : ∃ m, n = m + 1 := ⟨n - 1, by omega⟩
  simp only [numL, e1] at hfin
  unfold ptr at t0
  by_cases hd : isDg (pk s R') = true
  . have hdig : 48 <= pk s R' /\ pk s R' <= 57 := by simpa [isDg] using hd
    have hpos := pk_lt (s := s) (R := R') (by omega)
    rw [if_pos hd] at hfin
    by_cases hfault : D = 4 \/ (0 < D /\ v = 0)
    . rw [if_pos hfault] at hfin
      obtain ⟨g2, hc2, d2, f2⟩ := fail_sp C L d' hr 2 R'.pos
      have hc2' : c 90 [Value.pointer (some ⟨r, 0, none⟩), .int .i64 2, .int .i64 R'.pos] g = some (.tuple #[], g2) := hc2
      have d3 : Rd O g2 r s (numS s R).2 := by rw [<- hfin]; exact d2
      have e3 : (numS s R).1 = 0 := by rw [<- hfin]
      refine okE.flat (fun _ => rfl) ?_
      by_cases h4 : D = 4
      . have k4 : ((D : Int) == 4) = true := by simp; omega
        simp [W89_0, R89_4, R89_6, R89_7, R89_8, R89_9, t0, t3, t4, t5, isDigit_sp C, hd, c1', wD, k4, hc2', thenE, e3, d3, f'.trans f2]
      . have k4 : ((D : Int) == 4) = false := by simp; omega
        have hr2 : 0 < D /\ v = 0 := by omega
        have kD : (0 : Int) < D := by omega
        have kv : ((v : Int) == 0) = true := by simp; omega
        simp [W89_0, R89_4, R89_6, R89_7, R89_8, R89_9, t0, t3, t4, t5, isDigit_sp C, hd, c1', wD, k4, kD, hr2.1, hr2.2, kv, hc2', thenE, e3, d3, f'.trans f2]
    . rw [if_neg hfault] at hfin
      have k4 : ((D : Int) == 4) = false := by simp; omega
      obtain ⟨q, hq⟩ : ∃ q, q = R'.pos + 1 := ⟨_, rfl⟩
      obtain ⟨x, hx⟩ : ∃ x, x = 10 * v + (pk s R').toNat - 48 := ⟨_, rfl⟩
      rw [<- hq, <- hx] at hfin
      obtain ⟨d2, f2⟩ := d'.setPos L q
      have hpk2 := peek_sp C d2 hs
      unfold ptr at hpk2
      have hw1 : IntKind.i64.wrap ((R'.pos : Int) + 1) = (q : Int) := by rw [wrap_id (by omega) (by omega)]; omega
      have w1 : IntKind.i64.wrap (10 * (v : Int)) = 10 * (v : Int) := wrap_id (by omega) (by omega)
      have w2 : IntKind.i64.wrap (10 * (v : Int) + pk s R') = 10 * (v : Int) + pk s R' := wrap_id (by omega) (by omega)
      have w3 : IntKind.i64.wrap (10 * (v : Int) + pk s R' - 48) = (x : Int) := by rw [wrap_id (by omega) (by omega)]; omega
      have hx2 : x < 10 ^ (q - R.pos) := by
       have : q - R.pos = D + 1 := by omega
       rw [this, Nat.pow_succ]
       omega
      refine okE.flat (fun _ => rfl) ?_
      by_cases hD0 : 0 < D
      . have kD : (0 : Int) < D := by omega
        have kv : ((v : Int) == 0) = false := by simp; omega
        simp [W89_0, R89_4, R89_6, R89_7, R89_10, R89_11, R89_5, t0, t3, t4, t5, isDigit_sp C, hd, c1', wD, k4, kD, hD0, kv, hw1, w1, w2, w3, hpk2, hro]
        exact ⟨m, by omega, _, d2, f'.trans f2, x, rfl, rfl, by simp only; omega, by simp only; omega, by omega, hx2, hfin⟩
      . have kD : ¬ (0 : Int) < D := by omega
        simp [W89_0, R89_4, R89_6, R89_7, R89_10, R89_11, R89_5, t0, t3, t4, t5, isDigit_sp C, hd, c1', wD, k4, kD, hD0, hw1, w1, w2, w3, hpk2, hro]
        exact ⟨m, by omega, _, d2, f'.trans f2, x, rfl, rfl, by simp only; omega, by simp only; omega, by omega, hx2, hfin⟩
  . rw [if_neg hd] at hfin
    refine okE.flat (fun _ => rfl) ?_
    simp [W89_0, R89_4, t5, isDigit_sp C, hd, thenE]
    by_cases hz : R'.pos = R.pos
    . rw [if_pos hz] at hfin
      obtain ⟨g2, hc2, d2, f2⟩ := fail_sp C L d' hr 2 R'.pos
      have hc2' : c 90 [Value.pointer (some ⟨r, 0, none⟩), .int .i64 2, .int .i64 R'.pos] g = some (.tuple #[], g2) := hc2
      have kz : ((R'.pos : Int) == (R.pos : Int)) = true := by simp; omega
      refine okE.flat (fun _ => rfl) ?_
      simp [R89_12, R89_13, R89_14, t0, t3, t4, c1', kz, hc2', <- hfin, d2, f'.trans f2]
    . rw [if_neg hz] at hfin
      have kz : ((R'.pos : Int) == (R.pos : Int)) = false := by simp; omega
      refine okE.flat (fun _ => rfl) ?_
      simp [R89_12, R89_13, R89_14, t0, t3, t4, c1', kz, <- hfin, d', f']
 obtain ⟨v, h', h1, rfl, h2, h3⟩ := key
 exact ⟨h', h1, h2, h3⟩
end
section
variable {H : Type} {O : HI H} {ro : Nat} {c : CallT H}
attribute [local simp] cSeq cReg reg to mv too onlyIf onlyIfo aMove aNil aFld aLd aInt aPick aLenStr aIdxStr aConv aUn unA ev upd_get isB envOf intA cIf cRet cSkip okc_some resE resLE rvE isTup aSt putsA Value.cells isFlat aBuild Instr.fill aCall cExit cBlk outOf ptr undef aNew aBox aIdxArr
theorem Rd.new (L : O.Law) {h : H} {r : Nat} {s : ByteArray} {R : RS} (d : Rd O h r s R) (cs : List Value) : Rd O (O.new h cs) r s R := d.fr L (Fr.new (S := []) L cs) (by simp)
theorem fl_pos (R : RS) (e p : Nat) : (fl R e p).pos = R.pos := by unfold fl; split <;> rfl
theorem exS_pos {s : ByteArray} {R : RS} (b : Nat) (h : R.pos <= s.size) : (exS s R b).pos <= s.size := by
 unfold exS
 split
 . rename_i hb
   have := pk_lt (s := s) (R := R) (by omega)
   simp only; omega
 . rw [fl_pos]; exact h
theorem numL_pos {s : ByteArray} : ∀ (n st : Nat) (R : RS) (v : Nat), R.pos <= s.size -> (numL n s st R v).2.pos <= s.size := by
 intro n
 induction n with
 | zero => intro st R v h; exact h
 | succ n ih =>
  intro st R v h
  simp only [numL]
  split
  . rename_i hd
    have hd' : 48 <= pk s R := by simp [isDg] at hd; omega
    have := pk_lt (s := s) (R := R) (by omega)
    split
    . simp only [fl_pos]; exact h
    . exact ih _ _ _ (by simp only; omega)
  . simp only
    split
    . rw [fl_pos]; exact h
    . exact h
theorem numS_pos {s : ByteArray} {R : RS} (h : R.pos <= s.size) : (numS s R).2.pos <= s.size := numL_pos _ _ _ _ h
theorem numL_le {s : ByteArray} : ∀ (n st : Nat) (R : RS) (v : Nat), st <= R.pos -> R.pos + n = st + 5 -> v < 10 ^ (R.pos - st) -> (numL n s st R v).1 < 10000 := by
 intro n
 induction n with
 | zero => intro st R v _ _ _; simp [numL]
 | succ n ih =>
  intro st R v h1 h2 hv
  have hv4 : v < 10000 := Nat.lt_of_lt_of_le hv (Nat.pow_le_pow_right (n := 10) (by omega) (show R.pos - st <= 4 by omega))
  simp only [numL]
  split
  . rename_i hd
    have hd' : 48 <= pk s R /\ pk s R <= 57 := by simpa [isDg] using hd
    split
    . simp
    . refine ih _ _ _ (by simp only; omega) (by simp only; omega) ?_
      simp only
      rw [show R.pos + 1 - st = (R.pos - st) + 1 by omega, Nat.pow_succ]
      omega
  . exact hv4
theorem numS_le (s : ByteArray) (R : RS) : (numS s R).1 < 10000 := numL_le _ _ _ _ (Nat.le_refl _) rfl (by simp)
def hdL : Nat -> ByteArray -> Nat -> RS -> List Nat -> List Nat × RS
 | 0, _, _, R, ns => (ns, R)
 | n + 1, s, k, R, ns =>
  if 5 <= k /\ pk s R ≠ 32 then (ns, R)
  else
   let q := numS s (exS s R 32)
   hdL n s (k + 1) q.2 (ns.set k q.1)
def hdS0 (s : ByteArray) (R : RS) : Bool × RS :=
 let R1 := exS s R 97
 if pk s R1 = 105 then (true, exS s ⟨R1.pos + 1, R1.e, R1.ep⟩ 103) else (false, exS s (exS s R1 97) 103)
def hdS (s : ByteArray) (R : RS) : Bool × List Nat × RS :=
 let a := hdS0 s R
 let q := hdL 9 s 0 a.2 [0, 0, 0, 0, 0, 0, 0, 0, 0]
 (a.1, q.1, exS s q.2 10)
def hdV (b : Bool) (ns : List Nat) : Value :=
 .agg #[.bool b, .int .i64 (ns.getD 0 0), .int .i64 (ns.getD 1 0), .int .i64 (ns.getD 2 0), .int .i64 (ns.getD 3 0), .int .i64 (ns.getD 4 0), .int .i64 (ns.getD 5 0), .int .i64 ((ns.getD 6 0 + ns.getD 7 0 + ns.getD 8 0 : Nat) : Int)]
structure HI9 (O : HI H) (r : Nat) (s : ByteArray) (b2 b4 : Nat) (bn : Bool) (h0 : H) (F : List Nat × RS) (n : Nat) (t : Env) (g : H) : Prop where
 ex : ∃ (k : Nat) (R : RS) (ns : List Nat), Rd O g r s R /\ Fr O [r, b4] h0 g /\ R.pos <= s.size /\ k + n = 9 /\ t 5 = .int .i64 k /\ ns.length = 9 /\ (∀ x ∈ ns, x < 10000) /\ (∀ i, i < 9 -> O.cell g b4 i = some (.int .i64 (ns.getD i 0))) /\ hdL n s k R ns = F
 t0 : t 0 = ptr r
 t4 : t 4 = ptr b4
 t2 : t 2 = ptr b2
 t3 : t 3 = .bool bn
theorem loadH (h : H) (b : Nat) : loadA Tryz.prog O 86 (.pointer (some ⟨b, 0, none⟩)) h = (cellsA O h b 0 8).map fun l => .agg l.toArray := by
 have hi : (Tryz.prog.info? 86).map (·.size) = some 8 := by kernel_rfl
 cases hx : Tryz.prog.info? 86 with
 | none => rw [hx] at hi; simp at hi
 | some i =>
  rw [hx] at hi
  simp only [Option.map_some, Option.some.injEq] at hi
  simp only [loadA, Tryz.underlying86, hx, hi]
theorem set_get (ns : List Nat) (k v i : Nat) (hk : k < ns.length) : (ns.set k v).getD i 0 = if i = k then v else ns.getD i 0 := by
 simp only [List.getD_eq_getElem?_getD, List.getElem?_set]
 by_cases e : k = i
 . subst e; simp [hk]
 . rw [if_neg e, if_neg (fun x => e x.symm)]
theorem hd_round (C : Lim Tryz.prog O ro okS c) (L : O.Law) {r : Nat} {s : ByteArray} {b2 b4 : Nat} {bn : Bool} {h0 : H} {F : List Nat × RS} (hr : ro <= r) (hb4 : ro <= b4) (hne : r ≠ b4) (hs : s.size <= 1000) {Q : Exit -> Env -> H -> Prop}
 (hQ : ∀ t g R ns, Rd O g r s R -> Fr O [r, b4] h0 g -> R.pos <= s.size -> ns.length = 9 -> (∀ x ∈ ns, x < 10000) -> (∀ i, i < 9 -> O.cell g b4 i = some (.int .i64 (ns.getD i 0))) -> F = (ns, R) -> t 0 = ptr r -> t 4 = ptr b4 -> t 2 = ptr b2 -> t 3 = .bool bn -> Q (.exit 0) t g)
 (n : Nat) (t : Env) (g : H) (hI : HI9 O r s b2 b4 bn h0 F n t g) :
 okE c (W45_0 O Tryz.prog ro) (t, g) (fun e t' h' => (e = .normal /\ ∃ n', n' < n /\ HI9 O r s b2 b4 bn h0 F n' t' h') \/ (e ≠ .normal /\ Q e t' h')) := by
 obtain ⟨⟨k, R, ns, d, f, hp, hkn, t5, hlen, hsm, hcell, hF⟩, t0, t4, t2, t3⟩ := hI
 have hrob : ¬ b4 < ro := by omega
 unfold ptr at t0 t4 t2
 by_cases hk : k < 9
 . obtain ⟨m, rfl⟩ : ∃ m, n = m + 1 := ⟨n - 1, by omega⟩
   have kk : (k : Int) < 9 := by omega
   simp only [hdL] at hF
   have hpk := peek_sp C d hs
   by_cases hbr : 5 <= k /\ pk s R ≠ 32
   . rw [if_pos hbr] at hF
     have k5 : (5 : Int) <= (k : Int) := by omega
     have kp : (pk s R != 32) = true := by simpa using hbr.2
     have := hQ
     refine okE.flat (fun _ => rfl) ?_
     unfold ptr at hpk
     simp [W45_0, R45_8, R45_10, t0, t4, t5, hk, kk, hbr.1, k5, hpk, kp]
     exact hQ _ _ R ns d f hp hlen hsm hcell hF.symm (by simp [t0]) (by simp [t4]) (by simp [t2]) (by simp [t3])
   . rw [if_neg hbr] at hF
     obtain ⟨g1, hc1, d1, f1⟩ := expect_sp C L d hr hs 32
     have hp1 := exS_pos (s := s) (R := R) 32 hp
     obtain ⟨g2, hc2, d2, f2⟩ := num_sp C L d1 hr hs hp1
     have hp2 := numS_pos hp1
     have hle := numS_le s (exS s R 32)
     generalize numS s (exS s R 32) = q at hc2 d2 hp2 hle hF
     have hlt : b4 < O.next g := L.alive_lt _ _ (L.cell_alive _ _ _ _ (hcell 0 (by omega)))
     have hc2b : O.cell g2 b4 k = some (.int .i64 (ns.getD k 0)) := by
      rw [((f1.trans f2).2 b4 hlt (by simp; exact fun e => hne e.symm)).1]
      exact hcell k hk
     have hcells : ∀ i, i < 9 -> O.cell (O.put g2 b4 k (.int .i64 q.1)) b4 i = some (.int .i64 ((ns.set k q.1).getD i 0)) := by
      intro i hi
      rw [L.cell_put _ _ _ _ _ hc2b, set_get ns k q.1 i (by omega)]
      by_cases e : i = k
      . simp [e]
      . rw [if_neg (fun x => e x.2), if_neg e, ((f1.trans f2).2 b4 hlt (by simp; exact fun e => hne e.symm)).1]
        exact hcell i hi
     have d3 : Rd O (O.put g2 b4 k (.int .i64 q.1)) r s q.2 := d2.fr L (Fr.put (S := [b4]) L (by simp) hc2b) (by simpa using hne)
     have f3 : Fr O [r, b4] h0 (O.put g2 b4 k (.int .i64 q.1)) := (f.trans ((f1.trans f2).mono (by simp))).trans (Fr.put L (by simp) hc2b)
     obtain ⟨q1, hq1⟩ : ∃ q1, q1 = k + 1 := ⟨_, rfl⟩
     have hw : IntKind.i64.wrap ((k : Int) + 1) = (q1 : Int) := by rw [wrap_id (by omega) (by omega)]; omega
     have hc1' : c 86 [Value.pointer (some ⟨r, 0, none⟩), .int .i64 32] g = some (.tuple #[], g1) := hc1
     unfold ptr at hc2 hpk
     have hnew : ∀ t' : Env, t' 0 = .pointer (some ⟨r, 0, none⟩) -> t' 4 = .pointer (some ⟨b4, 0, none⟩) -> t' 2 = .pointer (some ⟨b2, 0, none⟩) -> t' 3 = .bool bn -> t' 5 = .int .i64 (q1 : Int) -> ∃ n', n' < m + 1 /\ HI9 O r s b2 b4 bn h0 F n' t' (O.put g2 b4 k (.int .i64 q.1)) :=
      fun t' e0 e4 e2 e3 e5 => ⟨m, by omega, ⟨⟨q1, q.2, ns.set k q.1, d3, f3, hp2, by omega, e5, by simp [hlen], fun x hx => by
       rcases List.mem_or_eq_of_mem_set hx with h | h
       . exact hsm x h
       . rw [h]; exact hle, hcells, by rw [hq1]; exact hF⟩, e0, e4, e2, e3⟩⟩
     refine okE.flat (fun _ => rfl) ?_
     by_cases h5 : 5 <= k
     . have k5 : (5 : Int) <= (k : Int) := by omega
       have kp : (pk s R != 32) = false := by
        have : pk s R = 32 := Classical.byContradiction fun x => hbr ⟨h5, x⟩
        simpa using this
       simp [W45_0, R45_8, R45_10, R45_11, R45_12, R45_9, t0, t4, t5, hk, kk, h5, k5, hpk, kp, hc1', hc2, hrob, hc2b, hw]
       exact hnew _ (by simp [t0]) (by simp [t4]) (by simp [t2]) (by simp [t3]) (by simp)
     . have k5 : ¬ (5 : Int) <= (k : Int) := by omega
       simp [W45_0, R45_8, R45_10, R45_11, R45_12, R45_9, t0, t4, t5, hk, kk, h5, k5, hc1', hc2, hrob, hc2b, hw]
       exact hnew _ (by simp [t0]) (by simp [t4]) (by simp [t2]) (by simp [t3]) (by simp)
 . have hn0 : n = 0 := by omega
   subst hn0
   have kk : ¬ (k : Int) < 9 := by omega
   simp only [hdL] at hF
   refine okE.flat (fun _ => rfl) ?_
   simp [W45_0, R45_8, t5, hk, kk]
   exact hQ _ _ R ns d f hp hlen hsm hcell hF.symm (by simp [t0]) (by simp [t4]) (by simp [t2]) (by simp [t3])
theorem getD_lt {ns : List Nat} (h : ∀ x ∈ ns, x < 10000) (i : Nat) : ns.getD i 0 < 10000 := by
 rw [List.getD_eq_getElem?_getD]
 cases hx : ns[i]? with
 | none => simp
 | some v => simpa using h v (List.mem_of_getElem? hx)
theorem hd_sp (C : Lim Tryz.prog O ro okS c) (L : O.Law) {h : H} {r : Nat} {s : ByteArray} {R : RS} (d : Rd O h r s R) (hr : ro <= r) (hro : ro <= O.next h) (hs : s.size <= 1000) (hp : R.pos <= s.size) :
 ∃ h', c 45 [ptr r] h = some (hdV (hdS s R).1 (hdS s R).2.1, h') /\ Rd O h' r s (hdS s R).2.2 /\ Fr O [r] h h' /\ (hdS s R).2.2.pos <= s.size /\ (hdS s R).2.1.length = 9 /\ (∀ x ∈ (hdS s R).2.1, x < 10000) := by
 obtain ⟨b2, hb2⟩ : ∃ b2, b2 = O.next h := ⟨_, rfl⟩
 obtain ⟨h1, hh1⟩ : ∃ h1, h1 = O.new h [.bool false, .int .i64 0, .int .i64 0, .int .i64 0, .int .i64 0, .int .i64 0, .int .i64 0, .int .i64 0] := ⟨_, rfl⟩
 have d1 : Rd O h1 r s R := by rw [hh1]; exact d.new L _
 have f1 : Fr O [r] h h1 := by rw [hh1]; exact Fr.new L _
 have n1 : O.next h1 = b2 + 1 := by rw [hh1, L.next_new, hb2]
 have z1 : ∀ i, i < 8 -> ∃ v, O.cell h1 b2 i = some v := by
  intro i hi
  rw [hh1, L.cell_new, if_pos hb2]
  match i, hi with
  | 0, _ => exact ⟨_, rfl⟩
  | 1, _ => exact ⟨_, rfl⟩
  | 2, _ => exact ⟨_, rfl⟩
  | 3, _ => exact ⟨_, rfl⟩
  | 4, _ => exact ⟨_, rfl⟩
  | 5, _ => exact ⟨_, rfl⟩
  | 6, _ => exact ⟨_, rfl⟩
  | 7, _ => exact ⟨_, rfl⟩
 obtain ⟨h2, hc2, d2, f2⟩ := expect_sp C L d1 hr hs 97
 have p2 := exS_pos (s := s) (R := R) 97 hp
 obtain ⟨h3, hc3, d3, f3⟩ := take_sp C L d2 hr hs 105
 have hrlt := d.lt L
 have tail : ∀ (bn : Bool) (R5 : RS) (h5 : H) (t : Env), Rd O h5 r s R5 -> Fr O [r] h1 h5 -> R5.pos <= s.size -> t 0 = ptr r -> t 2 = ptr b2 -> t 3 = .bool bn -> (hdS s R = (bn, (hdL 9 s 0 R5 [0, 0, 0, 0, 0, 0, 0, 0, 0]).1, exS s (hdL 9 s 0 R5 [0, 0, 0, 0, 0, 0, 0, 0, 0]).2 10)) ->
  okE c (cSeq (cReg (R45_6 O Tryz.prog ro)) (cSeq (cSeq (cReg (R45_7 O Tryz.prog ro)) (cBlk 0 (cLoop (W45_0 O Tryz.prog ro)))) (cSeq (cReg (R45_13 O Tryz.prog ro)) (cSeq (cReg (R45_14 O Tryz.prog ro)) cRet)))) (t, h5)
   (fun e t h' => (e = .ret \/ e = .normal) /\ ∃ v, resE O Tryz.prog [ResultVar.cell 2 86] t h' = some v /\ (v = hdV (hdS s R).1 (hdS s R).2.1 /\ Rd O h' r s (hdS s R).2.2 /\ Fr O [r] h h' /\ (hdS s R).2.2.pos <= s.size /\ (hdS s R).2.1.length = 9 /\ (∀ x ∈ (hdS s R).2.1, x < 10000))) := by
  intro bn R5 h5 t d5 f5 p5 t0 t2 t3 hfin
  obtain ⟨b4, hb4⟩ : ∃ b4, b4 = O.next h5 := ⟨_, rfl⟩
  obtain ⟨h6, hh6⟩ : ∃ h6, h6 = O.new h5 [.int .i64 0, .int .i64 0, .int .i64 0, .int .i64 0, .int .i64 0, .int .i64 0, .int .i64 0, .int .i64 0, .int .i64 0] := ⟨_, rfl⟩
  have d6 : Rd O h6 r s R5 := by rw [hh6]; exact d5.new L _
  have f6 : Fr O [] h5 h6 := by rw [hh6]; exact Fr.new L _
  have lt5 : O.next h1 <= O.next h5 := f5.1
  have hrb : r ≠ b4 := by omega
  have z6 : ∀ i, i < 9 -> O.cell h6 b4 i = some (.int .i64 (([0, 0, 0, 0, 0, 0, 0, 0, 0] : List Nat).getD i 0)) := by
   intro i hi
   rw [hh6, L.cell_new, if_pos hb4]
   match i, hi with
   | 0, _ => rfl
   | 1, _ => rfl
   | 2, _ => rfl
   | 3, _ => rfl
   | 4, _ => rfl
   | 5, _ => rfl
   | 6, _ => rfl
   | 7, _ => rfl
   | 8, _ => rfl
  refine okE.seq (okE.flat (fun _ => rfl) ?_)
  simp [R45_6, thenE, <- hb4, <- hh6]
  refine okE.seq (okE.seq (okE.flat (fun _ => rfl) ?_))
  simp [R45_7, thenE]
  refine okE.blk ?_
  refine okE.loop (HI9 O r s b2 b4 bn h6 (hdL 9 s 0 R5 [0, 0, 0, 0, 0, 0, 0, 0, 0])) (hd_round C L hr (by omega) hrb hs ?_) 9 _ _ ⟨⟨0, R5, _, d6, Fr.refl _ _, p5, rfl, by simp, rfl, by simp, z6, rfl⟩, by simp [t0], by simp, by simp [t2], by simp [t3]⟩
  intro t' g R7 ns d7 f7 p7 hlen hsm hcell hF q0 q4 q2 q3
  unfold ptr at q0 q4 q2
  rw [hF] at hfin
  simp only at hfin
  simp only [outOf, thenE, if_true]
  obtain ⟨g8, hc8, d8, f8⟩ := expect_sp C L d7 hr hs 10
  have p8 := exS_pos (s := s) (R := R7) 10 p7
  have hc8' : c 86 [Value.pointer (some ⟨r, 0, none⟩), .int .i64 10] g = some (.tuple #[], g8) := hc8
  have lt6 : O.next h5 + 1 <= O.next g := by have := f7.1; rw [hh6, L.next_new] at this; exact this
  have hb4g : b4 < O.next g := by omega
  have cell8 : ∀ i, i < 9 -> O.cell g8 b4 i = some (.int .i64 (ns.getD i 0)) := fun i hi => by
   rw [(f8.2 b4 hb4g (by simp; exact fun e => hrb e.symm)).1]; exact hcell i hi
  have fz : Fr O [r, b4] h1 g8 := ((f5.mono (by simp)).trans (f6.mono (by simp))).trans (f7.trans (f8.mono (by simp)))
  have hb21 : b2 < O.next h1 := by omega
  have hb2r : b2 ≠ r := by omega
  have hb24 : b2 ≠ b4 := by omega
  have z8 : ∀ i, i < 8 -> ∃ v, O.cell g8 b2 i = some v := fun i hi => by
   obtain ⟨v, hv⟩ := z1 i hi
   exact ⟨v, by rw [(fz.2 b2 hb21 (by simp; exact ⟨hb2r, hb24⟩)).1]; exact hv⟩
  have stores : ∀ (l : List Value) (o : Nat) (w : H), o + l.length = 8 -> (∀ i, i < 8 -> ∃ v, O.cell w b2 i = some v) -> ∃ w', putsA O w b2 o l = some w' /\ (∀ i, i < 8 -> O.cell w' b2 i = if o <= i then l[i - o]? else O.cell w b2 i) /\ Fr O [b2] w w' := by
   intro l
   induction l with
   | nil => intro o w ho hz; exact ⟨w, rfl, fun i hi => by rw [if_neg (by simp at ho; omega)], Fr.refl _ _⟩
   | cons v l ih =>
    intro o w ho hz
    simp only [List.length_cons] at ho
    obtain ⟨x, hx⟩ := hz o (by omega)
    obtain ⟨w', e1, e2, e3⟩ := ih (o + 1) (O.put w b2 o v) (by omega) (fun i hi => by
     rw [L.cell_put _ _ _ _ _ hx]
     by_cases e : i = o
     . exact ⟨v, by simp [e]⟩
     . rw [if_neg (fun y => e y.2)]; exact hz i hi)
    refine ⟨w', by simp only [putsA, hx]; exact e1, fun i hi => ?_, (Fr.put L (by simp) hx).trans e3⟩
    rw [e2 i hi]
    by_cases e : i = o
    . subst e; rw [if_neg (by omega), L.cell_put _ _ _ _ _ hx]; simp
    . by_cases e' : o + 1 <= i
      . rw [if_pos e', if_pos (by omega), show i - o = (i - (o + 1)) + 1 by omega]; simp
      . rw [if_neg e', if_neg (by omega), L.cell_put _ _ _ _ _ hx, if_neg (fun y => e y.2)]
  have ht := fun i => getD_lt hsm i
  have h67 := ht 6
  have h77 := ht 7
  have h87 := ht 8
  have w1 : IntKind.i64.wrap ((ns.getD 6 0 : Nat) + (ns.getD 7 0 : Nat) : Int) = (ns.getD 6 0 : Nat) + (ns.getD 7 0 : Nat) := wrap_id (by omega) (by omega)
  obtain ⟨sm, hsm2⟩ : ∃ sm, sm = ns.getD 6 0 + ns.getD 7 0 + ns.getD 8 0 := ⟨_, rfl⟩
  have w2 : IntKind.i64.wrap ((ns.getD 6 0 : Nat) + (ns.getD 7 0 : Nat) + (ns.getD 8 0 : Nat) : Int) = (sm : Int) := by rw [wrap_id (by omega) (by omega)]; omega
  obtain ⟨w', hput, hget, hfr⟩ := stores [.bool bn, .int .i64 (ns.getD 0 0), .int .i64 (ns.getD 1 0), .int .i64 (ns.getD 2 0), .int .i64 (ns.getD 3 0), .int .i64 (ns.getD 4 0), .int .i64 (ns.getD 5 0), .int .i64 sm] 0 g8 rfl z8
  have c80 := cell8 0 (by omega)
  have c81 := cell8 1 (by omega)
  have c82 := cell8 2 (by omega)
  have c83 := cell8 3 (by omega)
  have c84 := cell8 4 (by omega)
  have c85 := cell8 5 (by omega)
  have c86 := cell8 6 (by omega)
  have c87 := cell8 7 (by omega)
  have c88 := cell8 8 (by omega)
  have hro2 : ¬ b2 < ro := by omega
  have hcl : cellsA O w' b2 0 8 = some [.bool bn, .int .i64 (ns.getD 0 0), .int .i64 (ns.getD 1 0), .int .i64 (ns.getD 2 0), .int .i64 (ns.getD 3 0), .int .i64 (ns.getD 4 0), .int .i64 (ns.getD 5 0), .int .i64 sm] := by
   simp only [cellsA, hget 0 (by omega), hget 1 (by omega), hget 2 (by omega), hget 3 (by omega), hget 4 (by omega), hget 5 (by omega), hget 6 (by omega), hget 7 (by omega)]
   rfl
  have d9 : Rd O w' r s (exS s R7 10) := d8.fr L hfr (by simpa using fun e => hb2r e.symm)
  have f9 : Fr O [r] h w' := by
   refine ⟨by have := f1.1; have := fz.1; have := hfr.1; omega, fun x hx hxs => ?_⟩
   have a1 := f1.2 x hx hxs
   have a2 := fz.2 x (by omega) (by simp at hxs ⊢; exact ⟨hxs, by omega⟩)
   have a3 := hfr.2 x (by have := fz.1; omega) (by simp; omega)
   exact ⟨fun o => ((a3.1 o).trans (a2.1 o)).trans (a1.1 o), (a3.2.trans a2.2).trans a1.2⟩
  have fin : (hdV bn ns = hdV (hdS s R).1 (hdS s R).2.1 /\ Rd O w' r s (hdS s R).2.2 /\ Fr O [r] h w' /\ (hdS s R).2.2.pos <= s.size /\ (hdS s R).2.1.length = 9 /\ (∀ x ∈ (hdS s R).2.1, x < 10000)) := by
   rw [hfin]; exact ⟨rfl, d9, f9, p8, hlen, hsm⟩
  have hv : hdV bn ns = .agg #[.bool bn, .int .i64 (ns.getD 0 0), .int .i64 (ns.getD 1 0), .int .i64 (ns.getD 2 0), .int .i64 (ns.getD 3 0), .int .i64 (ns.getD 4 0), .int .i64 (ns.getD 5 0), .int .i64 sm] := by rw [hsm2]; rfl
  rw [hv] at fin
  generalize (hdS s R).1 = y1 at *
  generalize (hdS s R).2.1 = y2 at *
  generalize (hdS s R).2.2 = y3 at *
  generalize ns.getD 0 0 = a0 at *
  generalize ns.getD 1 0 = a1 at *
  generalize ns.getD 2 0 = a2 at *
  generalize ns.getD 3 0 = a3 at *
  generalize ns.getD 4 0 = a4 at *
  generalize ns.getD 5 0 = a5 at *
  generalize ns.getD 6 0 = a6 at *
  generalize ns.getD 7 0 = a7 at *
  generalize ns.getD 8 0 = a8 at *
  refine okE.flat (fun _ => rfl) ?_
  simp [R45_13, R45_14, q0, q4, q2, q3, hc8', c80, c81, c82, c83, c84, c85, c86, c87, c88, w1, w2, hput, hro2, loadH, hcl, List.zipIdx, -putsA]
  exact fin
 have key : ∃ v h', c 45 [ptr r] h = some (v, h') /\ (v = hdV (hdS s R).1 (hdS s R).2.1 /\ Rd O h' r s (hdS s R).2.2 /\ Fr O [r] h h' /\ (hdS s R).2.2.pos <= s.size /\ (hdS s R).2.1.length = 9 /\ (∀ x ∈ (hdS s R).2.1, x < 10000)) := by
  refine C.fn (F45_fn O ro) rfl rfl ?_
  unfold F45
  have hc2' : c 86 [Value.pointer (some ⟨r, 0, none⟩), .int .i64 97] h1 = some (.tuple #[], h2) := hc2
  have hc3' : c 87 [Value.pointer (some ⟨r, 0, none⟩), .int .i64 105] h2 = some (.bool (decide (pk s (exS s R 97) = 105)), h3) := hc3
  refine okE.seq (okE.flat (fun _ => rfl) ?_)
  simp [R45_0, thenE, <- hb2, <- hh1, -resE, -resLE, -rvE]
  refine okE.seq (okE.flat (fun _ => rfl) ?_)
  simp [R45_1, thenE, hc2', -resE, -resLE, -rvE]
  refine okE.seq (okE.flat (fun _ => rfl) ?_)
  simp [R45_2, thenE, hc3', -resE, -resLE, -rvE]
  by_cases hbn : pk s (exS s R 97) = 105
  . have d3' : Rd O h3 r s ⟨(exS s R 97).pos + 1, (exS s R 97).e, (exS s R 97).ep⟩ := by simpa [hbn] using d3
    have hpl := pk_lt (s := s) (R := exS s R 97) (by omega)
    obtain ⟨h5, hc5, d5, f5⟩ := expect_sp C L d3' hr hs 103
    have p5 := exS_pos (s := s) (R := ⟨(exS s R 97).pos + 1, (exS s R 97).e, (exS s R 97).ep⟩) 103 (by simp only; omega)
    have hc5' : c 86 [Value.pointer (some ⟨r, 0, none⟩), .int .i64 103] h3 = some (.tuple #[], h5) := hc5
    refine okE.seq (okE.flat (fun _ => rfl) ?_)
    simp [R45_3, hbn, thenE, -resE, -resLE, -rvE]
    refine okE.seq (okE.flat (fun _ => rfl) ?_)
    simp [R45_5, hc5', thenE, -resE, -resLE, -rvE]
    exact tail true _ h5 _ d5 ((f2.trans f3).trans f5) p5 (by simp) (by simp) (by simp) (by simp [hdS, hdS0, hbn])
  . have d3' : Rd O h3 r s (exS s R 97) := by simpa [hbn] using d3
    obtain ⟨h4, hc4, d4, f4⟩ := expect_sp C L d3' hr hs 97
    have p4 := exS_pos (s := s) (R := exS s R 97) 97 p2
    obtain ⟨h5, hc5, d5, f5⟩ := expect_sp C L d4 hr hs 103
    have p5 := exS_pos (s := s) (R := exS s (exS s R 97) 97) 103 p4
    have hc4' : c 86 [Value.pointer (some ⟨r, 0, none⟩), .int .i64 97] h3 = some (.tuple #[], h4) := hc4
    have hc5' : c 86 [Value.pointer (some ⟨r, 0, none⟩), .int .i64 103] h4 = some (.tuple #[], h5) := hc5
    refine okE.seq (okE.flat (fun _ => rfl) ?_)
    simp [R45_3, R45_4, hbn, hc4', thenE, -resE, -resLE, -rvE]
    refine okE.seq (okE.flat (fun _ => rfl) ?_)
    simp [R45_5, hc5', thenE, -resE, -resLE, -rvE]
    exact tail false _ h5 _ d5 (((f2.trans f3).trans f4).trans f5) p5 (by simp) (by simp) (by simp) (by simp [hdS, hdS0, hbn])
 obtain ⟨v, h', e1, rfl, e2⟩ := key
 exact ⟨h', e1, e2⟩
end
end Go.Proofs.YtlakdngplpabdaaGreatDoor
