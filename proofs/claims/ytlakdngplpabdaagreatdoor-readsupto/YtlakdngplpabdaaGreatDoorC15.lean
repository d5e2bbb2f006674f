/- Own work. -/
import Derived.Test.YtlakdngplpabdaaGreatDoorC14
namespace Go.Proofs.YtlakdngplpabdaaGreatDoor
open Go.Vm Go.Proofs
set_option linter.unusedSimpArgs false
set_option linter.unusedVariables false
set_option maxHeartbeats 1000000
attribute [local simp] cSeq cReg reg to mv too onlyIf onlyIfo aMove aNil aFld aLd aInt aPick aLenStr aIdxStr aConv aUn unA ev upd_get isB envOf iA_add iA_sub iA_mul iA_eql iA_neq iA_lss iA_leq iA_gtr iA_geq cIf cRet cSkip okc_some resE resLE rvE aSt vc_int vc_bool vc_agg vc_str vc_ptr vc_sl ft_int ft_bool ft_str ft_ptr ft_sl tp_int tp_bool tp_agg tp_str tp_ptr tp_sl aBuild Instr.fill aCall cExit cBlk outOf ptr undef aNew aBox aIdxArr aLdN aShift shiftA aLenSl aIdx aMkSl aApp rangeA
section
variable {H : Type} {O : HI H} {ro : Nat} {c : CallT H}
def insB (k : Nat) (x : Net × RS) : Net × RS :=
 ({ x.1.give ((2 * (1 + k) : Nat) : Int) with ins := (x.1.give ((2 * (1 + k) : Nat) : Int)).ins ++ [((2 * (1 + k) : Nat) : Int)] }, x.2)
def lasB (D : HD) (s : ByteArray) (k : Nat) (x : Net × RS) : Net × RS := laS (x.1.give ((2 * (1 + D.nin + k) : Nat) : Int)) s x.2 ((2 * (1 + D.nin + k) : Nat) : Int)
def gtsB (D : HD) (s : ByteArray) (k : Nat) (x : Net × RS) : Net × RS := bgS x.1 s x.2 (2 * (1 + D.nin + D.nla + k))
def rbS (D : HD) (s : ByteArray) (x : Net × RS) : Net × RS :=
 itK (gtsB D s) 0 D.nan (prF s D (itK (lasB D s) 0 D.nla (itK insB 0 D.nin x)))
theorem rb_ins (C : Lim Tryz.prog O ro okS c) (L : O.Law) {w0 : Own} {h0 : H} {r n b : Nat} {s : ByteArray} {D : HD} (hs : s.size <= 1000) (hD : D.nin <= 100) (x0 : Net × RS) (w : Own) (h : H) (t : Env)
 (x : ST O ro w h r s x0.2 n x0.1) (y : Bx O ro w h (103, 0) b (hdc D)) (cc : Ch O (KN 4) w0 h0 w h) (hp : x0.2.pos <= s.size) (hl : x0.1.ins = []) (ho : x0.1.outs = [] /\ x0.1.bads = [] /\ x0.1.las = [] /\ x0.1.gates = [])
 (t0 : t 0 = ptr n) (t1 : t 1 = ptr r) (t5 : t 5 = ptr b) (t6 : t 6 = .int .i64 0) :
 okE c (cBlk 0 (cLoop (W49_0 O Tryz.prog ro))) (t, h) (fun e t' h' => e = .normal /\ t' 0 = ptr n /\ t' 1 = ptr r /\ t' 5 = ptr b /\ ∃ w', ST O ro w' h' r s (itK insB 0 D.nin x0).2 n (itK insB 0 D.nin x0).1 /\ Bx O ro w' h' (103, 0) b (hdc D) /\ Ch O (KN 4) w0 h0 w' h' /\ (itK insB 0 D.nin x0).2.pos <= s.size /\ (itK insB 0 D.nin x0).1.outs = [] /\ (itK insB 0 D.nin x0).1.bads = [] /\ (itK insB 0 D.nin x0).1.las = [] /\ (itK insB 0 D.nin x0).1.gates = []) := by
 refine okE.blk ?_
 refine okE.loop (fun m t g => ∃ j z w', ST O ro w' g r s z.2 n z.1 /\ Bx O ro w' g (103, 0) b (hdc D) /\ Ch O (KN 4) w0 h0 w' g /\ t 0 = ptr n /\ t 1 = ptr r /\ t 5 = ptr b /\ t 6 = .int .i64 (j : Nat) /\ z.2.pos <= s.size /\ j + m = D.nin + 1 /\ 0 < m /\ z.1.ins.length = j /\ (z.1.outs = [] /\ z.1.bads = [] /\ z.1.las = [] /\ z.1.gates = []) /\ itK insB j (m - 1) z = itK insB 0 D.nin x0) ?_ (D.nin + 1) _ _ ⟨0, x0, w, x, y, cc, t0, t1, t5, t6, hp, by omega, by omega, by rw [hl]; rfl, ho, rfl⟩
 intro m t g hI
 obtain ⟨j, z, w', x', y', c', t0, t1, t5, t6, hp', hj, hm, hl', ho', hfin⟩ := hI
 have y2 := y'.get 2 _ rfl
 unfold ptr at t0 t1 t5
 by_cases hlt : j < D.nin
 . obtain ⟨m', rfl⟩ : ∃ m', m = m' + 2 := ⟨m - 2, by omega⟩
   have hfin2 : itK insB (j + 1) m' (insB j z) = itK insB 0 D.nin x0 := hfin
   obtain ⟨l, hl2⟩ : ∃ l : Nat, l = 2 * (1 + j) := ⟨_, rfl⟩
   obtain ⟨h2, hc2, x2, c2⟩ := give_w C L x' l
   have yy2 := y'.ch L c2 (by simp [Kc])
   obtain ⟨v, v', hB, wB, eB, eC, ⟨f1, f2, f3⟩, eD, hron, xB, cB⟩ := ST.app1 L x2 l (by rw [give_ins]; omega)
   have yB := yy2.ch L cB (by simp [Kc])
   have ccB := (c'.trans (Kc.mono c2 (by decide) (by omega))).trans (Kc.mono cB (by decide) (by omega))
   obtain ⟨q, hq⟩ : ∃ q, q = j + 1 := ⟨_, rfl⟩
   have hw : IntKind.i64.wrap ((j : Int) + 1) = (q : Int) := by rw [wrap_id (by omega) (by omega)]; omega
   have hw1 : IntKind.i64.wrap (1 + (j : Int)) = 1 + (j : Int) := wrap_id (by omega) (by omega)
   have hw2 : IntKind.i64.wrap (2 * (1 + (j : Int))) = (l : Int) := by rw [wrap_id (by omega) (by omega)]; omega
   have hlt' : (j : Int) < D.nin := by omega
   unfold ptr at hc2
   have hz : insB j z = ({ z.1.give (l : Int) with ins := (z.1.give (l : Int)).ins ++ [(l : Int)] }, z.2) := by unfold insB; rw [<- hl2]
   refine okE.flat (fun _ => rfl) ?_
   simp [W49_0, R49_2, R49_4, R49_5, R49_6, R49_3, t0, t1, t5, t6, y2, hlt, hlt', hw1, hw2, hc2, List.zipIdx, List.range_succ, eB, eC, f1, f2, f3, eD, hron, putsA, hw]
   refine ⟨m' + 1, by omega, q, (insB j z).1, (insB j z).2, wB, by rw [hz]; exact xB, yB, ccB, rfl, hp', by omega, by omega, ?_, ?_, by rw [hq]; exact hfin2⟩
   . rw [hz]
     show (_ ++ [_]).length = q
     rw [List.length_append, give_ins]; simp; omega
   . rw [hz]
     show (z.1.give l).outs = [] /\ (z.1.give l).bads = [] /\ (z.1.give l).las = [] /\ (z.1.give l).gates = []
     rw [give_outs, give_bads, give_las, give_gates]; exact ho'
 . have hm1 : m = 1 := by omega
   subst hm1
   have hfin2 : z = itK insB 0 D.nin x0 := hfin
   rw [<- hfin2]
   have hlt' : ¬ (j : Int) < D.nin := by omega
   refine okE.flat (fun _ => rfl) ?_
   simp [W49_0, R49_2, t0, t1, t5, t6, y2, hlt, hlt']
   exact ⟨w', x', y', c', hp', ho'⟩
theorem rb_las (C : Lim Tryz.prog O ro okS c) (L : O.Law) {w0 : Own} {h0 : H} {r n b : Nat} {s : ByteArray} {D : HD} (hs : s.size <= 1000) (hD : D.nla <= 100) (hD2 : D.nin <= 100) (x0 : Net × RS) (w : Own) (h : H) (t : Env)
 (x : ST O ro w h r s x0.2 n x0.1) (y : Bx O ro w h (103, 0) b (hdc D)) (cc : Ch O (KN 4) w0 h0 w h) (hp : x0.2.pos <= s.size) (hl : x0.1.las = []) (ho : x0.1.outs = [] /\ x0.1.bads = [] /\ x0.1.gates = [])
 (t0 : t 0 = ptr n) (t1 : t 1 = ptr r) (t5 : t 5 = ptr b) (t8 : t 8 = .int .i64 0) :
 okE c (cBlk 2 (cLoop (W49_1 O Tryz.prog ro))) (t, h) (fun e t' h' => e = .normal /\ t' 0 = ptr n /\ t' 1 = ptr r /\ t' 5 = ptr b /\ ∃ w', ST O ro w' h' r s (itK (lasB D s) 0 D.nla x0).2 n (itK (lasB D s) 0 D.nla x0).1 /\ Bx O ro w' h' (103, 0) b (hdc D) /\ Ch O (KN 4) w0 h0 w' h' /\ (itK (lasB D s) 0 D.nla x0).2.pos <= s.size /\ (itK (lasB D s) 0 D.nla x0).1.outs = [] /\ (itK (lasB D s) 0 D.nla x0).1.bads = [] /\ (itK (lasB D s) 0 D.nla x0).1.gates = []) := by
 refine okE.blk ?_
 refine okE.loop (fun m t g => ∃ j z w', ST O ro w' g r s z.2 n z.1 /\ Bx O ro w' g (103, 0) b (hdc D) /\ Ch O (KN 4) w0 h0 w' g /\ t 0 = ptr n /\ t 1 = ptr r /\ t 5 = ptr b /\ t 8 = .int .i64 (j : Nat) /\ z.2.pos <= s.size /\ j + m = D.nla + 1 /\ 0 < m /\ z.1.las.length = j /\ (z.1.outs = [] /\ z.1.bads = [] /\ z.1.gates = []) /\ itK (lasB D s) j (m - 1) z = itK (lasB D s) 0 D.nla x0) ?_ (D.nla + 1) _ _ ⟨0, x0, w, x, y, cc, t0, t1, t5, t8, hp, by omega, by omega, by rw [hl]; rfl, ho, rfl⟩
 intro m t g hI
 obtain ⟨j, z, w', x', y', c', t0, t1, t5, t8, hp', hj, hm, hl', ho', hfin⟩ := hI
 have y2 := y'.get 3 _ rfl
 have y1 := y'.get 2 _ rfl
 unfold ptr at t0 t1 t5
 by_cases hlt : j < D.nla
 . obtain ⟨m', rfl⟩ : ∃ m', m = m' + 2 := ⟨m - 2, by omega⟩
   have hfin2 : itK (lasB D s) (j + 1) m' (lasB D s j z) = itK (lasB D s) 0 D.nla x0 := hfin
   obtain ⟨l, hl2⟩ : ∃ l : Nat, l = 2 * (1 + D.nin + j) := ⟨_, rfl⟩
   obtain ⟨h2, hc2, x2, c2⟩ := give_w C L x' l
   have yy2 := y'.ch L c2 (by simp [Kc])
   obtain ⟨wB, hB, hcB, xB, cB⟩ := la_w C L x2 hs hp' l (by rw [give_las]; omega)
   have yB := yy2.ch L cB (by simp [Kc])
   have ccB := (c'.trans (Kc.mono c2 (by decide) (by omega))).trans (Kc.mono cB (by decide) (by omega))
   obtain ⟨q, hq⟩ : ∃ q, q = j + 1 := ⟨_, rfl⟩
   have hw : IntKind.i64.wrap ((j : Int) + 1) = (q : Int) := by rw [wrap_id (by omega) (by omega)]; omega
   have hw1 : IntKind.i64.wrap (1 + (D.nin : Int)) = 1 + (D.nin : Int) := wrap_id (by omega) (by omega)
   have hw2 : IntKind.i64.wrap (1 + (D.nin : Int) + (j : Int)) = 1 + (D.nin : Int) + (j : Int) := wrap_id (by omega) (by omega)
   have hw3 : IntKind.i64.wrap (2 * (1 + (D.nin : Int) + (j : Int))) = (l : Int) := by rw [wrap_id (by omega) (by omega)]; omega
   have hlt' : (j : Int) < D.nla := by omega
   unfold ptr at hc2 hcB
   have hz : lasB D s j z = laS (z.1.give (l : Int)) s z.2 (l : Int) := by unfold lasB; rw [<- hl2]
   refine okE.flat (fun _ => rfl) ?_
   simp [W49_1, R49_8, R49_10, R49_11, R49_12, R49_9, t0, t1, t5, t8, y2, y1, hlt, hlt', hw1, hw2, hw3, hc2, hcB, hw]
   refine ⟨m' + 1, by omega, q, (lasB D s j z).1, (lasB D s j z).2, wB, by rw [hz]; exact xB, yB, ccB, rfl, by rw [hz]; exact laS_pos hp', by omega, by omega, ?_, ?_, by rw [hq]; exact hfin2⟩
   . rw [hz]
     show (_ ++ [_]).length = q
     rw [List.length_append, give_las]; simp; omega
   . rw [hz]
     show (z.1.give l).outs = [] /\ (z.1.give l).bads = [] /\ (z.1.give l).gates = []
     rw [give_outs, give_bads, give_gates]; exact ho'
 . have hm1 : m = 1 := by omega
   subst hm1
   have hfin2 : z = itK (lasB D s) 0 D.nla x0 := hfin
   rw [<- hfin2]
   have hlt' : ¬ (j : Int) < D.nla := by omega
   refine okE.flat (fun _ => rfl) ?_
   simp [W49_1, R49_8, t0, t1, t5, t8, y2, hlt, hlt']
   exact ⟨w', x', y', c', hp', ho'⟩
theorem rb_gts (C : Lim Tryz.prog O ro okS c) (L : O.Law) {w0 : Own} {h0 : H} {r n b : Nat} {s : ByteArray} {D : HD} (hs : s.size <= 1000) (hD : D.nan <= 100) (hD2 : D.nin <= 100 /\ D.nla <= 100) (x0 : Net × RS) (w : Own) (h : H) (t : Env)
 (x : ST O ro w h r s x0.2 n x0.1) (y : Bx O ro w h (103, 0) b (hdc D)) (cc : Ch O (KN 4) w0 h0 w h) (hp : x0.2.pos <= s.size) (hl : x0.1.gates = [])
 (t0 : t 0 = ptr n) (t1 : t 1 = ptr r) (t5 : t 5 = ptr b) (t8 : t 10 = .int .i64 0) :
 okE c (cBlk 4 (cLoop (W49_2 O Tryz.prog ro))) (t, h) (fun e t' h' => e = .normal /\ ∃ w', ST O ro w' h' r s (itK (gtsB D s) 0 D.nan x0).2 n (itK (gtsB D s) 0 D.nan x0).1 /\ Ch O (KN 4) w0 h0 w' h' /\ (itK (gtsB D s) 0 D.nan x0).2.pos <= s.size) := by
 refine okE.blk ?_
 refine okE.loop (fun m t g => ∃ j z w', ST O ro w' g r s z.2 n z.1 /\ Bx O ro w' g (103, 0) b (hdc D) /\ Ch O (KN 4) w0 h0 w' g /\ t 0 = ptr n /\ t 1 = ptr r /\ t 5 = ptr b /\ t 10 = .int .i64 (j : Nat) /\ z.2.pos <= s.size /\ j + m = D.nan + 1 /\ 0 < m /\ z.1.gates.length = j /\ itK (gtsB D s) j (m - 1) z = itK (gtsB D s) 0 D.nan x0) ?_ (D.nan + 1) _ _ ⟨0, x0, w, x, y, cc, t0, t1, t5, t8, hp, by omega, by omega, by rw [hl]; rfl, rfl⟩
 intro m t g hI
 obtain ⟨j, z, w', x', y', c', t0, t1, t5, t8, hp', hj, hm, hl', hfin⟩ := hI
 have y2 := y'.get 5 _ rfl
 have y1 := y'.get 2 _ rfl
 have y3 := y'.get 3 _ rfl
 unfold ptr at t0 t1 t5
 by_cases hlt : j < D.nan
 . obtain ⟨m', rfl⟩ : ∃ m', m = m' + 2 := ⟨m - 2, by omega⟩
   have hfin2 : itK (gtsB D s) (j + 1) m' (gtsB D s j z) = itK (gtsB D s) 0 D.nan x0 := hfin
   obtain ⟨l, hl2⟩ : ∃ l : Nat, l = 2 * (1 + D.nin + D.nla + j) := ⟨_, rfl⟩
   obtain ⟨wB, hB, hcB, xB, cB⟩ := bg_w C L x' hs l (by omega) (by omega)
   have yB := y'.ch L cB (by simp [Kc])
   have ccB := c'.trans (Kc.mono cB (by decide) (by omega))
   obtain ⟨q, hq⟩ : ∃ q, q = j + 1 := ⟨_, rfl⟩
   have hw : IntKind.i64.wrap ((j : Int) + 1) = (q : Int) := by rw [wrap_id (by omega) (by omega)]; omega
   have hw1 : IntKind.i64.wrap (1 + (D.nin : Int)) = 1 + (D.nin : Int) := wrap_id (by omega) (by omega)
   have hw2 : IntKind.i64.wrap (1 + (D.nin : Int) + (D.nla : Int)) = 1 + (D.nin : Int) + (D.nla : Int) := wrap_id (by omega) (by omega)
   have hw4 : IntKind.i64.wrap (1 + (D.nin : Int) + (D.nla : Int) + (j : Int)) = 1 + (D.nin : Int) + (D.nla : Int) + (j : Int) := wrap_id (by omega) (by omega)
   have hw3 : IntKind.i64.wrap (2 * (1 + (D.nin : Int) + (D.nla : Int) + (j : Int))) = (l : Int) := by rw [wrap_id (by omega) (by omega)]; omega
   have hlt' : (j : Int) < D.nan := by omega
   unfold ptr at hcB
   have hz : gtsB D s j z = bgS z.1 s z.2 l := by unfold gtsB; rw [<- hl2]
   refine okE.flat (fun _ => rfl) ?_
   simp [W49_2, R49_16, R49_17, R49_18, t0, t1, t5, t8, y2, y1, y3, hlt, hlt', hw1, hw2, hw3, hw4, hcB, hw]
   refine ⟨m' + 1, by omega, q, (gtsB D s j z).1, (gtsB D s j z).2, wB, by rw [hz]; exact xB, yB, ccB, rfl, by rw [hz]; exact bgS_pos hp', by omega, by omega, ?_, by rw [hq]; exact hfin2⟩
   rw [hz]
   show (_ ++ [_]).length = q
   rw [List.length_append, give_gates]; simp; omega
 . have hm1 : m = 1 := by omega
   subst hm1
   have hfin2 : z = itK (gtsB D s) 0 D.nan x0 := hfin
   rw [<- hfin2]
   have hlt' : ¬ (j : Int) < D.nan := by omega
   refine okE.flat (fun _ => rfl) ?_
   simp [W49_2, R49_16, t0, t1, t5, t8, y2, hlt, hlt']
   exact ⟨w', x', c', hp'⟩
theorem rb_w (C : Lim Tryz.prog O ro okS c) (L : O.Law) {w : Own} {h : H} {r n : Nat} {s : ByteArray} {D : HD} (hs : s.size <= 1000) (hD : D.nin <= 100 /\ D.nla <= 100 /\ D.nou <= 100 /\ D.nbs <= 100 /\ D.nan <= 100) (x0 : Net × RS)
 (x : ST O ro w h r s x0.2 n x0.1) (hp : x0.2.pos <= s.size) (ho : x0.1.ins = [] /\ x0.1.outs = [] /\ x0.1.bads = [] /\ x0.1.las = [] /\ x0.1.gates = []) :
 ∃ w' h', c 49 [ptr n, ptr r, D.val] h = some (.tuple #[], h') /\ ST O ro w' h' r s (rbS D s x0).2 n (rbS D s x0).1 /\ Ch O (KN 4) w h w' h' /\ (rbS D s x0).2.pos <= s.size := by
 have htv : isTup D.val = false := rfl
 obtain ⟨b, hb⟩ : ∃ b, b = O.next h := ⟨_, rfl⟩
 obtain ⟨h1, hh1⟩ : ∃ h1, h1 = O.new h D.val.cells.toList := ⟨_, rfl⟩
 obtain ⟨w1, hw1⟩ : ∃ w1, w1 = w.set b (103, 0) := ⟨_, rfl⟩
 have c1 : ∀ K, Ch O K w h w1 h1 := fun K => by rw [hh1, hw1, hb]; exact Ch.new L _ _ _ _ _
 have y1 : Bx O ro w1 h1 (103, 0) b (hdc D) := by rw [hh1, hw1, hb]; exact Bx.new L _ _ x.lo _ _
 have x1 := x.ch L (c1 fun _ => False) (by simp) (by simp)
 have key : ∃ v h', c 49 [ptr n, ptr r, D.val] h = some (v, h') /\ (v = .tuple #[] /\ ∃ w', ST O ro w' h' r s (rbS D s x0).2 n (rbS D s x0).1 /\ Ch O (KN 4) w h w' h' /\ (rbS D s x0).2.pos <= s.size) := by
  refine C.fn (F49_fn O ro) rfl rfl ?_
  obtain ⟨e0, he0⟩ : ∃ e0, e0 = envOf [ptr n, ptr r, D.val] := ⟨_, rfl⟩
  have a0 : e0 0 = ptr n := by subst he0; rfl
  have a1 : e0 1 = ptr r := by subst he0; rfl
  have a2 : e0 2 = D.val := by subst he0; rfl
  rw [<- he0]
  unfold F49
  refine okE.seq (okE.flat (fun _ => rfl) ?_)
  simp [R49_0, a2, htv, <- hb, <- hh1, thenE, -resE, -resLE, -rvE]
  refine okE.seq (okE.seq (okE.flat (fun _ => rfl) ?_))
  simp [R49_1, thenE, -resE, -resLE, -rvE]
  refine okE.mono (rb_ins C L hs hD.1 x0 w1 h1 _ x1 y1 (c1 _) hp ho.1 ho.2 (by simp [a0]) (by simp [a1]) (by simp) (by simp)) ?_
  rintro e t g ⟨rfl, t0, t1, t5, w2, x2, y2, cc2, p2, o1, o2, o3, o4⟩
  simp only [thenE]
  refine okE.seq (okE.seq (okE.flat (fun _ => rfl) ?_))
  simp [R49_7, thenE, -resE, -resLE, -rvE]
  refine okE.mono (rb_las C L hs hD.2.1 hD.1 _ w2 g _ x2 y2 cc2 p2 o3 ⟨o1, o2, o4⟩ (by simp [t0]) (by simp [t1]) (by simp [t5]) (by simp)) ?_
  rintro e t' g' ⟨rfl, t0', t1', t5', w3, x3, y3, cc3, p3, q1, q2, q4⟩
  simp only [thenE]
  have y34 := y3.get 4 _ rfl
  obtain ⟨v1, g1, g2, v2, g3, w4, k1, ⟨f1, f2, f3⟩, ⟨u1, k2⟩, k3, k4, ⟨f4, f5, f6⟩, ⟨u2, k5⟩, hron, x4, c4, p4, w5, c5⟩ := pr_both C L (D := D) hs ⟨hD.2.2.1, hD.2.2.2.1⟩ _ w3 g' x3 p3 ⟨q1, q2⟩
  have y5 := (y3.ch L c5 (by simp [Kc])).get 6 _ rfl
  have y4 := y3.ch L c4 (by simp [Kc])
  unfold ptr at t0' t1' t5' k1 k4
  refine okE.seq (okE.flat (fun _ => rfl) ?_)
  simp [R49_13, t0', t1', t5', y34, k1, hron, f1, f2, k2, putsA, <- k3, thenE, -resE, -resLE, -rvE]
  refine okE.seq (okE.flat (fun _ => rfl) ?_)
  simp [R49_14, t0', t1', t5', y5, k4, hron, f4, f5, k5, putsA, thenE, -resE, -resLE, -rvE]
  refine okE.seq (okE.flat (fun _ => rfl) ?_)
  simp [R49_15, thenE, -resE, -resLE, -rvE]
  have hgt : (prF s D (itK (lasB D s) 0 D.nla (itK insB 0 D.nin x0))).1.gates = [] := q4
  refine okE.mono (rb_gts C L hs hD.2.2.2.2 ⟨hD.1, hD.2.1⟩ _ w4 _ _ x4 y4 (cc3.trans (Kc.mono c4 (by decide) (by omega))) p4 hgt (by simp [t0']) (by simp [t1']) (by simp [t5']) (by simp)) ?_
  rintro e t' g' ⟨rfl, w6, x6, cc6, p6⟩
  simp
  exact ⟨w6, x6, cc6, p6⟩
 obtain ⟨v, h', e1, rfl, w', e2⟩ := key
 exact ⟨w', h', e1, e2⟩
end
section
variable {H : Type} {O : HI H} {ro : Nat} {c : CallT H}
theorem flat_at {α : Type} (f : α -> List Value) (k : Nat) (hf : ∀ x, (f x).length = k) : ∀ (l : List α) (j : Nat) (hj : j < l.length) (i : Nat), i < k -> (l.flatMap f)[j * k + i]? = (f l[j])[i]? := by
 intro l
 induction l with
 | nil => intro j hj; simp at hj
 | cons x l ih =>
  intro j hj i hi
  rw [List.flatMap_cons]
  cases j with
  | zero =>
   rw [Nat.zero_mul, Nat.zero_add, List.getElem?_append_left (by rw [hf]; exact hi)]
   rfl
  | succ j =>
   rw [List.getElem?_append_right (by rw [hf, Nat.add_mul]; omega), hf]
   have : (j + 1) * k + i - k = j * k + i := by rw [Nat.add_mul]; omega
   rw [this, ih j (by simpa using hj) i hi]
   simp
theorem Bx.at {w : Own} {h : H} {t : Tag} {b : Nat} {l : List Value} (x : Bx O ro w h t b l) (o : Nat) (new : List Value) (hn : ∀ i, i < new.length -> l[o + i]? = new[i]?) : cellsA O h b o new.length = some new := by
 refine cellsA_get _ o new rfl fun i hi => ?_
 have := hn i hi
 rw [List.getElem?_eq_getElem hi] at this ⊢
 exact x.get _ _ this
def net0 (top : Nat) : Net := ⟨(List.range (top + 1)).map (· == 0), [], [], [], [], []⟩
theorem new_w (C : Lim Tryz.prog O ro okS c) (L : O.Law) {w : Own} {h : H} (hro : ro <= O.next h) (top : Nat) (ht : top <= 10000) :
 ∃ n w' h', c 48 [.int .i64 top] h = some (ptr n, h') /\ (∃ v0 v1 v2 v3 v4 v5, NL O ro w' h' n (net0 top) v0 v1 v2 v3 v4 v5) /\ Ch O (Kc [2] 0) w h w' h' /\ ro <= O.next h' := by
 obtain ⟨n, hn⟩ : ∃ n, n = O.next h := ⟨_, rfl⟩
 obtain ⟨h1, hh1⟩ : ∃ h1, h1 = O.new h [.slice none 0 0, .slice none 0 0, .slice none 0 0, .slice none 0 0, .slice none 0 0, .slice none 0 0] := ⟨_, rfl⟩
 obtain ⟨w1, hw1⟩ : ∃ w1, w1 = w.set n (2, 1000) := ⟨_, rfl⟩
 have c1 : ∀ K, Ch O K w h w1 h1 := fun K => by rw [hh1, hw1, hn]; exact Ch.new L _ _ _ _ _
 have y1 : Bx O ro w1 h1 (2, 1000) n [.slice none 0 0, .slice none 0 0, .slice none 0 0, .slice none 0 0, .slice none 0 0, .slice none 0 0] := by rw [hh1, hw1, hn]; exact Bx.new L _ _ hro _ _
 have lo1 : ro <= O.next h1 := Nat.le_trans hro (c1 fun _ => True).nx
 have key : ∃ v h', c 48 [.int .i64 top] h = some (v, h') /\ (v = ptr n /\ ∃ w', (∃ v0 v1 v2 v3 v4 v5, NL O ro w' h' n (net0 top) v0 v1 v2 v3 v4 v5) /\ Ch O (Kc [2] 0) w h w' h' /\ ro <= O.next h') := by
  refine C.fn (F48_fn O ro) rfl rfl ?_
  unfold F48
  refine okE.seq (okE.flat (fun _ => rfl) ?_)
  simp [R48_0, thenE, -resE, -resLE, -rvE]
  refine okE.seq (okE.flat (fun _ => rfl) ?_)
  simp [R48_1, thenE, <- hn, <- hh1, -resE, -resLE, -rvE]
  refine okE.seq (okE.seq (okE.flat (fun _ => rfl) ?_))
  simp [R48_2, thenE, -resE, -resLE, -rvE]
  refine okE.blk ?_
  refine okE.loop (fun m t g => ∃ j v0 w', Bx O ro w' g (2, 1000) n [v0, .slice none 0 0, .slice none 0 0, .slice none 0 0, .slice none 0 0, .slice none 0 0] /\ Sl O ro w' g (2, 0) 1 v0 (((List.range j).map (· == 0)).map Value.bool) /\ Ch O (Kc [2] 0) w h w' g /\ ro <= O.next g /\ t 0 = .int .i64 (top : Nat) /\ t 3 = ptr n /\ t 4 = .int .i64 (j : Nat) /\ j + m = top + 2 /\ 0 < m) ?_ (top + 2) _ _ ⟨0, .slice none 0 0, w1, y1, Sl.nil _ _ _ _, c1 _, lo1, by simp, by simp, by simp, by omega, by omega⟩
  intro m t g hI
  obtain ⟨j, v0, w', y', sl', c', lo', t0, t3, t4, hj, hm⟩ := hI
  unfold ptr at t3
  by_cases hle : j <= top
  . obtain ⟨v', h2, w2, e2, sl2, c2, lo2⟩ := appI_one L (bytes := 1) lo' sl' (new := [.bool (j == 0)]) (by omega) rfl (by simp; omega) (by simp; omega)
    have y2 := y'.ch L c2 (by simp)
    have y3 := y2.put L 0 (by simp) v'
    have c3 := Ch.put L (K := fun u => u = (2, 1000)) y2 0 (by simp) v' rfl
    have sl3 := sl2.ch L c3 (by simp)
    have y20 := y2.get 0 _ rfl
    have y0 := y'.get 0 _ rfl
    have hron : ¬ n < ro := by have := y2.lo; omega
    obtain ⟨f1, f2, f3⟩ := sl2.flat
    obtain ⟨q, hq⟩ : ∃ q, q = j + 1 := ⟨_, rfl⟩
    have hw : IntKind.i64.wrap ((j : Int) + 1) = (q : Int) := by rw [wrap_id (by omega) (by omega)]; omega
    have hle' : (j : Int) <= top := by omega
    have hj0 : ((j : Int) == 0) = (j == 0) := by rw [Bool.eq_iff_iff]; simp only [beq_iff_eq]; omega
    refine okE.flat (fun _ => rfl) ?_
    simp [W48_0, R48_3, R48_5, R48_4, t0, t3, t4, hle, hle', hj0, y0, List.zipIdx, List.range_succ, e2, f1, f2, f3, y20, hron, putsA, hw]
    refine ⟨m - 1, by omega, q, v', w2, y3, ?_, (c'.trans (Kc.one c2 (.inl (List.mem_singleton.2 rfl)))).trans (Kc.one c3 (.inl (List.mem_singleton.2 rfl))), by rw [L.next_put]; exact lo2, rfl, by omega, by omega⟩
    rw [hq, List.range_succ]
    simpa using sl3
  . have hle' : ¬ (j : Int) <= top := by omega
    have hjt : j = top + 1 := by omega
    refine okE.flat (fun _ => rfl) ?_
    simp [W48_0, R48_3, t0, t3, t4, hle, hle', thenE]
    refine okE.flat (fun _ => rfl) ?_
    simp [R48_6, t3]
    rw [hjt] at sl'
    exact ⟨w', ⟨v0, _, _, _, _, _, ⟨y', sl', Sl.nil _ _ _ _, Sl.nil _ _ _ _, Sl.nil _ _ _ _, Sl.nil _ _ _ _, Sl.nil _ _ _ _⟩⟩, c', lo'⟩
 obtain ⟨v, h', e1, rfl, w', e2⟩ := key
 exact ⟨n, w', h', e1, e2⟩
def ju1 (N : Net) (R : RS) (u : Us) : RS := if N.isGiven u.l = true then R else fl R 11 u.p
def juL (N : Net) (R : RS) (us : List Us) : RS := us.foldl (ju1 N) R
theorem ju_w (C : Lim Tryz.prog O ro okS c) (L : O.Law) {w : Own} {h : H} {r n : Nat} {s : ByteArray} {R : RS} {N : Net} (x : ST O ro w h r s R n N) (u : Us) :
 ∃ w' h', c 98 [ptr n, ptr r, u.val] h = some (.tuple #[], h') /\ ST O ro w' h' r s (ju1 N R u) n N /\ Ch O (Kc [1] 1) w h w' h' := by
 obtain ⟨b, hb⟩ : ∃ b, b = O.next h := ⟨_, rfl⟩
 obtain ⟨h1, hh1⟩ : ∃ h1, h1 = O.new h u.cells := ⟨_, rfl⟩
 obtain ⟨w1, hw1⟩ : ∃ w1, w1 = w.set b (100, 0) := ⟨_, rfl⟩
 have c1 : ∀ K, Ch O K w h w1 h1 := fun K => by rw [hh1, hw1, hb]; exact Ch.new L _ _ _ _ _
 have y1 : Bx O ro w1 h1 (100, 0) b u.cells := by rw [hh1, hw1, hb]; exact Bx.new L _ _ x.lo _ _
 have x1 := x.ch L (c1 fun _ => False) (by simp) (by simp)
 obtain ⟨v0, v1, v2, v3, v4, v5, nl1⟩ := x1.nl
 have hg := isGiven_w C nl1 u.l
 have z0 := y1.get 0 _ rfl
 have z1 := y1.get 1 _ rfl
 unfold ptr at hg
 simp only [Us.cells] at hh1
 unfold ju1
 by_cases hq : N.isGiven u.l = true
 . rw [if_pos hq]
   refine ⟨w1, h1, ?_, x1, c1 _⟩
   refine C.eq (F98_fn O ro) rfl rfl (okE.flat (fun _ => rfl) ?_)
   simp [F98, R98_0, R98_1, R98_2, Us.val, <- hb, <- hh1, z0, z1, hg, hq]
 . rw [if_neg hq]
   obtain ⟨h2, hc2, rb2, c2⟩ := fail_w C L x1.rb 11 u.p
   refine ⟨w1, h2, ?_, x1.rd L rb2 c2, (c1 _).trans (chR c2 _)⟩
   refine C.eq (F98_fn O ro) rfl rfl (okE.flat (fun _ => rfl) ?_)
   have hc2' : c 90 [Value.pointer (some ⟨r, 0, none⟩), .int .i64 11, .int .i64 u.p] h1 = some (.tuple #[], h2) := hc2
   simp [F98, R98_0, R98_1, R98_2, Us.val, <- hb, <- hh1, z0, z1, hg, hq, hc2']
theorem foldl_at {α β : Type} (f : β -> α -> β) (l : List α) (j : Nat) (hj : j < l.length) (x : β) : (l.drop j).foldl f x = (l.drop (j + 1)).foldl f (f x l[j]) := by
 rw [List.drop_eq_getElem_cons hj]; rfl
theorem ju_las (C : Lim Tryz.prog O ro okS c) (L : O.Law) {w0 : Own} {h0 : H} {r n : Nat} {s : ByteArray} {N : Net} (hl : N.las.length <= 10000) (R : RS) (w : Own) (h : H) (t : Env) (x : ST O ro w h r s R n N) (cc : Ch O (Kc [1] 1) w0 h0 w h) (t0 : t 0 = ptr n) (t1 : t 1 = ptr r) (t4 : t 4 = .int .i64 0) :
 okE c (cBlk 0 (cLoop (W52_0 O Tryz.prog ro))) (t, h) (fun e t' h' => e = .normal /\ t' 0 = ptr n /\ t' 1 = ptr r /\ ∃ w', ST O ro w' h' r s (N.las.foldl (fun R x => ju1 N R x.n) R) n N /\ Ch O (Kc [1] 1) w0 h0 w' h') := by
 refine okE.blk ?_
 refine okE.loop (fun m t g => ∃ j R' w', ST O ro w' g r s R' n N /\ Ch O (Kc [1] 1) w0 h0 w' g /\ t 0 = ptr n /\ t 1 = ptr r /\ t 4 = .int .i64 (j : Nat) /\ j + m = N.las.length + 1 /\ 0 < m /\ (N.las.drop j).foldl (fun R x => ju1 N R x.n) R' = N.las.foldl (fun R x => ju1 N R x.n) R) ?_ (N.las.length + 1) _ _ ⟨0, R, w, x, cc, t0, t1, t4, by omega, by omega, rfl⟩
 intro m t g hI
 obtain ⟨j, R', w', x', c', t0, t1, t4, hj, hm, hfin⟩ := hI
 unfold ptr at t0 t1
 obtain ⟨v0, v1, v2, v3, v4, v5, nl⟩ := x'.nl
 have hlen := flat_len LaL.cells 4 (fun _ => rfl) N.las
 have m2 := nl.m.get 2 _ rfl
 by_cases hlt : j < N.las.length
 . obtain ⟨b, cp, rfl, y⟩ := nl.s2.blk (by omega) N.las.length hlen (by omega)
   rw [foldl_at _ _ _ hlt] at hfin
   have hc : cellsA O g b (j * 4 + 1) 2 = some N.las[j].n.cells := y.at (j * 4 + 1) N.las[j].n.cells (fun i hi => by
    have hi2 : i < 2 := hi
    rw [Nat.add_assoc, flat_at LaL.cells 4 (fun _ => rfl) N.las j hlt (1 + i) (by omega)]
    match i, hi2 with
    | 0, _ => rfl
    | 1, _ => rfl)
   obtain ⟨w2, h2, hc2, x2, c2⟩ := ju_w C L x' N.las[j].n
   unfold ptr at hc2
   obtain ⟨q, hq⟩ : ∃ q, q = j + 1 := ⟨_, rfl⟩
   have hw : IntKind.i64.wrap ((j : Int) + 1) = (q : Int) := by rw [wrap_id (by omega) (by omega)]; omega
   have hlt' : (j : Int) < N.las.length := by omega
   have hv : Value.agg N.las[j].n.cells.toArray = N.las[j].n.val := rfl
   refine okE.flat (fun _ => rfl) ?_
   simp [W52_0, R52_1, R52_3, R52_2, t0, t1, t4, m2, hlt, hlt', hc, hv, hc2, hw]
   exact ⟨m - 1, by omega, q, _, w2, x2, c'.trans c2, rfl, by omega, by omega, by rw [hq]; exact hfin⟩
 . obtain ⟨a, cp, rfl⟩ := nl.s2.len (by omega) N.las.length hlen
   have hlt' : ¬ (j : Int) < N.las.length := by omega
   rw [List.drop_eq_nil_of_le (by omega)] at hfin
   rw [<- hfin]
   refine okE.flat (fun _ => rfl) ?_
   simp [W52_0, R52_1, t0, t1, t4, m2, hlt, hlt']
   exact ⟨w', x', c'⟩
theorem ju_outs (C : Lim Tryz.prog O ro okS c) (L : O.Law) {w0 : Own} {h0 : H} {r n : Nat} {s : ByteArray} {N : Net} (hl : N.outs.length <= 10000) (R : RS) (w : Own) (h : H) (t : Env) (x : ST O ro w h r s R n N) (cc : Ch O (Kc [1] 1) w0 h0 w h) (t0 : t 0 = ptr n) (t1 : t 1 = ptr r) (t4 : t 5 = .int .i64 0) :
 okE c (cBlk 2 (cLoop (W52_1 O Tryz.prog ro))) (t, h) (fun e t' h' => e = .normal /\ t' 0 = ptr n /\ t' 1 = ptr r /\ ∃ w', ST O ro w' h' r s (N.outs.foldl (ju1 N) R) n N /\ Ch O (Kc [1] 1) w0 h0 w' h') := by
 refine okE.blk ?_
 refine okE.loop (fun m t g => ∃ j R' w', ST O ro w' g r s R' n N /\ Ch O (Kc [1] 1) w0 h0 w' g /\ t 0 = ptr n /\ t 1 = ptr r /\ t 5 = .int .i64 (j : Nat) /\ j + m = N.outs.length + 1 /\ 0 < m /\ (N.outs.drop j).foldl (ju1 N) R' = N.outs.foldl (ju1 N) R) ?_ (N.outs.length + 1) _ _ ⟨0, R, w, x, cc, t0, t1, t4, by omega, by omega, rfl⟩
 intro m t g hI
 obtain ⟨j, R', w', x', c', t0, t1, t4, hj, hm, hfin⟩ := hI
 unfold ptr at t0 t1
 obtain ⟨v0, v1, v2, v3, v4, v5, nl⟩ := x'.nl
 have hlen := flat_len Us.cells 2 (fun _ => rfl) N.outs
 have m2 := nl.m.get 3 _ rfl
 by_cases hlt : j < N.outs.length
 . obtain ⟨b, cp, rfl, y⟩ := nl.s3.blk (by omega) N.outs.length hlen (by omega)
   rw [foldl_at _ _ _ hlt] at hfin
   have hc : cellsA O g b (j * 2) 2 = some N.outs[j].cells := y.at (j * 2) N.outs[j].cells (fun i hi => by
    have hi2 : i < 2 := hi
    rw [flat_at Us.cells 2 (fun _ => rfl) N.outs j hlt i (by omega)])
   obtain ⟨w2, h2, hc2, x2, c2⟩ := ju_w C L x' N.outs[j]
   unfold ptr at hc2
   obtain ⟨q, hq⟩ : ∃ q, q = j + 1 := ⟨_, rfl⟩
   have hw : IntKind.i64.wrap ((j : Int) + 1) = (q : Int) := by rw [wrap_id (by omega) (by omega)]; omega
   have hlt' : (j : Int) < N.outs.length := by omega
   have hv : Value.agg N.outs[j].cells.toArray = N.outs[j].val := rfl
   refine okE.flat (fun _ => rfl) ?_
   simp [W52_1, R52_5, R52_7, R52_6, t0, t1, t4, m2, hlt, hlt', hc, hv, hc2, hw]
   exact ⟨m - 1, by omega, q, _, w2, x2, c'.trans c2, rfl, by omega, by omega, by rw [hq]; exact hfin⟩
 . obtain ⟨a, cp, rfl⟩ := nl.s3.len (by omega) N.outs.length hlen
   have hlt' : ¬ (j : Int) < N.outs.length := by omega
   rw [List.drop_eq_nil_of_le (by omega)] at hfin
   rw [<- hfin]
   refine okE.flat (fun _ => rfl) ?_
   simp [W52_1, R52_5, t0, t1, t4, m2, hlt, hlt']
   exact ⟨w', x', c'⟩
theorem ju_bads (C : Lim Tryz.prog O ro okS c) (L : O.Law) {w0 : Own} {h0 : H} {r n : Nat} {s : ByteArray} {N : Net} (hl : N.bads.length <= 10000) (R : RS) (w : Own) (h : H) (t : Env) (x : ST O ro w h r s R n N) (cc : Ch O (Kc [1] 1) w0 h0 w h) (t0 : t 0 = ptr n) (t1 : t 1 = ptr r) (t4 : t 6 = .int .i64 0) :
 okE c (cBlk 4 (cLoop (W52_2 O Tryz.prog ro))) (t, h) (fun e t' h' => e = .normal /\ t' 0 = ptr n /\ t' 1 = ptr r /\ ∃ w', ST O ro w' h' r s (N.bads.foldl (ju1 N) R) n N /\ Ch O (Kc [1] 1) w0 h0 w' h') := by
 refine okE.blk ?_
 refine okE.loop (fun m t g => ∃ j R' w', ST O ro w' g r s R' n N /\ Ch O (Kc [1] 1) w0 h0 w' g /\ t 0 = ptr n /\ t 1 = ptr r /\ t 6 = .int .i64 (j : Nat) /\ j + m = N.bads.length + 1 /\ 0 < m /\ (N.bads.drop j).foldl (ju1 N) R' = N.bads.foldl (ju1 N) R) ?_ (N.bads.length + 1) _ _ ⟨0, R, w, x, cc, t0, t1, t4, by omega, by omega, rfl⟩
 intro m t g hI
 obtain ⟨j, R', w', x', c', t0, t1, t4, hj, hm, hfin⟩ := hI
 unfold ptr at t0 t1
 obtain ⟨v0, v1, v2, v3, v4, v5, nl⟩ := x'.nl
 have hlen := flat_len Us.cells 2 (fun _ => rfl) N.bads
 have m2 := nl.m.get 4 _ rfl
 by_cases hlt : j < N.bads.length
 . obtain ⟨b, cp, rfl, y⟩ := nl.s4.blk (by omega) N.bads.length hlen (by omega)
   rw [foldl_at _ _ _ hlt] at hfin
   have hc : cellsA O g b (j * 2) 2 = some N.bads[j].cells := y.at (j * 2) N.bads[j].cells (fun i hi => by
    have hi2 : i < 2 := hi
    rw [flat_at Us.cells 2 (fun _ => rfl) N.bads j hlt i (by omega)])
   obtain ⟨w2, h2, hc2, x2, c2⟩ := ju_w C L x' N.bads[j]
   unfold ptr at hc2
   obtain ⟨q, hq⟩ : ∃ q, q = j + 1 := ⟨_, rfl⟩
   have hw : IntKind.i64.wrap ((j : Int) + 1) = (q : Int) := by rw [wrap_id (by omega) (by omega)]; omega
   have hlt' : (j : Int) < N.bads.length := by omega
   have hv : Value.agg N.bads[j].cells.toArray = N.bads[j].val := rfl
   refine okE.flat (fun _ => rfl) ?_
   simp [W52_2, R52_9, R52_11, R52_10, t0, t1, t4, m2, hlt, hlt', hc, hv, hc2, hw]
   exact ⟨m - 1, by omega, q, _, w2, x2, c'.trans c2, rfl, by omega, by omega, by rw [hq]; exact hfin⟩
 . obtain ⟨a, cp, rfl⟩ := nl.s4.len (by omega) N.bads.length hlen
   have hlt' : ¬ (j : Int) < N.bads.length := by omega
   rw [List.drop_eq_nil_of_le (by omega)] at hfin
   rw [<- hfin]
   refine okE.flat (fun _ => rfl) ?_
   simp [W52_2, R52_9, t0, t1, t4, m2, hlt, hlt']
   exact ⟨w', x', c'⟩
theorem ju_gates (C : Lim Tryz.prog O ro okS c) (L : O.Law) {w0 : Own} {h0 : H} {r n : Nat} {s : ByteArray} {N : Net} (hl : N.gates.length <= 10000) (R : RS) (w : Own) (h : H) (t : Env) (x : ST O ro w h r s R n N) (cc : Ch O (Kc [1] 1) w0 h0 w h) (t0 : t 0 = ptr n) (t1 : t 1 = ptr r) (t4 : t 7 = .int .i64 0) :
 okE c (cBlk 6 (cLoop (W52_3 O Tryz.prog ro))) (t, h) (fun e t' h' => e = .normal /\ ∃ w', ST O ro w' h' r s (N.gates.foldl (fun R x => ju1 N (ju1 N R x.a) x.b) R) n N /\ Ch O (Kc [1] 1) w0 h0 w' h') := by
 refine okE.blk ?_
 refine okE.loop (fun m t g => ∃ j R' w', ST O ro w' g r s R' n N /\ Ch O (Kc [1] 1) w0 h0 w' g /\ t 0 = ptr n /\ t 1 = ptr r /\ t 7 = .int .i64 (j : Nat) /\ j + m = N.gates.length + 1 /\ 0 < m /\ (N.gates.drop j).foldl (fun R x => ju1 N (ju1 N R x.a) x.b) R' = N.gates.foldl (fun R x => ju1 N (ju1 N R x.a) x.b) R) ?_ (N.gates.length + 1) _ _ ⟨0, R, w, x, cc, t0, t1, t4, by omega, by omega, rfl⟩
 intro m t g hI
 obtain ⟨j, R', w', x', c', t0, t1, t4, hj, hm, hfin⟩ := hI
 unfold ptr at t0 t1
 obtain ⟨v0, v1, v2, v3, v4, v5, nl⟩ := x'.nl
 have hlen := flat_len GaL.cells 6 (fun _ => rfl) N.gates
 have m2 := nl.m.get 5 _ rfl
 by_cases hlt : j < N.gates.length
 . obtain ⟨b, cp, rfl, y⟩ := nl.s5.blk (by omega) N.gates.length hlen (by omega)
   rw [foldl_at _ _ _ hlt] at hfin
   have hc : cellsA O g b (j * 6 + 2) 2 = some N.gates[j].a.cells := y.at (j * 6 + 2) N.gates[j].a.cells (fun i hi => by
    have hi2 : i < 2 := hi
    rw [Nat.add_assoc, flat_at GaL.cells 6 (fun _ => rfl) N.gates j hlt (2 + i) (by omega)]
    match i, hi2 with
    | 0, _ => rfl
    | 1, _ => rfl)
   obtain ⟨w2, h2, hc2, x2, c2⟩ := ju_w C L x' N.gates[j].a
   have m22 := (nl.m.ch L c2 (by simp [Kc])).get 5 _ rfl
   have yb := y.ch L c2 (by simp [Kc])
   have hcb : cellsA O h2 b (j * 6 + 4) 2 = some N.gates[j].b.cells := yb.at (j * 6 + 4) N.gates[j].b.cells (fun i hi => by
    have hi2 : i < 2 := hi
    rw [Nat.add_assoc, flat_at GaL.cells 6 (fun _ => rfl) N.gates j hlt (4 + i) (by omega)]
    match i, hi2 with
    | 0, _ => rfl
    | 1, _ => rfl)
   obtain ⟨w3, h3, hc3, x3, c3⟩ := ju_w C L x2 N.gates[j].b
   unfold ptr at hc2 hc3
   obtain ⟨q, hq⟩ : ∃ q, q = j + 1 := ⟨_, rfl⟩
   have hw : IntKind.i64.wrap ((j : Int) + 1) = (q : Int) := by rw [wrap_id (by omega) (by omega)]; omega
   have hlt' : (j : Int) < N.gates.length := by omega
   have hv : Value.agg N.gates[j].a.cells.toArray = N.gates[j].a.val := rfl
   have hv2 : Value.agg N.gates[j].b.cells.toArray = N.gates[j].b.val := rfl
   refine okE.flat (fun _ => rfl) ?_
   simp [W52_3, R52_13, R52_15, R52_16, R52_14, t0, t1, t4, m2, m22, hlt, hlt', hc, hcb, hv, hv2, hc2, hc3, hw]
   exact ⟨m - 1, by omega, q, _, w3, x3, (c'.trans c2).trans c3, rfl, by omega, by omega, by rw [hq]; exact hfin⟩
 . obtain ⟨a, cp, rfl⟩ := nl.s5.len (by omega) N.gates.length hlen
   have hlt' : ¬ (j : Int) < N.gates.length := by omega
   rw [List.drop_eq_nil_of_le (by omega)] at hfin
   rw [<- hfin]
   refine okE.flat (fun _ => rfl) ?_
   simp [W52_3, R52_13, t0, t1, t4, m2, hlt, hlt']
   exact ⟨w', x', c'⟩
def juS (N : Net) (R : RS) : RS := N.gates.foldl (fun R x => ju1 N (ju1 N R x.a) x.b) (N.bads.foldl (ju1 N) (N.outs.foldl (ju1 N) (N.las.foldl (fun R x => ju1 N R x.n) R)))
theorem jus_w (C : Lim Tryz.prog O ro okS c) (L : O.Law) {w : Own} {h : H} {r n : Nat} {s : ByteArray} {R : RS} {N : Net} (x : ST O ro w h r s R n N) (hl : N.las.length <= 10000 /\ N.outs.length <= 10000 /\ N.bads.length <= 10000 /\ N.gates.length <= 10000) :
 ∃ w' h', c 52 [ptr n, ptr r] h = some (.tuple #[], h') /\ ST O ro w' h' r s (juS N R) n N /\ Ch O (Kc [1] 1) w h w' h' := by
 have key : ∃ v h', c 52 [ptr n, ptr r] h = some (v, h') /\ (v = .tuple #[] /\ ∃ w', ST O ro w' h' r s (juS N R) n N /\ Ch O (Kc [1] 1) w h w' h') := by
  refine C.fn (F52_fn O ro) rfl rfl ?_
  unfold F52
  refine okE.seq (okE.seq (okE.flat (fun _ => rfl) ?_))
  simp [R52_0, thenE, -resE, -resLE, -rvE]
  refine okE.mono (ju_las C L hl.1 R w h _ x (Ch.refl _ _ _) (by simp) (by simp) (by simp)) ?_
  rintro e t g ⟨rfl, t0, t1, w2, x2, c2⟩
  simp only [thenE]
  refine okE.seq (okE.seq (okE.flat (fun _ => rfl) ?_))
  simp [R52_4, thenE, -resE, -resLE, -rvE]
  refine okE.mono (ju_outs C L hl.2.1 _ w2 g _ x2 c2 (by simp [t0]) (by simp [t1]) (by simp)) ?_
  rintro e t g ⟨rfl, t0, t1, w3, x3, c3⟩
  simp only [thenE]
  refine okE.seq (okE.seq (okE.flat (fun _ => rfl) ?_))
  simp [R52_8, thenE, -resE, -resLE, -rvE]
  refine okE.mono (ju_bads C L hl.2.2.1 _ w3 g _ x3 c3 (by simp [t0]) (by simp [t1]) (by simp)) ?_
  rintro e t g ⟨rfl, t0, t1, w4, x4, c4⟩
  simp only [thenE]
  refine okE.seq (okE.flat (fun _ => rfl) ?_)
  simp [R52_12, thenE, -resE, -resLE, -rvE]
  refine okE.mono (ju_gates C L hl.2.2.2 _ w4 g _ x4 c4 (by simp [t0]) (by simp [t1]) (by simp)) ?_
  rintro e t g ⟨rfl, w5, x5, c5⟩
  simp
  exact ⟨w5, x5, c5⟩
 obtain ⟨v, h', e1, rfl, w', e2⟩ := key
 exact ⟨w', h', e1, e2⟩
end
structure Ord where
 place : List Int
 count : Nat
def Ord.at (P : Ord) (l : Int) : Int := if l / 2 < 0 \/ (P.place.length : Int) <= l / 2 then -1 else (P.place[(l / 2).toNat]?).getD (-1)
def Ord.lay (P : Ord) (l : Int) : Ord := if l / 2 < 0 \/ (P.place.length : Int) <= l / 2 then P else ⟨P.place.set (l / 2).toNat P.count, P.count + 1⟩
def Ord.lit (P : Ord) (l : Int) : Int := 2 * P.at l + l % 2
structure Ord.Ok (P : Ord) (B : Nat) : Prop where
 c : P.count <= B
 p : ∀ q ∈ P.place, -1 <= q /\ q <= B
theorem Ord.Ok.at {P : Ord} {B : Nat} (h : P.Ok B) (l : Int) : -1 <= P.at l /\ P.at l <= B := by
 unfold Ord.at
 split
 . omega
 . cases hx : P.place[(l / 2).toNat]? with
   | none => simp
   | some v => exact h.p v (List.mem_of_getElem? hx)
theorem Ord.Ok.lay {P : Ord} {B : Nat} (h : P.Ok B) (l : Int) : (P.lay l).Ok (B + 1) := by
 unfold Ord.lay
 split
 . exact ⟨by have := h.c; omega, fun q hq => by have := h.p q hq; omega⟩
 . refine ⟨by have := h.c; simp only; omega, fun q hq => ?_⟩
   rcases List.mem_or_eq_of_mem_set hq with hq | hq
   . have := h.p q hq; omega
   . have := h.c; omega
theorem Ord.Ok.mono {P : Ord} {B B' : Nat} (h : P.Ok B) (hb : B <= B') : P.Ok B' := ⟨Nat.le_trans h.c hb, fun q hq => by have := h.p q hq; omega⟩
section
variable {H : Type} {O : HI H} {ro : Nat} {c : CallT H}
structure OB (O : HI H) (ro : Nat) (w : Own) (h : H) (o : Nat) (P : Ord) : Prop where
 ex : ∃ v0, Bx O ro w h (3, 1000) o [v0, .int .i64 P.count] /\ Sl O ro w h (3, 0) 1 v0 (P.place.map iv)
theorem OB.ch (L : O.Law) {K : Tag -> Prop} {w w' : Own} {h h' : H} {o : Nat} {P : Ord} (x : OB O ro w h o P) (a : Ch O K w h w' h') (hk : ∀ o, ¬ K (3, o)) : OB O ro w' h' o P := by
 obtain ⟨v0, m, s⟩ := x.ex
 exact ⟨v0, m.ch L a (hk _), s.ch L a (hk _)⟩
theorem at_w (C : Lim Tryz.prog O ro okS c) {w : Own} {h : H} {o : Nat} {P : Ord} (x : OB O ro w h o P) (l : Int) : c 134 [ptr o, .int .i64 l] h = some (.int .i64 (P.at l), h) := by
 refine C.eq (F134_fn O ro) rfl rfl (okE.flat (fun _ => rfl) ?_)
 obtain ⟨v0, m, s⟩ := x.ex
 have m0 := m.get 0 _ rfl
 have e1 : l.fdiv 2 = l / 2 := Int.fdiv_eq_ediv_of_nonneg l (by omega)
 unfold Ord.at
 by_cases h1 : l / 2 < 0
 . simp [F134, R134_0, R134_1, R134_2, R134_3, IntKind.bits, e1, h1]
 . by_cases h2 : (P.place.length : Int) <= l / 2
   . obtain ⟨a, cp, rfl⟩ := s.len (by omega) P.place.length (by simp)
     simp [F134, R134_0, R134_1, R134_2, R134_3, IntKind.bits, e1, h1, h2, m0]
   . obtain ⟨b, cp, rfl, y⟩ := s.blk (by omega) P.place.length (by simp) (by omega)
     have hq : (l / 2).toNat < P.place.length := by omega
     have hc := y.get (l / 2).toNat (iv P.place[(l / 2).toNat]) (by simp [hq])
     have k0 : 0 <= l / 2 := by omega
     have k1 : l / 2 < (P.place.length : Int) := by omega
     simp [F134, R134_0, R134_1, R134_2, R134_3, R134_4, IntKind.bits, e1, h1, h2, m0, k0, k1, hc, hq, iv]
theorem lay_w (C : Lim Tryz.prog O ro okS c) (L : O.Law) {w : Own} {h : H} {o : Nat} {P : Ord} (x : OB O ro w h o P) (hP : P.count <= 100000) (l : Int) :
 ∃ h', c 133 [ptr o, .int .i64 l] h = some (.tuple #[], h') /\ OB O ro w h' o (P.lay l) /\ Ch O (Kc [3] 0) w h w h' := by
 obtain ⟨v0, m, s⟩ := x.ex
 have m0 := m.get 0 _ rfl
 have m1 := m.get 1 _ rfl
 have e1 : l.fdiv 2 = l / 2 := Int.fdiv_eq_ediv_of_nonneg l (by omega)
 unfold Ord.lay
 by_cases h1 : l / 2 < 0
 . rw [if_pos (.inl h1)]
   refine ⟨h, ?_, x, Ch.refl _ _ _⟩
   refine C.eq (F133_fn O ro) rfl rfl (okE.flat (fun _ => rfl) ?_)
   simp [F133, R133_0, R133_1, IntKind.bits, e1, h1]
 . by_cases h2 : (P.place.length : Int) <= l / 2
   . rw [if_pos (.inr h2)]
     obtain ⟨a, cp, rfl⟩ := s.len (by omega) P.place.length (by simp)
     refine ⟨h, ?_, x, Ch.refl _ _ _⟩
     refine C.eq (F133_fn O ro) rfl rfl (okE.flat (fun _ => rfl) ?_)
     simp [F133, R133_0, R133_1, IntKind.bits, e1, h1, h2, m0]
   . rw [if_neg (by omega)]
     have hs := s
     obtain ⟨b, cp, rfl, y⟩ := s.blk (by omega) P.place.length (by simp) (by omega)
     have hq : (l / 2).toNat < P.place.length := by omega
     have hc := y.get (l / 2).toNat (iv P.place[(l / 2).toNat]) (by simp [hq])
     have k0 : 0 <= l / 2 := by omega
     have k1 : l / 2 < (P.place.length : Int) := by omega
     have y2 := y.put L (l / 2).toNat (by simpa using hq) (.int .i64 P.count)
     have c2 := Ch.put L (K := fun u => u = (3, 0)) y (l / 2).toNat (by simpa using hq) (.int .i64 P.count) rfl
     have mm := m.ch L c2 (by simp)
     have mm1 := mm.get 1 _ rfl
     obtain ⟨q, hq2⟩ : ∃ q, q = P.count + 1 := ⟨_, rfl⟩
     have hw : IntKind.i64.wrap ((P.count : Int) + 1) = (q : Int) := by rw [wrap_id (by omega) (by omega)]; omega
     have m3 := mm.put L 1 (by simp) (.int .i64 q)
     have c3 := Ch.put L (K := fun u => u = (3, 1000)) mm 1 (by simp) (.int .i64 q) rfl
     have hro1 : ¬ b < ro := by have := y.lo; omega
     have hro2 : ¬ o < ro := by have := m.lo; omega
     have hcount : (⟨P.place.set (l / 2).toNat (P.count : Int), P.count + 1⟩ : Ord).count = q := hq2.symm
     refine ⟨_, ?_, ⟨_, by rw [hcount]; exact m3, ?_⟩, (Kc.one c2 (.inl (List.mem_singleton.2 rfl))).trans (Kc.one c3 (.inl (List.mem_singleton.2 rfl)))⟩
     . refine C.eq (F133_fn O ro) rfl rfl (okE.flat (fun _ => rfl) ?_)
       simp [F133, R133_0, R133_1, R133_2, R133_3, IntKind.bits, e1, h1, h2, m0, m1, k0, k1, hc, hq, hro1, hro2, putsA, mm1, hw]
     . have hlen : (P.place.set (l / 2).toNat (P.count : Int)).length = P.place.length := by simp
       rcases hs with ⟨e, _⟩ | ⟨b', m', cp', e, ec, el, en, y'⟩
       . simp at e
       . simp only [Value.slice.injEq, Option.some.injEq, Addr.mk.injEq] at e
         obtain ⟨⟨rfl, _⟩, rfl, rfl⟩ := e
         refine .inr ⟨b, P.place.length, cp, rfl, ec, by simp, ?_, ?_⟩
         . intro q
           have := congrArg List.length q
           simp only [List.length_map, List.length_set, List.length_nil] at this
           omega
         . have := y2.ch L c3 (by simp)
           simpa [List.map_set, iv] using this
theorem oli_w (C : Lim Tryz.prog O ro okS c) {w : Own} {h : H} {o : Nat} {P : Ord} (x : OB O ro w h o P) (hP : P.Ok 100000) (l : Int) (h0 : 0 <= l) (h1 : l < 1000000) : c 103 [ptr o, .int .i64 l] h = some (.int .i64 (P.lit l), h) := by
 refine C.eq (F103_fn O ro) rfl rfl (okE.flat (fun _ => rfl) ?_)
 have ha := at_w C x l
 have hb := hP.at l
 unfold Ord.lit
 obtain ⟨k, rfl⟩ : ∃ k : Nat, l = k := ⟨l.toNat, by omega⟩
 have hand := and_one k (by omega)
 generalize P.at (k : Int) = a at ha hb
 have w1 : IntKind.i64.wrap (2 * a) = 2 * a := wrap_id (by omega) (by omega)
 have w2 : IntKind.i64.wrap (2 * a + ((k % 2 : Nat) : Int)) = 2 * a + (k : Int) % 2 := by rw [wrap_id (by omega) (by omega)]; omega
 unfold ptr at ha
 simp only [Int.natCast_emod, Int.cast_ofNat_Int] at hand w2
 simp [F103, R103_0, R103_1, R103_2, ha, w1, hand, w2]
def propS (N : Net) : Int := match N.bads with
 | u :: _ => u.l
 | [] => match N.outs with
  | u :: _ => u.l
  | [] => 0
theorem prop_w (C : Lim Tryz.prog O ro okS c) {w : Own} {h : H} {n : Nat} {N : Net} {v0 v1 v2 v3 v4 v5 : Value} (x : NL O ro w h n N v0 v1 v2 v3 v4 v5) : c 104 [ptr n] h = some (.int .i64 (propS N), h) := by
 refine C.eq (F104_fn O ro) rfl rfl (okE.flat (fun _ => rfl) ?_)
 have m4 := x.m.get 4 _ rfl
 have m3 := x.m.get 3 _ rfl
 unfold propS
 cases hb : N.bads with
 | cons u us =>
  have hl4 := flat_len Us.cells 2 (fun _ => rfl) N.bads
  obtain ⟨b, cp, rfl, y⟩ := x.s4.blk (by omega) N.bads.length hl4 (by rw [hb]; simp)
  have y0 : O.cell h b 0 = some (.int .i64 u.l) := y.get 0 _ (by rw [hb]; rfl)
  have k0 : (0 : Int) < N.bads.length := by rw [hb]; simp
  have k1 : 0 < N.bads.length := by rw [hb]; simp
  simp [F104, R104_0, R104_1, R104_2, m4, k0, k1, y0]
 | nil =>
  have e4 : v4 = .slice none 0 0 := by have := x.s4; rw [hb] at this; exact this.of_nil
  subst e4
  cases ho : N.outs with
  | cons u us =>
   have hl3 := flat_len Us.cells 2 (fun _ => rfl) N.outs
   obtain ⟨b, cp, rfl, y⟩ := x.s3.blk (by omega) N.outs.length hl3 (by rw [ho]; simp)
   have y0 : O.cell h b 0 = some (.int .i64 u.l) := y.get 0 _ (by rw [ho]; rfl)
   have k0 : (0 : Int) < N.outs.length := by rw [ho]; simp
   have k1 : 0 < N.outs.length := by rw [ho]; simp
   simp [F104, R104_0, R104_1, R104_3, R104_4, m4, m3, k0, k1, y0]
  | nil =>
   have e3 : v3 = .slice none 0 0 := by have := x.s3; rw [ho] at this; exact this.of_nil
   subst e3
   simp [F104, R104_0, R104_1, R104_3, R104_5, m4, m3]
def frL (P : Ord) : List GaL -> Nat -> Int
 | [], _ => -1
 | g :: gs, k => if P.at g.g.l = -1 /\ P.at g.a.l ≠ -1 /\ P.at g.b.l ≠ -1 then (k : Int) else frL P gs (k + 1)
def fuL (P : Ord) : List GaL -> Nat
 | [] => 0
 | g :: gs => if P.at g.g.l = -1 then g.g.p else fuL P gs
theorem gate_at {w : Own} {h : H} {t : Tag} {b : Nat} {gs : List GaL} (y : Bx O ro w h t b (gs.flatMap GaL.cells)) (j : Nat) (hj : j < gs.length) :
 O.cell h b (j * 6) = some (.int .i64 gs[j].g.l) /\ O.cell h b (j * 6 + 1) = some (.int .i64 gs[j].g.p) /\ O.cell h b (j * 6 + 2) = some (.int .i64 gs[j].a.l) /\ O.cell h b (j * 6 + 4) = some (.int .i64 gs[j].b.l) /\ cellsA O h b (j * 6) 6 = some gs[j].cells := by
 have k := fun i (hi : i < 6) => flat_at GaL.cells 6 (fun _ => rfl) gs j hj i hi
 refine ⟨y.get _ _ (k 0 (by omega)), y.get _ _ (k 1 (by omega)), y.get _ _ (k 2 (by omega)), y.get _ _ (k 4 (by omega)), y.at (j * 6) gs[j].cells fun i hi => k i hi⟩
theorem fr_w (C : Lim Tryz.prog O ro okS c) {w : Own} {h : H} {o : Nat} {P : Ord} {v : Value} {t5 : Tag} {gs : List GaL} (x : OB O ro w h o P) (sl : Sl O ro w h t5 6 v (gs.flatMap GaL.cells)) (hl : gs.length <= 10000) : c 100 [ptr o, v] h = some (.int .i64 (frL P gs 0), h) := by
 have hlen := flat_len GaL.cells 6 (fun _ => rfl) gs
 refine C.eq (F100_fn O ro) rfl rfl ?_
 unfold F100
 refine okE.seq (okE.flat (fun _ => rfl) ?_)
 simp [R100_0, thenE, -resE, -resLE, -rvE]
 refine okE.seq (okE.seq (okE.flat (fun _ => rfl) ?_))
 simp [R100_1, thenE, -resE, -resLE, -rvE]
 refine okE.blk ?_
 refine okE.loop (fun m t g => ∃ j, g = h /\ t 0 = ptr o /\ t 1 = v /\ t 5 = .int .i64 (j : Nat) /\ j + m = gs.length + 1 /\ 0 < m /\ frL P (gs.drop j) j = frL P gs 0) ?_ (gs.length + 1) _ _ ⟨0, rfl, by simp, by simp, by simp, by omega, by omega, rfl⟩
 intro m t g hI
 obtain ⟨j, rfl, t0, t1, t5', hj, hm, hfin⟩ := hI
 unfold ptr at t0
 by_cases hlt : j < gs.length
 . obtain ⟨b, cp, rfl, y⟩ := sl.blk (by omega) gs.length hlen (by omega)
   obtain ⟨g0, _, g2, g4, _⟩ := gate_at y j hlt
   rw [List.drop_eq_getElem_cons hlt] at hfin
   simp only [frL] at hfin
   have a1 := at_w C x gs[j].g.l
   have a2 := at_w C x gs[j].a.l
   have a3 := at_w C x gs[j].b.l
   unfold ptr at a1 a2 a3
   obtain ⟨q, hq⟩ : ∃ q, q = j + 1 := ⟨_, rfl⟩
   have hw : IntKind.i64.wrap ((j : Int) + 1) = (q : Int) := by rw [wrap_id (by omega) (by omega)]; omega
   have hlt' : (j : Int) < gs.length := by omega
   generalize P.at gs[j].g.l = r1 at a1 hfin
   generalize P.at gs[j].a.l = r2 at a2 hfin
   generalize P.at gs[j].b.l = r3 at a3 hfin
   rw [<- hq] at hfin
   refine okE.flat (fun _ => rfl) ?_
   by_cases k1 : r1 = -1
   . by_cases k2 : r2 = -1
     . rw [if_neg (by omega)] at hfin
       have e1 : (r1 == -1) = true := by simpa using k1
       have e2 : (r2 != -1) = false := by simpa using k2
       simp [W100_0, R100_2, R100_4, R100_5, R100_6, R100_7, R100_3, t0, t1, t5', hlt, hlt', g0, g2, g4, a1, a2, a3, e1, e2, hw]
       exact ⟨m - 1, by omega, q, rfl, by omega, by omega, hfin⟩
     . have e1 : (r1 == -1) = true := by simpa using k1
       have e2 : (r2 != -1) = true := by simpa using k2
       by_cases k3 : r3 = -1
       . rw [if_neg (by omega)] at hfin
         have e3 : (r3 != -1) = false := by simpa using k3
         simp [W100_0, R100_2, R100_4, R100_5, R100_6, R100_7, R100_3, t0, t1, t5', hlt, hlt', g0, g2, g4, a1, a2, a3, e1, e2, e3, hw]
         exact ⟨m - 1, by omega, q, rfl, by omega, by omega, hfin⟩
       . rw [if_pos ⟨k1, k2, k3⟩] at hfin
         have e3 : (r3 != -1) = true := by simpa using k3
         simp [W100_0, R100_2, R100_4, R100_5, R100_6, R100_7, R100_8, t0, t1, t5', hlt, hlt', g0, g2, g4, a1, a2, a3, e1, e2, e3, <- hfin, thenE]
   . rw [if_neg (by omega)] at hfin
     have e1 : (r1 == -1) = false := by simpa using k1
     simp [W100_0, R100_2, R100_4, R100_5, R100_6, R100_7, R100_3, t0, t1, t5', hlt, hlt', g0, g2, g4, a1, a2, a3, e1, hw]
     exact ⟨m - 1, by omega, q, rfl, by omega, by omega, hfin⟩
 . obtain ⟨a, cp, rfl⟩ := sl.len (by omega) gs.length hlen
   rw [List.drop_eq_nil_of_le (by omega)] at hfin
   have hfin2 : -1 = frL P gs 0 := hfin
   have hlt' : ¬ (j : Int) < gs.length := by omega
   refine okE.flat (fun _ => rfl) ?_
   simp [W100_0, R100_2, t0, t1, t5', hlt, hlt', thenE]
   refine okE.flat (fun _ => rfl) ?_
   simp [R100_9, <- hfin2]
theorem fu_w (C : Lim Tryz.prog O ro okS c) {w : Own} {h : H} {o : Nat} {P : Ord} {v : Value} {t5 : Tag} {gs : List GaL} (x : OB O ro w h o P) (sl : Sl O ro w h t5 6 v (gs.flatMap GaL.cells)) (hl : gs.length <= 10000) : c 101 [ptr o, v] h = some (.int .i64 (fuL P gs), h) := by
 have hlen := flat_len GaL.cells 6 (fun _ => rfl) gs
 refine C.eq (F101_fn O ro) rfl rfl ?_
 unfold F101
 refine okE.seq (okE.flat (fun _ => rfl) ?_)
 simp [R101_0, thenE, -resE, -resLE, -rvE]
 refine okE.seq (okE.seq (okE.flat (fun _ => rfl) ?_))
 simp [R101_1, thenE, -resE, -resLE, -rvE]
 refine okE.blk ?_
 refine okE.loop (fun m t g => ∃ j, g = h /\ t 0 = ptr o /\ t 1 = v /\ t 5 = .int .i64 (j : Nat) /\ j + m = gs.length + 1 /\ 0 < m /\ fuL P (gs.drop j) = fuL P gs) ?_ (gs.length + 1) _ _ ⟨0, rfl, by simp, by simp, by simp, by omega, by omega, rfl⟩
 intro m t g hI
 obtain ⟨j, rfl, t0, t1, t5', hj, hm, hfin⟩ := hI
 unfold ptr at t0
 by_cases hlt : j < gs.length
 . obtain ⟨b, cp, rfl, y⟩ := sl.blk (by omega) gs.length hlen (by omega)
   obtain ⟨g0, g1, g2, g4, _⟩ := gate_at y j hlt
   rw [List.drop_eq_getElem_cons hlt] at hfin
   simp only [fuL] at hfin
   have a1 := at_w C x gs[j].g.l
   unfold ptr at a1
   obtain ⟨q, hq⟩ : ∃ q, q = j + 1 := ⟨_, rfl⟩
   have hw : IntKind.i64.wrap ((j : Int) + 1) = (q : Int) := by rw [wrap_id (by omega) (by omega)]; omega
   have hlt' : (j : Int) < gs.length := by omega
   generalize P.at gs[j].g.l = r1 at a1 hfin
   rw [<- hq] at hfin
   refine okE.flat (fun _ => rfl) ?_
   by_cases k1 : r1 = -1
   . rw [if_pos k1] at hfin
     have e1 : (r1 == -1) = true := by simpa using k1
     simp [W101_0, R101_2, R101_4, R101_5, R101_6, t0, t1, t5', hlt, hlt', g0, g1, a1, e1, hfin, thenE]
   . rw [if_neg k1] at hfin
     have e1 : (r1 == -1) = false := by simpa using k1
     simp [W101_0, R101_2, R101_4, R101_5, R101_3, t0, t1, t5', hlt, hlt', g0, g1, a1, e1, hw]
     exact ⟨m - 1, by omega, q, rfl, by omega, by omega, hfin⟩
 . obtain ⟨a, cp, rfl⟩ := sl.len (by omega) gs.length hlen
   rw [List.drop_eq_nil_of_le (by omega)] at hfin
   have hfin2 : 0 = fuL P gs := hfin
   have hlt' : ¬ (j : Int) < gs.length := by omega
   refine okE.flat (fun _ => rfl) ?_
   simp [W101_0, R101_2, t0, t1, t5', hlt, hlt', thenE]
   refine okE.flat (fun _ => rfl) ?_
   simp [R101_7, <- hfin2]
end
end Go.Proofs.YtlakdngplpabdaaGreatDoor
