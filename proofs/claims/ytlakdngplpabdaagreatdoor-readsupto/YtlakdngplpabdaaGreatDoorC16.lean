/- Own work. -/
import Derived.Test.YtlakdngplpabdaaGreatDoorC15
namespace Go.Proofs.YtlakdngplpabdaaGreatDoor
open Go.Vm Go.Proofs
set_option linter.unusedSimpArgs false
set_option linter.unusedVariables false
set_option maxHeartbeats 1000000
attribute [local simp] cSeq cReg reg to mv too onlyIf onlyIfo aMove aNil aFld aLd aInt aPick aLenStr aIdxStr aConv aUn unA ev upd_get isB envOf iA_add iA_sub iA_mul iA_eql iA_neq iA_lss iA_leq iA_gtr iA_geq cIf cRet cSkip okc_some resE resLE rvE aSt vc_int vc_bool vc_agg vc_str vc_ptr vc_sl ft_int ft_bool ft_str ft_ptr ft_sl tp_int tp_bool tp_agg tp_str tp_ptr tp_sl aBuild Instr.fill aCall cExit cBlk outOf ptr undef aNew aBox aIdxArr aLdN aShift shiftA aLenSl aIdx aMkSl aApp rangeA
section
variable {H : Type} {O : HI H} {ro : Nat} {c : CallT H}
def nw0 (N : Net) : Ord := ⟨List.replicate N.given.length (-1), 0⟩
def nwS (N : Net) : Ord := N.las.foldl (fun P x => P.lay x.l) (N.ins.foldl Ord.lay ((nw0 N).lay 0))
theorem nw_place (C : Lim Tryz.prog O ro okS c) (L : O.Law) {w0 : Own} {h0 : H} {n o : Nat} {N : Net} (hl : N.given.length <= 10000) (w : Own) (h : H) (t : Env) {v0 v1 v2 v3 v4 v5 : Value} (x : NL O ro w h n N v0 v1 v2 v3 v4 v5) (y : OB O ro w h o ⟨[], 0⟩) (lo : ro <= O.next h) (cc : Ch O (Kc [3] 0) w0 h0 w h) (t0 : t 0 = ptr n) (t3 : t 3 = ptr o) (t4 : t 4 = .int .i64 0) :
 okE c (cBlk 0 (cLoop (W99_0 O Tryz.prog ro))) (t, h) (fun e t' h' => e = .normal /\ t' 0 = ptr n /\ t' 3 = ptr o /\ ∃ w', NL O ro w' h' n N v0 v1 v2 v3 v4 v5 /\ OB O ro w' h' o (nw0 N) /\ Ch O (Kc [3] 0) w0 h0 w' h' /\ ro <= O.next h') := by
 refine okE.blk ?_
 refine okE.loop (fun m t g => ∃ j w', NL O ro w' g n N v0 v1 v2 v3 v4 v5 /\ OB O ro w' g o ⟨List.replicate j (-1), 0⟩ /\ Ch O (Kc [3] 0) w0 h0 w' g /\ ro <= O.next g /\ t 0 = ptr n /\ t 3 = ptr o /\ t 4 = .int .i64 (j : Nat) /\ j + m = N.given.length + 1 /\ 0 < m) ?_ (N.given.length + 1) _ _ ⟨0, w, x, y, cc, lo, t0, t3, t4, by omega, by omega⟩
 intro m t g hI
 obtain ⟨j, w', x', y', c', lo', t0, t3, t4, hj, hm⟩ := hI
 unfold ptr at t0 t3
 have m0 := x'.m.get 0 _ rfl
 obtain ⟨a, cp, hv0⟩ := x'.s0.len (by omega) N.given.length (by simp)
 by_cases hlt : j < N.given.length
 . obtain ⟨u0, ym, ys⟩ := y'.ex
   obtain ⟨v', h2, w2, e2, sl2, c2, lo2⟩ := appI_one L (bytes := 8) lo' ys (new := [.int .i64 (-1)]) (by omega) rfl (by simp; omega) (by simp; omega)
   have y2 := ym.ch L c2 (by simp)
   have y3 := y2.put L 0 (by simp) v'
   have c3 := Ch.put L (K := fun u => u = (3, 1000)) y2 0 (by simp) v' rfl
   have sl3 := sl2.ch L c3 (by simp)
   have y20 := y2.get 0 _ rfl
   have y0 := ym.get 0 _ rfl
   have hron : ¬ o < ro := by have := y2.lo; omega
   obtain ⟨f1, f2, f3⟩ := sl2.flat
   obtain ⟨q, hq⟩ : ∃ q, q = j + 1 := ⟨_, rfl⟩
   have hw : IntKind.i64.wrap ((j : Int) + 1) = (q : Int) := by rw [wrap_id (by omega) (by omega)]; omega
   have hlt' : (j : Int) < N.given.length := by omega
   rw [hv0] at m0
   refine okE.flat (fun _ => rfl) ?_
   simp [W99_0, R99_3, R99_5, R99_4, t0, t3, t4, m0, hlt, hlt', y0, List.zipIdx, List.range_succ, e2, f1, f2, f3, y20, hron, putsA, hw]
   refine ⟨m - 1, by omega, q, w2, (x'.ch L c2 (by simp)).ch L c3 (by simp), ⟨v', y3, ?_⟩, (c'.trans (Kc.one c2 (.inl (List.mem_singleton.2 rfl)))).trans (Kc.one c3 (.inl (List.mem_singleton.2 rfl))), by rw [L.next_put]; exact lo2, rfl, by omega, by omega⟩
   rw [hq]
   simp only [List.replicate_succ', List.map_append, List.map_cons, List.map_nil]
   exact sl3
 . have hlt' : ¬ (j : Int) < N.given.length := by omega
   have hjt : j = N.given.length := by omega
   rw [hv0] at m0
   refine okE.flat (fun _ => rfl) ?_
   simp [W99_0, R99_3, t0, t3, t4, m0, hlt, hlt']
   subst hjt
   exact ⟨w', x', y', c', lo'⟩
theorem nw_ins (C : Lim Tryz.prog O ro okS c) (L : O.Law) {w0 : Own} {h0 : H} {n o : Nat} {N : Net} (hl : N.ins.length <= 10000) (w : Own) (h : H) (t : Env) {v0 v1 v2 v3 v4 v5 : Value} (P : Ord) (hP : P.Ok 100) (x : NL O ro w h n N v0 v1 v2 v3 v4 v5) (y : OB O ro w h o P) (lo : ro <= O.next h) (cc : Ch O (Kc [3] 0) w0 h0 w h) (t0 : t 0 = ptr n) (t3 : t 3 = ptr o) (t5 : t 5 = .int .i64 0) :
 okE c (cBlk 2 (cLoop (W99_1 O Tryz.prog ro))) (t, h) (fun e t' h' => e = .normal /\ t' 0 = ptr n /\ t' 3 = ptr o /\ ∃ w', NL O ro w' h' n N v0 v1 v2 v3 v4 v5 /\ OB O ro w' h' o (N.ins.foldl Ord.lay P) /\ (N.ins.foldl Ord.lay P).Ok 10100 /\ Ch O (Kc [3] 0) w0 h0 w' h' /\ ro <= O.next h') := by
 refine okE.blk ?_
 refine okE.loop (fun m t g => ∃ j Q w', NL O ro w' g n N v0 v1 v2 v3 v4 v5 /\ OB O ro w' g o Q /\ Q.Ok (100 + j) /\ Ch O (Kc [3] 0) w0 h0 w' g /\ ro <= O.next g /\ t 0 = ptr n /\ t 3 = ptr o /\ t 5 = .int .i64 (j : Nat) /\ j + m = N.ins.length + 1 /\ 0 < m /\ (N.ins.drop j).foldl Ord.lay Q = N.ins.foldl Ord.lay P) ?_ (N.ins.length + 1) _ _ ⟨0, P, w, x, y, hP, cc, lo, t0, t3, t5, by omega, by omega, rfl⟩
 intro m t g hI
 obtain ⟨j, Q, w', x', y', hQ, c', lo', t0, t3, t5, hj, hm, hfin⟩ := hI
 unfold ptr at t0 t3
 have m1 := x'.m.get 1 _ rfl
 by_cases hlt : j < N.ins.length
 . obtain ⟨b, cp, hv1, z⟩ := x'.s1.blk (by omega) N.ins.length (by simp) (by omega)
   rw [hv1] at m1
   have hc := z.get j (.int .i64 N.ins[j]) (by simp [hlt, iv])
   rw [foldl_at _ _ _ hlt] at hfin
   obtain ⟨h2, hc2, y2, c2⟩ := lay_w C L y' (by have := hQ.c; omega) N.ins[j]
   unfold ptr at hc2
   obtain ⟨q, hq⟩ : ∃ q, q = j + 1 := ⟨_, rfl⟩
   have hw : IntKind.i64.wrap ((j : Int) + 1) = (q : Int) := by rw [wrap_id (by omega) (by omega)]; omega
   have hlt' : (j : Int) < N.ins.length := by omega
   refine okE.flat (fun _ => rfl) ?_
   simp [W99_1, R99_8, R99_10, R99_9, t0, t3, t5, m1, hlt, hlt', hc, hc2, hw]
   exact ⟨m - 1, by omega, q, _, w', x'.ch L c2 (by simp [Kc]), y2, by rw [hq]; exact hQ.lay _, c'.trans c2, Nat.le_trans lo' c2.nx, rfl, by omega, by omega, by rw [hq]; exact hfin⟩
 . obtain ⟨a, cp, hv1⟩ := x'.s1.len (by omega) N.ins.length (by simp)
   rw [hv1] at m1
   have hlt' : ¬ (j : Int) < N.ins.length := by omega
   rw [List.drop_eq_nil_of_le (by omega)] at hfin
   have hfin2 : Q = N.ins.foldl Ord.lay P := hfin
   rw [<- hfin2]
   refine okE.flat (fun _ => rfl) ?_
   simp [W99_1, R99_8, t0, t3, t5, m1, hlt, hlt']
   exact ⟨w', x', y', hQ.mono (by omega), c', lo'⟩
theorem nw_las (C : Lim Tryz.prog O ro okS c) (L : O.Law) {w0 : Own} {h0 : H} {n o : Nat} {N : Net} (hl : N.las.length <= 10000) (w : Own) (h : H) (t : Env) {v0 v1 v2 v3 v4 v5 : Value} (P : Ord) (hP : P.Ok 10100) (x : NL O ro w h n N v0 v1 v2 v3 v4 v5) (y : OB O ro w h o P) (lo : ro <= O.next h) (cc : Ch O (Kc [3] 0) w0 h0 w h) (t0 : t 0 = ptr n) (t3 : t 3 = ptr o) (t5 : t 6 = .int .i64 0) :
 okE c (cBlk 4 (cLoop (W99_2 O Tryz.prog ro))) (t, h) (fun e t' h' => e = .normal /\ t' 3 = ptr o /\ ∃ w', NL O ro w' h' n N v0 v1 v2 v3 v4 v5 /\ OB O ro w' h' o (N.las.foldl (fun P x => P.lay x.l) P) /\ (N.las.foldl (fun P x => P.lay x.l) P).Ok 20100 /\ Ch O (Kc [3] 0) w0 h0 w' h' /\ ro <= O.next h') := by
 refine okE.blk ?_
 have hlen := flat_len LaL.cells 4 (fun _ => rfl) N.las
 refine okE.loop (fun m t g => ∃ j Q w', NL O ro w' g n N v0 v1 v2 v3 v4 v5 /\ OB O ro w' g o Q /\ Q.Ok (10100 + j) /\ Ch O (Kc [3] 0) w0 h0 w' g /\ ro <= O.next g /\ t 0 = ptr n /\ t 3 = ptr o /\ t 6 = .int .i64 (j : Nat) /\ j + m = N.las.length + 1 /\ 0 < m /\ (N.las.drop j).foldl (fun P x => P.lay x.l) Q = N.las.foldl (fun P x => P.lay x.l) P) ?_ (N.las.length + 1) _ _ ⟨0, P, w, x, y, hP, cc, lo, t0, t3, t5, by omega, by omega, rfl⟩
 intro m t g hI
 obtain ⟨j, Q, w', x', y', hQ, c', lo', t0, t3, t5, hj, hm, hfin⟩ := hI
 unfold ptr at t0 t3
 have m1 := x'.m.get 2 _ rfl
 by_cases hlt : j < N.las.length
 . obtain ⟨b, cp, hv1, z⟩ := x'.s2.blk (by omega) N.las.length hlen (by omega)
   rw [hv1] at m1
   have hc : O.cell g b (j * 4) = some (.int .i64 N.las[j].l) := z.get _ _ (flat_at LaL.cells 4 (fun _ => rfl) N.las j hlt 0 (by omega))
   rw [foldl_at _ _ _ hlt] at hfin
   obtain ⟨h2, hc2, y2, c2⟩ := lay_w C L y' (by have := hQ.c; omega) N.las[j].l
   unfold ptr at hc2
   obtain ⟨q, hq⟩ : ∃ q, q = j + 1 := ⟨_, rfl⟩
   have hw : IntKind.i64.wrap ((j : Int) + 1) = (q : Int) := by rw [wrap_id (by omega) (by omega)]; omega
   have hlt' : (j : Int) < N.las.length := by omega
   refine okE.flat (fun _ => rfl) ?_
   simp [W99_2, R99_12, R99_14, R99_13, t0, t3, t5, m1, hlt, hlt', hc, hc2, hw]
   exact ⟨m - 1, by omega, q, _, w', x'.ch L c2 (by simp [Kc]), y2, by rw [hq]; exact hQ.lay _, c'.trans c2, Nat.le_trans lo' c2.nx, rfl, by omega, by omega, by rw [hq]; exact hfin⟩
 . obtain ⟨a, cp, hv1⟩ := x'.s2.len (by omega) N.las.length hlen
   rw [hv1] at m1
   have hlt' : ¬ (j : Int) < N.las.length := by omega
   rw [List.drop_eq_nil_of_le (by omega)] at hfin
   have hfin2 : Q = N.las.foldl (fun P x => P.lay x.l) P := hfin
   rw [<- hfin2]
   refine okE.flat (fun _ => rfl) ?_
   simp [W99_2, R99_12, t0, t3, t5, m1, hlt, hlt']
   exact ⟨w', x', y', hQ.mono (by omega), c', lo'⟩
theorem nw_w (C : Lim Tryz.prog O ro okS c) (L : O.Law) {w : Own} {h : H} {n : Nat} {N : Net} {v0 v1 v2 v3 v4 v5 : Value} (x : NL O ro w h n N v0 v1 v2 v3 v4 v5) (lo : ro <= O.next h) (hl : N.given.length <= 10000 /\ N.ins.length <= 10000 /\ N.las.length <= 10000) :
 ∃ o w' h', c 99 [ptr n] h = some (ptr o, h') /\ NL O ro w' h' n N v0 v1 v2 v3 v4 v5 /\ OB O ro w' h' o (nwS N) /\ (nwS N).Ok 20100 /\ Ch O (Kc [3] 0) w h w' h' /\ ro <= O.next h' := by
 obtain ⟨o, ho⟩ : ∃ o, o = O.next h := ⟨_, rfl⟩
 obtain ⟨h1, hh1⟩ : ∃ h1, h1 = O.new h [.slice none 0 0, .int .i64 0] := ⟨_, rfl⟩
 obtain ⟨w1, hw1⟩ : ∃ w1, w1 = w.set o (3, 1000) := ⟨_, rfl⟩
 have c1 : ∀ K, Ch O K w h w1 h1 := fun K => by rw [hh1, hw1, ho]; exact Ch.new L _ _ _ _ _
 have y1 : Bx O ro w1 h1 (3, 1000) o [.slice none 0 0, .int .i64 0] := by rw [hh1, hw1, ho]; exact Bx.new L _ _ lo _ _
 have lo1 : ro <= O.next h1 := Nat.le_trans lo (c1 fun _ => True).nx
 have x1 := x.ch L (c1 fun _ => False) (by simp)
 have hk0 : (nw0 N).Ok 99 := ⟨by simp [nw0], fun q hq => by
  have := List.eq_of_mem_replicate hq; omega⟩
 have key : ∃ v h', c 99 [ptr n] h = some (v, h') /\ (v = ptr o /\ ∃ w', NL O ro w' h' n N v0 v1 v2 v3 v4 v5 /\ OB O ro w' h' o (nwS N) /\ (nwS N).Ok 20100 /\ Ch O (Kc [3] 0) w h w' h' /\ ro <= O.next h') := by
  refine C.fn (F99_fn O ro) rfl rfl ?_
  unfold F99
  refine okE.seq (okE.flat (fun _ => rfl) ?_)
  simp [R99_0, thenE, -resE, -resLE, -rvE]
  refine okE.seq (okE.flat (fun _ => rfl) ?_)
  simp [R99_1, thenE, <- ho, <- hh1, -resE, -resLE, -rvE]
  refine okE.seq (okE.seq (okE.flat (fun _ => rfl) ?_))
  simp [R99_2, thenE, -resE, -resLE, -rvE]
  refine okE.mono (nw_place C L hl.1 w1 h1 _ x1 ⟨_, y1, Sl.nil _ _ _ _⟩ lo1 (c1 _) (by simp) (by simp) (by simp)) ?_
  rintro e t g ⟨rfl, t0, t3, w2, x2, y2, c2, lo2⟩
  simp only [thenE]
  obtain ⟨h3, hc3, y3, c3⟩ := lay_w C L y2 (by have := hk0.c; omega) 0
  unfold ptr at hc3 t3
  refine okE.seq (okE.flat (fun _ => rfl) ?_)
  simp [R99_6, t3, hc3, thenE, -resE, -resLE, -rvE]
  refine okE.seq (okE.seq (okE.flat (fun _ => rfl) ?_))
  simp [R99_7, thenE, -resE, -resLE, -rvE]
  refine okE.mono (nw_ins C L hl.2.1 w2 h3 _ _ (hk0.lay 0) (x2.ch L c3 (by simp [Kc])) y3 (Nat.le_trans lo2 c3.nx) (c2.trans c3) (by simp [t0]) (by simp [t3]) (by simp)) ?_
  rintro e t g ⟨rfl, t0, t3, w4, x4, y4, k4, c4, lo4⟩
  simp only [thenE]
  refine okE.seq (okE.seq (okE.flat (fun _ => rfl) ?_))
  simp [R99_11, thenE, -resE, -resLE, -rvE]
  refine okE.mono (nw_las C L hl.2.2 w4 g _ _ k4 x4 y4 lo4 c4 (by simp [t0]) (by simp [t3]) (by simp)) ?_
  rintro e t g ⟨rfl, t3, w5, x5, y5, k5, c5, lo5⟩
  simp only [thenE]
  refine okE.flat (fun _ => rfl) ?_
  simp [R99_15, t3]
  exact ⟨w5, x5, y5, k5, c5, lo5⟩
 obtain ⟨v, h', e1, rfl, w', e2⟩ := key
 exact ⟨o, w', h', e1, e2⟩
structure CkT where
 ni : Nat
 las : List (Int × Nat)
 gts : List (Int × Int)
 bad : Int
def laC (x : Int × Nat) : List Value := [.int .i64 x.1, .int .i64 x.2]
def gtC (x : Int × Int) : List Value := [.int .i64 x.1, .int .i64 x.2]
structure CB (O : HI H) (ro : Nat) (w : Own) (h : H) (k : Nat) (p : Nat) (T : CkT) : Prop where
 ex : ∃ v1 v2, Bx O ro w h (k, 1000) p [.int .i64 T.ni, v1, v2, .int .i64 T.bad] /\ Sl O ro w h (k, 1) 2 v1 (T.las.flatMap laC) /\ Sl O ro w h (k, 2) 2 v2 (T.gts.flatMap gtC)
theorem CB.ch (L : O.Law) {K : Tag -> Prop} {w w' : Own} {h h' : H} {k p : Nat} {T : CkT} (x : CB O ro w h k p T) (a : Ch O K w h w' h') (hk : ∀ o, ¬ K (k, o)) : CB O ro w' h' k p T := by
 obtain ⟨v1, v2, m, s1, s2⟩ := x.ex
 exact ⟨v1, v2, m.ch L a (hk _), s1.ch L a (hk _), s2.ch L a (hk _)⟩
theorem CB.appG (L : O.Law) {w : Own} {h : H} {p : Nat} {T : CkT} (x : CB O ro w h 4 p T) (lo : ro <= O.next h) (e : Int × Int) (hl : T.gts.length <= 10000) :
 ∃ v v' h1 w1, O.cell h p 2 = some v /\ appI O ro 2 16 v (.slice (some ⟨O.next h, 0, some 2⟩) 1 2) (O.new h (gtC e)) = some (v', h1) /\ (v'.cells = #[v'] /\ isFlat v' = true /\ isTup v' = false) /\ O.cell h1 p 2 = some v /\ ¬ p < ro /\
  CB O ro w1 (O.put h1 p 2 v') 4 p { T with gts := T.gts ++ [e] } /\ Ch O (Kc [4] 0) w h w1 (O.put h1 p 2 v') /\ ro <= O.next (O.put h1 p 2 v') := by
 obtain ⟨v1, v2, m, s1, s2⟩ := x.ex
 have hlen := flat_len gtC 2 (fun _ => rfl) T.gts
 obtain ⟨v', h1, w1, e1, e2, c1, lo1⟩ := appI_one L (bytes := 16) lo s2 (new := gtC e) (by omega) rfl (by omega) (by omega)
 have m1 := m.ch L c1 (by simp)
 have m2 := m1.put L 2 (by simp) v'
 have c2 := Ch.put L (K := fun u => u = (4, 1000)) m1 2 (by simp) v' rfl
 refine ⟨v2, v', h1, w1, m.get 2 _ rfl, e1, e2.flat, m1.get 2 _ rfl, by have := m.lo; omega, ⟨v1, v', m2, (s1.ch L c1 (by simp)).ch L c2 (by simp), ?_⟩, (Kc.one c1 (.inl (List.mem_singleton.2 rfl))).trans (Kc.one c2 (.inl (List.mem_singleton.2 rfl))), by rw [L.next_put]; exact lo1⟩
 have := e2.ch L c2 (by simp)
 simpa using this
theorem CB.appL (L : O.Law) {w : Own} {h : H} {p : Nat} {T : CkT} (x : CB O ro w h 4 p T) (lo : ro <= O.next h) (e : Int × Nat) (hl : T.las.length <= 10000) :
 ∃ v v' h1 w1, O.cell h p 1 = some v /\ appI O ro 2 16 v (.slice (some ⟨O.next h, 0, some 2⟩) 1 2) (O.new h (laC e)) = some (v', h1) /\ (v'.cells = #[v'] /\ isFlat v' = true /\ isTup v' = false) /\ O.cell h1 p 1 = some v /\ ¬ p < ro /\
  CB O ro w1 (O.put h1 p 1 v') 4 p { T with las := T.las ++ [e] } /\ Ch O (Kc [4] 0) w h w1 (O.put h1 p 1 v') /\ ro <= O.next (O.put h1 p 1 v') := by
 obtain ⟨v1, v2, m, s1, s2⟩ := x.ex
 have hlen := flat_len laC 2 (fun _ => rfl) T.las
 obtain ⟨v', h1, w1, e1, e2, c1, lo1⟩ := appI_one L (bytes := 16) lo s1 (new := laC e) (by omega) rfl (by omega) (by omega)
 have m1 := m.ch L c1 (by simp)
 have m2 := m1.put L 1 (by simp) v'
 have c2 := Ch.put L (K := fun u => u = (4, 1000)) m1 1 (by simp) v' rfl
 refine ⟨v1, v', h1, w1, m.get 1 _ rfl, e1, e2.flat, m1.get 1 _ rfl, by have := m.lo; omega, ⟨v', v2, m2, ?_, (s2.ch L c1 (by simp)).ch L c2 (by simp)⟩, (Kc.one c1 (.inl (List.mem_singleton.2 rfl))).trans (Kc.one c2 (.inl (List.mem_singleton.2 rfl))), by rw [L.next_put]; exact lo1⟩
 have := e2.ch L c2 (by simp)
 simpa using this
def gpair (P : Ord) (g : GaL) : Int × Int := if P.lit g.a.l < P.lit g.b.l then (P.lit g.b.l, P.lit g.a.l) else (P.lit g.a.l, P.lit g.b.l)
theorem lg_w (C : Lim Tryz.prog O ro okS c) (L : O.Law) {w : Own} {h : H} {o p : Nat} {P : Ord} {T : CkT} (x : OB O ro w h o P) (y : CB O ro w h 4 p T) (lo : ro <= O.next h) (hP : P.Ok 100000) (g : GaL) (hg : (0 <= g.a.l /\ g.a.l < 1000000) /\ (0 <= g.b.l /\ g.b.l < 1000000)) (hl : T.gts.length <= 10000) :
 ∃ w' h', c 102 [ptr o, ptr p, .agg g.cells.toArray] h = some (.tuple #[], h') /\ OB O ro w' h' o (P.lay g.g.l) /\ CB O ro w' h' 4 p { T with gts := T.gts ++ [gpair P g] } /\ Ch O (Kc [3, 4] 1) w h w' h' /\ ro <= O.next h' := by
 obtain ⟨b, hb⟩ : ∃ b, b = O.next h := ⟨_, rfl⟩
 obtain ⟨h1, hh1⟩ : ∃ h1, h1 = O.new h g.cells := ⟨_, rfl⟩
 obtain ⟨w1, hw1⟩ : ∃ w1, w1 = w.set b (100, 0) := ⟨_, rfl⟩
 have c1 : ∀ K, Ch O K w h w1 h1 := fun K => by rw [hh1, hw1, hb]; exact Ch.new L _ _ _ _ _
 have z1 : Bx O ro w1 h1 (100, 0) b g.cells := by rw [hh1, hw1, hb]; exact Bx.new L _ _ lo _ _
 have x1 := x.ch L (c1 fun _ => False) (by simp)
 have y1 := y.ch L (c1 fun _ => False) (by simp)
 have lo1 : ro <= O.next h1 := Nat.le_trans lo (c1 fun _ => True).nx
 have q1 := oli_w C x1 hP g.a.l hg.1.1 hg.1.2
 have q2 := oli_w C x1 hP g.b.l hg.2.1 hg.2.2
 obtain ⟨v, v', h2, w2, e1, e2, ⟨f1, f2, f3⟩, e3, hrop, y2, c2, lo2⟩ := y1.appG L lo1 (gpair P g) hl
 have x2 := x1.ch L c2 (by simp [Kc])
 have z2 := z1.ch L c2 (by simp [Kc])
 obtain ⟨h3, hc3, x3, c3⟩ := lay_w C L x2 (by have := hP.c; omega) g.g.l
 refine ⟨w2, h3, ?_, x3, y2.ch L c3 (by simp [Kc]), ((c1 _).trans (Kc.mono c2 (by decide) (by omega))).trans (Kc.mono c3 (by decide) (by omega)), Nat.le_trans lo2 c3.nx⟩
 refine C.eq (F102_fn O ro) rfl rfl (okE.flat (fun _ => rfl) ?_)
 have k2 := z1.get 2 _ rfl
 have k4 := z1.get 4 _ rfl
 have k0 := z2.get 0 _ rfl
 unfold ptr at q1 q2 hc3
 simp only [gtC] at e2
 unfold gpair at e2
 generalize P.lit g.a.l = r1 at q1 e2
 generalize P.lit g.b.l = r2 at q2 e2
 by_cases hlt : r1 < r2
 . rw [if_pos hlt] at e2
   simp [F102, R102_0, R102_1, R102_2, R102_3, R102_4, R102_5, R102_6, <- hb, <- hh1, k2, k4, q1, q2, hlt, e1, List.zipIdx, List.range_succ, e2, f1, f2, f3, e3, hrop, putsA, k0, hc3]
 . rw [if_neg hlt] at e2
   simp [F102, R102_0, R102_1, R102_2, R102_3, R102_4, R102_5, R102_6, <- hb, <- hh1, k2, k4, q1, q2, hlt, e1, List.zipIdx, List.range_succ, e2, f1, f2, f3, e3, hrop, putsA, k0, hc3]
end
section
variable {H : Type} {O : HI H} {ro : Nat} {c : CallT H}
theorem frL_lt (P : Ord) : ∀ (gs : List GaL) (k : Nat), frL P gs k = -1 \/ ((k : Int) <= frL P gs k /\ frL P gs k < k + gs.length) := by
 intro gs
 induction gs with
 | nil => intro k; left; rfl
 | cons g gs ih =>
  intro k
  simp only [frL]
  split
  . right; simp only [List.length_cons]; omega
  . rcases ih (k + 1) with h | h
    . left; exact h
    . right; simp only [List.length_cons]; omega
def arL (gs : List GaL) : Nat -> Ord -> CkT -> Except Nat (Ord × CkT)
 | 0, P, T => .ok (P, T)
 | m + 1, P, T =>
  match gs[(frL P gs 0).toNat]? with
  | some g => if frL P gs 0 = -1 then .error (fuL P gs) else arL gs m (P.lay g.g.l) { T with gts := T.gts ++ [gpair P g] }
  | none => .error (fuL P gs)
theorem arL_err {gs : List GaL} {m : Nat} {P : Ord} {T : CkT} (h : frL P gs 0 = -1) : arL gs (m + 1) P T = .error (fuL P gs) := by
 simp only [arL]
 split
 . rw [if_pos h]
 . rfl
theorem arL_ok {gs : List GaL} {m : Nat} {P : Ord} {T : CkT} (k : Nat) (hk : k < gs.length) (h : frL P gs 0 = k) : arL gs (m + 1) P T = arL gs m (P.lay gs[k].g.l) { T with gts := T.gts ++ [gpair P gs[k]] } := by
 simp only [arL]
 rw [h]
 simp only [Int.toNat_natCast, List.getElem?_eq_getElem hk]
 rw [if_neg (by omega)]
def arS (N : Net) : Except Nat CkT :=
 match arL N.gates N.gates.length (nwS N) ⟨N.ins.length, [], [], 0⟩ with
 | .error q => .error q
 | .ok (P, T) => .ok { T with las := N.las.map fun x => (P.lit x.n.l, x.z), bad := P.lit (propS N) }
def fv (e p : Nat) : Value := .agg #[.int .i64 e, .int .i64 p]
structure Net.Lits (N : Net) : Prop where
 g : ∀ g ∈ N.gates, (0 <= g.a.l /\ g.a.l < 1000000) /\ (0 <= g.b.l /\ g.b.l < 1000000)
 n : ∀ x ∈ N.las, 0 <= x.n.l /\ x.n.l < 1000000
 p : 0 <= propS N /\ propS N < 1000000
structure ArI (O : HI H) (ro : Nat) (w0 : Own) (h0 : H) (n o p b : Nat) (N : Net) (v0 v1 v2 v3 v4 v5 : Value) (w : Own) (h : H) (P : Ord) (T : CkT) : Prop where
 nl : NL O ro w h n N v0 v1 v2 v3 v4 v5
 ob : OB O ro w h o P
 cb : CB O ro w h 4 p T
 lb : Bx O ro w h (101, 0) b [.int .i64 0, .int .i64 0]
 ch : Ch O (Kc [3, 4] 2) w0 h0 w h
 lo : ro <= O.next h
theorem ar_gts (C : Lim Tryz.prog O ro okS c) (L : O.Law) {w0 : Own} {h0 : H} {n o p b : Nat} {N : Net} {v0 v1 v2 v3 v4 v5 : Value} (hl : N.gates.length <= 10000) (hN : N.Lits) (w : Own) (h : H) (t : Env) (P : Ord) (T : CkT) (hP : P.Ok 20100) (hT : T.gts = [])
 (x : ArI O ro w0 h0 n o p b N v0 v1 v2 v3 v4 v5 w h P T) (t0 : t 0 = ptr n) (t3 : t 3 = ptr b) (t4 : t 4 = ptr o) (t5 : t 5 = ptr p) (t6 : t 6 = .int .i64 0) :
 okE c (cBlk 0 (cLoop (W53_0 O Tryz.prog ro))) (t, h) (fun e t' h' => ∃ w', (e = .ret /\ ∃ q, arL N.gates N.gates.length P T = .error q /\ t' 2 = .pointer none /\ t' 3 = ptr b /\ cellsA O h' b 0 2 = some [.int .i64 12, .int .i64 (q : Nat)] /\ Ch O (Kc [3, 4] 2) w0 h0 w' h' /\ ro <= O.next h') \/
  (e = .normal /\ ∃ P' T', arL N.gates N.gates.length P T = .ok (P', T') /\ P'.Ok 30200 /\ T'.las = T.las /\ t' 0 = ptr n /\ t' 3 = ptr b /\ t' 4 = ptr o /\ t' 5 = ptr p /\ ArI O ro w0 h0 n o p b N v0 v1 v2 v3 v4 v5 w' h' P' T')) := by
 refine okE.blk ?_
 have hlen := flat_len GaL.cells 6 (fun _ => rfl) N.gates
 refine okE.loop (fun m t g => ∃ j Q U w', ArI O ro w0 h0 n o p b N v0 v1 v2 v3 v4 v5 w' g Q U /\ Q.Ok (20100 + j) /\ U.las = T.las /\ U.gts.length = j /\ t 0 = ptr n /\ t 3 = ptr b /\ t 4 = ptr o /\ t 5 = ptr p /\ t 6 = .int .i64 (j : Nat) /\ j + m = N.gates.length + 1 /\ 0 < m /\ arL N.gates (m - 1) Q U = arL N.gates N.gates.length P T) ?_ (N.gates.length + 1) _ _ ⟨0, P, T, w, x, hP, rfl, by rw [hT]; rfl, t0, t3, t4, t5, t6, by omega, by omega, rfl⟩
 intro m t g hI
 obtain ⟨j, Q, U, w', x', hQ, hU, hUl, t0, t3, t4, t5, t6, hj, hm, hfin⟩ := hI
 unfold ptr at t0 t3 t4 t5
 have m5 := x'.nl.m.get 5 _ rfl
 obtain ⟨a, cp, hv5⟩ := x'.nl.s5.len (by omega) N.gates.length hlen
 have fr := fr_w C x'.ob x'.nl.s5 hl
 have fu := fu_w C x'.ob x'.nl.s5 hl
 unfold ptr at fr fu
 by_cases hlt : j < N.gates.length
 . obtain ⟨m', rfl⟩ : ∃ m', m = m' + 2 := ⟨m - 2, by omega⟩
   have hfin1 : arL N.gates (m' + 1) Q U = arL N.gates N.gates.length P T := hfin
   have hlt' : (j : Int) < N.gates.length := by omega
   by_cases hk : frL Q N.gates 0 = -1
   . rw [arL_err hk] at hfin1
     obtain ⟨h2, e2, z2, c2⟩ := Bx.puts L (K := fun u => u = (101, 0)) rfl [.int .i64 12, .int .i64 (fuL Q N.gates)] 0 g _ x'.lb (by simp)
     have hro : ¬ b < ro := by have := z2.lo; omega
     have hz : cellsA O h2 b 0 2 = some [.int .i64 12, .int .i64 (fuL Q N.gates)] := by simpa using z2.all
     have cc := x'.ch.trans (Kc.one c2 (.inr (by simp)))
     have lo2 := Nat.le_trans x'.lo c2.nx
     rw [hk] at fr
     rw [hv5] at m5 fr fu
     refine okE.flat (fun _ => rfl) ?_
     simp [W53_0, R53_4, R53_6, R53_7, R53_8, t0, t3, t4, t5, t6, m5, hlt, hlt', fr, fu, List.zipIdx, e2, hro]
     exact ⟨w', fuL Q N.gates, hfin1.symm, hz, cc, lo2⟩
   . rcases frL_lt Q N.gates 0 with hk' | ⟨hk1, hk2⟩
     . exact absurd hk' hk
     . obtain ⟨k, hkk⟩ : ∃ k : Nat, frL Q N.gates 0 = k := ⟨(frL Q N.gates 0).toNat, by omega⟩
       have hkl : k < N.gates.length := by omega
       rw [arL_ok k hkl hkk] at hfin1
       rw [hkk] at fr
       obtain ⟨b5, cp5, hv5', y5⟩ := x'.nl.s5.blk (by omega) N.gates.length hlen (by omega)
       obtain ⟨_, _, _, _, hcell⟩ := gate_at y5 k hkl
       obtain ⟨w2, h2, hc2, x2, y2, c2, lo2⟩ := lg_w C L x'.ob x'.cb x'.lo (hQ.mono (by omega)) N.gates[k] (hN.g _ (List.getElem_mem hkl)) (by omega)
       unfold ptr at hc2
       have nl2 := x'.nl.ch L c2 (by simp [Kc])
       have lb2 := x'.lb.ch L c2 (by simp [Kc])
       obtain ⟨q, hq⟩ : ∃ q, q = j + 1 := ⟨_, rfl⟩
       have hw : IntKind.i64.wrap ((j : Int) + 1) = (q : Int) := by rw [wrap_id (by omega) (by omega)]; omega
       have hkz : ((k : Int) == -1) = false := by simp
       have hkl' : (k : Int) < N.gates.length := by omega
       rw [hv5'] at m5 fr
       have xx : ArI O ro w0 h0 n o p b N v0 v1 v2 v3 v4 v5 w2 h2 (Q.lay N.gates[k].g.l) { U with gts := U.gts ++ [gpair Q N.gates[k]] } := ⟨nl2, x2, y2, lb2, x'.ch.trans (Kc.mono c2 (by decide) (by omega)), lo2⟩
       refine okE.flat (fun _ => rfl) ?_
       simp [W53_0, R53_4, R53_6, R53_7, R53_9, R53_5, t0, t3, t4, t5, t6, m5, hlt, hlt', fr, hkz, hkl, hkl', hcell, hc2, hw]
       exact ⟨m' + 1, by omega, q, _, _, ⟨w2, xx⟩, by rw [hq]; exact hQ.lay _, hU, by simp; omega, rfl, by omega, by omega, hfin1⟩
 . have hm1 : m = 1 := by omega
   subst hm1
   have hfin1 : Except.ok (Q, U) = arL N.gates N.gates.length P T := hfin
   have hlt' : ¬ (j : Int) < N.gates.length := by omega
   rw [hv5] at m5
   refine okE.flat (fun _ => rfl) ?_
   simp [W53_0, R53_4, t0, t3, t4, t5, t6, m5, hlt, hlt']
   exact ⟨w', Q, U, hfin1.symm, hQ.mono (by omega), hU, x'⟩
theorem ar_las (C : Lim Tryz.prog O ro okS c) (L : O.Law) {w0 : Own} {h0 : H} {n o p b : Nat} {N : Net} {v0 v1 v2 v3 v4 v5 : Value} (hl : N.las.length <= 10000) (hN : N.Lits) (w : Own) (h : H) (t : Env) (P : Ord) (T : CkT) (hP : P.Ok 30200) (hT : T.las = [])
 (x : ArI O ro w0 h0 n o p b N v0 v1 v2 v3 v4 v5 w h P T) (t0 : t 0 = ptr n) (t3 : t 3 = ptr b) (t4 : t 4 = ptr o) (t5 : t 5 = ptr p) (t8 : t 8 = .int .i64 0) :
 okE c (cBlk 2 (cLoop (W53_1 O Tryz.prog ro))) (t, h) (fun e t' h' => e = .normal /\ t' 0 = ptr n /\ t' 3 = ptr b /\ t' 4 = ptr o /\ t' 5 = ptr p /\ ∃ w', ArI O ro w0 h0 n o p b N v0 v1 v2 v3 v4 v5 w' h' P { T with las := N.las.map fun x => (P.lit x.n.l, x.z) }) := by
 refine okE.blk ?_
 have hlen := flat_len LaL.cells 4 (fun _ => rfl) N.las
 refine okE.loop (fun m t g => ∃ j w', ArI O ro w0 h0 n o p b N v0 v1 v2 v3 v4 v5 w' g P { T with las := (N.las.map fun x => (P.lit x.n.l, x.z)).take j } /\ t 0 = ptr n /\ t 3 = ptr b /\ t 4 = ptr o /\ t 5 = ptr p /\ t 8 = .int .i64 (j : Nat) /\ j + m = N.las.length + 1 /\ 0 < m) ?_ (N.las.length + 1) _ _ ⟨0, w, by simpa [<- hT] using x, t0, t3, t4, t5, t8, by omega, by omega⟩
 intro m t g hI
 obtain ⟨j, w', x', t0, t3, t4, t5, t8, hj, hm⟩ := hI
 unfold ptr at t0 t3 t4 t5
 have m2 := x'.nl.m.get 2 _ rfl
 by_cases hlt : j < N.las.length
 . obtain ⟨b2, cp2, hv2, y2⟩ := x'.nl.s2.blk (by omega) N.las.length hlen (by omega)
   have k1 : O.cell g b2 (j * 4 + 1) = some (.int .i64 N.las[j].n.l) := y2.get _ _ (flat_at LaL.cells 4 (fun _ => rfl) N.las j hlt 1 (by omega))
   have k3 : O.cell g b2 (j * 4 + 3) = some (.int .i64 N.las[j].z) := y2.get _ _ (flat_at LaL.cells 4 (fun _ => rfl) N.las j hlt 3 (by omega))
   have hlit := hN.n _ (List.getElem_mem hlt)
   have q1 := oli_w C x'.ob (hP.mono (by omega)) N.las[j].n.l hlit.1 hlit.2
   obtain ⟨v, v', h2, w2, e1, e2, ⟨f1, f2, f3⟩, e3, hrop, y3, c3, lo3⟩ := x'.cb.appL L x'.lo (P.lit N.las[j].n.l, N.las[j].z) (by simp; omega)
   obtain ⟨q, hq⟩ : ∃ q, q = j + 1 := ⟨_, rfl⟩
   have hw : IntKind.i64.wrap ((j : Int) + 1) = (q : Int) := by rw [wrap_id (by omega) (by omega)]; omega
   have hlt' : (j : Int) < N.las.length := by omega
   rw [hv2] at m2
   unfold ptr at q1
   simp only [laC] at e2
   have xx : ArI O ro w0 h0 n o p b N v0 v1 v2 v3 v4 v5 w2 (O.put h2 p 1 v') P { T with las := (N.las.map fun x => (P.lit x.n.l, x.z)).take q } := by
    refine ⟨x'.nl.ch L c3 (by simp [Kc]), x'.ob.ch L c3 (by simp [Kc]), ?_, x'.lb.ch L c3 (by simp [Kc]), x'.ch.trans (Kc.mono c3 (by decide) (by omega)), lo3⟩
    rw [hq, List.take_add_one, List.getElem?_map, List.getElem?_eq_getElem hlt]
    exact y3
   refine okE.flat (fun _ => rfl) ?_
   simp [W53_1, R53_11, R53_13, R53_14, R53_12, t0, t3, t4, t5, t8, m2, hlt, hlt', k1, k3, q1, List.zipIdx, List.range_succ, e1, e2, f1, f2, f3, e3, hrop, putsA, hw]
   exact ⟨m - 1, by omega, q, ⟨w2, xx⟩, rfl, by omega, by omega⟩
 . obtain ⟨a, cp, hv2⟩ := x'.nl.s2.len (by omega) N.las.length hlen
   have hlt' : ¬ (j : Int) < N.las.length := by omega
   have xx := x'
   rw [List.take_of_length_le (by simp; omega)] at xx
   rw [hv2] at m2
   refine okE.flat (fun _ => rfl) ?_
   simp [W53_1, R53_11, t0, t3, t4, t5, t8, m2, hlt, hlt']
   exact ⟨w', xx⟩
theorem ar_w (C : Lim Tryz.prog O ro okS c) (L : O.Law) {w : Own} {h : H} {n : Nat} {N : Net} {v0 v1 v2 v3 v4 v5 : Value} (x : NL O ro w h n N v0 v1 v2 v3 v4 v5) (lo : ro <= O.next h) (hl : N.given.length <= 10000 /\ N.ins.length <= 10000 /\ N.las.length <= 10000 /\ N.gates.length <= 10000) (hN : N.Lits) :
 ∃ p v w' h', c 53 [ptr n] h = some (v, h') /\ ((∃ q, arS N = .error q /\ v = .tuple #[.pointer none, fv 12 q]) \/ (∃ T, arS N = .ok T /\ v = .tuple #[ptr p, fv 0 0] /\ CB O ro w' h' 4 p T)) /\ Ch O (Kc [3, 4] 2) w h w' h' /\ ro <= O.next h' := by
 obtain ⟨b, hb⟩ : ∃ b, b = O.next h := ⟨_, rfl⟩
 obtain ⟨h1, hh1⟩ : ∃ h1, h1 = O.new h [.int .i64 0, .int .i64 0] := ⟨_, rfl⟩
 obtain ⟨w1, hw1⟩ : ∃ w1, w1 = w.set b (101, 0) := ⟨_, rfl⟩
 have c1 : ∀ K, Ch O K w h w1 h1 := fun K => by rw [hh1, hw1, hb]; exact Ch.new L _ _ _ _ _
 have z1 : Bx O ro w1 h1 (101, 0) b [.int .i64 0, .int .i64 0] := by rw [hh1, hw1, hb]; exact Bx.new L _ _ lo _ _
 have x1 := x.ch L (c1 fun _ => False) (by simp)
 have lo1 : ro <= O.next h1 := Nat.le_trans lo (c1 fun _ => True).nx
 obtain ⟨o, w2, h2, hc2, x2, y2, k2, c2, lo2⟩ := nw_w C L x1 lo1 ⟨hl.1, hl.2.1, hl.2.2.1⟩
 have z2 := z1.ch L c2 (by simp [Kc])
 obtain ⟨p, hp⟩ : ∃ p, p = O.next h2 := ⟨_, rfl⟩
 obtain ⟨h3, hh3⟩ : ∃ h3, h3 = O.new h2 [.int .i64 N.ins.length, .slice none 0 0, .slice none 0 0, .int .i64 0] := ⟨_, rfl⟩
 obtain ⟨w3, hw3⟩ : ∃ w3, w3 = w2.set p (4, 1000) := ⟨_, rfl⟩
 have c3 : ∀ K, Ch O K w2 h2 w3 h3 := fun K => by rw [hh3, hw3, hp]; exact Ch.new L _ _ _ _ _
 have u3 : Bx O ro w3 h3 (4, 1000) p [.int .i64 N.ins.length, .slice none 0 0, .slice none 0 0, .int .i64 0] := by rw [hh3, hw3, hp]; exact Bx.new L _ _ lo2 _ _
 have x3 := x2.ch L (c3 fun _ => False) (by simp)
 have y3 := y2.ch L (c3 fun _ => False) (by simp)
 have z3 := z2.ch L (c3 fun _ => False) (by simp)
 have lo3 : ro <= O.next h3 := Nat.le_trans lo2 (c3 fun _ => True).nx
 have A3 : ArI O ro w h n o p b N v0 v1 v2 v3 v4 v5 w3 h3 (nwS N) ⟨N.ins.length, [], [], 0⟩ := ⟨x3, y3, ⟨_, _, u3, Sl.nil _ _ _ _, Sl.nil _ _ _ _⟩, z3, ((c1 _).trans (Kc.mono c2 (by decide) (by omega))).trans (c3 _), lo3⟩
 have m1 := x2.m.get 1 _ rfl
 obtain ⟨a, cp, hv1⟩ := x2.s1.len (by omega) N.ins.length (by simp)
 have key : ∃ v h', c 53 [ptr n] h = some (v, h') /\ ∃ w', ((∃ q, arS N = .error q /\ v = .tuple #[.pointer none, fv 12 q]) \/ (∃ T, arS N = .ok T /\ v = .tuple #[ptr p, fv 0 0] /\ CB O ro w' h' 4 p T)) /\ Ch O (Kc [3, 4] 2) w h w' h' /\ ro <= O.next h' := by
  refine C.fn (F53_fn O ro) rfl rfl ?_
  unfold F53
  refine okE.seq (okE.flat (fun _ => rfl) ?_)
  simp [R53_0, <- hb, <- hh1, thenE, -resE, -resLE, -rvE]
  unfold ptr at hc2
  refine okE.seq (okE.flat (fun _ => rfl) ?_)
  simp [R53_1, hc2, thenE, -resE, -resLE, -rvE]
  refine okE.seq (okE.flat (fun _ => rfl) ?_)
  rw [hv1] at m1
  simp [R53_2, m1, List.zipIdx, <- hp, <- hh3, thenE, -resE, -resLE, -rvE]
  refine okE.seq (okE.seq (okE.flat (fun _ => rfl) ?_))
  simp [R53_3, thenE, -resE, -resLE, -rvE]
  refine okE.mono (ar_gts C L hl.2.2.2 hN w3 h3 _ (nwS N) ⟨N.ins.length, [], [], 0⟩ k2 rfl A3 (by simp) (by simp) (by simp) (by simp) (by simp)) ?_
  rintro e t g ⟨w4, ⟨rfl, q, eq, t2, t3, hz, cc, lo4⟩ | ⟨rfl, P, T, eq, hP, hT, t0, t3, t4, t5, A4⟩⟩
  . simp only [thenE]
    have : arS N = .error q := by unfold arS; rw [eq]
    unfold ptr at t3
    simp [t2, t3, load58, hz]
    exact ⟨⟨q, this, rfl⟩, ⟨w4, cc⟩, lo4⟩
  . simp only [thenE]
    refine okE.seq (okE.seq (okE.flat (fun _ => rfl) ?_))
    simp [R53_10, thenE, -resE, -resLE, -rvE]
    refine okE.mono (ar_las C L hl.2.2.1 hN w4 g _ P T hP hT A4 (by simp [t0]) (by simp [t3]) (by simp [t4]) (by simp [t5]) (by simp)) ?_
    rintro e t g ⟨rfl, t0, t3, t4, t5, w5, A5⟩
    simp only [thenE]
    have hpr := prop_w C A5.nl
    have hol := oli_w C A5.ob (hP.mono (by omega)) (propS N) hN.p.1 hN.p.2
    obtain ⟨u1, u2, um, us1, us2⟩ := A5.cb.ex
    have um2 := um.put L 3 (by simp) (.int .i64 (P.lit (propS N)))
    have c6 := Ch.put L (K := fun u => u = (4, 1000)) um 3 (by simp) (.int .i64 (P.lit (propS N))) rfl
    have um3 := um.get 3 _ rfl
    have hrop : ¬ p < ro := by have := um.lo; omega
    have lb6 := A5.lb.ch L c6 (by simp)
    obtain ⟨h7, e7, z7, c7⟩ := Bx.puts L (K := fun u => u = (101, 0)) rfl [.int .i64 0, .int .i64 0] 0 _ _ lb6 (by simp)
    have hz7 : cellsA O h7 b 0 2 = some [.int .i64 0, .int .i64 0] := by simpa using z7.all
    have hrob : ¬ b < ro := by have := z7.lo; omega
    have cb7 : CB O ro w5 h7 4 p { T with las := N.las.map fun x => (P.lit x.n.l, x.z), bad := P.lit (propS N) } :=
     ⟨u1, u2, um2.ch L c7 (by simp), (us1.ch L c6 (by simp)).ch L c7 (by simp), (us2.ch L c6 (by simp)).ch L c7 (by simp)⟩
    have cc7 := (A5.ch.trans (Kc.one c6 (.inl (by simp)))).trans (Kc.one c7 (.inr (by simp)))
    have lo7 : ro <= O.next h7 := Nat.le_trans (Nat.le_trans A5.lo c6.nx) c7.nx
    have : arS N = .ok { T with las := N.las.map fun x => (P.lit x.n.l, x.z), bad := P.lit (propS N) } := by unfold arS; rw [eq]
    unfold ptr at t0 t3 t4 t5 hpr hol
    refine okE.flat (fun _ => rfl) ?_
    have hpu : putsA O g p 3 [.int .i64 (P.lit (propS N))] = some (O.put g p 3 (.int .i64 (P.lit (propS N)))) := by simp [putsA, um3]
    simp [R53_15, R53_16, R53_17, t0, t3, t4, t5, hpr, hol, hrop, hpu, List.zipIdx, hrob, e7, load58, hz7]
    exact ⟨w5, ⟨_, this, rfl, cb7⟩, cc7, lo7⟩
 obtain ⟨v, h', e1, w', e2⟩ := key
 exact ⟨p, v, w', h', e1, e2⟩
end
end Go.Proofs.YtlakdngplpabdaaGreatDoor
