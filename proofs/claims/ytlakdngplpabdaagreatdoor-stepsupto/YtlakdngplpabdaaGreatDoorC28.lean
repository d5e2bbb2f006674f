/- Own work. -/
import Derived.Test.YtlakdngplpabdaaGreatDoorC27
namespace Go.Proofs.YtlakdngplpabdaaGreatDoor
open Go.Vm Go.Proofs
set_option linter.unusedSimpArgs false
set_option linter.unusedVariables false
set_option maxHeartbeats 400000
set_option maxRecDepth 4000
structure CN where
 ni : Nat
 las : List (Nat × Nat)
 gts : List (Nat × Nat)
 bad : Nat
def pI (x : Nat × Nat) : Int × Nat := ((x.1 : Int), x.2)
def pII (x : Nat × Nat) : Int × Int := ((x.1 : Int), (x.2 : Int))
def CN.ck (N : CN) : CkT := ⟨N.ni, N.las.map pI, N.gts.map pII, (N.bad : Int)⟩
structure COk (N : CN) : Prop where
 ni : N.ni <= 4
 nl : N.las.length <= 6
 na : N.gts.length <= 60
 g : ∀ k (h : k < N.gts.length), N.gts[k].2 <= N.gts[k].1 /\ N.gts[k].1 <= 2 * (N.ni + N.las.length + k) + 1
 n : ∀ x ∈ N.las, x.1 <= 2 * (N.ni + N.las.length + N.gts.length) + 1 /\ x.2 <= 2
 b : N.bad <= 2 * (N.ni + N.las.length + N.gts.length) + 1
theorem TOk.cn {T : CkT} (h : TOk T) : ∃ N : CN, T = N.ck /\ COk N := by
 obtain ⟨ni, las, gts, bad⟩ := T
 have hg : ∀ x ∈ gts, 0 <= x.1 /\ 0 <= x.2 := by
  intro x hx
  obtain ⟨k, hk, rfl⟩ := List.getElem_of_mem hx
  have := h.g k hk
  simp only at this
  omega
 have e1 : las = (las.map fun x => (x.1.toNat, x.2)).map pI := by
  rw [List.map_map]
  conv => lhs; rw [<- List.map_id las]
  refine List.map_congr_left fun x hx => ?_
  have := (h.n x hx).1
  simp only [id, Function.comp, pI]
  rw [Int.toNat_of_nonneg this.1]
 have e2 : gts = (gts.map fun x => (x.1.toNat, x.2.toNat)).map pII := by
  rw [List.map_map]
  conv => lhs; rw [<- List.map_id gts]
  refine List.map_congr_left fun x hx => ?_
  have := hg x hx
  simp only [id, Function.comp, pII]
  rw [Int.toNat_of_nonneg this.1, Int.toNat_of_nonneg this.2]
 have hb := h.b
 simp only at hb
 refine ⟨⟨ni, las.map fun x => (x.1.toNat, x.2), gts.map fun x => (x.1.toNat, x.2.toNat), bad.toNat⟩, ?_, ?_⟩
 . unfold CN.ck
   simp only
   rw [<- e1, <- e2, Int.toNat_of_nonneg hb.1]
 . have h1 := h.ni
   have h2 := h.nl
   have h3 := h.na
   simp only at h1 h2 h3
   refine ⟨h1, by simpa using h2, by simpa using h3, ?_, ?_, ?_⟩
   . intro k hk
     simp only [List.length_map] at hk
     have := h.g k hk
     simp only at this
     simp only [List.getElem_map, List.length_map]
     omega
   . intro x hx
     obtain ⟨y, hy, rfl⟩ := List.mem_map.1 hx
     have := h.n y hy
     simp only at this
     simp only [List.length_map]
     omega
   . simp only [List.length_map]; omega
def tlS (x : Nat × Nat) (own : Nat) : List Nat := x.1 :: (if x.2 = 1 then [1] else if x.2 = 2 then [own] else [])
def by7 (n : Nat) : ByteArray := if n < 128 then ⟨#[UInt8.ofNat n]⟩ else ⟨#[UInt8.ofNat (128 + n % 128), UInt8.ofNat (n / 128)]⟩
def cntS (N : CN) : ByteArray := lnS [N.ni + N.las.length + N.gts.length, N.ni, N.las.length, 0, N.gts.length, 1]
def prC (x : Nat × Nat) : List Value := [.int .i64 (x.1 : Int), .int .i64 (x.2 : Int)]
section
variable {H : Type} {O : HI H} {ro : Nat} {c : CallT H}
structure XC (O : HI H) (ro : Nat) (w : Own) (h : H) (k p : Nat) (N : CN) (v1 v2 : Value) : Prop where
 m : Bx O ro w h (k, 1000) p [.int .i64 (N.ni : Nat), v1, v2, .int .i64 (N.bad : Nat)]
 s1 : Sl O ro w h (k, 1) 2 v1 (N.las.flatMap prC)
 s2 : Sl O ro w h (k, 2) 2 v2 (N.gts.flatMap prC)
theorem XC.al (L : O.Law) {w w' : Own} {h h' : H} {k p : Nat} {N : CN} {v1 v2 : Value} (x : XC O ro w h k p N v1 v2) (a : Al O w h w' h') : XC O ro w' h' k p N v1 v2 := ⟨x.m.al' L a, x.s1.al L a, x.s2.al L a⟩
theorem CB.xc {w : Own} {h : H} {k p : Nat} {N : CN} (x : CB O ro w h k p N.ck) : ∃ v1 v2, XC O ro w h k p N v1 v2 := by
 obtain ⟨v1, v2, m, s1, s2⟩ := x.ex
 refine ⟨v1, v2, m, ?_, ?_⟩
 . simp only [CN.ck, List.flatMap_map] at s1
   exact s1
 . simp only [CN.ck, List.flatMap_map] at s2
   exact s2
theorem pair_at {w : Own} {h : H} {tg : Tag} {v : Value} {us : List (Nat × Nat)} (sl : Sl O ro w h tg 2 v (us.flatMap prC)) (j : Nat) (hj : j < us.length) : ∃ b cp, v = .slice (some ⟨b, 0, some 2⟩) us.length cp /\ O.cell h b (j * 2) = some (.int .i64 ((us[j].1 : Nat) : Int)) /\ O.cell h b (j * 2 + 1) = some (.int .i64 ((us[j].2 : Nat) : Int)) /\ cellsA O h b (j * 2) 2 = some [.int .i64 ((us[j].1 : Nat) : Int), .int .i64 ((us[j].2 : Nat) : Int)] := by
 obtain ⟨b, cp, e, y⟩ := sl.blk (by omega) us.length (flat_len prC 2 (fun _ => rfl) us) (by omega)
 have e0 := flat_at prC 2 (fun _ => rfl) us j hj 0 (by omega)
 have e1 := flat_at prC 2 (fun _ => rfl) us j hj 1 (by omega)
 exact ⟨b, cp, e, y.get _ _ e0, y.get _ _ e1, y.at (j * 2) (prC us[j]) fun i hi => flat_at prC 2 (fun _ => rfl) us j hj i hi⟩
theorem pair_len {w : Own} {h : H} {tg : Tag} {v : Value} {us : List (Nat × Nat)} (sl : Sl O ro w h tg 2 v (us.flatMap prC)) : ∃ a cp, v = .slice a us.length cp := sl.len (by omega) us.length (flat_len prC 2 (fun _ => rfl) us)
attribute [local simp] cSeq cReg reg to mv too onlyIf onlyIfo aMove aNil aFld aLd aInt aPick aLenStr aIdxStr aConv aUn unA ev upd_get isB envOf iA_add iA_sub iA_mul iA_eql iA_neq iA_lss iA_leq iA_gtr iA_geq cIf cRet cSkip okc_some resE resLE rvE aSt vc_int vc_bool vc_agg vc_str vc_ptr vc_sl ft_int ft_bool ft_str ft_ptr ft_sl tp_int tp_bool tp_agg tp_str tp_ptr tp_sl aBuild Instr.fill aCall cExit cBlk outOf ptr undef aNew aBox aIdxArr aLdN aShift shiftA aLenSl aIdx aMkSl aApp rangeA aExt aSliceStr aStr strA
theorem wr {a : Int} {n : Nat} (h : a = (n : Int)) (hn : n < 1000000) : IntKind.i64.wrap a = (n : Int) := by rw [h, wrap_id (by omega) (by omega)]
theorem line_n (C : Lim Tryz.prog O ro okS c) (L : O.Law) {w : Own} {h : H} (g : Gl O w h) (lo : ro <= O.next h) (ns : List Nat) (hne : ns ≠ []) (hn : ∀ n ∈ ns, n < 256) (hl : ns.length <= 100) :
 ∃ w' h', c 62 [.slice (some ⟨O.next h, 0, some 1⟩) ns.length (ns.length + 1)] (O.new h (nvs ns)) = some (.string (lnS ns), h') /\ Al O w h w' h' := by
 obtain ⟨w1, h1, rfl, s1, al1, l1⟩ := mk_sl L w h lo (100, 0) (nvs ns) (by simpa [nvs] using hne)
 obtain ⟨w2, h2, e2, al2⟩ := line_b C L (g.al' L al1) (al1.lo lo) ns s1 hn hl
 have hln : (nvs ns).length = ns.length := by simp [nvs]
 rw [hln] at e2
 exact ⟨w2, h2, e2, al1.trans al2⟩
theorem row_n (C : Lim Tryz.prog O ro okS c) (L : O.Law) {w : Own} {h : H} (lo : ro <= O.next h) (ns : List Nat) (hne : ns ≠ []) (hn : ∀ n ∈ ns, n < 256) (hl : ns.length <= 100) :
 ∃ w' h', c 67 [.slice (some ⟨O.next h, 0, some 1⟩) ns.length (ns.length + 1)] (O.new h (nvs ns)) = some (.string (lnS ns), h') /\ Al O w h w' h' := by
 obtain ⟨w1, h1, rfl, s1, al1, l1⟩ := mk_sl L w h lo (100, 0) (nvs ns) (by simpa [nvs] using hne)
 obtain ⟨w2, h2, e2, al2⟩ := row_b C L (al1.lo lo) ns s1 hn hl
 have hln : (nvs ns).length = ns.length := by simp [nvs]
 rw [hln] at e2
 exact ⟨w2, h2, e2, al1.trans al2⟩
theorem counts_b (C : Lim Tryz.prog O ro okS c) (L : O.Law) {w : Own} {h : H} (g : Gl O w h) (lo : ro <= O.next h) {k p : Nat} {N : CN} {v1 v2 : Value} (x : XC O ro w h k p N v1 v2) (ok : COk N) :
 ∃ w' h', c 61 [.pointer (some ⟨p, 0, none⟩)] h = some (.string (cntS N), h') /\ Al O w h w' h' := by
 have o1 := ok.ni
 have o2 := ok.nl
 have o3 := ok.na
 obtain ⟨a1, cp1, rfl⟩ := pair_len x.s1
 obtain ⟨a2, cp2, rfl⟩ := pair_len x.s2
 have k0 := x.m.get 0 _ rfl
 have k1 := x.m.get 1 _ rfl
 have k2 := x.m.get 2 _ rfl
 obtain ⟨m, hm⟩ : ∃ m, m = N.ni + N.las.length := ⟨_, rfl⟩
 obtain ⟨q, hq⟩ : ∃ q, q = N.ni + N.las.length + N.gts.length := ⟨_, rfl⟩
 have hw1 : IntKind.i64.wrap ((N.ni : Int) + (N.las.length : Int)) = (m : Int) := wr (by omega) (by omega)
 have hw2 : IntKind.i64.wrap ((m : Int) + (N.gts.length : Int)) = (q : Int) := wr (by omega) (by omega)
 obtain ⟨w2, h2, e2, al2⟩ := line_n C L g lo [q, N.ni, N.las.length, 0, N.gts.length, 1] (by simp) (by simp; omega) (by simp)
 refine ⟨w2, h2, ?_, al2⟩
 unfold cntS
 rw [<- hq]
 have e3 : c 62 [.slice (some ⟨O.next h, 0, some 1⟩) 6 7] (O.new h [.int .i64 (q : Int), .int .i64 (N.ni : Int), .int .i64 (N.las.length : Int), .int .i64 0, .int .i64 (N.gts.length : Int), .int .i64 1]) = some (.string (lnS [q, N.ni, N.las.length, 0, N.gts.length, 1]), h2) := e2
 generalize lnS [q, N.ni, N.las.length, 0, N.gts.length, 1] = E at *
 refine C.eq (F61_fn O ro) rfl rfl (okE.flat (fun _ => rfl) ?_)
 simp [F61, R61_0, R61_1, R61_2, k0, k1, k2, hw1, hw2, List.zipIdx, List.range_succ, e3]
theorem latl_b (C : Lim Tryz.prog O ro okS c) {w : Own} {h : H} {k p : Nat} {N : CN} {v1 v2 : Value} (x : XC O ro w h k p N v1 v2) (ok : COk N) (j : Nat) (hj : j < 1000) :
 c 63 [.pointer (some ⟨p, 0, none⟩), .int .i64 (j : Nat)] h = some (.int .i64 ((2 * (1 + N.ni + j) : Nat) : Int), h) := by
 have o1 := ok.ni
 have k0 := x.m.get 0 _ rfl
 obtain ⟨m, hm⟩ : ∃ m, m = 1 + N.ni := ⟨_, rfl⟩
 obtain ⟨q, hq⟩ : ∃ q, q = 1 + N.ni + j := ⟨_, rfl⟩
 obtain ⟨r, hr⟩ : ∃ r, r = 2 * (1 + N.ni + j) := ⟨_, rfl⟩
 have hw1 : IntKind.i64.wrap (1 + (N.ni : Int)) = (m : Int) := wr (by omega) (by omega)
 have hw2 : IntKind.i64.wrap ((m : Int) + (j : Int)) = (q : Int) := wr (by omega) (by omega)
 have hw3 : IntKind.i64.wrap (2 * (q : Int)) = (r : Int) := wr (by omega) (by omega)
 rw [<- hr]
 refine C.eq (F63_fn O ro) rfl rfl (okE.flat (fun _ => rfl) ?_)
 simp [F63, R63_0, R63_1, k0, hw1, hw2, hw3]
theorem gatl_b (C : Lim Tryz.prog O ro okS c) {w : Own} {h : H} {k p : Nat} {N : CN} {v1 v2 : Value} (x : XC O ro w h k p N v1 v2) (ok : COk N) (j : Nat) (hj : j < 1000) :
 c 66 [.pointer (some ⟨p, 0, none⟩), .int .i64 (j : Nat)] h = some (.int .i64 ((2 * (1 + N.ni + N.las.length + j) : Nat) : Int), h) := by
 have o1 := ok.ni
 have o2 := ok.nl
 obtain ⟨a1, cp1, rfl⟩ := pair_len x.s1
 have k0 := x.m.get 0 _ rfl
 have k1 := x.m.get 1 _ rfl
 obtain ⟨m, hm⟩ : ∃ m, m = 1 + N.ni := ⟨_, rfl⟩
 obtain ⟨n, hn⟩ : ∃ n, n = 1 + N.ni + N.las.length := ⟨_, rfl⟩
 obtain ⟨q, hq⟩ : ∃ q, q = 1 + N.ni + N.las.length + j := ⟨_, rfl⟩
 obtain ⟨r, hr⟩ : ∃ r, r = 2 * (1 + N.ni + N.las.length + j) := ⟨_, rfl⟩
 have hw1 : IntKind.i64.wrap (1 + (N.ni : Int)) = (m : Int) := wr (by omega) (by omega)
 have hw2 : IntKind.i64.wrap ((m : Int) + (N.las.length : Int)) = (n : Int) := wr (by omega) (by omega)
 have hw3 : IntKind.i64.wrap ((n : Int) + (j : Int)) = (q : Int) := wr (by omega) (by omega)
 have hw4 : IntKind.i64.wrap (2 * (q : Int)) = (r : Int) := wr (by omega) (by omega)
 rw [<- hr]
 refine C.eq (F66_fn O ro) rfl rfl (okE.flat (fun _ => rfl) ?_)
 simp [F66, R66_0, R66_1, k0, k1, hw1, hw2, hw3, hw4]
theorem new_1 (L : O.Law) (h : H) (v : Value) : cellsA O (O.new h [v]) (O.next h) 0 1 = some [v] :=
 cellsA_get 1 0 [v] rfl fun i hi => by rw [L.cell_new, if_pos rfl]; simp
theorem new_2 (L : O.Law) (h : H) (v u : Value) : cellsA O (O.new h [v, u]) (O.next h) 0 2 = some [v, u] :=
 cellsA_get 2 0 [v, u] rfl fun i hi => by rw [L.cell_new, if_pos rfl]; simp
theorem b2s2 (n m : Nat) : bytesA [.int .u8 (n : Int), .int .u8 (m : Int)] = some [UInt8.ofNat n, UInt8.ofNat m] := by simp [bytesA]
theorem diff_b (C : Lim Tryz.prog O ro okS c) (L : O.Law) {w : Own} {h : H} (lo : ro <= O.next h) (n : Nat) (hn : n < 16384) :
 ∃ w' h', c 69 [.int .i64 (n : Nat)] h = some (.string (by7 n), h') /\ Al O w h w' h' := by
 by_cases h1 : n < 128
 . obtain ⟨w1, h2, hh1, s1, al1, l1⟩ := mk_sl L w h lo (100, 0) [.int .u8 (n : Int)] (by simp)
   refine ⟨w1, h2, ?_, al1⟩
   have h1' : (n : Int) < 128 := by omega
   have hw := wrap_u8 n (by omega)
   have l1' : cellsA O h2 (O.next h) 0 1 = some [.int .u8 (n : Int)] := l1
   have hb := b2s1 n (by omega)
   have hd : (⟨#[UInt8.ofNat n]⟩ : ByteArray) = by7 n := by unfold by7; rw [if_pos h1]
   refine C.eq (F69_fn O ro) rfl rfl (okE.flat (fun _ => rfl) ?_)
   simp [F69, R69_0, R69_1, R69_2, h1, h1', hw, List.zipIdx, List.range_succ, <- hh1, aB2S, l1', hb, hd]
 . obtain ⟨m, hm⟩ : ∃ m, m = n % 128 := ⟨_, rfl⟩
   obtain ⟨r, hr⟩ : ∃ r, r = 128 + n % 128 := ⟨_, rfl⟩
   obtain ⟨q, hq⟩ : ∃ q, q = n / 128 := ⟨_, rfl⟩
   obtain ⟨w1, h2, hh1, s1, al1, l1⟩ := mk_sl L w h lo (100, 0) [.int .u8 (r : Int), .int .u8 (q : Int)] (by simp)
   refine ⟨w1, h2, ?_, al1⟩
   have h1' : ¬ (n : Int) < 128 := by omega
   have r1 : intA .rem .i64 (n : Int) 128 = some (.int .i64 (m : Int)) := by rw [hm]; exact iA_rem .i64 n 128 (by omega)
   have r2 : intA .quo .i64 (n : Int) 128 = some (.int .i64 (q : Int)) := by rw [hq]; exact iA_quo .i64 n 128 (by omega) (wr rfl (by omega))
   have hw1 : IntKind.i64.wrap ((m : Int) + 128) = (r : Int) := wr (by omega) (by omega)
   have hw := wrap_u8 r (by omega)
   have hw2 := wrap_u8 q (by omega)
   have l1' : cellsA O h2 (O.next h) 0 2 = some [.int .u8 (r : Int), .int .u8 (q : Int)] := l1
   have hb := b2s2 r q
   have hd : (⟨#[UInt8.ofNat r, UInt8.ofNat q]⟩ : ByteArray) = by7 n := by unfold by7; rw [if_neg h1, hr, hq]
   refine C.eq (F69_fn O ro) rfl rfl (okE.flat (fun _ => rfl) ?_)
   simp [F69, R69_0, R69_1, R69_3, h1, h1', r1, r2, hw1, hw, hw2, List.zipIdx, List.range_succ, <- hh1, aB2S, l1', hb, hd]
theorem by7_b (C : Lim Tryz.prog O ro okS c) (L : O.Law) {w : Own} {h : H} (lo : ro <= O.next h) (n : Nat) (hn : n < 16384) :
 ∃ w' h', c 70 [.int .i64 (n : Nat)] h = some (.string (by7 n), h') /\ Al O w h w' h' := by
 by_cases h1 : n < 128
 . obtain ⟨w1, h2, hh1, s1, al1, l1⟩ := mk_sl L w h lo (100, 0) [.int .u8 (n : Int)] (by simp)
   refine ⟨w1, h2, ?_, al1⟩
   have h1' : (n : Int) < 128 := by omega
   have hw := wrap_u8 n (by omega)
   have l1' : cellsA O h2 (O.next h) 0 1 = some [.int .u8 (n : Int)] := l1
   have hb := b2s1 n (by omega)
   have hd : (⟨#[UInt8.ofNat n]⟩ : ByteArray) = by7 n := by unfold by7; rw [if_pos h1]
   refine C.eq (F70_fn O ro) rfl rfl (okE.flat (fun _ => rfl) ?_)
   simp [F70, R70_0, R70_1, R70_2, h1, h1', hw, List.zipIdx, List.range_succ, <- hh1, aB2S, l1', hb, hd]
 . obtain ⟨m, hm⟩ : ∃ m, m = n % 128 := ⟨_, rfl⟩
   obtain ⟨r, hr⟩ : ∃ r, r = 128 + n % 128 := ⟨_, rfl⟩
   obtain ⟨q, hq⟩ : ∃ q, q = n / 128 := ⟨_, rfl⟩
   obtain ⟨w1, h2, hh1, s1, al1, l1⟩ := mk_sl L w h lo (100, 0) [.int .u8 (r : Int), .int .u8 (q : Int)] (by simp)
   refine ⟨w1, h2, ?_, al1⟩
   have h1' : ¬ (n : Int) < 128 := by omega
   have r1 : intA .rem .i64 (n : Int) 128 = some (.int .i64 (m : Int)) := by rw [hm]; exact iA_rem .i64 n 128 (by omega)
   have r2 : intA .quo .i64 (n : Int) 128 = some (.int .i64 (q : Int)) := by rw [hq]; exact iA_quo .i64 n 128 (by omega) (wr rfl (by omega))
   have hw1 : IntKind.i64.wrap (128 + (m : Int)) = (r : Int) := wr (by omega) (by omega)
   have hw := wrap_u8 r (by omega)
   have hw2 := wrap_u8 q (by omega)
   have l1' : cellsA O h2 (O.next h) 0 2 = some [.int .u8 (r : Int), .int .u8 (q : Int)] := l1
   have hb := b2s2 r q
   have hd : (⟨#[UInt8.ofNat r, UInt8.ofNat q]⟩ : ByteArray) = by7 n := by unfold by7; rw [if_neg h1, hr, hq]
   refine C.eq (F70_fn O ro) rfl rfl (okE.flat (fun _ => rfl) ?_)
   simp [F70, R70_0, R70_1, R70_3, h1, h1', r1, r2, hw1, hw, hw2, List.zipIdx, List.range_succ, <- hh1, aB2S, l1', hb, hd]
theorem app_own (L : O.Law) {w w1 : Own} {h h1 : H} {n : Nat} (hn : ∀ b, b < O.next h -> w b ≠ (100, n)) (al : Al O w h w1 h1) (lo : ro <= O.next h) {v : Value} {ns : List Nat} (sl : Sl O ro w1 h1 (100, n) 1 v (nvs ns)) (hl : ns.length <= 100) (x : Nat) :
 ∃ v' w2 h2, appI O ro 1 8 v (.slice (some ⟨O.next h1, 0, some 1⟩) 1 2) (O.new h1 [.int .i64 (x : Nat)]) = some (v', h2) /\ Sl O ro w2 h2 (100, n) 1 v' (nvs (ns ++ [x])) /\ Al O w h w2 h2 := by
 obtain ⟨v', h2, w2, e1, s2, c2, lo2⟩ := appI_one L (bytes := 8) (al.lo lo) sl (new := [.int .i64 (x : Nat)]) (by omega) rfl (by simp [nvs]; omega) (by simp [nvs]; omega)
 exact ⟨v', w2, h2, e1, by simpa [nvs] using s2, Ch.loc hn al c2⟩
theorem tail_b (C : Lim Tryz.prog O ro okS c) (L : O.Law) {w : Own} {h : H} (g : Gl O w h) (lo : ro <= O.next h) (x : Nat × Nat) (own : Nat) (h1 : x.1 < 256) (h2 : x.2 <= 2) (h3 : own < 256) :
 ∃ w' h', c 65 [.agg #[.int .i64 (x.1 : Int), .int .i64 (x.2 : Int)], .int .i64 (own : Nat)] h = some (.string (lnS (tlS x own)), h') /\ Al O w h w' h' := by
 obtain ⟨n, hn⟩ := fresh w (O.next h)
 obtain ⟨a, b⟩ := x
 simp only at h1 h2 ⊢
 obtain ⟨p, hp⟩ : ∃ p, p = O.next h := ⟨_, rfl⟩
 obtain ⟨g1, hg1⟩ : ∃ g1, g1 = O.new h [.int .i64 (a : Int), .int .i64 (b : Int)] := ⟨_, rfl⟩
 obtain ⟨w1, hw1⟩ : ∃ w1, w1 = w.set p (100, n) := ⟨_, rfl⟩
 have al1 : Al O w h w1 g1 := fun K => by rw [hg1, hw1, hp]; exact Ch.new L _ _ _ _ _
 have x1 : Bx O ro w1 g1 (100, n) p [.int .i64 (a : Int), .int .i64 (b : Int)] := by rw [hg1, hw1, hp]; exact Bx.new L _ _ lo _ _
 have k0 := x1.get 0 _ rfl
 obtain ⟨w2, g2, hg2, s2, al2, _⟩ := mk_sl L w1 g1 (al1.lo lo) (100, n) (nvs [a]) (by simp [nvs])
 have x2 := x1.al' L al2
 have k1 := x2.get 1 _ rfl
 have hg2' : g2 = O.new g1 [.int .i64 (a : Int)] := hg2
 have s2' : Sl O ro w2 g2 (100, n) 1 (.slice (some ⟨O.next g1, 0, some 1⟩) 1 2) (nvs [a]) := s2
 have al12 := al1.trans al2
 have fin : ∀ (v : Value) (w3 : Own) (g3 : H) (ns : List Nat), Sl O ro w3 g3 (100, n) 1 v (nvs ns) -> Al O w h w3 g3 -> (∀ m ∈ ns, m < 256) -> ns.length <= 100 -> ∃ w' h', c 62 [v] g3 = some (.string (lnS ns), h') /\ Al O w h w' h' := by
  intro v w3 g3 ns s a hm hl
  obtain ⟨w4, g4, e4, al4⟩ := line_b C L (g.al' L a) (a.lo lo) ns s hm hl
  exact ⟨w4, g4, e4, a.trans al4⟩
 unfold tlS
 simp only
 by_cases c1 : b = 1
 . rw [if_pos c1]
   subst c1
   obtain ⟨v', w3, g3, e3, s3, al3⟩ := app_own L hn al12 lo s2' (by simp) 1
   obtain ⟨w4, g4, e4, al4⟩ := fin v' w3 g3 _ s3 al3 (by simp; omega) (by simp)
   refine ⟨w4, g4, ?_, al4⟩
   have e3' : appI O ro 1 8 (.slice (some ⟨O.next g1, 0, some 1⟩) 1 2) (.slice (some ⟨O.next g2, 0, some 1⟩) 1 2) (O.new g2 [.int .i64 1]) = some (v', g3) := e3
   have k1' : O.cell g2 p 1 = some (.int .i64 1) := k1
   have e4' : c 62 [v'] g3 = some (.string (lnS [a, 1]), g4) := e4
   have hg1' : g1 = O.new h [.int .i64 (a : Int), .int .i64 1] := hg1
   refine C.eq (F65_fn O ro) rfl rfl (okE.flat (fun _ => rfl) ?_)
   simp [F65, R65_0, R65_1, R65_2, R65_3, R65_4, R65_7, <- hp, <- hg1', k0, List.zipIdx, List.range_succ, <- hg2', k1', e3', e4']
 . rw [if_neg c1]
   by_cases c2 : b = 2
   . rw [if_pos c2]
     subst c2
     obtain ⟨v', w3, g3, e3, s3, al3⟩ := app_own L hn al12 lo s2' (by simp) own
     obtain ⟨w4, g4, e4, al4⟩ := fin v' w3 g3 _ s3 al3 (by simp; omega) (by simp)
     refine ⟨w4, g4, ?_, al4⟩
     have k1' : O.cell g2 p 1 = some (.int .i64 2) := k1
     have e4' : c 62 [v'] g3 = some (.string (lnS [a, own]), g4) := e4
     have hg1' : g1 = O.new h [.int .i64 (a : Int), .int .i64 2] := hg1
     refine C.eq (F65_fn O ro) rfl rfl (okE.flat (fun _ => rfl) ?_)
     simp [F65, R65_0, R65_1, R65_2, R65_3, R65_5, R65_6, R65_7, <- hp, <- hg1', k0, List.zipIdx, List.range_succ, <- hg2', k1', e3, e4']
   . rw [if_neg c2]
     obtain ⟨w4, g4, e4, al4⟩ := fin _ w2 g2 _ s2' al12 (by simp; omega) (by simp)
     refine ⟨w4, g4, ?_, al4⟩
     have c0 : b = 0 := by omega
     subst c0
     have k1' : O.cell g2 p 1 = some (.int .i64 0) := k1
     have hg1' : g1 = O.new h [.int .i64 (a : Int), .int .i64 0] := hg1
     refine C.eq (F65_fn O ro) rfl rfl (okE.flat (fun _ => rfl) ?_)
     simp [F65, R65_0, R65_1, R65_2, R65_3, R65_5, R65_7, <- hp, <- hg1', k0, List.zipIdx, List.range_succ, <- hg2', k1', e4]
end
def itT (f : Nat -> ByteArray) : Nat -> Nat -> ByteArray -> ByteArray
 | _, 0, t => t
 | j, m + 1, t => itT f (j + 1) m (t ++ f j)
def pAt (l : List (Nat × Nat)) (k : Nat) : Nat × Nat := (l[k]?).getD (0, 0)
theorem pAt_lt {l : List (Nat × Nat)} {k : Nat} (h : k < l.length) : pAt l k = l[k] := by simp [pAt, h]
def inL (j : Nat) : ByteArray := lnS [2 * (1 + j)]
def laL (N : CN) (j : Nat) : ByteArray := lnS (2 * (1 + N.ni + j) :: tlS (pAt N.las j) (2 * (1 + N.ni + j)))
def laB (N : CN) (j : Nat) : ByteArray := lnS (tlS (pAt N.las j) (2 * (1 + N.ni + j)))
def gaL (N : CN) (k : Nat) : ByteArray := lnS [2 * (1 + N.ni + N.las.length + k), (pAt N.gts k).1, (pAt N.gts k).2]
def gaB (N : CN) (k : Nat) : ByteArray := by7 (2 * (1 + N.ni + N.las.length + k) - (pAt N.gts k).1) ++ by7 ((pAt N.gts k).1 - (pAt N.gts k).2)
def asc0 (N : CN) : ByteArray := ⟨#[97, 97, 103, 32]⟩ ++ cntS N
def asc1 (N : CN) : ByteArray := itT inL 0 N.ni (asc0 N)
def asc2 (N : CN) : ByteArray := itT (laL N) 0 N.las.length (asc1 N)
def ascS (N : CN) : ByteArray := itT (gaL N) 0 N.gts.length (asc2 N ++ lnS [N.bad])
def bin0 (N : CN) : ByteArray := ⟨#[97, 105, 103, 32]⟩ ++ cntS N
def bin1 (N : CN) : ByteArray := itT (laB N) 0 N.las.length (bin0 N)
def binS (N : CN) : ByteArray := itT (gaB N) 0 N.gts.length (bin1 N ++ lnS [N.bad])
theorem lnT_acc : ∀ (ns : List Nat) (j : Nat) (t u : ByteArray), lnT ns j (t ++ u) = t ++ lnT ns j u := by
 intro ns
 induction ns with
 | nil => intro j t u; rfl
 | cons n r ih =>
  intro j t u
  simp only [lnT]
  split
  . rw [<- ih, ByteArray.append_assoc, ByteArray.append_assoc, ByteArray.append_assoc]
  . rw [<- ih, ByteArray.append_assoc]
theorem lnT_pos : ∀ (ns : List Nat) (j k : Nat) (t : ByteArray), 0 < j -> 0 < k -> lnT ns j t = lnT ns k t := by
 intro ns
 induction ns with
 | nil => intro j k t _ _; rfl
 | cons n r ih =>
  intro j k t hj hk
  simp only [lnT]
  rw [if_pos hj, if_pos hk]
  exact ih _ _ _ (by omega) (by omega)
theorem lnS_own (own n : Nat) (r : List Nat) : lnS (own :: n :: r) = decS own ++ ((⟨#[32]⟩ : ByteArray) ++ lnS (n :: r)) := by
 have e0 : ∀ x : ByteArray, (⟨#[]⟩ : ByteArray) ++ x = x := fun x => ByteArray.empty_append
 unfold lnS
 simp only [lnT, Nat.lt_irrefl, if_false, e0, Nat.zero_add, Nat.zero_lt_one, if_true]
 rw [lnT_acc, lnT_pos r (1 + 1) 1 (decS n) (by omega) (by omega), ByteArray.append_assoc, ByteArray.append_assoc]
theorem la_eq (T : ByteArray) (N : CN) (j : Nat) : T ++ decS (2 * (1 + N.ni + j)) ++ ((⟨#[32]⟩ : ByteArray) ++ lnS (tlS (pAt N.las j) (2 * (1 + N.ni + j)))) = T ++ laL N j := by
 unfold laL tlS
 rw [lnS_own, ByteArray.append_assoc]
theorem tlS_len (x : Nat × Nat) (own : Nat) : (tlS x own).length <= 2 := by
 unfold tlS; split
 . simp
 . split <;> simp
theorem laL_size (N : CN) (j : Nat) : (laL N j).size <= 100 := by
 have := lnS_size (2 * (1 + N.ni + j) :: tlS (pAt N.las j) (2 * (1 + N.ni + j)))
 have h2 := tlS_len (pAt N.las j) (2 * (1 + N.ni + j))
 unfold laL
 simp only [List.length_cons] at this
 omega
theorem laB_size (N : CN) (j : Nat) : (laB N j).size <= 100 := by
 have := lnS_size (tlS (pAt N.las j) (2 * (1 + N.ni + j)))
 have h2 := tlS_len (pAt N.las j) (2 * (1 + N.ni + j))
 unfold laB
 omega
theorem inL_size (j : Nat) : (inL j).size <= 100 := by
 have := lnS_size [2 * (1 + j)]
 unfold inL
 simp only [List.length_cons, List.length_nil] at this
 omega
theorem gaL_size (N : CN) (j : Nat) : (gaL N j).size <= 100 := by
 have := lnS_size [2 * (1 + N.ni + N.las.length + j), (pAt N.gts j).1, (pAt N.gts j).2]
 unfold gaL
 simp only [List.length_cons, List.length_nil] at this
 omega
theorem by7_size (n : Nat) : (by7 n).size <= 2 := by
 unfold by7; split
 . exact (by decide : 1 <= 2)
 . exact (by decide : 2 <= 2)
theorem itT_size {f : Nat -> ByteArray} (hf : ∀ j, (f j).size <= 100) : ∀ (m j : Nat) (t : ByteArray), (itT f j m t).size <= t.size + 100 * m := by
 intro m
 induction m with
 | zero => intro j t; simp [itT]
 | succ m ih =>
  intro j t
  simp only [itT]
  have h1 := ih (j + 1) (t ++ f j)
  have h2 := hf j
  rw [ByteArray.size_append] at h1
  omega
theorem cnt_size (N : CN) : (cntS N).size <= 30 := by
 have := lnS_size [N.ni + N.las.length + N.gts.length, N.ni, N.las.length, 0, N.gts.length, 1]
 unfold cntS
 simp only [List.length_cons, List.length_nil] at this
 omega
theorem asc0_size (N : CN) : (asc0 N).size <= 100 := by
 have := cnt_size N
 have e : (⟨#[97, 97, 103, 32]⟩ : ByteArray).size = 4 := rfl
 unfold asc0
 rw [ByteArray.size_append]
 omega
theorem bin0_size (N : CN) : (bin0 N).size <= 100 := by
 have := cnt_size N
 have e : (⟨#[97, 105, 103, 32]⟩ : ByteArray).size = 4 := rfl
 unfold bin0
 rw [ByteArray.size_append]
 omega
section
variable {H : Type} {O : HI H} {ro : Nat} {c : CallT H}
attribute [local simp] cSeq cReg reg to mv too onlyIf onlyIfo aMove aNil aFld aLd aInt aPick aLenStr aIdxStr aConv aUn unA ev upd_get isB envOf iA_add iA_sub iA_mul iA_eql iA_neq iA_lss iA_leq iA_gtr iA_geq cIf cRet cSkip okc_some resE resLE rvE aSt vc_int vc_bool vc_agg vc_str vc_ptr vc_sl ft_int ft_bool ft_str ft_ptr ft_sl tp_int tp_bool tp_agg tp_str tp_ptr tp_sl aBuild Instr.fill aCall cExit cBlk outOf ptr undef aNew aBox aIdxArr aLdN aShift shiftA aLenSl aIdx aMkSl aApp rangeA aExt aSliceStr aStr strA aPtrNil
def TxP (O : HI H) (w0 : Own) (h0 : H) (p : Nat) (E : ByteArray) (e : Exit) (t : Env) (h : H) : Prop := e = .normal /\ t 0 = .pointer (some ⟨p, 0, none⟩) /\ t 3 = .string E /\ ∃ w, Al O w0 h0 w h
theorem asc_in (C : Lim Tryz.prog O ro okS c) (L : O.Law) {w0 : Own} {h0 : H} (g : Gl O w0 h0) (lo : ro <= O.next h0) {k p : Nat} {N : CN} {v1 v2 : Value} (x : XC O ro w0 h0 k p N v1 v2) (ok : COk N) (w : Own) (h : H) (al : Al O w0 h0 w h) (t : Env) (T : ByteArray) (hT : T.size <= 100) (t0 : t 0 = .pointer (some ⟨p, 0, none⟩)) (t3 : t 3 = .string T) (t4 : t 4 = .int .i64 0) :
 okE c (cBlk 0 (cLoop (W22_0 O Tryz.prog ro))) (t, h) (TxP O w0 h0 p (itT inL 0 N.ni T)) := by
 have o1 := ok.ni
 generalize hE : itT inL 0 N.ni T = E
 refine okE.blk ?_
 refine okE.loop (fun m t g' => ∃ j T w', Al O w0 h0 w' g' /\ t 0 = .pointer (some ⟨p, 0, none⟩) /\ t 3 = .string T /\ t 4 = .int .i64 (j : Nat) /\ j + m = N.ni + 1 /\ 0 < m /\ T.size <= 100 + 100 * j /\ itT inL j (m - 1) T = E) ?_ (N.ni + 1) _ _ ⟨0, T, w, al, t0, t3, t4, by omega, by omega, by omega, hE⟩
 intro m t g' hI
 obtain ⟨j, T, w', al, t0, t3, t4, hj, hm, hT, hfin⟩ := hI
 have x' := x.al L al
 have k0 := x'.m.get 0 _ rfl
 by_cases hlt : j < N.ni
 . obtain ⟨m', rfl⟩ : ∃ m', m = m' + 2 := ⟨m - 2, by omega⟩
   simp only [Nat.add_one_sub_one, itT] at hfin
   obtain ⟨a, ha⟩ : ∃ a, a = 1 + j := ⟨_, rfl⟩
   obtain ⟨b, hb⟩ : ∃ b, b = 2 * (1 + j) := ⟨_, rfl⟩
   obtain ⟨w2, h2, e2, al2⟩ := line_n C L (g.al' L al) (al.lo lo) [b] (by simp) (by simp; omega) (by simp)
   have e3 : c 62 [.slice (some ⟨O.next g', 0, some 1⟩) 1 2] (O.new g' [.int .i64 (b : Int)]) = some (.string (inL j), h2) := by unfold inL; rw [<- hb]; exact e2
   have hsz := inL_size j
   have hw1 : IntKind.i64.wrap (1 + (j : Int)) = (a : Int) := wr (by omega) (by omega)
   have hw2 : IntKind.i64.wrap (2 * (a : Int)) = (b : Int) := wr (by omega) (by omega)
   obtain ⟨q, hq⟩ : ∃ q, q = j + 1 := ⟨_, rfl⟩
   have hw : IntKind.i64.wrap ((j : Int) + 1) = (q : Int) := wr (by omega) (by omega)
   have hlt' : (j : Int) < N.ni := by omega
   rw [<- hq] at hfin
   have z1 : T.size + (inL j).size <= 9223372036854775807 := by omega
   have z2 : T.size + (inL j).size <= 100 + 100 * q := by omega
   refine okE.flat (fun _ => rfl) ?_
   simp [W22_0, R22_5, R22_7, R22_6, t0, t3, t4, k0, hlt, hlt', hw1, hw2, List.zipIdx, List.range_succ, e3, z1, hw]
   exact ⟨m' + 1, by omega, ⟨w2, al.trans al2⟩, q, rfl, by omega, by omega, z2, hfin⟩
 . have hm1 : m = 1 := by omega
   subst hm1
   have hfin2 : T = E := hfin
   subst hfin2
   have hlt' : ¬ (j : Int) < N.ni := by omega
   refine okE.flat (fun _ => rfl) ?_
   simp [W22_0, R22_5, t0, t3, t4, k0, hlt, hlt', TxP]
   exact ⟨w', al⟩
theorem asc_la (C : Lim Tryz.prog O ro okS c) (L : O.Law) {w0 : Own} {h0 : H} (g : Gl O w0 h0) (lo : ro <= O.next h0) {k p : Nat} {N : CN} {v1 v2 : Value} (x : XC O ro w0 h0 k p N v1 v2) (ok : COk N) (w : Own) (h : H) (al : Al O w0 h0 w h) (t : Env) (T : ByteArray) (hT : T.size <= 500) (t0 : t 0 = .pointer (some ⟨p, 0, none⟩)) (t3 : t 3 = .string T) (t5 : t 5 = .int .i64 0) :
 okE c (cBlk 2 (cLoop (W22_1 O Tryz.prog ro))) (t, h) (TxP O w0 h0 p (itT (laL N) 0 N.las.length T)) := by
 have o1 := ok.ni
 have o2 := ok.nl
 have o3 := ok.na
 generalize hE : itT (laL N) 0 N.las.length T = E
 refine okE.blk ?_
 refine okE.loop (fun m t g' => ∃ j T w', Al O w0 h0 w' g' /\ t 0 = .pointer (some ⟨p, 0, none⟩) /\ t 3 = .string T /\ t 5 = .int .i64 (j : Nat) /\ j + m = N.las.length + 1 /\ 0 < m /\ T.size <= 500 + 100 * j /\ itT (laL N) j (m - 1) T = E) ?_ (N.las.length + 1) _ _ ⟨0, T, w, al, t0, t3, t5, by omega, by omega, by omega, hE⟩
 intro m t g' hI
 obtain ⟨j, T, w', al, t0, t3, t5, hj, hm, hT, hfin⟩ := hI
 have x' := x.al L al
 have k1 := x'.m.get 1 _ rfl
 by_cases hlt : j < N.las.length
 . obtain ⟨m', rfl⟩ : ∃ m', m = m' + 2 := ⟨m - 2, by omega⟩
   simp only [Nat.add_one_sub_one, itT] at hfin
   have c1 := latl_b C x' ok j (by omega)
   rw [<- la_eq] at hfin
   have hsz := laL_size N j
   have hle := congrArg ByteArray.size (la_eq T N j)
   rw [ByteArray.size_append, ByteArray.size_append, ByteArray.size_append, ByteArray.size_append] at hle
   rw [pAt_lt hlt] at hfin hle
   obtain ⟨own, hown⟩ : ∃ own, own = 2 * (1 + N.ni + j) := ⟨_, rfl⟩
   rw [<- hown] at c1 hfin hle
   have hmem := ok.n _ (List.getElem_mem hlt)
   obtain ⟨w2, h2, e2, al2, lo2⟩ := itoa_b C L (g.al' L al) (al.lo lo) own (by omega)
   have al12 := al.trans al2
   have x2 := x.al L al12
   have k1' := x2.m.get 1 _ rfl
   obtain ⟨b1, cp1, hv1, _, _, cl⟩ := pair_at x2.s1 j hlt
   obtain ⟨w3, h3, e3, al3⟩ := tail_b C L (g.al' L al12) (al12.lo lo) N.las[j] own (by omega) (by omega) (by omega)
   rw [hv1] at k1 k1'
   obtain ⟨q, hq⟩ : ∃ q, q = j + 1 := ⟨_, rfl⟩
   have hw : IntKind.i64.wrap ((j : Int) + 1) = (q : Int) := wr (by omega) (by omega)
   have hlt' : (j : Int) < N.las.length := by omega
   rw [<- hq] at hfin
   have hds := decS_size own
   generalize lnS (tlS N.las[j] own) = E3 at *
   have z1 : T.size + (decS own).size <= 9223372036854775807 := by omega
   have z2 : (⟨#[32]⟩ : ByteArray).size + E3.size <= 9223372036854775807 := by omega
   have z3 : T.size + (decS own).size + ((⟨#[32]⟩ : ByteArray).size + E3.size) <= 9223372036854775807 := by omega
   have z4 : T.size + (decS own).size + ((⟨#[32]⟩ : ByteArray).size + E3.size) <= 500 + 100 * q := by omega
   refine okE.flat (fun _ => rfl) ?_
   simp [W22_1, R22_9, R22_11, R22_12, R22_13, R22_10, t0, t3, t5, k1, hlt, hlt', c1, e2, z1, k1', cl, e3, z2, z3, hw]
   exact ⟨m' + 1, by omega, ⟨w3, al12.trans al3⟩, q, rfl, by omega, by omega, z4, hfin⟩
 . have hm1 : m = 1 := by omega
   subst hm1
   have hfin2 : T = E := hfin
   subst hfin2
   obtain ⟨a1, cp1, hv1⟩ := pair_len x'.s1
   rw [hv1] at k1
   have hlt' : ¬ (j : Int) < N.las.length := by omega
   refine okE.flat (fun _ => rfl) ?_
   simp [W22_1, R22_9, t0, t3, t5, k1, hlt, hlt', TxP]
   exact ⟨w', al⟩
theorem asc_ga (C : Lim Tryz.prog O ro okS c) (L : O.Law) {w0 : Own} {h0 : H} (g : Gl O w0 h0) (lo : ro <= O.next h0) {k p : Nat} {N : CN} {v1 v2 : Value} (x : XC O ro w0 h0 k p N v1 v2) (ok : COk N) (w : Own) (h : H) (al : Al O w0 h0 w h) (t : Env) (T : ByteArray) (hT : T.size <= 2000) (t0 : t 0 = .pointer (some ⟨p, 0, none⟩)) (t3 : t 3 = .string T) (t7 : t 7 = .int .i64 0) :
 okE c (cBlk 4 (cLoop (W22_2 O Tryz.prog ro))) (t, h) (TxP O w0 h0 p (itT (gaL N) 0 N.gts.length T)) := by
 have o1 := ok.ni
 have o2 := ok.nl
 have o3 := ok.na
 generalize hE : itT (gaL N) 0 N.gts.length T = E
 refine okE.blk ?_
 refine okE.loop (fun m t g' => ∃ j T w', Al O w0 h0 w' g' /\ t 0 = .pointer (some ⟨p, 0, none⟩) /\ t 3 = .string T /\ t 7 = .int .i64 (j : Nat) /\ j + m = N.gts.length + 1 /\ 0 < m /\ T.size <= 2000 + 100 * j /\ itT (gaL N) j (m - 1) T = E) ?_ (N.gts.length + 1) _ _ ⟨0, T, w, al, t0, t3, t7, by omega, by omega, by omega, hE⟩
 intro m t g' hI
 obtain ⟨j, T, w', al, t0, t3, t7, hj, hm, hT, hfin⟩ := hI
 have x' := x.al L al
 have k2 := x'.m.get 2 _ rfl
 by_cases hlt : j < N.gts.length
 . obtain ⟨m', rfl⟩ : ∃ m', m = m' + 2 := ⟨m - 2, by omega⟩
   simp only [Nat.add_one_sub_one, itT] at hfin
   have c1 := gatl_b C x' ok j (by omega)
   have hsz := gaL_size N j
   obtain ⟨own, hown⟩ : ∃ own, own = 2 * (1 + N.ni + N.las.length + j) := ⟨_, rfl⟩
   have hga : gaL N j = lnS [own, N.gts[j].1, N.gts[j].2] := by unfold gaL; rw [pAt_lt hlt, <- hown]
   rw [<- hown] at c1
   have hg := ok.g j hlt
   obtain ⟨b2, cp2, hv2, cl0, cl1, _⟩ := pair_at x'.s2 j hlt
   obtain ⟨w3, h3, e3, al3⟩ := line_n C L (g.al' L al) (al.lo lo) [own, N.gts[j].1, N.gts[j].2] (by simp) (by simp; omega) (by simp)
   rw [<- hga] at e3
   have e3' : c 62 [.slice (some ⟨O.next g', 0, some 1⟩) 3 4] (O.new g' [.int .i64 (own : Int), .int .i64 (N.gts[j].1 : Int), .int .i64 (N.gts[j].2 : Int)]) = some (.string (gaL N j), h3) := e3
   rw [hv2] at k2
   obtain ⟨q, hq⟩ : ∃ q, q = j + 1 := ⟨_, rfl⟩
   have hw : IntKind.i64.wrap ((j : Int) + 1) = (q : Int) := wr (by omega) (by omega)
   have hlt' : (j : Int) < N.gts.length := by omega
   rw [<- hq] at hfin
   generalize gaL N j = E3 at *
   have z1 : T.size + E3.size <= 9223372036854775807 := by omega
   have z4 : T.size + E3.size <= 2000 + 100 * q := by omega
   refine okE.flat (fun _ => rfl) ?_
   simp [W22_2, R22_16, R22_18, R22_19, R22_17, t0, t3, t7, k2, hlt, hlt', c1, cl0, cl1, List.zipIdx, List.range_succ, e3', z1, hw]
   exact ⟨m' + 1, by omega, ⟨w3, al.trans al3⟩, q, rfl, by omega, by omega, z4, hfin⟩
 . have hm1 : m = 1 := by omega
   subst hm1
   have hfin2 : T = E := hfin
   subst hfin2
   obtain ⟨a2, cp2, hv2⟩ := pair_len x'.s2
   rw [hv2] at k2
   have hlt' : ¬ (j : Int) < N.gts.length := by omega
   refine okE.flat (fun _ => rfl) ?_
   simp [W22_2, R22_16, t0, t3, t7, k2, hlt, hlt', TxP]
   exact ⟨w', al⟩
theorem asc_b (C : Lim Tryz.prog O ro okS c) (L : O.Law) {w : Own} {h : H} (g : Gl O w h) (lo : ro <= O.next h) {k p : Nat} {N : CN} {v1 v2 : Value} (x : XC O ro w h k p N v1 v2) (ok : COk N) :
 ∃ w' h', c 22 [.pointer (some ⟨p, 0, none⟩)] h = some (.string (ascS N), h') /\ Al O w h w' h' := by
 have o1 := ok.ni
 have o2 := ok.nl
 have o3 := ok.na
 have ob := ok.b
 obtain ⟨w1, h1, e1, al1⟩ := counts_b C L g lo x ok
 have s0 := asc0_size N
 have s1 : (asc1 N).size <= 500 := by have := itT_size inL_size N.ni 0 (asc0 N); unfold asc1; omega
 have s2 : (asc2 N).size <= 1200 := by have := itT_size (laL_size N) N.las.length 0 (asc1 N); unfold asc2; omega
 have sb := lnS_size [N.bad]
 simp only [List.length_cons, List.length_nil] at sb
 have key : ∃ u h', c 22 [.pointer (some ⟨p, 0, none⟩)] h = some (u, h') /\ (u = .string (ascS N) /\ ∃ w', Al O w h w' h') := by
  refine C.fn (F22_fn O ro) rfl rfl ?_
  have z0 : (⟨#[97, 97, 103, 32]⟩ : ByteArray).size + (cntS N).size <= 9223372036854775807 := by unfold asc0 at s0; rw [ByteArray.size_append] at s0; omega
  unfold F22
  refine okE.seq (okE.flat (fun _ => rfl) ?_)
  simp [R22_0, thenE, -resE, -resLE, -rvE]
  refine okE.seq (okE.flat (fun _ => rfl) ?_)
  simp [R22_1, thenE, -resE, -resLE, -rvE]
  refine okE.seq (okE.flat (fun _ => rfl) ?_)
  simp [R22_3, e1, z0, thenE, -resE, -resLE, -rvE]
  refine okE.seq (okE.seq (okE.flat (fun _ => rfl) ?_))
  simp [R22_4, thenE, -resE, -resLE, -rvE]
  refine okE.mono (asc_in C L g lo x ok w1 h1 al1 _ (asc0 N) s0 (by simp) (by simp [asc0]) (by simp)) ?_
  rintro e t h2 ⟨rfl, t0, t3, w2, al2⟩
  simp only [thenE]
  refine okE.seq (okE.seq (okE.flat (fun _ => rfl) ?_))
  simp [R22_8, thenE, -resE, -resLE, -rvE]
  refine okE.mono (asc_la C L g lo x ok w2 h2 al2 _ (asc1 N) s1 (by simp [t0]) (by simp [t3]; rfl) (by simp)) ?_
  rintro e t h3 ⟨rfl, t0, t3, w3, al3⟩
  simp only [thenE]
  have x3 := x.al L al3
  have k3 := x3.m.get 3 _ rfl
  obtain ⟨w4, h4, e4, al4⟩ := line_n C L (g.al' L al3) (al3.lo lo) [N.bad] (by simp) (by simp; omega) (by simp)
  have e4' : c 62 [.slice (some ⟨O.next h3, 0, some 1⟩) 1 2] (O.new h3 [.int .i64 (N.bad : Int)]) = some (.string (lnS [N.bad]), h4) := e4
  have t3' : t 3 = .string (asc2 N) := t3
  have z1 : (asc2 N).size + (lnS [N.bad]).size <= 9223372036854775807 := by omega
  refine okE.seq (okE.flat (fun _ => rfl) ?_)
  simp [R22_14, t0, t3', k3, List.zipIdx, List.range_succ, e4', z1, thenE, -resE, -resLE, -rvE]
  refine okE.seq (okE.seq (okE.flat (fun _ => rfl) ?_))
  simp [R22_15, thenE, -resE, -resLE, -rvE]
  refine okE.mono (asc_ga C L g lo x ok w4 h4 (al3.trans al4) _ (asc2 N ++ lnS [N.bad]) (by rw [ByteArray.size_append]; omega) (by simp [t0]) (by simp) (by simp)) ?_
  rintro e t h5 ⟨rfl, t0, t3, w5, al5⟩
  simp only [thenE]
  refine okE.flat (fun _ => rfl) ?_
  simp [R22_20, t3, ascS]
  exact ⟨w5, al5⟩
 obtain ⟨u, h', e1, rfl, w', a⟩ := key
 exact ⟨w', h', e1, a⟩
end
end Go.Proofs.YtlakdngplpabdaaGreatDoor
