/- Own work. -/
import Derived.Test.YtlakdngplpabdaaGreatDoorC18
namespace Go.Proofs.YtlakdngplpabdaaGreatDoor
open Go.Vm Go.Proofs
set_option linter.unusedSimpArgs false
set_option linter.unusedVariables false
set_option maxHeartbeats 1000000
attribute [local simp] cSeq cReg reg to mv too onlyIf onlyIfo aMove aNil aFld aLd aInt aPick aLenStr aIdxStr aConv aUn unA ev upd_get isB envOf iA_add iA_sub iA_mul iA_eql iA_neq iA_lss iA_leq iA_gtr iA_geq cIf cRet cSkip okc_some resE resLE rvE aSt vc_int vc_bool vc_agg vc_str vc_ptr vc_sl ft_int ft_bool ft_str ft_ptr ft_sl tp_int tp_bool tp_agg tp_str tp_ptr tp_sl aBuild Instr.fill aCall cExit cBlk outOf ptr undef aNew aBox aIdxArr aLdN aShift shiftA aLenSl aIdx aMkSl aApp rangeA aExt
section
variable {H : Type} {O : HI H} {ro : Nat} {c : CallT H}
theorem FB.app0 (L : O.Law) {w : Own} {h : H} {f : Nat} {s : ByteArray} {F : FD} {v0 v1 v2 v3 v4 v5 v6 : Value} (x : FB O ro w h f s F v0 v1 v2 v3 v4 v5 v6) (lo : ro <= O.next h) (e : Us) (hl : F.defs.length <= 10000) :
 ∃ v' h1 w1, appI O ro 2 16 v0 (.slice (some ⟨O.next h, 0, some 2⟩) 1 2) (O.new h e.cells) = some (v', h1) /\ (v'.cells = #[v'] /\ isFlat v' = true /\ isTup v' = false) /\ O.cell h f 10 = some v0 /\ O.cell h1 f 10 = some v0 /\ ¬ f < ro /\
  FB O ro w1 (O.put h1 f 10 v') f s { F with defs := F.defs ++ [e] } v' v1 v2 v3 v4 v5 v6 /\ Ch O (Kc [1] 0) w h w1 (O.put h1 f 10 v') /\ ro <= O.next (O.put h1 f 10 v') := by
 have hlen := flat_len Us.cells 2 (fun _ => rfl) F.defs
 obtain ⟨v', h1, w1, e1, e2, c1, lo1⟩ := appI_one L (bytes := 16) lo x.s0 (new := e.cells) (by omega) rfl (by omega) (by omega)
 have m1 := x.m.ch L c1 (by simp)
 have m2 := m1.put L 10 (by simp [fcells]) v'
 have c2 := Ch.put L (K := fun u => u = (1, 1000)) m1 10 (by simp [fcells]) v' rfl
 refine ⟨v', h1, w1, e1, e2.flat, x.m.get 10 _ rfl, m1.get 10 _ rfl, by have := x.m.lo; omega, ⟨m2, ?_, (x.s1.ch L c1 (by simp)).ch L c2 (by simp), (x.s2.ch L c1 (by simp)).ch L c2 (by simp), (x.s3.ch L c1 (by simp)).ch L c2 (by simp), (x.s4.ch L c1 (by simp)).ch L c2 (by simp), (x.s5.ch L c1 (by simp)).ch L c2 (by simp), (x.s6.ch L c1 (by simp)).ch L c2 (by simp)⟩, (Kc.one c1 (.inl (List.mem_singleton.2 rfl))).trans (Kc.one c2 (.inl (List.mem_singleton.2 rfl))), by rw [L.next_put]; exact lo1⟩
 have := e2.ch L c2 (by simp)
 simpa using this
theorem FB.app1 (L : O.Law) {w : Own} {h : H} {f : Nat} {s : ByteArray} {F : FD} {v0 v1 v2 v3 v4 v5 v6 : Value} (x : FB O ro w h f s F v0 v1 v2 v3 v4 v5 v6) (lo : ro <= O.next h) (e : Us) (hl : F.next.length <= 10000) :
 ∃ v' h1 w1, appI O ro 2 16 v1 (.slice (some ⟨O.next h, 0, some 2⟩) 1 2) (O.new h e.cells) = some (v', h1) /\ (v'.cells = #[v'] /\ isFlat v' = true /\ isTup v' = false) /\ O.cell h f 11 = some v1 /\ O.cell h1 f 11 = some v1 /\ ¬ f < ro /\
  FB O ro w1 (O.put h1 f 11 v') f s { F with next := F.next ++ [e] } v0 v' v2 v3 v4 v5 v6 /\ Ch O (Kc [1] 0) w h w1 (O.put h1 f 11 v') /\ ro <= O.next (O.put h1 f 11 v') := by
 have hlen := flat_len Us.cells 2 (fun _ => rfl) F.next
 obtain ⟨v', h1, w1, e1, e2, c1, lo1⟩ := appI_one L (bytes := 16) lo x.s1 (new := e.cells) (by omega) rfl (by omega) (by omega)
 have m1 := x.m.ch L c1 (by simp)
 have m2 := m1.put L 11 (by simp [fcells]) v'
 have c2 := Ch.put L (K := fun u => u = (1, 1000)) m1 11 (by simp [fcells]) v' rfl
 refine ⟨v', h1, w1, e1, e2.flat, x.m.get 11 _ rfl, m1.get 11 _ rfl, by have := x.m.lo; omega, ⟨m2, (x.s0.ch L c1 (by simp)).ch L c2 (by simp), ?_, (x.s2.ch L c1 (by simp)).ch L c2 (by simp), (x.s3.ch L c1 (by simp)).ch L c2 (by simp), (x.s4.ch L c1 (by simp)).ch L c2 (by simp), (x.s5.ch L c1 (by simp)).ch L c2 (by simp), (x.s6.ch L c1 (by simp)).ch L c2 (by simp)⟩, (Kc.one c1 (.inl (List.mem_singleton.2 rfl))).trans (Kc.one c2 (.inl (List.mem_singleton.2 rfl))), by rw [L.next_put]; exact lo1⟩
 have := e2.ch L c2 (by simp)
 simpa using this
theorem FB.app2 (L : O.Law) {w : Own} {h : H} {f : Nat} {s : ByteArray} {F : FD} {v0 v1 v2 v3 v4 v5 v6 : Value} (x : FB O ro w h f s F v0 v1 v2 v3 v4 v5 v6) (lo : ro <= O.next h) (e : Us) (hl : F.outs.length <= 10000) :
 ∃ v' h1 w1, appI O ro 2 16 v2 (.slice (some ⟨O.next h, 0, some 2⟩) 1 2) (O.new h e.cells) = some (v', h1) /\ (v'.cells = #[v'] /\ isFlat v' = true /\ isTup v' = false) /\ O.cell h f 12 = some v2 /\ O.cell h1 f 12 = some v2 /\ ¬ f < ro /\
  FB O ro w1 (O.put h1 f 12 v') f s { F with outs := F.outs ++ [e] } v0 v1 v' v3 v4 v5 v6 /\ Ch O (Kc [1] 0) w h w1 (O.put h1 f 12 v') /\ ro <= O.next (O.put h1 f 12 v') := by
 have hlen := flat_len Us.cells 2 (fun _ => rfl) F.outs
 obtain ⟨v', h1, w1, e1, e2, c1, lo1⟩ := appI_one L (bytes := 16) lo x.s2 (new := e.cells) (by omega) rfl (by omega) (by omega)
 have m1 := x.m.ch L c1 (by simp)
 have m2 := m1.put L 12 (by simp [fcells]) v'
 have c2 := Ch.put L (K := fun u => u = (1, 1000)) m1 12 (by simp [fcells]) v' rfl
 refine ⟨v', h1, w1, e1, e2.flat, x.m.get 12 _ rfl, m1.get 12 _ rfl, by have := x.m.lo; omega, ⟨m2, (x.s0.ch L c1 (by simp)).ch L c2 (by simp), (x.s1.ch L c1 (by simp)).ch L c2 (by simp), ?_, (x.s3.ch L c1 (by simp)).ch L c2 (by simp), (x.s4.ch L c1 (by simp)).ch L c2 (by simp), (x.s5.ch L c1 (by simp)).ch L c2 (by simp), (x.s6.ch L c1 (by simp)).ch L c2 (by simp)⟩, (Kc.one c1 (.inl (List.mem_singleton.2 rfl))).trans (Kc.one c2 (.inl (List.mem_singleton.2 rfl))), by rw [L.next_put]; exact lo1⟩
 have := e2.ch L c2 (by simp)
 simpa using this
theorem FB.app3 (L : O.Law) {w : Own} {h : H} {f : Nat} {s : ByteArray} {F : FD} {v0 v1 v2 v3 v4 v5 v6 : Value} (x : FB O ro w h f s F v0 v1 v2 v3 v4 v5 v6) (lo : ro <= O.next h) (e : Us) (hl : F.bads.length <= 10000) :
 ∃ v' h1 w1, appI O ro 2 16 v3 (.slice (some ⟨O.next h, 0, some 2⟩) 1 2) (O.new h e.cells) = some (v', h1) /\ (v'.cells = #[v'] /\ isFlat v' = true /\ isTup v' = false) /\ O.cell h f 13 = some v3 /\ O.cell h1 f 13 = some v3 /\ ¬ f < ro /\
  FB O ro w1 (O.put h1 f 13 v') f s { F with bads := F.bads ++ [e] } v0 v1 v2 v' v4 v5 v6 /\ Ch O (Kc [1] 0) w h w1 (O.put h1 f 13 v') /\ ro <= O.next (O.put h1 f 13 v') := by
 have hlen := flat_len Us.cells 2 (fun _ => rfl) F.bads
 obtain ⟨v', h1, w1, e1, e2, c1, lo1⟩ := appI_one L (bytes := 16) lo x.s3 (new := e.cells) (by omega) rfl (by omega) (by omega)
 have m1 := x.m.ch L c1 (by simp)
 have m2 := m1.put L 13 (by simp [fcells]) v'
 have c2 := Ch.put L (K := fun u => u = (1, 1000)) m1 13 (by simp [fcells]) v' rfl
 refine ⟨v', h1, w1, e1, e2.flat, x.m.get 13 _ rfl, m1.get 13 _ rfl, by have := x.m.lo; omega, ⟨m2, (x.s0.ch L c1 (by simp)).ch L c2 (by simp), (x.s1.ch L c1 (by simp)).ch L c2 (by simp), (x.s2.ch L c1 (by simp)).ch L c2 (by simp), ?_, (x.s4.ch L c1 (by simp)).ch L c2 (by simp), (x.s5.ch L c1 (by simp)).ch L c2 (by simp), (x.s6.ch L c1 (by simp)).ch L c2 (by simp)⟩, (Kc.one c1 (.inl (List.mem_singleton.2 rfl))).trans (Kc.one c2 (.inl (List.mem_singleton.2 rfl))), by rw [L.next_put]; exact lo1⟩
 have := e2.ch L c2 (by simp)
 simpa using this
theorem FB.app4 (L : O.Law) {w : Own} {h : H} {f : Nat} {s : ByteArray} {F : FD} {v0 v1 v2 v3 v4 v5 v6 : Value} (x : FB O ro w h f s F v0 v1 v2 v3 v4 v5 v6) (lo : ro <= O.next h) (e : Nat) (hl : F.resets.length <= 10000) :
 ∃ v' h1 w1, appI O ro 1 8 v4 (.slice (some ⟨O.next h, 0, some 1⟩) 1 2) (O.new h [.int .i64 (e : Nat)]) = some (v', h1) /\ (v'.cells = #[v'] /\ isFlat v' = true /\ isTup v' = false) /\ O.cell h f 14 = some v4 /\ O.cell h1 f 14 = some v4 /\ ¬ f < ro /\
  FB O ro w1 (O.put h1 f 14 v') f s { F with resets := F.resets ++ [e] } v0 v1 v2 v3 v' v5 v6 /\ Ch O (Kc [1] 0) w h w1 (O.put h1 f 14 v') /\ ro <= O.next (O.put h1 f 14 v') := by
 obtain ⟨v', h1, w1, e1, e2, c1, lo1⟩ := appI_one L (bytes := 8) lo x.s4 (new := [.int .i64 (e : Nat)]) (by omega) rfl (by simp; omega) (by simp; omega)
 have m1 := x.m.ch L c1 (by simp)
 have m2 := m1.put L 14 (by simp [fcells]) v'
 have c2 := Ch.put L (K := fun u => u = (1, 1000)) m1 14 (by simp [fcells]) v' rfl
 refine ⟨v', h1, w1, e1, e2.flat, x.m.get 14 _ rfl, m1.get 14 _ rfl, by have := x.m.lo; omega, ⟨m2, (x.s0.ch L c1 (by simp)).ch L c2 (by simp), (x.s1.ch L c1 (by simp)).ch L c2 (by simp), (x.s2.ch L c1 (by simp)).ch L c2 (by simp), (x.s3.ch L c1 (by simp)).ch L c2 (by simp), ?_, (x.s5.ch L c1 (by simp)).ch L c2 (by simp), (x.s6.ch L c1 (by simp)).ch L c2 (by simp)⟩, (Kc.one c1 (.inl (List.mem_singleton.2 rfl))).trans (Kc.one c2 (.inl (List.mem_singleton.2 rfl))), by rw [L.next_put]; exact lo1⟩
 have := e2.ch L c2 (by simp)
 simpa using this
theorem FB.app5 (L : O.Law) {w : Own} {h : H} {f : Nat} {s : ByteArray} {F : FD} {v0 v1 v2 v3 v4 v5 v6 : Value} (x : FB O ro w h f s F v0 v1 v2 v3 v4 v5 v6) (lo : ro <= O.next h) (e : Us) (hl : F.left.length <= 10000) :
 ∃ v' h1 w1, appI O ro 2 16 v5 (.slice (some ⟨O.next h, 0, some 2⟩) 1 2) (O.new h e.cells) = some (v', h1) /\ (v'.cells = #[v'] /\ isFlat v' = true /\ isTup v' = false) /\ O.cell h f 15 = some v5 /\ O.cell h1 f 15 = some v5 /\ ¬ f < ro /\
  FB O ro w1 (O.put h1 f 15 v') f s { F with left := F.left ++ [e] } v0 v1 v2 v3 v4 v' v6 /\ Ch O (Kc [1] 0) w h w1 (O.put h1 f 15 v') /\ ro <= O.next (O.put h1 f 15 v') := by
 have hlen := flat_len Us.cells 2 (fun _ => rfl) F.left
 obtain ⟨v', h1, w1, e1, e2, c1, lo1⟩ := appI_one L (bytes := 16) lo x.s5 (new := e.cells) (by omega) rfl (by omega) (by omega)
 have m1 := x.m.ch L c1 (by simp)
 have m2 := m1.put L 15 (by simp [fcells]) v'
 have c2 := Ch.put L (K := fun u => u = (1, 1000)) m1 15 (by simp [fcells]) v' rfl
 refine ⟨v', h1, w1, e1, e2.flat, x.m.get 15 _ rfl, m1.get 15 _ rfl, by have := x.m.lo; omega, ⟨m2, (x.s0.ch L c1 (by simp)).ch L c2 (by simp), (x.s1.ch L c1 (by simp)).ch L c2 (by simp), (x.s2.ch L c1 (by simp)).ch L c2 (by simp), (x.s3.ch L c1 (by simp)).ch L c2 (by simp), (x.s4.ch L c1 (by simp)).ch L c2 (by simp), ?_, (x.s6.ch L c1 (by simp)).ch L c2 (by simp)⟩, (Kc.one c1 (.inl (List.mem_singleton.2 rfl))).trans (Kc.one c2 (.inl (List.mem_singleton.2 rfl))), by rw [L.next_put]; exact lo1⟩
 have := e2.ch L c2 (by simp)
 simpa using this
theorem FB.app6 (L : O.Law) {w : Own} {h : H} {f : Nat} {s : ByteArray} {F : FD} {v0 v1 v2 v3 v4 v5 v6 : Value} (x : FB O ro w h f s F v0 v1 v2 v3 v4 v5 v6) (lo : ro <= O.next h) (e : Us) (hl : F.right.length <= 10000) :
 ∃ v' h1 w1, appI O ro 2 16 v6 (.slice (some ⟨O.next h, 0, some 2⟩) 1 2) (O.new h e.cells) = some (v', h1) /\ (v'.cells = #[v'] /\ isFlat v' = true /\ isTup v' = false) /\ O.cell h f 16 = some v6 /\ O.cell h1 f 16 = some v6 /\ ¬ f < ro /\
  FB O ro w1 (O.put h1 f 16 v') f s { F with right := F.right ++ [e] } v0 v1 v2 v3 v4 v5 v' /\ Ch O (Kc [1] 0) w h w1 (O.put h1 f 16 v') /\ ro <= O.next (O.put h1 f 16 v') := by
 have hlen := flat_len Us.cells 2 (fun _ => rfl) F.right
 obtain ⟨v', h1, w1, e1, e2, c1, lo1⟩ := appI_one L (bytes := 16) lo x.s6 (new := e.cells) (by omega) rfl (by omega) (by omega)
 have m1 := x.m.ch L c1 (by simp)
 have m2 := m1.put L 16 (by simp [fcells]) v'
 have c2 := Ch.put L (K := fun u => u = (1, 1000)) m1 16 (by simp [fcells]) v' rfl
 refine ⟨v', h1, w1, e1, e2.flat, x.m.get 16 _ rfl, m1.get 16 _ rfl, by have := x.m.lo; omega, ⟨m2, (x.s0.ch L c1 (by simp)).ch L c2 (by simp), (x.s1.ch L c1 (by simp)).ch L c2 (by simp), (x.s2.ch L c1 (by simp)).ch L c2 (by simp), (x.s3.ch L c1 (by simp)).ch L c2 (by simp), (x.s4.ch L c1 (by simp)).ch L c2 (by simp), (x.s5.ch L c1 (by simp)).ch L c2 (by simp), ?_⟩, (Kc.one c1 (.inl (List.mem_singleton.2 rfl))).trans (Kc.one c2 (.inl (List.mem_singleton.2 rfl))), by rw [L.next_put]; exact lo1⟩
 have := e2.ch L c2 (by simp)
 simpa using this
def dfS (ds : List Us) (l : Int) : Bool := ds.any (fun u => u.l / 2 == l / 2) || decide (l < 2)
def smallU (ds : List Us) : Prop := ∀ u ∈ ds, 0 <= u.l /\ u.l < 1000000
theorem df_b (C : Lim Tryz.prog O ro okS c) {w : Own} {h : H} {f : Nat} {s : ByteArray} {F : FD} {v0 v1 v2 v3 v4 v5 v6 : Value} (x : FB O ro w h f s F v0 v1 v2 v3 v4 v5 v6) (hl : F.defs.length <= 10000) (hd : smallU F.defs) (l : Int) (h0 : 0 <= l) (h1 : l < 1000000) :
 c 112 [ptr f, .int .i64 l] h = some (.bool (dfS F.defs l), h) := by
 have hlen := flat_len Us.cells 2 (fun _ => rfl) F.defs
 have k10 := x.m.get 10 _ rfl
 obtain ⟨l, rfl⟩ : ∃ k : Nat, l = k := ⟨l.toNat, by omega⟩
 refine C.eq (F112_fn O ro) rfl rfl ?_
 unfold F112
 refine okE.seq (okE.flat (fun _ => rfl) ?_)
 simp [R112_0, thenE, -resE, -resLE, -rvE]
 refine okE.seq (okE.seq (okE.flat (fun _ => rfl) ?_))
 simp [R112_1, thenE, -resE, -resLE, -rvE]
 refine okE.blk ?_
 refine okE.loop (fun m t g => ∃ j, g = h /\ t 0 = ptr f /\ t 1 = .int .i64 (l : Nat) /\ t 5 = .int .i64 (j : Nat) /\ j + m = F.defs.length + 1 /\ 0 < m /\ dfS (F.defs.drop j) l = dfS F.defs l) ?_ (F.defs.length + 1) _ _ ⟨0, rfl, by simp, by simp, by simp, by omega, by omega, rfl⟩
 intro m t g hI
 obtain ⟨j, rfl, t0, t1, t5, hj, hm, hfin⟩ := hI
 unfold ptr at t0
 by_cases hlt : j < F.defs.length
 . obtain ⟨b, cp, rfl, y⟩ := x.s0.blk (by omega) F.defs.length hlen (by omega)
   have hc : O.cell g b (j * 2) = some (.int .i64 F.defs[j].l) := y.get _ _ (flat_at Us.cells 2 (fun _ => rfl) F.defs j hlt 0 (by omega))
   have hsm := hd _ (List.getElem_mem hlt)
   rw [List.drop_eq_getElem_cons hlt] at hfin
   obtain ⟨u, hu⟩ : ∃ u : Nat, F.defs[j].l = u := ⟨F.defs[j].l.toNat, by omega⟩
   simp only [dfS, List.any_cons] at hfin
   rw [hu] at hc hfin hsm
   have q1 := iA_quo2 u (by omega)
   have q2 := iA_quo2 l (by omega)
   obtain ⟨a, ha⟩ : ∃ a, a = u / 2 := ⟨_, rfl⟩
   obtain ⟨d, hdd⟩ : ∃ d, d = l / 2 := ⟨_, rfl⟩
   rw [<- ha] at q1
   rw [<- hdd] at q2
   have e1 : ((u : Int) / 2 == (l : Int) / 2) = decide (a = d) := by
    rw [Bool.eq_iff_iff]; simp only [beq_iff_eq, decide_eq_true_eq]; omega
   rw [e1] at hfin
   obtain ⟨q, hq⟩ : ∃ q, q = j + 1 := ⟨_, rfl⟩
   have hw : IntKind.i64.wrap ((j : Int) + 1) = (q : Int) := by rw [wrap_id (by omega) (by omega)]; omega
   have hlt' : (j : Int) < F.defs.length := by omega
   rw [<- hq] at hfin
   refine okE.flat (fun _ => rfl) ?_
   by_cases hk : a = d
   . have hk' : ((a : Int) == (d : Int)) = true := by simp; omega
     have hfin2 : dfS F.defs l = true := by rw [dfS, <- hfin]; simp [hk]
     simp [W112_0, R112_2, R112_4, R112_5, t0, t1, t5, k10, hlt, hlt', hc, q1, q2, hk', hfin2, thenE]
   . have hk' : ((a : Int) == (d : Int)) = false := by simp; omega
     have hfin2 : dfS (F.defs.drop q) l = dfS F.defs l := by simp only [dfS]; rw [<- hfin]; simp [hk]
     simp [W112_0, R112_2, R112_4, R112_3, t0, t1, t5, k10, hlt, hlt', hc, q1, q2, hk', hw]
     exact ⟨m - 1, by omega, q, rfl, by omega, by omega, hfin2⟩
 . obtain ⟨a, cp, rfl⟩ := x.s0.len (by omega) F.defs.length hlen
   rw [List.drop_eq_nil_of_le (by omega)] at hfin
   have hlt' : ¬ (j : Int) < F.defs.length := by omega
   refine okE.flat (fun _ => rfl) ?_
   simp [W112_0, R112_2, t0, t1, t5, k10, hlt, hlt', thenE]
   refine okE.flat (fun _ => rfl) ?_
   have hfin2 : dfS F.defs l = decide ((l : Int) < 2) := by rw [<- hfin]; simp [dfS]
   rw [hfin2]
   simp [R112_6, t1]
def deR (F : FD) (u : Us) : RS := if dfS F.defs u.l = true \/ u.l % 2 = 1 then fl F.R 8 u.p else F.R
def deS (F : FD) (u : Us) : FD := if F.R.e = 0 then { F with R := deR F u, defs := F.defs ++ [u] } else F
theorem de_b (C : Lim Tryz.prog O ro okS c) (L : O.Law) {w : Own} {h : H} {f : Nat} {s : ByteArray} {F : FD} (x : FX O ro w h f s F) (lo : ro <= O.next h) (hl : F.defs.length <= 10000) (hd : smallU F.defs) (u : Us) (h0 : 0 <= u.l) (h1 : u.l < 1000000) :
 ∃ w' h', c 109 [ptr f, u.val] h = some (.tuple #[], h') /\ FX O ro w' h' f s (deS F u) /\ Ch O (Kc [1] 1) w h w' h' /\ ro <= O.next h' := by
 obtain ⟨v0, v1, v2, v3, v4, v5, v6, x⟩ := x
 obtain ⟨b, hb⟩ : ∃ b, b = O.next h := ⟨_, rfl⟩
 obtain ⟨hA, hhA⟩ : ∃ hA, hA = O.new h u.cells := ⟨_, rfl⟩
 obtain ⟨w1, hw1⟩ : ∃ w1, w1 = w.set b (100, 0) := ⟨_, rfl⟩
 have c1 : ∀ K, Ch O K w h w1 hA := fun K => by rw [hhA, hw1, hb]; exact Ch.new L _ _ _ _ _
 have y1 : Bx O ro w1 hA (100, 0) b u.cells := by rw [hhA, hw1, hb]; exact Bx.new L _ _ lo _ _
 have x1 := x.ch L (c1 fun _ => False) (by simp)
 have lo1 : ro <= O.next hA := Nat.le_trans lo (c1 fun _ => True).nx
 have k17 := x1.m.get 17 _ rfl
 have z0 := y1.get 0 _ rfl
 have z1 := y1.get 1 _ rfl
 simp only [Us.cells] at hhA
 unfold deS
 by_cases he : F.R.e = 0
 . rw [if_pos he]
   have hk0 : ((F.R.e : Int) != 0) = false := by simp; omega
   have hdf := df_b C x1 hl hd u.l h0 h1
   unfold ptr at hdf
   obtain ⟨k, hk⟩ : ∃ k : Nat, u.l = k := ⟨u.l.toNat, by omega⟩
   have hrem := iA_rem2 k
   have fault : ∃ h4, (if dfS F.defs u.l = true \/ u.l % 2 = 1 then c 108 [Value.pointer (some ⟨f, 0, none⟩), .int .i64 8, .int .i64 u.p] hA = some (.tuple #[], h4) else h4 = hA) /\ FB O ro w1 h4 f s { F with R := deR F u } v0 v1 v2 v3 v4 v5 v6 /\ Ch O (fun u => u = (1, 1000)) w1 hA w1 h4 := by
    by_cases hq : dfS F.defs u.l = true \/ u.l % 2 = 1
    . obtain ⟨h4, hc4, x4, c4⟩ := bad_w C L x1 8 u.p
      exact ⟨h4, by rw [if_pos hq]; exact hc4, by unfold deR; rw [if_pos hq]; exact x4, c4⟩
    . exact ⟨hA, by rw [if_neg hq], by unfold deR; rw [if_neg hq]; exact x1, Ch.refl _ _ _⟩
   obtain ⟨h4, e4, x4, c4⟩ := fault
   have y4 := y1.ch L c4 (by simp)
   have lo4 : ro <= O.next h4 := Nat.le_trans lo1 c4.nx
   have hl4 : cellsA O h4 b 0 2 = some [.int .i64 u.l, .int .i64 u.p] := y4.all
   obtain ⟨v', h5, w5, e5, ⟨f1, f2, f3⟩, g1, g2, hro, x5, c5, lo5⟩ := x4.app0 L lo4 u hl
   refine ⟨w5, _, ?_, ⟨v', v1, v2, v3, v4, v5, v6, x5⟩, ((c1 _).trans (chR c4 1)).trans (Kc.mono c5 (by decide) (by omega)), lo5⟩
   refine C.eq (F109_fn O ro) rfl rfl (okE.flat (fun _ => rfl) ?_)
   simp only [Us.cells] at e5
   rw [hk] at hdf z0 hl4 e4 e5 hhA
   have hval : u.val = .agg #[.int .i64 (k : Nat), .int .i64 u.p] := by unfold Us.val; rw [hk]
   rw [hval]
   by_cases hq1 : dfS F.defs (k : Int) = true
   . rw [if_pos (.inl hq1)] at e4
     simp [F109, R109_0, R109_1, R109_2, R109_3, R109_4, R109_5, <- hb, <- hhA, k17, hk0, he, z0, z1, hdf, hq1, e4, g1, hl4, List.zipIdx, List.range_succ, e5, f1, f2, f3, g2, hro, putsA]
   . obtain ⟨r, hr⟩ : ∃ r, r = k % 2 := ⟨_, rfl⟩
     rw [<- hr] at hrem
     by_cases hq2 : r = 1
     . have hq3 : ((r : Int) == 1) = true := by simp; omega
       rw [if_pos (.inr (by omega))] at e4
       simp [F109, R109_0, R109_1, R109_2, R109_3, R109_4, R109_5, <- hb, <- hhA, k17, hk0, he, z0, z1, hdf, hq1, hrem, hq3, e4, g1, hl4, List.zipIdx, List.range_succ, e5, f1, f2, f3, g2, hro, putsA]
     . have hq3 : ((r : Int) == 1) = false := by simp; omega
       rw [if_neg (by intro q; rcases q with q | q; exact hq1 q; omega)] at e4
       subst e4
       simp [F109, R109_0, R109_1, R109_2, R109_3, R109_4, R109_5, <- hb, <- hhA, k17, hk0, he, z0, z1, hdf, hq1, hrem, hq3, g1, hl4, List.zipIdx, List.range_succ, e5, f1, f2, f3, g2, hro, putsA]
 . rw [if_neg he]
   have hk0 : ((F.R.e : Int) != 0) = true := by simp; omega
   refine ⟨w1, hA, ?_, ⟨v0, v1, v2, v3, v4, v5, v6, x1⟩, c1 _, lo1⟩
   refine C.eq (F109_fn O ro) rfl rfl (okE.flat (fun _ => rfl) ?_)
   simp [F109, R109_0, R109_1, Us.val, <- hb, <- hhA, k17, hk0, he]
end
section
variable {H : Type} {O : HI H} {ro : Nat} {c : CallT H}
def hrL (s : ByteArray) : Nat -> RS -> List Nat -> List Nat × RS
 | 0, R, ns => (ns, R)
 | n + 1, R, ns =>
  if R.e = 0 /\ ns.length < 9 then
   if 5 <= ns.length /\ byA s R.pos = 10 then (ns, R)
   else hrL s n (wdS s (exS s R 32)).2 (ns ++ [(wdS s (exS s R 32)).1.l.toNat])
  else (ns, R)
def niv (n : Nat) : Value := .int .i64 (n : Int)
theorem hr_loop (C : Lim Tryz.prog O ro okS c) (L : O.Law) {w0 : Own} {h0 : H} {f : Nat} {s : ByteArray} (hs : s.size <= 1000) (F : FD) (w : Own) (h : H) {v0 v1 v2 v3 v4 v5 v6 : Value} (x : FB O ro w h f s F v0 v1 v2 v3 v4 v5 v6) (lo : ro <= O.next h) (cc : Ch O (Kc [1] 2) w0 h0 w h) (hp : F.R.pos <= s.size) (t : Env) (t0 : t 0 = ptr f) (t3 : t 3 = .slice none 0 0) :
 okE c (cBlk 0 (cLoop (W54_0 O Tryz.prog ro))) (t, h) (fun e t' h' => e = .normal /\ t' 0 = ptr f /\ ∃ w' v, t' 3 = v /\ FB O ro w' h' f s { F with R := (hrL s 10 F.R []).2 } v0 v1 v2 v3 v4 v5 v6 /\ Sl O ro w' h' (101, 5) 1 v ((hrL s 10 F.R []).1.map niv) /\ Ch O (Kc [1] 2) w0 h0 w' h' /\ ro <= O.next h' /\ (hrL s 10 F.R []).2.pos <= s.size /\ (hrL s 10 F.R []).1.length <= 9 /\ (∀ n ∈ (hrL s 10 F.R []).1, n < 10000)) := by
 refine okE.blk ?_
 generalize hE : hrL s 10 F.R [] = E
 refine okE.loop (fun m t g => ∃ R ns v w', FB O ro w' g f s { F with R := R } v0 v1 v2 v3 v4 v5 v6 /\ Sl O ro w' g (101, 5) 1 v (ns.map niv) /\ Ch O (Kc [1] 2) w0 h0 w' g /\ ro <= O.next g /\ R.pos <= s.size /\ t 0 = ptr f /\ t 3 = v /\ ns.length + m = 10 /\ 0 < m /\ (∀ n ∈ ns, n < 10000) /\ hrL s m R ns = E) ?_ 10 _ _ ⟨F.R, [], .slice none 0 0, w, x, Sl.nil _ _ _ _, cc, lo, hp, t0, t3, rfl, by omega, by simp, hE⟩
 intro m t g hI
 obtain ⟨R, ns, v, w', x', sl', c', lo', hp', t0, t3, hm, hm0, hns, hfin⟩ := hI
 unfold ptr at t0
 obtain ⟨m', rfl⟩ : ∃ m', m = m' + 1 := ⟨m - 1, by omega⟩
 simp only [hrL] at hfin
 have k17 : O.cell g f 17 = some (.int .i64 R.e) := x'.m.get 17 _ rfl
 have k19 : O.cell g f 19 = some (.int .i64 R.pos) := x'.m.get 19 _ rfl
 have k20 : O.cell g f 20 = some (.string s) := x'.m.get 20 _ rfl
 obtain ⟨a, cp, hv⟩ := sl'.len (by omega) ns.length (by simp)
 by_cases hgo : R.e = 0 /\ ns.length < 9
 . rw [if_pos hgo] at hfin
   have q1 : ((R.e : Int) == 0) = true := by simp; omega
   have q2 : (ns.length : Int) < 9 := by omega
   have hby := by_w C g s hs R.pos
   by_cases hst : 5 <= ns.length /\ byA s R.pos = 10
   . rw [if_pos hst] at hfin
     have q3 : (5 : Int) <= ns.length := by omega
     have q4 : (byA s R.pos == 10) = true := by simpa using hst.2
     rw [hv] at t3
     refine okE.flat (fun _ => rfl) ?_
     simp [W54_0, R54_8, R54_9, R54_10, t0, t3, k17, k19, k20, q1, q2, hgo.2, hby, q3, hst.1, q4]
     rw [<- hfin]
     rw [hv] at sl'
     exact ⟨w', x', sl', c', lo', hp', by simp only; omega, hns⟩
   . rw [if_neg hst] at hfin
     obtain ⟨h2, hc2, x2, c2⟩ := sign_w C L x' hs 32
     have sl2 := sl'.ch L c2 (by simp)
     have lo2 := Nat.le_trans lo' c2.nx
     have p2 := exS_pos (s := s) (R := R) 32 hp'
     obtain ⟨w3, h3, hc3, x3, c3, lo3⟩ := word_b C L x2 lo2 hs p2
     have sl3 := sl2.ch L c3 (by simp [Kc])
     have p3 := wdS_pos (s := s) (R := exS s R 32) p2
     obtain ⟨k, hk, hu⟩ := wdS_l s (exS s R 32)
     obtain ⟨R3, hR3⟩ : ∃ R3, R3 = (wdS s (exS s R 32)).2 := ⟨_, rfl⟩
     obtain ⟨R2, hR2⟩ : ∃ R2, R2 = exS s R 32 := ⟨_, rfl⟩
     have hc3x : c 107 [ptr f] h2 = some ((⟨(k : Int), R2.pos⟩ : Us).val, h3) := by rw [hR2, <- hu]; exact hc3
     have x3x : FB O ro w3 h3 f s { F with R := R3 } v0 v1 v2 v3 v4 v5 v6 := by rw [hR3]; exact x3
     rw [<- hR3, hu] at hfin
     simp only [Int.toNat_natCast] at hfin
     rw [<- hR3] at p3
     obtain ⟨h4, e4, z4, c4, lo4⟩ := local2 L w3 h3 lo3 (.int .i64 0) (.int .i64 0) (.int .i64 (k : Nat)) (.int .i64 R2.pos) (101, 6)
     obtain ⟨b4, hb4⟩ : ∃ b4, b4 = O.next h3 := ⟨_, rfl⟩
     obtain ⟨w4, hw4⟩ : ∃ w4, w4 = w3.set b4 (101, 6) := ⟨_, rfl⟩
     rw [<- hb4, <- hw4] at z4
     rw [<- hb4] at e4
     have c4' : ∀ K, Ch O K w3 h3 w4 h4 := fun K => by rw [hw4, hb4]; exact c4 K
     have x4 := x3x.ch L (c4' fun _ => False) (by simp)
     have sl4 := sl3.ch L (c4' fun _ => False) (by simp)
     have z40 := z4.get 0 _ rfl
     have hro4 : ¬ b4 < ro := by have := z4.lo; omega
     obtain ⟨v', h5, w5, e5, sl5, c5, lo5⟩ := appI_one L (bytes := 8) lo4 sl4 (new := [.int .i64 (k : Nat)]) (by omega) rfl (by simp; omega) (by simp; omega)
     have x5 := x4.ch L c5 (by simp)
     have cc5 : Ch O (Kc [1] 2) w0 h0 w5 h5 := (((c'.trans (chR c2 2)).trans (Kc.mono c3 (by decide) (by omega))).trans (c4' _)).trans (chL c5 2 (by omega))
     unfold ptr at hc2 hc3x
     simp only [Us.val] at hc3x
     have hc2' : c 105 [Value.pointer (some ⟨f, 0, none⟩), .int .i64 32] g = some (.tuple #[], h2) := hc2
     have hw : Sl O ro w5 h5 (101, 5) 1 v' ((ns ++ [k]).map niv) := by simpa [niv] using sl5
     have hns2 : ∀ n ∈ ns ++ [k], n < 10000 := by
      intro n hn
      rcases List.mem_append.1 hn with hn | hn
      . exact hns n hn
      . simp only [List.mem_singleton] at hn; omega
     rw [hv] at t3 e5
     refine okE.flat (fun _ => rfl) ?_
     by_cases h5l : 5 <= ns.length
     . have q3 : (5 : Int) <= ns.length := by omega
       have q4 : (byA s R.pos == 10) = false := by
        have : ¬ byA s R.pos = 10 := fun q => hst ⟨h5l, q⟩
        simpa using this
       simp [W54_0, R54_8, R54_9, R54_10, R54_11, R54_12, R54_13, t0, t3, k17, k19, k20, q1, q2, hgo.2, hby, q3, h5l, q4, hc2', hc3x, <- hb4, e4, hro4, z40, List.zipIdx, List.range_succ, e5]
       exact ⟨m', by omega, R3, ns ++ [k], v', w5, x5, hw, cc5, lo5, p3, rfl, by simp; omega, by omega, hns2, hfin⟩
     . have q3 : ¬ (5 : Int) <= ns.length := by omega
       simp [W54_0, R54_8, R54_9, R54_10, R54_11, R54_12, R54_13, t0, t3, k17, k19, k20, q1, q2, hgo.2, hby, q3, h5l, hc2', hc3x, <- hb4, e4, hro4, z40, List.zipIdx, List.range_succ, e5]
       exact ⟨m', by omega, R3, ns ++ [k], v', w5, x5, hw, cc5, lo5, p3, rfl, by simp; omega, by omega, hns2, hfin⟩
 . rw [if_neg hgo] at hfin
   rw [hv] at t3
   refine okE.flat (fun _ => rfl) ?_
   by_cases he : R.e = 0
   . have q1 : ((R.e : Int) == 0) = true := by simp; omega
     have q2 : ¬ (ns.length : Int) < 9 := by omega
     have q3 : ¬ ns.length < 9 := by omega
     simp [W54_0, R54_8, t0, t3, k17, q1, q2, q3]
     rw [<- hfin]
     rw [hv] at sl'
     exact ⟨w', x', sl', c', lo', hp', by simp only; omega, hns⟩
   . have q1 : ((R.e : Int) == 0) = false := by simp; omega
     simp [W54_0, R54_8, t0, t3, k17, q1]
     rw [<- hfin]
     rw [hv] at sl'
     exact ⟨w', x', sl', c', lo', hp', by simp only; omega, hns⟩
theorem hr_pad (C : Lim Tryz.prog O ro okS c) (L : O.Law) {w0 : Own} {h0 : H} {f : Nat} {s : ByteArray} (F : FD) (ns : List Nat) (hns : ns.length <= 9) (w : Own) (h : H) {v v0 v1 v2 v3 v4 v5 v6 : Value} (x : FB O ro w h f s F v0 v1 v2 v3 v4 v5 v6) (sl : Sl O ro w h (101, 5) 1 v (ns.map niv)) (lo : ro <= O.next h) (cc : Ch O (Kc [1] 2) w0 h0 w h) (t : Env) (t0 : t 0 = ptr f) (t3 : t 3 = v) :
 okE c (cBlk 2 (cLoop (W54_1 O Tryz.prog ro))) (t, h) (fun e t' h' => e = .normal /\ t' 0 = ptr f /\ ∃ w' v, t' 3 = v /\ FB O ro w' h' f s F v0 v1 v2 v3 v4 v5 v6 /\ Sl O ro w' h' (101, 5) 1 v ((ns ++ List.replicate (9 - ns.length) 0).map niv) /\ Ch O (Kc [1] 2) w0 h0 w' h' /\ ro <= O.next h') := by
 refine okE.blk ?_
 refine okE.loop (fun m t g => ∃ j v w', FB O ro w' g f s F v0 v1 v2 v3 v4 v5 v6 /\ Sl O ro w' g (101, 5) 1 v ((ns ++ List.replicate j 0).map niv) /\ Ch O (Kc [1] 2) w0 h0 w' g /\ ro <= O.next g /\ t 0 = ptr f /\ t 3 = v /\ ns.length + j + m = 10 /\ 0 < m) ?_ (10 - ns.length) _ _ ⟨0, v, w, x, by simpa using sl, cc, lo, t0, t3, by omega, by omega⟩
 intro m t g hI
 obtain ⟨j, v, w', x', sl', c', lo', t0, t3, hm, hm0⟩ := hI
 unfold ptr at t0
 obtain ⟨a, cp, hv⟩ := sl'.len (by omega) (ns.length + j) (by simp)
 obtain ⟨N, hN⟩ : ∃ N, N = ns.length + j := ⟨_, rfl⟩
 rw [<- hN] at hv
 by_cases hlt : N < 9
 . obtain ⟨v', h5, w5, e5, sl5, c5, lo5⟩ := appI_one L (bytes := 8) lo' sl' (new := [.int .i64 0]) (by omega) rfl (by simp; omega) (by simp; omega)
   have x5 := x'.ch L c5 (by simp)
   have q2 : (N : Int) < 9 := by omega
   have hw : Sl O ro w5 h5 (101, 5) 1 v' ((ns ++ List.replicate (j + 1) 0).map niv) := by
    simpa [niv, List.replicate_succ'] using sl5
   rw [hv] at t3 e5
   refine okE.flat (fun _ => rfl) ?_
   simp [W54_1, R54_15, R54_16, t0, t3, q2, hlt, List.zipIdx, List.range_succ, e5]
   refine ⟨m - 1, by omega, j + 1, v', w5, x5, ?_, c'.trans (chL c5 2 (by omega)), lo5, rfl, by omega, by omega⟩
   simpa using hw
 . have q2 : ¬ (N : Int) < 9 := by omega
   have hj : j = 9 - ns.length := by omega
   rw [hv] at t3
   refine okE.flat (fun _ => rfl) ?_
   simp [W54_1, R54_15, t0, t3, q2, hlt]
   rw [hv, hj] at sl'
   exact ⟨w', x', by simpa using sl', c', lo'⟩
def hrB (s : ByteArray) (R : RS) : Bool := byA s (exS s R 97).pos == 105
def hrR (s : ByteArray) (R : RS) : RS := exS s (exS s (exS s R 97) (if hrB s R = true then 105 else 97)) 103
def hrN (s : ByteArray) (R : RS) : List Nat := (hrL s 10 (hrR s R) []).1 ++ List.replicate (9 - (hrL s 10 (hrR s R) []).1.length) 0
def hrE (s : ByteArray) (R : RS) : RS := exS s (hrL s 10 (hrR s R) []).2 10
def hrH (b : Bool) (ns : List Nat) : HR := ⟨b, ns.getD 0 0, ns.getD 1 0, ns.getD 2 0, ns.getD 3 0, ns.getD 4 0, ns.getD 5 0, ns.getD 6 0, ns.getD 7 0, ns.getD 8 0⟩
theorem FB.setH (L : O.Law) {w : Own} {h : H} {f : Nat} {s : ByteArray} {F : FD} {v0 v1 v2 v3 v4 v5 v6 : Value} (x : FB O ro w h f s F v0 v1 v2 v3 v4 v5 v6) (i : Nat) (hi : i < 21) (v : Value) (D : HR) (hD : (fcells s F.hd F.R v0 v1 v2 v3 v4 v5 v6).set i v = fcells s D F.R v0 v1 v2 v3 v4 v5 v6) :
 putsA O h f i [v] = some (O.put h f i v) /\ FB O ro w (O.put h f i v) f s { F with hd := D } v0 v1 v2 v3 v4 v5 v6 /\ Ch O (fun u => u = (1, 1000)) w h w (O.put h f i v) := by
 have hi2 : i < (fcells s F.hd F.R v0 v1 v2 v3 v4 v5 v6).length := hi
 have m1 := x.m.put L i hi2 v
 have c1 := Ch.put L (K := fun u => u = (1, 1000)) x.m i hi2 v rfl
 rw [hD] at m1
 have hc : O.cell h f i = some (fcells s F.hd F.R v0 v1 v2 v3 v4 v5 v6)[i] := by rw [x.m.cell i hi2]; simp
 exact ⟨by simp [putsA, hc], x.own L c1 D F.R m1, c1⟩
theorem head_st0 (C : Lim Tryz.prog O ro okS c) (L : O.Law) {w : Own} {h : H} {f b8 cp8 : Nat} {s : ByteArray} {v0 v1 v2 v3 v4 v5 v6 : Value} (bn : Bool) (o1 o2 o3 o4 o5 o6 o7 o8 o9 n1 n2 n3 n4 n5 n6 n7 n8 n9 : Nat) (R : RS) (ds nx os bs : List Us) (rs : List Nat) (lf rt : List Us) (l8 : List Value) (x0 : FB O ro w h f s ⟨⟨bn, o1, o2, o3, o4, o5, o6, o7, o8, o9⟩, R, ds, nx, os, bs, rs, lf, rt⟩ v0 v1 v2 v3 v4 v5 v6) (y0 : Bx O ro w h (101, 5) b8 l8) (gi1 : ∀ h' : H, Bx O ro w h' (101, 5) b8 l8 -> O.cell h' b8 0 = some (.int .i64 (n1 : Nat))) (gi2 : ∀ h' : H, Bx O ro w h' (101, 5) b8 l8 -> O.cell h' b8 1 = some (.int .i64 (n2 : Nat))) (gi3 : ∀ h' : H, Bx O ro w h' (101, 5) b8 l8 -> O.cell h' b8 2 = some (.int .i64 (n3 : Nat))) (gi4 : ∀ h' : H, Bx O ro w h' (101, 5) b8 l8 -> O.cell h' b8 3 = some (.int .i64 (n4 : Nat))) (gi5 : ∀ h' : H, Bx O ro w h' (101, 5) b8 l8 -> O.cell h' b8 4 = some (.int .i64 (n5 : Nat))) (gi6 : ∀ h' : H, Bx O ro w h' (101, 5) b8 l8 -> O.cell h' b8 5 = some (.int .i64 (n6 : Nat))) (gi7 : ∀ h' : H, Bx O ro w h' (101, 5) b8 l8 -> O.cell h' b8 6 = some (.int .i64 (n7 : Nat))) (gi8 : ∀ h' : H, Bx O ro w h' (101, 5) b8 l8 -> O.cell h' b8 7 = some (.int .i64 (n8 : Nat))) (gi9 : ∀ h' : H, Bx O ro w h' (101, 5) b8 l8 -> O.cell h' b8 8 = some (.int .i64 (n9 : Nat))) (t : Env) (t0 : t 0 = .pointer (some ⟨f, 0, none⟩)) (t3 : t 3 = .slice (some ⟨b8, 0, some 1⟩) 9 cp8) :
 okE c (cSeq (cReg (R54_17 O Tryz.prog ro)) (cSeq (cReg (R54_18 O Tryz.prog ro)) (cSeq (cReg (R54_19 O Tryz.prog ro)) (cSeq (cReg (R54_20 O Tryz.prog ro)) (cSeq (cReg (R54_21 O Tryz.prog ro)) (cSeq (cReg (R54_22 O Tryz.prog ro)) (cSeq (cReg (R54_23 O Tryz.prog ro)) (cSeq (cReg (R54_24 O Tryz.prog ro)) (cReg (R54_25 O Tryz.prog ro)))))))))) (t, h) (fun e t' h' => e = .normal /\ FB O ro w h' f s ⟨⟨bn, n1, n2, n3, n4, n5, n6, n7, n8, n9⟩, R, ds, nx, os, bs, rs, lf, rt⟩ v0 v1 v2 v3 v4 v5 v6 /\ Ch O (fun u => u = (1, 1000)) w h w h') := by
 have hrof : ¬ f < ro := by have := x0.m.lo; omega
 have g1 := gi1 _ y0
 obtain ⟨p1, x1', c1⟩ := x0.setH L 1 (by omega) (.int .i64 (n1 : Nat)) ⟨bn, n1, o2, o3, o4, o5, o6, o7, o8, o9⟩ rfl
 have x1 : FB O ro w _ f s ⟨⟨bn, n1, o2, o3, o4, o5, o6, o7, o8, o9⟩, R, ds, nx, os, bs, rs, lf, rt⟩ v0 v1 v2 v3 v4 v5 v6 := x1'
 clear x1'
 obtain ⟨h1, hh1⟩ : ∃ h1, h1 = O.put h f 1 (.int .i64 (n1 : Nat)) := ⟨_, rfl⟩
 rw [<- hh1] at p1 x1 c1
 clear hh1
 have y1 := y0.ch L c1 (by simp)
 have g2 := gi2 _ y1
 obtain ⟨p2, x2', c2⟩ := x1.setH L 2 (by omega) (.int .i64 (n2 : Nat)) ⟨bn, n1, n2, o3, o4, o5, o6, o7, o8, o9⟩ rfl
 have x2 : FB O ro w _ f s ⟨⟨bn, n1, n2, o3, o4, o5, o6, o7, o8, o9⟩, R, ds, nx, os, bs, rs, lf, rt⟩ v0 v1 v2 v3 v4 v5 v6 := x2'
 clear x2'
 obtain ⟨h2, hh2⟩ : ∃ h2, h2 = O.put h1 f 2 (.int .i64 (n2 : Nat)) := ⟨_, rfl⟩
 rw [<- hh2] at p2 x2 c2
 clear hh2
 have y2 := y1.ch L c2 (by simp)
 have g3 := gi3 _ y2
 obtain ⟨p3, x3', c3⟩ := x2.setH L 3 (by omega) (.int .i64 (n3 : Nat)) ⟨bn, n1, n2, n3, o4, o5, o6, o7, o8, o9⟩ rfl
 have x3 : FB O ro w _ f s ⟨⟨bn, n1, n2, n3, o4, o5, o6, o7, o8, o9⟩, R, ds, nx, os, bs, rs, lf, rt⟩ v0 v1 v2 v3 v4 v5 v6 := x3'
 clear x3'
 obtain ⟨h3, hh3⟩ : ∃ h3, h3 = O.put h2 f 3 (.int .i64 (n3 : Nat)) := ⟨_, rfl⟩
 rw [<- hh3] at p3 x3 c3
 clear hh3
 have y3 := y2.ch L c3 (by simp)
 have g4 := gi4 _ y3
 obtain ⟨p4, x4', c4⟩ := x3.setH L 4 (by omega) (.int .i64 (n4 : Nat)) ⟨bn, n1, n2, n3, n4, o5, o6, o7, o8, o9⟩ rfl
 have x4 : FB O ro w _ f s ⟨⟨bn, n1, n2, n3, n4, o5, o6, o7, o8, o9⟩, R, ds, nx, os, bs, rs, lf, rt⟩ v0 v1 v2 v3 v4 v5 v6 := x4'
 clear x4'
 obtain ⟨h4, hh4⟩ : ∃ h4, h4 = O.put h3 f 4 (.int .i64 (n4 : Nat)) := ⟨_, rfl⟩
 rw [<- hh4] at p4 x4 c4
 clear hh4
 have y4 := y3.ch L c4 (by simp)
 have g5 := gi5 _ y4
 obtain ⟨p5, x5', c5⟩ := x4.setH L 5 (by omega) (.int .i64 (n5 : Nat)) ⟨bn, n1, n2, n3, n4, n5, o6, o7, o8, o9⟩ rfl
 have x5 : FB O ro w _ f s ⟨⟨bn, n1, n2, n3, n4, n5, o6, o7, o8, o9⟩, R, ds, nx, os, bs, rs, lf, rt⟩ v0 v1 v2 v3 v4 v5 v6 := x5'
 clear x5'
 obtain ⟨h5, hh5⟩ : ∃ h5, h5 = O.put h4 f 5 (.int .i64 (n5 : Nat)) := ⟨_, rfl⟩
 rw [<- hh5] at p5 x5 c5
 clear hh5
 have y5 := y4.ch L c5 (by simp)
 have g6 := gi6 _ y5
 obtain ⟨p6, x6', c6⟩ := x5.setH L 6 (by omega) (.int .i64 (n6 : Nat)) ⟨bn, n1, n2, n3, n4, n5, n6, o7, o8, o9⟩ rfl
 have x6 : FB O ro w _ f s ⟨⟨bn, n1, n2, n3, n4, n5, n6, o7, o8, o9⟩, R, ds, nx, os, bs, rs, lf, rt⟩ v0 v1 v2 v3 v4 v5 v6 := x6'
 clear x6'
 obtain ⟨h6, hh6⟩ : ∃ h6, h6 = O.put h5 f 6 (.int .i64 (n6 : Nat)) := ⟨_, rfl⟩
 rw [<- hh6] at p6 x6 c6
 clear hh6
 have y6 := y5.ch L c6 (by simp)
 have g7 := gi7 _ y6
 obtain ⟨p7, x7', c7⟩ := x6.setH L 7 (by omega) (.int .i64 (n7 : Nat)) ⟨bn, n1, n2, n3, n4, n5, n6, n7, o8, o9⟩ rfl
 have x7 : FB O ro w _ f s ⟨⟨bn, n1, n2, n3, n4, n5, n6, n7, o8, o9⟩, R, ds, nx, os, bs, rs, lf, rt⟩ v0 v1 v2 v3 v4 v5 v6 := x7'
 clear x7'
 obtain ⟨h7, hh7⟩ : ∃ h7, h7 = O.put h6 f 7 (.int .i64 (n7 : Nat)) := ⟨_, rfl⟩
 rw [<- hh7] at p7 x7 c7
 clear hh7
 have y7 := y6.ch L c7 (by simp)
 have g8 := gi8 _ y7
 obtain ⟨p8, x8', c8⟩ := x7.setH L 8 (by omega) (.int .i64 (n8 : Nat)) ⟨bn, n1, n2, n3, n4, n5, n6, n7, n8, o9⟩ rfl
 have x8 : FB O ro w _ f s ⟨⟨bn, n1, n2, n3, n4, n5, n6, n7, n8, o9⟩, R, ds, nx, os, bs, rs, lf, rt⟩ v0 v1 v2 v3 v4 v5 v6 := x8'
 clear x8'
 obtain ⟨h8, hh8⟩ : ∃ h8, h8 = O.put h7 f 8 (.int .i64 (n8 : Nat)) := ⟨_, rfl⟩
 rw [<- hh8] at p8 x8 c8
 clear hh8
 have y8 := y7.ch L c8 (by simp)
 have g9 := gi9 _ y8
 obtain ⟨p9, x9', c9⟩ := x8.setH L 9 (by omega) (.int .i64 (n9 : Nat)) ⟨bn, n1, n2, n3, n4, n5, n6, n7, n8, n9⟩ rfl
 have x9 : FB O ro w _ f s ⟨⟨bn, n1, n2, n3, n4, n5, n6, n7, n8, n9⟩, R, ds, nx, os, bs, rs, lf, rt⟩ v0 v1 v2 v3 v4 v5 v6 := x9'
 clear x9'
 obtain ⟨h9, hh9⟩ : ∃ h9, h9 = O.put h8 f 9 (.int .i64 (n9 : Nat)) := ⟨_, rfl⟩
 rw [<- hh9] at p9 x9 c9
 clear hh9
 have y9 := y8.ch L c9 (by simp)
 refine okE.seq (okE.flat (fun _ => rfl) ?_)
 simp [R54_17, t0, t3, g1, hrof, p1, thenE]
 refine okE.seq (okE.flat (fun _ => rfl) ?_)
 simp [R54_18, t0, t3, g2, hrof, p2, thenE]
 refine okE.seq (okE.flat (fun _ => rfl) ?_)
 simp [R54_19, t0, t3, g3, hrof, p3, thenE]
 refine okE.seq (okE.flat (fun _ => rfl) ?_)
 simp [R54_20, t0, t3, g4, hrof, p4, thenE]
 refine okE.seq (okE.flat (fun _ => rfl) ?_)
 simp [R54_21, t0, t3, g5, hrof, p5, thenE]
 refine okE.seq (okE.flat (fun _ => rfl) ?_)
 simp [R54_22, t0, t3, g6, hrof, p6, thenE]
 refine okE.seq (okE.flat (fun _ => rfl) ?_)
 simp [R54_23, t0, t3, g7, hrof, p7, thenE]
 refine okE.seq (okE.flat (fun _ => rfl) ?_)
 simp [R54_24, t0, t3, g8, hrof, p8, thenE]
 refine okE.flat (fun _ => rfl) ?_
 simp [R54_25, t0, t3, g9, hrof, p9]
 exact ⟨x9, ((((((((c1).trans c2).trans c3).trans c4).trans c5).trans c6).trans c7).trans c8).trans c9⟩
theorem head_st (C : Lim Tryz.prog O ro okS c) (L : O.Law) {w : Own} {h : H} {f b8 cp8 : Nat} {s : ByteArray} {F : FD} {v0 v1 v2 v3 v4 v5 v6 : Value} (x0 : FB O ro w h f s F v0 v1 v2 v3 v4 v5 v6) (ns : List Nat) (hlen : ns.length = 9) (y0 : Bx O ro w h (101, 5) b8 (ns.map niv)) (t : Env) (t0 : t 0 = .pointer (some ⟨f, 0, none⟩)) (t3 : t 3 = .slice (some ⟨b8, 0, some 1⟩) 9 cp8) :
 okE c (cSeq (cReg (R54_17 O Tryz.prog ro)) (cSeq (cReg (R54_18 O Tryz.prog ro)) (cSeq (cReg (R54_19 O Tryz.prog ro)) (cSeq (cReg (R54_20 O Tryz.prog ro)) (cSeq (cReg (R54_21 O Tryz.prog ro)) (cSeq (cReg (R54_22 O Tryz.prog ro)) (cSeq (cReg (R54_23 O Tryz.prog ro)) (cSeq (cReg (R54_24 O Tryz.prog ro)) (cReg (R54_25 O Tryz.prog ro)))))))))) (t, h) (fun e t' h' => e = .normal /\ FB O ro w h' f s { F with hd := hrH F.hd.bin ns } v0 v1 v2 v3 v4 v5 v6 /\ Ch O (fun u => u = (1, 1000)) w h w h') := by
 have gi : ∀ (h' : H), Bx O ro w h' (101, 5) b8 (ns.map niv) -> ∀ i, i < 9 -> O.cell h' b8 i = some (.int .i64 (ns.getD i 0 : Nat)) := by
  intro h' y i hi
  refine y.get i _ ?_
  rw [List.getElem?_map, List.getElem?_eq_getElem (by omega)]
  simp [niv, List.getD_eq_getElem?_getD, List.getElem?_eq_getElem (show i < ns.length by omega)]
 obtain ⟨⟨bn, o1, o2, o3, o4, o5, o6, o7, o8, o9⟩, R, ds, nx, os, bs, rs, lf, rt⟩ := F
 exact head_st0 C L bn o1 o2 o3 o4 o5 o6 o7 o8 o9 _ _ _ _ _ _ _ _ _ R ds nx os bs rs lf rt (ns.map niv) x0 y0 (fun h' y => gi h' y 0 (by omega)) (fun h' y => gi h' y 1 (by omega)) (fun h' y => gi h' y 2 (by omega)) (fun h' y => gi h' y 3 (by omega)) (fun h' y => gi h' y 4 (by omega)) (fun h' y => gi h' y 5 (by omega)) (fun h' y => gi h' y 6 (by omega)) (fun h' y => gi h' y 7 (by omega)) (fun h' y => gi h' y 8 (by omega)) t t0 t3
theorem head_b (C : Lim Tryz.prog O ro okS c) (L : O.Law) {w : Own} {h : H} {f : Nat} {s : ByteArray} {F : FD} {v0 v1 v2 v3 v4 v5 v6 : Value} (x : FB O ro w h f s F v0 v1 v2 v3 v4 v5 v6) (lo : ro <= O.next h) (hs : s.size <= 1000) (hp : F.R.pos <= s.size) :
 ∃ w' h', c 54 [ptr f] h = some (.tuple #[], h') /\ FB O ro w' h' f s { F with hd := hrH (hrB s F.R) (hrN s F.R), R := hrE s F.R } v0 v1 v2 v3 v4 v5 v6 /\ Ch O (Kc [1] 2) w h w' h' /\ ro <= O.next h' /\ (hrE s F.R).pos <= s.size /\ (∀ n ∈ hrN s F.R, n < 10000) /\ (hrN s F.R).length = 9 := by
 have hrof : ¬ f < ro := by have := x.m.lo; omega
 obtain ⟨h1, hc1, x1, c1⟩ := sign_w C L x hs 97
 have p1 := exS_pos (s := s) (R := F.R) 97 hp
 have k19 : O.cell h1 f 19 = some (.int .i64 (exS s F.R 97).pos) := x1.m.get 19 _ rfl
 have k20 : O.cell h1 f 20 = some (.string s) := x1.m.get 20 _ rfl
 have hby := by_w C h1 s hs (exS s F.R 97).pos
 obtain ⟨B, hB⟩ : ∃ B, B = hrB s F.R := ⟨_, rfl⟩
 have hBe : (byA s (exS s F.R 97).pos == 105) = B := by rw [hB]; rfl
 obtain ⟨pu2, x2, c2⟩ := x1.setH L 0 (by omega) (.bool B) { F.hd with bin := B } rfl
 obtain ⟨h2, hh2⟩ : ∃ h2, h2 = O.put h1 f 0 (.bool B) := ⟨_, rfl⟩
 rw [<- hh2] at pu2 x2 c2
 have k0 : O.cell h2 f 0 = some (.bool B) := x2.m.get 0 _ rfl
 obtain ⟨h3, hc3, x3, c3⟩ := sign_w C L x2 hs (if B = true then 105 else 97)
 obtain ⟨h4, hc4, x4, c4⟩ := sign_w C L x3 hs 103
 obtain ⟨R3, hR3⟩ : ∃ R3, R3 = hrR s F.R := ⟨_, rfl⟩
 have hR3e : exS s (exS s (exS s F.R 97) (if B = true then 105 else 97)) 103 = R3 := by rw [hR3, hB]; rfl
 have p3 : R3.pos <= s.size := by rw [<- hR3e]; exact exS_pos _ (exS_pos _ p1)
 have x4' : FB O ro w h4 f s { F with hd := { F.hd with bin := B }, R := R3 } v0 v1 v2 v3 v4 v5 v6 := by rw [<- hR3e]; exact x4
 have cc4 := (((chR (cs := [1]) c1 2).trans (chR c2 2)).trans (chR c3 2)).trans (chR c4 2)
 have lo4 : ro <= O.next h4 := Nat.le_trans lo cc4.nx
 unfold ptr at hc1 hc3 hc4
 have hc1' : c 105 [Value.pointer (some ⟨f, 0, none⟩), .int .i64 97] h = some (.tuple #[], h1) := hc1
 have hc4' : c 105 [Value.pointer (some ⟨f, 0, none⟩), .int .i64 103] h3 = some (.tuple #[], h4) := hc4
 have key : ∃ v h', c 54 [ptr f] h = some (v, h') /\ (v = .tuple #[] /\ ∃ w', FB O ro w' h' f s { F with hd := hrH (hrB s F.R) (hrN s F.R), R := hrE s F.R } v0 v1 v2 v3 v4 v5 v6 /\ Ch O (Kc [1] 2) w h w' h' /\ ro <= O.next h' /\ (hrE s F.R).pos <= s.size /\ (∀ n ∈ hrN s F.R, n < 10000) /\ (hrN s F.R).length = 9) := by
  refine C.fn (F54_fn O ro) rfl rfl ?_
  unfold F54
  refine okE.seq (okE.flat (fun _ => rfl) ?_)
  simp [R54_0, hc1', thenE, -resE, -resLE, -rvE]
  refine okE.seq (okE.flat (fun _ => rfl) ?_)
  simp [R54_1, k19, k20, hby, thenE, -resE, -resLE, -rvE]
  refine okE.seq (okE.flat (fun _ => rfl) ?_)
  simp [R54_2, hBe, hrof, pu2, thenE, -resE, -resLE, -rvE]
  refine okE.seq (okE.mono (Q := fun e t' h' => e = .normal /\ h' = h3 /\ t' 0 = ptr f) ?_ ?_)
  . cases B with
    | true =>
     have hc3' : c 105 [Value.pointer (some ⟨f, 0, none⟩), .int .i64 105] h2 = some (.tuple #[], h3) := hc3
     refine okE.flat (fun _ => rfl) ?_
     simp [R54_3, R54_5, k0, hc3']
    | false =>
     have hc3' : c 105 [Value.pointer (some ⟨f, 0, none⟩), .int .i64 97] h2 = some (.tuple #[], h3) := hc3
     refine okE.flat (fun _ => rfl) ?_
     simp [R54_3, R54_4, k0, hc3']
  rintro e t g ⟨rfl, rfl, t0⟩
  unfold ptr at t0
  simp only [thenE]
  refine okE.seq (okE.flat (fun _ => rfl) ?_)
  simp [R54_6, t0, hc4', thenE, -resE, -resLE, -rvE]
  refine okE.seq (okE.flat (fun _ => rfl) ?_)
  simp [R54_7, thenE, -resE, -resLE, -rvE]
  refine okE.seq (okE.mono (hr_loop C L hs { F with hd := { F.hd with bin := B }, R := R3 } w h4 x4' lo4 cc4 p3 _ ?_ ?_) ?_)
  . simp [t0]
  . simp
  rintro e t g ⟨rfl, t0, w5, v, t3, x5, sl5, c5, lo5, p5, n5, l5⟩
  simp only at x5 sl5 p5 n5 l5
  unfold ptr at t0
  simp only [thenE]
  obtain ⟨h6, hc6, x6, c6⟩ := sign_w C L x5 hs 10
  have sl6 := sl5.ch L c6 (by simp)
  have hc6' : c 105 [Value.pointer (some ⟨f, 0, none⟩), .int .i64 10] g = some (.tuple #[], h6) := hc6
  obtain ⟨q, hq⟩ : ∃ q, q = hrL s 10 R3 [] := ⟨_, rfl⟩
  rw [<- hq] at x6 sl6 p5 n5 l5
  have hE : hrE s F.R = exS s q.2 10 := by rw [hq, hR3]; rfl
  have hN : hrN s F.R = q.1 ++ List.replicate (9 - q.1.length) 0 := by rw [hq, hR3]; rfl
  have p6 := exS_pos (s := s) (R := q.2) 10 p5
  refine okE.seq (okE.flat (fun _ => rfl) ?_)
  simp [R54_14, t0, hc6', thenE, -resE, -resLE, -rvE]
  refine okE.seq (okE.mono (hr_pad C L _ q.1 n5 w5 h6 x6 sl6 (Nat.le_trans lo5 c6.nx) (c5.trans (chR c6 2)) _ ?_ ?_) ?_)
  . simp [t0]
  . simp [t3]
  rintro e t g ⟨rfl, t0, w7, v7, t3, x7, sl7, c7, lo7⟩
  unfold ptr at t0
  simp only [thenE]
  rw [<- hN] at sl7
  rw [<- hE] at x7 p6
  have hlen : (hrN s F.R).length = 9 := by rw [hN]; simp; omega
  have hlt : ∀ n ∈ hrN s F.R, n < 10000 := by
   rw [hN]
   intro n hn
   rcases List.mem_append.1 hn with hn | hn
   . exact l5 n hn
   . have := List.eq_of_mem_replicate hn; omega
  clear hN
  generalize hrN s F.R = ns at sl7 hlen hlt ⊢
  rw [<- hB]
  obtain ⟨b8, cp8, rfl, y8⟩ := sl7.blk (by omega) 9 (by simp [hlen]) (by omega)
  refine okE.mono (head_st C L x7 ns hlen y8 t t0 t3) ?_
  rintro e t' g' ⟨rfl, x9, c9⟩
  simp
  exact ⟨w7, x9, c7.trans (chR c9 2), Nat.le_trans lo7 c9.nx, p6, hlt, hlen⟩
 obtain ⟨v, h', e1, rfl, w', e2⟩ := key
 exact ⟨w', h', e1, e2⟩
end
end Go.Proofs.YtlakdngplpabdaaGreatDoor
