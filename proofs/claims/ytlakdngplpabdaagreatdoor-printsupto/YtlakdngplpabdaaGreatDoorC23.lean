/- Own work. -/
import Derived.Test.YtlakdngplpabdaaGreatDoorC22
namespace Go.Proofs.YtlakdngplpabdaaGreatDoor
open Go.Vm Go.Proofs
set_option linter.unusedSimpArgs false
set_option linter.unusedVariables false
set_option maxHeartbeats 1000000
structure RcT where
 ni : Nat
 nl : Nat
 next : List Int
 reset : List Nat
 ops : List Int
 bad : Int
def crP (F : FD) (ord : List Nat) (k : Nat) : List Int := if stS ord (gN F.left k) < stS ord (gN F.right k) then [stS ord (gN F.right k), stS ord (gN F.left k)] else [stS ord (gN F.left k), stS ord (gN F.right k)]
def crL (F : FD) : Nat -> List Nat -> List Int -> Except Nat (List Nat × List Int)
 | 0, ord, ops => .ok (ord, ops)
 | m + 1, ord, ops =>
  if fsL ord F F.left.length 0 < 0 then .error (wtL ord F F.left.length 0)
  else crL F m (ord ++ [gN F.defs (F.hd.nin + F.hd.nla + (fsL ord F F.left.length 0).toNat) / 2]) (ops ++ crP F ord (fsL ord F F.left.length 0).toNat)
def crO (F : FD) : List Nat := (List.range (F.hd.nin + F.hd.nla)).map fun i => gN F.defs i / 2
def crS (F : FD) : Except Nat RcT :=
 match crL F F.left.length (crO F) [] with
 | .error q => .error q
 | .ok (ord, ops) => .ok ⟨F.hd.nin, F.hd.nla, (List.range F.hd.nla).map fun j => stS ord (gN F.next j), F.resets, ops, if F.hd.nbs = 1 then stS ord (gN F.bads 0) else stS ord (gN F.outs 0)⟩
theorem fsL_lt (ord : List Nat) (F : FD) : ∀ (n k : Nat), fsL ord F n k = -1 \/ ((k : Int) <= fsL ord F n k /\ fsL ord F n k < k + n) := by
 intro n
 induction n with
 | zero => intro k; left; rfl
 | succ n ih =>
  intro k
  simp only [fsL]
  split
  . right; omega
  . rcases ih (k + 1) with h | h
    . left; exact h
    . right; omega
attribute [local simp] cSeq cReg reg to mv too onlyIf onlyIfo aMove aNil aFld aLd aInt aPick aLenStr aIdxStr aConv aUn unA ev upd_get isB envOf iA_add iA_sub iA_mul iA_eql iA_neq iA_lss iA_leq iA_gtr iA_geq cIf cRet cSkip okc_some resE resLE rvE aSt vc_int vc_bool vc_agg vc_str vc_ptr vc_sl ft_int ft_bool ft_str ft_ptr ft_sl tp_int tp_bool tp_agg tp_str tp_ptr tp_sl aBuild Instr.fill aCall cExit cBlk outOf ptr undef aNew aBox aIdxArr aLdN aShift shiftA aLenSl aIdx aMkSl aApp rangeA aExt
section
variable {H : Type} {O : HI H} {ro : Nat} {c : CallT H}
theorem appI_two (L : O.Law) {w : Own} {h : H} {t : Tag} {v : Value} {l new : List Value} (hro : ro <= O.next h) (x : Sl O ro w h t 1 v l) (hn : new.length = 2) (hl : l.length < 1000000) :
 ∃ v' h' w', appI O ro 1 8 v (.slice (some ⟨O.next h, 0, some 1⟩) 2 3) (O.new h new) = some (v', h') /\ Sl O ro w' h' t 1 v' (l ++ new) /\ Ch O (fun u => u = t) w h w' h' /\ ro <= O.next h' := by
 have hnew : cellsA O (O.new h new) (O.next h) 0 (2 * 1) = some new :=
  cellsA_get 2 0 new hn fun i hi => by rw [L.cell_new, if_pos rfl]; simp
 have hne : new ≠ [] := by intro e; subst e; simp at hn
 rcases x with ⟨rfl, rfl⟩ | ⟨b, m, cp, rfl, hcp, el, en, x⟩
 . have hb1 : ¬ ((0 + 2) * 8 > 140737488355328 \/ 0 + 2 > 140737488355328) := by omega
   refine ⟨.slice (some ⟨O.next h + 1, 0, some 1⟩) 2 0, O.new (O.new h new) new, (w.set (O.next h) t).set (O.next h + 1) t, ?_, ?_, ?_, ?_⟩
   . simp only [appI, hb1, if_false, hnew, true_and, and_self, if_true, L.next_new]
     simp
   . refine .inr ⟨O.next h + 1, 2, 0, rfl, .inl rfl, by simp [hn], by simpa using hne, ?_⟩
     have := Bx.new L (ro := ro) (w.set (O.next h) t) (O.new h new) (by rw [L.next_new]; omega) t new
     rw [L.next_new] at this
     simpa using this
   . have h1 := Ch.new L (fun u => u = t) w h t new
     have h2 := Ch.new L (fun u => u = t) (w.set (O.next h) t) (O.new h new) t new
     rw [L.next_new] at h2
     exact h1.trans h2
   . simp only [L.next_new]; omega
 . have hb1 : ¬ ((m + 2) * 8 > 140737488355328 \/ m + 2 > 140737488355328) := by omega
   have x1 : Bx O ro (w.set (O.next h) t) (O.new h new) t b l := x.ch L (Ch.new L (fun _ => False) w h t new) (by simp)
   have c1 := Ch.new L (fun u => u = t) w h t new
   have hold : cellsA O (O.new h new) b 0 (m * 1) = some l := by rw [<- el]; exact x1.all
   have hbro : ¬ b < ro := by have := x.lo; omega
   rcases hcp with rfl | rfl
   . have nk : O.next (O.kill (O.new h new) b) = O.next h + 1 := by rw [L.next_kill, L.next_new]
     refine ⟨.slice (some ⟨O.next h + 1, 0, some 1⟩) (m + 2) 0, O.new (O.kill (O.new h new) b) (l ++ new), (w.set (O.next h) t).set (O.next h + 1) t, ?_, ?_, ?_, ?_⟩
     . simp only [appI, hb1, if_false, hnew, hbro, x1.al, and_self, if_true, hold, L.next_new]
     . refine .inr ⟨O.next h + 1, m + 2, 0, rfl, .inl rfl, by simp [hn, el], by simp [hne], ?_⟩
       have := Bx.new L (ro := ro) (w.set (O.next h) t) (O.kill (O.new h new) b) (by rw [nk]; omega) t (l ++ new)
       rw [nk] at this
       exact this
     . have c2 := Ch.kill L (K := fun u => u = t) x1 rfl
       have c3 := Ch.new L (fun u => u = t) (w.set (O.next h) t) (O.kill (O.new h new) b) t (l ++ new)
       rw [nk] at c3
       exact (c1.trans c2).trans c3
     . rw [L.next_new, nk]; omega
   . refine ⟨.slice (some ⟨O.next h + 1, 0, some 1⟩) (m + 2) 0, O.new (O.new h new) (l ++ new), (w.set (O.next h) t).set (O.next h + 1) t, ?_, ?_, ?_, ?_⟩
     . simp only [appI, hb1, if_false, hnew, hbro, x1.al, and_self, if_true, hold, L.next_new]
       rw [if_neg (by omega), if_neg (by omega)]
     . refine .inr ⟨O.next h + 1, m + 2, 0, rfl, .inl rfl, by simp [hn, el], by simp [hne], ?_⟩
       have := Bx.new L (ro := ro) (w.set (O.next h) t) (O.new h new) (by rw [L.next_new]; omega) t (l ++ new)
       rw [L.next_new] at this
       exact this
     . have c3 := Ch.new L (fun u => u = t) (w.set (O.next h) t) (O.new h new) t (l ++ new)
       rw [L.next_new] at c3
       exact c1.trans c3
     . simp only [L.next_new]; omega
structure RB2 (O : HI H) (ro : Nat) (w : Own) (h : H) (p : Nat) (D : HR) (vr : Value) (next ops : List Int) (bad : Int) : Prop where
 ex : ∃ vn vo, Bx O ro w h (2, 1000) p [.int .i64 D.nin, .int .i64 D.nla, vn, vr, vo, .int .i64 bad] /\ Sl O ro w h (2, 2) 1 vn (next.map iv) /\ Sl O ro w h (2, 4) 1 vo (ops.map iv)
theorem RB2.ch (L : O.Law) {K : Tag -> Prop} {w w' : Own} {h h' : H} {p : Nat} {D : HR} {vr : Value} {next ops : List Int} {bad : Int} (x : RB2 O ro w h p D vr next ops bad) (a : Ch O K w h w' h') (hk : ∀ o, ¬ K (2, o)) : RB2 O ro w' h' p D vr next ops bad := by
 obtain ⟨vn, vo, m, s1, s2⟩ := x.ex
 exact ⟨vn, vo, m.ch L a (hk _), s1.ch L a (hk _), s2.ch L a (hk _)⟩
theorem RB2.appO (L : O.Law) {w : Own} {h : H} {p : Nat} {D : HR} {vr : Value} {next ops : List Int} {bad : Int} (x : RB2 O ro w h p D vr next ops bad) (lo : ro <= O.next h) (a b : Int) (hl : ops.length <= 100000) :
 ∃ v v' h1 w1, O.cell h p 4 = some v /\ appI O ro 1 8 v (.slice (some ⟨O.next h, 0, some 1⟩) 2 3) (O.new h [.int .i64 a, .int .i64 b]) = some (v', h1) /\ (v'.cells = #[v'] /\ isFlat v' = true /\ isTup v' = false) /\ O.cell h1 p 4 = some v /\ ¬ p < ro /\
  RB2 O ro w1 (O.put h1 p 4 v') p D vr next (ops ++ [a, b]) bad /\ Ch O (Kc [2] 0) w h w1 (O.put h1 p 4 v') /\ ro <= O.next (O.put h1 p 4 v') := by
 obtain ⟨vn, vo, m, s1, s2⟩ := x.ex
 obtain ⟨v', h1, w1, e1, e2, c1, lo1⟩ := appI_two L lo s2 (new := [.int .i64 a, .int .i64 b]) rfl (by simp; omega)
 have m1 := m.ch L c1 (by simp)
 have m2 := m1.put L 4 (by simp) v'
 have c2 := Ch.put L (K := fun u => u = (2, 1000)) m1 4 (by simp) v' rfl
 refine ⟨vo, v', h1, w1, m.get 4 _ rfl, e1, e2.flat, m1.get 4 _ rfl, by have := m.lo; omega, ⟨vn, v', m2, (s1.ch L c1 (by simp)).ch L c2 (by simp), ?_⟩, (Kc.one c1 (.inl (List.mem_singleton.2 rfl))).trans (Kc.one c2 (.inl (List.mem_singleton.2 rfl))), by rw [L.next_put]; exact lo1⟩
 have := e2.ch L c2 (by simp)
 simpa [iv] using this
theorem RB2.appN (L : O.Law) {w : Own} {h : H} {p : Nat} {D : HR} {vr : Value} {next ops : List Int} {bad : Int} (x : RB2 O ro w h p D vr next ops bad) (lo : ro <= O.next h) (a : Int) (hl : next.length <= 10000) :
 ∃ v v' h1 w1, O.cell h p 2 = some v /\ appI O ro 1 8 v (.slice (some ⟨O.next h, 0, some 1⟩) 1 2) (O.new h [.int .i64 a]) = some (v', h1) /\ (v'.cells = #[v'] /\ isFlat v' = true /\ isTup v' = false) /\ O.cell h1 p 2 = some v /\ ¬ p < ro /\
  RB2 O ro w1 (O.put h1 p 2 v') p D vr (next ++ [a]) ops bad /\ Ch O (Kc [2] 0) w h w1 (O.put h1 p 2 v') /\ ro <= O.next (O.put h1 p 2 v') := by
 obtain ⟨vn, vo, m, s1, s2⟩ := x.ex
 obtain ⟨v', h1, w1, e1, e2, c1, lo1⟩ := appI_one L (bytes := 8) lo s1 (new := [.int .i64 a]) (by omega) rfl (by simp; omega) (by simp; omega)
 have m1 := m.ch L c1 (by simp)
 have m2 := m1.put L 2 (by simp) v'
 have c2 := Ch.put L (K := fun u => u = (2, 1000)) m1 2 (by simp) v' rfl
 refine ⟨vn, v', h1, w1, m.get 2 _ rfl, e1, e2.flat, m1.get 2 _ rfl, by have := m.lo; omega, ⟨v', vo, m2, ?_, (s2.ch L c1 (by simp)).ch L c2 (by simp)⟩, (Kc.one c1 (.inl (List.mem_singleton.2 rfl))).trans (Kc.one c2 (.inl (List.mem_singleton.2 rfl))), by rw [L.next_put]; exact lo1⟩
 have := e2.ch L c2 (by simp)
 simpa [iv] using this
structure CrI (O : HI H) (ro : Nat) (w0 : Own) (h0 : H) (f p b : Nat) (s : ByteArray) (F : FD) (v0 v1 v2 v3 v4 v5 v6 : Value) (w : Own) (h : H) (next ops : List Int) (bad : Int) (v : Value) (ord : List Nat) : Prop where
 fb : FB O ro w h f s F v0 v1 v2 v3 v4 v5 v6
 rb : RB2 O ro w h p F.hd v4 next ops bad
 lb : Bx O ro w h (101, 0) b [.int .i64 0, .int .i64 0]
 sl : Sl O ro w h (3, 0) 1 v (ord.map niv)
 ch : Ch O (Kc [2, 3] 2) w0 h0 w h
 lo : ro <= O.next h
theorem cr_base (C : Lim Tryz.prog O ro okS c) (L : O.Law) {w0 : Own} {h0 : H} {f p b : Nat} {s : ByteArray} {F : FD} {v0 v1 v2 v3 v4 v5 v6 : Value} (ok : FOk F) (w : Own) (h : H) (t : Env) (x : CrI O ro w0 h0 f p b s F v0 v1 v2 v3 v4 v5 v6 w h [] [] 0 (.slice none 0 0) []) (t0 : t 0 = .pointer (some ⟨f, 0, none⟩)) (t3 : t 3 = .pointer (some ⟨b, 0, none⟩)) (t4 : t 4 = .pointer (some ⟨p, 0, none⟩)) (t5 : t 5 = .slice none 0 0) (t6 : t 6 = .int .i64 ((F.hd.nin + F.hd.nla : Nat) : Int)) (t7 : t 7 = .int .i64 0) :
 okE c (cBlk 0 (cLoop (W60_0 O Tryz.prog ro))) (t, h) (fun e t' h' => e = .normal /\ t' 0 = .pointer (some ⟨f, 0, none⟩) /\ t' 3 = .pointer (some ⟨b, 0, none⟩) /\ t' 4 = .pointer (some ⟨p, 0, none⟩) /\ t' 6 = .int .i64 ((F.hd.nin + F.hd.nla : Nat) : Int) /\ ∃ w' v, t' 5 = v /\ CrI O ro w0 h0 f p b s F v0 v1 v2 v3 v4 v5 v6 w' h' [] [] 0 v (crO F)) := by
 have hn := ok.n
 have hz := ok.z
 have l0 := flat_len Us.cells 2 (fun _ => rfl) F.defs
 obtain ⟨M, hM⟩ : ∃ M, M = F.hd.nin + F.hd.nla := ⟨_, rfl⟩
 rw [<- hM] at t6 ⊢
 refine okE.blk ?_
 refine okE.loop (fun m t g => ∃ j w' v, CrI O ro w0 h0 f p b s F v0 v1 v2 v3 v4 v5 v6 w' g [] [] 0 v ((List.range j).map fun i => gN F.defs i / 2) /\ t 0 = .pointer (some ⟨f, 0, none⟩) /\ t 3 = .pointer (some ⟨b, 0, none⟩) /\ t 4 = .pointer (some ⟨p, 0, none⟩) /\ t 5 = v /\ t 6 = .int .i64 (M : Nat) /\ t 7 = .int .i64 (j : Nat) /\ j + m = M + 1 /\ 0 < m) ?_ (M + 1) _ _ ⟨0, w, _, x, t0, t3, t4, t5, t6, t7, by omega, by omega⟩
 intro m t g hI
 obtain ⟨j, w', v, x', t0, t3, t4, t5, t6, t7, hj, hm⟩ := hI
 have k10 := x'.fb.m.get 10 _ rfl
 by_cases hlt : j < M
 . obtain ⟨b0, c0, hv0, y0⟩ := x'.fb.s0.blk (by omega) F.defs.length l0 (by omega)
   obtain ⟨g0, s0, _⟩ := us_at y0 ok.d j (by omega)
   have q1 := iA_quo2 (gN F.defs j) (by omega)
   obtain ⟨u, hu⟩ : ∃ u, u = gN F.defs j / 2 := ⟨_, rfl⟩
   rw [<- hu] at q1
   obtain ⟨v', h5, w5, e5, sl5, c5, lo5⟩ := appI_one L (bytes := 8) x'.lo x'.sl (new := [.int .i64 (u : Nat)]) (by omega) rfl (by simp; omega) (by simp; omega)
   obtain ⟨q, hq⟩ : ∃ q, q = j + 1 := ⟨_, rfl⟩
   have hw : IntKind.i64.wrap ((j : Int) + 1) = (q : Int) := by rw [wrap_id (by omega) (by omega)]; omega
   have hlt' : (j : Int) < M := by omega
   have hd1 : (j : Int) < F.defs.length := by omega
   have hd2 : j < F.defs.length := by omega
   rw [hv0] at k10
   have xx : CrI O ro w0 h0 f p b s F v0 v1 v2 v3 v4 v5 v6 w5 h5 [] [] 0 v' ((List.range q).map fun i => gN F.defs i / 2) :=
    ⟨x'.fb.ch L c5 (by simp), x'.rb.ch L c5 (by simp), x'.lb.ch L c5 (by simp), by rw [hq, List.range_succ]; simpa [niv, hu] using sl5, x'.ch.trans (Kc.one c5 (.inl (by simp))), lo5⟩
   refine okE.flat (fun _ => rfl) ?_
   simp [W60_0, R60_5, R60_7, R60_6, t0, t3, t4, t5, t6, t7, hlt, hlt', k10, hd1, hd2, g0, q1, List.zipIdx, List.range_succ, e5, hw]
   exact ⟨m - 1, by omega, q, w5, v', xx, rfl, rfl, by omega, by omega⟩
 . have hlt' : ¬ (j : Int) < M := by omega
   have hjM : j = F.hd.nin + F.hd.nla := by omega
   refine okE.flat (fun _ => rfl) ?_
   simp [W60_0, R60_5, t0, t3, t4, t5, t6, t7, hlt, hlt']
   rw [hjM] at x'
   exact ⟨w', x'⟩
end
section
variable {H : Type} {O : HI H} {ro : Nat} {c : CallT H}
def CrP (O : HI H) (ro : Nat) (w0 : Own) (h0 : H) (f p b : Nat) (s : ByteArray) (F : FD) (v0 v1 v2 v3 v4 v5 v6 : Value) : Except Nat (List Nat × List Int) -> Exit -> Env -> H -> Prop
 | .error q, e, t, h => e = .ret /\ t 2 = .pointer none /\ t 3 = .pointer (some ⟨b, 0, none⟩) /\ ∃ w, Bx O ro w h (101, 0) b [.int .i64 12, .int .i64 (q : Nat)] /\ Ch O (Kc [2, 3] 2) w0 h0 w h /\ ro <= O.next h
 | .ok (ord, ops), e, t, h => e = .normal /\ t 0 = .pointer (some ⟨f, 0, none⟩) /\ t 3 = .pointer (some ⟨b, 0, none⟩) /\ t 4 = .pointer (some ⟨p, 0, none⟩) /\ ∃ w v, t 5 = v /\ CrI O ro w0 h0 f p b s F v0 v1 v2 v3 v4 v5 v6 w h [] ops 0 v ord /\ ord.length <= 10000
theorem cr_gates (C : Lim Tryz.prog O ro okS c) (L : O.Law) {w0 : Own} {h0 : H} {f p b : Nat} {s : ByteArray} {F : FD} {v0 v1 v2 v3 v4 v5 v6 : Value} (ok : FOk F) (w : Own) (h : H) (t : Env) (v : Value) (ord : List Nat) (E : Except Nat (List Nat × List Int)) (x : CrI O ro w0 h0 f p b s F v0 v1 v2 v3 v4 v5 v6 w h [] [] 0 v ord) (t0 : t 0 = .pointer (some ⟨f, 0, none⟩)) (t3 : t 3 = .pointer (some ⟨b, 0, none⟩)) (t4 : t 4 = .pointer (some ⟨p, 0, none⟩)) (t5 : t 5 = v) (t6 : t 6 = .int .i64 ((F.hd.nin + F.hd.nla : Nat) : Int)) (ho : ord.length = F.hd.nin + F.hd.nla) (hE : crL F F.left.length ord [] = E) :
 okE c (cBlk 2 (cLoop (W60_1 O Tryz.prog ro))) (t, h) (CrP O ro w0 h0 f p b s F v0 v1 v2 v3 v4 v5 v6 E) := by
 have hn := ok.n
 have hz := ok.z
 have hm := ok.m
 have l0 := flat_len Us.cells 2 (fun _ => rfl) F.defs
 have l5 := flat_len Us.cells 2 (fun _ => rfl) F.left
 have l6 := flat_len Us.cells 2 (fun _ => rfl) F.right
 obtain ⟨M, hM⟩ : ∃ M, M = F.hd.nin + F.hd.nla := ⟨_, rfl⟩
 rw [<- hM] at t6 ho hn
 refine okE.blk ?_
 refine okE.loop (fun m t g => ∃ w' v ord ops, CrI O ro w0 h0 f p b s F v0 v1 v2 v3 v4 v5 v6 w' g [] ops 0 v ord /\ t 0 = .pointer (some ⟨f, 0, none⟩) /\ t 3 = .pointer (some ⟨b, 0, none⟩) /\ t 4 = .pointer (some ⟨p, 0, none⟩) /\ t 5 = v /\ t 6 = .int .i64 (M : Nat) /\ ord.length + m = F.defs.length + 1 /\ 0 < m /\ ops.length <= 2 * ord.length /\ crL F (m - 1) ord ops = E) ?_ (F.left.length + 1) _ _ ⟨w, v, ord, [], x, t0, t3, t4, t5, t6, by omega, by omega, by simp, hE⟩
 intro m t g hI
 obtain ⟨w', v, ord, ops, x', t0, t3, t4, t5, t6, hj, hm', hops, hfin⟩ := hI
 have k10 := x'.fb.m.get 10 _ rfl
 have k15 := x'.fb.m.get 15 _ rfl
 have k16 := x'.fb.m.get 16 _ rfl
 obtain ⟨av, cv, hv⟩ := x'.sl.len (by omega) ord.length (by simp)
 obtain ⟨a0, c0, hv0'⟩ := x'.fb.s0.len (by omega) F.defs.length l0
 by_cases hlt : ord.length < F.defs.length
 . obtain ⟨m', rfl⟩ : ∃ m', m = m' + 2 := ⟨m - 2, by omega⟩
   simp only [Nat.add_one_sub_one, crL] at hfin
   obtain ⟨b0, c0, hv0, y0⟩ := x'.fb.s0.blk (by omega) F.defs.length l0 (by omega)
   have hfs := fs_b C x'.fb ok x'.sl (by omega)
   have hlt' : (ord.length : Int) < F.defs.length := by omega
   have hran := fsL_lt ord F F.left.length 0
   by_cases hneg : fsL ord F F.left.length 0 < 0
   . rw [if_pos hneg] at hfin
     obtain ⟨w2, h2, hc2, c2, lo2⟩ := wt_b C L x'.fb ok x'.lo x'.sl (by omega)
     have lb2 := x'.lb.ch L (c2 fun _ => False) (by simp)
     generalize wtL ord F F.left.length 0 = q at hc2 hfin
     obtain ⟨h6, e6, z6, c6⟩ := Bx.over L (K := fun u => u = (101, 0)) (new := [.int .i64 12, .int .i64 (q : Nat)]) rfl lb2 rfl
     have hrob : ¬ b < ro := by have := lb2.lo; omega
     subst hfin
     generalize fsL ord F F.left.length 0 = r at hfs hneg
     rw [hv0] at k10
     have hlv : t 5 = .slice av ord.length cv := by rw [t5, hv]
     rw [hv] at hfs hc2
     refine okE.flat (fun _ => rfl) ?_
     simp [W60_1, R60_8, R60_9, R60_10, R60_11, t0, t3, t4, hlv, t6, k10, hlt, hlt', hfs, hneg, hc2, List.zipIdx, hrob, e6, CrP]
     exact ⟨w2, z6, (x'.ch.trans (c2 _)).trans (Kc.one c6 (.inr (by simp))), Nat.le_trans lo2 c6.nx⟩
   . rw [if_neg hneg] at hfin
     obtain ⟨r, hr⟩ : ∃ r : Nat, fsL ord F F.left.length 0 = (r : Int) := ⟨(fsL ord F F.left.length 0).toNat, by omega⟩
     rw [hr] at hfin hfs hneg hran
     simp only [Int.toNat_natCast] at hfin
     have hrl : r < F.left.length := by omega
     obtain ⟨b5, c5, hv5, y5⟩ := x'.fb.s5.blk (by omega) F.left.length l5 (by omega)
     obtain ⟨b6, c6, hv6, y6⟩ := x'.fb.s6.blk (by omega) F.right.length l6 (by omega)
     obtain ⟨Q, hQ⟩ : ∃ Q, Q = M + r := ⟨_, rfl⟩
     obtain ⟨g5, s5, _⟩ := us_at y5 ok.l r hrl
     obtain ⟨g6, s6, _⟩ := us_at y6 ok.r r (by omega)
     have a5 := st_b C x'.sl (by omega) _ s5
     have a6 := st_b C x'.sl (by omega) _ s6
     rw [hv] at hfs a5 a6
     have hlv : t 5 = .slice av ord.length cv := by rw [t5, hv]
     rw [<- hM, <- hQ] at hfin
     have hw2 : IntKind.i64.wrap ((M : Int) + (r : Int)) = (Q : Int) := by rw [wrap_id (by omega) (by omega)]; omega
     have hQ1 : (Q : Int) < F.defs.length := by omega
     have hQ2 : Q < F.defs.length := by omega
     have hr1 : (r : Int) < F.left.length := by omega
     have hr3 : (r : Int) < F.right.length := by omega
     have hr2 : r < F.right.length := by omega
     have hr0 : ¬ (r : Int) < 0 := by omega
     obtain ⟨pa, pb, hab⟩ : ∃ pa pb, crP F ord r = [pa, pb] /\ (if stS ord (gN F.left r) < stS ord (gN F.right r) then pa = stS ord (gN F.right r) /\ pb = stS ord (gN F.left r) else pa = stS ord (gN F.left r) /\ pb = stS ord (gN F.right r)) := by
      unfold crP
      split
      . exact ⟨_, _, rfl, rfl, rfl⟩
      . exact ⟨_, _, rfl, rfl, rfl⟩
     rw [hab.1] at hfin
     obtain ⟨vo, vo', h1, w1, ko, eo, fo, ko', hrop, rb1, ch1, lo1⟩ := x'.rb.appO L x'.lo pa pb (by omega)
     generalize hh2 : O.put h1 p 4 vo' = h2 at *
     have fb2 := x'.fb.ch L ch1 (by simp [Kc])
     have lb2 := x'.lb.ch L ch1 (by simp [Kc])
     have sl2 := x'.sl.ch L ch1 (by simp [Kc])
     have y02 := y0.ch L ch1 (by simp [Kc])
     have k102 := fb2.m.get 10 _ rfl
     obtain ⟨g0, s0, _⟩ := us_at y02 ok.d Q hQ2
     have q1 := iA_quo2 (gN F.defs Q) (by omega)
     obtain ⟨u, hu⟩ : ∃ u, u = gN F.defs Q / 2 := ⟨_, rfl⟩
     rw [<- hu] at q1 hfin
     obtain ⟨v', h5, w5, e5, sl5, ch5, lo5⟩ := appI_one L (bytes := 8) lo1 sl2 (new := [.int .i64 (u : Nat)]) (by omega) rfl (by simp; omega) (by simp; omega)
     have xx : CrI O ro w0 h0 f p b s F v0 v1 v2 v3 v4 v5 v6 w5 h5 [] (ops ++ [pa, pb]) 0 v' (ord ++ [u]) :=
      ⟨fb2.ch L ch5 (by simp), rb1.ch L ch5 (by simp), lb2.ch L ch5 (by simp), by simpa [niv] using sl5, (x'.ch.trans (Kc.mono ch1 (by decide) (by omega))).trans (Kc.one ch5 (.inl (by simp))), lo5⟩
     rw [hv] at e5
     rw [hv0] at k10 k102
     rw [hv5] at k15
     rw [hv6] at k16
     have hab2 := hab.2
     generalize stS ord (gN F.left r) = ra at a5 hab2
     generalize stS ord (gN F.right r) = rb at a6 hab2
     have fin : ∃ n', n' < m' + 2 /\ ∃ w6 v6' ord' ops', CrI O ro w0 h0 f p b s F v0 v1 v2 v3 v4 v5 v6 w6 h5 [] ops' 0 v6' ord' /\ v' = v6' /\ ord'.length + n' = F.defs.length + 1 /\ 0 < n' /\ ops'.length <= 2 * ord'.length /\ crL F (n' - 1) ord' ops' = E :=
      ⟨m' + 1, by omega, w5, v', _, _, xx, rfl, by simp; omega, by omega, by simp; omega, hfin⟩
     refine okE.flat (fun _ => rfl) ?_
     by_cases hab3 : ra < rb
     . rw [if_pos hab3] at hab2
       obtain ⟨rfl, rfl⟩ := hab2
       simp [W60_1, R60_8, R60_9, R60_10, R60_12, R60_13, R60_14, R60_15, R60_17, t0, t3, t4, hlv, t6, k10, k15, k16, hlt, hlt', hfs, hr0, hr1, hr2, hr3, hrl, g5, g6, a5, a6, hab3, ko, List.zipIdx, List.range_succ, eo, fo.1, fo.2.1, fo.2.2, ko', hrop, putsA, hh2, k102, hw2, hQ1, hQ2, g0, q1, e5]
       exact fin
     . rw [if_neg hab3] at hab2
       obtain ⟨rfl, rfl⟩ := hab2
       simp [W60_1, R60_8, R60_9, R60_10, R60_12, R60_13, R60_14, R60_16, R60_17, t0, t3, t4, hlv, t6, k10, k15, k16, hlt, hlt', hfs, hr0, hr1, hr2, hr3, hrl, g5, g6, a5, a6, hab3, ko, List.zipIdx, List.range_succ, eo, fo.1, fo.2.1, fo.2.2, ko', hrop, putsA, hh2, k102, hw2, hQ1, hQ2, g0, q1, e5]
       exact fin
 . have hm1 : m = 1 := by omega
   subst hm1
   have hfin2 : Except.ok (ord, ops) = E := hfin
   subst hfin2
   have hlt' : ¬ (ord.length : Int) < F.defs.length := by omega
   have hlv : t 5 = .slice av ord.length cv := by rw [t5, hv]
   rw [hv0'] at k10
   rw [hv] at x'
   refine okE.flat (fun _ => rfl) ?_
   simp [W60_1, R60_8, t0, t3, t4, hlv, t6, k10, hlt, hlt', CrP]
   exact ⟨⟨w', x'⟩, by omega⟩
theorem cr_next (C : Lim Tryz.prog O ro okS c) (L : O.Law) {w0 : Own} {h0 : H} {f p b : Nat} {s : ByteArray} {F : FD} {v0 v1 v2 v3 v4 v5 v6 : Value} (ok : FOk F) (hnl : F.next.length = F.hd.nla) (hns : smallU F.next) (w : Own) (h : H) (t : Env) (v : Value) (ord : List Nat) (ops : List Int) (x : CrI O ro w0 h0 f p b s F v0 v1 v2 v3 v4 v5 v6 w h [] ops 0 v ord) (ho : ord.length <= 10000) (t0 : t 0 = .pointer (some ⟨f, 0, none⟩)) (t3 : t 3 = .pointer (some ⟨b, 0, none⟩)) (t4 : t 4 = .pointer (some ⟨p, 0, none⟩)) (t5 : t 5 = v) (t11 : t 11 = .int .i64 0) :
 okE c (cBlk 4 (cLoop (W60_2 O Tryz.prog ro))) (t, h) (fun e t' h' => e = .normal /\ t' 0 = .pointer (some ⟨f, 0, none⟩) /\ t' 3 = .pointer (some ⟨b, 0, none⟩) /\ t' 4 = .pointer (some ⟨p, 0, none⟩) /\ t' 5 = v /\ ∃ w', CrI O ro w0 h0 f p b s F v0 v1 v2 v3 v4 v5 v6 w' h' ((List.range F.hd.nla).map fun j => stS ord (gN F.next j)) ops 0 v ord) := by
 have hz := ok.z
 have hn := ok.n
 have l1 := flat_len Us.cells 2 (fun _ => rfl) F.next
 refine okE.blk ?_
 refine okE.loop (fun m t g => ∃ j w', CrI O ro w0 h0 f p b s F v0 v1 v2 v3 v4 v5 v6 w' g ((List.range j).map fun i => stS ord (gN F.next i)) ops 0 v ord /\ t 0 = .pointer (some ⟨f, 0, none⟩) /\ t 3 = .pointer (some ⟨b, 0, none⟩) /\ t 4 = .pointer (some ⟨p, 0, none⟩) /\ t 5 = v /\ t 11 = .int .i64 (j : Nat) /\ j + m = F.hd.nla + 1 /\ 0 < m) ?_ (F.hd.nla + 1) _ _ ⟨0, w, x, t0, t3, t4, t5, t11, by omega, by omega⟩
 intro m t g hI
 obtain ⟨j, w', x', t0, t3, t4, t5, t11, hj, hm⟩ := hI
 have k3 := x'.fb.m.get 3 _ rfl
 have k11 := x'.fb.m.get 11 _ rfl
 by_cases hlt : j < F.hd.nla
 . obtain ⟨b1, c1, hv1, y1⟩ := x'.fb.s1.blk (by omega) F.next.length l1 (by omega)
   obtain ⟨g1, s1, _⟩ := us_at y1 hns j (by omega)
   have a1 := st_b C x'.sl ho _ s1
   obtain ⟨r, hr⟩ : ∃ r, r = stS ord (gN F.next j) := ⟨_, rfl⟩
   rw [<- hr] at a1
   obtain ⟨vo, vo', h1, w1, ko, eo, fo, ko', hrop, rb1, ch1, lo1⟩ := x'.rb.appN L x'.lo r (by simp; omega)
   generalize hh2 : O.put h1 p 2 vo' = h2 at *
   obtain ⟨q, hq⟩ : ∃ q, q = j + 1 := ⟨_, rfl⟩
   have hw : IntKind.i64.wrap ((j : Int) + 1) = (q : Int) := by rw [wrap_id (by omega) (by omega)]; omega
   have hlt' : (j : Int) < F.hd.nla := by omega
   have hl1 : (j : Int) < F.next.length := by omega
   have hl2 : j < F.next.length := by omega
   rw [hv1] at k11
   have xx : CrI O ro w0 h0 f p b s F v0 v1 v2 v3 v4 v5 v6 w1 h2 ((List.range q).map fun i => stS ord (gN F.next i)) ops 0 v ord :=
    ⟨x'.fb.ch L ch1 (by simp [Kc]), by rw [hq, List.range_succ]; simpa [hr] using rb1, x'.lb.ch L ch1 (by simp [Kc]), x'.sl.ch L ch1 (by simp [Kc]), x'.ch.trans (Kc.mono ch1 (by decide) (by omega)), lo1⟩
   refine okE.flat (fun _ => rfl) ?_
   simp [W60_2, R60_19, R60_21, R60_22, R60_20, t0, t3, t4, t5, t11, k3, hlt, hlt', k11, hl1, hl2, g1, a1, ko, List.zipIdx, List.range_succ, eo, fo.1, fo.2.1, fo.2.2, ko', hrop, putsA, hh2, hw]
   exact ⟨m - 1, by omega, q, ⟨w1, xx⟩, rfl, by omega, by omega⟩
 . have hlt' : ¬ (j : Int) < F.hd.nla := by omega
   have hjM : j = F.hd.nla := by omega
   refine okE.flat (fun _ => rfl) ?_
   simp [W60_2, R60_19, t0, t3, t4, t5, t11, k3, hlt, hlt']
   rw [hjM] at x'
   exact ⟨w', x'⟩
def RC (O : HI H) (ro : Nat) (w : Own) (h : H) (p : Nat) (T : RcT) : Prop :=
 ∃ vn vr vo, Bx O ro w h (2, 1000) p [.int .i64 (T.ni : Nat), .int .i64 (T.nl : Nat), vn, vr, vo, .int .i64 T.bad] /\ Sl O ro w h (2, 2) 1 vn (T.next.map iv) /\ Sl O ro w h (1, 14) 1 vr (T.reset.map niv) /\ Sl O ro w h (2, 4) 1 vo (T.ops.map iv)
theorem RC.ch (L : O.Law) {K : Tag -> Prop} {w w' : Own} {h h' : H} {p : Nat} {T : RcT} (x : RC O ro w h p T) (a : Ch O K w h w' h') (hk : ∀ o, ¬ K (2, o)) (hk1 : ¬ K (1, 14)) : RC O ro w' h' p T := by
 obtain ⟨vn, vr, vo, m, s1, s2, s3⟩ := x
 exact ⟨vn, vr, vo, m.ch L a (hk _), s1.ch L a (hk _), s2.ch L a hk1, s3.ch L a (hk _)⟩
structure FPr (F : FD) : Prop where
 nl : F.next.length = F.hd.nla
 ns : smallU F.next
 b : F.hd.nbs = 1 -> 0 < F.bads.length /\ smallU F.bads
 o : F.hd.nbs ≠ 1 -> 0 < F.outs.length /\ smallU F.outs
theorem circ_b (C : Lim Tryz.prog O ro okS c) (L : O.Law) {w0 : Own} {h0 : H} {f : Nat} {s : ByteArray} {F : FD} {v0 v1 v2 v3 v4 v5 v6 : Value} (x : FB O ro w0 h0 f s F v0 v1 v2 v3 v4 v5 v6) (lo : ro <= O.next h0) (ok : FOk F) (pr : FPr F) :
 ∃ v w' h', c 60 [.pointer (some ⟨f, 0, none⟩)] h0 = some (v, h') /\ ((∃ q, crS F = .error q /\ v = .tuple #[.pointer none, fv 12 q]) \/ (∃ T p, crS F = .ok T /\ v = .tuple #[.pointer (some ⟨p, 0, none⟩), fv 0 0] /\ RC O ro w' h' p T)) /\ Ch O (Kc [2, 3] 2) w0 h0 w' h' /\ ro <= O.next h' := by
 have hz := ok.z
 have hn := ok.n
 have hnl := pr.nl
 obtain ⟨a4, cp4, rfl⟩ := x.s4.len (by omega) F.resets.length (by simp)
 obtain ⟨b, hb⟩ : ∃ b, b = O.next h0 := ⟨_, rfl⟩
 obtain ⟨h1, hh1⟩ : ∃ h1, h1 = O.new h0 [.int .i64 0, .int .i64 0] := ⟨_, rfl⟩
 obtain ⟨w1, hw1⟩ : ∃ w1, w1 = w0.set b (101, 0) := ⟨_, rfl⟩
 have c1 : ∀ K, Ch O K w0 h0 w1 h1 := fun K => by rw [hh1, hw1, hb]; exact Ch.new L _ _ _ _ _
 have z1 : Bx O ro w1 h1 (101, 0) b [.int .i64 0, .int .i64 0] := by rw [hh1, hw1, hb]; exact Bx.new L _ _ lo _ _
 have lo1 : ro <= O.next h1 := Nat.le_trans lo (c1 fun _ => True).nx
 have hrob : ¬ b < ro := by have := z1.lo; omega
 obtain ⟨p, hp⟩ : ∃ p, p = O.next h1 := ⟨_, rfl⟩
 obtain ⟨h2, hh2⟩ : ∃ h2, h2 = O.new h1 [.int .i64 (F.hd.nin : Nat), .int .i64 (F.hd.nla : Nat), .slice none 0 0, .slice a4 F.resets.length cp4, .slice none 0 0, .int .i64 0] := ⟨_, rfl⟩
 obtain ⟨w2, hw2⟩ : ∃ w2, w2 = w1.set p (2, 1000) := ⟨_, rfl⟩
 have c2 : ∀ K, Ch O K w1 h1 w2 h2 := fun K => by rw [hh2, hw2, hp]; exact Ch.new L _ _ _ _ _
 have y2 : Bx O ro w2 h2 (2, 1000) p [.int .i64 (F.hd.nin : Nat), .int .i64 (F.hd.nla : Nat), .slice none 0 0, .slice a4 F.resets.length cp4, .slice none 0 0, .int .i64 0] := by rw [hh2, hw2, hp]; exact Bx.new L _ _ lo1 _ _
 have lo2 : ro <= O.next h2 := Nat.le_trans lo1 (c2 fun _ => True).nx
 have x1 := x.ch L (c1 fun _ => False) (by simp)
 have x2 := x1.ch L (c2 fun _ => False) (by simp)
 have xx : CrI O ro w0 h0 f p b s F v0 v1 v2 v3 (.slice a4 F.resets.length cp4) v5 v6 w2 h2 [] [] 0 (.slice none 0 0) [] :=
  ⟨x2, ⟨_, _, y2, Sl.nil _ _ _ _, Sl.nil _ _ _ _⟩, z1.ch L (c2 fun _ => False) (by simp), Sl.nil _ _ _ _, (c1 _).trans (c2 _), lo2⟩
 have k2 := x1.m.get 2 _ rfl
 have k3 := x1.m.get 3 _ rfl
 have k14 := x1.m.get 14 _ rfl
 have k22 := x2.m.get 2 _ rfl
 have k32 := x2.m.get 3 _ rfl
 have f4 := x.s4.flat
 obtain ⟨M, hM⟩ : ∃ M, M = F.hd.nin + F.hd.nla := ⟨_, rfl⟩
 have hw3 : IntKind.i64.wrap ((F.hd.nin : Int) + (F.hd.nla : Int)) = (M : Int) := by rw [wrap_id (by omega) (by omega)]; omega
 have key : ∃ v h', c 60 [.pointer (some ⟨f, 0, none⟩)] h0 = some (v, h') /\ ∃ w', ((∃ q, crS F = .error q /\ v = .tuple #[.pointer none, fv 12 q]) \/ (∃ T p, crS F = .ok T /\ v = .tuple #[.pointer (some ⟨p, 0, none⟩), fv 0 0] /\ RC O ro w' h' p T)) /\ Ch O (Kc [2, 3] 2) w0 h0 w' h' /\ ro <= O.next h' := by
  refine C.fn (F60_fn O ro) rfl rfl ?_
  obtain ⟨e0, he0⟩ : ∃ e0, e0 = envOf [.pointer (some ⟨f, 0, none⟩)] := ⟨_, rfl⟩
  have a0 : e0 0 = .pointer (some ⟨f, 0, none⟩) := by subst he0; rfl
  rw [<- he0]
  unfold F60
  refine okE.seq (okE.flat (fun _ => rfl) ?_)
  simp [R60_0, <- hb, <- hh1, thenE, -resE, -resLE, -rvE]
  refine okE.seq (okE.flat (fun _ => rfl) ?_)
  simp [R60_1, a0, k2, k3, k14, f4.1, f4.2.1, f4.2.2, List.zipIdx, <- hp, <- hh2, thenE, -resE, -resLE, -rvE]
  refine okE.seq (okE.flat (fun _ => rfl) ?_)
  simp [R60_2, thenE, -resE, -resLE, -rvE]
  refine okE.seq (okE.flat (fun _ => rfl) ?_)
  simp [R60_3, a0, k22, k32, hw3, thenE, -resE, -resLE, -rvE]
  refine okE.seq (okE.seq (okE.flat (fun _ => rfl) ?_))
  simp [R60_4, thenE, -resE, -resLE, -rvE]
  refine okE.mono (cr_base C L ok w2 h2 _ xx (by simp [a0]) (by simp) (by simp) (by simp) (by simp [hM]) (by simp)) ?_
  rintro e t h3 ⟨rfl, t0, t3, t4, t6, w3, v, t5, x3⟩
  simp only [thenE]
  generalize hE : crL F F.left.length (crO F) [] = E
  refine okE.seq (okE.mono (cr_gates C L ok w3 h3 t v _ E x3 t0 t3 t4 t5 t6 (by simp [crO]) hE) ?_)
  intro e t h4 hq
  cases E with
  | error q =>
   obtain ⟨rfl, t2, t3, w4, z4, c4, lo4⟩ := hq
   have hz4 : cellsA O h4 b 0 2 = some [.int .i64 12, .int .i64 (q : Nat)] := z4.all
   have hcr : crS F = .error q := by unfold crS; rw [hE]
   simp [thenE, t2, t3, load58, hz4, hcr, fv]
   exact ⟨⟨w4, c4⟩, lo4⟩
  | ok oo =>
   obtain ⟨ord, ops⟩ := oo
   obtain ⟨rfl, t0, t3, t4, w4, v, t5, x4, hol⟩ := hq
   simp only [thenE]
   refine okE.seq (okE.seq (okE.flat (fun _ => rfl) ?_))
   simp [R60_18, thenE, -resE, -resLE, -rvE]
   refine okE.mono (cr_next C L ok pr.nl pr.ns w4 h4 _ v ord ops x4 hol (by simp [t0]) (by simp [t3]) (by simp [t4]) (by simp [t5]) (by simp)) ?_
   rintro e t h5 ⟨rfl, t0, t3, t4, t5, w5, x5⟩
   simp only [thenE]
   obtain ⟨vn, vo, y5, sn5, so5⟩ := x5.rb.ex
   have k6 := x5.fb.m.get 6 _ rfl
   have k12 := x5.fb.m.get 12 _ rfl
   have k13 := x5.fb.m.get 13 _ rfl
   have l2 := flat_len Us.cells 2 (fun _ => rfl) F.outs
   have l3 := flat_len Us.cells 2 (fun _ => rfl) F.bads
   have k5 := y5.get 5 _ rfl
   have hrop : ¬ p < ro := by have := y5.lo; omega
   have tail : ∀ (q : Int), crS F = .ok ⟨F.hd.nin, F.hd.nla, (List.range F.hd.nla).map fun j => stS ord (gN F.next j), F.resets, ops, q⟩ -> ∃ h7, putsA O (O.put h5 p 5 (.int .i64 q)) b 0 [.int .i64 0, .int .i64 0] = some h7 /\ cellsA O h7 b 0 2 = some [.int .i64 0, .int .i64 0] /\ ∃ w', ((∃ T p1, crS F = .ok T /\ (p = p1) /\ RC O ro w' h7 p1 T)) /\ Ch O (Kc [2, 3] 2) w0 h0 w' h7 /\ ro <= O.next h7 := by
    intro q hcr
    have y6 := y5.put L 5 (by simp) (.int .i64 q)
    have c6 := Ch.put L (K := fun u => u = (2, 1000)) y5 5 (by simp) (.int .i64 q) rfl
    have z6 := x5.lb.ch L c6 (by simp)
    obtain ⟨h7, e7, z7, c7⟩ := Bx.over L (K := fun u => u = (101, 0)) (new := [.int .i64 0, .int .i64 0]) rfl z6 rfl
    refine ⟨h7, e7, z7.all, w5, ⟨_, p, hcr, rfl, vn, _, vo, y6.ch L c7 (by simp), (sn5.ch L c6 (by simp)).ch L c7 (by simp), (x5.fb.s4.ch L c6 (by simp)).ch L c7 (by simp), (so5.ch L c6 (by simp)).ch L c7 (by simp)⟩, (x5.ch.trans (Kc.one c6 (.inl (by simp)))).trans (Kc.one c7 (.inr (by simp))), ?_⟩
    exact Nat.le_trans (Nat.le_trans x5.lo c6.nx) c7.nx
   by_cases hbs : F.hd.nbs = 1
   . obtain ⟨hb0, hbsm⟩ := pr.b hbs
     obtain ⟨b3, c3, hv3, y3⟩ := x5.fb.s3.blk (by omega) F.bads.length l3 hb0
     obtain ⟨g3, s3, _⟩ := us_at y3 hbsm 0 hb0
     have a3 := st_b C x5.sl hol _ s3
     obtain ⟨h7, e7, z7, rest⟩ := tail (stS ord (gN F.bads 0)) (by unfold crS; rw [hE]; simp only [hbs, if_true])
     simp only [Nat.zero_mul] at g3
     rw [hv3] at k13
     have hbs' : ((F.hd.nbs : Int) == 1) = true := by simp; omega
     have hb0' : (0 : Int) < F.bads.length := by omega
     have hrest := rest
     generalize stS ord (gN F.bads 0) = q at a3 e7
     have e5 : putsA O h5 p 5 [.int .i64 q] = some (O.put h5 p 5 (.int .i64 q)) := by simp [putsA, k5]
     refine okE.flat (fun _ => rfl) ?_
     simp [R60_23, R60_24, R60_26, t0, t3, t4, t5, k6, hbs', hbs, k13, hb0, hb0', g3, a3, hrop, e5, List.zipIdx, hrob, e7, load58, z7, fv]
     obtain ⟨w', ⟨T, p1, cr, rfl, rc⟩, ch, lo⟩ := hrest
     exact ⟨w', ⟨T, cr, rc⟩, ch, lo⟩
   . obtain ⟨hb0, hbsm⟩ := pr.o hbs
     obtain ⟨b2, c2, hv2, y2⟩ := x5.fb.s2.blk (by omega) F.outs.length l2 hb0
     obtain ⟨g3, s3, _⟩ := us_at y2 hbsm 0 hb0
     have a3 := st_b C x5.sl hol _ s3
     obtain ⟨h7, e7, z7, rest⟩ := tail (stS ord (gN F.outs 0)) (by unfold crS; rw [hE]; simp only [hbs, if_false])
     simp only [Nat.zero_mul] at g3
     rw [hv2] at k12
     have hbs' : ((F.hd.nbs : Int) == 1) = false := by simp; omega
     have hb0' : (0 : Int) < F.outs.length := by omega
     have hrest := rest
     generalize stS ord (gN F.outs 0) = q at a3 e7
     have e5 : putsA O h5 p 5 [.int .i64 q] = some (O.put h5 p 5 (.int .i64 q)) := by simp [putsA, k5]
     refine okE.flat (fun _ => rfl) ?_
     simp [R60_23, R60_25, R60_26, t0, t3, t4, t5, k6, hbs', hbs, k12, hb0, hb0', g3, a3, hrop, e5, List.zipIdx, hrob, e7, load58, z7, fv]
     obtain ⟨w', ⟨T, p1, cr, rfl, rc⟩, ch, lo⟩ := hrest
     exact ⟨w', ⟨T, cr, rc⟩, ch, lo⟩
 obtain ⟨v, h', e1, w', e2⟩ := key
 exact ⟨v, w', h', e1, e2⟩
end
section
variable {H : Type} {O : HI H} {ro : Nat} {c : CallT H}
theorem okE.once {F : CodeT H} {t : Env} {h : H} {Q : Exit -> Env -> H -> Prop} (a : okE c F (t, h) (fun e t' h' => e ≠ .normal /\ Q e t' h')) : okE c (cLoop F) (t, h) Q := by
 refine okE.loop (fun n t' h' => t' = t /\ h' = h) ?_ 0 t h ⟨rfl, rfl⟩
 rintro n t' h' ⟨rfl, rfl⟩
 exact okE.mono a fun e t' h' hq => .inr hq
theorem body_e (C : Lim Tryz.prog O ro okS c) {w : Own} {h : H} {f : Nat} {s : ByteArray} {F : FD} (x : FX O ro w h f s F) (he : F.R.e ≠ 0) :
 c 56 [.pointer (some ⟨f, 0, none⟩)] h = some (.tuple #[], h) := by
 obtain ⟨v0, v1, v2, v3, v4, v5, v6, x⟩ := x
 have k2 := x.m.get 2 _ rfl
 have k3 := x.m.get 3 _ rfl
 have k4 := x.m.get 4 _ rfl
 have k6 := x.m.get 6 _ rfl
 have k17 := x.m.get 17 _ rfl
 have he' : ((F.R.e : Int) == 0) = false := by simp; omega
 refine C.eq (F56_fn O ro) rfl rfl ?_
 unfold F56
 refine okE.seq (okE.seq (okE.flat (fun _ => rfl) ?_))
 simp [R56_0, thenE, -resE, -resLE, -rvE]
 refine okE.blk (okE.once (okE.mono (Q := fun e t' h' => e = .exit 0 /\ h' = h /\ t' 0 = .pointer (some ⟨f, 0, none⟩)) (okE.flat (fun _ => rfl) ?_) ?_))
 . by_cases hn : 0 < F.hd.nin
   . have hn' : (0 : Int) < F.hd.nin := by omega
     simp [W56_0, R56_1, k2, hn, hn', k17, he', -resE, -resLE, -rvE]
   . have hn' : ¬ (0 : Int) < F.hd.nin := by omega
     simp [W56_0, R56_1, k2, hn, hn', k17, he', -resE, -resLE, -rvE]
 rintro e t h' ⟨rfl, rfl, t0⟩
 refine ⟨by simp, ?_⟩
 simp only [outOf, thenE, if_true]
 refine okE.seq (okE.seq (okE.flat (fun _ => rfl) ?_))
 simp [R56_8, thenE, -resE, -resLE, -rvE]
 refine okE.blk (okE.once (okE.mono (Q := fun e t' h'' => e = .exit 2 /\ h'' = h' /\ t' 0 = .pointer (some ⟨f, 0, none⟩)) (okE.flat (fun _ => rfl) ?_) ?_))
 . by_cases hn : 0 < F.hd.nla
   . have hn' : (0 : Int) < F.hd.nla := by omega
     simp [W56_1, R56_9, t0, k3, hn, hn', k17, he', -resE, -resLE, -rvE]
   . have hn' : ¬ (0 : Int) < F.hd.nla := by omega
     simp [W56_1, R56_9, t0, k3, hn, hn', k17, he', -resE, -resLE, -rvE]
 rintro e t h'' ⟨rfl, rfl, t0⟩
 refine ⟨by simp, ?_⟩
 simp only [outOf, thenE, if_true]
 refine okE.seq (okE.seq (okE.flat (fun _ => rfl) ?_))
 simp [R56_31, thenE, -resE, -resLE, -rvE]
 refine okE.blk (okE.once (okE.mono (Q := fun e t' h2 => e = .exit 4 /\ h2 = h'' /\ t' 0 = .pointer (some ⟨f, 0, none⟩)) (okE.flat (fun _ => rfl) ?_) ?_))
 . by_cases hn : 0 < F.hd.nou
   . have hn' : (0 : Int) < F.hd.nou := by omega
     simp [W56_2, R56_32, t0, k4, hn, hn', k17, he', -resE, -resLE, -rvE]
   . have hn' : ¬ (0 : Int) < F.hd.nou := by omega
     simp [W56_2, R56_32, t0, k4, hn, hn', k17, he', -resE, -resLE, -rvE]
 rintro e t h2 ⟨rfl, rfl, t0⟩
 refine ⟨by simp, ?_⟩
 simp only [outOf, thenE, if_true]
 refine okE.seq (okE.flat (fun _ => rfl) ?_)
 simp [R56_37, thenE, -resE, -resLE, -rvE]
 refine okE.blk (okE.once (okE.flat (fun _ => rfl) ?_))
 by_cases hn : 0 < F.hd.nbs
 . have hn' : (0 : Int) < F.hd.nbs := by omega
   simp [W56_3, R56_38, t0, k6, hn, hn', k17, he']
 . have hn' : ¬ (0 : Int) < F.hd.nbs := by omega
   simp [W56_3, R56_38, t0, k6, hn, hn', k17, he']
theorem ands_e (C : Lim Tryz.prog O ro okS c) {w : Own} {h : H} {f : Nat} {s : ByteArray} {F : FD} (x : FX O ro w h f s F) (he : F.R.e ≠ 0) :
 c 57 [.pointer (some ⟨f, 0, none⟩)] h = some (.tuple #[], h) := by
 obtain ⟨v0, v1, v2, v3, v4, v5, v6, x⟩ := x
 have k5 := x.m.get 5 _ rfl
 have k17 := x.m.get 17 _ rfl
 have he' : ((F.R.e : Int) == 0) = false := by simp; omega
 refine C.eq (F57_fn O ro) rfl rfl ?_
 unfold F57
 refine okE.seq (okE.flat (fun _ => rfl) ?_)
 simp [R57_0, thenE, -resE, -resLE, -rvE]
 refine okE.blk (okE.once (okE.flat (fun _ => rfl) ?_))
 by_cases hn : 0 < F.hd.nan
 . have hn' : (0 : Int) < F.hd.nan := by omega
   simp [W57_0, R57_1, k5, hn, hn', k17, he']
 . have hn' : ¬ (0 : Int) < F.hd.nan := by omega
   simp [W57_0, R57_1, k5, hn, hn', k17, he']
end
end Go.Proofs.YtlakdngplpabdaaGreatDoor
