/- Own work. -/
import Derived.Test.YtlakdngplpabdaaGreatDoorC31
namespace Go.Proofs.YtlakdngplpabdaaGreatDoor
open Go.Vm Go.Proofs
set_option linter.unusedSimpArgs false
set_option linter.unusedVariables false
set_option maxHeartbeats 400000
set_option maxRecDepth 4000
structure WD where
 cs : List (Nat × Nat × CN)
 tx : List ByteArray
 li : List (Option (List Int))
 a : Int
 n : Int
 x : Int
def cC (x : Nat × Nat × CN) : List Value := [.pointer (some ⟨x.1, 0, none⟩), .pointer (some ⟨x.2.1, 0, none⟩)]
theorem rd3_err {X : Net × RS} {R : RS} {q : Nat × Nat} (h : rd3 X R = .error q) : q.1 ≠ 0 := by
 unfold rd3 at h
 by_cases he : R.e = 0
 . rw [if_pos he] at h
   cases ha : arS X.1 with
   | error p =>
    rw [ha] at h
    simp only [Except.error.injEq] at h
    subst h
    simp
   | ok T => rw [ha] at h; simp at h
 . rw [if_neg he] at h
   simp only [Except.error.injEq] at h
   subst h
   exact he
theorem rd_err {s : ByteArray} {q : Nat × Nat} (h : rdS s = .error q) : q.1 ≠ 0 := by
 unfold rdS at h
 by_cases hl : 1000 < s.size
 . rw [if_pos hl] at h
   simp only [Except.error.injEq] at h
   subst h
   simp
 . rw [if_neg hl] at h
   simp only at h
   generalize hdS s ⟨0, 0, 0⟩ = a at h
   generalize hdD a.1 a.2.1 = D at h
   generalize jdS D a.2.2 = R1 at h
   by_cases he : R1.e = 0
   . rw [if_pos he] at h
     exact rd3_err h
   . rw [if_neg he] at h
     simp only [Except.error.injEq] at h
     subst h
     exact he
section
variable {H : Type} {O : HI H} {ro : Nat} {c : CallT H}
def LiR (O : HI H) (ro : Nat) (w : Own) (h : H) (i : Nat) (vi vw : Value) : Option (List Int) -> Prop
 | none => vi = .slice none 0 0 /\ vw = .slice none 0 0
 | some xs => ∃ b b', vi = .slice (some ⟨b, 0, some 1⟩) xs.length (xs.length + 1) /\ vw = .slice (some ⟨b', 0, some 1⟩) xs.length (xs.length + 1) /\ Bx O ro w h (51, i) b (xs.map iv) /\ Bx O ro w h (52, i) b' (xs.map iv)
theorem LiR.ch (L : O.Law) {K : Tag -> Prop} {w w' : Own} {h h' : H} {i : Nat} {vi vw : Value} {l : Option (List Int)} (x : LiR O ro w h i vi vw l) (a : Ch O K w h w' h') (h1 : ¬ K (51, i)) (h2 : ¬ K (52, i)) : LiR O ro w' h' i vi vw l := by
 cases l with
 | none => exact x
 | some xs =>
  obtain ⟨b, b', e1, e2, x1, x2⟩ := x
  exact ⟨b, b', e1, e2, x1.ch L a h1, x2.ch L a h2⟩
structure WI (O : HI H) (ro : Nat) (w : Own) (h : H) (W : Nat) (D : WD) (vc vt vi vw : Value) (vis vws : List Value) : Prop where
 m : Bx O ro w h (50, 1000) W [vc, vt, .slice none 0 0, vi, vw, .int .i64 D.a, .int .i64 D.n, .int .i64 D.x]
 c : Sl O ro w h (50, 0) 2 vc (D.cs.flatMap cC)
 t : Sl O ro w h (50, 1) 1 vt (D.tx.map Value.string)
 i : Sl O ro w h (50, 3) 1 vi vis
 v : Sl O ro w h (50, 4) 1 vw vws
 l1 : vis.length = D.li.length
 l2 : vws.length = D.li.length
 li : ∀ (k : Nat) (h1 : k < D.li.length) (h2 : k < vis.length) (h3 : k < vws.length), LiR O ro w h k vis[k] vws[k] D.li[k]
 cx : ∀ x ∈ D.cs, (∃ v1 v2, XC O ro w h 53 x.1 x.2.2 v1 v2) /\ (∃ vn vr vo, YC O ro w h 54 x.2.1 x.2.2 vn vr vo) /\ COk x.2.2
structure WK (O : HI H) (ro : Nat) (w : Own) (h : H) : Prop where
 g : Gl O w h
 cl : ∀ b, b < O.next h -> 50 <= (w b).1 /\ (w b).1 < 100
 lo : ro <= O.next h
def rt (w w' : Own) (n : Nat) (r : Tag -> Tag) : Own := fun b => if b < n then w b else r (w' b)
theorem al_rt {cs : List Nat} {n : Nat} {w w' : Own} {h h' : H} (cl : ∀ b, b < O.next h -> 50 <= (w b).1 /\ (w b).1 < 100) (a : Ch O (Kc cs n) w h w' h') (hcs : ∀ k ∈ cs, k < 50) (r : Tag -> Tag) : Al O w h (rt w w' (O.next h) r) h' := by
 intro K
 refine ⟨a.nx, fun b hb => by unfold rt; rw [if_pos hb], fun b hb _ => a.fr b hb ?_⟩
 have := cl b hb
 rintro (hk | hk)
 . have := hcs _ hk; omega
 . omega
theorem Bx.rt {K : Tag -> Prop} {w w' : Own} {h h' : H} (cl : ∀ b, b < O.next h -> 50 <= (w b).1 /\ (w b).1 < 100) (a : Ch O K w h w' h') (r : Tag -> Tag) {t : Tag} {b : Nat} {l : List Value} (x : Bx O ro w' h' t b l) (ht : t.1 < 50) : Bx O ro (rt w w' (O.next h) r) h' (r t) b l := by
 refine ⟨?_, x.lo, x.al, x.cell⟩
 unfold YtlakdngplpabdaaGreatDoor.rt
 rw [if_neg, x.tag]
 intro hb
 have h1 := cl b hb
 have h2 := a.ow b hb
 rw [x.tag] at h2
 rw [<- h2] at h1
 omega
theorem Sl.rt {K : Tag -> Prop} {w w' : Own} {h h' : H} (cl : ∀ b, b < O.next h -> 50 <= (w b).1 /\ (w b).1 < 100) (a : Ch O K w h w' h') (r : Tag -> Tag) {t : Tag} {sz : Nat} {v : Value} {l : List Value} (x : Sl O ro w' h' t sz v l) (ht : t.1 < 50) : Sl O ro (YtlakdngplpabdaaGreatDoor.rt w w' (O.next h) r) h' (r t) sz v l := by
 rcases x with x | ⟨b, m, cp, e, ec, el, en, x⟩
 . exact .inl x
 . exact .inr ⟨b, m, cp, e, ec, el, en, x.rt cl a r ht⟩
theorem cl_rt {K : Tag -> Prop} {w w' : Own} {h h' : H} (cl : ∀ b, b < O.next h -> 50 <= (w b).1 /\ (w b).1 < 100) (r : Tag -> Tag) (hr : ∀ t, 50 <= (r t).1 /\ (r t).1 < 100) : ∀ b, b < O.next h' -> 50 <= (rt w w' (O.next h) r b).1 /\ (rt w w' (O.next h) r b).1 < 100 := by
 intro b _
 unfold rt
 split
 . rename_i hb; exact cl b hb
 . exact hr _
theorem WK.al (L : O.Law) {w w' : Own} {h h' : H} (k : WK O ro w h) (a : Al O w h w' h') : ∃ w'', Al O w h w'' h' /\ WK O ro w'' h' := by
 have a' : Al O w h (rt w w' (O.next h) fun _ => (59, 0)) h' := fun K => ⟨(a K).nx, fun b hb => by unfold rt; rw [if_pos hb], fun b hb hk => (a K).fr b hb hk⟩
 exact ⟨_, a', k.g.al' L a', cl_rt (K := fun _ => True) k.cl _ fun _ => by simp, a.lo k.lo⟩
theorem WK.up (L : O.Law) {w w' : Own} {h h' : H} {K : Tag -> Prop} (k : WK O ro w h) (a : Ch O K w h w' h') (hk : ¬ K (60, 0)) (cl : ∀ b, b < O.next h' -> 50 <= (w' b).1 /\ (w' b).1 < 100) : WK O ro w' h' := ⟨k.g.ch L a hk, cl, Nat.le_trans k.lo a.nx⟩
theorem WI.ch (L : O.Law) {K : Tag -> Prop} {w w' : Own} {h h' : H} {W : Nat} {D : WD} {vc vt vi vw : Value} {vis vws : List Value} (x : WI O ro w h W D vc vt vi vw vis vws) (a : Ch O K w h w' h') (hk : ∀ t : Tag, 50 <= t.1 -> t.1 <= 54 -> ¬ K t) : WI O ro w' h' W D vc vt vi vw vis vws := by
 obtain ⟨m, c, t, i, v, l1, l2, li, cx⟩ := x
 refine ⟨m.ch L a (hk _ (by simp) (by simp)), c.ch L a (hk _ (by simp) (by simp)), t.ch L a (hk _ (by simp) (by simp)), i.ch L a (hk _ (by simp) (by simp)), v.ch L a (hk _ (by simp) (by simp)), l1, l2, fun k h1 h2 h3 => (li k h1 h2 h3).ch L a (hk _ (by simp) (by simp)) (hk _ (by simp) (by simp)), fun x hx => ?_⟩
 obtain ⟨⟨v1, v2, x1⟩, ⟨vn, vr, vo, x2⟩, ok⟩ := cx x hx
 exact ⟨⟨v1, v2, x1.m.ch L a (hk _ (by simp) (by simp)), x1.s1.ch L a (hk _ (by simp) (by simp)), x1.s2.ch L a (hk _ (by simp) (by simp))⟩, ⟨vn, vr, vo, x2.m.ch L a (hk _ (by simp) (by simp)), x2.sn.ch L a (hk _ (by simp) (by simp)), x2.sr.ch L a (hk _ (by simp) (by simp)), x2.so.ch L a (hk _ (by simp) (by simp))⟩, ok⟩
theorem WI.al (L : O.Law) {w w' : Own} {h h' : H} {W : Nat} {D : WD} {vc vt vi vw : Value} {vis vws : List Value} (x : WI O ro w h W D vc vt vi vw vis vws) (a : Al O w h w' h') : WI O ro w' h' W D vc vt vi vw vis vws := x.ch L (a fun _ => False) fun _ _ _ => by simp
def r1 (t : Tag) : Tag := if t.1 = 4 then (53, t.2) else (59, 0)
def r2 (t : Tag) : Tag := if t = (1, 14) then (54, 3) else if t.1 = 2 then (54, t.2) else (59, 0)
theorem r1_cl (t : Tag) : 50 <= (r1 t).1 /\ (r1 t).1 < 100 := by unfold r1; split <;> simp
theorem r2_cl (t : Tag) : 50 <= (r2 t).1 /\ (r2 t).1 < 100 := by
 unfold r2; split
 . simp
 . split <;> simp
theorem read_1 (C : Lim Tryz.prog O ro okS c) (L : O.Law) {w : Own} {h : H} (k : WK O ro w h) (s : ByteArray) :
 ∃ v w' h', c 20 [.string s] h = some (v, h') /\ Al O w h w' h' /\ WK O ro w' h' /\ ((∃ q, rdS s = .error q /\ v = .tuple #[.pointer none, fv q.1 q.2]) \/ (∃ N p v1 v2, rdS s = .ok N.ck /\ COk N /\ v = .tuple #[.pointer (some ⟨p, 0, none⟩), fv 0 0] /\ XC O ro w' h' 53 p N v1 v2)) := by
 obtain ⟨p, v, w', h', e1, res, ch, lo'⟩ := read_w C L (w := w) k.lo s
 have al := al_rt (r := r1) k.cl ch (by decide)
 refine ⟨v, _, h', e1, al, ⟨k.g.al' L al, cl_rt (K := fun _ => True) k.cl _ r1_cl, lo'⟩, ?_⟩
 rcases res with ⟨q, e2, e3⟩ | ⟨T, e2, e3, cb⟩
 . exact .inl ⟨q, e2, e3⟩
 . rcases read_q s with ⟨q, f1, _⟩ | ⟨T', f1, _, f3⟩
   . rw [e2] at f1; simp at f1
   . rw [e2] at f1
     simp only [Except.ok.injEq] at f1
     subst f1
     obtain ⟨N, rfl, ok⟩ := f3.cn
     obtain ⟨v1, v2, x⟩ := cb.xc
     exact .inr ⟨N, p, v1, v2, e2, ok, e3, x.m.rt k.cl ch r1 (by simp), x.s1.rt k.cl ch r1 (by simp), x.s2.rt k.cl ch r1 (by simp)⟩
theorem RC.yc {w : Own} {h : H} {p : Nat} {N : CN} (x : RC O ro w h p (toRc N.ck)) : ∃ vn vr vo, Bx O ro w h (2, 1000) p [.int .i64 (N.ni : Nat), .int .i64 (N.las.length : Nat), vn, vr, vo, .int .i64 (N.bad : Nat)] /\ Sl O ro w h (2, 2) 1 vn (nvs (N.las.map (·.1))) /\ Sl O ro w h (1, 14) 1 vr (nvs (N.las.map (·.2))) /\ Sl O ro w h (2, 4) 1 vo (nvs (opsN N)) := by
 obtain ⟨vn, vr, vo, m, s1, s2, s3⟩ := x
 refine ⟨vn, vr, vo, by simpa [toRc, CN.ck] using m, ?_, ?_, ?_⟩
 . simp only [toRc, CN.ck, List.map_map] at s1
   unfold nvs
   rw [List.map_map]
   exact s1
 . simp only [toRc, CN.ck, List.map_map] at s2
   unfold nvs
   rw [List.map_map]
   exact s2
 . have e : ((N.gts.map pII).flatMap gfl).map iv = nvs (opsN N) := by
    unfold nvs opsN
    rw [List.flatMap_map, List.map_flatMap, List.map_flatMap]
    rfl
   simp only [toRc, CN.ck] at s3
   rw [e] at s3
   exact s3
theorem read_2 (C : Lim Tryz.prog O ro okS c) (L : O.Law) {w : Own} {h : H} (k : WK O ro w h) (s : ByteArray) :
 ∃ v w' h', c 21 [.string s] h = some (v, h') /\ Al O w h w' h' /\ WK O ro w' h' /\ ((∃ q, rdS s = .error q /\ v = .tuple #[.pointer none, fv q.1 q.2]) \/ (∃ N p vn vr vo, rdS s = .ok N.ck /\ v = .tuple #[.pointer (some ⟨p, 0, none⟩), fv 0 0] /\ YC O ro w' h' 54 p N vn vr vo)) := by
 obtain ⟨v, h', e1, w', res, ch, lo'⟩ := rr_w C L (w := w) k.lo s
 have al := al_rt (r := r2) k.cl ch (by decide)
 refine ⟨v, _, h', e1, al, ⟨k.g.al' L al, cl_rt (K := fun _ => True) k.cl _ r2_cl, lo'⟩, ?_⟩
 rcases read_q s with ⟨q, f1, f2⟩ | ⟨T', f1, f2, f3⟩
 . rcases res with ⟨q', e2, e3⟩ | ⟨T, p, e2, e3, rc⟩
   . rw [f2] at e2
     simp only [Except.error.injEq] at e2
     subst e2
     exact .inl ⟨q, f1, e3⟩
   . rw [f2] at e2; simp at e2
 . rcases res with ⟨q', e2, e3⟩ | ⟨T, p, e2, e3, rc⟩
   . rw [f2] at e2; simp at e2
   . rw [f2] at e2
     simp only [Except.ok.injEq] at e2
     subst e2
     obtain ⟨N, rfl, ok⟩ := f3.cn
     obtain ⟨vn, vr, vo, m, s1, s2, s3⟩ := rc.yc
     exact .inr ⟨N, p, vn, vr, vo, f1, e3, m.rt k.cl ch r2 (by simp), s1.rt k.cl ch r2 (by simp), s2.rt k.cl ch r2 (by simp), s3.rt k.cl ch r2 (by simp)⟩
end
section
variable {H : Type} {O : HI H} {ro : Nat} {c : CallT H}
theorem appI_big (L : O.Law) {w : Own} {h : H} {t : Tag} {sz bytes : Nat} {v : Value} {l new : List Value} (hro : ro <= O.next h) (x : Sl O ro w h t sz v l) (hsz : 0 < sz) (hn : new.length = sz) (hsize : (l.length + 1) * bytes <= 140737488355328) (hl : l.length < 100000000000) :
 ∃ v' h' w', appI O ro sz bytes v (.slice (some ⟨O.next h, 0, some sz⟩) 1 2) (O.new h new) = some (v', h') /\ Sl O ro w' h' t sz v' (l ++ new) /\ Ch O (fun u => u = t) w h w' h' /\ ro <= O.next h' := by
 have hnew : cellsA O (O.new h new) (O.next h) 0 (1 * sz) = some new := by
  rw [Nat.one_mul]
  exact cellsA_get sz 0 new hn fun i hi => by rw [L.cell_new, if_pos rfl]; simp
 have hne : new ≠ [] := by intro e; subst e; simp at hn; omega
 rcases x with ⟨rfl, rfl⟩ | ⟨b, m, cp, rfl, hcp, el, en, x⟩
 . have hb1 : ¬ ((0 + 1) * bytes > 140737488355328 \/ 0 + 1 > 140737488355328) := by simp at hsize; omega
   refine ⟨.slice (some ⟨O.next h + 1, 0, some sz⟩) 1 0, O.new (O.new h new) new, (w.set (O.next h) t).set (O.next h + 1) t, ?_, ?_, ?_, ?_⟩
   . simp only [appI, hb1, if_false, hnew, true_and, and_self, if_true, L.next_new]
     simp
   . refine .inr ⟨O.next h + 1, 1, 0, rfl, .inl rfl, by simp [hn], by simpa using hne, ?_⟩
     have := Bx.new L (ro := ro) (w.set (O.next h) t) (O.new h new) (by rw [L.next_new]; omega) t new
     rw [L.next_new] at this
     simpa using this
   . have h1 := Ch.new L (fun u => u = t) w h t new
     have h2 := Ch.new L (fun u => u = t) (w.set (O.next h) t) (O.new h new) t new
     rw [L.next_new] at h2
     exact h1.trans h2
   . simp only [L.next_new]; omega
 . have hb1 : ¬ ((m + 1) * bytes > 140737488355328 \/ m + 1 > 140737488355328) := by
    have h1 : m <= l.length := by rw [el]; exact Nat.le_mul_of_pos_right m hsz
    have h2 : (m + 1) * bytes <= (l.length + 1) * bytes := Nat.mul_le_mul_right _ (by omega)
    omega
   have hlt := x.lt L
   have x1 : Bx O ro (w.set (O.next h) t) (O.new h new) t b l := x.ch L (Ch.new L (fun _ => False) w h t new) (by simp)
   have c1 := Ch.new L (fun u => u = t) w h t new
   have hold : cellsA O (O.new h new) b 0 (m * sz) = some l := by rw [<- el]; exact x1.all
   have hbro : ¬ b < ro := by have := x.lo; omega
   rcases hcp with rfl | rfl
   . have nk : O.next (O.kill (O.new h new) b) = O.next h + 1 := by rw [L.next_kill, L.next_new]
     refine ⟨.slice (some ⟨O.next h + 1, 0, some sz⟩) (m + 1) 0, O.new (O.kill (O.new h new) b) (l ++ new), (w.set (O.next h) t).set (O.next h + 1) t, ?_, ?_, ?_, ?_⟩
     . simp only [appI, hb1, if_false, hnew, hbro, x1.al, and_self, if_true, hold, L.next_new]
     . refine .inr ⟨O.next h + 1, m + 1, 0, rfl, .inl rfl, by simp [hn, el, Nat.add_mul], by simp [hne], ?_⟩
       have := Bx.new L (ro := ro) (w.set (O.next h) t) (O.kill (O.new h new) b) (by rw [nk]; omega) t (l ++ new)
       rw [nk] at this
       exact this
     . have c2 := Ch.kill L (K := fun u => u = t) x1 rfl
       have c3 := Ch.new L (fun u => u = t) (w.set (O.next h) t) (O.kill (O.new h new) b) t (l ++ new)
       rw [nk] at c3
       exact (c1.trans c2).trans c3
     . rw [L.next_new, nk]; omega
   . refine ⟨.slice (some ⟨O.next h + 1, 0, some sz⟩) (m + 1) 0, O.new (O.new h new) (l ++ new), (w.set (O.next h) t).set (O.next h + 1) t, ?_, ?_, ?_, ?_⟩
     . simp only [appI, hb1, if_false, hnew, hbro, x1.al, and_self, if_true, hold, L.next_new]
       rw [if_neg (by omega), if_neg (by omega)]
     . refine .inr ⟨O.next h + 1, m + 1, 0, rfl, .inl rfl, by simp [hn, el, Nat.add_mul], by simp [hne], ?_⟩
       have := Bx.new L (ro := ro) (w.set (O.next h) t) (O.new h new) (by rw [L.next_new]; omega) t (l ++ new)
       rw [L.next_new] at this
       exact this
     . have c3 := Ch.new L (fun u => u = t) (w.set (O.next h) t) (O.new h new) t (l ++ new)
       rw [L.next_new] at c3
       exact c1.trans c3
     . simp only [L.next_new]; omega
def r50 (t : Tag) : Tag := if 50 <= t.1 /\ t.1 < 100 then t else (59, 0)
theorem r50_cl (t : Tag) : 50 <= (r50 t).1 /\ (r50 t).1 < 100 := by
 unfold r50; split
 . assumption
 . simp
theorem nrm_ch {K : Tag -> Prop} {w w' : Own} {h h' : H} (a : Ch O K w h w' h') : Ch O K w h (rt w w' (O.next h) r50) h' := ⟨a.nx, fun b hb => by unfold rt; rw [if_pos hb], a.fr⟩
theorem nrm_bx {K : Tag -> Prop} {w w' : Own} {h h' : H} (a : Ch O K w h w' h') {t : Tag} {b : Nat} {l : List Value} (x : Bx O ro w' h' t b l) (ht : 50 <= t.1 /\ t.1 < 100) : Bx O ro (rt w w' (O.next h) r50) h' t b l := by
 refine ⟨?_, x.lo, x.al, x.cell⟩
 unfold YtlakdngplpabdaaGreatDoor.rt
 split
 . rename_i hb; rw [<- a.ow b hb]; exact x.tag
 . rw [x.tag]; unfold r50; rw [if_pos ht]
theorem nrm_sl {K : Tag -> Prop} {w w' : Own} {h h' : H} (a : Ch O K w h w' h') {t : Tag} {sz : Nat} {v : Value} {l : List Value} (x : Sl O ro w' h' t sz v l) (ht : 50 <= t.1 /\ t.1 < 100) : Sl O ro (rt w w' (O.next h) r50) h' t sz v l := by
 rcases x with x | ⟨b, m, cp, e, ec, el, en, x⟩
 . exact .inl x
 . exact .inr ⟨b, m, cp, e, ec, el, en, nrm_bx a x ht⟩
def Kw (u : Tag) : Prop := 50 <= u.1 /\ u.1 <= 52
theorem kw_al {w w' : Own} {h h' : H} (a : Al O w h w' h') : Ch O Kw w h w' h' := a Kw
theorem kw_f {f : Nat} {w w' : Own} {h h' : H} (a : Ch O (fun u => u = (50, f) \/ u = (50, 1000)) w h w' h') : Ch O Kw w h w' h' := a.mono fun t ht => by rcases ht with rfl | rfl <;> simp [Kw]
theorem wapp (L : O.Law) {w : Own} {h : H} (k : WK O ro w h) {W f sz bytes : Nat} {l8 : List Value} {v : Value} (m : Bx O ro w h (50, 1000) W l8) (hf : f ≠ 1000) (hv : l8[f]? = some v) {l new : List Value} (s : Sl O ro w h (50, f) sz v l) (hsz : 0 < sz) (hn : new.length = sz) (hsize : (l.length + 1) * bytes <= 140737488355328) (hl : l.length < 100000000000) :
 ∃ v' h1 w1 h2, O.cell h W f = some v /\ appI O ro sz bytes v (.slice (some ⟨O.next h, 0, some sz⟩) 1 2) (O.new h new) = some (v', h1) /\ (v'.cells = #[v'] /\ isFlat v' = true /\ isTup v' = false) /\ putsA O h1 W f [v'] = some h2 /\ ¬ W < ro /\
  Bx O ro w1 h2 (50, 1000) W (l8.set f v') /\ Sl O ro w1 h2 (50, f) sz v' (l ++ new) /\ Ch O (fun u => u = (50, f) \/ u = (50, 1000)) w h w1 h2 /\ WK O ro w1 h2 := by
 obtain ⟨v', h1, w0, e1, s1, c1, lo1⟩ := appI_big L (bytes := bytes) k.lo s (new := new) hsz hn hsize hl
 have hfl : f < l8.length := by
  by_cases hx : f < l8.length
  . exact hx
  . rw [List.getElem?_eq_none (by omega)] at hv; simp at hv
 have m1 := m.ch L c1 (by simp [hf.symm])
 have hc1 := m1.get f v hv
 have m2 := m1.put L f hfl v'
 have c2 := Ch.put L (K := fun u => u = (50, 1000)) m1 f hfl v' rfl
 have s2 := s1.ch L c2 (by simp [hf])
 have cc : Ch O (fun u => u = (50, f) \/ u = (50, 1000)) w h w0 (O.put h1 W f v') := c1.trans' c2 (fun t ht => .inl ht) (fun t ht => .inr ht)
 refine ⟨v', h1, _, O.put h1 W f v', m.get f v hv, e1, s1.flat, by simp [putsA, hc1], by have := m.lo; omega, nrm_bx cc m2 (by simp), nrm_sl cc s2 (by simp), nrm_ch cc, k.up L (nrm_ch cc) (by simp) (cl_rt (K := fun _ => True) k.cl _ r50_cl)⟩
theorem WI.addC (L : O.Law) {w : Own} {h : H} (k : WK O ro w h) {W : Nat} {D : WD} {vc vt vi vw : Value} {vis vws : List Value} (x : WI O ro w h W D vc vt vi vw vis vws) (y : Nat × Nat × CN) (hy : (∃ v1 v2, XC O ro w h 53 y.1 y.2.2 v1 v2) /\ (∃ vn vr vo, YC O ro w h 54 y.2.1 y.2.2 vn vr vo) /\ COk y.2.2) (hl : D.cs.length < 10000000) :
 ∃ v' h1 w1 h2, O.cell h W 0 = some vc /\ appI O ro 2 16 vc (.slice (some ⟨O.next h, 0, some 2⟩) 1 2) (O.new h (cC y)) = some (v', h1) /\ (v'.cells = #[v'] /\ isFlat v' = true /\ isTup v' = false) /\ putsA O h1 W 0 [v'] = some h2 /\ ¬ W < ro /\ WI O ro w1 h2 W { D with cs := D.cs ++ [y] } v' vt vi vw vis vws /\ WK O ro w1 h2 /\ Ch O Kw w h w1 h2 := by
 have hlen := flat_len cC 2 (fun _ => rfl) D.cs
 obtain ⟨v', h1, w1, h2, a1, a2, a3, a4, a5, m2, s2, cc, k2⟩ := wapp L k x.m (f := 0) (sz := 2) (bytes := 16) (by omega) rfl x.c (new := cC y) (by omega) rfl (by omega) (by omega)
 refine ⟨v', h1, w1, h2, a1, a2, a3, a4, a5, ?_, k2, kw_f cc⟩
 refine ⟨m2, by simpa using s2, x.t.ch L cc (by simp), x.i.ch L cc (by simp), x.v.ch L cc (by simp), x.l1, x.l2, fun j h1 h2 h3 => (x.li j h1 h2 h3).ch L cc (by simp) (by simp), fun z hz => ?_⟩
 have old : ∀ z : Nat × Nat × CN, ((∃ v1 v2, XC O ro w h 53 z.1 z.2.2 v1 v2) /\ (∃ vn vr vo, YC O ro w h 54 z.2.1 z.2.2 vn vr vo) /\ COk z.2.2) -> ((∃ v1 v2, XC O ro w1 h2 53 z.1 z.2.2 v1 v2) /\ (∃ vn vr vo, YC O ro w1 h2 54 z.2.1 z.2.2 vn vr vo) /\ COk z.2.2) := by
  rintro z ⟨⟨v1, v2, x1⟩, ⟨vn, vr, vo, x2⟩, ok⟩
  exact ⟨⟨v1, v2, x1.m.ch L cc (by simp), x1.s1.ch L cc (by simp), x1.s2.ch L cc (by simp)⟩, ⟨vn, vr, vo, x2.m.ch L cc (by simp), x2.sn.ch L cc (by simp), x2.sr.ch L cc (by simp), x2.so.ch L cc (by simp)⟩, ok⟩
 rcases List.mem_append.1 hz with hz | hz
 . exact old z (x.cx z hz)
 . rw [List.mem_singleton.1 hz]; exact old y hy
theorem WI.addT (L : O.Law) {w : Own} {h : H} (k : WK O ro w h) {W : Nat} {D : WD} {vc vt vi vw : Value} {vis vws : List Value} (x : WI O ro w h W D vc vt vi vw vis vws) (y : ByteArray) (hl : D.tx.length < 10000000) :
 ∃ v' h1 w1 h2, O.cell h W 1 = some vt /\ appI O ro 1 16 vt (.slice (some ⟨O.next h, 0, some 1⟩) 1 2) (O.new h [.string y]) = some (v', h1) /\ (v'.cells = #[v'] /\ isFlat v' = true /\ isTup v' = false) /\ putsA O h1 W 1 [v'] = some h2 /\ ¬ W < ro /\ WI O ro w1 h2 W { D with tx := D.tx ++ [y] } vc v' vi vw vis vws /\ WK O ro w1 h2 /\ Ch O Kw w h w1 h2 := by
 obtain ⟨v', h1, w1, h2, a1, a2, a3, a4, a5, m2, s2, cc, k2⟩ := wapp L k x.m (f := 1) (sz := 1) (bytes := 16) (by omega) rfl x.t (new := [.string y]) (by omega) rfl (by simp; omega) (by simp; omega)
 refine ⟨v', h1, w1, h2, a1, a2, a3, a4, a5, ?_, k2, kw_f cc⟩
 refine ⟨m2, x.c.ch L cc (by simp), by simpa using s2, x.i.ch L cc (by simp), x.v.ch L cc (by simp), x.l1, x.l2, fun j h1 h2 h3 => (x.li j h1 h2 h3).ch L cc (by simp) (by simp), fun z hz => ?_⟩
 obtain ⟨⟨v1, v2, x1⟩, ⟨vn, vr, vo, x2⟩, ok⟩ := x.cx z hz
 exact ⟨⟨v1, v2, x1.m.ch L cc (by simp), x1.s1.ch L cc (by simp), x1.s2.ch L cc (by simp)⟩, ⟨vn, vr, vo, x2.m.ch L cc (by simp), x2.sn.ch L cc (by simp), x2.sr.ch L cc (by simp), x2.so.ch L cc (by simp)⟩, ok⟩
def WX (O : HI H) (ro : Nat) (w : Own) (h : H) (W : Nat) (D : WD) : Prop := WK O ro w h /\ ∃ vc vt vi vw vis vws, WI O ro w h W D vc vt vi vw vis vws
theorem WX.al (L : O.Law) {w w' : Own} {h h' : H} {W : Nat} {D : WD} (x : WX O ro w h W D) (a : Al O w h w' h') : ∃ w'', Al O w h w'' h' /\ WX O ro w'' h' W D := by
 obtain ⟨k, vc, vt, vi, vw, vis, vws, x⟩ := x
 obtain ⟨w'', a', k'⟩ := k.al L a
 exact ⟨w'', a', k', _, _, _, _, _, _, x.al L a'⟩
theorem own_2 (L : O.Law) {w : Own} {h : H} (k : WK O ro w h) (x y : Value) (i : Nat) :
 ∃ b w' h', b = O.next h /\ putsA O (O.new h [.int .i64 0, .int .i64 0]) b 0 [x, y] = some h' /\ Bx O ro w' h' (58, i) b [x, y] /\ Al O w h w' h' /\ WK O ro w' h' /\ ¬ b < ro := by
 obtain ⟨b, w', h', hb, e1, y1, al, lo, hro⟩ := loc2 L w h k.lo x y (58, i)
 have al : Al O w h w' h' := al
 refine ⟨b, _, h', hb, e1, nrm_bx (al fun _ => False) y1 (by simp), fun K => nrm_ch (al K), ?_, hro⟩
 exact k.up L (nrm_ch (al fun _ => False)) (by simp) (cl_rt (K := fun _ => True) k.cl _ r50_cl)
attribute [local simp] cSeq cReg reg to mv too onlyIf onlyIfo aMove aNil aFld aLd aInt aPick aLenStr aIdxStr aConv aUn unA ev upd_get isB envOf iA_add iA_sub iA_mul iA_eql iA_neq iA_lss iA_leq iA_gtr iA_geq cIf cRet cSkip okc_some resE resLE rvE aSt vc_int vc_bool vc_agg vc_str vc_ptr vc_sl ft_int ft_bool ft_str ft_ptr ft_sl tp_int tp_bool tp_agg tp_str tp_ptr tp_sl aBuild Instr.fill aCall cExit cBlk outOf ptr undef aNew aBox aIdxArr aLdN aShift aLenSl aIdx aMkSl aApp rangeA aExt aSliceStr aStr strA aPtrNil aBoolEq aAggEq intsA
theorem read_l (C : Lim Tryz.prog O ro okS c) (L : O.Law) {w : Own} {h : H} {W : Nat} {D : WD} (x : WX O ro w h W D) (hl : D.cs.length < 10000000) (s : ByteArray) :
 ∃ w' h' D', c 11 [.pointer (some ⟨W, 0, none⟩), .string s] h = some (.bool true, h') /\ WX O ro w' h' W D' /\ D'.cs.length <= D.cs.length + 1 /\ D'.tx = D.tx /\ D'.li = D.li /\ Ch O Kw w h w' h' := by
 obtain ⟨k, vc, vt, vi, vw, vis, vws, x⟩ := x
 obtain ⟨u1, w1, h1, e1, al1, k1, res1⟩ := read_1 C L k s
 have hres2 : ∀ {w : Own} {h : H}, WK O ro w h -> _ := fun {w h} k => read_2 C L k s
 rcases res1 with ⟨q, f1, rfl⟩ | ⟨N, p, v1, v2, f1, ok, rfl, xc⟩
 ·
  obtain ⟨b6, w2, h2, hb6, e2, y6, al2, k2, hr6⟩ := own_2 L k1 (.int .i64 q.1) (.int .i64 q.2) 0
  obtain ⟨u3, w3, h3, e3, al3, k3, res3⟩ := hres2 k2
  have hu3 : u3 = .tuple #[.pointer none, fv q.1 q.2] := by
   rcases res3 with ⟨q', g1, g2⟩ | ⟨N', p', _, _, _, g1, _⟩
   . rw [f1] at g1; simp only [Except.error.injEq] at g1; rw [g1]; exact g2
   . rw [f1] at g1; simp at g1
  subst hu3
  obtain ⟨b8, w4, h4, hb8, e4, y8, al4, k4, hr8⟩ := own_2 L k3 (.int .i64 q.1) (.int .i64 q.2) 1
  have y6' := (y6.al' L al3).al' L al4
  have hq := rd_err f1
  have hq' : ((q.1 : Int) != 0) = true := by simp; omega
  have l6 : cellsA O h4 b6 0 2 = some [.int .i64 q.1, .int .i64 q.2] := y6'.all
  have l8 : cellsA O h4 b8 0 2 = some [.int .i64 q.1, .int .i64 q.2] := y8.all
  have c6 := y6'.get 0 _ rfl
  refine ⟨w4, h4, D, ?_, ⟨k4, _, _, _, _, _, _, x.al L (((al1.trans al2).trans al3).trans al4)⟩, by omega, rfl, rfl, kw_al (((al1.trans al2).trans al3).trans al4)⟩
  refine C.eq (F11_fn O ro) rfl rfl (okE.flat (fun _ => rfl) ?_)
  simp [F11, R11_0, R11_1, R11_2, R11_3, R11_5, R11_6, e1, fv, <- hb6, hr6, e2, e3, <- hb8, hr8, e4, l6, l8, c6, hq, hq']
 ·
  obtain ⟨b6, w2, h2, hb6, e2, y6, al2, k2, hr6⟩ := own_2 L k1 (.int .i64 0) (.int .i64 0) 0
  obtain ⟨u3, w3, h3, e3, al3, k3, res3⟩ := hres2 k2
  have hu3 : ∃ p' vn vr vo, u3 = .tuple #[.pointer (some ⟨p', 0, none⟩), fv 0 0] /\ YC O ro w3 h3 54 p' N vn vr vo := by
   rcases res3 with ⟨q', g1, g2⟩ | ⟨N', p', vn, vr, vo, g1, g2, g3⟩
   . rw [f1] at g1; simp at g1
   . rw [f1] at g1
     simp only [Except.ok.injEq] at g1
     have : N = N' := by
      obtain ⟨a1, a2, a3, a4⟩ := N
      obtain ⟨b1, b2, b3, b4⟩ := N'
      simp only [CN.ck, CkT.mk.injEq] at g1
      obtain ⟨i1, i2, i3, i4⟩ := g1
      have j2 : a2 = b2 := by
       have inj : Function.Injective pI := by
        rintro ⟨x, y⟩ ⟨x', y'⟩ hh
        simp only [pI, Prod.mk.injEq] at hh
        simp only [Prod.mk.injEq]
        omega
       exact (List.map_inj_right fun x y h => inj h).1 i2
      have j3 : a3 = b3 := by
       have inj : Function.Injective pII := by
        rintro ⟨x, y⟩ ⟨x', y'⟩ hh
        simp only [pII, Prod.mk.injEq] at hh
        simp only [Prod.mk.injEq]
        omega
       exact (List.map_inj_right fun x y h => inj h).1 i3
      rw [i1, j2, j3, show a4 = b4 by omega]
     subst this
     exact ⟨p', vn, vr, vo, g2, g3⟩
  obtain ⟨p', vn, vr, vo, rfl, yc⟩ := hu3
  obtain ⟨b8, w4, h4, hb8, e4, y8, al4, k4, hr8⟩ := own_2 L k3 (.int .i64 0) (.int .i64 0) 1
  have y6' := (y6.al' L al3).al' L al4
  have l6 : cellsA O h4 b6 0 2 = some [.int .i64 0, .int .i64 0] := y6'.all
  have l8 : cellsA O h4 b8 0 2 = some [.int .i64 0, .int .i64 0] := y8.all
  have c6 := y6'.get 0 _ rfl
  have x4 := x.al L (((al1.trans al2).trans al3).trans al4)
  have xc4 := ((xc.al L al2).al L al3).al L al4
  have yc4 := yc.al L al4
  obtain ⟨v', h5, w5, h6, a1, a2, a3, a4, a5, x6, k6, c6'⟩ := x4.addC L k4 (p, p', N) ⟨⟨_, _, xc4⟩, ⟨_, _, _, yc4⟩, ok⟩ hl
  have a2' : appI O ro 2 16 vc (.slice (some ⟨O.next h4, 0, some 2⟩) 1 2) (O.new h4 [.pointer (some ⟨p, 0, none⟩), .pointer (some ⟨p', 0, none⟩)]) = some (v', h5) := a2
  refine ⟨w5, h6, { D with cs := D.cs ++ [(p, p', N)] }, ?_, ⟨k6, _, _, _, _, _, _, x6⟩, by simp, rfl, rfl, (kw_al (((al1.trans al2).trans al3).trans al4)).trans c6'⟩
  refine C.eq (F11_fn O ro) rfl rfl (okE.flat (fun _ => rfl) ?_)
  simp [F11, R11_0, R11_1, R11_2, R11_3, R11_5, R11_7, R11_9, R11_10, e1, fv, <- hb6, hr6, e2, e3, <- hb8, hr8, e4, l6, l8, c6, a1, List.zipIdx, List.range_succ, a2', a3.1, a3.2.1, a3.2.2, a4, a5]
end
end Go.Proofs.YtlakdngplpabdaaGreatDoor
