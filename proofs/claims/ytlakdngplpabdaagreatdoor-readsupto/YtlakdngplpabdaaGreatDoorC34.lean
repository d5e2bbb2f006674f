/- Own work. -/
import Derived.Test.YtlakdngplpabdaaGreatDoorC33
namespace Go.Proofs.YtlakdngplpabdaaGreatDoor
open Go.Vm Go.Proofs
set_option linter.unusedSimpArgs false
set_option linter.unusedVariables false
set_option maxHeartbeats 3000000
set_option maxRecDepth 4000
attribute [local simp] cSeq cReg reg to mv too onlyIf onlyIfo aMove aNil aFld aLd aInt aPick aLenStr aIdxStr aConv aUn unA ev upd_get isB envOf iA_add iA_sub iA_mul iA_eql iA_neq iA_lss iA_leq iA_gtr iA_geq cIf cRet cSkip okc_some resE resLE rvE aSt vc_int vc_bool vc_agg vc_str vc_ptr vc_sl ft_int ft_bool ft_str ft_ptr ft_sl tp_int tp_bool tp_agg tp_str tp_ptr tp_sl aBuild Instr.fill aCall cExit cBlk outOf ptr undef aNew aBox aIdxArr aLdN aShift aLenSl aIdx aMkSl aApp aExt aSliceStr aStr strA aPtrNil aBoolEq aAggEq intsA aSlNil aMake
section
variable {H : Type} {O : HI H} {ro : Nat} {c : CallT H}
def OwQ (O : HI H) (ro : Nat) (w : Own) (h : H) (W : Nat) (D : WD) (r : Bool) (h' : H) : Prop := ∃ w' D', WX O ro w' h' W D' /\ D'.cs = D.cs /\ D'.tx = D.tx /\ D'.li.length <= D.li.length + 1 /\ liOk D'.li /\ Ch O Kw w h w' h'
theorem owner_17 (C : Lim Tryz.prog O ro okS c) (L : O.Law) {w : Own} {h : H} {W : Nat} {D : WD} (x : WX O ro w h W D) (hl : D.li.length < 1000000000) (ho : liOk D.li) (o : OpT) (hs : o.s.size < 1000000000) (hk : o.k = 17) :
 ∃ r h', c 10 [.pointer (some ⟨W, 0, none⟩), o.val] h = some (.bool r, h') /\ OwQ O ro w h W D r h' := by
 obtain ⟨k, vc, vt, vi, vw, vis, vws, x⟩ := x
 obtain ⟨bo, w1, h1, hbo, hh1, y1, al1, k1, _⟩ := own_n L k o.cells 1
 have hh1' : h1 = O.new h [.int .i64 o.k, .int .i64 o.a, .int .i64 o.b, .int .i64 o.c, .string o.s] := hh1
 have x1 := x.al L al1
 have q0 := y1.get 0 _ rfl
 have q4 := y1.get 4 _ rfl
 have i17 : (o.k == 17) = true := by simpa using hk
 obtain ⟨s, hse⟩ : ∃ s, s = o.s := ⟨_, rfl⟩
 rw [<- hse] at q4 hs
 obtain ⟨b, hb⟩ : ∃ b, b = O.next h1 := ⟨_, rfl⟩
 obtain ⟨h2, hh2⟩ : ∃ h2, h2 = O.new h1 (List.replicate s.size (.int .i64 0)) := ⟨_, rfl⟩
 have al2 : Al O w1 h1 (w1.set b (51, D.li.length)) h2 := fun K => by rw [hh2, hb]; exact Ch.new L _ _ _ _ _
 have y2 : Bx O ro (w1.set b (51, D.li.length)) h2 (51, D.li.length) b (List.replicate s.size (.int .i64 0)) := by rw [hh2, hb]; exact Bx.new L _ _ k1.lo _ _
 have y2' := nrm_bx (al2 fun _ => False) y2 (by simp)
 have al2' : Al O w1 h1 (rt w1 (w1.set b (51, D.li.length)) (O.next h1) r50) h2 := fun K => nrm_ch (al2 K)
 have k2 : WK O ro (rt w1 (w1.set b (51, D.li.length)) (O.next h1) r50) h2 := k1.up L (al2' fun _ => False) (by simp) (cl_rt (K := fun _ => True) k1.cl _ r50_cl)
 obtain ⟨w2, hw2⟩ : ∃ w2, w2 = rt w1 (w1.set b (51, D.li.length)) (O.next h1) r50 := ⟨_, rfl⟩
 rw [<- hw2] at y2' al2' k2
 have y1' := y1.al' L al2'
 have x2 := x1.al L al2'
 have hx0 : (List.replicate s.size (.int .i64 0) : List Value) = (xsL s 0).map iv := by simp [xsL, iv]
 rw [hx0] at y2'
 have hr := range_i s.size
 have n1 : (s.size : Int) <= 140737488355328 := by omega
 have n2 : (s.size : Int) * 8 <= 140737488355328 := by omega
 have n3 : (0 : Int) <= s.size := by omega
 have key : ∃ v h', c 10 [.pointer (some ⟨W, 0, none⟩), o.val] h = some (v, h') /\ (v = .bool true /\ OwQ O ro w h W D true h') := by
  refine C.fn (F10_fn O ro) rfl rfl ?_
  unfold F10 OpT.val
  refine okE.seq (okE.flat (fun _ => rfl) ?_)
  simp [R10_0, <- hbo, <- hh1', thenE, -resE, -resLE, -rvE]
  refine okE.seq (okE.seq (okE.flat (fun _ => rfl) ?_))
  simp [R10_1, q0, thenE, -resE, -resLE, -rvE]
  refine okE.blk (okE.seq (okE.flat (fun _ => rfl) ?_))
  simp [R10_3, i17, thenE, -resE, -resLE, -rvE]
  refine okE.cond true (by simp) ?_
  simp only [if_true]
  refine okE.seq (okE.flat (fun _ => rfl) ?_)
  simp [R10_4, q4, n1, n2, n3, hr, <- hb, <- hh2, thenE, -resE, -resLE, -rvE]
  refine okE.seq (okE.seq (okE.flat (fun _ => rfl) ?_))
  simp [R10_5, thenE, -resE, -resLE, -rvE]
  refine okE.mono (own_fill C L hs hse.symm y1' h2 y2' (Ch.refl _ _ _) rfl _ (W := W) (by simp) (by simp) (by simp) (by simp)) ?_
  rintro e t h3 ⟨rfl, t0, t5, y3, c3, hnx⟩
  simp only [thenE]
  have k3 : WK O ro w2 h3 := k2.up L c3 (by simp) (fun q hq => k2.cl q (by rw [hnx] at hq; exact hq))
  have x3 : WI O ro w2 h3 W D vc vt vi vw vis vws := by
   obtain ⟨a1, a2, a3, a4, a5, a6, a7, a8, a9⟩ := x2
   refine ⟨a1.ch L c3 (by simp), a2.ch L c3 (by simp), a3.ch L c3 (by simp), a4.ch L c3 (by simp), a5.ch L c3 (by simp), a6, a7, fun j j1 j2 j3 => (a8 j j1 j2 j3).ch L c3 (by simp; omega) (by simp), fun z hz => ?_⟩
   obtain ⟨⟨v1, v2, z1⟩, ⟨vn, vr, vo, z2⟩, ok⟩ := a9 z hz
   exact ⟨⟨v1, v2, z1.m.ch L c3 (by simp), z1.s1.ch L c3 (by simp), z1.s2.ch L c3 (by simp)⟩, ⟨vn, vr, vo, z2.m.ch L c3 (by simp), z2.sn.ch L c3 (by simp), z2.sr.ch L c3 (by simp), z2.so.ch L c3 (by simp)⟩, ok⟩
  have hxl : (xsL s s.size).length = s.size := xsL_len s s.size (Nat.le_refl _)
  obtain ⟨w4, h4, e4, x4, c4'⟩ := keep_l C L k3 x3 hl (xsL s s.size) (by omega) b y3
  rw [hxl] at e4
  refine okE.flat (fun _ => rfl) ?_
  simp [R10_9, t0, t5, e4, thenE, -resE, -resLE, -rvE]
  refine okE.flat (fun _ => rfl) ?_
  simp [R10_26]
  refine ⟨w4, _, x4, rfl, rfl, by simp, ?_, ((kw_al (al1.trans al2')).trans (c3.mono fun t ht => by rw [ht]; simp [Kw])).trans c4'⟩
  intro xs hxs
  simp only at hxs
  rcases List.mem_append.1 hxs with hxs | hxs
  . exact ho xs hxs
  . simp at hxs
    rw [hxs]; omega
 obtain ⟨v, h', e1, rfl, e2⟩ := key
 exact ⟨true, h', e1, e2⟩
theorem owner_l (C : Lim Tryz.prog O ro okS c) (L : O.Law) {w : Own} {h : H} {W : Nat} {D : WD} (x : WX O ro w h W D) (hl : D.li.length < 1000000000) (ho : liOk D.li) (o : OpT) (hs : o.s.size < 1000000000) (ha : I64 o.a) (hb : I64 o.b) :
 ∃ r h', c 10 [.pointer (some ⟨W, 0, none⟩), o.val] h = some (.bool r, h') /\ OwQ O ro w h W D r h' := by
 by_cases c17 : o.k = 17
 . exact owner_17 C L x hl ho o hs c17
 have i17 : (o.k == 17) = false := by simpa using c17
 obtain ⟨k, vc, vt, vi, vw, vis, vws, x⟩ := x
 obtain ⟨bo, w1, h1, hbo, hh1, y1, al1, k1, _⟩ := own_n L k o.cells 1
 have hh1' : h1 = O.new h [.int .i64 o.k, .int .i64 o.a, .int .i64 o.b, .int .i64 o.c, .string o.s] := hh1
 have x1 := x.al L al1
 have q0 := y1.get 0 _ rfl
 have q1 := y1.get 1 _ rfl
 have q2 := y1.get 2 _ rfl
 have q3 := y1.get 3 _ rfl
 have same : OwQ O ro w h W D true h1 /\ OwQ O ro w h W D false h1 := ⟨⟨w1, D, ⟨k1, _, _, _, _, _, _, x1⟩, rfl, rfl, by omega, ho, kw_al al1⟩, ⟨w1, D, ⟨k1, _, _, _, _, _, _, x1⟩, rfl, rfl, by omega, ho, kw_al al1⟩⟩
 by_cases c18 : o.k = 18
 . have i18 : (o.k == 18) = true := by simpa using c18
   have k3 := x1.m.get 3 _ rfl
   have l1 := x1.l1
   have l2 := x1.l2
   by_cases h0 : 0 < vis.length
   . obtain ⟨bi, cpi, hvi, yi⟩ := x1.i.blk (by omega) vis.length (by simp) h0
     obtain ⟨j, hj, ej⟩ := pick_b C h1 o.a ha vis.length h0
     have h0' : (0 : Int) < vis.length := by omega
     have hj' : (j : Int) < vis.length := by omega
     rw [hvi] at k3
     have ci := yi.get j vis[j] (by simp [hj])
     cases hD : D.li[j]'(by omega) with
     | none =>
      have hli := x1.li j (by omega) hj (by omega)
      rw [hD] at hli
      rw [hli.1] at ci
      refine ⟨true, h1, ?_, same.1⟩
      refine C.eq (F10_fn O ro) rfl rfl (okE.seq (okE.flat (fun _ => rfl) ?_))
      simp [OpT.val, R10_0, <- hbo, <- hh1', thenE, -resE, -resLE, -rvE]
      refine okE.seq (okE.seq (okE.flat (fun _ => rfl) ?_))
      simp [R10_1, q0, thenE, -resE, -resLE, -rvE]
      refine okE.blk (okE.seq (okE.flat (fun _ => rfl) ?_))
      simp [R10_3, i17, thenE, -resE, -resLE, -rvE]
      refine okE.cond false (by simp) ?_
      simp only [Bool.false_eq_true, if_false]
      refine okE.flat (fun _ => rfl) ?_
      simp [R10_10, R10_11, R10_12, R10_13, i18, k3, h0, h0', q1, ej, hj, hj', ci, thenE, -resE, -resLE, -rvE]
      refine okE.flat (fun _ => rfl) ?_
      simp [R10_26]
     | some xs =>
      by_cases hx0 : 0 < xs.length
      . obtain ⟨i, hi, ei⟩ := pick_b C h1 o.b hb xs.length hx0
        obtain ⟨bb, bb', g1, g2, e1, e2, p1, p2, hr1, hr2, t1, t2, x4, k4, c4'⟩ := x1.wrt L k1 j (by omega) xs hD i hi o.c
        have hx0' : (0 : Int) < xs.length := by omega
        have hi' : (i : Int) < xs.length := by omega
        have cv := yi.get j _ e1
        have m1 := t1 (by simp) (by simp) x1.m
        have k4' := m1.get 4 _ rfl
        obtain ⟨bw, cpw, hvw, yw⟩ := x1.v.blk (by omega) vws.length (by simp) (by omega)
        rw [hvw] at k4'
        have yw1 := t1 (by simp) (by simp) yw
        have cw := yw1.get j _ e2
        have q3' := (t1 (by simp) (by simp) y1).get 3 _ rfl
        have hj2 : j < vws.length := by omega
        have hj2' : (j : Int) < vws.length := by omega
        refine ⟨true, g2, ?_, w1, _, ⟨k4, _, _, _, _, _, _, x4⟩, rfl, rfl, by simp, ?_, (kw_al al1).trans c4'⟩
        . refine C.eq (F10_fn O ro) rfl rfl (okE.seq (okE.flat (fun _ => rfl) ?_))
          simp [OpT.val, R10_0, <- hbo, <- hh1', thenE, -resE, -resLE, -rvE]
          refine okE.seq (okE.seq (okE.flat (fun _ => rfl) ?_))
          simp [R10_1, q0, thenE, -resE, -resLE, -rvE]
          refine okE.blk (okE.seq (okE.flat (fun _ => rfl) ?_))
          simp [R10_3, i17, thenE, -resE, -resLE, -rvE]
          refine okE.cond false (by simp) ?_
          simp only [Bool.false_eq_true, if_false]
          refine okE.flat (fun _ => rfl) ?_
          simp [R10_10, R10_11, R10_12, R10_13, R10_14, R10_15, R10_16, i18, k3, h0, h0', q1, q2, q3, ej, hj, hj', cv, hx0, hx0', ei, hi, hi', hr1, p1, k4', hj2, hj2', cw, q3', hr2, p2, thenE, -resE, -resLE, -rvE]
          refine okE.flat (fun _ => rfl) ?_
          simp [R10_26]
        . intro ys hys
          simp only at hys
          rcases List.mem_or_eq_of_mem_set hys with hys | hys
          . exact ho ys hys
          . simp only [Option.some.injEq] at hys
            rw [hys, List.length_set]
            exact ho xs (by rw [<- hD]; exact List.getElem_mem _)
      . have hx0' : ¬ (0 : Int) < xs.length := by omega
        have hli := x1.li j (by omega) hj (by omega)
        rw [hD] at hli
        obtain ⟨b1, b2, e1, e2, _⟩ := hli
        rw [e1] at ci
        refine ⟨true, h1, ?_, same.1⟩
        refine C.eq (F10_fn O ro) rfl rfl (okE.seq (okE.flat (fun _ => rfl) ?_))
        simp [OpT.val, R10_0, <- hbo, <- hh1', thenE, -resE, -resLE, -rvE]
        refine okE.seq (okE.seq (okE.flat (fun _ => rfl) ?_))
        simp [R10_1, q0, thenE, -resE, -resLE, -rvE]
        refine okE.blk (okE.seq (okE.flat (fun _ => rfl) ?_))
        simp [R10_3, i17, thenE, -resE, -resLE, -rvE]
        refine okE.cond false (by simp) ?_
        simp only [Bool.false_eq_true, if_false]
        refine okE.flat (fun _ => rfl) ?_
        simp [R10_10, R10_11, R10_12, R10_13, i18, k3, h0, h0', q1, ej, hj, hj', ci, hx0, hx0', thenE, -resE, -resLE, -rvE]
        refine okE.flat (fun _ => rfl) ?_
        simp [R10_26]
   . have h0' : ¬ (0 : Int) < vis.length := by omega
     obtain ⟨ai, cpi, hvi⟩ := x1.i.len (by omega) vis.length (by simp)
     rw [hvi] at k3
     refine ⟨true, h1, ?_, same.1⟩
     refine C.eq (F10_fn O ro) rfl rfl (okE.seq (okE.flat (fun _ => rfl) ?_))
     simp [OpT.val, R10_0, <- hbo, <- hh1', thenE, -resE, -resLE, -rvE]
     refine okE.seq (okE.seq (okE.flat (fun _ => rfl) ?_))
     simp [R10_1, q0, thenE, -resE, -resLE, -rvE]
     refine okE.blk (okE.seq (okE.flat (fun _ => rfl) ?_))
     simp [R10_3, i17, thenE, -resE, -resLE, -rvE]
     refine okE.cond false (by simp) ?_
     simp only [Bool.false_eq_true, if_false]
     refine okE.flat (fun _ => rfl) ?_
     simp [R10_10, R10_11, i18, k3, h0, h0', thenE, -resE, -resLE, -rvE]
     refine okE.flat (fun _ => rfl) ?_
     simp [R10_26]
 have i18 : (o.k == 18) = false := by simpa using c18
 by_cases c19 : o.k = 19
 . have i19 : (o.k == 19) = true := by simpa using c19
   obtain ⟨g1, p1, hr1, t1, x2, k2, d1⟩ := x1.setN L k1 (D' := { D with a := o.a }) 5 (by omega) o.a rfl rfl rfl rfl
   obtain ⟨g2, p2, hr2, t2, x3, k3, d2⟩ := x2.setN L k2 (D' := { D with a := o.a, n := o.b }) 6 (by omega) o.b rfl rfl rfl rfl
   obtain ⟨g3, p3, hr3, t3, x4, k4, d3⟩ := x3.setN L k3 (D' := { D with a := o.a, n := o.b, x := o.c }) 7 (by omega) o.c rfl rfl rfl rfl
   have y2 := t1 (by simp) y1
   have y3 := t2 (by simp) y2
   have q2' := y2.get 2 _ rfl
   have q3' := y3.get 3 _ rfl
   refine ⟨true, g3, ?_, w1, _, ⟨k4, _, _, _, _, _, _, x4⟩, rfl, rfl, by simp, ho, (((kw_al al1).trans d1).trans d2).trans d3⟩
   refine C.eq (F10_fn O ro) rfl rfl (okE.seq (okE.flat (fun _ => rfl) ?_))
   simp [OpT.val, R10_0, <- hbo, <- hh1', thenE, -resE, -resLE, -rvE]
   refine okE.seq (okE.seq (okE.flat (fun _ => rfl) ?_))
   simp [R10_1, q0, thenE, -resE, -resLE, -rvE]
   refine okE.blk (okE.seq (okE.flat (fun _ => rfl) ?_))
   simp [R10_3, i17, thenE, -resE, -resLE, -rvE]
   refine okE.cond false (by simp) ?_
   simp only [Bool.false_eq_true, if_false]
   refine okE.flat (fun _ => rfl) ?_
   simp [R10_10, R10_17, R10_18, R10_19, R10_20, i18, i19, q1, hr1, p1, q2', p2, q3', p3, thenE, -resE, -resLE, -rvE]
   refine okE.flat (fun _ => rfl) ?_
   simp [R10_26]
 have i19 : (o.k == 19) = false := by simpa using c19
 by_cases c20 : o.k = 20
 . have i20 : (o.k == 20) = true := by simpa using c20
   obtain ⟨v3, g1, g2, v4, g3, g4, w', a1, a2, a3, a4, a5, b1, b2, b3, b4, x4, k4, c4'⟩ := x1.addL L k1 none (.slice none 0 0) (.slice none 0 0) ⟨rfl, rfl⟩ hl
   refine ⟨true, g4, ?_, w', _, ⟨k4, _, _, _, _, _, _, x4⟩, rfl, rfl, by simp, ?_, (kw_al al1).trans c4'⟩
   . refine C.eq (F10_fn O ro) rfl rfl (okE.seq (okE.flat (fun _ => rfl) ?_))
     simp [OpT.val, R10_0, <- hbo, <- hh1', thenE, -resE, -resLE, -rvE]
     refine okE.seq (okE.seq (okE.flat (fun _ => rfl) ?_))
     simp [R10_1, q0, thenE, -resE, -resLE, -rvE]
     refine okE.blk (okE.seq (okE.flat (fun _ => rfl) ?_))
     simp [R10_3, i17, thenE, -resE, -resLE, -rvE]
     refine okE.cond false (by simp) ?_
     simp only [Bool.false_eq_true, if_false]
     refine okE.flat (fun _ => rfl) ?_
     simp [R10_10, R10_17, R10_21, R10_22, R10_23, R10_24, R10_25, i18, i19, i20, a1, List.zipIdx, List.range_succ, rangeA, a2, a3.1, a3.2.1, a3.2.2, a4, a5, b1, b2, b3.1, b3.2.1, b3.2.2, b4, thenE, -resE, -resLE, -rvE]
     refine okE.flat (fun _ => rfl) ?_
     simp [R10_26]
   . intro ys hys
     simp only at hys
     rcases List.mem_append.1 hys with hys | hys
     . exact ho ys hys
     . simp at hys
 have i20 : (o.k == 20) = false := by simpa using c20
 refine ⟨false, h1, ?_, same.2⟩
 refine C.eq (F10_fn O ro) rfl rfl (okE.seq (okE.flat (fun _ => rfl) ?_))
 simp [OpT.val, R10_0, <- hbo, <- hh1', thenE, -resE, -resLE, -rvE]
 refine okE.seq (okE.seq (okE.flat (fun _ => rfl) ?_))
 simp [R10_1, q0, thenE, -resE, -resLE, -rvE]
 refine okE.blk (okE.seq (okE.flat (fun _ => rfl) ?_))
 simp [R10_3, i17, thenE, -resE, -resLE, -rvE]
 refine okE.cond false (by simp) ?_
 simp only [Bool.false_eq_true, if_false]
 refine okE.flat (fun _ => rfl) ?_
 simp [R10_10, R10_17, R10_21, R10_2, i18, i19, i20, thenE]
end
section
variable {H : Type} {O : HI H} {ro : Nat} {c : CallT H}
def StQ (O : HI H) (ro : Nat) (w : Own) (h : H) (W : Nat) (D : WD) (o : OpT) (r : Bool) (h' : H) : Prop :=
 ∃ w' D', WX O ro w' h' W D' /\ D'.cs.length <= D.cs.length + 1 /\ D'.tx.length <= D.tx.length + 1 /\ D'.li.length <= D.li.length + 1 /\ liOk D'.li /\ Ch O Kw w h w' h' /\ (r = false -> o.k = 8 \/ o.k = 9 \/ o.k = 10 \/ o.k = 16)
theorem tx_at {w : Own} {h : H} {W : Nat} {D : WD} {vc vt vi vw : Value} {vis vws : List Value} (x : WI O ro w h W D vc vt vi vw vis vws) (j : Nat) (hj : j < D.tx.length) : ∃ b cp, vt = .slice (some ⟨b, 0, some 1⟩) D.tx.length cp /\ O.cell h b j = some (.string D.tx[j]) := by
 obtain ⟨b, cp, e, y⟩ := x.t.blk (by omega) D.tx.length (by simp) (by omega)
 exact ⟨b, cp, e, y.get j _ (by simp [hj])⟩
theorem tx_len {w : Own} {h : H} {W : Nat} {D : WD} {vc vt vi vw : Value} {vis vws : List Value} (x : WI O ro w h W D vc vt vi vw vis vws) : ∃ a cp, vt = .slice a D.tx.length cp := x.t.len (by omega) D.tx.length (by simp)
theorem cs_at {w : Own} {h : H} {W : Nat} {D : WD} {vc vt vi vw : Value} {vis vws : List Value} (x : WI O ro w h W D vc vt vi vw vis vws) (j : Nat) (hj : j < D.cs.length) : ∃ b cp, vc = .slice (some ⟨b, 0, some 2⟩) D.cs.length cp /\ cellsA O h b (j * 2) 2 = some [.pointer (some ⟨D.cs[j].1, 0, none⟩), .pointer (some ⟨D.cs[j].2.1, 0, none⟩)] := by
 obtain ⟨b, cp, e, y⟩ := x.c.blk (by omega) D.cs.length (flat_len cC 2 (fun _ => rfl) D.cs) (by omega)
 exact ⟨b, cp, e, y.at (j * 2) (cC D.cs[j]) fun i hi => flat_at cC 2 (fun _ => rfl) D.cs j hj i hi⟩
theorem cs_len {w : Own} {h : H} {W : Nat} {D : WD} {vc vt vi vw : Value} {vis vws : List Value} (x : WI O ro w h W D vc vt vi vw vis vws) : ∃ a cp, vc = .slice a D.cs.length cp := x.c.len (by omega) D.cs.length (flat_len cC 2 (fun _ => rfl) D.cs)
theorem step_l (C : Lim Tryz.prog O ro okS c) (L : O.Law) {w : Own} {h : H} {W : Nat} {D : WD} (x : WX O ro w h W D) (h1 : D.cs.length < 10000000) (h2 : D.tx.length < 10000000) (hl : D.li.length < 10000000) (ho : liOk D.li) (o : OpT) (hs : o.s.size < 1000000000) (ha : I64 o.a) (hb : I64 o.b) :
 ∃ r h', c 8 [.pointer (some ⟨W, 0, none⟩), o.val] h = some (.bool r, h') /\ StQ O ro w h W D o r h' := by
 obtain ⟨k, vc, vt, vi, vw, vis, vws, x⟩ := x
 obtain ⟨bo, w1, g1, hbo, hg1, y1, al1, k1, _⟩ := own_n L k o.cells 2
 have hg1' : g1 = O.new h [.int .i64 o.k, .int .i64 o.a, .int .i64 o.b, .int .i64 o.c, .string o.s] := hg1
 have x1 := x.al L al1
 have lo5 : cellsA O g1 bo 0 5 = some [.int .i64 o.k, .int .i64 o.a, .int .i64 o.b, .int .i64 o.c, .string o.s] := y1.all
 obtain ⟨r1, g2, e1, w2, D2, x2, d1, d2, d3, ho2, c2⟩ := owner_l C L (w := w1) (h := g1) (W := W) (D := D) ⟨k1, _, _, _, _, _, _, x1⟩ (by omega) ho o hs ha hb
 have e1' : c 10 [.pointer (some ⟨W, 0, none⟩), .agg #[.int .i64 o.k, .int .i64 o.a, .int .i64 o.b, .int .i64 o.c, .string o.s]] g1 = some (.bool r1, g2) := e1
 have cc : Ch O Kw w h w2 g2 := (kw_al al1).trans c2
 have base : ∀ r, (r = false -> o.k = 8 \/ o.k = 9 \/ o.k = 10 \/ o.k = 16) -> StQ O ro w h W D o r g2 := fun r hr => ⟨w2, D2, x2, by rw [d1]; omega, by rw [d2]; omega, d3, ho2, cc, hr⟩
 cases r1 with
 | true =>
  refine ⟨true, g2, ?_, base true (by simp)⟩
  refine C.eq (F8_fn O ro) rfl rfl (okE.flat (fun _ => rfl) ?_)
  simp [OpT.val, F8, R8_0, R8_1, R8_2, R8_3, <- hbo, <- hg1', lo5, e1']
 | false =>
  have y2 := y1.ch L c2 (by simp [Kw])
  have q0 := y2.get 0 _ rfl
  have q1 := y2.get 1 _ rfl
  have q2 := y2.get 2 _ rfl
  have q4 := y2.get 4 _ rfl
  have lo52 : cellsA O g2 bo 0 5 = some [.int .i64 o.k, .int .i64 o.a, .int .i64 o.b, .int .i64 o.c, .string o.s] := y2.all
  have x2' := x2
  obtain ⟨k2, vc2, vt2, vi2, vw2, vis2, vws2, z2⟩ := x2
  have k0 := z2.m.get 0 _ rfl
  have kk1 := z2.m.get 1 _ rfl
  have kk2 := z2.m.get 2 _ rfl
  have rd : ∀ (s : ByteArray), ∃ g3, c 11 [.pointer (some ⟨W, 0, none⟩), .string s] g2 = some (.bool true, g3) /\ StQ O ro w h W D o true g3 := by
   intro s
   obtain ⟨w3, g3, D3, e3, x3, f1, f2, f3, c3⟩ := read_l C L x2' (by rw [d1]; omega) s
   exact ⟨g3, e3, w3, D3, x3, by rw [d1] at f1; omega, by rw [f2, d2]; omega, by rw [f3]; exact d3, by rw [f3]; exact ho2, cc.trans c3, by simp⟩
  by_cases n1 : o.k = 1
  . have i1 : (o.k == 1) = true := by simpa using n1
    obtain ⟨g3, e3, s3⟩ := rd o.s
    refine ⟨true, g3, ?_, s3⟩
    refine C.eq (F8_fn O ro) rfl rfl (okE.flat (fun _ => rfl) ?_)
    simp [OpT.val, F8, R8_0, R8_1, R8_2, R8_4, R8_5, R8_6, <- hbo, <- hg1', lo5, e1', q0, i1, q4, e3]
  have i1 : (o.k == 1) = false := by simpa using n1
  by_cases n2 : o.k = 2
  . have i2 : (o.k == 2) = true := by simpa using n2
    by_cases t0 : 0 < D2.tx.length
    . have t0' : (0 : Int) < D2.tx.length := by omega
      obtain ⟨j, hj, ej⟩ := pick_b C g2 o.a ha D2.tx.length t0
      obtain ⟨bt2, cpt, hvt, ct⟩ := tx_at z2 j hj
      rw [hvt] at kk1
      have hj' : (j : Int) < D2.tx.length := by omega
      obtain ⟨g3, e3, s3⟩ := rd D2.tx[j]
      refine ⟨true, g3, ?_, s3⟩
      refine C.eq (F8_fn O ro) rfl rfl (okE.flat (fun _ => rfl) ?_)
      simp [OpT.val, F8, R8_0, R8_1, R8_2, R8_4, R8_5, R8_7, R8_8, R8_9, R8_10, <- hbo, <- hg1', lo5, e1', q0, i1, i2, kk1, t0, t0', q1, ej, hj, hj', ct, e3]
    . have t0' : ¬ (0 : Int) < D2.tx.length := by omega
      obtain ⟨at2, cpt, hvt⟩ := tx_len z2
      rw [hvt] at kk1
      refine ⟨true, g2, ?_, base true (by simp)⟩
      refine C.eq (F8_fn O ro) rfl rfl (okE.flat (fun _ => rfl) ?_)
      simp [OpT.val, F8, R8_0, R8_1, R8_2, R8_4, R8_5, R8_7, R8_8, R8_42, <- hbo, <- hg1', lo5, e1', q0, i1, i2, kk1, t0, t0']
  have i2 : (o.k == 2) = false := by simpa using n2
  by_cases n37 : o.k = 3 \/ o.k = 4 \/ o.k = 5 \/ o.k = 6 \/ o.k = 7
  ·
   have ask : ∀ (y : Nat × Nat × CN), y ∈ D2.cs -> ∃ g3, c 13 [.pointer (some ⟨W, 0, none⟩), .agg #[.pointer (some ⟨y.1, 0, none⟩), .pointer (some ⟨y.2.1, 0, none⟩)], .agg #[.int .i64 o.k, .int .i64 o.a, .int .i64 o.b, .int .i64 o.c, .string o.s]] g2 = some (.bool true, g3) /\ StQ O ro w h W D o true g3 := by
    intro y hy
    obtain ⟨w3, g3, D3, e3, x3, f1, f2, f3, c3⟩ := asked_l C L x2' (by rw [d2]; omega) y hy o
    exact ⟨g3, e3, w3, D3, x3, by rw [f1, d1]; omega, by rw [d2] at f2; omega, by rw [f3]; exact d3, by rw [f3]; exact ho2, cc.trans c3, by simp⟩
   by_cases t0 : 0 < D2.cs.length
   . have t0' : (0 : Int) < D2.cs.length := by omega
     obtain ⟨j, hj, ej⟩ := pick_b C g2 o.a ha D2.cs.length t0
     obtain ⟨bt2, cpt, hvt, ct⟩ := cs_at z2 j hj
     rw [hvt] at k0
     have hj' : (j : Int) < D2.cs.length := by omega
     obtain ⟨g3, e3, s3⟩ := ask D2.cs[j] (List.getElem_mem hj)
     refine ⟨true, g3, ?_, s3⟩
     refine C.eq (F8_fn O ro) rfl rfl (okE.flat (fun _ => rfl) ?_)
     rcases n37 with n | n | n | n | n
     . have i3 : (o.k == 3) = true := by simpa using n
       simp [OpT.val, F8, R8_0, R8_1, R8_2, R8_4, R8_5, R8_7, R8_11, R8_16, R8_17, R8_18, <- hbo, <- hg1', lo5, e1', q0, i1, i2, i3, k0, t0, t0', q1, ej, hj, hj', ct, lo52, e3]
     . have i3 : (o.k == 3) = false := by simp [n]
       have i4 : (o.k == 4) = true := by simpa using n
       simp [OpT.val, F8, R8_0, R8_1, R8_2, R8_4, R8_5, R8_7, R8_11, R8_12, R8_16, R8_17, R8_18, <- hbo, <- hg1', lo5, e1', q0, i1, i2, i3, i4, k0, t0, t0', q1, ej, hj, hj', ct, lo52, e3]
     . have i3 : (o.k == 3) = false := by simp [n]
       have i4 : (o.k == 4) = false := by simp [n]
       have i5 : (o.k == 5) = true := by simpa using n
       simp [OpT.val, F8, R8_0, R8_1, R8_2, R8_4, R8_5, R8_7, R8_11, R8_12, R8_13, R8_16, R8_17, R8_18, <- hbo, <- hg1', lo5, e1', q0, i1, i2, i3, i4, i5, k0, t0, t0', q1, ej, hj, hj', ct, lo52, e3]
     . have i3 : (o.k == 3) = false := by simp [n]
       have i4 : (o.k == 4) = false := by simp [n]
       have i5 : (o.k == 5) = false := by simp [n]
       have i6 : (o.k == 6) = true := by simpa using n
       simp [OpT.val, F8, R8_0, R8_1, R8_2, R8_4, R8_5, R8_7, R8_11, R8_12, R8_13, R8_14, R8_16, R8_17, R8_18, <- hbo, <- hg1', lo5, e1', q0, i1, i2, i3, i4, i5, i6, k0, t0, t0', q1, ej, hj, hj', ct, lo52, e3]
     . have i3 : (o.k == 3) = false := by simp [n]
       have i4 : (o.k == 4) = false := by simp [n]
       have i5 : (o.k == 5) = false := by simp [n]
       have i6 : (o.k == 6) = false := by simp [n]
       have i7 : (o.k == 7) = true := by simpa using n
       simp [OpT.val, F8, R8_0, R8_1, R8_2, R8_4, R8_5, R8_7, R8_11, R8_12, R8_13, R8_14, R8_15, R8_16, R8_17, R8_18, <- hbo, <- hg1', lo5, e1', q0, i1, i2, i3, i4, i5, i6, i7, k0, t0, t0', q1, ej, hj, hj', ct, lo52, e3]
   . have t0' : ¬ (0 : Int) < D2.cs.length := by omega
     obtain ⟨at2, cpt, hvt⟩ := cs_len z2
     rw [hvt] at k0
     refine ⟨true, g2, ?_, base true (by simp)⟩
     refine C.eq (F8_fn O ro) rfl rfl (okE.flat (fun _ => rfl) ?_)
     rcases n37 with n | n | n | n | n
     . have i3 : (o.k == 3) = true := by simpa using n
       simp [OpT.val, F8, R8_0, R8_1, R8_2, R8_4, R8_5, R8_7, R8_11, R8_16, R8_42, <- hbo, <- hg1', lo5, e1', q0, i1, i2, i3, k0, t0, t0']
     . have i3 : (o.k == 3) = false := by simp [n]
       have i4 : (o.k == 4) = true := by simpa using n
       simp [OpT.val, F8, R8_0, R8_1, R8_2, R8_4, R8_5, R8_7, R8_11, R8_12, R8_16, R8_42, <- hbo, <- hg1', lo5, e1', q0, i1, i2, i3, i4, k0, t0, t0']
     . have i3 : (o.k == 3) = false := by simp [n]
       have i4 : (o.k == 4) = false := by simp [n]
       have i5 : (o.k == 5) = true := by simpa using n
       simp [OpT.val, F8, R8_0, R8_1, R8_2, R8_4, R8_5, R8_7, R8_11, R8_12, R8_13, R8_16, R8_42, <- hbo, <- hg1', lo5, e1', q0, i1, i2, i3, i4, i5, k0, t0, t0']
     . have i3 : (o.k == 3) = false := by simp [n]
       have i4 : (o.k == 4) = false := by simp [n]
       have i5 : (o.k == 5) = false := by simp [n]
       have i6 : (o.k == 6) = true := by simpa using n
       simp [OpT.val, F8, R8_0, R8_1, R8_2, R8_4, R8_5, R8_7, R8_11, R8_12, R8_13, R8_14, R8_16, R8_42, <- hbo, <- hg1', lo5, e1', q0, i1, i2, i3, i4, i5, i6, k0, t0, t0']
     . have i3 : (o.k == 3) = false := by simp [n]
       have i4 : (o.k == 4) = false := by simp [n]
       have i5 : (o.k == 5) = false := by simp [n]
       have i6 : (o.k == 6) = false := by simp [n]
       have i7 : (o.k == 7) = true := by simpa using n
       simp [OpT.val, F8, R8_0, R8_1, R8_2, R8_4, R8_5, R8_7, R8_11, R8_12, R8_13, R8_14, R8_15, R8_16, R8_42, <- hbo, <- hg1', lo5, e1', q0, i1, i2, i3, i4, i5, i6, i7, k0, t0, t0']
  have i3 : (o.k == 3) = false := by simp; omega
  have i4 : (o.k == 4) = false := by simp; omega
  have i5 : (o.k == 5) = false := by simp; omega
  have i6 : (o.k == 6) = false := by simp; omega
  have i7 : (o.k == 7) = false := by simp; omega
  by_cases n8 : o.k = 8
  . have i8 : (o.k == 8) = true := by simpa using n8
    have e3 := ran_l C g2 (.pointer (some ⟨W, 0, none⟩)) o.s o.a
    refine ⟨false, g2, ?_, base false (fun _ => .inl n8)⟩
    refine C.eq (F8_fn O ro) rfl rfl (okE.flat (fun _ => rfl) ?_)
    simp [OpT.val, F8, R8_0, R8_1, R8_2, R8_4, R8_5, R8_7, R8_11, R8_12, R8_13, R8_14, R8_15, R8_19, R8_20, <- hbo, <- hg1', lo5, e1', q0, i1, i2, i3, i4, i5, i6, i7, i8, q4, q1, e3]
  have i8 : (o.k == 8) = false := by simpa using n8
  by_cases n9 : o.k = 9
  . have i9 : (o.k == 9) = true := by simpa using n9
    by_cases t0 : 0 < D2.tx.length
    . have t0' : (0 : Int) < D2.tx.length := by omega
      obtain ⟨j, hj, ej⟩ := pick_b C g2 o.b hb D2.tx.length t0
      obtain ⟨bt2, cpt, hvt, ct⟩ := tx_at z2 j hj
      rw [hvt] at kk1
      have hj' : (j : Int) < D2.tx.length := by omega
      have e3 := ran_l C g2 (.pointer (some ⟨W, 0, none⟩)) D2.tx[j] o.a
      refine ⟨false, g2, ?_, base false (fun _ => .inr (.inl n9))⟩
      refine C.eq (F8_fn O ro) rfl rfl (okE.flat (fun _ => rfl) ?_)
      simp [OpT.val, F8, R8_0, R8_1, R8_2, R8_4, R8_5, R8_7, R8_11, R8_12, R8_13, R8_14, R8_15, R8_19, R8_21, R8_22, R8_23, R8_24, <- hbo, <- hg1', lo5, e1', q0, i1, i2, i3, i4, i5, i6, i7, i8, i9, kk1, t0, t0', q2, ej, hj, hj', ct, q1, e3]
    . have t0' : ¬ (0 : Int) < D2.tx.length := by omega
      obtain ⟨at2, cpt, hvt⟩ := tx_len z2
      rw [hvt] at kk1
      refine ⟨true, g2, ?_, base true (by simp)⟩
      refine C.eq (F8_fn O ro) rfl rfl (okE.flat (fun _ => rfl) ?_)
      simp [OpT.val, F8, R8_0, R8_1, R8_2, R8_4, R8_5, R8_7, R8_11, R8_12, R8_13, R8_14, R8_15, R8_19, R8_21, R8_22, R8_42, <- hbo, <- hg1', lo5, e1', q0, i1, i2, i3, i4, i5, i6, i7, i8, i9, kk1, t0, t0']
  have i9 : (o.k == 9) = false := by simpa using n9
  by_cases n10 : o.k = 10
  . have i10 : (o.k == 10) = true := by simpa using n10
    have e3 := new_l C g2
    refine ⟨false, g2, ?_, base false (fun _ => .inr (.inr (.inl n10)))⟩
    refine C.eq (F8_fn O ro) rfl rfl (okE.flat (fun _ => rfl) ?_)
    simp [OpT.val, F8, R8_0, R8_1, R8_2, R8_4, R8_5, R8_7, R8_11, R8_12, R8_13, R8_14, R8_15, R8_19, R8_21, R8_25, R8_26, R8_27, R8_28, <- hbo, <- hg1', lo5, e1', q0, i1, i2, i3, i4, i5, i6, i7, i8, i9, i10, e3]
  have i10 : (o.k == 10) = false := by simpa using n10
  by_cases n16 : o.k = 16
  . have i16 : (o.k == 16) = true := by simpa using n16
    have i11 : (o.k == 11) = false := by simp [n16]
    have i12 : (o.k == 12) = false := by simp [n16]
    have i13 : (o.k == 13) = false := by simp [n16]
    have i14 : (o.k == 14) = false := by simp [n16]
    have i15 : (o.k == 15) = false := by simp [n16]
    have i21 : (o.k == 21) = false := by simp [n16]
    have i22 : (o.k == 22) = false := by simp [n16]
    have e3 := full_l C g2
    refine ⟨false, g2, ?_, base false (fun _ => .inr (.inr (.inr n16)))⟩
    refine C.eq (F8_fn O ro) rfl rfl (okE.flat (fun _ => rfl) ?_)
    simp [OpT.val, F8, R8_0, R8_1, R8_2, R8_4, R8_5, R8_7, R8_11, R8_12, R8_13, R8_14, R8_15, R8_19, R8_21, R8_25, R8_30, R8_31, R8_32, R8_33, R8_34, R8_35, R8_36, R8_40, R8_41, <- hbo, <- hg1', lo5, e1', q0, i1, i2, i3, i4, i5, i6, i7, i8, i9, i10, i11, i12, i13, i14, i15, i21, i22, i16, e3]
  have i16 : (o.k == 16) = false := by simpa using n16
  refine ⟨true, g2, ?_, base true (by simp)⟩
  refine C.eq (F8_fn O ro) rfl rfl (okE.flat (fun _ => rfl) ?_)
  by_cases n11 : o.k = 11
  . have i11 : (o.k == 11) = true := by simpa using n11
    simp [OpT.val, F8, R8_0, R8_1, R8_2, R8_4, R8_5, R8_7, R8_11, R8_12, R8_13, R8_14, R8_15, R8_19, R8_21, R8_25, R8_30, R8_37, R8_42, <- hbo, <- hg1', lo5, e1', q0, i1, i2, i3, i4, i5, i6, i7, i8, i9, i10, i11, kk2]
  have i11 : (o.k == 11) = false := by simpa using n11
  by_cases n12 : o.k = 12
  . have i12 : (o.k == 12) = true := by simpa using n12
    simp [OpT.val, F8, R8_0, R8_1, R8_2, R8_4, R8_5, R8_7, R8_11, R8_12, R8_13, R8_14, R8_15, R8_19, R8_21, R8_25, R8_30, R8_31, R8_37, R8_42, <- hbo, <- hg1', lo5, e1', q0, i1, i2, i3, i4, i5, i6, i7, i8, i9, i10, i11, i12, kk2]
  have i12 : (o.k == 12) = false := by simpa using n12
  by_cases n13 : o.k = 13
  . have i13 : (o.k == 13) = true := by simpa using n13
    simp [OpT.val, F8, R8_0, R8_1, R8_2, R8_4, R8_5, R8_7, R8_11, R8_12, R8_13, R8_14, R8_15, R8_19, R8_21, R8_25, R8_30, R8_31, R8_32, R8_37, R8_42, <- hbo, <- hg1', lo5, e1', q0, i1, i2, i3, i4, i5, i6, i7, i8, i9, i10, i11, i12, i13, kk2]
  have i13 : (o.k == 13) = false := by simpa using n13
  by_cases n14 : o.k = 14
  . have i14 : (o.k == 14) = true := by simpa using n14
    simp [OpT.val, F8, R8_0, R8_1, R8_2, R8_4, R8_5, R8_7, R8_11, R8_12, R8_13, R8_14, R8_15, R8_19, R8_21, R8_25, R8_30, R8_31, R8_32, R8_33, R8_37, R8_42, <- hbo, <- hg1', lo5, e1', q0, i1, i2, i3, i4, i5, i6, i7, i8, i9, i10, i11, i12, i13, i14, kk2]
  have i14 : (o.k == 14) = false := by simpa using n14
  by_cases n15 : o.k = 15
  . have i15 : (o.k == 15) = true := by simpa using n15
    simp [OpT.val, F8, R8_0, R8_1, R8_2, R8_4, R8_5, R8_7, R8_11, R8_12, R8_13, R8_14, R8_15, R8_19, R8_21, R8_25, R8_30, R8_31, R8_32, R8_33, R8_34, R8_37, R8_42, <- hbo, <- hg1', lo5, e1', q0, i1, i2, i3, i4, i5, i6, i7, i8, i9, i10, i11, i12, i13, i14, i15, kk2]
  have i15 : (o.k == 15) = false := by simpa using n15
  by_cases n21 : o.k = 21
  . have i21 : (o.k == 21) = true := by simpa using n21
    simp [OpT.val, F8, R8_0, R8_1, R8_2, R8_4, R8_5, R8_7, R8_11, R8_12, R8_13, R8_14, R8_15, R8_19, R8_21, R8_25, R8_30, R8_31, R8_32, R8_33, R8_34, R8_35, R8_37, R8_42, <- hbo, <- hg1', lo5, e1', q0, i1, i2, i3, i4, i5, i6, i7, i8, i9, i10, i11, i12, i13, i14, i15, i21, kk2]
  have i21 : (o.k == 21) = false := by simpa using n21
  by_cases n22 : o.k = 22
  . have i22 : (o.k == 22) = true := by simpa using n22
    simp [OpT.val, F8, R8_0, R8_1, R8_2, R8_4, R8_5, R8_7, R8_11, R8_12, R8_13, R8_14, R8_15, R8_19, R8_21, R8_25, R8_30, R8_31, R8_32, R8_33, R8_34, R8_35, R8_36, R8_37, R8_42, <- hbo, <- hg1', lo5, e1', q0, i1, i2, i3, i4, i5, i6, i7, i8, i9, i10, i11, i12, i13, i14, i15, i21, i22, kk2]
  have i22 : (o.k == 22) = false := by simpa using n22
  simp [OpT.val, F8, R8_0, R8_1, R8_2, R8_4, R8_5, R8_7, R8_11, R8_12, R8_13, R8_14, R8_15, R8_19, R8_21, R8_25, R8_30, R8_31, R8_32, R8_33, R8_34, R8_35, R8_36, R8_40, R8_42, <- hbo, <- hg1', lo5, e1', q0, i1, i2, i3, i4, i5, i6, i7, i8, i9, i10, i11, i12, i13, i14, i15, i21, i22, i16]
end
end Go.Proofs.YtlakdngplpabdaaGreatDoor
