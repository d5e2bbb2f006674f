/- Own work. -/
import Derived.Test.YtlakdngplpabdaaGreatDoorC34
namespace Go.Proofs.YtlakdngplpabdaaGreatDoor
open Go.Vm Go.Proofs
set_option linter.unusedSimpArgs false
set_option linter.unusedVariables false
set_option maxHeartbeats 1000000
set_option maxRecDepth 4000
structure OpOk (o : OpT) : Prop where
 s : o.s.size < 1000000000
 a : I64 o.a
 b : I64 o.b
def notYet (k : Int) : Prop := k = 8 \/ k = 9 \/ k = 10 \/ k = 16
section
variable {H : Type} {O : HI H} {ro : Nat} {c : CallT H}
def SC (O : HI H) (w : Own) (h : H) (sv : Value) (ops : List OpT) : Prop :=
 (sv = .slice none 0 0 /\ ops = []) \/ ∃ b cp, sv = .slice (some ⟨b, 0, some 5⟩) ops.length cp /\ w b = (60, 1) /\ b < O.next h /\ ∀ i (hi : i < ops.length), cellsA O h b (i * 5) 5 = some ops[i].cells
theorem cellsA_fr {h h' : H} {b : Nat} (hf : ∀ o, O.cell h' b o = O.cell h b o) : ∀ (n o : Nat), cellsA O h' b o n = cellsA O h b o n := by
 intro n
 induction n with
 | zero => intro o; rfl
 | succ n ih => intro o; simp only [cellsA, hf, ih]
theorem SC.ch {K : Tag -> Prop} {w w' : Own} {h h' : H} {sv : Value} {ops : List OpT} (x : SC O w h sv ops) (a : Ch O K w h w' h') (hk : ¬ K (60, 1)) : SC O w' h' sv ops := by
 rcases x with x | ⟨b, cp, e, t, hb, hc⟩
 . exact .inl x
 . have hf := a.fr b hb (by rw [t]; exact hk)
   exact .inr ⟨b, cp, e, by rw [a.ow b hb, t], Nat.lt_of_lt_of_le hb a.nx, fun i hi => by rw [cellsA_fr hf.1]; exact hc i hi⟩
theorem SC.len {w : Own} {h : H} {sv : Value} {ops : List OpT} (x : SC O w h sv ops) : ∃ a cp, sv = .slice a ops.length cp := by
 rcases x with ⟨rfl, rfl⟩ | ⟨b, cp, e, _⟩
 . exact ⟨_, _, rfl⟩
 . exact ⟨_, _, e⟩
theorem SC.at {w : Own} {h : H} {sv : Value} {ops : List OpT} (x : SC O w h sv ops) (i : Nat) (hi : i < ops.length) : ∃ b cp, sv = .slice (some ⟨b, 0, some 5⟩) ops.length cp /\ cellsA O h b (i * 5) 5 = some ops[i].cells /\ O.cell h b (i * 5) = some (.int .i64 ops[i].k) := by
 rcases x with ⟨rfl, rfl⟩ | ⟨b, cp, e, t, hb, hc⟩
 . simp at hi
 . have h5 := hc i hi
   refine ⟨b, cp, e, h5, ?_⟩
   rw [show (5 : Nat) = 4 + 1 from rfl, cellsA] at h5
   cases hx : O.cell h b (i * (4 + 1)) with
   | none => rw [hx] at h5; simp at h5
   | some v =>
    cases hr : cellsA O h b (i * (4 + 1) + 1) 4 with
    | none => rw [hx, hr] at h5; simp at h5
    | some r =>
     rw [hx, hr] at h5
     simp only [OpT.cells, Option.some.injEq, List.cons.injEq] at h5
     rw [<- h5.1]
attribute [local simp] cSeq cReg reg to mv too onlyIf onlyIfo aMove aNil aFld aLd aInt aPick aLenStr aIdxStr aConv aUn unA ev upd_get isB envOf iA_add iA_sub iA_mul iA_eql iA_neq iA_lss iA_leq iA_gtr iA_geq cIf cRet cSkip okc_some resE resLE rvE aSt vc_int vc_bool vc_agg vc_str vc_ptr vc_sl ft_int ft_bool ft_str ft_ptr ft_sl tp_int tp_bool tp_agg tp_str tp_ptr tp_sl aBuild Instr.fill aCall cExit cBlk outOf ptr undef aNew aBox aIdxArr aLdN aShift aLenSl aIdx aMkSl aApp aExt aSliceStr aStr strA aPtrNil aBoolEq aAggEq intsA aSlNil aMake
def UpQ (ops : List OpT) (i : Int) : Prop := i = -1 \/ ∃ (j : Nat) (hj : j < ops.length), i = (j : Int) /\ notYet ops[j].k
theorem upto_l (C : Lim Tryz.prog O ro okS c) (L : O.Law) {w : Own} {h : H} (k : WK O ro w h) {sv : Value} {ops : List OpT} (x : SC O w h sv ops) (hn : ops.length < 9000000) (ho : ∀ o ∈ ops, OpOk o) :
 ∃ i w' h', c 7 [sv] h = some (.int .i64 i, h') /\ UpQ ops i /\ Ch O Kw w h w' h' /\ WK O ro w' h' := by
 obtain ⟨W, hW⟩ : ∃ W, W = O.next h := ⟨_, rfl⟩
 obtain ⟨h1, hh1⟩ : ∃ h1, h1 = O.new h [.slice none 0 0, .slice none 0 0, .slice none 0 0, .slice none 0 0, .slice none 0 0, .int .i64 0, .int .i64 0, .int .i64 0] := ⟨_, rfl⟩
 have al1 : Al O w h (w.set W (50, 1000)) h1 := fun K => by rw [hh1, hW]; exact Ch.new L _ _ _ _ _
 have y1 : Bx O ro (w.set W (50, 1000)) h1 (50, 1000) W [.slice none 0 0, .slice none 0 0, .slice none 0 0, .slice none 0 0, .slice none 0 0, .int .i64 0, .int .i64 0, .int .i64 0] := by rw [hh1, hW]; exact Bx.new L _ _ k.lo _ _
 have y1' := nrm_bx (al1 fun _ => False) y1 (by simp)
 have al1' : Al O w h (rt w (w.set W (50, 1000)) (O.next h) r50) h1 := fun K => nrm_ch (al1 K)
 have k1 : WK O ro (rt w (w.set W (50, 1000)) (O.next h) r50) h1 := k.up L (al1' fun _ => False) (by simp) (cl_rt (K := fun _ => True) k.cl _ r50_cl)
 obtain ⟨w1, hw1⟩ : ∃ w1, w1 = rt w (w.set W (50, 1000)) (O.next h) r50 := ⟨_, rfl⟩
 rw [<- hw1] at y1' al1' k1
 have x1 : WX O ro w1 h1 W ⟨[], [], [], 0, 0, 0⟩ := ⟨k1, _, _, _, _, [], [], y1', Sl.nil _ _ _ _, Sl.nil _ _ _ _, Sl.nil _ _ _ _, Sl.nil _ _ _ _, rfl, rfl, by intro k h1; simp at h1, by intro x hx; simp at hx⟩
 obtain ⟨asv, csv, hsv⟩ := x.len
 have key : ∃ v h', c 7 [sv] h = some (v, h') /\ ∃ i w', v = .int .i64 i /\ UpQ ops i /\ Ch O Kw w h w' h' /\ WK O ro w' h' := by
  refine C.fn (F7_fn O ro) rfl rfl ?_
  unfold F7
  refine okE.seq (okE.flat (fun _ => rfl) ?_)
  simp [R7_0, thenE, -resE, -resLE, -rvE]
  refine okE.seq (okE.flat (fun _ => rfl) ?_)
  simp [R7_1, <- hW, <- hh1, thenE, -resE, -resLE, -rvE]
  refine okE.seq (okE.seq (okE.flat (fun _ => rfl) ?_))
  simp [R7_2, thenE, -resE, -resLE, -rvE]
  refine okE.blk ?_
  refine okE.loop (fun m t g => ∃ j w' D, WX O ro w' g W D /\ D.cs.length <= j /\ D.tx.length <= j /\ D.li.length <= j /\ liOk D.li /\ Ch O Kw w h w' g /\ t 0 = sv /\ t 3 = .pointer (some ⟨W, 0, none⟩) /\ t 4 = .int .i64 (j : Nat) /\ j + m = ops.length + 1 /\ 0 < m) ?_ (ops.length + 1) _ _ ⟨0, w1, _, x1, by simp, by simp, by simp, by intro xs hxs; simp at hxs, kw_al al1', by simp, by simp, by simp, by omega, by omega⟩
  intro m t g hI
  obtain ⟨j, w', D, xw, q1, q2, q3, q4, cc, t0, t3, t4, hj, hm⟩ := hI
  have xs := x.ch cc (by simp [Kw])
  by_cases hlt : j < ops.length
  . obtain ⟨b, cp, rfl, h5, h50⟩ := xs.at j hlt
    have oo := ho _ (List.getElem_mem hlt)
    obtain ⟨r, g2, e2, w2, D2, x2, d1, d2, d3, d4, c2, hr⟩ := step_l C L xw (by omega) (by omega) (by omega) q4 ops[j] oo.s oo.a oo.b
    have h5' : cellsA O g b (j * 5) 5 = some [.int .i64 ops[j].k, .int .i64 ops[j].a, .int .i64 ops[j].b, .int .i64 ops[j].c, .string ops[j].s] := h5
    have e2' : c 8 [.pointer (some ⟨W, 0, none⟩), .agg #[.int .i64 ops[j].k, .int .i64 ops[j].a, .int .i64 ops[j].b, .int .i64 ops[j].c, .string ops[j].s]] g = some (.bool r, g2) := e2
    have hlt' : (j : Int) < ops.length := by omega
    have hl2 : (j : Int) < 1073741824 := by omega
    have hl3 : j < 1073741824 := by omega
    obtain ⟨q, hq⟩ : ∃ q, q = j + 1 := ⟨_, rfl⟩
    have hw : IntKind.i64.wrap ((j : Int) + 1) = (q : Int) := by rw [wrap_id (by omega) (by omega)]; omega
    refine okE.flat (fun _ => rfl) ?_
    cases r with
    | false =>
     simp [W7_0, R7_3, R7_5, R7_6, R7_7, t0, t3, t4, hlt, hlt', hl2, hl3, h5', e2', thenE]
     exact ⟨.inr ⟨j, hlt, rfl, hr rfl⟩, w2, cc.trans c2, x2.1⟩
    | true =>
     have e3 := looks_l C x2 (by omega) d4
     simp [W7_0, R7_3, R7_5, R7_6, R7_8, R7_9, R7_4, t0, t3, t4, hlt, hlt', hl2, hl3, h5', e2', e3, hw]
     exact ⟨m - 1, by omega, q, w2, D2, x2, by omega, by omega, by omega, d4, cc.trans c2, rfl, by omega, by omega⟩
  . have hlt' : ¬ (j : Int) < ops.length := by omega
    refine okE.flat (fun _ => rfl) ?_
    rw [hsv] at t0
    simp [W7_0, R7_3, t0, t3, t4, hlt, hlt', thenE]
    refine okE.flat (fun _ => rfl) ?_
    simp [R7_11]
    exact ⟨.inl rfl, w', cc, xw.1⟩
 obtain ⟨v, h', e1, i, w', rfl, e2, e3, e4⟩ := key
 exact ⟨i, w', h', e1, e2, e3, e4⟩
theorem first_l (C : Lim Tryz.prog O ro okS c) (L : O.Law) {w : Own} {h : H} (k : WK O ro w h) {sv : Value} {ops : List OpT} (x : SC O w h sv ops) (hn : ops.length < 9000000) (ho : ∀ o ∈ ops, OpOk o) (lo hi : Int) (hlh : ∀ n, notYet n -> n < lo \/ hi < n) :
 ∃ w' h', c 6 [sv, .int .i64 lo, .int .i64 hi] h = some (.bool true, h') /\ Ch O Kw w h w' h' := by
 obtain ⟨i, w1, h1, e1, u, c1, k1⟩ := upto_l C L k x hn ho
 refine ⟨w1, h1, ?_, c1⟩
 rcases u with rfl | ⟨j, hj, rfl, hk⟩
 . refine C.eq (F6_fn O ro) rfl rfl (okE.flat (fun _ => rfl) ?_)
   simp [F6, R6_0, R6_1, R6_2, R6_3, e1]
 . obtain ⟨b, cp, rfl, _, h50⟩ := (x.ch c1 (by simp [Kw])).at j hj
   have hj' : (j : Int) < ops.length := by omega
   have hj0 : ¬ (j : Int) < 0 := by omega
   have hd := hlh _ hk
   have n1 : (ops[j].k != 1) = true := by unfold notYet at hk; simp; omega
   have n2 : (ops[j].k != 2) = true := by unfold notYet at hk; simp; omega
   refine C.eq (F6_fn O ro) rfl rfl (okE.flat (fun _ => rfl) ?_)
   generalize ops[j].k = n at *
   by_cases hlo : n < lo
   . simp [F6, R6_0, R6_1, R6_2, R6_4, R6_5, e1, hj, hj', hj0, h50, n1, n2, hlo]
   . have hhi : hi < n := by omega
     simp [F6, R6_0, R6_1, R6_2, R6_4, R6_5, e1, hj, hj', hj0, h50, n1, n2, hlo, hhi]
theorem reads_l (C : Lim Tryz.prog O ro okS c) (L : O.Law) {w : Own} {h : H} (k : WK O ro w h) {sv : Value} {ops : List OpT} (x : SC O w h sv ops) (hn : ops.length < 9000000) (ho : ∀ o ∈ ops, OpOk o) :
 ∃ w' h', c 3 [sv] h = some (.bool true, h') /\ Ch O Kw w h w' h' := by
 obtain ⟨w1, h1, e1, c1⟩ := first_l C L k x hn ho 1 2 (fun n hn => by unfold notYet at hn; omega)
 refine ⟨w1, h1, ?_, c1⟩
 refine C.eq (F3_fn O ro) rfl rfl (okE.flat (fun _ => rfl) ?_)
 simp [F3, R3_0, R3_1, e1]
theorem prints_l (C : Lim Tryz.prog O ro okS c) (L : O.Law) {w : Own} {h : H} (k : WK O ro w h) {sv : Value} {ops : List OpT} (x : SC O w h sv ops) (hn : ops.length < 9000000) (ho : ∀ o ∈ ops, OpOk o) :
 ∃ w' h', c 4 [sv] h = some (.bool true, h') /\ Ch O Kw w h w' h' := by
 obtain ⟨w1, h1, e1, c1⟩ := first_l C L k x hn ho 3 4 (fun n hn => by unfold notYet at hn; omega)
 refine ⟨w1, h1, ?_, c1⟩
 refine C.eq (F4_fn O ro) rfl rfl (okE.flat (fun _ => rfl) ?_)
 simp [F4, R4_0, R4_1, e1]
theorem steps_l (C : Lim Tryz.prog O ro okS c) (L : O.Law) {w : Own} {h : H} (k : WK O ro w h) {sv : Value} {ops : List OpT} (x : SC O w h sv ops) (hn : ops.length < 9000000) (ho : ∀ o ∈ ops, OpOk o) :
 ∃ w' h', c 5 [sv] h = some (.bool true, h') /\ Ch O Kw w h w' h' := by
 obtain ⟨w1, h1, e1, c1⟩ := first_l C L k x hn ho 5 7 (fun n hn => by unfold notYet at hn; omega)
 refine ⟨w1, h1, ?_, c1⟩
 refine C.eq (F5_fn O ro) rfl rfl (okE.flat (fun _ => rfl) ?_)
 simp [F5, R5_0, R5_1, e1]
end
end Go.Proofs.YtlakdngplpabdaaGreatDoor
namespace Go.Proofs.YtlakdngplpabdaaGreatDoor
open Go.Vm Go.Proofs
set_option maxRecDepth 100000
def funOkB (G : Nat) (fn : Func) : Bool := (match fn.body with | some c => codeOk G c | none => false) && !(fn.name == "runtime.NumGoroutine")
theorem funOk_of {G : Nat} {f : FuncId} {fn : Func} (hf : Tryz.prog.funcs[f]? = some fn) (h : funOkB G fn = true) : FunOk Tryz.prog G f := by
 unfold funOkB at h
 cases hb : fn.body with
 | none => rw [hb] at h; simp at h
 | some c =>
  rw [hb] at h
  simp only [Bool.and_eq_true, Bool.not_eq_true'] at h
  exact ⟨fn, c, hf, hb, h.1, h.2⟩
theorem fun_step {Q : Nat -> Prop} {n m : Nat} (h : Q n) (r : ∀ f, n + 1 <= f -> f <= m -> Q f) : ∀ f, n <= f -> f <= m -> Q f := by
 intro f h1 h2
 by_cases e : f = n
 . subst e; exact h
 . exact r f (by omega) h2
theorem fo_3 : FunOk Tryz.prog 3 3 := funOk_of Tryz.func3 (by kernel_rfl)
theorem fo_4 : FunOk Tryz.prog 3 4 := funOk_of Tryz.func4 (by kernel_rfl)
theorem fo_5 : FunOk Tryz.prog 3 5 := funOk_of Tryz.func5 (by kernel_rfl)
theorem fo_6 : FunOk Tryz.prog 3 6 := funOk_of Tryz.func6 (by kernel_rfl)
theorem fo_7 : FunOk Tryz.prog 3 7 := funOk_of Tryz.func7 (by kernel_rfl)
theorem fo_8 : FunOk Tryz.prog 3 8 := funOk_of Tryz.func8 (by kernel_rfl)
theorem fo_9 : FunOk Tryz.prog 3 9 := funOk_of Tryz.func9 (by kernel_rfl)
theorem fo_10 : FunOk Tryz.prog 3 10 := funOk_of Tryz.func10 (by kernel_rfl)
theorem fo_11 : FunOk Tryz.prog 3 11 := funOk_of Tryz.func11 (by kernel_rfl)
theorem fo_12 : FunOk Tryz.prog 3 12 := funOk_of Tryz.func12 (by kernel_rfl)
theorem fo_13 : FunOk Tryz.prog 3 13 := funOk_of Tryz.func13 (by kernel_rfl)
theorem fo_14 : FunOk Tryz.prog 3 14 := funOk_of Tryz.func14 (by kernel_rfl)
theorem fo_15 : FunOk Tryz.prog 3 15 := funOk_of Tryz.func15 (by kernel_rfl)
theorem fo_16 : FunOk Tryz.prog 3 16 := funOk_of Tryz.func16 (by kernel_rfl)
theorem fo_17 : FunOk Tryz.prog 3 17 := funOk_of Tryz.func17 (by kernel_rfl)
theorem fo_18 : FunOk Tryz.prog 3 18 := funOk_of Tryz.func18 (by kernel_rfl)
theorem fo_19 : FunOk Tryz.prog 3 19 := funOk_of Tryz.func19 (by kernel_rfl)
theorem fo_20 : FunOk Tryz.prog 3 20 := funOk_of Tryz.func20 (by kernel_rfl)
theorem fo_21 : FunOk Tryz.prog 3 21 := funOk_of Tryz.func21 (by kernel_rfl)
theorem fo_22 : FunOk Tryz.prog 3 22 := funOk_of Tryz.func22 (by kernel_rfl)
theorem fo_23 : FunOk Tryz.prog 3 23 := funOk_of Tryz.func23 (by kernel_rfl)
theorem fo_24 : FunOk Tryz.prog 3 24 := funOk_of Tryz.func24 (by kernel_rfl)
theorem fo_25 : FunOk Tryz.prog 3 25 := funOk_of Tryz.func25 (by kernel_rfl)
theorem fo_26 : FunOk Tryz.prog 3 26 := funOk_of Tryz.func26 (by kernel_rfl)
theorem fo_27 : FunOk Tryz.prog 3 27 := funOk_of Tryz.func27 (by kernel_rfl)
theorem fo_28 : FunOk Tryz.prog 3 28 := funOk_of Tryz.func28 (by kernel_rfl)
theorem fo_29 : FunOk Tryz.prog 3 29 := funOk_of Tryz.func29 (by kernel_rfl)
theorem fo_30 : FunOk Tryz.prog 3 30 := funOk_of Tryz.func30 (by kernel_rfl)
theorem fo_31 : FunOk Tryz.prog 3 31 := funOk_of Tryz.func31 (by kernel_rfl)
theorem fo_32 : FunOk Tryz.prog 3 32 := funOk_of Tryz.func32 (by kernel_rfl)
theorem fo_33 : FunOk Tryz.prog 3 33 := funOk_of Tryz.func33 (by kernel_rfl)
theorem fo_34 : FunOk Tryz.prog 3 34 := funOk_of Tryz.func34 (by kernel_rfl)
theorem fo_35 : FunOk Tryz.prog 3 35 := funOk_of Tryz.func35 (by kernel_rfl)
theorem fo_36 : FunOk Tryz.prog 3 36 := funOk_of Tryz.func36 (by kernel_rfl)
theorem fo_37 : FunOk Tryz.prog 3 37 := funOk_of Tryz.func37 (by kernel_rfl)
theorem fo_38 : FunOk Tryz.prog 3 38 := funOk_of Tryz.func38 (by kernel_rfl)
theorem fo_39 : FunOk Tryz.prog 3 39 := funOk_of Tryz.func39 (by kernel_rfl)
theorem fo_40 : FunOk Tryz.prog 3 40 := funOk_of Tryz.func40 (by kernel_rfl)
theorem fo_41 : FunOk Tryz.prog 3 41 := funOk_of Tryz.func41 (by kernel_rfl)
theorem fo_42 : FunOk Tryz.prog 3 42 := funOk_of Tryz.func42 (by kernel_rfl)
theorem fo_43 : FunOk Tryz.prog 3 43 := funOk_of Tryz.func43 (by kernel_rfl)
theorem fo_44 : FunOk Tryz.prog 3 44 := funOk_of Tryz.func44 (by kernel_rfl)
theorem fo_45 : FunOk Tryz.prog 3 45 := funOk_of Tryz.func45 (by kernel_rfl)
theorem fo_46 : FunOk Tryz.prog 3 46 := funOk_of Tryz.func46 (by kernel_rfl)
theorem fo_47 : FunOk Tryz.prog 3 47 := funOk_of Tryz.func47 (by kernel_rfl)
theorem fo_48 : FunOk Tryz.prog 3 48 := funOk_of Tryz.func48 (by kernel_rfl)
theorem fo_49 : FunOk Tryz.prog 3 49 := funOk_of Tryz.func49 (by kernel_rfl)
theorem fo_50 : FunOk Tryz.prog 3 50 := funOk_of Tryz.func50 (by kernel_rfl)
theorem fo_51 : FunOk Tryz.prog 3 51 := funOk_of Tryz.func51 (by kernel_rfl)
theorem fo_52 : FunOk Tryz.prog 3 52 := funOk_of Tryz.func52 (by kernel_rfl)
theorem fo_53 : FunOk Tryz.prog 3 53 := funOk_of Tryz.func53 (by kernel_rfl)
theorem fo_54 : FunOk Tryz.prog 3 54 := funOk_of Tryz.func54 (by kernel_rfl)
theorem fo_55 : FunOk Tryz.prog 3 55 := funOk_of Tryz.func55 (by kernel_rfl)
theorem fo_56 : FunOk Tryz.prog 3 56 := funOk_of Tryz.func56 (by kernel_rfl)
theorem fo_57 : FunOk Tryz.prog 3 57 := funOk_of Tryz.func57 (by kernel_rfl)
theorem fo_58 : FunOk Tryz.prog 3 58 := funOk_of Tryz.func58 (by kernel_rfl)
theorem fo_59 : FunOk Tryz.prog 3 59 := funOk_of Tryz.func59 (by kernel_rfl)
theorem fo_60 : FunOk Tryz.prog 3 60 := funOk_of Tryz.func60 (by kernel_rfl)
theorem fo_61 : FunOk Tryz.prog 3 61 := funOk_of Tryz.func61 (by kernel_rfl)
theorem fo_62 : FunOk Tryz.prog 3 62 := funOk_of Tryz.func62 (by kernel_rfl)
theorem fo_63 : FunOk Tryz.prog 3 63 := funOk_of Tryz.func63 (by kernel_rfl)
theorem fo_64 : FunOk Tryz.prog 3 64 := funOk_of Tryz.func64 (by kernel_rfl)
theorem fo_65 : FunOk Tryz.prog 3 65 := funOk_of Tryz.func65 (by kernel_rfl)
theorem fo_66 : FunOk Tryz.prog 3 66 := funOk_of Tryz.func66 (by kernel_rfl)
theorem fo_67 : FunOk Tryz.prog 3 67 := funOk_of Tryz.func67 (by kernel_rfl)
theorem fo_68 : FunOk Tryz.prog 3 68 := funOk_of Tryz.func68 (by kernel_rfl)
theorem fo_69 : FunOk Tryz.prog 3 69 := funOk_of Tryz.func69 (by kernel_rfl)
theorem fo_70 : FunOk Tryz.prog 3 70 := funOk_of Tryz.func70 (by kernel_rfl)
theorem fo_71 : FunOk Tryz.prog 3 71 := funOk_of Tryz.func71 (by kernel_rfl)
theorem fo_72 : FunOk Tryz.prog 3 72 := funOk_of Tryz.func72 (by kernel_rfl)
theorem fo_73 : FunOk Tryz.prog 3 73 := funOk_of Tryz.func73 (by kernel_rfl)
theorem fo_74 : FunOk Tryz.prog 3 74 := funOk_of Tryz.func74 (by kernel_rfl)
theorem fo_75 : FunOk Tryz.prog 3 75 := funOk_of Tryz.func75 (by kernel_rfl)
theorem fo_76 : FunOk Tryz.prog 3 76 := funOk_of Tryz.func76 (by kernel_rfl)
theorem fo_77 : FunOk Tryz.prog 3 77 := funOk_of Tryz.func77 (by kernel_rfl)
theorem fo_78 : FunOk Tryz.prog 3 78 := funOk_of Tryz.func78 (by kernel_rfl)
theorem fo_79 : FunOk Tryz.prog 3 79 := funOk_of Tryz.func79 (by kernel_rfl)
theorem fo_80 : FunOk Tryz.prog 3 80 := funOk_of Tryz.func80 (by kernel_rfl)
theorem fo_81 : FunOk Tryz.prog 3 81 := funOk_of Tryz.func81 (by kernel_rfl)
theorem fo_82 : FunOk Tryz.prog 3 82 := funOk_of Tryz.func82 (by kernel_rfl)
theorem fo_83 : FunOk Tryz.prog 3 83 := funOk_of Tryz.func83 (by kernel_rfl)
theorem fo_84 : FunOk Tryz.prog 3 84 := funOk_of Tryz.func84 (by kernel_rfl)
theorem fo_85 : FunOk Tryz.prog 3 85 := funOk_of Tryz.func85 (by kernel_rfl)
theorem fo_86 : FunOk Tryz.prog 3 86 := funOk_of Tryz.func86 (by kernel_rfl)
theorem fo_87 : FunOk Tryz.prog 3 87 := funOk_of Tryz.func87 (by kernel_rfl)
theorem fo_88 : FunOk Tryz.prog 3 88 := funOk_of Tryz.func88 (by kernel_rfl)
theorem fo_89 : FunOk Tryz.prog 3 89 := funOk_of Tryz.func89 (by kernel_rfl)
theorem fo_90 : FunOk Tryz.prog 3 90 := funOk_of Tryz.func90 (by kernel_rfl)
theorem fo_91 : FunOk Tryz.prog 3 91 := funOk_of Tryz.func91 (by kernel_rfl)
theorem fo_92 : FunOk Tryz.prog 3 92 := funOk_of Tryz.func92 (by kernel_rfl)
theorem fo_93 : FunOk Tryz.prog 3 93 := funOk_of Tryz.func93 (by kernel_rfl)
theorem fo_94 : FunOk Tryz.prog 3 94 := funOk_of Tryz.func94 (by kernel_rfl)
theorem fo_95 : FunOk Tryz.prog 3 95 := funOk_of Tryz.func95 (by kernel_rfl)
theorem fo_96 : FunOk Tryz.prog 3 96 := funOk_of Tryz.func96 (by kernel_rfl)
theorem fo_97 : FunOk Tryz.prog 3 97 := funOk_of Tryz.func97 (by kernel_rfl)
theorem fo_98 : FunOk Tryz.prog 3 98 := funOk_of Tryz.func98 (by kernel_rfl)
theorem fo_99 : FunOk Tryz.prog 3 99 := funOk_of Tryz.func99 (by kernel_rfl)
theorem fo_100 : FunOk Tryz.prog 3 100 := funOk_of Tryz.func100 (by kernel_rfl)
theorem fo_101 : FunOk Tryz.prog 3 101 := funOk_of Tryz.func101 (by kernel_rfl)
theorem fo_102 : FunOk Tryz.prog 3 102 := funOk_of Tryz.func102 (by kernel_rfl)
theorem fo_103 : FunOk Tryz.prog 3 103 := funOk_of Tryz.func103 (by kernel_rfl)
theorem fo_104 : FunOk Tryz.prog 3 104 := funOk_of Tryz.func104 (by kernel_rfl)
theorem fo_105 : FunOk Tryz.prog 3 105 := funOk_of Tryz.func105 (by kernel_rfl)
theorem fo_106 : FunOk Tryz.prog 3 106 := funOk_of Tryz.func106 (by kernel_rfl)
theorem fo_107 : FunOk Tryz.prog 3 107 := funOk_of Tryz.func107 (by kernel_rfl)
theorem fo_108 : FunOk Tryz.prog 3 108 := funOk_of Tryz.func108 (by kernel_rfl)
theorem fo_109 : FunOk Tryz.prog 3 109 := funOk_of Tryz.func109 (by kernel_rfl)
theorem fo_110 : FunOk Tryz.prog 3 110 := funOk_of Tryz.func110 (by kernel_rfl)
theorem fo_111 : FunOk Tryz.prog 3 111 := funOk_of Tryz.func111 (by kernel_rfl)
theorem fo_112 : FunOk Tryz.prog 3 112 := funOk_of Tryz.func112 (by kernel_rfl)
theorem fo_113 : FunOk Tryz.prog 3 113 := funOk_of Tryz.func113 (by kernel_rfl)
theorem fo_114 : FunOk Tryz.prog 3 114 := funOk_of Tryz.func114 (by kernel_rfl)
theorem fo_115 : FunOk Tryz.prog 3 115 := funOk_of Tryz.func115 (by kernel_rfl)
theorem fo_116 : FunOk Tryz.prog 3 116 := funOk_of Tryz.func116 (by kernel_rfl)
theorem fo_117 : FunOk Tryz.prog 3 117 := funOk_of Tryz.func117 (by kernel_rfl)
theorem fo_118 : FunOk Tryz.prog 3 118 := funOk_of Tryz.func118 (by kernel_rfl)
theorem fo_119 : FunOk Tryz.prog 3 119 := funOk_of Tryz.func119 (by kernel_rfl)
theorem fo_120 : FunOk Tryz.prog 3 120 := funOk_of Tryz.func120 (by kernel_rfl)
theorem fo_121 : FunOk Tryz.prog 3 121 := funOk_of Tryz.func121 (by kernel_rfl)
theorem fo_122 : FunOk Tryz.prog 3 122 := funOk_of Tryz.func122 (by kernel_rfl)
theorem fo_123 : FunOk Tryz.prog 3 123 := funOk_of Tryz.func123 (by kernel_rfl)
theorem fo_124 : FunOk Tryz.prog 3 124 := funOk_of Tryz.func124 (by kernel_rfl)
theorem fo_125 : FunOk Tryz.prog 3 125 := funOk_of Tryz.func125 (by kernel_rfl)
theorem fo_126 : FunOk Tryz.prog 3 126 := funOk_of Tryz.func126 (by kernel_rfl)
theorem fo_127 : FunOk Tryz.prog 3 127 := funOk_of Tryz.func127 (by kernel_rfl)
theorem fo_128 : FunOk Tryz.prog 3 128 := funOk_of Tryz.func128 (by kernel_rfl)
theorem fo_129 : FunOk Tryz.prog 3 129 := funOk_of Tryz.func129 (by kernel_rfl)
theorem fo_130 : FunOk Tryz.prog 3 130 := funOk_of Tryz.func130 (by kernel_rfl)
theorem fo_131 : FunOk Tryz.prog 3 131 := funOk_of Tryz.func131 (by kernel_rfl)
theorem fo_132 : FunOk Tryz.prog 3 132 := funOk_of Tryz.func132 (by kernel_rfl)
theorem fo_133 : FunOk Tryz.prog 3 133 := funOk_of Tryz.func133 (by kernel_rfl)
theorem fo_134 : FunOk Tryz.prog 3 134 := funOk_of Tryz.func134 (by kernel_rfl)
theorem fo_135 : FunOk Tryz.prog 3 135 := funOk_of Tryz.func135 (by kernel_rfl)
theorem fo_136 : FunOk Tryz.prog 3 136 := funOk_of Tryz.func136 (by kernel_rfl)
theorem fo_137 : FunOk Tryz.prog 3 137 := funOk_of Tryz.func137 (by kernel_rfl)
theorem fo_138 : FunOk Tryz.prog 3 138 := funOk_of Tryz.func138 (by kernel_rfl)
theorem fo_139 : FunOk Tryz.prog 3 139 := funOk_of Tryz.func139 (by kernel_rfl)
theorem fo_140 : FunOk Tryz.prog 3 140 := funOk_of Tryz.func140 (by kernel_rfl)
theorem fo_141 : FunOk Tryz.prog 3 141 := funOk_of Tryz.func141 (by kernel_rfl)
theorem fo_142 : FunOk Tryz.prog 3 142 := funOk_of Tryz.func142 (by kernel_rfl)
theorem fo_143 : FunOk Tryz.prog 3 143 := funOk_of Tryz.func143 (by kernel_rfl)
theorem fo_144 : FunOk Tryz.prog 3 144 := funOk_of Tryz.func144 (by kernel_rfl)
theorem fo_145 : FunOk Tryz.prog 3 145 := funOk_of Tryz.func145 (by kernel_rfl)
theorem fo_146 : FunOk Tryz.prog 3 146 := funOk_of Tryz.func146 (by kernel_rfl)
theorem fo_147 : FunOk Tryz.prog 3 147 := funOk_of Tryz.func147 (by kernel_rfl)
theorem fo_148 : FunOk Tryz.prog 3 148 := funOk_of Tryz.func148 (by kernel_rfl)
theorem fo_149 : FunOk Tryz.prog 3 149 := funOk_of Tryz.func149 (by kernel_rfl)
theorem fo_150 : FunOk Tryz.prog 3 150 := funOk_of Tryz.func150 (by kernel_rfl)
theorem fo_151 : FunOk Tryz.prog 3 151 := funOk_of Tryz.func151 (by kernel_rfl)
theorem fo_152 : FunOk Tryz.prog 3 152 := funOk_of Tryz.func152 (by kernel_rfl)
theorem fos_3 : ∀ f : Nat, 3 <= f -> f <= 27 -> FunOk Tryz.prog 3 f :=
 fun_step fo_3 <| fun_step fo_4 <| fun_step fo_5 <| fun_step fo_6 <| fun_step fo_7 <| fun_step fo_8 <| fun_step fo_9 <| fun_step fo_10 <| fun_step fo_11 <| fun_step fo_12 <| fun_step fo_13 <| fun_step fo_14 <| fun_step fo_15 <| fun_step fo_16 <| fun_step fo_17 <| fun_step fo_18 <| fun_step fo_19 <| fun_step fo_20 <| fun_step fo_21 <| fun_step fo_22 <| fun_step fo_23 <| fun_step fo_24 <| fun_step fo_25 <| fun_step fo_26 <| fun_step fo_27 <| fun f h1 h2 => absurd h1 (by omega)
theorem fos_28 : ∀ f : Nat, 28 <= f -> f <= 52 -> FunOk Tryz.prog 3 f :=
 fun_step fo_28 <| fun_step fo_29 <| fun_step fo_30 <| fun_step fo_31 <| fun_step fo_32 <| fun_step fo_33 <| fun_step fo_34 <| fun_step fo_35 <| fun_step fo_36 <| fun_step fo_37 <| fun_step fo_38 <| fun_step fo_39 <| fun_step fo_40 <| fun_step fo_41 <| fun_step fo_42 <| fun_step fo_43 <| fun_step fo_44 <| fun_step fo_45 <| fun_step fo_46 <| fun_step fo_47 <| fun_step fo_48 <| fun_step fo_49 <| fun_step fo_50 <| fun_step fo_51 <| fun_step fo_52 <| fun f h1 h2 => absurd h1 (by omega)
theorem fos_53 : ∀ f : Nat, 53 <= f -> f <= 77 -> FunOk Tryz.prog 3 f :=
 fun_step fo_53 <| fun_step fo_54 <| fun_step fo_55 <| fun_step fo_56 <| fun_step fo_57 <| fun_step fo_58 <| fun_step fo_59 <| fun_step fo_60 <| fun_step fo_61 <| fun_step fo_62 <| fun_step fo_63 <| fun_step fo_64 <| fun_step fo_65 <| fun_step fo_66 <| fun_step fo_67 <| fun_step fo_68 <| fun_step fo_69 <| fun_step fo_70 <| fun_step fo_71 <| fun_step fo_72 <| fun_step fo_73 <| fun_step fo_74 <| fun_step fo_75 <| fun_step fo_76 <| fun_step fo_77 <| fun f h1 h2 => absurd h1 (by omega)
theorem fos_78 : ∀ f : Nat, 78 <= f -> f <= 102 -> FunOk Tryz.prog 3 f :=
 fun_step fo_78 <| fun_step fo_79 <| fun_step fo_80 <| fun_step fo_81 <| fun_step fo_82 <| fun_step fo_83 <| fun_step fo_84 <| fun_step fo_85 <| fun_step fo_86 <| fun_step fo_87 <| fun_step fo_88 <| fun_step fo_89 <| fun_step fo_90 <| fun_step fo_91 <| fun_step fo_92 <| fun_step fo_93 <| fun_step fo_94 <| fun_step fo_95 <| fun_step fo_96 <| fun_step fo_97 <| fun_step fo_98 <| fun_step fo_99 <| fun_step fo_100 <| fun_step fo_101 <| fun_step fo_102 <| fun f h1 h2 => absurd h1 (by omega)
theorem fos_103 : ∀ f : Nat, 103 <= f -> f <= 127 -> FunOk Tryz.prog 3 f :=
 fun_step fo_103 <| fun_step fo_104 <| fun_step fo_105 <| fun_step fo_106 <| fun_step fo_107 <| fun_step fo_108 <| fun_step fo_109 <| fun_step fo_110 <| fun_step fo_111 <| fun_step fo_112 <| fun_step fo_113 <| fun_step fo_114 <| fun_step fo_115 <| fun_step fo_116 <| fun_step fo_117 <| fun_step fo_118 <| fun_step fo_119 <| fun_step fo_120 <| fun_step fo_121 <| fun_step fo_122 <| fun_step fo_123 <| fun_step fo_124 <| fun_step fo_125 <| fun_step fo_126 <| fun_step fo_127 <| fun f h1 h2 => absurd h1 (by omega)
theorem fos_128 : ∀ f : Nat, 128 <= f -> f <= 152 -> FunOk Tryz.prog 3 f :=
 fun_step fo_128 <| fun_step fo_129 <| fun_step fo_130 <| fun_step fo_131 <| fun_step fo_132 <| fun_step fo_133 <| fun_step fo_134 <| fun_step fo_135 <| fun_step fo_136 <| fun_step fo_137 <| fun_step fo_138 <| fun_step fo_139 <| fun_step fo_140 <| fun_step fo_141 <| fun_step fo_142 <| fun_step fo_143 <| fun_step fo_144 <| fun_step fo_145 <| fun_step fo_146 <| fun_step fo_147 <| fun_step fo_148 <| fun_step fo_149 <| fun_step fo_150 <| fun_step fo_151 <| fun_step fo_152 <| fun f h1 h2 => absurd h1 (by omega)
theorem fun_ok (f : Nat) (h : okS f = true) : FunOk Tryz.prog 3 f := by
 have h : 3 <= f /\ f <= 152 := by simpa [okS] using h
 by_cases b3 : f <= 27
 . exact fos_3 f (by omega) b3
 by_cases b28 : f <= 52
 . exact fos_28 f (by omega) b28
 by_cases b53 : f <= 77
 . exact fos_53 f (by omega) b53
 by_cases b78 : f <= 102
 . exact fos_78 f (by omega) b78
 by_cases b103 : f <= 127
 . exact fos_103 f (by omega) b103
 exact fos_128 f (by omega) (by omega)
end Go.Proofs.YtlakdngplpabdaaGreatDoor
namespace Go.Proofs.YtlakdngplpabdaaGreatDoor
open Go.Vm Go.Proofs Go.RowKit
set_option linter.unusedSimpArgs false
set_option linter.unusedVariables false
structure Hp where
 n : Nat
 al : Nat -> Bool
 c : Nat -> Nat -> Option Value
def hpO : HI Hp where
 next h := h.n
 cell h b o := if b < h.n /\ h.al b = true then h.c b o else none
 alive h b := decide (b < h.n) && h.al b
 put h b o v := { h with c := fun b' o' => if b' = b /\ o' = o then some v else h.c b' o' }
 new h cs := { n := h.n + 1, al := fun b => if b = h.n then true else h.al b, c := fun b o => if b = h.n then cs[o]? else h.c b o }
 kill h b := { h with al := fun b' => if b' = b then false else h.al b' }
theorem hpL : hpO.Law where
 next_put _ _ _ _ := rfl
 next_new _ _ := rfl
 next_kill _ _ := rfl
 cell_put h b o v x hx b' o' := by
  simp only [hpO] at hx ⊢
  by_cases hb : b < h.n /\ h.al b = true
  . by_cases e : b' = b /\ o' = o
    . obtain ⟨rfl, rfl⟩ := e
      simp [hb]
    . simp [e]
  . rw [if_neg hb] at hx; simp at hx
 cell_new h cs b o := by
  simp only [hpO]
  by_cases e : b = h.n
  . subst e; simp
  . have : b < h.n + 1 ↔ b < h.n := by omega
    simp [e, this]
 cell_kill h b b' o := by
  simp only [hpO]
  by_cases e : b' = b <;> simp [e]
 cell_alive h b o v hv := by
  simp only [hpO] at hv ⊢
  by_cases hb : b < h.n /\ h.al b = true
  . simp [hb]
  . rw [if_neg hb] at hv; simp at hv
 alive_lt h b hb := by
  simp only [hpO, Bool.and_eq_true, decide_eq_true_eq] at hb ⊢
  exact hb.1
 alive_put _ _ _ _ _ := rfl
 alive_new h cs b := by
  simp only [hpO]
  by_cases e : b = h.n
  . subst e; simp
  . have : b < h.n + 1 ↔ b < h.n := by omega
    simp [e, this]
 alive_kill h b b' := by
  simp only [hpO]
  by_cases e : b' = b <;> simp [e]
def hp0 (ops : List OpT) : Hp where
 n := 4
 al _ := true
 c b o := if b = 0 then (if o < 20 then some (.int .u64 ((10 ^ o : Nat) : Int)) else none) else if b = 3 then (ops[o / 5]?).bind (fun p => p.cells[o % 5]?) else none
def ow0 : Own := fun b => if b = 3 then (60, 1) else (60, 0)
theorem hp0_at (ops : List OpT) (i j : Nat) (hj : j < 5) : hpO.cell (hp0 ops) 3 (i * 5 + j) = (ops[i]?).bind (fun p => p.cells[j]?) := by
 have h1 : (i * 5 + j) / 5 = i := by omega
 have h2 : (i * 5 + j) % 5 = j := by omega
 simp [hpO, hp0, h1, h2]
theorem hp0_wk (ops : List OpT) : WK hpO 4 ow0 (hp0 ops) where
 g := ⟨rfl, rfl, fun i hi => by simp [hpO, hp0, hi]⟩
 cl b _ := by unfold ow0; split <;> simp
 lo := Nat.le_refl 4
theorem hp0_sc (ops : List OpT) : SC hpO ow0 (hp0 ops) (.slice (some ⟨3, 0, some 5⟩) ops.length 0) ops := by
 refine .inr ⟨3, 0, rfl, rfl, by show 3 < 4; omega, fun i hi => ?_⟩
 have e : ops[i]? = some ops[i] := List.getElem?_eq_getElem hi
 have h0 := hp0_at ops i 0 (by omega)
 have h1 := hp0_at ops i 1 (by omega)
 have h2 := hp0_at ops i 2 (by omega)
 have h3 := hp0_at ops i 3 (by omega)
 have h4 := hp0_at ops i 4 (by omega)
 rw [e] at h0 h1 h2 h3 h4
 simp only [OpT.cells, Option.bind_some, List.getElem?_cons_zero, List.getElem?_cons_succ, Nat.add_zero] at h0 h1 h2 h3 h4
 simp only [cellsA, h0, h1, h2, h3, h4, OpT.cells]
theorem op_cells {o : OpT} {j : Nat} {v : Value} (h : o.cells[j]? = some v) : (∃ n, v = .int .i64 n) \/ ∃ s, v = .string s := by
 match j, h with
 | 0, h | 1, h | 2, h | 3, h => simp [OpT.cells] at h; exact .inl ⟨_, h.symm⟩
 | 4, h => simp [OpT.cells] at h; exact .inr ⟨_, h.symm⟩
 | j + 5, h => simp [OpT.cells] at h
theorem rel0 {W : World} {t0 t1 t2 cs : Array Value} {e0 e1 e2 es : TypeId} {z0 z1 z2 zs : Nat × Nat} {blk off : Nat} {ops : List OpT}
 (h0 : W.heap[0]? = some (.cells t0 e0 z0)) (h1 : W.heap[1]? = some (.cells t1 e1 z1)) (h2 : W.heap[2]? = some (.cells t2 e2 z2)) (hs : W.heap[blk]? = some (.cells cs es zs))
 (ht : ∀ i, i < 20 -> t0[i]? = some (.int .u64 ((10 ^ i : Nat) : Int)))
 (hc : ∀ (i : Nat) (o : OpT), ops[i]? = some o -> ∀ (j : Nat) v, o.cells[j]? = some v -> cs[off + (i * 5 + j)]? = some v) :
 Rel hpO 3 4 W [⟨0, 0, t0.size⟩, ⟨1, 0, t1.size⟩, ⟨2, 0, t2.size⟩, ⟨blk, off, cs.size⟩] (hp0 ops) W where
 len := rfl
 below := Below.refl _ _
 glob g hg := by
  match g, hg with
  | 0, _ => exact ⟨_, rfl, rfl, rfl⟩
  | 1, _ => exact ⟨_, rfl, rfl, rfl⟩
  | 2, _ => exact ⟨_, rfl, rfl, rfl⟩
 own b p hb hr := by
  have := (List.getElem?_eq_some_iff.1 hb).1
  simp at this
  omega
 cells b p hb := by
  match b, hb with
  | 0, hb =>
   simp at hb; subst hb
   refine ⟨t0, e0, z0, h0, rfl, fun h => by omega, fun o v hv => ?_⟩
   simp only [hpO, hp0] at hv
   by_cases ho : o < 20
   . simp [ho] at hv
     subst hv
     exact ⟨_, by simpa using ht o ho, by simp [SR]⟩
   . simp [ho] at hv
  | 1, hb =>
   simp at hb; subst hb
   exact ⟨t1, e1, z1, h1, rfl, fun h => by omega, fun o v hv => by simp [hpO, hp0] at hv⟩
  | 2, hb =>
   simp at hb; subst hb
   exact ⟨t2, e2, z2, h2, rfl, fun h => by omega, fun o v hv => by simp [hpO, hp0] at hv⟩
  | 3, hb =>
   simp at hb; subst hb
   refine ⟨cs, es, zs, hs, rfl, fun h => by omega, fun o v hv => ?_⟩
   simp [hpO, hp0, Option.bind_eq_some_iff] at hv
   obtain ⟨p, hp, hv⟩ := hv
   have := hc _ _ hp _ _ hv
   rw [show o / 5 * 5 + o % 5 = o by omega] at this
   refine ⟨v, this, ?_⟩
   rcases op_cells hv with ⟨n, rfl⟩ | ⟨s, rfl⟩ <;> simp [SR]
  | b + 4, hb => simp at hb
 inj b b' p p' hb _ _ _ hr _ := by
  have := (List.getElem?_eq_some_iff.1 hb).1
  simp at this
  omega
 ro_le := Nat.le_refl 4
def LawOk (f : FuncId) : Prop := ∀ (c : CallT Hp), Lim Tryz.prog hpO 4 okS c -> ∀ (w : Own) (h : Hp) (sv : Value) (ops : List OpT), WK hpO 4 w h -> SC hpO w h sv ops -> ops.length < 9000000 -> (∀ o ∈ ops, OpOk o) -> ∃ h', c f [sv] h = some (.bool true, h')
theorem mixed : Tryz.prog.follows .mixedOrders = true := by kernel_rfl
def Scr (W : World) (v : Value) (ops : List OpT) : Prop :=
 (v = .slice none 0 0 /\ ops = []) \/ ∃ blk off cap cs es zs, v = .slice (some ⟨blk, off, none⟩) ops.length cap /\ ops.length <= cap /\ W.heap[blk]? = some (.cells cs es zs) /\ off + cap * 5 <= cs.size /\
  ∀ (i : Nat) (o : OpT), ops[i]? = some o -> ∀ (j : Nat) u, o.cells[j]? = some u -> cs[off + (i * 5 + j)]? = some u
def Tabs (W : World) : Prop := ∃ t0 e0 z0 t1 e1 z1 t2 e2 z2, W.heap[0]? = some (.cells t0 e0 z0) /\ W.heap[1]? = some (.cells t1 e1 z1) /\ W.heap[2]? = some (.cells t2 e2 z2) /\ ∀ i, i < 20 -> t0[i]? = some (.int .u64 ((10 ^ i : Nat) : Int))
theorem law_calls {f : FuncId} (hl : LawOk f) {W : World} {v : Value} {ops : List OpT} (ht : Tabs W) (hs : Scr W v ops) (hn : ops.length < 9000000) (ho : ∀ o ∈ ops, OpOk o) :
 Calls Tryz.prog f #[v] W fun e w' => e = .returned (.bool true) /\ Below W.heap.size W w' := by
 obtain ⟨c, C⟩ := exists_lim Tryz.prog hpO 4 okS
 obtain ⟨t0, e0, z0, t1, e1, z1, t2, e2, z2, h0, h1, h2, ht⟩ := ht
 have key : ∃ sv β, Rel hpO 3 4 W β (hp0 ops) W /\ SC hpO ow0 (hp0 ops) sv ops /\ VR β sv v := by
  rcases hs with ⟨rfl, rfl⟩ | ⟨blk, off, cap, cs, es, zs, rfl, hle, hb, hsz, hc⟩
  . exact ⟨.slice none 0 0, _, rel0 (off := 0) h0 h1 h2 h0 ht (fun i o h => by simp at h), .inl ⟨rfl, rfl⟩, rfl, rfl, rfl⟩
  . refine ⟨.slice (some ⟨3, 0, some 5⟩) ops.length 0, _, rel0 h0 h1 h2 hb ht hc, hp0_sc ops, ?_⟩
    exact ⟨⟨blk, off, cs.size⟩, cap, 5, rfl, rfl, rfl, hle, hsz, fun h => absurd rfl h⟩
 obtain ⟨sv, β, hr, hsc, hv⟩ := key
 obtain ⟨h', e⟩ := hl c C ow0 (hp0 ops) sv ops (hp0_wk ops) hsc hn ho
 have hev := C.sound _ _ _ _ _ e
 refine (EvF.calls hpL mixed fun_ok hr (LR.cons hv (LR.nil _)) hev).mono fun e w' ⟨v', β', he, _, hr', hv'⟩ => ?_
 subst he
 have hv'' : v' = .bool true := hv'
 subst hv''
 exact ⟨rfl, hr'.below⟩
theorem law3 : LawOk 3 := fun c C w h sv ops k x hn ho => let ⟨_, h', e, _⟩ := reads_l C hpL k x hn ho; ⟨h', e⟩
theorem law4 : LawOk 4 := fun c C w h sv ops k x hn ho => let ⟨_, h', e, _⟩ := prints_l C hpL k x hn ho; ⟨h', e⟩
theorem law5 : LawOk 5 := fun c C w h sv ops k x hn ho => let ⟨_, h', e, _⟩ := steps_l C hpL k x hn ho; ⟨h', e⟩
end Go.Proofs.YtlakdngplpabdaaGreatDoor
