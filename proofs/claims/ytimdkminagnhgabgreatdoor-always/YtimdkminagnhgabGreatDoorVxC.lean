/-
  What code for the kernel comes to, the plain functions come to. Own work.
-/
import Derived.Test.YtimdkminagnhgabGreatDoorVxB
namespace Go.Vm
set_option linter.unusedSimpArgs false
set_option linter.unusedVariables false

theorem look_lt {d : Nat} {t : Tr Value d} {i : Nat} (h : i < 8 ^ d) : look d t i = tget d t i := by
  have e : Nat.blt i (Nat.pow 8 d) = true := by rw [blt_eq]; exact decide_eq_true h
  simp only [look, e, cond_true]
theorem look_set {d : Nat} {t : Tr Value d} {i : Nat} {v : Value} (h : i < 8 ^ d) : look d (tset d t i v) = upd (look d t) i v := by
  funext j
  by_cases hj : j < 8 ^ d
  · rw [look_lt hj, tget_tset d t i j v h hj, upd_get, look_lt hj]
  · have e : Nat.blt j (Nat.pow 8 d) = false := by rw [blt_eq]; exact decide_eq_false hj
    have : ¬ j = i := by omega
    simp only [look, e, upd_get, this, cond_false, if_false]
theorem opS_eq {d : Nat} {A : Acc d} {t : Tr Value d} {x : Operand} (h : inT (8 ^ d) x = true) : opS A x t = ev (look d t) x := by
  cases x with
  | tmp i =>
    simp only [opS, A.get_eq]
    exact (look_lt (by simpa [inT] using h)).symm
  | _ => rfl
theorem get_look {d : Nat} {A : Acc d} {t : Tr Value d} {i : Nat} (h : i < 8 ^ d) : A.get i t = look d t i := by
  rw [A.get_eq]; exact (look_lt h).symm
theorem put_look {d : Nat} {A : Acc d} {t : Tr Value d} {i : Nat} {v : Value} {k : Tr Value d → RS d} : A.put i t v k = k (tset d t i v) := by
  rw [A.put_eq]; exact tput_eq d t i v k

/- Operations that call nothing do not look at calls. -/
def Blind {H : Type} (a : ActT H) : Prop := ∀ c c' t h, a c t h = a c' t h

section
variable {P : Program} {H : Type} {O : HI H} {ro : Nat}

theorem actOf_le {c c' : CallT H} (hc : CallLe c c') {env : Env} {op : Op} {h : H} {r : Value × H} (ho : actOf O P ro op c env h = some r) : actOf O P ro op c' env h = some r := by
  have key : (∃ f args tys, op = .call ⟨.value (.func f), args, tys⟩) ∨ Blind (actOf O P ro op) := by
    cases op with
    | call cl =>
      obtain ⟨cal, args, tys⟩ := cl
      cases cal with
      | value f =>
        cases f with
        | func f => exact .inl ⟨f, args, tys, rfl⟩
        | _ => exact .inr fun _ _ _ _ => rfl
      | invoke q m => exact .inr fun _ _ _ _ => rfl
      | builtin b =>
        refine .inr ?_
        cases b <;> simp only [actOf] <;> (repeat' split) <;> exact fun _ _ _ _ => rfl
    | _ =>
      refine .inr ?_
      simp only [actOf]
      first | exact fun _ _ _ _ => rfl | ((repeat' split) <;> exact fun _ _ _ _ => rfl)
  rcases key with ⟨f, args, tys, rfl⟩ | hb
  · exact hc _ _ _ _ ho
  · rw [hb c' c]; exact ho
end

section
variable {P : Program} {ro d : Nat} {A : Acc d} {cs c : CallT HpT}

theorem fb_le (hc : CallLe cs c) {op : Op} {t : Tr Value d} {h : HpT} {r : Value × HpT} (hv : fb (actOf tO P ro op) cs t h = some r) : actOf tO P ro op c (look d t) h = some r := by
  unfold fb at hv
  split at hv
  · rename_i v h' e
    rw [fAny_eq] at hv
    rw [← hv]
    exact actOf_le hc e
  · simp at hv

theorem aInt_V (op : BinOp) (x y : Operand) (c : CallT HpT) (env : Env) (h : HpT) : aInt op x y c env h = intV op (ev env x) (ev env y) h := by
  unfold aInt intV
  rfl
theorem hst_eq (h : HpT) (b o : Nat) (v : Value) : hst h b o v = (match tO.cell h b o with | some _ => some (undef, tO.put h b o v) | none => none) := by
  simp only [hst, tO]
  cases Nat.blt b h.n with
  | false => rfl
  | true =>
    simp only [cond_true]
    cases hblk h b with
    | none => rfl
    | some l =>
      simp only
      cases nthS l o with
      | none => rfl
      | some x => simp only [lput_eq]

theorem vSt_le {p x : Operand} {env : Env} {h : HpT} {r : Value × HpT} (hv : vSt ro (ev env p) (ev env x) h = some r) : aSt tO ro 1 p x c env h = some r := by
  unfold vSt at hv
  unfold aSt
  split at hv
  · rename_i b o s hp
    rw [hp]
    simp only
    rw [blt_eq] at hv
    by_cases hb : b < ro
    · simp [hb] at hv
    · simp only [hb, decide_false, cond_false] at hv
      rw [if_neg hb]
      split at hv
      · simp at hv
      · simp at hv
      · rename_i h1 h2
        have hc : (ev env x).cells = #[ev env x] ∧ isFlat (ev env x) = true := by
          cases hx : ev env x <;> first | exact ⟨rfl, rfl⟩ | (exact absurd hx (h1 _)) | (exact absurd hx (h2 _))
        rw [hc.1]
        rw [if_pos ⟨rfl, by simp [hc.2]⟩]
        rw [hst_eq] at hv
        simp only [putsA]
        cases hq : tO.cell h b o with
        | none => rw [hq] at hv; simp at hv
        | some y => rw [hq] at hv; exact hv
  · simp at hv

theorem apl_eq {t : Tr Value d} : ∀ (l : List Operand), (∀ x ∈ l, inT (8 ^ d) x = true) → aplOf A l t = l.map (ev (look d t)) := by
  intro l
  induction l with
  | nil => intro _; rfl
  | cons x l ih =>
    intro hl
    simp only [List.map_cons, aplOf, ac]
    rw [opS_eq (hl x (by simp)), ih (fun y hy => hl y (by simp [hy]))]

theorem drp_eq {α : Type} (l : List α) (o : Nat) : drp l o = l.drop o := by
  unfold drp
  induction o generalizing l with
  | zero => rfl
  | succ o ih => cases l with
    | nil => exact (ih (tl [])).trans (by simp [tl])
    | cons x r => exact (ih r).trans (by simp)
theorem takA_le {α R : Type} {n : Nat} {l rest : List α} {k : List α → Option R} {r : R} (h : takA n l rest k = some r) : ∃ p, p.length = n ∧ l.take n = p ∧ k (p ++ rest) = some r := by
  unfold takA at h
  induction n generalizing l k with
  | zero => exact ⟨[], rfl, by simp, h⟩
  | succ n ih => cases l with
    | nil => exact absurd h (by simp)
    | cons x q =>
      obtain ⟨p, h1, h2, h3⟩ := ih (k := fun r => k (x :: r)) h
      exact ⟨x :: p, by simp [h1], by simp [h2], h3⟩
theorem cells_of {h : HpT} {b : Nat} {l : List Value} (hb : b < h.n) (hl : hblk h b = some l) : ∀ (n o : Nat) (p : List Value), p.length = n → (l.drop o).take n = p → cellsA tO h b o n = some p := by
  intro n
  induction n with
  | zero => intro o p h1 h2; simp at h1; subst h1; rfl
  | succ n ih =>
    intro o p h1 h2
    cases p with
    | nil => simp at h1
    | cons x p =>
      have hx : l[o]? = some x := by
        have : ((l.drop o).take (n + 1))[0]? = some x := by rw [h2]; rfl
        rw [List.getElem?_take_of_lt (by omega), List.getElem?_drop] at this
        simpa using this
      have hc : tO.cell h b o = some x := by
        have e : Nat.blt b h.n = true := by rw [blt_eq]; exact decide_eq_true hb
        simp only [tO, e, cond_true, hl, nthS_eq, hx]
      have hol := (List.getElem?_eq_some_iff.1 hx).1
      have hr : (l.drop (o + 1)).take n = p := by
        rw [List.drop_eq_getElem_cons hol, List.take_succ_cons] at h2
        exact (List.cons.inj h2).2
      simp only [cellsA, hc, ih (o + 1) p (by simpa using h1) hr]

theorem newK_le {h : HpT} {x : Option Addr} {n sz : Nat} {k : List Value → Option (Value × HpT)} {r : Value × HpT} (hv : newK h x n sz k = some r) :
    ∃ new, (match x with | some b => cellsA tO h b.block b.off (n * sz) | none => if n = 0 then some [] else none) = some new ∧ k new = some r := by
  unfold newK at hv
  cases x with
  | none =>
    simp only [beq_eq] at hv
    by_cases hn : n = 0
    · subst hn; exact ⟨[], by simp, by simpa using hv⟩
    · simp [hn] at hv
  | some a =>
    obtain ⟨b, o, s⟩ := a
    simp only [blt_eq] at hv
    by_cases hb : b < h.n
    · simp only [hb, decide_true, cond_true] at hv
      cases hl : hblk h b with
      | none => rw [hl] at hv; simp at hv
      | some l =>
        rw [hl] at hv
        obtain ⟨p, h1, h2, h3⟩ := takA_le hv
        rw [drp_eq] at h2
        exact ⟨p, cells_of hb hl _ o p h1 h2, by simpa using h3⟩
    · simp [hb] at hv

theorem vApp_le {ro sz bytes : Nat} {s x : Value} {h : HpT} {r : Value × HpT} (hv : vApp ro sz bytes s x h = some r) : appI tO ro sz bytes s x h = some r := by
  cases s with
  | slice base len cap =>
    cases x with
    | slice b' n xc =>
      simp only [vApp] at hv
      cases hg : (Nat.ble (Nat.mul (Nat.add len n) bytes) 140737488355328 && Nat.ble (Nat.add len n) 140737488355328) with
      | false => rw [hg] at hv; simp at hv
      | true =>
        rw [hg] at hv
        simp only [cond_true] at hv
        simp only [Bool.and_eq_true] at hg
        have g1 : (len + n) * bytes ≤ 140737488355328 := Nat.le_of_ble_eq_true hg.1
        have g2 : len + n ≤ 140737488355328 := Nat.le_of_ble_eq_true hg.2
        clear hg
        obtain ⟨new, hnew, hk⟩ := newK_le hv
        have hif : ¬ ((len + n) * bytes > 140737488355328 ∨ len + n > 140737488355328) := by omega
        rcases b' with _ | a'
        all_goals
          simp only at hnew
          cases base with
          | none =>
            simp only [appI, if_neg hif, hnew]
            simp only [beq_eq, newQ_eq] at hk
            by_cases h1 : len = 0
            · by_cases h2 : cap = 0
              · by_cases h3 : n = 0
                · simpa [h1, h2, h3] using hk
                · simp only [h1, h2, h3, decide_true, decide_false, Bool.and_self, cond_true, cond_false] at hk
                  simp only [h1, h2, h3, and_self, if_true, if_false]
                  exact hk
              · simp [h2] at hk
            · simp [h1] at hk
          | some a =>
            obtain ⟨b, o, sp⟩ := a
            simp only [blt_eq] at hk
            by_cases hb : b < ro
            · simp [hb] at hk
            · simp only [hb, decide_false, cond_false] at hk
              cases sp with
              | none => simp at hk
              | some z =>
                simp only at hk
                cases hg : (Nat.beq z sz && Nat.beq cap 0 && decide (b < h.n)) with
                | false =>
                  rw [hg] at hk
                  simp only [cond_false] at hk
                  split at hk
                  · rename_i v h' e
                    rw [fVal_eq] at hk
                    rw [e, ← hk]
                  · simp at hk
                | true =>
                  rw [hg] at hk
                  simp only [Bool.and_eq_true, beq_eq, decide_eq_true_eq] at hg
                  obtain ⟨⟨rfl, rfl⟩, hbn⟩ := hg
                  simp only [cond_true] at hk
                  cases hl : hblk h b with
                  | none => rw [hl] at hk; simp at hk
                  | some l =>
                    rw [hl] at hk
                    obtain ⟨p, h1, h2, h3⟩ := takA_le hk
                    rw [drp_eq] at h2
                    have hc := cells_of hbn hl _ o p h1 h2
                    have hc' : cellsA tO h b o (len * z) = some p := hc
                    have hal : tO.alive h b = true := by
                      have e : Nat.blt b h.n = true := by rw [blt_eq]; exact decide_eq_true hbn
                      simp only [tO, e, cond_true, hl]
                    rw [fNat_eq, newK2_eq] at h3
                    simp only [appI, if_neg hif, hnew, if_neg hb, hal, and_self, if_true, hc']
                    exact h3
    | _ => simp [vApp] at hv
  | _ => simp [vApp] at hv

theorem actS_le (hc : CallLe cs c) {op : Op} {t : Tr Value d} {h : HpT} {r : Value × HpT} (hin : ∀ x ∈ opnds op, inT (8 ^ d) x = true) (hv : actS A P ro op cs t h = some r) : actOf tO P ro op c (look d t) h = some r := by
  cases op with
  | move x =>
    simp only [actS, s1, vMove, fShal_eq, opS_eq (hin x (by simp [opnds, Op.operands]))] at hv
    exact hv
  | assign x =>
    simp only [actS, s1, vMove, fShal_eq, opS_eq (hin x (by simp [opnds, Op.operands]))] at hv
    exact hv
  | nilCheck x =>
    simp only [actS, s1, opS_eq (hin x (by simp [opnds, Op.operands]))] at hv
    exact hv
  | binOp o ty x y w =>
    have hx := opS_eq (A := A) (t := t) (hin x (by simp [opnds, Op.operands]))
    have hy := opS_eq (A := A) (t := t) (hin y (by simp [opnds, Op.operands]))
    have gen : (∀ cs t h, actS A P ro (.binOp o ty x y w) cs t h = (match P.underlying ty with | some (.int _) => s2 (vIntS o) (opS A x) (opS A y) | _ => fb (actOf tO P ro (.binOp o ty x y w))) cs t h) → (∀ k, P.underlying ty = some (.int k) → actOf tO P ro (.binOp o ty x y w) = aInt o x y) → actOf tO P ro (.binOp o ty x y w) c (look d t) h = some r := by
      intro h1 h2
      rw [h1] at hv
      cases hu : P.underlying ty with
      | none => rw [hu] at hv; exact fb_le hc hv
      | some k =>
        rw [hu] at hv
        cases k with
        | int k =>
          simp only [s2, hx, hy] at hv
          rw [h2 k hu, aInt_V]
          exact vIntS_le hv
        | _ => exact fb_le hc hv
    cases o with
    | shl => exact fb_le hc hv
    | shr => exact fb_le hc hv
    | _ => exact gen (fun _ _ _ => rfl) (fun k hu => by simp only [actOf, hu])
  | fieldAddr s x f =>
    have hx := opS_eq (A := A) (t := t) (hin x (by simp [opnds, Op.operands]))
    simp only [actS] at hv
    cases hu : P.underlying s with
    | none => rw [hu] at hv; exact fb_le hc hv
    | some k =>
      rw [hu] at hv
      cases k with
      | struct fs =>
        simp only at hv
        cases hf : fs[f]? with
        | none => rw [hf] at hv; exact fb_le hc hv
        | some fd =>
          rw [hf] at hv
          simp only at hv
          cases hi : P.info? fd.type with
          | none => rw [hi] at hv; exact fb_le hc hv
          | some i =>
            rw [hi] at hv
            simp only at hv
            by_cases hz : i.size = 0
            · rw [if_pos hz] at hv; exact fb_le hc hv
            · rw [if_neg hz] at hv
              have e : actOf tO P ro (.fieldAddr s x f) = aFld fd.offset x := by simp only [actOf, hu, hf, hi, hz, if_false]
              rw [e]
              simp only [s1, hx] at hv
              unfold vFld at hv
              unfold aFld
              split at hv
              · rename_i b o s2 he
                rw [fNat_eq] at hv
                rw [he]
                exact hv
              · simp at hv
      | _ => exact fb_le hc hv
  | indexAddr ty x ix =>
    have hx := opS_eq (A := A) (t := t) (hin x (by simp [opnds, Op.operands]))
    have hy := opS_eq (A := A) (t := t) (hin ix (by simp [opnds, Op.operands]))
    simp only [actS] at hv
    cases hu : P.underlying ty with
    | none => rw [hu] at hv; exact fb_le hc hv
    | some k =>
      rw [hu] at hv
      cases k with
      | slice e =>
        simp only at hv
        cases hi : P.info? e with
        | none => rw [hi] at hv; exact fb_le hc hv
        | some i =>
          rw [hi] at hv
          have e : actOf tO P ro (.indexAddr ty x ix) = aIdx i.size x ix := by simp only [actOf, hu, hi]
          rw [e]
          simp only [s2, hx, hy] at hv
          unfold vIdx at hv
          unfold aIdx
          split at hv
          · rename_i b o s2 len cap he
            rw [he]
            split at hv
            · rename_i k j hj
              rw [hj]
              rw [blt_eq] at hv
              by_cases hlt : j < len
              · simp only [hlt, decide_true, cond_true, fNat_eq] at hv
                have : (0 : Int) ≤ Int.ofNat j ∧ Int.ofNat j < (len : Int) := ⟨Int.natCast_nonneg j, Int.ofNat_lt.2 hlt⟩
                simp only [this, and_self, if_true]
                exact hv
              · simp [hlt] at hv
            · simp at hv
          · simp at hv
      | _ => exact fb_le hc hv
  | load ty a =>
    have hx := opS_eq (A := A) (t := t) (hin a (by simp [opnds, Op.operands]))
    simp only [actS] at hv
    cases h1 : isAggT P ty with
    | none => rw [h1] at hv; exact fb_le hc hv
    | some ag =>
      rw [h1] at hv
      cases ag with
      | true =>
        cases h2 : P.info? ty with
        | none => rw [h2] at hv; exact fb_le hc hv
        | some i =>
          rw [h2] at hv
          have e : actOf tO P ro (.load ty a) = aLdN tO i.size a := by simp only [actOf, h1, h2]
          rw [e]
          simp only [s1, hx] at hv
          unfold vLdN at hv
          unfold aLdN
          split at hv
          · rename_i b o s2 he
            rw [he]
            rw [blt_eq] at hv
            by_cases hb : b < h.n
            · simp only [hb, decide_true, cond_true] at hv
              cases hl : hblk h b with
              | none => rw [hl] at hv; simp at hv
              | some l =>
                rw [hl] at hv
                obtain ⟨p, k1, k2, k3⟩ := takA_le hv
                rw [drp_eq] at k2
                have hcc := cells_of hb hl _ o p k1 k2
                simp only [hcc, Option.map_some]
                simpa using k3
            · simp [hb] at hv
          · simp at hv
      | false =>
        cases h2 : P.info? ty with
        | none => rw [h2] at hv; exact fb_le hc hv
        | some i =>
          rw [h2] at hv
          have e : actOf tO P ro (.load ty a) = aLd tO a := by simp only [actOf, h1, h2]
          rw [e]
          simp only [s1, hx] at hv
          unfold vLd at hv
          unfold aLd
          split at hv
          · rename_i b o s2 he
            rw [he]
            show ((hcell h b o).map fun v => (v, h)) = some r
            cases hq : hcell h b o with
            | none => rw [hq] at hv; simp at hv
            | some v => rw [hq] at hv; exact hv
          · simp at hv
  | store ty a x =>
    have hx := opS_eq (A := A) (t := t) (hin a (by simp [opnds, Op.operands]))
    have hy := opS_eq (A := A) (t := t) (hin x (by simp [opnds, Op.operands]))
    simp only [actS] at hv
    cases hi : P.info? ty with
    | none => rw [hi] at hv; exact fb_le hc hv
    | some i =>
      rw [hi] at hv
      simp only at hv
      by_cases h1 : i.size = 1
      · rw [if_pos h1] at hv
        have e : actOf tO P ro (.store ty a x) = aSt tO ro 1 a x := by simp only [actOf, hi, h1]
        rw [e]
        simp only [s2, hx, hy] at hv
        exact vSt_le hv
      · rw [if_neg h1] at hv; exact fb_le hc hv
  | extract x i =>
    have hx := opS_eq (A := A) (t := t) (hin x (by simp [opnds, Op.operands]))
    simp only [actS, s1, hx] at hv
    show aExt x i c (look d t) h = some r
    unfold vExt at hv
    unfold aExt
    split at hv
    · rename_i l he
      rw [he]
      rw [nth_eq] at hv
      simp only [List.getElem?_toArray]
      cases hq : l[i]? with
      | none => rw [hq] at hv; simp at hv
      | some v => rw [hq] at hv; exact hv
    · simp at hv
  | call cl =>
    obtain ⟨cal, args, tys⟩ := cl
    cases cal with
    | value f =>
      cases f with
      | func f =>
        have hv' : cs f (aplOf A args.toList t) h = some r := hv
        rw [apl_eq args.toList (fun x hx => hin x (by simpa [opnds] using hx))] at hv'
        exact hc _ _ _ _ hv'
      | _ => exact fb_le hc hv
    | invoke q m => exact fb_le hc hv
    | builtin b =>
      cases b with
      | len =>
        simp only [actS] at hv
        cases h1 : tys.toList with
        | nil => rw [h1] at hv; exact fb_le hc hv
        | cons ty tl =>
          rw [h1] at hv
          cases h2 : args.toList with
          | nil => rw [h2] at hv; exact fb_le hc hv
          | cons x xl =>
            rw [h2] at hv
            simp only at hv
            have hx := opS_eq (A := A) (t := t) (hin x (by
              have : x ∈ args.toList := by rw [h2]; simp
              simpa [opnds] using this))
            cases hu : P.underlying ty with
            | none => rw [hu] at hv; exact fb_le hc hv
            | some k =>
              rw [hu] at hv
              cases k with
              | string =>
                have e : actOf tO P ro (.call ⟨.builtin .len, args, tys⟩) = aLenStr x := by simp only [actOf, h1, h2, hu]
                rw [e]
                simp only [s1, hx] at hv
                unfold vLenStr at hv
                unfold aLenStr
                split at hv
                · rename_i s he
                  rw [he]
                  rw [fNat_eq] at hv
                  exact hv
                · simp at hv
              | slice e' =>
                have e : actOf tO P ro (.call ⟨.builtin .len, args, tys⟩) = aLenSl x := by simp only [actOf, h1, h2, hu]
                rw [e]
                simp only [s1, hx] at hv
                unfold vLenSl at hv
                unfold aLenSl
                split at hv
                · rename_i a n cp he
                  rw [he]
                  exact hv
                · simp at hv
              | _ => exact fb_le hc hv
      | append =>
        simp only [actS] at hv
        rcases hT : tys.toList with _ | ⟨ty, _ | ⟨u, _ | ⟨w, tl⟩⟩⟩
        · rw [hT] at hv; exact fb_le hc hv
        · rw [hT] at hv; exact fb_le hc hv
        · rw [hT] at hv
          rcases hA : args.toList with _ | ⟨x, _ | ⟨y, _ | ⟨w, tl⟩⟩⟩
          · rw [hA] at hv; exact fb_le hc hv
          · rw [hA] at hv; exact fb_le hc hv
          · rw [hA] at hv
            simp only at hv
            have hx := opS_eq (A := A) (t := t) (hin x (by
              have : x ∈ args.toList := by rw [hA]; simp
              simpa [opnds] using this))
            have hy := opS_eq (A := A) (t := t) (hin y (by
              have : y ∈ args.toList := by rw [hA]; simp
              simpa [opnds] using this))
            by_cases htu : ty = u
            · subst htu
              simp only [if_true] at hv
              cases hu : P.underlying ty with
              | none => rw [hu] at hv; exact fb_le hc hv
              | some k =>
                rw [hu] at hv
                cases k with
                | slice e =>
                  simp only at hv
                  cases hi : P.info? e with
                  | none => rw [hi] at hv; exact fb_le hc hv
                  | some i =>
                    rw [hi] at hv
                    simp only at hv
                    by_cases hz : (i.zero.map fun z => z.cells.size) = some i.size
                    · rw [if_pos hz] at hv
                      simp only [s2, hx, hy] at hv
                      have e : actOf tO P ro (.call ⟨.builtin .append, args, tys⟩) = aApp tO ro i.size i.bytes x y := by simp only [actOf, hT, hA, if_true, hu, hi, hz]
                      rw [e]
                      exact vApp_le hv
                    · rw [if_neg hz] at hv; exact fb_le hc hv
                | _ => exact fb_le hc hv
            · rw [if_neg htu] at hv; exact fb_le hc hv
          · rw [hA] at hv; exact fb_le hc hv
        · rw [hT] at hv; exact fb_le hc hv
      | _ => exact fb_le hc hv
  | _ => exact fb_le hc hv
end
end Go.Vm
