/-
  Each operation for the kernel comes to what the plain semantics' operation comes to. Own work.
-/
import Derived.Test.YtimdkminagnhgaaGreatDoorVyB
namespace Go.Vm
set_option linter.unusedSimpArgs false
set_option linter.unusedVariables false

section
variable {R : Type} {P : Program} {ro : Nat} {cs c : CallT HpT}

theorem op_of_act {op op' : Op} {ρ : Operand → Value} {h : HpT} {v : Value} {h' : HpT} (hm : mapOp (fun x => .const (ρ x)) op = some op') (ha : actOf tO P ro op' c (fun _ => undef) h = some (v, h')) : opA P tO ro c ρ op h = some (v, h') := by
  have h1 := act_sound (t := #[]) (P := P) (O := tO) (ro := ro) (call := c) (env := fun i => evalT #[] (.tmp i)) (op := op') (h := h) (r := (v, h')) (fun x _ => by cases x <;> rfl) (by
    have : (fun i => evalT #[] (.tmp i)) = fun _ => undef := by funext i; simp [evalT]
    rw [this]
    exact ha)
  rw [opA_map (fun v => rfl) hm] at h1
  exact h1

theorem vFld_le {off : Nat} {x : Value} {h : HpT} {r : Value × HpT} (hv : vFld off x h = some r) : (aFld off (.const x) : ActT HpT) c (fun _ => undef) h = some r := by
  unfold vFld at hv
  unfold aFld
  simp only [ev]
  split at hv
  · rw [fNat_eq] at hv; exact hv
  · simp at hv
theorem vIdx_le {sz : Nat} {x ix : Value} {h : HpT} {r : Value × HpT} (hv : vIdx sz x ix h = some r) : (aIdx sz (.const x) (.const ix) : ActT HpT) c (fun _ => undef) h = some r := by
  unfold vIdx at hv
  unfold aIdx
  simp only [ev]
  split at hv
  · rename_i b o s2 len cap
    split at hv
    · rename_i k j
      rw [blt_eq] at hv
      by_cases hlt : j < len
      · simp only [hlt, decide_true, cond_true, fNat_eq] at hv
        have : (0 : Int) ≤ Int.ofNat j ∧ Int.ofNat j < (len : Int) := ⟨Int.natCast_nonneg j, Int.ofNat_lt.2 hlt⟩
        simp only [this, and_self, if_true]
        exact hv
      · simp [hlt] at hv
    · simp at hv
  · simp at hv
theorem vLd_le {x : Value} {h : HpT} {r : Value × HpT} (hv : vLd x h = some r) : (aLd tO (.const x) : ActT HpT) c (fun _ => undef) h = some r := by
  unfold vLd at hv
  unfold aLd
  simp only [ev]
  split at hv
  · rename_i b o s2
    show ((hcell h b o).map fun v => (v, h)) = some r
    cases hq : hcell h b o with
    | none => rw [hq] at hv; simp at hv
    | some v => rw [hq] at hv; exact hv
  · simp at hv
theorem vLdN_le {n : Nat} {x : Value} {h : HpT} {r : Value × HpT} (hv : vLdN n x h = some r) : (aLdN tO n (.const x) : ActT HpT) c (fun _ => undef) h = some r := by
  unfold vLdN at hv
  unfold aLdN
  simp only [ev]
  split at hv
  · rename_i b o s2
    rw [blt_eq] at hv
    by_cases hb : b < h.n
    · simp only [hb, decide_true, cond_true] at hv
      cases hl : hblk h b with
      | none => rw [hl] at hv; simp at hv
      | some l =>
        rw [hl] at hv
        obtain ⟨p, k1, k2, k3⟩ := takA_le hv
        rw [drp_eq] at k2
        have hcc := cells_of hb hl _ o p k1 k2
        simp only [hcc, Option.map_some]
        simpa using k3
    · simp [hb] at hv
  · simp at hv
theorem vLenStr_le {x : Value} {h : HpT} {r : Value × HpT} (hv : vLenStr x h = some r) : (aLenStr (.const x) : ActT HpT) c (fun _ => undef) h = some r := by
  unfold vLenStr at hv
  unfold aLenStr
  simp only [ev]
  split at hv
  · rw [fNat_eq] at hv; exact hv
  · simp at hv
theorem vLenSl_le {x : Value} {h : HpT} {r : Value × HpT} (hv : vLenSl x h = some r) : (aLenSl (.const x) : ActT HpT) c (fun _ => undef) h = some r := by
  unfold vLenSl at hv
  unfold aLenSl
  simp only [ev]
  split at hv
  · exact hv
  · simp at hv

theorem vIdxStr_le {x ix : Value} {h : HpT} {r : Value × HpT} (hv : vIdxStr x ix h = some r) : (aIdxStr (.const x) (.const ix) : ActT HpT) c (fun _ => undef) h = some r := by
  unfold vIdxStr at hv
  unfold aIdxStr
  simp only [ev]
  split at hv
  · rename_i l
    split at hv
    · rename_i k j
      rw [nthS_eq] at hv
      have h0 : (0 : Int) ≤ Int.ofNat j := Int.natCast_nonneg j
      simp only [h0, if_true]
      have h1 : (Int.ofNat j).toNat = j := rfl
      rw [h1, ba_get]
      cases hq : l[j]? with
      | none => rw [hq] at hv; simp at hv
      | some b =>
        rw [hq] at hv
        simp only [fNat_eq] at hv
        exact hv
    · simp at hv
  · simp at hv

theorem actK_le (hc : CallLe cs c) {op : Op} {ρ : Operand → Value} {mv : Bool} {h : HpT} {k : Kt R} {r : R} (hv : actK P ro op ρ mv cs h k = some r) : ∃ v h', opA P tO ro c ρ op h = some (v, h') ∧ k v h' = some r := by
  cases op with
  | move x =>
    have : k (ρ x) h = some r := by
      cases mv <;> simpa [actK, fShal_eq] using hv
    exact ⟨ρ x, h, rfl, this⟩
  | assign x =>
    have : k (ρ x) h = some r := by
      cases mv <;> simpa [actK, fShal_eq] using hv
    exact ⟨ρ x, h, rfl, this⟩
  | nilCheck x =>
    have hv : kNil (ρ x) h k = some r := hv
    rw [kNil_eq] at hv
    refine by_act hc hv fun v h' e => ?_
    unfold vNil at e
    show ((match ρ x with | .pointer (some a) => some (.pointer (some a)) | _ => none : Option Value).map fun v => (v, h)) = some (v, h')
    split at e
    · rename_i a he; rw [he]; exact e
    · simp at e
  | extract x i =>
    have hv : kExt i (ρ x) h k = some r := hv
    rw [kExt_eq] at hv
    refine by_act hc hv fun v h' e => ?_
    unfold vExt at e
    show ((match ρ x with | .tuple vs => vs[i]? | _ => none : Option Value).map fun v => (v, h)) = some (v, h')
    split at e
    · rename_i l he
      rw [he]
      rw [nth_eq] at e
      simp only [List.getElem?_toArray]
      cases hq : l[i]? with
      | none => rw [hq] at e; simp at e
      | some w => rw [hq] at e; exact e
    · simp at e
  | binOp o ty x y w =>
    have gen : (actK P ro (.binOp o ty x y w) ρ mv cs h k = (match P.underlying ty with | some (.int _) => kInt o (ρ x) (ρ y) h k | some (.pointer _) => (match o with | .eql => kPtrNil false (ρ x) (ρ y) h k | .neq => kPtrNil true (ρ x) (ρ y) h k | _ => (match mapOp (fun x => .const (ρ x)) (.binOp o ty x y w) with | some op => kAny (actOf tO P ro op) cs h k | none => none)) | _ => (match mapOp (fun x => .const (ρ x)) (.binOp o ty x y w) with | some op => kAny (actOf tO P ro op) cs h k | none => none))) →
        (∀ q, P.underlying ty = some (.int q) → actOf tO P ro (.binOp o ty (.const (ρ x)) (.const (ρ y)) w) = aInt o (.const (ρ x)) (.const (ρ y))) → ∃ v h', opA P tO ro c ρ (.binOp o ty x y w) h = some (v, h') ∧ k v h' = some r := by
      intro h1 h2
      rw [h1] at hv
      cases hu : P.underlying ty with
      | none => rw [hu] at hv; exact any_le hc hv
      | some q =>
        rw [hu] at hv
        cases q with
        | int q =>
          simp only [kInt_eq] at hv
          refine by_act hc hv fun v h' e => op_of_act (op' := .binOp o ty (.const (ρ x)) (.const (ρ y)) w) rfl ?_
          rw [h2 q hu, aInt_V]
          exact vIntS_le e
        | pointer q =>
          cases o with
          | eql =>
            obtain ⟨v, h', e3, hk⟩ := kPtrNil_le (cl := c) hv
            refine ⟨v, h', op_of_act (op' := .binOp .eql ty (.const (ρ x)) (.const (ρ y)) w) rfl ?_, hk⟩
            have e2 : actOf tO P ro (.binOp .eql ty (.const (ρ x)) (.const (ρ y)) w) = aPtrNil false (.const (ρ x)) (.const (ρ y)) := by simp only [actOf, hu]
            rw [e2]
            exact e3
          | neq =>
            obtain ⟨v, h', e3, hk⟩ := kPtrNil_le (cl := c) hv
            refine ⟨v, h', op_of_act (op' := .binOp .neq ty (.const (ρ x)) (.const (ρ y)) w) rfl ?_, hk⟩
            have e2 : actOf tO P ro (.binOp .neq ty (.const (ρ x)) (.const (ρ y)) w) = aPtrNil true (.const (ρ x)) (.const (ρ y)) := by simp only [actOf, hu]
            rw [e2]
            exact e3
          | _ => exact any_le hc hv
        | _ => exact any_le hc hv
    cases o with
    | shl => exact any_le hc hv
    | shr => exact any_le hc hv
    | _ => exact gen rfl (fun q hu => by simp only [actOf, hu])
  | fieldAddr s x f =>
    simp only [actK] at hv
    cases hu : P.underlying s with
    | none => rw [hu] at hv; exact any_le hc hv
    | some q =>
      rw [hu] at hv
      cases q with
      | struct fs =>
        simp only at hv
        cases hf : fs[f]? with
        | none => rw [hf] at hv; exact any_le hc hv
        | some fd =>
          rw [hf] at hv
          simp only at hv
          cases hi : P.info? fd.type with
          | none => rw [hi] at hv; exact any_le hc hv
          | some i =>
            rw [hi] at hv
            simp only at hv
            by_cases hz : i.size = 0
            · rw [if_pos hz] at hv; exact any_le hc hv
            · rw [if_neg hz, kFld_eq] at hv
              refine by_act hc hv fun v h' e => op_of_act (op' := .fieldAddr s (.const (ρ x)) f) rfl ?_
              have e2 : actOf tO P ro (.fieldAddr s (.const (ρ x)) f) = aFld fd.offset (.const (ρ x)) := by simp only [actOf, hu, hf, hi, hz, if_false]
              rw [e2]
              exact vFld_le e
      | _ => exact any_le hc hv
  | indexAddr ty x ix =>
    simp only [actK] at hv
    cases hu : P.underlying ty with
    | none => rw [hu] at hv; exact any_le hc hv
    | some q =>
      rw [hu] at hv
      cases q with
      | slice e =>
        simp only at hv
        cases hi : P.info? e with
        | none => rw [hi] at hv; exact any_le hc hv
        | some i =>
          rw [hi] at hv
          simp only [kIdx_eq] at hv
          refine by_act hc hv fun v h' e => op_of_act (op' := .indexAddr ty (.const (ρ x)) (.const (ρ ix))) rfl ?_
          have e2 : actOf tO P ro (.indexAddr ty (.const (ρ x)) (.const (ρ ix))) = aIdx i.size (.const (ρ x)) (.const (ρ ix)) := by simp only [actOf, hu, hi]
          rw [e2]
          exact vIdx_le e
      | _ => exact any_le hc hv
  | index ty x ix =>
    simp only [actK] at hv
    cases hu : P.underlying ty with
    | none => rw [hu] at hv; exact any_le hc hv
    | some q =>
      rw [hu] at hv
      cases q with
      | string =>
        simp only [kIdxStr_eq] at hv
        refine by_act hc hv fun v h' e => op_of_act (op' := .index ty (.const (ρ x)) (.const (ρ ix))) rfl ?_
        have e2 : actOf tO P ro (.index ty (.const (ρ x)) (.const (ρ ix))) = aIdxStr (.const (ρ x)) (.const (ρ ix)) := by simp only [actOf, hu]
        rw [e2]
        exact vIdxStr_le e
      | _ => exact any_le hc hv
  | field ty x f =>
    simp only [actK] at hv
    cases hu : P.underlying ty with
    | none => rw [hu] at hv; exact any_le hc hv
    | some q =>
      rw [hu] at hv
      cases q with
      | struct fs =>
        simp only at hv
        cases hf : fs[f]? with
        | none => rw [hf] at hv; exact any_le hc hv
        | some fd =>
          rw [hf] at hv
          simp only at hv
          cases h1 : isAggT P fd.type with
          | none => rw [h1] at hv; exact any_le hc hv
          | some ag =>
            rw [h1] at hv
            cases ag with
            | true => exact any_le hc hv
            | false =>
              cases hi : P.info? fd.type with
              | none => rw [hi] at hv; exact any_le hc hv
              | some i =>
                rw [hi] at hv
                obtain ⟨v, h', e, hk⟩ := kFieldS_le (c := c) hv
                refine ⟨v, h', op_of_act (op' := .field ty (.const (ρ x)) f) rfl ?_, hk⟩
                have e2 : actOf tO P ro (.field ty (.const (ρ x)) f) = aFieldS fd.offset (.const (ρ x)) := by simp only [actOf, hu, hf, h1, hi]
                rw [e2]
                exact e
      | _ => exact any_le hc hv
  | alloc e =>
    simp only [actK] at hv
    cases hi : P.info? e with
    | none => rw [hi] at hv; exact any_le hc hv
    | some i =>
      rw [hi] at hv
      simp only at hv
      cases hz : i.zero with
      | none => rw [hz] at hv; exact any_le hc hv
      | some z =>
        rw [hz] at hv
        simp only at hv
        by_cases h1 : zeroOk z = true
        · rw [if_pos h1] at hv
          obtain ⟨v, h', e3, hk⟩ := kNew_le (c := c) hv
          refine ⟨v, h', op_of_act (op' := .alloc e) rfl ?_, hk⟩
          have e2 : actOf tO P ro (.alloc e) = aNew tO z.cells.toList := by simp only [actOf, hi, hz, h1, if_true]
          rw [e2]
          exact e3
        · rw [if_neg h1] at hv; exact any_le hc hv
  | pick c1 a b =>
    have hv : kPick (ρ c1) (ρ a) (ρ b) h k = some r := hv
    obtain ⟨v, h', e3, hk⟩ := kPick_le (cl := c) hv
    exact ⟨v, h', op_of_act (op' := .pick (.const (ρ c1)) (.const (ρ a)) (.const (ρ b))) rfl e3, hk⟩
  | unOp o ty x =>
    cases o with
    | not =>
      have hv : kNot (ρ x) h k = some r := hv
      obtain ⟨v, h', e3, hk⟩ := kNot_le (cl := c) hv
      exact ⟨v, h', op_of_act (op' := .unOp .not ty (.const (ρ x))) rfl e3, hk⟩
    | _ => exact any_le hc hv
  | convert s1 d1 x =>
    simp only [actK] at hv
    cases hs : P.underlying s1 with
    | none => rw [hs] at hv; exact any_le hc hv
    | some q =>
      rw [hs] at hv
      cases q with
      | int k1 =>
        cases hd : P.underlying d1 with
        | none => rw [hd] at hv; exact any_le hc hv
        | some q2 =>
          rw [hd] at hv
          cases q2 with
          | int k2 =>
            cases k2 with
            | i64 =>
              obtain ⟨v, h', e3, hk⟩ := kConv_le (cl := c) hv
              refine ⟨v, h', op_of_act (op' := .convert s1 d1 (.const (ρ x))) rfl ?_, hk⟩
              have e2 : actOf tO P ro (.convert s1 d1 (.const (ρ x))) = aConv .i64 (.const (ρ x)) := by simp only [actOf, hs, hd]
              rw [e2]
              exact e3
            | _ => exact any_le hc hv
          | _ => exact any_le hc hv
      | _ => exact any_le hc hv
  | box e x =>
    have hv : kBox (ρ x) h k = some r := hv
    obtain ⟨v, h', e3, hk⟩ := kBox_le (c := c) hv
    exact ⟨v, h', op_of_act (op' := .box e (.const (ρ x))) rfl e3, hk⟩
  | build ty parts =>
    simp only [actK] at hv
    cases hi : P.info? ty with
    | none => rw [hi] at hv; exact any_le hc hv
    | some i =>
      rw [hi] at hv
      cases hu : P.underlying ty with
      | none => rw [hu] at hv; exact any_le hc hv
      | some q =>
        rw [hu] at hv
        cases q with
        | struct fs =>
          simp only at hv
          cases hz : i.zero with
          | none => rw [hz] at hv; exact any_le hc hv
          | some z =>
            rw [hz] at hv
            cases hp : placesA P fs.toList with
            | none => rw [hp] at hv; exact any_le hc hv
            | some ps =>
              rw [hp] at hv
              simp only at hv
              by_cases h1 : zeroOk z = true
              · rw [if_pos h1] at hv
                obtain ⟨v, h', e3, hk⟩ := kBuild_le (c := c) hv
                refine ⟨v, h', op_of_act (op' := .build ty (parts.toList.map fun p => (p.1, Operand.const (ρ p.2))).toArray) rfl ?_, hk⟩
                have e2 : actOf tO P ro (.build ty (parts.toList.map fun p => (p.1, Operand.const (ρ p.2))).toArray) = aBuild z.cells ps (parts.toList.map fun p => (p.1, Operand.const (ρ p.2))) := by simp only [actOf, hi, hu, hz, hp, h1, if_true]
                rw [e2]
                rw [List.map_map] at e3
                exact e3
              · rw [if_neg h1] at hv; exact any_le hc hv
        | _ => exact any_le hc hv
  | buildSlice ty len parts =>
    simp only [actK] at hv
    cases hu : P.underlying ty with
    | none => rw [hu] at hv; exact any_le hc hv
    | some q =>
      rw [hu] at hv
      cases q with
      | slice e =>
        simp only at hv
        cases hi : P.info? e with
        | none => rw [hi] at hv; exact any_le hc hv
        | some i =>
          rw [hi] at hv
          simp only at hv
          cases hz : i.zero with
          | none => rw [hz] at hv; exact any_le hc hv
          | some z =>
            rw [hz] at hv
            simp only at hv
            by_cases h1 : len * i.size > 2 ^ 24 ∨ zeroOk z = false ∨ z.cells.size = 0
            · rw [if_pos h1] at hv; exact any_le hc hv
            · rw [if_neg h1] at hv
              obtain ⟨v, h', e3, hk⟩ := kMkSl_le (c := c) hv
              refine ⟨v, h', op_of_act (op' := .buildSlice ty len (parts.toList.map fun p => (p.1, Operand.const (ρ p.2))).toArray) rfl ?_, hk⟩
              have e2 : actOf tO P ro (.buildSlice ty len (parts.toList.map fun p => (p.1, Operand.const (ρ p.2))).toArray) = aMkSl tO i.size len z.cells (parts.toList.map fun p => (p.1, Operand.const (ρ p.2))) := by simp only [actOf, hu, hi, hz, if_neg h1]
              rw [e2]
              rw [List.map_map] at e3
              exact e3
      | _ => exact any_le hc hv
  | load ty a =>
    simp only [actK] at hv
    cases h1 : isAggT P ty with
    | none => rw [h1] at hv; exact any_le hc hv
    | some ag =>
      rw [h1] at hv
      cases h2 : P.info? ty with
      | none => rw [h2] at hv; cases ag <;> exact any_le hc hv
      | some i =>
        rw [h2] at hv
        cases ag with
        | true =>
          refine by_act hc hv fun v h' e => op_of_act (op' := .load ty (.const (ρ a))) rfl ?_
          have e2 : actOf tO P ro (.load ty (.const (ρ a))) = aLdN tO i.size (.const (ρ a)) := by simp only [actOf, h1, h2]
          rw [e2]
          exact vLdN_le e
        | false =>
          simp only [kLd_eq] at hv
          refine by_act hc hv fun v h' e => op_of_act (op' := .load ty (.const (ρ a))) rfl ?_
          have e2 : actOf tO P ro (.load ty (.const (ρ a))) = aLd tO (.const (ρ a)) := by simp only [actOf, h1, h2]
          rw [e2]
          exact vLd_le e
  | store ty a x =>
    simp only [actK] at hv
    cases hi : P.info? ty with
    | none => rw [hi] at hv; exact any_le hc hv
    | some i =>
      rw [hi] at hv
      simp only at hv
      by_cases h1 : i.size = 1
      · rw [if_pos h1, kSt_eq] at hv
        refine by_act hc hv fun v h' e => op_of_act (op' := .store ty (.const (ρ a)) (.const (ρ x))) rfl ?_
        have e2 : actOf tO P ro (.store ty (.const (ρ a)) (.const (ρ x))) = aSt tO ro 1 (.const (ρ a)) (.const (ρ x)) := by simp only [actOf, hi, h1]
        rw [e2]
        exact vSt_le (env := fun _ => undef) e
      · rw [if_neg h1] at hv; exact any_le hc hv
  | call cl =>
    obtain ⟨cal, args, tys⟩ := cl
    cases cal with
    | value f =>
      cases f with
      | func f =>
        have hv : kOf (cs f (args.toList.map ρ) h) k = some r := hv
        exact by_act hc hv fun v h' e => hc _ _ _ _ e
      | _ => exact any_le hc hv
    | invoke q m => exact any_le hc hv
    | builtin b =>
      cases b with
      | len =>
        simp only [actK] at hv
        cases h1 : tys.toList with
        | nil => rw [h1] at hv; exact any_le hc hv
        | cons ty tl =>
          rw [h1] at hv
          cases h2 : args.toList with
          | nil => rw [h2] at hv; exact any_le hc hv
          | cons x xl =>
            rw [h2] at hv
            simp only at hv
            cases hu : P.underlying ty with
            | none => rw [hu] at hv; exact any_le hc hv
            | some q =>
              rw [hu] at hv
              cases q with
              | string =>
                simp only [kLenStr_eq] at hv
                refine by_act hc hv fun v h' e => op_of_act (op' := .call ⟨.builtin .len, (args.toList.map fun x => Operand.const (ρ x)).toArray, tys⟩) rfl ?_
                have e2 : actOf tO P ro (.call ⟨.builtin .len, (args.toList.map fun x => Operand.const (ρ x)).toArray, tys⟩) = aLenStr (.const (ρ x)) := by simp only [actOf, h1, h2, hu, List.map_cons]
                rw [e2]
                exact vLenStr_le e
              | slice e' =>
                simp only [kLenSl_eq] at hv
                refine by_act hc hv fun v h' e => op_of_act (op' := .call ⟨.builtin .len, (args.toList.map fun x => Operand.const (ρ x)).toArray, tys⟩) rfl ?_
                have e2 : actOf tO P ro (.call ⟨.builtin .len, (args.toList.map fun x => Operand.const (ρ x)).toArray, tys⟩) = aLenSl (.const (ρ x)) := by simp only [actOf, h1, h2, hu, List.map_cons]
                rw [e2]
                exact vLenSl_le e
              | _ => exact any_le hc hv
      | append =>
        simp only [actK] at hv
        rcases hT : tys.toList with _ | ⟨ty, _ | ⟨u, _ | ⟨w, tl⟩⟩⟩
        · rw [hT] at hv; exact any_le hc hv
        · rw [hT] at hv; exact any_le hc hv
        · rw [hT] at hv
          rcases hA : args.toList with _ | ⟨x, _ | ⟨y, _ | ⟨w, tl⟩⟩⟩
          · rw [hA] at hv; exact any_le hc hv
          · rw [hA] at hv; exact any_le hc hv
          · rw [hA] at hv
            simp only at hv
            by_cases htu : ty = u
            · subst htu
              simp only [if_true] at hv
              cases hu : P.underlying ty with
              | none => rw [hu] at hv; exact any_le hc hv
              | some q =>
                rw [hu] at hv
                cases q with
                | slice e =>
                  simp only at hv
                  cases hi : P.info? e with
                  | none => rw [hi] at hv; exact any_le hc hv
                  | some i =>
                    rw [hi] at hv
                    simp only at hv
                    by_cases hz : (i.zero.map fun z => z.cells.size) = some i.size
                    · rw [if_pos hz] at hv
                      refine by_act hc hv fun v h' e => op_of_act (op' := .call ⟨.builtin .append, (args.toList.map fun x => Operand.const (ρ x)).toArray, tys⟩) rfl ?_
                      have e2 : actOf tO P ro (.call ⟨.builtin .append, (args.toList.map fun x => Operand.const (ρ x)).toArray, tys⟩) = aApp tO ro i.size i.bytes (.const (ρ x)) (.const (ρ y)) := by simp only [actOf, hT, hA, if_true, hu, hi, hz, List.map_cons, List.map_nil]
                      rw [e2]
                      exact vApp_le e
                    · rw [if_neg hz] at hv; exact any_le hc hv
                | _ => exact any_le hc hv
            · rw [if_neg htu] at hv; exact any_le hc hv
          · rw [hA] at hv; exact any_le hc hv
        · rw [hT] at hv; exact any_le hc hv
      | _ => exact any_le hc hv
  | _ => exact any_le hc hv
end
end Go.Vm
