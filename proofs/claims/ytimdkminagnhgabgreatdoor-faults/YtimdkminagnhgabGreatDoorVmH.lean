/-
  Operations that do not look at memory, the rest. Own work.
-/
import Derived.Test.YtimdkminagnhgabGreatDoorVmG
namespace Go.Vm
open Go.RowKit
set_option linter.unusedSimpArgs false
set_option linter.unusedVariables false

section
variable {P : Program} {H : Type} {O : HI H} {G ro : Nat} {w0 : Prot}

theorem LR.take {R : Value → Value → Prop} {xs ys : List Value} (h : LR R xs ys) (n : Nat) : LR R (xs.take n) (ys.take n) := by
  refine ⟨by simp [h.1], fun i x hx => ?_⟩
  rw [List.getElem?_take] at hx ⊢
  split at hx
  · rename_i hi; rw [if_pos hi]; exact h.2 i x hx
  · simp at hx
theorem LR.drop {R : Value → Value → Prop} {xs ys : List Value} (h : LR R xs ys) (n : Nat) : LR R (xs.drop n) (ys.drop n) := by
  refine ⟨by simp [h.1], fun i x hx => ?_⟩
  rw [List.getElem?_drop] at hx ⊢
  exact h.2 _ x hx

theorem un_sim {β : List Place} (w : World) {op : UnOp} {a a' v : Value} (ha : VR β a a') (h : unA op a = some v) : ∃ v', (Op.unary op a').run P w = .ok v' w ∧ VR β v v' := by
  cases a with
  | bool b =>
    cases VR.bool ha
    cases op <;> simp [unA] at h
    subst h
    exact ⟨_, by simp [Op.unary], rfl⟩
  | int k n =>
    cases VR.int ha
    cases op <;> simp [unA, intA] at h <;> subst h
    · exact ⟨_, by simp [Op.unary, Op.intArith], rfl⟩
    · exact ⟨_, by simp [Op.unary, Op.intBits], rfl⟩
  | _ => cases op <;> simp [unA] at h

theorem part_sim {β : List Place} (w : World) {t : TypeId} {cs cs' : Array Value} {off : Nat} {v : Value} (hc : LR (SR β) cs.toList cs'.toList) (h : partA P t cs off = some v) :
    ∃ v', (part t cs' off).run P w = .ok v' w ∧ CR β v v' := by
  unfold partA at h
  have agg : ∀ i, P.info? t = some i → (∃ fs, P.underlying t = some (.struct fs)) ∨ (∃ n e, P.underlying t = some (.array n e)) →
      (if off + i.size ≤ cs.size then some (Value.agg (cs.extract off (off + i.size))) else none) = some v → ∃ v', (part t cs' off).run P w = .ok v' w ∧ CR β v v' := by
    intro i hi hu hv
    split at hv
    · simp at hv
      subst hv
      refine ⟨.agg (cs'.extract off (off + i.size)), ?_, ⟨_, rfl, ?_⟩⟩
      · rcases hu with ⟨fs, hu⟩ | ⟨n, e, hu⟩ <;> simp [part, isAgg, run_underlying hu, sizeOf, typeInfo, hi]
      · simp only [Array.toList_extract, List.extract_eq_take_drop]
        exact (hc.drop _).take _
    · simp at hv
  cases hu : P.underlying t with
  | none => rw [hu] at h; simp at h
  | some d =>
    cases hi : P.info? t with
    | none => rw [hu, hi] at h; cases d <;> simp at h
    | some i =>
      rw [hu, hi] at h
      cases d with
      | struct fs => exact agg i hi (.inl ⟨fs, hu⟩) h
      | array n e => exact agg i hi (.inr ⟨n, e, hu⟩) h
      | _ =>
        simp only at h
        obtain ⟨v', h1, h2⟩ := hc.2 off v (by simpa using h)
        refine ⟨v', ?_, h2.toCR⟩
        have h1' : cs'[off]? = some v' := by simpa using h1
        simp [part, isAgg, run_underlying hu, h1']

/-- Parts of a value, pairwise. -/
def PR (β : List Place) (xs ys : List (Nat × Value)) : Prop := ys.length = xs.length ∧ ∀ (i : Nat) x, xs[i]? = some x → ∃ y, ys[i]? = some y ∧ y.1 = x.1 ∧ CR β x.2 y.2

theorem PR.cons_inv {β : List Place} {x : Nat × Value} {xs ys : List (Nat × Value)} (h : PR β (x :: xs) ys) : ∃ y r, ys = y :: r ∧ y.1 = x.1 ∧ CR β x.2 y.2 ∧ PR β xs r := by
  obtain ⟨h1, h2⟩ := h
  cases ys with
  | nil => simp at h1
  | cons y r =>
    obtain ⟨y', hy, e, hr⟩ := h2 0 x rfl
    simp at hy; subst hy
    exact ⟨_, r, rfl, e, hr, by simpa using h1, fun i z hz => by simpa using h2 (i + 1) z (by simpa using hz)⟩

theorem lay_rel {β : List Place} (off : Nat) : ∀ (xs ys : List Value) (cs cs' : Array Value) (j : Nat), LR (SR β) xs ys → LR (SR β) cs.toList cs'.toList →
    LR (SR β) ((xs.zipIdx j).foldl (fun cs (c, j) => cs.setIfInBounds (off + j) c) cs).toList ((ys.zipIdx j).foldl (fun cs (c, j) => cs.setIfInBounds (off + j) c) cs').toList := by
  intro xs
  induction xs with
  | nil => intro ys cs cs' j h hc; rw [LR.nil_inv h]; simpa using hc
  | cons x xs ih =>
    intro ys cs cs' j h hc
    obtain ⟨y, r, rfl, hxy, hr⟩ := LR.cons_inv h
    simp only [List.zipIdx_cons, List.foldl_cons]
    refine ih r _ _ (j + 1) hr ?_
    simp only [Array.toList_setIfInBounds]
    exact hc.set hxy _

theorem fill_rel {β : List Place} (place : Nat → Option (Nat × Nat)) : ∀ (ps qs : List (Nat × Value)) (cs cs' out : Array Value), PR β ps qs → LR (SR β) cs.toList cs'.toList → Instr.fill place cs ps = some out →
    ∃ out', Instr.fill place cs' qs = some out' ∧ LR (SR β) out.toList out'.toList := by
  intro ps
  induction ps with
  | nil =>
    intro qs cs cs' out hp hc h
    have : qs = [] := by have := hp.1; simpa using this
    subst this
    simp only [Instr.fill, Option.some.injEq] at h
    subst h
    exact ⟨cs', rfl, hc⟩
  | cons p ps ih =>
    intro qs cs cs' out hp hc h
    obtain ⟨q, qs, rfl, e1, hv, hps⟩ := PR.cons_inv hp
    obtain ⟨i, v⟩ := p
    obtain ⟨i', v'⟩ := q
    simp only at e1 hv
    subst e1
    have hcells := hv.cells
    have hsz : v'.cells.size = v.cells.size := by simpa using hcells.1
    have hcs : cs'.size = cs.size := by simpa using hc.1
    simp only [Instr.fill] at h ⊢
    cases hpl : place i' with
    | none => rw [hpl] at h; simp at h
    | some os =>
      obtain ⟨off, size⟩ := os
      rw [hpl] at h
      simp only at h ⊢
      rw [hsz, hcs]
      split at h
      · simp at h
      · rename_i hcond
        rw [if_neg hcond]
        refine ih qs _ _ out hps ?_ h
        have := lay_rel (β := β) off v.cells.toList v'.cells.toList cs cs' 0 hcells hc
        rw [← Array.foldl_toList, ← Array.foldl_toList, Array.toList_zipIdx, Array.toList_zipIdx]
        exact this

def plM (f : Field) : Sem (Nat × Nat) := do pure (f.offset, ← sizeOf f.type)

theorem placesA_run (w : World) : ∀ (fs : List Field) (ps : List (Nat × Nat)), placesA P fs = some ps →
    (fs.mapM plM).run P w = .ok ps w := by
  intro fs
  induction fs with
  | nil => intro ps h; simp [placesA] at h; subst h; rfl
  | cons f fs ih =>
    intro ps h
    simp only [placesA] at h
    cases hi : P.info? f.type with
    | none => rw [hi] at h; simp at h
    | some i =>
      cases hr : placesA P fs with
      | none => rw [hi, hr] at h; simp at h
      | some qs =>
        rw [hi, hr] at h
        simp at h
        subst h
        have h1 : (plM f).run P w = .ok (f.offset, i.size) w := by simp [plM, sizeOf, typeInfo, hi]
        rw [List.mapM_cons]
        simp only [Sem.run_bind, h1, Result.andThen_ok, ih qs hr, Sem.run_pure]

theorem SR.refl_zero {β : List Place} {v : Value} (h : operOk 0 (.const v) = true) : SR β v v := by
  cases v with
  | bool b => rfl
  | int k n => rfl
  | string s => rfl
  | pointer a => cases a with
    | none => rfl
    | some a => simp [operOk] at h
  | slice a l c => cases a with
    | none =>
      cases l with
      | succ l => simp [operOk] at h
      | zero => cases c with
        | succ c => simp [operOk] at h
        | zero => exact ⟨rfl, rfl, rfl⟩
    | some a => simp [operOk] at h
  | _ => simp [operOk] at h

theorem zero_rel {β : List Place} : ∀ (l : List Value), l.all (fun v => operOk 0 (.const v)) = true → LR (SR β) l l := by
  intro l
  induction l with
  | nil => intro _; exact LR.nil _
  | cons x l ih =>
    intro h
    simp only [List.all_cons, Bool.and_eq_true] at h
    exact LR.cons (SR.refl_zero h.1) (ih h.2)

theorem bound_run (w : World) {v : Value} {d top n : Nat} (code : BoundsCode) (h : boundA (some v) d top = some n) (top' : Nat) (ht : top ≤ top') : (Instr.sliceBound v top' code).run P w = .ok n w := by
  cases v with
  | int k i =>
    simp only [boundA] at h
    split at h
    · rename_i hc
      simp at h
      subst h
      have hc' : 0 ≤ i ∧ i ≤ (top' : Int) := ⟨hc.1, by omega⟩
      simp [Instr.sliceBound, asIntOf, hc']
    · simp at h
  | _ => simp [boundA] at h

theorem bound_le {x : Option Value} {d top n : Nat} (h : boundA x d top = some n) (hd : d ≤ top) : n ≤ top := by
  cases x with
  | none => simp [boundA] at h; omega
  | some v =>
    cases v with
    | int k i =>
      simp only [boundA] at h
      split at h
      · simp at h; omega
      · simp at h
    | _ => simp [boundA] at h

theorem bound_some_le {v : Value} {d top n : Nat} (h : boundA (some v) d top = some n) : n ≤ top := by
  cases v with
  | int k i =>
    simp only [boundA] at h
    split at h
    · rename_i hc; simp at h; omega
    · simp at h
  | _ => simp [boundA] at h

theorem bound_rel {β : List Place} {x x' : Option Value} {d top n : Nat} (hx : ∀ v, x = some v → ∃ v', x' = some v' ∧ VR β v v') (hn : x = none → x' = none) (h : boundA x d top = some n) : x' = x := by
  cases x with
  | none => exact hn rfl
  | some v =>
    obtain ⟨v', rfl, hv⟩ := hx v rfl
    cases v with
    | int k i => rw [VR.int hv]
    | _ => simp [boundA] at h

theorem bounds_run (w : World) (isS : Bool) {lo hi : Option Value} {len top cap l h : Nat} (hh : boundA hi len top = some h) (hl : boundA lo 0 h = some l) (htop : top ≤ cap) :
    (Instr.sliceBounds isS len cap lo hi none).run P w = .ok (l, h, cap) w := by
  unfold Instr.sliceBounds
  cases hi with
  | none =>
    simp only [boundA, Option.some.injEq] at hh
    subst hh
    cases lo with
    | none => simp only [boundA, Option.some.injEq] at hl; subst hl; simp
    | some v => simp [bound_run w (.sliceB) hl len (Nat.le_refl _)]
  | some u =>
    have h1 := fun code => bound_run (P := P) w code hh cap htop
    cases lo with
    | none => simp only [boundA, Option.some.injEq] at hl; subst hl; simp [h1]
    | some v => simp [h1, bound_run w (.sliceB) hl h (Nat.le_refl _)]

theorem slice_sim {β : List Place} (w : World) {t : TypeId} {a a' v : Value} {lo hi lo' hi' mx mx' : Option Value} (ha : VR β a a')
    (hlo : ∀ v, lo = some v → ∃ v', lo' = some v' ∧ VR β v v') (nlo : lo = none → lo' = none) (hhi : ∀ v, hi = some v → ∃ v', hi' = some v' ∧ VR β v v') (nhi : hi = none → hi' = none) (nmx : mx = none → mx' = none)
    (h : sliceA P t a lo hi mx = some v) : ∃ v', (Instr.sliceAt t a' lo' hi' mx').run P w = .ok v' w ∧ VR β v v' := by
  unfold sliceA at h
  cases mx with
  | some m => simp at h
  | none =>
    rw [nmx rfl]
    simp only at h
    cases hu : P.underlying t with
    | none => rw [hu] at h; simp at h
    | some d =>
      rw [hu] at h
      cases d with
      | string =>
        cases a with
        | string s =>
          cases VR.string ha
          simp only at h
          cases hh : boundA hi s.size s.size with
          | none => rw [hh] at h; simp at h
          | some h1 =>
            rw [hh] at h
            simp only at h
            cases hl : boundA lo 0 h1 with
            | none => rw [hl] at h; simp at h
            | some l1 =>
              rw [hl] at h
              simp at h
              subst h
              have e1 := bound_rel hlo nlo hl
              have e2 := bound_rel hhi nhi hh
              subst e1
              subst e2
              refine ⟨_, ?_, (rfl : _ = Value.string _)⟩
              simp [Instr.sliceAt, Instr.slice, run_underlying hu, bounds_run w false hh hl (Nat.le_refl _)]
        | _ => simp at h
      | slice e =>
        cases a with
        | slice ad len cap =>
          cases ad with
          | none =>
            simp only at h
            cases hi0 : P.info? e with
            | none => rw [hi0] at h; simp at h
            | some i =>
              rw [hi0] at h
              simp only at h
              split at h
              · rename_i hz
                obtain ⟨rfl, rfl⟩ := hz
                have ha' : a' = .slice none 0 0 := (show 0 = 0 ∧ 0 = 0 ∧ a' = .slice none 0 0 from ha).2.2
                subst ha'
                cases hh : boundA hi 0 0 with
                | none => rw [hh] at h; simp at h
                | some h1 =>
                  rw [hh] at h
                  simp only at h
                  cases hl : boundA lo 0 h1 with
                  | none => rw [hl] at h; simp at h
                  | some l1 =>
                    rw [hl] at h
                    simp only [Option.some.injEq] at h
                    subst h
                    have e1 := bound_rel hlo nlo hl
                    have e2 := bound_rel hhi nhi hh
                    subst e1
                    subst e2
                    have hb := bounds_run (P := P) w true hh hl (Nat.le_refl 0)
                    have g1 : h1 = 0 := by
                      cases hi' with
                      | none => simp [boundA] at hh; omega
                      | some u => have := bound_some_le hh; omega
                    subst g1
                    have g2 : l1 = 0 := by
                      cases lo' with
                      | none => simp [boundA] at hl; omega
                      | some u => have := bound_some_le hl; omega
                    subst g2
                    refine ⟨.slice none 0 0, ?_, ⟨rfl, rfl, rfl⟩⟩
                    simp only [Instr.sliceAt, Instr.slice, Sem.run_bind, run_underlying hu, Result.andThen_ok, hb, sizeOf, typeInfo, run_program, hi0, Sem.run_pure, Nat.zero_mul, Nat.sub_zero]
                    rfl
              · simp at h
          | some ad =>
            obtain ⟨p, c, z, hp, hz, rfl, hlc, hfit, hcap⟩ := VR.sl ha
            simp only at h
            cases hi0 : P.info? e with
            | none => rw [hi0] at h; simp at h
            | some i =>
              rw [hi0] at h
              simp only at h
              split at h
              · rename_i hspot
                have hzi : z = i.size := by rw [hz] at hspot; simpa using hspot
                subst hzi
                cases hh : boundA hi len (if cap = 0 then len else cap - 1) with
                | none => rw [hh] at h; simp at h
                | some h1 =>
                  rw [hh] at h
                  simp only at h
                  cases hl : boundA lo 0 h1 with
                  | none => rw [hl] at h; simp at h
                  | some l1 =>
                    rw [hl] at h
                    simp only at h
                    have e1 := bound_rel hlo nlo hl
                    have e2 := bound_rel hhi nhi hh
                    subst e1
                    subst e2
                    have htop : (if cap = 0 then len else cap - 1) ≤ c := by
                      split
                      · exact hlc
                      · rename_i hc0; have := hcap hc0; omega
                    have hb := bounds_run (P := P) w true hh hl htop
                    have hh1 : h1 ≤ c := by
                      cases hi' with
                      | none => simp [boundA] at hh; omega
                      | some u =>
                        exact Nat.le_trans (bound_some_le hh) htop
                    split at h
                    · rename_i hl0
                      subst hl0
                      simp at h
                      subst h
                      refine ⟨.slice (some ⟨p.blk, p.off + ad.off, none⟩) h1 c, ?_, ?_⟩
                      · simp only [Instr.sliceAt, Instr.slice, Sem.run_bind, run_underlying hu, Result.andThen_ok, hb, sizeOf, typeInfo, run_program, hi0, Sem.run_pure, Nat.zero_mul, Nat.sub_zero, Option.map_some, addr_add, Nat.add_zero]
                        split <;> rfl
                      · exact (show SR β (.slice (some ad) h1 cap) _ from ⟨p, c, i.size, hp, hz, rfl, hh1, hfit, hcap⟩)
                    · rename_i hl0
                      split at h
                      · rename_i hlt
                        simp at h
                        subst h
                        obtain ⟨k, rfl⟩ : ∃ k, c = l1 + k := ⟨c - l1, by omega⟩
                        refine ⟨.slice (some ⟨p.blk, p.off + ad.off + l1 * i.size, none⟩) (h1 - l1) k, ?_, ?_⟩
                        · have hne : ¬ (l1 + k = l1) := by omega
                          simp only [Instr.sliceAt, Instr.slice, Sem.run_bind, run_underlying hu, Result.andThen_ok, hb, sizeOf, typeInfo, run_program, hi0, Sem.run_pure, if_neg hne, Option.map_some, addr_add, Nat.add_sub_cancel_left]
                        · refine (show SR β (.slice (some ⟨ad.block, ad.off + l1 * i.size, ad.spot⟩) (h1 - l1) (if cap = 0 then 0 else cap - l1)) _ from ⟨p, k, i.size, hp, hz, ?_, by omega, ?_, ?_⟩)
                          · rw [Nat.add_assoc]
                          · simp only
                            rw [Nat.add_mul] at hfit
                            omega
                          · intro hne
                            split at hne
                            · exact absurd rfl hne
                            · rename_i hc0
                              have := hcap hc0
                              rw [if_neg hc0]
                              omega
                      · simp at h
              · simp at h
        | _ => simp at h
      | _ => simp at h

theorem indexAddr_sim {β : List Place} (w : World) {t : TypeId} {a ix a' ix' v : Value} (ha : VR β a a') (hix : VR β ix ix') (h : indexAddrA P t a ix = some v) : ∃ v', (Instr.indexAt t a' ix').run P w = .ok v' w ∧ VR β v v' := by
  unfold indexAddrA at h
  cases hu : P.underlying t with
  | none => rw [hu] at h; simp at h
  | some d =>
    rw [hu] at h
    cases d with
    | slice e =>
      cases a with
      | slice ad len cap =>
        cases ad with
        | none => simp at h
        | some ad =>
          obtain ⟨p, c, z, hp, hz, rfl, hlc, hfit, hcap⟩ := VR.sl ha
          cases ix with
          | int k i =>
            cases VR.int hix
            simp only at h
            cases hi0 : P.info? e with
            | none => rw [hi0] at h; simp at h
            | some inf =>
              rw [hi0] at h
              simp only at h
              split at h
              · rename_i hb
                simp at h
                subst h
                refine ⟨.pointer (some ⟨p.blk, p.off + ad.off + i.toNat * inf.size, none⟩), ?_, ?_⟩
                · simp [Instr.indexAt, asIntOf, run_underlying hu, hb, sizeOf, typeInfo, hi0, addr_add]
                · exact (show SR β (.pointer (some ⟨ad.block, ad.off + i.toNat * inf.size, none⟩)) _ from ⟨p, hp, by rw [Nat.add_assoc]⟩)
              · simp at h
          | _ => simp at h
      | _ => simp at h
    | array n e =>
      cases a with
      | pointer ad =>
        cases ad with
        | none => simp at h
        | some ad =>
          obtain ⟨p, hp, rfl⟩ := VR.ptr ha
          cases ix with
          | int k i =>
            cases VR.int hix
            simp only at h
            cases hi0 : P.info? e with
            | none => rw [hi0] at h; simp at h
            | some inf =>
              rw [hi0] at h
              simp only at h
              split at h
              · rename_i hb
                simp at h
                subst h
                refine ⟨.pointer (some ⟨p.blk, p.off + ad.off + i.toNat * inf.size, none⟩), ?_, ?_⟩
                · simp [Instr.indexAt, asIntOf, run_underlying hu, Instr.sureAddr, hb, sizeOf, typeInfo, hi0, addr_add]
                · exact (show SR β (.pointer (some ⟨ad.block, ad.off + i.toNat * inf.size, none⟩)) _ from ⟨p, hp, by rw [Nat.add_assoc]⟩)
              · simp at h
          | _ => simp at h
      | _ => simp at h
    | _ => cases a <;> simp at h

theorem index_sim {β : List Place} (w : World) {t : TypeId} {a ix a' ix' v : Value} (ha : VR β a a') (hix : VR β ix ix') (h : indexA P t a ix = some v) : ∃ v', (Instr.index t a' ix').run P w = .ok v' w ∧ VR β v v' := by
  unfold indexA at h
  cases hu : P.underlying t with
  | none => rw [hu] at h; simp at h
  | some d =>
    rw [hu] at h
    cases d with
    | array n e =>
      cases a with
      | agg cs =>
        obtain ⟨cs', rfl, hcs⟩ := VR.agg ha
        cases ix with
        | int k i =>
          cases VR.int hix
          simp only at h
          cases hi0 : P.info? e with
          | none => rw [hi0] at h; simp at h
          | some inf =>
            rw [hi0] at h
            simp only at h
            split at h
            · rename_i hb
              obtain ⟨v', hrun, hc⟩ := part_sim w hcs h
              exact ⟨v', by simp [Instr.index, asIntOf, run_underlying hu, hb, sizeOf, typeInfo, hi0, hrun], hc.toVR⟩
            · simp at h
        | _ => simp at h
      | _ => simp at h
    | string =>
      cases a with
      | string s =>
        cases VR.string ha
        cases ix with
        | int k i =>
          cases VR.int hix
          simp only at h
          split at h
          · rename_i hb
            cases hs : s[i.toNat]? with
            | none => rw [hs] at h; simp at h
            | some b =>
              rw [hs] at h
              simp at h
              subst h
              exact ⟨_, by simp [Instr.index, asIntOf, run_underlying hu, hb, hs], rfl⟩
          · simp at h
        | _ => simp at h
      | _ => simp at h
    | _ => cases a <;> simp at h

theorem build_sim {β : List Place} (w : World) {t : TypeId} {ps qs : Array (Nat × Value)} {v : Value} (hp : PR β ps.toList qs.toList) (h : buildA P t ps = some v) : ∃ v', (Instr.build t qs).run P w = .ok v' w ∧ VR β v v' := by
  unfold buildA at h
  cases hi : P.info? t with
  | none => rw [hi] at h; simp at h
  | some i =>
    rw [hi] at h
    cases hu : P.underlying t with
    | none => rw [hu] at h; simp at h
    | some d =>
      rw [hu] at h
      cases d with
      | struct fs =>
        simp only at h
        cases hz : i.zero with
        | none => rw [hz] at h; simp at h
        | some z =>
          cases hpl : placesA P fs.toList with
          | none => rw [hz, hpl] at h; simp at h
          | some pl =>
            rw [hz, hpl] at h
            simp only at h
            split at h
            · rename_i hzo
              cases hf : Instr.fill (fun x => pl[x]?) z.cells ps.toList with
              | none => rw [hf] at h; simp at h
              | some out =>
                rw [hf] at h
                simp at h
                subst h
                obtain ⟨out', hf', hout⟩ := fill_rel (β := β) _ _ _ _ _ _ hp (zero_rel _ hzo) hf
                refine ⟨.agg out', ?_, ⟨out', rfl, hout⟩⟩
                have hpm : (fs.mapM plM).run P w = .ok pl.toArray w := by
                  rw [Array.mapM_eq_mapM_toList]
                  simp only [Sem.run_map, placesA_run w _ _ hpl, Result.andThen_ok]
                have hpm' : (fs.mapM (m := Sem) fun f => do pure (f.offset, ← sizeOf f.type)).run P w = .ok pl.toArray w := hpm
                simp only [Instr.build, zeroValue, typeInfo, Sem.run_bind, run_program, Result.andThen_ok, hi, Sem.run_pure, hz, run_underlying hu, hpm']
                have hf2 : Instr.fill (fun x => pl.toArray[x]?) z.cells qs.toList = some out' := by simpa using hf'
                rw [hf2]
                rfl
            · simp at h
      | _ => simp at h

end
end Go.Vm
