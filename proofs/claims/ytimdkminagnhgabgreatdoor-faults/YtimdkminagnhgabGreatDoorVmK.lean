/-
  Every operation; what a call answers, the model's call comes to. Own work.
-/
import Derived.Test.YtimdkminagnhgabGreatDoorVmJ
namespace Go.Vm
open Go.RowKit
set_option linter.unusedSimpArgs false
set_option linter.unusedVariables false

section
variable {P : Program} {H : Type} {O : HI H} {G ro : Nat} {w0 : Prot}

theorem copy_sim (L : O.Law) {β : List Place} {h h' : H} {w : World} (r : Rel O G ro w0 β h w) {tys : Array TypeId} {args args' : List Value} {ty : TypeId} {v : Value} (ha : LR (VR β) args args')
    (hv : copyA P O ro tys.toList args h = some (v, h')) :
    ∃ v' w', (Builtin.copy_ tys ty args'.toArray).run P w = .ok v' w' ∧ Rel O G ro w0 β h' w' ∧ VR β v v' := by
  unfold copyA at hv
  split at hv
  case h_2 => simp at hv
  rename_i _ _ t rt a dLen dc b sLen sc htys
  have ht0 : tys[0]? = some t := by rw [← Array.getElem?_toList, htys]; rfl
  split at hv
  case h_2 => simp at hv
  rename_i e hu
  split at hv
  case h_2 => simp at hv
  rename_i i hi
  split at hv
  · simp at hv
  rename_i hro
  split at hv
  case h_2 => simp at hv
  rename_i _ new hnew
  split at hv
  case h_2 => simp at hv
  rename_i _ h1 hput
  simp only [Option.some.injEq, Prod.mk.injEq] at hv
  obtain ⟨rfl, rfl⟩ := hv
  obtain ⟨d', r1, rfl, hd', hrA⟩ := LR.cons_inv ha
  obtain ⟨s', r2, rfl, hs', hrB⟩ := LR.cons_inv hrA
  have := LR.nil_inv hrB
  subst this
  obtain ⟨p, c, z, hp, hz, rfl, _⟩ := VR.sl hd'
  obtain ⟨p2, c2, z2, hp2, hz2, rfl, _⟩ := VR.sl hs'
  obtain ⟨new', hnr, hnl, hncell⟩ := r.cellsA hp2 _ _ _ hnew
  have hnl' : new'.length = Nat.min sLen dLen * i.size := by rw [hnr.1, hnl]
  have hf := run_firstCells_some (P := P) w i.size (Nat.min sLen dLen) ⟨p2.blk, p2.off + b.off, none⟩ sLen c2 new' hnl' (fun j v hv => by rw [addr_add]; exact hncell j v hv)
  obtain ⟨w1, hrun, hr1⟩ := puts_sim (P := P) L hp (by omega) new new' h h1 w a.off 0 hnr r (by simpa using hput)
  refine ⟨.int .i64 (Nat.min sLen dLen), w1, ?_, hr1, rfl⟩
  simp [Builtin.copy_, ht0, run_underlying hu, Builtin.lenOf, sizeOf, typeInfo, hi, hf, hrun, goInt]

/-- What makes or writes memory. -/
theorem eff_sim (L : O.Law) {call : FuncId → List Value → H → Option (Value × H)} {β : List Place} {h h' : H} {w : World} (r : Rel O G ro w0 β h w) {ρ ρ' : Operand → Value} {o : Oper} {v : Value} (he : ∀ x ∈ opnds o.op, VR β (ρ x) (ρ' x))
    (hnc : ∀ f args tys, o.op ≠ .call { callee := .value (.func f), args := args, argTypes := tys })
    (hv : effA P O ro call ρ o.op h = some (v, h')) : ∃ β' v' w', Comes' ((execOp ρ' o).run P w) v' w' ∧ β <+: β' ∧ Rel O G ro w0 β' h' w' ∧ VR β' v v' := by
  have ptr : ∀ (n m : Nat), VR (β ++ [⟨w.heap.size, 0, m⟩]) (.pointer (some ⟨O.next h, 0, none⟩)) (.pointer (some ⟨w.heap.size, 0, none⟩)) := fun n m =>
    (show SR _ (.pointer (some ⟨O.next h, 0, none⟩)) _ from ⟨⟨w.heap.size, 0, m⟩, last_place r.len, rfl⟩)
  cases hop : o.op with
  | alloc e =>
    rw [hop] at hv he
    simp only [effA] at hv
    split at hv
    case h_2 => simp at hv
    rename_i i hi
    split at hv
    case h_2 => simp at hv
    rename_i z hz
    split at hv
    case isFalse => simp at hv
    rename_i hzo
    simp only [Option.some.injEq, Prod.mk.injEq] at hv
    obtain ⟨rfl, rfl⟩ := hv
    refine ⟨_, .pointer (some ⟨w.heap.size, 0, none⟩), _, ?_, List.prefix_append _ _, new_sim L r (zero_rel (β := β) _ hzo) e, ptr 0 _⟩
    simp only [execOp, hop]
    refine comes_v ?_
    simp [Instr.alloc, zeroValue, typeInfo, hi, hz, newVar, newRow]
  | box e x =>
    rw [hop] at hv he
    simp only [effA] at hv
    split at hv
    · simp at hv
    rename_i ht
    simp only [Option.some.injEq, Prod.mk.injEq] at hv
    obtain ⟨rfl, rfl⟩ := hv
    have hx := (he x (by simp [opnds, Op.operands])).toCR (by simpa using ht)
    refine ⟨_, .pointer (some ⟨w.heap.size, 0, none⟩), _, ?_, List.prefix_append _ _, new_sim L r hx.cells e, ptr 0 _⟩
    simp only [execOp, hop]
    refine comes_v ?_
    simp [Instr.box, newVar, newRow]
  | buildSlice t len parts =>
    rw [hop] at hv he
    simp only [effA] at hv
    split at hv
    case h_2 => simp at hv
    rename_i e hu
    split at hv
    case h_2 => simp at hv
    rename_i i hi
    split at hv
    case h_2 => simp at hv
    rename_i z hz
    split at hv
    · simp at hv
    rename_i hcond
    simp only [not_or, Bool.not_eq_false] at hcond
    obtain ⟨hbig, hzo, hz0, hall⟩ := hcond
    split at hv
    case h_2 => simp at hv
    rename_i _ cells hfill
    simp only [Option.some.injEq, Prod.mk.injEq] at hv
    obtain ⟨rfl, rfl⟩ := hv
    have hpr : PR β (parts.map fun (i, x) => (i, ρ x)).toList (parts.map fun (i, x) => (i, ρ' x)).toList :=
      PR.map parts fun p hp => (he p.2 (by simp [opnds, Op.operands]; exact ⟨p.1, by simpa using hp⟩)).toCR (by simpa using List.all_eq_true.1 hall p hp)
    obtain ⟨cells', hf', hcr⟩ := fill_rel (β := β) _ _ _ _ (rangeA z.cells (len * i.size)).toArray _ hpr (by simpa using range_rel (β := β) hzo hz0 (len * i.size)) hfill
    have hsz : ∀ (ps : List (Nat × Value)) (cs out : Array Value), Instr.fill (fun j => some (j * i.size, i.size)) cs ps = some out → out.size = cs.size := by
      intro ps
      induction ps with
      | nil => intro cs out h; simp [Instr.fill] at h; rw [h]
      | cons q ps ih =>
        intro cs out h
        obtain ⟨j, u⟩ := q
        simp only [Instr.fill] at h
        split at h
        · simp at h
        · rw [ih _ _ h]
          have : ∀ (l : List (Value × Nat)) (c : Array Value), (l.foldl (fun cs (c, k) => cs.setIfInBounds (j * i.size + k) c) c).size = c.size := by
            intro l
            induction l with
            | nil => intro c; rfl
            | cons y l ih2 => intro c; rw [List.foldl_cons, ih2]; simp
          rw [← Array.foldl_toList]
          exact this _ _
    have hcs : cells'.size = len * i.size := by rw [hsz _ _ _ hf']; simp [rangeA]
    refine ⟨_, .slice (some ⟨w.heap.size, 0, none⟩) len len, _, ?_, List.prefix_append _ _, new_sim L r hcr e, ?_⟩
    · simp only [execOp, hop]
      refine comes_v ?_
      have hf2 : Instr.fill (fun j => some (j * i.size, i.size)) (rangeA z.cells (len * i.size)).toArray (parts.map fun x => (x.1, ρ' x.2)).toList = some cells' := hf'
      by_cases h0 : len * i.size = 0
      · have hrange : (Array.range (len * i.size)).map (fun x => (#[] : Array Value)[x % (#[] : Array Value).size]!) = (rangeA z.cells (len * i.size)).toArray := by simp [h0, rangeA]
        simp only [Instr.buildSlice, Sem.run_bind, run_underlying hu, Result.andThen_ok, sizeOf, typeInfo, run_program, hi, Sem.run_pure, Sem.run_ite, if_neg hbig, if_pos h0]
        rw [hrange, hf2]
        simp [newRow]
      · have hrange : (Array.range (len * i.size)).map (fun x => z.cells[x % z.cells.size]!) = (rangeA z.cells (len * i.size)).toArray := by
          apply Array.ext'
          simp [rangeA, Array.toList_range]
        have hzv : (zeroValue e).run P w = .ok z w := by simp [zeroValue, typeInfo, hi, hz]
        simp only [Instr.buildSlice, Sem.run_bind, run_underlying hu, Result.andThen_ok, sizeOf, typeInfo, run_program, hi, Sem.run_pure, Sem.run_ite, if_neg hbig, if_neg h0, hzv]
        rw [hrange, hf2]
        simp [newRow]
    · refine (show SR _ (.slice (some ⟨O.next h, 0, some i.size⟩) len (len + 1)) _ from ⟨⟨w.heap.size, 0, cells'.size⟩, len, i.size, last_place r.len, rfl, rfl, Nat.le_refl _, ?_, fun _ => rfl⟩)
      simp only [hcs]
      omega
  | store t a x =>
    rw [hop] at hv he
    simp only [effA] at hv
    have h1 := he a (by simp [opnds, Op.operands])
    have h2 := he x (by simp [opnds, Op.operands])
    split at hv
    case h_2 => simp at hv
    rename_i p i hpa hi
    rw [hpa] at h1
    obtain ⟨pl, hpl, e1⟩ := VR.ptr h1
    split at hv
    · simp at hv
    rename_i hro
    split at hv
    case isFalse => simp at hv
    rename_i hcond
    obtain ⟨hsize, hflat⟩ := hcond
    split at hv
    case h_2 => simp at hv
    rename_i _ h1' hput
    simp only [Option.some.injEq, Prod.mk.injEq] at hv
    obtain ⟨rfl, rfl⟩ := hv
    have htup : isTup (ρ x) = false := by
      cases hx : ρ x with
      | tuple vs => rw [hx] at hflat; simp [Value.cells, isFlat] at hflat
      | _ => rfl
    have hcells := (h2.toCR htup).cells
    obtain ⟨w1, hrun, hr1⟩ := puts_sim (P := P) L hpl (by omega) _ _ h h1' w p.off 0 hcells r (by simpa using hput)
    refine ⟨β, undef, w1, .inr ⟨?_, rfl⟩, List.prefix_rfl, hr1, VR.undef β⟩
    have hsz : (ρ' x).cells.size = i.size := by rw [← hsize]; simpa using hcells.1
    simp only [execOp, hop, Instr.storeAt, e1, Instr.sureAddr, storeVar, sizeOf, typeInfo, Sem.run_bind, run_program, Result.andThen_ok, Sem.run_pure, hi, Sem.run_ite, hsz, ne_eq, not_true, if_false, hrun]
  | makeSlice t l c =>
    rw [hop] at hv he
    simp only [effA] at hv
    have h1 := he l (by simp [opnds, Op.operands])
    have h2 := he c (by simp [opnds, Op.operands])
    split at hv
    case h_2 => simp at hv
    rename_i e kl l' kc c' hu hl hc
    rw [hl] at h1
    rw [hc] at h2
    split at hv
    case h_2 => simp at hv
    rename_i i hi
    split at hv
    case h_2 => simp at hv
    rename_i z hz
    split at hv
    case isFalse => simp at hv
    rename_i hcond
    obtain ⟨h0, hlc, hby, hcl, hzo, hz0⟩ := hcond
    simp only [Option.some.injEq, Prod.mk.injEq] at hv
    obtain ⟨rfl, rfl⟩ := hv
    have hrun := run_make (P := P) w t e i z hu hi hz kl kc l' c' h0 hlc (by rw [Int.mul_comm]; omega) (by omega)
    have hcr : LR (SR β) (rangeA z.cells (c'.toNat * i.size)) (madeCells z.cells (c'.toNat * i.size)).toList := by
      rw [← rangeA_eq]; simpa using range_rel (β := β) hzo hz0 _
    refine ⟨_, .slice (some ⟨w.heap.size, 0, none⟩) l'.toNat c'.toNat, _, ?_, List.prefix_append _ _, new_sim L r hcr e, ?_⟩
    · simp only [execOp, hop]
      refine comes_v ?_
      rw [VR.int h1, VR.int h2]
      exact hrun
    · refine (show SR _ (.slice (some ⟨O.next h, 0, some i.size⟩) l'.toNat (c'.toNat + 1)) _ from ⟨⟨w.heap.size, 0, (madeCells z.cells (c'.toNat * i.size)).size⟩, c'.toNat, i.size, last_place r.len, rfl, rfl, by omega, ?_, fun _ => rfl⟩)
      simp only [size_madeCells]
      omega
  | call c =>
    obtain ⟨cal, args, tys⟩ := c
    rw [hop] at hv he
    cases cal with
    | value f =>
      cases f with
      | func f => exact absurd hop (hnc f args tys)
      | _ => simp [effA] at hv
    | invoke q m => simp [effA] at hv
    | builtin b =>
      have hargs : LR (VR β) (args.toList.map ρ) (args.toList.map ρ') := LR.map _ fun x hx => he x (by simpa [opnds] using hx)
      have earr : (args.toList.map ρ').toArray = args.map ρ' := by apply Array.ext'; simp
      cases b with
      | append =>
        simp only [effA] at hv
        obtain ⟨β', v', w', hrun, hp, hr', hvr⟩ := append_sim (ty := o.type) L r hargs hv
        rw [earr] at hrun
        exact ⟨β', v', w', .inl (by simp [execOp, hop, resolve, invoke, builtin, hrun]), hp, hr', hvr⟩
      | copy =>
        simp only [effA] at hv
        obtain ⟨v', w', hrun, hr', hvr⟩ := copy_sim (ty := o.type) L r hargs hv
        rw [earr] at hrun
        exact ⟨β, v', w', .inl (by simp [execOp, hop, resolve, invoke, builtin, hrun]), List.prefix_rfl, hr', hvr⟩
      | _ => simp [effA] at hv
  | _ => rw [hop] at hv; simp [effA] at hv

theorem step_of_call (L : O.Law) (call : FuncId → List Value → H → Option (Value × H)) (hcall : CallSim P O G ro w0 call) : StepSim P O G ro w0 call := by
  intro o t a h h' w β v hok hr he hv K Q hK
  have fin : ∀ β' v' w', Comes' ((execOp a.eval o).run P w) v' w' → β <+: β' → Rel O G ro w0 β' h' w' → VR β' v v' → o.wp P a w K Q := by
    intro β' v' w' hc hp hr' hvr
    have hk := hK β' v' w' hp hr' hvr
    unfold Oper.wp
    rcases hc with hc | ⟨hc, rfl⟩ <;> rw [hc] <;> exact hk
  by_cases hfc : ∃ f args tys, o.op = .call { callee := .value (.func f), args := args, argTypes := tys }
  · obtain ⟨f, args, tys, hop⟩ := hfc
    have hv' : call f (args.toList.map (evalT t)) h = some (v, h') := by
      rw [hop] at hv; exact hv
    have hargs : LR (VR β) (args.toList.map (evalT t)) (args.toList.map a.eval) := LR.map _ fun x hx => he x (by rw [hop]; simpa [opnds] using hx)
    obtain ⟨⟨fn, c, hf, hb, hname⟩, hcalls⟩ := hcall f _ _ h h' w β v hr hargs hv'
    have earr : (args.toList.map a.eval).toArray = args.map a.eval := by apply Array.ext'; simp
    rw [earr] at hcalls
    have hrun : (execOp a.eval o).run P w = .ok (.enter f (args.map a.eval)) w := by
      have hname' : ¬ (fn.name = "runtime.NumGoroutine") := by simpa using hname
      simp [execOp, hop, resolve, Act.eval, Deferred.ofValue, invoke, callFunc, hf, hb, hname']
    unfold Oper.wp
    rw [hrun]
    refine Calls.mono hcalls fun e w' hq => ?_
    obtain ⟨v', β', rfl, hp, hr', hvr⟩ := hq
    exact hK β' v' w' hp hr' hvr
  · unfold opA at hv
    split at hv
    · rename_i hc
      cases hp : pureA P (evalT t) o.op with
      | none => rw [hp] at hv; simp at hv
      | some u =>
        rw [hp] at hv
        simp only [Option.map_some, Option.some.injEq, Prod.mk.injEq] at hv
        obtain ⟨rfl, rfl⟩ := hv
        obtain ⟨v', hcm, hvr⟩ := pure_sim (P := P) w he hc hp
        exact fin β v' w hcm List.prefix_rfl hr hvr
    · rename_i hc
      cases hp : readA P O (evalT t) o.op h with
      | none => rw [hp] at hv; simp at hv
      | some u =>
        rw [hp] at hv
        simp only [Option.map_some, Option.some.injEq, Prod.mk.injEq] at hv
        obtain ⟨rfl, rfl⟩ := hv
        obtain ⟨v', hcm, hvr⟩ := read_sim hr he hp
        exact fin β v' w hcm List.prefix_rfl hr hvr
    · obtain ⟨β', v', w', hcm, hp, hr', hvr⟩ := eff_sim L hr he (fun f args tys e => hfc ⟨f, args, tys, e⟩) hv
      exact fin β' v' w' hcm hp hr' hvr

/-- THE WHOLE: what a call answers in the plain semantics, the model's call comes to, in whatever world that fits. -/
theorem calls_sim (L : O.Law) {ok qs : FuncId → Bool} (hmix : P.follows .mixedOrders = true) (hqs : ∀ f, qs f = true → FunQ P qs f) (hfun : ∀ f, ok f = true → FunOk P G qs f) (n : Nat) : CallSim P O G ro w0 (callA P O ro ok n) :=
  call_sim hfun (code_sim L hmix hqs hfun (fun _ call hc => step_of_call L call hc) n w0)

end
end Go.Vm
