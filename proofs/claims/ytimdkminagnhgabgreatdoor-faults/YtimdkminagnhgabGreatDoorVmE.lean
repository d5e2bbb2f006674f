/-
  Code and calls. Own work.
-/
import Derived.Test.YtimdkminagnhgabGreatDoorVmD
import Derived.Laws.Cells
import Derived.Deep.LoopGhost
namespace Go.Vm
open Go.RowKit
set_option linter.unusedSimpArgs false

section
variable {P : Program} {H : Type} {O : HI H} {G ro : Nat} {w0 : Prot}

theorem addr_add (b o n : Nat) : (⟨b, o, none⟩ : Addr).add n = ⟨b, o + n, none⟩ := by
  unfold Addr.add
  split
  · rename_i h; subst h; rfl
  · rfl

theorem cell_of_heap {w : World} {b o : Nat} {c : Array Value} {e : TypeId} {fz : Nat × Nat} (h : w.heap[b]? = some (.cells c e fz)) : w.cell? ⟨b, o, none⟩ = c[o]? := by
  simp [World.cell?, h]

theorem Rel.cell {β : List Place} {h : H} {w : World} (r : Rel O G ro w0 β h w) {b o : Nat} {p : Place} (hp : β[b]? = some p) {v : Value} (hc : O.cell h b o = some v) :
    ∃ v', w.cell? ⟨p.blk, p.off + o, none⟩ = some v' ∧ SR β v v' := by
  obtain ⟨c, e, fz, hh, _, _, hcell⟩ := r.cells b p hp
  obtain ⟨v', h1, h2⟩ := hcell o v hc
  exact ⟨v', by rw [cell_of_heap hh]; exact h1, h2⟩

theorem Rel.cellsA {β : List Place} {h : H} {w : World} (r : Rel O G ro w0 β h w) {b : Nat} {p : Place} (hp : β[b]? = some p) : ∀ (n o : Nat) (l : List Value), cellsA O h b o n = some l →
    ∃ l', LR (SR β) l l' ∧ l.length = n ∧ ∀ (j : Nat) v', l'[j]? = some v' → w.cell? ⟨p.blk, p.off + o + j, none⟩ = some v' := by
  intro n
  induction n with
  | zero => intro o l hl; simp [Vm.cellsA] at hl; subst hl; exact ⟨[], LR.nil _, rfl, fun j v' h => by simp at h⟩
  | succ n ih =>
    intro o l hl
    simp only [Vm.cellsA] at hl
    cases h1 : O.cell h b o with
    | none => rw [h1] at hl; simp at hl
    | some v =>
      cases h2 : Vm.cellsA O h b (o + 1) n with
      | none => rw [h1, h2] at hl; simp at hl
      | some t =>
        rw [h1, h2] at hl
        simp at hl
        subst hl
        obtain ⟨v', hv', hs⟩ := r.cell hp h1
        obtain ⟨l', hl', hn, hc⟩ := ih _ _ h2
        refine ⟨v' :: l', LR.cons hs hl', by simp [hn], fun j x hx => ?_⟩
        cases j with
        | zero => simp at hx; subst hx; simpa using hv'
        | succ j =>
          have := hc j x (by simpa using hx)
          rw [show p.off + o + (j + 1) = p.off + (o + 1) + j by omega]
          exact this

theorem VR.ptr {β : List Place} {a : Addr} {v' : Value} (h : VR β (.pointer (some a)) v') : ∃ p, β[a.block]? = some p ∧ v' = .pointer (some ⟨p.blk, p.off + a.off, none⟩) := h

/-- A variable is read. -/
theorem load_sim {β : List Place} {h : H} {w : World} (r : Rel O G ro w0 β h w) {t : TypeId} {a : Value} {v a' : Value} (hl : loadA P O t a h = some v) (ha : VR β a a') :
    ∃ ad v', a' = .pointer (some ad) ∧ (loadVar t ad).run P w = .ok v' w ∧ CR β v v' := by
  unfold loadA at hl
  cases a with
  | pointer a =>
    cases a with
    | none => simp at hl
    | some a =>
      obtain ⟨p, hp, rfl⟩ := VR.ptr ha
      simp only at hl
      have multi : ∀ i, P.info? t = some i → (∃ fs, P.underlying t = some (.struct fs)) ∨ (∃ n e, P.underlying t = some (.array n e)) → (Vm.cellsA O h a.block a.off i.size).map (fun l => Value.agg l.toArray) = some v →
          ∃ ad v', Value.pointer (some ⟨p.blk, p.off + a.off, none⟩) = .pointer (some ad) ∧ (loadVar t ad).run P w = .ok v' w ∧ CR β v v' := by
        intro i hi hu hm
        cases hc : Vm.cellsA O h a.block a.off i.size with
        | none => rw [hc] at hm; simp at hm
        | some l =>
          rw [hc] at hm
          simp at hm
          subst hm
          obtain ⟨l', hl', hn, hcell⟩ := r.cellsA hp _ _ _ hc
          refine ⟨_, .agg l'.toArray, rfl, ?_, ⟨l'.toArray, rfl, by simpa using hl'⟩⟩
          have hlen : l'.length = i.size := by rw [hl'.1, hn]
          have hrun := run_loadCells_list (P := P) w ⟨p.blk, p.off + a.off, none⟩ l' (fun j v hv => by rw [addr_add]; exact hcell j v hv)
          rcases hu with ⟨fs, hu⟩ | ⟨n, e, hu⟩ <;>
          · simp only [loadVar, isAgg, underlying, program, sizeOf, typeInfo, Sem.run_bind, Sem.run, hu, hi, Sem.run_pure, Sem.run_pure', Result.andThen_ok, if_true]
            rw [← hlen, hrun]
            rfl
      cases hu : P.underlying t with
      | none => rw [hu] at hl; simp at hl
      | some d =>
        cases hi : P.info? t with
        | none => rw [hu, hi] at hl; cases d <;> simp at hl
        | some i =>
          rw [hu, hi] at hl
          cases d with
          | struct fs => exact multi i hi (.inl ⟨fs, hu⟩) hl
          | array n e => exact multi i hi (.inr ⟨n, e, hu⟩) hl
          | _ =>
            simp only at hl
            obtain ⟨v', hv', hs⟩ := r.cell hp hl
            refine ⟨_, v', rfl, ?_, hs.toCR⟩
            simp [loadVar, isAgg, underlying, program, Sem.run, hu, hv']
  | _ => simp at hl

/-- What a function call answers, the model's call comes to. -/
def CallSim (P : Program) (O : HI H) (G ro : Nat) (w0 : Prot) (call : FuncId → List Value → H → Option (Value × H)) : Prop :=
  ∀ (f : FuncId) (args args' : List Value) (h h' : H) (w : World) (β : List Place) (v : Value), Rel O G ro w0 β h w → LR (VR β) args args' → call f args h = some (v, h') →
    (∃ fn c, P.funcs[f]? = some fn ∧ fn.body = some c ∧ (fn.name == "runtime.NumGoroutine") = false) ∧
    Calls P f args'.toArray w fun e w' => ∃ v' β', e = .returned v' ∧ β <+: β' ∧ Rel O G ro w0 β' h' w' ∧ VR β' v v'

theorem VR.toCR {β : List Place} {v v' : Value} (h : VR β v v') (ht : isTup v = false) : CR β v v' := by
  rcases VR_or v with ⟨cs, rfl⟩ | e
  · simp [isTup] at ht
  · rw [e] at h; exact h

def rvM (t' : Array Value) (rv : ResultVar) : Sem Value :=
  match rv with
  | .tmp a => pure (t'.getD a undef)
  | .cell a ty => do loadVar ty (← asAddr (t'.getD a undef))

theorem results_eq (fn : Func) (t' : Array Value) : results fn t' = (do let vs ← fn.results.mapM (rvM t'); pure (if h : vs.size = 1 then vs[0] else .tuple vs)) := by
  unfold results
  congr 1

theorem resL_sim {β : List Place} {h : H} {w : World} (r : Rel O G ro w0 β h w) {t t' : Array Value} (ht : TR β t t') : ∀ (l : List ResultVar) (vs : List Value), resL P O t h l = some vs →
    ∃ vs', (l.mapM (rvM t')).run P w = .ok vs' w ∧ LR (CR β) vs vs' := by
  intro l
  induction l with
  | nil => intro vs h; simp [resL] at h; subst h; exact ⟨[], rfl, LR.nil _⟩
  | cons rv l ih =>
    intro vs hv
    simp only [resL] at hv
    cases h1 : rvA P O rv t h with
    | none => rw [h1] at hv; simp at hv
    | some v =>
      cases h2 : resL P O t h l with
      | none => rw [h1, h2] at hv; simp at hv
      | some us =>
        rw [h1, h2] at hv
        simp only at hv
        split at hv
        · simp at hv
        · rename_i htup
          simp at hv
          subst hv
          obtain ⟨us', hrun, hus⟩ := ih us h2
          have htup' : isTup v = false := by simpa using htup
          cases rv with
          | tmp a =>
            simp only [rvA, Option.some.injEq] at h1
            subst h1
            refine ⟨t'.getD a undef :: us', ?_, LR.cons ((ht.2 a).toCR htup') hus⟩
            rw [List.mapM_cons]
            simp only [rvM, Sem.run_bind, Sem.run_pure, Result.andThen_ok, hrun]
          | cell a ty =>
            simp only [rvA] at h1
            obtain ⟨ad, x', e, hl, hc⟩ := load_sim r h1 (ht.2 a)
            refine ⟨x' :: us', ?_, LR.cons hc hus⟩
            rw [List.mapM_cons]
            have hx : (rvM t' (.cell a ty)).run P w = .ok x' w := by simp only [rvM, Sem.run_bind, e, asAddr, Sem.run_pure, Result.andThen_ok, hl]
            simp only [Sem.run_bind, hx, Sem.run_pure, Result.andThen_ok, hrun]

theorem res_sim {β : List Place} {h : H} {w : World} (r : Rel O G ro w0 β h w) {fn : Func} {t t' : Array Value} {v : Value} (ht : TR β t t') (hv : resA P O fn t h = some v) :
    ∃ v', (results fn t').run P w = .ok v' w ∧ VR β v v' := by
  unfold resA at hv
  cases hl : resL P O t h fn.results.toList with
  | none => rw [hl] at hv; simp at hv
  | some vs =>
    obtain ⟨vs', hrun, hvs⟩ := resL_sim r ht _ _ hl
    have hres : (results fn t').run P w = .ok (if h : vs'.toArray.size = 1 then vs'.toArray[0] else .tuple vs'.toArray) w := by
      rw [results_eq, Array.mapM_eq_mapM_toList]
      simp only [Sem.run_bind, Sem.run_map, hrun, Result.andThen_ok, Sem.run_pure]
    rw [hres]
    rw [hl] at hv
    cases vs with
    | nil =>
      have e := LR.nil_inv hvs
      subst e
      simp at hv
      subst hv
      exact ⟨_, rfl, ⟨#[], rfl, LR.nil _⟩⟩
    | cons x xs =>
      obtain ⟨y, ys, rfl, hxy, hys⟩ := LR.cons_inv hvs
      cases xs with
      | nil =>
        have e := LR.nil_inv hys
        subst e
        simp at hv
        subst hv
        exact ⟨_, rfl, hxy.toVR⟩
      | cons x2 xs =>
        obtain ⟨y2, ys2, rfl, _, _⟩ := LR.cons_inv hys
        simp at hv
        subst hv
        exact ⟨_, rfl, ⟨_, rfl, by simpa using hvs⟩⟩

/-- A function that may be called. -/
def FunOk (P : Program) (G : Nat) (qs : FuncId → Bool) (f : FuncId) : Prop := ∃ fn c, P.funcs[f]? = some fn ∧ fn.body = some c ∧ codeOk G qs c = true ∧ (fn.name == "runtime.NumGoroutine") = false
/-- A function that only reads. -/
def FunQ (P : Program) (qs : FuncId → Bool) (f : FuncId) : Prop := ∃ fn c, P.funcs[f]? = some fn ∧ fn.body = some c ∧ codeQ qs c = true

/-- What code answers with so much fuel. -/
def CodeSim (P : Program) (O : HI H) (G ro : Nat) (qs : FuncId → Bool) (w0 : Prot) (ok : FuncId → Bool) (n : Nat) : Prop :=
  ∀ (c : Code) (s s' : Array Value × H) (e : Exit) (a : Act) (w : World) (β : List Place), codeOk G qs c = true → Rel O G ro w0 β s.2 w → TR β s.1 a.tmps → a.defers = [] →
    codeA P O ro ok n c s = some (e, s') → c.wp P (fun e' a' w' => e' = e ∧ Ends O G ro w0 β s' a' w') a w

theorem enter_rel {β : List Place} {args args' : List Value} (h : LR (VR β) args args') (n : Nat) :
    TR β (args.toArray ++ Array.replicate (n - args.length) undef) (args'.toArray ++ Array.replicate (n - args'.toArray.size) undef) := by
  have hl := h.1
  refine ⟨by simp [hl], fun i => ?_⟩
  simp only [Array.getD_eq_getD_getElem?]
  by_cases c : i < args.length
  · have c' : i < args'.length := by omega
    rw [Array.getElem?_append_left (by simpa using c), Array.getElem?_append_left (by simpa using c')]
    obtain ⟨y, hy, r⟩ := h.2 i args[i] (List.getElem?_eq_getElem c)
    simp only [List.getElem?_toArray, List.getElem?_eq_getElem c, hy, Option.getD_some]
    exact r
  · rw [Array.getElem?_append_right (by simpa using c), Array.getElem?_append_right (by simp; omega)]
    simp only [Array.getElem?_replicate, List.size_toArray, hl]
    split <;> exact VR.undef β

theorem call_sim {ok qs : FuncId → Bool} (hfun : ∀ f, ok f = true → FunOk P G qs f) {n : Nat} (hc : CodeSim P O G ro qs w0 ok n) : CallSim P O G ro w0 (callA P O ro ok n) := by
  intro f args args' h h' w β v hr hargs hcall
  unfold callA at hcall
  split at hcall
  · rename_i hok
    obtain ⟨fn, c, hf, hb, hcok, hname⟩ := hfun f hok
    simp only [hf, hb] at hcall
    refine ⟨⟨fn, c, hf, hb, hname⟩, ?_⟩
    refine calls_of_wp hf hb ?_
    have ht := enter_rel hargs fn.ntmps
    cases hcode : codeA P O ro ok n c (args.toArray ++ Array.replicate (fn.ntmps - args.length) undef, h) with
    | none => rw [hcode] at hcall; simp at hcall
    | some r =>
      obtain ⟨e, t, h1⟩ := r
      have hwp := hc c _ _ _ { tmps := args'.toArray ++ Array.replicate (fn.ntmps - args'.toArray.size) undef, defers := [] } w β hcok hr ht rfl hcode
      have fin : (e = .normal ∨ e = .ret) ∧ (resA P O fn t h1).map (fun v => (v, h1)) = some (v, h') := by
        rw [hcode] at hcall
        cases e <;> first | (simp at hcall; done) | exact ⟨.inl rfl, hcall⟩ | exact ⟨.inr rfl, hcall⟩
      obtain ⟨he, hres⟩ := fin
      refine wp_mono hwp fun e' a' w' hq => ?_
      obtain ⟨rfl, hd, β', hp, hr', ht'⟩ := hq
      cases hv : resA P O fn t h1 with
      | none => rw [hv] at hres; simp at hres
      | some u =>
        rw [hv] at hres
        simp at hres
        obtain ⟨rfl, rfl⟩ := hres
        obtain ⟨v', hrun, hvr⟩ := res_sim hr' ht' hv
        rcases he with rfl | rfl <;> exact ⟨hd, v', hrun, v', β', rfl, hp, hr', hvr⟩
  · simp at hcall

/-- Code that only reads leaves memory alone. -/
theorem quiet_code {ok qs : FuncId → Bool} (hqs : ∀ f, qs f = true → FunQ P qs f) : ∀ (n : Nat) (c : Code) (s s' : Array Value × H) (e : Exit), codeQ qs c = true → codeA P O ro ok n c s = some (e, s') → s'.2 = s.2 := by
  intro n
  induction n with
  | zero => intro c s s' e _ h; simp [codeA] at h
  | succ n ih =>
    intro c s s' e hc h
    cases c with
    | skip | ret | exit _ => simp only [codeA, Option.some.injEq, Prod.mk.injEq] at h; rw [← h.2]
    | seq x y =>
      simp only [codeQ, Bool.and_eq_true] at hc
      simp only [codeA] at h
      cases hx : codeA P O ro ok n x s with
      | none => rw [hx] at h; simp at h
      | some r =>
        obtain ⟨e1, s1⟩ := r
        rw [hx] at h
        have h1 := ih x s s1 e1 hc.1 hx
        cases e1 with
        | normal => exact (ih y s1 s' e hc.2 h).trans h1
        | _ => simp only [Option.some.injEq, Prod.mk.injEq] at h; rw [← h.2]; exact h1
    | cond o x y =>
      simp only [codeQ, Bool.and_eq_true] at hc
      simp only [codeA] at h
      split at h
      · exact ih x s s' e hc.1 h
      · exact ih y s s' e hc.2 h
      · simp at h
    | block id x =>
      simp only [codeQ] at hc
      simp only [codeA] at h
      cases hx : codeA P O ro ok n x s with
      | none => rw [hx] at h; simp at h
      | some r =>
        obtain ⟨e1, s1⟩ := r
        rw [hx] at h
        have h1 := ih x s s1 e1 hc hx
        cases e1 with
        | exit id' =>
          simp only [Option.some.injEq] at h
          split at h <;> (simp only [Prod.mk.injEq] at h; rw [← h.2]; exact h1)
        | _ => simp only [Option.some.injEq, Prod.mk.injEq] at h; rw [← h.2]; exact h1
    | loop x =>
      have hc' := hc
      simp only [codeQ] at hc
      simp only [codeA] at h
      cases hx : codeA P O ro ok n x s with
      | none => rw [hx] at h; simp at h
      | some r =>
        obtain ⟨e1, s1⟩ := r
        rw [hx] at h
        have h1 := ih x s s1 e1 hc hx
        cases e1 with
        | normal => exact (ih (.loop x) s1 s' e hc' h).trans h1
        | _ => simp only [Option.some.injEq, Prod.mk.injEq] at h; rw [← h.2]; exact h1
    | region id ops draw =>
      simp only [codeQ] at hc
      have h' : (runA P O ro (callA P O ro ok n) ops (List.range ops.size) s).bind (fun s' => if fitsA ops draw s'.1 then some (Exit.normal, s') else none) = some (e, s') := h
      have hq : Quiet qs (callA P O ro ok n) := by
        intro f args g v g' hf hcall
        obtain ⟨fn, c, hfn, hb, hcq⟩ := hqs f hf
        unfold callA at hcall
        split at hcall
        · simp only [hfn, hb] at hcall
          cases hcd : codeA P O ro ok n c (args.toArray ++ Array.replicate (fn.ntmps - args.length) undef, g) with
          | none => rw [hcd] at hcall; simp at hcall
          | some r =>
            obtain ⟨e1, t1, g1⟩ := r
            have h1 := ih c _ _ _ hcq hcd
            rw [hcd] at hcall
            have : (resA P O fn t1 g1).map (fun v => (v, g1)) = some (v, g') := by
              cases e1 <;> first | (simp at hcall; done) | exact hcall
            cases hrs : resA P O fn t1 g1 with
            | none => rw [hrs] at this; simp at this
            | some u => rw [hrs] at this; simp at this; rw [← this.2]; exact h1
        · simp at hcall
      have key : ∀ (l : List Nat) (s s1 : Array Value × H), runA P O ro (callA P O ro ok n) ops l s = some s1 → s1.2 = s.2 := by
        intro l
        induction l with
        | nil => intro s s1 hr; simp only [runA, Option.some.injEq] at hr; rw [← hr]
        | cons i l ihl =>
          intro s s1 hr
          rw [runA_cons] at hr
          cases hst : stepA P O ro (callA P O ro ok n) ops i s with
          | none => rw [hst] at hr; simp at hr
          | some s2 =>
            rw [hst, Option.bind_some] at hr
            rw [ihl s2 s1 hr]
            obtain ⟨t, g⟩ := s
            cases ho : ops[i]? with
            | none =>
              simp only [stepA, ho, Option.some.injEq] at hst
              rw [← hst]
            | some o =>
              have hmem := List.all_eq_true.1 hc o (by obtain ⟨hl, rfl⟩ := Array.getElem?_eq_some_iff.1 ho; simp)
              simp only [Bool.or_eq_true, beq_iff_eq] at hmem
              rw [stepA_eq ho] at hst
              rcases hmem with hm | hm
              · obtain ⟨f, hf⟩ := actA_pure (P := P) (O := O) (ro := ro) (call := callA P O ro ok n) (ops := ops) hm t
                rw [hf] at hst
                cases f with
                | none => simp at hst
                | some v => simp only [Option.map_some, Option.some.injEq] at hst; rw [← hst]
              · obtain ⟨f, hf⟩ := actA_rdl (P := P) (O := O) (ro := ro) (ops := ops) hq hm t
                rw [hf] at hst
                cases hfg : f g with
                | none => rw [hfg] at hst; simp at hst
                | some v => rw [hfg] at hst; simp only [Option.map_some, Option.some.injEq] at hst; rw [← hst]
      cases hrun : runA P O ro (callA P O ro ok n) ops (List.range ops.size) s with
      | none => rw [hrun] at h'; simp at h'
      | some s1 =>
        rw [hrun] at h'
        simp only [Option.bind_some] at h'
        split at h'
        · simp only [Option.some.injEq, Prod.mk.injEq] at h'
          rw [← h'.2]
          exact key _ _ _ hrun
        · simp at h'
    | _ => simp [codeQ] at hc

theorem quiet_call {ok qs : FuncId → Bool} (hqs : ∀ f, qs f = true → FunQ P qs f) (n : Nat) : Quiet qs (callA P O ro ok n) := by
  intro f args g v g' hf hcall
  obtain ⟨fn, c, hfn, hb, hcq⟩ := hqs f hf
  unfold callA at hcall
  split at hcall
  · simp only [hfn, hb] at hcall
    cases hcd : codeA P O ro ok n c (args.toArray ++ Array.replicate (fn.ntmps - args.length) undef, g) with
    | none => rw [hcd] at hcall; simp at hcall
    | some r =>
      obtain ⟨e1, t1, g1⟩ := r
      have h1 := quiet_code hqs n c _ _ _ hcq hcd
      rw [hcd] at hcall
      have : (resA P O fn t1 g1).map (fun v => (v, g1)) = some (v, g') := by
        cases e1 <;> first | (simp at hcall; done) | exact hcall
      cases hrs : resA P O fn t1 g1 with
      | none => rw [hrs] at this; simp at this
      | some u => rw [hrs] at this; simp at this; rw [← this.2]; exact h1
  · simp at hcall

theorem code_sim (L : O.Law) {ok qs : FuncId → Bool} (hmix : P.follows .mixedOrders = true) (hqs : ∀ f, qs f = true → FunQ P qs f) (hfun : ∀ f, ok f = true → FunOk P G qs f)
    (hstep : ∀ w0 call, CallSim P O G ro w0 call → StepSim P O G ro w0 call) : ∀ n w0, CodeSim P O G ro qs w0 ok n := by
  intro n
  induction n using Nat.strongRecOn with
  | _ n0 ih0 =>
   intro w0
   cases n0 with
   | zero => intro c s s' e a w β _ _ _ _ h; simp [codeA] at h
   | succ n =>
    have ihA := ih0 n (Nat.lt_succ_self n)
    have ih := ihA w0
    intro c s s' e a w β hok hr ht hd h
    cases c with
    | skip =>
      simp only [codeA, Option.some.injEq, Prod.mk.injEq] at h
      obtain ⟨rfl, rfl⟩ := h
      exact wp_skip ⟨rfl, hd, β, List.prefix_rfl, hr, ht⟩
    | ret =>
      simp only [codeA, Option.some.injEq, Prod.mk.injEq] at h
      obtain ⟨rfl, rfl⟩ := h
      exact wp_ret ⟨rfl, hd, β, List.prefix_rfl, hr, ht⟩
    | exit id =>
      simp only [codeA, Option.some.injEq, Prod.mk.injEq] at h
      obtain ⟨rfl, rfl⟩ := h
      exact wp_exit ⟨rfl, hd, β, List.prefix_rfl, hr, ht⟩
    | seq x y =>
      simp only [codeOk, Bool.and_eq_true] at hok
      simp only [codeA] at h
      cases hx : codeA P O ro ok n x s with
      | none => rw [hx] at h; simp at h
      | some r =>
        obtain ⟨e1, s1⟩ := r
        rw [hx] at h
        refine wp_seq (wp_mono (ih x s s1 e1 a w β hok.1 hr ht hd hx) fun e' a' w' hq => ?_)
        obtain ⟨rfl, hd', β', hp, hr', ht'⟩ := hq
        cases e' with
        | normal =>
          refine wp_mono (ih y s1 s' e a' w' β' hok.2 hr' ht' hd' h) fun e'' a'' w'' hq' => ?_
          obtain ⟨he, hd'', β'', hp', hr'', ht''⟩ := hq'
          exact ⟨he, hd'', β'', hp.trans hp', hr'', ht''⟩
        | _ =>
          simp only [Option.some.injEq, Prod.mk.injEq] at h
          obtain ⟨rfl, rfl⟩ := h
          exact ⟨rfl, hd', β', hp, hr', ht'⟩
    | cond o x y =>
      simp only [codeOk, Bool.and_eq_true] at hok
      simp only [codeA] at h
      have ho := evalT_rel hr ht hok.1.1
      cases hv : evalT s.1 o with
      | bool b =>
        rw [hv] at h ho
        have hb : a.eval o = .bool b := ho
        cases b with
        | true => exact wp_cond_true hb (ih x s s' e a w β hok.1.2 hr ht hd h)
        | false => exact wp_cond_false hb (ih y s s' e a w β hok.2 hr ht hd h)
      | _ => rw [hv] at h; simp at h
    | block id x =>
      simp only [codeOk] at hok
      simp only [codeA] at h
      cases hx : codeA P O ro ok n x s with
      | none => rw [hx] at h; simp at h
      | some r =>
        obtain ⟨e1, s1⟩ := r
        rw [hx] at h
        refine wp_block (wp_mono (ih x s s1 e1 a w β hok hr ht hd hx) fun e' a' w' hq => ?_)
        obtain ⟨rfl, hends⟩ := hq
        cases e' with
        | exit id' =>
          simp only [Option.some.injEq] at h
          simp only [Exit.inBlock]
          split
          · rename_i hid
            rw [if_pos hid] at h
            simp only [Prod.mk.injEq] at h
            obtain ⟨rfl, rfl⟩ := h
            exact ⟨rfl, hends⟩
          · rename_i hid
            rw [if_neg hid] at h
            simp only [Prod.mk.injEq] at h
            obtain ⟨rfl, rfl⟩ := h
            exact ⟨rfl, hends⟩
        | _ =>
          simp only [Option.some.injEq, Prod.mk.injEq] at h
          obtain ⟨rfl, rfl⟩ := h
          exact ⟨rfl, hends⟩
    | loop x =>
      simp only [codeOk] at hok
      refine wp_loop_ghost (fun k a w => k ≤ n + 1 ∧ ∃ s1 β1, β <+: β1 ∧ Rel O G ro w0 β1 s1.2 w ∧ TR β1 s1.1 a.tmps ∧ a.defers = [] ∧ codeA P O ro ok k (.loop x) s1 = some (e, s')) (n + 1)
        ⟨Nat.le_refl _, s, β, List.prefix_rfl, hr, ht, hd, h⟩ ?_
      intro k a1 w1 hI
      obtain ⟨hk, s1, β1, hp1, hr1, ht1, hd1, h1⟩ := hI
      cases k with
      | zero => simp [codeA] at h1
      | succ k =>
        simp only [codeA] at h1
        cases hx : codeA P O ro ok k x s1 with
        | none => rw [hx] at h1; simp at h1
        | some r =>
          obtain ⟨e2, s2⟩ := r
          rw [hx] at h1
          refine wp_mono (ih0 k (by omega) w0 x s1 s2 e2 a1 w1 β1 hok hr1 ht1 hd1 hx) fun e' a' w' hq => ?_
          obtain ⟨rfl, hd', β', hp, hr', ht'⟩ := hq
          cases e' with
          | normal => exact ⟨k, Nat.lt_succ_self k, by omega, s2, β', hp1.trans hp, hr', ht', hd', h1⟩
          | _ =>
            simp only [Option.some.injEq, Prod.mk.injEq] at h1
            obtain ⟨rfl, rfl⟩ := h1
            exact ⟨rfl, hd', β', hp1.trans hp, hr', ht'⟩
    | region id ops draw =>
      simp only [codeOk] at hok
      have hst := fun w0 => hstep w0 _ (call_sim hfun (ihA w0))
      have h' : (runA P O ro (callA P O ro ok n) ops (List.range ops.size) s).bind (fun s' => if fitsA ops draw s'.1 then some (Exit.normal, s') else none) = some (e, s') := h
      cases hrun : runA P O ro (callA P O ro ok n) ops (List.range ops.size) s with
      | none => rw [hrun] at h'; simp at h'
      | some s1 =>
        rw [hrun] at h'
        simp only [Option.bind_some] at h'
        split at h'
        · rename_i hfit
          simp only [Option.some.injEq, Prod.mk.injEq] at h'
          obtain ⟨rfl, rfl⟩ := h'
          exact region_sim L (quiet_call hqs n) hst hmix hok hr ht hd hrun hfit fun a' w' he => ⟨rfl, he⟩
        · simp at h'
    | _ => simp [codeA] at h

end
end Go.Vm
