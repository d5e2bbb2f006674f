/-
  Regions that draw their order: where two operations that are not ordered do not touch each other, every order comes to what the order of the text comes to. Own work.
-/
import Derived.Test.YtimdkminagnhgabGreatDoorVm
namespace Go.Vm

section
variable {P : Program} {H : Type} {O : HI H} {ro : Nat} {call : FuncId → List Value → H → Option (Value × H)}

theorem opA_congr {ρ ρ' : Operand → Value} {op : Op} {h : H} (e : ∀ x ∈ opnds op, ρ x = ρ' x) : opA P O ro call ρ op h = opA P O ro call ρ' op h := by
  cases op with
  | call c =>
    obtain ⟨cal, args, tys⟩ := c
    have em : args.toList.map ρ = args.toList.map ρ' := List.map_congr_left fun x hx => e x hx
    cases cal with
    | value f => cases f <;> simp [opA, cls, effA, em]
    | invoke r m => simp [opA, cls, effA]
    | builtin b =>
      cases b <;> simp only [opA, cls, effA, em, pureA]
      all_goals
        have e' : ∀ x r, args.toList = x :: r → ρ x = ρ' x := fun x r h => e x (by simp [opnds, h])
        generalize args.toList = l at e'
        generalize tys.toList = k
        cases l with
        | nil => cases k <;> rfl
        | cons x r => cases k <;> simp only [e' x r rfl]
  | build t parts =>
    have em : (parts.map fun (i, x) => (i, ρ x)) = parts.map fun (i, x) => (i, ρ' x) := by
      apply Array.map_congr_left
      rintro ⟨i, x⟩ hx
      simp only [Prod.mk.injEq, true_and]
      exact e x (by simp [opnds, Op.operands]; exact ⟨i, by simpa using hx⟩)
    have ea : parts.toList.all (fun p => !isTup (ρ p.2)) = parts.toList.all (fun p => !isTup (ρ' p.2)) := by
      rw [Bool.eq_iff_iff, List.all_eq_true, List.all_eq_true]
      constructor <;> intro hh p hp
      · rw [← e p.2 (by simp [opnds, Op.operands]; exact ⟨p.1, by simpa using hp⟩)]; exact hh p hp
      · rw [e p.2 (by simp [opnds, Op.operands]; exact ⟨p.1, by simpa using hp⟩)]; exact hh p hp
    simp only [opA, cls, pureA, em, ea]
  | buildSlice t n parts =>
    have em : (parts.map fun (i, x) => (i, ρ x)) = parts.map fun (i, x) => (i, ρ' x) := by
      apply Array.map_congr_left
      rintro ⟨i, x⟩ hx
      simp only [Prod.mk.injEq, true_and]
      exact e x (by simp [opnds, Op.operands]; exact ⟨i, by simpa using hx⟩)
    have ea : parts.toList.all (fun p => !isTup (ρ p.2)) = parts.toList.all (fun p => !isTup (ρ' p.2)) := by
      rw [Bool.eq_iff_iff, List.all_eq_true, List.all_eq_true]
      constructor <;> intro hh p hp
      · rw [← e p.2 (by simp [opnds, Op.operands]; exact ⟨p.1, by simpa using hp⟩)]; exact hh p hp
      · rw [e p.2 (by simp [opnds, Op.operands]; exact ⟨p.1, by simpa using hp⟩)]; exact hh p hp
    simp only [opA, cls, effA, em, ea]
  | slice t x lo hi mx =>
    have e0 := e x (by simp [opnds, Op.operands])
    have e1 : lo.map ρ = lo.map ρ' := by cases lo <;> simp; exact e _ (by simp [opnds, Op.operands])
    have e2 : hi.map ρ = hi.map ρ' := by cases hi <;> simp; exact e _ (by simp [opnds, Op.operands])
    have e3 : mx.map ρ = mx.map ρ' := by cases mx <;> simp; exact e _ (by simp [opnds, Op.operands])
    simp [opA, cls, readA, e0, e1, e2, e3]
  | _ => simp [opnds, Op.operands] at e; simp [opA, cls, pureA, readA, effA, e]

/-- What an operation answers, and what it leaves of memory. -/
def actA (P : Program) (O : HI H) (ro : Nat) (call : FuncId → List Value → H → Option (Value × H)) (ops : Array Oper) (o : Oper) (t : Array Value) (h : H) : Option (Value × H) :=
  if Region.wanted o (yielded ops t) then opA P O ro call (evalT t) o.op h else some (undef, h)

theorem stepA_eq {ops : Array Oper} {i : Nat} {o : Oper} (ho : ops[i]? = some o) (t : Array Value) (h : H) :
    stepA P O ro call ops i (t, h) = (actA P O ro call ops o t h).map fun r => (putT t o.dst r.1, r.2) := by
  simp only [stepA, ho, actA]
  split
  · cases opA P O ro call (evalT t) o.op h <;> rfl
  · rfl

theorem evalT_put {t : Array Value} {d : Nat} {v : Value} {x : Operand} (hx : isTmp d x = false) : evalT (putT t (some d) v) x = evalT t x := by
  cases x with
  | tmp i =>
    simp only [isTmp, beq_eq_false_iff_ne] at hx
    simp only [evalT, putT, Array.getD_eq_getD_getElem?, Array.getElem?_setIfInBounds]
    rw [if_neg (fun hh => hx hh.symm)]
  | _ => rfl

theorem actA_put {ops : Array Oper} {o : Oper} {d : Option Tmp} {t : Array Value} {h : H} {v : Value} (hd : ∀ e, d = some e → readsT ops o e = false) :
    actA P O ro call ops o (putT t d v) h = actA P O ro call ops o t h := by
  cases d with
  | none => rfl
  | some d =>
    have hr := hd d rfl
    simp only [readsT, Bool.or_eq_false_iff] at hr
    obtain ⟨h1, h2⟩ := hr
    have e1 : opA P O ro call (evalT (putT t (some d) v)) o.op h = opA P O ro call (evalT t) o.op h :=
      opA_congr fun x hx => evalT_put (by
        rw [List.any_eq_false] at h1
        simpa using h1 x hx)
    have e2 : Region.wanted o (yielded ops (putT t (some d) v)) = Region.wanted o (yielded ops t) := by
      unfold Region.wanted
      cases hg : o.guard with
      | none => rfl
      | some p =>
        obtain ⟨j, want⟩ := p
        simp only [hg] at h2
        simp only [yielded]
        cases hb : (ops[j]?).bind (·.dst) with
        | none => rfl
        | some k =>
          rw [hb] at h2
          have hk : k ≠ d := by simpa using h2
          simp only [Option.bind_some, putT, Array.getElem?_setIfInBounds]
          rw [if_neg (fun hh => hk hh.symm)]
    simp only [actA, e1, e2]

theorem actA_pure {ops : Array Oper} {o : Oper} (hc : cls o.op = 0) (t : Array Value) : ∃ f : Option Value, ∀ h, actA P O ro call ops o t h = f.map fun v => (v, h) := by
  by_cases hw : Region.wanted o (yielded ops t) = true
  · exact ⟨pureA P (evalT t) o.op, fun h => by simp [actA, hw, opA, hc]⟩
  · exact ⟨some undef, fun h => by simp [actA, hw]⟩

theorem actA_read {ops : Array Oper} {o : Oper} (hc : cls o.op = 1) (t : Array Value) : ∃ f : H → Option Value, ∀ h, actA P O ro call ops o t h = (f h).map fun v => (v, h) := by
  by_cases hw : Region.wanted o (yielded ops t) = true
  · exact ⟨fun h => readA P O (evalT t) o.op h, fun h => by simp [actA, hw, opA, hc]⟩
  · exact ⟨fun _ => some undef, fun h => by simp [actA, hw]⟩

theorem putT_comm {t : Array Value} {d e : Option Tmp} {u v : Value} (h : ∀ x, d = some x → e ≠ some x) : putT (putT t d u) e v = putT (putT t e v) d u := by
  cases d with
  | none => rfl
  | some d =>
    cases e with
    | none => rfl
    | some e =>
      have hne : d ≠ e := fun x => h d rfl (by rw [x])
      simp only [putT]
      apply Array.ext
      · simp
      · intro i h1 h2
        simp only [Array.size_setIfInBounds] at h1 h2
        simp only [Array.getElem_setIfInBounds, Array.size_setIfInBounds, h1]
        by_cases c1 : e = i
        · by_cases c2 : d = i
          · exact absurd (c2.trans c1.symm) hne
          · simp [c1, c2]
        · by_cases c2 : d = i <;> simp [c1, c2]

theorem cellsA_new (L : O.Law) {h : H} (cs : List Value) {b : Nat} : ∀ (n o : Nat) (l : List Value), cellsA O h b o n = some l → cellsA O (O.new h cs) b o n = some l := by
  intro n
  induction n with
  | zero => intro o l hl; simpa [cellsA] using hl
  | succ n ih =>
    intro o l hl
    simp only [cellsA] at hl ⊢
    cases h1 : O.cell h b o with
    | none => rw [h1] at hl; simp at hl
    | some v =>
      cases h2 : cellsA O h b (o + 1) n with
      | none => rw [h1, h2] at hl; simp at hl
      | some r =>
        rw [h1, h2] at hl
        have hlt := L.alive_lt _ _ (L.cell_alive _ _ _ _ h1)
        rw [L.cell_new, if_neg (by omega), h1, ih _ _ h2]
        exact hl

theorem loadA_new (L : O.Law) {h : H} (cs : List Value) {t : TypeId} {a v : Value} (hl : loadA P O t a h = some v) : loadA P O t a (O.new h cs) = some v := by
  unfold loadA at hl ⊢
  cases a with
  | pointer a =>
    cases a with
    | none => simp at hl
    | some a =>
      simp only at hl ⊢
      have multi : ∀ n, (cellsA O h a.block a.off n).map (fun l => Value.agg l.toArray) = some v → (cellsA O (O.new h cs) a.block a.off n).map (fun l => Value.agg l.toArray) = some v := by
        intro n hm
        cases hc : cellsA O h a.block a.off n with
        | none => rw [hc] at hm; simp at hm
        | some l => rw [cellsA_new L cs _ _ _ hc]; rw [hc] at hm; exact hm
      cases hu : P.underlying t with
      | none => rw [hu] at hl; simp at hl
      | some d =>
        cases hi : P.info? t with
        | none => rw [hu, hi] at hl; cases d <;> simp at hl
        | some i =>
          rw [hu, hi] at hl
          cases d with
          | struct fs => exact multi _ hl
          | array n e => exact multi _ hl
          | _ =>
            simp only at hl ⊢
            have hlt := L.alive_lt _ _ (L.cell_alive _ _ _ _ hl)
            rw [L.cell_new, if_neg (by omega)]
            exact hl
  | _ => simp at hl

theorem readA_new (L : O.Law) {h : H} (cs : List Value) {ρ : Operand → Value} {op : Op} {v : Value} (hr : readA P O ρ op h = some v) : readA P O ρ op (O.new h cs) = some v := by
  cases op with
  | load t a => exact loadA_new L cs hr
  | convert s d x =>
    simp only [readA] at hr ⊢
    split at hr
    · exact hr
    · split at hr
      · split at hr
        · rename_i l hc
          rw [cellsA_new L cs _ _ _ hc]
          exact hr
        · simp at hr
      · simp at hr
    · simp at hr
  | slice t x lo hi mx =>
    simp only [readA] at hr ⊢
    unfold sliceH at hr ⊢
    split at hr
    · split at hr
      · rename_i a i _ _
        split at hr
        · split at hr
          · split at hr
            · rename_i hc
              obtain ⟨u, hu⟩ := Option.isSome_iff_exists.1 hc.2
              have hlt := L.alive_lt _ _ (L.cell_alive _ _ _ _ hu)
              rw [if_pos ⟨hc.1, by rw [L.cell_new, if_neg (by omega)]; exact hc.2⟩]
              exact hr
            · simp at hr
          · simp at hr
        · simp at hr
      · simp at hr
    · exact hr
  | _ => simp [readA] at hr

theorem actA_alloc {ops : Array Oper} {o : Oper} (hc : cls o.op = 3) {t : Array Value} {h h' : H} {u : Value} (ha : actA P O ro call ops o t h = some (u, h')) : h' = h ∨ ∃ cs, h' = O.new h cs := by
  unfold actA at ha
  split at ha
  · simp only [opA, hc] at ha
    cases hop : o.op with
    | alloc e =>
      rw [hop] at ha
      simp only [effA] at ha
      repeat' split at ha
      all_goals first | (simp at ha; done) | (simp only [Option.some.injEq, Prod.mk.injEq] at ha; exact .inr ⟨_, ha.2.symm⟩)
    | box e x =>
      rw [hop] at ha
      simp only [effA] at ha
      repeat' split at ha
      all_goals first | (simp at ha; done) | (simp only [Option.some.injEq, Prod.mk.injEq] at ha; exact .inr ⟨_, ha.2.symm⟩)
    | buildSlice t n ps =>
      rw [hop] at ha
      simp only [effA] at ha
      repeat' split at ha
      all_goals first | (simp at ha; done) | (simp only [Option.some.injEq, Prod.mk.injEq] at ha; exact .inr ⟨_, ha.2.symm⟩)
    | makeSlice t l c =>
      rw [hop] at ha
      simp only [effA] at ha
      repeat' split at ha
      all_goals first | (simp at ha; done) | (simp only [Option.some.injEq, Prod.mk.injEq] at ha; exact .inr ⟨_, ha.2.symm⟩)
    | call c =>
      rw [hop] at hc
      obtain ⟨cal, args, tys⟩ := c
      cases cal with
      | builtin b => cases b <;> simp [cls] at hc
      | _ => simp [cls] at hc
    | _ => rw [hop] at hc; simp [cls] at hc
  · simp only [Option.some.injEq, Prod.mk.injEq] at ha
    exact .inl ha.2.symm

theorem step_comm (L : O.Law) {ops : Array Oper} {i j : Nat} {x y : Oper} (hx : ops[i]? = some x) (hy : ops[j]? = some y) (ha : apart ops x y = true) (s F : Array Value × H) :
    (stepA P O ro call ops i s).bind (stepA P O ro call ops j) = some F → (stepA P O ro call ops j s).bind (stepA P O ro call ops i) = some F := by
  obtain ⟨t, h⟩ := s
  simp only [apart, Bool.and_eq_true, Bool.or_eq_true, beq_iff_eq] at ha
  obtain ⟨⟨h1, h2⟩, h3⟩ := ha
  have rx : ∀ e, x.dst = some e → readsT ops y e = false ∧ y.dst ≠ some e := by
    intro e he
    simp only [he, Bool.and_eq_true, Bool.not_eq_true', beq_eq_false_iff_ne] at h1
    exact h1
  have ry : ∀ e, y.dst = some e → readsT ops x e = false := by
    intro e he
    simp only [he, Bool.not_eq_true'] at h2
    exact h2
  have cm : ∀ u v, putT (putT t x.dst u) y.dst v = putT (putT t y.dst v) x.dst u := fun u v => putT_comm fun e he => (rx e he).2
  have ay : ∀ u g, actA P O ro call ops y (putT t x.dst u) g = actA P O ro call ops y t g := fun u g => actA_put fun e he => (rx e he).1
  have ax : ∀ u g, actA P O ro call ops x (putT t y.dst u) g = actA P O ro call ops x t g := fun u g => actA_put fun e he => ry e he
  rw [stepA_eq hx, stepA_eq hy]
  rcases h3 with ((h3 | h3) | ⟨h3, h4⟩) | ⟨h3, h4⟩
  · obtain ⟨f, hf⟩ := actA_pure (P := P) (O := O) (ro := ro) (call := call) (ops := ops) h3 t
    rw [hf]
    cases f with
    | none => intro hh; simp at hh
    | some v =>
      simp only [Option.map_some, Option.bind_some, stepA_eq hy, ay]
      cases hr : actA P O ro call ops y t h with
      | none => intro hh; simp at hh
      | some r => intro hh; simpa [stepA_eq hx, ax, hf, cm] using hh
  · obtain ⟨f, hf⟩ := actA_pure (P := P) (O := O) (ro := ro) (call := call) (ops := ops) h3 t
    rw [hf]
    cases f with
    | none =>
      cases hr : actA P O ro call ops x t h with
      | none => intro hh; simp at hh
      | some r => intro hh; simp [stepA_eq hy, ay, hf] at hh
    | some v =>
      simp only [Option.map_some, Option.bind_some, stepA_eq hx, ax]
      cases hr : actA P O ro call ops x t h with
      | none => intro hh; simp at hh
      | some r => intro hh; simpa [stepA_eq hy, ay, hf, cm] using hh
  · obtain ⟨f, hf⟩ := actA_read (P := P) (O := O) (ro := ro) (call := call) (ops := ops) h3 t
    obtain ⟨g, hg⟩ := actA_read (P := P) (O := O) (ro := ro) (call := call) (ops := ops) h4 t
    rw [hf, hg]
    cases hfv : f h <;> cases hgv : g h <;> simp [stepA_eq hx, stepA_eq hy, ax, ay, hf, hg, hfv, hgv, cm]
  · -- a read, and a block that is made
    intro hh
    cases hax : actA P O ro call ops x t h with
    | none => rw [hax] at hh; simp at hh
    | some r =>
      obtain ⟨v, h0⟩ := r
      have hh0 : h0 = h := by
        obtain ⟨f, hf⟩ := actA_read (P := P) (O := O) (ro := ro) (call := call) (ops := ops) h3 t
        rw [hf] at hax
        cases hfv : f h with
        | none => rw [hfv] at hax; simp at hax
        | some q => rw [hfv] at hax; simp at hax; exact hax.2.symm
      subst hh0
      rw [hax] at hh
      simp only [Option.map_some, Option.bind_some, stepA_eq hy, ay] at hh
      cases hay : actA P O ro call ops y t h0 with
      | none => rw [hay] at hh; simp at hh
      | some q =>
        obtain ⟨u, h'⟩ := q
        rw [hay] at hh
        have hax' : actA P O ro call ops x t h' = some (v, h') := by
          rcases actA_alloc h4 hay with rfl | ⟨cs, rfl⟩
          · exact hax
          · unfold actA at hax ⊢
            split
            · rename_i hw
              rw [if_pos hw] at hax
              simp only [opA, h3] at hax ⊢
              cases hrd : readA P O (evalT t) x.op h0 with
              | none => rw [hrd] at hax; simp at hax
              | some z =>
                rw [hrd] at hax
                simp only [Option.map_some, Option.some.injEq, Prod.mk.injEq] at hax
                rw [readA_new L cs hrd]
                simp [hax.1]
            · rename_i hw
              rw [if_neg hw] at hax
              simp only [Option.some.injEq, Prod.mk.injEq] at hax
              simp [hax.1]
        simp only [Option.map_some, Option.bind_some, stepA_eq hx, ax, hax']
        simpa [cm] using hh

/- Calls that only read. -/
def quietOp (qs : FuncId → Bool) : Op → Bool
  | .call { callee := .value (.func f), .. } => qs f
  | _ => false
def rdl (qs : FuncId → Bool) (op : Op) : Bool := cls op == 1 || quietOp qs op
def apartQ (qs : FuncId → Bool) (ops : Array Oper) (x y : Oper) : Bool :=
  (match x.dst with | some d => !readsT ops y d && !(y.dst == some d) | none => true) &&
  (match y.dst with | some d => !readsT ops x d | none => true) && (rdl qs x.op && rdl qs y.op)
def Quiet (qs : FuncId → Bool) (call : FuncId → List Value → H → Option (Value × H)) : Prop := ∀ f args h v h', qs f = true → call f args h = some (v, h') → h' = h

theorem actA_rdl {qs : FuncId → Bool} (hq : Quiet qs call) {ops : Array Oper} {o : Oper} (hc : rdl qs o.op = true) (t : Array Value) : ∃ f : H → Option Value, ∀ h, actA P O ro call ops o t h = (f h).map fun v => (v, h) := by
  simp only [rdl, Bool.or_eq_true, beq_iff_eq] at hc
  rcases hc with hc | hc
  · exact actA_read hc t
  · unfold quietOp at hc
    split at hc
    · rename_i f args tys hop
      by_cases hw : Region.wanted o (yielded ops t) = true
      · refine ⟨fun h => (call f (args.toList.map (evalT t)) h).map (·.1), fun h => ?_⟩
        have e : actA P O ro call ops o t h = call f (args.toList.map (evalT t)) h := by
          simp only [actA, hw, if_true, opA, hop, cls, effA]
        rw [e]
        cases hcl : call f (args.toList.map (evalT t)) h with
        | none => simp only [hcl, Option.map_none]
        | some r =>
          obtain ⟨v, h'⟩ := r
          have := hq f _ h v h' hc hcl
          subst this
          simp only [hcl, Option.map_some]
      · exact ⟨fun _ => some undef, fun h => by simp [actA, hw]⟩
    · simp at hc

theorem step_commQ {qs : FuncId → Bool} (hq : Quiet qs call) {ops : Array Oper} {i j : Nat} {x y : Oper} (hx : ops[i]? = some x) (hy : ops[j]? = some y) (ha : apartQ qs ops x y = true) (s F : Array Value × H) :
    (stepA P O ro call ops i s).bind (stepA P O ro call ops j) = some F → (stepA P O ro call ops j s).bind (stepA P O ro call ops i) = some F := by
  obtain ⟨t, h⟩ := s
  simp only [apartQ, Bool.and_eq_true] at ha
  obtain ⟨⟨h1, h2⟩, h3, h4⟩ := ha
  have rx : ∀ e, x.dst = some e → readsT ops y e = false ∧ y.dst ≠ some e := by
    intro e he
    simp only [he, Bool.and_eq_true, Bool.not_eq_true', beq_eq_false_iff_ne] at h1
    exact h1
  have ry : ∀ e, y.dst = some e → readsT ops x e = false := by
    intro e he
    simp only [he, Bool.not_eq_true'] at h2
    exact h2
  have cm : ∀ u v, putT (putT t x.dst u) y.dst v = putT (putT t y.dst v) x.dst u := fun u v => putT_comm fun e he => (rx e he).2
  have ay : ∀ u g, actA P O ro call ops y (putT t x.dst u) g = actA P O ro call ops y t g := fun u g => actA_put fun e he => (rx e he).1
  have ax : ∀ u g, actA P O ro call ops x (putT t y.dst u) g = actA P O ro call ops x t g := fun u g => actA_put fun e he => ry e he
  rw [stepA_eq hx, stepA_eq hy]
  obtain ⟨f, hf⟩ := actA_rdl (P := P) (O := O) (ro := ro) (ops := ops) hq h3 t
  obtain ⟨g, hg⟩ := actA_rdl (P := P) (O := O) (ro := ro) (ops := ops) hq h4 t
  rw [hf, hg]
  cases hfv : f h <;> cases hgv : g h <;> simp [stepA_eq hx, stepA_eq hy, ax, ay, hf, hg, hfv, hgv, cm]

theorem runA_cons (ops : Array Oper) (i : Nat) (r : List Nat) (s : Array Value × H) :
    runA P O ro call ops (i :: r) s = (stepA P O ro call ops i s).bind (runA P O ro call ops r) := by
  simp only [runA]
  cases stepA P O ro call ops i s <;> rfl

/- A load and an append whose blocks lie apart. -/
def offT (o : Oper) (x : Operand) : Bool :=
  match o.dst with
  | some d => !isTmp d x
  | none => true

theorem evalT_off {t : Array Value} {o : Oper} {x : Operand} (h : offT o x = true) (v : Value) : evalT (putT t o.dst v) x = evalT t x := by
  unfold offT at h
  cases hd : o.dst with
  | none => rfl
  | some d =>
    rw [hd] at h
    exact evalT_put (by simpa using h)

theorem evalT_step {ops : Array Oper} {i : Nat} {s s' : Array Value × H} {x : Operand} (h : stepA P O ro call ops i s = some s') (hw : ∀ o, ops[i]? = some o → offT o x = true) : evalT s'.1 x = evalT s.1 x := by
  obtain ⟨t, g⟩ := s
  cases ho : ops[i]? with
  | none =>
    simp only [stepA, ho, Option.some.injEq] at h
    subst h
    rfl
  | some o =>
    rw [stepA_eq ho] at h
    cases ha : actA P O ro call ops o t g with
    | none => rw [ha] at h; simp at h
    | some r =>
      rw [ha] at h
      simp only [Option.map_some, Option.some.injEq] at h
      subst h
      exact evalT_off (hw o ho) _

theorem evalT_run {ops : Array Oper} {x : Operand} : ∀ (l : List Nat) (s s' : Array Value × H), runA P O ro call ops l s = some s' → (∀ k ∈ l, ∀ o, ops[k]? = some o → offT o x = true) → evalT s'.1 x = evalT s.1 x := by
  intro l
  induction l with
  | nil => intro s s' h _; simp only [runA, Option.some.injEq] at h; subst h; rfl
  | cons i l ih =>
    intro s s' h hw
    rw [runA_cons] at h
    cases hs : stepA P O ro call ops i s with
    | none => rw [hs] at h; simp at h
    | some s1 =>
      rw [hs, Option.bind_some] at h
      rw [ih s1 s' h (fun k hk => hw k (by simp [hk])), evalT_step hs (hw i (by simp))]

theorem putsA_keeps (L : O.Law) {b0 : Nat} : ∀ (l : List Value) (o0 : Nat) (h h' : H), putsA O h b0 o0 l = some h' → ∀ b o v, b ≠ b0 → O.cell h b o = some v → O.cell h' b o = some v := by
  intro l
  induction l with
  | nil => intro o0 h h' hp b o v _ hv; simp only [putsA, Option.some.injEq] at hp; subst hp; exact hv
  | cons x l ih =>
    intro o0 h h' hp b o v hb hv
    simp only [putsA] at hp
    cases hc : O.cell h b0 o0 with
    | none => rw [hc] at hp; simp at hp
    | some y =>
      rw [hc] at hp
      refine ih _ _ _ hp b o v hb ?_
      rw [L.cell_put _ _ _ _ _ hc, if_neg (fun e => hb e.1)]
      exact hv

theorem new_keeps (L : O.Law) {h : H} (cs : List Value) {b o : Nat} {v : Value} (hv : O.cell h b o = some v) : O.cell (O.new h cs) b o = some v := by
  have hlt := L.alive_lt _ _ (L.cell_alive _ _ _ _ hv)
  rw [L.cell_new, if_neg (by omega)]
  exact hv

theorem append_keeps (L : O.Law) {tys : List TypeId} {s : Value} {r : List Value} {h h' : H} {u : Value} (ha : appendA P O ro tys (s :: r) h = some (u, h')) {b : Nat}
    (hb : ∀ a len cap, s = .slice (some a) len cap → b ≠ a.block) {o : Nat} {v : Value} (hv : O.cell h b o = some v) : O.cell h' b o = some v := by
  unfold appendA at ha
  split at ha
  · rename_i t w base len cap x hargs
    simp only [List.cons.injEq] at hargs
    obtain ⟨rfl, rfl⟩ := hargs
    split at ha
    · simp at ha
    · split at ha
      · split at ha
        · split at ha
          · split at ha
            · simp at ha
            · split at ha
              · split at ha
                · split at ha
                  · split at ha
                    · simp only [Option.some.injEq, Prod.mk.injEq] at ha
                      rw [← ha.2]; exact hv
                    · simp only [Option.some.injEq, Prod.mk.injEq] at ha
                      rw [← ha.2]; exact new_keeps L _ hv
                  · simp at ha
                · rename_i a
                  have hb' := hb a len cap rfl
                  split at ha
                  · simp at ha
                  · split at ha
                    · split at ha
                      · split at ha
                        · simp only [Option.some.injEq, Prod.mk.injEq] at ha
                          rw [← ha.2]
                          refine new_keeps L _ ?_
                          rw [L.cell_kill, if_neg hb']
                          exact hv
                        · split at ha
                          · split at ha
                            · rename_i hp
                              simp only [Option.some.injEq, Prod.mk.injEq] at ha
                              rw [← ha.2]
                              exact putsA_keeps L _ _ _ _ hp _ _ _ hb' hv
                            · simp at ha
                          · simp only [Option.some.injEq, Prod.mk.injEq] at ha
                            rw [← ha.2]; exact new_keeps L _ hv
                      · simp at ha
                    · simp at ha
              · simp at ha
          · simp at ha
        · simp at ha
      · simp at ha
  · simp at ha

theorem cellsA_keeps {h h' : H} {b : Nat} (hk : ∀ o v, O.cell h b o = some v → O.cell h' b o = some v) : ∀ (n o : Nat) (l : List Value), cellsA O h b o n = some l → cellsA O h' b o n = some l := by
  intro n
  induction n with
  | zero => intro o l hl; simpa [cellsA] using hl
  | succ n ih =>
    intro o l hl
    simp only [cellsA] at hl ⊢
    cases h1 : O.cell h b o with
    | none => rw [h1] at hl; simp at hl
    | some v =>
      cases h2 : cellsA O h b (o + 1) n with
      | none => rw [h1, h2] at hl; simp at hl
      | some r =>
        rw [h1, h2] at hl
        rw [hk _ _ h1, ih _ _ h2]
        exact hl

theorem loadA_keeps {h h' : H} {t : TypeId} {a : Addr} {v : Value} (hk : ∀ o v, O.cell h a.block o = some v → O.cell h' a.block o = some v) (hl : loadA P O t (.pointer (some a)) h = some v) : loadA P O t (.pointer (some a)) h' = some v := by
  unfold loadA at hl ⊢
  simp only at hl ⊢
  have multi : ∀ n, (cellsA O h a.block a.off n).map (fun l => Value.agg l.toArray) = some v → (cellsA O h' a.block a.off n).map (fun l => Value.agg l.toArray) = some v := by
    intro n hm
    cases hc : cellsA O h a.block a.off n with
    | none => rw [hc] at hm; simp at hm
    | some l => rw [cellsA_keeps hk _ _ _ hc]; rw [hc] at hm; exact hm
  cases hu : P.underlying t with
  | none => rw [hu] at hl; simp at hl
  | some d =>
    cases hi : P.info? t with
    | none => rw [hu, hi] at hl; cases d <;> simp at hl
    | some i =>
      rw [hu, hi] at hl
      cases d with
      | struct fs => exact multi _ hl
      | array n e => exact multi _ hl
      | _ => exact hk _ _ hl

/-- What is asked of two that are not ordered, beside their blocks. -/
def lastly (ops : Array Oper) (j i : Nat) (x y : Oper) : Bool :=
  (match x.dst with | some d => !readsT ops y d && !(y.dst == some d) | none => true) &&
  (match y.dst with | some d => !readsT ops x d | none => true) &&
  (match pairOf x y with
    | some (a, s) => (ops.toList.drop j).all (offT · a) && (ops.toList.drop i).all (offT · s)
    | none => false)

theorem step_comm2 (L : O.Law) {ops : Array Oper} {i j : Nat} {x y : Oper} (hx : ops[i]? = some x) (hy : ops[j]? = some y) {a s0 : Operand} (hp : pairOf x y = some (a, s0))
    (h1 : ∀ e, x.dst = some e → readsT ops y e = false ∧ y.dst ≠ some e) (h2 : ∀ e, y.dst = some e → readsT ops x e = false) (s F : Array Value × H) (hsep : sepA (evalT s.1 a) (evalT s.1 s0) = true) :
    (stepA P O ro call ops i s).bind (stepA P O ro call ops j) = some F → (stepA P O ro call ops j s).bind (stepA P O ro call ops i) = some F := by
  obtain ⟨t, h⟩ := s
  have cm : ∀ u v, putT (putT t x.dst u) y.dst v = putT (putT t y.dst v) x.dst u := fun u v => putT_comm fun e he => (h1 e he).2
  have ay : ∀ u g, actA P O ro call ops y (putT t x.dst u) g = actA P O ro call ops y t g := fun u g => actA_put fun e he => (h1 e he).1
  have ax : ∀ u g, actA P O ro call ops x (putT t y.dst u) g = actA P O ro call ops x t g := fun u g => actA_put fun e he => h2 e he
  unfold pairOf at hp
  split at hp
  · rename_i gx gy lx ly
    simp only [Option.some.injEq, Prod.mk.injEq] at hp
    obtain ⟨rfl, rfl⟩ := hp
    have wx : Region.wanted x (yielded ops t) = true := by simp [Region.wanted, gx]
    have wy : Region.wanted y (yielded ops t) = true := by simp [Region.wanted, gy]
    cases hxo : x.op with
    | load ty a' =>
      rw [hxo] at lx
      simp only [ldArg, Option.some.injEq] at lx
      subst lx
      cases hyo : y.op with
      | call cl =>
        obtain ⟨cal, args, tys⟩ := cl
        rw [hyo] at ly
        cases cal with
        | builtin b =>
          cases b <;> simp only [appArg, reduceCtorEq] at ly
          obtain ⟨la⟩ := args
          cases la with
          | nil => simp at ly
          | cons z r =>
            simp only [List.head?_cons, Option.some.injEq] at ly
            subst ly
            rw [stepA_eq hx, stepA_eq hy]
            intro hh
            have eax : ∀ g, actA P O ro call ops x t g = (loadA P O ty (evalT t a') g).map fun v => (v, g) := fun g => by
              simp only [actA, wx, if_true, opA, hxo, cls, readA]
            have eay : ∀ g, actA P O ro call ops y t g = appendA P O ro tys.toList (evalT t z :: r.map (evalT t)) g := fun g => by
              simp only [actA, wy, if_true, opA, hyo, cls, effA, List.map_cons]
            rw [eax] at hh
            cases hl : loadA P O ty (evalT t a') h with
            | none => rw [hl] at hh; simp at hh
            | some u =>
              rw [hl] at hh
              simp only [Option.map_some, Option.bind_some, stepA_eq hy, ay] at hh
              rw [eay] at hh
              cases hap : appendA P O ro tys.toList (evalT t z :: r.map (evalT t)) h with
              | none => rw [hap] at hh; simp at hh
              | some q =>
                obtain ⟨v, h'⟩ := q
                rw [hap] at hh
                have hl' : loadA P O ty (evalT t a') h' = some u := by
                  unfold sepA at hsep
                  split at hsep
                  · rename_i ad l c ea es
                    rw [ea] at hl ⊢
                    exact loadA_keeps (fun o v hv => append_keeps L hap (fun a len cap e => by rw [es] at e; simp at e) hv) hl
                  · rename_i ad bd l c ea es
                    rw [ea] at hl ⊢
                    refine loadA_keeps (fun o v hv => append_keeps L hap (fun a len cap e => ?_) hv) hl
                    rw [es] at e
                    simp only [Value.slice.injEq, Option.some.injEq] at e
                    obtain ⟨rfl, _, _⟩ := e
                    intro heq
                    rw [heq] at hsep
                    simp at hsep
                  · simp at hsep
                rw [eay, hap]
                simp only [Option.map_some, Option.bind_some, stepA_eq hx, ax, eax, hl'] at hh ⊢
                rw [← cm]
                exact hh
        | _ => simp [appArg] at ly
      | _ => rw [hyo] at ly; simp [appArg] at ly
    | _ => rw [hxo] at lx; simp [ldArg] at lx
  · simp at hp

/-- An operation that may be swapped with all ahead of it may be the first. -/
theorem run_front {ops : Array Oper} {i : Nat} : ∀ (pre post : List Nat) (F : Array Value × H), (∀ pre1 j pre2, pre = pre1 ++ j :: pre2 → ∀ s s2, (stepA P O ro call ops j s).bind (stepA P O ro call ops i) = some s2 → runA P O ro call ops (pre2 ++ post) s2 = some F → (stepA P O ro call ops i s).bind (stepA P O ro call ops j) = some s2) →
    ∀ s, runA P O ro call ops (pre ++ i :: post) s = some F → runA P O ro call ops (i :: (pre ++ post)) s = some F := by
  intro pre
  induction pre with
  | nil => intro post F _ s h; exact h
  | cons j pre ih =>
    intro post F h s hF
    rw [List.cons_append, runA_cons] at hF
    cases hs : stepA P O ro call ops j s with
    | none => rw [hs] at hF; simp at hF
    | some s1 =>
      rw [hs, Option.bind_some] at hF
      have h2 := ih post F (fun p1 k p2 hk => h (j :: p1) k p2 (by rw [hk]; rfl)) s1 hF
      rw [runA_cons] at h2
      cases hs2 : stepA P O ro call ops i s1 with
      | none => rw [hs2] at h2; simp at h2
      | some s2 =>
        rw [hs2, Option.bind_some] at h2
        have hc := h [] j pre rfl s s2 (by rw [hs, Option.bind_some]; exact hs2) h2
        rw [runA_cons]
        cases hs3 : stepA P O ro call ops i s with
        | none => rw [hs3] at hc; simp at hc
        | some s3 =>
          rw [hs3, Option.bind_some] at hc
          rw [Option.bind_some, List.cons_append, runA_cons, hc, Option.bind_some]
          exact h2

end
end Go.Vm
