/-
  Operations that do not look at memory. Own work.
-/
import Derived.Test.YtimdkminagnhgaaGreatDoorVmF
import Derived.Laws.StructEq
namespace Go.Vm
open Go.RowKit
set_option linter.unusedSimpArgs false
set_option linter.unusedVariables false

section
variable {P : Program} {H : Type} {O : HI H} {G ro : Nat} {w0 : Prot}

theorem VR.int {β : List Place} {k : IntKind} {n : Int} {v' : Value} (h : VR β (.int k n) v') : v' = .int k n := h
theorem VR.bool {β : List Place} {b : Bool} {v' : Value} (h : VR β (.bool b) v') : v' = .bool b := h
theorem VR.string {β : List Place} {b : ByteArray} {v' : Value} (h : VR β (.string b) v') : v' = .string b := h
theorem VR.nilp {β : List Place} {v' : Value} (h : VR β (.pointer none) v') : v' = .pointer none := h
theorem VR.nils {β : List Place} {l c : Nat} {v' : Value} (h : VR β (.slice none l c) v') : l = 0 ∧ c = 0 ∧ v' = .slice none 0 0 := h
theorem VR.sl {β : List Place} {a : Addr} {len cap : Nat} {v' : Value} (h : VR β (.slice (some a) len cap) v') :
    ∃ p c z, β[a.block]? = some p ∧ a.spot = some z ∧ v' = .slice (some ⟨p.blk, p.off + a.off, none⟩) len c ∧ len ≤ c ∧ p.off + a.off + c * z ≤ p.size ∧ (cap ≠ 0 → c + 1 = cap) := h
theorem VR.agg {β : List Place} {cs : Array Value} {v' : Value} (h : VR β (.agg cs) v') : ∃ cs', v' = .agg cs' ∧ LR (SR β) cs.toList cs'.toList := h
theorem VR.tup {β : List Place} {cs : Array Value} {v' : Value} (h : VR β (.tuple cs) v') : ∃ cs', v' = .tuple cs' ∧ LR (CR β) cs.toList cs'.toList := h

theorem intA_run (w : World) {op : BinOp} {k : IntKind} {a b : Int} {t : TypeId} {v : Value} (hop : op ≠ .shl ∧ op ≠ .shr) (h : intA op k a b = some v) : (binOp op t (.int k a) (.int k b)).run P w = .ok v w := by
  cases op <;> simp [intA] at h <;> first | (exact absurd rfl hop.1) | (exact absurd rfl hop.2) | skip
  all_goals first
    | (subst h; simp [binOp, Op.intArith, Op.intBits, Op.intCmp]; done)
    | (obtain ⟨h0, rfl⟩ := h; simp [binOp, Op.intDiv, h0])

theorem eqGuard_run (w : World) (op : BinOp) (t : TypeId) (x y : Operand) (a b : Value) (h : ∀ cs ds, ¬ (a = .agg cs ∧ b = .agg ds)) (h2 : a ≠ .nilIface) : (eqGuard op t x y a b).run P w = .ok () w := by
  unfold eqGuard
  by_cases hop : (op matches .eql | .neq) = true
  · cases a <;> cases b <;> first | (exact absurd rfl h2) | (exact absurd ⟨rfl, rfl⟩ (h _ _)) | (cases op <;> simp at hop ⊢)
  · cases op <;> simp at hop ⊢

theorem intsA_run (w : World) {xs ys : Array Value} (d : Nat) : ∀ (fs : List Field) (n : Nat) (us vs : List Value) (r : Bool),
    (fs.zipIdx n).all (fun (f, i) => f.name != "_" && f.offset == i && (match P.underlying f.type with | some (.int _) => true | _ => false)) = true →
    us = xs.toList.drop n → vs = ys.toList.drop n → fs.length = us.length → intsA us vs = some r →
    (Op.eqFields (d + 1) xs ys fs).run P w = .ok r w := by
  intro fs
  induction fs with
  | nil =>
    intro n us vs r hall hu hv hlen hi
    cases us with
    | nil =>
      cases vs with
      | nil => simp [intsA] at hi; subst hi; simp [Op.eqFields]
      | cons v vs => simp [intsA] at hi
    | cons u us => simp at hlen
  | cons f fs ih =>
    intro n us vs r hall hu hv hlen hi
    simp only [List.zipIdx_cons, List.all_cons, Bool.and_eq_true] at hall
    obtain ⟨⟨⟨hnm, hoff⟩, hty⟩, hrest⟩ := hall
    cases us with
    | nil => simp at hlen
    | cons u us =>
      cases vs with
      | nil => cases u <;> simp [intsA] at hi
      | cons v vs =>
        have hu0 : xs[n]? = some u := by
          have : (xs.toList.drop n)[0]? = some u := by rw [← hu]; rfl
          simpa using this
        have hv0 : ys[n]? = some v := by
          have : (ys.toList.drop n)[0]? = some v := by rw [← hv]; rfl
          simpa using this
        have hu1 : us = xs.toList.drop (n + 1) := by
          have : (xs.toList.drop n).drop 1 = us := by rw [← hu]; rfl
          rw [List.drop_drop] at this; exact this.symm
        have hv1 : vs = ys.toList.drop (n + 1) := by
          have : (ys.toList.drop n).drop 1 = vs := by rw [← hv]; rfl
          rw [List.drop_drop] at this; exact this.symm
        cases u with
        | int k a =>
          cases v with
          | int k' b =>
            simp only [intsA] at hi
            split at hi
            · rename_i hk
              subst hk
              cases hr : intsA us vs with
              | none => rw [hr] at hi; simp at hi
              | some q =>
                rw [hr] at hi
                simp at hi
                subst hi
                have hrun := ih (n + 1) us vs q hrest hu1 hv1 (by simpa using hlen) hr
                cases hut : P.underlying f.type with
                | none => rw [hut] at hty; simp at hty
                | some td =>
                  rw [hut] at hty
                  cases td with
                  | int kk =>
                    have hname : f.name ≠ "_" := by simpa using hnm
                    have ho : f.offset = n := by simpa using hoff
                    have p1 : (part f.type xs f.offset).run P w = .ok (.int k a) w := by simp [part, isAgg, run_underlying hut, ho, hu0]
                    have p2 : (part f.type ys f.offset).run P w = .ok (.int k b) w := by simp [part, isAgg, run_underlying hut, ho, hv0]
                    simp only [Op.eqFields]
                    rw [if_pos hname]
                    simp only [Sem.run_bind, p1, p2, Result.andThen_ok, run_equalIn_int w d f.type k kk a b hut]
                    cases hab : (a == b) <;> simp [hrun]
                  | _ => simp at hty
            · simp at hi
          | _ => simp [intsA] at hi
        | _ => simp [intsA] at hi

theorem intsA_rel {β : List Place} : ∀ (xs ys xs' ys' : List Value) (r : Bool), LR (SR β) xs xs' → LR (SR β) ys ys' → intsA xs ys = some r → intsA xs' ys' = some r := by
  intro xs
  induction xs with
  | nil =>
    intro ys xs' ys' r h1 h2 h
    rw [LR.nil_inv h1]
    cases ys with
    | nil => rw [LR.nil_inv h2]; exact h
    | cons y ys => simp [intsA] at h
  | cons x xs ih =>
    intro ys xs' ys' r h1 h2 h
    obtain ⟨x', us, rfl, hx, hxs⟩ := LR.cons_inv h1
    cases ys with
    | nil => cases x <;> simp [intsA] at h
    | cons y ys =>
      obtain ⟨y', vs, rfl, hy, hys⟩ := LR.cons_inv h2
      cases x with
      | int k a =>
        cases y with
        | int k' b =>
          cases (hx : x' = .int k a)
          cases (hy : y' = .int k' b)
          simp only [intsA] at h ⊢
          split
          · rename_i hk
            rw [if_pos hk] at h
            cases hr : intsA xs ys with
            | none => rw [hr] at h; simp at h
            | some q =>
              rw [hr] at h
              rw [ih ys us vs q hxs hys hr]
              exact h
          · rename_i hk; rw [if_neg hk] at h; simp at h
        | _ => simp [intsA] at h
      | _ => simp [intsA] at h

theorem eql_ptr (w : World) (t : TypeId) (a b : Option Addr) : (binOp .eql t (.pointer a) (.pointer b)).run P w = ((Op.equalIn 10000 t (.pointer a) (.pointer b)).run P w).andThen fun b w' => .ok (.bool b) w' := by
  simp only [binOp]
  simp [Op.equal, Op.maxDepth]
theorem neq_ptr (w : World) (t : TypeId) (a b : Option Addr) : (binOp .neq t (.pointer a) (.pointer b)).run P w = ((Op.equalIn 10000 t (.pointer a) (.pointer b)).run P w).andThen fun b w' => .ok (.bool (!b)) w' := by
  simp only [binOp]
  simp [Op.equal, Op.maxDepth]
theorem eql_sl (w : World) (t : TypeId) (a b : Option Addr) (l c l' c' : Nat) : (binOp .eql t (.slice a l c) (.slice b l' c')).run P w = ((Op.equalIn 10000 t (.slice a l c) (.slice b l' c')).run P w).andThen fun b w' => .ok (.bool b) w' := by
  simp only [binOp]
  simp [Op.equal, Op.maxDepth]
theorem neq_sl (w : World) (t : TypeId) (a b : Option Addr) (l c l' c' : Nat) : (binOp .neq t (.slice a l c) (.slice b l' c')).run P w = ((Op.equalIn 10000 t (.slice a l c) (.slice b l' c')).run P w).andThen fun b w' => .ok (.bool (!b)) w' := by
  simp only [binOp]
  simp [Op.equal, Op.maxDepth]
theorem eql_bool (w : World) (t : TypeId) (a b : Bool) : (binOp .eql t (.bool a) (.bool b)).run P w = ((Op.equalIn 10000 t (.bool a) (.bool b)).run P w).andThen fun b w' => .ok (.bool b) w' := by
  simp only [binOp]
  simp [Op.equal, Op.maxDepth]
theorem neq_bool (w : World) (t : TypeId) (a b : Bool) : (binOp .neq t (.bool a) (.bool b)).run P w = ((Op.equalIn 10000 t (.bool a) (.bool b)).run P w).andThen fun b w' => .ok (.bool (!b)) w' := by
  simp only [binOp]
  simp [Op.equal, Op.maxDepth]
theorem in_nilp (w : World) (d : Nat) {t e : TypeId} (b : Option Addr) (h : P.underlying t = some (.pointer e)) : (Op.equalIn (d + 1) t (.pointer none) (.pointer b)).run P w = .ok b.isNone w := by
  simp [Op.equalIn, run_underlying h]
theorem in_pnil (w : World) (d : Nat) {t e : TypeId} (a : Addr) (h : P.underlying t = some (.pointer e)) : (Op.equalIn (d + 1) t (.pointer (some a)) (.pointer none)).run P w = .ok false w := by
  simp [Op.equalIn, run_underlying h]
theorem in_nils (w : World) (d : Nat) {t e : TypeId} (b : Option Addr) (l c l' c' : Nat) (h : P.underlying t = some (.slice e)) : (Op.equalIn (d + 1) t (.slice none l c) (.slice b l' c')).run P w = .ok b.isNone w := by
  simp [Op.equalIn, run_underlying h]
theorem in_snil (w : World) (d : Nat) {t e : TypeId} (a : Addr) (l c l' c' : Nat) (h : P.underlying t = some (.slice e)) : (Op.equalIn (d + 1) t (.slice (some a) l c) (.slice none l' c')).run P w = .ok false w := by
  simp [Op.equalIn, run_underlying h]

theorem bin_sim {β : List Place} (w : World) {op : BinOp} {t : TypeId} {x y : Operand} {a b a' b' v : Value} (ha : VR β a a') (hb : VR β b b') (h : binA P op t a b = some v) :
    ∃ v', (do eqGuard op t x y a' b'; binOp op t a' b' : Sem Value).run P w = .ok v' w ∧ VR β v v' := by
  simp only [Sem.run_bind]
  cases a with
  | int k m =>
    cases VR.int ha
    cases b with
    | int k' n =>
      cases VR.int hb
      rw [eqGuard_run w op t x y _ _ (by simp) (by simp), Result.andThen_ok]
      simp only [binA] at h
      by_cases hs : op = .shl ∨ op = .shr
      · rcases hs with rfl | rfl <;>
        · simp only [shiftA] at h
          split at h
          · simp at h
          · rename_i hneg
            simp at h
            subst h
            exact ⟨_, by simp [binOp, Op.shift, hneg], rfl⟩
      · have hs' : op ≠ .shl ∧ op ≠ .shr := ⟨fun e => hs (.inl e), fun e => hs (.inr e)⟩
        have h' : (if k = k' then intA op k m n else none) = some v := by cases op <;> first | exact h | (exact absurd rfl hs'.1) | (exact absurd rfl hs'.2)
        split at h'
        · rename_i hk
          subst hk
          refine ⟨v, intA_run w hs' h', ?_⟩
          cases op <;> simp [intA] at h' <;> first | (subst h'; rfl) | (obtain ⟨_, rfl⟩ := h'; rfl)
        · simp at h'
    | _ => simp [binA] at h
  | string s =>
    cases VR.string ha
    cases b with
    | string s' =>
      cases VR.string hb
      rw [eqGuard_run w op t x y _ _ (by simp) (by simp), Result.andThen_ok]
      simp only [binA, strA] at h
      cases op <;> simp at h <;> first
        | (obtain ⟨h0, rfl⟩ := h; refine ⟨_, ?_, (rfl : _ = Value.string _)⟩; have h1 : ¬ (9223372036854775807 < (s.size : Int) + (s'.size : Int)) := by omega
           simp [binOp, Op.stringOp, IntKind.max, IntKind.signed, IntKind.bits, h1])
        | (subst h; exact ⟨_, by simp [binOp, Op.stringOp], rfl⟩)
    | _ => simp [binA] at h
  | bool p =>
    cases VR.bool ha
    cases b with
    | bool q =>
      cases VR.bool hb
      rw [eqGuard_run w op t x y _ _ (by simp) (by simp), Result.andThen_ok]
      simp only [binA] at h
      split at h
      · rename_i hu; simp only [Option.some.injEq] at h; subst h
        exact ⟨_, by rw [eql_bool, run_equalIn_bool' w 9999 t p q hu]; rfl, rfl⟩
      · rename_i hu; simp only [Option.some.injEq] at h; subst h
        exact ⟨_, by rw [neq_bool, run_equalIn_bool' w 9999 t p q hu]; rfl, rfl⟩
      · simp at h
    | _ => simp [binA] at h
  | pointer p =>
    cases p with
    | none =>
      cases VR.nilp ha
      cases b with
      | pointer q =>
        have hq : ∃ q', b' = .pointer q' ∧ q'.isNone = q.isNone := by
          cases q with
          | none => exact ⟨none, VR.nilp hb, rfl⟩
          | some q => obtain ⟨_, _, e⟩ := VR.ptr hb; exact ⟨_, e, rfl⟩
        obtain ⟨q', rfl, hq⟩ := hq
        rw [eqGuard_run w op t x y _ _ (by simp) (by simp), Result.andThen_ok]
        simp only [binA] at h
        split at h
        · rename_i hu; simp only [Option.some.injEq] at h; subst h
          exact ⟨.bool q'.isNone, by rw [eql_ptr, in_nilp w 9999 q' hu]; rfl, by rw [← hq]; rfl⟩
        · rename_i hu; simp only [Option.some.injEq] at h; subst h
          exact ⟨.bool (!q'.isNone), by rw [neq_ptr, in_nilp w 9999 q' hu]; rfl, by rw [← hq]; rfl⟩
        · simp at h
      | _ => simp [binA] at h
    | some p =>
      obtain ⟨pl, _, rfl⟩ := VR.ptr ha
      cases b with
      | pointer q =>
        cases q with
        | some q => simp [binA] at h
        | none =>
          cases VR.nilp hb
          rw [eqGuard_run w op t x y _ _ (by simp) (by simp), Result.andThen_ok]
          simp only [binA] at h
          split at h
          · rename_i hu; simp only [Option.some.injEq] at h; subst h
            exact ⟨.bool false, by rw [eql_ptr, in_pnil w 9999 _ hu]; rfl, rfl⟩
          · rename_i hu; simp only [Option.some.injEq] at h; subst h
            exact ⟨.bool true, by rw [neq_ptr, in_pnil w 9999 _ hu]; rfl, rfl⟩
          · simp at h
      | _ => simp [binA] at h
  | slice p l c =>
    cases p with
    | none =>
      obtain ⟨rfl, rfl, rfl⟩ := VR.nils ha
      cases b with
      | slice q l' c' =>
        have hq : ∃ q' l'' c'', b' = .slice q' l'' c'' ∧ q'.isNone = q.isNone := by
          cases q with
          | none => obtain ⟨_, _, e⟩ := VR.nils hb; exact ⟨none, _, _, e, rfl⟩
          | some q => obtain ⟨_, _, _, _, _, e, _⟩ := VR.sl hb; exact ⟨_, _, _, e, rfl⟩
        obtain ⟨q', l'', c'', rfl, hq⟩ := hq
        rw [eqGuard_run w op t x y _ _ (by simp) (by simp), Result.andThen_ok]
        simp only [binA] at h
        split at h
        · rename_i hu; simp only [Option.some.injEq] at h; subst h
          exact ⟨.bool q'.isNone, by rw [eql_sl, in_nils w 9999 q' 0 0 l'' c'' hu]; rfl, by rw [← hq]; rfl⟩
        · rename_i hu; simp only [Option.some.injEq] at h; subst h
          exact ⟨.bool (!q'.isNone), by rw [neq_sl, in_nils w 9999 q' 0 0 l'' c'' hu]; rfl, by rw [← hq]; rfl⟩
        · simp at h
      | _ => simp [binA] at h
    | some p =>
      obtain ⟨pl, c1, z, _, _, rfl, _⟩ := VR.sl ha
      cases b with
      | slice q l' c' =>
        cases q with
        | some q => simp [binA] at h
        | none =>
          obtain ⟨_, _, rfl⟩ := VR.nils hb
          rw [eqGuard_run w op t x y _ _ (by simp) (by simp), Result.andThen_ok]
          simp only [binA] at h
          split at h
          · rename_i hu; simp only [Option.some.injEq] at h; subst h
            exact ⟨.bool false, by rw [eql_sl, in_snil w 9999 _ _ _ _ _ hu]; rfl, rfl⟩
          · rename_i hu; simp only [Option.some.injEq] at h; subst h
            exact ⟨.bool true, by rw [neq_sl, in_snil w 9999 _ _ _ _ _ hu]; rfl, rfl⟩
          · simp at h
      | _ => simp [binA] at h
  | agg xs =>
    obtain ⟨xs', rfl, hxs⟩ := VR.agg ha
    cases b with
    | agg ys =>
      obtain ⟨ys', rfl, hys⟩ := VR.agg hb
      simp only [binA] at h
      split at h
      · rename_i hpl
        unfold plainInts at hpl
        cases hu : P.underlying t with
        | none => rw [hu] at hpl; simp at hpl
        | some td =>
          rw [hu] at hpl
          cases td with
          | struct fs =>
            simp only [Bool.and_eq_true, Bool.not_eq_true', beq_iff_eq] at hpl
            obtain ⟨⟨⟨hsz, hst⟩, hgd⟩, hall⟩ := hpl
            have hfo : P.fieldsOf t = fs := by simp [Program.fieldsOf, hu]
            have hu' : P.underlying t = some (.struct (P.fieldsOf t)) := by rw [hfo]; exact hu
            rw [run_eqGuard_agg w op t x y xs' ys' hgd, Result.andThen_ok]
            have key : ∀ r, intsA xs.toList ys.toList = some r → (Op.equalIn 10000 t (.agg xs') (.agg ys')).run P w = .ok r w := by
              intro r hr
              rw [show (10000 : Nat) = 9998 + 1 + 1 from rfl, run_equalIn_struct w (9998 + 1) t xs' ys' hu' hst, hfo]
              exact intsA_run w 9998 fs.toList 0 xs'.toList ys'.toList r hall (by simp) (by simp) (by rw [hxs.1]; simpa using hsz) (intsA_rel _ _ _ _ r hxs hys hr)
            cases hr : intsA xs.toList ys.toList with
            | none => rw [hr] at h; cases op <;> simp at h
            | some r =>
              rw [hr] at h
              cases op <;> simp only [Option.map_some, Option.some.injEq, reduceCtorEq] at h
              · subst h; exact ⟨.bool r, by rw [run_eql_struct, key r hr]; rfl, rfl⟩
              · subst h; exact ⟨.bool (!r), by rw [run_neq_struct, key r hr]; rfl, rfl⟩
          | _ => simp at hpl
      · simp at h
    | _ => simp [binA] at h
  | _ => simp [binA] at h

end
end Go.Vm
