/-
  Every operation; the whole. Own work.
-/
import Derived.Test.YtimdkminagnhgabGreatDoorVmH
import Derived.Laws.MakeOwn
namespace Go.Vm
open Go.RowKit
set_option linter.unusedSimpArgs false
set_option linter.unusedVariables false

section
variable {P : Program} {H : Type} {O : HI H} {G ro : Nat} {w0 : Prot}

theorem PR.map {β : List Place} {ρ ρ' : Operand → Value} (parts : Array (Nat × Operand)) (h : ∀ p ∈ parts.toList, CR β (ρ p.2) (ρ' p.2)) :
    PR β (parts.map fun (i, x) => (i, ρ x)).toList (parts.map fun (i, x) => (i, ρ' x)).toList := by
  refine ⟨by simp, fun i x hx => ?_⟩
  simp only [Array.toList_map, List.getElem?_map] at hx ⊢
  cases hp : parts.toList[i]? with
  | none => rw [hp] at hx; simp at hx
  | some q =>
    rw [hp] at hx
    simp at hx
    subst hx
    exact ⟨_, rfl, rfl, h q (List.mem_of_getElem? hp)⟩

theorem LR.map {R : Value → Value → Prop} {ρ ρ' : Operand → Value} (l : List Operand) (h : ∀ x ∈ l, R (ρ x) (ρ' x)) : LR R (l.map ρ) (l.map ρ') := by
  induction l with
  | nil => exact LR.nil _
  | cons x l ih => exact LR.cons (h x (by simp)) (ih fun y hy => h y (by simp [hy]))

/-- What an operation's run comes to: a value, or none for a store. -/
def Comes' (r : Result Next) (v' : Value) (w' : World) : Prop := r = .ok (.value v') w' ∨ (r = .ok .skip w' ∧ v' = undef)

theorem comes_v {s : Sem Value} {w w' : World} {v' : Value} (h : s.run P w = .ok v' w') : Comes' ((do pure (.value (← s)) : Sem Next).run P w) v' w' := by
  refine .inl ?_
  simp only [Sem.run_bind, h, Result.andThen_ok, Sem.run_pure]

theorem pure_sim {β : List Place} (w : World) {ρ ρ' : Operand → Value} {o : Oper} {v : Value} (he : ∀ x ∈ opnds o.op, VR β (ρ x) (ρ' x)) (hc : cls o.op = 0)
    (h : pureA P ρ o.op = some v) : ∃ v', Comes' ((execOp ρ' o).run P w) v' w ∧ VR β v v' := by
  cases hop : o.op with
  | move x =>
    rw [hop] at h he
    simp only [pureA, Option.some.injEq] at h
    subst h
    exact ⟨ρ' x, .inl (by simp [execOp, hop]), he x (by simp [opnds, Op.operands])⟩
  | assign x =>
    rw [hop] at h he
    simp only [pureA, Option.some.injEq] at h
    subst h
    exact ⟨ρ' x, .inl (by simp [execOp, hop]), he x (by simp [opnds, Op.operands])⟩
  | pick c a b =>
    rw [hop] at h he
    simp only [pureA] at h
    have h1 := he c (by simp [opnds, Op.operands])
    have h2 := he a (by simp [opnds, Op.operands])
    have h3 := he b (by simp [opnds, Op.operands])
    cases hv : ρ c with
    | bool t =>
      rw [hv] at h h1
      simp only [Option.some.injEq] at h
      subst h
      refine ⟨if t then ρ' a else ρ' b, .inl ?_, ?_⟩
      · simp only [execOp, hop, VR.bool h1, asBool, Sem.run_bind, Sem.run_pure, Result.andThen_ok]
      · cases t
        · exact h3
        · exact h2
    | _ => rw [hv] at h; simp at h
  | nilCheck x =>
    rw [hop] at h he
    simp only [pureA] at h
    have h1 := he x (by simp [opnds, Op.operands])
    cases hv : ρ x with
    | pointer a =>
      cases a with
      | none => rw [hv] at h; simp at h
      | some a =>
        rw [hv] at h h1
        simp only [Option.some.injEq] at h
        subst h
        refine ⟨ρ' x, .inl ?_, h1⟩
        obtain ⟨p, _, e⟩ := VR.ptr h1
        simp only [execOp, hop, e, Sem.run_pure]
    | _ => rw [hv] at h; simp at h
  | binOp op t x y yt =>
    rw [hop] at h he
    simp only [pureA] at h
    obtain ⟨v', hrun, hv⟩ := bin_sim (P := P) w (x := x) (y := y) (he x (by simp [opnds, Op.operands])) (he y (by simp [opnds, Op.operands])) h
    refine ⟨v', ?_, hv⟩
    simp only [execOp, hop]
    exact comes_v hrun
  | unOp op t x =>
    rw [hop] at h he
    simp only [pureA] at h
    obtain ⟨v', hrun, hv⟩ := un_sim (P := P) w (he x (by simp [opnds, Op.operands])) h
    refine ⟨v', ?_, hv⟩
    simp only [execOp, hop]
    exact comes_v hrun
  | build t parts =>
    rw [hop] at h he
    simp only [pureA] at h
    split at h
    case isFalse => simp at h
    rename_i hall
    have hpr : PR β (parts.map fun (i, x) => (i, ρ x)).toList (parts.map fun (i, x) => (i, ρ' x)).toList :=
      PR.map parts fun p hp => (he p.2 (by simp [opnds, Op.operands]; exact ⟨p.1, by simpa using hp⟩)).toCR (by simpa using List.all_eq_true.1 hall p hp)
    obtain ⟨v', hrun, hv⟩ := build_sim w hpr h
    refine ⟨v', ?_, hv⟩
    simp only [execOp, hop]
    exact comes_v hrun
  | fieldAddr s x f =>
    rw [hop] at h he
    simp only [pureA] at h
    have h1 := he x (by simp [opnds, Op.operands])
    cases hu : P.underlying s with
    | none => rw [hu] at h; simp at h
    | some d =>
      rw [hu] at h
      cases d with
      | struct fs =>
        cases hv : ρ x with
        | pointer a =>
          cases a with
          | none => rw [hv] at h; simp at h
          | some a =>
            rw [hv] at h h1
            simp only at h
            cases hf : fs[f]? with
            | none => rw [hf] at h; simp at h
            | some fd =>
              rw [hf] at h
              simp only at h
              cases hi : P.info? fd.type with
              | none => rw [hi] at h; simp at h
              | some i =>
                rw [hi] at h
                simp only at h
                split at h
                · simp at h
                · rename_i hs
                  simp only [Option.some.injEq] at h
                  subst h
                  obtain ⟨p, hp, e⟩ := VR.ptr h1
                  refine ⟨.pointer (some ⟨p.blk, p.off + a.off + fd.offset, none⟩), ?_, (show SR β (.pointer (some ⟨a.block, a.off + fd.offset, none⟩)) _ from ⟨p, hp, by rw [Nat.add_assoc]⟩)⟩
                  simp only [execOp, hop]
                  refine comes_v ?_
                  simp [Instr.fieldAt, run_underlying hu, hf, e, Instr.sureAddr, fieldPlace, sizeOf, typeInfo, hi, hs, addr_add]
        | _ => rw [hv] at h; simp at h
      | _ => simp at h
  | field t x f =>
    rw [hop] at h he
    simp only [pureA] at h
    have h1 := he x (by simp [opnds, Op.operands])
    cases hu : P.underlying t with
    | none => rw [hu] at h; simp at h
    | some d =>
      rw [hu] at h
      cases d with
      | struct fs =>
        cases hv : ρ x with
        | agg cs =>
          rw [hv] at h h1
          simp only at h
          cases hf : fs[f]? with
          | none => rw [hf] at h; simp at h
          | some fd =>
            rw [hf] at h
            simp only at h
            obtain ⟨cs', e, hcs⟩ := VR.agg h1
            obtain ⟨v', hrun, hcr⟩ := part_sim w hcs h
            refine ⟨v', ?_, hcr.toVR⟩
            simp only [execOp, hop]
            refine comes_v ?_
            simp [Instr.field, run_underlying hu, hf, e, asAgg, hrun]
        | _ => rw [hv] at h; simp at h
      | _ => simp at h
  | indexAddr t x ix =>
    rw [hop] at h he
    simp only [pureA] at h
    obtain ⟨v', hrun, hv⟩ := indexAddr_sim w (he x (by simp [opnds, Op.operands])) (he ix (by simp [opnds, Op.operands])) h
    refine ⟨v', ?_, hv⟩
    simp only [execOp, hop]
    exact comes_v hrun
  | index t x ix =>
    rw [hop] at h he
    simp only [pureA] at h
    obtain ⟨v', hrun, hv⟩ := index_sim w (he x (by simp [opnds, Op.operands])) (he ix (by simp [opnds, Op.operands])) h
    refine ⟨v', ?_, hv⟩
    simp only [execOp, hop]
    exact comes_v hrun
  | slice t x lo hi mx => rw [hop] at hc; simp [cls] at hc
  | extract x i =>
    rw [hop] at h he
    simp only [pureA] at h
    have h1 := he x (by simp [opnds, Op.operands])
    cases hv : ρ x with
    | tuple vs =>
      rw [hv] at h h1
      simp only at h
      obtain ⟨vs', e, hvs⟩ := VR.tup h1
      obtain ⟨v', h2, h3⟩ := hvs.2 i v (by simpa using h)
      have h2' : vs'[i]? = some v' := by simpa using h2
      refine ⟨v', ?_, h3.toVR⟩
      simp only [execOp, hop]
      refine comes_v ?_
      simp [Instr.extract, e, h2']
    | _ => rw [hv] at h; simp at h
  | call c =>
    obtain ⟨cal, args, tys⟩ := c
    rw [hop] at h he hc
    cases cal with
    | value f => simp [cls] at hc
    | invoke r m => simp [cls] at hc
    | builtin b =>
      have lists : ∀ {X : Option Value} , (match tys.toList, args.toList with | t :: _, x :: _ => (X : Option Value) | _, _ => none) = some v → ∃ t x, tys[0]? = some t ∧ args[0]? = some x ∧ x ∈ args.toList := by
        intro X hX
        cases ht : tys.toList with
        | nil => rw [ht] at hX; simp at hX
        | cons t r =>
          cases ha : args.toList with
          | nil => rw [ht, ha] at hX; simp at hX
          | cons x r' =>
            refine ⟨t, x, ?_, ?_, by simp⟩
            · rw [← Array.getElem?_toList, ht]; rfl
            · rw [← Array.getElem?_toList, ha]; rfl
      cases b with
      | len =>
        simp only [pureA] at h
        cases ht : tys.toList with
        | nil => rw [ht] at h; simp at h
        | cons t r =>
          cases ha : args.toList with
          | nil => rw [ht, ha] at h; simp at h
          | cons x r' =>
            rw [ht, ha] at h
            simp only at h
            have ht0 : tys[0]? = some t := by rw [← Array.getElem?_toList, ht]; rfl
            have ha0 : args[0]? = some x := by rw [← Array.getElem?_toList, ha]; rfl
            have h1 := he x (by simp [opnds, ha])
            have hex : (execOp ρ' o).run P w = ((Builtin.len_ tys o.type (args.map ρ')).run P w).andThen fun v w' => .ok (.value v) w' := by
              simp [execOp, hop, resolve, invoke, builtin]
            have ha1 : (args.map ρ')[0]? = some (ρ' x) := by simp [ha0]
            cases hu : P.underlying t with
            | none => rw [hu] at h; simp at h
            | some d =>
              rw [hu] at h
              have fin : ∀ n : Nat, (Builtin.len_ tys o.type (args.map ρ')).run P w = .ok (.int .i64 n) w → v = .int .i64 n → ∃ v', Comes' ((execOp ρ' o).run P w) v' w ∧ VR β v v' := by
                intro n hl e
                subst e
                exact ⟨.int .i64 n, .inl (by rw [hex, hl]; rfl), rfl⟩
              cases d with
              | string =>
                cases hv : ρ x with
                | string s =>
                  rw [hv] at h h1
                  simp only [Option.some.injEq] at h
                  exact fin s.size (by simp [Builtin.len_, ht0, ha1, run_underlying hu, VR.string h1, goInt]) h.symm
                | _ => rw [hv] at h; simp at h
              | slice e =>
                cases hv : ρ x with
                | slice ad len cap =>
                  rw [hv] at h h1
                  simp only [Option.some.injEq] at h
                  have hs : ∃ ad' c', ρ' x = .slice ad' len c' := by
                    cases ad with
                    | none => obtain ⟨rfl, rfl, e⟩ := VR.nils h1; exact ⟨_, _, e⟩
                    | some ad => obtain ⟨_, _, _, _, _, e, _⟩ := VR.sl h1; exact ⟨_, _, e⟩
                  obtain ⟨ad', c', e⟩ := hs
                  exact fin len (by simp [Builtin.len_, ht0, ha1, run_underlying hu, e, goInt]) h.symm
                | _ => rw [hv] at h; simp at h
              | array n e =>
                simp only [Option.some.injEq] at h
                exact fin n (by simp [Builtin.len_, ht0, ha1, run_underlying hu, goInt]) h.symm
              | _ => simp at h
      | cap =>
        simp only [pureA] at h
        cases ht : tys.toList with
        | nil => rw [ht] at h; simp at h
        | cons t r =>
          cases ha : args.toList with
          | nil => rw [ht, ha] at h; simp at h
          | cons x r' =>
            rw [ht, ha] at h
            simp only at h
            have ht0 : tys[0]? = some t := by rw [← Array.getElem?_toList, ht]; rfl
            have ha0 : args[0]? = some x := by rw [← Array.getElem?_toList, ha]; rfl
            have h1 := he x (by simp [opnds, ha])
            have hex : (execOp ρ' o).run P w = ((Builtin.cap_ tys o.type (args.map ρ')).run P w).andThen fun v w' => .ok (.value v) w' := by
              simp [execOp, hop, resolve, invoke, builtin]
            have ha1 : (args.map ρ')[0]? = some (ρ' x) := by simp [ha0]
            cases hu : P.underlying t with
            | none => rw [hu] at h; simp at h
            | some d =>
              rw [hu] at h
              cases d with
              | slice e =>
                cases hv : ρ x with
                | slice ad len cap =>
                  rw [hv] at h h1
                  cases ad with
                  | none =>
                    obtain ⟨rfl, rfl, e⟩ := VR.nils h1
                    simp only [Option.some.injEq] at h
                    subst h
                    exact ⟨.int .i64 0, .inl (by rw [hex]; simp [Builtin.cap_, ht0, ha1, run_underlying hu, e, goInt]), rfl⟩
                  | some ad =>
                    obtain ⟨_, c, _, _, _, e, _, _, hcap⟩ := VR.sl h1
                    simp only at h
                    split at h
                    · simp at h
                    · rename_i hc0
                      simp only [Option.some.injEq] at h
                      subst h
                      have := hcap hc0
                      subst this
                      rw [Nat.add_sub_cancel]
                      exact ⟨.int .i64 c, .inl (by rw [hex]; simp [Builtin.cap_, ht0, ha1, run_underlying hu, e, goInt]), rfl⟩
                | _ => rw [hv] at h; simp at h
              | _ => simp at h
      | _ => simp [cls] at hc
  | _ => rw [hop] at hc; simp [cls] at hc

end
end Go.Vm
