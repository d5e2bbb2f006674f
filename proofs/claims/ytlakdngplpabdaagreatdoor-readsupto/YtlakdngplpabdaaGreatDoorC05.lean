/- Own work. -/
import Derived.Test.YtlakdngplpabdaaGreatDoorC04
namespace Go.Vm
open Go.RowKit
set_option linter.unusedSimpArgs false
set_option linter.unusedVariables false
section
variable {P : Program} {H : Type} {O : HI H} {G ro : Nat} {w0 : World}
theorem copy_sim (L : O.Law) {β : List Place} {h h' : H} {w : World} (r : Rel O G ro w0 β h w) {tys : Array TypeId} {args args' : List Value} {ty : TypeId} {v : Value} (ha : LR (VR β) args args')
 (hv : copyA P O ro tys.toList args h = some (v, h')) :
 ∃ v' w', (Builtin.copy_ tys ty args'.toArray).run P w = .ok v' w' /\ Rel O G ro w0 β h' w' /\ VR β v v' := by
 unfold copyA at hv
 split at hv
 case h_2 => simp at hv
 rename_i _ _ t rt a dLen dc b sLen sc htys
 have ht0 : tys[0]? = some t := by rw [<- Array.getElem?_toList, htys]; rfl
 split at hv
 case h_2 => simp at hv
 rename_i e hu
 split at hv
 case h_2 => simp at hv
 rename_i i hi
 split at hv
 . simp at hv
 rename_i hro
 split at hv
 case h_2 => simp at hv
 rename_i _ new hnew
 split at hv
 case h_2 => simp at hv
 rename_i _ h1 hput
 simp only [Option.some.injEq, Prod.mk.injEq] at hv
 obtain ⟨rfl, rfl⟩ := hv
 obtain ⟨d', r1, rfl, hd', hrA⟩ := LR.cons_inv ha
 obtain ⟨s', r2, rfl, hs', hrB⟩ := LR.cons_inv hrA
 have := LR.nil_inv hrB
 subst this
 obtain ⟨p, c, z, hp, hz, rfl, _⟩ := VR.sl hd'
 obtain ⟨p2, c2, z2, hp2, hz2, rfl, _⟩ := VR.sl hs'
 obtain ⟨new', hnr, hnl, hncell⟩ := r.cellsA hp2 _ _ _ hnew
 have hnl' : new'.length = Nat.min sLen dLen * i.size := by rw [hnr.1, hnl]
 have hf := run_firstCells_some (P := P) w i.size (Nat.min sLen dLen) ⟨p2.blk, p2.off + b.off, none⟩ sLen c2 new' hnl' (fun j v hv => by rw [addr_add]; exact hncell j v hv)
 obtain ⟨w1, hrun, hr1⟩ := puts_sim (P := P) L hp (by omega) new new' h h1 w a.off 0 hnr r (by simpa using hput)
 refine ⟨.int .i64 (Nat.min sLen dLen), w1, ?_, hr1, rfl⟩
 simp [Builtin.copy_, ht0, run_underlying hu, Builtin.lenOf, sizeOf, typeInfo, hi, hf, hrun, goInt]
theorem eff_sim (L : O.Law) {call : FuncId -> List Value -> H -> Option (Value × H)} {β : List Place} {h h' : H} {w : World} (r : Rel O G ro w0 β h w) {ρ ρ' : Operand -> Value} {o : Oper} {v : Value} (he : ∀ x ∈ opnds o.op, VR β (ρ x) (ρ' x))
 (hnc : ∀ f args tys, o.op ≠ .call { callee := .value (.func f), args := args, argTypes := tys })
 (hv : effA P O ro call ρ o.op h = some (v, h')) : ∃ β' v' w', Comes' ((execOp ρ' o).run P w) v' w' /\ β <+: β' /\ Rel O G ro w0 β' h' w' /\ VR β' v v' := by
 have ptr : ∀ (n m : Nat), VR (β ++ [⟨w.heap.size, 0, m⟩]) (.pointer (some ⟨O.next h, 0, none⟩)) (.pointer (some ⟨w.heap.size, 0, none⟩)) := fun n m =>
  (show SR _ (.pointer (some ⟨O.next h, 0, none⟩)) _ from ⟨⟨w.heap.size, 0, m⟩, last_place r.len, rfl⟩)
 cases hop : o.op with
 | alloc e =>
  rw [hop] at hv he
  simp only [effA] at hv
  split at hv
  case h_2 => simp at hv
  rename_i i hi
  split at hv
  case h_2 => simp at hv
  rename_i z hz
  split at hv
  case isFalse => simp at hv
  rename_i hzo
  simp only [Option.some.injEq, Prod.mk.injEq] at hv
  obtain ⟨rfl, rfl⟩ := hv
  refine ⟨_, .pointer (some ⟨w.heap.size, 0, none⟩), _, ?_, List.prefix_append _ _, new_sim L r (zero_rel (β := β) _ hzo) e, ptr 0 _⟩
  simp only [execOp, hop]
  refine comes_v ?_
  simp [Instr.alloc, zeroValue, typeInfo, hi, hz, newVar, newRow]
 | box e x =>
  rw [hop] at hv he
  simp only [effA] at hv
  split at hv
  . simp at hv
  rename_i ht
  simp only [Option.some.injEq, Prod.mk.injEq] at hv
  obtain ⟨rfl, rfl⟩ := hv
  have hx := (he x (by simp [opnds, Op.operands])).toCR (by simpa using ht)
  refine ⟨_, .pointer (some ⟨w.heap.size, 0, none⟩), _, ?_, List.prefix_append _ _, new_sim L r hx.cells e, ptr 0 _⟩
  simp only [execOp, hop]
  refine comes_v ?_
  simp [Instr.box, newVar, newRow]
 | buildSlice t len parts =>
  rw [hop] at hv he
  simp only [effA] at hv
  split at hv
  case h_2 => simp at hv
  rename_i e hu
  split at hv
  case h_2 => simp at hv
  rename_i i hi
  split at hv
  case h_2 => simp at hv
  rename_i z hz
  split at hv
  . simp at hv
  rename_i hcond
  simp only [not_or, Bool.not_eq_false] at hcond
  obtain ⟨hbig, hzo, hz0, hall⟩ := hcond
  split at hv
  case h_2 => simp at hv
  rename_i _ cells hfill
  simp only [Option.some.injEq, Prod.mk.injEq] at hv
  obtain ⟨rfl, rfl⟩ := hv
  have hpr : PR β (parts.map fun (i, x) => (i, ρ x)).toList (parts.map fun (i, x) => (i, ρ' x)).toList :=
   PR.map parts fun p hp => (he p.2 (by simp [opnds, Op.operands]; exact ⟨p.1, by simpa using hp⟩)).toCR (by simpa using List.all_eq_true.1 hall p hp)
  obtain ⟨cells', hf', hcr⟩ := fill_rel (β := β) _ _ _ _ (rangeA z.cells (len * i.size)).toArray _ hpr (by simpa using range_rel (β := β) hzo hz0 (len * i.size)) hfill
  have hsz : ∀ (ps : List (Nat × Value)) (cs out : Array Value), Instr.fill (fun j => some (j * i.size, i.size)) cs ps = some out -> out.size = cs.size := by
   intro ps
   induction ps with
   | nil => intro cs out h; simp [Instr.fill] at h; rw [h]
   | cons q ps ih =>
    intro cs out h
    obtain ⟨j, u⟩ := q
    simp only [Instr.fill] at h
    split at h
    . simp at h
    . rw [ih _ _ h]
      have : ∀ (l : List (Value × Nat)) (c : Array Value), (l.foldl (fun cs (c, k) => cs.setIfInBounds (j * i.size + k) c) c).size = c.size := by
       intro l
       induction l with
       | nil => intro c; rfl
       | cons y l ih2 => intro c; rw [List.foldl_cons, ih2]; simp
      rw [<- Array.foldl_toList]
      exact this _ _
  have hcs : cells'.size = len * i.size := by rw [hsz _ _ _ hf']; simp [rangeA]
  refine ⟨_, .slice (some ⟨w.heap.size, 0, none⟩) len len, _, ?_, List.prefix_append _ _, new_sim L r hcr e, ?_⟩
  . simp only [execOp, hop]
    refine comes_v ?_
    have hf2 : Instr.fill (fun j => some (j * i.size, i.size)) (rangeA z.cells (len * i.size)).toArray (parts.map fun x => (x.1, ρ' x.2)).toList = some cells' := hf'
    by_cases h0 : len * i.size = 0
    . have hrange : (Array.range (len * i.size)).map (fun x => (#[] : Array Value)[x % (#[] : Array Value).size]!) = (rangeA z.cells (len * i.size)).toArray := by simp [h0, rangeA]
      simp only [Instr.buildSlice, Sem.run_bind, run_underlying hu, Result.andThen_ok, sizeOf, typeInfo, run_program, hi, Sem.run_pure, Sem.run_ite, if_neg hbig, if_pos h0]
      rw [hrange, hf2]
      simp [newRow]
    . have hrange : (Array.range (len * i.size)).map (fun x => z.cells[x % z.cells.size]!) = (rangeA z.cells (len * i.size)).toArray := by
       apply Array.ext'
       simp [rangeA, Array.toList_range]
      have hzv : (zeroValue e).run P w = .ok z w := by simp [zeroValue, typeInfo, hi, hz]
      simp only [Instr.buildSlice, Sem.run_bind, run_underlying hu, Result.andThen_ok, sizeOf, typeInfo, run_program, hi, Sem.run_pure, Sem.run_ite, if_neg hbig, if_neg h0, hzv]
      rw [hrange, hf2]
      simp [newRow]
  . refine (show SR _ (.slice (some ⟨O.next h, 0, some i.size⟩) len (len + 1)) _ from ⟨⟨w.heap.size, 0, cells'.size⟩, len, i.size, last_place r.len, rfl, rfl, Nat.le_refl _, ?_, fun _ => rfl⟩)
    simp only [hcs]
    omega
 | store t a x =>
  rw [hop] at hv he
  simp only [effA] at hv
  have h1 := he a (by simp [opnds, Op.operands])
  have h2 := he x (by simp [opnds, Op.operands])
  split at hv
  case h_2 => simp at hv
  rename_i p i hpa hi
  rw [hpa] at h1
  obtain ⟨pl, hpl, e1⟩ := VR.ptr h1
  split at hv
  . simp at hv
  rename_i hro
  split at hv
  case isFalse => simp at hv
  rename_i hcond
  obtain ⟨hsize, hflat⟩ := hcond
  split at hv
  case h_2 => simp at hv
  rename_i _ h1' hput
  simp only [Option.some.injEq, Prod.mk.injEq] at hv
  obtain ⟨rfl, rfl⟩ := hv
  have htup : isTup (ρ x) = false := by
   cases hx : ρ x with
   | tuple vs => rw [hx] at hflat; simp [Value.cells, isFlat] at hflat
   | _ => rfl
  have hcells := (h2.toCR htup).cells
  obtain ⟨w1, hrun, hr1⟩ := puts_sim (P := P) L hpl (by omega) _ _ h h1' w p.off 0 hcells r (by simpa using hput)
  refine ⟨β, undef, w1, .inr ⟨?_, rfl⟩, List.prefix_rfl, hr1, VR.undef β⟩
  have hsz : (ρ' x).cells.size = i.size := by rw [<- hsize]; simpa using hcells.1
  simp only [execOp, hop, Instr.storeAt, e1, Instr.sureAddr, storeVar, sizeOf, typeInfo, Sem.run_bind, run_program, Result.andThen_ok, Sem.run_pure, hi, Sem.run_ite, hsz, ne_eq, not_true, if_false, hrun]
 | makeSlice t l c =>
  rw [hop] at hv he
  simp only [effA] at hv
  have h1 := he l (by simp [opnds, Op.operands])
  have h2 := he c (by simp [opnds, Op.operands])
  split at hv
  case h_2 => simp at hv
  rename_i e kl l' kc c' hu hl hc
  rw [hl] at h1
  rw [hc] at h2
  split at hv
  case h_2 => simp at hv
  rename_i i hi
  split at hv
  case h_2 => simp at hv
  rename_i z hz
  split at hv
  case isFalse => simp at hv
  rename_i hcond
  obtain ⟨h0, hlc, hby, hcl, hzo, hz0⟩ := hcond
  simp only [Option.some.injEq, Prod.mk.injEq] at hv
  obtain ⟨rfl, rfl⟩ := hv
  have hrun := run_make (P := P) w t e i z hu hi hz kl kc l' c' h0 hlc (by rw [Int.mul_comm]; omega) (by omega)
  have hcr : LR (SR β) (rangeA z.cells (c'.toNat * i.size)) (madeCells z.cells (c'.toNat * i.size)).toList := by
   rw [<- rangeA_eq]; simpa using range_rel (β := β) hzo hz0 _
  refine ⟨_, .slice (some ⟨w.heap.size, 0, none⟩) l'.toNat c'.toNat, _, ?_, List.prefix_append _ _, new_sim L r hcr e, ?_⟩
  . simp only [execOp, hop]
    refine comes_v ?_
    rw [VR.int h1, VR.int h2]
    exact hrun
  . refine (show SR _ (.slice (some ⟨O.next h, 0, some i.size⟩) l'.toNat (c'.toNat + 1)) _ from ⟨⟨w.heap.size, 0, (madeCells z.cells (c'.toNat * i.size)).size⟩, c'.toNat, i.size, last_place r.len, rfl, rfl, by omega, ?_, fun _ => rfl⟩)
    simp only [size_madeCells]
    omega
 | call c =>
  obtain ⟨cal, args, tys⟩ := c
  rw [hop] at hv he
  cases cal with
  | value f =>
   cases f with
   | func f => exact absurd hop (hnc f args tys)
   | _ => simp [effA] at hv
  | invoke q m => simp [effA] at hv
  | builtin b =>
   have hargs : LR (VR β) (args.toList.map ρ) (args.toList.map ρ') := LR.map _ fun x hx => he x (by simpa [opnds] using hx)
   have earr : (args.toList.map ρ').toArray = args.map ρ' := by apply Array.ext'; simp
   cases b with
   | append =>
    simp only [effA] at hv
    obtain ⟨β', v', w', hrun, hp, hr', hvr⟩ := append_sim (ty := o.type) L r hargs hv
    rw [earr] at hrun
    exact ⟨β', v', w', .inl (by simp [execOp, hop, resolve, invoke, builtin, hrun]), hp, hr', hvr⟩
   | copy =>
    simp only [effA] at hv
    obtain ⟨v', w', hrun, hr', hvr⟩ := copy_sim (ty := o.type) L r hargs hv
    rw [earr] at hrun
    exact ⟨β, v', w', .inl (by simp [execOp, hop, resolve, invoke, builtin, hrun]), List.prefix_rfl, hr', hvr⟩
   | _ => simp [effA] at hv
 | _ => rw [hop] at hv; simp [effA] at hv
theorem step_of_call (L : O.Law) (call : FuncId -> List Value -> H -> Option (Value × H)) (hcall : CallSim P O G ro w0 call) : StepSim P O G ro w0 call := by
 intro o t a h h' w β v hok hr ht hv K Q hK
 have he : ∀ x ∈ opnds o.op, VR β (evalT t x) (a.eval x) := fun x hx => evalT_rel hr ht (List.all_eq_true.1 hok x hx)
 have fin : ∀ β' v' w', Comes' ((execOp a.eval o).run P w) v' w' -> β <+: β' -> Rel O G ro w0 β' h' w' -> VR β' v v' -> o.wp P a w K Q := by
  intro β' v' w' hc hp hr' hvr
  have hk := hK β' v' w' hp hr' hvr
  unfold Oper.wp
  rcases hc with hc | ⟨hc, rfl⟩ <;> rw [hc] <;> exact hk
 by_cases hfc : ∃ f args tys, o.op = .call { callee := .value (.func f), args := args, argTypes := tys }
 . obtain ⟨f, args, tys, hop⟩ := hfc
   have hv' : call f (args.toList.map (evalT t)) h = some (v, h') := by
    rw [hop] at hv; exact hv
   have hargs : LR (VR β) (args.toList.map (evalT t)) (args.toList.map a.eval) := LR.map _ fun x hx => he x (by rw [hop]; simpa [opnds] using hx)
   obtain ⟨⟨fn, c, hf, hb, hname⟩, hcalls⟩ := hcall f _ _ h h' w β v hr hargs hv'
   have earr : (args.toList.map a.eval).toArray = args.map a.eval := by apply Array.ext'; simp
   rw [earr] at hcalls
   have hrun : (execOp a.eval o).run P w = .ok (.enter f (args.map a.eval)) w := by
    have hname' : ¬ (fn.name = "runtime.NumGoroutine") := by simpa using hname
    simp [execOp, hop, resolve, Act.eval, Deferred.ofValue, invoke, callFunc, hf, hb, hname']
   unfold Oper.wp
   rw [hrun]
   refine Calls.mono hcalls fun e w' hq => ?_
   obtain ⟨v', β', rfl, hp, hr', hvr⟩ := hq
   exact hK β' v' w' hp hr' hvr
 . unfold opA at hv
   split at hv
   . rename_i hc
     cases hp : pureA P (evalT t) o.op with
     | none => rw [hp] at hv; simp at hv
     | some u =>
      rw [hp] at hv
      simp only [Option.map_some, Option.some.injEq, Prod.mk.injEq] at hv
      obtain ⟨rfl, rfl⟩ := hv
      obtain ⟨v', hcm, hvr⟩ := pure_sim (P := P) w he hc hp
      exact fin β v' w hcm List.prefix_rfl hr hvr
   . rename_i hc
     cases hp : readA P O (evalT t) o.op h with
     | none => rw [hp] at hv; simp at hv
     | some u =>
      rw [hp] at hv
      simp only [Option.map_some, Option.some.injEq, Prod.mk.injEq] at hv
      obtain ⟨rfl, rfl⟩ := hv
      obtain ⟨v', hcm, hvr⟩ := read_sim hr he hp
      exact fin β v' w hcm List.prefix_rfl hr hvr
   . obtain ⟨β', v', w', hcm, hp, hr', hvr⟩ := eff_sim L hr he (fun f args tys e => hfc ⟨f, args, tys, e⟩) hv
     exact fin β' v' w' hcm hp hr' hvr
theorem calls_sim (L : O.Law) {ok : FuncId -> Bool} (hmix : P.follows .mixedOrders = true) (hfun : ∀ f, ok f = true -> FunOk P G f) (n : Nat) : CallSim P O G ro w0 (callA P O ro ok n) :=
 call_sim hfun (code_sim L hmix hfun (fun call hc => step_of_call L call hc) n)
end
end Go.Vm
namespace Go.Vm
section
variable {P : Program} {H : Type} {O : HI H} {ro : Nat} {ok : FuncId -> Bool}
def Ev (P : Program) (O : HI H) (ro : Nat) (ok : FuncId -> Bool) (c : Code) (s : Array Value × H) (e : Exit) (s' : Array Value × H) : Prop :=
 ∃ n, ∀ m, n <= m -> codeA P O ro ok m c s = some (e, s')
def EvF (P : Program) (O : HI H) (ro : Nat) (ok : FuncId -> Bool) (f : FuncId) (args : List Value) (h : H) (v : Value) (h' : H) : Prop :=
 ∃ n, ∀ m, n <= m -> callA P O ro ok m f args h = some (v, h')
theorem Ev.of_succ {c : Code} {s s' : Array Value × H} {e : Exit} (n : Nat) (h : ∀ m, n <= m -> codeA P O ro ok (m + 1) c s = some (e, s')) : Ev P O ro ok c s e s' :=
 ⟨n + 1, fun m hm => by
  obtain ⟨k, rfl⟩ : ∃ k, m = k + 1 := ⟨m - 1, by omega⟩
  exact h k (by omega)⟩
theorem Ev.skip (s : Array Value × H) : Ev P O ro ok .skip s .normal s := Ev.of_succ 0 fun _ _ => rfl
theorem Ev.ret (s : Array Value × H) : Ev P O ro ok .ret s .ret s := Ev.of_succ 0 fun _ _ => rfl
theorem Ev.exit (id : Nat) (s : Array Value × H) : Ev P O ro ok (.exit id) s (.exit id) s := Ev.of_succ 0 fun _ _ => rfl
theorem Ev.seq {x y : Code} {s s1 s2 : Array Value × H} {e : Exit} (h1 : Ev P O ro ok x s .normal s1) (h2 : Ev P O ro ok y s1 e s2) : Ev P O ro ok (.seq x y) s e s2 := by
 obtain ⟨n1, h1⟩ := h1
 obtain ⟨n2, h2⟩ := h2
 refine Ev.of_succ (max n1 n2) fun m hm => ?_
 simp only [codeA, h1 m (by omega), h2 m (by omega)]
theorem Ev.seq_out {x y : Code} {s s1 : Array Value × H} {e : Exit} (h1 : Ev P O ro ok x s e s1) (he : e ≠ .normal) : Ev P O ro ok (.seq x y) s e s1 := by
 obtain ⟨n1, h1⟩ := h1
 refine Ev.of_succ n1 fun m hm => ?_
 simp only [codeA, h1 m hm]
 cases e <;> first | (exact absurd rfl he) | rfl
theorem Ev.cond {c : Operand} {x y : Code} {s s1 : Array Value × H} {e : Exit} {b : Bool} (hc : evalT s.1 c = .bool b) (h1 : Ev P O ro ok (if b then x else y) s e s1) : Ev P O ro ok (.cond c x y) s e s1 := by
 obtain ⟨n1, h1⟩ := h1
 refine Ev.of_succ n1 fun m hm => ?_
 simp only [codeA, hc]
 cases b
 . exact h1 m hm
 . exact h1 m hm
def outOf (id : Nat) : Exit -> Exit
 | .exit id' => if id' = id then .normal else .exit id'
 | e => e
theorem Ev.block {id : Nat} {x : Code} {s s1 : Array Value × H} {e : Exit} (h1 : Ev P O ro ok x s e s1) : Ev P O ro ok (.block id x) s (outOf id e) s1 := by
 obtain ⟨n1, h1⟩ := h1
 refine Ev.of_succ n1 fun m hm => ?_
 simp only [codeA, h1 m hm]
 cases e with
 | exit id' =>
  by_cases hid : id' = id
  . subst hid; simp [outOf]
  . simp [hid, outOf]
 | _ => simp [outOf]
theorem Ev.loop_next {x : Code} {s s1 s2 : Array Value × H} {e : Exit} (h1 : Ev P O ro ok x s .normal s1) (h2 : Ev P O ro ok (.loop x) s1 e s2) : Ev P O ro ok (.loop x) s e s2 := by
 obtain ⟨n1, h1⟩ := h1
 obtain ⟨n2, h2⟩ := h2
 refine Ev.of_succ (max n1 n2) fun m hm => ?_
 simp only [codeA, h1 m (by omega), h2 m (by omega)]
theorem Ev.loop_out {x : Code} {s s1 : Array Value × H} {e : Exit} (h1 : Ev P O ro ok x s e s1) (he : e ≠ .normal) : Ev P O ro ok (.loop x) s e s1 := by
 obtain ⟨n1, h1⟩ := h1
 refine Ev.of_succ n1 fun m hm => ?_
 simp only [codeA, h1 m hm]
 cases e <;> first | (exact absurd rfl he) | rfl
theorem Ev.region {id : Nat} {ops : Array Oper} {draw : Bool} {s s1 : Array Value × H} (h : ∃ n, ∀ m, n <= m -> runA P O ro (callA P O ro ok m) ops (List.range ops.size) s = some s1) : Ev P O ro ok (.region id ops draw) s .normal s1 := by
 obtain ⟨n, h⟩ := h
 refine Ev.of_succ n fun m hm => ?_
 have : codeA P O ro ok (m + 1) (.region id ops draw) s = (runA P O ro (callA P O ro ok m) ops (List.range ops.size) s).map fun s' => (Exit.normal, s') := rfl
 rw [this, h m hm]
 rfl
theorem EvF.of_body {f : FuncId} {fn : Func} {c : Code} {args : List Value} {h h' : H} {t : Array Value} {v : Value} {e : Exit} (hok : ok f = true) (hf : P.funcs[f]? = some fn) (hb : fn.body = some c)
 (he : Ev P O ro ok c (args.toArray ++ Array.replicate (fn.ntmps - args.length) undef, h) e (t, h')) (hex : e = .ret \/ e = .normal) (hr : resA P O fn t h' = some v) : EvF P O ro ok f args h v h' := by
 obtain ⟨n, he⟩ := he
 refine ⟨n, fun m hm => ?_⟩
 unfold callA
 rw [if_pos hok]
 simp only [hf, hb, he m hm]
 rcases hex with rfl | rfl <;> simp [hr]
theorem EvF.calls {G : Nat} {w0 w : World} (L : O.Law) (hmix : P.follows .mixedOrders = true) (hfun : ∀ f, ok f = true -> FunOk P G f) {f : FuncId} {args args' : List Value} {h h' : H} {β : List Place} {v : Value}
 (hr : Rel O G ro w0 β h w) (ha : LR (VR β) args args') (he : EvF P O ro ok f args h v h') :
 Calls P f args'.toArray w fun e w' => ∃ v' β', e = .returned v' /\ β <+: β' /\ Rel O G ro w0 β' h' w' /\ VR β' v v' := by
 obtain ⟨n, he⟩ := he
 exact (calls_sim L hmix hfun n f args args' h h' w β v hr ha (he n (Nat.le_refl n))).2
end
abbrev Env := Nat -> Value
abbrev CallT (H : Type) := FuncId -> List Value -> H -> Option (Value × H)
abbrev ActT (H : Type) := CallT H -> Env -> H -> Option (Value × H)
abbrev StpT (H : Type) := CallT H -> Env × H -> Option (Env × H)
abbrev CodeT (H : Type) := CallT H -> Nat -> Env × H -> Option (Exit × (Env × H))
def upd (t : Env) (d : Nat) (v : Value) : Env := fun i => if i = d then v else t i
def ev (t : Env) : Operand -> Value
 | .tmp i => t i
 | .const v => v
 | .global g => .pointer (some ⟨g, 0, none⟩)
 | .func f => .func (.func f) #[] #[]
def isB (v : Value) (b : Bool) : Bool :=
 match v with
 | .bool c => c == b
 | _ => false
section
variable {H : Type} (O : HI H)
def to (d : Nat) (f : ActT H) : StpT H := fun call s =>
 match f call s.1 s.2 with
 | some (v, h) => some (upd s.1 d v, h)
 | none => none
def too (f : ActT H) : StpT H := fun call s =>
 match f call s.1 s.2 with
 | some (_, h) => some (s.1, h)
 | none => none
def onlyIf (j : Nat) (b : Bool) (d : Nat) (f : StpT H) : StpT H := fun call s =>
 if isB (s.1 j) b then f call s else some (upd s.1 d undef, s.2)
def onlyIfo (j : Nat) (b : Bool) (f : StpT H) : StpT H := fun call s =>
 if isB (s.1 j) b then f call s else some s
def reg : List (StpT H) -> StpT H
 | [] => fun _ s => some s
 | f :: l => fun call s => match f call s with
  | some s' => reg l call s'
  | none => none
def aMove (x : Operand) : ActT H := fun _ t h => some (ev t x, h)
def aPick (c a b : Operand) : ActT H := fun _ t h => match ev t c with
 | .bool q => some (if q then ev t a else ev t b, h)
 | _ => none
def aNil (x : Operand) : ActT H := fun _ t h => match ev t x with
 | .pointer (some a) => some (.pointer (some a), h)
 | _ => none
def aBin (P : Program) (op : BinOp) (ty : TypeId) (x y : Operand) : ActT H := fun _ t h => (binA P op ty (ev t x) (ev t y)).map fun v => (v, h)
def aInt (op : BinOp) (x y : Operand) : ActT H := fun _ t h => match ev t x, ev t y with
 | .int k a, .int k' b => (if k = k' then intA op k a b else none).map fun v => (v, h)
 | _, _ => none
def aShift (op : BinOp) (x y : Operand) : ActT H := fun _ t h => match ev t x, ev t y with
 | .int k a, .int _ b => (shiftA op k a b).map fun v => (v, h)
 | _, _ => none
def aStr (op : BinOp) (x y : Operand) : ActT H := fun _ t h => match ev t x, ev t y with
 | .string a, .string b => (strA op a b).map fun v => (v, h)
 | _, _ => none
def aPtrNil (neg : Bool) (x y : Operand) : ActT H := fun _ t h => match ev t x, ev t y with
 | .pointer none, .pointer b => some (.bool (b.isNone != neg), h)
 | .pointer (some _), .pointer none => some (.bool (false != neg), h)
 | _, _ => none
def aSlNil (neg : Bool) (x y : Operand) : ActT H := fun _ t h => match ev t x, ev t y with
 | .slice none _ _, .slice b _ _ => some (.bool (b.isNone != neg), h)
 | .slice (some _) _ _, .slice none _ _ => some (.bool (false != neg), h)
 | _, _ => none
def aBoolEq (neg : Bool) (x y : Operand) : ActT H := fun _ t h => match ev t x, ev t y with
 | .bool a, .bool b => some (.bool ((a == b) != neg), h)
 | _, _ => none
def aUn (op : UnOp) (x : Operand) : ActT H := fun _ t h => (unA op (ev t x)).map fun v => (v, h)
def aFld (off : Nat) (x : Operand) : ActT H := fun _ t h => match ev t x with
 | .pointer (some a) => some (.pointer (some ⟨a.block, a.off + off, none⟩), h)
 | _ => none
def aIdx (sz : Nat) (x ix : Operand) : ActT H := fun _ t h => match ev t x, ev t ix with
 | .slice (some a) len _, .int _ i => if 0 <= i /\ i < (len : Int) then some (.pointer (some ⟨a.block, a.off + i.toNat * sz, none⟩), h) else none
 | _, _ => none
def aIdxArr (len sz : Nat) (x ix : Operand) : ActT H := fun _ t h => match ev t x, ev t ix with
 | .pointer (some a), .int _ i => if 0 <= i /\ i < (len : Int) then some (.pointer (some ⟨a.block, a.off + i.toNat * sz, none⟩), h) else none
 | _, _ => none
def aIdxStr (x ix : Operand) : ActT H := fun _ t h => match ev t x, ev t ix with
 | .string s, .int _ i => if 0 <= i then (s[i.toNat]?).map fun b => (.int .u8 b.toNat, h) else none
 | _, _ => none
def aLd (x : Operand) : ActT H := fun _ t h => match ev t x with
 | .pointer (some a) => (O.cell h a.block a.off).map fun v => (v, h)
 | _ => none
def aLdN (n : Nat) (x : Operand) : ActT H := fun _ t h => match ev t x with
 | .pointer (some a) => (cellsA O h a.block a.off n).map fun l => (.agg l.toArray, h)
 | _ => none
def aSt (ro n : Nat) (a x : Operand) : ActT H := fun _ t h => match ev t a with
 | .pointer (some p) =>
  if p.block < ro then none else
  if (ev t x).cells.size = n /\ (ev t x).cells.toList.all isFlat then
   match putsA O h p.block p.off (ev t x).cells.toList with
   | some h' => some (undef, h')
   | none => none
  else none
 | _ => none
def aLenStr (x : Operand) : ActT H := fun _ t h => match ev t x with
 | .string s => some (.int .i64 s.size, h)
 | _ => none
def aLenSl (x : Operand) : ActT H := fun _ t h => match ev t x with
 | .slice _ n _ => some (.int .i64 n, h)
 | _ => none
def aConv (k : IntKind) (x : Operand) : ActT H := fun _ t h => match ev t x with
 | .int _ n => some (.int k (k.wrap n), h)
 | _ => none
def aNew (cs : List Value) : ActT H := fun _ _ h => some (.pointer (some ⟨O.next h, 0, none⟩), O.new h cs)
def aBox (x : Operand) : ActT H := fun _ t h => if isTup (ev t x) then none else some (.pointer (some ⟨O.next h, 0, none⟩), O.new h (ev t x).cells.toList)
def aCall (f : FuncId) (args : List Operand) : ActT H := fun call t h => call f (args.map (ev t)) h
def aExt (x : Operand) (i : Nat) : ActT H := fun _ t h => match ev t x with
 | .tuple vs => (vs[i]?).map fun v => (v, h)
 | _ => none
def aBuild (zs : Array Value) (ps : List (Nat × Nat)) (parts : List (Nat × Operand)) : ActT H := fun _ t h =>
 if parts.all (fun p => !isTup (ev t p.2)) then (Instr.fill (ps[·]?) zs (parts.map fun p => (p.1, ev t p.2))).map fun c => (.agg c, h) else none
def aMkSl (sz len : Nat) (zs : Array Value) (parts : List (Nat × Operand)) : ActT H := fun _ t h =>
 if parts.all (fun p => !isTup (ev t p.2)) then
  match Instr.fill (fun j => some (j * sz, sz)) (rangeA zs (len * sz)).toArray (parts.map fun p => (p.1, ev t p.2)) with
  | some cells => some (.slice (some ⟨O.next h, 0, some sz⟩) len (len + 1), O.new h cells.toList)
  | none => none
 else none
def appI (ro sz bytes : Nat) (s x : Value) (h : H) : Option (Value × H) :=
 match s, x with
 | .slice base len cap, .slice b' n _ =>
  if (len + n) * bytes > 140737488355328 \/ len + n > 140737488355328 then none else
  match (match b' with | some b => cellsA O h b.block b.off (n * sz) | none => if n = 0 then some [] else none) with
  | some new =>
   match base with
   | none =>
    if len = 0 /\ cap = 0 then
     if n = 0 then some (.slice none 0 0, h) else some (.slice (some ⟨O.next h, 0, some sz⟩) n 0, O.new h new)
    else none
   | some a =>
    if a.block < ro then none else
    if a.spot = some sz /\ O.alive h a.block = true then
    match cellsA O h a.block a.off (len * sz) with
    | some old =>
     if cap = 0 then
      some (.slice (some ⟨O.next h, 0, some sz⟩) (len + n) 0, O.new (O.kill h a.block) (old ++ new))
     else if len + n < cap then
      match putsA O h a.block (a.off + len * sz) new with
      | some h' => some (.slice (some a) (len + n) cap, h')
      | none => none
     else some (.slice (some ⟨O.next h, 0, some sz⟩) (len + n) 0, O.new h (old ++ new))
    | none => none
    else none
  | none => none
 | _, _ => none
def aApp (ro sz bytes : Nat) (x y : Operand) : ActT H := fun _ t h => appI O ro sz bytes (ev t x) (ev t y) h
def aSliceStr (x : Operand) (lo hi : Option Operand) : ActT H := fun _ t h =>
 match ev t x with
 | .string s =>
  match boundA (hi.map (ev t)) s.size s.size with
  | some e => match boundA (lo.map (ev t)) 0 e with
   | some l => some (.string (s.extract l e), h)
   | none => none
  | none => none
 | _ => none
def aSliceSl (sz : Nat) (x : Operand) (lo hi : Option Operand) : ActT H := fun _ t h =>
 match ev t x with
 | .slice (some a) len cap =>
  if a.spot = some sz then
  match boundA (hi.map (ev t)) len (if cap = 0 then len else cap - 1) with
  | some e => match boundA (lo.map (ev t)) 0 e with
   | some l =>
    if l = 0 then some (.slice (some a) e cap, h)
    else if l < e then some (.slice (some ⟨a.block, a.off + l * sz, a.spot⟩) (e - l) (if cap = 0 then 0 else cap - l), h)
    else none
   | none => none
  | none => none
  else none
 | _ => none
def aFieldS (off : Nat) (x : Operand) : ActT H := fun _ t h => match ev t x with
 | .agg cs => (cs[off]?).map fun v => (v, h)
 | _ => none
def aSliceArr (n sz : Nat) (x : Operand) (lo hi : Option Operand) : ActT H := fun _ t h =>
 match ev t x with
 | .pointer (some a) =>
  match boundA (hi.map (ev t)) n n with
  | some h1 => match boundA (lo.map (ev t)) 0 h1 with
   | some l => if l < h1 /\ (O.cell h a.block (a.off + n * sz - 1)).isSome = true then some (.slice (some ⟨a.block, a.off + l * sz, some sz⟩) (h1 - l) 0, h) else none
   | none => none
  | none => none
 | _ => none
def aB2S (x : Operand) : ActT H := fun _ t h => match ev t x with
 | .slice (some a) len _ => match cellsA O h a.block a.off len with
  | some l => (bytesA l).map fun bs => (.string ⟨bs.toArray⟩, h)
  | none => none
 | _ => none
def aAggEq (neg : Bool) (n : Nat) (x y : Operand) : ActT H := fun _ t h => match ev t x, ev t y with
 | .agg xs, .agg ys => if xs.size = n then (intsA xs.toList ys.toList).map fun b => (.bool (b != neg), h) else none
 | _, _ => none
def aMake (sz bytes : Nat) (zs : Array Value) (l c : Operand) : ActT H := fun _ t h => match ev t l, ev t c with
 | .int _ l, .int _ c =>
  if 0 <= l /\ l <= c /\ c * bytes <= 140737488355328 /\ c <= 140737488355328 then
   some (.slice (some ⟨O.next h, 0, some sz⟩) l.toNat (c.toNat + 1), O.new h (rangeA zs (c.toNat * sz)))
  else none
 | _, _ => none
def aAny (P : Program) (ro : Nat) (op : Op) : ActT H := fun call t h => opA P O ro call (ev t) op h
def cSkip : CodeT H := fun _ _ s => some (.normal, s)
def cRet : CodeT H := fun _ _ s => some (.ret, s)
def cExit (id : Nat) : CodeT H := fun _ _ s => some (.exit id, s)
def cSeq (x y : CodeT H) : CodeT H := fun call n s =>
 match x call n s with
 | some (.normal, s') => y call n s'
 | r => r
def cIf (c : Operand) (x y : CodeT H) : CodeT H := fun call n s =>
 match ev s.1 c with
 | .bool true => x call n s
 | .bool false => y call n s
 | _ => none
def cBlk (id : Nat) (x : CodeT H) : CodeT H := fun call n s => (x call n s).map fun r => (outOf id r.1, r.2)
def loopN (x : CodeT H) (call : CallT H) : Nat -> Env × H -> Option (Exit × (Env × H))
 | 0, _ => none
 | n + 1, s => match x call n s with
  | some (.normal, s') => loopN x call n s'
  | r => r
def cLoop (x : CodeT H) : CodeT H := fun call n s => loopN x call n s
def cReg (l : List (StpT H)) : CodeT H := fun call _ s => (reg l call s).map fun s' => (.normal, s')
variable (P : Program) (ro : Nat)
def isAggT (t : TypeId) : Option Bool :=
 match P.underlying t with
 | some (.struct _) | some (.array _ _) => some true
 | some _ => some false
 | none => none
def actOf (op : Op) : ActT H :=
 match op with
 | .move x | .assign x => aMove x
 | .pick c a b => aPick c a b
 | .nilCheck x => aNil x
 | .binOp o t x y _ =>
  match o with
  | .shl | .shr => aShift o x y
  | _ =>
   match P.underlying t with
   | some (.int _) => aInt o x y
   | some .string => aStr o x y
   | some (.pointer _) => (match o with | .eql => aPtrNil false x y | .neq => aPtrNil true x y | _ => aBin P o t x y)
   | some (.slice _) => (match o with | .eql => aSlNil false x y | .neq => aSlNil true x y | _ => aBin P o t x y)
   | some .bool => (match o with | .eql => aBoolEq false x y | .neq => aBoolEq true x y | _ => aBin P o t x y)
   | some (.struct fs) => if plainInts P t fs.size then (match o with | .eql => aAggEq false fs.size x y | .neq => aAggEq true fs.size x y | _ => aBin P o t x y) else aBin P o t x y
   | _ => aBin P o t x y
 | .unOp o _ x => aUn o x
 | .fieldAddr s x f =>
  match P.underlying s with
  | some (.struct fs) => match fs[f]? with
   | some fd => match P.info? fd.type with
    | some i => if i.size = 0 then aAny O P ro op else aFld fd.offset x
    | none => aAny O P ro op
   | none => aAny O P ro op
  | _ => aAny O P ro op
 | .indexAddr t x ix =>
  match P.underlying t with
  | some (.slice e) => match P.info? e with
   | some i => aIdx i.size x ix
   | none => aAny O P ro op
  | some (.array n e) => match P.info? e with
   | some i => aIdxArr n i.size x ix
   | none => aAny O P ro op
  | _ => aAny O P ro op
 | .index t x ix =>
  match P.underlying t with
  | some .string => aIdxStr x ix
  | _ => aAny O P ro op
 | .load t a =>
  match isAggT P t, P.info? t with
  | some true, some i => aLdN O i.size a
  | some false, some _ => aLd O a
  | _, _ => aAny O P ro op
 | .store t a x =>
  match P.info? t with
  | some i => aSt O ro i.size a x
  | none => aAny O P ro op
 | .convert s d x =>
  match P.underlying s, P.underlying d with
  | some (.int _), some (.int k) => aConv k x
  | some (.slice e), some .string => (match P.underlying e with | some (.int .u8) => aB2S O x | _ => aAny O P ro op)
  | _, _ => aAny O P ro op
 | .build t parts =>
  match P.info? t, P.underlying t with
  | some i, some (.struct fs) =>
   match i.zero, placesA P fs.toList with
   | some z, some ps => if zeroOk z then aBuild z.cells ps parts.toList else aAny O P ro op
   | _, _ => aAny O P ro op
  | _, _ => aAny O P ro op
 | .buildSlice t len parts =>
  match P.underlying t with
  | some (.slice e) =>
   match P.info? e with
   | some i => match i.zero with
    | some z => if len * i.size > 2 ^ 24 \/ zeroOk z = false \/ z.cells.size = 0 then aAny O P ro op else aMkSl O i.size len z.cells parts.toList
    | none => aAny O P ro op
   | none => aAny O P ro op
  | _ => aAny O P ro op
 | .makeSlice t l c =>
  match P.underlying t with
  | some (.slice e) =>
   match P.info? e with
   | some i => match i.zero with
    | some z => if zeroOk z = true /\ z.cells.size ≠ 0 then aMake O i.size i.bytes z.cells l c else aAny O P ro op
    | none => aAny O P ro op
   | none => aAny O P ro op
  | _ => aAny O P ro op
 | .slice t x lo hi mx =>
  match mx, P.underlying t with
  | none, some .string => aSliceStr x lo hi
  | none, some (.slice e) => (match P.info? e with | some i => aSliceSl i.size x lo hi | none => aAny O P ro op)
  | none, some (.array n e) => (match P.info? e with | some i => aSliceArr O n i.size x lo hi | none => aAny O P ro op)
  | _, _ => aAny O P ro op
 | .field t x f =>
  match P.underlying t with
  | some (.struct fs) => match fs[f]? with
   | some fd => match isAggT P fd.type, P.info? fd.type with
    | some false, some _ => aFieldS fd.offset x
    | _, _ => aAny O P ro op
   | none => aAny O P ro op
  | _ => aAny O P ro op
 | .alloc e =>
  match P.info? e with
  | some i => match i.zero with
   | some z => if zeroOk z then aNew O z.cells.toList else aAny O P ro op
   | none => aAny O P ro op
  | none => aAny O P ro op
 | .box _ x => aBox O x
 | .extract x i => aExt x i
 | .call { callee := .builtin .len, args, argTypes } =>
  match argTypes.toList, args.toList with
  | t :: _, x :: _ =>
   match P.underlying t with
   | some .string => aLenStr x
   | some (.slice _) => aLenSl x
   | _ => aAny O P ro op
  | _, _ => aAny O P ro op
 | .call { callee := .value (.func f), args, .. } => aCall f args.toList
 | .call { callee := .builtin .append, args, argTypes } =>
  match argTypes.toList, args.toList with
  | [t, u], [x, y] =>
   if t = u then
    match P.underlying t with
    | some (.slice e) => match P.info? e with
     | some i => if (i.zero.map fun z => z.cells.size) = some i.size then aApp O ro i.size i.bytes x y else aAny O P ro op
     | none => aAny O P ro op
    | _ => aAny O P ro op
   else aAny O P ro op
  | _, _ => aAny O P ro op
 | _ => aAny O P ro op
def stpOf (ops : Array Oper) (o : Oper) : StpT H :=
 let b : StpT H := match o.dst with
  | some d => to d (actOf O P ro o.op)
  | none => too (actOf O P ro o.op)
 match o.guard with
 | none => b
 | some (j, w) => match (ops[j]?).bind (·.dst), o.dst with
  | some k, some d => onlyIf k w d b
  | some k, none => onlyIfo k w b
  | none, some d => fun _ s => some (upd s.1 d undef, s.2)
  | none, none => fun _ s => some s
def codeOf : Code -> CodeT H
 | .skip => cSkip
 | .ret => cRet
 | .exit id => cExit id
 | .seq a b => cSeq (codeOf a) (codeOf b)
 | .cond c a b => cIf c (codeOf a) (codeOf b)
 | .block id a => cBlk id (codeOf a)
 | .loop a => cLoop (codeOf a)
 | .region _ ops _ => cReg (ops.toList.map (stpOf O P ro ops))
 | _ => fun _ _ _ => none
def bodyOf (fn : Func) : CodeT H :=
 match fn.body with
 | some c => codeOf O P ro c
 | none => fun _ _ _ => none
end
end Go.Vm
