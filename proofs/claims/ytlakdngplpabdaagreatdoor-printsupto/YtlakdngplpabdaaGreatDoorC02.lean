/- Own work. -/
import Derived.Test.YtlakdngplpabdaaGreatDoorC01
import Derived.Laws.Cells
import Derived.Deep.LoopGhost
import Derived.Laws.AppendOwn
namespace Go.Vm
open Go.RowKit
def opOk (G : Nat) (op : Op) : Bool := (opnds op).all (operOk G)
def maskOf (A : List Nat) (o : Oper) : Nat := o.after.toList.foldl (fun s e => if Region.binds .any e then s ||| 2 ^ e.on ||| A.getD e.on 0 else s) 0
theorem mask_bit_aux (A : List Nat) (x : Nat) : ∀ (l : List Edge) (s : Nat),
 (l.foldl (fun s e => if Region.binds .any e then s ||| 2 ^ e.on ||| A.getD e.on 0 else s) s).testBit x = true ->
 s.testBit x = true \/ ∃ e ∈ l, Region.binds .any e = true /\ (x = e.on \/ (A.getD e.on 0).testBit x = true) := by
 intro l
 induction l with
 | nil => intro s h; exact .inl h
 | cons e l ih =>
  intro s h
  rw [List.foldl_cons] at h
  rcases ih _ h with h | ⟨e', he', h⟩
  . split at h
    . rename_i hb
      simp only [Nat.testBit_or, Bool.or_eq_true] at h
      rcases h with (h | h) | h
      . exact .inl h
      . refine .inr ⟨e, by simp, hb, .inl ?_⟩
        rw [Nat.testBit_two_pow] at h
        simpa using (of_decide_eq_true h).symm
      . exact .inr ⟨e, by simp, hb, .inr h⟩
    . exact .inl h
  . exact .inr ⟨e', by simp [he'], h⟩
theorem mask_bit {A : List Nat} {o : Oper} {x : Nat} (h : (maskOf A o).testBit x = true) :
 ∃ e ∈ o.after.toList, Region.binds .any e = true /\ (x = e.on \/ (A.getD e.on 0).testBit x = true) := by
 rcases mask_bit_aux A x _ _ h with h | h
 . simp at h
 . exact h
def drawOk (ops : Array Oper) : Bool :=
 let A := (Region.before ops).toList
 ops.toList.zipIdx.all fun (o, i) =>
  (A.getD i 0 == maskOf A o) && (o.after.toList.all fun e => !Region.binds .any e || e.on < i) &&
  ((ops.toList.take i).zipIdx.all fun (x, j) => (A.getD i 0).testBit j || apart ops x o)
def regOk (G : Nat) (ops : Array Oper) (draw : Bool) : Bool := ops.toList.all (fun o => opOk G o.op) && (!draw || drawOk ops)
def codeOk (G : Nat) : Code -> Bool
 | .skip | .ret | .exit _ => true
 | .seq a b => codeOk G a && codeOk G b
 | .cond c a b => operOk G c && codeOk G a && codeOk G b
 | .block _ a | .loop a => codeOk G a
 | .region _ ops draw => regOk G ops draw
 | _ => false
section
variable {P : Program} {H : Type} {O : HI H} {G ro : Nat} {w0 : World} {call : FuncId -> List Value -> H -> Option (Value × H)}
def StepSim (P : Program) (O : HI H) (G ro : Nat) (w0 : World) (call : FuncId -> List Value -> H -> Option (Value × H)) : Prop :=
 ∀ (o : Oper) (t : Array Value) (a : Act) (h h' : H) (w : World) (β : List Place) (v : Value), opOk G o.op = true -> Rel O G ro w0 β h w -> TR β t a.tmps ->
  opA P O ro call (evalT t) o.op h = some (v, h') ->
  ∀ (K : Act -> World -> Prop) (Q : Exit -> Act -> World -> Prop), (∀ β' v' w', β <+: β' -> Rel O G ro w0 β' h' w' -> VR β' v v' -> K (a.put o.dst v') w') -> o.wp P a w K Q
def Ends (O : HI H) (G ro : Nat) (w0 : World) (β : List Place) (s : Array Value × H) (a : Act) (w : World) : Prop :=
 a.defers = [] /\ ∃ β', β <+: β' /\ Rel O G ro w0 β' s.2 w /\ TR β' s.1 a.tmps
theorem put_eq (a : Act) (d : Option Tmp) (v : Value) : (a.put d v).tmps = putT a.tmps d v /\ (a.put d v).defers = a.defers := by
 cases d <;> exact ⟨rfl, rfl⟩
theorem step_sim (hs : StepSim P O G ro w0 call) {ops : Array Oper} {i : Nat} {o : Oper} (ho : ops[i]? = some o) (hok : opOk G o.op = true) {s s' : Array Value × H} {a : Act} {w : World} {β : List Place}
 (hr : Rel O G ro w0 β s.2 w) (ht : TR β s.1 a.tmps) (hd : a.defers = []) (hst : stepA P O ro call ops i s = some s')
 {K : Act -> World -> Prop} {Q : Exit -> Act -> World -> Prop} (hK : ∀ a' w', Ends O G ro w0 β s' a' w' -> K a' w') : wpOp P ops Q i K a w := by
 unfold wpOp
 simp only [ho]
 simp only [stepA, ho] at hst
 rw [wanted_rel ht]
 split
 . rename_i hw
   rw [if_pos hw] at hst
   refine .inl ?_
   cases ha : opA P O ro call (evalT s.1) o.op s.2 with
   | none => rw [ha] at hst; simp at hst
   | some r =>
    obtain ⟨v, h'⟩ := r
    rw [ha] at hst
    simp only [Option.some.injEq] at hst
    subst hst
    refine hs o s.1 a s.2 h' w β v hok hr ht ha K Q fun β' v' w' hp hr' hv => hK _ _ ?_
    refine ⟨by rw [(put_eq a _ _).2]; exact hd, β', hp, hr', ?_⟩
    rw [(put_eq a _ _).1]
    exact (ht.mono hp).put hv _
 . rename_i hw
   rw [if_neg hw] at hst
   simp only [Option.some.injEq] at hst
   subst hst
   refine hK _ _ ⟨by rw [(put_eq a _ _).2]; exact hd, β, List.prefix_rfl, hr, ?_⟩
   rw [(put_eq a _ _).1]
   exact ht.put (VR.undef β) _
theorem ops_sim (hs : StepSim P O G ro w0 call) {ops : Array Oper} (hok : ∀ (i : Nat) (o : Oper), ops[i]? = some o -> opOk G o.op = true) {Q : Exit -> Act -> World -> Prop} {s' : Array Value × H} :
 ∀ (l : List Nat) (s : Array Value × H) (a : Act) (w : World) (β : List Place), Rel O G ro w0 β s.2 w -> TR β s.1 a.tmps -> a.defers = [] -> runA P O ro call ops l s = some s' ->
 (∀ a' w', Ends O G ro w0 β s' a' w' -> Q .normal a' w') -> wpOps P ops Q l a w := by
 intro l
 induction l with
 | nil =>
  intro s a w β hr ht hd h hQ
  simp only [runA, Option.some.injEq] at h
  subst h
  exact hQ _ _ ⟨hd, β, List.prefix_rfl, hr, ht⟩
 | cons i l ih =>
  intro s a w β hr ht hd h hQ
  rw [runA_cons] at h
  cases hst : stepA P O ro call ops i s with
  | none => rw [hst] at h; simp at h
  | some s1 =>
   rw [hst, Option.bind_some] at h
   rw [wpOps_cons]
   cases ho : ops[i]? with
   | none =>
    simp only [stepA, ho, Option.some.injEq] at hst
    subst hst
    unfold wpOp
    simp only [ho]
    exact ih _ _ _ _ hr ht hd h hQ
   | some o =>
    refine step_sim hs ho (hok i o ho) hr ht hd hst fun a' w' he => ?_
    obtain ⟨hd', β', hp, hr', ht'⟩ := he
    exact ih _ _ _ _ hr' ht' hd' h fun a'' w'' he' => by
     obtain ⟨hd'', β'', hp', hr'', ht''⟩ := he'
     exact hQ _ _ ⟨hd'', β'', hp.trans hp', hr'', ht''⟩
def rest (n : Nat) (listed : Array Bool) : List Nat := (List.range n).filter fun i => !listed.getD i true
theorem rest_split {n i : Nat} {listed : Array Bool} (hn : listed.size = n) (hi : i < n) (hl : listed.getD i true = false) :
 ∃ pre post, rest n listed = pre ++ i :: post /\ rest n (listed.setIfInBounds i true) = pre ++ post /\ ∀ j ∈ pre, j < i /\ listed.getD j true = false := by
 have e : List.range n = List.range i ++ i :: (List.range (n - i - 1)).map (· + (i + 1)) := by
  apply List.ext_getElem
  . simp; omega
  . intro k h1 h2
    simp only [List.getElem_range, List.getElem_append, List.length_range]
    split
    . rfl
    . rename_i hk
      have : k - i = 0 \/ ∃ m, k - i = m + 1 := by rcases hh : k - i with _ | m; exact .inl rfl; exact .inr ⟨m, rfl⟩
      rcases this with h0 | ⟨m, hm⟩
      . simp only [h0, List.getElem_cons_zero]; omega
      . simp only [hm, List.getElem_cons_succ, List.getElem_map, List.getElem_range]; omega
 have hset : ∀ j, (listed.setIfInBounds i true).getD j true = if j = i then true else listed.getD j true := by
  intro j
  simp only [Array.getD_eq_getD_getElem?, Array.getElem?_setIfInBounds]
  by_cases c : i = j
  . subst c; simp [hn, hi]
  . rw [if_neg c, if_neg (fun h => c h.symm)]
 refine ⟨(List.range i).filter fun j => !listed.getD j true, ((List.range (n - i - 1)).map (· + (i + 1))).filter fun j => !listed.getD j true, ?_, ?_, ?_⟩
 . rw [rest, e, List.filter_append, List.filter_cons, if_pos (by simp [hl])]
 . rw [rest, e, List.filter_append, List.filter_cons, if_neg (by simp [hset])]
   congr 1
   . apply List.filter_congr
     intro j hj
     rw [hset, if_neg]
     have := List.mem_range.1 hj; omega
   . apply List.filter_congr
     intro j hj
     rw [hset, if_neg]
     obtain ⟨m, _, rfl⟩ := List.mem_map.1 hj; omega
 . intro j hj
   rw [List.mem_filter] at hj
   exact ⟨List.mem_range.1 hj.1, by simpa using hj.2⟩
theorem any_sim (L : O.Law) (hs : StepSim P O G ro w0 call) {ops : Array Oper} (hok : ∀ (i : Nat) (o : Oper), ops[i]? = some o -> opOk G o.op = true) (hdr : drawOk ops = true) {Q : Exit -> Act -> World -> Prop} {s' : Array Value × H} :
 ∀ (fuel : Nat) (listed : Array Bool) (s : Array Value × H) (a : Act) (w : World) (β : List Place), listed.size = ops.size -> (rest ops.size listed).length = fuel ->
 (∀ j, listed.getD j true = true -> j < ops.size -> ∀ x, ((Region.before ops).toList.getD j 0).testBit x = true -> listed.getD x true = true) ->
 Rel O G ro w0 β s.2 w -> TR β s.1 a.tmps -> a.defers = [] -> runA P O ro call ops (rest ops.size listed) s = some s' ->
 (∀ a' w', Ends O G ro w0 β s' a' w' -> Q .normal a' w') -> wpAny P .any ops Q fuel listed a w := by
 have facts : ∀ (i : Nat) o, ops[i]? = some o -> (Region.before ops).toList.getD i 0 = maskOf (Region.before ops).toList o /\ (∀ e ∈ o.after.toList, Region.binds .any e = true -> e.on < i) /\
  ∀ (j : Nat) x, j < i -> ops[j]? = some x -> ((Region.before ops).toList.getD i 0).testBit j = true \/ apart ops x o = true := by
  intro i o ho
  have hm : (o, i) ∈ ops.toList.zipIdx := by
   rw [List.mem_zipIdx_iff_getElem?]; simpa using ho
  have h := List.all_eq_true.1 hdr _ hm
  simp only [Bool.and_eq_true, beq_iff_eq] at h
  obtain ⟨⟨h1, h2⟩, h3⟩ := h
  refine ⟨h1, fun e he hb => ?_, fun j x hj hx => ?_⟩
  . have := List.all_eq_true.1 h2 e he
    simpa [hb] using this
  . have hm' : (x, j) ∈ (ops.toList.take i).zipIdx := by
     rw [List.mem_zipIdx_iff_getElem?]
     simp only [List.getElem?_take, hj, if_true]
     simpa using hx
    have := List.all_eq_true.1 h3 _ hm'
    simpa using this
 intro fuel
 induction fuel with
 | zero =>
  intro listed s a w β hsz hlen hcl hr ht hd hrun hQ
  have h0 : rest ops.size listed = [] := List.length_eq_zero_iff.1 hlen
  refine ⟨?_, ?_⟩
  . unfold Region.ready
    rw [List.filter_eq_nil_iff]
    intro i hi hc
    have : i ∈ rest ops.size listed := by
     rw [rest, List.mem_filter]
     simp only [Bool.and_eq_true] at hc
     exact ⟨hi, hc.1⟩
    rw [h0] at this
    simp at this
  . rw [h0] at hrun
    simp only [runA, Option.some.injEq] at hrun
    subst hrun
    exact hQ _ _ ⟨hd, β, List.prefix_rfl, hr, ht⟩
 | succ fuel ih =>
  intro listed s a w β hsz hlen hcl hr ht hd hrun hQ
  refine ⟨fun hready => ?_, fun i hi => ?_⟩
  ·
   exfalso
   cases hl : rest ops.size listed with
   | nil => rw [hl] at hlen; simp at hlen
   | cons i r =>
    have hi : i ∈ rest ops.size listed := by rw [hl]; simp
    rw [rest, List.mem_filter] at hi
    obtain ⟨hi1, hi2⟩ := hi
    have hi1' := List.mem_range.1 hi1
    have ho : ops[i]? = some ops[i] := Array.getElem?_eq_getElem hi1'
    obtain ⟨_, hlt, _⟩ := facts i _ ho
    have hmem : i ∈ Region.ready .any ops listed := by
     unfold Region.ready
     rw [List.mem_filter]
     refine ⟨hi1, ?_⟩
     simp only [Bool.and_eq_true]
     refine ⟨hi2, ?_⟩
     rw [ho]
     simp only [Option.map_some, Option.getD_some]
     rw [Array.all_eq_true_iff_forall_mem]
     intro e he
     cases hb : Region.binds .any e with
     | false => rfl
     | true =>
      simp only [Bool.not_true, Bool.false_or]
      have he' : e.on < i := hlt e (by simpa using he) hb
      cases hlst : listed.getD e.on true with
      | true =>
       rw [Array.getD_eq_getD_getElem?] at hlst ⊢
       have : e.on < listed.size := by omega
       simpa [this] using hlst
      | false =>
       exfalso
       obtain ⟨pre, post, hsplit, _, hpre⟩ := rest_split hsz hi1' (by simpa using hi2)
       obtain ⟨pre2, post2, hsplit2, _, hpre2⟩ := rest_split hsz (i := e.on) (by omega) hlst
       rw [hl] at hsplit hsplit2
       cases pre2 with
       | nil => simp at hsplit2; omega
       | cons k pre2 =>
        simp at hsplit2
        have := (hpre2 k (by simp)).1
        omega
    rw [hready] at hmem
    simp at hmem
  . unfold Region.ready at hi
    rw [List.mem_filter] at hi
    obtain ⟨hi1, hi2⟩ := hi
    have hi1' := List.mem_range.1 hi1
    have ho : ops[i]? = some ops[i] := Array.getElem?_eq_getElem hi1'
    generalize ops[i] = o at ho
    simp only [Bool.and_eq_true, ho, Option.map_some, Option.getD_some] at hi2
    obtain ⟨hl1, hl2⟩ := hi2
    have hl1' : listed.getD i true = false := by simpa using hl1
    obtain ⟨hmask, hlt, hap⟩ := facts i o ho
    have hanc : ∀ x, ((Region.before ops).toList.getD i 0).testBit x = true -> listed.getD x true = true := by
     intro x hx
     rw [hmask] at hx
     obtain ⟨e, he, hb, hor⟩ := mask_bit hx
     have hon : listed.getD e.on true = true := by
      have := Array.all_eq_true_iff_forall_mem.1 hl2 e (by simpa using he)
      simp only [hb, Bool.not_true, Bool.false_or] at this
      rw [Array.getD_eq_getD_getElem?] at this ⊢
      cases hq : listed[e.on]? with
      | none => rfl
      | some b => rw [hq] at this; simpa using this
     rcases hor with rfl | hx'
     . exact hon
     . exact hcl e.on hon (by have := hlt e he hb; omega) x hx'
    obtain ⟨pre, post, hsplit, hnext, hpre⟩ := rest_split hsz hi1' hl1'
    have hapart : ∀ j ∈ pre, ∃ x, ops[j]? = some x /\ apart ops x o = true := by
     intro j hj
     obtain ⟨hji, hjl⟩ := hpre j hj
     have hoj : ops[j]? = some (ops[j]'(by omega)) := Array.getElem?_eq_getElem _
     refine ⟨_, hoj, ?_⟩
     rcases hap j _ hji hoj with h | h
     . rw [hanc j h] at hjl; simp at hjl
     . exact h
    rw [hsplit] at hrun
    have hrun := run_front L ho _ _ hapart _ _ hrun
    . rw [runA_cons] at hrun
      cases hst : stepA P O ro call ops i s with
      | none => rw [hst] at hrun; simp at hrun
      | some s1 =>
       rw [hst, Option.bind_some] at hrun
       refine step_sim hs ho (hok i o ho) hr ht hd hst fun a' w' he => ?_
       obtain ⟨hd', β', hp, hr', ht'⟩ := he
       refine ih _ s1 a' w' β' (by simp [hsz]) ?_ ?_ hr' ht' hd' (by rw [hnext]; exact hrun) fun a'' w'' he' => ?_
       . rw [hnext]
         rw [hsplit] at hlen
         simp at hlen ⊢
         omega
       . intro j hj hjn x hx
         have hg : ∀ y, (listed.setIfInBounds i true).getD y true = if y = i then true else listed.getD y true := by
          intro y
          simp only [Array.getD_eq_getD_getElem?, Array.getElem?_setIfInBounds]
          by_cases c : i = y
          . subst c; simp [hsz, hi1']
          . rw [if_neg c, if_neg (fun h => c h.symm)]
         rw [hg] at hj ⊢
         split
         . rfl
         . by_cases c : j = i
           . subst c; exact hanc x hx
           . rw [if_neg c] at hj; exact hcl j hj hjn x hx
       . obtain ⟨hd'', β'', hp', hr'', ht''⟩ := he'
         exact hQ _ _ ⟨hd'', β'', hp.trans hp', hr'', ht''⟩
theorem region_sim (L : O.Law) (hs : StepSim P O G ro w0 call) (hmix : P.follows .mixedOrders = true) {id : Nat} {ops : Array Oper} {draw : Bool} (hok : regOk G ops draw = true) {s s' : Array Value × H} {a : Act} {w : World} {β : List Place}
 (hr : Rel O G ro w0 β s.2 w) (ht : TR β s.1 a.tmps) (hd : a.defers = []) (hrun : runA P O ro call ops (List.range ops.size) s = some s')
 {Q : Exit -> Act -> World -> Prop} (hQ : ∀ a' w', Ends O G ro w0 β s' a' w' -> Q .normal a' w') : (Code.region id ops draw).wp P Q a w := by
 simp only [regOk, Bool.and_eq_true, Bool.or_eq_true, Bool.not_eq_true'] at hok
 obtain ⟨h1, h2⟩ := hok
 have hall : ∀ (i : Nat) o, ops[i]? = some o -> opOk G o.op = true := fun i o ho => List.all_eq_true.1 h1 o (by
  obtain ⟨hl, rfl⟩ := Array.getElem?_eq_some_iff.1 ho
  simp)
 cases draw with
 | false => exact wp_region (ops_sim hs hall _ s a w β hr ht hd hrun hQ)
 | true =>
  rcases h2 with h2 | h2
  . cases h2
  . have e : rest ops.size (Array.replicate ops.size false) = List.range ops.size := by
     unfold rest
     rw [List.filter_eq_self]
     intro j hj
     have := List.mem_range.1 hj
     simp [Array.getD_eq_getD_getElem?, this]
    refine wp_region_any hmix (any_sim L hs hall h2 ops.size (Array.replicate ops.size false) s a _ β (by simp) (by rw [e]; simp) ?_ hr.drew ht hd (by rw [e]; exact hrun) hQ)
    intro j hj hjn
    simp [Array.getD_eq_getD_getElem?, hjn] at hj
end
end Go.Vm
namespace Go.Vm
open Go.RowKit
set_option linter.unusedSimpArgs false
section
variable {P : Program} {H : Type} {O : HI H} {G ro : Nat} {w0 : World}
theorem addr_add (b o n : Nat) : (⟨b, o, none⟩ : Addr).add n = ⟨b, o + n, none⟩ := by
 unfold Addr.add
 split
 . rename_i h; subst h; rfl
 . rfl
theorem cell_of_heap {w : World} {b o : Nat} {c : Array Value} {e : TypeId} {fz : Nat × Nat} (h : w.heap[b]? = some (.cells c e fz)) : w.cell? ⟨b, o, none⟩ = c[o]? := by
 simp [World.cell?, h]
theorem Rel.cell {β : List Place} {h : H} {w : World} (r : Rel O G ro w0 β h w) {b o : Nat} {p : Place} (hp : β[b]? = some p) {v : Value} (hc : O.cell h b o = some v) :
 ∃ v', w.cell? ⟨p.blk, p.off + o, none⟩ = some v' /\ SR β v v' := by
 obtain ⟨c, e, fz, hh, _, _, hcell⟩ := r.cells b p hp
 obtain ⟨v', h1, h2⟩ := hcell o v hc
 exact ⟨v', by rw [cell_of_heap hh]; exact h1, h2⟩
theorem Rel.cellsA {β : List Place} {h : H} {w : World} (r : Rel O G ro w0 β h w) {b : Nat} {p : Place} (hp : β[b]? = some p) : ∀ (n o : Nat) (l : List Value), cellsA O h b o n = some l ->
 ∃ l', LR (SR β) l l' /\ l.length = n /\ ∀ (j : Nat) v', l'[j]? = some v' -> w.cell? ⟨p.blk, p.off + o + j, none⟩ = some v' := by
 intro n
 induction n with
 | zero => intro o l hl; simp [Vm.cellsA] at hl; subst hl; exact ⟨[], LR.nil _, rfl, fun j v' h => by simp at h⟩
 | succ n ih =>
  intro o l hl
  simp only [Vm.cellsA] at hl
  cases h1 : O.cell h b o with
  | none => rw [h1] at hl; simp at hl
  | some v =>
   cases h2 : Vm.cellsA O h b (o + 1) n with
   | none => rw [h1, h2] at hl; simp at hl
   | some t =>
    rw [h1, h2] at hl
    simp at hl
    subst hl
    obtain ⟨v', hv', hs⟩ := r.cell hp h1
    obtain ⟨l', hl', hn, hc⟩ := ih _ _ h2
    refine ⟨v' :: l', LR.cons hs hl', by simp [hn], fun j x hx => ?_⟩
    cases j with
    | zero => simp at hx; subst hx; simpa using hv'
    | succ j =>
     have := hc j x (by simpa using hx)
     rw [show p.off + o + (j + 1) = p.off + (o + 1) + j by omega]
     exact this
theorem VR.ptr {β : List Place} {a : Addr} {v' : Value} (h : VR β (.pointer (some a)) v') : ∃ p, β[a.block]? = some p /\ v' = .pointer (some ⟨p.blk, p.off + a.off, none⟩) := h
theorem load_sim {β : List Place} {h : H} {w : World} (r : Rel O G ro w0 β h w) {t : TypeId} {a : Value} {v a' : Value} (hl : loadA P O t a h = some v) (ha : VR β a a') :
 ∃ ad v', a' = .pointer (some ad) /\ (loadVar t ad).run P w = .ok v' w /\ CR β v v' := by
 unfold loadA at hl
 cases a with
 | pointer a =>
  cases a with
  | none => simp at hl
  | some a =>
   obtain ⟨p, hp, rfl⟩ := VR.ptr ha
   simp only at hl
   have multi : ∀ i, P.info? t = some i -> (∃ fs, P.underlying t = some (.struct fs)) \/ (∃ n e, P.underlying t = some (.array n e)) -> (Vm.cellsA O h a.block a.off i.size).map (fun l => Value.agg l.toArray) = some v ->
    ∃ ad v', Value.pointer (some ⟨p.blk, p.off + a.off, none⟩) = .pointer (some ad) /\ (loadVar t ad).run P w = .ok v' w /\ CR β v v' := by
    intro i hi hu hm
    cases hc : Vm.cellsA O h a.block a.off i.size with
    | none => rw [hc] at hm; simp at hm
    | some l =>
     rw [hc] at hm
     simp at hm
     subst hm
     obtain ⟨l', hl', hn, hcell⟩ := r.cellsA hp _ _ _ hc
     refine ⟨_, .agg l'.toArray, rfl, ?_, ⟨l'.toArray, rfl, by simpa using hl'⟩⟩
     have hlen : l'.length = i.size := by rw [hl'.1, hn]
     have hrun := run_loadCells_list (P := P) w ⟨p.blk, p.off + a.off, none⟩ l' (fun j v hv => by rw [addr_add]; exact hcell j v hv)
     rcases hu with ⟨fs, hu⟩ | ⟨n, e, hu⟩ <;>
     . simp only [loadVar, isAgg, underlying, program, sizeOf, typeInfo, Sem.run_bind, Sem.run, hu, hi, Sem.run_pure, Sem.run_pure', Result.andThen_ok, if_true]
       rw [<- hlen, hrun]
       rfl
   cases hu : P.underlying t with
   | none => rw [hu] at hl; simp at hl
   | some d =>
    cases hi : P.info? t with
    | none => rw [hu, hi] at hl; cases d <;> simp at hl
    | some i =>
     rw [hu, hi] at hl
     cases d with
     | struct fs => exact multi i hi (.inl ⟨fs, hu⟩) hl
     | array n e => exact multi i hi (.inr ⟨n, e, hu⟩) hl
     | _ =>
      simp only at hl
      obtain ⟨v', hv', hs⟩ := r.cell hp hl
      refine ⟨_, v', rfl, ?_, hs.toCR⟩
      simp [loadVar, isAgg, underlying, program, Sem.run, hu, hv']
 | _ => simp at hl
def CallSim (P : Program) (O : HI H) (G ro : Nat) (w0 : World) (call : FuncId -> List Value -> H -> Option (Value × H)) : Prop :=
 ∀ (f : FuncId) (args args' : List Value) (h h' : H) (w : World) (β : List Place) (v : Value), Rel O G ro w0 β h w -> LR (VR β) args args' -> call f args h = some (v, h') ->
  (∃ fn c, P.funcs[f]? = some fn /\ fn.body = some c /\ (fn.name == "runtime.NumGoroutine") = false) /\
  Calls P f args'.toArray w fun e w' => ∃ v' β', e = .returned v' /\ β <+: β' /\ Rel O G ro w0 β' h' w' /\ VR β' v v'
theorem VR.toCR {β : List Place} {v v' : Value} (h : VR β v v') (ht : isTup v = false) : CR β v v' := by
 rcases VR_or v with ⟨cs, rfl⟩ | e
 . simp [isTup] at ht
 . rw [e] at h; exact h
def rvM (t' : Array Value) (rv : ResultVar) : Sem Value :=
 match rv with
 | .tmp a => pure (t'.getD a undef)
 | .cell a ty => do loadVar ty (<- asAddr (t'.getD a undef))
theorem results_eq (fn : Func) (t' : Array Value) : results fn t' = (do let vs <- fn.results.mapM (rvM t'); pure (if h : vs.size = 1 then vs[0] else .tuple vs)) := by
 unfold results
 congr 1
theorem resL_sim {β : List Place} {h : H} {w : World} (r : Rel O G ro w0 β h w) {t t' : Array Value} (ht : TR β t t') : ∀ (l : List ResultVar) (vs : List Value), resL P O t h l = some vs ->
 ∃ vs', (l.mapM (rvM t')).run P w = .ok vs' w /\ LR (CR β) vs vs' := by
 intro l
 induction l with
 | nil => intro vs h; simp [resL] at h; subst h; exact ⟨[], rfl, LR.nil _⟩
 | cons rv l ih =>
  intro vs hv
  simp only [resL] at hv
  cases h1 : rvA P O rv t h with
  | none => rw [h1] at hv; simp at hv
  | some v =>
   cases h2 : resL P O t h l with
   | none => rw [h1, h2] at hv; simp at hv
   | some us =>
    rw [h1, h2] at hv
    simp only at hv
    split at hv
    . simp at hv
    . rename_i htup
      simp at hv
      subst hv
      obtain ⟨us', hrun, hus⟩ := ih us h2
      have htup' : isTup v = false := by simpa using htup
      cases rv with
      | tmp a =>
       simp only [rvA, Option.some.injEq] at h1
       subst h1
       refine ⟨t'.getD a undef :: us', ?_, LR.cons ((ht.2 a).toCR htup') hus⟩
       rw [List.mapM_cons]
       simp only [rvM, Sem.run_bind, Sem.run_pure, Result.andThen_ok, hrun]
      | cell a ty =>
       simp only [rvA] at h1
       obtain ⟨ad, x', e, hl, hc⟩ := load_sim r h1 (ht.2 a)
       refine ⟨x' :: us', ?_, LR.cons hc hus⟩
       rw [List.mapM_cons]
       have hx : (rvM t' (.cell a ty)).run P w = .ok x' w := by simp only [rvM, Sem.run_bind, e, asAddr, Sem.run_pure, Result.andThen_ok, hl]
       simp only [Sem.run_bind, hx, Sem.run_pure, Result.andThen_ok, hrun]
theorem res_sim {β : List Place} {h : H} {w : World} (r : Rel O G ro w0 β h w) {fn : Func} {t t' : Array Value} {v : Value} (ht : TR β t t') (hv : resA P O fn t h = some v) :
 ∃ v', (results fn t').run P w = .ok v' w /\ VR β v v' := by
 unfold resA at hv
 cases hl : resL P O t h fn.results.toList with
 | none => rw [hl] at hv; simp at hv
 | some vs =>
  obtain ⟨vs', hrun, hvs⟩ := resL_sim r ht _ _ hl
  have hres : (results fn t').run P w = .ok (if h : vs'.toArray.size = 1 then vs'.toArray[0] else .tuple vs'.toArray) w := by
   rw [results_eq, Array.mapM_eq_mapM_toList]
   simp only [Sem.run_bind, Sem.run_map, hrun, Result.andThen_ok, Sem.run_pure]
  rw [hres]
  rw [hl] at hv
  cases vs with
  | nil =>
   have e := LR.nil_inv hvs
   subst e
   simp at hv
   subst hv
   exact ⟨_, rfl, ⟨#[], rfl, LR.nil _⟩⟩
  | cons x xs =>
   obtain ⟨y, ys, rfl, hxy, hys⟩ := LR.cons_inv hvs
   cases xs with
   | nil =>
    have e := LR.nil_inv hys
    subst e
    simp at hv
    subst hv
    exact ⟨_, rfl, hxy.toVR⟩
   | cons x2 xs =>
    obtain ⟨y2, ys2, rfl, _, _⟩ := LR.cons_inv hys
    simp at hv
    subst hv
    exact ⟨_, rfl, ⟨_, rfl, by simpa using hvs⟩⟩
def FunOk (P : Program) (G : Nat) (f : FuncId) : Prop := ∃ fn c, P.funcs[f]? = some fn /\ fn.body = some c /\ codeOk G c = true /\ (fn.name == "runtime.NumGoroutine") = false
def CodeSim (P : Program) (O : HI H) (G ro : Nat) (w0 : World) (ok : FuncId -> Bool) (n : Nat) : Prop :=
 ∀ (c : Code) (s s' : Array Value × H) (e : Exit) (a : Act) (w : World) (β : List Place), codeOk G c = true -> Rel O G ro w0 β s.2 w -> TR β s.1 a.tmps -> a.defers = [] ->
  codeA P O ro ok n c s = some (e, s') -> c.wp P (fun e' a' w' => e' = e /\ Ends O G ro w0 β s' a' w') a w
theorem enter_rel {β : List Place} {args args' : List Value} (h : LR (VR β) args args') (n : Nat) :
 TR β (args.toArray ++ Array.replicate (n - args.length) undef) (args'.toArray ++ Array.replicate (n - args'.toArray.size) undef) := by
 have hl := h.1
 refine ⟨by simp [hl], fun i => ?_⟩
 simp only [Array.getD_eq_getD_getElem?]
 by_cases c : i < args.length
 . have c' : i < args'.length := by omega
   rw [Array.getElem?_append_left (by simpa using c), Array.getElem?_append_left (by simpa using c')]
   obtain ⟨y, hy, r⟩ := h.2 i args[i] (List.getElem?_eq_getElem c)
   simp only [List.getElem?_toArray, List.getElem?_eq_getElem c, hy, Option.getD_some]
   exact r
 . rw [Array.getElem?_append_right (by simpa using c), Array.getElem?_append_right (by simp; omega)]
   simp only [Array.getElem?_replicate, List.size_toArray, hl]
   split <;> exact VR.undef β
theorem call_sim {ok : FuncId -> Bool} (hfun : ∀ f, ok f = true -> FunOk P G f) {n : Nat} (hc : CodeSim P O G ro w0 ok n) : CallSim P O G ro w0 (callA P O ro ok n) := by
 intro f args args' h h' w β v hr hargs hcall
 unfold callA at hcall
 split at hcall
 . rename_i hok
   obtain ⟨fn, c, hf, hb, hcok, hname⟩ := hfun f hok
   simp only [hf, hb] at hcall
   refine ⟨⟨fn, c, hf, hb, hname⟩, ?_⟩
   refine calls_of_wp hf hb ?_
   have ht := enter_rel hargs fn.ntmps
   cases hcode : codeA P O ro ok n c (args.toArray ++ Array.replicate (fn.ntmps - args.length) undef, h) with
   | none => rw [hcode] at hcall; simp at hcall
   | some r =>
    obtain ⟨e, t, h1⟩ := r
    have hwp := hc c _ _ _ { tmps := args'.toArray ++ Array.replicate (fn.ntmps - args'.toArray.size) undef, defers := [] } w β hcok hr ht rfl hcode
    have fin : (e = .normal \/ e = .ret) /\ (resA P O fn t h1).map (fun v => (v, h1)) = some (v, h') := by
     rw [hcode] at hcall
     cases e <;> first | (simp at hcall; done) | exact ⟨.inl rfl, hcall⟩ | exact ⟨.inr rfl, hcall⟩
    obtain ⟨he, hres⟩ := fin
    refine wp_mono hwp fun e' a' w' hq => ?_
    obtain ⟨rfl, hd, β', hp, hr', ht'⟩ := hq
    cases hv : resA P O fn t h1 with
    | none => rw [hv] at hres; simp at hres
    | some u =>
     rw [hv] at hres
     simp at hres
     obtain ⟨rfl, rfl⟩ := hres
     obtain ⟨v', hrun, hvr⟩ := res_sim hr' ht' hv
     rcases he with rfl | rfl <;> exact ⟨hd, v', hrun, v', β', rfl, hp, hr', hvr⟩
 . simp at hcall
theorem code_sim (L : O.Law) {ok : FuncId -> Bool} (hmix : P.follows .mixedOrders = true) (hfun : ∀ f, ok f = true -> FunOk P G f)
 (hstep : ∀ call, CallSim P O G ro w0 call -> StepSim P O G ro w0 call) : ∀ n, CodeSim P O G ro w0 ok n := by
 intro n
 induction n using Nat.strongRecOn with
 | _ n0 ih0 =>
  cases n0 with
  | zero => intro c s s' e a w β _ _ _ _ h; simp [codeA] at h
  | succ n =>
   have ih := ih0 n (Nat.lt_succ_self n)
   intro c s s' e a w β hok hr ht hd h
   cases c with
   | skip =>
    simp only [codeA, Option.some.injEq, Prod.mk.injEq] at h
    obtain ⟨rfl, rfl⟩ := h
    exact wp_skip ⟨rfl, hd, β, List.prefix_rfl, hr, ht⟩
   | ret =>
    simp only [codeA, Option.some.injEq, Prod.mk.injEq] at h
    obtain ⟨rfl, rfl⟩ := h
    exact wp_ret ⟨rfl, hd, β, List.prefix_rfl, hr, ht⟩
   | exit id =>
    simp only [codeA, Option.some.injEq, Prod.mk.injEq] at h
    obtain ⟨rfl, rfl⟩ := h
    exact wp_exit ⟨rfl, hd, β, List.prefix_rfl, hr, ht⟩
   | seq x y =>
    simp only [codeOk, Bool.and_eq_true] at hok
    simp only [codeA] at h
    cases hx : codeA P O ro ok n x s with
    | none => rw [hx] at h; simp at h
    | some r =>
     obtain ⟨e1, s1⟩ := r
     rw [hx] at h
     refine wp_seq (wp_mono (ih x s s1 e1 a w β hok.1 hr ht hd hx) fun e' a' w' hq => ?_)
     obtain ⟨rfl, hd', β', hp, hr', ht'⟩ := hq
     cases e' with
     | normal =>
      refine wp_mono (ih y s1 s' e a' w' β' hok.2 hr' ht' hd' h) fun e'' a'' w'' hq' => ?_
      obtain ⟨he, hd'', β'', hp', hr'', ht''⟩ := hq'
      exact ⟨he, hd'', β'', hp.trans hp', hr'', ht''⟩
     | _ =>
      simp only [Option.some.injEq, Prod.mk.injEq] at h
      obtain ⟨rfl, rfl⟩ := h
      exact ⟨rfl, hd', β', hp, hr', ht'⟩
   | cond o x y =>
    simp only [codeOk, Bool.and_eq_true] at hok
    simp only [codeA] at h
    have ho := evalT_rel hr ht hok.1.1
    cases hv : evalT s.1 o with
    | bool b =>
     rw [hv] at h ho
     have hb : a.eval o = .bool b := ho
     cases b with
     | true => exact wp_cond_true hb (ih x s s' e a w β hok.1.2 hr ht hd h)
     | false => exact wp_cond_false hb (ih y s s' e a w β hok.2 hr ht hd h)
    | _ => rw [hv] at h; simp at h
   | block id x =>
    simp only [codeOk] at hok
    simp only [codeA] at h
    cases hx : codeA P O ro ok n x s with
    | none => rw [hx] at h; simp at h
    | some r =>
     obtain ⟨e1, s1⟩ := r
     rw [hx] at h
     refine wp_block (wp_mono (ih x s s1 e1 a w β hok hr ht hd hx) fun e' a' w' hq => ?_)
     obtain ⟨rfl, hends⟩ := hq
     cases e' with
     | exit id' =>
      simp only [Option.some.injEq] at h
      simp only [Exit.inBlock]
      split
      . rename_i hid
        rw [if_pos hid] at h
        simp only [Prod.mk.injEq] at h
        obtain ⟨rfl, rfl⟩ := h
        exact ⟨rfl, hends⟩
      . rename_i hid
        rw [if_neg hid] at h
        simp only [Prod.mk.injEq] at h
        obtain ⟨rfl, rfl⟩ := h
        exact ⟨rfl, hends⟩
     | _ =>
      simp only [Option.some.injEq, Prod.mk.injEq] at h
      obtain ⟨rfl, rfl⟩ := h
      exact ⟨rfl, hends⟩
   | loop x =>
    simp only [codeOk] at hok
    refine wp_loop_ghost (fun k a w => k <= n + 1 /\ ∃ s1 β1, β <+: β1 /\ Rel O G ro w0 β1 s1.2 w /\ TR β1 s1.1 a.tmps /\ a.defers = [] /\ codeA P O ro ok k (.loop x) s1 = some (e, s')) (n + 1)
     ⟨Nat.le_refl _, s, β, List.prefix_rfl, hr, ht, hd, h⟩ ?_
    intro k a1 w1 hI
    obtain ⟨hk, s1, β1, hp1, hr1, ht1, hd1, h1⟩ := hI
    cases k with
    | zero => simp [codeA] at h1
    | succ k =>
     simp only [codeA] at h1
     cases hx : codeA P O ro ok k x s1 with
     | none => rw [hx] at h1; simp at h1
     | some r =>
      obtain ⟨e2, s2⟩ := r
      rw [hx] at h1
      refine wp_mono (ih0 k (by omega) x s1 s2 e2 a1 w1 β1 hok hr1 ht1 hd1 hx) fun e' a' w' hq => ?_
      obtain ⟨rfl, hd', β', hp, hr', ht'⟩ := hq
      cases e' with
      | normal => exact ⟨k, Nat.lt_succ_self k, by omega, s2, β', hp1.trans hp, hr', ht', hd', h1⟩
      | _ =>
       simp only [Option.some.injEq, Prod.mk.injEq] at h1
       obtain ⟨rfl, rfl⟩ := h1
       exact ⟨rfl, hd', β', hp1.trans hp, hr', ht'⟩
   | region id ops draw =>
    simp only [codeOk] at hok
    have hst := hstep _ (call_sim hfun ih)
    have h' : (runA P O ro (callA P O ro ok n) ops (List.range ops.size) s).map (fun s' => (Exit.normal, s')) = some (e, s') := h
    cases hrun : runA P O ro (callA P O ro ok n) ops (List.range ops.size) s with
    | none => rw [hrun] at h'; simp at h'
    | some s1 =>
     rw [hrun] at h'
     simp only [Option.map_some, Option.some.injEq, Prod.mk.injEq] at h'
     obtain ⟨rfl, rfl⟩ := h'
     exact region_sim L hst hmix hok hr ht hd hrun fun a' w' he => ⟨rfl, he⟩
   | _ => simp [codeA] at h
end
section
variable {P : Program} {H : Type} {O : HI H} {G ro : Nat} {w0 : World}
theorem Rel.blk_lt {β : List Place} {h : H} {w : World} (r : Rel O G ro w0 β h w) {b : Nat} {p : Place} (hp : β[b]? = some p) : p.blk < w.heap.size := by
 obtain ⟨c, e, fz, hh, _⟩ := r.cells b p hp
 exact (Array.getElem?_eq_some_iff.1 hh).1
theorem place_snoc {β : List Place} {q : Place} {b : Nat} {p : Place} (h : (β ++ [q])[b]? = some p) : (β[b]? = some p /\ b < β.length) \/ (b = β.length /\ p = q) := by
 by_cases c : b < β.length
 . rw [List.getElem?_append_left c] at h; exact .inl ⟨h, c⟩
 . rw [List.getElem?_append_right (by omega)] at h
   have : b - β.length = 0 := by
    rcases hk : b - β.length with _ | k
    . rfl
    . rw [hk] at h; simp at h
   rw [this] at h
   simp at h
   exact .inr ⟨by omega, h.symm⟩
theorem Rel.alloc (L : O.Law) {β : List Place} {h : H} {w : World} (r : Rel O G ro w0 β h w) {cs cs' : List Value} (more : List Value) (hcs : LR (SR β) cs cs') (elem : TypeId) :
 Rel O G ro w0 (β ++ [⟨w.heap.size, 0, (cs' ++ more).length⟩]) (O.new h cs) (w.alloc (.cells (cs' ++ more).toArray elem)) := by
 have hpre : β <+: β ++ [⟨w.heap.size, 0, (cs' ++ more).length⟩] := List.prefix_append _ _
 have hl := r.len
 refine ⟨by simp [hl, L.next_new], r.below.alloc r.below.size _, ?_, ?_, ?_, ?_, by rw [L.next_new]; have := r.ro_le; omega⟩
 . intro g hg
   obtain ⟨p, hp, rest⟩ := r.glob g hg
   exact ⟨p, by rw [List.getElem?_append_left (List.getElem?_eq_some_iff.1 hp).1]; exact hp, rest⟩
 . intro b p hp hro
   rcases place_snoc hp with ⟨hp, _⟩ | ⟨_, rfl⟩
   . exact r.own b p hp hro
   . exact r.below.size
 . intro b p hp
   rcases place_snoc hp with ⟨hp, hb⟩ | ⟨hb, rfl⟩
   . obtain ⟨c, e, fz, hh, hs, hf, hc⟩ := r.cells b p hp
     refine ⟨c, e, fz, ?_, hs, hf, fun o v hv => ?_⟩
     . rw [Below.heap_alloc _ _ _ (r.blk_lt hp)]; exact hh
     . rw [L.cell_new, if_neg (by omega)] at hv
       obtain ⟨v', h1, h2⟩ := hc o v hv
       exact ⟨v', h1, h2.mono hpre⟩
   . refine ⟨(cs' ++ more).toArray, elem, (0, 0), ?_, by simp, fun _ => rfl, fun o v hv => ?_⟩
     . show (w.heap.push _)[w.heap.size]? = _
       simp
     . rw [L.cell_new, if_pos (by omega)] at hv
       obtain ⟨v', h1, h2⟩ := hcs.2 o v hv
       refine ⟨v', ?_, h2.mono hpre⟩
       simp only [Nat.zero_add, List.getElem?_toArray]
       rw [List.getElem?_append_left (List.getElem?_eq_some_iff.1 h1).1]
       exact h1
 . intro b b' p p' hp hp' ha ha' hro hb
   rw [L.alive_new] at ha ha'
   rcases place_snoc hp with ⟨hp, hbl⟩ | ⟨hbl, rfl⟩
   . rcases place_snoc hp' with ⟨hp', hbl'⟩ | ⟨hbl', rfl⟩
     . rw [if_neg (by omega)] at ha ha'
       exact r.inj b b' p p' hp hp' ha ha' hro hb
     . have := r.blk_lt hp
       simp only at hb
       omega
   . rcases place_snoc hp' with ⟨hp', hbl'⟩ | ⟨hbl', rfl⟩
     . have := r.blk_lt hp'
       simp only at hb
       omega
     . omega
theorem Rel.put (L : O.Law) {β : List Place} {h : H} {w : World} (r : Rel O G ro w0 β h w) {b o : Nat} {p : Place} (hp : β[b]? = some p) (hro : ro <= b) {x v v' : Value} (hc : O.cell h b o = some x) (hv : SR β v v') :
 (∃ u, w.cell? ⟨p.blk, p.off + o, none⟩ = some u) /\ w.frozen? ⟨p.blk, p.off + o, none⟩ = false /\ Rel O G ro w0 β (O.put h b o v) (w.setCell ⟨p.blk, p.off + o, none⟩ v') := by
 obtain ⟨c, e, fz, hh, hs, hf, hcell⟩ := r.cells b p hp
 obtain ⟨u, hu, _⟩ := hcell o x hc
 have hfz := hf hro
 subst hfz
 have hlt : p.off + o < c.size := (Array.getElem?_eq_some_iff.1 hu).1
 have hheap : ∀ k, (w.setCell ⟨p.blk, p.off + o, none⟩ v').heap[k]? = if k = p.blk then some (.cells (c.setIfInBounds (p.off + o) v') e (0, 0)) else w.heap[k]? := by
  intro k
  by_cases hk : k = p.blk
  . rw [if_pos hk, hk]
    simp [World.setCell, Array.getElem?_modify, hh]
  . rw [if_neg hk]
    exact Below.heap_setCell _ _ _ _ hk
 refine ⟨⟨u, by rw [cell_of_heap hh]; exact hu⟩, by simp [World.frozen?, hh], ?_⟩
 refine ⟨by rw [L.next_put]; exact r.len, r.below.setCell (r.own b p hp hro) _, r.glob, r.own, ?_, ?_, by rw [L.next_put]; exact r.ro_le⟩
 . intro b' p' hp'
   obtain ⟨c', e', fz', hh', hs', hf', hcell'⟩ := r.cells b' p' hp'
   by_cases hk : p'.blk = p.blk
   . have hce : c' = c /\ e' = e /\ fz' = (0, 0) := by
      rw [hk, hh] at hh'
      simp at hh'
      exact ⟨hh'.1.symm, hh'.2.1.symm, hh'.2.2.symm⟩
     obtain ⟨rfl, rfl, rfl⟩ := hce
     refine ⟨_, _, _, by rw [hheap, if_pos hk], by simpa using hs', fun _ => rfl, fun o' y hy => ?_⟩
     rw [L.cell_put _ _ _ _ _ hc] at hy
     have hal : O.alive h b' = true := by
      split at hy
      . rename_i hcond; rw [hcond.1]; exact L.cell_alive _ _ _ _ hc
      . exact L.cell_alive _ _ _ _ hy
     have hbb : b = b' := r.inj b b' p p' hp hp' (L.cell_alive _ _ _ _ hc) hal hro hk.symm
     subst hbb
     have hpp : p' = p := by rw [hp] at hp'; simpa using hp'.symm
     subst hpp
     split at hy
     . rename_i hcond
       simp at hy
       subst hy
       refine ⟨v', ?_, hv⟩
       rw [hcond.2, Array.getElem?_setIfInBounds]
       simp [hlt]
     . rename_i hcond
       obtain ⟨y', h1, h2⟩ := hcell' o' y hy
       refine ⟨y', ?_, h2⟩
       rw [Array.getElem?_setIfInBounds, if_neg]
       . exact h1
       . intro heq
         exact hcond ⟨rfl, by omega⟩
   . refine ⟨c', e', fz', by rw [hheap, if_neg hk]; exact hh', hs', hf', fun o' y hy => ?_⟩
     rw [L.cell_put _ _ _ _ _ hc, if_neg] at hy
     . exact hcell' o' y hy
     . rintro ⟨rfl, rfl⟩
       rw [hp] at hp'
       simp at hp'
       exact hk (by rw [hp'])
 . intro b1 b2 p1 p2 h1 h2 a1 a2 hr1 hb
   rw [L.alive_put] at a1 a2
   exact r.inj b1 b2 p1 p2 h1 h2 a1 a2 hr1 hb
theorem run_store_flat {w : World} {a : Addr} {v x : Value} (hf : isFlat v = true) (hc : w.cell? a = some x) (hz : w.frozen? a = false) : (store a v).run P w = .ok () (w.setCell a v) := by
 rw [run_store P w a v .plain (by cases v <;> simp_all [isFlat, Value.oneCell'])]
 simp [hc, hz]
theorem puts_sim (L : O.Law) {β : List Place} {b : Nat} {p : Place} (hp : β[b]? = some p) (hro : ro <= b) : ∀ (vs vs' : List Value) (h h' : H) (w : World) (o i : Nat), LR (SR β) vs vs' -> Rel O G ro w0 β h w ->
 putsA O h b (o + i) vs = some h' -> ∃ w', (storeCells ⟨p.blk, p.off + o, none⟩ vs' i).run P w = .ok () w' /\ Rel O G ro w0 β h' w' := by
 intro vs
 induction vs with
 | nil =>
  intro vs' h h' w o i hl hr hput
  simp only [putsA, Option.some.injEq] at hput
  subst hput
  rw [LR.nil_inv hl]
  exact ⟨w, rfl, hr⟩
 | cons v vs ih =>
  intro vs' h h' w o i hl hr hput
  obtain ⟨v', us, rfl, hv, hus⟩ := LR.cons_inv hl
  simp only [putsA] at hput
  cases hc : O.cell h b (o + i) with
  | none => rw [hc] at hput; simp at hput
  | some x =>
   rw [hc] at hput
   simp only at hput
   obtain ⟨⟨u, hu⟩, hz, hr'⟩ := hr.put L hp hro hc hv
   obtain ⟨w', hrun, hr''⟩ := ih us _ h' _ o (i + 1) hus hr' hput
   refine ⟨w', ?_, hr''⟩
   rw [storeCells]
   simp only [Sem.run_bind]
   rw [addr_add, Nat.add_assoc, run_store_flat hv.flat.2 hu hz, Result.andThen_ok]
   exact hrun
end
end Go.Vm
