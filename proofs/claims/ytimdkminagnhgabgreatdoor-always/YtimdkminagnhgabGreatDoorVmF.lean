/-
  Memory: a new block, a store, an append in its place. Own work.
-/
import Derived.Test.YtimdkminagnhgabGreatDoorVmE
import Derived.Laws.AppendOwn
namespace Go.Vm
open Go.RowKit
set_option linter.unusedSimpArgs false

section
variable {P : Program} {H : Type} {O : HI H} {G ro : Nat} {w0 : Prot}

theorem Rel.blk_lt {β : List Place} {h : H} {w : World} (r : Rel O G ro w0 β h w) {b : Nat} {p : Place} (hp : β[b]? = some p) : p.blk < w.heap.size := by
  obtain ⟨c, e, fz, hh, _⟩ := r.cells b p hp
  exact (Array.getElem?_eq_some_iff.1 hh).1

theorem place_snoc {β : List Place} {q : Place} {b : Nat} {p : Place} (h : (β ++ [q])[b]? = some p) : (β[b]? = some p ∧ b < β.length) ∨ (b = β.length ∧ p = q) := by
  by_cases c : b < β.length
  · rw [List.getElem?_append_left c] at h; exact .inl ⟨h, c⟩
  · rw [List.getElem?_append_right (by omega)] at h
    have : b - β.length = 0 := by
      rcases hk : b - β.length with _ | k
      · rfl
      · rw [hk] at h; simp at h
    rw [this] at h
    simp at h
    exact .inr ⟨by omega, h.symm⟩

/-- A new block: what is known of it stands at its head. -/
theorem Rel.alloc (L : O.Law) {β : List Place} {h : H} {w : World} (r : Rel O G ro w0 β h w) {cs cs' : List Value} (more : List Value) (hcs : LR (SR β) cs cs') (elem : TypeId) :
    Rel O G ro w0 (β ++ [⟨w.heap.size, 0, (cs' ++ more).length⟩]) (O.new h cs) (w.alloc (.cells (cs' ++ more).toArray elem)) := by
  have hpre : β <+: β ++ [⟨w.heap.size, 0, (cs' ++ more).length⟩] := List.prefix_append _ _
  have hl := r.len
  refine ⟨by simp [hl, L.next_new], r.below.alloc r.below.size _, ?_, ?_, ?_, ?_, by rw [L.next_new]; have := r.ro_le; omega, ?_⟩
  · intro g hg
    obtain ⟨p, hp, rest⟩ := r.glob g hg
    exact ⟨p, by rw [List.getElem?_append_left (List.getElem?_eq_some_iff.1 hp).1]; exact hp, rest⟩
  · intro b p hp hro
    rcases place_snoc hp with ⟨hp, _⟩ | ⟨_, rfl⟩
    · exact r.own b p hp hro
    · exact r.below.size
  · intro b p hp
    rcases place_snoc hp with ⟨hp, hb⟩ | ⟨hb, rfl⟩
    · obtain ⟨c, e, fz, hh, hs, hf, hc⟩ := r.cells b p hp
      refine ⟨c, e, fz, ?_, hs, hf, fun o v hv => ?_⟩
      · rw [Below.heap_alloc _ _ _ (r.blk_lt hp)]; exact hh
      · rw [L.cell_new, if_neg (by omega)] at hv
        obtain ⟨v', h1, h2⟩ := hc o v hv
        exact ⟨v', h1, h2.mono hpre⟩
    · refine ⟨(cs' ++ more).toArray, elem, (0, 0), ?_, by simp, fun _ => rfl, fun o v hv => ?_⟩
      · show (w.heap.push _)[w.heap.size]? = _
        simp
      · rw [L.cell_new, if_pos (by omega)] at hv
        obtain ⟨v', h1, h2⟩ := hcs.2 o v hv
        refine ⟨v', ?_, h2.mono hpre⟩
        simp only [Nat.zero_add, List.getElem?_toArray]
        rw [List.getElem?_append_left (List.getElem?_eq_some_iff.1 h1).1]
        exact h1
  · intro b b' p p' hp hp' ha ha' hro hb
    rw [L.alive_new] at ha ha'
    rcases place_snoc hp with ⟨hp, hbl⟩ | ⟨hbl, rfl⟩
    · rcases place_snoc hp' with ⟨hp', hbl'⟩ | ⟨hbl', rfl⟩
      · rw [if_neg (by omega)] at ha ha'
        exact r.inj b b' p p' hp hp' ha ha' hro hb
      · have := r.blk_lt hp
        simp only at hb
        omega
    · rcases place_snoc hp' with ⟨hp', hbl'⟩ | ⟨hbl', rfl⟩
      · have := r.blk_lt hp'
        simp only at hb
        omega
      · omega
  · intro k o hk
    obtain ⟨e1, e2⟩ := r.ext k o hk
    have hkl : k < w.heap.size := (Array.getElem?_eq_some_iff.1 e1).1
    refine ⟨by rw [Below.heap_alloc _ _ _ hkl]; exact e1, fun b p hp ha => ?_⟩
    rw [L.alive_new] at ha
    rcases place_snoc hp with ⟨hp, hb⟩ | ⟨hb, rfl⟩
    · rw [if_neg (by omega)] at ha
      exact e2 b p hp ha
    · simp only; omega

/-- A store. -/
theorem Rel.put (L : O.Law) {β : List Place} {h : H} {w : World} (r : Rel O G ro w0 β h w) {b o : Nat} {p : Place} (hp : β[b]? = some p) (hro : ro ≤ b) {x v v' : Value} (hc : O.cell h b o = some x) (hv : SR β v v') :
    (∃ u, w.cell? ⟨p.blk, p.off + o, none⟩ = some u) ∧ w.frozen? ⟨p.blk, p.off + o, none⟩ = false ∧ Rel O G ro w0 β (O.put h b o v) (w.setCell ⟨p.blk, p.off + o, none⟩ v') := by
  obtain ⟨c, e, fz, hh, hs, hf, hcell⟩ := r.cells b p hp
  obtain ⟨u, hu, _⟩ := hcell o x hc
  have hfz := hf hro
  subst hfz
  have hlt : p.off + o < c.size := (Array.getElem?_eq_some_iff.1 hu).1
  have hheap : ∀ k, (w.setCell ⟨p.blk, p.off + o, none⟩ v').heap[k]? = if k = p.blk then some (.cells (c.setIfInBounds (p.off + o) v') e (0, 0)) else w.heap[k]? := by
    intro k
    by_cases hk : k = p.blk
    · rw [if_pos hk, hk]
      simp [World.setCell, Array.getElem?_modify, hh]
    · rw [if_neg hk]
      exact Below.heap_setCell _ _ _ _ hk
  refine ⟨⟨u, by rw [cell_of_heap hh]; exact hu⟩, by simp [World.frozen?, hh], ?_⟩
  refine ⟨by rw [L.next_put]; exact r.len, r.below.setCell (r.own b p hp hro) _, r.glob, r.own, ?_, ?_, by rw [L.next_put]; exact r.ro_le, ?_⟩
  · intro b' p' hp'
    obtain ⟨c', e', fz', hh', hs', hf', hcell'⟩ := r.cells b' p' hp'
    by_cases hk : p'.blk = p.blk
    · have hce : c' = c ∧ e' = e ∧ fz' = (0, 0) := by
        rw [hk, hh] at hh'
        simp at hh'
        exact ⟨hh'.1.symm, hh'.2.1.symm, hh'.2.2.symm⟩
      obtain ⟨rfl, rfl, rfl⟩ := hce
      refine ⟨_, _, _, by rw [hheap, if_pos hk], by simpa using hs', fun _ => rfl, fun o' y hy => ?_⟩
      rw [L.cell_put _ _ _ _ _ hc] at hy
      have hal : O.alive h b' = true := by
        split at hy
        · rename_i hcond; rw [hcond.1]; exact L.cell_alive _ _ _ _ hc
        · exact L.cell_alive _ _ _ _ hy
      have hbb : b = b' := r.inj b b' p p' hp hp' (L.cell_alive _ _ _ _ hc) hal hro hk.symm
      subst hbb
      have hpp : p' = p := by rw [hp] at hp'; simpa using hp'.symm
      subst hpp
      split at hy
      · rename_i hcond
        simp at hy
        subst hy
        refine ⟨v', ?_, hv⟩
        rw [hcond.2, Array.getElem?_setIfInBounds]
        simp [hlt]
      · rename_i hcond
        obtain ⟨y', h1, h2⟩ := hcell' o' y hy
        refine ⟨y', ?_, h2⟩
        rw [Array.getElem?_setIfInBounds, if_neg]
        · exact h1
        · intro heq
          exact hcond ⟨rfl, by omega⟩
    · refine ⟨c', e', fz', by rw [hheap, if_neg hk]; exact hh', hs', hf', fun o' y hy => ?_⟩
      rw [L.cell_put _ _ _ _ _ hc, if_neg] at hy
      · exact hcell' o' y hy
      · rintro ⟨rfl, rfl⟩
        rw [hp] at hp'
        simp at hp'
        exact hk (by rw [hp'])
  · intro b1 b2 p1 p2 h1 h2 a1 a2 hr1 hb
    rw [L.alive_put] at a1 a2
    exact r.inj b1 b2 p1 p2 h1 h2 a1 a2 hr1 hb
  · intro k q hk
    obtain ⟨e1, e2⟩ := r.ext k q hk
    refine ⟨?_, fun b' p' hp' ha => e2 b' p' hp' (by rw [L.alive_put] at ha; exact ha)⟩
    rw [hheap, if_neg (fun e => e2 b p hp (L.cell_alive _ _ _ _ hc) e.symm)]
    exact e1

theorem run_store_flat {w : World} {a : Addr} {v x : Value} (hf : isFlat v = true) (hc : w.cell? a = some x) (hz : w.frozen? a = false) : (store a v).run P w = .ok () (w.setCell a v) := by
  rw [run_store P w a v .plain (by cases v <;> simp_all [isFlat, Value.oneCell'])]
  simp [hc, hz]

/-- Stores, one behind the other. -/
theorem puts_sim (L : O.Law) {β : List Place} {b : Nat} {p : Place} (hp : β[b]? = some p) (hro : ro ≤ b) : ∀ (vs vs' : List Value) (h h' : H) (w : World) (o i : Nat), LR (SR β) vs vs' → Rel O G ro w0 β h w →
    putsA O h b (o + i) vs = some h' → ∃ w', (storeCells ⟨p.blk, p.off + o, none⟩ vs' i).run P w = .ok () w' ∧ Rel O G ro w0 β h' w' := by
  intro vs
  induction vs with
  | nil =>
    intro vs' h h' w o i hl hr hput
    simp only [putsA, Option.some.injEq] at hput
    subst hput
    rw [LR.nil_inv hl]
    exact ⟨w, rfl, hr⟩
  | cons v vs ih =>
    intro vs' h h' w o i hl hr hput
    obtain ⟨v', us, rfl, hv, hus⟩ := LR.cons_inv hl
    simp only [putsA] at hput
    cases hc : O.cell h b (o + i) with
    | none => rw [hc] at hput; simp at hput
    | some x =>
      rw [hc] at hput
      simp only at hput
      obtain ⟨⟨u, hu⟩, hz, hr'⟩ := hr.put L hp hro hc hv
      obtain ⟨w', hrun, hr''⟩ := ih us _ h' _ o (i + 1) hus hr' hput
      refine ⟨w', ?_, hr''⟩
      rw [storeCells]
      simp only [Sem.run_bind]
      rw [addr_add, Nat.add_assoc, run_store_flat hv.flat.2 hu hz, Result.andThen_ok]
      exact hrun

/-- An append that finds room: the block goes on under a new number. -/
theorem Rel.renew (L : O.Law) {β : List Place} {h : H} {w : World} (r : Rel O G ro w0 β h w) {b o : Nat} {p : Place} (hp : β[b]? = some p) (hro : ro ≤ b) (hal : O.alive h b = true) {cs cs' : List Value}
    {c : Array Value} {e : TypeId} (hh : w.heap[p.blk]? = some (.cells c e (0, 0))) (hcs : LR (SR β) cs cs') (hat : ∀ (j : Nat) v', cs'[j]? = some v' → c[p.off + o + j]? = some v')
    : Rel O G ro w0 (β ++ [⟨p.blk, p.off + o, p.size⟩]) (O.new (O.kill h b) cs) w := by
  have hpre : β <+: β ++ [⟨p.blk, p.off + o, p.size⟩] := List.prefix_append _ _
  have hl := r.len
  have hnk : O.next (O.kill h b) = O.next h := L.next_kill h b
  obtain ⟨c0, e0, fz0, hh0, hs0, _, _⟩ := r.cells b p hp
  have hcs0 : c.size = p.size := by rw [hh] at hh0; simp at hh0; rw [hh0.1]; exact hs0
  refine ⟨by simp [hl, L.next_new, hnk], r.below, ?_, ?_, ?_, ?_, by rw [L.next_new, hnk]; have := r.ro_le; omega, ?_⟩
  · intro g hg
    obtain ⟨q, hq, rest⟩ := r.glob g hg
    exact ⟨q, by rw [List.getElem?_append_left (List.getElem?_eq_some_iff.1 hq).1]; exact hq, rest⟩
  · intro b' p' hp' hro'
    rcases place_snoc hp' with ⟨hp', _⟩ | ⟨_, rfl⟩
    · exact r.own b' p' hp' hro'
    · exact r.own b p hp hro
  · intro b' p' hp'
    rcases place_snoc hp' with ⟨hp', hb⟩ | ⟨hb, rfl⟩
    · obtain ⟨c', e', fz', hh', hs', hf', hc'⟩ := r.cells b' p' hp'
      refine ⟨c', e', fz', hh', hs', hf', fun o' v hv => ?_⟩
      rw [L.cell_new, if_neg (by omega), L.cell_kill] at hv
      split at hv
      · simp at hv
      · obtain ⟨v', h1, h2⟩ := hc' o' v hv
        exact ⟨v', h1, h2.mono hpre⟩
    · refine ⟨c, e, (0, 0), hh, hcs0, fun _ => rfl, fun o' v hv => ?_⟩
      rw [L.cell_new, if_pos (by omega)] at hv
      obtain ⟨v', h1, h2⟩ := hcs.2 o' v hv
      exact ⟨v', hat o' v' h1, h2.mono hpre⟩
  · intro b1 b2 p1 p2 hp1 hp2 a1 a2 hr1 hb
    rw [L.alive_new] at a1 a2
    rcases place_snoc hp1 with ⟨hp1, hb1⟩ | ⟨hb1, rfl⟩
    · rw [if_neg (by omega), L.alive_kill] at a1
      split at a1
      · simp at a1
      · rename_i hne1
        rcases place_snoc hp2 with ⟨hp2, hb2⟩ | ⟨hb2, rfl⟩
        · rw [if_neg (by omega), L.alive_kill] at a2
          split at a2
          · simp at a2
          · exact r.inj b1 b2 p1 p2 hp1 hp2 a1 a2 hr1 hb
        · exact absurd (r.inj b1 b p1 p hp1 hp a1 hal hr1 hb) hne1
    · rcases place_snoc hp2 with ⟨hp2, hb2⟩ | ⟨hb2, rfl⟩
      · rw [if_neg (by omega), L.alive_kill] at a2
        split at a2
        · simp at a2
        · rename_i hne2
          exact absurd (r.inj b b2 p p2 hp hp2 hal a2 hro hb).symm hne2
      · omega
  · intro k q hk
    obtain ⟨e1, e2⟩ := r.ext k q hk
    refine ⟨e1, fun b' p' hp' ha => ?_⟩
    rw [L.alive_new] at ha
    rcases place_snoc hp' with ⟨hp', hb'⟩ | ⟨hb', rfl⟩
    · rw [if_neg (by omega), L.alive_kill] at ha
      split at ha
      · simp at ha
      · exact e2 b' p' hp' ha
    · exact e2 b p hp hal

end
end Go.Vm
