/-
  What the kernel has run, the model's call comes to: the heap when a law of plain numbers is called. Own work.
-/
import Derived.Test.YtimdkminagnhgaaGreatDoorLt
import Derived.Test.YtimdkminagnhgaaGreatDoorFo
namespace Go.Proofs.YtimdkminagnhgaaGreatDoor
open Go.Vm Go.Proofs Go.RowKit
set_option linter.unusedSimpArgs false
set_option linter.unusedVariables false
set_option maxRecDepth 100000

def powL : List Value := (List.range 20).map fun i => .int .u64 ((10 ^ i : Nat) : Int)
def tr0 : Tr Blk 5 := tset 5 (tset 5 (tset 5 (tfull none 5) 0 (some powL)) 1 (some [])) 2 (some [])
def hp0 : HpT := ⟨3, tr0, fun _ => none⟩

theorem hp0_blk : hblk hp0 0 = some powL ∧ hblk hp0 1 = some [] ∧ hblk hp0 2 = some [] := by
  refine ⟨?_, ?_, ?_⟩ <;> simp only [hblk, hp0, tg5_eq, tr0] <;> rfl

theorem rel_0 {W : World} {t0 t1 t2 : Array Value} {e0 e1 e2 : TypeId} {z0 z1 z2 : Nat × Nat}
    (h0 : W.heap[0]? = some (.cells t0 e0 z0)) (h1 : W.heap[1]? = some (.cells t1 e1 z1)) (h2 : W.heap[2]? = some (.cells t2 e2 z2))
    (ht : ∀ i, i < 20 → t0[i]? = some (.int .u64 ((10 ^ i : Nat) : Int))) :
    Rel tO 3 3 ⟨W, fun _ => none⟩ [⟨0, 0, t0.size⟩, ⟨1, 0, t1.size⟩, ⟨2, 0, t2.size⟩] hp0 W where
  len := rfl
  below := Below.refl _ _
  glob g hg := by
    match g, hg with
    | 0, _ => exact ⟨_, rfl, rfl, rfl⟩
    | 1, _ => exact ⟨_, rfl, rfl, rfl⟩
    | 2, _ => exact ⟨_, rfl, rfl, rfl⟩
  own b p hb hr := by
    have := (List.getElem?_eq_some_iff.1 hb).1
    simp at this
    omega
  cells b p hb := by
    obtain ⟨k0, k1, k2⟩ := hp0_blk
    match b, hb with
    | 0, hb =>
      simp at hb; subst hb
      refine ⟨t0, e0, z0, h0, rfl, fun h => by omega, fun o v hv => ?_⟩
      have hv : nthS powL o = some v := by
        have : tO.cell hp0 0 o = nthS powL o := by
          show (bif Nat.blt 0 3 then (match hblk hp0 0 with | some l => nthS l o | none => none) else none) = _
          rw [k0]
          rfl
        rw [this] at hv
        exact hv
      rw [nthS_eq] at hv
      by_cases ho : o < 20
      · have : powL[o]? = some (.int .u64 ((10 ^ o : Nat) : Int)) := by simp [powL, ho]
        rw [this] at hv
        simp only [Option.some.injEq] at hv
        subst hv
        exact ⟨_, by simpa using ht o ho, by simp [SR]⟩
      · have : powL[o]? = none := by simp [powL]; omega
        rw [this] at hv; simp at hv
    | 1, hb =>
      simp at hb; subst hb
      refine ⟨t1, e1, z1, h1, rfl, fun h => by omega, fun o v hv => ?_⟩
      have : tO.cell hp0 1 o = nthS ([] : List Value) o := by
        show (bif Nat.blt 1 3 then (match hblk hp0 1 with | some l => nthS l o | none => none) else none) = _
        rw [k1]
        rfl
      rw [this, nthS_eq] at hv
      simp at hv
    | 2, hb =>
      simp at hb; subst hb
      refine ⟨t2, e2, z2, h2, rfl, fun h => by omega, fun o v hv => ?_⟩
      have : tO.cell hp0 2 o = nthS ([] : List Value) o := by
        show (bif Nat.blt 2 3 then (match hblk hp0 2 with | some l => nthS l o | none => none) else none) = _
        rw [k2]
        rfl
      rw [this, nthS_eq] at hv
      simp at hv
    | b + 3, hb => simp at hb
  inj b b' p p' hb _ _ _ hr _ := by
    have := (List.getElem?_eq_some_iff.1 hb).1
    simp at this
    omega
  ro_le := Nat.le_refl 3
  ext k o h := by simp at h

theorem mixed : Tryz.prog.follows .mixedOrders = true := by kernel_rfl

/-- A call that answers in the plain semantics. -/
theorem calls_0 {W : World} {t0 t1 t2 : Array Value} {e0 e1 e2 : TypeId} {z0 z1 z2 : Nat × Nat}
    (h0 : W.heap[0]? = some (.cells t0 e0 z0)) (h1 : W.heap[1]? = some (.cells t1 e1 z1)) (h2 : W.heap[2]? = some (.cells t2 e2 z2))
    (ht : ∀ i, i < 20 → t0[i]? = some (.int .u64 ((10 ^ i : Nat) : Int))) {f : FuncId} {ns : List Int} {b : Bool}
    (hl : ∀ (c : CallT HpT), Lim Tryz.prog tO 3 okF c → ∃ h', c f (ns.map fun n => .int .i64 n) hp0 = some (.bool b, h')) :
    Calls Tryz.prog f (ns.map fun n => Value.int .i64 n).toArray W fun e w' => e = .returned (.bool b) ∧ Below W.heap.size W w' := by
  obtain ⟨c, C⟩ := exists_lim Tryz.prog tO 3 okF
  obtain ⟨h', e⟩ := hl c C
  have hev := C.sound _ _ _ _ _ e
  have hr := rel_0 h0 h1 h2 ht
  have ha : ∀ (l : List Int), LR (VR [⟨0, 0, t0.size⟩, ⟨1, 0, t1.size⟩, ⟨2, 0, t2.size⟩]) (l.map fun n => Value.int .i64 n) (l.map fun n => Value.int .i64 n) := by
    intro l
    induction l with
    | nil => exact LR.nil _
    | cons n l ih => exact LR.cons (show VR _ (Value.int .i64 n) (Value.int .i64 n) from rfl) ih
  refine (EvF.calls tL mixed fun_q fun_ok hr (ha ns) hev).mono fun e w' ⟨v', β', he, _, hr', hv'⟩ => ?_
  subst he
  have hv'' : v' = .bool b := hv'
  subst hv''
  exact ⟨rfl, hr'.below⟩

/-- .. what the kernel has run. -/
theorem ran {K n : Nat} {f : FuncId} {args : List Value} {h : HpT} {v : Value} (hx : (callS (tab Tryz.prog) K n f args h).map (·.1) = some v) (c : CallT HpT) (C : Lim Tryz.prog tO 3 okF c) : ∃ h', c f args h = some (v, h') := by
  cases hq : callS (tab Tryz.prog) K n f args h with
  | none => rw [hq] at hx; simp at hx
  | some r =>
    obtain ⟨v', h'⟩ := r
    rw [hq] at hx
    simp only [Option.map_some, Option.some.injEq] at hx
    subst hx
    exact ⟨h', callS_le tab_gd C K n _ _ _ _ hq⟩

end Go.Proofs.YtimdkminagnhgaaGreatDoor
