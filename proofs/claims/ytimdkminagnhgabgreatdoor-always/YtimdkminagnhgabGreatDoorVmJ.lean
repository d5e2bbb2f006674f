/-
  Operations that read, make and write memory; the whole. Own work.
-/
import Derived.Test.YtimdkminagnhgabGreatDoorVmI
import Derived.Laws.BytesString
namespace Go.Vm
open Go.RowKit
set_option linter.unusedSimpArgs false
set_option linter.unusedVariables false

section
variable {P : Program} {H : Type} {O : HI H} {G ro : Nat} {w0 : Prot}

theorem bytesA_ints : ∀ (l : List Value) (bs : List UInt8), bytesA l = some bs → ∃ ns : List Int, l = ns.map (Value.int .u8) ∧ bs = ns.map fun n => UInt8.ofNat n.toNat := by
  intro l
  induction l with
  | nil => intro bs h; simp [bytesA] at h; subst h; exact ⟨[], rfl, rfl⟩
  | cons x l ih =>
    intro bs h
    cases x with
    | int k n =>
      cases k <;> simp only [bytesA] at h <;> first | (simp at h; done) | skip
      cases hb : bytesA l with
      | none => rw [hb] at h; simp at h
      | some r =>
        rw [hb] at h
        simp at h
        subst h
        obtain ⟨ns, rfl, rfl⟩ := ih r hb
        exact ⟨n :: ns, rfl, rfl⟩
    | _ => simp [bytesA] at h

theorem LR_ints {β : List Place} : ∀ (ns : List Int) (l' : List Value), LR (SR β) (ns.map (Value.int .u8)) l' → l' = ns.map (Value.int .u8) := by
  intro ns
  induction ns with
  | nil => intro l' h; exact LR.nil_inv h
  | cons n ns ih =>
    intro l' h
    obtain ⟨y, r, rfl, hy, hr⟩ := LR.cons_inv h
    cases (hy : y = .int .u8 n)
    rw [ih r hr]
    rfl

theorem foldl_push (ns : List Int) : ∀ s : ByteArray, ns.foldl (fun r n => r.push (UInt8.ofNat n.toNat)) s = ⟨s.data ++ (ns.map fun n => UInt8.ofNat n.toNat).toArray⟩ := by
  induction ns with
  | nil => intro s; simp
  | cons n ns ih =>
    intro s
    rw [List.foldl_cons, ih]
    congr 1
    show (s.data.push _) ++ _ = _
    simp

theorem sliceH_sim {β : List Place} {h : H} {w : World} (r : Rel O G ro w0 β h w) {t : TypeId} {a a' v : Value} {lo hi lo' hi' mx mx' : Option Value} (ha : VR β a a')
    (hlo : ∀ v, lo = some v → ∃ v', lo' = some v' ∧ VR β v v') (nlo : lo = none → lo' = none) (hhi : ∀ v, hi = some v → ∃ v', hi' = some v' ∧ VR β v v') (nhi : hi = none → hi' = none) (nmx : mx = none → mx' = none)
    (hv : sliceH P O t a lo hi mx h = some v) : ∃ v', (Instr.sliceAt t a' lo' hi' mx').run P w = .ok v' w ∧ VR β v v' := by
  by_cases harr : ∃ n e, P.underlying t = some (.array n e)
  · obtain ⟨n, e, hu⟩ := harr
    unfold sliceH at hv
    rw [hu] at hv
    simp only at hv
    cases mx with
    | some m => simp at hv
    | none =>
      rw [nmx rfl]
      cases a with
      | pointer ad =>
        cases ad with
        | none => simp at hv
        | some ad =>
          cases hi0 : P.info? e with
          | none => rw [hi0] at hv; simp at hv
          | some i =>
            rw [hi0] at hv
            simp only at hv
            cases hh : boundA hi n n with
            | none => rw [hh] at hv; simp at hv
            | some h1 =>
              rw [hh] at hv
              simp only at hv
              cases hl : boundA lo 0 h1 with
              | none => rw [hl] at hv; simp at hv
              | some l1 =>
                rw [hl] at hv
                simp only at hv
                split at hv
                · rename_i hc
                  simp only [Option.some.injEq] at hv
                  subst hv
                  have e1 := bound_rel hlo nlo hl
                  have e2 := bound_rel hhi nhi hh
                  subst e1
                  subst e2
                  have hb := bounds_run (P := P) w false hh hl (Nat.le_refl _)
                  obtain ⟨p, hp, rfl⟩ := VR.ptr ha
                  obtain ⟨cs, el, fz, hw, hsz, _, hcell⟩ := r.cells _ _ hp
                  obtain ⟨u, hu1⟩ := Option.isSome_iff_exists.1 hc.2
                  obtain ⟨u', hu2, _⟩ := hcell _ _ hu1
                  have hlt : p.off + (ad.off + n * i.size - 1) < cs.size := by
                    by_cases hlt : p.off + (ad.off + n * i.size - 1) < cs.size
                    · exact hlt
                    · rw [Array.getElem?_eq_none (by omega)] at hu2; simp at hu2
                  have hh1 : h1 ≤ n := by
                    cases hi' with
                    | none => simp [boundA] at hh; omega
                    | some u => exact bound_some_le hh
                  refine ⟨.slice (some ⟨p.blk, p.off + ad.off + l1 * i.size, none⟩) (h1 - l1) (n - l1), ?_, ?_⟩
                  · have hne : ¬ (n = l1) := by omega
                    simp only [Instr.sliceAt, Instr.sureAddr, Sem.run_bind, run_underlying hu, Result.andThen_ok, Sem.run_pure, hb, sizeOf, typeInfo, run_program, hi0, if_neg hne, addr_add]
                  · refine (show SR β (.slice (some ⟨ad.block, ad.off + l1 * i.size, some i.size⟩) (h1 - l1) 0) _ from ⟨p, n - l1, i.size, hp, rfl, ?_, by omega, ?_, fun h => absurd rfl h⟩)
                    · rw [Nat.add_assoc]
                    · simp only
                      have : l1 * i.size + (n - l1) * i.size = n * i.size := by rw [← Nat.add_mul]; congr 1; omega
                      omega
                · simp at hv
      | _ => simp at hv
  · have hv2 : sliceA P t a lo hi mx = some v := by
      unfold sliceH at hv
      split at hv
      · rename_i n e hu; exact absurd ⟨n, e, hu⟩ harr
      · exact hv
    exact slice_sim w ha hlo nlo hhi nhi nmx hv2

theorem read_sim {β : List Place} {h : H} {w : World} (r : Rel O G ro w0 β h w) {ρ ρ' : Operand → Value} {o : Oper} {v : Value} (he : ∀ x ∈ opnds o.op, VR β (ρ x) (ρ' x))
    (hv : readA P O ρ o.op h = some v) : ∃ v', Comes' ((execOp ρ' o).run P w) v' w ∧ VR β v v' := by
  cases hop : o.op with
  | load t a =>
    rw [hop] at hv he
    simp only [readA] at hv
    obtain ⟨ad, v', e, hrun, hc⟩ := load_sim r hv (he a (by simp [opnds, Op.operands]))
    refine ⟨v', ?_, hc.toVR⟩
    simp only [execOp, hop]
    refine comes_v ?_
    simp [Instr.loadAt, Instr.sureAddr, e, hrun]
  | convert s d x =>
    rw [hop] at hv he
    simp only [readA] at hv
    have h1 := he x (by simp [opnds, Op.operands])
    cases hs : P.underlying s with
    | none => rw [hs] at hv; simp at hv
    | some ds =>
      cases hd : P.underlying d with
      | none => rw [hs, hd] at hv; cases ds <;> simp at hv
      | some dd =>
        rw [hs, hd] at hv
        cases hx : ρ x with
        | int k n =>
          rw [hx] at hv h1
          cases dd with
          | int kd =>
            have hv' : some (Value.int kd (kd.wrap n)) = some v := by cases ds <;> exact hv
            simp only [Option.some.injEq] at hv'
            subst hv'
            refine ⟨_, ?_, (rfl : _ = Value.int kd (kd.wrap n))⟩
            simp only [execOp, hop]
            refine comes_v ?_
            rw [VR.int h1]
            simp [convert, run_underlying hs, run_underlying hd, Conv.intToInt]
          | _ => cases ds <;> simp at hv
        | slice a len cap =>
          rw [hx] at hv h1
          cases ds with
          | slice e =>
            cases dd with
            | string =>
              cases a with
              | none => simp at hv
              | some a =>
                simp only at hv
                cases hue : P.underlying e with
                | none => rw [hue] at hv; simp at hv
                | some de =>
                  rw [hue] at hv
                  cases de with
                  | int ke =>
                    cases ke <;> simp only at hv <;> first | (simp at hv; done) | skip
                    obtain ⟨p, c, z, hp, hz, e', _⟩ := VR.sl h1
                    cases hc : Vm.cellsA O h a.block a.off len with
                    | none => rw [hc] at hv; simp at hv
                    | some l =>
                      rw [hc] at hv
                      simp only at hv
                      cases hb : bytesA l with
                      | none => rw [hb] at hv; simp at hv
                      | some bs =>
                        rw [hb] at hv
                        simp only [Option.map_some, Option.some.injEq] at hv
                        subst hv
                        obtain ⟨ns, rfl, rfl⟩ := bytesA_ints l bs hb
                        obtain ⟨l', hl', hn, hcell⟩ := r.cellsA hp _ _ _ hc
                        have hl2 := LR_ints ns l' hl'
                        subst hl2
                        have hload := run_loadCells_list (P := P) w ⟨p.blk, p.off + a.off, none⟩ (ns.map (Value.int .u8)) (fun j v hv => by rw [addr_add]; exact hcell j v hv)
                        rw [hn] at hload
                        refine ⟨_, ?_, (rfl : _ = Value.string _)⟩
                        simp only [execOp, hop]
                        refine comes_v ?_
                        rw [e', run_convert_bytes_string w s d e _ _ _ hs hue hd, run_bytesToString w _ _ _ ns hload, foldl_push]
                        congr 3
                        simp
                  | _ => simp at hv
            | _ => simp at hv
          | _ => cases dd <;> simp at hv
        | _ => rw [hx] at hv; cases ds <;> cases dd <;> simp at hv
  | slice t x lo hi mx =>
    rw [hop] at hv he
    simp only [readA] at hv
    have opt : ∀ (z : Option Operand), (∀ y, z = some y → y ∈ opnds (Op.slice t x lo hi mx)) → (∀ v, z.map ρ = some v → ∃ v', z.map ρ' = some v' ∧ VR β v v') ∧ (z.map ρ = none → z.map ρ' = none) := by
      intro z hz
      cases z with
      | none => exact ⟨fun v hv => by simp at hv, fun _ => rfl⟩
      | some y => exact ⟨fun v hv => by simp at hv; subst hv; exact ⟨_, rfl, he y (hz y rfl)⟩, fun hn => by simp at hn⟩
    have o1 := opt lo (fun y hy => by subst hy; simp [opnds, Op.operands])
    have o2 := opt hi (fun y hy => by subst hy; simp [opnds, Op.operands])
    have o3 := opt mx (fun y hy => by subst hy; simp [opnds, Op.operands])
    obtain ⟨v', hrun, hv⟩ := sliceH_sim r (he x (by simp [opnds, Op.operands])) o1.1 o1.2 o2.1 o2.2 o3.2 hv
    refine ⟨v', ?_, hv⟩
    simp only [execOp, hop]
    exact comes_v hrun
  | _ => rw [hop] at hv; simp [readA] at hv

theorem new_sim (L : O.Law) {β : List Place} {h : H} {w : World} (r : Rel O G ro w0 β h w) {cs : List Value} {cs' : Array Value} (hcs : LR (SR β) cs cs'.toList) (elem : TypeId) :
    Rel O G ro w0 (β ++ [⟨w.heap.size, 0, cs'.size⟩]) (O.new h cs) (w.alloc (.cells cs' elem)) := by
  have := r.alloc L [] hcs elem
  simpa using this

theorem last_place {β : List Place} {p : Place} {n : Nat} (h : β.length = n) : (β ++ [p])[n]? = some p := by
  subst h; simp

theorem range_rel {β : List Place} {z : Array Value} (hz : z.toList.all (fun v => operOk 0 (.const v)) = true) (h0 : z.size ≠ 0) (n : Nat) : LR (SR β) (rangeA z n) (rangeA z n) := by
  refine ⟨rfl, fun i x hx => ⟨x, hx, ?_⟩⟩
  unfold rangeA at hx
  rw [List.getElem?_map] at hx
  cases hr : (List.range n)[i]? with
  | none => rw [hr] at hx; simp at hx
  | some k =>
    rw [hr] at hx
    simp only [Option.map_some, Option.some.injEq] at hx
    have hlt : k % z.size < z.size := Nat.mod_lt _ (by omega)
    have : x = z[k % z.size] := by rw [← hx]; exact getElem!_pos z (k % z.size) hlt
    rw [this]
    exact SR.refl_zero (List.all_eq_true.1 hz _ (by simp))

theorem rangeA_eq (z : Array Value) (n : Nat) : (rangeA z n).toArray = madeCells z n := by
  apply Array.ext'
  simp [rangeA, madeCells, Array.toList_range]

theorem append_sim (L : O.Law) {β : List Place} {h h' : H} {w : World} (r : Rel O G ro w0 β h w) {tys : Array TypeId} {args args' : List Value} {ty : TypeId} {v : Value} (ha : LR (VR β) args args')
    (hv : appendA P O ro tys.toList args h = some (v, h')) :
    ∃ β' v' w', (Builtin.append_ tys ty args'.toArray).run P w = .ok v' w' ∧ β <+: β' ∧ Rel O G ro w0 β' h' w' ∧ VR β' v v' := by
  unfold appendA at hv
  split at hv
  case h_2 => simp at hv
  rename_i _ _ t u base len cap x htys
  split at hv
  · simp at hv
  rename_i htu
  have htu : t = u := by simpa using htu
  subst htu
  have htys' : tys = #[t, t] := by apply Array.toList_inj.1; simpa using htys
  subst htys'
  split at hv
  case h_2 => simp at hv
  rename_i e hu
  split at hv
  case h_2 => simp at hv
  rename_i i b' n cx hi
  split at hv
  case isFalse => simp at hv
  rename_i hzero
  obtain ⟨z, hz, hzs⟩ : ∃ z, i.zero = some z ∧ z.cells.size = i.size := by
    cases hz : i.zero with
    | none => rw [hz] at hzero; simp at hzero
    | some z => rw [hz] at hzero; simp at hzero; exact ⟨z, rfl, hzero⟩
  split at hv
  · simp at hv
  rename_i hbound
  have hb1 : (len + n) * i.bytes ≤ 140737488355328 := by omega
  have hb2 : len + n ≤ 140737488355328 := by omega
  split at hv
  case h_2 => simp at hv
  rename_i _ new hnew
  -- the arguments as the model has them
  obtain ⟨s', r1, rfl, hs', hrA⟩ := LR.cons_inv ha
  obtain ⟨x', r2, rfl, hx', hrB⟩ := LR.cons_inv hrA
  have := LR.nil_inv hrB
  subst this
  clear hrA hrB ha
  -- what is appended
  have hnews : ∃ xa xc new', x' = .slice xa n xc ∧ LR (SR β) new new' ∧ new.length = n * i.size ∧ (xa = none → n = 0) ∧ ∀ a0, xa = some a0 → ∀ (j : Nat) v', new'[j]? = some v' → w.cell? (a0.add j) = some v' := by
    cases b' with
    | none =>
      simp only at hnew
      split at hnew
      · rename_i hn0
        simp at hnew
        subst hnew
        obtain ⟨rfl, rfl, e⟩ := VR.nils hx'
        exact ⟨none, 0, [], e, LR.nil _, by simp, fun _ => rfl, fun a0 h => by simp at h⟩
      · simp at hnew
    | some b' =>
      simp only at hnew
      obtain ⟨p, c, zz, hp, _, e, _⟩ := VR.sl hx'
      obtain ⟨l', hl', hn, hcell⟩ := r.cellsA hp _ _ _ hnew
      exact ⟨_, _, l', e, hl', hn, fun h => by simp at h, fun a0 ha0 j v' hj => by simp at ha0; subst ha0; rw [addr_add]; exact hcell j v' hj⟩
  obtain ⟨xa, xc, new', rfl, hnr, hnl, hxn, hncell⟩ := hnews
  have hnl' : new'.length = n * i.size := by rw [hnr.1, hnl]
  have hfirst : ∀ (w1 : World), (∀ a, w1.cell? a = w.cell? a) → (Builtin.firstCells i.size n (.slice xa n xc)).run P w1 = .ok new'.toArray w1 := by
    intro w1 hw1
    cases xa with
    | none =>
      have hn0 := hxn rfl
      subst hn0
      have : new' = [] := by have := hnl'; simpa using this
      subst this
      simp [Builtin.firstCells]
    | some a0 => exact run_firstCells_some (P := P) w1 i.size n a0 n xc new' hnl' (fun j v hv => by rw [hw1]; exact hncell a0 rfl j v hv)
  -- a new array, behind a draw
  have grown : ∀ (old old' : List Value) (sl : Value) (sLen sCap : Nat) (h1 : H), LR (SR β) old old' → Rel O G ro w0 β h1 w →
      (Builtin.append_ #[t, t] ty #[sl, .slice xa n xc]).run P w = .ok (.slice (some ⟨w.heap.size, 0, none⟩) (sLen + n) (grownCap w (sLen + n) sCap e)) (w.drew.alloc (.cells (old'.toArray ++ new'.toArray ++ Builtin.zeroCells z.cells (grownCap w (sLen + n) sCap e - (sLen + n))) e)) →
      old.length = sLen * i.size →
      ∃ β' v' w', (Builtin.append_ #[t, t] ty #[sl, .slice xa n xc]).run P w = .ok v' w' ∧ β <+: β' ∧ Rel O G ro w0 β' (O.new h1 (old ++ new)) w' ∧ VR β' (.slice (some ⟨O.next h1, 0, some i.size⟩) (sLen + n) 0) v' := by
    intro old old' sl sLen sCap h1 hold hr1 hrun hol
    have hge := grownCap_ge w (sLen + n) sCap e
    refine ⟨β ++ [⟨w.heap.size, 0, (old' ++ new' ++ (Builtin.zeroCells z.cells (grownCap w (sLen + n) sCap e - (sLen + n))).toList).length⟩], _, _, hrun, List.prefix_append _ _, ?_, ?_⟩
    · have hd : Rel O G ro w0 β h1 w.drew := hr1.drew
      have := hd.alloc L (Builtin.zeroCells z.cells (grownCap w (sLen + n) sCap e - (sLen + n))).toList (hold.append hnr) e
      have earr : (old' ++ new' ++ (Builtin.zeroCells z.cells (grownCap w (sLen + n) sCap e - (sLen + n))).toList).toArray = old'.toArray ++ new'.toArray ++ Builtin.zeroCells z.cells (grownCap w (sLen + n) sCap e - (sLen + n)) := by
        apply Array.ext'
        simp
      rw [earr] at this
      exact this
    · refine (show SR _ (.slice (some ⟨O.next h1, 0, some i.size⟩) (sLen + n) 0) _ from ⟨_, _, i.size, last_place hr1.len, rfl, rfl, hge, ?_, fun h => absurd rfl h⟩)
      simp only [List.length_append, hold.1, hol, hnl', Array.length_toList, size_zeroCells, hzs, Nat.zero_add]
      rw [← Nat.add_mul, ← Nat.add_mul]
      exact Nat.mul_le_mul_right _ (by omega)
  cases base with
  | none =>
    simp only at hv
    split at hv
    case isFalse => simp at hv
    rename_i hlc
    obtain ⟨rfl, rfl⟩ := hlc
    obtain ⟨_, _, rfl⟩ := VR.nils hs'
    split at hv
    · rename_i hn0
      subst hn0
      simp only [Option.some.injEq, Prod.mk.injEq] at hv
      obtain ⟨rfl, rfl⟩ := hv
      refine ⟨β, .slice none 0 0, w, ?_, List.prefix_rfl, r, (⟨rfl, rfl, rfl⟩ : SR β (.slice none 0 0) (.slice none 0 0))⟩
      have hf := hfirst w (fun _ => rfl)
      simp [Builtin.append_, run_underlying hu, sizeOf, typeInfo, hi, Builtin.lenOf, hf]
    · rename_i hn0
      simp only [Option.some.injEq, Prod.mk.injEq] at hv
      obtain ⟨rfl, rfl⟩ := hv
      cases xa with
      | none => exact absurd (hxn rfl) hn0
      | some a0 =>
        have hrun := run_append_nil (P := P) w t ty e i z hu hi hz a0 n xc new' hnl' (fun j v hv => hncell a0 rfl j v hv) (by omega) (by omega) (by simp only [Nat.zero_add] at hb1; omega)
        have := grown [] [] (.slice none 0 0) 0 0 h (LR.nil _) r (by simpa using hrun) (by simp)
        simpa using this
  | some a =>
    simp only at hv
    split at hv
    · simp at hv
    rename_i hro
    split at hv
    case isFalse => simp at hv
    rename_i hsp
    obtain ⟨hspot, hal⟩ := hsp
    split at hv
    case h_2 => simp at hv
    rename_i _ old hold
    obtain ⟨p, c, zz, hp, hz2, rfl, hlc, hfit, hcap⟩ := VR.sl hs'
    have : zz = i.size := by rw [hz2] at hspot; simpa using hspot
    subst this
    obtain ⟨old', hor, hol, hocell⟩ := r.cellsA hp _ _ _ hold
    have hol' : old'.length = len * i.size := by rw [hor.1, hol]
    have hro' : ro ≤ a.block := by omega
    have nogrow : c < len + n → ∀ (h1 : H), Rel O G ro w0 β h1 w → ∃ β' v' w', (Builtin.append_ #[t, t] ty #[.slice (some ⟨p.blk, p.off + a.off, none⟩) len c, .slice xa n xc]).run P w = .ok v' w' ∧ β <+: β' ∧ Rel O G ro w0 β' (O.new h1 (old ++ new)) w' ∧ VR β' (.slice (some ⟨O.next h1, 0, some i.size⟩) (len + n) 0) v' := by
      intro hlt h1 hr1
      cases xa with
      | none => have := hxn rfl; omega
      | some a0 =>
        have hrun := run_append_grow (P := P) w t ty e i z hu hi hz ⟨p.blk, p.off + a.off, none⟩ len c old' hol' (fun j v hv => by rw [addr_add]; exact hocell j v hv) a0 n xc new' hnl' (fun j v hv => hncell a0 rfl j v hv) hlt (by omega) (growslice_fits hlt hb1)
        exact grown old old' _ len c h1 hor hr1 hrun hol
    -- the model's run where there is room
    have room : len + n ≤ c → ∀ w1, (storeCells ⟨p.blk, p.off + a.off + len * i.size, none⟩ new').run P w = .ok () w1 →
        (Builtin.append_ #[t, t] ty #[.slice (some ⟨p.blk, p.off + a.off, none⟩) len c, .slice xa n xc]).run P w = .ok (.slice (some ⟨p.blk, p.off + a.off, none⟩) (len + n) c) w1 := by
      intro hle w1 hst
      have hf := hfirst w (fun _ => rfl)
      simp [Builtin.append_, run_underlying hu, sizeOf, typeInfo, hi, Builtin.lenOf, hf, hle, addr_add, hst]
    by_cases hc0 : cap = 0
    · rw [if_pos hc0] at hv
      simp only [Option.some.injEq, Prod.mk.injEq] at hv
      obtain ⟨rfl, rfl⟩ := hv
      have hnk : O.next (O.kill h a.block) = O.next h := L.next_kill _ _
      by_cases hle : len + n ≤ c
      · -- in its place: the cells are written into the spare, of which nothing is known
        obtain ⟨cc, ee, fz, hh, hcs, hfz, hcc⟩ := r.cells _ p hp
        have hfz' := hfz hro'
        subst hfz'
        have hst : ∀ (l : List Value) (k : Nat) (w1 : World) (c1 : Array Value), (∀ u ∈ l, isFlat u = true) → w1.heap[p.blk]? = some (.cells c1 ee (0, 0)) → c1.size = p.size → p.off + a.off + len * i.size + k + l.length ≤ p.size →
            ∃ w2 c2, (storeCells ⟨p.blk, p.off + a.off + len * i.size, none⟩ l k).run P w1 = .ok () w2 ∧ w2.heap[p.blk]? = some (.cells c2 ee (0, 0)) ∧ c2.size = p.size ∧ (∀ m, m ≠ p.blk → w2.heap[m]? = w1.heap[m]?) ∧ w2.os = w1.os ∧ w2.tape = w1.tape ∧ w2.output = w1.output ∧ w2.heap.size = w1.heap.size ∧
              (∀ j, j < p.off + a.off + len * i.size + k → c2[j]? = c1[j]?) ∧ (∀ (j : Nat) u, l[j]? = some u → c2[p.off + a.off + len * i.size + k + j]? = some u) := by
          intro l
          induction l with
          | nil => intro k w1 c1 _ hh1 hs1 _; exact ⟨w1, c1, rfl, hh1, hs1, fun _ _ => rfl, rfl, rfl, rfl, rfl, fun _ _ => rfl, fun j u hj => by simp at hj⟩
          | cons u l ih =>
            intro k w1 c1 hflat hh1 hs1 hsz
            simp only [List.length_cons] at hsz
            have hlt : p.off + a.off + len * i.size + k < c1.size := by omega
            have hcell : w1.cell? ⟨p.blk, p.off + a.off + len * i.size + k, none⟩ = some c1[p.off + a.off + len * i.size + k] := by rw [cell_of_heap hh1]; exact Array.getElem?_eq_getElem hlt
            have hnf : w1.frozen? ⟨p.blk, p.off + a.off + len * i.size + k, none⟩ = false := by simp [World.frozen?, hh1]
            have hset : (w1.setCell ⟨p.blk, p.off + a.off + len * i.size + k, none⟩ u).heap[p.blk]? = some (.cells (c1.setIfInBounds (p.off + a.off + len * i.size + k) u) ee (0, 0)) := by
              simp [World.setCell, Array.getElem?_modify, hh1]
            obtain ⟨w2, c2, hrun, hh2, hs2, hother, ho, ht, hout, hsize, hlow, hat⟩ := ih (k + 1) (w1.setCell ⟨p.blk, p.off + a.off + len * i.size + k, none⟩ u) _ (fun y hy => hflat y (by simp [hy])) hset (by simpa using hs1) (by omega)
            refine ⟨w2, c2, ?_, hh2, hs2, ?_, ho, ht, hout, ?_, ?_, ?_⟩
            · rw [storeCells]
              simp only [Sem.run_bind]
              rw [addr_add, run_store_flat (hflat u (by simp)) hcell hnf, Result.andThen_ok]
              exact hrun
            · intro m hm
              rw [hother m hm]
              exact Below.heap_setCell _ _ _ _ hm
            · rw [hsize]; simp [World.setCell]
            · intro j hj
              rw [hlow j (by omega), Array.getElem?_setIfInBounds, if_neg (by omega)]
            · intro j y hy
              cases j with
              | zero =>
                simp at hy
                subst hy
                rw [Nat.add_zero, hlow _ (by omega), Array.getElem?_setIfInBounds]
                simp [hlt]
              | succ j =>
                have := hat j y (by simpa using hy)
                rw [show p.off + a.off + len * i.size + k + (j + 1) = p.off + a.off + len * i.size + (k + 1) + j by omega]
                exact this
        have hcle : (len + n) * i.size ≤ c * i.size := Nat.mul_le_mul_right _ hle
        rw [Nat.add_mul] at hcle
        obtain ⟨w2, c2, hrun2, hh2, hs2, hother, ho, ht, hout, hsize, hlow, hat⟩ := hst new' 0 w cc (fun u hu' => by
          obtain ⟨j, hj⟩ := List.getElem?_of_mem hu'
          have hjl : j < new.length := by rw [← hnr.1]; exact (List.getElem?_eq_some_iff.1 hj).1
          obtain ⟨y, hy, hs⟩ := hnr.2 j new[j] (List.getElem?_eq_getElem hjl)
          rw [hj] at hy
          simp at hy
          subst hy
          exact hs.flat.2) hh hcs (by rw [hnl']; omega)
        -- the world behind: nothing that is known has turned
        have hr2 : Rel O G ro w0 β (O.kill h a.block) w2 := by
          refine ⟨by rw [hnk]; exact r.len, ⟨by rw [ho]; exact r.below.os, by rw [ht]; exact r.below.tape, by rw [hout]; exact r.below.output, by rw [hsize]; exact r.below.size, fun m hm => ?_⟩, r.glob, r.own, ?_, ?_, by rw [hnk]; exact r.ro_le, ?_⟩
          · rw [hother m (by have := r.own _ p hp hro'; omega)]
            exact r.below.block m hm
          · intro b1 p1 hp1
            obtain ⟨c1, e1, fz1, hh1, hs1, hf1, hc1⟩ := r.cells b1 p1 hp1
            by_cases hb : p1.blk = p.blk
            · rw [hb, hh] at hh1
              simp only [Option.some.injEq, Obj.cells.injEq] at hh1
              obtain ⟨rfl, rfl, rfl⟩ := hh1
              refine ⟨c2, ee, (0, 0), by rw [hb]; exact hh2, by rw [hs2, ← hs1, hcs], fun _ => rfl, fun o' y hy => ?_⟩
              rw [L.cell_kill] at hy
              split at hy
              · simp at hy
              · rename_i hne
                exact absurd (r.inj _ b1 p p1 hp hp1 hal (L.cell_alive _ _ _ _ hy) hro' hb.symm).symm hne
            · refine ⟨c1, e1, fz1, by rw [hother _ hb]; exact hh1, hs1, hf1, fun o' y hy => ?_⟩
              rw [L.cell_kill] at hy
              split at hy
              · simp at hy
              · exact hc1 o' y hy
          · intro b1 b2 p1 p2 hp1 hp2 a1 a2 hr1 hb
            rw [L.alive_kill] at a1 a2
            split at a1
            · simp at a1
            · split at a2
              · simp at a2
              · exact r.inj b1 b2 p1 p2 hp1 hp2 a1 a2 hr1 hb
          · intro k q hk
            obtain ⟨e1, e2⟩ := r.ext k q hk
            refine ⟨by rw [hother k (fun e => e2 _ p hp hal e.symm)]; exact e1, fun b1 p1 hp1 a1 => ?_⟩
            rw [L.alive_kill] at a1
            split at a1
            · simp at a1
            · exact e2 b1 p1 hp1 a1
        refine ⟨β ++ [⟨p.blk, p.off + a.off, p.size⟩], .slice (some ⟨p.blk, p.off + a.off, none⟩) (len + n) c, w2, room hle w2 hrun2, List.prefix_append _ _, ?_, ?_⟩
        · -- the new number
          have hpre : β <+: β ++ [⟨p.blk, p.off + a.off, p.size⟩] := List.prefix_append _ _
          have hl2 := hr2.len
          refine ⟨by simp [hl2, L.next_new], hr2.below, ?_, ?_, ?_, ?_, by rw [L.next_new]; have := hr2.ro_le; omega, ?_⟩
          · intro g hg
            obtain ⟨q, hq, rest⟩ := hr2.glob g hg
            exact ⟨q, by rw [List.getElem?_append_left (List.getElem?_eq_some_iff.1 hq).1]; exact hq, rest⟩
          · intro b1 p1 hp1 hro1
            rcases place_snoc hp1 with ⟨hp1, _⟩ | ⟨_, rfl⟩
            · exact hr2.own b1 p1 hp1 hro1
            · exact r.own _ p hp hro'
          · intro b1 p1 hp1
            rcases place_snoc hp1 with ⟨hp1, hb⟩ | ⟨hb, rfl⟩
            · obtain ⟨c1, e1, fz1, hh1, hs1, hf1, hc1⟩ := hr2.cells b1 p1 hp1
              refine ⟨c1, e1, fz1, hh1, hs1, hf1, fun o' y hy => ?_⟩
              rw [L.cell_new, if_neg (by omega)] at hy
              obtain ⟨y', g1, g2⟩ := hc1 o' y hy
              exact ⟨y', g1, g2.mono hpre⟩
            · refine ⟨c2, ee, (0, 0), hh2, hs2, fun _ => rfl, fun o' y hy => ?_⟩
              rw [L.cell_new, if_pos (by omega)] at hy
              obtain ⟨y', g1, g2⟩ := (hor.append hnr).2 o' y hy
              refine ⟨y', ?_, g2.mono hpre⟩
              simp only
              by_cases ho' : o' < old'.length
              · rw [List.getElem?_append_left ho'] at g1
                have := hocell o' y' g1
                rw [cell_of_heap hh] at this
                rw [hlow _ (by omega)]
                exact this
              · rw [List.getElem?_append_right (by omega)] at g1
                have := hat _ y' g1
                rw [Nat.add_zero, hol'] at this
                rw [show p.off + a.off + o' = p.off + a.off + len * i.size + (o' - len * i.size) by omega]
                exact this
          · intro b1 b2 p1 p2 hp1 hp2 a1 a2 hr1 hb
            rw [L.alive_new] at a1 a2
            rcases place_snoc hp1 with ⟨hp1, hb1⟩ | ⟨hb1, rfl⟩
            · rw [if_neg (by omega)] at a1
              rcases place_snoc hp2 with ⟨hp2, hb2⟩ | ⟨hb2, rfl⟩
              · rw [if_neg (by omega)] at a2
                exact hr2.inj b1 b2 p1 p2 hp1 hp2 a1 a2 hr1 hb
              · rw [L.alive_kill] at a1
                split at a1
                · simp at a1
                · rename_i hne
                  exact absurd (r.inj b1 _ p1 p hp1 hp a1 hal hr1 hb) hne
            · rcases place_snoc hp2 with ⟨hp2, hb2⟩ | ⟨hb2, rfl⟩
              · rw [if_neg (by omega), L.alive_kill] at a2
                split at a2
                · simp at a2
                · rename_i hne
                  exact absurd (r.inj _ b2 p p2 hp hp2 hal a2 hro' hb).symm hne
              · omega
          · intro k q hk
            obtain ⟨e1, e2⟩ := hr2.ext k q hk
            refine ⟨e1, fun b1 p1 hp1 a1 => ?_⟩
            rw [L.alive_new] at a1
            rcases place_snoc hp1 with ⟨hp1, hb1⟩ | ⟨hb1, rfl⟩
            · rw [if_neg (by omega)] at a1
              exact e2 b1 p1 hp1 a1
            · exact (r.ext k q hk).2 _ p hp hal
        · refine (show SR _ (.slice (some ⟨O.next h, 0, some i.size⟩) (len + n) 0) _ from ⟨⟨p.blk, p.off + a.off, p.size⟩, c, i.size, last_place r.len, rfl, rfl, hle, ?_, fun h => absurd rfl h⟩)
          simp only
          omega
      · have hk : Rel O G ro w0 β (O.kill h a.block) w := by
          refine ⟨by rw [hnk]; exact r.len, r.below, r.glob, r.own, ?_, ?_, by rw [hnk]; exact r.ro_le, ?_⟩
          · intro b1 p1 hp1
            obtain ⟨c1, e1, fz1, hh1, hs1, hf1, hc1⟩ := r.cells b1 p1 hp1
            refine ⟨c1, e1, fz1, hh1, hs1, hf1, fun o' y hy => ?_⟩
            rw [L.cell_kill] at hy
            split at hy
            · simp at hy
            · exact hc1 o' y hy
          · intro b1 b2 p1 p2 hp1 hp2 a1 a2 hr1 hb
            rw [L.alive_kill] at a1 a2
            split at a1
            · simp at a1
            · split at a2
              · simp at a2
              · exact r.inj b1 b2 p1 p2 hp1 hp2 a1 a2 hr1 hb
          · intro k q hk
            obtain ⟨e1, e2⟩ := r.ext k q hk
            refine ⟨e1, fun b1 p1 hp1 a1 => ?_⟩
            rw [L.alive_kill] at a1
            split at a1
            · simp at a1
            · exact e2 b1 p1 hp1 a1
        have := nogrow (by omega) (O.kill h a.block) hk
        rw [hnk] at this
        exact this
    · rw [if_neg hc0] at hv
      have hcc := hcap hc0
      subst hcc
      split at hv
      · rename_i hle
        split at hv
        case h_2 => simp at hv
        rename_i _ h1 hput
        simp only [Option.some.injEq, Prod.mk.injEq] at hv
        obtain ⟨rfl, rfl⟩ := hv
        obtain ⟨w1, hrun1, hr1⟩ := puts_sim (P := P) L hp hro' new new' h h1 w (a.off + len * i.size) 0 hnr r (by simpa using hput)
        refine ⟨β, .slice (some ⟨p.blk, p.off + a.off, none⟩) (len + n) c, w1, room (by omega) w1 (by rw [Nat.add_assoc]; exact hrun1), List.prefix_rfl, hr1, ?_⟩
        exact (show SR β (.slice (some a) (len + n) (c + 1)) _ from ⟨p, c, i.size, hp, hz2, rfl, by omega, hfit, fun _ => rfl⟩)
      · rename_i hle
        simp only [Option.some.injEq, Prod.mk.injEq] at hv
        obtain ⟨rfl, rfl⟩ := hv
        exact nogrow (by omega) h r

end
end Go.Vm
