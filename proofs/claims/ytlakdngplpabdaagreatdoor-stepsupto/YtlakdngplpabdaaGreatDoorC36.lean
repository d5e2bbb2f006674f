/- Own work. -/
import Derived.Test.YtlakdngplpabdaaGreatDoorC35
import Derived.Test.YtlakdngplpabdaaGreatDoorRows
import Derived.WalkKit
import Derived.ProofKit
import Derived.OpenShut
import Derived.Lib.LaidTab
import Derived.Deep.Slices
import Derived.Carry
import Derived.Deep.DeepHandedRow
namespace Go.Proofs.YtlakdngplpabdaaGreatDoor
open Go.Vm Go.Proofs Go.RowKit Go.ChangeShapes Go.WideShapes
set_option linter.unusedSimpArgs false
set_option linter.unusedVariables false
set_option maxRecDepth 4000
theorem row_at {p : Program} {fits : TypeId -> Bool} {d : Nat} {e : TypeId} {count off n : Nat} (h : rowAt p fits d e count off n = true) : off <= count * p.cellsOf e := by
 cases d with
 | zero => simp [rowAt] at h
 | succ d =>
  unfold rowAt at h
  simp only at h
  by_cases hs : p.cellsOf e = 0
  . rw [if_pos hs] at h; simp at h
  . rw [if_neg hs] at h
    have key : off / p.cellsOf e < count \/ (off % p.cellsOf e = 0 /\ off / p.cellsOf e <= count) := by
     simp only [Bool.or_eq_true, Bool.and_eq_true, beq_iff_eq, decide_eq_true_eq] at h
     rcases h with ⟨⟨h1, h2⟩, _⟩ | ⟨h1, _⟩
     . exact .inr ⟨h1, by omega⟩
     . exact .inl h1
    have hd := Nat.div_add_mod off (p.cellsOf e)
    have hm := Nat.mod_lt off (Nat.pos_of_ne_zero hs)
    rcases key with k | ⟨k1, k2⟩
    . have : p.cellsOf e * (off / p.cellsOf e + 1) <= p.cellsOf e * count := Nat.mul_le_mul_left _ k
      rw [Nat.mul_add, Nat.mul_one] at this
      rw [Nat.mul_comm]; omega
    . have : p.cellsOf e * (off / p.cellsOf e) <= p.cellsOf e * count := Nat.mul_le_mul_left _ k2
      rw [Nat.mul_comm]; omega
theorem lies_at {p : Program} {e : TypeId} {count off : Nat} : ∀ (d : Nat) (u : TypeId) (n : Nat), liesAt p d e count off u n = true -> off <= count * p.cellsOf e := by
 intro d
 induction d with
 | zero => intro u n h; simp [liesAt] at h
 | succ d ih =>
  intro u n h
  unfold liesAt at h
  simp only [Bool.or_eq_true] at h
  rcases h with h | h
  . exact row_at h
  . split at h
    . exact ih _ _ h
    . simp at h
theorem bulk_part {H : Type} {d : DataW H} : ∀ {l : List (DataW H)}, d ∈ l -> Rows.uptoBulk d <= Rows.uptoBulkAll l := by
 intro l
 induction l with
 | nil => intro h; simp at h
 | cons x r ih =>
  intro h
  rw [Rows.uptoBulkAll]
  rcases List.mem_cons.1 h with rfl | h
  . omega
  . have := ih h; omega
theorem bulk_len {H : Type} {k : Nat} : ∀ (l : List (DataW H)), (∀ d ∈ l, k <= Rows.uptoBulk d) -> l.length * k <= Rows.uptoBulkAll l := by
 intro l
 induction l with
 | nil => intro _; simp
 | cons x r ih =>
  intro h
  rw [Rows.uptoBulkAll, List.length_cons, Nat.add_mul]
  have := ih fun d hd => h d (List.mem_cons_of_mem _ hd)
  have := h x (List.mem_cons_self ..)
  omega
theorem cells27 : Tryz.prog.cellsOf 27 = 5 := by kernel_rfl
theorem cells3 : Tryz.prog.cellsOf 3 = 1 := by kernel_rfl
theorem cells9 : Tryz.prog.cellsOf 9 = 1 := by kernel_rfl
theorem len5 {l : List Value} (h : l.length = 5) : ∃ a b c d e, l = [a, b, c, d, e] := by
 match l, h with
 | [a, b, c, d, e], _ => exact ⟨a, b, c, d, e, rfl⟩
section
variable {H : Type} {enc : TypeId × Value -> H} {W : World} {base : Nat} {sp : Nat -> Bool} {held : Bool}
theorem open_op {n : Nat} {cs : List Value} {x : DataW H × List MemPlace} (h : DataW.trod enc Tryz.prog W base sp held n 27 cs = some x) :
 ∃ o : OpT, cs = o.cells /\ I64 o.a /\ I64 o.b /\ Rows.uptoBulk x.1 = o.s.size + 6 := by
 obtain ⟨xs, m, _, hx, hl, hlen, hf⟩ := DataW.trod_struct Tryz.underlying27 h
 rw [cells27] at hl
 obtain ⟨v0, v1, v2, v3, v4, rfl⟩ := len5 hl
 have f0 : DataW.trod enc Tryz.prog W base sp held m 3 (([v0, v1, v2, v3, v4].drop 0).take (Tryz.prog.cellsOf 3)) = xs[0]? := hf 0 _ rfl
 have f1 : DataW.trod enc Tryz.prog W base sp held m 3 (([v0, v1, v2, v3, v4].drop 1).take (Tryz.prog.cellsOf 3)) = xs[1]? := hf 1 _ rfl
 have f2 : DataW.trod enc Tryz.prog W base sp held m 3 (([v0, v1, v2, v3, v4].drop 2).take (Tryz.prog.cellsOf 3)) = xs[2]? := hf 2 _ rfl
 have f3 : DataW.trod enc Tryz.prog W base sp held m 3 (([v0, v1, v2, v3, v4].drop 3).take (Tryz.prog.cellsOf 3)) = xs[3]? := hf 3 _ rfl
 have f4 : DataW.trod enc Tryz.prog W base sp held m 9 (([v0, v1, v2, v3, v4].drop 4).take (Tryz.prog.cellsOf 9)) = xs[4]? := hf 4 _ rfl
 rw [cells3] at f0 f1 f2 f3
 rw [cells9] at f4
 simp only [List.drop_zero, List.drop_succ_cons, List.take_succ_cons, List.take_zero] at f0 f1 f2 f3 f4
 have hlen : xs.length = 5 := hlen
 match xs, hlen with
 | [y0, y1, y2, y3, y4], _ =>
  simp only [List.getElem?_cons_zero, List.getElem?_cons_succ] at f0 f1 f2 f3 f4
  obtain ⟨k, e0, r0, w0⟩ := DataW.trod_int Tryz.underlying3 f0
  obtain ⟨a, e1, r1, w1⟩ := DataW.trod_int Tryz.underlying3 f1
  obtain ⟨b, e2, r2, w2⟩ := DataW.trod_int Tryz.underlying3 f2
  obtain ⟨c, e3, r3, w3⟩ := DataW.trod_int Tryz.underlying3 f3
  obtain ⟨s, e4, r4, w4⟩ := DataW.trod_string Tryz.underlying9 f4
  simp only [List.cons.injEq, and_true] at e0 e1 e2 e3 e4
  subst e0 e1 e2 e3 e4 r0 r1 r2 r3 r4
  refine ⟨⟨k, a, b, c, s⟩, rfl, ?_, ?_, ?_⟩
  . simp [Lit.wf, IntKind.min, IntKind.max, IntKind.signed, IntKind.bits] at w1
    unfold I64; simp only; omega
  . simp [Lit.wf, IntKind.min, IntKind.max, IntKind.signed, IntKind.bits] at w2
    unfold I64; simp only; omega
  . subst hx
    simp [Rows.uptoBulk, Rows.uptoBulkAll]
    omega
theorem open_script {B : Nat} (hB : B < 9000000) {v : Value} {d : DataW H} {ps : List MemPlace} (hv : Value.okWide Tryz.prog W .any base 22 v) (h : DataW.Trod enc Tryz.prog W 0 (fun _ => true) true 22 v d ps) (hb : Rows.uptoBulk d <= B) :
 ∃ ops, Scr W v ops /\ ops.length < 9000000 /\ ∀ o ∈ ops, OpOk o := by
 obtain ⟨fuel, hf⟩ := h
 obtain ⟨a0, l0, c0, rfl⟩ := okWide_slice Tryz.underlying22 hv
 rcases Go.Deep.open_slice Tryz.underlying22 hf with ⟨h1, h2⟩ | ⟨a, len, cap, m, n, D, Pl, h1, _, hle, _, hm, hx, hel⟩
 . simp [Value.cells] at h1
   obtain ⟨rfl, rfl, rfl⟩ := h1
   exact ⟨[], .inl ⟨rfl, rfl⟩, by simp, by simp⟩
 . simp [Value.cells] at h1
   obtain ⟨rfl, rfl, rfl⟩ := h1
   rw [if_pos rfl] at hm
   subst hm
   simp only [Prod.mk.injEq] at hx
   obtain ⟨rfl, _⟩ := hx
   have hok : W.has Tryz.prog .any base a 27 m := by
    simp only [Value.okWide, Tryz.underlying22, Cell.okWide, Cell.ok] at hv
    exact hv.2.2
   obtain ⟨_, hsp, row, cells, hsh, hli⟩ := hok
   obtain ⟨blk, off, spot⟩ := a
   simp only at hsp hsh hli
   subst hsp
   have hoff := lies_at _ _ _ hli
   have hdm := Nat.div_mul_le_self cells (Tryz.prog.cellsOf row)
   simp only [World.shape?] at hsh
   cases hh : W.heap[blk]? with
   | none => rw [hh] at hsh; simp at hsh
   | some ob =>
    rw [hh] at hsh
    cases ob with
    | cells cs es zs =>
     simp only [Option.some.injEq, Prod.mk.injEq] at hsh
     obtain ⟨rfl, rfl⟩ := hsh
     have at_ : ∀ k, W.cell? ((⟨blk, off, none⟩ : Addr).add k) = cs[off + k]? := by
      intro k
      unfold Addr.add
      split
      . rename_i e; subst e; simp [World.cell?, hh]
      . simp [World.cell?, hh]
     have : Inhabited OpT := ⟨⟨0, 0, 0, 0, ByteArray.empty⟩⟩
     obtain ⟨f, hfo⟩ := Go.Deep.choose_lt (α := OpT) (p := fun i o => (∀ (j : Nat) u, o.cells[j]? = some u -> cs[off + (i * 5 + j)]? = some u) /\ I64 o.a /\ I64 o.b /\ Rows.uptoBulk (D i) = o.s.size + 6) (n := m) (fun i hi => by
      obtain ⟨l, hl, hd⟩ := hel i hi
      obtain ⟨o, rfl, ha, hb', hu⟩ := open_op hd
      refine ⟨o, fun j u hj => ?_, ha, hb', hu⟩
      rw [cells27] at hl
      simp only [World.cells?, Nat.zero_le, if_true] at hl
      have hj5 : j < 5 := by
       have := (List.getElem?_eq_some_iff.1 hj).1
       simpa [OpT.cells] using this
      obtain ⟨b, hb1, hb2⟩ := Go.Lib.mapM_at hl j j (by simp [hj5])
      rw [hj] at hb1
      obtain rfl := Option.some.inj hb1
      rw [Go.Deep.add_add, at_] at hb2
      exact hb2)
     refine ⟨(List.range l0).map f, .inr ⟨blk, off, m, cs, es, zs, by simp, by simpa using hle, hh, ?_, ?_⟩, ?_, ?_⟩
     . cases m with
       | zero => omega
       | succ m =>
        have h4 := (hfo m (by omega)).1 4 (.string (f m).s) rfl
        have := (Array.getElem?_eq_some_iff.1 h4).1
        omega
     . intro i o hio
       simp only [List.getElem?_map, Option.map_eq_some_iff] at hio
       obtain ⟨i', hi', rfl⟩ := hio
       have hil : i < l0 := by
        have := (List.getElem?_eq_some_iff.1 hi').1
        simpa using this
       have : i' = i := by
        rw [List.getElem?_range hil] at hi'
        exact (Option.some.inj hi').symm
       subst this
       exact (hfo _ (by omega)).1
     . have h6 := bulk_len (k := 6) ((List.range l0).map D) (fun d hd => by
        obtain ⟨i, hi, rfl⟩ := List.mem_map.1 hd
        have := (hfo i (by have := List.mem_range.1 hi; omega)).2.2.2
        omega)
       simp only [List.length_map, List.length_range] at h6 ⊢
       rw [Rows.uptoBulk] at hb
       omega
     . intro o hio
       obtain ⟨i, hi, rfl⟩ := List.mem_map.1 hio
       have hi' := List.mem_range.1 hi
       have q := hfo i (by omega)
       have hp := bulk_part (List.mem_map.2 ⟨i, hi, rfl⟩ : D i ∈ (List.range l0).map D)
       rw [Rows.uptoBulk] at hb
       exact ⟨by omega, q.2.1, q.2.2.1⟩
    | _ => simp at hsh
end
end Go.Proofs.YtlakdngplpabdaaGreatDoor
namespace Go.Proofs.YtlakdngplpabdaaGreatDoor
open Go.Vm Go.Proofs Go.RowKit Go.ChangeShapes Go.WideShapes Go.ChangeAt
set_option linter.unusedSimpArgs false
set_option linter.unusedVariables false
set_option maxRecDepth 100000
theorem own_knob : ownKnob Tryz.prog.godebug = none := by kernel_rfl
theorem laid_out : laidOutB Tryz.prog = true := by kernel_rfl
theorem gPow : Tryz.prog.globalNamed "internal/strconv.uint64pow10" = some 0 := by kernel_rfl
theorem g32 : Tryz.prog.globalNamed "math/bits.deBruijn32tab" = some 1 := by kernel_rfl
theorem g64 : Tryz.prog.globalNamed "math/bits.deBruijn64tab" = some 2 := by kernel_rfl
theorem gPowT : (Tryz.prog.globals[0]?).map (·.type) = some 178 := by kernel_rfl
theorem cells178 : Tryz.prog.cellsOf 178 = 20 := by kernel_rfl
theorem cells171 : Tryz.prog.cellsOf 171 = 1 := by kernel_rfl
theorem var_heap {W : World} {name : String} {g : Nat} {cs : Array Value} (hg : Tryz.prog.globalNamed name = some g) (h : W.var? Tryz.prog name = some cs) : ∃ e z, W.heap[g]? = some (.cells cs e z) := by
 unfold World.var? at h
 rw [hg] at h
 simp only [Option.bind_some] at h
 split at h
 . rename_i c e z hh
   simp only [Option.some.injEq] at h
   subst h
   exact ⟨e, z, hh⟩
 . simp at h
theorem tabs_of {W : World} (h : laidMetH Tryz.prog Rows.readsUptoRow.laid W) : Tabs W := by
 have h' : laidMet Tryz.prog Rows.readsUptoRow.laid W := h
 obtain ⟨ps, ⟨g1, t1, cs1, f1, p1, q1, hg1, ht1, hv1, hd1, ⟨g2, t2, cs2, f2, p2, q2, hg2, ht2, hv2, hd2, ⟨g0, t0, cs0, f0, p0, q0, hg0, ht0, hv0, hd0, _, _⟩, _⟩, _⟩, _⟩ := h'
 obtain ⟨e1, z1, h1⟩ := var_heap g32 hv1
 obtain ⟨e2, z2, h2⟩ := var_heap g64 hv2
 obtain ⟨e0, z0, h0⟩ := var_heap gPow hv0
 obtain rfl := Option.some.inj (gPow.symm.trans hg0)
 obtain rfl := Option.some.inj (gPowT.symm.trans ht0)
 refine ⟨cs0, e0, z0, cs1, e1, z1, cs2, e2, z2, h0, h1, h2, ?_⟩
 have hc := Lib.cells_of_tab (k := .u64) (zs := (List.range 20).map fun i => ((10 ^ i : Nat) : Int)) Tryz.underlying178 Tryz.underlying171 cells171 cells178 hd0
 intro i hi
 have : cs0.toList[i]? = some (.int .u64 ((10 ^ i : Nat) : Int)) := by
  rw [hc]
  simp [hi]
 simpa using this
theorem contract {s : ChangeSpec} {f : FuncId} {fn : Func} (hp : fn.params = #[22]) (hrt : fn.resultTypes = #[4]) (hsv : s.vars = []) (hsf : ∀ (H : Type) (d : DataW H), s.fn H [d] = { results := [.lit (.bool true)], args := [d] }) (hl : LawOk f)
 (H : Type) (enc : TypeId × Value -> H) (W : World) (base : Nat) (args : Array Value) (ds gs : List (DataW H)) (before : List MemPlace)
 (hval : ∀ (j : Nat) t v, fn.params[j]? = some t -> args[j]? = some v -> Value.okWide Tryz.prog W .any base t v)
 (hW : DataW.Whole enc Tryz.prog fn.params.toList s.vars false W args.toList ds gs before) (hk : Rows.uptoSmall H (ds ++ gs) = true) (hT : Tabs W) :
 Calls Tryz.prog f args W fun e W' => ∃ v, e = .returned v /\ s.post enc Tryz.prog fn false true false false W args v W' := by
 have hW' := hW
 obtain ⟨p, q, hA, hV, rfl, hfz, hnd⟩ := hW
 rw [hp] at hA hval
 rw [hsv] at hV
 obtain ⟨v0, vs0, d0, ds0, p0, q0, hargs, rfl, rfl, h0, r0⟩ := trodAll_cons hA
 obtain ⟨rfl, rfl, rfl⟩ := trodAll_nil r0
 obtain rfl : args = #[v0] := by cases args; simp_all
 obtain ⟨rfl, rfl⟩ := trodVars_none hV
 simp only [List.append_nil] at hW' hk
 have hb := of_decide_eq_true hk
 simp only [Rows.uptoBulkAll, Nat.add_zero] at hb
 obtain ⟨ops, hs, hn, ho⟩ := open_script (by decide) (hval 0 22 v0 rfl rfl) h0 hb
 refine (law_calls hl hT hs hn ho).mono fun e W' ⟨he, hg⟩ => ?_
 subst he
 have hlt : ∀ x ∈ p0, x.block < W.heap.size := fun x hx => by simpa using hW'.lt x hx
 refine ⟨_, rfl, [d0], [], p0, [], p0, [], hW', ?_, ?_, ?_, hg.frame _, fun h => by cases h⟩
 . rw [List.append_nil, hsf, hrt]
   exact trodAll_cons_mk (shut_bool Tryz.underlying4 _) trodAll_mk0
 . rw [List.append_nil, hsf, hp]
   have ht := Below.trod laid_out (by kernel_rfl) (of_decide_eq_true (by kernel_rfl)) h0 hg hlt
   have := trodAll_cons_mk ht (trodAll_mk0 (enc := enc) (P := Tryz.prog))
   rw [List.append_nil] at this
   exact this
 . rw [List.append_nil, hsf, hsv]
   rfl
theorem laid_world (os : Os) : ∃ w0 : World, w0.os = os /\ (w0.forCall (fun _ _ => 0) ⟨#[], #[.slice none 0 0], []⟩).variablesB Tryz.prog = true /\
 ((w0.forCall (fun _ _ => 0) ⟨#[], #[.slice none 0 0], []⟩).heap.toList.drop Tryz.prog.globals.size).take ((begin Tryz.prog (fun _ _ => 0) default).world.heap.size - Tryz.prog.globals.size) =
   (begin Tryz.prog (fun _ _ => 0) default).world.heap.toList.drop Tryz.prog.globals.size /\
 Input.okWideB Tryz.prog (w0.forCall (fun _ _ => 0) ⟨#[], #[.slice none 0 0], []⟩) 3 ⟨#[], #[.slice none 0 0], []⟩ = true /\
 Input.okWideB Tryz.prog (w0.forCall (fun _ _ => 0) ⟨#[], #[.slice none 0 0], []⟩) 4 ⟨#[], #[.slice none 0 0], []⟩ = true /\
 Input.okWideB Tryz.prog (w0.forCall (fun _ _ => 0) ⟨#[], #[.slice none 0 0], []⟩) 5 ⟨#[], #[.slice none 0 0], []⟩ = true /\
 laidMet Tryz.prog Rows.readsUptoRow.laid (w0.forCall (fun _ _ => 0) ⟨#[], #[.slice none 0 0], []⟩).memory /\
 ∀ (H : Type) (enc : TypeId × Value -> H), DataW.whole enc Tryz.prog (w0.forCall (fun _ _ => 0) ⟨#[], #[.slice none 0 0], []⟩).memory [22] [] false #[Value.slice none 0 0].toList 8 = some ([.nil], [], []) := by
 refine ⟨{ World.holding Tryz.prog os ⟨#[], #[], []⟩ with heap := ((((World.holding Tryz.prog os ⟨#[], #[], []⟩).heap.modify 0 (fun  | .cells _ t frozen => .cells #[.int .u64 1, .int .u64 10, .int .u64 100, .int .u64 1000, .int .u64 10000, .int .u64 100000, .int .u64 1000000, .int .u64 10000000, .int .u64 100000000, .int .u64 1000000000, .int .u64 10000000000, .int .u64 100000000000, .int .u64 1000000000000, .int .u64 10000000000000, .int .u64 100000000000000, .int .u64 1000000000000000, .int .u64 10000000000000000, .int .u64 100000000000000000, .int .u64 1000000000000000000, .int .u64 10000000000000000000] t frozen  | o => o)).modify 1 (fun  | .cells _ t frozen => .cells #[.int .u8 0, .int .u8 1, .int .u8 28, .int .u8 2, .int .u8 29, .int .u8 14, .int .u8 24, .int .u8 3, .int .u8 30, .int .u8 22, .int .u8 20, .int .u8 15, .int .u8 25, .int .u8 17, .int .u8 4, .int .u8 8, .int .u8 31, .int .u8 27, .int .u8 13, .int .u8 23, .int .u8 21, .int .u8 19, .int .u8 16, .int .u8 7, .int .u8 26, .int .u8 12, .int .u8 18, .int .u8 6, .int .u8 11, .int .u8 5, .int .u8 10, .int .u8 9] t frozen  | o => o)).modify 2 (fun  | .cells _ t frozen => .cells #[.int .u8 0, .int .u8 1, .int .u8 56, .int .u8 2, .int .u8 57, .int .u8 49, .int .u8 28, .int .u8 3, .int .u8 61, .int .u8 58, .int .u8 42, .int .u8 50, .int .u8 38, .int .u8 29, .int .u8 17, .int .u8 4, .int .u8 62, .int .u8 47, .int .u8 59, .int .u8 36, .int .u8 45, .int .u8 43, .int .u8 51, .int .u8 22, .int .u8 53, .int .u8 39, .int .u8 33, .int .u8 30, .int .u8 24, .int .u8 18, .int .u8 12, .int .u8 5, .int .u8 63, .int .u8 55, .int .u8 48, .int .u8 27, .int .u8 60, .int .u8 41, .int .u8 37, .int .u8 16, .int .u8 46, .int .u8 35, .int .u8 44, .int .u8 21, .int .u8 52, .int .u8 32, .int .u8 23, .int .u8 11, .int .u8 54, .int .u8 26, .int .u8 40, .int .u8 15, .int .u8 34, .int .u8 20, .int .u8 31, .int .u8 10, .int .u8 25, .int .u8 14, .int .u8 19, .int .u8 9, .int .u8 13, .int .u8 8, .int .u8 7, .int .u8 6] t frozen  | o => o)) }, rfl, by kernel_rfl, by kernel_rfl, by kernel_rfl, by kernel_rfl, by kernel_rfl, laidMet_of_run' 80 (by kernel_rfl) (by kernel_rfl), fun H enc => by kernel_rfl⟩
end Go.Proofs.YtlakdngplpabdaaGreatDoor
