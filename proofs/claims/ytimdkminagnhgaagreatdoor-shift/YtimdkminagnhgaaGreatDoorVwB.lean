/-
  What a law of three numbers gives, whatever they are: the frame of its card. Own work.
-/
import Derived.Test.YtimdkminagnhgaaGreatDoorVwA
import Derived.Test.YtimdkminagnhgaaGreatDoorRows
import Derived.WalkKit
import Derived.ProofKit
import Derived.OpenShut
import Derived.Lib.LaidTab
import Derived.Carry
import Derived.Deep.DeepHandedRow
namespace Go.Proofs.YtimdkminagnhgaaGreatDoor
open Go.Vm Go.Proofs Go.RowKit Go.ChangeShapes Go.WideShapes Go.ChangeAt
set_option linter.unusedSimpArgs false
set_option linter.unusedVariables false
set_option maxRecDepth 100000

def I64 (n : Int) : Prop := -9223372036854775808 ≤ n ∧ n ≤ 9223372036854775807
/-- A law's call, of whatever numbers. -/
def LawI (f : FuncId) : Prop := ∀ (a b d : Int), I64 a → I64 b → I64 d → ∀ (c : CallT HpT), Lim Tryz.prog tO 3 okF c → ∃ h', c f [.int .i64 a, .int .i64 b, .int .i64 d] hp0 = some (.bool true, h')

theorem own_knob : ownKnob Tryz.prog.godebug = none := by kernel_rfl
theorem laid_out : laidOutB Tryz.prog = true := by kernel_rfl
theorem gPowT : (Tryz.prog.globals[0]?).map (·.type) = some 228 := by kernel_rfl
theorem cellsPow : Tryz.prog.cellsOf 228 = 20 := by kernel_rfl
theorem cellsU64 : Tryz.prog.cellsOf 221 = 1 := by kernel_rfl

theorem var_heap {W : World} {name : String} {g : Nat} {cs : Array Value} (hg : Tryz.prog.globalNamed name = some g) (h : W.var? Tryz.prog name = some cs) : ∃ e z, W.heap[g]? = some (.cells cs e z) := by
  unfold World.var? at h
  rw [hg] at h
  simp only [Option.bind_some] at h
  split at h
  · rename_i c e z hh
    simp only [Option.some.injEq] at h
    subst h
    exact ⟨e, z, hh⟩
  · simp at h

/-- What the tables are. -/
def Tabs (W : World) : Prop := ∃ t0 e0 z0 t1 e1 z1 t2 e2 z2, W.heap[0]? = some (.cells t0 e0 z0) ∧ W.heap[1]? = some (.cells t1 e1 z1) ∧ W.heap[2]? = some (.cells t2 e2 z2) ∧ ∀ i, i < 20 → t0[i]? = some (.int .u64 ((10 ^ i : Nat) : Int))

/-- What the rows' list gives. -/
theorem tabs_of {W : World} (h : laidMetH Tryz.prog Rows.shiftRow.laid W) : Tabs W := by
  have h' : laidMet Tryz.prog Rows.shiftRow.laid W := h
  obtain ⟨ps, ⟨g1, t1, cs1, f1, p1, q1, hg1, ht1, hv1, hd1, ⟨g2, t2, cs2, f2, p2, q2, hg2, ht2, hv2, hd2, ⟨g0, t0, cs0, f0, p0, q0, hg0, ht0, hv0, hd0, _, _⟩, _⟩, _⟩, _⟩ := h'
  have k1 := (by kernel_rfl : Tryz.prog.globalNamed _ = some 1).symm.trans hg1
  have k2 := (by kernel_rfl : Tryz.prog.globalNamed _ = some 2).symm.trans hg2
  have k0 := (by kernel_rfl : Tryz.prog.globalNamed _ = some 0).symm.trans hg0
  obtain rfl := Option.some.inj k1
  obtain rfl := Option.some.inj k2
  obtain rfl := Option.some.inj k0
  obtain ⟨e1, z1, h1⟩ := var_heap hg1 hv1
  obtain ⟨e2, z2, h2⟩ := var_heap hg2 hv2
  obtain ⟨e0, z0, h0⟩ := var_heap hg0 hv0
  obtain rfl := Option.some.inj (gPowT.symm.trans ht0)
  refine ⟨cs0, e0, z0, cs1, e1, z1, cs2, e2, z2, h0, h1, h2, ?_⟩
  have hc := Lib.cells_of_tab (k := .u64) (zs := (List.range 20).map fun i => ((10 ^ i : Nat) : Int)) Tryz.underlying228 Tryz.underlying221 cellsU64 cellsPow hd0
  intro i hi
  have : cs0.toList[i]? = some (.int .u64 ((10 ^ i : Nat) : Int)) := by
    rw [hc]
    simp [hi]
  simpa using this

/-- What the calls give, for all numbers. -/
theorem contract3 {s : ChangeSpec} {f : FuncId} {fn : Func} (hp : fn.params = #[3, 3, 3]) (hrt : fn.resultTypes = #[4]) (hsv : s.vars = []) (hsf : ∀ (H : Type) (d0 d1 d2 : DataW H), s.fn H [d0, d1, d2] = { results := [.lit (.bool true)], args := [d0, d1, d2] }) (hl : LawI f)
    (H : Type) (enc : TypeId × Value → H) (W : World) (base : Nat) (args : Array Value) (ds gs : List (DataW H)) (before : List MemPlace)
    (hval : ∀ (j : Nat) t v, fn.params[j]? = some t → args[j]? = some v → Value.okWide Tryz.prog W .any base t v)
    (hW : DataW.Whole enc Tryz.prog fn.params.toList s.vars false W args.toList ds gs before) (hT : Tabs W) :
    Calls Tryz.prog f args W fun e W' => ∃ v, e = .returned v ∧ s.post enc Tryz.prog fn false true false false W args v W' := by
  have hW' := hW
  obtain ⟨p, q, hA, hV, rfl, hfz, hnd⟩ := hW
  rw [hp] at hA hval
  rw [hsv] at hV
  obtain ⟨v0, vs0, d0, ds0, p0, q0, hargs, rfl, rfl, h0, r0⟩ := trodAll_cons hA
  obtain ⟨v1, vs1, d1, ds1, p1, q1, rfl, rfl, rfl, h1, r1⟩ := trodAll_cons r0
  obtain ⟨v2, vs2, d2, ds2, p2, q2, rfl, rfl, rfl, h2, r2⟩ := trodAll_cons r1
  obtain ⟨rfl, rfl, rfl⟩ := trodAll_nil r2
  obtain rfl : args = #[v0, v1, v2] := by cases args; simp_all
  obtain ⟨rfl, rfl⟩ := trodVars_none hV
  obtain ⟨a0, rfl, rfl, rfl, w0⟩ := open_int Tryz.underlying3 (hval 0 3 v0 rfl rfl) h0
  obtain ⟨a1, rfl, rfl, rfl, w1⟩ := open_int Tryz.underlying3 (hval 1 3 v1 rfl rfl) h1
  obtain ⟨a2, rfl, rfl, rfl, w2⟩ := open_int Tryz.underlying3 (hval 2 3 v2 rfl rfl) h2
  simp only [List.append_nil] at hW'
  have fit : ∀ n, (Lit.int .i64 n).wf = true → I64 n := by
    intro n w
    simp [Lit.wf, IntKind.min, IntKind.max, IntKind.signed, IntKind.bits] at w
    unfold I64; omega
  obtain ⟨t0, e0, z0, t1, e1, z1, t2, e2, z2, k0, k1, k2, ht⟩ := hT
  refine (calls_0 k0 k1 k2 ht (ns := [a0, a1, a2]) (b := true) (hl a0 a1 a2 (fit _ w0) (fit _ w1) (fit _ w2))).mono fun e W' ⟨he, hg⟩ => ?_
  subst he
  refine ⟨_, rfl, [.lit (.int .i64 a0), .lit (.int .i64 a1), .lit (.int .i64 a2)], [], [], [], [], [], hW', ?_, ?_, ?_, hg.frame _, fun h => by cases h⟩
  · rw [List.append_nil, hsf, hrt]
    exact trodAll_cons_mk (shut_bool Tryz.underlying4 _) trodAll_mk0
  · rw [List.append_nil, hsf, hp]
    exact trodAll_cons_mk (shut_int Tryz.underlying3 w0) (trodAll_cons_mk (shut_int Tryz.underlying3 w1) (trodAll_cons_mk (shut_int Tryz.underlying3 w2) trodAll_mk0))
  · rw [List.append_nil, hsf, hsv]
    rfl

end Go.Proofs.YtimdkminagnhgaaGreatDoor
