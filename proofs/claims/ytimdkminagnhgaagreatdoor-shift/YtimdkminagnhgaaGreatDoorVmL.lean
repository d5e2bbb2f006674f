/-
  What code comes to, with fuel enough: rules. Own work.
-/
import Derived.Test.YtimdkminagnhgaaGreatDoorVmK
namespace Go.Vm

section
variable {P : Program} {H : Type} {O : HI H} {ro : Nat} {ok : FuncId → Bool}

/-- With fuel enough the code comes to this. -/
def Ev (P : Program) (O : HI H) (ro : Nat) (ok : FuncId → Bool) (c : Code) (s : Array Value × H) (e : Exit) (s' : Array Value × H) : Prop :=
  ∃ n, ∀ m, n ≤ m → codeA P O ro ok m c s = some (e, s')

/-- With fuel enough the call answers this. -/
def EvF (P : Program) (O : HI H) (ro : Nat) (ok : FuncId → Bool) (f : FuncId) (args : List Value) (h : H) (v : Value) (h' : H) : Prop :=
  ∃ n, ∀ m, n ≤ m → callA P O ro ok m f args h = some (v, h')

theorem Ev.of_succ {c : Code} {s s' : Array Value × H} {e : Exit} (n : Nat) (h : ∀ m, n ≤ m → codeA P O ro ok (m + 1) c s = some (e, s')) : Ev P O ro ok c s e s' :=
  ⟨n + 1, fun m hm => by
    obtain ⟨k, rfl⟩ : ∃ k, m = k + 1 := ⟨m - 1, by omega⟩
    exact h k (by omega)⟩

theorem Ev.skip (s : Array Value × H) : Ev P O ro ok .skip s .normal s := Ev.of_succ 0 fun _ _ => rfl
theorem Ev.ret (s : Array Value × H) : Ev P O ro ok .ret s .ret s := Ev.of_succ 0 fun _ _ => rfl
theorem Ev.exit (id : Nat) (s : Array Value × H) : Ev P O ro ok (.exit id) s (.exit id) s := Ev.of_succ 0 fun _ _ => rfl

theorem Ev.seq {x y : Code} {s s1 s2 : Array Value × H} {e : Exit} (h1 : Ev P O ro ok x s .normal s1) (h2 : Ev P O ro ok y s1 e s2) : Ev P O ro ok (.seq x y) s e s2 := by
  obtain ⟨n1, h1⟩ := h1
  obtain ⟨n2, h2⟩ := h2
  refine Ev.of_succ (max n1 n2) fun m hm => ?_
  simp only [codeA, h1 m (by omega), h2 m (by omega)]

theorem Ev.seq_out {x y : Code} {s s1 : Array Value × H} {e : Exit} (h1 : Ev P O ro ok x s e s1) (he : e ≠ .normal) : Ev P O ro ok (.seq x y) s e s1 := by
  obtain ⟨n1, h1⟩ := h1
  refine Ev.of_succ n1 fun m hm => ?_
  simp only [codeA, h1 m hm]
  cases e <;> first | (exact absurd rfl he) | rfl

theorem Ev.cond {c : Operand} {x y : Code} {s s1 : Array Value × H} {e : Exit} {b : Bool} (hc : evalT s.1 c = .bool b) (h1 : Ev P O ro ok (if b then x else y) s e s1) : Ev P O ro ok (.cond c x y) s e s1 := by
  obtain ⟨n1, h1⟩ := h1
  refine Ev.of_succ n1 fun m hm => ?_
  simp only [codeA, hc]
  cases b
  · exact h1 m hm
  · exact h1 m hm

def outOf (id : Nat) : Exit → Exit
  | .exit id' => if id' = id then .normal else .exit id'
  | e => e

theorem Ev.block {id : Nat} {x : Code} {s s1 : Array Value × H} {e : Exit} (h1 : Ev P O ro ok x s e s1) : Ev P O ro ok (.block id x) s (outOf id e) s1 := by
  obtain ⟨n1, h1⟩ := h1
  refine Ev.of_succ n1 fun m hm => ?_
  simp only [codeA, h1 m hm]
  cases e with
  | exit id' =>
    by_cases hid : id' = id
    · subst hid; simp [outOf]
    · simp [hid, outOf]
  | _ => simp [outOf]

theorem Ev.loop_next {x : Code} {s s1 s2 : Array Value × H} {e : Exit} (h1 : Ev P O ro ok x s .normal s1) (h2 : Ev P O ro ok (.loop x) s1 e s2) : Ev P O ro ok (.loop x) s e s2 := by
  obtain ⟨n1, h1⟩ := h1
  obtain ⟨n2, h2⟩ := h2
  refine Ev.of_succ (max n1 n2) fun m hm => ?_
  simp only [codeA, h1 m (by omega), h2 m (by omega)]

theorem Ev.loop_out {x : Code} {s s1 : Array Value × H} {e : Exit} (h1 : Ev P O ro ok x s e s1) (he : e ≠ .normal) : Ev P O ro ok (.loop x) s e s1 := by
  obtain ⟨n1, h1⟩ := h1
  refine Ev.of_succ n1 fun m hm => ?_
  simp only [codeA, h1 m hm]
  cases e <;> first | (exact absurd rfl he) | rfl

theorem Ev.region {id : Nat} {ops : Array Oper} {draw : Bool} {s s1 : Array Value × H} (h : ∃ n, ∀ m, n ≤ m → runA P O ro (callA P O ro ok m) ops (List.range ops.size) s = some s1) (hf : fitsA ops draw s1.1 = true) : Ev P O ro ok (.region id ops draw) s .normal s1 := by
  obtain ⟨n, h⟩ := h
  refine Ev.of_succ n fun m hm => ?_
  have : codeA P O ro ok (m + 1) (.region id ops draw) s = (runA P O ro (callA P O ro ok m) ops (List.range ops.size) s).bind fun s' => if fitsA ops draw s'.1 then some (Exit.normal, s') else none := rfl
  rw [this, h m hm, Option.bind_some, if_pos hf]

theorem EvF.of_body {f : FuncId} {fn : Func} {c : Code} {args : List Value} {h h' : H} {t : Array Value} {v : Value} {e : Exit} (hok : ok f = true) (hf : P.funcs[f]? = some fn) (hb : fn.body = some c)
    (he : Ev P O ro ok c (args.toArray ++ Array.replicate (fn.ntmps - args.length) undef, h) e (t, h')) (hex : e = .ret ∨ e = .normal) (hr : resA P O fn t h' = some v) : EvF P O ro ok f args h v h' := by
  obtain ⟨n, he⟩ := he
  refine ⟨n, fun m hm => ?_⟩
  unfold callA
  rw [if_pos hok]
  simp only [hf, hb, he m hm]
  rcases hex with rfl | rfl <;> simp [hr]

/-- The whole, for one call. -/
theorem EvF.calls {G : Nat} {w0 : Prot} {w : World} (L : O.Law) {qs : FuncId → Bool} (hmix : P.follows .mixedOrders = true) (hqs : ∀ f, qs f = true → FunQ P qs f) (hfun : ∀ f, ok f = true → FunOk P G qs f) {f : FuncId} {args args' : List Value} {h h' : H} {β : List Place} {v : Value}
    (hr : Rel O G ro w0 β h w) (ha : LR (VR β) args args') (he : EvF P O ro ok f args h v h') :
    Calls P f args'.toArray w fun e w' => ∃ v' β', e = .returned v' ∧ β <+: β' ∧ Rel O G ro w0 β' h' w' ∧ VR β' v v' := by
  obtain ⟨n, he⟩ := he
  exact (calls_sim L hmix hqs hfun n f args args' h h' w β v hr ha (he n (Nat.le_refl n))).2

end
end Go.Vm
