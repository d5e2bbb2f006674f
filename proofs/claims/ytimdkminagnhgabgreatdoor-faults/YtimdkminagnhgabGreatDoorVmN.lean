/-
  The plain functions come to what the code comes to. Own work.
-/
import Derived.Test.YtimdkminagnhgabGreatDoorVmM
namespace Go.Vm
set_option linter.unusedSimpArgs false
set_option linter.unusedVariables false

section
variable {P : Program} {H : Type} {O : HI H} {ro : Nat} {ok : FuncId → Bool}

/- More fuel changes no answer. -/
def CallLe (c c' : CallT H) : Prop := ∀ f args h r, c f args h = some r → c' f args h = some r

theorem opA_le {c c' : CallT H} (hc : CallLe c c') {ρ : Operand → Value} {op : Op} {h : H} {r : Value × H} (ho : opA P O ro c ρ op h = some r) : opA P O ro c' ρ op h = some r := by
  cases op with
  | call cl =>
    obtain ⟨cal, args, tys⟩ := cl
    cases cal with
    | value f => cases f <;> first | exact ho | exact hc _ _ _ _ ho
    | invoke q m => exact ho
    | builtin b => cases b <;> exact ho
  | _ => exact ho

theorem runA_le {c c' : CallT H} (hc : CallLe c c') {ops : Array Oper} : ∀ (l : List Nat) (s s' : Array Value × H), runA P O ro c ops l s = some s' → runA P O ro c' ops l s = some s' := by
  intro l
  induction l with
  | nil => intro s s' h; exact h
  | cons i l ih =>
    intro s s' h
    simp only [runA] at h ⊢
    cases hs : stepA P O ro c ops i s with
    | none => rw [hs] at h; simp at h
    | some s1 =>
      rw [hs] at h
      have hs' : stepA P O ro c' ops i s = some s1 := by
        unfold stepA at hs ⊢
        cases ho : ops[i]? with
        | none => rw [ho] at hs; exact hs
        | some o =>
          rw [ho] at hs
          simp only at hs ⊢
          split
          · rename_i hw
            rw [if_pos hw] at hs
            cases hop : opA P O ro c (evalT s.1) o.op s.2 with
            | none => rw [hop] at hs; simp at hs
            | some r => rw [opA_le hc hop]; rw [hop] at hs; exact hs
          · rename_i hw
            rw [if_neg hw] at hs
            exact hs
      rw [hs']
      exact ih _ _ h

theorem codeA_succ : ∀ (n : Nat) (c : Code) (s : Array Value × H) (r : Exit × (Array Value × H)), codeA P O ro ok n c s = some r → codeA P O ro ok (n + 1) c s = some r := by
  intro n
  induction n with
  | zero => intro c s r h; simp [codeA] at h
  | succ n ih =>
    intro c s r h
    cases c with
    | seq x y =>
      rw [codeA] at h ⊢
      cases hx : codeA P O ro ok n x s with
      | none => rw [hx] at h; simp at h
      | some q =>
        rw [hx] at h
        rw [ih _ _ _ hx]
        obtain ⟨e, s1⟩ := q
        cases e <;> first | exact ih _ _ _ h | exact h
    | cond o x y =>
      rw [codeA] at h ⊢
      cases hv : evalT s.1 o with
      | bool b =>
        rw [hv] at h
        cases b
        · exact ih _ _ _ h
        · exact ih _ _ _ h
      | _ => rw [hv] at h; simp at h
    | block id x =>
      rw [codeA] at h ⊢
      cases hx : codeA P O ro ok n x s with
      | none => rw [hx] at h; simp at h
      | some q => rw [hx] at h; rw [ih _ _ _ hx]; exact h
    | loop x =>
      rw [codeA] at h ⊢
      cases hx : codeA P O ro ok n x s with
      | none => rw [hx] at h; simp at h
      | some q =>
        rw [hx] at h
        rw [ih _ _ _ hx]
        obtain ⟨e, s1⟩ := q
        cases e <;> first | exact ih _ _ _ h | exact h
    | region id ops draw =>
      have h0 : (runA P O ro (callA P O ro ok n) ops (List.range ops.size) s).bind (fun s' => if fitsA ops draw s'.1 then some (Exit.normal, s') else none) = some r := h
      have hle : CallLe (callA P O ro ok n) (callA P O ro ok (n + 1)) := by
        intro f args g q hq
        unfold callA at hq ⊢
        split
        · rename_i hok
          rw [if_pos hok] at hq
          cases hf : P.funcs[f]? with
          | none => rw [hf] at hq; simp at hq
          | some fn =>
            rw [hf] at hq
            simp only at hq ⊢
            cases hb : fn.body with
            | none => rw [hb] at hq; simp at hq
            | some c =>
              rw [hb] at hq
              simp only at hq ⊢
              cases hc : codeA P O ro ok n c (args.toArray ++ Array.replicate (fn.ntmps - args.length) undef, g) with
              | none => rw [hc] at hq; simp at hq
              | some z => rw [ih _ _ _ hc]; rw [hc] at hq; exact hq
        · rename_i hok; rw [if_neg hok] at hq; exact hq
      show (runA P O ro (callA P O ro ok (n + 1)) ops (List.range ops.size) s).bind (fun s' => if fitsA ops draw s'.1 then some (Exit.normal, s') else none) = some r
      cases hr : runA P O ro (callA P O ro ok n) ops (List.range ops.size) s with
      | none => rw [hr] at h0; simp at h0
      | some s1 => rw [runA_le hle _ _ _ hr]; rw [hr] at h0; exact h0
    | _ => exact h

theorem codeA_mono {n m : Nat} (hnm : n ≤ m) {c : Code} {s : Array Value × H} {r : Exit × (Array Value × H)} (h : codeA P O ro ok n c s = some r) : codeA P O ro ok m c s = some r := by
  induction hnm with
  | refl => exact h
  | step _ ih => exact codeA_succ _ _ _ _ ih

theorem callA_mono {n m : Nat} (hnm : n ≤ m) : CallLe (callA P O ro ok n) (callA P O ro ok m) := by
  intro f args g q hq
  unfold callA at hq ⊢
  split
  · rename_i hok
    rw [if_pos hok] at hq
    cases hf : P.funcs[f]? with
    | none => rw [hf] at hq; simp at hq
    | some fn =>
      rw [hf] at hq
      simp only at hq ⊢
      cases hb : fn.body with
      | none => rw [hb] at hq; simp at hq
      | some c =>
        rw [hb] at hq
        simp only at hq ⊢
        cases hc : codeA P O ro ok n c (args.toArray ++ Array.replicate (fn.ntmps - args.length) undef, g) with
        | none => rw [hc] at hq; simp at hq
        | some z => rw [codeA_mono hnm hc]; rw [hc] at hq; exact hq
  · rename_i hok; rw [if_neg hok] at hq; exact hq

/- The temporaries. -/
def ER (n : Nat) (t : Array Value) (env : Env) : Prop := t.size = n ∧ ∀ i, i < n → t.getD i undef = env i

theorem ER.put {n : Nat} {t : Array Value} {env : Env} (h : ER n t env) {d : Nat} (hd : d < n) (v : Value) : ER n (putT t (some d) v) (upd env d v) := by
  refine ⟨by simp [putT, h.1], fun i hi => ?_⟩
  simp only [putT, upd, Array.getD_eq_getD_getElem?, Array.getElem?_setIfInBounds]
  by_cases e : d = i
  · subst e; simp [h.1, hd]
  · rw [if_neg e, if_neg (fun h => e h.symm), ← Array.getD_eq_getD_getElem?]
    exact h.2 i hi

def inT (n : Nat) : Operand → Bool
  | .tmp i => decide (i < n)
  | _ => true

theorem ER.eval {n : Nat} {t : Array Value} {env : Env} (h : ER n t env) {x : Operand} (hx : inT n x = true) : evalT t x = ev env x := by
  cases x with
  | tmp i => exact h.2 i (by simpa [inT] using hx)
  | _ => rfl

theorem bin_int {op : BinOp} {t : TypeId} {x y : Value} {r : Value} (hop : op ≠ .shl ∧ op ≠ .shr) (h : (match x, y with | .int k a, .int k' b => (if k = k' then intA op k a b else none) | _, _ => none) = some r) : binA P op t x y = some r := by
  cases x <;> cases y <;> simp only [reduceCtorEq] at h
  simp only [binA]
  cases op <;> first | exact h | (exact absurd rfl hop.1) | (exact absurd rfl hop.2)

set_option maxHeartbeats 1000000 in
theorem act_sound {call : CallT H} {env : Env} {h : H} {op : Op} {t : Array Value} {r : Value × H} (he : ∀ x ∈ opnds op, evalT t x = ev env x) (ha : actOf O P ro op call env h = some r) : opA P O ro call (evalT t) op h = some r := by
  have any : aAny O P ro op call env h = some r → opA P O ro call (evalT t) op h = some r := fun h' => by
    rw [opA_congr he]; exact h'
  cases op with
  | move x => have := he x (by simp [opnds, Op.operands]); simpa [actOf, aMove, opA, cls, pureA, this] using ha
  | assign x => have := he x (by simp [opnds, Op.operands]); simpa [actOf, aMove, opA, cls, pureA, this] using ha
  | pick c a b =>
    have h1 := he c (by simp [opnds, Op.operands]); have h2 := he a (by simp [opnds, Op.operands]); have h3 := he b (by simp [opnds, Op.operands])
    simp only [actOf, aPick] at ha
    simp only [opA, cls, pureA, h1, h2, h3]
    cases hv : ev env c <;> rw [hv] at ha <;> first | (simp at ha; done) | simpa using ha
  | nilCheck x =>
    have h1 := he x (by simp [opnds, Op.operands])
    simp only [actOf, aNil] at ha
    simp only [opA, cls, pureA, h1]
    cases hv : ev env x with
    | pointer a => cases a <;> rw [hv] at ha <;> first | (simp at ha; done) | simpa using ha
    | _ => rw [hv] at ha; simp at ha
  | binOp o ty x y yt =>
    have h1 := he x (by simp [opnds, Op.operands]); have h2 := he y (by simp [opnds, Op.operands])
    simp only [opA, cls, pureA, h1, h2]
    have gen : (binA P o ty (ev env x) (ev env y)).map (fun v => (v, h)) = some r → (binA P o ty (ev env x) (ev env y)).map (fun v => (v, h)) = some r := id
    by_cases hs : o = .shl ∨ o = .shr
    · have ha' : aShift o x y call env h = some r := by rcases hs with rfl | rfl <;> exact ha
      simp only [aShift] at ha'
      cases hx : ev env x <;> cases hy : ev env y <;> rw [hx, hy] at ha' <;> simp only [reduceCtorEq] at ha'
      simp only [binA]
      rcases hs with rfl | rfl <;> exact ha'
    · have hs' : o ≠ .shl ∧ o ≠ .shr := ⟨fun e => hs (.inl e), fun e => hs (.inr e)⟩
      have ha' : (match P.underlying ty with
        | some (.int _) => aInt o x y
        | some .string => aStr o x y
        | some (.pointer _) => (match o with | .eql => aPtrNil false x y | .neq => aPtrNil true x y | _ => aBin P o ty x y)
        | some (.slice _) => (match o with | .eql => aSlNil false x y | .neq => aSlNil true x y | _ => aBin P o ty x y)
        | some .bool => (match o with | .eql => aBoolEq false x y | .neq => aBoolEq true x y | _ => aBin P o ty x y)
        | some (.struct fs) => if plainInts P ty fs.size then (match o with | .eql => aAggEq false fs.size x y | .neq => aAggEq true fs.size x y | _ => aBin P o ty x y) else aBin P o ty x y
        | _ => aBin P o ty x y : ActT H) call env h = some r := by
        cases o <;> first | exact ha | (exact absurd rfl hs'.1) | (exact absurd rfl hs'.2)
      cases hu : P.underlying ty with
      | none => rw [hu] at ha'; exact ha'
      | some d =>
        rw [hu] at ha'
        cases d with
        | int k =>
          simp only [aInt] at ha'
          cases hx : ev env x <;> cases hy : ev env y <;> rw [hx, hy] at ha' <;> simp only [reduceCtorEq] at ha'
          simp only [binA]
          cases o <;> first | exact ha' | (exact absurd rfl hs'.1) | (exact absurd rfl hs'.2)
        | string =>
          simp only [aStr] at ha'
          cases hx : ev env x <;> cases hy : ev env y <;> rw [hx, hy] at ha' <;> simp only [reduceCtorEq] at ha'
          exact ha'
        | pointer e =>
          cases o with
          | eql =>
            simp only [aPtrNil] at ha'
            split at ha' <;> simp only [Option.some.injEq, reduceCtorEq] at ha'
            · rename_i b hx hy; rw [hx, hy]; simp [binA, hu]; simpa using ha'
            · rename_i hx hy; rw [hx, hy]; simp [binA, hu]; simpa using ha'
          | neq =>
            simp only [aPtrNil] at ha'
            split at ha' <;> simp only [Option.some.injEq, reduceCtorEq] at ha'
            · rename_i b hx hy; rw [hx, hy]; simp [binA, hu]; simpa using ha'
            · rename_i hx hy; rw [hx, hy]; simp [binA, hu]; simpa using ha'
          | _ => exact ha'
        | slice e =>
          cases o with
          | eql =>
            simp only [aSlNil] at ha'
            split at ha' <;> simp only [Option.some.injEq, reduceCtorEq] at ha'
            · rename_i hx hy; rw [hx, hy]; simp [binA, hu]; simpa using ha'
            · rename_i hx hy; rw [hx, hy]; simp [binA, hu]; simpa using ha'
          | neq =>
            simp only [aSlNil] at ha'
            split at ha' <;> simp only [Option.some.injEq, reduceCtorEq] at ha'
            · rename_i hx hy; rw [hx, hy]; simp [binA, hu]; simpa using ha'
            · rename_i hx hy; rw [hx, hy]; simp [binA, hu]; simpa using ha'
          | _ => exact ha'
        | bool =>
          cases o with
          | eql =>
            simp only [aBoolEq] at ha'
            split at ha' <;> simp only [Option.some.injEq, reduceCtorEq] at ha'
            rename_i hx hy; rw [hx, hy]; simp [binA, hu]; simpa using ha'
          | neq =>
            simp only [aBoolEq] at ha'
            split at ha' <;> simp only [Option.some.injEq, reduceCtorEq] at ha'
            rename_i hx hy; rw [hx, hy]; simp [binA, hu]; simpa using ha'
          | _ => exact ha'
        | struct fs =>
          simp only at ha'
          by_cases hpl : plainInts P ty fs.size = true
          · rw [if_pos hpl] at ha'
            have key : ∀ neg, aAggEq neg fs.size x y call env h = some r → ∃ xs ys b, ev env x = .agg xs ∧ ev env y = .agg ys ∧ xs.size = fs.size ∧ intsA xs.toList ys.toList = some b ∧ r = (.bool (b != neg), h) := by
              intro neg hq
              simp only [aAggEq] at hq
              split at hq
              · rename_i xs ys hx hy
                split at hq
                · rename_i hsz
                  cases hb : intsA xs.toList ys.toList with
                  | none => rw [hb] at hq; simp at hq
                  | some b => rw [hb] at hq; simp only [Option.map_some, Option.some.injEq] at hq; exact ⟨xs, ys, b, hx, hy, hsz, hb, hq.symm⟩
                · simp at hq
              · simp at hq
            cases o with
            | eql =>
              obtain ⟨xs, ys, b, hx, hy, hsz, hb, rfl⟩ := key false ha'
              rw [hx, hy]
              simp [binA, hsz, hpl, hb]
            | neq =>
              obtain ⟨xs, ys, b, hx, hy, hsz, hb, rfl⟩ := key true ha'
              rw [hx, hy]
              simp [binA, hsz, hpl, hb]
            | _ => exact ha'
          · rw [if_neg hpl] at ha'; exact ha'
        | _ => exact ha'
  | unOp o ty x => have := he x (by simp [opnds, Op.operands]); simpa [actOf, aUn, opA, cls, pureA, this] using ha
  | fieldAddr s x f =>
    have h1 := he x (by simp [opnds, Op.operands])
    simp only [actOf] at ha
    cases hu : P.underlying s with
    | none => rw [hu] at ha; exact any ha
    | some d =>
      rw [hu] at ha
      cases d with
      | struct fs =>
        simp only at ha
        cases hf : fs[f]? with
        | none => rw [hf] at ha; exact any ha
        | some fd =>
          rw [hf] at ha
          simp only at ha
          cases hi : P.info? fd.type with
          | none => rw [hi] at ha; exact any ha
          | some i =>
            rw [hi] at ha
            simp only at ha
            by_cases hs : i.size = 0
            · rw [if_pos hs] at ha; exact any ha
            · rw [if_neg hs] at ha
              simp only [aFld] at ha
              simp only [opA, cls, pureA, hu, hf, hi, h1, if_neg hs]
              split at ha <;> try simp only [reduceCtorEq] at ha
              rename_i a hx
              rw [hx]
              simp only [hf, hi, if_neg hs]
              simpa using ha
      | _ => exact any ha
  | indexAddr ty x ix =>
    have h1 := he x (by simp [opnds, Op.operands]); have h2 := he ix (by simp [opnds, Op.operands])
    simp only [actOf] at ha
    cases hu : P.underlying ty with
    | none => rw [hu] at ha; exact any ha
    | some d =>
      rw [hu] at ha
      cases d with
      | slice e =>
        simp only at ha
        cases hi : P.info? e with
        | none => rw [hi] at ha; exact any ha
        | some i =>
          rw [hi] at ha
          simp only [aIdx] at ha
          simp only [opA, cls, pureA, indexAddrA, hu, hi, h1, h2]
          split at ha <;> try simp only [reduceCtorEq] at ha
          rename_i a len c k j hx hy
          rw [hx, hy]
          split at ha
          · rename_i hb; simp only [hi, if_pos hb]; simpa using ha
          · simp at ha
      | array n e =>
        simp only at ha
        cases hi : P.info? e with
        | none => rw [hi] at ha; exact any ha
        | some i =>
          rw [hi] at ha
          simp only [aIdxArr] at ha
          simp only [opA, cls, pureA, indexAddrA, hu, hi, h1, h2]
          split at ha <;> try simp only [reduceCtorEq] at ha
          rename_i a k j hx hy
          rw [hx, hy]
          split at ha
          · rename_i hb; simp only [hi, if_pos hb]; simpa using ha
          · simp at ha
      | _ => exact any ha
  | index ty x ix =>
    have h1 := he x (by simp [opnds, Op.operands]); have h2 := he ix (by simp [opnds, Op.operands])
    simp only [actOf] at ha
    cases hu : P.underlying ty with
    | none => rw [hu] at ha; exact any ha
    | some d =>
      rw [hu] at ha
      cases d with
      | string =>
        simp only [aIdxStr] at ha
        simp only [opA, cls, pureA, indexA, hu, h1, h2]
        split at ha <;> try simp only [reduceCtorEq] at ha
        rename_i s k j hx hy
        rw [hx, hy]
        split at ha
        · rename_i hb
          simp only [if_pos hb]
          cases hs : s[j.toNat]? with
          | none => rw [hs] at ha; simp at ha
          | some b => rw [hs] at ha; simpa using ha
        · simp at ha
      | _ => exact any ha
  | load ty a =>
    have h1 := he a (by simp [opnds, Op.operands])
    simp only [actOf] at ha
    cases hg : isAggT P ty with
    | none => rw [hg] at ha; exact any ha
    | some g =>
      cases hi : P.info? ty with
      | none => rw [hg, hi] at ha; cases g <;> exact any ha
      | some i =>
        rw [hg, hi] at ha
        unfold isAggT at hg
        cases hu : P.underlying ty with
        | none => rw [hu] at hg; simp at hg
        | some d =>
          rw [hu] at hg
          cases g with
          | true =>
            simp only [aLdN] at ha
            simp only [opA, cls, readA, loadA, h1]
            split at ha <;> try simp only [reduceCtorEq] at ha
            rename_i p hx
            rw [hx]
            cases d <;> simp at hg <;> simp only [hi, hu] <;>
            · cases hc : cellsA O h p.block p.off i.size with
              | none => rw [hc] at ha; simp at ha
              | some l => rw [hc] at ha; simpa using ha
          | false =>
            simp only [aLd] at ha
            simp only [opA, cls, readA, loadA, h1]
            split at ha <;> try simp only [reduceCtorEq] at ha
            rename_i p hx
            rw [hx]
            cases d <;> simp at hg <;> simp only [hi, hu] <;> exact ha
  | store ty a x =>
    have h1 := he a (by simp [opnds, Op.operands]); have h2 := he x (by simp [opnds, Op.operands])
    simp only [actOf] at ha
    cases hi : P.info? ty with
    | none => rw [hi] at ha; exact any ha
    | some i =>
      rw [hi] at ha
      simp only [aSt] at ha
      simp only [opA, cls, effA, h1, h2, hi]
      split at ha
      · rename_i p hx; rw [hx]; exact ha
      · simp at ha
  | convert s d x =>
    have h1 := he x (by simp [opnds, Op.operands])
    simp only [actOf] at ha
    cases hs : P.underlying s with
    | none => rw [hs] at ha; exact any ha
    | some ds =>
      cases hd : P.underlying d with
      | none => rw [hs, hd] at ha; cases ds <;> exact any ha
      | some dd =>
        rw [hs, hd] at ha
        cases ds with
        | int k0 =>
          cases dd with
          | int k =>
            simp only [aConv] at ha
            simp only [opA, cls, readA, h1, hs, hd]
            split at ha <;> try simp only [reduceCtorEq] at ha
            rename_i k1 n hx
            rw [hx]
            simpa using ha
          | _ => exact any ha
        | slice e =>
          cases dd with
          | string =>
            simp only at ha
            cases hue : P.underlying e with
            | none => rw [hue] at ha; exact any ha
            | some de =>
              rw [hue] at ha
              cases de with
              | int ke =>
                cases ke with
                | u8 =>
                  simp only [aB2S] at ha
                  simp only [opA, cls, readA, h1, hs, hd]
                  split at ha
                  · rename_i a len c hx
                    rw [hx]
                    simp only [hue]
                    cases hc : cellsA O h a.block a.off len with
                    | none => rw [hc] at ha; simp at ha
                    | some l =>
                      rw [hc] at ha
                      simp only at ha ⊢
                      cases hb : bytesA l with
                      | none => rw [hb] at ha; simp at ha
                      | some bs => rw [hb] at ha; simpa using ha
                  · simp at ha
                | _ => exact any ha
              | _ => exact any ha
          | _ => exact any ha
        | _ => exact any ha
  | build ty parts =>
    simp only [actOf] at ha
    cases hi : P.info? ty with
    | none => rw [hi] at ha; exact any ha
    | some i =>
      cases hu : P.underlying ty with
      | none => rw [hi, hu] at ha; exact any ha
      | some d =>
        rw [hi, hu] at ha
        cases d with
        | struct fs =>
          simp only at ha
          cases hz : i.zero with
          | none => rw [hz] at ha; exact any ha
          | some z =>
            cases hp : placesA P fs.toList with
            | none => rw [hz, hp] at ha; exact any ha
            | some ps =>
              rw [hz, hp] at ha
              simp only at ha
              by_cases hzo : zeroOk z = true
              · rw [if_pos hzo] at ha
                have em : parts.toList.map (fun p => (p.1, ev env p.2)) = (parts.map fun (i, x) => (i, evalT t x)).toList := by
                  rw [Array.toList_map]
                  apply List.map_congr_left
                  intro q hq
                  show (q.1, ev env q.2) = (q.1, evalT t q.2)
                  rw [he q.2 (by simp [opnds, Op.operands]; exact ⟨q.1, by simpa using hq⟩)]
                have ea : parts.toList.all (fun p => !isTup (ev env p.2)) = parts.toList.all (fun p => !isTup (evalT t p.2)) := by
                  rw [Bool.eq_iff_iff, List.all_eq_true, List.all_eq_true]
                  constructor <;> intro hh q hq
                  · rw [he q.2 (by simp [opnds, Op.operands]; exact ⟨q.1, by simpa using hq⟩)]; exact hh q hq
                  · rw [← he q.2 (by simp [opnds, Op.operands]; exact ⟨q.1, by simpa using hq⟩)]; exact hh q hq
                simp only [aBuild, em, ea] at ha
                simp only [opA, cls, pureA, buildA, hi, hu, hz, hp, if_pos hzo]
                split at ha
                · rename_i hall
                  rw [if_pos hall]
                  cases hf : Instr.fill (fun x => ps[x]?) z.cells (parts.map fun (i, x) => (i, evalT t x)).toList with
                  | none => rw [hf] at ha; simp at ha
                  | some c => rw [hf] at ha; simpa using ha
                · simp at ha
              · rw [if_neg hzo] at ha; exact any ha
        | _ => exact any ha
  | buildSlice ty len parts =>
    simp only [actOf] at ha
    cases hu : P.underlying ty with
    | none => rw [hu] at ha; exact any ha
    | some d =>
      rw [hu] at ha
      cases d with
      | slice e =>
        simp only at ha
        cases hi : P.info? e with
        | none => rw [hi] at ha; exact any ha
        | some i =>
          rw [hi] at ha
          simp only at ha
          cases hz : i.zero with
          | none => rw [hz] at ha; exact any ha
          | some z =>
            rw [hz] at ha
            simp only at ha
            by_cases hcd : len * i.size > 2 ^ 24 ∨ zeroOk z = false ∨ z.cells.size = 0
            · rw [if_pos hcd] at ha; exact any ha
            · rw [if_neg hcd] at ha
              have em : parts.toList.map (fun p => (p.1, ev env p.2)) = (parts.map fun (i, x) => (i, evalT t x)).toList := by
                rw [Array.toList_map]
                apply List.map_congr_left
                intro q hq
                show (q.1, ev env q.2) = (q.1, evalT t q.2)
                rw [he q.2 (by simp [opnds, Op.operands]; exact ⟨q.1, by simpa using hq⟩)]
              have ea : parts.toList.all (fun p => !isTup (ev env p.2)) = parts.toList.all (fun p => !isTup (evalT t p.2)) := by
                rw [Bool.eq_iff_iff, List.all_eq_true, List.all_eq_true]
                constructor <;> intro hh q hq
                · rw [he q.2 (by simp [opnds, Op.operands]; exact ⟨q.1, by simpa using hq⟩)]; exact hh q hq
                · rw [← he q.2 (by simp [opnds, Op.operands]; exact ⟨q.1, by simpa using hq⟩)]; exact hh q hq
              simp only [aMkSl, em, ea] at ha
              simp only [opA, cls, effA, hu, hi, hz]
              split at ha
              · rename_i hall
                rw [if_neg (by simp only [not_or] at hcd ⊢; exact ⟨hcd.1, hcd.2.1, hcd.2.2, by simpa using hall⟩)]
                exact ha
              · simp at ha
      | _ => exact any ha
  | makeSlice ty l c =>
    have h1 := he l (by simp [opnds, Op.operands]); have h2 := he c (by simp [opnds, Op.operands])
    simp only [actOf] at ha
    cases hu : P.underlying ty with
    | none => rw [hu] at ha; exact any ha
    | some d =>
      rw [hu] at ha
      cases d with
      | slice e =>
        simp only at ha
        cases hi : P.info? e with
        | none => rw [hi] at ha; exact any ha
        | some i =>
          rw [hi] at ha
          simp only at ha
          cases hz : i.zero with
          | none => rw [hz] at ha; exact any ha
          | some z =>
            rw [hz] at ha
            simp only at ha
            by_cases hcd : zeroOk z = true ∧ z.cells.size ≠ 0
            · rw [if_pos hcd] at ha
              simp only [aMake] at ha
              simp only [opA, cls, effA, hu, h1, h2]
              split at ha
              · rename_i kl l' kc c' hl hc
                rw [hl, hc]
                simp only [hi, hz]
                split at ha
                · rename_i hb
                  rw [if_pos ⟨hb.1, hb.2.1, hb.2.2.1, hb.2.2.2, hcd.1, hcd.2⟩]
                  exact ha
                · simp at ha
              · simp at ha
            · rw [if_neg hcd] at ha; exact any ha
      | _ => exact any ha
  | slice ty x lo hi mx =>
    have h0 := he x (by simp [opnds, Op.operands])
    have e1 : lo.map (evalT t) = lo.map (ev env) := by cases lo <;> simp; exact he _ (by simp [opnds, Op.operands])
    have e2 : hi.map (evalT t) = hi.map (ev env) := by cases hi <;> simp; exact he _ (by simp [opnds, Op.operands])
    simp only [actOf] at ha
    cases mx with
    | some m => exact any ha
    | none =>
      cases hu : P.underlying ty with
      | none => rw [hu] at ha; exact any ha
      | some d =>
        rw [hu] at ha
        cases d with
        | string =>
          simp only [aSliceStr] at ha
          simp only [opA, cls, readA, sliceH, sliceA, hu, h0, e1, e2, Option.map_none]
          split at ha
          · rename_i s hx
            rw [hx]
            simp only
            cases hh : boundA (hi.map (ev env)) s.size s.size with
            | none => rw [hh] at ha; simp at ha
            | some e3 =>
              rw [hh] at ha
              simp only at ha ⊢
              cases hl : boundA (lo.map (ev env)) 0 e3 with
              | none => rw [hl] at ha; simp at ha
              | some l3 => rw [hl] at ha; simpa using ha
          · simp at ha
        | slice e =>
          simp only at ha
          cases hi0 : P.info? e with
          | none => rw [hi0] at ha; exact any ha
          | some i =>
            rw [hi0] at ha
            simp only [aSliceSl] at ha
            simp only [opA, cls, readA, sliceH, sliceA, hu, h0, e1, e2, Option.map_none]
            split at ha
            · rename_i a len cap hx
              rw [hx]
              simp only [hi0]
              split at ha
              · rename_i hsp
                rw [if_pos hsp]
                cases hh : boundA (hi.map (ev env)) len (if cap = 0 then len else cap - 1) with
                | none => rw [hh] at ha; simp at ha
                | some e3 =>
                  rw [hh] at ha
                  simp only at ha ⊢
                  cases hl : boundA (lo.map (ev env)) 0 e3 with
                  | none => rw [hl] at ha; simp at ha
                  | some l3 =>
                    rw [hl] at ha
                    simp only at ha ⊢
                    split at ha
                    · rename_i hl0; rw [if_pos hl0]; simpa using ha
                    · rename_i hl0
                      rw [if_neg hl0]
                      split at ha
                      · rename_i hlt; rw [if_pos hlt]; simpa using ha
                      · simp at ha
              · simp at ha
            · rename_i len cap hx
              rw [hx]
              simp only [hi0]
              split at ha
              · rename_i hz
                rw [if_pos hz]
                cases hh : boundA (hi.map (ev env)) 0 0 with
                | none => rw [hh] at ha; simp at ha
                | some e3 =>
                  rw [hh] at ha
                  simp only at ha ⊢
                  cases hl : boundA (lo.map (ev env)) 0 e3 with
                  | none => rw [hl] at ha; simp at ha
                  | some l3 => rw [hl] at ha; simpa using ha
              · simp at ha
            · simp at ha
        | array n e =>
          simp only at ha
          cases hi0 : P.info? e with
          | none => rw [hi0] at ha; exact any ha
          | some i =>
            rw [hi0] at ha
            simp only [aSliceArr] at ha
            simp only [opA, cls, readA, sliceH, hu, h0, e1, e2, Option.map_none]
            split at ha
            · rename_i a hx
              rw [hx]
              simp only [hi0]
              cases hh : boundA (hi.map (ev env)) n n with
              | none => rw [hh] at ha; simp at ha
              | some e3 =>
                rw [hh] at ha
                simp only at ha ⊢
                cases hl : boundA (lo.map (ev env)) 0 e3 with
                | none => rw [hl] at ha; simp at ha
                | some l3 =>
                  rw [hl] at ha
                  simp only at ha ⊢
                  split at ha
                  · rename_i hc; rw [if_pos hc]; simpa using ha
                  · simp at ha
            · simp at ha
        | _ => exact any ha
  | field ty x f =>
    have h1 := he x (by simp [opnds, Op.operands])
    simp only [actOf] at ha
    cases hu : P.underlying ty with
    | none => rw [hu] at ha; exact any ha
    | some d =>
      rw [hu] at ha
      cases d with
      | struct fs =>
        simp only at ha
        cases hf : fs[f]? with
        | none => rw [hf] at ha; exact any ha
        | some fd =>
          rw [hf] at ha
          simp only at ha
          cases hg : isAggT P fd.type with
          | none => rw [hg] at ha; exact any ha
          | some g =>
            cases hi : P.info? fd.type with
            | none => rw [hg, hi] at ha; cases g <;> exact any ha
            | some i =>
              rw [hg, hi] at ha
              cases g with
              | true => exact any ha
              | false =>
                simp only [aFieldS] at ha
                simp only [opA, cls, pureA, hu, h1]
                split at ha
                · rename_i cs hx
                  rw [hx]
                  simp only [hf]
                  unfold isAggT at hg
                  cases hu2 : P.underlying fd.type with
                  | none => rw [hu2] at hg; simp at hg
                  | some d2 =>
                    rw [hu2] at hg
                    cases d2 <;> simp at hg <;> simp only [partA, hu2, hi] <;> exact ha
                · simp at ha
      | _ => exact any ha
  | alloc e =>
    simp only [actOf] at ha
    cases hi : P.info? e with
    | none => rw [hi] at ha; exact any ha
    | some i =>
      rw [hi] at ha
      simp only at ha
      cases hz : i.zero with
      | none => rw [hz] at ha; exact any ha
      | some z =>
        rw [hz] at ha
        simp only at ha
        by_cases hzo : zeroOk z = true
        · rw [if_pos hzo] at ha
          simp only [aNew] at ha
          simpa [opA, cls, effA, hi, hz, hzo] using ha
        · rw [if_neg hzo] at ha; exact any ha
  | box e x =>
    have h1 := he x (by simp [opnds, Op.operands])
    simp only [actOf, aBox] at ha
    simp only [opA, cls, effA, h1]
    exact ha
  | extract x i =>
    have h1 := he x (by simp [opnds, Op.operands])
    simp only [actOf, aExt] at ha
    simp only [opA, cls, pureA, h1]
    split at ha
    · rename_i vs hx; rw [hx]; exact ha
    · simp at ha
  | call c =>
    obtain ⟨cal, args, tys⟩ := c
    cases cal with
    | value f =>
      cases f with
      | func f =>
        simp only [actOf, aCall] at ha
        have em : args.toList.map (evalT t) = args.toList.map (ev env) := List.map_congr_left fun x hx => he x (by simpa [opnds] using hx)
        simp only [opA, cls, effA, em]
        exact ha
      | _ => exact any ha
    | invoke q m => exact any ha
    | builtin b =>
      cases b with
      | len =>
        simp only [actOf] at ha
        cases htys : tys.toList with
        | nil => rw [htys] at ha; exact any ha
        | cons ty r1 =>
          cases hargs : args.toList with
          | nil => rw [htys, hargs] at ha; exact any ha
          | cons x r2 =>
            rw [htys, hargs] at ha
            simp only at ha
            have h1 := he x (by simp [opnds, hargs])
            cases hu : P.underlying ty with
            | none => rw [hu] at ha; exact any ha
            | some d =>
              rw [hu] at ha
              cases d with
              | string =>
                simp only [aLenStr] at ha
                simp only [opA, cls, pureA, htys, hargs, hu, h1]
                split at ha
                · rename_i s hx; rw [hx]; simpa using ha
                · simp at ha
              | slice e =>
                simp only [aLenSl] at ha
                simp only [opA, cls, pureA, htys, hargs, hu, h1]
                split at ha
                · rename_i s hx; rw [hx]; simpa using ha
                · simp at ha
              | _ => exact any ha
      | append =>
        simp only [actOf] at ha
        cases htys : tys.toList with
        | nil => rw [htys] at ha; exact any ha
        | cons ty r1 =>
         cases r1 with
         | nil => rw [htys] at ha; exact any ha
         | cons u r1 =>
          cases r1 with
          | cons _ _ => rw [htys] at ha; exact any ha
          | nil =>
           cases hargs : args.toList with
           | nil => rw [htys, hargs] at ha; exact any ha
           | cons x r2 =>
            cases r2 with
            | nil => rw [htys, hargs] at ha; exact any ha
            | cons y r2 =>
             cases r2 with
             | cons _ _ => rw [htys, hargs] at ha; exact any ha
             | nil =>
              rw [htys, hargs] at ha
              simp only at ha
              have h1 := he x (by simp [opnds, hargs]); have h2 := he y (by simp [opnds, hargs])
              by_cases htu : ty = u
              · rw [if_pos htu] at ha
                cases hu : P.underlying ty with
                | none => rw [hu] at ha; exact any ha
                | some d =>
                  rw [hu] at ha
                  cases d with
                  | slice e =>
                    simp only at ha
                    cases hi : P.info? e with
                    | none => rw [hi] at ha; exact any ha
                    | some i =>
                      rw [hi] at ha
                      simp only at ha
                      by_cases hz : (i.zero.map fun z => z.cells.size) = some i.size
                      · rw [if_pos hz] at ha
                        simp only [aApp, appI] at ha
                        simp only [opA, cls, effA, htys, hargs, List.map_cons, List.map_nil, h1, h2]
                        subst htu
                        split at ha
                        · rename_i base len cap b' n c' hx hy
                          rw [hx, hy]
                          simp only [appendA, hu, hi, if_pos hz, ne_eq, not_true, if_false]
                          exact ha
                        · simp at ha
                      · rw [if_neg hz] at ha; exact any ha
                  | _ => exact any ha
              · rw [if_neg htu] at ha; exact any ha
      | _ => exact any ha
  | _ => exact any ha

def opIn (n : Nat) (o : Oper) : Bool := (match o.dst with | some d => decide (d < n) | none => true) && (opnds o.op).all (inT n)

theorem stp_sound {call : CallT H} {n : Nat} {ops : Array Oper} (hin : ∀ (i : Nat) o, ops[i]? = some o → opIn n o = true) {i : Nat} {o : Oper} (ho : ops[i]? = some o) {t : Array Value} {env env' : Env} {h h' : H} (he : ER n t env)
    (hs : stpOf O P ro ops o call (env, h) = some (env', h')) : ∃ t', stepA P O ro call ops i (t, h) = some (t', h') ∧ ER n t' env' := by
  have hio := hin i o ho
  simp only [opIn, Bool.and_eq_true] at hio
  obtain ⟨hdst, hops⟩ := hio
  have hev : ∀ x ∈ opnds o.op, evalT t x = ev env x := fun x hx => he.eval (List.all_eq_true.1 hops x hx)
  -- the operation itself
  have base : ∀ (b : StpT H), (b = match o.dst with | some d => to d (actOf O P ro o.op) | none => too (actOf O P ro o.op)) → ∀ e1 h1, b call (env, h) = some (e1, h1) →
      ∃ v, opA P O ro call (evalT t) o.op h = some (v, h1) ∧ ER n (putT t o.dst v) e1 := by
    intro b hb e1 h1 hr
    subst hb
    cases hd : o.dst with
    | some d =>
      rw [hd] at hr hdst
      simp only [to] at hr
      split at hr
      · rename_i v g ha
        simp only [Option.some.injEq, Prod.mk.injEq] at hr
        obtain ⟨rfl, rfl⟩ := hr
        exact ⟨v, act_sound hev ha, he.put (by simpa using hdst) v⟩
      · simp at hr
    | none =>
      rw [hd] at hr
      simp only [too] at hr
      split at hr
      · rename_i v g ha
        simp only [Option.some.injEq, Prod.mk.injEq] at hr
        obtain ⟨rfl, rfl⟩ := hr
        exact ⟨v, act_sound hev ha, he⟩
      · simp at hr
  have skip : ∀ e1, (e1 = match o.dst with | some d => upd env d undef | none => env) → ER n (putT t o.dst undef) e1 := by
    intro e1 h1
    subst h1
    cases hd : o.dst with
    | some d => rw [hd] at hdst; exact he.put (by simpa using hdst) undef
    | none => exact he
  simp only [stepA, ho]
  cases hg : o.guard with
  | none =>
    have hw : Region.wanted o (yielded ops t) = true := by simp [Region.wanted, hg]
    rw [if_pos hw]
    simp only [stpOf, hg] at hs
    obtain ⟨v, h1, h2⟩ := base _ rfl env' h' hs
    exact ⟨_, by rw [h1], h2⟩
  | some q =>
    obtain ⟨j, w⟩ := q
    cases hk : (ops[j]?).bind (·.dst) with
    | none =>
      have hw : Region.wanted o (yielded ops t) = false := by simp [Region.wanted, hg, yielded, hk]
      rw [if_neg (by simp [hw])]
      simp only [stpOf, hg, hk] at hs
      cases hd : o.dst with
      | some d =>
        rw [hd] at hs
        simp only [Option.some.injEq, Prod.mk.injEq] at hs
        obtain ⟨rfl, rfl⟩ := hs
        have := skip (upd env d undef) (by rw [hd])
        rw [hd] at this
        exact ⟨_, rfl, this⟩
      | none =>
        rw [hd] at hs
        simp only [Option.some.injEq, Prod.mk.injEq] at hs
        obtain ⟨rfl, rfl⟩ := hs
        exact ⟨_, rfl, he⟩
    | some k =>
      have hkn : k < n := by
        cases hj : ops[j]? with
        | none => rw [hj] at hk; simp at hk
        | some oj =>
          rw [hj] at hk
          simp only [Option.bind_some] at hk
          have := hin j oj hj
          simp only [opIn, hk, Bool.and_eq_true, decide_eq_true_eq] at this
          exact this.1
      have hyd : yielded ops t j = (match env k with | .bool b => some b | _ => none) := by
        simp only [yielded, hk, Option.bind_some]
        have e1 : t[k]? = some (env k) := by
          have h2 := he.2 k hkn
          have hlt : k < t.size := by rw [he.1]; exact hkn
          rw [Array.getD_eq_getD_getElem?, Array.getElem?_eq_getElem hlt] at h2
          rw [Array.getElem?_eq_getElem hlt]
          simpa using h2
        rw [e1]
        cases env k <;> rfl
      have hwb : Region.wanted o (yielded ops t) = isB (env k) w := by
        simp only [Region.wanted, hg, hyd]
        cases env k with
        | bool b => cases b <;> cases w <;> rfl
        | _ => cases w <;> rfl
      rw [hwb]
      simp only [stpOf, hg, hk] at hs
      cases hd : o.dst with
      | some d =>
        rw [hd] at hs
        simp only [onlyIf] at hs
        cases hb : isB (env k) w with
        | true =>
          rw [if_pos hb] at hs
          obtain ⟨v, h1, h2⟩ := base (to d (actOf O P ro o.op)) (by rw [hd]) env' h' hs
          rw [if_pos rfl, h1]
          rw [hd] at h2
          exact ⟨_, rfl, h2⟩
        | false =>
          rw [hb] at hs
          simp only [Bool.false_eq_true, if_false, Option.some.injEq, Prod.mk.injEq] at hs
          obtain ⟨rfl, rfl⟩ := hs
          have := skip (upd env d undef) (by rw [hd])
          rw [hd] at this
          exact ⟨_, by simp, this⟩
      | none =>
        rw [hd] at hs
        simp only [onlyIfo] at hs
        cases hb : isB (env k) w with
        | true =>
          rw [if_pos hb] at hs
          obtain ⟨v, h1, h2⟩ := base (too (actOf O P ro o.op)) (by rw [hd]) env' h' hs
          rw [if_pos rfl, h1]
          rw [hd] at h2
          exact ⟨_, rfl, h2⟩
        | false =>
          rw [hb] at hs
          simp only [Bool.false_eq_true, if_false, Option.some.injEq, Prod.mk.injEq] at hs
          obtain ⟨rfl, rfl⟩ := hs
          exact ⟨t, by simp [putT], he⟩

theorem reg_sound {call : CallT H} {n : Nat} {ops : Array Oper} (hin : ∀ (i : Nat) o, ops[i]? = some o → opIn n o = true) : ∀ (l : List Oper) (k : Nat), (∀ j, l[j]? = ops[k + j]?) → ∀ (t : Array Value) (env env' : Env) (h h' : H), ER n t env →
    reg (l.map (stpOf O P ro ops)) call (env, h) = some (env', h') → ∃ t', runA P O ro call ops (List.range' k l.length) (t, h) = some (t', h') ∧ ER n t' env' := by
  intro l
  induction l with
  | nil =>
    intro k _ t env env' h h' he hr
    simp only [List.map_nil, reg, Option.some.injEq, Prod.mk.injEq] at hr
    obtain ⟨rfl, rfl⟩ := hr
    exact ⟨t, rfl, he⟩
  | cons o l ih =>
    intro k hl t env env' h h' he hr
    simp only [List.map_cons, reg] at hr
    have ho : ops[k]? = some o := by have := hl 0; simpa using this.symm
    split at hr
    · rename_i s1 hs
      obtain ⟨env1, h1⟩ := s1
      obtain ⟨t1, hst, he1⟩ := stp_sound hin ho he hs
      obtain ⟨t', hrun, he'⟩ := ih (k + 1) (fun j => by
        have := hl (j + 1)
        simp only [List.getElem?_cons_succ] at this
        rw [this]
        congr 1
        omega) t1 env1 env' h1 h' he1 hr
      refine ⟨t', ?_, he'⟩
      rw [List.length_cons, List.range'_succ]
      simp only [runA, hst]
      exact hrun
    · simp at hr

def tmpsOk (n : Nat) : Code → Bool
  | .skip | .ret | .exit _ => true
  | .seq a b => tmpsOk n a && tmpsOk n b
  | .cond c a b => inT n c && tmpsOk n a && tmpsOk n b
  | .block _ a | .loop a => tmpsOk n a
  | .region _ ops draw => ops.toList.all (opIn n) && (!draw || (pairsOf ops).all fun p => inT n p.1 && inT n p.2)
  | _ => true

theorem reg_app {call : CallT H} : ∀ (a b : List (StpT H)) (s : Env × H), reg (a ++ b) call s = (reg a call s).bind (reg b call) := by
  intro a
  induction a with
  | nil => intro b s; rfl
  | cons f a ih =>
    intro b s
    simp only [List.cons_append, reg]
    cases f call s with
    | none => rfl
    | some s1 => exact ih b s1

theorem fit_sound {call : CallT H} {n : Nat} {ops : Array Oper} {draw : Bool} (hin : (!draw || (pairsOf ops).all fun p => inT n p.1 && inT n p.2) = true) {t : Array Value} {s s1 : Env × H} (he : ER n t s.1) (hr : reg (fitS ops draw) call s = some s1) : s1 = s ∧ fitsA ops draw t = true := by
  unfold fitS at hr
  unfold fitsA
  cases draw with
  | false =>
    simp only [Bool.false_eq_true, if_false, reg, Option.some.injEq] at hr
    exact ⟨hr.symm, rfl⟩
  | true =>
    simp only [if_true] at hr
    simp only [Bool.not_true, Bool.false_or] at hin ⊢
    generalize pairsOf ops = l at hr hin ⊢
    induction l with
    | nil => simp only [List.map_nil, reg, Option.some.injEq] at hr; exact ⟨hr.symm, rfl⟩
    | cons p l ih =>
      simp only [List.map_cons, reg, chk] at hr
      simp only [List.all_cons, Bool.and_eq_true] at hin ⊢
      rw [he.eval hin.1.1, he.eval hin.1.2]
      by_cases hp : sepA (ev s.1 p.1) (ev s.1 p.2) = true
      · rw [if_pos hp] at hr
        obtain ⟨e1, e2⟩ := ih hr hin.2
        exact ⟨e1, hp, e2⟩
      · rw [if_neg hp] at hr
        simp at hr

/-- What the plain function comes to, the code comes to. -/
theorem code_sound {n : Nat} {m : Nat} : ∀ (c : Code), tmpsOk n c = true → ∀ (k : Nat) (t : Array Value) (env env' : Env) (h h' : H) (e : Exit), ER n t env → codeOf O P ro c (callA P O ro ok m) k (env, h) = some (e, (env', h')) →
    ∃ t', ER n t' env' ∧ Ev P O ro ok c (t, h) e (t', h') := by
  intro c
  induction c with
  | skip =>
    intro _ k t env env' h h' e he hc
    simp only [codeOf, cSkip, Option.some.injEq, Prod.mk.injEq] at hc
    obtain ⟨rfl, rfl, rfl⟩ := hc
    exact ⟨t, he, Ev.skip _⟩
  | ret =>
    intro _ k t env env' h h' e he hc
    simp only [codeOf, cRet, Option.some.injEq, Prod.mk.injEq] at hc
    obtain ⟨rfl, rfl, rfl⟩ := hc
    exact ⟨t, he, Ev.ret _⟩
  | exit id =>
    intro _ k t env env' h h' e he hc
    simp only [codeOf, cExit, Option.some.injEq, Prod.mk.injEq] at hc
    obtain ⟨rfl, rfl, rfl⟩ := hc
    exact ⟨t, he, Ev.exit _ _⟩
  | seq a b iha ihb =>
    intro hin k t env env' h h' e he hc
    simp only [tmpsOk, Bool.and_eq_true] at hin
    simp only [codeOf, cSeq] at hc
    split at hc
    · rename_i s1 ha
      obtain ⟨env1, h1⟩ := s1
      obtain ⟨t1, he1, ev1⟩ := iha hin.1 k t env env1 h h1 _ he ha
      obtain ⟨t2, he2, ev2⟩ := ihb hin.2 k t1 env1 env' h1 h' e he1 hc
      exact ⟨t2, he2, Ev.seq ev1 ev2⟩
    · rename_i hne
      obtain ⟨t1, he1, ev1⟩ := iha hin.1 k t env env' h h' e he hc
      refine ⟨t1, he1, Ev.seq_out ev1 ?_⟩
      intro hn
      subst hn
      exact hne _ hc
  | cond c a b iha ihb =>
    intro hin k t env env' h h' e he hc
    simp only [tmpsOk, Bool.and_eq_true] at hin
    simp only [codeOf, cIf] at hc
    have hev := he.eval hin.1.1
    split at hc
    · rename_i hv
      obtain ⟨t1, he1, ev1⟩ := iha hin.1.2 k t env env' h h' e he hc
      exact ⟨t1, he1, Ev.cond (b := true) (by rw [hev]; exact hv) ev1⟩
    · rename_i hv
      obtain ⟨t1, he1, ev1⟩ := ihb hin.2 k t env env' h h' e he hc
      exact ⟨t1, he1, Ev.cond (b := false) (by rw [hev]; exact hv) ev1⟩
    · simp at hc
  | block id a iha =>
    intro hin k t env env' h h' e he hc
    simp only [tmpsOk] at hin
    simp only [codeOf, cBlk] at hc
    cases ha : codeOf O P ro a (callA P O ro ok m) k (env, h) with
    | none => rw [ha] at hc; simp at hc
    | some r =>
      obtain ⟨e1, env1, h1⟩ := r
      rw [ha] at hc
      simp only [Option.map_some, Option.some.injEq, Prod.mk.injEq] at hc
      obtain ⟨rfl, rfl, rfl⟩ := hc
      obtain ⟨t1, he1, ev1⟩ := iha hin k t env env1 h h1 _ he ha
      exact ⟨t1, he1, Ev.block ev1⟩
  | loop a iha =>
    intro hin k t env env' h h' e he hc
    simp only [tmpsOk] at hin
    simp only [codeOf, cLoop] at hc
    induction k generalizing t env h with
    | zero => simp [loopN] at hc
    | succ k ihk =>
      simp only [loopN] at hc
      split at hc
      · rename_i s1 ha
        obtain ⟨env1, h1⟩ := s1
        obtain ⟨t1, he1, ev1⟩ := iha hin k t env env1 h h1 _ he ha
        obtain ⟨t2, he2, ev2⟩ := ihk t1 env1 h1 he1 hc
        exact ⟨t2, he2, Ev.loop_next ev1 ev2⟩
      · rename_i hne
        obtain ⟨t1, he1, ev1⟩ := iha hin k t env env' h h' e he hc
        refine ⟨t1, he1, Ev.loop_out ev1 ?_⟩
        intro hn
        subst hn
        exact hne _ hc
  | region id ops draw =>
    intro hin k t env env' h h' e he hc
    simp only [tmpsOk, Bool.and_eq_true] at hin
    obtain ⟨hin, hin2⟩ := hin
    simp only [codeOf, cReg] at hc
    rw [reg_app] at hc
    cases hr : reg (ops.toList.map (stpOf O P ro ops)) (callA P O ro ok m) (env, h) with
    | none => rw [hr] at hc; simp at hc
    | some s1 =>
      obtain ⟨env1, h1⟩ := s1
      rw [hr, Option.bind_some] at hc
      have hall : ∀ (i : Nat) o, ops[i]? = some o → opIn n o = true := fun i o ho => List.all_eq_true.1 hin o (by
        obtain ⟨hl, rfl⟩ := Array.getElem?_eq_some_iff.1 ho
        simp)
      obtain ⟨t1, hrun, he1⟩ := reg_sound hall ops.toList 0 (fun j => by simp) t env env1 h h1 he hr
      cases hf : reg (fitS ops draw) (callA P O ro ok m) (env1, h1) with
      | none => rw [hf] at hc; simp at hc
      | some s2 =>
        obtain ⟨rfl, hfit⟩ := fit_sound hin2 (s := (env1, h1)) he1 hf
        rw [hf] at hc
        simp only [Option.map_some, Option.some.injEq, Prod.mk.injEq] at hc
        obtain ⟨rfl, rfl, rfl⟩ := hc
        refine ⟨t1, he1, Ev.region ⟨m, fun m' hm' => ?_⟩ hfit⟩
        have : List.range ops.size = List.range' 0 ops.toList.length := by simp [List.range_eq_range']
        rw [this]
        exact runA_le (callA_mono hm') _ _ _ hrun
  | _ => intro _ k t env env' h h' e he hc; simp [codeOf] at hc

/-- The arguments, laid into temporaries. -/
def envOf : List Value → Env
  | [] => fun _ => undef
  | v :: l => fun i => match i with
    | 0 => v
    | i + 1 => envOf l i

theorem envOf_get : ∀ (l : List Value) (i : Nat), envOf l i = (l[i]?).getD undef := by
  intro l
  induction l with
  | nil => intro i; simp [envOf]
  | cons v l ih =>
    intro i
    cases i with
    | zero => simp [envOf]
    | succ i => simp [envOf, ih i]

/-- The results, read off. -/
def rvE (O : HI H) (P : Program) (rv : ResultVar) (t : Env) (h : H) : Option Value :=
  match rv with
  | .tmp a => some (t a)
  | .cell a ty => loadA P O ty (t a) h
def resLE (O : HI H) (P : Program) (t : Env) (h : H) : List ResultVar → Option (List Value)
  | [] => some []
  | r :: l => match rvE O P r t h, resLE O P t h l with
    | some v, some vs => if isTup v then none else some (v :: vs)
    | _, _ => none
def resE (O : HI H) (P : Program) (rs : List ResultVar) (t : Env) (h : H) : Option Value :=
  match resLE O P t h rs with
  | some [v] => some v
  | some vs => some (.tuple vs.toArray)
  | none => none

def rvIn (n : Nat) : ResultVar → Bool
  | .tmp a => decide (a < n)
  | .cell a _ => decide (a < n)

theorem resLE_eq {n : Nat} {t : Array Value} {env : Env} {h : H} (he : ER n t env) : ∀ (l : List ResultVar), l.all (rvIn n) = true → resL P O t h l = resLE O P env h l := by
  intro l
  induction l with
  | nil => intro _; rfl
  | cons r l ih =>
    intro hin
    simp only [List.all_cons, Bool.and_eq_true] at hin
    simp only [resL, resLE]
    rw [ih hin.2]
    have : rvA P O r t h = rvE O P r env h := by
      cases r with
      | tmp a => simp only [rvA, rvE]; rw [he.2 a (by simpa [rvIn] using hin.1)]
      | cell a ty => simp only [rvA, rvE]; rw [he.2 a (by simpa [rvIn] using hin.1)]
    rw [this]
    cases rvE O P r env h <;> cases resLE O P env h l <;> rfl

/-- A function's body as a plain function, with all that is asked of it. -/
structure Fn (P : Program) (O : HI H) (ro : Nat) (f : FuncId) (body : CodeT H) (rs : List ResultVar) (fn : Func) : Prop where
  func : P.funcs[f]? = some fn
  body_eq : bodyOf O P ro fn = body
  some_body : fn.body.isSome = true
  tmps : (match fn.body with | some c => tmpsOk fn.ntmps c | none => false) = true
  res : fn.results.toList = rs
  res_in : rs.all (rvIn fn.ntmps) = true

theorem EvF.of_fn {f : FuncId} {body : CodeT H} {rs : List ResultVar} {fn : Func} (F : Fn P O ro f body rs fn) (hok : ok f = true) {args : List Value} (hargs : args.length ≤ fn.ntmps) {h h' : H} {env' : Env} {e : Exit} {v : Value} {m k : Nat}
    (hb : body (callA P O ro ok m) k (envOf args, h) = some (e, (env', h'))) (hex : e = .ret ∨ e = .normal) (hr : resE O P rs env' h' = some v) : EvF P O ro ok f args h v h' := by
  cases hc : fn.body with
  | none => have := F.some_body; rw [hc] at this; simp at this
  | some c =>
    have ht := F.tmps
    rw [hc] at ht
    have hbo : codeOf O P ro c = body := by have := F.body_eq; simpa [bodyOf, hc] using this
    have he : ER fn.ntmps (args.toArray ++ Array.replicate (fn.ntmps - args.length) undef) (envOf args) := by
      refine ⟨by simp; omega, fun i hi => ?_⟩
      rw [envOf_get, Array.getD_eq_getD_getElem?]
      by_cases hl : i < args.length
      · rw [Array.getElem?_append_left (by simpa using hl)]; simp
      · rw [Array.getElem?_append_right (by simpa using hl), List.getElem?_eq_none (by omega)]
        simp only [Array.getElem?_replicate]
        split <;> rfl
    rw [← hbo] at hb
    obtain ⟨t', he', hev⟩ := code_sound c ht k _ _ _ _ _ _ he hb
    refine EvF.of_body hok F.func hc hev hex ?_
    unfold resA
    rw [F.res, resLE_eq he' rs F.res_in]
    exact hr

end
end Go.Vm
