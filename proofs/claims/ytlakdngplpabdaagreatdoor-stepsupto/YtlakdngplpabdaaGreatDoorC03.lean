/- Own work. -/
import Derived.Test.YtlakdngplpabdaaGreatDoorC02
import Derived.Laws.StructEq
namespace Go.Vm
open Go.RowKit
set_option linter.unusedSimpArgs false
set_option linter.unusedVariables false
section
variable {P : Program} {H : Type} {O : HI H} {G ro : Nat} {w0 : World}
theorem VR.int {β : List Place} {k : IntKind} {n : Int} {v' : Value} (h : VR β (.int k n) v') : v' = .int k n := h
theorem VR.bool {β : List Place} {b : Bool} {v' : Value} (h : VR β (.bool b) v') : v' = .bool b := h
theorem VR.string {β : List Place} {b : ByteArray} {v' : Value} (h : VR β (.string b) v') : v' = .string b := h
theorem VR.nilp {β : List Place} {v' : Value} (h : VR β (.pointer none) v') : v' = .pointer none := h
theorem VR.nils {β : List Place} {l c : Nat} {v' : Value} (h : VR β (.slice none l c) v') : l = 0 /\ c = 0 /\ v' = .slice none 0 0 := h
theorem VR.sl {β : List Place} {a : Addr} {len cap : Nat} {v' : Value} (h : VR β (.slice (some a) len cap) v') :
 ∃ p c z, β[a.block]? = some p /\ a.spot = some z /\ v' = .slice (some ⟨p.blk, p.off + a.off, none⟩) len c /\ len <= c /\ p.off + a.off + c * z <= p.size /\ (cap ≠ 0 -> c + 1 = cap) := h
theorem VR.agg {β : List Place} {cs : Array Value} {v' : Value} (h : VR β (.agg cs) v') : ∃ cs', v' = .agg cs' /\ LR (SR β) cs.toList cs'.toList := h
theorem VR.tup {β : List Place} {cs : Array Value} {v' : Value} (h : VR β (.tuple cs) v') : ∃ cs', v' = .tuple cs' /\ LR (CR β) cs.toList cs'.toList := h
theorem intA_run (w : World) {op : BinOp} {k : IntKind} {a b : Int} {t : TypeId} {v : Value} (hop : op ≠ .shl /\ op ≠ .shr) (h : intA op k a b = some v) : (binOp op t (.int k a) (.int k b)).run P w = .ok v w := by
 cases op <;> simp [intA] at h <;> first | (exact absurd rfl hop.1) | (exact absurd rfl hop.2) | skip
 all_goals first
  | (subst h; simp [binOp, Op.intArith, Op.intBits, Op.intCmp]; done)
  | (obtain ⟨h0, rfl⟩ := h; simp [binOp, Op.intDiv, h0])
theorem eqGuard_run (w : World) (op : BinOp) (t : TypeId) (x y : Operand) (a b : Value) (h : ∀ cs ds, ¬ (a = .agg cs /\ b = .agg ds)) (h2 : a ≠ .nilIface) : (eqGuard op t x y a b).run P w = .ok () w := by
 unfold eqGuard
 by_cases hop : (op matches .eql | .neq) = true
 . cases a <;> cases b <;> first | (exact absurd rfl h2) | (exact absurd ⟨rfl, rfl⟩ (h _ _)) | (cases op <;> simp at hop ⊢)
 . cases op <;> simp at hop ⊢
theorem intsA_run (w : World) {xs ys : Array Value} (d : Nat) : ∀ (fs : List Field) (n : Nat) (us vs : List Value) (r : Bool),
 (fs.zipIdx n).all (fun (f, i) => f.name != "_" && f.offset == i && (match P.underlying f.type with | some (.int _) => true | _ => false)) = true ->
 us = xs.toList.drop n -> vs = ys.toList.drop n -> fs.length = us.length -> intsA us vs = some r ->
 (Op.eqFields (d + 1) xs ys fs).run P w = .ok r w := by
 intro fs
 induction fs with
 | nil =>
  intro n us vs r hall hu hv hlen hi
  cases us with
  | nil =>
   cases vs with
   | nil => simp [intsA] at hi; subst hi; simp [Op.eqFields]
   | cons v vs => simp [intsA] at hi
  | cons u us => simp at hlen
 | cons f fs ih =>
  intro n us vs r hall hu hv hlen hi
  simp only [List.zipIdx_cons, List.all_cons, Bool.and_eq_true] at hall
  obtain ⟨⟨⟨hnm, hoff⟩, hty⟩, hrest⟩ := hall
  cases us with
  | nil => simp at hlen
  | cons u us =>
   cases vs with
   | nil => cases u <;> simp [intsA] at hi
   | cons v vs =>
    have hu0 : xs[n]? = some u := by
     have : (xs.toList.drop n)[0]? = some u := by rw [<- hu]; rfl
     simpa using this
    have hv0 : ys[n]? = some v := by
     have : (ys.toList.drop n)[0]? = some v := by rw [<- hv]; rfl
     simpa using this
    have hu1 : us = xs.toList.drop (n + 1) := by
     have : (xs.toList.drop n).drop 1 = us := by rw [<- hu]; rfl
     rw [List.drop_drop] at this; exact this.symm
    have hv1 : vs = ys.toList.drop (n + 1) := by
     have : (ys.toList.drop n).drop 1 = vs := by rw [<- hv]; rfl
     rw [List.drop_drop] at this; exact this.symm
    cases u with
    | int k a =>
     cases v with
     | int k' b =>
      simp only [intsA] at hi
      split at hi
      . rename_i hk
        subst hk
        cases hr : intsA us vs with
        | none => rw [hr] at hi; simp at hi
        | some q =>
         rw [hr] at hi
         simp at hi
         subst hi
         have hrun := ih (n + 1) us vs q hrest hu1 hv1 (by simpa using hlen) hr
         cases hut : P.underlying f.type with
         | none => rw [hut] at hty; simp at hty
         | some td =>
          rw [hut] at hty
          cases td with
          | int kk =>
           have hname : f.name ≠ "_" := by simpa using hnm
           have ho : f.offset = n := by simpa using hoff
           have p1 : (part f.type xs f.offset).run P w = .ok (.int k a) w := by simp [part, isAgg, run_underlying hut, ho, hu0]
           have p2 : (part f.type ys f.offset).run P w = .ok (.int k b) w := by simp [part, isAgg, run_underlying hut, ho, hv0]
           simp only [Op.eqFields]
           rw [if_pos hname]
           simp only [Sem.run_bind, p1, p2, Result.andThen_ok, run_equalIn_int w d f.type k kk a b hut]
           cases hab : (a == b) <;> simp [hrun]
          | _ => simp at hty
      . simp at hi
     | _ => simp [intsA] at hi
    | _ => simp [intsA] at hi
theorem intsA_rel {β : List Place} : ∀ (xs ys xs' ys' : List Value) (r : Bool), LR (SR β) xs xs' -> LR (SR β) ys ys' -> intsA xs ys = some r -> intsA xs' ys' = some r := by
 intro xs
 induction xs with
 | nil =>
  intro ys xs' ys' r h1 h2 h
  rw [LR.nil_inv h1]
  cases ys with
  | nil => rw [LR.nil_inv h2]; exact h
  | cons y ys => simp [intsA] at h
 | cons x xs ih =>
  intro ys xs' ys' r h1 h2 h
  obtain ⟨x', us, rfl, hx, hxs⟩ := LR.cons_inv h1
  cases ys with
  | nil => cases x <;> simp [intsA] at h
  | cons y ys =>
   obtain ⟨y', vs, rfl, hy, hys⟩ := LR.cons_inv h2
   cases x with
   | int k a =>
    cases y with
    | int k' b =>
     cases (hx : x' = .int k a)
     cases (hy : y' = .int k' b)
     simp only [intsA] at h ⊢
     split
     . rename_i hk
       rw [if_pos hk] at h
       cases hr : intsA xs ys with
       | none => rw [hr] at h; simp at h
       | some q =>
        rw [hr] at h
        rw [ih ys us vs q hxs hys hr]
        exact h
     . rename_i hk; rw [if_neg hk] at h; simp at h
    | _ => simp [intsA] at h
   | _ => simp [intsA] at h
theorem eql_ptr (w : World) (t : TypeId) (a b : Option Addr) : (binOp .eql t (.pointer a) (.pointer b)).run P w = ((Op.equalIn 10000 t (.pointer a) (.pointer b)).run P w).andThen fun b w' => .ok (.bool b) w' := by
 simp only [binOp]
 simp [Op.equal, Op.maxDepth]
theorem neq_ptr (w : World) (t : TypeId) (a b : Option Addr) : (binOp .neq t (.pointer a) (.pointer b)).run P w = ((Op.equalIn 10000 t (.pointer a) (.pointer b)).run P w).andThen fun b w' => .ok (.bool (!b)) w' := by
 simp only [binOp]
 simp [Op.equal, Op.maxDepth]
theorem eql_sl (w : World) (t : TypeId) (a b : Option Addr) (l c l' c' : Nat) : (binOp .eql t (.slice a l c) (.slice b l' c')).run P w = ((Op.equalIn 10000 t (.slice a l c) (.slice b l' c')).run P w).andThen fun b w' => .ok (.bool b) w' := by
 simp only [binOp]
 simp [Op.equal, Op.maxDepth]
theorem neq_sl (w : World) (t : TypeId) (a b : Option Addr) (l c l' c' : Nat) : (binOp .neq t (.slice a l c) (.slice b l' c')).run P w = ((Op.equalIn 10000 t (.slice a l c) (.slice b l' c')).run P w).andThen fun b w' => .ok (.bool (!b)) w' := by
 simp only [binOp]
 simp [Op.equal, Op.maxDepth]
theorem eql_bool (w : World) (t : TypeId) (a b : Bool) : (binOp .eql t (.bool a) (.bool b)).run P w = ((Op.equalIn 10000 t (.bool a) (.bool b)).run P w).andThen fun b w' => .ok (.bool b) w' := by
 simp only [binOp]
 simp [Op.equal, Op.maxDepth]
theorem neq_bool (w : World) (t : TypeId) (a b : Bool) : (binOp .neq t (.bool a) (.bool b)).run P w = ((Op.equalIn 10000 t (.bool a) (.bool b)).run P w).andThen fun b w' => .ok (.bool (!b)) w' := by
 simp only [binOp]
 simp [Op.equal, Op.maxDepth]
theorem in_nilp (w : World) (d : Nat) {t e : TypeId} (b : Option Addr) (h : P.underlying t = some (.pointer e)) : (Op.equalIn (d + 1) t (.pointer none) (.pointer b)).run P w = .ok b.isNone w := by
 simp [Op.equalIn, run_underlying h]
theorem in_pnil (w : World) (d : Nat) {t e : TypeId} (a : Addr) (h : P.underlying t = some (.pointer e)) : (Op.equalIn (d + 1) t (.pointer (some a)) (.pointer none)).run P w = .ok false w := by
 simp [Op.equalIn, run_underlying h]
theorem in_nils (w : World) (d : Nat) {t e : TypeId} (b : Option Addr) (l c l' c' : Nat) (h : P.underlying t = some (.slice e)) : (Op.equalIn (d + 1) t (.slice none l c) (.slice b l' c')).run P w = .ok b.isNone w := by
 simp [Op.equalIn, run_underlying h]
theorem in_snil (w : World) (d : Nat) {t e : TypeId} (a : Addr) (l c l' c' : Nat) (h : P.underlying t = some (.slice e)) : (Op.equalIn (d + 1) t (.slice (some a) l c) (.slice none l' c')).run P w = .ok false w := by
 simp [Op.equalIn, run_underlying h]
theorem bin_sim {β : List Place} (w : World) {op : BinOp} {t : TypeId} {x y : Operand} {a b a' b' v : Value} (ha : VR β a a') (hb : VR β b b') (h : binA P op t a b = some v) :
 ∃ v', (do eqGuard op t x y a' b'; binOp op t a' b' : Sem Value).run P w = .ok v' w /\ VR β v v' := by
 simp only [Sem.run_bind]
 cases a with
 | int k m =>
  cases VR.int ha
  cases b with
  | int k' n =>
   cases VR.int hb
   rw [eqGuard_run w op t x y _ _ (by simp) (by simp), Result.andThen_ok]
   simp only [binA] at h
   by_cases hs : op = .shl \/ op = .shr
   . rcases hs with rfl | rfl <;>
     . simp only [shiftA] at h
       split at h
       . simp at h
       . rename_i hneg
         simp at h
         subst h
         exact ⟨_, by simp [binOp, Op.shift, hneg], rfl⟩
   . have hs' : op ≠ .shl /\ op ≠ .shr := ⟨fun e => hs (.inl e), fun e => hs (.inr e)⟩
     have h' : (if k = k' then intA op k m n else none) = some v := by cases op <;> first | exact h | (exact absurd rfl hs'.1) | (exact absurd rfl hs'.2)
     split at h'
     . rename_i hk
       subst hk
       refine ⟨v, intA_run w hs' h', ?_⟩
       cases op <;> simp [intA] at h' <;> first | (subst h'; rfl) | (obtain ⟨_, rfl⟩ := h'; rfl)
     . simp at h'
  | _ => simp [binA] at h
 | string s =>
  cases VR.string ha
  cases b with
  | string s' =>
   cases VR.string hb
   rw [eqGuard_run w op t x y _ _ (by simp) (by simp), Result.andThen_ok]
   simp only [binA, strA] at h
   cases op <;> simp at h <;> first
    | (obtain ⟨h0, rfl⟩ := h; refine ⟨_, ?_, (rfl : _ = Value.string _)⟩; have h1 : ¬ (9223372036854775807 < (s.size : Int) + (s'.size : Int)) := by omega
       simp [binOp, Op.stringOp, IntKind.max, IntKind.signed, IntKind.bits, h1])
    | (subst h; exact ⟨_, by simp [binOp, Op.stringOp], rfl⟩)
  | _ => simp [binA] at h
 | bool p =>
  cases VR.bool ha
  cases b with
  | bool q =>
   cases VR.bool hb
   rw [eqGuard_run w op t x y _ _ (by simp) (by simp), Result.andThen_ok]
   simp only [binA] at h
   split at h
   . rename_i hu; simp only [Option.some.injEq] at h; subst h
     exact ⟨_, by rw [eql_bool, run_equalIn_bool' w 9999 t p q hu]; rfl, rfl⟩
   . rename_i hu; simp only [Option.some.injEq] at h; subst h
     exact ⟨_, by rw [neq_bool, run_equalIn_bool' w 9999 t p q hu]; rfl, rfl⟩
   . simp at h
  | _ => simp [binA] at h
 | pointer p =>
  cases p with
  | none =>
   cases VR.nilp ha
   cases b with
   | pointer q =>
    have hq : ∃ q', b' = .pointer q' /\ q'.isNone = q.isNone := by
     cases q with
     | none => exact ⟨none, VR.nilp hb, rfl⟩
     | some q => obtain ⟨_, _, e⟩ := VR.ptr hb; exact ⟨_, e, rfl⟩
    obtain ⟨q', rfl, hq⟩ := hq
    rw [eqGuard_run w op t x y _ _ (by simp) (by simp), Result.andThen_ok]
    simp only [binA] at h
    split at h
    . rename_i hu; simp only [Option.some.injEq] at h; subst h
      exact ⟨.bool q'.isNone, by rw [eql_ptr, in_nilp w 9999 q' hu]; rfl, by rw [<- hq]; rfl⟩
    . rename_i hu; simp only [Option.some.injEq] at h; subst h
      exact ⟨.bool (!q'.isNone), by rw [neq_ptr, in_nilp w 9999 q' hu]; rfl, by rw [<- hq]; rfl⟩
    . simp at h
   | _ => simp [binA] at h
  | some p =>
   obtain ⟨pl, _, rfl⟩ := VR.ptr ha
   cases b with
   | pointer q =>
    cases q with
    | some q => simp [binA] at h
    | none =>
     cases VR.nilp hb
     rw [eqGuard_run w op t x y _ _ (by simp) (by simp), Result.andThen_ok]
     simp only [binA] at h
     split at h
     . rename_i hu; simp only [Option.some.injEq] at h; subst h
       exact ⟨.bool false, by rw [eql_ptr, in_pnil w 9999 _ hu]; rfl, rfl⟩
     . rename_i hu; simp only [Option.some.injEq] at h; subst h
       exact ⟨.bool true, by rw [neq_ptr, in_pnil w 9999 _ hu]; rfl, rfl⟩
     . simp at h
   | _ => simp [binA] at h
 | slice p l c =>
  cases p with
  | none =>
   obtain ⟨rfl, rfl, rfl⟩ := VR.nils ha
   cases b with
   | slice q l' c' =>
    have hq : ∃ q' l'' c'', b' = .slice q' l'' c'' /\ q'.isNone = q.isNone := by
     cases q with
     | none => obtain ⟨_, _, e⟩ := VR.nils hb; exact ⟨none, _, _, e, rfl⟩
     | some q => obtain ⟨_, _, _, _, _, e, _⟩ := VR.sl hb; exact ⟨_, _, _, e, rfl⟩
    obtain ⟨q', l'', c'', rfl, hq⟩ := hq
    rw [eqGuard_run w op t x y _ _ (by simp) (by simp), Result.andThen_ok]
    simp only [binA] at h
    split at h
    . rename_i hu; simp only [Option.some.injEq] at h; subst h
      exact ⟨.bool q'.isNone, by rw [eql_sl, in_nils w 9999 q' 0 0 l'' c'' hu]; rfl, by rw [<- hq]; rfl⟩
    . rename_i hu; simp only [Option.some.injEq] at h; subst h
      exact ⟨.bool (!q'.isNone), by rw [neq_sl, in_nils w 9999 q' 0 0 l'' c'' hu]; rfl, by rw [<- hq]; rfl⟩
    . simp at h
   | _ => simp [binA] at h
  | some p =>
   obtain ⟨pl, c1, z, _, _, rfl, _⟩ := VR.sl ha
   cases b with
   | slice q l' c' =>
    cases q with
    | some q => simp [binA] at h
    | none =>
     obtain ⟨_, _, rfl⟩ := VR.nils hb
     rw [eqGuard_run w op t x y _ _ (by simp) (by simp), Result.andThen_ok]
     simp only [binA] at h
     split at h
     . rename_i hu; simp only [Option.some.injEq] at h; subst h
       exact ⟨.bool false, by rw [eql_sl, in_snil w 9999 _ _ _ _ _ hu]; rfl, rfl⟩
     . rename_i hu; simp only [Option.some.injEq] at h; subst h
       exact ⟨.bool true, by rw [neq_sl, in_snil w 9999 _ _ _ _ _ hu]; rfl, rfl⟩
     . simp at h
   | _ => simp [binA] at h
 | agg xs =>
  obtain ⟨xs', rfl, hxs⟩ := VR.agg ha
  cases b with
  | agg ys =>
   obtain ⟨ys', rfl, hys⟩ := VR.agg hb
   simp only [binA] at h
   split at h
   . rename_i hpl
     unfold plainInts at hpl
     cases hu : P.underlying t with
     | none => rw [hu] at hpl; simp at hpl
     | some td =>
      rw [hu] at hpl
      cases td with
      | struct fs =>
       simp only [Bool.and_eq_true, Bool.not_eq_true', beq_iff_eq] at hpl
       obtain ⟨⟨⟨hsz, hst⟩, hgd⟩, hall⟩ := hpl
       have hfo : P.fieldsOf t = fs := by simp [Program.fieldsOf, hu]
       have hu' : P.underlying t = some (.struct (P.fieldsOf t)) := by rw [hfo]; exact hu
       rw [run_eqGuard_agg w op t x y xs' ys' hgd, Result.andThen_ok]
       have key : ∀ r, intsA xs.toList ys.toList = some r -> (Op.equalIn 10000 t (.agg xs') (.agg ys')).run P w = .ok r w := by
        intro r hr
        rw [show (10000 : Nat) = 9998 + 1 + 1 from rfl, run_equalIn_struct w (9998 + 1) t xs' ys' hu' hst, hfo]
        exact intsA_run w 9998 fs.toList 0 xs'.toList ys'.toList r hall (by simp) (by simp) (by rw [hxs.1]; simpa using hsz) (intsA_rel _ _ _ _ r hxs hys hr)
       cases hr : intsA xs.toList ys.toList with
       | none => rw [hr] at h; cases op <;> simp at h
       | some r =>
        rw [hr] at h
        cases op <;> simp only [Option.map_some, Option.some.injEq, reduceCtorEq] at h
        . subst h; exact ⟨.bool r, by rw [run_eql_struct, key r hr]; rfl, rfl⟩
        . subst h; exact ⟨.bool (!r), by rw [run_neq_struct, key r hr]; rfl, rfl⟩
      | _ => simp at hpl
   . simp at h
  | _ => simp [binA] at h
 | _ => simp [binA] at h
end
section
variable {P : Program} {H : Type} {O : HI H} {G ro : Nat} {w0 : World}
theorem LR.take {R : Value -> Value -> Prop} {xs ys : List Value} (h : LR R xs ys) (n : Nat) : LR R (xs.take n) (ys.take n) := by
 refine ⟨by simp [h.1], fun i x hx => ?_⟩
 rw [List.getElem?_take] at hx ⊢
 split at hx
 . rename_i hi; rw [if_pos hi]; exact h.2 i x hx
 . simp at hx
theorem LR.drop {R : Value -> Value -> Prop} {xs ys : List Value} (h : LR R xs ys) (n : Nat) : LR R (xs.drop n) (ys.drop n) := by
 refine ⟨by simp [h.1], fun i x hx => ?_⟩
 rw [List.getElem?_drop] at hx ⊢
 exact h.2 _ x hx
theorem un_sim {β : List Place} (w : World) {op : UnOp} {a a' v : Value} (ha : VR β a a') (h : unA op a = some v) : ∃ v', (Op.unary op a').run P w = .ok v' w /\ VR β v v' := by
 cases a with
 | bool b =>
  cases VR.bool ha
  cases op <;> simp [unA] at h
  subst h
  exact ⟨_, by simp [Op.unary], rfl⟩
 | int k n =>
  cases VR.int ha
  cases op <;> simp [unA, intA] at h <;> subst h
  . exact ⟨_, by simp [Op.unary, Op.intArith], rfl⟩
  . exact ⟨_, by simp [Op.unary, Op.intBits], rfl⟩
 | _ => cases op <;> simp [unA] at h
theorem part_sim {β : List Place} (w : World) {t : TypeId} {cs cs' : Array Value} {off : Nat} {v : Value} (hc : LR (SR β) cs.toList cs'.toList) (h : partA P t cs off = some v) :
 ∃ v', (part t cs' off).run P w = .ok v' w /\ CR β v v' := by
 unfold partA at h
 have agg : ∀ i, P.info? t = some i -> (∃ fs, P.underlying t = some (.struct fs)) \/ (∃ n e, P.underlying t = some (.array n e)) ->
  (if off + i.size <= cs.size then some (Value.agg (cs.extract off (off + i.size))) else none) = some v -> ∃ v', (part t cs' off).run P w = .ok v' w /\ CR β v v' := by
  intro i hi hu hv
  split at hv
  . simp at hv
    subst hv
    refine ⟨.agg (cs'.extract off (off + i.size)), ?_, ⟨_, rfl, ?_⟩⟩
    . rcases hu with ⟨fs, hu⟩ | ⟨n, e, hu⟩ <;> simp [part, isAgg, run_underlying hu, sizeOf, typeInfo, hi]
    . simp only [Array.toList_extract, List.extract_eq_take_drop]
      exact (hc.drop _).take _
  . simp at hv
 cases hu : P.underlying t with
 | none => rw [hu] at h; simp at h
 | some d =>
  cases hi : P.info? t with
  | none => rw [hu, hi] at h; cases d <;> simp at h
  | some i =>
   rw [hu, hi] at h
   cases d with
   | struct fs => exact agg i hi (.inl ⟨fs, hu⟩) h
   | array n e => exact agg i hi (.inr ⟨n, e, hu⟩) h
   | _ =>
    simp only at h
    obtain ⟨v', h1, h2⟩ := hc.2 off v (by simpa using h)
    refine ⟨v', ?_, h2.toCR⟩
    have h1' : cs'[off]? = some v' := by simpa using h1
    simp [part, isAgg, run_underlying hu, h1']
def PR (β : List Place) (xs ys : List (Nat × Value)) : Prop := ys.length = xs.length /\ ∀ (i : Nat) x, xs[i]? = some x -> ∃ y, ys[i]? = some y /\ y.1 = x.1 /\ CR β x.2 y.2
theorem PR.cons_inv {β : List Place} {x : Nat × Value} {xs ys : List (Nat × Value)} (h : PR β (x :: xs) ys) : ∃ y r, ys = y :: r /\ y.1 = x.1 /\ CR β x.2 y.2 /\ PR β xs r := by
 obtain ⟨h1, h2⟩ := h
 cases ys with
 | nil => simp at h1
 | cons y r =>
  obtain ⟨y', hy, e, hr⟩ := h2 0 x rfl
  simp at hy; subst hy
  exact ⟨_, r, rfl, e, hr, by simpa using h1, fun i z hz => by simpa using h2 (i + 1) z (by simpa using hz)⟩
theorem lay_rel {β : List Place} (off : Nat) : ∀ (xs ys : List Value) (cs cs' : Array Value) (j : Nat), LR (SR β) xs ys -> LR (SR β) cs.toList cs'.toList ->
 LR (SR β) ((xs.zipIdx j).foldl (fun cs (c, j) => cs.setIfInBounds (off + j) c) cs).toList ((ys.zipIdx j).foldl (fun cs (c, j) => cs.setIfInBounds (off + j) c) cs').toList := by
 intro xs
 induction xs with
 | nil => intro ys cs cs' j h hc; rw [LR.nil_inv h]; simpa using hc
 | cons x xs ih =>
  intro ys cs cs' j h hc
  obtain ⟨y, r, rfl, hxy, hr⟩ := LR.cons_inv h
  simp only [List.zipIdx_cons, List.foldl_cons]
  refine ih r _ _ (j + 1) hr ?_
  simp only [Array.toList_setIfInBounds]
  exact hc.set hxy _
theorem fill_rel {β : List Place} (place : Nat -> Option (Nat × Nat)) : ∀ (ps qs : List (Nat × Value)) (cs cs' out : Array Value), PR β ps qs -> LR (SR β) cs.toList cs'.toList -> Instr.fill place cs ps = some out ->
 ∃ out', Instr.fill place cs' qs = some out' /\ LR (SR β) out.toList out'.toList := by
 intro ps
 induction ps with
 | nil =>
  intro qs cs cs' out hp hc h
  have : qs = [] := by have := hp.1; simpa using this
  subst this
  simp only [Instr.fill, Option.some.injEq] at h
  subst h
  exact ⟨cs', rfl, hc⟩
 | cons p ps ih =>
  intro qs cs cs' out hp hc h
  obtain ⟨q, qs, rfl, e1, hv, hps⟩ := PR.cons_inv hp
  obtain ⟨i, v⟩ := p
  obtain ⟨i', v'⟩ := q
  simp only at e1 hv
  subst e1
  have hcells := hv.cells
  have hsz : v'.cells.size = v.cells.size := by simpa using hcells.1
  have hcs : cs'.size = cs.size := by simpa using hc.1
  simp only [Instr.fill] at h ⊢
  cases hpl : place i' with
  | none => rw [hpl] at h; simp at h
  | some os =>
   obtain ⟨off, size⟩ := os
   rw [hpl] at h
   simp only at h ⊢
   rw [hsz, hcs]
   split at h
   . simp at h
   . rename_i hcond
     rw [if_neg hcond]
     refine ih qs _ _ out hps ?_ h
     have := lay_rel (β := β) off v.cells.toList v'.cells.toList cs cs' 0 hcells hc
     rw [<- Array.foldl_toList, <- Array.foldl_toList, Array.toList_zipIdx, Array.toList_zipIdx]
     exact this
def plM (f : Field) : Sem (Nat × Nat) := do pure (f.offset, <- sizeOf f.type)
theorem placesA_run (w : World) : ∀ (fs : List Field) (ps : List (Nat × Nat)), placesA P fs = some ps ->
 (fs.mapM plM).run P w = .ok ps w := by
 intro fs
 induction fs with
 | nil => intro ps h; simp [placesA] at h; subst h; rfl
 | cons f fs ih =>
  intro ps h
  simp only [placesA] at h
  cases hi : P.info? f.type with
  | none => rw [hi] at h; simp at h
  | some i =>
   cases hr : placesA P fs with
   | none => rw [hi, hr] at h; simp at h
   | some qs =>
    rw [hi, hr] at h
    simp at h
    subst h
    have h1 : (plM f).run P w = .ok (f.offset, i.size) w := by simp [plM, sizeOf, typeInfo, hi]
    rw [List.mapM_cons]
    simp only [Sem.run_bind, h1, Result.andThen_ok, ih qs hr, Sem.run_pure]
theorem SR.refl_zero {β : List Place} {v : Value} (h : operOk 0 (.const v) = true) : SR β v v := by
 cases v with
 | bool b => rfl
 | int k n => rfl
 | string s => rfl
 | pointer a => cases a with
  | none => rfl
  | some a => simp [operOk] at h
 | slice a l c => cases a with
  | none =>
   cases l with
   | succ l => simp [operOk] at h
   | zero => cases c with
    | succ c => simp [operOk] at h
    | zero => exact ⟨rfl, rfl, rfl⟩
  | some a => simp [operOk] at h
 | _ => simp [operOk] at h
theorem zero_rel {β : List Place} : ∀ (l : List Value), l.all (fun v => operOk 0 (.const v)) = true -> LR (SR β) l l := by
 intro l
 induction l with
 | nil => intro _; exact LR.nil _
 | cons x l ih =>
  intro h
  simp only [List.all_cons, Bool.and_eq_true] at h
  exact LR.cons (SR.refl_zero h.1) (ih h.2)
theorem bound_run (w : World) {v : Value} {d top n : Nat} (code : BoundsCode) (h : boundA (some v) d top = some n) (top' : Nat) (ht : top <= top') : (Instr.sliceBound v top' code).run P w = .ok n w := by
 cases v with
 | int k i =>
  simp only [boundA] at h
  split at h
  . rename_i hc
    simp at h
    subst h
    have hc' : 0 <= i /\ i <= (top' : Int) := ⟨hc.1, by omega⟩
    simp [Instr.sliceBound, asIntOf, hc']
  . simp at h
 | _ => simp [boundA] at h
theorem bound_some_le {v : Value} {d top n : Nat} (h : boundA (some v) d top = some n) : n <= top := by
 cases v with
 | int k i =>
  simp only [boundA] at h
  split at h
  . rename_i hc; simp at h; omega
  . simp at h
 | _ => simp [boundA] at h
theorem bound_rel {β : List Place} {x x' : Option Value} {d top n : Nat} (hx : ∀ v, x = some v -> ∃ v', x' = some v' /\ VR β v v') (hn : x = none -> x' = none) (h : boundA x d top = some n) : x' = x := by
 cases x with
 | none => exact hn rfl
 | some v =>
  obtain ⟨v', rfl, hv⟩ := hx v rfl
  cases v with
  | int k i => rw [VR.int hv]
  | _ => simp [boundA] at h
theorem bounds_run (w : World) (isS : Bool) {lo hi : Option Value} {len top cap l h : Nat} (hh : boundA hi len top = some h) (hl : boundA lo 0 h = some l) (htop : top <= cap) :
 (Instr.sliceBounds isS len cap lo hi none).run P w = .ok (l, h, cap) w := by
 unfold Instr.sliceBounds
 cases hi with
 | none =>
  simp only [boundA, Option.some.injEq] at hh
  subst hh
  cases lo with
  | none => simp only [boundA, Option.some.injEq] at hl; subst hl; simp
  | some v => simp [bound_run w (.sliceB) hl len (Nat.le_refl _)]
 | some u =>
  have h1 := fun code => bound_run (P := P) w code hh cap htop
  cases lo with
  | none => simp only [boundA, Option.some.injEq] at hl; subst hl; simp [h1]
  | some v => simp [h1, bound_run w (.sliceB) hl h (Nat.le_refl _)]
theorem slice_sim {β : List Place} (w : World) {t : TypeId} {a a' v : Value} {lo hi lo' hi' mx mx' : Option Value} (ha : VR β a a')
 (hlo : ∀ v, lo = some v -> ∃ v', lo' = some v' /\ VR β v v') (nlo : lo = none -> lo' = none) (hhi : ∀ v, hi = some v -> ∃ v', hi' = some v' /\ VR β v v') (nhi : hi = none -> hi' = none) (nmx : mx = none -> mx' = none)
 (h : sliceA P t a lo hi mx = some v) : ∃ v', (Instr.sliceAt t a' lo' hi' mx').run P w = .ok v' w /\ VR β v v' := by
 unfold sliceA at h
 cases mx with
 | some m => simp at h
 | none =>
  rw [nmx rfl]
  simp only at h
  cases hu : P.underlying t with
  | none => rw [hu] at h; simp at h
  | some d =>
   rw [hu] at h
   cases d with
   | string =>
    cases a with
    | string s =>
     cases VR.string ha
     simp only at h
     cases hh : boundA hi s.size s.size with
     | none => rw [hh] at h; simp at h
     | some h1 =>
      rw [hh] at h
      simp only at h
      cases hl : boundA lo 0 h1 with
      | none => rw [hl] at h; simp at h
      | some l1 =>
       rw [hl] at h
       simp at h
       subst h
       have e1 := bound_rel hlo nlo hl
       have e2 := bound_rel hhi nhi hh
       subst e1
       subst e2
       refine ⟨_, ?_, (rfl : _ = Value.string _)⟩
       simp [Instr.sliceAt, Instr.slice, run_underlying hu, bounds_run w false hh hl (Nat.le_refl _)]
    | _ => simp at h
   | slice e =>
    cases a with
    | slice ad len cap =>
     cases ad with
     | none => simp at h
     | some ad =>
      obtain ⟨p, c, z, hp, hz, rfl, hlc, hfit, hcap⟩ := VR.sl ha
      simp only at h
      cases hi0 : P.info? e with
      | none => rw [hi0] at h; simp at h
      | some i =>
       rw [hi0] at h
       simp only at h
       split at h
       . rename_i hspot
         have hzi : z = i.size := by rw [hz] at hspot; simpa using hspot
         subst hzi
         cases hh : boundA hi len (if cap = 0 then len else cap - 1) with
         | none => rw [hh] at h; simp at h
         | some h1 =>
          rw [hh] at h
          simp only at h
          cases hl : boundA lo 0 h1 with
          | none => rw [hl] at h; simp at h
          | some l1 =>
           rw [hl] at h
           simp only at h
           have e1 := bound_rel hlo nlo hl
           have e2 := bound_rel hhi nhi hh
           subst e1
           subst e2
           have htop : (if cap = 0 then len else cap - 1) <= c := by
            split
            . exact hlc
            . rename_i hc0; have := hcap hc0; omega
           have hb := bounds_run (P := P) w true hh hl htop
           have hh1 : h1 <= c := by
            cases hi' with
            | none => simp [boundA] at hh; omega
            | some u =>
             exact Nat.le_trans (bound_some_le hh) htop
           split at h
           . rename_i hl0
             subst hl0
             simp at h
             subst h
             refine ⟨.slice (some ⟨p.blk, p.off + ad.off, none⟩) h1 c, ?_, ?_⟩
             . simp only [Instr.sliceAt, Instr.slice, Sem.run_bind, run_underlying hu, Result.andThen_ok, hb, sizeOf, typeInfo, run_program, hi0, Sem.run_pure, Nat.zero_mul, Nat.sub_zero, Option.map_some, addr_add, Nat.add_zero]
               split <;> rfl
             . exact (show SR β (.slice (some ad) h1 cap) _ from ⟨p, c, i.size, hp, hz, rfl, hh1, hfit, hcap⟩)
           . rename_i hl0
             split at h
             . rename_i hlt
               simp at h
               subst h
               obtain ⟨k, rfl⟩ : ∃ k, c = l1 + k := ⟨c - l1, by omega⟩
               refine ⟨.slice (some ⟨p.blk, p.off + ad.off + l1 * i.size, none⟩) (h1 - l1) k, ?_, ?_⟩
               . have hne : ¬ (l1 + k = l1) := by omega
                 simp only [Instr.sliceAt, Instr.slice, Sem.run_bind, run_underlying hu, Result.andThen_ok, hb, sizeOf, typeInfo, run_program, hi0, Sem.run_pure, if_neg hne, Option.map_some, addr_add, Nat.add_sub_cancel_left]
               . refine (show SR β (.slice (some ⟨ad.block, ad.off + l1 * i.size, ad.spot⟩) (h1 - l1) (if cap = 0 then 0 else cap - l1)) _ from ⟨p, k, i.size, hp, hz, ?_, by omega, ?_, ?_⟩)
                 . rw [Nat.add_assoc]
                 . simp only
                   rw [Nat.add_mul] at hfit
                   omega
                 . intro hne
                   split at hne
                   . exact absurd rfl hne
                   . rename_i hc0
                     have := hcap hc0
                     rw [if_neg hc0]
                     omega
             . simp at h
       . simp at h
    | _ => simp at h
   | _ => simp at h
theorem indexAddr_sim {β : List Place} (w : World) {t : TypeId} {a ix a' ix' v : Value} (ha : VR β a a') (hix : VR β ix ix') (h : indexAddrA P t a ix = some v) : ∃ v', (Instr.indexAt t a' ix').run P w = .ok v' w /\ VR β v v' := by
 unfold indexAddrA at h
 cases hu : P.underlying t with
 | none => rw [hu] at h; simp at h
 | some d =>
  rw [hu] at h
  cases d with
  | slice e =>
   cases a with
   | slice ad len cap =>
    cases ad with
    | none => simp at h
    | some ad =>
     obtain ⟨p, c, z, hp, hz, rfl, hlc, hfit, hcap⟩ := VR.sl ha
     cases ix with
     | int k i =>
      cases VR.int hix
      simp only at h
      cases hi0 : P.info? e with
      | none => rw [hi0] at h; simp at h
      | some inf =>
       rw [hi0] at h
       simp only at h
       split at h
       . rename_i hb
         simp at h
         subst h
         refine ⟨.pointer (some ⟨p.blk, p.off + ad.off + i.toNat * inf.size, none⟩), ?_, ?_⟩
         . simp [Instr.indexAt, asIntOf, run_underlying hu, hb, sizeOf, typeInfo, hi0, addr_add]
         . exact (show SR β (.pointer (some ⟨ad.block, ad.off + i.toNat * inf.size, none⟩)) _ from ⟨p, hp, by rw [Nat.add_assoc]⟩)
       . simp at h
     | _ => simp at h
   | _ => simp at h
  | array n e =>
   cases a with
   | pointer ad =>
    cases ad with
    | none => simp at h
    | some ad =>
     obtain ⟨p, hp, rfl⟩ := VR.ptr ha
     cases ix with
     | int k i =>
      cases VR.int hix
      simp only at h
      cases hi0 : P.info? e with
      | none => rw [hi0] at h; simp at h
      | some inf =>
       rw [hi0] at h
       simp only at h
       split at h
       . rename_i hb
         simp at h
         subst h
         refine ⟨.pointer (some ⟨p.blk, p.off + ad.off + i.toNat * inf.size, none⟩), ?_, ?_⟩
         . simp [Instr.indexAt, asIntOf, run_underlying hu, Instr.sureAddr, hb, sizeOf, typeInfo, hi0, addr_add]
         . exact (show SR β (.pointer (some ⟨ad.block, ad.off + i.toNat * inf.size, none⟩)) _ from ⟨p, hp, by rw [Nat.add_assoc]⟩)
       . simp at h
     | _ => simp at h
   | _ => simp at h
  | _ => cases a <;> simp at h
theorem index_sim {β : List Place} (w : World) {t : TypeId} {a ix a' ix' v : Value} (ha : VR β a a') (hix : VR β ix ix') (h : indexA P t a ix = some v) : ∃ v', (Instr.index t a' ix').run P w = .ok v' w /\ VR β v v' := by
 unfold indexA at h
 cases hu : P.underlying t with
 | none => rw [hu] at h; simp at h
 | some d =>
  rw [hu] at h
  cases d with
  | array n e =>
   cases a with
   | agg cs =>
    obtain ⟨cs', rfl, hcs⟩ := VR.agg ha
    cases ix with
    | int k i =>
     cases VR.int hix
     simp only at h
     cases hi0 : P.info? e with
     | none => rw [hi0] at h; simp at h
     | some inf =>
      rw [hi0] at h
      simp only at h
      split at h
      . rename_i hb
        obtain ⟨v', hrun, hc⟩ := part_sim w hcs h
        exact ⟨v', by simp [Instr.index, asIntOf, run_underlying hu, hb, sizeOf, typeInfo, hi0, hrun], hc.toVR⟩
      . simp at h
    | _ => simp at h
   | _ => simp at h
  | string =>
   cases a with
   | string s =>
    cases VR.string ha
    cases ix with
    | int k i =>
     cases VR.int hix
     simp only at h
     split at h
     . rename_i hb
       cases hs : s[i.toNat]? with
       | none => rw [hs] at h; simp at h
       | some b =>
        rw [hs] at h
        simp at h
        subst h
        exact ⟨_, by simp [Instr.index, asIntOf, run_underlying hu, hb, hs], rfl⟩
     . simp at h
    | _ => simp at h
   | _ => simp at h
  | _ => cases a <;> simp at h
theorem build_sim {β : List Place} (w : World) {t : TypeId} {ps qs : Array (Nat × Value)} {v : Value} (hp : PR β ps.toList qs.toList) (h : buildA P t ps = some v) : ∃ v', (Instr.build t qs).run P w = .ok v' w /\ VR β v v' := by
 unfold buildA at h
 cases hi : P.info? t with
 | none => rw [hi] at h; simp at h
 | some i =>
  rw [hi] at h
  cases hu : P.underlying t with
  | none => rw [hu] at h; simp at h
  | some d =>
   rw [hu] at h
   cases d with
   | struct fs =>
    simp only at h
    cases hz : i.zero with
    | none => rw [hz] at h; simp at h
    | some z =>
     cases hpl : placesA P fs.toList with
     | none => rw [hz, hpl] at h; simp at h
     | some pl =>
      rw [hz, hpl] at h
      simp only at h
      split at h
      . rename_i hzo
        cases hf : Instr.fill (fun x => pl[x]?) z.cells ps.toList with
        | none => rw [hf] at h; simp at h
        | some out =>
         rw [hf] at h
         simp at h
         subst h
         obtain ⟨out', hf', hout⟩ := fill_rel (β := β) _ _ _ _ _ _ hp (zero_rel _ hzo) hf
         refine ⟨.agg out', ?_, ⟨out', rfl, hout⟩⟩
         have hpm : (fs.mapM plM).run P w = .ok pl.toArray w := by
          rw [Array.mapM_eq_mapM_toList]
          simp only [Sem.run_map, placesA_run w _ _ hpl, Result.andThen_ok]
         have hpm' : (fs.mapM (m := Sem) fun f => do pure (f.offset, <- sizeOf f.type)).run P w = .ok pl.toArray w := hpm
         simp only [Instr.build, zeroValue, typeInfo, Sem.run_bind, run_program, Result.andThen_ok, hi, Sem.run_pure, hz, run_underlying hu, hpm']
         have hf2 : Instr.fill (fun x => pl.toArray[x]?) z.cells qs.toList = some out' := by simpa using hf'
         rw [hf2]
         rfl
      . simp at h
   | _ => simp at h
end
end Go.Vm
