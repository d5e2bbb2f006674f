import Derived.Test.YtimdkminagnhgabGreatDoorQ04
set_option linter.all false
namespace Go.Vm
section
variable {P:Program}{H:Type}{O:HI H}{ro:Nat}{ok:FuncId->Bool}
structure Lim (P:Program)(O:HI H) (ro:Nat)(ok:FuncId->Bool)(c:A'X H):Prop where
 sound:∀f args h v h',c f args h=some (v,h')->EvF P O ro ok f args h v h'
 whole:∀f args h v h',EvF P O ro ok f args h v h'->c f args h=some (v,h')
theorem H'L (P:Program)(O:HI H)(ro:Nat)(ok:FuncId->Bool): ∃c:A'X H,Lim P O ro ok c:=by
 have key:∀f args h,∃r:Option (Value×H),∀v h',r=some (v,h')↔EvF P O ro ok f args h v h':=by
  intro f args h
  by_cases hx:∃v h',EvF P O ro ok f args h v h'
  ·obtain⟨v,h',hv⟩:=hx;refine⟨some (v,h'),λu g=>⟨λe=>?_,λhu=>?_⟩⟩
   ·simp only[l'a,l'd]at e;obtain⟨rfl,rfl⟩:=e;exact hv
   ·obtain⟨n,hn⟩:=hv;obtain⟨m,hm⟩:=hu;have h1:=hn (max n m) (by omega);have h2:=hm (max n m) (by omega);rw[h1]at h2;exact h2
  ·exact⟨none,λu g=>⟨λe=>by simp at e,λhu=>absurd ⟨u,g,hu⟩ hx⟩⟩
 refine⟨λf args h=>Classical.choose (key f args h),⟨λf args h v h' e=>?_,λf args h v h' e=>?_⟩⟩
 ·exact (Classical.choose_spec (key f args h) v h').1 e
 ·exact (Classical.choose_spec (key f args h) v h').2 e
variable {c:A'X H}
theorem M'V (C:Lim P O ro ok c){ρ:Operand->Value}{op:Op}{h:H}{r:Value×H}(ho:opA P O ro c ρ op h=some r): ∃n,∀m,n<=m->opA P O ro (C's P O ro ok m) ρ op h=some r:=by
 cases op with
 | call cl=>
  obtain⟨cal,args,tys⟩:=cl
  cases cal with
  | value f=>
   cases f with
   | func f=>
    obtain⟨v,h'⟩:=r;obtain⟨n,hn⟩:=C.sound f _ h v h' ho;exact⟨n,λm hm=>hn m hm⟩
   | _=>exact⟨0,λm _=>ho⟩
  | invoke q m=>exact⟨0,λm _=>ho⟩
  | builtin b=>exact⟨0,λm _=>by cases b <;> exact ho⟩
 | _=>exact⟨0,λm _=>ho⟩
theorem K'o (C:Lim P O ro ok c){ops:Array Oper}: ∀(l:List Nat)(s s':Array Value×H),C'X P O ro c ops l s=some s'->∃n,∀m,n<=m->C'X P O ro (C's P O ro ok m) ops l s=some s':=by
 intro l
 induction l with
 | nil=>intro s s' h;exact⟨0,λm _=>h⟩
 | cons i l ih=>
  intro s s' h;simp only[C'X]at h
  cases hs:B'k P O ro c ops i s with
  | none=>rw[hs]at h;simp at h
  | some s1=>
   rw[hs]at h;have hs':∃n,∀m,n<=m->B'k P O ro (C's P O ro ok m) ops i s=some s1:=by
    unfold B'k at hs ⊢
    cases ho:ops[i]? with
    | none=>rw[ho]at hs;exact⟨0,λm _=>hs⟩
    | some o=>
     rw[ho]at hs;simp only at hs ⊢
     by_cases hw:Region.wanted o (yielded ops s.1)=true
     ·rw[if_pos hw]at hs
      cases hop:opA P O ro c (A'9 s.1) o.op s.2 with
      | none=>rw[hop]at hs;simp at hs
      | some r=>
       obtain⟨n,hn⟩:=M'V C hop;rw[hop]at hs;exact⟨n,λm hm=>by rw[if_pos hw,hn m hm];exact hs⟩
     ·rw[if_neg hw]at hs;exact⟨0,λm _=>by rw[if_neg hw];exact hs⟩
   obtain⟨n1,h1⟩:=hs';obtain⟨n2,h2⟩:=ih _ _ h;exact⟨max n1 n2,λm hm=>by simp only[C'X,h1 m (by omega)];exact h2 m (by omega)⟩
theorem K'p (C:Lim P O ro ok c){n:Nat}: ∀(cd:Code),C'E n cd=true->∀(k:Nat)(t:Array Value)(env env':Env)(h h':H)(e:Exit),ER n t env->B'U O P ro cd c k (env,h)=some (e,(env',h')) ->
  ∃t',ER n t' env'∧Ev P O ro ok cd (t,h) e (t',h'):=by
 intro cd
 induction cd with
 | skip=>
  intro _ k t env env' h h' e he hc;simp only[B'U,A'f,l'a,l'd]at hc;obtain⟨rfl,rfl,rfl⟩:=hc;exact⟨t,he,Ev.skip _⟩
 | ret=>
  intro _ k t env env' h h' e he hc;simp only[B'U,A'y,l'a,l'd]at hc;obtain⟨rfl,rfl,rfl⟩:=hc;exact⟨t,he,Ev.ret _⟩
 | exit id=>
  intro _ k t env env' h h' e he hc;simp only[B'U,A'r,l'a,l'd]at hc;obtain⟨rfl,rfl,rfl⟩:=hc;exact⟨t,he,Ev.exit _ _⟩
 | seq a b iha ihb=>
  intro hin k t env env' h h' e he hc;simp only[C'E,l'k]at hin;simp only[B'U,A'b]at hc;split at hc
  ·rename_i s1 ha
   obtain⟨env1,h1⟩:=s1;obtain⟨t1,he1,ev1⟩:=iha hin.1 k t env env1 h h1 _ he ha;obtain⟨t2,he2,ev2⟩:=ihb hin.2 k t1 env1 env' h1 h' e he1 hc;exact⟨t2,he2,Ev.seq ev1 ev2⟩
  ·rename_i hne
   obtain⟨t1,he1,ev1⟩:=iha hin.1 k t env env' h h' e he hc;refine⟨t1,he1,Ev.seq_out ev1 ?_⟩;intro hn;subst hn;exact hne _ hc
 | cond x a b iha ihb=>
  intro hin k t env env' h h' e he hc;simp only[C'E,l'k]at hin;simp only[B'U,cIf]at hc;have hev:=he.eval hin.1.1;split at hc
  ·rename_i hv
   obtain⟨t1,he1,ev1⟩:=iha hin.1.2 k t env env' h h' e he hc;exact⟨t1,he1,Ev.cond (b:=true) (by rw[hev];exact hv) ev1⟩
  ·rename_i hv
   obtain⟨t1,he1,ev1⟩:=ihb hin.2 k t env env' h h' e he hc;exact⟨t1,he1,Ev.cond (b:=false) (by rw[hev];exact hv) ev1⟩
  ·simp at hc
 | block id a iha=>
  intro hin k t env env' h h' e he hc;simp only[C'E]at hin;simp only[B'U,A'z]at hc
  cases ha:B'U O P ro a c k (env,h) with
  | none=>rw[ha]at hc;simp at hc
  | some r=>
   obtain⟨e1,env1,h1⟩:=r;rw[ha]at hc;simp only[l'l,l'a,l'd]at hc;obtain⟨rfl,rfl,rfl⟩:=hc;obtain⟨t1,he1,ev1⟩:=iha hin k t env env1 h h1 _ he ha;exact⟨t1,he1,Ev.block ev1⟩
 | loop a iha=>
  intro hin k t env env' h h' e he hc;simp only[C'E]at hin;simp only[B'U,A'1]at hc
  induction k generalizing t env h with
  | zero=>simp[H'I]at hc
  | succ k ihk=>
   simp only[H'I]at hc;split at hc
   ·rename_i s1 ha
    obtain⟨env1,h1⟩:=s1;obtain⟨t1,he1,ev1⟩:=iha hin k t env env1 h h1 _ he ha;obtain⟨t2,he2,ev2⟩:=ihk t1 env1 h1 he1 hc;exact⟨t2,he2,Ev.loop_next ev1 ev2⟩
   ·rename_i hne
    obtain⟨t1,he1,ev1⟩:=iha hin k t env env' h h' e he hc;refine⟨t1,he1,Ev.loop_out ev1 ?_⟩;intro hn;subst hn;exact hne _ hc
 | region id ops draw=>
  intro hin k t env env' h h' e he hc;simp only[C'E,l'k]at hin;obtain⟨hin,hin2⟩:=hin;simp only[B'U,A'c]at hc;rw[M'N]at hc
  cases hr:reg (ops.toList.map (G'q O P ro ops)) c (env,h) with
  | none=>rw[hr]at hc;simp at hc
  | some s1=>
   obtain⟨env1,h1⟩:=s1;rw[hr,l't]at hc;have hall:∀(i:Nat) o,ops[i]?=some o->O'J n o=true:=λi o ho=>l'D.1 hin o (by
    obtain⟨hl,rfl⟩:=Array.getElem?_eq_some_iff.1 ho;simp)
   obtain⟨t1,hrun,he1⟩:=I'D hall ops.toList 0 (λj=>by simp) t env env1 h h1 he hr
   cases hf:reg (Q'0 ops draw) c (env1,h1) with
   | none=>rw[hf]at hc;simp at hc
   | some s2=>
    obtain⟨rfl,hfit⟩:=I'E hin2 (s:=(env1,h1)) he1 hf;rw[hf]at hc;simp only[l'l,l'a,l'd]at hc;obtain⟨rfl,rfl,rfl⟩:=hc;obtain⟨n1,hn1⟩:=K'o C _ _ _ hrun;refine⟨t1,he1,Ev.region ⟨n1,λm' hm'=>?_⟩ hfit⟩;have:List.range ops.size=List.range' 0 ops.toList.length:=by simp[List.range_eq_range']
    rw[this];exact hn1 m' hm'
 | _=>intro _ k t env env' h h' e he hc;simp[B'U]at hc
def okE (c:A'X H)(F:B'L H)(s:Env×H)(Q:Exit->Env->H->Prop): Prop:=∃k0 e t h,(∀k,k0<=k->F c k s=some (e,(t,h)))∧Q e t h
def okc (x:Option (Exit×(Env×H)))(Q:Exit->Env->H->Prop): Prop:=
 match x with
 | some (e,t,h)=>Q e t h
 | none=>False
theorem A'g (e:Exit)(t:Env)(h:H)(Q:Exit->Env->H->Prop): okc (some (e,(t,h))) Q=Q e t h:=rfl
theorem A'k (t:Env)(d:Nat)(v:Value)(i:Nat): upd t d v i=if i=d then v else t i:=rfl
theorem okE.flat {F:B'L H}{s:Env×H}{Q:Exit->Env->H->Prop}(hk:∀k,F c k s=F c 0 s)(h:okc (F c 0 s) Q): okE c F s Q:=by
 cases hr:F c 0 s with
 | none=>rw[hr]at h;exact h.elim
 | some r=>
  obtain⟨e,t,g⟩:=r;rw[hr]at h;exact⟨0,e,t,g,λk _=>by rw[hk,hr],h⟩
theorem okE.mono {F:B'L H}{s:Env×H}{Q Q':Exit->Env->H->Prop}(h:okE c F s Q)(hq:∀e t g,Q e t g->Q' e t g): okE c F s Q':=by
 obtain⟨k0,e,t,g,h1,h2⟩:=h;exact⟨k0,e,t,g,h1,hq _ _ _ h2⟩
def A'd (c:A'X H)(G:B'L H)(Q:Exit->Env->H->Prop): Exit->Env->H->Prop
 | .normal,t,h=>okE c G (t,h) Q
 | e,t,h=>Q e t h
theorem okE.seq {F G:B'L H}{s:Env×H}{Q:Exit->Env->H->Prop}(h:okE c F s (A'd c G Q)): okE c (A'b F G) s Q:=by
 obtain⟨k0,e,t,g,h1,h2⟩:=h
 by_cases he:e = .normal
 ·subst he;obtain⟨k1,e',t',g',h3,h4⟩:=h2;exact⟨max k0 k1,e',t',g',λk hk=>by simp only[A'b,h1 k (by omega)];exact h3 k (by omega),h4⟩
 ·refine⟨k0,e,t,g,λk hk=>?_,?_⟩
  ·simp only[A'b,h1 k hk]
   cases e <;> first|(exact absurd rfl he)|rfl
  ·cases e <;> first|(exact absurd rfl he)|exact h2
theorem okE.cond {x:Operand}{F G:B'L H}{s:Env×H}{Q:Exit->Env->H->Prop}(b:Bool)(hb:ev s.1 x = .bool b)(h:okE c (if b then F else G) s Q): okE c (cIf x F G) s Q:=by
 obtain⟨k0,e,t,g,h1,h2⟩:=h;refine⟨k0,e,t,g,λk hk=>?_,h2⟩;simp only[cIf,hb]
 cases b
 ·exact h1 k hk
 ·exact h1 k hk
theorem okE.blk {id:Nat}{F:B'L H}{s:Env×H}{Q:Exit->Env->H->Prop}(h:okE c F s (λe t g=>Q (A's id e) t g)): okE c (A'z id F) s Q:=by
 obtain⟨k0,e,t,g,h1,h2⟩:=h;exact⟨k0,_,t,g,λk hk=>by simp only[A'z,h1 k hk,l'l],h2⟩
theorem okE.reg {l:List (D'Q H)}{s s':Env×H}{Q:Exit->Env->H->Prop}(h:Vm.reg l c s=some s')(hq:Q .normal s'.1 s'.2): okE c (A'c l) s Q:=
 ⟨0,.normal,s'.1,s'.2,λk _=>by simp only[A'c,h,l'l],hq⟩
theorem okE.skip {s:Env×H}{Q:Exit->Env->H->Prop}(h:Q .normal s.1 s.2): okE c A'f s Q:=⟨0,.normal,s.1,s.2,λ_ _=>rfl,h⟩
theorem okE.loop {F:B'L H}{Q:Exit->Env->H->Prop}(I:Nat->Env->H->Prop)
  (round : ∀ n t h, I n t h → okE c F (t, h) (fun e t' h' => (e = .normal ∧ ∃ n', n' < n ∧ I n' t' h') ∨ (e ≠ .normal ∧ Q e t' h'))):
  ∀n t h,I n t h->okE c (A'1 F) (t,h) Q:=by
 intro n
 induction n using Nat.strongRecOn with
 | _ n ih=>
  intro t h hI;obtain⟨k0,e,t1,h1,hr,hq⟩:=round n t h hI;rcases hq with ⟨rfl,n',hlt,hI'⟩|⟨hne,hq⟩
  ·obtain⟨k1,e',t2,h2,hr2,hq2⟩:=ih n' hlt t1 h1 hI';refine⟨max k0 k1+1,e',t2,h2,λk hk=>?_,hq2⟩;obtain⟨m,rfl⟩:∃m,k=m+1:=⟨k-1,by omega⟩;simp only[A'1,H'I,hr m (by omega)];exact hr2 m (by omega)
  ·refine⟨k0+1,e,t1,h1,λk hk=>?_,hq⟩;obtain⟨m,rfl⟩:∃m,k=m+1:=⟨k-1,by omega⟩;simp only[A'1,H'I,hr m (by omega)]
   cases e <;> first|(exact absurd rfl hne)|rfl
theorem Lim.fn (C:Lim P O ro ok c){f:FuncId}{body:B'L H}{rs:List ResultVar}{fn:Func}(F:Vm.Fn P O ro f body rs fn)(hok:ok f=true){args:List Value}(hargs0:Nat.ble args.length fn.ntmps=true){h:H}{Q:Value->H->Prop}
  (hb : okE c body (A'Z args, h) (fun e t h' => (e = .ret ∨ e = .normal) ∧ ∃ v, A'L O P rs t h' = some v ∧ Q v h')): ∃ v h', c f args h = some (v, h') ∧ Q v h' := by
 have hargs:=Nat.le_of_ble_eq_true hargs0;obtain⟨k0,e,t,h',h1,hex,v,hr,hq⟩:=hb;refine⟨v,h',C.whole _ _ _ _ _ ?_,hq⟩
 cases hc:fn.body with
 | none=>have:=F.some_body;rw[hc]at this;simp at this
 | some cd=>
  have ht:=F.tmps;rw[hc]at ht;have hbo:B'U O P ro cd=body:=by have:=F.body_eq;simpa [I'B,hc]using this
  have he:ER fn.ntmps (args.toArray++Array.replicate (fn.ntmps-args.length) undef) (A'Z args):=by
   refine⟨by simp;omega,λi hi=>?_⟩;rw[I'F,l'q]
   by_cases hl:i<args.length
   ·rw[Array.getElem?_append_left (by simpa using hl)];simp
   ·rw[Array.getElem?_append_right (by simpa using hl),List.getElem?_eq_none (by omega)];simp only[Array.getElem?_replicate];split <;> rfl
  have hb2:=h1 k0 (l'H k0);rw[<-hbo]at hb2;obtain⟨t',he',hev⟩:=K'p C cd ht k0 _ _ _ _ _ _ he hb2;refine EvF.of_body hok F.func hc hev hex ?_;unfold I'b;rw[F.res,J'8 he' rs F.res_in];exact hr
theorem Lim.eq (C:Lim P O ro ok c){f:FuncId}{body:B'L H}{rs:List ResultVar}{fn:Func}(F:Vm.Fn P O ro f body rs fn)(hok:ok f=true){args:List Value}(hargs:Nat.ble args.length fn.ntmps=true){h h2:H}{v:Value}
  (hb : okE c body (A'Z args, h) (fun e t h' => (e = .ret ∨ e = .normal) ∧ A'L O P rs t h' = some v ∧ h' = h2)): c f args h = some (v, h2) := by
 obtain⟨u,g,h1,rfl,rfl⟩:=C.fn F hok hargs (Q:=λu g=>u=v∧g=h2) (hb.mono λe t g hq=>⟨hq.1,v,hq.2.1,rfl,hq.2.2⟩);exact h1
end
theorem s'f {H:Type}{c:A'X H}{F G:B'L H}{s:Env×H}{Q:Exit->Env->H->Prop}(h:okc (F c 0 s) (A'd c G Q))(hk:∀k,F c k s=F c 0 s:=by exact λ_=>rfl):okE c (A'b F G) s Q:=okE.seq (okE.flat hk h)
theorem f'f {H:Type}{c:A'X H}{F:B'L H}{s:Env×H}{Q:Exit->Env->H->Prop}(h:okc (F c 0 s) Q)(hk:∀k,F c k s=F c 0 s:=by exact λ_=>rfl):okE c F s Q:=okE.flat hk h
end Go.Vm
