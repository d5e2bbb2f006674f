import Derived.Test.YtimdkminagnhgabGreatDoorQ00
set_option linter.all false
namespace Go.Vm
open Go.RowKit
def M'B (G:Nat)(op:Op): Bool:=(A'Y op).all (B'v G)
def I'k (A:List Nat)(o:Oper): Nat:=o.after.toList.foldl (λs e=>if Region.binds .any e then s ||| 2^e.on ||| A.getD e.on 0 else s) 0
theorem F'E (A:List Nat)(x:Nat): ∀(l:List Edge) (s:Nat),
  (l.foldl (fun s e => if Region.binds .any e then s ||| 2 ^ e.on ||| A.getD e.on 0 else s) s).testBit x = true →
  s.testBit x=true∨∃e∈l,Region.binds .any e=true∧(x=e.on∨(A.getD e.on 0).testBit x=true):=by
 intro l
 induction l with
 | nil=>intro s h;exact .inl h
 | cons e l ih=>
  intro s h;rw[List.foldl_cons]at h;rcases ih _ h with h|⟨e',he',h⟩
  ·split at h
   ·rename_i hb
    simp only[Nat.testBit_or,Bool.or_eq_true]at h;rcases h with (h|h)|h
    ·exact .inl h
    ·refine .inr ⟨e,by simp,hb,.inl ?_⟩;rw[Nat.testBit_two_pow]at h;simpa using (of_decide_eq_true h).symm
    ·exact .inr ⟨e,by simp,hb,.inr h⟩
   ·exact .inl h
  ·exact .inr ⟨e',by simp[he'],h⟩
theorem J'Y {A:List Nat}{o:Oper}{x:Nat}(h:(I'k A o).testBit x=true):
  ∃e∈o.after.toList,Region.binds .any e=true∧(x=e.on∨(A.getD e.on 0).testBit x=true):=by
 rcases F'E A x _ _ h with h|h
 ·simp at h
 ·exact h
def E'b (qs:FuncId->Bool)(lt:Option (Nat×Nat))(ops:Array Oper): Bool:=
 let A:=(Region.before ops).toList
 ops.toList.zipIdx.all λ(o,i)=>
  (A.getD i 0 == I'k A o) && (o.after.toList.all fun e => !Region.binds .any e || e.on < i) &&
  ((ops.toList.take i).zipIdx.all λ(x,j)=>(A.getD i 0).testBit j||apart ops x o||E'P qs ops x o||F'D ops j i x o||lt==some (j,i))
def S'k: Op->Bool
 | .call { callee:=.value (.func _),.. }=>true
 | _=>false
def F'F (ops:Array Oper)(j0 i0:Nat): Bool:=
 let A:=(Region.before ops).toList
 match ops[j0]?,ops[i0]? with
 | some x,some y=>match y.op,y.dst with
  | .alloc _,some d=>decide (j0<i0)&&S'k x.op&&ops.toList.all (λo=>o.guard.isNone) && !(A.getD j0 0).testBit i0 &&
    ops.toList.zipIdx.all λ(o,k)=>k==i0||((!(A.getD k 0).testBit i0||(A.getD k 0).testBit j0)&&((A.getD k 0).testBit i0||(!B'I ops o d && !(o.dst==some d))))
  | _,_=>false
 | _,_=>false
def O'M (qs:FuncId->Bool)(ops:Array Oper): Option (Nat×Nat):=
 let A:=(Region.before ops).toList
 (ops.toList.zipIdx.flatMap fun (o, i) => (ops.toList.take i).zipIdx.filterMap fun (x, j) => if (A.getD i 0).testBit j || apart ops x o || E'P qs ops x o || F'D ops j i x o then none else some (j, i)).head?
def M'C (G:Nat)(qs:FuncId->Bool)(ops:Array Oper)(draw:Bool): Bool:=ops.toList.all (λo=>M'B G o.op)&&(!draw||match O'M qs ops with
 | none=>E'b qs none ops
 | some (j,i)=>E'b qs (some (j,i)) ops&&F'F ops j i)
def C'A (G:Nat)(qs:FuncId->Bool): Code->Bool
 | .skip | .ret | .exit _=>true
 | .seq a b=>C'A G qs a&&C'A G qs b
 | .cond c a b=>B'v G c&&C'A G qs a&&C'A G qs b
 | .block _ a | .loop a=>C'A G qs a
 | .region _ ops draw=>M'C G qs ops draw
 | _=>false
def D's (qs:FuncId->Bool): Code->Bool
 | .skip | .ret | .exit _=>true
 | .seq a b=>D's qs a&&D's qs b
 | .cond _ a b=>D's qs a&&D's qs b
 | .block _ a | .loop a=>D's qs a
 | .region _ ops _=>ops.toList.all λo=>cls o.op==0||rdl qs o.op
 | _=>false
section
variable {P:Program}{H:Type}{O:HI H}{G ro:Nat}{w0:Prot}{call:FuncId->List Value->H->Option (Value×H)}
def D'k (P:Program)(O:HI H)(G ro:Nat)(w0:Prot)(call:FuncId->List Value->H->Option (Value×H)): Prop:=
 ∀(o:Oper)(t:Array Value)(a:Act)(h h':H)(w:World)(β:List Place)(v:Value),M'B G o.op=true->Rel O G ro w0 β h w->(∀x∈A'Y o.op,VR β (A'9 t x) (a.eval x)) ->
  opA P O ro call (A'9 t) o.op h=some (v,h') ->
  ∀(K:Act->World->Prop)(Q:Exit->Act->World->Prop),(∀β' v' w',β <+: β'->Rel O G ro w0 β' h' w'->VR β' v v'->K (a.put o.dst v') w')->o.wp P a w K Q
def O'I (O:HI H)(G ro:Nat)(w0:Prot)(β:List Place)(s:Array Value×H)(a:Act)(w:World): Prop:=
 a.defers=[]∧∃β',β <+: β'∧Rel O G ro w0 β' s.2 w∧TR β' s.1 a.tmps
theorem D'g (a:Act)(d:Option Tmp)(v:Value): (a.put d v).tmps=B'Q a.tmps d v∧(a.put d v).defers=a.defers:=by
 cases d <;> exact⟨rfl,rfl⟩
theorem E'8 (hs:D'k P O G ro w0 call){ops:Array Oper}{i:Nat}{o:Oper}(ho:ops[i]?=some o)(hok:M'B G o.op=true){s s':Array Value×H}{a:Act}{w:World}{β:List Place}
  (hr:Rel O G ro w0 β s.2 w)(hE:∀x∈A'Y o.op,VR β (A'9 s.1 x) (a.eval x))(hw:Region.wanted o (yielded ops a.tmps)=Region.wanted o (yielded ops s.1))(hst:B'k P O ro call ops i s=some s')
  {K:Act->World->Prop}{Q:Exit->Act->World->Prop}(hK:∀β' v v' w',β <+: β'->Rel O G ro w0 β' s'.2 w'->VR β' v v'->s'.1=B'Q s.1 o.dst v->K (a.put o.dst v') w'): wpOp P ops Q i K a w:=by
 unfold wpOp;simp only[ho];simp only[B'k,ho]at hst;rw[hw];split
 ·rename_i hw
  rw[if_pos hw]at hst;refine .inl ?_
  cases ha:opA P O ro call (A'9 s.1) o.op s.2 with
  | none=>rw[ha]at hst;simp at hst
  | some r=>
   obtain⟨v,h'⟩:=r;rw[ha]at hst;simp only[l'a]at hst;subst hst;exact hs o s.1 a s.2 h' w β v hok hr hE ha K Q λβ' v' w' hp hr' hv=>hK β' v v' w' hp hr' hv rfl
 ·rename_i hw
  rw[if_neg hw]at hst;simp only[l'a]at hst;subst hst;exact hK β undef undef w List.prefix_rfl hr (VR.undef β) rfl
theorem G'S (hs:D'k P O G ro w0 call){ops:Array Oper}{i:Nat}{o:Oper}(ho:ops[i]?=some o)(hok:M'B G o.op=true){s s':Array Value×H}{a:Act}{w:World}{β:List Place}
  (hr:Rel O G ro w0 β s.2 w)(ht:TR β s.1 a.tmps)(hd:a.defers=[])(hst:B'k P O ro call ops i s=some s')
  {K:Act->World->Prop}{Q:Exit->Act->World->Prop}(hK:∀a' w',O'I O G ro w0 β s' a' w'->K a' w'): wpOp P ops Q i K a w:=by
 refine E'8 hs ho hok hr (λx hx=>C'Y hr ht (l'D.1 hok x hx)) (E'R ht ops o) hst λβ' v v' w' hp hr' hv he=>hK _ _ ?_;refine⟨by rw[(D'g a _ _).2];exact hd,β',hp,hr',?_⟩;rw[(D'g a _ _).1,he];exact (ht.mono hp).put hv _
theorem M'D (hs:D'k P O G ro w0 call){ops:Array Oper}(hok:∀(i:Nat)(o:Oper),ops[i]?=some o->M'B G o.op=true){Q:Exit->Act->World->Prop}{s':Array Value×H}:
  ∀(l:List Nat)(s:Array Value×H)(a:Act)(w:World)(β:List Place),Rel O G ro w0 β s.2 w->TR β s.1 a.tmps->a.defers=[]->C'X P O ro call ops l s=some s' ->
  (∀ a' w', O'I O G ro w0 β s' a' w' → Q .normal a' w') → wpOps P ops Q l a w := by
 intro l
 induction l with
 | nil=>
  intro s a w β hr ht hd h hQ;simp only[C'X,l'a]at h;subst h;exact hQ _ _ ⟨hd,β,List.prefix_rfl,hr,ht⟩
 | cons i l ih=>
  intro s a w β hr ht hd h hQ;rw[B'B]at h
  cases hst:B'k P O ro call ops i s with
  | none=>rw[hst]at h;simp at h
  | some s1=>
   rw[hst,l't]at h;rw[wpOps_cons]
   cases ho:ops[i]? with
   | none=>
    simp only[B'k,ho,l'a]at hst;subst hst;unfold wpOp;simp only[ho];exact ih _ _ _ _ hr ht hd h hQ
   | some o=>
    refine G'S hs ho (hok i o ho) hr ht hd hst λa' w' he=>?_;obtain⟨hd',β',hp,hr',ht'⟩:=he;exact ih _ _ _ _ hr' ht' hd' h λa'' w'' he'=>by
     obtain⟨hd'',β'',hp',hr'',ht''⟩:=he';exact hQ _ _ ⟨hd'',β'',hp.trans hp',hr'',ht''⟩
def C'g (n:Nat)(listed:Array Bool): List Nat:=(List.range n).filter λi=>!listed.getD i true
theorem C'h {n i:Nat}{listed:Array Bool}(hn:listed.size=n)(hi:i<n)(hl:listed.getD i true=false):
  ∃pre post,C'g n listed=pre++i :: post∧C'g n (listed.setIfInBounds i true)=pre++post∧∀j∈pre,j<i∧listed.getD j true=false:=by
 have e:List.range n=List.range i++i :: (List.range (n-i-1)).map (· + (i+1)):=by
  apply List.ext_getElem
  ·simp;omega
  ·intro k h1 h2;simp only[List.getElem_range,List.getElem_append,List.length_range];split
   ·rfl
   ·rename_i hk
    have:k-i=0∨∃m,k-i=m+1:=by rcases hh:k-i with _|m;exact .inl rfl;exact .inr ⟨m,rfl⟩
    rcases this with h0|⟨m,hm⟩
    ·simp only[h0,List.getElem_cons_zero];omega
    ·simp only[hm,List.getElem_cons_succ,List.getElem_map,List.getElem_range];omega
 have hset:∀j,(listed.setIfInBounds i true).getD j true=if j=i then true else listed.getD j true:=by
  intro j;simp only[l'q,l'u]
  by_cases c:i=j
  ·subst c;simp[hn,hi]
  ·rw[if_neg c,if_neg (λh=>c h.symm)]
 refine⟨(List.range i).filter λj=>!listed.getD j true,((List.range (n-i-1)).map (· + (i+1))).filter λj=>!listed.getD j true,?_,?_,?_⟩
 ·rw[C'g,e,List.filter_append,List.filter_cons,if_pos (by simp[hl])]
 ·rw[C'g,e,List.filter_append,List.filter_cons,if_neg (by simp[hset])];congr 1
  ·apply List.filter_congr;intro j hj;rw[hset,if_neg];have:=List.mem_range.1 hj;omega
  ·apply List.filter_congr;intro j hj;rw[hset,if_neg];obtain⟨m,_,rfl⟩:=List.mem_map.1 hj;omega
 ·intro j hj;rw[List.mem_filter]at hj;exact⟨List.mem_range.1 hj.1,by simpa using hj.2⟩
def SW (qs:FuncId->Bool)(ops:Array Oper)(s':Array Value×H)(j i:Nat)(x o:Oper): Prop:=
 apart ops x o=true∨E'P qs ops x o=true∨(F'D ops j i x o=true∧∀a z,D'6 x o=some (a,z)->J'W (A'9 s'.1 a) (A'9 s'.1 z)=true)
theorem SW.dst {qs:FuncId->Bool}{ops:Array Oper}{s':Array Value×H}{j i:Nat}{x o:Oper}(h:SW qs ops s' j i x o){d:Nat}(hd:x.dst=some d): B'I ops o d=false:=by
 rcases h with h|h|⟨h,_⟩
 ·unfold apart at h;simp only[hd,l'k,l'L]at h;exact h.1.1.1
 ·unfold E'P at h;simp only[hd,l'k,l'L]at h;exact h.1.1.1
 ·unfold F'D at h;simp only[hd,l'k,l'L]at h;exact h.1.1.1
theorem M'E (L:O.Law){qs:FuncId->Bool}(hq:G'k qs call){ops:Array Oper}{s':Array Value×H}{listed:Array Bool}{i:Nat}{o:Oper}{pre post:List Nat}(hsplit:C'g ops.size listed=pre++i :: post)(ho:ops[i]?=some o)
  (hpre : ∀ j ∈ pre, j < i)(hord : ∀ j ∈ pre, ∃ x, ops[j]? = some x ∧ SW qs ops s' j i x o){s : Array Value × H}(hrun : C'X P O ro call ops (C'g ops.size listed) s = some s'): C'X P O ro call ops (i :: (pre ++ post)) s = some s' := by
 have hsort:List.Pairwise (· < ·) (C'g ops.size listed):=List.Pairwise.filter _ List.pairwise_lt_range;have hoff:∀(k:Nat)(x:Oper)(z:Operand) (m:Nat),ops[k]?=some x->m<=k->(ops.toList.drop m).all (J'R · z)=true->J'R x z=true:=by
  intro k x z m hk hmk hall;refine l'D.1 hall x ?_;rw[l'i];exact⟨k-m,by rw[List.getElem?_drop,show m+(k-m)=k by omega];simpa using hk⟩
 have hsw:∀pre1 j pre2,pre=pre1++j :: pre2->∀s s2,(B'k P O ro call ops j s).bind (B'k P O ro call ops i)=some s2->C'X P O ro call ops (pre2++post) s2=some s'->(B'k P O ro call ops i s).bind (B'k P O ro call ops j)=some s2:=by
  intro pre1 j pre2 he s1 s2 hstep hrest;obtain⟨x,hx,hor⟩:=hord j (by rw[he];simp);rcases hor with hap1|hap1|⟨hla,hsep⟩
  ·exact I'g L hx ho hap1 s1 s2 hstep
  ·exact H'y hq hx ho hap1 s1 s2 hstep
  ·unfold F'D at hla;simp only[l'k]at hla;obtain⟨⟨t1,t2⟩,t3⟩:=hla
   cases hp:D'6 x o with
   | none=>rw[hp]at t3;simp at t3
   | some az=>
    obtain⟨az,zz⟩:=az;rw[hp]at t3;simp only[l'k]at t3;have rx:∀e,x.dst=some e->B'I ops o e=false∧o.dst≠some e:=by
     intro e he;simp only[he,l'k,l'L,l'A]at t1;exact t1
    have ry:∀e,o.dst=some e->B'I ops x e=false:=by
     intro e he;simp only[he,l'L]at t2;exact t2
    have hbeh:∀k∈pre2++post,j<k:=by
     rw[hsplit,he]at hsort;intro k hk;have h1:List.Pairwise (· < ·) (j :: (pre2++i :: post)):=by
      have:pre1++j :: pre2++i :: post=pre1++(j :: (pre2++i :: post)):=by simp
      rw[this]at hsort;exact (List.pairwise_append.1 hsort).2.1
     have h2:=(List.pairwise_cons.1 h1).1;rcases l'E.1 hk with hk|hk
     ·exact h2 k (by simp[hk])
     ·exact h2 k (by simp[hk])
    have hpost:∀k∈post,i<k:=by
     rw[hsplit]at hsort;have h1:=(List.pairwise_append.1 hsort).2.1;exact (List.pairwise_cons.1 h1).1
    have hji:j<i:=hpre j (by rw[he];simp);have hzop:∀d,E'6 d zz=true->B'I ops o d=true:=by
     intro d hd;unfold D'6 at hp;split at hp
     ·rename_i ly
      simp only[l'a,l'd]at hp;obtain⟨_,rfl⟩:=hp;unfold B'I;have:(A'Y o.op).any (E'6 d)=true:=by
       cases hop:o.op with
       | call cl=>
        rw[hop]at ly;obtain⟨cal,args,tys⟩:=cl
        cases cal with
        | builtin b=>
         cases b <;> simp only[D'5,reduceCtorEq]at ly
         simp only[A'Y,List.any_eq_true];exact⟨_,List.mem_of_mem_head? (by rw[ly];rfl),hd⟩
        | _=>simp[D'5]at ly
       | _=>rw[hop]at ly;simp[D'5]at ly
      simp[this]
     ·simp at hp
    have hoffz:∀k x',ops[k]?=some x'->(k∈pre∨i<=k)->J'R x' zz=true:=by
     intro k x' hk hor;rcases hor with hk1|hk1
     ·obtain⟨x2,hx2,hor2⟩:=hord k hk1;rw[hk]at hx2;simp only[l'a]at hx2;subst hx2;unfold J'R
      cases hd:x'.dst with
      | none=>rfl
      | some d=>
       have hr:B'I ops o d=false:=hor2.dst hd
       cases hb:E'6 d zz with
       | false=>simp[hb]
       | true=>rw[hzop d hb]at hr;simp at hr
     ·exact hoff k x' zz i hk hk1 t3.2
    have ea:A'9 s'.1 az=A'9 s1.1 az:=by
     cases hs1:B'k P O ro call ops j s1 with
     | none=>rw[hs1]at hstep;simp at hstep
     | some s11=>
      rw[hs1,l't]at hstep;rw[F'B _ _ _ hrest (λk hk o' ho'=>hoff k o' az j ho' (Nat.le_of_lt (hbeh k hk)) t3.1),C'z hstep (λo' ho'=>hoff i o' az j ho' (Nat.le_of_lt hji) t3.1),C'z hs1 (λo' ho'=>hoff j o' az j ho' (l'H j) t3.1)]
    have ez:A'9 s'.1 zz=A'9 s1.1 zz:=by
     cases hs1:B'k P O ro call ops j s1 with
     | none=>rw[hs1]at hstep;simp at hstep
     | some s11=>
      rw[hs1,l't]at hstep;rw[F'B _ _ _ hrest (λk hk o' ho'=>hoffz k o' ho' (by
        rcases l'E.1 hk with h|h
        ·exact .inl (by rw[he];simp[h])
        ·exact .inr (Nat.le_of_lt (hpost k h)))),C'z hstep (λo' ho'=>hoffz i o' ho' (.inr (l'H i))),C'z hs1 (λo' ho'=>hoffz j o' ho' (.inl (by rw[he];simp)))]
    exact H'z L hx ho hp rx ry s1 s2 (by rw[<-ea,<-ez];exact hsep az zz hp) hstep
 rw[hsplit]at hrun;exact I'j _ _ _ hsw _ hrun
theorem SR.const {v:Value}(hc:B'v 0 (.const v)=true){β β':List Place}{v':Value}(h:SR β v v'): SR β' v v':=by
 cases v with
 | bool b=>exact h
 | int k n=>exact h
 | string s=>exact h
 | pointer a=>cases a with
  | none=>exact h
  | some a=>simp[B'v]at hc
 | slice a l c=>cases a with
  | none=>exact h
  | some a=>simp[B'v]at hc
 | _=>simp[B'v]at hc
theorem SR.back {β:List Place}{p:Place}{v v' u:Value}(h:SR (β++[p]) v v')(hu:SR β v u): SR β v v':=by
 have key:∀(b:Nat) q q',β[b]?=some q->(β++[p])[b]?=some q'->q'=q:=λb q q' h1 h2=>by
  rw[l'e (l'b.1 h1).1,h1]at h2;simpa using h2.symm
 cases v with
 | pointer a=>cases a with
  | none=>exact h
  | some a=>
   obtain⟨q',h1,h2⟩:=h;obtain⟨q,h3,_⟩:=hu;obtain rfl:=key _ _ _ h3 h1;exact⟨_,h3,h2⟩
 | slice a l c=>cases a with
  | none=>exact h
  | some a=>
   obtain⟨q',c',z,h1,h2⟩:=h;obtain⟨q,_,_,h3,_⟩:=hu;obtain rfl:=key _ _ _ h3 h1;exact⟨_,c',z,h3,h2⟩
 | _=>exact h
def Prot.plus (w0:Prot)(k:Nat)(o:Obj): Prot:=⟨w0.w,λi=>if i=k then some o else w0.s i⟩
structure Fresh (w0:Prot)(zs:List Value)(p:Place)(obj:Obj):Prop where
 ob:∃c e,obj = .cells c e (0,0)∧c.size=p.size∧∀(o:Nat) v,zs[o]?=some v->∃v',c[p.off+o]?=some v'∧∀β,SR β v v'
 own:w0.w.heap.size<=p.blk
 none:w0.s p.blk=Option.none
theorem Rel.forget (L:O.Law){β β':List Place}{h:H}{w w':World}{zs:List Value}(hz:∀v∈zs,B'v 0 (.const v)=true)(r0:Rel O G ro w0 β h w)(hp:β <+: β')(r:Rel O G ro w0 β' (O.new h zs) w'):
  ∃p obj,β' = β++[p]∧Fresh w0 zs p obj∧Rel O G ro (w0.plus p.blk obj) β h w':=by
 obtain⟨t,rfl⟩:=hp;have hl:=r.len;have hl0:=r0.len;rw[L.next_new,l'p,hl0]at hl;have ht1:t.length=1:=by omega
 obtain⟨p,rfl⟩:∃p,t=[p]:=by
  cases t with
  | nil=>simp at ht1
  | cons p t=>cases t with
   | nil=>exact⟨p,rfl⟩
   | cons _ _=>simp at ht1
 have hpn:(β++[p])[O.next h]?=some p:=by rw[<-hl0,l'z (l'H _)];simp
 obtain⟨c,e,fz,hh,hsz,hf,hcell⟩:=r.cells _ p hpn;have hfz:=hf r0.ro_le;subst hfz;have haln:O.alive (O.new h zs) (O.next h)=true:=by rw[L.alive_new,if_pos rfl]
 have up:∀(b:Nat) q,β[b]?=some q->(β++[p])[b]?=some q∧b<O.next h:=λb q hq=>by
  have hb:=(l'b.1 hq).1;exact⟨by rw[l'e hb];exact hq,by omega⟩
 have hne:∀(b:Nat) q,β[b]?=some q->O.alive h b=true->q.blk≠p.blk:=by
  intro b q hq ha hb;obtain⟨h1,h2⟩:=up b q hq;have:=r.inj _ b p q hpn h1 haln (by rw[L.alive_new,if_neg (by omega)];exact ha) r0.ro_le hb.symm;omega
 refine⟨p,.cells c e (0,0),rfl,⟨⟨c,e,rfl,hsz,λo v hv=>?_⟩,r.own _ p hpn r0.ro_le,?_⟩,?_⟩
 ·obtain⟨v',h1,h2⟩:=hcell o v (by rw[L.cell_new,if_pos rfl];exact hv);exact⟨v',h1,λβ=>h2.const (hz v (l'f hv))⟩
 ·cases hs:w0.s p.blk with
  | none=>rfl
  | some o=>exact absurd rfl ((r.ext _ o hs).2 _ p hpn haln)
 ·refine⟨hl0,r.below,r0.glob,r0.own,?_,?_,r0.ro_le,?_⟩
  ·intro b q hq;obtain⟨h1,h2⟩:=up b q hq;obtain⟨c1,e1,fz1,hh1,hs1,hf1,hc1⟩:=r.cells b q h1;obtain⟨c0,e0,fz0,hh0,hs0,hf0,hc0⟩:=r0.cells b q hq;refine⟨c1,e1,fz1,hh1,hs1,hf1,λo v hv=>?_⟩;obtain⟨v',k1,k2⟩:=hc1 o v (by rw[L.cell_new,if_neg (by omega)];exact hv);obtain⟨u,_,k4⟩:=hc0 o v hv;exact⟨v',k1,k2.back k4⟩
  ·exact r0.inj
  ·intro k o hk;simp only[Prot.plus]at hk
   by_cases hkp:k=p.blk
   ·rw[if_pos hkp]at hk;simp only[l'a]at hk;subst hk hkp;exact⟨hh,hne⟩
   ·rw[if_neg hkp]at hk;obtain⟨k1,k2⟩:=r.ext k o hk;refine⟨k1,λb q hq ha=>?_⟩;obtain⟨h1,h2⟩:=up b q hq;exact k2 b q h1 (by rw[L.alive_new,if_neg (by omega)];exact ha)
theorem Rel.adopt (L:O.Law){β:List Place}{h:H}{w:World}{zs:List Value}{p:Place}{obj:Obj}(f:Fresh w0 zs p obj)(r:Rel O G ro (w0.plus p.blk obj) β h w): Rel O G ro w0 (β++[p]) (O.new h zs) w:=by
 have hpre:β <+: β++[p]:=List.prefix_append _ _;obtain⟨hh,hne⟩:=r.ext p.blk obj (by simp[Prot.plus]);obtain⟨c,e,hob,hsz,hcell⟩:=f.ob;have hl:=r.len;have snoc:∀{b:Nat}{q:Place},(β++[p])[b]?=some q->(β[b]?=some q∧b < β.length)∨(b = β.length∧q=p):=by
  intro b q h
  by_cases c:b < β.length
  ·rw[l'e c]at h;exact .inl ⟨h,c⟩
  ·rw[l'z (by omega)]at h;have:b - β.length=0:=by
    rcases hk:b - β.length with _|k
    ·rfl
    ·rw[hk]at h;simp at h
   rw[this]at h;simp at h;exact .inr ⟨by omega,h.symm⟩
 refine⟨by simp[hl,L.next_new],r.below,?_,?_,?_,?_,by rw[L.next_new];have:=r.ro_le;omega,?_⟩
 ·intro g hg;obtain⟨q,hq,C'g⟩:=r.glob g hg;exact⟨q,by rw[l'e (l'b.1 hq).1];exact hq,C'g⟩
 ·intro b q hq hro;rcases snoc hq with ⟨hq,_⟩|⟨_,rfl⟩
  ·exact r.own b q hq hro
  ·exact f.own
 ·intro b q hq;rcases snoc hq with ⟨hq,hb⟩|⟨hb,rfl⟩
  ·obtain⟨c1,e1,fz1,hh1,hs1,hf1,hc1⟩:=r.cells b q hq;refine⟨c1,e1,fz1,hh1,hs1,hf1,λo v hv=>?_⟩;rw[L.cell_new,if_neg (by omega)]at hv;obtain⟨v',k1,k2⟩:=hc1 o v hv;exact⟨v',k1,k2.mono hpre⟩
  ·refine⟨c,e,(0,0),by rw[hh,hob],hsz,λ_=>rfl,λo v hv=>?_⟩;rw[L.cell_new,if_pos (by omega)]at hv;obtain⟨v',k1,k2⟩:=hcell o v hv;exact⟨v',k1,k2 _⟩
 ·intro b1 b2 p1 p2 hp1 hp2 a1 a2 hr1 hb;rw[L.alive_new]at a1 a2;rcases snoc hp1 with ⟨hq1,hb1⟩|⟨hb1,e1⟩
  ·rw[if_neg (by omega)]at a1;rcases snoc hp2 with ⟨hq2,hb2⟩|⟨hb2,e2⟩
   ·rw[if_neg (by omega)]at a2;exact r.inj b1 b2 p1 p2 hq1 hq2 a1 a2 hr1 hb
   ·subst e2;exact absurd hb (hne b1 p1 hq1 a1)
  ·subst e1;rcases snoc hp2 with ⟨hq2,hb2⟩|⟨hb2,_⟩
   ·rw[if_neg (by omega)]at a2;exact absurd hb.symm (hne b2 p2 hq2 a2)
   ·omega
 ·intro k o hk;have hkp:k≠p.blk:=by
   rintro rfl;rw[f.none]at hk;simp at hk
  obtain⟨k1,k2⟩:=r.ext k o (by simp only[Prot.plus];rw[if_neg hkp];exact hk);refine⟨k1,λb q hq ha=>?_⟩;rw[L.alive_new]at ha;rcases snoc hq with ⟨hq,hb⟩|⟨hb,rfl⟩
  ·rw[if_neg (by omega)]at ha;exact k2 b q hq ha
  ·exact λe=>hkp e.symm
def TRo (d:Nat)(β:List Place)(t t':Array Value): Prop:=t'.size=t.size∧∀i,i≠d->VR β (t.getD i undef) (t'.getD i undef)
theorem TRo.eval {β:List Place}{h:H}{w:World}{d:Nat}(r:Rel O G ro w0 β h w){t:Array Value}{a:Act}(ht:TRo d β t a.tmps){x:Operand}(hx:B'v G x=true)(hd:E'6 d x=false): VR β (A'9 t x) (a.eval x):=by
 cases x with
 | tmp i=>
  refine ht.2 i ?_;rintro rfl;simp[E'6]at hd
 | global g=>exact C'Y (t:=#[]) (a:={ a with tmps:=#[] }) r ⟨rfl,λi=>by simpa using VR.undef β⟩ hx
 | func f=>simp[B'v]at hx
 | const v=>exact C'Y (t:=#[]) (a:={ a with tmps:=#[] }) r ⟨rfl,λi=>by simpa using VR.undef β⟩ hx
theorem TRo.put {d:Nat}{β β':List Place}(hp:β <+: β'){t t':Array Value}(h:TRo d β t t'){v v':Value}(hv:VR β' v v')(e:Option Tmp)(he:e≠some d):
  TRo d β' (B'Q t e v) (B'Q t' e v')∧(B'Q t' e v').getD d undef=t'.getD d undef∧(B'Q t' e v').size=t'.size:=by
 cases e with
 | none=>exact⟨⟨h.1,λi hi=>(h.2 i hi).mono hp⟩,rfl,rfl⟩
 | some e=>
  refine⟨⟨by simp[B'Q,h.1],λi hi=>?_⟩,?_,by simp[B'Q]⟩
  ·simp only[B'Q,l'q,l'u]
   by_cases c:e=i
   ·rw[if_pos c,if_pos c,h.1];split
    ·simpa using hv
    ·simpa using VR.undef β'
   ·rw[if_neg c,if_neg c];simpa [l'q]using (h.2 i hi).mono hp
  ·simp only[B'Q,l'q,l'u];rw[if_neg (λc=>he (by rw[c]))]
theorem TR.off {d:Nat}{β:List Place}{t t':Array Value}(h:TR β t t')(v:Value): TRo d β t (B'Q t' (some d) v):=by
 refine⟨by simp[B'Q,h.1],λi hi=>?_⟩;simp only[B'Q,l'q,l'u];rw[if_neg (λc=>hi c.symm)];simpa [l'q]using h.2 i
theorem TRo.on {d:Nat}{β β':List Place}(hp:β <+: β'){t t':Array Value}(h:TRo d β t t'){v v':Value}(hv:VR β' v v')(he:d<t'.size->t'.getD d undef=v'): TR β' (B'Q t (some d) v) t':=by
 refine⟨by simp[B'Q,h.1],λi=>?_⟩;simp only[B'Q,l'q,l'u]
 by_cases c:d=i
 ·subst c
  by_cases hd:d<t.size
  ·rw[if_pos rfl,if_pos hd];have:=he (by rw[h.1];exact hd);rw[l'q]at this;rw[this];simpa using hv
  ·rw[if_pos rfl,if_neg hd,Array.getElem?_eq_none (by rw[h.1];omega)];simpa using VR.undef β'
 ·rw[if_neg c];simpa [l'q]using (h.2 i (λe=>c e.symm)).mono hp
theorem J'Z {ops:Array Oper}{i:Nat}{post:List Nat}{s':Array Value×H}: ∀(pre:List Nat)(s:Array Value×H),C'X P O ro call ops (pre++i :: post) s=some s'->∃sm s2,B'k P O ro call ops i sm=some s2:=by
 intro pre
 induction pre with
 | nil=>
  intro s h;rw[List.nil_append,B'B]at h
  cases hs:B'k P O ro call ops i s with
  | none=>rw[hs]at h;simp at h
  | some s2=>exact⟨s,s2,hs⟩
 | cons k pre ih=>
  intro s h;rw[List.cons_append,B'B]at h
  cases hs:B'k P O ro call ops k s with
  | none=>rw[hs]at h;simp at h
  | some s2=>
   rw[hs,l't]at h;exact ih s2 h
theorem H'A {ops:Array Oper}{i:Nat}{y:Oper}{e:TypeId}(ho:ops[i]?=some y)(hop:y.op = .alloc e)(hg:y.guard=none){sm s2:Array Value×H}(hst:B'k P O ro call ops i sm=some s2):
  ∃zs:List Value,(∀v∈zs,B'v 0 (.const v)=true)∧∀s:Array Value×H,B'k P O ro call ops i s=some (B'Q s.1 y.dst (.pointer (some ⟨O.next s.2,0,none⟩)),O.new s.2 zs):=by
 have hw:∀t:Array Value,Region.wanted y (yielded ops t)=true:=λt=>by simp[Region.wanted,hg]
 simp only[B'k,ho,hw,if_true,opA,hop,cls,D'c]at hst
 cases hi:P.info? e with
 | none=>rw[hi]at hst;simp at hst
 | some inf=>
  rw[hi]at hst;simp only at hst
  cases hz:inf.zero with
  | none=>rw[hz]at hst;simp at hst
  | some z=>
   rw[hz]at hst;simp only at hst
   cases hzo:C'w z with
   | false=>rw[hzo]at hst;simp at hst
   | true=>
    refine⟨z.cells.toList,λv hv=>l'D.1 hzo v hv,λs=>?_⟩;simp only[B'k,ho,hw,if_true,opA,hop,cls,D'c,hi,hz,hzo]
theorem C'B {qs:FuncId->Bool}{lt:Option (Nat×Nat)}{ops:Array Oper}(hdr:E'b qs lt ops=true){s':Array Value×H}(hfit:D'E ops true s'.1=true)(i:Nat)(o:Oper)(ho:ops[i]?=some o):
  (Region.before ops).toList.getD i 0 = I'k (Region.before ops).toList o ∧ (∀ e ∈ o.after.toList, Region.binds .any e = true → e.on < i) ∧
   ∀(j:Nat) x,j<i->ops[j]?=some x->((Region.before ops).toList.getD i 0).testBit j=true∨SW qs ops s' j i x o∨lt=some (j,i):=by
 have hm:(o,i)∈ops.toList.zipIdx:=by
  rw[List.mem_zipIdx_iff_getElem?];simpa using ho
 have h:=l'D.1 hdr _ hm;simp only[l'k,beq_iff_eq]at h;obtain⟨⟨h1,h2⟩,h3⟩:=h;refine⟨h1,λe he hb=>?_,λj x hj hx=>?_⟩
 ·have:=l'D.1 h2 e he;simpa [hb]using this
 ·have hm':(x,j)∈(ops.toList.take i).zipIdx:=by
   rw[List.mem_zipIdx_iff_getElem?];simp only[List.getElem?_take,hj,if_true];simpa using hx
  have:=l'D.1 h3 _ hm';simp only[Bool.or_eq_true]at this;rcases this with (((this|this)|this)|this)|this
  ·exact .inl this
  ·exact .inr (.inl (.inl this))
  ·exact .inr (.inl (.inr (.inl this)))
  ·by_cases hb:((Region.before ops).toList.getD i 0).testBit j=true
   ·exact .inl hb
   ·by_cases hap:apart ops x o=true
    ·exact .inr (.inl (.inl hap))
    ·refine .inr (.inl (.inr (.inr ⟨this,λa z hp=>?_⟩)));have hmem:(a,z)∈D'j ops:=by
      unfold D'j;simp only[List.mem_flatMap,List.mem_filterMap,Prod.exists];exact⟨o,i,hm,x,j,hm',by
       have hb':((Region.before ops).toList.getD i 0).testBit j=false:=by simpa using hb
       have hap':apart ops x o=false:=by simpa using hap
       simp only[hb',hap',Bool.or_self,l'y,if_false,hp]⟩
     simp only[D'E,Bool.not_true,Bool.false_or]at hfit;exact l'D.1 hfit _ hmem
  ·exact .inr (.inr (by simpa using this))
theorem B'h {n i:Nat}{listed:Array Bool}(hn:listed.size=n)(hi:i<n)(b:Bool)(y:Nat): (listed.setIfInBounds i b).getD y true=if y=i then b else listed.getD y true:=by
 simp only[l'q,l'u]
 by_cases c:i=y
 ·subst c;simp[hn,hi]
 ·rw[if_neg c,if_neg (λh=>c h.symm)]
theorem E'c {qs:FuncId->Bool}{lt:Option (Nat×Nat)}{ops:Array Oper}(hdr:E'b qs lt ops=true){s':Array Value×H}(hfit:D'E ops true s'.1=true){listed:Array Bool}
  (hcl : ∀ j, listed.getD j true = true → j < ops.size → ∀ x, ((Region.before ops).toList.getD j 0).testBit x = true → listed.getD x true = true){i : Nat}(hi : i ∈ Region.ready .any ops listed):
  i<ops.size∧listed.getD i true=false∧∀x,((Region.before ops).toList.getD i 0).testBit x=true->listed.getD x true=true:=by
 unfold Region.ready at hi;rw[List.mem_filter]at hi;obtain⟨hi1,hi2⟩:=hi;have hi1':=List.mem_range.1 hi1;have ho:ops[i]?=some ops[i]:=Array.getElem?_eq_getElem hi1';generalize ops[i]=o at ho;simp only[l'k,ho,l'l,Option.getD_some]at hi2;obtain⟨hl1,hl2⟩:=hi2;obtain⟨hmask,hlt,hap⟩:=C'B hdr hfit i o ho;refine⟨hi1',by simpa using hl1,λx hx=>?_⟩;rw[hmask]at hx;obtain⟨e,he,hb,hor⟩:=J'Y hx;have hon:listed.getD e.on true=true:=by
  have:=Array.all_eq_true_iff_forall_mem.1 hl2 e (by simpa using he);simp only[hb,Bool.not_true,Bool.false_or]at this;rw[l'q]at this ⊢
  cases hq:listed[e.on]? with
  | none=>rfl
  | some b=>rw[hq]at this;simpa using this
 rcases hor with rfl|hx'
 ·exact hon
 ·exact hcl e.on hon (by have:=hlt e he hb;omega) x hx'
theorem E'S {ops:Array Oper}{listed:Array Bool}(hsz:listed.size=ops.size){i:Nat}(hi:i<ops.size)
  (hcl:∀j,listed.getD j true=true->j<ops.size->∀x,((Region.before ops).toList.getD j 0).testBit x=true->listed.getD x true=true)
  (hanc : ∀ x, ((Region.before ops).toList.getD i 0).testBit x = true → listed.getD x true = true):
  ∀j,(listed.setIfInBounds i true).getD j true=true->j<ops.size->∀x,((Region.before ops).toList.getD j 0).testBit x=true->(listed.setIfInBounds i true).getD x true=true:=by
 intro j hj hjn x hx;rw[B'h hsz hi]at hj ⊢;split
 ·rfl
 ·by_cases c:j=i
  ·subst c;exact hanc x hx
  ·rw[if_neg c]at hj;exact hcl j hj hjn x hx
theorem E'd {qs:FuncId->Bool}{lt:Option (Nat×Nat)}{ops:Array Oper}(hdr:E'b qs lt ops=true){s':Array Value×H}(hfit:D'E ops true s'.1=true){listed:Array Bool}(hsz:listed.size=ops.size){fuel:Nat}(hlen:(C'g ops.size listed).length=fuel+1)
  (hready : Region.ready .any ops listed = []): False := by
 cases hl:C'g ops.size listed with
 | nil=>rw[hl]at hlen;simp at hlen
 | cons i r=>
  have hi:i∈C'g ops.size listed:=by rw[hl];simp
  rw[C'g,List.mem_filter]at hi;obtain⟨hi1,hi2⟩:=hi;have hi1':=List.mem_range.1 hi1;have ho:ops[i]?=some ops[i]:=Array.getElem?_eq_getElem hi1';obtain⟨_,hlt,_⟩:=C'B hdr hfit i _ ho;have hmem:i∈Region.ready .any ops listed:=by
   unfold Region.ready;rw[List.mem_filter];refine⟨hi1,?_⟩;simp only[l'k];refine⟨hi2,?_⟩;rw[ho];simp only[l'l,Option.getD_some];rw[Array.all_eq_true_iff_forall_mem];intro e he
   cases hb:Region.binds .any e with
   | false=>rfl
   | true=>
    simp only[Bool.not_true,Bool.false_or];have he':e.on<i:=hlt e (by simpa using he) hb
    cases hlst:listed.getD e.on true with
    | true=>
     rw[l'q]at hlst ⊢;have:e.on<listed.size:=by omega
     simpa [this]using hlst
    | false=>
     exfalso;obtain⟨pre,post,hsplit,_,hpre⟩:=C'h hsz hi1' (by simpa using hi2);obtain⟨pre2,post2,hsplit2,_,hpre2⟩:=C'h hsz (i:=e.on) (by omega) hlst;rw[hl]at hsplit hsplit2
     cases pre2 with
     | nil=>simp at hsplit2;omega
     | cons k pre2=>
      simp at hsplit2;have:=(hpre2 k (by simp)).1;omega
  rw[hready]at hmem;simp at hmem
structure Late (ops:Array Oper) (j0 i0:Nat)(y:Oper) (d:Nat):Prop where
 lt:j0<i0
 oy:ops[i0]?=some y
 al:∃e,y.op = .alloc e
 dst:y.dst=some d
 gd:∀(k:Nat) o,ops[k]?=some o->o.guard=none
 jn:j0<ops.size
 off:∀(k:Nat) o,ops[k]?=some o->k≠i0->(((Region.before ops).toList.getD k 0).testBit i0=true->((Region.before ops).toList.getD k 0).testBit j0=true) ∧
  (((Region.before ops).toList.getD k 0).testBit i0=false->B'I ops o d=false∧o.dst≠some d)
 jo:((Region.before ops).toList.getD j0 0).testBit i0=false
theorem M'F {ops:Array Oper}{j0 i0:Nat}(h:F'F ops j0 i0=true): ∃y d,Late ops j0 i0 y d:=by
 unfold F'F at h;simp only at h;split at h
 ·rename_i x y hx hy
  split at h
  ·rename_i e d hop hd
   simp only[l'k,l'M,l'L]at h;obtain⟨⟨⟨⟨h1,h2⟩,h3⟩,h4⟩,h5⟩:=h;refine⟨y,d,h1,hy,⟨e,hop⟩,hd,λk o ho=>?_,(Array.getElem?_eq_some_iff.1 hx).1,λk o ho hk=>?_,h4⟩
   ·have:=l'D.1 h3 o (by obtain⟨hl,rfl⟩:=Array.getElem?_eq_some_iff.1 ho;simp);simpa using this
   ·have hm:(o,k)∈ops.toList.zipIdx:=by rw[List.mem_zipIdx_iff_getElem?];simpa using ho
    have:=l'D.1 h5 _ hm;simp only[Bool.or_eq_true,l'k,beq_iff_eq,l'L,l'A]at this;rcases this with this|⟨k1,k2⟩
    ·exact absurd this hk
    ·refine⟨λhb=>?_,λhb=>?_⟩
     ·rcases k1 with k1|k1
      ·rw[hb]at k1;simp at k1
      ·exact k1
     ·rcases k2 with k2|k2
      ·rw[hb]at k2;simp at k2
      ·exact k2
  ·simp at h
 ·simp at h
theorem set_set {listed:Array Bool}{n i j:Nat}(hn:listed.size=n)(hi:i<n)(hj:j<n)(hij:i≠j)(b c:Bool): C'g n ((listed.setIfInBounds i b).setIfInBounds j c)=C'g n ((listed.setIfInBounds j c).setIfInBounds i b):=by
 unfold C'g;apply List.filter_congr;intro k hk;have e1:=B'h (n:=n) (listed:=listed.setIfInBounds i b) (by simp[hn]) hj c k;have e2:=B'h (n:=n) (listed:=listed.setIfInBounds j c) (by simp[hn]) hi b k;rw[e1,e2,B'h hn hi,B'h hn hj]
 by_cases h1:k=i
 ·subst h1;rw[if_neg hij,if_pos rfl,if_pos rfl]
 ·by_cases h2:k=j
  ·subst h2;rw[if_pos rfl,if_neg h1,if_pos rfl]
  ·simp only[if_neg h1,if_neg h2]
theorem M'G (L:O.Law){qs:FuncId->Bool}(hq:G'k qs call)(hs:∀w0,D'k P O G ro w0 call){lt:Option (Nat×Nat)}{ops:Array Oper}(hok:∀(i:Nat)(o:Oper),ops[i]?=some o->M'B G o.op=true)(hdr:E'b qs lt ops=true)(hla:∀j i,lt=some (j,i)->F'F ops j i=true){Q:Exit->Act->World->Prop}{s':Array Value×H}(hfit:D'E ops true s'.1=true):
  ∀(fuel:Nat),
  (∀ (listed : Array Bool) (s : Array Value × H) (a : Act) (w : World) (β : List Place), listed.size = ops.size → (C'g ops.size listed).length = fuel →
   (∀ j, listed.getD j true = true → j < ops.size → ∀ x, ((Region.before ops).toList.getD j 0).testBit x = true → listed.getD x true = true) →
   Rel O G ro w0 β s.2 w->TR β s.1 a.tmps->a.defers=[]->C'X P O ro call ops (C'g ops.size listed) s=some s' ->
   (∀ a' w', O'I O G ro w0 β s' a' w' → Q .normal a' w') → wpAny P .any ops Q fuel listed a w) ∧
  (∀ (j0 i0 : Nat) (y : Oper) (d : Nat) (zs : List Value) (p : Place) (obj : Obj) (v0 : Value) (listed : Array Bool) (s : Array Value × H) (a : Act) (w : World) (β : List Place), lt = some (j0, i0) → Late ops j0 i0 y d → Fresh w0 zs p obj →
   (∀ s : Array Value × H, B'k P O ro call ops i0 s = some (B'Q s.1 (some d) (.pointer (some ⟨O.next s.2, 0, none⟩)), O.new s.2 zs)) → v0 = .pointer (some ⟨p.blk, p.off, none⟩) → listed.getD i0 true = true → listed.getD j0 true = false →
   listed.size=ops.size->(C'g ops.size listed).length=fuel ->
   (∀ j, listed.getD j true = true → j < ops.size → ∀ x, ((Region.before ops).toList.getD j 0).testBit x = true → listed.getD x true = true) →
   Rel O G ro (w0.plus p.blk obj) β s.2 w->TRo d β s.1 a.tmps->(d<a.tmps.size->a.tmps.getD d undef=v0)->a.defers=[]->C'X P O ro call ops (C'g ops.size (listed.setIfInBounds i0 false)) s=some s' ->
   (∀ a' w', O'I O G ro w0 β s' a' w' → Q .normal a' w') → wpAny P .any ops Q fuel listed a w) := by
 intro fuel
 induction fuel with
 | zero=>
  refine⟨?_,?_⟩
  ·intro listed s a w β hsz hlen hcl hr ht hd hrun hQ;have h0:C'g ops.size listed=[]:=List.length_eq_zero_iff.1 hlen;refine⟨?_,?_⟩
   ·unfold Region.ready;rw[List.filter_eq_nil_iff];intro i hi hc;have:i∈C'g ops.size listed:=by
     rw[C'g,List.mem_filter];simp only[l'k]at hc;exact⟨hi,hc.1⟩
    rw[h0]at this;simp at this
   ·rw[h0]at hrun;simp only[C'X,l'a]at hrun;subst hrun;exact hQ _ _ ⟨hd,β,List.prefix_rfl,hr,ht⟩
  ·intro j0 i0 y d zs p obj v0 listed s a w β hlt hL hF hal hv0 hl1 hl2 hsz hlen;exfalso;have h0:C'g ops.size listed=[]:=List.length_eq_zero_iff.1 hlen;have:j0∈C'g ops.size listed:=by
    rw[C'g,List.mem_filter];exact⟨List.mem_range.2 hL.jn,by simp[hl2]⟩
   rw[h0]at this;simp at this
 | succ fuel ih=>
  refine⟨?_,?_⟩
  ·intro listed s a w β hsz hlen hcl hr ht hd hrun hQ;refine⟨λhready=>(E'd hdr hfit hsz hlen hready).elim,λi hi=>?_⟩;obtain⟨hi1,hl1,hanc⟩:=E'c hdr hfit hcl hi;have ho:ops[i]?=some ops[i]:=Array.getElem?_eq_getElem hi1;generalize ops[i]=o at ho;obtain⟨hmask,hltt,hap⟩:=C'B hdr hfit i o ho;obtain⟨pre,post,hsplit,hnext,hpre⟩:=C'h hsz hi1 hl1;have hcl2:=E'S hsz hi1 hcl hanc;have hlen2:(C'g ops.size (listed.setIfInBounds i true)).length=fuel:=by
    rw[hnext];rw[hsplit]at hlen;simp at hlen ⊢;omega
   by_cases hlate:∃j0,lt=some (j0,i)∧listed.getD j0 true=false
   ·-- the block is made ahead of the call
    obtain⟨j0,hlt,hj0⟩:=hlate;obtain⟨y,d,hL⟩:=M'F (hla j0 i hlt);have hyo:o=y:=by have:=hL.oy;rw[ho]at this;simpa using this
    subst hyo;obtain⟨e,hop⟩:=hL.al;rw[hsplit]at hrun;obtain⟨sm,s2,hsm⟩:=J'Z pre s hrun;obtain⟨zs,hz,hal⟩:=H'A ho hop (hL.gd i o ho) hsm;rw[hL.dst]at hal;have hal':=hal;refine E'8 (hs w0) ho (hok i o ho) hr (λx hx=>C'Y hr ht (l'D.1 (hok i o ho) x hx)) (E'R ht ops o) (hal s) λβ' v v' w' hp hr' hv he=>?_;obtain⟨p,obj,rfl,hF,hr2⟩:=hr.forget L hz hp hr';have hvp:d<s.1.size->v = .pointer (some ⟨O.next s.2,0,none⟩):=by
     intro hds;simp only[B'Q,hL.dst]at he;have h1:=congrArg (λt:Array Value=>t[d]?) he;simp only[l'u,if_true,hds]at h1;simpa using h1.symm
    have hv0:d<s.1.size->v' = .pointer (some ⟨p.blk,p.off,none⟩):=by
     intro hds;rw[hvp hds]at hv;obtain⟨q,hq1,hq2⟩:=(hv:SR (β++[p]) (.pointer (some ⟨O.next s.2,0,none⟩)) v');rw[<-hr.len,l'z (l'H _)]at hq1;simp at hq1;subst hq1;simpa using hq2
    refine ih.2 j0 i o d zs p obj (.pointer (some ⟨p.blk,p.off,none⟩)) (listed.setIfInBounds i true) s (a.put o.dst v') w' β hlt hL hF hal rfl ?_ ?_ (by simp[hsz]) hlen2 hcl2 hr2 ?_ ?_ (by rw[(D'g a _ _).2];exact hd) ?_ hQ
    ·rw[B'h hsz hi1,if_pos rfl]
    ·rw[B'h hsz hi1,if_neg (by have:=hL.lt;omega)];exact hj0
    ·rw[(D'g a _ _).1,hL.dst];exact ht.off v'
    ·rw[(D'g a _ _).1,hL.dst];intro hds;simp only[B'Q,Array.size_setIfInBounds,ht.1]at hds;rw[<-hv0 hds];simp only[B'Q,l'q,l'u,if_true,ht.1,hds];rfl
    ·have:C'g ops.size ((listed.setIfInBounds i true).setIfInBounds i false)=C'g ops.size listed:=by
      unfold C'g;apply List.filter_congr;intro k hk;rw[B'h (n:=ops.size) (by simp[hsz]) hi1,B'h hsz hi1]
      by_cases c:k=i
      ·subst c;rw[if_pos rfl,hl1]
      ·rw[if_neg c,if_neg c]
     rw[this,hsplit];exact hrun
   ·have hord:∀j∈pre,∃x,ops[j]?=some x∧SW qs ops s' j i x o:=by
     intro j hj;obtain⟨hji,hjl⟩:=hpre j hj;have hoj:ops[j]?=some (ops[j]'(by omega)):=Array.getElem?_eq_getElem _;refine⟨_,hoj,?_⟩;rcases hap j _ hji hoj with h|h|h
     ·rw[hanc j h]at hjl;simp at hjl
     ·exact h
     ·exact absurd ⟨j,h,hjl⟩ hlate
    have hrun2:=M'E L hq hsplit ho (λj hj=>(hpre j hj).1) hord hrun;rw[B'B]at hrun2
    cases hst:B'k P O ro call ops i s with
    | none=>rw[hst]at hrun2;simp at hrun2
    | some s1=>
     rw[hst,l't]at hrun2;refine G'S (hs w0) ho (hok i o ho) hr ht hd hst λa' w' he=>?_;obtain⟨hd',β',hp,hr',ht'⟩:=he;refine ih.1 _ s1 a' w' β' (by simp[hsz]) hlen2 hcl2 hr' ht' hd' (by rw[hnext];exact hrun2) λa'' w'' he'=>?_;obtain⟨hd'',β'',hp',hr'',ht''⟩:=he';exact hQ _ _ ⟨hd'',β'',hp.trans hp',hr'',ht''⟩
  ·intro j0 i0 y d zs p obj v0 listed s a w β hlt hL hF hal hv0 hl1 hl2 hsz hlen hcl hr ht hdv hd hrun hQ;have hi0:i0<ops.size:=(Array.getElem?_eq_some_iff.1 hL.oy).1;refine⟨λhready=>(E'd hdr hfit hsz hlen hready).elim,λi hi=>?_⟩;obtain⟨hi1,hli,hanc⟩:=E'c hdr hfit hcl hi;have hii:i≠i0:=by rintro rfl;rw[hl1]at hli;simp at hli
   have ho:ops[i]?=some ops[i]:=Array.getElem?_eq_getElem hi1;generalize ops[i]=o at ho;obtain⟨hmask,hltt,hap⟩:=C'B hdr hfit i o ho;have hni:((Region.before ops).toList.getD i 0).testBit i0=false:=by
    cases hb:((Region.before ops).toList.getD i 0).testBit i0 with
    | false=>rfl
    | true=>
     have:=hanc j0 ((hL.off i o ho hii).1 hb);rw[hl2]at this;simp at this
   obtain⟨hnr,hnd⟩:=(hL.off i o ho hii).2 hni;have hsz0:(listed.setIfInBounds i0 false).size=ops.size:=by simp[hsz]
   have hg0:=B'h hsz hi0 false;obtain⟨pre,post,hsplit,hnext,hpre⟩:=C'h hsz0 hi1 (by rw[hg0,if_neg hii];exact hli);have hord:∀j∈pre,∃x,ops[j]?=some x∧SW qs ops s' j i x o:=by
    intro j hj;obtain⟨hji,hjl⟩:=hpre j hj;have hoj:ops[j]?=some (ops[j]'(by omega)):=Array.getElem?_eq_getElem _;refine⟨_,hoj,?_⟩;rcases hap j _ hji hoj with h|h|h
    ·by_cases hj0:j=i0
     ·subst hj0;rw[hni]at h;simp at h
     ·rw[hg0,if_neg hj0,hanc j h]at hjl;simp at hjl
    ·exact h
    ·rw[hlt]at h;simp only[l'a,l'd]at h;exact absurd h.2.symm hii
   have hrun2:=M'E L hq hsplit ho (λj hj=>(hpre j hj).1) hord hrun;rw[B'B]at hrun2;have hcl2:=E'S hsz hi1 hcl hanc;have hlen2:(C'g ops.size (listed.setIfInBounds i true)).length=fuel:=by
    obtain⟨pre2,post2,k1,k2,_⟩:=C'h hsz hi1 hli;rw[k2];rw[k1]at hlen;simp at hlen ⊢;omega
   cases hst:B'k P O ro call ops i s with
   | none=>rw[hst]at hrun2;simp at hrun2
   | some s1=>
    rw[hst,l't]at hrun2;have hE:∀x∈A'Y o.op,VR β (A'9 s.1 x) (a.eval x):=λx hx=>ht.eval hr (l'D.1 (hok i o ho) x hx) (by
     unfold B'I at hnr;simp only[Bool.or_eq_false_iff]at hnr;have:=List.any_eq_false.1 hnr.1 x hx;simpa using this)
    have hw:Region.wanted o (yielded ops a.tmps)=Region.wanted o (yielded ops s.1):=by
     simp[Region.wanted,hL.gd i o ho]
    refine E'8 (hs (w0.plus p.blk obj)) ho (hok i o ho) hr hE hw hst λβ' v v' w' hp hr' hv he=>?_;have hput:=ht.put hp hv o.dst hnd
    by_cases hij:i=j0
    ·-- the call is made: now the block is the plain run's,too
     subst hij;have hrun3:C'X P O ro call ops (C'g ops.size ((listed.setIfInBounds i true).setIfInBounds i0 false)) s1=some s':=by
      rw[set_set hsz hi1 hi0 hii,hnext];exact hrun2
     have hsz1:((listed.setIfInBounds i true).setIfInBounds i0 false).size=ops.size:=by simp[hsz]
     have hg1:=B'h (n:=ops.size) (listed:=listed.setIfInBounds i true) (by simp[hsz]) hi0 false;obtain⟨pre3,post3,hsplit3,hnext3,hpre3⟩:=C'h hsz1 hi0 (by rw[hg1,if_pos rfl]);obtain⟨hmask0,_,hap0⟩:=C'B hdr hfit i0 y hL.oy;have hord3:∀j∈pre3,∃x,ops[j]?=some x∧SW qs ops s' j i0 x y:=by
      intro j hj;obtain⟨hji,hjl⟩:=hpre3 j hj;rw[hg1,if_neg (by omega),B'h hsz hi1]at hjl;have hoj:ops[j]?=some (ops[j]'(by omega)):=Array.getElem?_eq_getElem _;refine⟨_,hoj,?_⟩;rcases hap0 j _ hji hoj with h|h|h
      ·have:=hcl i0 hl1 hi0 j h
       by_cases c:j=i
       ·rw[if_pos c]at hjl;simp at hjl
       ·rw[if_neg c,this]at hjl;simp at hjl
      ·exact h
      ·rw[hlt]at h;simp only[l'a,l'd]at h;rw[if_pos h.1.symm]at hjl;simp at hjl
     have hrun4:=M'E L hq hsplit3 hL.oy (λj hj=>(hpre3 j hj).1) hord3 hrun3;rw[B'B,hal s1,l't]at hrun4;have hr3:=Rel.adopt L hF hr';have hback:C'g ops.size (((listed.setIfInBounds i true).setIfInBounds i0 false).setIfInBounds i0 true)=C'g ops.size (listed.setIfInBounds i true):=by
      unfold C'g;apply List.filter_congr;intro k hk;rw[B'h (n:=ops.size) hsz1 hi0,hg1]
      by_cases c:k=i0
      ·subst c;rw[if_pos rfl,B'h hsz hi1,if_neg (by have:=hL.lt;omega),hl1]
      ·rw[if_neg c,if_neg c]
     refine ih.1 (listed.setIfInBounds i true) _ _ w' (β'++[p]) (by simp[hsz]) hlen2 hcl2 hr3 ?_ (by rw[(D'g a _ _).2];exact hd) (by rw[<-hback,hnext3];exact hrun4) λa'' w'' he'=>?_
     ·rw[(D'g a _ _).1,he];refine hput.1.on (List.prefix_append _ _) (v':=v0) ?_ ?_
      ·have:SR (β'++[p]) (.pointer (some ⟨O.next s1.2,0,none⟩)) v0:=by
        refine⟨p,?_,by rw[hv0];simp⟩;rw[<-hr'.len,l'z (l'H _)];simp
       exact this.toVR
      ·intro hds;rw[hput.2.1];exact hdv (by rw[<-hput.2.2];exact hds)
     ·obtain⟨hd'',β'',hp',hr'',ht''⟩:=he';exact hQ _ _ ⟨hd'',β'',(hp.trans (List.prefix_append _ _)).trans hp',hr'',ht''⟩
    ·refine ih.2 j0 i0 y d zs p obj v0 (listed.setIfInBounds i true) s1 _ w' β' hlt hL hF hal hv0 ?_ ?_ (by simp[hsz]) hlen2 hcl2 hr' ?_ ?_ (by rw[(D'g a _ _).2];exact hd) (by rw[set_set hsz hi1 hi0 hii,hnext];exact hrun2) λa'' w'' he'=>?_
     ·rw[B'h hsz hi1,if_neg hii.symm];exact hl1
     ·rw[B'h hsz hi1,if_neg (λe=>hij e.symm)];exact hl2
     ·rw[(D'g a _ _).1,he];exact hput.1
     ·rw[(D'g a _ _).1,hput.2.1,hput.2.2];exact hdv
     ·obtain⟨hd'',β'',hp',hr'',ht''⟩:=he';exact hQ _ _ ⟨hd'',β'',hp.trans hp',hr'',ht''⟩
theorem H'B (L:O.Law){qs:FuncId->Bool}(hq:G'k qs call)(hs:∀w0,D'k P O G ro w0 call)(hmix:P.follows .mixedOrders=true){id:Nat}{ops:Array Oper}{draw:Bool}(hok:M'C G qs ops draw=true){s s':Array Value×H}{a:Act}{w:World}{β:List Place}
  (hr:Rel O G ro w0 β s.2 w)(ht:TR β s.1 a.tmps)(hd:a.defers=[])(hrun:C'X P O ro call ops (List.range ops.size) s=some s')(hfit:D'E ops draw s'.1=true)
  {Q:Exit->Act->World->Prop}(hQ:∀a' w',O'I O G ro w0 β s' a' w'->Q .normal a' w'): (Code.region id ops draw).wp P Q a w:=by
 simp only[M'C,l'k,Bool.or_eq_true,l'L]at hok;obtain⟨h1,h2⟩:=hok;have hall:∀(i:Nat) o,ops[i]?=some o->M'B G o.op=true:=λi o ho=>l'D.1 h1 o (by
  obtain⟨hl,rfl⟩:=Array.getElem?_eq_some_iff.1 ho;simp)
 cases draw with
 | false=>exact wp_region (M'D (hs w0) hall _ s a w β hr ht hd hrun hQ)
 | true=>
  rcases h2 with h2|h2
  ·cases h2
  ·have e:C'g ops.size (Array.replicate ops.size false)=List.range ops.size:=by
    unfold C'g;rw[List.filter_eq_self];intro j hj;have:=List.mem_range.1 hj;simp[l'q,this]
   obtain⟨lt,hdr,hla⟩:∃lt,E'b qs lt ops=true∧∀j i,lt=some (j,i)->F'F ops j i=true:=by
    split at h2
    ·exact⟨none,h2,λ_ _ h=>by simp at h⟩
    ·rename_i j i _
     simp only[l'k]at h2;refine⟨some (j,i),h2.1,λj' i' h=>?_⟩;simp only[l'a,l'd]at h;obtain⟨rfl,rfl⟩:=h;exact h2.2
   refine wp_region_any hmix ((M'G L hq hs hall hdr hla hfit ops.size).1 (Array.replicate ops.size false) s a _ β (by simp) (by rw[e];simp) ?_ hr.drew ht hd (by rw[e];exact hrun) hQ);intro j hj hjn;simp[l'q,hjn]at hj
end
end Go.Vm
