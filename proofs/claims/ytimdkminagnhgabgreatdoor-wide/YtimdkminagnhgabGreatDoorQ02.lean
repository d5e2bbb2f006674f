import Derived.Test.YtimdkminagnhgabGreatDoorQ01
import Derived.Laws.Cells
import Derived.Deep.LoopGhost
import Derived.Laws.AppendOwn
import Derived.Laws.StructEq
set_option linter.all false
namespace Go.Vm
open Go.RowKit
section
variable {P:Program}{H:Type}{O:HI H}{G ro:Nat}{w0:Prot}
theorem B'G (b o n:Nat): (⟨b,o,none⟩:Addr).add n=⟨b,o+n,none⟩:=by
 unfold Addr.add;split
 ·rename_i h;subst h;rfl
 ·rfl
theorem C'q {w:World}{b o:Nat}{c:Array Value}{e:TypeId}{fz:Nat×Nat}(h:w.heap[b]?=some (.cells c e fz)): w.cell? ⟨b,o,none⟩=c[o]?:=by
 simp[World.cell?,h]
theorem Rel.cell {β:List Place}{h:H}{w:World}(r:Rel O G ro w0 β h w){b o:Nat}{p:Place}(hp:β[b]?=some p){v:Value}(hc:O.cell h b o=some v):
  ∃v',w.cell? ⟨p.blk,p.off+o,none⟩=some v'∧SR β v v':=by
 obtain⟨c,e,fz,hh,_,_,hcell⟩:=r.cells b p hp;obtain⟨v',h1,h2⟩:=hcell o v hc;exact⟨v',by rw[C'q hh];exact h1,h2⟩
theorem Rel.cellsA {β:List Place}{h:H}{w:World}(r:Rel O G ro w0 β h w){b:Nat}{p:Place}(hp:β[b]?=some p): ∀(n o:Nat)(l:List Value),cellsA O h b o n=some l ->
  ∃l',LR (SR β) l l'∧l.length=n∧∀(j:Nat) v',l'[j]?=some v'->w.cell? ⟨p.blk,p.off+o+j,none⟩=some v':=by
 intro n
 induction n with
 | zero=>intro o l hl;simp[Vm.cellsA]at hl;subst hl;exact⟨[],LR.nil _,rfl,λj v' h=>by simp at h⟩
 | succ n ih=>
  intro o l hl;simp only[Vm.cellsA]at hl
  cases h1:O.cell h b o with
  | none=>rw[h1]at hl;simp at hl
  | some v=>
   cases h2:Vm.cellsA O h b (o+1) n with
   | none=>rw[h1,h2]at hl;simp at hl
   | some t=>
    rw[h1,h2]at hl;simp at hl;subst hl;obtain⟨v',hv',hs⟩:=r.cell hp h1;obtain⟨l',hl',hn,hc⟩:=ih _ _ h2;refine⟨v' :: l',LR.cons hs hl',by simp[hn],λj x hx=>?_⟩
    cases j with
    | zero=>simp at hx;subst hx;simpa using hv'
    | succ j=>
     have:=hc j x (by simpa using hx);rw[show p.off+o+(j+1)=p.off+(o+1)+j by omega];exact this
theorem VR.ptr {β:List Place}{a:Addr}{v':Value}(h:VR β (.pointer (some a)) v'): ∃p,β[a.block]?=some p∧v' = .pointer (some ⟨p.blk,p.off+a.off,none⟩):=h
theorem G'T {β:List Place}{h:H}{w:World}(r:Rel O G ro w0 β h w){t:TypeId}{a:Value}{v a':Value}(hl:B'1 P O t a h=some v)(ha:VR β a a'):
  ∃ad v',a' = .pointer (some ad)∧(loadVar t ad).run P w = .ok v' w∧CR β v v':=by
 unfold B'1 at hl
 cases a with
 | pointer a=>
  cases a with
  | none=>simp at hl
  | some a=>
   obtain⟨p,hp,rfl⟩:=VR.ptr ha;simp only at hl;have multi:∀i,P.info? t=some i->(∃fs,P.underlying t=some (.struct fs))∨(∃n e,P.underlying t=some (.array n e))->(Vm.cellsA O h a.block a.off i.size).map (λl=>Value.agg l.toArray)=some v ->
     ∃ad v',Value.pointer (some ⟨p.blk,p.off+a.off,none⟩) = .pointer (some ad)∧(loadVar t ad).run P w = .ok v' w∧CR β v v':=by
    intro i hi hu hm
    cases hc:Vm.cellsA O h a.block a.off i.size with
    | none=>rw[hc]at hm;simp at hm
    | some l=>
     rw[hc]at hm;simp at hm;subst hm;obtain⟨l',hl',hn,hcell⟩:=r.cellsA hp _ _ _ hc;refine⟨_,.agg l'.toArray,rfl,?_,⟨l'.toArray,rfl,by simpa using hl'⟩⟩;have hlen:l'.length=i.size:=by rw[hl'.1,hn]
     have hrun:=run_loadCells_list (P:=P) w ⟨p.blk,p.off+a.off,none⟩ l' (λj v hv=>by rw[B'G];exact hcell j v hv);rcases hu with ⟨fs,hu⟩|⟨n,e,hu⟩ <;>
     ·simp only[loadVar,isAgg,underlying,program,sizeOf,typeInfo,Sem.run_bind,Sem.run,hu,hi,Sem.run_pure,Sem.run_pure',Result.andThen_ok,if_true];rw[<-hlen,hrun];rfl
   cases hu:P.underlying t with
   | none=>rw[hu]at hl;simp at hl
   | some d=>
    cases hi:P.info? t with
    | none=>rw[hu,hi]at hl;cases d <;> simp at hl
    | some i=>
     rw[hu,hi]at hl
     cases d with
     | struct fs=>exact multi i hi (.inl ⟨fs,hu⟩) hl
     | array n e=>exact multi i hi (.inr ⟨n,e,hu⟩) hl
     | _=>
      simp only at hl;obtain⟨v',hv',hs⟩:=r.cell hp hl;refine⟨_,v',rfl,?_,hs.toCR⟩;simp[loadVar,isAgg,underlying,program,Sem.run,hu,hv']
 | _=>simp at hl
def E'9 (P:Program)(O:HI H)(G ro:Nat)(w0:Prot)(call:FuncId->List Value->H->Option (Value×H)): Prop:=
 ∀(f:FuncId)(args args':List Value)(h h':H)(w:World)(β:List Place)(v:Value),Rel O G ro w0 β h w->LR (VR β) args args'->call f args h=some (v,h') ->
  (∃ fn c, P.funcs[f]? = some fn ∧ fn.body = some c ∧ (fn.name == "runtime.NumGoroutine") = false) ∧
  Calls P f args'.toArray w λe w'=>∃v' β',e = .returned v'∧β <+: β'∧Rel O G ro w0 β' h' w'∧VR β' v v'
theorem VR.toCR {β:List Place}{v v':Value}(h:VR β v v')(ht:B'j v=false): CR β v v':=by
 rcases M'A v with ⟨cs,rfl⟩|e
 ·simp[B'j]at ht
 ·rw[e]at h;exact h
def rvM (t':Array Value)(rv:ResultVar): Sem Value:=
 match rv with
 | .tmp a=>pure (t'.getD a undef)
 | .cell a ty=>do loadVar ty (<-asAddr (t'.getD a undef))
theorem H'C (fn:Func)(t':Array Value): results fn t'=(do let vs <-fn.results.mapM (rvM t');pure (if h:vs.size=1 then vs[0] else .tuple vs)):=by
 unfold results;congr 1
theorem J'0 {β:List Place}{h:H}{w:World}(r:Rel O G ro w0 β h w){t t':Array Value}(ht:TR β t t'): ∀(l:List ResultVar)(vs:List Value),J'X P O t h l=some vs ->
  ∃vs',(l.mapM (rvM t')).run P w = .ok vs' w∧LR (CR β) vs vs':=by
 intro l
 induction l with
 | nil=>intro vs h;simp[J'X]at h;subst h;exact⟨[],rfl,LR.nil _⟩
 | cons rv l ih=>
  intro vs hv;simp only[J'X]at hv
  cases h1:rvA P O rv t h with
  | none=>rw[h1]at hv;simp at hv
  | some v=>
   cases h2:J'X P O t h l with
   | none=>rw[h1,h2]at hv;simp at hv
   | some us=>
    rw[h1,h2]at hv;simp only at hv;split at hv
    ·simp at hv
    ·rename_i htup
     simp at hv;subst hv;obtain⟨us',hrun,hus⟩:=ih us h2;have htup':B'j v=false:=by simpa using htup
     cases rv with
     | tmp a=>
      simp only[rvA,l'a]at h1;subst h1;refine⟨t'.getD a undef :: us',?_,LR.cons ((ht.2 a).toCR htup') hus⟩;rw[List.mapM_cons];simp only[rvM,Sem.run_bind,Sem.run_pure,Result.andThen_ok,hrun]
     | cell a ty=>
      simp only[rvA]at h1;obtain⟨ad,x',e,hl,hc⟩:=G'T r h1 (ht.2 a);refine⟨x' :: us',?_,LR.cons hc hus⟩;rw[List.mapM_cons];have hx:(rvM t' (.cell a ty)).run P w = .ok x' w:=by simp only[rvM,Sem.run_bind,e,asAddr,Sem.run_pure,Result.andThen_ok,hl]
      simp only[Sem.run_bind,hx,Sem.run_pure,Result.andThen_ok,hrun]
theorem M'H {β:List Place}{h:H}{w:World}(r:Rel O G ro w0 β h w){fn:Func}{t t':Array Value}{v:Value}(ht:TR β t t')(hv:I'b P O fn t h=some v):
  ∃v',(results fn t').run P w = .ok v' w∧VR β v v':=by
 unfold I'b at hv
 cases hl:J'X P O t h fn.results.toList with
 | none=>rw[hl]at hv;simp at hv
 | some vs=>
  obtain⟨vs',hrun,hvs⟩:=J'0 r ht _ _ hl;have hres:(results fn t').run P w = .ok (if h:vs'.toArray.size=1 then vs'.toArray[0] else .tuple vs'.toArray) w:=by
   rw[H'C,Array.mapM_eq_mapM_toList];simp only[Sem.run_bind,Sem.run_map,hrun,Result.andThen_ok,Sem.run_pure]
  rw[hres];rw[hl]at hv
  cases vs with
  | nil=>
   have e:=LR.nil_inv hvs;subst e;simp at hv;subst hv;exact⟨_,rfl,⟨#[],rfl,LR.nil _⟩⟩
  | cons x xs=>
   obtain⟨y,ys,rfl,hxy,hys⟩:=LR.cons_inv hvs
   cases xs with
   | nil=>
    have e:=LR.nil_inv hys;subst e;simp at hv;subst hv;exact⟨_,rfl,hxy.toVR⟩
   | cons x2 xs=>
    obtain⟨y2,ys2,rfl,_,_⟩:=LR.cons_inv hys;simp at hv;subst hv;exact⟨_,rfl,⟨_,rfl,by simpa using hvs⟩⟩
def G'n (P : Program)(G : Nat)(qs : FuncId → Bool)(f : FuncId): Prop := ∃ fn c, P.funcs[f]? = some fn ∧ fn.body = some c ∧ C'A G qs c = true ∧ (fn.name == "runtime.NumGoroutine") = false
def M'I (P:Program)(qs:FuncId->Bool)(f:FuncId): Prop:=∃fn c,P.funcs[f]?=some fn∧fn.body=some c∧D's qs c=true
def I'l (P:Program)(O:HI H)(G ro:Nat)(qs:FuncId->Bool)(w0:Prot)(ok:FuncId->Bool)(n:Nat): Prop:=
 ∀(c:Code)(s s':Array Value×H)(e:Exit)(a:Act)(w:World)(β:List Place),C'A G qs c=true->Rel O G ro w0 β s.2 w->TR β s.1 a.tmps->a.defers=[] ->
  B'q P O ro ok n c s=some (e,s')->c.wp P (λe' a' w'=>e'=e∧O'I O G ro w0 β s' a' w') a w
theorem I'm {β:List Place}{args args':List Value}(h:LR (VR β) args args')(n:Nat):
  TR β (args.toArray++Array.replicate (n-args.length) undef) (args'.toArray++Array.replicate (n-args'.toArray.size) undef):=by
 have hl:=h.1;refine⟨by simp[hl],λi=>?_⟩;simp only[l'q]
 by_cases c:i<args.length
 ·have c':i<args'.length:=by omega
  rw[Array.getElem?_append_left (by simpa using c),Array.getElem?_append_left (by simpa using c')];obtain⟨y,hy,r⟩:=h.2 i args[i] (l'c c);simp only[List.getElem?_toArray,l'c c,hy,Option.getD_some];exact r
 ·rw[Array.getElem?_append_right (by simpa using c),Array.getElem?_append_right (by simp;omega)];simp only[Array.getElem?_replicate,List.size_toArray,hl];split <;> exact VR.undef β
theorem G'U {ok qs:FuncId->Bool}(hfun:∀f,ok f=true->G'n P G qs f){n:Nat}(hc:I'l P O G ro qs w0 ok n): E'9 P O G ro w0 (C's P O ro ok n):=by
 intro f args args' h h' w β v hr hargs hcall;unfold C's at hcall;split at hcall
 ·rename_i hok
  obtain⟨fn,c,hf,hb,hcok,hname⟩:=hfun f hok;simp only[hf,hb]at hcall;refine⟨⟨fn,c,hf,hb,hname⟩,?_⟩;refine calls_of_wp hf hb ?_;have ht:=I'm hargs fn.ntmps
  cases hcode:B'q P O ro ok n c (args.toArray++Array.replicate (fn.ntmps-args.length) undef,h) with
  | none=>rw[hcode]at hcall;simp at hcall
  | some r=>
   obtain⟨e,t,h1⟩:=r;have hwp:=hc c _ _ _ { tmps:=args'.toArray++Array.replicate (fn.ntmps-args'.toArray.size) undef,defers:=[] } w β hcok hr ht rfl hcode;have fin:(e = .normal∨e = .ret)∧(I'b P O fn t h1).map (λv=>(v,h1))=some (v,h'):=by
    rw[hcode]at hcall
    cases e <;> first|(simp at hcall;done)|exact⟨.inl rfl,hcall⟩|exact⟨.inr rfl,hcall⟩
   obtain⟨he,hres⟩:=fin;refine wp_mono hwp λe' a' w' hq=>?_;obtain⟨rfl,hd,β',hp,hr',ht'⟩:=hq
   cases hv:I'b P O fn t h1 with
   | none=>rw[hv]at hres;simp at hres
   | some u=>
    rw[hv]at hres;simp at hres;obtain⟨rfl,rfl⟩:=hres;obtain⟨v',hrun,hvr⟩:=M'H hr' ht' hv;rcases he with rfl|rfl <;> exact⟨hd,v',hrun,v',β',rfl,hp,hr',hvr⟩
 ·simp at hcall
theorem H'D {ok qs:FuncId->Bool}(hqs:∀f,qs f=true->M'I P qs f): ∀(n:Nat)(c:Code)(s s':Array Value×H)(e:Exit),D's qs c=true->B'q P O ro ok n c s=some (e,s')->s'.2=s.2:=by
 intro n
 induction n with
 | zero=>intro c s s' e _ h;simp[B'q]at h
 | succ n ih=>
  intro c s s' e hc h
  cases c with
  | skip|ret|exit _=>simp only[B'q,l'a,l'd]at h;rw[<-h.2]
  | seq x y=>
   simp only[D's,l'k]at hc;simp only[B'q]at h
   cases hx:B'q P O ro ok n x s with
   | none=>rw[hx]at h;simp at h
   | some r=>
    obtain⟨e1,s1⟩:=r;rw[hx]at h;have h1:=ih x s s1 e1 hc.1 hx
    cases e1 with
    | normal=>exact (ih y s1 s' e hc.2 h).trans h1
    | _=>simp only[l'a,l'd]at h;rw[<-h.2];exact h1
  | cond o x y=>
   simp only[D's,l'k]at hc;simp only[B'q]at h;split at h
   ·exact ih x s s' e hc.1 h
   ·exact ih y s s' e hc.2 h
   ·simp at h
  | block id x=>
   simp only[D's]at hc;simp only[B'q]at h
   cases hx:B'q P O ro ok n x s with
   | none=>rw[hx]at h;simp at h
   | some r=>
    obtain⟨e1,s1⟩:=r;rw[hx]at h;have h1:=ih x s s1 e1 hc hx
    cases e1 with
    | exit id'=>
     simp only[l'a]at h;split at h <;> (simp only[l'd]at h;rw[<-h.2];exact h1)
    | _=>simp only[l'a,l'd]at h;rw[<-h.2];exact h1
  | loop x=>
   have hc':=hc;simp only[D's]at hc;simp only[B'q]at h
   cases hx:B'q P O ro ok n x s with
   | none=>rw[hx]at h;simp at h
   | some r=>
    obtain⟨e1,s1⟩:=r;rw[hx]at h;have h1:=ih x s s1 e1 hc hx
    cases e1 with
    | normal=>exact (ih (.loop x) s1 s' e hc' h).trans h1
    | _=>simp only[l'a,l'd]at h;rw[<-h.2];exact h1
  | region id ops draw=>
   simp only[D's]at hc;have h':(C'X P O ro (C's P O ro ok n) ops (List.range ops.size) s).bind (λs'=>if D'E ops draw s'.1 then some (Exit.normal,s') else none)=some (e,s'):=h;have hq:G'k qs (C's P O ro ok n):=by
    intro f args g v g' hf hcall;obtain⟨fn,c,hfn,hb,hcq⟩:=hqs f hf;unfold C's at hcall;split at hcall
    ·simp only[hfn,hb]at hcall
     cases hcd:B'q P O ro ok n c (args.toArray++Array.replicate (fn.ntmps-args.length) undef,g) with
     | none=>rw[hcd]at hcall;simp at hcall
     | some r=>
      obtain⟨e1,t1,g1⟩:=r;have h1:=ih c _ _ _ hcq hcd;rw[hcd]at hcall;have:(I'b P O fn t1 g1).map (λv=>(v,g1))=some (v,g'):=by
       cases e1 <;> first|(simp at hcall;done)|exact hcall
      cases hrs:I'b P O fn t1 g1 with
      | none=>rw[hrs]at this;simp at this
      | some u=>rw[hrs]at this;simp at this;rw[<-this.2];exact h1
    ·simp at hcall
   have key:∀(l:List Nat)(s s1:Array Value×H),C'X P O ro (C's P O ro ok n) ops l s=some s1->s1.2=s.2:=by
    intro l
    induction l with
    | nil=>intro s s1 hr;simp only[C'X,l'a]at hr;rw[<-hr]
    | cons i l ihl=>
     intro s s1 hr;rw[B'B]at hr
     cases hst:B'k P O ro (C's P O ro ok n) ops i s with
     | none=>rw[hst]at hr;simp at hr
     | some s2=>
      rw[hst,l't]at hr;rw[ihl s2 s1 hr];obtain⟨t,g⟩:=s
      cases ho:ops[i]? with
      | none=>
       simp only[B'k,ho,l'a]at hst;rw[<-hst]
      | some o=>
       have hmem:=l'D.1 hc o (by obtain⟨hl,rfl⟩:=Array.getElem?_eq_some_iff.1 ho;simp);simp only[Bool.or_eq_true,beq_iff_eq]at hmem;rw[B'l ho]at hst;rcases hmem with hm|hm
       ·obtain⟨f,hf⟩:=D'7 (P:=P) (O:=O) (ro:=ro) (call:=C's P O ro ok n) (ops:=ops) hm t;rw[hf]at hst
        cases f with
        | none=>simp at hst
        | some v=>simp only[l'l,l'a]at hst;rw[<-hst]
       ·obtain⟨f,hf⟩:=E'7 (P:=P) (O:=O) (ro:=ro) (ops:=ops) hq hm t;rw[hf]at hst
        cases hfg:f g with
        | none=>rw[hfg]at hst;simp at hst
        | some v=>rw[hfg]at hst;simp only[l'l,l'a]at hst;rw[<-hst]
   cases hrun:C'X P O ro (C's P O ro ok n) ops (List.range ops.size) s with
   | none=>rw[hrun]at h';simp at h'
   | some s1=>
    rw[hrun]at h';simp only[l't]at h';split at h'
    ·simp only[l'a,l'd]at h';rw[<-h'.2];exact key _ _ _ hrun
    ·simp at h'
  | _=>simp[D's]at hc
theorem H'E {ok qs:FuncId->Bool}(hqs:∀f,qs f=true->M'I P qs f)(n:Nat): G'k qs (C's P O ro ok n):=by
 intro f args g v g' hf hcall;obtain⟨fn,c,hfn,hb,hcq⟩:=hqs f hf;unfold C's at hcall;split at hcall
 ·simp only[hfn,hb]at hcall
  cases hcd:B'q P O ro ok n c (args.toArray++Array.replicate (fn.ntmps-args.length) undef,g) with
  | none=>rw[hcd]at hcall;simp at hcall
  | some r=>
   obtain⟨e1,t1,g1⟩:=r;have h1:=H'D hqs n c _ _ _ hcq hcd;rw[hcd]at hcall;have:(I'b P O fn t1 g1).map (λv=>(v,g1))=some (v,g'):=by
    cases e1 <;> first|(simp at hcall;done)|exact hcall
   cases hrs:I'b P O fn t1 g1 with
   | none=>rw[hrs]at this;simp at this
   | some u=>rw[hrs]at this;simp at this;rw[<-this.2];exact h1
 ·simp at hcall
theorem J'1 (L:O.Law){ok qs:FuncId->Bool}(hmix:P.follows .mixedOrders=true)(hqs:∀f,qs f=true->M'I P qs f)(hfun:∀f,ok f=true->G'n P G qs f)
  (hstep : ∀ w0 call, E'9 P O G ro w0 call → D'k P O G ro w0 call): ∀ n w0, I'l P O G ro qs w0 ok n := by
 intro n
 induction n using Nat.strongRecOn with
 | _ n0 ih0=>
 intro w0
 cases n0 with
 | zero=>intro c s s' e a w β _ _ _ _ h;simp[B'q]at h
 | succ n=>
  have ihA:=ih0 n (Nat.lt_succ_self n);have ih:=ihA w0;intro c s s' e a w β hok hr ht hd h
  cases c with
  | skip=>
   simp only[B'q,l'a,l'd]at h;obtain⟨rfl,rfl⟩:=h;exact wp_skip ⟨rfl,hd,β,List.prefix_rfl,hr,ht⟩
  | ret=>
   simp only[B'q,l'a,l'd]at h;obtain⟨rfl,rfl⟩:=h;exact wp_ret ⟨rfl,hd,β,List.prefix_rfl,hr,ht⟩
  | exit id=>
   simp only[B'q,l'a,l'd]at h;obtain⟨rfl,rfl⟩:=h;exact wp_exit ⟨rfl,hd,β,List.prefix_rfl,hr,ht⟩
  | seq x y=>
   simp only[C'A,l'k]at hok;simp only[B'q]at h
   cases hx:B'q P O ro ok n x s with
   | none=>rw[hx]at h;simp at h
   | some r=>
    obtain⟨e1,s1⟩:=r;rw[hx]at h;refine wp_seq (wp_mono (ih x s s1 e1 a w β hok.1 hr ht hd hx) λe' a' w' hq=>?_);obtain⟨rfl,hd',β',hp,hr',ht'⟩:=hq
    cases e' with
    | normal=>
     refine wp_mono (ih y s1 s' e a' w' β' hok.2 hr' ht' hd' h) λe'' a'' w'' hq'=>?_;obtain⟨he,hd'',β'',hp',hr'',ht''⟩:=hq';exact⟨he,hd'',β'',hp.trans hp',hr'',ht''⟩
    | _=>
     simp only[l'a,l'd]at h;obtain⟨rfl,rfl⟩:=h;exact⟨rfl,hd',β',hp,hr',ht'⟩
  | cond o x y=>
   simp only[C'A,l'k]at hok;simp only[B'q]at h;have ho:=C'Y hr ht hok.1.1
   cases hv:A'9 s.1 o with
   | bool b=>
    rw[hv]at h ho;have hb:a.eval o = .bool b:=ho
    cases b with
    | true=>exact wp_cond_true hb (ih x s s' e a w β hok.1.2 hr ht hd h)
    | false=>exact wp_cond_false hb (ih y s s' e a w β hok.2 hr ht hd h)
   | _=>rw[hv]at h;simp at h
  | block id x=>
   simp only[C'A]at hok;simp only[B'q]at h
   cases hx:B'q P O ro ok n x s with
   | none=>rw[hx]at h;simp at h
   | some r=>
    obtain⟨e1,s1⟩:=r;rw[hx]at h;refine wp_block (wp_mono (ih x s s1 e1 a w β hok hr ht hd hx) λe' a' w' hq=>?_);obtain⟨rfl,hends⟩:=hq
    cases e' with
    | exit id'=>
     simp only[l'a]at h;simp only[Exit.inBlock];split
     ·rename_i hid
      rw[if_pos hid]at h;simp only[l'd]at h;obtain⟨rfl,rfl⟩:=h;exact⟨rfl,hends⟩
     ·rename_i hid
      rw[if_neg hid]at h;simp only[l'd]at h;obtain⟨rfl,rfl⟩:=h;exact⟨rfl,hends⟩
    | _=>
     simp only[l'a,l'd]at h;obtain⟨rfl,rfl⟩:=h;exact⟨rfl,hends⟩
  | loop x=>
   simp only[C'A]at hok;refine wp_loop_ghost (λk a w=>k<=n+1∧∃s1 β1,β <+: β1∧Rel O G ro w0 β1 s1.2 w∧TR β1 s1.1 a.tmps∧a.defers=[]∧B'q P O ro ok k (.loop x) s1=some (e,s')) (n+1)
    ⟨l'H _,s,β,List.prefix_rfl,hr,ht,hd,h⟩ ?_
   intro k a1 w1 hI;obtain⟨hk,s1,β1,hp1,hr1,ht1,hd1,h1⟩:=hI
   cases k with
   | zero=>simp[B'q]at h1
   | succ k=>
    simp only[B'q]at h1
    cases hx:B'q P O ro ok k x s1 with
    | none=>rw[hx]at h1;simp at h1
    | some r=>
     obtain⟨e2,s2⟩:=r;rw[hx]at h1;refine wp_mono (ih0 k (by omega) w0 x s1 s2 e2 a1 w1 β1 hok hr1 ht1 hd1 hx) λe' a' w' hq=>?_;obtain⟨rfl,hd',β',hp,hr',ht'⟩:=hq
     cases e' with
     | normal=>exact⟨k,Nat.lt_succ_self k,by omega,s2,β',hp1.trans hp,hr',ht',hd',h1⟩
     | _=>
      simp only[l'a,l'd]at h1;obtain⟨rfl,rfl⟩:=h1;exact⟨rfl,hd',β',hp1.trans hp,hr',ht'⟩
  | region id ops draw=>
   simp only[C'A]at hok;have hst:=λw0=>hstep w0 _ (G'U hfun (ihA w0));have h':(C'X P O ro (C's P O ro ok n) ops (List.range ops.size) s).bind (λs'=>if D'E ops draw s'.1 then some (Exit.normal,s') else none)=some (e,s'):=h
   cases hrun:C'X P O ro (C's P O ro ok n) ops (List.range ops.size) s with
   | none=>rw[hrun]at h';simp at h'
   | some s1=>
    rw[hrun]at h';simp only[l't]at h';split at h'
    ·rename_i hfit
     simp only[l'a,l'd]at h';obtain⟨rfl,rfl⟩:=h';exact H'B L (H'E hqs n) hst hmix hok hr ht hd hrun hfit λa' w' he=>⟨rfl,he⟩
    ·simp at h'
  | _=>simp[B'q]at h
end
end Go.Vm
namespace Go.Vm
open Go.RowKit
section
variable {P:Program}{H:Type}{O:HI H}{G ro:Nat}{w0:Prot}
theorem Rel.blk_lt {β:List Place}{h:H}{w:World}(r:Rel O G ro w0 β h w){b:Nat}{p:Place}(hp:β[b]?=some p): p.blk<w.heap.size:=by
 obtain⟨c,e,fz,hh,_⟩:=r.cells b p hp;exact (Array.getElem?_eq_some_iff.1 hh).1
theorem B'u {β:List Place}{q:Place}{b:Nat}{p:Place}(h:(β++[q])[b]?=some p): (β[b]?=some p∧b < β.length)∨(b = β.length∧p=q):=by
 by_cases c:b < β.length
 ·rw[l'e c]at h;exact .inl ⟨h,c⟩
 ·rw[l'z (by omega)]at h;have:b - β.length=0:=by
   rcases hk:b - β.length with _|k
   ·rfl
   ·rw[hk]at h;simp at h
  rw[this]at h;simp at h;exact .inr ⟨by omega,h.symm⟩
theorem Rel.alloc (L:O.Law){β:List Place}{h:H}{w:World}(r:Rel O G ro w0 β h w){cs cs':List Value}(more:List Value)(hcs:LR (SR β) cs cs')(elem:TypeId):
  Rel O G ro w0 (β++[⟨w.heap.size,0,(cs'++more).length⟩]) (O.new h cs) (w.alloc (.cells (cs'++more).toArray elem)):=by
 have hpre:β <+: β++[⟨w.heap.size,0,(cs'++more).length⟩]:=List.prefix_append _ _;have hl:=r.len;refine⟨by simp[hl,L.next_new],r.below.alloc r.below.size _,?_,?_,?_,?_,by rw[L.next_new];have:=r.ro_le;omega,?_⟩
 ·intro g hg;obtain⟨p,hp,C'g⟩:=r.glob g hg;exact⟨p,by rw[l'e (l'b.1 hp).1];exact hp,C'g⟩
 ·intro b p hp hro;rcases B'u hp with ⟨hp,_⟩|⟨_,rfl⟩
  ·exact r.own b p hp hro
  ·exact r.below.size
 ·intro b p hp;rcases B'u hp with ⟨hp,hb⟩|⟨hb,rfl⟩
  ·obtain⟨c,e,fz,hh,hs,hf,hc⟩:=r.cells b p hp;refine⟨c,e,fz,?_,hs,hf,λo v hv=>?_⟩
   ·rw[Below.heap_alloc _ _ _ (r.blk_lt hp)];exact hh
   ·rw[L.cell_new,if_neg (by omega)]at hv;obtain⟨v',h1,h2⟩:=hc o v hv;exact⟨v',h1,h2.mono hpre⟩
  ·refine⟨(cs'++more).toArray,elem,(0,0),?_,by simp,λ_=>rfl,λo v hv=>?_⟩
   ·show (w.heap.push _)[w.heap.size]? = _;simp
   ·rw[L.cell_new,if_pos (by omega)]at hv;obtain⟨v',h1,h2⟩:=hcs.2 o v hv;refine⟨v',?_,h2.mono hpre⟩;simp only[l'F,List.getElem?_toArray];rw[l'e (l'b.1 h1).1];exact h1
 ·intro b b' p p' hp hp' ha ha' hro hb;rw[L.alive_new]at ha ha';rcases B'u hp with ⟨hp,hbl⟩|⟨hbl,rfl⟩
  ·rcases B'u hp' with ⟨hp',hbl'⟩|⟨hbl',rfl⟩
   ·rw[if_neg (by omega)]at ha ha';exact r.inj b b' p p' hp hp' ha ha' hro hb
   ·have:=r.blk_lt hp;simp only at hb;omega
  ·rcases B'u hp' with ⟨hp',hbl'⟩|⟨hbl',rfl⟩
   ·have:=r.blk_lt hp';simp only at hb;omega
   ·omega
 ·intro k o hk;obtain⟨e1,e2⟩:=r.ext k o hk;have hkl:k<w.heap.size:=(Array.getElem?_eq_some_iff.1 e1).1;refine⟨by rw[Below.heap_alloc _ _ _ hkl];exact e1,λb p hp ha=>?_⟩;rw[L.alive_new]at ha;rcases B'u hp with ⟨hp,hb⟩|⟨hb,rfl⟩
  ·rw[if_neg (by omega)]at ha;exact e2 b p hp ha
  ·simp only;omega
theorem Rel.put (L:O.Law){β:List Place}{h:H}{w:World}(r:Rel O G ro w0 β h w){b o:Nat}{p:Place}(hp:β[b]?=some p)(hro:ro<=b){x v v':Value}(hc:O.cell h b o=some x)(hv:SR β v v'):
  (∃ u, w.cell? ⟨p.blk, p.off + o, none⟩ = some u) ∧ w.frozen? ⟨p.blk, p.off + o, none⟩ = false ∧ Rel O G ro w0 β (O.put h b o v) (w.setCell ⟨p.blk, p.off + o, none⟩ v') := by
 obtain⟨c,e,fz,hh,hs,hf,hcell⟩:=r.cells b p hp;obtain⟨u,hu,_⟩:=hcell o x hc;have hfz:=hf hro;subst hfz;have hlt:p.off+o<c.size:=(Array.getElem?_eq_some_iff.1 hu).1;have hheap:∀k,(w.setCell ⟨p.blk,p.off+o,none⟩ v').heap[k]?=if k=p.blk then some (.cells (c.setIfInBounds (p.off+o) v') e (0,0)) else w.heap[k]?:=by
  intro k
  by_cases hk:k=p.blk
  ·rw[if_pos hk,hk];simp[World.setCell,Array.getElem?_modify,hh]
  ·rw[if_neg hk];exact Below.heap_setCell _ _ _ _ hk
 refine⟨⟨u,by rw[C'q hh];exact hu⟩,by simp[World.frozen?,hh],?_⟩;refine⟨by rw[L.next_put];exact r.len,r.below.setCell (r.own b p hp hro) _,r.glob,r.own,?_,?_,by rw[L.next_put];exact r.ro_le,?_⟩
 ·intro b' p' hp';obtain⟨c',e',fz',hh',hs',hf',hcell'⟩:=r.cells b' p' hp'
  by_cases hk:p'.blk=p.blk
  ·have hce:c'=c∧e'=e∧fz'=(0,0):=by
    rw[hk,hh]at hh';simp at hh';exact⟨hh'.1.symm,hh'.2.1.symm,hh'.2.2.symm⟩
   obtain⟨rfl,rfl,rfl⟩:=hce;refine⟨_,_,_,by rw[hheap,if_pos hk],by simpa using hs',λ_=>rfl,λo' y hy=>?_⟩;rw[L.cell_put _ _ _ _ _ hc]at hy;have hal:O.alive h b'=true:=by
    split at hy
    ·rename_i hcond;rw[hcond.1];exact L.cell_alive _ _ _ _ hc
    ·exact L.cell_alive _ _ _ _ hy
   have hbb:b=b':=r.inj b b' p p' hp hp' (L.cell_alive _ _ _ _ hc) hal hro hk.symm;subst hbb;have hpp:p'=p:=by rw[hp]at hp';simpa using hp'.symm
   subst hpp;split at hy
   ·rename_i hcond
    simp at hy;subst hy;refine⟨v',?_,hv⟩;rw[hcond.2,l'u];simp[hlt]
   ·rename_i hcond
    obtain⟨y',h1,h2⟩:=hcell' o' y hy;refine⟨y',?_,h2⟩;rw[l'u,if_neg]
    ·exact h1
    ·intro heq;exact hcond ⟨rfl,by omega⟩
  ·refine⟨c',e',fz',by rw[hheap,if_neg hk];exact hh',hs',hf',λo' y hy=>?_⟩;rw[L.cell_put _ _ _ _ _ hc,if_neg]at hy
   ·exact hcell' o' y hy
   ·rintro⟨rfl,rfl⟩;rw[hp]at hp';simp at hp';exact hk (by rw[hp'])
 ·intro b1 b2 p1 p2 h1 h2 a1 a2 hr1 hb;rw[L.alive_put]at a1 a2;exact r.inj b1 b2 p1 p2 h1 h2 a1 a2 hr1 hb
 ·intro k q hk;obtain⟨e1,e2⟩:=r.ext k q hk;refine⟨?_,λb' p' hp' ha=>e2 b' p' hp' (by rw[L.alive_put]at ha;exact ha)⟩;rw[hheap,if_neg (λe=>e2 b p hp (L.cell_alive _ _ _ _ hc) e.symm)];exact e1
theorem D'h {w:World}{a:Addr}{v x:Value}(hf:B'f v=true)(hc:w.cell? a=some x)(hz:w.frozen? a=false): (store a v).run P w = .ok () (w.setCell a v):=by
 rw[run_store P w a v .plain (by cases v <;> simp_all [B'f,Value.oneCell'])];simp[hc,hz]
theorem F'a (L:O.Law){β:List Place}{b:Nat}{p:Place}(hp:β[b]?=some p)(hro:ro<=b): ∀(vs vs':List Value)(h h':H)(w:World) (o i:Nat),LR (SR β) vs vs'->Rel O G ro w0 β h w ->
  A'6 O h b (o+i) vs=some h'->∃w',(storeCells ⟨p.blk,p.off+o,none⟩ vs' i).run P w = .ok () w'∧Rel O G ro w0 β h' w':=by
 intro vs
 induction vs with
 | nil=>
  intro vs' h h' w o i hl hr hput;simp only[A'6,l'a]at hput;subst hput;rw[LR.nil_inv hl];exact⟨w,rfl,hr⟩
 | cons v vs ih=>
  intro vs' h h' w o i hl hr hput;obtain⟨v',us,rfl,hv,hus⟩:=LR.cons_inv hl;simp only[A'6]at hput
  cases hc:O.cell h b (o+i) with
  | none=>rw[hc]at hput;simp at hput
  | some x=>
   rw[hc]at hput;simp only at hput;obtain⟨⟨u,hu⟩,hz,hr'⟩:=hr.put L hp hro hc hv;obtain⟨w',hrun,hr''⟩:=ih us _ h' _ o (i+1) hus hr' hput;refine⟨w',?_,hr''⟩;rw[storeCells];simp only[Sem.run_bind];rw[B'G,Nat.add_assoc,D'h hv.flat.2 hu hz,Result.andThen_ok];exact hrun
end
end Go.Vm
namespace Go.Vm
open Go.RowKit
section
variable {P:Program}{H:Type}{O:HI H}{G ro:Nat}{w0:Prot}
theorem VR.int {β:List Place}{k:IntKind}{n:Int}{v':Value}(h:VR β (.int k n) v'): v' = .int k n:=h
theorem VR.bool {β:List Place}{b:Bool}{v':Value}(h:VR β (.bool b) v'): v' = .bool b:=h
theorem VR.string {β:List Place}{b:ByteArray}{v':Value}(h:VR β (.string b) v'): v' = .string b:=h
theorem VR.nilp {β:List Place}{v':Value}(h:VR β (.pointer none) v'): v' = .pointer none:=h
theorem VR.nils {β:List Place}{l c:Nat}{v':Value}(h:VR β (.slice none l c) v'): l=0∧c=0∧v' = .slice none 0 0:=h
theorem VR.sl {β:List Place}{a:Addr}{len cap:Nat}{v':Value}(h:VR β (.slice (some a) len cap) v'):
  ∃p c z,β[a.block]?=some p∧a.spot=some z∧v' = .slice (some ⟨p.blk,p.off+a.off,none⟩) len c∧len<=c∧p.off+a.off+c*z<=p.size∧(cap≠0->c+1=cap):=h
theorem VR.agg {β:List Place}{cs:Array Value}{v':Value}(h:VR β (.agg cs) v'): ∃cs',v' = .agg cs'∧LR (SR β) cs.toList cs'.toList:=h
theorem VR.tup {β:List Place}{cs:Array Value}{v':Value}(h:VR β (.tuple cs) v'): ∃cs',v' = .tuple cs'∧LR (CR β) cs.toList cs'.toList:=h
theorem J'2 (w:World){op:BinOp}{k:IntKind}{a b:Int}{t:TypeId}{v:Value}(hop:op≠.shl∧op≠.shr)(h:C'f op k a b=some v): (binOp op t (.int k a) (.int k b)).run P w = .ok v w:=by
 cases op <;> simp[C'f]at h <;> first|(exact absurd rfl hop.1)|(exact absurd rfl hop.2)|skip
 all_goals first
  | (subst h;simp[binOp,Op.intArith,Op.intBits,Op.intCmp];done)
  | (obtain⟨h0,rfl⟩:=h;simp[binOp,Op.intDiv,h0])
theorem B'R (w:World)(op:BinOp)(t:TypeId)(x y:Operand)(a b:Value)(h:∀cs ds,¬(a = .agg cs∧b = .agg ds))(h2:a≠.nilIface): (eqGuard op t x y a b).run P w = .ok () w:=by
 unfold eqGuard
 by_cases hop:(op matches .eql | .neq)=true
 ·cases a <;> cases b <;> first|(exact absurd rfl h2)|(exact absurd ⟨rfl,rfl⟩ (h _ _))|(cases op <;> simp at hop ⊢)
 ·cases op <;> simp at hop ⊢
theorem I'n (w:World){xs ys:Array Value}(d:Nat): ∀(fs:List Field) (n:Nat)(us vs:List Value)(r:Bool),
  (fs.zipIdx n).all (fun (f, i) => f.name != "_" && f.offset == i && (match P.underlying f.type with | some (.int _) => true | _ => false)) = true →
  us=xs.toList.drop n->vs=ys.toList.drop n->fs.length=us.length->C'a us vs=some r ->
  (Op.eqFields (d + 1) xs ys fs).run P w = .ok r w := by
 intro fs
 induction fs with
 | nil=>
  intro n us vs r hall hu hv hlen hi
  cases us with
  | nil=>
   cases vs with
   | nil=>simp[C'a]at hi;subst hi;simp[Op.eqFields]
   | cons v vs=>simp[C'a]at hi
  | cons u us=>simp at hlen
 | cons f fs ih=>
  intro n us vs r hall hu hv hlen hi;simp only[List.zipIdx_cons,List.all_cons,l'k]at hall;obtain⟨⟨⟨hnm,hoff⟩,hty⟩,hrest⟩:=hall
  cases us with
  | nil=>simp at hlen
  | cons u us=>
   cases vs with
   | nil=>cases u <;> simp[C'a]at hi
   | cons v vs=>
    have hu0:xs[n]?=some u:=by
     have:(xs.toList.drop n)[0]?=some u:=by rw[<-hu];rfl
     simpa using this
    have hv0:ys[n]?=some v:=by
     have:(ys.toList.drop n)[0]?=some v:=by rw[<-hv];rfl
     simpa using this
    have hu1:us=xs.toList.drop (n+1):=by
     have:(xs.toList.drop n).drop 1=us:=by rw[<-hu];rfl
     rw[List.drop_drop]at this;exact this.symm
    have hv1:vs=ys.toList.drop (n+1):=by
     have:(ys.toList.drop n).drop 1=vs:=by rw[<-hv];rfl
     rw[List.drop_drop]at this;exact this.symm
    cases u with
    | int k a=>
     cases v with
     | int k' b=>
      simp only[C'a]at hi;split at hi
      ·rename_i hk
       subst hk
       cases hr:C'a us vs with
       | none=>rw[hr]at hi;simp at hi
       | some q=>
        rw[hr]at hi;simp at hi;subst hi;have hrun:=ih (n+1) us vs q hrest hu1 hv1 (by simpa using hlen) hr
        cases hut:P.underlying f.type with
        | none=>rw[hut]at hty;simp at hty
        | some td=>
         rw[hut]at hty
         cases td with
         | int kk=>
          have hname : f.name ≠ "_" := by simpa using hnm
          have ho:f.offset=n:=by simpa using hoff
          have p1:(part f.type xs f.offset).run P w = .ok (.int k a) w:=by simp[part,isAgg,run_underlying hut,ho,hu0]
          have p2:(part f.type ys f.offset).run P w = .ok (.int k b) w:=by simp[part,isAgg,run_underlying hut,ho,hv0]
          simp only[Op.eqFields];rw[if_pos hname];simp only[Sem.run_bind,p1,p2,Result.andThen_ok,run_equalIn_int w d f.type k kk a b hut]
          cases hab:(a==b) <;> simp[hrun]
         | _=>simp at hty
      ·simp at hi
     | _=>simp[C'a]at hi
    | _=>simp[C'a]at hi
theorem I'o {β:List Place}: ∀(xs ys xs' ys':List Value)(r:Bool),LR (SR β) xs xs'->LR (SR β) ys ys'->C'a xs ys=some r->C'a xs' ys'=some r:=by
 intro xs
 induction xs with
 | nil=>
  intro ys xs' ys' r h1 h2 h;rw[LR.nil_inv h1]
  cases ys with
  | nil=>rw[LR.nil_inv h2];exact h
  | cons y ys=>simp[C'a]at h
 | cons x xs ih=>
  intro ys xs' ys' r h1 h2 h;obtain⟨x',us,rfl,hx,hxs⟩:=LR.cons_inv h1
  cases ys with
  | nil=>cases x <;> simp[C'a]at h
  | cons y ys=>
   obtain⟨y',vs,rfl,hy,hys⟩:=LR.cons_inv h2
   cases x with
   | int k a=>
    cases y with
    | int k' b=>
     cases (hx:x' = .int k a)
     cases (hy:y' = .int k' b)
     simp only[C'a]at h ⊢;split
     ·rename_i hk
      rw[if_pos hk]at h
      cases hr:C'a xs ys with
      | none=>rw[hr]at h;simp at h
      | some q=>
       rw[hr]at h;rw[ih ys us vs q hxs hys hr];exact h
     ·rename_i hk;rw[if_neg hk]at h;simp at h
    | _=>simp[C'a]at h
   | _=>simp[C'a]at h
theorem I'p (w:World)(t:TypeId)(a b:Option Addr): (binOp .eql t (.pointer a) (.pointer b)).run P w=((Op.equalIn 10000 t (.pointer a) (.pointer b)).run P w).andThen λb w'=>.ok (.bool b) w':=by
 simp only[binOp];simp[Op.equal,Op.maxDepth]
theorem I'q (w:World)(t:TypeId)(a b:Option Addr): (binOp .neq t (.pointer a) (.pointer b)).run P w=((Op.equalIn 10000 t (.pointer a) (.pointer b)).run P w).andThen λb w'=>.ok (.bool (!b)) w':=by
 simp only[binOp];simp[Op.equal,Op.maxDepth]
theorem L'L (w:World)(t:TypeId)(a b:Option Addr)(l c l' c':Nat): (binOp .eql t (.slice a l c) (.slice b l' c')).run P w=((Op.equalIn 10000 t (.slice a l c) (.slice b l' c')).run P w).andThen λb w'=>.ok (.bool b) w':=by
 simp only[binOp];simp[Op.equal,Op.maxDepth]
theorem L'M (w:World)(t:TypeId)(a b:Option Addr)(l c l' c':Nat): (binOp .neq t (.slice a l c) (.slice b l' c')).run P w=((Op.equalIn 10000 t (.slice a l c) (.slice b l' c')).run P w).andThen λb w'=>.ok (.bool (!b)) w':=by
 simp only[binOp];simp[Op.equal,Op.maxDepth]
theorem J'3 (w:World)(t:TypeId)(a b:Bool): (binOp .eql t (.bool a) (.bool b)).run P w=((Op.equalIn 10000 t (.bool a) (.bool b)).run P w).andThen λb w'=>.ok (.bool b) w':=by
 simp only[binOp];simp[Op.equal,Op.maxDepth]
theorem J'4 (w:World)(t:TypeId)(a b:Bool): (binOp .neq t (.bool a) (.bool b)).run P w=((Op.equalIn 10000 t (.bool a) (.bool b)).run P w).andThen λb w'=>.ok (.bool (!b)) w':=by
 simp only[binOp];simp[Op.equal,Op.maxDepth]
theorem I'r (w:World)(d:Nat){t e:TypeId}(b:Option Addr)(h:P.underlying t=some (.pointer e)): (Op.equalIn (d+1) t (.pointer none) (.pointer b)).run P w = .ok b.isNone w:=by
 simp[Op.equalIn,run_underlying h]
theorem I's (w:World)(d:Nat){t e:TypeId}(a:Addr)(h:P.underlying t=some (.pointer e)): (Op.equalIn (d+1) t (.pointer (some a)) (.pointer none)).run P w = .ok false w:=by
 simp[Op.equalIn,run_underlying h]
theorem I't (w:World)(d:Nat){t e:TypeId}(b:Option Addr)(l c l' c':Nat)(h:P.underlying t=some (.slice e)): (Op.equalIn (d+1) t (.slice none l c) (.slice b l' c')).run P w = .ok b.isNone w:=by
 simp[Op.equalIn,run_underlying h]
theorem I'u (w:World)(d:Nat){t e:TypeId}(a:Addr)(l c l' c':Nat)(h:P.underlying t=some (.slice e)): (Op.equalIn (d+1) t (.slice (some a) l c) (.slice none l' c')).run P w = .ok false w:=by
 simp[Op.equalIn,run_underlying h]
theorem M'J {β:List Place}(w:World){op:BinOp}{t:TypeId}{x y:Operand}{a b a' b' v:Value}(ha:VR β a a')(hb:VR β b b')(h:C'R P op t a b=some v):
  ∃v',(do eqGuard op t x y a' b';binOp op t a' b':Sem Value).run P w = .ok v' w∧VR β v v':=by
 simp only[Sem.run_bind]
 cases a with
 | int k m=>
  cases VR.int ha
  cases b with
  | int k' n=>
   cases VR.int hb
   rw[B'R w op t x y _ _ (by simp) (by simp),Result.andThen_ok];simp only[C'R]at h
   by_cases hs:op = .shl∨op = .shr
   ·rcases hs with rfl|rfl <;>
    ·simp only[B'w]at h;split at h
     ·simp at h
     ·rename_i hneg
      simp at h;subst h;exact⟨_,by simp[binOp,Op.shift,hneg],rfl⟩
   ·have hs':op≠.shl∧op≠.shr:=⟨λe=>hs (.inl e),λe=>hs (.inr e)⟩;have h':(if k=k' then C'f op k m n else none)=some v:=by cases op <;> first|exact h|(exact absurd rfl hs'.1)|(exact absurd rfl hs'.2)
    split at h'
    ·rename_i hk
     subst hk;refine⟨v,J'2 w hs' h',?_⟩
     cases op <;> simp[C'f]at h' <;> first|(subst h';rfl)|(obtain⟨_,rfl⟩:=h';rfl)
    ·simp at h'
  | _=>simp[C'R]at h
 | string s=>
  cases VR.string ha
  cases b with
  | string s'=>
   cases VR.string hb
   rw[B'R w op t x y _ _ (by simp) (by simp),Result.andThen_ok];simp only[C'R,F'y]at h
   cases op <;> simp at h <;> first
    | (obtain ⟨h0, rfl⟩ := h; refine ⟨_, ?_, (rfl : _ = Value.string _)⟩; have h1 : ¬ (9223372036854775807 < (s.size : Int) + (s'.size : Int)) := by omega
       simp[binOp,Op.stringOp,IntKind.max,IntKind.signed,IntKind.bits,h1])
    | (subst h;exact⟨_,by simp[binOp,Op.stringOp],rfl⟩)
  | _=>simp[C'R]at h
 | bool p=>
  cases VR.bool ha
  cases b with
  | bool q=>
   cases VR.bool hb
   rw[B'R w op t x y _ _ (by simp) (by simp),Result.andThen_ok];simp only[C'R]at h;split at h
   ·rename_i hu;simp only[l'a]at h;subst h
    exact⟨_,by rw[J'3,run_equalIn_bool' w 9999 t p q hu];rfl,rfl⟩
   ·rename_i hu;simp only[l'a]at h;subst h
    exact⟨_,by rw[J'4,run_equalIn_bool' w 9999 t p q hu];rfl,rfl⟩
   ·simp at h
  | _=>simp[C'R]at h
 | pointer p=>
  cases p with
  | none=>
   cases VR.nilp ha
   cases b with
   | pointer q=>
    have hq:∃q',b' = .pointer q'∧q'.isNone=q.isNone:=by
     cases q with
     | none=>exact⟨none,VR.nilp hb,rfl⟩
     | some q=>obtain⟨_,_,e⟩:=VR.ptr hb;exact⟨_,e,rfl⟩
    obtain⟨q',rfl,hq⟩:=hq;rw[B'R w op t x y _ _ (by simp) (by simp),Result.andThen_ok];simp only[C'R]at h;split at h
    ·rename_i hu;simp only[l'a]at h;subst h
     exact⟨.bool q'.isNone,by rw[I'p,I'r w 9999 q' hu];rfl,by rw[<-hq];rfl⟩
    ·rename_i hu;simp only[l'a]at h;subst h
     exact⟨.bool (!q'.isNone),by rw[I'q,I'r w 9999 q' hu];rfl,by rw[<-hq];rfl⟩
    ·simp at h
   | _=>simp[C'R]at h
  | some p=>
   obtain⟨pl,_,rfl⟩:=VR.ptr ha
   cases b with
   | pointer q=>
    cases q with
    | some q=>simp[C'R]at h
    | none=>
     cases VR.nilp hb
     rw[B'R w op t x y _ _ (by simp) (by simp),Result.andThen_ok];simp only[C'R]at h;split at h
     ·rename_i hu;simp only[l'a]at h;subst h
      exact⟨.bool false,by rw[I'p,I's w 9999 _ hu];rfl,rfl⟩
     ·rename_i hu;simp only[l'a]at h;subst h
      exact⟨.bool true,by rw[I'q,I's w 9999 _ hu];rfl,rfl⟩
     ·simp at h
   | _=>simp[C'R]at h
 | slice p l c=>
  cases p with
  | none=>
   obtain⟨rfl,rfl,rfl⟩:=VR.nils ha
   cases b with
   | slice q l' c'=>
    have hq:∃q' l'' c'',b' = .slice q' l'' c''∧q'.isNone=q.isNone:=by
     cases q with
     | none=>obtain⟨_,_,e⟩:=VR.nils hb;exact⟨none,_,_,e,rfl⟩
     | some q=>obtain⟨_,_,_,_,_,e,_⟩:=VR.sl hb;exact⟨_,_,_,e,rfl⟩
    obtain⟨q',l'',c'',rfl,hq⟩:=hq;rw[B'R w op t x y _ _ (by simp) (by simp),Result.andThen_ok];simp only[C'R]at h;split at h
    ·rename_i hu;simp only[l'a]at h;subst h
     exact⟨.bool q'.isNone,by rw[L'L,I't w 9999 q' 0 0 l'' c'' hu];rfl,by rw[<-hq];rfl⟩
    ·rename_i hu;simp only[l'a]at h;subst h
     exact⟨.bool (!q'.isNone),by rw[L'M,I't w 9999 q' 0 0 l'' c'' hu];rfl,by rw[<-hq];rfl⟩
    ·simp at h
   | _=>simp[C'R]at h
  | some p=>
   obtain⟨pl,c1,z,_,_,rfl,_⟩:=VR.sl ha
   cases b with
   | slice q l' c'=>
    cases q with
    | some q=>simp[C'R]at h
    | none=>
     obtain⟨_,_,rfl⟩:=VR.nils hb;rw[B'R w op t x y _ _ (by simp) (by simp),Result.andThen_ok];simp only[C'R]at h;split at h
     ·rename_i hu;simp only[l'a]at h;subst h
      exact⟨.bool false,by rw[L'L,I'u w 9999 _ _ _ _ _ hu];rfl,rfl⟩
     ·rename_i hu;simp only[l'a]at h;subst h
      exact⟨.bool true,by rw[L'M,I'u w 9999 _ _ _ _ _ hu];rfl,rfl⟩
     ·simp at h
   | _=>simp[C'R]at h
 | agg xs=>
  obtain⟨xs',rfl,hxs⟩:=VR.agg ha
  cases b with
  | agg ys=>
   obtain⟨ys',rfl,hys⟩:=VR.agg hb;simp only[C'R]at h;split at h
   ·rename_i hpl
    unfold C'V at hpl
    cases hu:P.underlying t with
    | none=>rw[hu]at hpl;simp at hpl
    | some td=>
     rw[hu]at hpl
     cases td with
     | struct fs=>
      simp only[l'k,l'L,beq_iff_eq]at hpl;obtain⟨⟨⟨hsz,hst⟩,hgd⟩,hall⟩:=hpl;have hfo:P.fieldsOf t=fs:=by simp[Program.fieldsOf,hu]
      have hu':P.underlying t=some (.struct (P.fieldsOf t)):=by rw[hfo];exact hu
      rw[run_eqGuard_agg w op t x y xs' ys' hgd,Result.andThen_ok];have key:∀r,C'a xs.toList ys.toList=some r->(Op.equalIn 10000 t (.agg xs') (.agg ys')).run P w = .ok r w:=by
       intro r hr;rw[show (10000:Nat)=9998+1+1 from rfl,run_equalIn_struct w (9998+1) t xs' ys' hu' hst,hfo];exact I'n w 9998 fs.toList 0 xs'.toList ys'.toList r hall (by simp) (by simp) (by rw[hxs.1];simpa using hsz) (I'o _ _ _ _ r hxs hys hr)
      cases hr:C'a xs.toList ys.toList with
      | none=>rw[hr]at h;cases op <;> simp at h
      | some r=>
       rw[hr]at h
       cases op <;> simp only[l'l,l'a,reduceCtorEq]at h
       ·subst h;exact⟨.bool r,by rw[run_eql_struct,key r hr];rfl,rfl⟩
       ·subst h;exact⟨.bool (!r),by rw[run_neq_struct,key r hr];rfl,rfl⟩
     | _=>simp at hpl
   ·simp at h
  | _=>simp[C'R]at h
 | _=>simp[C'R]at h
end
end Go.Vm
namespace Go.Vm
open Go.RowKit
section
variable {P:Program}{H:Type}{O:HI H}{G ro:Nat}{w0:Prot}
theorem LR.take {R:Value->Value->Prop}{xs ys:List Value}(h:LR R xs ys)(n:Nat): LR R (xs.take n) (ys.take n):=by
 refine⟨by simp[h.1],λi x hx=>?_⟩;rw[List.getElem?_take]at hx ⊢;split at hx
 ·rename_i hi;rw[if_pos hi];exact h.2 i x hx
 ·simp at hx
theorem LR.drop {R:Value->Value->Prop}{xs ys:List Value}(h:LR R xs ys)(n:Nat): LR R (xs.drop n) (ys.drop n):=by
 refine⟨by simp[h.1],λi x hx=>?_⟩;rw[List.getElem?_drop]at hx ⊢;exact h.2 _ x hx
theorem O'N {β:List Place}(w:World){op:UnOp}{a a' v:Value}(ha:VR β a a')(h:unA op a=some v): ∃v',(Op.unary op a').run P w = .ok v' w∧VR β v v':=by
 cases a with
 | bool b=>
  cases VR.bool ha
  cases op <;> simp[unA]at h
  subst h;exact⟨_,by simp[Op.unary],rfl⟩
 | int k n=>
  cases VR.int ha
  cases op <;> simp[unA,C'f]at h <;> subst h
  ·exact⟨_,by simp[Op.unary,Op.intArith],rfl⟩
  ·exact⟨_,by simp[Op.unary,Op.intBits],rfl⟩
 | _=>cases op <;> simp[unA]at h
theorem G'V {β:List Place}(w:World){t:TypeId}{cs cs':Array Value}{off:Nat}{v:Value}(hc:LR (SR β) cs.toList cs'.toList)(h:I'd P t cs off=some v):
  ∃v',(part t cs' off).run P w = .ok v' w∧CR β v v':=by
 unfold I'd at h;have agg:∀i,P.info? t=some i->(∃fs,P.underlying t=some (.struct fs))∨(∃n e,P.underlying t=some (.array n e)) ->
   (if off + i.size ≤ cs.size then some (Value.agg (cs.extract off (off + i.size))) else none) = some v → ∃ v', (part t cs' off).run P w = .ok v' w ∧ CR β v v' := by
  intro i hi hu hv;split at hv
  ·simp at hv;subst hv;refine⟨.agg (cs'.extract off (off+i.size)),?_,⟨_,rfl,?_⟩⟩
   ·rcases hu with ⟨fs,hu⟩|⟨n,e,hu⟩ <;> simp[part,isAgg,run_underlying hu,sizeOf,typeInfo,hi]
   ·simp only[Array.toList_extract,List.extract_eq_take_drop];exact (hc.drop _).take _
  ·simp at hv
 cases hu:P.underlying t with
 | none=>rw[hu]at h;simp at h
 | some d=>
  cases hi:P.info? t with
  | none=>rw[hu,hi]at h;cases d <;> simp at h
  | some i=>
   rw[hu,hi]at h
   cases d with
   | struct fs=>exact agg i hi (.inl ⟨fs,hu⟩) h
   | array n e=>exact agg i hi (.inr ⟨n,e,hu⟩) h
   | _=>
    simp only at h;obtain⟨v',h1,h2⟩:=hc.2 off v (by simpa using h);refine⟨v',?_,h2.toCR⟩;have h1':cs'[off]?=some v':=by simpa using h1
    simp[part,isAgg,run_underlying hu,h1']
def PR (β:List Place)(xs ys:List (Nat×Value)): Prop:=ys.length=xs.length∧∀(i:Nat) x,xs[i]?=some x->∃y,ys[i]?=some y∧y.1=x.1∧CR β x.2 y.2
theorem PR.cons_inv {β:List Place}{x:Nat×Value}{xs ys:List (Nat×Value)}(h:PR β (x :: xs) ys): ∃y r,ys=y :: r∧y.1=x.1∧CR β x.2 y.2∧PR β xs r:=by
 obtain⟨h1,h2⟩:=h
 cases ys with
 | nil=>simp at h1
 | cons y r=>
  obtain⟨y',hy,e,hr⟩:=h2 0 x rfl;simp at hy;subst hy;exact⟨_,r,rfl,e,hr,by simpa using h1,λi z hz=>by simpa using h2 (i+1) z (by simpa using hz)⟩
theorem M'K {β:List Place}(off:Nat): ∀(xs ys:List Value)(cs cs':Array Value) (j:Nat),LR (SR β) xs ys->LR (SR β) cs.toList cs'.toList ->
  LR (SR β) ((xs.zipIdx j).foldl (λcs (c,j)=>cs.setIfInBounds (off+j) c) cs).toList ((ys.zipIdx j).foldl (λcs (c,j)=>cs.setIfInBounds (off+j) c) cs').toList:=by
 intro xs
 induction xs with
 | nil=>intro ys cs cs' j h hc;rw[LR.nil_inv h];simpa using hc
 | cons x xs ih=>
  intro ys cs cs' j h hc;obtain⟨y,r,rfl,hxy,hr⟩:=LR.cons_inv h;simp only[List.zipIdx_cons,List.foldl_cons];refine ih r _ _ (j+1) hr ?_;simp only[Array.toList_setIfInBounds];exact hc.set hxy _
theorem G'W {β:List Place}(place:Nat->Option (Nat×Nat)): ∀(ps qs:List (Nat×Value))(cs cs' out:Array Value),PR β ps qs->LR (SR β) cs.toList cs'.toList->Instr.fill place cs ps=some out ->
  ∃out',Instr.fill place cs' qs=some out'∧LR (SR β) out.toList out'.toList:=by
 intro ps
 induction ps with
 | nil=>
  intro qs cs cs' out hp hc h;have:qs=[]:=by have:=hp.1;simpa using this
  subst this;simp only[Instr.fill,l'a]at h;subst h;exact⟨cs',rfl,hc⟩
 | cons p ps ih=>
  intro qs cs cs' out hp hc h;obtain⟨q,qs,rfl,e1,hv,hps⟩:=PR.cons_inv hp;obtain⟨i,v⟩:=p;obtain⟨i',v'⟩:=q;simp only at e1 hv;subst e1;have hcells:=hv.cells;have hsz:v'.cells.size=v.cells.size:=by simpa using hcells.1
  have hcs:cs'.size=cs.size:=by simpa using hc.1
  simp only[Instr.fill]at h ⊢
  cases hpl:place i' with
  | none=>rw[hpl]at h;simp at h
  | some os=>
   obtain⟨off,size⟩:=os;rw[hpl]at h;simp only at h ⊢;rw[hsz,hcs];split at h
   ·simp at h
   ·rename_i hcond
    rw[if_neg hcond];refine ih qs _ _ out hps ?_ h;have:=M'K (β:=β) off v.cells.toList v'.cells.toList cs cs' 0 hcells hc;rw[<-Array.foldl_toList,<-Array.foldl_toList,Array.toList_zipIdx,Array.toList_zipIdx];exact this
def plM (f:Field): Sem (Nat×Nat):=do pure (f.offset,<-sizeOf f.type)
theorem G'o (w:World): ∀(fs:List Field)(ps:List (Nat×Nat)),C'K P fs=some ps ->
  (fs.mapM plM).run P w = .ok ps w := by
 intro fs
 induction fs with
 | nil=>intro ps h;simp[C'K]at h;subst h;rfl
 | cons f fs ih=>
  intro ps h;simp only[C'K]at h
  cases hi:P.info? f.type with
  | none=>rw[hi]at h;simp at h
  | some i=>
   cases hr:C'K P fs with
   | none=>rw[hi,hr]at h;simp at h
   | some qs=>
    rw[hi,hr]at h;simp at h;subst h;have h1:(plM f).run P w = .ok (f.offset,i.size) w:=by simp[plM,sizeOf,typeInfo,hi]
    rw[List.mapM_cons];simp only[Sem.run_bind,h1,Result.andThen_ok,ih qs hr,Sem.run_pure]
theorem SR.refl_zero {β:List Place}{v:Value}(h:B'v 0 (.const v)=true): SR β v v:=by
 cases v with
 | bool b=>rfl
 | int k n=>rfl
 | string s=>rfl
 | pointer a=>cases a with
  | none=>rfl
  | some a=>simp[B'v]at h
 | slice a l c=>cases a with
  | none=>
   cases l with
   | succ l=>simp[B'v]at h
   | zero=>cases c with
    | succ c=>simp[B'v]at h
    | zero=>exact⟨rfl,rfl,rfl⟩
  | some a=>simp[B'v]at h
 | _=>simp[B'v]at h
theorem G'X {β:List Place}: ∀(l:List Value),l.all (λv=>B'v 0 (.const v))=true->LR (SR β) l l:=by
 intro l
 induction l with
 | nil=>intro _;exact LR.nil _
 | cons x l ih=>
  intro h;simp only[List.all_cons,l'k]at h;exact LR.cons (SR.refl_zero h.1) (ih h.2)
theorem E'e (w:World){v:Value}{d top n:Nat}(G'j:BoundsCode)(h:A'm (some v) d top=some n)(top':Nat)(ht:top<=top'): (Instr.sliceBound v top' G'j).run P w = .ok n w:=by
 cases v with
 | int k i=>
  simp only[A'm]at h;split at h
  ·rename_i hc
   simp at h;subst h;have hc':0<=i∧i<=(top':Int):=⟨hc.1,by omega⟩;simp[Instr.sliceBound,asIntOf,hc']
  ·simp at h
 | _=>simp[A'm]at h
theorem C'c {v:Value}{d top n:Nat}(h:A'm (some v) d top=some n): n<=top:=by
 cases v with
 | int k i=>
  simp only[A'm]at h;split at h
  ·rename_i hc;simp at h;omega
  ·simp at h
 | _=>simp[A'm]at h
theorem B'2 {β:List Place}{x x':Option Value}{d top n:Nat}(hx:∀v,x=some v->∃v',x'=some v'∧VR β v v')(hn:x=none->x'=none)(h:A'm x d top=some n): x'=x:=by
 cases x with
 | none=>exact hn rfl
 | some v=>
  obtain⟨v',rfl,hv⟩:=hx v rfl
  cases v with
  | int k i=>rw[VR.int hv]
  | _=>simp[A'm]at h
theorem C'6 (w:World)(isS:Bool){lo hi:Option Value}{len top cap l h:Nat}(hh:A'm hi len top=some h)(hl:A'm lo 0 h=some l)(htop:top<=cap):
  (Instr.sliceBounds isS len cap lo hi none).run P w = .ok (l, h, cap) w := by
 unfold Instr.sliceBounds
 cases hi with
 | none=>
  simp only[A'm,l'a]at hh;subst hh
  cases lo with
  | none=>simp only[A'm,l'a]at hl;subst hl;simp
  | some v=>simp[E'e w (.sliceB) hl len (l'H _)]
 | some u=>
  have h1:=λG'j=>E'e (P:=P) w G'j hh cap htop
  cases lo with
  | none=>simp only[A'm,l'a]at hl;subst hl;simp[h1]
  | some v=>simp[h1,E'e w (.sliceB) hl h (l'H _)]
theorem I'v {β:List Place}(w:World){t:TypeId}{a a' v:Value}{lo hi lo' hi' mx mx':Option Value}(ha:VR β a a')
  (hlo:∀v,lo=some v->∃v',lo'=some v'∧VR β v v')(nlo:lo=none->lo'=none)(hhi:∀v,hi=some v->∃v',hi'=some v'∧VR β v v')(nhi:hi=none->hi'=none)(nmx:mx=none->mx'=none)
  (h : D'4 P t a lo hi mx = some v): ∃ v', (Instr.sliceAt t a' lo' hi' mx').run P w = .ok v' w ∧ VR β v v' := by
 unfold D'4 at h
 cases mx with
 | some m=>simp at h
 | none=>
  rw[nmx rfl];simp only at h
  cases hu:P.underlying t with
  | none=>rw[hu]at h;simp at h
  | some d=>
   rw[hu]at h
   cases d with
   | string=>
    cases a with
    | string s=>
     cases VR.string ha
     simp only at h
     cases hh:A'm hi s.size s.size with
     | none=>rw[hh]at h;simp at h
     | some h1=>
      rw[hh]at h;simp only at h
      cases hl:A'm lo 0 h1 with
      | none=>rw[hl]at h;simp at h
      | some l1=>
       rw[hl]at h;simp at h;subst h;have e1:=B'2 hlo nlo hl;have e2:=B'2 hhi nhi hh;subst e1;subst e2;refine⟨_,?_,(rfl:_=Value.string _)⟩;simp[Instr.sliceAt,Instr.slice,run_underlying hu,C'6 w false hh hl (l'H _)]
    | _=>simp at h
   | slice e=>
    cases a with
    | slice ad len cap=>
     cases ad with
     | none=>
      simp only at h
      cases hi0:P.info? e with
      | none=>rw[hi0]at h;simp at h
      | some i=>
       rw[hi0]at h;simp only at h;split at h
       ·rename_i hz
        obtain⟨rfl,rfl⟩:=hz;have ha':a' = .slice none 0 0:=(show 0=0∧0=0∧a' = .slice none 0 0 from ha).2.2;subst ha'
        cases hh:A'm hi 0 0 with
        | none=>rw[hh]at h;simp at h
        | some h1=>
         rw[hh]at h;simp only at h
         cases hl:A'm lo 0 h1 with
         | none=>rw[hl]at h;simp at h
         | some l1=>
          rw[hl]at h;simp only[l'a]at h;subst h;have e1:=B'2 hlo nlo hl;have e2:=B'2 hhi nhi hh;subst e1;subst e2;have hb:=C'6 (P:=P) w true hh hl (l'H 0);have g1:h1=0:=by
           cases hi' with
           | none=>simp[A'm]at hh;omega
           | some u=>have:=C'c hh;omega
          subst g1;have g2:l1=0:=by
           cases lo' with
           | none=>simp[A'm]at hl;omega
           | some u=>have:=C'c hl;omega
          subst g2;refine⟨.slice none 0 0,?_,⟨rfl,rfl,rfl⟩⟩;simp only[Instr.sliceAt,Instr.slice,Sem.run_bind,run_underlying hu,Result.andThen_ok,hb,sizeOf,typeInfo,run_program,hi0,Sem.run_pure,Nat.zero_mul,Nat.sub_zero];rfl
       ·simp at h
     | some ad=>
      obtain⟨p,c,z,hp,hz,rfl,hlc,hfit,hcap⟩:=VR.sl ha;simp only at h
      cases hi0:P.info? e with
      | none=>rw[hi0]at h;simp at h
      | some i=>
       rw[hi0]at h;simp only at h;split at h
       ·rename_i hspot
        have hzi:z=i.size:=by rw[hz]at hspot;simpa using hspot
        subst hzi
        cases hh:A'm hi len (if cap=0 then len else cap-1) with
        | none=>rw[hh]at h;simp at h
        | some h1=>
         rw[hh]at h;simp only at h
         cases hl:A'm lo 0 h1 with
         | none=>rw[hl]at h;simp at h
         | some l1=>
          rw[hl]at h;simp only at h;have e1:=B'2 hlo nlo hl;have e2:=B'2 hhi nhi hh;subst e1;subst e2;have htop:(if cap=0 then len else cap-1)<=c:=by
           split
           ·exact hlc
           ·rename_i hc0;have:=hcap hc0;omega
          have hb:=C'6 (P:=P) w true hh hl htop;have hh1:h1<=c:=by
           cases hi' with
           | none=>simp[A'm]at hh;omega
           | some u=>
            exact l'G (C'c hh) htop
          split at h
          ·rename_i hl0
           subst hl0;simp at h;subst h;refine⟨.slice (some ⟨p.blk,p.off+ad.off,none⟩) h1 c,?_,?_⟩
           ·simp only[Instr.sliceAt,Instr.slice,Sem.run_bind,run_underlying hu,Result.andThen_ok,hb,sizeOf,typeInfo,run_program,hi0,Sem.run_pure,Nat.zero_mul,Nat.sub_zero,l'l,B'G,Nat.add_zero];split <;> rfl
           ·exact (show SR β (.slice (some ad) h1 cap) _ from ⟨p,c,i.size,hp,hz,rfl,hh1,hfit,hcap⟩)
          ·rename_i hl0
           split at h
           ·rename_i hlt
            simp at h;subst h;obtain⟨k,rfl⟩:∃k,c=l1+k:=⟨c-l1,by omega⟩;refine⟨.slice (some ⟨p.blk,p.off+ad.off+l1*i.size,none⟩) (h1-l1) k,?_,?_⟩
            ·have hne:¬(l1+k=l1):=by omega
             simp only[Instr.sliceAt,Instr.slice,Sem.run_bind,run_underlying hu,Result.andThen_ok,hb,sizeOf,typeInfo,run_program,hi0,Sem.run_pure,if_neg hne,l'l,B'G,Nat.add_sub_cancel_left]
            ·refine (show SR β (.slice (some ⟨ad.block,ad.off+l1*i.size,ad.spot⟩) (h1-l1) (if cap=0 then 0 else cap-l1)) _ from ⟨p,k,i.size,hp,hz,?_,by omega,?_,?_⟩)
             ·rw[Nat.add_assoc]
             ·simp only;rw[Nat.add_mul]at hfit;omega
             ·intro hne;split at hne
              ·exact absurd rfl hne
              ·rename_i hc0
               have:=hcap hc0;rw[if_neg hc0];omega
           ·simp at h
       ·simp at h
    | _=>simp at h
   | _=>simp at h
theorem F'b {β:List Place}(w:World){t:TypeId}{a ix a' ix' v:Value}(ha:VR β a a')(hix:VR β ix ix')(h:C'x P t a ix=some v): ∃v',(Instr.indexAt t a' ix').run P w = .ok v' w∧VR β v v':=by
 unfold C'x at h
 cases hu:P.underlying t with
 | none=>rw[hu]at h;simp at h
 | some d=>
  rw[hu]at h
  cases d with
  | slice e=>
   cases a with
   | slice ad len cap=>
    cases ad with
    | none=>simp at h
    | some ad=>
     obtain⟨p,c,z,hp,hz,rfl,hlc,hfit,hcap⟩:=VR.sl ha
     cases ix with
     | int k i=>
      cases VR.int hix
      simp only at h
      cases hi0:P.info? e with
      | none=>rw[hi0]at h;simp at h
      | some inf=>
       rw[hi0]at h;simp only at h;split at h
       ·rename_i hb
        simp at h;subst h;refine⟨.pointer (some ⟨p.blk,p.off+ad.off+i.toNat*inf.size,none⟩),?_,?_⟩
        ·simp[Instr.indexAt,asIntOf,run_underlying hu,hb,sizeOf,typeInfo,hi0,B'G]
        ·exact (show SR β (.pointer (some ⟨ad.block,ad.off+i.toNat*inf.size,none⟩)) _ from ⟨p,hp,by rw[Nat.add_assoc]⟩)
       ·simp at h
     | _=>simp at h
   | _=>simp at h
  | array n e=>
   cases a with
   | pointer ad=>
    cases ad with
    | none=>simp at h
    | some ad=>
     obtain⟨p,hp,rfl⟩:=VR.ptr ha
     cases ix with
     | int k i=>
      cases VR.int hix
      simp only at h
      cases hi0:P.info? e with
      | none=>rw[hi0]at h;simp at h
      | some inf=>
       rw[hi0]at h;simp only at h;split at h
       ·rename_i hb
        simp at h;subst h;refine⟨.pointer (some ⟨p.blk,p.off+ad.off+i.toNat*inf.size,none⟩),?_,?_⟩
        ·simp[Instr.indexAt,asIntOf,run_underlying hu,Instr.sureAddr,hb,sizeOf,typeInfo,hi0,B'G]
        ·exact (show SR β (.pointer (some ⟨ad.block,ad.off+i.toNat*inf.size,none⟩)) _ from ⟨p,hp,by rw[Nat.add_assoc]⟩)
       ·simp at h
     | _=>simp at h
   | _=>simp at h
  | _=>cases a <;> simp at h
theorem I'w {β:List Place}(w:World){t:TypeId}{a ix a' ix' v:Value}(ha:VR β a a')(hix:VR β ix ix')(h:G'R P t a ix=some v): ∃v',(Instr.index t a' ix').run P w = .ok v' w∧VR β v v':=by
 unfold G'R at h
 cases hu:P.underlying t with
 | none=>rw[hu]at h;simp at h
 | some d=>
  rw[hu]at h
  cases d with
  | array n e=>
   cases a with
   | agg cs=>
    obtain⟨cs',rfl,hcs⟩:=VR.agg ha
    cases ix with
    | int k i=>
     cases VR.int hix
     simp only at h
     cases hi0:P.info? e with
     | none=>rw[hi0]at h;simp at h
     | some inf=>
      rw[hi0]at h;simp only at h;split at h
      ·rename_i hb
       obtain⟨v',hrun,hc⟩:=G'V w hcs h;exact⟨v',by simp[Instr.index,asIntOf,run_underlying hu,hb,sizeOf,typeInfo,hi0,hrun],hc.toVR⟩
      ·simp at h
    | _=>simp at h
   | _=>simp at h
  | string=>
   cases a with
   | string s=>
    cases VR.string ha
    cases ix with
    | int k i=>
     cases VR.int hix
     simp only at h;split at h
     ·rename_i hb
      cases hs:s[i.toNat]? with
      | none=>rw[hs]at h;simp at h
      | some b=>
       rw[hs]at h;simp at h;subst h;exact⟨_,by simp[Instr.index,asIntOf,run_underlying hu,hb,hs],rfl⟩
     ·simp at h
    | _=>simp at h
   | _=>simp at h
  | _=>cases a <;> simp at h
theorem I'x {β:List Place}(w:World){t:TypeId}{ps qs:Array (Nat×Value)}{v:Value}(hp:PR β ps.toList qs.toList)(h:G'Q P t ps=some v): ∃v',(Instr.build t qs).run P w = .ok v' w∧VR β v v':=by
 unfold G'Q at h
 cases hi:P.info? t with
 | none=>rw[hi]at h;simp at h
 | some i=>
  rw[hi]at h
  cases hu:P.underlying t with
  | none=>rw[hu]at h;simp at h
  | some d=>
   rw[hu]at h
   cases d with
   | struct fs=>
    simp only at h
    cases hz:i.zero with
    | none=>rw[hz]at h;simp at h
    | some z=>
     cases hpl:C'K P fs.toList with
     | none=>rw[hz,hpl]at h;simp at h
     | some pl=>
      rw[hz,hpl]at h;simp only at h;split at h
      ·rename_i hzo
       cases hf:Instr.fill (λx=>pl[x]?) z.cells ps.toList with
       | none=>rw[hf]at h;simp at h
       | some out=>
        rw[hf]at h;simp at h;subst h;obtain⟨out',hf',hout⟩:=G'W (β:=β) _ _ _ _ _ _ hp (G'X _ hzo) hf;refine⟨.agg out',?_,⟨out',rfl,hout⟩⟩;have hpm:(fs.mapM plM).run P w = .ok pl.toArray w:=by
         rw[Array.mapM_eq_mapM_toList];simp only[Sem.run_map,G'o w _ _ hpl,Result.andThen_ok]
        have hpm':(fs.mapM (m:=Sem) λf=>do pure (f.offset,<-sizeOf f.type)).run P w = .ok pl.toArray w:=hpm;simp only[Instr.build,zeroValue,typeInfo,Sem.run_bind,run_program,Result.andThen_ok,hi,Sem.run_pure,hz,run_underlying hu,hpm'];have hf2:Instr.fill (λx=>pl.toArray[x]?) z.cells qs.toList=some out':=by simpa using hf'
        rw[hf2];rfl
      ·simp at h
   | _=>simp at h
end
end Go.Vm
