import Derived.Test.YtimdkminagnhgabGreatDoorQ02
import Derived.Laws.MakeOwn
import Derived.Laws.BytesString
set_option linter.all false
namespace Go.Vm
open Go.RowKit
section
variable {P:Program}{H:Type}{O:HI H}{G ro:Nat}{w0:Prot}
theorem PR.map {β:List Place}{ρ ρ':Operand->Value}(parts:Array (Nat×Operand))(h:∀p∈parts.toList,CR β (ρ p.2) (ρ' p.2)):
  PR β (parts.map λ(i,x)=>(i,ρ x)).toList (parts.map λ(i,x)=>(i,ρ' x)).toList:=by
 refine⟨by simp,λi x hx=>?_⟩;simp only[Array.toList_map,List.getElem?_map]at hx ⊢
 cases hp:parts.toList[i]? with
 | none=>rw[hp]at hx;simp at hx
 | some q=>
  rw[hp]at hx;simp at hx;subst hx;exact⟨_,rfl,rfl,h q (l'f hp)⟩
theorem LR.map {R:Value->Value->Prop}{ρ ρ':Operand->Value}(l:List Operand)(h:∀x∈l,R (ρ x) (ρ' x)): LR R (l.map ρ) (l.map ρ'):=by
 induction l with
 | nil=>exact LR.nil _
 | cons x l ih=>exact LR.cons (h x (by simp)) (ih λy hy=>h y (by simp[hy]))
def E'T (r:Result Next)(v':Value)(w':World): Prop:=r = .ok (.value v') w'∨(r = .ok .skip w'∧v'=undef)
theorem B'K {s:Sem Value}{w w':World}{v':Value}(h:s.run P w = .ok v' w'): E'T ((do pure (.value (<-s)):Sem Next).run P w) v' w':=by
 refine .inl ?_;simp only[Sem.run_bind,h,Result.andThen_ok,Sem.run_pure]
theorem J'5 {β:List Place}(w:World){ρ ρ':Operand->Value}{o:Oper}{v:Value}(he:∀x∈A'Y o.op,VR β (ρ x) (ρ' x))(hc:cls o.op=0)
  (h : B'H P ρ o.op = some v): ∃ v', E'T ((execOp ρ' o).run P w) v' w ∧ VR β v v' := by
 cases hop:o.op with
 | move x=>
  rw[hop]at h he;simp only[B'H,l'a]at h;subst h;exact⟨ρ' x,.inl (by simp[execOp,hop]),he x (by simp[A'Y,Op.operands])⟩
 | assign x=>
  rw[hop]at h he;simp only[B'H,l'a]at h;subst h;exact⟨ρ' x,.inl (by simp[execOp,hop]),he x (by simp[A'Y,Op.operands])⟩
 | pick c a b=>
  rw[hop]at h he;simp only[B'H]at h;have h1:=he c (by simp[A'Y,Op.operands]);have h2:=he a (by simp[A'Y,Op.operands]);have h3:=he b (by simp[A'Y,Op.operands])
  cases hv:ρ c with
  | bool t=>
   rw[hv]at h h1;simp only[l'a]at h;subst h;refine⟨if t then ρ' a else ρ' b,.inl ?_,?_⟩
   ·simp only[execOp,hop,VR.bool h1,asBool,Sem.run_bind,Sem.run_pure,Result.andThen_ok]
   ·cases t
    ·exact h3
    ·exact h2
  | _=>rw[hv]at h;simp at h
 | nilCheck x=>
  rw[hop]at h he;simp only[B'H]at h;have h1:=he x (by simp[A'Y,Op.operands])
  cases hv:ρ x with
  | pointer a=>
   cases a with
   | none=>rw[hv]at h;simp at h
   | some a=>
    rw[hv]at h h1;simp only[l'a]at h;subst h;refine⟨ρ' x,.inl ?_,h1⟩;obtain⟨p,_,e⟩:=VR.ptr h1;simp only[execOp,hop,e,Sem.run_pure]
  | _=>rw[hv]at h;simp at h
 | binOp op t x y yt=>
  rw[hop]at h he;simp only[B'H]at h;obtain⟨v',hrun,hv⟩:=M'J (P:=P) w (x:=x) (y:=y) (he x (by simp[A'Y,Op.operands])) (he y (by simp[A'Y,Op.operands])) h;refine⟨v',?_,hv⟩;simp only[execOp,hop];exact B'K hrun
 | unOp op t x=>
  rw[hop]at h he;simp only[B'H]at h;obtain⟨v',hrun,hv⟩:=O'N (P:=P) w (he x (by simp[A'Y,Op.operands])) h;refine⟨v',?_,hv⟩;simp only[execOp,hop];exact B'K hrun
 | build t parts=>
  rw[hop]at h he;simp only[B'H]at h;split at h
  case isFalse=>simp at h
  rename_i hall
  have hpr:PR β (parts.map λ(i,x)=>(i,ρ x)).toList (parts.map λ(i,x)=>(i,ρ' x)).toList:=
   PR.map parts λp hp=>(he p.2 (by simp[A'Y,Op.operands];exact⟨p.1,by simpa using hp⟩)).toCR (by simpa using l'D.1 hall p hp)
  obtain⟨v',hrun,hv⟩:=I'x w hpr h;refine⟨v',?_,hv⟩;simp only[execOp,hop];exact B'K hrun
 | fieldAddr s x f=>
  rw[hop]at h he;simp only[B'H]at h;have h1:=he x (by simp[A'Y,Op.operands])
  cases hu:P.underlying s with
  | none=>rw[hu]at h;simp at h
  | some d=>
   rw[hu]at h
   cases d with
   | struct fs=>
    cases hv:ρ x with
    | pointer a=>
     cases a with
     | none=>rw[hv]at h;simp at h
     | some a=>
      rw[hv]at h h1;simp only at h
      cases hf:fs[f]? with
      | none=>rw[hf]at h;simp at h
      | some fd=>
       rw[hf]at h;simp only at h
       cases hi:P.info? fd.type with
       | none=>rw[hi]at h;simp at h
       | some i=>
        rw[hi]at h;simp only at h;split at h
        ·simp at h
        ·rename_i hs
         simp only[l'a]at h;subst h;obtain⟨p,hp,e⟩:=VR.ptr h1;refine⟨.pointer (some ⟨p.blk,p.off+a.off+fd.offset,none⟩),?_,(show SR β (.pointer (some ⟨a.block,a.off+fd.offset,none⟩)) _ from ⟨p,hp,by rw[Nat.add_assoc]⟩)⟩;simp only[execOp,hop];refine B'K ?_;simp[Instr.fieldAt,run_underlying hu,hf,e,Instr.sureAddr,fieldPlace,sizeOf,typeInfo,hi,hs,B'G]
    | _=>rw[hv]at h;simp at h
   | _=>simp at h
 | field t x f=>
  rw[hop]at h he;simp only[B'H]at h;have h1:=he x (by simp[A'Y,Op.operands])
  cases hu:P.underlying t with
  | none=>rw[hu]at h;simp at h
  | some d=>
   rw[hu]at h
   cases d with
   | struct fs=>
    cases hv:ρ x with
    | agg cs=>
     rw[hv]at h h1;simp only at h
     cases hf:fs[f]? with
     | none=>rw[hf]at h;simp at h
     | some fd=>
      rw[hf]at h;simp only at h;obtain⟨cs',e,hcs⟩:=VR.agg h1;obtain⟨v',hrun,hcr⟩:=G'V w hcs h;refine⟨v',?_,hcr.toVR⟩;simp only[execOp,hop];refine B'K ?_;simp[Instr.field,run_underlying hu,hf,e,asAgg,hrun]
    | _=>rw[hv]at h;simp at h
   | _=>simp at h
 | indexAddr t x ix=>
  rw[hop]at h he;simp only[B'H]at h;obtain⟨v',hrun,hv⟩:=F'b w (he x (by simp[A'Y,Op.operands])) (he ix (by simp[A'Y,Op.operands])) h;refine⟨v',?_,hv⟩;simp only[execOp,hop];exact B'K hrun
 | index t x ix=>
  rw[hop]at h he;simp only[B'H]at h;obtain⟨v',hrun,hv⟩:=I'w w (he x (by simp[A'Y,Op.operands])) (he ix (by simp[A'Y,Op.operands])) h;refine⟨v',?_,hv⟩;simp only[execOp,hop];exact B'K hrun
 | slice t x lo hi mx=>rw[hop]at hc;simp[cls]at hc
 | extract x i=>
  rw[hop]at h he;simp only[B'H]at h;have h1:=he x (by simp[A'Y,Op.operands])
  cases hv:ρ x with
  | tuple vs=>
   rw[hv]at h h1;simp only at h;obtain⟨vs',e,hvs⟩:=VR.tup h1;obtain⟨v',h2,h3⟩:=hvs.2 i v (by simpa using h);have h2':vs'[i]?=some v':=by simpa using h2
   refine⟨v',?_,h3.toVR⟩;simp only[execOp,hop];refine B'K ?_;simp[Instr.extract,e,h2']
  | _=>rw[hv]at h;simp at h
 | call c=>
  obtain⟨cal,args,tys⟩:=c;rw[hop]at h he hc
  cases cal with
  | value f=>simp[cls]at hc
  | invoke r m=>simp[cls]at hc
  | builtin b=>
   have lists:∀{X:Option Value} ,(match tys.toList,args.toList with|t :: _,x :: _=>(X:Option Value)|_,_=>none)=some v->∃t x,tys[0]?=some t∧args[0]?=some x∧x∈args.toList:=by
    intro X hX
    cases ht:tys.toList with
    | nil=>rw[ht]at hX;simp at hX
    | cons t r=>
     cases ha:args.toList with
     | nil=>rw[ht,ha]at hX;simp at hX
     | cons x r'=>
      refine⟨t,x,?_,?_,by simp⟩
      ·rw[<-Array.getElem?_toList,ht];rfl
      ·rw[<-Array.getElem?_toList,ha];rfl
   cases b with
   | len=>
    simp only[B'H]at h
    cases ht:tys.toList with
    | nil=>rw[ht]at h;simp at h
    | cons t r=>
     cases ha:args.toList with
     | nil=>rw[ht,ha]at h;simp at h
     | cons x r'=>
      rw[ht,ha]at h;simp only at h;have ht0:tys[0]?=some t:=by rw[<-Array.getElem?_toList,ht];rfl
      have ha0:args[0]?=some x:=by rw[<-Array.getElem?_toList,ha];rfl
      have h1:=he x (by simp[A'Y,ha]);have hex:(execOp ρ' o).run P w=((Builtin.len_ tys o.type (args.map ρ')).run P w).andThen λv w'=>.ok (.value v) w':=by
       simp[execOp,hop,resolve,invoke,builtin]
      have ha1:(args.map ρ')[0]?=some (ρ' x):=by simp[ha0]
      cases hu:P.underlying t with
      | none=>rw[hu]at h;simp at h
      | some d=>
       rw[hu]at h;have fin:∀n:Nat,(Builtin.len_ tys o.type (args.map ρ')).run P w = .ok (.int .i64 n) w->v = .int .i64 n->∃v',E'T ((execOp ρ' o).run P w) v' w∧VR β v v':=by
        intro n hl e;subst e;exact⟨.int .i64 n,.inl (by rw[hex,hl];rfl),rfl⟩
       cases d with
       | string=>
        cases hv:ρ x with
        | string s=>
         rw[hv]at h h1;simp only[l'a]at h;exact fin s.size (by simp[Builtin.len_,ht0,ha1,run_underlying hu,VR.string h1,goInt]) h.symm
        | _=>rw[hv]at h;simp at h
       | slice e=>
        cases hv:ρ x with
        | slice ad len cap=>
         rw[hv]at h h1;simp only[l'a]at h;have hs:∃ad' c',ρ' x = .slice ad' len c':=by
          cases ad with
          | none=>obtain⟨rfl,rfl,e⟩:=VR.nils h1;exact⟨_,_,e⟩
          | some ad=>obtain⟨_,_,_,_,_,e,_⟩:=VR.sl h1;exact⟨_,_,e⟩
         obtain⟨ad',c',e⟩:=hs;exact fin len (by simp[Builtin.len_,ht0,ha1,run_underlying hu,e,goInt]) h.symm
        | _=>rw[hv]at h;simp at h
       | array n e=>
        simp only[l'a]at h;exact fin n (by simp[Builtin.len_,ht0,ha1,run_underlying hu,goInt]) h.symm
       | _=>simp at h
   | cap=>
    simp only[B'H]at h
    cases ht:tys.toList with
    | nil=>rw[ht]at h;simp at h
    | cons t r=>
     cases ha:args.toList with
     | nil=>rw[ht,ha]at h;simp at h
     | cons x r'=>
      rw[ht,ha]at h;simp only at h;have ht0:tys[0]?=some t:=by rw[<-Array.getElem?_toList,ht];rfl
      have ha0:args[0]?=some x:=by rw[<-Array.getElem?_toList,ha];rfl
      have h1:=he x (by simp[A'Y,ha]);have hex:(execOp ρ' o).run P w=((Builtin.cap_ tys o.type (args.map ρ')).run P w).andThen λv w'=>.ok (.value v) w':=by
       simp[execOp,hop,resolve,invoke,builtin]
      have ha1:(args.map ρ')[0]?=some (ρ' x):=by simp[ha0]
      cases hu:P.underlying t with
      | none=>rw[hu]at h;simp at h
      | some d=>
       rw[hu]at h
       cases d with
       | slice e=>
        cases hv:ρ x with
        | slice ad len cap=>
         rw[hv]at h h1
         cases ad with
         | none=>
          obtain⟨rfl,rfl,e⟩:=VR.nils h1;simp only[l'a]at h;subst h;exact⟨.int .i64 0,.inl (by rw[hex];simp[Builtin.cap_,ht0,ha1,run_underlying hu,e,goInt]),rfl⟩
         | some ad=>
          obtain⟨_,c,_,_,_,e,_,_,hcap⟩:=VR.sl h1;simp only at h;split at h
          ·simp at h
          ·rename_i hc0
           simp only[l'a]at h;subst h;have:=hcap hc0;subst this;rw[Nat.add_sub_cancel];exact⟨.int .i64 c,.inl (by rw[hex];simp[Builtin.cap_,ht0,ha1,run_underlying hu,e,goInt]),rfl⟩
        | _=>rw[hv]at h;simp at h
       | _=>simp at h
   | _=>simp[cls]at hc
 | _=>rw[hop]at hc;simp[cls]at hc
end
end Go.Vm
namespace Go.Vm
open Go.RowKit
section
variable {P:Program}{H:Type}{O:HI H}{G ro:Nat}{w0:Prot}
theorem G'p: ∀(l:List Value)(bs:List UInt8),B'S l=some bs->∃ns:List Int,l=ns.map (Value.int .u8)∧bs=ns.map λn=>UInt8.ofNat n.toNat:=by
 intro l
 induction l with
 | nil=>intro bs h;simp[B'S]at h;subst h;exact⟨[],rfl,rfl⟩
 | cons x l ih=>
  intro bs h
  cases x with
  | int k n=>
   cases k <;> simp only[B'S]at h <;> first|(simp at h;done)|skip
   cases hb:B'S l with
   | none=>rw[hb]at h;simp at h
   | some r=>
    rw[hb]at h;simp at h;subst h;obtain⟨ns,rfl,rfl⟩:=ih r hb;exact⟨n :: ns,rfl,rfl⟩
  | _=>simp[B'S]at h
theorem M'L {β:List Place}: ∀(ns:List Int)(l':List Value),LR (SR β) (ns.map (Value.int .u8)) l'->l'=ns.map (Value.int .u8):=by
 intro ns
 induction ns with
 | nil=>intro l' h;exact LR.nil_inv h
 | cons n ns ih=>
  intro l' h;obtain⟨y,r,rfl,hy,hr⟩:=LR.cons_inv h
  cases (hy:y = .int .u8 n)
  rw[ih r hr];rfl
theorem H'F (ns:List Int): ∀s:ByteArray,ns.foldl (λr n=>r.push (UInt8.ofNat n.toNat)) s=⟨s.data++(ns.map λn=>UInt8.ofNat n.toNat).toArray⟩:=by
 induction ns with
 | nil=>intro s;simp
 | cons n ns ih=>
  intro s;rw[List.foldl_cons,ih];congr 1;show (s.data.push _)++_ = _;simp
theorem H'G {β:List Place}{h:H}{w:World}(r:Rel O G ro w0 β h w){t:TypeId}{a a' v:Value}{lo hi lo' hi' mx mx':Option Value}(ha:VR β a a')
  (hlo:∀v,lo=some v->∃v',lo'=some v'∧VR β v v')(nlo:lo=none->lo'=none)(hhi:∀v,hi=some v->∃v',hi'=some v'∧VR β v v')(nhi:hi=none->hi'=none)(nmx:mx=none->mx'=none)
  (hv : D'O P O t a lo hi mx h = some v): ∃ v', (Instr.sliceAt t a' lo' hi' mx').run P w = .ok v' w ∧ VR β v v' := by
 by_cases harr:∃n e,P.underlying t=some (.array n e)
 ·obtain⟨n,e,hu⟩:=harr;unfold D'O at hv;rw[hu]at hv;simp only at hv
  cases mx with
  | some m=>simp at hv
  | none=>
   rw[nmx rfl]
   cases a with
   | pointer ad=>
    cases ad with
    | none=>simp at hv
    | some ad=>
     cases hi0:P.info? e with
     | none=>rw[hi0]at hv;simp at hv
     | some i=>
      rw[hi0]at hv;simp only at hv
      cases hh:A'm hi n n with
      | none=>rw[hh]at hv;simp at hv
      | some h1=>
       rw[hh]at hv;simp only at hv
       cases hl:A'm lo 0 h1 with
       | none=>rw[hl]at hv;simp at hv
       | some l1=>
        rw[hl]at hv;simp only at hv;split at hv
        ·rename_i hc
         simp only[l'a]at hv;subst hv;have e1:=B'2 hlo nlo hl;have e2:=B'2 hhi nhi hh;subst e1;subst e2;have hb:=C'6 (P:=P) w false hh hl (l'H _);obtain⟨p,hp,rfl⟩:=VR.ptr ha;obtain⟨cs,el,fz,hw,hsz,_,hcell⟩:=r.cells _ _ hp;obtain⟨u,hu1⟩:=Option.isSome_iff_exists.1 hc.2;obtain⟨u',hu2,_⟩:=hcell _ _ hu1;have hlt:p.off+(ad.off+n*i.size-1)<cs.size:=by
          by_cases hlt:p.off+(ad.off+n*i.size-1)<cs.size
          ·exact hlt
          ·rw[Array.getElem?_eq_none (by omega)]at hu2;simp at hu2
         have hh1:h1<=n:=by
          cases hi' with
          | none=>simp[A'm]at hh;omega
          | some u=>exact C'c hh
         refine⟨.slice (some ⟨p.blk,p.off+ad.off+l1*i.size,none⟩) (h1-l1) (n-l1),?_,?_⟩
         ·have hne:¬(n=l1):=by omega
          simp only[Instr.sliceAt,Instr.sureAddr,Sem.run_bind,run_underlying hu,Result.andThen_ok,Sem.run_pure,hb,sizeOf,typeInfo,run_program,hi0,if_neg hne,B'G]
         ·refine (show SR β (.slice (some ⟨ad.block,ad.off+l1*i.size,some i.size⟩) (h1-l1) 0) _ from ⟨p,n-l1,i.size,hp,rfl,?_,by omega,?_,λh=>absurd rfl h⟩)
          ·rw[Nat.add_assoc]
          ·simp only;have:l1*i.size+(n-l1)*i.size=n*i.size:=by rw[<-Nat.add_mul];congr 1;omega
           omega
        ·simp at hv
   | _=>simp at hv
 ·have hv2:D'4 P t a lo hi mx=some v:=by
   unfold D'O at hv;split at hv
   ·rename_i n e hu;exact absurd ⟨n,e,hu⟩ harr
   ·exact hv
  exact I'v w ha hlo nlo hhi nhi nmx hv2
theorem J'6 {β:List Place}{h:H}{w:World}(r:Rel O G ro w0 β h w){ρ ρ':Operand->Value}{o:Oper}{v:Value}(he:∀x∈A'Y o.op,VR β (ρ x) (ρ' x))
  (hv : C'b P O ρ o.op h = some v): ∃ v', E'T ((execOp ρ' o).run P w) v' w ∧ VR β v v' := by
 cases hop:o.op with
 | load t a=>
  rw[hop]at hv he;simp only[C'b]at hv;obtain⟨ad,v',e,hrun,hc⟩:=G'T r hv (he a (by simp[A'Y,Op.operands]));refine⟨v',?_,hc.toVR⟩;simp only[execOp,hop];refine B'K ?_;simp[Instr.loadAt,Instr.sureAddr,e,hrun]
 | convert s d x=>
  rw[hop]at hv he;simp only[C'b]at hv;have h1:=he x (by simp[A'Y,Op.operands])
  cases hs:P.underlying s with
  | none=>rw[hs]at hv;simp at hv
  | some ds=>
   cases hd:P.underlying d with
   | none=>rw[hs,hd]at hv;cases ds <;> simp at hv
   | some dd=>
    rw[hs,hd]at hv
    cases hx:ρ x with
    | int k n=>
     rw[hx]at hv h1
     cases dd with
     | int kd=>
      have hv':some (Value.int kd (kd.wrap n))=some v:=by cases ds <;> exact hv
      simp only[l'a]at hv';subst hv';refine⟨_,?_,(rfl:_=Value.int kd (kd.wrap n))⟩;simp only[execOp,hop];refine B'K ?_;rw[VR.int h1];simp[convert,run_underlying hs,run_underlying hd,Conv.intToInt]
     | _=>cases ds <;> simp at hv
    | slice a len cap=>
     rw[hx]at hv h1
     cases ds with
     | slice e=>
      cases dd with
      | string=>
       cases a with
       | none=>simp at hv
       | some a=>
        simp only at hv
        cases hue:P.underlying e with
        | none=>rw[hue]at hv;simp at hv
        | some de=>
         rw[hue]at hv
         cases de with
         | int ke=>
          cases ke <;> simp only at hv <;> first|(simp at hv;done)|skip
          obtain⟨p,c,z,hp,hz,e',_⟩:=VR.sl h1
          cases hc:Vm.cellsA O h a.block a.off len with
          | none=>rw[hc]at hv;simp at hv
          | some l=>
           rw[hc]at hv;simp only at hv
           cases hb:B'S l with
           | none=>rw[hb]at hv;simp at hv
           | some bs=>
            rw[hb]at hv;simp only[l'l,l'a]at hv;subst hv;obtain⟨ns,rfl,rfl⟩:=G'p l bs hb;obtain⟨l',hl',hn,hcell⟩:=r.cellsA hp _ _ _ hc;have hl2:=M'L ns l' hl';subst hl2;have hload:=run_loadCells_list (P:=P) w ⟨p.blk,p.off+a.off,none⟩ (ns.map (Value.int .u8)) (λj v hv=>by rw[B'G];exact hcell j v hv);rw[hn]at hload;refine⟨_,?_,(rfl:_=Value.string _)⟩;simp only[execOp,hop];refine B'K ?_;rw[e',run_convert_bytes_string w s d e _ _ _ hs hue hd,run_bytesToString w _ _ _ ns hload,H'F];congr 3;simp
         | _=>simp at hv
      | _=>simp at hv
     | _=>cases dd <;> simp at hv
    | _=>rw[hx]at hv;cases ds <;> cases dd <;> simp at hv
 | slice t x lo hi mx=>
  rw[hop]at hv he;simp only[C'b]at hv;have opt:∀(z:Option Operand),(∀y,z=some y->y∈A'Y (Op.slice t x lo hi mx))->(∀v,z.map ρ=some v->∃v',z.map ρ'=some v'∧VR β v v')∧(z.map ρ=none->z.map ρ'=none):=by
   intro z hz
   cases z with
   | none=>exact⟨λv hv=>by simp at hv,λ_=>rfl⟩
   | some y=>exact⟨λv hv=>by simp at hv;subst hv;exact⟨_,rfl,he y (hz y rfl)⟩,λhn=>by simp at hn⟩
  have o1:=opt lo (λy hy=>by subst hy;simp[A'Y,Op.operands]);have o2:=opt hi (λy hy=>by subst hy;simp[A'Y,Op.operands]);have o3:=opt mx (λy hy=>by subst hy;simp[A'Y,Op.operands]);obtain⟨v',hrun,hv⟩:=H'G r (he x (by simp[A'Y,Op.operands])) o1.1 o1.2 o2.1 o2.2 o3.2 hv;refine⟨v',?_,hv⟩;simp only[execOp,hop];exact B'K hrun
 | _=>rw[hop]at hv;simp[C'b]at hv
theorem F'c (L:O.Law){β:List Place}{h:H}{w:World}(r:Rel O G ro w0 β h w){cs:List Value}{cs':Array Value}(hcs:LR (SR β) cs cs'.toList)(elem:TypeId):
  Rel O G ro w0 (β++[⟨w.heap.size,0,cs'.size⟩]) (O.new h cs) (w.alloc (.cells cs' elem)):=by
 have:=r.alloc L [] hcs elem;simpa using this
theorem C'C {β:List Place}{p:Place}{n:Nat}(h:β.length=n): (β++[p])[n]?=some p:=by
 subst h;simp
theorem F'G {β:List Place}{z:Array Value}(hz:z.toList.all (λv=>B'v 0 (.const v))=true)(h0:z.size≠0)(n:Nat): LR (SR β) (rangeA z n) (rangeA z n):=by
 refine⟨rfl,λi x hx=>⟨x,hx,?_⟩⟩;unfold rangeA at hx;rw[List.getElem?_map]at hx
 cases hr:(List.range n)[i]? with
 | none=>rw[hr]at hx;simp at hx
 | some k=>
  rw[hr]at hx;simp only[l'l,l'a]at hx;have hlt:k%z.size<z.size:=Nat.mod_lt _ (by omega);have:x=z[k%z.size]:=by rw[<-hx];exact getElem!_pos z (k%z.size) hlt
  rw[this];exact SR.refl_zero (l'D.1 hz _ (by simp))
theorem I'y (z:Array Value)(n:Nat): (rangeA z n).toArray=madeCells z n:=by
 apply Array.ext';simp[rangeA,madeCells,Array.toList_range]
theorem H'H (L:O.Law){β:List Place}{h h':H}{w:World}(r:Rel O G ro w0 β h w){tys:Array TypeId}{args args':List Value}{ty:TypeId}{v:Value}(ha:LR (VR β) args args')
  (hv : C'W P O ro tys.toList args h = some (v, h')):
  ∃β' v' w',(Builtin.append_ tys ty args'.toArray).run P w = .ok v' w'∧β <+: β'∧Rel O G ro w0 β' h' w'∧VR β' v v':=by
 unfold C'W at hv;split at hv
 case h_2=>simp at hv
 rename_i _ _ t u base len cap x htys
 split at hv
 ·simp at hv
 rename_i htu
 have htu:t=u:=by simpa using htu
 subst htu;have htys':tys = #[t,t]:=by apply Array.toList_inj.1;simpa using htys
 subst htys';split at hv
 case h_2=>simp at hv
 rename_i e hu
 split at hv
 case h_2=>simp at hv
 rename_i i b' n cx hi
 split at hv
 case isFalse=>simp at hv
 rename_i hzero
 obtain⟨z,hz,hzs⟩:∃z,i.zero=some z∧z.cells.size=i.size:=by
  cases hz:i.zero with
  | none=>rw[hz]at hzero;simp at hzero
  | some z=>rw[hz]at hzero;simp at hzero;exact⟨z,rfl,hzero⟩
 split at hv
 ·simp at hv
 rename_i hbound
 have hb1:(len+n)*i.bytes<=140737488355328:=by omega
 have hb2:len+n<=140737488355328:=by omega
 split at hv
 case h_2=>simp at hv
 rename_i _ new hnew
 obtain⟨s',r1,rfl,hs',hrA⟩:=LR.cons_inv ha;obtain⟨x',r2,rfl,hx',hrB⟩:=LR.cons_inv hrA;have:=LR.nil_inv hrB;subst this;clear hrA hrB ha;have hnews:∃xa xc new',x' = .slice xa n xc∧LR (SR β) new new'∧new.length=n*i.size∧(xa=none->n=0)∧∀a0,xa=some a0->∀(j:Nat) v',new'[j]?=some v'->w.cell? (a0.add j)=some v':=by
  cases b' with
  | none=>
   simp only at hnew;split at hnew
   ·rename_i hn0
    simp at hnew;subst hnew;obtain⟨rfl,rfl,e⟩:=VR.nils hx';exact⟨none,0,[],e,LR.nil _,by simp,λ_=>rfl,λa0 h=>by simp at h⟩
   ·simp at hnew
  | some b'=>
   simp only at hnew;obtain⟨p,c,zz,hp,_,e,_⟩:=VR.sl hx';obtain⟨l',hl',hn,hcell⟩:=r.cellsA hp _ _ _ hnew;exact⟨_,_,l',e,hl',hn,λh=>by simp at h,λa0 ha0 j v' hj=>by simp at ha0;subst ha0;rw[B'G];exact hcell j v' hj⟩
 obtain⟨xa,xc,new',rfl,hnr,hnl,hxn,hncell⟩:=hnews;have hnl':new'.length=n*i.size:=by rw[hnr.1,hnl]
 have hfirst:∀(w1:World),(∀a,w1.cell? a=w.cell? a)->(Builtin.firstCells i.size n (.slice xa n xc)).run P w1 = .ok new'.toArray w1:=by
  intro w1 hw1
  cases xa with
  | none=>
   have hn0:=hxn rfl;subst hn0;have:new'=[]:=by have:=hnl';simpa using this
   subst this;simp[Builtin.firstCells]
  | some a0=>exact run_firstCells_some (P:=P) w1 i.size n a0 n xc new' hnl' (λj v hv=>by rw[hw1];exact hncell a0 rfl j v hv)
 have grown:∀(old old':List Value)(sl:Value) (sLen sCap:Nat)(h1:H),LR (SR β) old old'->Rel O G ro w0 β h1 w ->
   (Builtin.append_ #[t, t] ty #[sl, .slice xa n xc]).run P w = .ok (.slice (some ⟨w.heap.size, 0, none⟩) (sLen + n) (grownCap w (sLen + n) sCap e)) (w.drew.alloc (.cells (old'.toArray ++ new'.toArray ++ Builtin.zeroCells z.cells (grownCap w (sLen + n) sCap e - (sLen + n))) e)) →
   old.length=sLen*i.size ->
   ∃β' v' w',(Builtin.append_ #[t,t] ty #[sl,.slice xa n xc]).run P w = .ok v' w'∧β <+: β'∧Rel O G ro w0 β' (O.new h1 (old++new)) w'∧VR β' (.slice (some ⟨O.next h1,0,some i.size⟩) (sLen+n) 0) v':=by
  intro old old' sl sLen sCap h1 hold hr1 hrun hol;have hge:=grownCap_ge w (sLen+n) sCap e;refine⟨β++[⟨w.heap.size,0,(old'++new'++(Builtin.zeroCells z.cells (grownCap w (sLen+n) sCap e-(sLen+n))).toList).length⟩],_,_,hrun,List.prefix_append _ _,?_,?_⟩
  ·have hd:Rel O G ro w0 β h1 w.drew:=hr1.drew;have:=hd.alloc L (Builtin.zeroCells z.cells (grownCap w (sLen+n) sCap e-(sLen+n))).toList (hold.append hnr) e;have earr:(old'++new'++(Builtin.zeroCells z.cells (grownCap w (sLen+n) sCap e-(sLen+n))).toList).toArray=old'.toArray++new'.toArray++Builtin.zeroCells z.cells (grownCap w (sLen+n) sCap e-(sLen+n)):=by
    apply Array.ext';simp
   rw[earr]at this;exact this
  ·refine (show SR _ (.slice (some ⟨O.next h1,0,some i.size⟩) (sLen+n) 0) _ from ⟨_,_,i.size,C'C hr1.len,rfl,rfl,hge,?_,λh=>absurd rfl h⟩);simp only[l'p,hold.1,hol,hnl',Array.length_toList,size_zeroCells,hzs,l'F];rw[<-Nat.add_mul,<-Nat.add_mul];exact Nat.mul_le_mul_right _ (by omega)
 cases base with
 | none=>
  simp only at hv;split at hv
  case isFalse=>simp at hv
  rename_i hlc
  obtain⟨rfl,rfl⟩:=hlc;obtain⟨_,_,rfl⟩:=VR.nils hs';split at hv
  ·rename_i hn0
   subst hn0;simp only[l'a,l'd]at hv;obtain⟨rfl,rfl⟩:=hv;refine⟨β,.slice none 0 0,w,?_,List.prefix_rfl,r,(⟨rfl,rfl,rfl⟩:SR β (.slice none 0 0) (.slice none 0 0))⟩;have hf:=hfirst w (λ_=>rfl);simp[Builtin.append_,run_underlying hu,sizeOf,typeInfo,hi,Builtin.lenOf,hf]
  ·rename_i hn0
   simp only[l'a,l'd]at hv;obtain⟨rfl,rfl⟩:=hv
   cases xa with
   | none=>exact absurd (hxn rfl) hn0
   | some a0=>
    have hrun:=run_append_nil (P:=P) w t ty e i z hu hi hz a0 n xc new' hnl' (λj v hv=>hncell a0 rfl j v hv) (by omega) (by omega) (by simp only[l'F]at hb1;omega);have:=grown [] [] (.slice none 0 0) 0 0 h (LR.nil _) r (by simpa using hrun) (by simp);simpa using this
 | some a=>
  simp only at hv;split at hv
  ·simp at hv
  rename_i hro
  split at hv
  case isFalse=>simp at hv
  rename_i hsp
  obtain⟨hspot,hal⟩:=hsp;split at hv
  case h_2=>simp at hv
  rename_i _ old hold
  obtain⟨p,c,zz,hp,hz2,rfl,hlc,hfit,hcap⟩:=VR.sl hs';have:zz=i.size:=by rw[hz2]at hspot;simpa using hspot
  subst this;obtain⟨old',hor,hol,hocell⟩:=r.cellsA hp _ _ _ hold;have hol':old'.length=len*i.size:=by rw[hor.1,hol]
  have hro':ro<=a.block:=by omega
  have nogrow:c<len+n->∀(h1:H),Rel O G ro w0 β h1 w->∃β' v' w',(Builtin.append_ #[t,t] ty #[.slice (some ⟨p.blk,p.off+a.off,none⟩) len c,.slice xa n xc]).run P w = .ok v' w'∧β <+: β'∧Rel O G ro w0 β' (O.new h1 (old++new)) w'∧VR β' (.slice (some ⟨O.next h1,0,some i.size⟩) (len+n) 0) v':=by
   intro hlt h1 hr1
   cases xa with
   | none=>have:=hxn rfl;omega
   | some a0=>
    have hrun:=run_append_grow (P:=P) w t ty e i z hu hi hz ⟨p.blk,p.off+a.off,none⟩ len c old' hol' (λj v hv=>by rw[B'G];exact hocell j v hv) a0 n xc new' hnl' (λj v hv=>hncell a0 rfl j v hv) hlt (by omega) (growslice_fits hlt hb1);exact grown old old' _ len c h1 hor hr1 hrun hol
  have room:len+n<=c->∀w1,(storeCells ⟨p.blk,p.off+a.off+len*i.size,none⟩ new').run P w = .ok () w1 ->
    (Builtin.append_ #[t, t] ty #[.slice (some ⟨p.blk, p.off + a.off, none⟩) len c, .slice xa n xc]).run P w = .ok (.slice (some ⟨p.blk, p.off + a.off, none⟩) (len + n) c) w1 := by
   intro hle w1 hst;have hf:=hfirst w (λ_=>rfl);simp[Builtin.append_,run_underlying hu,sizeOf,typeInfo,hi,Builtin.lenOf,hf,hle,B'G,hst]
  by_cases hc0:cap=0
  ·rw[if_pos hc0]at hv;simp only[l'a,l'd]at hv;obtain⟨rfl,rfl⟩:=hv;have hnk:O.next (O.kill h a.block)=O.next h:=L.next_kill _ _
   by_cases hle:len+n<=c
   ·-- in its place: the cells are written into the spare,of which nothing is known
    obtain⟨cc,ee,fz,hh,hcs,hfz,hcc⟩:=r.cells _ p hp;have hfz':=hfz hro';subst hfz';have hst:∀(l:List Value) (k:Nat)(w1:World)(c1:Array Value),(∀u∈l,B'f u=true)->w1.heap[p.blk]?=some (.cells c1 ee (0,0))->c1.size=p.size->p.off+a.off+len*i.size+k+l.length<=p.size ->
      ∃w2 c2,(storeCells ⟨p.blk,p.off+a.off+len*i.size,none⟩ l k).run P w1 = .ok () w2∧w2.heap[p.blk]?=some (.cells c2 ee (0,0))∧c2.size=p.size∧(∀m,m≠p.blk->w2.heap[m]?=w1.heap[m]?)∧w2.os=w1.os∧w2.tape=w1.tape∧w2.output=w1.output∧w2.heap.size=w1.heap.size ∧
       (∀ j, j < p.off + a.off + len * i.size + k → c2[j]? = c1[j]?) ∧ (∀ (j : Nat) u, l[j]? = some u → c2[p.off + a.off + len * i.size + k + j]? = some u) := by
     intro l
     induction l with
     | nil=>intro k w1 c1 _ hh1 hs1 _;exact⟨w1,c1,rfl,hh1,hs1,λ_ _=>rfl,rfl,rfl,rfl,rfl,λ_ _=>rfl,λj u hj=>by simp at hj⟩
     | cons u l ih=>
      intro k w1 c1 hflat hh1 hs1 hsz;simp only[l'n]at hsz;have hlt:p.off+a.off+len*i.size+k<c1.size:=by omega
      have hcell:w1.cell? ⟨p.blk,p.off+a.off+len*i.size+k,none⟩=some c1[p.off+a.off+len*i.size+k]:=by rw[C'q hh1];exact Array.getElem?_eq_getElem hlt
      have hnf:w1.frozen? ⟨p.blk,p.off+a.off+len*i.size+k,none⟩=false:=by simp[World.frozen?,hh1]
      have hset:(w1.setCell ⟨p.blk,p.off+a.off+len*i.size+k,none⟩ u).heap[p.blk]?=some (.cells (c1.setIfInBounds (p.off+a.off+len*i.size+k) u) ee (0,0)):=by
       simp[World.setCell,Array.getElem?_modify,hh1]
      obtain⟨w2,c2,hrun,hh2,hs2,hother,ho,ht,hout,hsize,hlow,hat⟩:=ih (k+1) (w1.setCell ⟨p.blk,p.off+a.off+len*i.size+k,none⟩ u) _ (λy hy=>hflat y (by simp[hy])) hset (by simpa using hs1) (by omega);refine⟨w2,c2,?_,hh2,hs2,?_,ho,ht,hout,?_,?_,?_⟩
      ·rw[storeCells];simp only[Sem.run_bind];rw[B'G,D'h (hflat u (by simp)) hcell hnf,Result.andThen_ok];exact hrun
      ·intro m hm;rw[hother m hm];exact Below.heap_setCell _ _ _ _ hm
      ·rw[hsize];simp[World.setCell]
      ·intro j hj;rw[hlow j (by omega),l'u,if_neg (by omega)]
      ·intro j y hy
       cases j with
       | zero=>
        simp at hy;subst hy;rw[Nat.add_zero,hlow _ (by omega),l'u];simp[hlt]
       | succ j=>
        have:=hat j y (by simpa using hy);rw[show p.off+a.off+len*i.size+k+(j+1)=p.off+a.off+len*i.size+(k+1)+j by omega];exact this
    have hcle:(len+n)*i.size<=c*i.size:=Nat.mul_le_mul_right _ hle;rw[Nat.add_mul]at hcle;obtain⟨w2,c2,hrun2,hh2,hs2,hother,ho,ht,hout,hsize,hlow,hat⟩:=hst new' 0 w cc (λu hu'=>by
     obtain⟨j,hj⟩:=List.getElem?_of_mem hu';have hjl:j<new.length:=by rw[<-hnr.1];exact (l'b.1 hj).1
     obtain⟨y,hy,hs⟩:=hnr.2 j new[j] (l'c hjl);rw[hj]at hy;simp at hy;subst hy;exact hs.flat.2) hh hcs (by rw[hnl'];omega)
    have hr2:Rel O G ro w0 β (O.kill h a.block) w2:=by
     refine⟨by rw[hnk];exact r.len,⟨by rw[ho];exact r.below.os,by rw[ht];exact r.below.tape,by rw[hout];exact r.below.output,by rw[hsize];exact r.below.size,λm hm=>?_⟩,r.glob,r.own,?_,?_,by rw[hnk];exact r.ro_le,?_⟩
     ·rw[hother m (by have:=r.own _ p hp hro';omega)];exact r.below.block m hm
     ·intro b1 p1 hp1;obtain⟨c1,e1,fz1,hh1,hs1,hf1,hc1⟩:=r.cells b1 p1 hp1
      by_cases hb:p1.blk=p.blk
      ·rw[hb,hh]at hh1;simp only[l'a,Obj.cells.injEq]at hh1;obtain⟨rfl,rfl,rfl⟩:=hh1;refine⟨c2,ee,(0,0),by rw[hb];exact hh2,by rw[hs2,<-hs1,hcs],λ_=>rfl,λo' y hy=>?_⟩;rw[L.cell_kill]at hy;split at hy
       ·simp at hy
       ·rename_i hne
        exact absurd (r.inj _ b1 p p1 hp hp1 hal (L.cell_alive _ _ _ _ hy) hro' hb.symm).symm hne
      ·refine⟨c1,e1,fz1,by rw[hother _ hb];exact hh1,hs1,hf1,λo' y hy=>?_⟩;rw[L.cell_kill]at hy;split at hy
       ·simp at hy
       ·exact hc1 o' y hy
     ·intro b1 b2 p1 p2 hp1 hp2 a1 a2 hr1 hb;rw[L.alive_kill]at a1 a2;split at a1
      ·simp at a1
      ·split at a2
       ·simp at a2
       ·exact r.inj b1 b2 p1 p2 hp1 hp2 a1 a2 hr1 hb
     ·intro k q hk;obtain⟨e1,e2⟩:=r.ext k q hk;refine⟨by rw[hother k (λe=>e2 _ p hp hal e.symm)];exact e1,λb1 p1 hp1 a1=>?_⟩;rw[L.alive_kill]at a1;split at a1
      ·simp at a1
      ·exact e2 b1 p1 hp1 a1
    refine⟨β++[⟨p.blk,p.off+a.off,p.size⟩],.slice (some ⟨p.blk,p.off+a.off,none⟩) (len+n) c,w2,room hle w2 hrun2,List.prefix_append _ _,?_,?_⟩
    ·-- the new number
     have hpre:β <+: β++[⟨p.blk,p.off+a.off,p.size⟩]:=List.prefix_append _ _;have hl2:=hr2.len;refine⟨by simp[hl2,L.next_new],hr2.below,?_,?_,?_,?_,by rw[L.next_new];have:=hr2.ro_le;omega,?_⟩
     ·intro g hg;obtain⟨q,hq,C'g⟩:=hr2.glob g hg;exact⟨q,by rw[l'e (l'b.1 hq).1];exact hq,C'g⟩
     ·intro b1 p1 hp1 hro1;rcases B'u hp1 with ⟨hp1,_⟩|⟨_,rfl⟩
      ·exact hr2.own b1 p1 hp1 hro1
      ·exact r.own _ p hp hro'
     ·intro b1 p1 hp1;rcases B'u hp1 with ⟨hp1,hb⟩|⟨hb,rfl⟩
      ·obtain⟨c1,e1,fz1,hh1,hs1,hf1,hc1⟩:=hr2.cells b1 p1 hp1;refine⟨c1,e1,fz1,hh1,hs1,hf1,λo' y hy=>?_⟩;rw[L.cell_new,if_neg (by omega)]at hy;obtain⟨y',g1,g2⟩:=hc1 o' y hy;exact⟨y',g1,g2.mono hpre⟩
      ·refine⟨c2,ee,(0,0),hh2,hs2,λ_=>rfl,λo' y hy=>?_⟩;rw[L.cell_new,if_pos (by omega)]at hy;obtain⟨y',g1,g2⟩:=(hor.append hnr).2 o' y hy;refine⟨y',?_,g2.mono hpre⟩;simp only
       by_cases ho':o'<old'.length
       ·rw[l'e ho']at g1;have:=hocell o' y' g1;rw[C'q hh]at this;rw[hlow _ (by omega)];exact this
       ·rw[l'z (by omega)]at g1;have:=hat _ y' g1;rw[Nat.add_zero,hol']at this;rw[show p.off+a.off+o'=p.off+a.off+len*i.size+(o'-len*i.size) by omega];exact this
     ·intro b1 b2 p1 p2 hp1 hp2 a1 a2 hr1 hb;rw[L.alive_new]at a1 a2;rcases B'u hp1 with ⟨hp1,hb1⟩|⟨hb1,rfl⟩
      ·rw[if_neg (by omega)]at a1;rcases B'u hp2 with ⟨hp2,hb2⟩|⟨hb2,rfl⟩
       ·rw[if_neg (by omega)]at a2;exact hr2.inj b1 b2 p1 p2 hp1 hp2 a1 a2 hr1 hb
       ·rw[L.alive_kill]at a1;split at a1
        ·simp at a1
        ·rename_i hne
         exact absurd (r.inj b1 _ p1 p hp1 hp a1 hal hr1 hb) hne
      ·rcases B'u hp2 with ⟨hp2,hb2⟩|⟨hb2,rfl⟩
       ·rw[if_neg (by omega),L.alive_kill]at a2;split at a2
        ·simp at a2
        ·rename_i hne
         exact absurd (r.inj _ b2 p p2 hp hp2 hal a2 hro' hb).symm hne
       ·omega
     ·intro k q hk;obtain⟨e1,e2⟩:=hr2.ext k q hk;refine⟨e1,λb1 p1 hp1 a1=>?_⟩;rw[L.alive_new]at a1;rcases B'u hp1 with ⟨hp1,hb1⟩|⟨hb1,rfl⟩
      ·rw[if_neg (by omega)]at a1;exact e2 b1 p1 hp1 a1
      ·exact (r.ext k q hk).2 _ p hp hal
    ·refine (show SR _ (.slice (some ⟨O.next h,0,some i.size⟩) (len+n) 0) _ from ⟨⟨p.blk,p.off+a.off,p.size⟩,c,i.size,C'C r.len,rfl,rfl,hle,?_,λh=>absurd rfl h⟩);simp only;omega
   ·have hk:Rel O G ro w0 β (O.kill h a.block) w:=by
     refine⟨by rw[hnk];exact r.len,r.below,r.glob,r.own,?_,?_,by rw[hnk];exact r.ro_le,?_⟩
     ·intro b1 p1 hp1;obtain⟨c1,e1,fz1,hh1,hs1,hf1,hc1⟩:=r.cells b1 p1 hp1;refine⟨c1,e1,fz1,hh1,hs1,hf1,λo' y hy=>?_⟩;rw[L.cell_kill]at hy;split at hy
      ·simp at hy
      ·exact hc1 o' y hy
     ·intro b1 b2 p1 p2 hp1 hp2 a1 a2 hr1 hb;rw[L.alive_kill]at a1 a2;split at a1
      ·simp at a1
      ·split at a2
       ·simp at a2
       ·exact r.inj b1 b2 p1 p2 hp1 hp2 a1 a2 hr1 hb
     ·intro k q hk;obtain⟨e1,e2⟩:=r.ext k q hk;refine⟨e1,λb1 p1 hp1 a1=>?_⟩;rw[L.alive_kill]at a1;split at a1
      ·simp at a1
      ·exact e2 b1 p1 hp1 a1
    have:=nogrow (by omega) (O.kill h a.block) hk;rw[hnk]at this;exact this
  ·rw[if_neg hc0]at hv;have hcc:=hcap hc0;subst hcc;split at hv
   ·rename_i hle
    split at hv
    case h_2=>simp at hv
    rename_i _ h1 hput
    simp only[l'a,l'd]at hv;obtain⟨rfl,rfl⟩:=hv;obtain⟨w1,hrun1,hr1⟩:=F'a (P:=P) L hp hro' new new' h h1 w (a.off+len*i.size) 0 hnr r (by simpa using hput);refine⟨β,.slice (some ⟨p.blk,p.off+a.off,none⟩) (len+n) c,w1,room (by omega) w1 (by rw[Nat.add_assoc];exact hrun1),List.prefix_rfl,hr1,?_⟩;exact (show SR β (.slice (some a) (len+n) (c+1)) _ from ⟨p,c,i.size,hp,hz2,rfl,by omega,hfit,λ_=>rfl⟩)
   ·rename_i hle
    simp only[l'a,l'd]at hv;obtain⟨rfl,rfl⟩:=hv;exact nogrow (by omega) h r
end
end Go.Vm
namespace Go.Vm
open Go.RowKit
section
variable {P:Program}{H:Type}{O:HI H}{G ro:Nat}{w0:Prot}
theorem J'7 (L:O.Law){β:List Place}{h h':H}{w:World}(r:Rel O G ro w0 β h w){tys:Array TypeId}{args args':List Value}{ty:TypeId}{v:Value}(ha:LR (VR β) args args')
  (hv : M'x P O ro tys.toList args h = some (v, h')):
  ∃v' w',(Builtin.copy_ tys ty args'.toArray).run P w = .ok v' w'∧Rel O G ro w0 β h' w'∧VR β v v':=by
 unfold M'x at hv;split at hv
 case h_2=>simp at hv
 rename_i _ _ t rt a dLen dc b sLen sc htys
 have ht0:tys[0]?=some t:=by rw[<-Array.getElem?_toList,htys];rfl
 split at hv
 case h_2=>simp at hv
 rename_i e hu
 split at hv
 case h_2=>simp at hv
 rename_i i hi
 split at hv
 ·simp at hv
 rename_i hro
 split at hv
 case h_2=>simp at hv
 rename_i _ new hnew
 split at hv
 case h_2=>simp at hv
 rename_i _ h1 hput
 simp only[l'a,l'd]at hv;obtain⟨rfl,rfl⟩:=hv;obtain⟨d',r1,rfl,hd',hrA⟩:=LR.cons_inv ha;obtain⟨s',r2,rfl,hs',hrB⟩:=LR.cons_inv hrA;have:=LR.nil_inv hrB;subst this;obtain⟨p,c,z,hp,hz,rfl,_⟩:=VR.sl hd';obtain⟨p2,c2,z2,hp2,hz2,rfl,_⟩:=VR.sl hs';obtain⟨new',hnr,hnl,hncell⟩:=r.cellsA hp2 _ _ _ hnew;have hnl':new'.length=Nat.min sLen dLen*i.size:=by rw[hnr.1,hnl]
 have hf:=run_firstCells_some (P:=P) w i.size (Nat.min sLen dLen) ⟨p2.blk,p2.off+b.off,none⟩ sLen c2 new' hnl' (λj v hv=>by rw[B'G];exact hncell j v hv);obtain⟨w1,hrun,hr1⟩:=F'a (P:=P) L hp (by omega) new new' h h1 w a.off 0 hnr r (by simpa using hput);refine⟨.int .i64 (Nat.min sLen dLen),w1,?_,hr1,rfl⟩;simp[Builtin.copy_,ht0,run_underlying hu,Builtin.lenOf,sizeOf,typeInfo,hi,hf,hrun,goInt]
theorem M'M (L:O.Law){call:FuncId->List Value->H->Option (Value×H)}{β:List Place}{h h':H}{w:World}(r:Rel O G ro w0 β h w){ρ ρ':Operand->Value}{o:Oper}{v:Value}(he:∀x∈A'Y o.op,VR β (ρ x) (ρ' x))
  (hnc:∀f args tys,o.op≠.call { callee:=.value (.func f),args:=args,argTypes:=tys })
  (hv : D'c P O ro call ρ o.op h = some (v, h')): ∃ β' v' w', E'T ((execOp ρ' o).run P w) v' w' ∧ β <+: β' ∧ Rel O G ro w0 β' h' w' ∧ VR β' v v' := by
 have ptr:∀(n m:Nat),VR (β++[⟨w.heap.size,0,m⟩]) (.pointer (some ⟨O.next h,0,none⟩)) (.pointer (some ⟨w.heap.size,0,none⟩)):=λn m=>
  (show SR _ (.pointer (some ⟨O.next h,0,none⟩)) _ from ⟨⟨w.heap.size,0,m⟩,C'C r.len,rfl⟩)
 cases hop:o.op with
 | alloc e=>
  rw[hop]at hv he;simp only[D'c]at hv;split at hv
  case h_2=>simp at hv
  rename_i i hi
  split at hv
  case h_2=>simp at hv
  rename_i z hz
  split at hv
  case isFalse=>simp at hv
  rename_i hzo
  simp only[l'a,l'd]at hv;obtain⟨rfl,rfl⟩:=hv;refine⟨_,.pointer (some ⟨w.heap.size,0,none⟩),_,?_,List.prefix_append _ _,F'c L r (G'X (β:=β) _ hzo) e,ptr 0 _⟩;simp only[execOp,hop];refine B'K ?_;simp[Instr.alloc,zeroValue,typeInfo,hi,hz,newVar,newRow]
 | box e x=>
  rw[hop]at hv he;simp only[D'c]at hv;split at hv
  ·simp at hv
  rename_i ht
  simp only[l'a,l'd]at hv;obtain⟨rfl,rfl⟩:=hv;have hx:=(he x (by simp[A'Y,Op.operands])).toCR (by simpa using ht);refine⟨_,.pointer (some ⟨w.heap.size,0,none⟩),_,?_,List.prefix_append _ _,F'c L r hx.cells e,ptr 0 _⟩;simp only[execOp,hop];refine B'K ?_;simp[Instr.box,newVar,newRow]
 | buildSlice t len parts=>
  rw[hop]at hv he;simp only[D'c]at hv;split at hv
  case h_2=>simp at hv
  rename_i e hu
  split at hv
  case h_2=>simp at hv
  rename_i i hi
  split at hv
  case h_2=>simp at hv
  rename_i z hz
  split at hv
  ·simp at hv
  rename_i hcond
  simp only[not_or,Bool.not_eq_false]at hcond;obtain⟨hbig,hzo,hz0,hall⟩:=hcond;split at hv
  case h_2=>simp at hv
  rename_i _ cells hfill
  simp only[l'a,l'd]at hv;obtain⟨rfl,rfl⟩:=hv;have hpr:PR β (parts.map λ(i,x)=>(i,ρ x)).toList (parts.map λ(i,x)=>(i,ρ' x)).toList:=
   PR.map parts λp hp=>(he p.2 (by simp[A'Y,Op.operands];exact⟨p.1,by simpa using hp⟩)).toCR (by simpa using l'D.1 hall p hp)
  obtain⟨cells',hf',hcr⟩:=G'W (β:=β) _ _ _ _ (rangeA z.cells (len*i.size)).toArray _ hpr (by simpa using F'G (β:=β) hzo hz0 (len*i.size)) hfill;have hsz:∀(ps:List (Nat×Value))(cs out:Array Value),Instr.fill (λj=>some (j*i.size,i.size)) cs ps=some out->out.size=cs.size:=by
   intro ps
   induction ps with
   | nil=>intro cs out h;simp[Instr.fill]at h;rw[h]
   | cons q ps ih=>
    intro cs out h;obtain⟨j,u⟩:=q;simp only[Instr.fill]at h;split at h
    ·simp at h
    ·rw[ih _ _ h];have:∀(l:List (Value×Nat))(c:Array Value),(l.foldl (λcs (c,k)=>cs.setIfInBounds (j*i.size+k) c) c).size=c.size:=by
      intro l
      induction l with
      | nil=>intro c;rfl
      | cons y l ih2=>intro c;rw[List.foldl_cons,ih2];simp
     rw[<-Array.foldl_toList];exact this _ _
  have hcs:cells'.size=len*i.size:=by rw[hsz _ _ _ hf'];simp[rangeA]
  refine⟨_,.slice (some ⟨w.heap.size,0,none⟩) len len,_,?_,List.prefix_append _ _,F'c L r hcr e,?_⟩
  ·simp only[execOp,hop];refine B'K ?_;have hf2:Instr.fill (λj=>some (j*i.size,i.size)) (rangeA z.cells (len*i.size)).toArray (parts.map λx=>(x.1,ρ' x.2)).toList=some cells':=hf'
   by_cases h0:len*i.size=0
   ·have hrange:(Array.range (len*i.size)).map (λx=>(#[]:Array Value)[x%(#[]:Array Value).size]!)=(rangeA z.cells (len*i.size)).toArray:=by simp[h0,rangeA]
    simp only[Instr.buildSlice,Sem.run_bind,run_underlying hu,Result.andThen_ok,sizeOf,typeInfo,run_program,hi,Sem.run_pure,Sem.run_ite,if_neg hbig,if_pos h0];rw[hrange,hf2];simp[newRow]
   ·have hrange:(Array.range (len*i.size)).map (λx=>z.cells[x%z.cells.size]!)=(rangeA z.cells (len*i.size)).toArray:=by
     apply Array.ext';simp[rangeA,Array.toList_range]
    have hzv:(zeroValue e).run P w = .ok z w:=by simp[zeroValue,typeInfo,hi,hz]
    simp only[Instr.buildSlice,Sem.run_bind,run_underlying hu,Result.andThen_ok,sizeOf,typeInfo,run_program,hi,Sem.run_pure,Sem.run_ite,if_neg hbig,if_neg h0,hzv];rw[hrange,hf2];simp[newRow]
  ·refine (show SR _ (.slice (some ⟨O.next h,0,some i.size⟩) len (len+1)) _ from ⟨⟨w.heap.size,0,cells'.size⟩,len,i.size,C'C r.len,rfl,rfl,l'H _,?_,λ_=>rfl⟩);simp only[hcs];omega
 | store t a x=>
  rw[hop]at hv he;simp only[D'c]at hv;have h1:=he a (by simp[A'Y,Op.operands]);have h2:=he x (by simp[A'Y,Op.operands]);split at hv
  case h_2=>simp at hv
  rename_i p i hpa hi
  rw[hpa]at h1;obtain⟨pl,hpl,e1⟩:=VR.ptr h1;split at hv
  ·simp at hv
  rename_i hro
  split at hv
  case isFalse=>simp at hv
  rename_i hcond
  obtain⟨hsize,hflat⟩:=hcond;split at hv
  case h_2=>simp at hv
  rename_i _ h1' hput
  simp only[l'a,l'd]at hv;obtain⟨rfl,rfl⟩:=hv;have htup:B'j (ρ x)=false:=by
   cases hx:ρ x with
   | tuple vs=>rw[hx]at hflat;simp[Value.cells,B'f]at hflat
   | _=>rfl
  have hcells:=(h2.toCR htup).cells;obtain⟨w1,hrun,hr1⟩:=F'a (P:=P) L hpl (by omega) _ _ h h1' w p.off 0 hcells r (by simpa using hput);refine⟨β,undef,w1,.inr ⟨?_,rfl⟩,List.prefix_rfl,hr1,VR.undef β⟩;have hsz:(ρ' x).cells.size=i.size:=by rw[<-hsize];simpa using hcells.1
  simp only[execOp,hop,Instr.storeAt,e1,Instr.sureAddr,storeVar,sizeOf,typeInfo,Sem.run_bind,run_program,Result.andThen_ok,Sem.run_pure,hi,Sem.run_ite,hsz,ne_eq,not_true,if_false,hrun]
 | makeSlice t l c=>
  rw[hop]at hv he;simp only[D'c]at hv;have h1:=he l (by simp[A'Y,Op.operands]);have h2:=he c (by simp[A'Y,Op.operands]);split at hv
  case h_2=>simp at hv
  rename_i e kl l' kc c' hu hl hc
  rw[hl]at h1;rw[hc]at h2;split at hv
  case h_2=>simp at hv
  rename_i i hi
  split at hv
  case h_2=>simp at hv
  rename_i z hz
  split at hv
  case isFalse=>simp at hv
  rename_i hcond
  obtain⟨h0,hlc,hby,hcl,hzo,hz0⟩:=hcond;simp only[l'a,l'd]at hv;obtain⟨rfl,rfl⟩:=hv;have hrun:=run_make (P:=P) w t e i z hu hi hz kl kc l' c' h0 hlc (by rw[Int.mul_comm];omega) (by omega);have hcr:LR (SR β) (rangeA z.cells (c'.toNat*i.size)) (madeCells z.cells (c'.toNat*i.size)).toList:=by
   rw[<-I'y];simpa using F'G (β:=β) hzo hz0 _
  refine⟨_,.slice (some ⟨w.heap.size,0,none⟩) l'.toNat c'.toNat,_,?_,List.prefix_append _ _,F'c L r hcr e,?_⟩
  ·simp only[execOp,hop];refine B'K ?_;rw[VR.int h1,VR.int h2];exact hrun
  ·refine (show SR _ (.slice (some ⟨O.next h,0,some i.size⟩) l'.toNat (c'.toNat+1)) _ from ⟨⟨w.heap.size,0,(madeCells z.cells (c'.toNat*i.size)).size⟩,c'.toNat,i.size,C'C r.len,rfl,rfl,by omega,?_,λ_=>rfl⟩);simp only[size_madeCells];omega
 | call c=>
  obtain⟨cal,args,tys⟩:=c;rw[hop]at hv he
  cases cal with
  | value f=>
   cases f with
   | func f=>exact absurd hop (hnc f args tys)
   | _=>simp[D'c]at hv
  | invoke q m=>simp[D'c]at hv
  | builtin b=>
   have hargs:LR (VR β) (args.toList.map ρ) (args.toList.map ρ'):=LR.map _ λx hx=>he x (by simpa [A'Y]using hx);have earr:(args.toList.map ρ').toArray=args.map ρ':=by apply Array.ext';simp
   cases b with
   | append=>
    simp only[D'c]at hv;obtain⟨β',v',w',hrun,hp,hr',hvr⟩:=H'H (ty:=o.type) L r hargs hv;rw[earr]at hrun;exact⟨β',v',w',.inl (by simp[execOp,hop,resolve,invoke,builtin,hrun]),hp,hr',hvr⟩
   | copy=>
    simp only[D'c]at hv;obtain⟨v',w',hrun,hr',hvr⟩:=J'7 (ty:=o.type) L r hargs hv;rw[earr]at hrun;exact⟨β,v',w',.inl (by simp[execOp,hop,resolve,invoke,builtin,hrun]),List.prefix_rfl,hr',hvr⟩
   | _=>simp[D'c]at hv
 | _=>rw[hop]at hv;simp[D'c]at hv
theorem F'H (L:O.Law)(call:FuncId->List Value->H->Option (Value×H))(hcall:E'9 P O G ro w0 call): D'k P O G ro w0 call:=by
 intro o t a h h' w β v hok hr he hv K Q hK;have fin:∀β' v' w',E'T ((execOp a.eval o).run P w) v' w'->β <+: β'->Rel O G ro w0 β' h' w'->VR β' v v'->o.wp P a w K Q:=by
  intro β' v' w' hc hp hr' hvr;have hk:=hK β' v' w' hp hr' hvr;unfold Oper.wp;rcases hc with hc|⟨hc,rfl⟩ <;> rw[hc] <;> exact hk
 by_cases hfc:∃f args tys,o.op = .call { callee:=.value (.func f),args:=args,argTypes:=tys }
 ·obtain⟨f,args,tys,hop⟩:=hfc;have hv':call f (args.toList.map (A'9 t)) h=some (v,h'):=by
   rw[hop]at hv;exact hv
  have hargs:LR (VR β) (args.toList.map (A'9 t)) (args.toList.map a.eval):=LR.map _ λx hx=>he x (by rw[hop];simpa [A'Y]using hx);obtain⟨⟨fn,c,hf,hb,hname⟩,hcalls⟩:=hcall f _ _ h h' w β v hr hargs hv';have earr:(args.toList.map a.eval).toArray=args.map a.eval:=by apply Array.ext';simp
  rw[earr]at hcalls;have hrun:(execOp a.eval o).run P w = .ok (.enter f (args.map a.eval)) w:=by
   have hname' : ¬ (fn.name = "runtime.NumGoroutine") := by simpa using hname
   simp[execOp,hop,resolve,Act.eval,Deferred.ofValue,invoke,callFunc,hf,hb,hname']
  unfold Oper.wp;rw[hrun];refine Calls.mono hcalls λe w' hq=>?_;obtain⟨v',β',rfl,hp,hr',hvr⟩:=hq;exact hK β' v' w' hp hr' hvr
 ·unfold opA at hv;split at hv
  ·rename_i hc
   cases hp:B'H P (A'9 t) o.op with
   | none=>rw[hp]at hv;simp at hv
   | some u=>
    rw[hp]at hv;simp only[l'l,l'a,l'd]at hv;obtain⟨rfl,rfl⟩:=hv;obtain⟨v',hcm,hvr⟩:=J'5 (P:=P) w he hc hp;exact fin β v' w hcm List.prefix_rfl hr hvr
  ·rename_i hc
   cases hp:C'b P O (A'9 t) o.op h with
   | none=>rw[hp]at hv;simp at hv
   | some u=>
    rw[hp]at hv;simp only[l'l,l'a,l'd]at hv;obtain⟨rfl,rfl⟩:=hv;obtain⟨v',hcm,hvr⟩:=J'6 hr he hp;exact fin β v' w hcm List.prefix_rfl hr hvr
  ·obtain⟨β',v',w',hcm,hp,hr',hvr⟩:=M'M L hr he (λf args tys e=>hfc ⟨f,args,tys,e⟩) hv;exact fin β' v' w' hcm hp hr' hvr
theorem I'z (L:O.Law){ok qs:FuncId->Bool}(hmix:P.follows .mixedOrders=true)(hqs:∀f,qs f=true->M'I P qs f)(hfun:∀f,ok f=true->G'n P G qs f)(n:Nat): E'9 P O G ro w0 (C's P O ro ok n):=
 G'U hfun (J'1 L hmix hqs hfun (λ_ call hc=>F'H L call hc) n w0)
end
end Go.Vm
namespace Go.Vm
section
variable {P:Program}{H:Type}{O:HI H}{ro:Nat}{ok:FuncId->Bool}
def Ev (P:Program)(O:HI H)(ro:Nat)(ok:FuncId->Bool)(c:Code)(s:Array Value×H)(e:Exit)(s':Array Value×H): Prop:=
 ∃n,∀m,n<=m->B'q P O ro ok m c s=some (e,s')
def EvF (P:Program)(O:HI H)(ro:Nat)(ok:FuncId->Bool)(f:FuncId)(args:List Value)(h:H)(v:Value)(h':H): Prop:=
 ∃n,∀m,n<=m->C's P O ro ok m f args h=some (v,h')
theorem Ev.of_succ {c:Code}{s s':Array Value×H}{e:Exit}(n:Nat)(h:∀m,n<=m->B'q P O ro ok (m+1) c s=some (e,s')): Ev P O ro ok c s e s':=
 ⟨n+1,λm hm=>by
  obtain⟨k,rfl⟩:∃k,m=k+1:=⟨m-1,by omega⟩;exact h k (by omega)⟩
theorem Ev.skip (s:Array Value×H): Ev P O ro ok .skip s .normal s:=Ev.of_succ 0 λ_ _=>rfl
theorem Ev.ret (s:Array Value×H): Ev P O ro ok .ret s .ret s:=Ev.of_succ 0 λ_ _=>rfl
theorem Ev.exit (id:Nat)(s:Array Value×H): Ev P O ro ok (.exit id) s (.exit id) s:=Ev.of_succ 0 λ_ _=>rfl
theorem Ev.seq {x y:Code}{s s1 s2:Array Value×H}{e:Exit}(h1:Ev P O ro ok x s .normal s1)(h2:Ev P O ro ok y s1 e s2): Ev P O ro ok (.seq x y) s e s2:=by
 obtain⟨n1,h1⟩:=h1;obtain⟨n2,h2⟩:=h2;refine Ev.of_succ (max n1 n2) λm hm=>?_;simp only[B'q,h1 m (by omega),h2 m (by omega)]
theorem Ev.seq_out {x y:Code}{s s1:Array Value×H}{e:Exit}(h1:Ev P O ro ok x s e s1)(he:e≠.normal): Ev P O ro ok (.seq x y) s e s1:=by
 obtain⟨n1,h1⟩:=h1;refine Ev.of_succ n1 λm hm=>?_;simp only[B'q,h1 m hm]
 cases e <;> first|(exact absurd rfl he)|rfl
theorem Ev.cond {c:Operand}{x y:Code}{s s1:Array Value×H}{e:Exit}{b:Bool}(hc:A'9 s.1 c = .bool b)(h1:Ev P O ro ok (if b then x else y) s e s1): Ev P O ro ok (.cond c x y) s e s1:=by
 obtain⟨n1,h1⟩:=h1;refine Ev.of_succ n1 λm hm=>?_;simp only[B'q,hc]
 cases b
 ·exact h1 m hm
 ·exact h1 m hm
def A's (id:Nat): Exit->Exit
 | .exit id'=>if id'=id then .normal else .exit id'
 | e=>e
theorem Ev.block {id:Nat}{x:Code}{s s1:Array Value×H}{e:Exit}(h1:Ev P O ro ok x s e s1): Ev P O ro ok (.block id x) s (A's id e) s1:=by
 obtain⟨n1,h1⟩:=h1;refine Ev.of_succ n1 λm hm=>?_;simp only[B'q,h1 m hm]
 cases e with
 | exit id'=>
  by_cases hid:id'=id
  ·subst hid;simp[A's]
  ·simp[hid,A's]
 | _=>simp[A's]
theorem Ev.loop_next {x:Code}{s s1 s2:Array Value×H}{e:Exit}(h1:Ev P O ro ok x s .normal s1)(h2:Ev P O ro ok (.loop x) s1 e s2): Ev P O ro ok (.loop x) s e s2:=by
 obtain⟨n1,h1⟩:=h1;obtain⟨n2,h2⟩:=h2;refine Ev.of_succ (max n1 n2) λm hm=>?_;simp only[B'q,h1 m (by omega),h2 m (by omega)]
theorem Ev.loop_out {x:Code}{s s1:Array Value×H}{e:Exit}(h1:Ev P O ro ok x s e s1)(he:e≠.normal): Ev P O ro ok (.loop x) s e s1:=by
 obtain⟨n1,h1⟩:=h1;refine Ev.of_succ n1 λm hm=>?_;simp only[B'q,h1 m hm]
 cases e <;> first|(exact absurd rfl he)|rfl
theorem Ev.region {id:Nat}{ops:Array Oper}{draw:Bool}{s s1:Array Value×H}(h:∃n,∀m,n<=m->C'X P O ro (C's P O ro ok m) ops (List.range ops.size) s=some s1)(hf:D'E ops draw s1.1=true): Ev P O ro ok (.region id ops draw) s .normal s1:=by
 obtain⟨n,h⟩:=h;refine Ev.of_succ n λm hm=>?_;have:B'q P O ro ok (m+1) (.region id ops draw) s=(C'X P O ro (C's P O ro ok m) ops (List.range ops.size) s).bind λs'=>if D'E ops draw s'.1 then some (Exit.normal,s') else none:=rfl
 rw[this,h m hm,l't,if_pos hf]
theorem EvF.of_body {f:FuncId}{fn:Func}{c:Code}{args:List Value}{h h':H}{t:Array Value}{v:Value}{e:Exit}(hok:ok f=true)(hf:P.funcs[f]?=some fn)(hb:fn.body=some c)
  (he : Ev P O ro ok c (args.toArray ++ Array.replicate (fn.ntmps - args.length) undef, h) e (t, h'))(hex : e = .ret ∨ e = .normal)(hr : I'b P O fn t h' = some v): EvF P O ro ok f args h v h' := by
 obtain⟨n,he⟩:=he;refine⟨n,λm hm=>?_⟩;unfold C's;rw[if_pos hok];simp only[hf,hb,he m hm];rcases hex with rfl|rfl <;> simp[hr]
theorem EvF.calls {G:Nat}{w0:Prot}{w:World}(L:O.Law){qs:FuncId->Bool}(hmix:P.follows .mixedOrders=true)(hqs:∀f,qs f=true->M'I P qs f)(hfun:∀f,ok f=true->G'n P G qs f){f:FuncId}{args args':List Value}{h h':H}{β:List Place}{v:Value}
  (hr : Rel O G ro w0 β h w)(ha : LR (VR β) args args')(he : EvF P O ro ok f args h v h'):
  Calls P f args'.toArray w λe w'=>∃v' β',e = .returned v'∧β <+: β'∧Rel O G ro w0 β' h' w'∧VR β' v v':=by
 obtain⟨n,he⟩:=he;exact (I'z L hmix hqs hfun n f args args' h h' w β v hr ha (he n (l'H n))).2
end
end Go.Vm
