import Derived.Test.YtimdkminagnhgabGreatDoorQ08
import Derived.Test.YtimdkminagnhgabGreatDoorRows
import Derived.WalkKit
import Derived.ProofKit
import Derived.OpenShut
import Derived.Lib.LaidTab
import Derived.Carry
import Derived.Deep.DeepHandedRow
set_option linter.all false
namespace Go.Proofs.YtimdkminagnhgabGreatDoor
open Go.Vm Go.Proofs Go.RowKit Go.ChangeShapes Go.WideShapes Go.ChangeAt
set_option maxRecDepth 100000
structure Hp where
 n:Nat
 al:Nat->Bool
 c:Nat->Nat->Option Value
def hpO: HI Hp where
 next h:=h.n
 cell h b o:=if b<h.n∧h.al b=true then h.c b o else none
 alive h b:=decide (b<h.n)&&h.al b
 put h b o v:={ h with c:=λb' o'=>if b'=b∧o'=o then some v else h.c b' o' }
 new h cs:={ n:=h.n+1,al:=λb=>if b=h.n then true else h.al b,c:=λb o=>if b=h.n then cs[o]? else h.c b o }
 kill h b:={ h with al:=λb'=>if b'=b then false else h.al b' }
theorem hpL: hpO.Law where
 next_put _ _ _ _:=rfl
 next_new _ _:=rfl
 next_kill _ _:=rfl
 cell_put h b o v x hx b' o':=by
  simp only[hpO]at hx ⊢
  by_cases hb:b<h.n∧h.al b=true
  ·by_cases e:b'=b∧o'=o
   ·obtain⟨rfl,rfl⟩:=e;simp[hb]
   ·simp[e]
  ·rw[if_neg hb]at hx;simp at hx
 cell_new h cs b o:=by
  simp only[hpO]
  by_cases e:b=h.n
  ·subst e;simp
  ·have:b<h.n+1↔b<h.n:=by omega
   simp[e,this]
 cell_kill h b b' o:=by
  simp only[hpO]
  by_cases e:b'=b <;> simp[e]
 cell_alive h b o v hv:=by
  simp only[hpO]at hv ⊢
  by_cases hb:b<h.n∧h.al b=true
  ·simp[hb]
  ·rw[if_neg hb]at hv;simp at hv
 alive_lt h b hb:=by
  simp only[hpO,l'k,l'M]at hb ⊢;exact hb.1
 alive_put _ _ _ _ _:=rfl
 alive_new h cs b:=by
  simp only[hpO]
  by_cases e:b=h.n
  ·subst e;simp
  ·have:b<h.n+1↔b<h.n:=by omega
   simp[e,this]
 alive_kill h b b':=by
  simp only[hpO]
  by_cases e:b'=b <;> simp[e]
def M'W: List Value:=(List.range 20).map λi=>.int .u64 ((10^i:Nat):Int)
def hp0: Hp:=⟨3,λ_=>true,λb o=>if b=0 then M'W[o]? else none⟩
theorem R'b {W:World}{t0 t1 t2:Array Value}{e0 e1 e2:TypeId}{z0 z1 z2:Nat×Nat}
  (h0:W.heap[0]?=some (.cells t0 e0 z0))(h1:W.heap[1]?=some (.cells t1 e1 z1))(h2:W.heap[2]?=some (.cells t2 e2 z2))
  (ht : ∀ i, i < 20 → t0[i]? = some (.int .u64 ((10 ^ i : Nat) : Int))):
  Rel hpO 3 3 ⟨W,λ_=>none⟩ [⟨0,0,t0.size⟩,⟨1,0,t1.size⟩,⟨2,0,t2.size⟩] hp0 W where
 len:=rfl
 below:=Below.refl _ _
 glob g hg:=by
  match g,hg with
  | 0,_=>exact⟨_,rfl,rfl,rfl⟩
  | 1,_=>exact⟨_,rfl,rfl,rfl⟩
  | 2,_=>exact⟨_,rfl,rfl,rfl⟩
 own b p hb hr:=by
  have:=(l'b.1 hb).1;simp at this;omega
 cells b p hb:=by
  match b,hb with
  | 0,hb=>
   simp at hb;subst hb;refine⟨t0,e0,z0,h0,rfl,λh=>by omega,λo v hv=>?_⟩;have hv:M'W[o]?=some v:=by simpa [hpO,hp0]using hv
   by_cases ho:o<20
   ·have:M'W[o]?=some (.int .u64 ((10^o:Nat):Int)):=by simp[M'W,ho]
    rw[this]at hv;simp only[l'a]at hv;subst hv;exact⟨_,by simpa using ht o ho,by simp[SR]⟩
   ·have:M'W[o]?=none:=by simp[M'W];omega
    rw[this]at hv;simp at hv
  | 1,hb=>
   simp at hb;subst hb;refine⟨t1,e1,z1,h1,rfl,λh=>by omega,λo v hv=>?_⟩;simp[hpO,hp0]at hv
  | 2,hb=>
   simp at hb;subst hb;refine⟨t2,e2,z2,h2,rfl,λh=>by omega,λo v hv=>?_⟩;simp[hpO,hp0]at hv
  | b+3,hb=>simp at hb
 inj b b' p p' hb _ _ _ hr _:=by
  have:=(l'b.1 hb).1;simp at this;omega
 ro_le:=l'H 3
 ext k o h:=by simp at h
theorem R'c: Tryz.prog.follows .mixedOrders=true:=by kernel_rfl
theorem M'X {W:World}{t0 t1 t2:Array Value}{e0 e1 e2:TypeId}{z0 z1 z2:Nat×Nat}
  (h0:W.heap[0]?=some (.cells t0 e0 z0))(h1:W.heap[1]?=some (.cells t1 e1 z1))(h2:W.heap[2]?=some (.cells t2 e2 z2))
  (ht : ∀ i, i < 20 → t0[i]? = some (.int .u64 ((10 ^ i : Nat) : Int))){f : FuncId}{ns : List Int}{b : Bool}
  (hl : ∀ (c : A'X Hp), Lim Tryz.prog hpO 3 okS c → ∃ h', c f (ns.map fun n => .int .i64 n) hp0 = some (.bool b, h')):
  Calls Tryz.prog f (ns.map λn=>Value.int .i64 n).toArray W λe w'=>e = .returned (.bool b)∧Below W.heap.size W w':=by
 obtain⟨c,C⟩:=H'L Tryz.prog hpO 3 okS;obtain⟨h',e⟩:=hl c C;have hev:=C.sound _ _ _ _ _ e;have hr:=R'b h0 h1 h2 ht;have ha:∀(l:List Int),LR (VR [⟨0,0,t0.size⟩,⟨1,0,t1.size⟩,⟨2,0,t2.size⟩]) (l.map λn=>Value.int .i64 n) (l.map λn=>Value.int .i64 n):=by
  intro l
  induction l with
  | nil=>exact LR.nil _
  | cons n l ih=>exact LR.cons (show VR _ (Value.int .i64 n) (Value.int .i64 n) from rfl) ih
 refine (EvF.calls hpL R'c R'a P'd hr (ha ns) hev).mono λe w' ⟨v',β',he,_,hr',hv'⟩=>?_;subst he;have hv'':v' = .bool b:=hv';subst hv'';exact⟨rfl,hr'.below⟩
def I64 (n:Int): Prop:=-9223372036854775808<=n∧n<=9223372036854775807
def R'K (f:FuncId): Prop:=∀(a b d:Int),I64 a->I64 b->I64 d->∀(c:A'X Hp),Lim Tryz.prog hpO 3 okS c->∃h',c f [.int .i64 a,.int .i64 b,.int .i64 d] hp0=some (.bool true,h')
theorem K'r: ownKnob Tryz.prog.godebug=none:=by kernel_rfl
theorem gPowT: (Tryz.prog.globals[0]?).map (·.type)=some 217:=by kernel_rfl
theorem K's: Tryz.prog.cellsOf 217=20:=by kernel_rfl
theorem K't: Tryz.prog.cellsOf 191=1:=by kernel_rfl
theorem F'e {W:World}{name:String}{g:Nat}{cs:Array Value}(hg:Tryz.prog.globalNamed name=some g)(h:W.var? Tryz.prog name=some cs): ∃e z,W.heap[g]?=some (.cells cs e z):=by
 unfold World.var? at h;rw[hg]at h;simp only[l't]at h;split at h
 ·rename_i c e z hh
  simp only[l'a]at h;subst h;exact⟨e,z,hh⟩
 ·simp at h
def R'L (W:World): Prop:=∃t0 e0 z0 t1 e1 z1 t2 e2 z2,W.heap[0]?=some (.cells t0 e0 z0)∧W.heap[1]?=some (.cells t1 e1 z1)∧W.heap[2]?=some (.cells t2 e2 z2)∧∀i,i<20->t0[i]?=some (.int .u64 ((10^i:Nat):Int))
theorem M'Y {W:World}(h:laidMetH Tryz.prog Rows.alwaysRow.laid W): R'L W:=by
 have h':laidMet Tryz.prog Rows.alwaysRow.laid W:=h;obtain⟨ps,⟨g1,t1,cs1,f1,p1,q1,hg1,ht1,hv1,hd1,⟨g2,t2,cs2,f2,p2,q2,hg2,ht2,hv2,hd2,⟨g0,t0,cs0,f0,p0,q0,hg0,ht0,hv0,hd0,_,_⟩,_⟩,_⟩,_⟩:=h';have k1:=(by kernel_rfl:Tryz.prog.globalNamed _=some 1).symm.trans hg1;have k2:=(by kernel_rfl:Tryz.prog.globalNamed _=some 2).symm.trans hg2;have k0:=(by kernel_rfl:Tryz.prog.globalNamed _=some 0).symm.trans hg0;obtain rfl:=Option.some.inj k1;obtain rfl:=Option.some.inj k2;obtain rfl:=Option.some.inj k0;obtain⟨e1,z1,h1⟩:=F'e hg1 hv1;obtain⟨e2,z2,h2⟩:=F'e hg2 hv2;obtain⟨e0,z0,h0⟩:=F'e hg0 hv0;obtain rfl:=Option.some.inj (gPowT.symm.trans ht0);refine⟨cs0,e0,z0,cs1,e1,z1,cs2,e2,z2,h0,h1,h2,?_⟩;have hc:=Lib.cells_of_tab (k:=.u64) (zs:=(List.range 20).map λi=>((10^i:Nat):Int)) Tryz.underlying217 Tryz.underlying191 K't K's hd0;intro i hi;have:cs0.toList[i]?=some (.int .u64 ((10^i:Nat):Int)):=by
  rw[hc];simp[hi]
 simpa using this
theorem I'M {s:ChangeSpec}{f:FuncId}{fn:Func}(hp:fn.params = #[3,3,3])(hrt:fn.resultTypes = #[4])(hsv:s.vars=[])(hsf:∀(H:Type)(d0 d1 d2:DataW H),s.fn H [d0,d1,d2] = { results:=[.lit (.bool true)],args:=[d0,d1,d2] })(hl:R'K f)
  (H:Type)(enc:TypeId×Value->H)(W:World)(base:Nat)(args:Array Value)(ds gs:List (DataW H))(before:List MemPlace)
  (hval:∀(j:Nat) t v,fn.params[j]?=some t->args[j]?=some v->Value.okWide Tryz.prog W .any base t v)
  (hW : DataW.Whole enc Tryz.prog fn.params.toList s.vars false W args.toList ds gs before)(hT : R'L W):
  Calls Tryz.prog f args W λe W'=>∃v,e = .returned v∧s.post enc Tryz.prog fn false true false false W args v W':=by
 have hW':=hW;obtain⟨p,q,hA,hV,rfl,hfz,hnd⟩:=hW;rw[hp]at hA hval;rw[hsv]at hV;obtain⟨v0,vs0,d0,ds0,p0,q0,hargs,rfl,rfl,h0,r0⟩:=trodAll_cons hA;obtain⟨v1,vs1,d1,ds1,p1,q1,rfl,rfl,rfl,h1,r1⟩:=trodAll_cons r0;obtain⟨v2,vs2,d2,ds2,p2,q2,rfl,rfl,rfl,h2,r2⟩:=trodAll_cons r1;obtain⟨rfl,rfl,rfl⟩:=trodAll_nil r2;obtain rfl:args = #[v0,v1,v2]:=by cases args;simp_all
 obtain⟨rfl,rfl⟩:=trodVars_none hV;obtain⟨a0,rfl,rfl,rfl,w0⟩:=open_int Tryz.underlying3 (hval 0 3 v0 rfl rfl) h0;obtain⟨a1,rfl,rfl,rfl,w1⟩:=open_int Tryz.underlying3 (hval 1 3 v1 rfl rfl) h1;obtain⟨a2,rfl,rfl,rfl,w2⟩:=open_int Tryz.underlying3 (hval 2 3 v2 rfl rfl) h2;simp only[List.append_nil]at hW';have fit:∀n,(Lit.int .i64 n).wf=true->I64 n:=by
  intro n w;simp[Lit.wf,IntKind.min,IntKind.max,IntKind.signed,IntKind.bits]at w;unfold I64;omega
 obtain⟨t0,e0,z0,t1,e1,z1,t2,e2,z2,k0,k1,k2,ht⟩:=hT;refine (M'X k0 k1 k2 ht (ns:=[a0,a1,a2]) (b:=true) (hl a0 a1 a2 (fit _ w0) (fit _ w1) (fit _ w2))).mono λe W' ⟨he,hg⟩=>?_;subst he;refine⟨_,rfl,[.lit (.int .i64 a0),.lit (.int .i64 a1),.lit (.int .i64 a2)],[],[],[],[],[],hW',?_,?_,?_,hg.frame _,λh=>by cases h⟩
 ·rw[List.append_nil,hsf,hrt];exact trodAll_cons_mk (shut_bool Tryz.underlying4 _) trodAll_mk0
 ·rw[List.append_nil,hsf,hp];exact trodAll_cons_mk (shut_int Tryz.underlying3 w0) (trodAll_cons_mk (shut_int Tryz.underlying3 w1) (trodAll_cons_mk (shut_int Tryz.underlying3 w2) trodAll_mk0))
 ·rw[List.append_nil,hsf,hsv];rfl
end Go.Proofs.YtimdkminagnhgabGreatDoor
