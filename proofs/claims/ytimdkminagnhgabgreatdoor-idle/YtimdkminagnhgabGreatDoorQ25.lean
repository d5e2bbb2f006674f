import Derived.Test.YtimdkminagnhgabGreatDoorQ22
import Derived.Test.YtimdkminagnhgabGreatDoorQ23
import Derived.Test.YtimdkminagnhgabGreatDoorQ24
set_option linter.unusedVariables false
set_option linter.unusedSimpArgs false
namespace Go.Proofs.YtimdkminagnhgabGreatDoor
open Go.Vm Go.Proofs Go.Ta
set_option maxHeartbeats 4000000
section
variable {H:Type}{O:HI H}{ro:Nat}{c:CallT H}
attribute [local simp] cSeq cReg reg to too onlyIf onlyIfo aMove mv' nl' fl' ld' ln' mk' ia' ik' ix' aNil aFld aLd aInt aPick aConv aUn unA ev upd_get isB envOf iA_add iA_sub iA_mul iA_eql iA_neq iA_lss iA_leq iA_gtr iA_geq cIf cRet cSkip okc_some aSt vc_int vc_bool vc_agg vc_str vc_ptr vc_sl ft_int ft_bool ft_str ft_ptr ft_sl tp_int tp_bool tp_agg tp_str tp_ptr tp_sl aBuild Instr.fill aCall cExit cBlk outOf ptr undef aNew aBox aIdxArr aLdN aShift aLenSl aIdx aMkSl aApp rangeA aExt aPtrNil aSlNil aBoolEq aMake aSliceSl boundA chk
variable {w w':Own}{h h':H}{q:Nat}{S:Srch}{bW bH bV:Nat}{vA vC vT vS vK:Value}{lv wv:List Value}
variable {p s:Nat}{Z:Solv}{vE vcl vM:Value}{vs:List Value}{cp:Nat}{N:Ck}{v1 v2:Value}
def prC (x:Nat×Nat): List Value:=[ni x.1,ni x.2]
theorem prC_len (x:Nat×Nat): (prC x).length=2:=rfl
structure CN (O:HI H) (ro:Nat)(w:Own)(h:H) (cp:Nat)(N:Ck)(v1 v2:Value):Prop where
 m:Bx O ro w h (4,1000) cp [ni N.ni,v1,v2,ni N.bad]
 s1:Sm O ro w h (4,1) 2 v1 (N.las.flatMap prC)
 s2:Sm O ro w h (4,2) 2 v2 (N.gts.flatMap prC)
 nv:N.nv<=192
 b1:∀x∈N.las,x.1<most∧x.2<most
 b2:∀x∈N.gts,x.1<most∧x.2<most
 bb:N.bad<most
theorem CN.ch (L:O.Law){K:Tag->Prop}(x:CN O ro w h cp N v1 v2)(a:Ch O K w h w' h')(hk:∀i,¬K (4,i)): CN O ro w' h' cp N v1 v2:=
 ⟨x.m.ch L a (hk _),x.s1.ch L a (hk _),x.s2.ch L a (hk _),x.nv,x.b1,x.b2,x.bb⟩
theorem CN.len1 (x:CN O ro w h cp N v1 v2): ∃a c,v1 = .slice a N.las.length c:=x.s1.len (by omega) _ (by rw[flat_len prC 2 prC_len])
theorem CN.len2 (x:CN O ro w h cp N v1 v2): ∃a c,v2 = .slice a N.gts.length c:=x.s2.len (by omega) _ (by rw[flat_len prC 2 prC_len])
theorem CN.getL (x:CN O ro w h cp N v1 v2)(j:Nat){y:Nat×Nat}(hy:N.las[j]?=some y): ∃b c,v1 = .slice (some ⟨b,0,some 2⟩) N.las.length c∧O.cell h b (j*2)=some (ni y.1)∧O.cell h b (j*2+1)=some (ni y.2):=by
 obtain⟨hj,hjy⟩:=l'b.1 hy;have hlen:=flat_len prC 2 prC_len N.las;obtain⟨b,c,e,hc,yb⟩:=x.s1.blk (by omega) N.las.length hlen (by omega);have cell:∀i,i<2->O.cell h b (j*2+i)=(prC y)[i]?:=λi hi=>by
  rw[yb.cell _ (by rw[hlen];omega),flat_at prC 2 prC_len N.las j hj i hi,hjy]
 exact⟨b,c,e,by simpa [prC]using cell 0 (by omega),by simpa [prC]using cell 1 (by omega)⟩
theorem CN.getG (x:CN O ro w h cp N v1 v2)(j:Nat){y:Nat×Nat}(hy:N.gts[j]?=some y): ∃b c,v2 = .slice (some ⟨b,0,some 2⟩) N.gts.length c∧cellsA O h b (j*2) 2=some [ni y.1,ni y.2]:=by
 obtain⟨hj,hjy⟩:=l'b.1 hy;have hlen:=flat_len prC 2 prC_len N.gts;obtain⟨b,c,e,hc,yb⟩:=x.s2.blk (by omega) N.gts.length hlen (by omega);refine⟨b,c,e,cellsA_get 2 _ _ rfl λi hi=>?_⟩;rw[yb.cell _ (by rw[hlen];omega),flat_at prC 2 prC_len N.gts j hj i hi,hjy];rfl
theorem nvars_q (C:LP' O ro c)(L:O.Law)(x:CN O ro w h cp N v1 v2): c 98 [ptr cp] h=some (ni N.nv,h):=by
 have hn:=x.nv;have m0:=x.m.get 0 _ rfl;have m1:=x.m.get 1 _ rfl;have m2:=x.m.get 2 _ rfl;obtain⟨a1,c1,e1⟩:=x.len1;obtain⟨a2,c2,e2⟩:=x.len2;rw[e1]at m1;rw[e2]at m2;unfold Ck.nv at hn;have h1:IntKind.i64.wrap (1+(N.ni:Int))=((1+N.ni:Nat):Int):=by rw[wrap_id (by omega) (by omega)];omega
 have h2:IntKind.i64.wrap (((1+N.ni:Nat):Int)+N.las.length)=((1+N.ni+N.las.length:Nat):Int):=by rw[wrap_id (by omega) (by omega)];omega
 have h3:IntKind.i64.wrap (((1+N.ni+N.las.length:Nat):Int)+N.gts.length)=((N.nv:Nat):Int):=by unfold Ck.nv;rw[wrap_id (by omega) (by omega)];omega
 obtain⟨z1,hz1⟩:∃z1,z1=1+N.ni:=⟨_,rfl⟩;rw[<-hz1]at h1 h2 h3;obtain⟨z2,hz2⟩:∃z2,z2=z1+N.las.length:=⟨_,rfl⟩;rw[<-hz2]at h2 h3;refine C.eq (F98_fn O ro) rfl rfl (f'f ?_);simp[F98,ZkN,ZkO,ZkQ,m0,m1,m2,h1,h2,h3,resE,resLE,rvE]
theorem latLit_q (C:LP' O ro c)(L:O.Law)(x:CN O ro w h cp N v1 v2)(j:Nat)(hj:j<most): c 47 [ptr cp,ni j] h=some (ni (N.lla j),h):=by
 have hm:most=1000000:=rfl;have hn:=x.nv;have m0:=x.m.get 0 _ rfl;unfold Ck.nv at hn;have h1:IntKind.i64.wrap (1+(N.ni:Int))=((1+N.ni:Nat):Int):=by rw[wrap_id (by omega) (by omega)];omega
 have h2:IntKind.i64.wrap (((1+N.ni:Nat):Int)+j)=((1+N.ni+j:Nat):Int):=by rw[wrap_id (by omega) (by omega)];omega
 have h3:IntKind.i64.wrap (2*((1+N.ni+j:Nat):Int))=((N.lla j:Nat):Int):=by unfold Ck.lla;rw[wrap_id (by omega) (by omega)];omega
 obtain⟨z1,hz1⟩:∃z1,z1=1+N.ni:=⟨_,rfl⟩;rw[<-hz1]at h1 h2 h3;obtain⟨z2,hz2⟩:∃z2,z2=z1+j:=⟨_,rfl⟩;rw[<-hz2]at h2 h3;refine C.eq (F47_fn O ro) rfl rfl (f'f ?_);simp[F47,ZkF,ZkG,m0,h1,h2,h3,resE,resLE,rvE]
theorem gateLit_q (C:LP' O ro c)(L:O.Law)(x:CN O ro w h cp N v1 v2)(j:Nat)(hj:j<most): c 50 [ptr cp,ni j] h=some (ni (N.lgt j),h):=by
 have hm:most=1000000:=rfl;have hn:=x.nv;have m0:=x.m.get 0 _ rfl;have m1:=x.m.get 1 _ rfl;obtain⟨a1,c1,e1⟩:=x.len1;rw[e1]at m1;unfold Ck.nv at hn;have h1:IntKind.i64.wrap (1+(N.ni:Int))=((1+N.ni:Nat):Int):=by rw[wrap_id (by omega) (by omega)];omega
 have h2:IntKind.i64.wrap (((1+N.ni:Nat):Int)+N.las.length)=((1+N.ni+N.las.length:Nat):Int):=by rw[wrap_id (by omega) (by omega)];omega
 have h4:IntKind.i64.wrap (((1+N.ni+N.las.length:Nat):Int)+j)=((1+N.ni+N.las.length+j:Nat):Int):=by rw[wrap_id (by omega) (by omega)];omega
 have h3:IntKind.i64.wrap (2*((1+N.ni+N.las.length+j:Nat):Int))=((N.lgt j:Nat):Int):=by unfold Ck.lgt;rw[wrap_id (by omega) (by omega)];omega
 obtain⟨z1,hz1⟩:∃z1,z1=1+N.ni:=⟨_,rfl⟩;rw[<-hz1]at h1 h2 h3 h4;obtain⟨z2,hz2⟩:∃z2,z2=z1+N.las.length:=⟨_,rfl⟩;rw[<-hz2]at h2 h3 h4;obtain⟨z3,hz3⟩:∃z3,z3=z2+j:=⟨_,rfl⟩;rw[<-hz3]at h3 h4;refine C.eq (F50_fn O ro) rfl rfl (f'f ?_);simp[F50,ZkJ,ZkK,m0,m1,h1,h2,h3,h4,resE,resLE,rvE]
end
end Go.Proofs.YtimdkminagnhgabGreatDoor
