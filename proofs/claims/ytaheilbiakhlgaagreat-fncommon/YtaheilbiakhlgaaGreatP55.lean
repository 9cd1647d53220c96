import Derived.Test.YtaheilbiakhlgaaGreatP54
namespace Go.Proofs.Z
open YtaheilbiakhlgaaGreat
open Tryz
set_option maxRecDepth 1000000
set_option maxHeartbeats 0
open Go.ChangeShapes Go.WideShapes Go.ChangeAt Go.RowKit Flt
namespace PCommon
theorem lifted(s)(l:s.Started)(H)(enc:TypeId×Value->H):
  ReturnsInHanded {} Tryz.checked s 3 .any (Rows.fnCommonSpec.pre6 enc prog Tryz.f3 Rows.fnCommonRow.domain false) (Rows.fnCommonSpec.post enc prog Tryz.f3 false true false false):=by
 refine returnsInHanded_of_change (C:=Tryz.checked) own l (by kernel_rfl) func3
  (ChangeSpec.witness6 (enc:=enc) (C:=Tryz.checked) false ⟨#[],#[.slice none 0 0,.slice none 0 0],[]⟩ 8 (by kernel_rfl) (by kernel_rfl) (by kernel_rfl) (by kernel_rfl)) ?_
 intro W base args G z y n F C _;have i:∀(j:Nat) t v,Tryz.f3.params[j]? =some t->args[j]? =some v->Value.okWide prog W .any base t v:=n;have o:=F;obtain⟨p,q,f,ak,rfl,r,I⟩:=F;have a2:DataW.TrodAll enc prog W 0 (λ_=>true) true Tryz.f3.params.toList args.toList G p:=f;rw[Tryz.params3]at a2 i;obtain⟨av,ba,bw,d1,bi,a5,rfl,rfl,rfl,ai,B⟩:=trodAll_two a2;obtain⟨rfl,rfl⟩:=trodVars_none ak;have u:∀x∈bi,x.block<W.heap.size:=by obtain⟨m,aw⟩:=ai;exact DataW.trod_lt m _ _ _ aw
 have am:∀x∈a5,x.block<W.heap.size:=by obtain⟨m,aw⟩:=B;exact DataW.trod_lt m _ _ _ aw
 obtain⟨a,P,bu,rfl⟩:=okWide_slice underlying22 (i 0 22 av rfl rfl);obtain⟨b,X,b2,rfl⟩:=okWide_slice underlying22 (i 1 22 ba rfl rfl);obtain⟨aa,Q,ax⟩:=sY ai;obtain⟨_,S,fb⟩:=sY B;clear f n;have w:Calls prog 3 #[.slice a P bu,.slice b X b2] W λe J=>e=.returned (.bool true)/\Below W.heap.size W J:=(Bj ax aa fb).mono λ_ _ h=>⟨h.1,h.2.below⟩
 refine w.mono λe W' ⟨ad,g⟩=>?_;subst ad;exact⟨_,rfl,_,_,_,[],_,[],o,trodAll_mk1 (shut_bool underlying4 _),(trodAll_cons_mk (Below.trod yB (by kernel_rfl) (of_decide_eq_true (by kernel_rfl)) ai g u) (trodAll_cons_mk (Below.trod yB (by kernel_rfl) (of_decide_eq_true (by kernel_rfl)) B g am) trodAll_mk0)),rfl,g.frame _,λh=>by cases h⟩
end PCommon
end Go.Proofs.Z
namespace Go.Proofs.YtaheilbiakhlgaaGreat
open Z _root_.Go.Proofs.Tryz
theorem fnCommon_holds:Rows.FnCommonSaid:=
 OpenClaim.holds_of_wide 3 Tryz.f3 rfl rfl rfl rfl rfl rfl rfl ⟨rfl,rfl,rfl,rfl,rfl⟩ rfl rfl rfl rfl rfl (by kernel_rfl) func3 (by kernel_rfl)
  (of_decide_eq_true (by kernel_rfl)) (by unfold Func.isWrapper;first|(rw[hI (by decide+kernel)];kernel_rfl)|(rw[hG (by decide+kernel)];exact⟨rfl,rfl⟩))
  (λs l H enc _=>PCommon.lifted s l H enc)
#print axioms fnCommon_holds
end Go.Proofs.YtaheilbiakhlgaaGreat
