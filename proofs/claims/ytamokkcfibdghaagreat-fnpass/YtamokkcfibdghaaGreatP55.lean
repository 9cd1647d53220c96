import Derived.Test.YtamokkcfibdghaaGreatP54
namespace Go.Proofs.Z
open YtamokkcfibdghaaGreat
open Tryz
set_option maxRecDepth 1000000
set_option maxHeartbeats 0
open Go.ChangeShapes Go.WideShapes Go.ChangeAt Go.RowKit Flt
namespace PPass
theorem lifted(s)(n:s.Started)(H)(enc:TypeId×Value->H):
  ReturnsInHanded {} Tryz.checked s 3 .any (Rows.fnPassSpec.pre6 enc prog Tryz.f3 Rows.fnPassRow.domain false) (Rows.fnPassSpec.post enc prog Tryz.f3 false true false false):=by
 refine returnsInHanded_of_change (C:=Tryz.checked) own n (by kernel_rfl) func3
  (ChangeSpec.witness6 (enc:=enc) (C:=Tryz.checked) false ⟨#[],#[.slice none 0 0,.slice none 0 0],[]⟩ 8 (by kernel_rfl) (by kernel_rfl) (by kernel_rfl) (by kernel_rfl)) ?_
 intro W base args I G C o U K _;have i:∀(j:Nat) t v,Tryz.f3.params[j]? =some t->args[j]? =some v->Value.okWide prog W .any base t v:=o;have u:=U;obtain⟨p,q,f,z,rfl,r,N⟩:=U;have a7:DataW.TrodAll enc prog W 0 (λ_=>true) true Tryz.f3.params.toList args.toList I p:=f;rw[Tryz.params3]at a7 i;obtain⟨ay,bc,bD,d1,bk,a8,rfl,rfl,rfl,aj,B⟩:=trodAll_two a7;obtain⟨rfl,rfl⟩:=trodVars_none z;have w:∀x∈bk,x.block<W.heap.size:=by obtain⟨m,az⟩:=aj;exact DataW.trod_lt m _ _ _ az
 have aQ:∀x∈a8,x.block<W.heap.size:=by obtain⟨m,az⟩:=B;exact DataW.trod_lt m _ _ _ az
 obtain⟨a,l,ca,rfl⟩:=okWide_slice underlying22 (i 0 22 ay rfl rfl);obtain⟨b,F,b5,rfl⟩:=okWide_slice underlying22 (i 1 22 bc rfl rfl);obtain⟨Z,Q,am⟩:=tL aj;obtain⟨_,X,fb⟩:=tL B;clear f o;have y:Calls prog 3 #[.slice a l ca,.slice b F b5] W λe J=>e=.returned (.bool true)/\Below W.heap.size W J:=(IN am Z fb).mono λ_ _ h=>⟨h.1,h.2.below⟩
 refine y.mono λe W' ⟨ab,g⟩=>?_;subst ab;exact⟨_,rfl,_,_,_,[],_,[],u,trodAll_mk1 (shut_bool underlying4 _),(trodAll_cons_mk (Below.trod zi (by kernel_rfl) (of_decide_eq_true (by kernel_rfl)) aj g w) (trodAll_cons_mk (Below.trod zi (by kernel_rfl) (of_decide_eq_true (by kernel_rfl)) B g aQ) trodAll_mk0)),rfl,g.frame _,λh=>by cases h⟩
end PPass
end Go.Proofs.Z
namespace Go.Proofs.YtamokkcfibdghaaGreat
open Z
theorem fnPass_holds:Rows.FnPassSaid:=
 OpenClaim.holds_of_wide 3 Tryz.f3 rfl rfl rfl rfl rfl rfl rfl ⟨rfl,rfl,rfl,rfl,rfl⟩ rfl rfl rfl rfl rfl (by kernel_rfl) Tryz.func3 (by kernel_rfl)
  (of_decide_eq_true (by kernel_rfl)) (by unfold Func.isWrapper;first|(rw[hK (by decide+kernel)];kernel_rfl)|(rw[hJ (by decide+kernel)];exact⟨rfl,rfl⟩))
  (λs n H enc _=>PPass.lifted s n H enc)
#print axioms fnPass_holds
end Go.Proofs.YtamokkcfibdghaaGreat
