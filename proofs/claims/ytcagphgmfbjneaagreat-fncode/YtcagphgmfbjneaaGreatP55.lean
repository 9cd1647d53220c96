import Derived.Test.YtcagphgmfbjneaaGreatP54
import Derived.Test.YtcagphgmfbjneaaGreatP42
import Derived.Test.YtcagphgmfbjneaaGreatP47
namespace Go.Proofs.Z
open YtcagphgmfbjneaaGreat
open Tryz
set_option maxRecDepth 1000000
set_option maxHeartbeats 0
section
open Go.RowKit Flt
attribute[local go_sem] eE eD eC
variable{bs:List Int}
theorem QY{w W}{st:LSt}{aR bd bu I}(a7:w.heap.size<=I)(k:Kept 0 0 w W)(h:W.ownsRow I 3 1 aR st.ins.length (st.ins.map (Value.int .i64))/\W.ownsRow I 86 6 bd st.vs.length (fN st.vs)/\W.ownsRow I 3 1 bu st.outs.length (st.outs.map (Value.int .i64))/\Apart aR bd/\Apart aR bu/\Apart bd bu)(O:∀v∈st.vs,v.k<18446744073709551616):∃a1 c1 J c2 a3 c3,aR=.slice a1 st.ins.length c1/\bd=.slice J st.vs.length c2/\bu=.slice a3 st.outs.length c3/\DG W w.heap.size aR bd bu st.ins st.vs st.outs:=by
 obtain⟨a1,c1,af⟩:=iL h.1;obtain⟨J,c2,bg⟩:=iL h.2.1;obtain⟨a3,c3,ah⟩:=iL h.2.2.1;exact⟨_,_,_,_,_,_,af,bg,ah,gy h.1 a7,gy h.2.1 a7,gy h.2.2.1 a7,h.2.2.2.1,h.2.2.2.2.1,h.2.2.2.2.2,O,k.size⟩
theorem JD(hb:∀i,nv bs i<256){i T t j r}
  (y:∀{w:World}{P n cap:Nat}{a:Option Addr},RdF w P a n cap (ni bs i) bs->Calls prog 84 #[hZ P] w (SrO w P n cap a bs j t))
  (d4:∀{w:World}{a:Option Addr}{cap:Nat},TxA w a t.length t->t.length<=cap->Calls prog 83 #[.slice a t.length cap] w (PaZ w (w.heap.size+1) r))
  (bm:((nv bs i:Int)%4=0/\T=rg bs (ni bs i))\/((nv bs i:Int)%4=1/\∃st,r=.ok st/\T=(st.ins,st.vs.map sv,st.outs,j))\/((nv bs i:Int)%4=1/\∃p,r=.error (0,p)/\T=([],[],[],j))\/((nv bs i:Int)%4=1/\∃c p,c≠0/\r=.error (c,p)/\V (T=rsT bs j))\/((nv bs i:Int)%4≠0/\(nv bs i:Int)%4≠1/\V (T=rsT bs (ni bs i))))
  {w}{P n cap}{a} (K:RdF w P a n cap i bs):Calls prog 65 #[hZ P] w (DgT w P a n cap bs T):=by
 have hP:=K.lt;have bj:=eA 0 0 w fH;have HN:V _:=iw _ P a n _ i _ (K.keep0 bj);have x:V _:=bj;clear K bj;go_enter func65,ntmps65;go_upto_region 2 with (go_at_call 14;refine yaj HN.o ?_;rintro e ax ⟨rfl,(bK:V _),an,-⟩;have bZ:V _:=(e8 x.o).trans an;have Z:V (RB _ _ iR iR iR):=(iW w).kept an xaa;clear an);clear HN x;rcases bm with⟨c4,bU⟩|⟨c4,st,aF,rfl⟩|⟨c4,p,aF,rfl⟩|⟨c4,c,p,al,aF,HE⟩|⟨c0,c1,HE⟩
 ·have bO:V (Calls prog 82 #[hZ P] ax (DgT ax P a n cap bs T)):=by rw[bU];exact Re bK.o
  clear bU;go_wp2_with (go_at_call 82;refine yaj bO.o ?_;rintro e aU ⟨a1,c1,J,c2,a3,c3,vs,rfl,aw,d,az,aZ⟩;obtain⟨hb,(aD:V _)⟩:=DgF.up Z.o hP bZ.o aw d az aZ;obtain⟨_,bq,aq,aT,bR,bS,bT⟩:=hb;clear aw d az aZ);obtain⟨bH,bk,p2⟩:=fd _ _ _ _ _ bq aq aT (.slice a1 T.1.length c1) (.slice J vs.length c2) (.slice a3 T.2.2.1.length c3);exact yaz (v:=eX a1 T.1.length c1 J vs.length c2 a3 T.2.2.1.length c3) (by simp[results,results65,go_sem,bH,bk,p2]) rfl aD.o
 ·subst aF;have b:V _:=y bK.o
  go_upto_region 6 with (first
   |(go_at_call 84;refine yaj b.o ?_;rintro e aU ⟨g,aK,rfl,l,bp,(aG:V _),aZ⟩;have ct:V _:=d4 (Cj bp) l;have aO:V _:=bZ.o.trans aZ;have ca:V _:=Z.o.kept aZ xaa;clear l bp aZ)
   |(go_at_call 83;refine yaj ct.o ?_;rintro e cc ⟨aR,bd,bu,rfl,ch,b9,bf,f,k,m,au,bW⟩;obtain⟨a1,c1,J,c2,a3,c3,af,bg,ah,d⟩:=QY (Nat.le_succ _) bW ⟨ch,b9,bf,f,k,m⟩ au.k;subst af bg ah;have HD:V _:=d;have a0:V _:=bW;clear ch b9 bf f k m au bW d))
  have a2:=a0.o.trans (eA 0 0 _ (.cells #[.slice a1 st.ins.length c1,.slice J st.vs.length c2,.slice a3 st.outs.length c3] 108));obtain⟨hb,(aD:V _)⟩:=DgF.up ca.o hP aO.o rfl (HD.o.keep (eA 0 0 _ _)) (aG.o.keep0 a2) (e8 a2);obtain⟨_,bq,aq,aT,bR,bS,bT⟩:=hb;clear a2;go_wp2_with fail;obtain⟨bH,bk,p2⟩:=fd _ _ _ _ _ bq aq aT (.slice a1 st.ins.length c1) (.slice J st.vs.length c2) (.slice a3 st.outs.length c3);exact yaz (v:=eX a1 st.ins.length c1 J st.vs.length c2 a3 st.outs.length c3) (by simp[results,results65,go_sem,bH,bk,p2]) rfl aD.o
 ·subst aF;have b:V _:=y bK.o
  go_upto_region 6 with (first
   |(go_at_call 84;refine yaj b.o ?_;rintro e aU ⟨g,aK,rfl,l,bp,(aG:V _),aZ⟩;have ct:V _:=d4 (Cj bp) l;have aO:V _:=bZ.o.trans aZ;have ca:V _:=Z.o.kept aZ xaa;clear l bp aZ)
   |(go_at_call 83;refine yaj ct.o ?_;rintro e cc ⟨rfl,(a0:V _)⟩))
  have bY:=eA 0 0 cc fH;have a2:=a0.o.trans bY;have d:DG _ _ iR iR iR [] [] []:=⟨yaw _ _ _ _,yaw _ _ _ _,yaw _ _ _ _,(λ_ h=>by cases h),(λ_ h=>by cases h),(λ_ h=>by cases h),(λ_ h=>by cases h),a0.o.size⟩
  obtain⟨hb,(aD:V _)⟩:=DgF.up (ins:=[]) (vs:=[]) (outs:=[]) (S:=[]) ca.o hP aO.o rfl (d.keep bY) (aG.o.keep0 a2) (e8 a2);obtain⟨_,bq,aq,aT,bR,bS,bT⟩:=hb;clear a2 bY d;go_wp2_with fail;obtain⟨bH,bk,p2⟩:=fd _ _ _ _ _ bq aq aT iR iR iR;exact yaz (v:=eX none 0 0 none 0 0 none 0 0) (by simp[results,results65,go_sem,bH,bk,p2]) rfl aD.o
 ·subst aF;have b:V _:=y bK.o
  go_upto_region 6 with (first
   |(go_at_call 84;refine yaj b.o ?_;rintro e aU ⟨g,aK,rfl,l,bp,(aG:V _),aZ⟩;have ct:V _:=d4 (Cj bp) l;have aO:V _:=bZ.o.trans aZ;have ca:V _:=Z.o.kept aZ xaa;clear l bp aZ)
   |(go_at_call 83;refine yaj ct.o ?_;rintro e cc ⟨rfl,(a0:V _)⟩))
  have a2:=a0.o.trans (eA 0 0 _ fH);go_upto_if 37 with fail
  refine wp_cond_false (congrArg _ (yan al)) (wp_skip ?_);exact(‹∀(a:Act) (w:World),Code.wp _ _ _ a w->_›) _ _ (Is hb (aG.o.keep0 a2) (aO.o.trans (e8 a2)) (ca.o.keep a2) hP HE.o)
 go_upto_if 28 with fail
 refine wp_cond_false (congrArg _ (yan c1)) (wp_skip ?_);exact(‹∀(a:Act) (w:World),Code.wp _ _ _ a w->_›) _ _ (Is hb bK.o bZ.o Z.o hP HE.o)
variable{bs:List Int}
theorem dgD(hb:∀i,nv bs i<256)(i):∃T,∀{w:World}{P n cap:Nat}{a:Option Addr},RdF w P a n cap i bs->Calls prog 65 #[hZ P] w (DgT w P a n cap bs T):=by
 obtain⟨t,j,h4,aw⟩:=Rl hb (ni bs i);obtain⟨r,aQ⟩:=psD t h4;by_cases c0:nv bs i%4=0
 ·exact⟨_,λK=>JD hb aw aQ (.inl ⟨by omega,rfl⟩) K⟩
 by_cases c1:nv bs i%4=1
 ·have G:(nv bs i:Int)%4=1:=xaa;rcases r with⟨c,p⟩|st
  ·by_cases ak:c=0
   ·subst ak;exact⟨_,λK=>JD hb aw aQ (.inr (.inr (.inl ⟨G,p,rfl,rfl⟩))) K⟩
   exact⟨_,λK=>JD hb aw aQ (.inr (.inr (.inr (.inl ⟨G,c,p,ak,rfl,rfl⟩)))) K⟩
  exact⟨_,λK=>JD hb aw aQ (.inr (.inl ⟨G,_,rfl,rfl⟩)) K⟩
 exact⟨_,λK=>JD hb aw aQ (.inr (.inr (.inr (.inr ⟨by omega,by omega,rfl⟩)))) K⟩
end
section
open Go.RowKit Flt
theorem Fv{bs}(hb:∀i,nv bs i<256)(i):∃T:CT,CdOK T/\∀{w:World}{P n cap:Nat}{a:Option Addr},RdF w P a n cap i bs->Calls prog 46 #[hZ P] w (CdT w P a n cap bs T):=by
 obtain⟨T1,F⟩:=dgD hb (dgO bs (ni bs i)).2;exact⟨cdM (nv bs i%8) (pkG (nv bs i%8) ((dgI bs (ni bs i)).1,(dgG bs (ni bs i)).1,(dgO bs (ni bs i)).1,(dgO bs (ni bs i)).2) T1),Pt (IV (Nd bs (ni bs i))),λK=>B4 K (λW h=>BN h) (λW h=>F h) (Nd bs (ni bs i))⟩
end
section
open Go.ChangeShapes Go.WideShapes Go.ChangeAt Go.RowKit Flt
namespace PCode
theorem lifted(a8)(k:a8.Started)(ad)(enc:TypeId×Value->ad):
  ReturnsInHanded {} Tryz.checked a8 3 .any (Rows.fnCodeSpec.pre6 enc prog Tryz.f3 Rows.fnCodeRow.domain false) (Rows.fnCodeSpec.post enc prog Tryz.f3 false true false false):=by
 refine returnsInHanded_of_change (C:=Tryz.checked) own k (by kernel_rfl) func3
  (ChangeSpec.witness6 (enc:=enc) (C:=Tryz.checked) false ⟨#[],#[.slice none 0 0,.slice none 0 0],[]⟩ 8 (by kernel_rfl) (by kernel_rfl) (by kernel_rfl) (by kernel_rfl)) ?_
 intro W base args I aD z n G C _;have g:∀(j:Nat) t v,Tryz.f3.params[j]? =some t->args[j]? =some v->Value.okWide prog W .any base t v:=n;have r:=G;obtain⟨p,q,f,az,rfl,T,J⟩:=G;have be:DataW.TrodAll enc prog W 0 (λ_=>true) true Tryz.f3.params.toList args.toList I p:=f;rw[Tryz.params3]at be g;obtain⟨aw,ba,bR,aM,bH,bk,rfl,rfl,rfl,ak,F⟩:=trodAll_two be;obtain⟨rfl,rfl⟩:=trodVars_none az;have u:∀x∈bH,x.block<W.heap.size:=by obtain⟨m,ao⟩:=ak;exact DataW.trod_lt m _ _ _ ao
 have w:∀x∈bk,x.block<W.heap.size:=by obtain⟨m,ao⟩:=F;exact DataW.trod_lt m _ _ _ ao
 obtain⟨a,S,bc,rfl⟩:=okWide_slice underlying22 (g 0 22 aw rfl rfl);obtain⟨b,X,cb,rfl⟩:=okWide_slice underlying22 (g 1 22 ba rfl rfl);obtain⟨Z,l,aN⟩:=tY ak;obtain⟨_,N,fb⟩:=tY F;clear f n;have y:Calls prog 3 #[.slice a S bc,.slice b X cb] W λe B=>e=.returned (.bool true)/\Below W.heap.size W B:=(B6 aN Z fb (Fv (λi=>nvb (λx ap=>aN.lt x (List.mem_of_mem_take ap)) i) _)).mono λ_ _ h=>⟨h.1,h.2.below⟩
 refine y.mono λe H ⟨Y,d⟩=>?_;subst Y;exact⟨_,rfl,_,_,_,[],_,[],r,trodAll_mk1 (shut_bool underlying4 _),(trodAll_cons_mk (Below.trod zm (by kernel_rfl) (of_decide_eq_true (by kernel_rfl)) ak d u) (trodAll_cons_mk (Below.trod zm (by kernel_rfl) (of_decide_eq_true (by kernel_rfl)) F d w) trodAll_mk0)),rfl,d.frame _,λh=>by cases h⟩
end PCode
end
end Go.Proofs.Z
namespace Go.Proofs.YtcagphgmfbjneaaGreat
open Z _root_.Go.Proofs.Tryz
theorem fnCode_holds:Rows.FnCodeSaid:=
 OpenClaim.holds_of_wide 3 Tryz.f3 rfl rfl rfl rfl rfl rfl rfl ⟨rfl,rfl,rfl,rfl,rfl⟩ rfl rfl rfl rfl rfl (by kernel_rfl) func3 (by kernel_rfl)
  (of_decide_eq_true (by kernel_rfl)) (by unfold Func.isWrapper;first|(rw[h7 (by decide+kernel)];kernel_rfl)|(rw[h6 (by decide+kernel)];exact⟨rfl,rfl⟩))
  (λa8 k ad enc _=>PCode.lifted a8 k ad enc)
#print axioms fnCode_holds
end Go.Proofs.YtcagphgmfbjneaaGreat
