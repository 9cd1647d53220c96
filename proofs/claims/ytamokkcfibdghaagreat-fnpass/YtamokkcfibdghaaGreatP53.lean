import Derived.Test.YtamokkcfibdghaaGreatP46
import Derived.Test.YtamokkcfibdghaaGreatP52
namespace Go.Proofs.Z
open Tryz
set_option maxRecDepth 1000000
set_option maxHeartbeats 0
open Go.RowKit Flt
attribute [local go_sem] eG eE eD
variable {bs:List Int}
theorem PT{w W}{st:LSt}{aZ be bz I}(aS:w.heap.size<=I)(k:Kept 0 0 w W)(h:W.ownsRow I 3 1 aZ st.ins.length (st.ins.map (Value.int .i64))/\W.ownsRow I 53 6 be st.vs.length (fQ st.vs)/\W.ownsRow I 3 1 bz st.outs.length (st.outs.map (Value.int .i64))/\Apart aZ be/\Apart aZ bz/\Apart be bz)(O:∀v∈st.vs,v.k<18446744073709551616):∃a1 c1 a2 c2 a3 c3,aZ=.slice a1 st.ins.length c1/\be=.slice a2 st.vs.length c2/\bz=.slice a3 st.outs.length c3/\DG W w.heap.size aZ be bz st.ins st.vs st.outs:=by
 obtain⟨a1,c1,ae⟩:=l9 h.1;obtain⟨a2,c2,a9⟩:=l9 h.2.1;obtain⟨a3,c3,ak⟩:=l9 h.2.2.1;exact⟨a1,c1,a2,c2,a3,c3,ae,a9,ak,jd h.1 aS,jd h.2.1 aS,jd h.2.2.1 aS,h.2.2.2.1,h.2.2.2.2.1,h.2.2.2.2.2,O,k.size⟩
theorem IL(hb:∀i,nv bs i<256){i T t j r}
  (q:∀{w:World}{P n cap:Nat}{a:Option Addr},RdF w P a n cap (ni bs i) bs->Calls prog 30 #[hG P] w (SrO w P n cap a bs j t))
  (eC:∀{w:World}{a:Option Addr}{cap:Nat},TxA w a t.length t->t.length<=cap->Calls prog 29 #[.slice a t.length cap] w (PaZ w (w.heap.size+1) r))
  (bi:((nv bs i:Int)%4=0/\T=qS bs (ni bs i))\/((nv bs i:Int)%4=1/\∃st,r=.ok st/\T=(st.ins,st.vs.map sv,st.outs,j))\/((nv bs i:Int)%4=1/\∃p,r=.error (0,p)/\T=([],[],[],j))\/((nv bs i:Int)%4=1/\∃c p,c≠0/\r=.error (c,p)/\V (T=rsT bs j))\/((nv bs i:Int)%4≠0/\(nv bs i:Int)%4≠1/\V (T=rsT bs (ni bs i))))
  {w}{P n cap}{a} (C:RdF w P a n cap i bs):Calls prog 14 #[hG P] w (DgT w P a n cap bs T):=by
 have hP:=C.lt;have bH:=ez 0 0 w fp;have bD:V _:=jp _ P a n cap i bs (C.keep0 bH);have bo:V _:=bH;clear C bH;go_enter func14,ntmps14;go_upto_region 2 with (go_at_call 13;refine yai bD.o ?_;rintro e aD ⟨rfl,(aK:V _),an,-⟩;have bW:V (Kept P (P+1) w aD):=(fw bo.o).trans an;have aq:V (RB aD w.heap.size iR iR iR):=(fY w).kept an xaa;clear an);clear bD bo;rcases bi with⟨c4,b2⟩|⟨c4,st,ay,rfl⟩|⟨c4,p,ay,rfl⟩|⟨c4,c,p,ai,ay,HE⟩|⟨c0,c1,HE⟩
 ·have bf:V (Calls prog 28 #[hG P] aD (DgT aD P a n cap bs T)):=by rw[b2];exact Qg aK.o
  clear b2;go_wp2_with (go_at_call 28;refine yai bf.o ?_;rintro e aT ⟨a1,c1,a2,c2,a3,c3,vs,rfl,aj,d,Z,aM⟩;obtain⟨hb,(aP:V _)⟩:=DgF.up aq.o hP bW.o aj d Z aM;obtain⟨_,bn,aC,a0,bq,br,bC⟩:=hb;clear aj d Z aM);obtain⟨bk,a8,p2⟩:=fj aT w.heap.size _ _ _ bn aC a0 (.slice a1 T.1.length c1) (.slice a2 vs.length c2) (.slice a3 T.2.2.1.length c3);exact yay (v:=eZ a1 T.1.length c1 a2 vs.length c2 a3 T.2.2.1.length c3) (by simp[results,results14,go_sem,bk,a8,p2]) rfl aP.o
 ·subst ay;have f:V _:=q aK.o
  go_upto_region 6 with (first
   |(go_at_call 30;refine yai f.o ?_;rintro e aT ⟨g,b3,rfl,S,bV,(aH:V _),aM⟩;have cI:V _:=eC (BA bV) S;have aV:V _:=bW.o.trans aM;have cd:V _:=aq.o.kept aM xaa;clear S bV aM)
   |(go_at_call 29;refine yai cI.o ?_;rintro e b4 ⟨aZ,be,bz,rfl,b1,bS,b5,l,m,o,H,bZ⟩;obtain⟨a1,c1,a2,c2,a3,c3,ae,a9,ak,d⟩:=PT (Nat.le_succ _) bZ ⟨b1,bS,b5,l,m,o⟩ H.k;subst ae a9 ak;have HD:V _:=d;have bX:V _:=bZ;clear b1 bS b5 l m o H bZ d))
  have bc:=bX.o.trans (ez 0 0 b4 (.cells #[.slice a1 st.ins.length c1,.slice a2 st.vs.length c2,.slice a3 st.outs.length c3] 26));obtain⟨hb,(aP:V _)⟩:=DgF.up cd.o hP aV.o rfl (HD.o.keep (ez 0 0 b4 (.cells #[.slice a1 st.ins.length c1,.slice a2 st.vs.length c2,.slice a3 st.outs.length c3] 26))) (aH.o.keep0 bc) (fw bc);obtain⟨_,bn,aC,a0,bq,br,bC⟩:=hb;clear bc;go_wp2_with fail;obtain⟨bk,a8,p2⟩:=fj _ w.heap.size _ _ _ bn aC a0 (.slice a1 st.ins.length c1) (.slice a2 st.vs.length c2) (.slice a3 st.outs.length c3);exact yay (v:=eZ a1 st.ins.length c1 a2 st.vs.length c2 a3 st.outs.length c3) (by simp[results,results14,go_sem,bk,a8,p2]) rfl aP.o
 ·subst ay;have f:V _:=q aK.o
  go_upto_region 6 with (first
   |(go_at_call 30;refine yai f.o ?_;rintro e aT ⟨g,b3,rfl,S,bV,(aH:V _),aM⟩;have cI:V _:=eC (BA bV) S;have aV:V _:=bW.o.trans aM;have cd:V _:=aq.o.kept aM xaa;clear S bV aM)
   |(go_at_call 29;refine yai cI.o ?_;rintro e b4 ⟨rfl,(bX:V _)⟩))
  have b6:=ez 0 0 b4 fp;have bc:=bX.o.trans b6;have d:DG b4 aT.heap.size iR iR iR [] [] []:=⟨yav _ _ _ _,yav _ _ _ _,yav _ _ _ _,(λ_ h=>by cases h),(λ_ h=>by cases h),(λ_ h=>by cases h),(λ_ h=>by cases h),bX.o.size⟩
  obtain⟨hb,(aP:V _)⟩:=DgF.up (a1:=none) (a2:=none) (a3:=none) (c1:=0) (c2:=0) (c3:=0) (ins:=[]) (vs:=[]) (outs:=[]) (S:=[]) cd.o hP aV.o rfl (d.keep b6) (aH.o.keep0 bc) (fw bc);obtain⟨_,bn,aC,a0,bq,br,bC⟩:=hb;clear bc b6 d;go_wp2_with fail;obtain⟨bk,a8,p2⟩:=fj _ w.heap.size _ _ _ bn aC a0 iR iR iR;exact yay (v:=eZ none 0 0 none 0 0 none 0 0) (by simp[results,results14,go_sem,bk,a8,p2]) rfl aP.o
 ·subst ay;have f:V _:=q aK.o
  go_upto_region 6 with (first
   |(go_at_call 30;refine yai f.o ?_;rintro e aT ⟨g,b3,rfl,S,bV,(aH:V _),aM⟩;have cI:V _:=eC (BA bV) S;have aV:V _:=bW.o.trans aM;have cd:V _:=aq.o.kept aM xaa;clear S bV aM)
   |(go_at_call 29;refine yai cI.o ?_;rintro e b4 ⟨rfl,(bX:V _)⟩))
  have bc:=bX.o.trans (ez 0 0 b4 fp);go_upto_if 37 with fail
  refine wp_cond_false (congrArg Value.bool (yam ai)) (wp_skip ?_);exact(‹∀(a:Act) (w:World),Code.wp prog _ (bodyPost _ _ _) a w->_›) _ _ (IJ hb (aH.o.keep0 bc) (aV.o.trans (fw bc)) (cd.o.keep bc) hP HE.o)
 go_upto_if 28 with fail
 refine wp_cond_false (congrArg Value.bool (yam c1)) (wp_skip ?_);exact(‹∀(a:Act) (w:World),Code.wp prog _ (bodyPost _ _ _) a w->_›) _ _ (IJ hb aK.o bW.o aq.o hP HE.o)
variable {bs:List Int}
theorem dgD(hb:∀i,nv bs i<256)(i):∃T,∀{w:World}{P n cap:Nat}{a:Option Addr},RdF w P a n cap i bs->Calls prog 14 #[hG P] w (DgT w P a n cap bs T):=by
 obtain⟨t,j,a8,ad⟩:=Qf hb (ni bs i);obtain⟨r,aK⟩:=psD t a8;by_cases c0:nv bs i%4=0
 ·exact⟨_,λC=>IL hb ad aK (.inl ⟨by omega,rfl⟩) C⟩
 by_cases c1:nv bs i%4=1
 ·have ak:(nv bs i:Int)%4=1:=xaa;rcases r with⟨c,p⟩|st
  ·by_cases aj:c=0
   ·subst aj;exact⟨_,λC=>IL hb ad aK (.inr (.inr (.inl ⟨ak,p,rfl,rfl⟩))) C⟩
   exact⟨_,λC=>IL hb ad aK (.inr (.inr (.inr (.inl ⟨ak,c,p,aj,rfl,rfl⟩)))) C⟩
  exact⟨_,λC=>IL hb ad aK (.inr (.inl ⟨ak,st,rfl,rfl⟩)) C⟩
 exact⟨_,λC=>IL hb ad aK (.inr (.inr (.inr (.inr ⟨by omega,by omega,rfl⟩)))) C⟩
