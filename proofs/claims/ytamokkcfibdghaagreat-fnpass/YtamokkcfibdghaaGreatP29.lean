import Derived.Test.YtamokkcfibdghaaGreatP28
namespace Go.Proofs.Z
variable {Zp:Prop}
open Tryz
set_option maxRecDepth 1000000
set_option maxHeartbeats 0
section
open Go.RowKit Flt
attribute [local go_sem] eG eE eD
theorem xP(w a1 a2 a3 Y c1 U c2 aD Z c3 lo hi a n cap tq outs)(f:IBk w aD Z outs)(t:IS w lo hi a n tq)(aV:hi<=aD\/aD<lo)(h:∀o∈outs,0<=o/\o<n)(hn:Z<=1000000)(h3:0<Z->a3=some ⟨aD,0,none⟩):
  Calls prog 103 #[eZ a1 Y c1 a2 U c2 a3 Z c3,.slice a n cap] w λe J=>e=.returned (.tuple #[])/\IBk J aD Z (mI tq outs)/\Kept aD (aD+1) w J:=by
 have H:=ez 0 0 w (eY a1 Y c1 a2 U c2 a3 Z c3);have aI:V _:=fE w (.slice a1 Y c1) (.slice a2 U c2) (.slice a3 Z c3);have aP:V _:=f.keep H yaa;have bP:V _:=t.keep H yaa;have HL:V (outs.length=Z):=f.len;have a5:V (aD<w.heap.size):=f.lt;have HO:V _:=h;have bo:V (Kept aD (aD+1) w (w.alloc (eY a1 Y c1 a2 U c2 a3 Z c3))):=ez _ _ _ _;have H3:V _:=h3;clear f t h H h3;obtain⟨_,ba,aO,aR⟩:=aI.o;go_enter func103,ntmps103;go_wp2_with fail;clear ba aO aR;generalize w.alloc (eY a1 Y c1 a2 U c2 a3 Z c3)=aB at aI aP bP bo⊢;go_loopw [9] (λi W=>∃k:Nat,k<=Z/\i=hI k/\V (IBk W aD Z ((mI tq outs).take k++outs.drop k))/\V (Kept aD (aD+1) aB W)) (λi _=>Z-(intOf i).toNat)
 case atStart=>exact⟨0,Nat.zero_le _,rfl,by simpa using aP,Kept.refl _ _ _⟩
 case round=>
  obtain⟨k,O,rfl,bu,aH⟩:=hrel;clear aP;by_cases aF:k<Z
  ·obtain rfl:=H3.o xaa;have av:=HO.o (outs.getD k 0) (kY (hU HL.o aF));obtain⟨g,off,m,rfl,em,az,aW,a7⟩:=(IS.keep bP.o aH.o xaa).at_idx av.1 av.2;have ak:=bu.o.at_ k aF;rw[J6 (hU HL.o aF) (qI _ _),em]at ak;have co:=bu.o.free k;obtain⟨_,ba,aO,aR⟩:=G0.keepT aI.o aH.o (hR a5.o);have R1:V _:=IBk.put bu.o k aF (tq.getD (outs.getD k 0).toNat 0);rw[Gx (hU HL.o aF)]at R1;have R2:V _:=Kept.trans aH.o (eX (lo:=aD) (hi:=aD+1) wr ⟨aD,k,none⟩ (hI (tq.getD (outs.getD k 0).toNat 0)) yac);generalize tq.getD (outs.getD k 0).toNat 0=x at a7 R1 R2;clear bu aH av em;go_wp2_with fail;go_region
   all_goals
    go_wp2
    go_roundw
    case rel=>exact⟨k+1,by omega,by go_num,IBk.keep R1.o (eF _) yaa,Kept.drew R2.o⟩
    case measure=>simp[intOf];omega
  obtain rfl:k=Z:=xaa
  have R1:V (IBk wr aD k (mI tq outs)):=by
   have:=bu.o;rw[yao (by rw[qI,HL.o];omega),List.drop_of_length_le (hW HL.o),List.append_nil]at this;exact this
  have R2:V _:=Kept.trans bo.o aH.o;clear bu aH;go_wp2;go_end0
  exact⟨rfl,R1.o,R2.o⟩
theorem Kg(w a1 a2 a3 Y c1 ag U c2 aD Z c3 vs outs)(aL:VA w ag U vs)(av:IBk w aD Z outs)(bV:∀i,i<U->∀o∈eW (vs.getD i hM),0<=o/\o<i)(n:∀o∈outs,0<=o/\o<U)(hn:U<=2000)(cq:Z<=1000000)(R:0<U->a2=some ⟨ag,0,none⟩)(h3:0<Z->a3=some ⟨aD,0,none⟩):
  Calls prog 101 #[eZ a1 Y c1 a2 U c2 a3 Z c3] w λe J=>∃G,e=.returned (hH G U U)/\w.heap.size<=G/\BR J G (ndI vs outs U)/\Kept 0 0 w J:=by
 have H:=ez 0 0 w (eY a1 Y c1 a2 U c2 a3 Z c3);have aS:=fE w (.slice a1 Y c1) (.slice a2 U c2) (.slice a3 Z c3);have bp:(w.alloc (eY a1 Y c1 a2 U c2 a3 Z c3)).heap.size=w.heap.size+1:=by simp
 have az:=Ff U (w.alloc (eY a1 Y c1 a2 U c2 a3 Z c3)) xaa;have f:=BR.made (w.alloc (eY a1 Y c1 a2 U c2 a3 Z c3)) U;have an:=ez 0 0 (w.alloc (eY a1 Y c1 a2 U c2 a3 Z c3)) (.cells (madeCells #[.bool false] U) 4);rw[bp]at az f;have aI:V _:=aS.keep an;have bT:V _:=aL.keep (H.trans an) yaa;have HO:V _:=av.keep (H.trans an) yaa;have HK:V _:=H.trans an;have s:V _:=f;have HL:V (vs.length=U/\outs.length=Z):=⟨aL.len,av.len⟩
 have a5:V (ag<w.heap.size/\aD<w.heap.size):=⟨aL.lt,av.lt⟩
 have aW:V ((∀i,i<U->∀o∈eW (vs.getD i hM),0<=o/\o<i)/\(∀o∈outs,0<=o/\o<U)):=⟨bV,n⟩
 have H2:V _:=R;have H3:V _:=h3;clear R h3 aL av bV n H an f bp;obtain⟨_,ba,aO,aR⟩:=aS;obtain⟨_,bk,a8,p2⟩:=aI.o;go_enter func101,ntmps101;go_wp2_with fail;clear ba aO aR bk a8 p2 az;generalize (w.alloc (eY a1 Y c1 a2 U c2 a3 Z c3)).alloc (.cells (madeCells #[.bool false] U) 4)=aB at aI bT HO HK s⊢;go_loopw [16] (λi W=>∃k:Nat,k<=Z/\i=hI k/\V (BR W (w.heap.size+1) (jz (List.replicate U false) (outs.take k)))/\V (Kept (w.heap.size+1) (w.heap.size+2) aB W)) (λi _=>Z-(intOf i).toNat)
 case atStart=>exact⟨0,Nat.zero_le _,rfl,s,Kept.refl _ _ _⟩
 case round=>
  obtain⟨k,O,rfl,bu,aH⟩:=hrel;clear s;by_cases aF:k<Z
  ·obtain rfl:=H3.o xaa;have u:=aW.o.2 (outs.getD k 0) (kY (hU HL.o.2 aF));obtain⟨m,em,az⟩:∃m:Nat,outs.getD k 0=m/\m<U:=⟨(outs.getD k 0).toNat,by omega,by omega⟩
   have ak:=(IBk.keep HO.o aH.o (hR a5.o)).at_ k aF;rw[em]at ak;have ah:(jz (List.replicate U false) (outs.take k)).length=U:=by rw[nj];simp
   have c2':=bu.o.cell m xaa;have co:=bu.o.free m;have R1:V _:=BR.set bu.o m true;rw[show m=(outs.getD k 0).toNat by omega,<-r7 _ _ (hU HL.o.2 aF),<-show m=(outs.getD k 0).toNat by omega]at R1;have R2:V _:=Kept.trans aH.o (eX (lo:=w.heap.size+1) (hi:=w.heap.size+2) wr ⟨w.heap.size+1,m,none⟩ (.bool true) yac);generalize (jz (List.replicate U false) (outs.take k)).getD m false=z at c2';clear bu aH u em ah;exact xer
  obtain rfl:k=Z:=xaa
  have l:V (BR wr (w.heap.size+1) (ndI vs outs 0)):=by
   have:=bu.o;rw[yao (hW HL.o.2)]at this;show BR _ _ _;rw[ndI,HL.o.1];exact this
  have bo:V _:=aH.o;clear bu aH;obtain⟨_,bk,a8,p2⟩:=G0.keepT aI.o bo.o xaa;go_wp2_with fail;clear bk a8 p2;go_loopw [6] (λx W=>∃j:Nat,j<=U/\x=hI ((U:Int)-1-j)/\V (BR W (w.heap.size+1) (ndI vs outs j))/\V (Kept (w.heap.size+1) (w.heap.size+2) aB W)) (λx _=>(intOf x+1).toNat)
  case atStart=>exact⟨0,Nat.zero_le _,by go_num,l,bo⟩
  case round=>
   obtain⟨j,hj,rfl,bu,aH⟩:=hrel;clear l bo;by_cases aF:j<U
   ·obtain rfl:=H2.o xaa;have y:U-1-j<U:=xaa;obtain⟨i,hi⟩:∃i:Nat,i=U-1-j:=⟨_,rfl⟩
    have aA:(U:Int)-1-j=i:=xaa;have g:i<U:=xaa;rw[aA];have bw:V (i=U-1-j):=hi;have S:V ((U:Int)-1-j=i):=aA;clear hi aA y;have bf:=qr vs outs j;have b5:=bu.o.cell i (by rw[bf,HL.o.1];exact g);cases hb:(ndI vs outs j).getD i false
    ·have R1:V (BR wr (w.heap.size+1) (ndI vs outs (j+1))):=by
      show BR _ _ _;rw[zE (b:=false) (by rw[HL.o.1,<-bw.o];exact hb),hJ xac];exact bu.o
     have R2:V _:=aH.o;rw[hb]at b5;clear bu aH bf hb;exact xhp
    rw[hb]at b5;have bg:=(VA.keep bT.o aH.o (hR a5.o)).at_ i g;have a9:V _:=aW.o.1 i g
    have bD:V (ndI vs outs (j+1)=jz (ndI vs outs j) (eW (vs.getD i hM))):=by
     show _=_;rw[zE (b:=true) (by rw[HL.o.1,<-bw.o];exact hb),hK rfl,HL.o.1,<-bw.o]
    have al:V ((ndI vs outs j).length=U):=by show _=_;rw[bf,HL.o.1]
    generalize vs.getD i hM=v at bg a9 bD;obtain⟨bh,aU,aY,bW,b9,cj⟩:=bg;obtain⟨_,bk,a8,p2⟩:=G0.keepT aI.o aH.o xaa;clear hb bf;go_wp2_with fail;clear bh aU aY bW b9 cj bk a8 p2 b5;refine yai (m9 wr v) ?_;rintro e af ⟨I,rfl,(bX:V _),C,ao⟩;have bN:V _:=Kept.trans aH.o (ao.mono (lo':=w.heap.size+1) (hi':=w.heap.size+2) λb _ c=>by omega);have aK:V _:=BR.keep bu.o ao yaa;have cz:V (w.heap.size+2<=wr.heap.size):=bu.o.lt;clear C ao bu aH;generalize ndI vs outs j=F at aK bD al;have ai:=gK v.op;go_wp2_with fail;go_loopw [44] (λx W=>∃q:Nat,q<=cnt v.op/\x=hI q/\V (BR W (w.heap.size+1) (jz F ((eW v).take q)))/\V (Kept (w.heap.size+1) (w.heap.size+2) aB W)/\V (IS W wr.heap.size af.heap.size (some ⟨I,0,none⟩) (cnt v.op) (eW v))) (λx _=>cnt v.op-(intOf x).toNat)
    case atStart=>exact⟨0,Nat.zero_le _,rfl,aK,bN,bX⟩
    case round=>
     obtain⟨q,aq,rfl,bu,aH,bB⟩:=hrel;clear aK bN bX;by_cases B:q<cnt v.op
     ·have h:(eW v).getD q 0∈eW v:=kY (by rw[jP];exact B);have u:=a9.o _ h;obtain⟨m,em,az⟩:∃m:Nat,(eW v).getD q 0=m/\m<U:=⟨((eW v).getD q 0).toNat,by omega,by omega⟩
      obtain⟨aG,bF,bH,b1,r,_,_,ak⟩:=bB.o.at_idx (o:=q) xaa xaa;cases b1;rw[Int.toNat_natCast,em,Nat.zero_add]at ak;obtain rfl:q=bH:=xaa;have ah:(jz F ((eW v).take q)).length=U:=by rw[nj];exact al.o
      have c2':=bu.o.cell m xaa;have co:=bu.o.free m;have R1:V _:=BR.set bu.o m true;rw[show m=((eW v).getD q 0).toNat by omega,<-r7 _ _ (by rw[jP];exact B),<-show m=((eW v).getD q 0).toNat by omega]at R1;have K:=eX (lo:=w.heap.size+1) (hi:=w.heap.size+2) wr ⟨w.heap.size+1,m,none⟩ (.bool true) yac;have R2:V _:=Kept.trans aH.o K;have R3:V _:=IS.keep bB.o K (hR cz.o);generalize (jz F ((eW v).take q)).getD m false=z at c2';clear bu aH bB u em ah K h;go_wp2;go_roundw
      case rel=>exact⟨q+1,by omega,by go_num,R1,R2,R3⟩
      case measure=>simp[intOf];omega
     obtain rfl:q=cnt v.op:=xaa
     have R1:V (BR wr (w.heap.size+1) (ndI vs outs (j+1))):=by
      have:=bu.o;rw[yao (by rw[jP];omega)]at this;show BR _ _ _;rw[bD.o];exact this
     have R2:V _:=aH.o;clear bu aH bB;exact xhp
   obtain rfl:j=U:=xaa;have au:(j:Int)-1-j=-1:=xaa;rw[au];have R1:V _:=bu.o;have R2:V (Kept 0 0 w wr):=HK.o.new aH.o xaa;clear bu aH;go_wp2;go_ret;exact⟨_,rfl,by omega,R1.o,R2.o⟩
def POg (w:World)(b1 b3:Option Addr)(g1 n1 c1 g2 g3 n3 c3:Nat)(ins:List Int)(M:List Vl×List Int)(e:Ending)(w':World):Prop:=
 ∃G2 n2 c2 us,e=.returned (eZ b1 n1 c1 (some ⟨G2,0,none⟩) n2 c2 b3 n3 c3)/\PG w' g1 G2 g3 n1 n2 n3 ins us M.2/\us=M.1/\Kb us/\Chg (λb=>b=g2\/b=g3) w w'/\(G2=g2\/w.heap.size<=G2)
theorem dK.qfq(h:Zp:=by
 have H3:V _:=h3;clear R h3 hP P cf l co aL av cl cF C bp H an p aS bu;obtain⟨_,ba,aO,aR⟩:=aI.o;go_enter func64,ntmps64;go_wp2_with fail;clear ba aO aR;generalize (w.alloc (eY N Y c1 aA U c2 ab Z c3)).alloc fp=aB at aI aP HR aW HK X ah⊢;refine yai ah.o ?_;rintro e af ⟨G,rfl,bq,f,ao⟩;have az:=pJ U af xaa;have bi:=IR.made af U;have aM:=ez 0 0 af (.cells (madeCells #[hI 0] U) 3);have z:(af.alloc (.cells (madeCells #[hI 0] U) 3)).heap.size=af.heap.size+1:=by simp
 have bZ:=ez 0 0 (af.alloc (.cells (madeCells #[hI 0] U) 3)) (.cells #[] 53);have al:=World.ownsRow_made (base:=af.heap.size+1) (e:=53) (size:=6) (af.alloc (.cells (madeCells #[hI 0] U) 3)) #[] 0 xaa (by unfold maxLen;omega) rfl;rw[z]at al;have ch:V _:=aI.o.keep (ao.trans (aM.trans bZ));have a6:V _:=HR.o.keep (ao.trans (aM.trans bZ));have cW:V _:=aP.o.keep (ao.trans (aM.trans bZ));have a7:V _:=aW.o.keep (ao.trans (aM.trans bZ));have bX:V _:=HK.o.trans (ao.trans (aM.trans bZ));have s:V _:=f.keep (aM.trans bZ) yaa;have ce:V (w.heap.size+1+1<=af.heap.size/\G<af.heap.size/\((af.alloc (.cells (madeCells #[hI 0] U) 3)).alloc (.cells #[] 53)).heap.size=af.heap.size+1+1):=⟨hS X.o ao.size,f.lt,by simp⟩
 have ae:V (DI ((af.alloc (.cells (madeCells #[hI 0] U) 3)).alloc (.cells #[] 53)) ((af.alloc (.cells (madeCells #[hI 0] U) 3)).alloc (.cells #[] 53)) af.heap.size U (af.heap.size+1) (af.heap.size+1) 0 (iJ (ndI vs outs U) vs 0)):=
  ⟨by rw[iJ,HL.o];exact bi.keep bZ yaa,by rw[iJ,HL.o];simp,al,Chg.refl _ _,by simp⟩
 obtain⟨_,ba,aO,aR⟩:=aI.o.keep ao;obtain⟨_,s0,ax,aN⟩:=ch.o;clear ah f ao aM bZ al bi z aI HR aW HK;go_wp2_with fail;clear ba aO aR s0 ax aN az bq;generalize (af.alloc (.cells (madeCells #[hI 0] U) 3)).alloc (.cells #[] 53)=bm at ch cW a6 a7 bX s ce ae⊢;go_loopw [5,18] (λcn x W=>∃i gk cap:Nat,i<=U/\cn=hH gk (iJ (ndI vs outs U) vs i).1.length cap/\x=hI i/\V (DI W bm af.heap.size U (af.heap.size+1) gk cap (iJ (ndI vs outs U) vs i))) (λ_ x _=>U-(intOf x).toNat)
 case atStart=>exact⟨0,af.heap.size+1,0,Nat.zero_le _,rfl,rfl,ae⟩
 case round=>
  obtain⟨i,gk,cap,hi,rfl,rfl,bf⟩:=hrel;clear ae;by_cases aF:i<U
  ·obtain rfl:=H2.o xaa;have cx:bm.heap.size<=wr.heap.size:=bf.o.ch.size;have b4:=ce.o;have m:VA wr ag U vs:=a7.o.v.keepC bf.o.ch (hR a5.o);have bg:=m.at_ i aF;have bV:=jl (bT.o i aF);have ct:V _:=bg;have O:BR wr G (ndI vs outs U):=BR.keepC s.o bf.o.ch xaa;have ap:(ndI vs outs U).length=U:=by rw[qr];exact HL.o
   have b5:=O.cell i xaa;have am:=BR.keep O (ez 0 0 wr (eK (vs.getD i hM).op (vs.getD i hM).len (vs.getD i hM).a (vs.getD i hM).b (vs.getD i hM).c (vs.getD i hM).k)) yaa;have r:=am.cell i xaa;have n:=tW (ndI vs outs U) vs i;cases hb:(ndI vs outs U).getD i false
   ·have aa:V (∀W,Kept 0 0 wr W->DI W bm af.heap.size U (af.heap.size+1) gk cap (iJ (ndI vs outs U) vs (i+1))):=λW Q=>by rw[zG hb];exact bf.o.stay Q
    have HE:V (iJ (ndI vs outs U) vs (i+1)=iJ (ndI vs outs U) vs i):=zG hb;rw[hb]at b5 r;generalize vs.getD i hM=v at bg r;obtain⟨bh,aU,aY,bW,b9,cj⟩:=bg;clear hb ap n bV m O am bf ct;go_wp2;go_roundw
    case rel=>exact⟨i+1,gk,cap,by omega,by rw[HE.o],by go_num,aa.o _ (ez 0 0 _ _)⟩
    case measure=>simp[intOf];omega
   rw[hb]at b5 r;have HE:V _:=J8 (vs:=vs) hb;generalize aL:vs.getD i hM=v at bg r ct HE bV;generalize aT:iJ (ndI vs outs U) vs i=S at bf HE n;have ej:V _:=bf.o;have cR:S.1.length<=2000:=xaa;have aQ:V (S.2.length=U):=bf.o.tl
   have aV:V (∀W,Kept 0 0 ((wr.alloc (eK v.op v.len v.a v.b v.c v.k)).setCell ⟨af.heap.size,i,none⟩ (hI (S.1.length:Nat))) W->Calls prog 102 #[v.agg,hH af.heap.size U U] W λe J=>e=.returned (rnm (S.2.set i (S.1.length:Nat)) v).agg/\Kept 0 0 W J):=λW Q=>
    BM W v _ _ (some ⟨af.heap.size,0,none⟩) U U _ (IR.isAt (IR.keep (IR.set (IR.keep bf.o.tq (ez 0 0 wr (eK v.op v.len v.a v.b v.c v.k)) yaa) i (S.1.length:Nat)) Q yaa) (by rw[List.length_set];exact bf.o.tl)) (λo h=>hR (bV o h))
   have t:=IR.keep bf.o.tq (ez 0 0 wr (eK v.op v.len v.a v.b v.c v.k)) yaa;have ck:=IR.cell t i (hU aQ.o aF);have cd:=IR.free t i;generalize S.2.getD i 0=cy at ck;have bv:V (At (wr.alloc (eK v.op v.len v.a v.b v.c v.k)) wr.heap.size 0 v):=jF wr v;have bb:af.heap.size≠wr.heap.size:=xaa;have cu:=eI bf.o.own (k:=gk) rfl;have u:V (af.heap.size+1<=gk/\af.heap.size+1<=wr.heap.size):=⟨cu.1,bf.o.bz⟩
   generalize rnm (S.2.set i (S.1.length:Nat)) v=nv at HE aV;have aw:=eX (lo:=af.heap.size) (hi:=af.heap.size+1) (wr.alloc (eK v.op v.len v.a v.b v.c v.k)) ⟨af.heap.size,i,none⟩ (hI (S.1.length:Nat)) yac;obtain⟨bL,bI,bJ,cb,ci,bx⟩:=At.keep bv.o xac aw xaa;obtain⟨bM,aZ,be,bz,bE,bl⟩:=bv.o;simp only[Nat.zero_add]at bI bJ cb ci bx aZ be bz bE bl;obtain⟨bh,aU,aY,bW,b9,cj⟩:=bg;have ak:V _:=(bf.o.own)
   clear hb ap n bV m O am t cu aL ct aw;go_wp2_with fail;refine yai (aV.o _ (Kept.refl _ _ _)) ?_;rintro e cc ⟨rfl,(aq:V _)⟩;have aH:V _:=(e8 (eJ (o:=i) (u:=hI (S.1.length:Nat)) (ej.o.own.alloc (eK v.op v.len v.a v.b v.c v.k)) (P:=af.heap.size) (λc=>by have:=u.o;simp[Value.ownBlock]at c;omega)) aq.o).alloc (.cells #[hI nv.op,hI nv.len,hI nv.a,hI nv.b,hI nv.c,.float .f64 nv.k] 53);have b1:V _:=yG cc nv 0;have bj:af.heap.size+1<=cc.heap.size:=by have B:=aq.o.size;have R:=u.o;simp at B;omega
   clear bL bI bJ cb ci bx bh aU aY bW b9 cj bM aZ be bz bE bl ck cd b5 r;go_wp2_with (first|(at_builtin;refine wpList_append_lies _ rfl _ _ 24 rfl (af.heap.size+1) 53 bK (ii 0 0 0 0 0 0) 6 48 underlying24 a9 bU bO bR rfl xab _ _ _ (by rfl) aH.o ⟨cc.heap.size,0,none⟩ 1 1 nv.cells (by rfl) rfl b1.o (CS nv) xab (by unfold maxLen;omega) xaa yaf (cc.heap.size+1) xac ?_;intro g9 cap9 bo bB bw b7 cA));have aa:V _:=DI.next ej.o (ez 0 0 wr (eK v.op v.len v.a v.b v.c v.k)) aq.o yae bB bw u.o.1;clear bB bw b7 cA;go_roundw
   case rel=>exact⟨i+1,g9,cap9,by omega,by rw[HE.o];simp,by go_num,hU HE.o aa⟩
   case measure=>simp[intOf];omega
  obtain rfl:i=U:=xaa;have cx:bm.heap.size<=wr.heap.size:=bf.o.ch.size;have b4:=ce.o;have n:=tW (ndI vs outs i) vs i;obtain⟨(bS:V _),ar⟩:=AH bf.o.own rfl;have g:V (IS wr af.heap.size (af.heap.size+1) (some ⟨af.heap.size,0,none⟩) i (iJ (ndI vs outs i) vs i).2):=IR.isAt bf.o.tq bf.o.tl;have bQ:V _:=G0.keepC ch.o bf.o.ch xaa;have cw:V _:=RB.keepC a6.o bf.o.ch xaa;have aG:V _:=RB.keepC cW.o bf.o.ch xaa;have b2:V _:=IBk.keepC a7.o.i bf.o.ch (hR a5.o);have b3:V _:=IBk.keepC a7.o.o bf.o.ch (hR a5.o);have b6:V _:=xP wr N aA ab Y c1 i c2 aD Z c3 _ _ _ i i (iJ (ndI vs outs i) vs i).2 outs b3.o g.o (hR a5.o) cz.o xaa H3.o;have I:V (Chg (λb=>b=ag\/b=aD) w wr):=Chg.new bX.o.chg bf.o.ch (λb hb c=>by omega);have dp:V (af.heap.size+1<=gk):=ar;have ad:V (pz vs outs=((iJ (ndI vs outs i) vs i).1,mI (iJ (ndI vs outs i) vs i).2 outs)):=by show _=_;unfold pz;rw[HL.o]
  have q:V _:=qG cg.o (ndI vs outs i) i;clear bf ar;obtain⟨_,bk,a8,p2⟩:=bQ.o;go_wp2_with fail;clear bk a8 p2;refine yai b6.o ?_;rintro e bA ⟨rfl,bD,ao⟩;generalize aX:iJ (ndI vs outs i) vs i=S at bS g ad q bD n⊢;have y:V _:=G0.keepT bQ.o ao (hR a5.o);have cr:V _:=bS.o.keep ao (hS a5.o dp.o);have bY:V _:=b2.o.keep ao (hR a5.o);have ai:V _:=bD;have bN:V (Chg (λb=>b=ag\/b=aD) w bA):=Chg.trans I.o (ao.chg1 (.inr rfl));have aJ:V _:=RB.keepC cw.o (ao.chg1 (S:=λb=>b=aD) rfl) (hR a5.o);have aK:V _:=RB.keepC aG.o (ao.chg1 (S:=λb=>b=aD) rfl) (hR a5.o);clear bD b6 bQ bS g b2 b3 I aX;obtain⟨_,bk,a8,p2,ay,bc,bd⟩:=aK.o;obtain⟨_,bn,aC,a0,bG,f1,f2⟩:=aJ.o;have au:w.heap.size+1≠w.heap.size:=xaa;go_wp2_with fail;have F:=eX (lo:=w.heap.size) (hi:=w.heap.size+1) bA ⟨w.heap.size,1,none⟩ (hH gk S.1.length cap) yac;have aj:=RB.keepC aJ.o (F.chg1 (S:=λb=>b=w.heap.size) rfl) xaa;obtain⟨bh,aU,aY⟩:=fj (bA.setCell ⟨w.heap.size,1,none⟩ (hH gk S.1.length cap)) (w.heap.size+1) _ _ _ aj.q0 aj.q1 aj.q2 (.slice N Y c1) (hH gk S.1.length cap) (.slice ab Z c3);have K:=ft (bA.setCell ⟨w.heap.size,1,none⟩ (hH gk S.1.length cap)) (w.heap.size+1) (.slice N Y c1) (hH gk S.1.length cap) (.slice ab Z c3);refine yay (v:=eZ N Y c1 (some ⟨gk,0,none⟩) S.1.length cap ab Z c3) (by simp[results,results64,go_sem,bh,aU,aY]) rfl ⟨gk,S.1.length,cap,S.1,rfl,⟨?_,?_,?_,?_,?_,?_⟩,?_,q.o,?_,.inr (hR dp.o)⟩
  ·exact(bY.o.keep F (hR a5.o)).keep K (hR a5.o)
  ·exact(cr.o.keep F (hR dp.o)).keep K (hR dp.o)
  ·rw[ad.o];exact(ai.o.keep F (hR a5.o)).keep K (hR a5.o)
  ·have:=a5.o;have:=dp.o;omega
  ·exact a5.o.2.2.2.2.1
  ·have:=a5.o;have:=dp.o;omega
  ·rw[ad.o]
  exact Chg.new (Chg.new bN.o (F.chg1 (S:=λb=>b=w.heap.size) rfl) (λb hb c=>by omega)) (K.chg1 (S:=λb=>b=w.heap.size+1) rfl) (λb hb c=>by omega)):Zp:=h
open dK in
theorem Pn(w N aA ab br Y c1 ag U c2 aD Z c3 ins vs outs)(hP:PG w br ag aD Y U Z ins vs outs)(P:okG ins vs outs=true)(p:Kb vs)(R:0<U->aA=some ⟨ag,0,none⟩)(h3:0<Z->ab=some ⟨aD,0,none⟩):
  Calls prog 64 #[eZ N Y c1 aA U c2 ab Z c3] w λe J=>POg w N ab br Y c1 ag aD Z c3 ins (pz vs outs) e J:=by
 obtain⟨bK,a9,bU,bO,bR⟩:=info_parts sV;obtain⟨⟨cf,l,co⟩,_,aL,av,_⟩:=gz P;have cl:vs.length=U:=hP.v.len;have cF:outs.length=Z:=hP.o.len;have b8:U<=2000:=xaa;have cq:Z<=50:=xaa;have bT:V (∀j,j<U->okV ins vs j=true):=λj hj=>aL j xaa;have cz:V (∀o∈outs,0<=o/\o<U):=λo h=>hR (av o h)
 have HL:V (vs.length=U):=cl;have cg:V _:=p;have H:=ez 0 0 w (eY N Y c1 aA U c2 ab Z c3);have aS:=fE w (.slice N Y c1) (.slice aA U c2) (.slice ab Z c3);have bu:=GD w (.slice N Y c1) (.slice aA U c2) (.slice ab Z c3);have bp:(w.alloc (eY N Y c1 aA U c2 ab Z c3)).heap.size=w.heap.size+1:=by simp
 have an:=ez 0 0 (w.alloc (eY N Y c1 aA U c2 ab Z c3)) fp;have C:=fY (w.alloc (eY N Y c1 aA U c2 ab Z c3));rw[bp]at C;have aI:V _:=aS.keep an;have aP:V _:=bu.keep an;have HR:V _:=C;have aW:V _:=hP.keep (H.trans an);have HK:V _:=H.trans an;have X:V (((w.alloc (eY N Y c1 aA U c2 ab Z c3)).alloc fp).heap.size=w.heap.size+1+1):=by show _=_;simp
 have ah:V _:=Kg ((w.alloc (eY N Y c1 aA U c2 ab Z c3)).alloc fp) N aA ab Y c1 ag U c2 aD Z c3 vs outs (hP.v.keep (H.trans an) yaa) (hP.o.keep (H.trans an) yaa) (λi hi=>jl (aL i xaa)) (λo h=>hR (av o h)) b8 xaa R h3;exact qfp
end
section
open Go.RowKit Flt Go.Maps
attribute [local go_sem] eG eE eD
theorem Kh(w N aA ab br Y c1 ag U c2 aD Z c3 p ins vs outs S)(z:Nat->World->Prop)(hP:PG w br ag aD Y U Z ins vs outs)(P:okG ins vs outs=true)
  (aT:∀b,S b->b<w.heap.size/\b≠br/\b≠ag/\b≠aD) (aj:z 0 w) (bB:∀i W W',z i W->Chg (λb=>b=ag\/w.heap.size<=b) W W'->z i W')
  (ap:∀i W,i<U->z i W->VA W ag U ((fh p vs (i+1)).1++vs.drop (i+1))->Calls prog 109 #[hH ag U c2,hI (i:Nat)] W λe J=>e=.returned (hI (gi p (fh p vs i).1 (rnm (fh p vs i).2 (vs.getD i hM)) i))/\Chg S W J/\z (i+1) J) (R:0<U->aA=some ⟨ag,0,none⟩) (h3:0<Z->ab=some ⟨aD,0,none⟩):
  Calls prog 104 #[eZ N Y c1 aA U c2 ab Z c3,.func (.func 109) #[] #[]] w λe J=>
   e=.returned (eZ N Y c1 aA U c2 ab Z c3)/\PG J br ag aD Y U Z ins (eqM p vs outs).1 (eqM p vs outs).2/\Chg (λb=>b=ag\/b=aD\/S b) w J:=by
 exact xad
theorem GI(w N aA ab br Y c1 ag U c2 aD Z c3 p ins vs outs S)(z:Nat->World->Prop)(hP:PG w br ag aD Y U Z ins vs outs)(P:okG ins vs outs=true)
  (aT:∀b,S b->b<w.heap.size/\b≠br/\b≠ag/\b≠aD) (aj:z 0 w) (bB:∀i W W',z i W->Chg (λb=>b=ag\/w.heap.size<=b) W W'->z i W')
  (ap:∀i W,i<U->z i W->VA W ag U ((fh p vs (i+1)).1++vs.drop (i+1))->Calls prog 110 #[hH ag U c2,hI (i:Nat)] W λe J=>e=.returned (hI (gi p (fh p vs i).1 (rnm (fh p vs i).2 (vs.getD i hM)) i))/\Chg S W J/\z (i+1) J) (R:0<U->aA=some ⟨ag,0,none⟩) (h3:0<Z->ab=some ⟨aD,0,none⟩):
  Calls prog 104 #[eZ N Y c1 aA U c2 ab Z c3,.func (.func 110) #[] #[]] w λe J=>
   e=.returned (eZ N Y c1 aA U c2 ab Z c3)/\PG J br ag aD Y U Z ins (eqM p vs outs).1 (eqM p vs outs).2/\Chg (λb=>b=ag\/b=aD\/S b) w J:=by
 exact xad
theorem Ki(w N aA ab br Y c1 ag U c2 aD Z c3 bq p ins vs outs S)(z:Nat->World->Prop)(hP:PG w br ag aD Y U Z ins vs outs)(P:okG ins vs outs=true)
  (aT:∀b,S b->b<w.heap.size/\b≠br/\b≠ag/\b≠aD) (aj:z 0 w) (bB:∀i W W',z i W->Chg (λb=>b=ag\/w.heap.size<=b) W W'->z i W')
  (ap:∀i W,i<U->z i W->VA W ag U ((fh p vs (i+1)).1++vs.drop (i+1))->Calls prog 105 #[hH ag U c2,hI (i:Nat),hG bq] W λe J=>e=.returned (hI (gi p (fh p vs i).1 (rnm (fh p vs i).2 (vs.getD i hM)) i))/\Chg S W J/\z (i+1) J) (R:0<U->aA=some ⟨ag,0,none⟩) (h3:0<Z->ab=some ⟨aD,0,none⟩):
  Calls prog 104 #[eZ N Y c1 aA U c2 ab Z c3,.func (.func 105) #[] #[hG bq]] w λe J=>
   e=.returned (eZ N Y c1 aA U c2 ab Z c3)/\PG J br ag aD Y U Z ins (eqM p vs outs).1 (eqM p vs outs).2/\Chg (λb=>b=ag\/b=aD\/S b) w J:=by
 exact xad
end
section
open Go.RowKit Flt
attribute [local go_sem] eG eE eD
theorem NK{w W N ab m1 ae m3 ak base cap vs o Q r u X aa R'}{ag j:Nat}{l d c0 c1 c2 c5 ar av B ah m Y aP az aL aF I R aq}(ad:V (MS w W N m1 ae ab m3 ak vs ⟨o,Q,(j:Int),r,u,X⟩ base aa R' (some ⟨ag,0,none⟩) cap))(au:vs.length<=900000)(hj:j<vs.length)(ao:(vs.getD j hM).len=l):PfC 30 W (MpR w N m1 ae ab m3 ak vs ⟨o,Q,(j:Int),r,u,X⟩ base aa (eL 10 l d 0 0)) c0 c1 c2 (hI d) (hG w.heap.size) c5 ar av B ah m (hG (w.heap.size+1+1)) Y aP az aL aF I R aq ah m:=by
 unfold PfC;intros;rename_i HK;have bl:V (∀aD,Kept 0 0 W aD->_):=λaD k=>MS.call ad.o k (eL 10 l d 0 0) xaa;have s0:=ad.o.g.c0;have ax:=ad.o.g.c1;have aN:=ad.o.g.c2;have bd:=ad.o.v.c2;exact xcu
