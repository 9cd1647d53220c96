import Derived.Test.YtcjhlkdleojbjaaGreatP54
import Derived.Test.YtcjhlkdleojbjaaGreatP46
import Derived.Test.YtcjhlkdleojbjaaGreatP51
namespace Go.Proofs.Z
open YtcjhlkdleojbjaaGreat
open Tryz
set_option maxRecDepth 1000000
set_option maxHeartbeats 0
section
open Go.RowKit Flt
attribute[local go_sem] eF eE eD
variable{w I:World}{J l h Q n cap c1 m c2 c3:Nat}{u1 u2 u3:Value}{xs bJ ins outs:List Int}{T:List Int×List Vl×List Int×Nat}{a1 a U a3:Option Addr}{vs us:List Vl}
variable{bs:List Int}
theorem Ql{W}{st:LSt}{aQ a8 bi}(aT:w.heap.size<=J)(k:Kept 0 0 w W)(h:W.ownsRow J 3 1 aQ st.ins.length (st.ins.map (Value.int .i64))/\W.ownsRow J 62 6 a8 st.vs.length (fF st.vs)/\W.ownsRow J 3 1 bi st.outs.length (st.outs.map (Value.int .i64))/\Apart aQ a8/\Apart aQ bi/\Apart a8 bi)(O:∀v∈st.vs,v.k<18446744073709551616):∃a1 c1 U c2 a3 c3,aQ=.slice a1 st.ins.length c1/\a8=.slice U st.vs.length c2/\bi=.slice a3 st.outs.length c3/\DG W w.heap.size aQ a8 bi st.ins st.vs st.outs:=by
 obtain⟨a1,c1,ae⟩:=im h.1;obtain⟨U,c2,a9⟩:=im h.2.1;obtain⟨a3,c3,ai⟩:=im h.2.2.1;exact⟨_,_,_,_,_,_,ae,a9,ai,iE h.1 aT,iE h.2.1 aT,iE h.2.2.1 aT,h.2.2.2.1,h.2.2.2.2.1,h.2.2.2.2.2,O,k.size⟩
theorem JE(hb:∀i,nv bs i<256){i t j r}
  (y:∀{w:World}{P n cap:Nat}{a:Option Addr},RdF w P a n cap (ni bs i) bs->Calls prog 42 #[hy P] w (SrO w P n cap a bs j t))
  (d5:∀{w:World}{a:Option Addr}{cap:Nat},TxA w a t.length t->t.length<=cap->Calls prog 41 #[.slice a t.length cap] w (PaZ w (w.heap.size+1) r))
  (bd:((nv bs i:Int)%4=0/\T=qL bs (ni bs i))\/((nv bs i:Int)%4=1/\∃st,r=.ok st/\T=(st.ins,st.vs.map sv,st.outs,j))\/((nv bs i:Int)%4=1/\∃p,r=.error (0,p)/\T=([],[],[],j))\/((nv bs i:Int)%4=1/\∃c p,c≠0/\r=.error (c,p)/\E (T=rsT bs j))\/((nv bs i:Int)%4≠0/\(nv bs i:Int)%4≠1/\E (T=rsT bs (ni bs i))))
 {P} (K:RdF w P a n cap i bs):Calls prog 16 #[hy P] w (DgT w P a n cap bs T):=by
  have hP:=K.lt;have bh:=ez 0 0 w fJ;have bm:E _:=iX _ P a n _ i _ (K.keep0 bh);have s:E _:=bh;clear K bh;go_enter func16,ntmps16;go_upto_region 2 with (go_at_call 15;refine yaj bm.o ?_;rintro e az ⟨rfl,(aj:E _),aw,-⟩;have bX:E _:=(e8 s.o).trans aw;have ar:E (RB _ _ iz iz iz):=(iN w).kept aw xaa;clear aw);clear bm s;rcases bd with⟨c4,au⟩|⟨c4,st,aD,rfl⟩|⟨c4,p,aD,rfl⟩|⟨c4,c,p,ah,aD,HE⟩|⟨c0,c1,HE⟩
  ·have bl:E (Calls prog 40 #[hy P] az (DgT az P a n cap bs T)):=by rw[au];exact QC aj.o
   clear au;go_wp2_with (go_at_call 40;refine yaj bl.o ?_;rintro e aB ⟨a1,c1,U,c2,a3,c3,vs,rfl,ao,d,aM,aR⟩;obtain⟨hb,(HF:E _)⟩:=DgF.up ar.o hP bX.o ao d aM aR;obtain⟨_,br,ay,a0,bZ,b5,b6⟩:=hb;clear ao d aM aR);obtain⟨bK,bu,p2⟩:=fp _ _ _ _ _ br ay a0 (.slice a1 T.1.length c1) (.slice U vs.length c2) (.slice a3 T.2.2.1.length c3);exact yaz (v:=eZ a1 T.1.length c1 U vs.length c2 a3 T.2.2.1.length c3) (by simp[results,results16,go_sem,bK,bu,p2]) rfl HF.o
  ·subst aD;have f:E _:=y aj.o;go_upto_region 6 with (first
   |(go_at_call 42;refine yaj f.o ?_;rintro e aB ⟨g,bV,rfl,G,bN,(X:E _),aR⟩;have cA:E _:=d5 (B0 bN) G;have aK:E _:=bX.o.trans aR;have cj:E _:=ar.o.kept aR xaa;clear G bN aR)
   |(go_at_call 41;refine yaj cA.o ?_;rintro e bc ⟨aQ,a8,bi,rfl,cn,bT,bj,o,q,u,aG,bM⟩;obtain⟨a1,c1,U,c2,a3,c3,ae,a9,ai,d⟩:=Ql (Nat.le_succ _) bM ⟨cn,bT,bj,o,q,u⟩ aG.k;subst ae a9 ai;have HD:E _:=d;have bO:E _:=bM;clear cn bT bj o q u aG bM d))
   have bQ:=bO.o.trans (ez 0 0 _ (.cells #[.slice a1 st.ins.length c1,.slice U st.vs.length c2,.slice a3 st.outs.length c3] 26));obtain⟨hb,(HF:E _)⟩:=DgF.up cj.o hP aK.o rfl (HD.o.keep (ez 0 0 _ _)) (X.o.keep0 bQ) (e8 bQ);obtain⟨_,br,ay,a0,bZ,b5,b6⟩:=hb;clear bQ;go_wp2_with fail;obtain⟨bK,bu,p2⟩:=fp _ _ _ _ _ br ay a0 (.slice a1 st.ins.length c1) (.slice U st.vs.length c2) (.slice a3 st.outs.length c3);exact yaz (v:=eZ a1 st.ins.length c1 U st.vs.length c2 a3 st.outs.length c3) (by simp[results,results16,go_sem,bK,bu,p2]) rfl HF.o
  ·subst aD;have f:E _:=y aj.o;go_upto_region 6 with (first
   |(go_at_call 42;refine yaj f.o ?_;rintro e aB ⟨g,bV,rfl,G,bN,(X:E _),aR⟩;have cA:E _:=d5 (B0 bN) G;have aK:E _:=bX.o.trans aR;have cj:E _:=ar.o.kept aR xaa;clear G bN aR)
   |(go_at_call 41;refine yaj cA.o ?_;rintro e bc ⟨rfl,(bO:E _)⟩))
   have bU:=ez 0 0 bc fJ;have bQ:=bO.o.trans bU;have d:DG _ _ iz iz iz [] [] []:=⟨yaw _ _ _ _,yaw _ _ _ _,yaw _ _ _ _,(λ_ h=>by cases h),(λ_ h=>by cases h),(λ_ h=>by cases h),(λ_ h=>by cases h),bO.o.size⟩
   obtain⟨hb,(HF:E _)⟩:=DgF.up (ins:=[]) (vs:=[]) (outs:=[]) (S:=[]) cj.o hP aK.o rfl (d.keep bU) (X.o.keep0 bQ) (e8 bQ);obtain⟨_,br,ay,a0,bZ,b5,b6⟩:=hb;clear bQ bU d;go_wp2_with fail;obtain⟨bK,bu,p2⟩:=fp _ _ _ _ _ br ay a0 iz iz iz;exact yaz (v:=eZ none 0 0 none 0 0 none 0 0) (by simp[results,results16,go_sem,bK,bu,p2]) rfl HF.o
  ·subst aD;have f:E _:=y aj.o;go_upto_region 6 with (first
   |(go_at_call 42;refine yaj f.o ?_;rintro e aB ⟨g,bV,rfl,G,bN,(X:E _),aR⟩;have cA:E _:=d5 (B0 bN) G;have aK:E _:=bX.o.trans aR;have cj:E _:=ar.o.kept aR xaa;clear G bN aR)
   |(go_at_call 41;refine yaj cA.o ?_;rintro e bc ⟨rfl,(bO:E _)⟩))
   have bQ:=bO.o.trans (ez 0 0 _ fJ);go_upto_if 37 with fail
   refine wp_cond_false (congrArg _ (yan ah)) (wp_skip ?_);exact(‹∀(a:Act) (w:World),Code.wp _ _ _ a w->_›) _ _ (I8 hb (X.o.keep0 bQ) (aK.o.trans (e8 bQ)) (cj.o.keep bQ) hP HE.o)
  go_upto_if 28 with fail
  refine wp_cond_false (congrArg _ (yan c1)) (wp_skip ?_);exact(‹∀(a:Act) (w:World),Code.wp _ _ _ a w->_›) _ _ (I8 hb aj.o bX.o ar.o hP HE.o)
variable{bs:List Int}
theorem dgD(hb:∀i,nv bs i<256)(i):∃T,∀{w:World}{P n cap:Nat}{a:Option Addr},RdF w P a n cap i bs->Calls prog 16 #[hy P] w (DgT w P a n cap bs T):=by
 obtain⟨t,j,a6,au⟩:=QJ hb (ni bs i);obtain⟨r,aM⟩:=psD t a6;by_cases c0:nv bs i%4=0
 ·exact⟨_,λK=>JE hb au aM (.inl ⟨by omega,rfl⟩) K⟩
 by_cases c1:nv bs i%4=1
 ·have ai:(nv bs i:Int)%4=1:=xaa;rcases r with⟨c,p⟩|st
  ·by_cases al:c=0
   ·subst al;exact⟨_,λK=>JE hb au aM (.inr (.inr (.inl ⟨ai,p,rfl,rfl⟩))) K⟩
   exact⟨_,λK=>JE hb au aM (.inr (.inr (.inr (.inl ⟨ai,c,p,al,rfl,rfl⟩)))) K⟩
  exact⟨_,λK=>JE hb au aM (.inr (.inl ⟨ai,_,rfl,rfl⟩)) K⟩
 exact⟨_,λK=>JE hb au aM (.inr (.inr (.inr (.inr ⟨by omega,by omega,rfl⟩)))) K⟩
theorem yt{W}(k:Kept 0 0 w W)(y:Kept l h W I)(af:w.heap.size<=l):Kept 0 0 w I:=
 ⟨y.os.trans k.os,y.tape.trans k.tape,y.output.trans k.output,yao k.size y.size,λb hb _=>by rw[y.block b (hJ k.size) xaa];exact k.block b hb xaa⟩
def DoO(w:World)(T:List Int×List Vl×List Int×Nat)(e:Ending)(w':World):Prop:=
 ∃a1 c1 a2 c2 a3 c3 vs v,e=.returned (.tuple #[eZ a1 T.1.length c1 a2 vs.length c2 a3 T.2.2.1.length c3,v])/\vs.map sv=T.2.1/\DG w' w.heap.size (.slice a1 T.1.length c1) (.slice a2 vs.length c2) (.slice a3 T.2.2.1.length c3) T.1 vs T.2.2.1/\Kept 0 0 w w'
theorem Fw(vs m):fF (vs.take m)=(fF vs).take (m*6):=by
 induction vs generalizing m with
 |nil=>simp[fF]
 |cons v r G=>
  cases m with
  |zero=>simp[fF]
  |succ m=>
   have ah:v.cells.length=6:=rfl;rw[show(m+1)*6=v.cells.length+m*6 by omega];show v.cells++fF (r.take m)=(v.cells++fF r).take _;rw[List.take_length_add_append,G]
theorem DG.cut{c}(f:DG w J u1 (.slice a n c) u3 ins vs outs)(h:m<n):DG w J u1 (.slice a m c) u3 ins (vs.take m) outs:=by
 obtain⟨F,⟨N,h3⟩,a6,bF,bp,aj,ax,aP⟩:=f;rcases h3 with⟨e,al⟩|⟨g,cap,av,e,R,aS,aa,bi,b7,ba⟩
 ·cases e;omega
 cases e;have af:(vs.take m).length=m:=by simp;omega
 refine⟨F,⟨?_,.inr ⟨g,c,av,by rw[af],R,aS,by omega,bi,b7,?_⟩⟩,a6,bF,bp,aj,λv aO=>ax v (List.mem_of_mem_take aO),aP⟩
 ·rw[sV]
 rw[Fw,<-ba,List.take_take];congr 1;omega
theorem MF(w:World)(x y z):RB (w.alloc (.cells #[x,y,z] 26)) w.heap.size x y z:=by
 exact xib
theorem DG.gsP(d:DG w J (.slice a1 ins.length c1) (.slice U vs.length c2) (.slice a3 outs.length c3) ins vs outs):GS w a1 ins.length U vs.length a3 outs.length ins vs outs:=⟨wN d.r1 rfl,Np d.r2 rfl d.k,wN d.r3 rfl⟩
theorem DG.above{B}(f:DG w J u1 u2 u3 ins vs outs)(k:Kept l h w B)(af:w.heap.size<=l):DG B J u1 u2 u3 ins vs outs:=
 ⟨f9 f.r1 k λ_ e=>.inl (hJ ((eH f.r1 e).2)),f9 f.r2 k λ_ e=>.inl (hJ ((eH f.r2 e).2)),f9 f.r3 k λ_ e=>.inl (hJ ((eH f.r3 e).2)),f.a12,f.a13,f.a23,f.k,yao f.sz k.size⟩
structure DpS(w W:World)(B Q:Nat)(T:List Int×List Vl×List Int×Nat)(a1 a2 a3:Option Addr)(c1 c2 c3:Nat)(us:List Vl):Prop where
 sv:us.map sv=T.2.1.take 300
 d:DG W B (.slice a1 T.1.length c1) (.slice a2 us.length c2) (.slice a3 T.2.2.1.length c3) T.1 us T.2.2.1
 g:RB W Q (.slice a1 T.1.length c1) (.slice a2 us.length c2) (.slice a3 T.2.2.1.length c3)
 r:RB W w.heap.size iz iz iz
 k:Kept 0 0 w W
 b:w.heap.size<B
theorem DpS.keep{W}(f:DpS w W J Q T a1 U a3 c1 c2 c3 us)(k:Kept 0 0 W I):DpS w I J Q T a1 U a3 c1 c2 c3 us:=⟨f.sv,f.d.keep k,f.g.keep k,f.r.keep k,f.k.trans k,f.b⟩
theorem DpS.ret{W v}(f:DpS w W J Q T a1 U a3 c1 c2 c3 us)(k:Kept 0 0 (((W.setCell ⟨w.heap.size,0,none⟩ (.slice a1 T.1.length c1)).setCell ⟨w.heap.size,1,none⟩ (.slice U us.length c2)).setCell ⟨w.heap.size,2,none⟩ (.slice a3 T.2.2.1.length c3)) I):DoO w (T.1,T.2.1.take 300,T.2.2.1,T.2.2.2) (.returned (.tuple #[eZ a1 T.1.length c1 U us.length c2 a3 T.2.2.1.length c3,v])) I:=
 ⟨_,_,_,_,_,_,us,v,rfl,f.sv,((f.d.kept (ft _ _ _ _ _) f.b).mono (Nat.le_of_lt f.b)).keep k,(yt f.k (ft _ _ _ _ _) yad).trans k⟩
theorem DpE{y:Prop}(h:y:=by
 obtain⟨_,aY,aC,aL,bG,f1,f2⟩:=HD.o.r;obtain⟨_,aZ,ax,aU,_,_,_⟩:=HD.o.g;obtain⟨bK,bu,p2⟩:=fp _ w.heap.size _ _ _ aY aC aL (.slice a1 T.1.length c1) (.slice U us.length c2) (.slice a3 T.2.2.1.length c3);have H:E (∀v I,Kept 0 0 _ I->DoO w (T.1,T.2.1.take 300,T.2.2.1,T.2.2.2) (.returned (.tuple #[eZ a1 T.1.length c1 U us.length c2 a3 T.2.2.1.length c3,v])) I):=λv I k=>HD.o.ret k;clear HD;go_wp2_with fail;exact yaz (v:=.tuple #[eZ a1 T.1.length c1 U us.length c2 a3 T.2.2.1.length c3,hA _]) (by simp[results,results4,go_sem,bK,bu,p2]<;>rfl) rfl (H.o _ _ hI)):y:=h
theorem JF(hb:∀i,nv (xs.take 500) i<256):∃T,∀{w:World}{a:Option Addr}{n cap:Nat},YS w a n xs->n<=cap->Calls prog 4 #[.slice a n cap] w (DoO w T):=by
 obtain⟨T,bd⟩:=dgD hb (ni (xs.take 500) 0);refine⟨(T.1,T.2.1.take 300,T.2.2.1,T.2.2.2),λ{w a n cap} h ah=>?_⟩;have bh:=ez 0 0 w fJ;have F:(w.alloc fJ).heap.size=w.heap.size+1:=by simp
 have HO:E _:=Ny _ a n _ _ (h.keep bh) ah;have aV:E _:=@bd;have u:E _:=iN w;have s:E _:=bh;clear bd hb;generalize xs.take _=bs at HO aV;rw[F]at HO;clear h ah bh F;go_enter func4,ntmps4;go_wp2_with fail;refine yaj HO.o ?_;rintro e az ⟨rfl,⟨m,R1⟩,aw⟩;have bm:E _:=iX _ _ _ _ _ _ _ R1;have bX:E (Kept 0 0 w az):=s.o.trans aw;have ar:E _:=u.o.keep aw;clear R1 aw s u HO;go_wp2_with fail;refine yaj bm.o ?_;rintro e bS ⟨rfl,(bI:E _),ak,-⟩;have bB:E (Kept 0 0 w bS):=yt bX.o ak xaa;have y:E (RB bS w.heap.size iz iz iz):=ar.o.kept ak xaa;clear ak bX ar bm;go_wp2_with fail;refine yaj (aV.o bI.o) ?_;rintro e aB ⟨a1,c1,U,c2,a3,c3,vs,rfl,ao,d,aM,aR⟩;have hP:=bI.o.lt;have cl:=y.o.sz;have bM:=ez 0 0 aB (e9 a1 T.1.length c1 U vs.length c2 a3 T.2.2.1.length c3);have aJ:=MF aB (.slice a1 T.1.length c1) (.slice U vs.length c2) (.slice a3 T.2.2.1.length c3);have aD:=(y.o.kept aR xaa).keep bM;have a9:Kept 0 0 w _:=(yt bB.o aR xaa).trans bM;have HC:E (¬300<vs.length->DpS w _ bS.heap.size aB.heap.size T a1 U a3 c1 c2 c3 vs):=λh=>⟨by rw[<-ao,yap (by rw[List.length_map];omega)],d.keep bM,aJ,aD,a9,cl⟩
 have be:E (300<vs.length->300<=c2/\DpS w ((aB.alloc (e9 a1 T.1.length c1 U vs.length c2 a3 T.2.2.1.length c3)).setCell ⟨aB.heap.size,1,none⟩ (.slice U 300 c2)) bS.heap.size aB.heap.size T a1 U a3 c1 c2 c3 (vs.take 300)):=λh=>by
  have aa:=eR (lo:=aB.heap.size) (hi:=aB.heap.size+1) (aB.alloc (e9 a1 T.1.length c1 U vs.length c2 a3 T.2.2.1.length c3)) ⟨aB.heap.size,1,none⟩ (.slice U 300 c2) yac
  have af:(vs.take 300).length=300:=by rw[List.length_take];omega
  have ap:=aD.kept aa (.inl (hJ aR.size))
  have aK:=(d.cut h).above ((e8 bM).trans aa) yad
  refine⟨?_,⟨by rw[List.map_take,ao],hL af aK,?_,ap,yt a9 aa (hJ aR.size),cl⟩⟩
  ·rcases d.r2.2 with⟨_,z⟩|⟨g,cap,av,e,_,_,q,_⟩
   ·omega
   ·cases e;omega
  ·rw[af]
   obtain⟨_,aY,aC,aL,_,_,_⟩:=aJ
   exact⟨by simp,by rw[eQ _ _ _ _ _ _ (.inr xaa)];exact aY,fy _ _ _ _ _ aC,by rw[eQ _ _ _ _ _ _ (.inr xaa)];exact aL,by simp,by simp,by simp⟩
 clear ao d aM aR bM hP cl aD a9 bI bB y aV;obtain⟨k,O⟩:∃k,nv bs 0=k:=⟨_,rfl⟩
 rw[O];clear O;obtain⟨_,aZ,ax,aU,bG,f1,f2⟩:=aJ;go_upto_if 17 with fail
 generalize aB.alloc (e9 a1 T.1.length c1 U vs.length c2 a3 T.2.2.1.length c3)=bc at HC be aZ ax aU bG f1 f2⊢;generalize aB.heap.size=Q at HC be aZ ax aU bG f1 f2⊢;go_cut [] (λcd=>∃us,E (DpS w cd bS.heap.size Q T a1 U a3 c1 c2 c3 us))
 case first=>
  by_cases af:300<vs.length
  ·have j:(300:Int)<(vs.length:Int):=xaa;obtain⟨Z,(HR:E _)⟩:=be.o af;clear HC be af;go_wp2_with fail;go_meet;exact⟨_,HR⟩
  have j:¬(300:Int)<(vs.length:Int):=xaa;have HR:E _:=HC.o af;clear HC be af;go_wp2_with fail;go_meet;exact⟨_,HR⟩
 case rest=>
  obtain⟨us,HD⟩:=hcut;clear HC be aZ ax aU bG f1 f2;obtain⟨_,aZ,ax,aU,bG,f1,f2⟩:=HD.o.g;by_cases al:k%4=0
  ·have aO:(k:Int)%4=0:=xaa;have bH:E _:=oU wc _ _ _ _ c1 _ c2 _ c3 _ _ _ HD.o.d.gsP;clear al;go_wp2_with fail;refine yaj bH.o ?_;rintro e aW ⟨rfl,bQ⟩;replace HD:E _:=HD.o.keep bQ;clear bH bQ aZ ax aU bG f1 f2;obtain⟨_,aZ,ax,aU,bG,f1,f2⟩:=HD.o.g;cases bV:okG T.1 us T.2.2.1
   ·clear bV;exact DpE
   have bL:E _:=CK aW _ _ _ _ c1 _ c2 _ c3 _ _ _ HD.o.d.gsP bV;clear bV;go_wp2_with fail;refine yaj bL.o ?_;rintro e aF ⟨bo,aH,bw,bf,bR,Y,rfl,bU⟩;have p:=bU.trans (ez 0 0 aF (mH bo T.1.length aH bw us.length bf bR T.2.2.1.length Y (fg us (eW us T.2.2.1 us.length) us.length)));replace HD:E _:=HD.o.keep p;obtain⟨_,ba,aP,y2,y3⟩:=jZ aF (.slice bo T.1.length aH) (.slice bw us.length bf) (.slice bR T.2.2.1.length Y) (hA (fg us (eW us T.2.2.1 us.length) us.length));clear bL bU p aZ ax aU bG f1 f2;generalize fg us (eW us T.2.2.1 us.length) us.length=bA at HD ba aP y2 y3⊢;obtain⟨_,aZ,ax,aU,bG,f1,f2⟩:=HD.o.g;go_upto_region 8 with fail;generalize aF.alloc (mH bo T.1.length aH bw us.length bf bR T.2.2.1.length Y bA)=f at HD ba aP y2 y3 aZ ax aU bG f1 f2⊢;obtain⟨_,aY,aC,aL,bG,f1,f2⟩:=HD.o.r;obtain⟨bK,bu,p2⟩:=fp _ w.heap.size _ _ _ aY aC aL (.slice a1 T.1.length c1) (.slice U us.length c2) (.slice a3 T.2.2.1.length c3);have H:E (∀v I,Kept 0 0 _ I->DoO w (T.1,T.2.1.take 300,T.2.2.1,T.2.2.2) (.returned (.tuple #[eZ a1 T.1.length c1 U us.length c2 a3 T.2.2.1.length c3,v])) I):=λv I k=>HD.o.ret k;clear HD;go_region
   all_goals
    go_wp2_with fail
    exact yaz (v:=.tuple #[eZ a1 T.1.length c1 U us.length c2 a3 T.2.2.1.length c3,hA _]) (by simp[results,results4,go_sem,bK,bu,p2]<;>rfl) rfl (H.o _ _ (eG _))
  by_cases F:k%4=1
  ·have bb:(k:Int)%4=1:=xaa;exact xho
  have bb:((k:Int)%4==1)=false:=by rw[beq_eq_false_iff_ne];omega
  exact xho
theorem Pd{W}(k:Kept 0 0 (w.alloc (.cells #[u1,u2,u3] 26)) W):G0 W w.heap.size u1 u2 u3:=(fB w u1 u2 u3).keep k
theorem MG(h:Lk us vs)(outs):fg us (eW us outs n) n=fg vs (eW vs outs n) n:=by
 rw[<-rn us,<-xA us,h,rn,xA]
def WnP(ys ins:List Int)(vs:List Vl)(outs:List Int)(wss:List (List Nat)):Prop:=
 ∃xss,(jf xss/\inB ins xss=true/\∀j,gC (xss.getD j []) ((inN ys ins).getD j []))/\∀j,j<outs.length->gC (wss.getD j []) ((fV xss vs vs.length).getD (outs.getD j 0).toNat [])
theorem Pe{o s}(h:okG ins vs outs=true)(X:Lk us vs)(p:Kb us)(cp:Kb vs)(bg:WnP bJ ins us outs o)(ai:WnP bJ ins vs outs s){k}(O:k<outs.length):
  gC (o.getD k []) (s.getD k [])/\(o.getD k []).length<=1000000:=by
 obtain⟨x,⟨cd,av,q⟩,c8⟩:=bg;obtain⟨y,⟨f,i,aO⟩,g⟩:=ai;obtain⟨_,_,h3,a6,_⟩:=gU h;have bT:=a6 (outs.getD k 0) (by rw[yai,yam O];exact List.getElem_mem _);have e:=jP (c8 k O) (jP (by rw[X.len];exact vC X (λj=>jP (q j) (vA (aO j))) cd f p cp _ h3 _ xaa) (vA (g k O)));refine⟨e,?_⟩;have b8:=oz i _ (Eg h3) (outs.getD k 0).toNat xaa;have cg:=fU (h3 (outs.getD k 0).toNat xaa);rw[i7 e,i7 (g k O)];omega
theorem MH{b Z n2 ab cb r}(bV:okG ins us outs=true)(af:us.length=n2)(f:CS w a1 Z U n2 a3 ab ins (iu us (eW us outs n2) n2) (outs.map (pH us (eW us outs n2))))(bL:SS w b m r/\jf r/\inB ins r=true/\∀j,gC (r.getD j []) ((inN bJ ins).getD j [])):
  Calls prog 12 #[re a1 Z c1 U n2 c2 a3 ab c3 (fg us (eW us outs n2) n2),.slice b m cb] w λe B=>∃G y,e=.returned (.tuple #[hz G ab ab,hA n2,hA 0])/\SS B (some ⟨G,0,none⟩) ab y/\WnP bJ ins us outs y/\Kept 0 0 w B:=by
 subst af;refine(BZ w _ _ _ b _ _ _ _ _ _ m cb _ _ _ _ r f bL.1 bL.2.1 (uH bV).1 bL.2.2.1).mono ?_;rintro e B ⟨G,au,bH,y,ay,_,ch,dc,F,al⟩;refine⟨G,y,ay,ch.ss dc,⟨r,⟨bL.2.1,bL.2.2.1,bL.2.2.2⟩,λj hj=>?_⟩,al⟩;have ai:=f.o.len;rw[List.length_map]at ai;have:=F j xaa;rw[Jx bV bL.2.2.1]at this;simpa[List.getD_eq_getElem?_getD,hj] using this
section
variable{W I:World}{J:Nat}{a1 U a3:Option Addr}{n2 c1 c2 c3:Nat}{bud bA:Int}{ins:List Int}{us:List Vl}{outs:List Int}
theorem JG(d:DG W J (.slice a1 ins.length c1) (.slice U us.length c2) (.slice a3 outs.length c3) ins us outs)(k:Kept 0 0 W I)(af:us.length=n2)(bV:okG ins us outs=true)(aM:fg us (eW us outs n2) n2=bA)(hb:¬bud<bA):
  Calls prog 9 #[eZ a1 ins.length c1 U n2 c2 a3 outs.length c3,hA bud] I λe B=>∃bo aH bw bf bR Y,e=.returned (.tuple #[re bo ins.length aH bw n2 bf bR outs.length Y bA,hA 0])/\CS B bo ins.length bw n2 bR outs.length ins (iu us (eW us outs n2) n2) (outs.map (pH us (eW us outs n2)))/\Kept 0 0 I B:=by
 subst af aM;refine(vV I a1 U a3 _ c1 _ c2 _ c3 bud ins us outs (GS.keep d.gsP k) ((Nb d.r1 rfl).keep k) bV).mono ?_;rintro e B ⟨-,N,h3⟩;obtain⟨bo,aH,bw,bf,bR,Y,ae,a9⟩:=N hb;exact⟨bo,aH,bw,bf,bR,Y,ae,a9.cs rfl (kK _ _ _) (List.length_map _),h3⟩
theorem Pf(d:DG W J (.slice a1 ins.length c1) (.slice U us.length c2) (.slice a3 outs.length c3) ins us outs)(k:Kept 0 0 W I)(af:us.length=n2)(bV:okG ins us outs=true)(aM:fg us (eW us outs n2) n2=bA)(hb:bud<bA):
  Calls prog 9 #[eZ a1 ins.length c1 U n2 c2 a3 outs.length c3,hA bud] I λe B=>e=.returned (.tuple #[cnl,hA 7])/\Kept 0 0 I B:=by
 subst af aM;exact(vV I a1 U a3 _ c1 _ c2 _ c3 bud ins us outs (GS.keep d.gsP k) ((Nb d.r1 rfl).keep k) bV).mono λe B ⟨F,_,h3⟩=>⟨F hb,h3⟩
end
theorem B1{b cm}(h:YS w a n xs)(ah:n<=cap)(bN:YS w b m bJ):
  Calls prog 3 #[.slice a n cap,.slice b m cm] w λe B=>e=.returned (.bool true)/\Kept 0 0 w B:=by
 by_cases ad:1048576<n
 ·have a7:(1048576:Int)<(n:Int):=xaa;clear ad;exact xia
 have a7:¬(1048576:Int)<(n:Int):=xaa;by_cases am:1048576<m
 ·have bu:(1048576:Int)<(m:Int):=xaa;clear am;exact xia
 have bu:¬(1048576:Int)<(m:Int):=xaa;obtain⟨T,bd⟩:=JF (xs:=xs) (λi=>nvb (λx an=>h.lt x (List.mem_of_mem_take an)) i);have aV:E (∀W,Kept 0 0 w W->Calls prog 4 #[.slice a n cap] W (DoO W T)):=λW k=>bd (h.keep k) ah;have b9:E _:=bN;have HM:E (m<=1048576):=by show _<=_;omega
 clear bd h ad am bN;obtain⟨ins,S,outs,bW⟩:=T;go_enter func3,ntmps3;go_wp2_with fail;refine yaj (aV.o w hI) ?_;rintro e az ⟨a1,c1,U,c2,a3,c3,vs,aD,rfl,ao,d,aw⟩;have au:E (vs.map sv=S):=ao;simp only at d;have bQ:=ez 0 0 az (e9 a1 ins.length c1 U vs.length c2 a3 outs.length c3);have bp:E (∀W,Kept 0 0 (az.alloc (e9 a1 ins.length c1 U vs.length c2 a3 outs.length c3)) W->GS W a1 ins.length U vs.length a3 outs.length ins vs outs):=λW k=>GS.keep d.gsP (bQ.trans k)
 have HL:E (∀W,Kept 0 0 (az.alloc (e9 a1 ins.length c1 U vs.length c2 a3 outs.length c3)) W->okG ins vs outs=true->Calls prog 10 #[eZ a1 ins.length c1 U vs.length c2 a3 outs.length c3] W λe B=>e=.returned (hA (eU vs))/\Kept 0 0 W B):=λW k h=>by
  obtain⟨⟨_,N,_⟩,_,h3,_⟩:=gU h
  exact lS (eO d.r2 (bQ.trans k)) rfl N λj hj=>fU (h3 j hj)
 have b2:E (Kb vs):=d.k;have bH:E _:=oU (az.alloc (e9 a1 ins.length c1 U vs.length c2 a3 outs.length c3)) a1 U a3 ins.length c1 vs.length c2 outs.length c3 ins vs outs (bp.o _ hI);have bX:E (Kept 0 0 w (az.alloc (e9 a1 ins.length c1 U vs.length c2 a3 outs.length c3))):=aw.trans bQ;have be:E (∀W,Kept 0 0 (az.alloc (e9 a1 ins.length c1 U vs.length c2 a3 outs.length c3)) W->G0 W az.heap.size (.slice a1 ins.length c1) (.slice U vs.length c2) (.slice a3 outs.length c3)):=λW k=>Pd k;obtain⟨_,aZ,ax,aU⟩:=be.o _ hI;clear ao d aw bQ;go_wp2_with fail;clear aZ ax aU;generalize az.heap.size=Q at be⊢;generalize az.alloc (e9 a1 ins.length c1 U vs.length c2 a3 outs.length c3)=bS at bH bX be bp HL⊢;refine yaj bH.o ?_;clear bH;rintro e aB ⟨rfl,aR⟩;have aK:E _:=bX.o.trans aR;cases bV:okG ins vs outs
 ·clear bV aR be au aV bp b2 b9 HM HL;go_wp2;go_ret;exact⟨rfl,aK.o⟩
 have bq:E (∀W,Kept 0 0 aB W->G0 W Q (.slice a1 ins.length c1) (.slice U vs.length c2) (.slice a3 outs.length c3)):=λW k=>be.o W (aR.trans k);have b0:E (∀W,Kept 0 0 aB W->GS W a1 ins.length U vs.length a3 outs.length ins vs outs):=λW k=>bp.o W (aR.trans k);have bh:E (∀W,Kept 0 0 aB W->Calls prog 10 #[eZ a1 ins.length c1 U vs.length c2 a3 outs.length c3] W λe B=>e=.returned (hA (eU vs))/\Kept 0 0 W B):=λW k=>HL.o W (aR.trans k) bV;have cD:E (okG ins vs outs=true):=bV;obtain⟨⟨cf,b1,cB⟩,cj,_,_,cG⟩:=gU bV;have bB:E (ins.length<=20/\vs.length<=2000/\outs.length<=50):=⟨cf,b1,cB⟩
 have bE:E (∀W,Kept 0 0 aB W->Calls prog 8 #[.slice a1 ins.length c1,.slice b m cm,.bool true] W (InO W bJ ins)):=λW k=>Mz (b0.o W k).i (b9.o.keep (aK.o.trans k)) HM.o cf cj;have bg:=(uH bV).2;have aC:=zC (NR bV false) vs.length yad;rw[show plD false vs outs=eW vs outs vs.length from rfl]at aC;have b5:E _:=EW (c1:=c1) (c2:=c2) (c3:=c3) (bud:=50000) (b0.o aB hI) bV xaa
 have eu:E (∀us,us.map sv=S->Lk us vs/\us.length=vs.length/\okG ins us outs=true/\fg us (eW us outs vs.length) vs.length=fg vs (eW vs outs vs.length) vs.length):=λus e=>by
  have h:Lk us vs:=P0 (e.trans au.o.symm)
  have af:=h.len
  exact⟨h,af,hL h.okG bV,MG h outs⟩
 obtain⟨bA,P⟩:∃bA,fg vs (eW vs outs vs.length) vs.length=bA:=⟨_,rfl⟩
 simp only[P]at b5 eu bg aC;have aL:E (0<=bA/\bA<=50000/\bA<=eU vs):=⟨aC.1,aC.2,bg⟩
 obtain⟨_,bn,aX,bb⟩:=bq.o aB hI;clear bV aR be bp HL bX cf b1 cB cj cG b9 HM au bg aC P;go_wp2_with fail;refine yaj b5.o ?_;rintro e bc ⟨bo,aH,bw,bf,bR,Y,rfl,bM⟩;have p:=ez 0 0 bc (mH bo ins.length aH bw vs.length bf bR outs.length Y bA);have HPC:E (∀W,Kept 0 0 (bc.alloc (mH bo ins.length aH bw vs.length bf bR outs.length Y bA)) W->W.cell? ⟨bc.heap.size,3,none⟩=some (hA bA)):=λW k=>((jZ bc (.slice bo ins.length aH) (.slice bw vs.length bf) (.slice bR outs.length Y) (hA bA)).keep k).q3;have bO:E (Kept 0 0 aB (bc.alloc (mH bo ins.length aH bw vs.length bf bR outs.length Y bA))):=bM.trans p;clear bM p b5 bn aX bb;obtain⟨_,bn,aX,bb⟩:=bq.o _ bO.o;go_upto_region 7 with fail;generalize bc.alloc (mH bo ins.length aH bw vs.length bf bR outs.length Y bA)=aW at HPC bO bn aX bb⊢;generalize bc.heap.size=C at HPC⊢;go_cut [9,10] (λx y cd=>∃aG wc s,x=.slice aG outs.length wc/\y=hA 0/\E (SS cd aG outs.length s/\WnP bJ ins vs outs s)/\E (Kept 0 0 aW cd))
 case first=>
  go_region_with (first
   |(go_at_call 8;refine yaj (bE.o _ (bO.o.trans (eG aW))) ?_;rintro e aF ⟨ap,bG,r,rfl,bL,bU⟩;have a2:=(eG aW).trans bU;have ar:E _:=bL.2;obtain⟨_,br,ay,a0⟩:=bq.o aF (bO.o.trans a2);have HE:E _:=AB aF a1 U a3 ap ins.length c1 vs.length c2 outs.length c3 ins.length bG ins vs outs r (b0.o aF (bO.o.trans a2)) bL.1 bL.2.1 cD.o bL.2.2.1;have H:E _:=a2;clear bL bU a2)
   |(go_at_call 7;refine yaj HE.o ?_;rintro e f ⟨aG,wc,s,rfl,Z,ck,bI⟩;have ab:E (SS f aG outs.length s/\WnP bJ ins vs outs s):=⟨Z,r,ar.o,ck⟩;have aO:E _:=H.o.trans bI;clear Z ck bI))
  all_goals
   go_wp2_with fail
   go_meet
   exact⟨aG,wc,s,rfl,rfl,ab,aO⟩
 case rest=>
  obtain⟨aG,cx,s,rfl,rfl,ab,q⟩:=hcut;obtain⟨aF,cr⟩:∃aF,aF=wc:=⟨_,rfl⟩
  subst cr;clear bn aX bb;have H:E (Kept 0 0 aB aF):=bO.o.trans q.o;go_wp2_with fail;refine yaj (aV.o aF (aK.o.trans H.o)) ?_;rintro e f ⟨R,f1,aS,f2,aa,f3,us,a5,rfl,ao,d,bI⟩;simp only at ao d;obtain⟨F,N,h3,a6⟩:=eu.o us ao;have al:E (∀bud,_->_):=λbud hb=>JG (bud:=bud) d (ez 0 0 f (e9 R ins.length f1 aS vs.length f2 aa outs.length f3)) N h3 a6 hb;have aJ:E (Lk us vs/\us.length=vs.length/\okG ins us outs=true/\Kb us/\fg us (eW us outs vs.length) vs.length=bA):=⟨F,N,h3,d.k,a6⟩
  rw[N];have aO:E (Kept 0 0 aF (f.alloc (e9 R ins.length f1 aS vs.length f2 aa outs.length f3))):=bI.trans (ez 0 0 _ _);obtain⟨_,bP,aq,aN⟩:=fB f (.slice R ins.length f1) (.slice aS vs.length f2) (.slice aa outs.length f3);clear ao d bI F h3 a6 N;go_wp2_with fail;clear bP aq aN;generalize f.alloc (e9 R ins.length f1 aS vs.length f2 aa outs.length f3)=bk at al aO⊢;refine yaj (al.o _ (hJ aL.o)) ?_;clear al;rintro e ag ⟨bo,aH,bw,bf,bR,Y,rfl,bY,aM⟩;have p:=ez 0 0 ag (mH bo ins.length aH bw vs.length bf bR outs.length Y bA);have u:E (Kept 0 0 aF (ag.alloc (mH bo ins.length aH bw vs.length bf bR outs.length Y bA))):=aO.o.trans (aM.trans p);have ak:E (∀W,Kept 0 0 (ag.alloc (mH bo ins.length aH bw vs.length bf bR outs.length Y bA)) W->C0 W ag.heap.size (.slice bo ins.length aH) (.slice bw vs.length bf) (.slice bR outs.length Y) (hA bA)):=λW k=>(jZ ag _ _ _ _).keep k;have bD:E (∀W,Kept 0 0 (ag.alloc (mH bo ins.length aH bw vs.length bf bR outs.length Y bA)) W->CS W bo ins.length bw vs.length bR outs.length ins (iu us (eW us outs vs.length) vs.length) (outs.map (pH us (eW us outs vs.length)))):=λW k=>(bY.keep p).keep k;clear bY aM p aO;go_upto_region 10 with fail;generalize ag.alloc (mH bo ins.length aH bw vs.length bf bR outs.length Y bA)=aA at u ak bD⊢;generalize ag.heap.size=D at ak⊢
  have cg:E (∀W,Kept 0 0 aA W->Calls prog 11 #[re bo ins.length aH bw vs.length bf bR outs.length Y bA] W λe B=>e=.returned (.bool true)/\Kept 0 0 W B):=λW k=>by
   have:=CL W bo bw bR _ aH _ bf _ Y bA _ _ _ (bD.o W k)
   obtain⟨_,a8,bi,_,K⟩:=aJ.o
   have e:=(uH bi).1
   rw[a8,K]at e
   rw[e]at this
   exact this
  obtain⟨_,bn,aX,bb⟩:=bq.o aA (H.o.trans u.o);obtain⟨_,ba,aP,y2,y3⟩:=ak.o aA hI;have bi:=HPC.o aA (q.o.trans u.o);have cG:decide (eU vs<bA)=false:=yay (hJ aL.o);go_cut [95] from 66 to 95 (λv cd=>v=.bool false/\E (Kept 0 0 aA cd))
  case first=>
   first|(go_region_held3 (λB=>B.cell? ⟨Q,0,none⟩=some (.slice a1 ins.length c1)/\B.cell? ⟨Q,1,none⟩=some (.slice U vs.length c2)/\B.cell? ⟨Q,2,none⟩=some (.slice a3 outs.length c3)/\B.cell? ⟨D,0,none⟩=some (.slice bo ins.length aH)/\B.cell? ⟨D,1,none⟩=some (.slice bw vs.length bf)/\B.cell? ⟨D,2,none⟩=some (.slice bR outs.length Y)/\B.cell? ⟨D,3,none⟩=some (hA bA)/\B.cell? ⟨C,3,none⟩=some (hA bA)) (go_keep) (first
    |(go_at_call 10;refine yaj (bh.o _ (H.o.trans (u.o.trans (eG aA)))) ?_;rintro e WB ⟨rfl,cl⟩;have aY:E (Kept 0 0 aA WB):=(eG aA).trans cl;clear cl;obtain⟨_,br,ay,a0,ch⟩:=ak.o WB aY.o;obtain⟨_,aZ,ax,aU⟩:=bq.o WB (H.o.trans (u.o.trans aY.o));have bx:=HPC.o WB (q.o.trans (u.o.trans aY.o)))
    |(go_at_call 11;refine yaj (cg.o _ aY.o) ?_;rintro e WC ⟨rfl,bv⟩;have g:E (Kept 0 0 aA WC):=aY.o.trans bv;clear bv;obtain⟨_,ci,m1,b7,m3⟩:=ak.o WC g.o;obtain⟨_,d7,cn,bT⟩:=bq.o WC (H.o.trans (u.o.trans g.o));have bj:=HPC.o WC (q.o.trans (u.o.trans g.o)))))|fail
   all_goals
    go_wp2_with fail
    go_meet
    exact⟨rfl,g⟩
  case rest=>
   obtain⟨rfl,ae⟩:=hcut;obtain⟨WB,ct⟩:∃WB,WB=wc:=⟨_,rfl⟩
   subst ct;clear bn aX bb ba aP y2 y3 bi cg cG;have aT:E (Kept 0 0 aF WB):=u.o.trans ae.o;obtain⟨_,bn,aX,bb⟩:=bq.o WB (H.o.trans aT.o);obtain⟨_,ba,aP,y2,y3⟩:=ak.o WB ae.o;go_upto_region 12 with fail;go_cut [15,16,17] from 96 to 105 (λx y z cd=>∃G o,x=hz G outs.length outs.length/\y=hA vs.length/\z=hA 0/\E (SS cd (some ⟨G,0,none⟩) outs.length o/\WnP bJ ins us outs o)/\E (Kept 0 0 WB cd))
   case first=>
    go_region_held3 (λB=>B.cell? ⟨Q,0,none⟩=some (.slice a1 ins.length c1)/\B.cell? ⟨D,0,none⟩=some (.slice bo ins.length aH)/\B.cell? ⟨D,1,none⟩=some (.slice bw vs.length bf)/\B.cell? ⟨D,2,none⟩=some (.slice bR outs.length Y)/\B.cell? ⟨D,3,none⟩=some (hA bA)) (go_keep) (first
     |(go_at_call 8;refine yaj (bE.o _ (H.o.trans (aT.o.trans (eG WB)))) ?_;rintro e WC ⟨ap,bG,r,rfl,bL,bv⟩;have bz:=(eG WB).trans bv;obtain⟨_,br,ay,a0,ch⟩:=ak.o WC (ae.o.trans bz);obtain⟨_,aZ,_,_⟩:=bq.o WC (H.o.trans (aT.o.trans bz));have HE:E _:=MH (c1:=aH) (c2:=bf) (c3:=Y) (cb:=bG) aJ.o.2.2.1 aJ.o.2.1 (bD.o WC (ae.o.trans bz)) bL;rw[aJ.o.2.2.2.2]at HE;have g:E _:=bz;clear bL bv bz)
     |(go_at_call 12;refine yaj HE.o ?_;rintro e bm ⟨G,o,rfl,ca,gi,bC⟩;have a9:E (SS bm (some ⟨G,0,none⟩) outs.length o/\WnP bJ ins us outs o):=⟨ca,gi⟩;have X:E _:=g.o.trans bC;clear ca gi bC;obtain⟨_,ci,m1,b7,m3⟩:=ak.o bm (ae.o.trans X.o);obtain⟨_,d7,_,_⟩:=bq.o bm (H.o.trans (aT.o.trans X.o))))
    all_goals
     go_wp2_with fail
     go_meet
     exact⟨G,o,rfl,rfl,rfl,a9,X⟩
   case rest=>
    obtain⟨G,o,rfl,rfl,rfl,a9,X⟩:=hcut;obtain⟨WC,cu⟩:∃WC,WC=wc:=⟨_,rfl⟩
    subst cu;clear bn aX bb ba aP y2 y3;have g:E (Kept 0 0 aF WC):=aT.o.trans X.o;have ce:E _:=BS WC (some ⟨G,0,none⟩) aG outs.length outs.length cx o s a9.o.1 (ab.o.1.keep g.o) (λk O=>Pe cD.o aJ.o.1 aJ.o.2.2.2.1 b2.o a9.o.2 ab.o.2 O) (hJ bB.o);obtain⟨_,bn,aX,bb⟩:=bq.o WC (H.o.trans g.o);clear a9 ab bE cD aJ b2 bD ak ae aT X u;go_wp2_with (go_at_call 13;refine yaj ce.o ?_;rintro e bm ⟨rfl,bC⟩;have X:E _:=g.o.trans bC;clear bC);clear ce g bn aX bb;go_wp2_with fail;have av:0<=bA:=aL.o.1;have aQ:bA<=50000:=aL.o.2.1;refine yaj (aV.o bm (aK.o.trans (H.o.trans X.o))) ?_;rintro e b6 ⟨R,f1,aS,f2,aa,f3,us,_,rfl,ao,d,co⟩;simp only at ao d;obtain⟨_,N,h3,a6⟩:=eu.o us ao;have al:E _:=JG (bud:=bA) d (ez 0 0 b6 (e9 R ins.length f1 aS vs.length f2 aa outs.length f3)) N h3 a6 xaa;rw[N];have b3:E (Kept 0 0 aF (b6.alloc (e9 R ins.length f1 aS vs.length f2 aa outs.length f3))):=X.o.trans (co.trans (ez 0 0 _ _));obtain⟨_,bP,aq,aN⟩:=fB b6 (.slice R ins.length f1) (.slice aS vs.length f2) (.slice aa outs.length f3);have bi:=HPC.o _ (q.o.trans b3.o);clear ao d co N h3 a6;go_wp2_with fail;refine yaj al.o ?_;clear al bP aq aN bi;rintro e aI ⟨bo,aH,bw,bf,bR,Y,rfl,-,ai⟩;have bl:E (Kept 0 0 aF (aI.alloc (mH bo ins.length aH bw vs.length bf bR outs.length Y bA))):=b3.o.trans (ai.trans (ez 0 0 _ _));have bZ:E (∀W,Kept 0 0 (aI.alloc (mH bo ins.length aH bw vs.length bf bR outs.length Y bA)) W->W.cell? ⟨aI.heap.size,3,none⟩=some (hA bA)):=λW k=>((jZ aI (.slice bo ins.length aH) (.slice bw vs.length bf) (.slice bR outs.length Y) (hA bA)).keep k).q3;clear ai b3 X;go_wp2_with fail;generalize aI.alloc (mH bo ins.length aH bw vs.length bf bR outs.length Y bA)=cq at bl bZ⊢;generalize aI.heap.size=Eaa at bZ⊢;refine yaj (aV.o cq (aK.o.trans (H.o.trans bl.o))) ?_;rintro e bF ⟨R,f1,aS,f2,aa,f3,us,_,rfl,ao,d,cc⟩;simp only at ao d;obtain⟨_,N,h3,a6⟩:=eu.o us ao;have al:E _:=Pf (bud:=(bA-1)) d (ez 0 0 bF (e9 R ins.length f1 aS vs.length f2 aa outs.length f3)) N h3 a6 xaa;rw[N];have b4:E (Kept 0 0 aF (bF.alloc (e9 R ins.length f1 aS vs.length f2 aa outs.length f3))):=bl.o.trans (cc.trans (ez 0 0 _ _));have cw:=cc.trans (ez 0 0 bF (e9 R ins.length f1 aS vs.length f2 aa outs.length f3));obtain⟨_,bP,aq,aN⟩:=fB bF (.slice R ins.length f1) (.slice aS vs.length f2) (.slice aa outs.length f3);have bi:=HPC.o _ (q.o.trans b4.o);clear ao d cc N h3 a6;go_wp2_with fail;refine yaj al.o ?_;clear al bP aq aN bi;rintro e b8 ⟨rfl,bK⟩;have aj:=ez 0 0 b8 tO;have y3:=HPC.o _ (q.o.trans (b4.o.trans (bK.trans aj)));have y4:=bZ.o _ (cw.trans (bK.trans aj));have cp:E (Kept 0 0 w (b8.alloc tO)):=aK.o.trans (H.o.trans (b4.o.trans (bK.trans aj)));obtain⟨_,_,aP,_,_⟩:=jZ b8 (.slice none 0 0) (.slice none 0 0) (.slice none 0 0) (hA 0);clear bK aj;go_wp2_with fail;go_ret;exact⟨rfl,cp.o⟩
end
section
open Go.ChangeShapes Go.WideShapes Go.ChangeAt Go.RowKit Flt
namespace PPlan
theorem lifted(bG)(i:bG.Started)(Y)(enc:TypeId×Value->Y):
  ReturnsInHanded {} Tryz.checked bG 3 .any (Rows.fnPlanSpec.pre6 enc prog Tryz.f3 Rows.fnPlanRow.domain false) (Rows.fnPlanSpec.post enc prog Tryz.f3 false true false false):=by
 refine returnsInHanded_of_change (C:=Tryz.checked) own i (by kernel_rfl) func3
  (ChangeSpec.witness6 (enc:=enc) (C:=Tryz.checked) false ⟨#[],#[.slice none 0 0,.slice none 0 0],[]⟩ 8 (by kernel_rfl) (by kernel_rfl) (by kernel_rfl) (by kernel_rfl)) ?_
 intro W base args N ca z o ai C _;have g:∀(j:Nat) t v,Tryz.f3.params[j]? =some t->args[j]? =some v->Value.okWide prog W .any base t v:=o;have r:=ai;obtain⟨p,q,n,bO,rfl,aN,G⟩:=ai;have a2:DataW.TrodAll enc prog W 0 (λ_=>true) true Tryz.f3.params.toList args.toList N p:=n;rw[Tryz.params3]at a2 g;obtain⟨aD,a5,bS,aH,bK,bu,rfl,rfl,rfl,al,F⟩:=trodAll_two a2;obtain⟨rfl,rfl⟩:=trodVars_none bO;have u:∀x∈bK,x.block<W.heap.size:=by obtain⟨m,am⟩:=al;exact DataW.trod_lt m _ _ _ am
 have w:∀x∈bu,x.block<W.heap.size:=by obtain⟨m,am⟩:=F;exact DataW.trod_lt m _ _ _ am
 obtain⟨a,l,bh,rfl⟩:=okWide_slice underlying22 (g 0 22 aD rfl rfl);obtain⟨b,bf,cb,rfl⟩:=okWide_slice underlying22 (g 1 22 a5 rfl rfl);obtain⟨s,P,aK⟩:=tE al;obtain⟨_,Q,fb⟩:=tE F;clear n o;have y:Calls prog 3 #[.slice a l bh,.slice b bf cb] W λe B=>e=.returned (.bool true)/\Below W.heap.size W B:=(B1 aK s fb).mono λ_ _ h=>⟨h.1,h.2.below⟩
 refine y.mono λe I ⟨aZ,f⟩=>?_;subst aZ;exact⟨_,rfl,_,_,_,[],_,[],r,trodAll_mk1 (shut_bool underlying4 _),(trodAll_cons_mk (Below.trod y8 (by kernel_rfl) (of_decide_eq_true (by kernel_rfl)) al f u) (trodAll_cons_mk (Below.trod y8 (by kernel_rfl) (of_decide_eq_true (by kernel_rfl)) F f w) trodAll_mk0)),rfl,f.frame _,λh=>by cases h⟩
end PPlan
end
end Go.Proofs.Z
namespace Go.Proofs.YtcjhlkdleojbjaaGreat
open Z _root_.Go.Proofs.Tryz
theorem fnPlan_holds:Rows.FnPlanSaid:=
 OpenClaim.holds_of_wide 3 Tryz.f3 rfl rfl rfl rfl rfl rfl rfl ⟨rfl,rfl,rfl,rfl,rfl⟩ rfl rfl rfl rfl rfl (by kernel_rfl) func3 (by kernel_rfl)
  (of_decide_eq_true (by kernel_rfl)) (by unfold Func.isWrapper;first|(rw[hD (by decide+kernel)];kernel_rfl)|(rw[hC (by decide+kernel)];exact⟨rfl,rfl⟩))
  (λbG i Y enc _=>PPlan.lifted bG i Y enc)
#print axioms fnPlan_holds
end Go.Proofs.YtcjhlkdleojbjaaGreat
