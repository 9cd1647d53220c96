import Derived.Test.YtamokkcfibdghaaGreatP16
namespace Go.Proofs.Z
variable {Zp:Prop}
open Tryz Go.RowKit Flt
set_option maxRecDepth 1000000
set_option maxHeartbeats 0
section
attribute [local go_sem] eG eE eD
variable {w:World}{N ab a2:Option Addr}{m1 ae m3 ak base cap X:Nat}{vs:List Vl}{o Q y r u d i:Int}{aa R':Option Nat}{c0 c1 c2 c5 ar av B ah m aP Y az aL aF I R aq:Value}
theorem LI{W}(ad:V (MS w W N m1 ae ab m3 ak vs ⟨o,Q,y,r,u,X⟩ base aa R' a2 cap))(au:vs.length<=900000):PfC 6 W (MpR w N m1 ae ab m3 ak vs ⟨o,Q,y,r,u,X⟩ base aa (eL 6 Q d 0 0)) c0 c1 c2 (hI d) (hG w.heap.size) c5 ar av B ah m (hG (w.heap.size+1+1)) (hI Q) aP az aL aF I R aq ah m:=by
 unfold PfC;intros;rename_i HK;have bl:V (∀aD,Kept 0 0 W aD->_):=λaD k=>MS.call ad.o k (eL 6 Q d 0 0) xaa;exact xah
theorem MV{W}(ad:V (MS w W N m1 ae ab m3 ak vs ⟨o,Q,y,r,u,X⟩ base aa R' a2 cap))(au:vs.length<=900000):PfC 10 W (MpR w N m1 ae ab m3 ak vs ⟨o,Q,y,r,u,X⟩ base aa (eL 5 Q d r 0)) c0 c1 c2 (hI d) (hG w.heap.size) c5 ar av B ah m (hG (w.heap.size+1+1)) (hI Q) aP az aL aF I R aq ah m:=by
 unfold PfC;intros;rename_i HK;have bl:V (∀aD,Kept 0 0 W aD->_):=λaD k=>MS.call ad.o k (eL 5 Q d r 0) xaa;have s0:=ad.o.g.c0;have ax:=ad.o.g.c1;have aN:=ad.o.g.c2;exact xax
theorem MW{W}(ad:V (MS w W N m1 ae ab m3 ak vs ⟨o,Q,y,r,u,X⟩ base aa R' a2 cap))(au:vs.length<=900000):PfC 32 W (MpR w N m1 ae ab m3 ak vs ⟨o,Q,y,r,u,X⟩ base aa (eL 9 1 d 0 0)) c0 c1 c2 (hI d) (hG w.heap.size) c5 ar av B ah m (hG (w.heap.size+1+1)) Y aP az aL aF I R aq ah m:=by
 unfold PfC;intros;rename_i HK;have bl:V (∀aD,Kept 0 0 W aD->_):=λaD k=>MS.call ad.o k (eL 9 1 d 0 0) xaa;exact xah
theorem MX{W}(ad:V (MS w W N m1 ae ab m3 ak vs ⟨o,Q,y,r,u,X⟩ base aa R' a2 cap))(au:vs.length<=900000):PfC 12 W (MpR w N m1 ae ab m3 ak vs ⟨o,Q,y,r,u,X⟩ base aa (eL 4 Q d i 0)) c0 (hI i) c2 (hI d) (hG w.heap.size) c5 ar av B ah m (hG (w.heap.size+1+1)) (hI Q) aP az aL aF I R aq ah m:=by
 exact no_implicit_lambda% xch
theorem MY{W}(ad:V (MS w W N m1 ae ab m3 ak vs ⟨o,Q,y,r,u,X⟩ base aa R' a2 cap))(au:vs.length<=900000):PfC 37 W (MpR w N m1 ae ab m3 ak vs ⟨o,Q,y,r,u,X⟩ base aa (eL 4 Q d i 0)) c0 (hI i) c2 (hI d) (hG w.heap.size) c5 ar av B ah m (hG (w.heap.size+1+1)) (hI Q) aP az aL aF I R aq ah m:=by
 exact no_implicit_lambda% xch
theorem kN{W bQ c3 f}(ad:V (MS w W N m1 ae ab m3 ak vs ⟨o,Q,y,r,u,X⟩ base aa R' a2 cap))(au:vs.length<=900000)(bF:(vs.length:Int)-1=bQ):PfC 38 W (λW'=>W'.cell? ⟨w.heap.size+1,0,none⟩=some (.slice N m1 ae)/\W'.cell? ⟨w.heap.size+1,1,none⟩=some (.slice a2 vs.length cap)/\W'.cell? ⟨w.heap.size+1,2,none⟩=some (.slice ab m3 ak)/\V (∃aX,Kept 0 0 W aX/\W'=fB aX (w.heap.size+1) (.slice N m1 ae) (.slice a2 vs.length cap) (.slice ab m3 ak))) c0 c1 c2 c3 (hG w.heap.size) c5 ar av (hG (w.heap.size+1)) ah m f Y aP az aL aF I R aq (hI bQ) (.bool true):=by
 unfold PfC;intros;rename_i HK;have s0:=ad.o.g.c0;have ax:=ad.o.g.c1;have aN:=ad.o.g.c2;obtain⟨_,bj,aQ,a6,bL,bI,bJ⟩:=ad.o.b;have aK:V _:=λW=>je W N a2 ab m1 ae vs.length cap m3 ak xaa;rw[bF]at aK;clear bF;conv=>arg 2;whnf
 go_region_with (first
  |(go_at_call 35;refine yai (aK.o _) ?_;rintro e aX ⟨rfl,aM⟩;clear bj aQ a6 bL bI bJ;obtain⟨⟨_,_,ba,aO,aR,_,_,_,_⟩,⟨_,bj,aQ,a6,bL,bI,bJ⟩,_,_,_,_,_⟩:=MS.keep ad.o ((eF W).trans aM)))
 all_goals
  obtain⟨bh,aU,aY⟩:=fj _ _ _ _ _ bj aQ a6 (.slice N m1 ae) (.slice a2 vs.length cap) (.slice ab m3 ak)
  exact HK _ ⟨bh,aU,aY,⟨_,(eF W).trans aM,rfl⟩⟩
variable {w:World}{N ab:Option Addr}{m1 ae cap m3 ak base ag i j ap:Nat}{vs:List Vl}{Q y r u l d F:Int}{X:Nat}
theorem MZ(H:MvH w cap base ag i vs ⟨2,Q,y,r,u,X⟩):PtC w N ab m1 ae cap m3 ak base ag i vs (ap:Int) d ([],d) true:=by
 exact xcy
theorem JA(H:MvH w cap base ag i vs ⟨3,Q,y,r,u,X⟩):PtC w N ab m1 ae cap m3 ak base ag i vs 0 d ([],d) true:=by
 exact xcy
theorem JB(H:MvH w cap base ag i vs ⟨3,Q,y,r,u,X⟩):PtC w N ab m1 ae cap m3 ak base ag i vs 1 d ([eL 6 Q d 0 0],((vs.length:Nat):Int)) true:=by
 exact no_implicit_lambda% xcw
theorem M0(H:MvH w cap base ag i vs ⟨6,Q,y,r,u,X⟩):PtC w N ab m1 ae cap m3 ak base ag i vs 0 d ([eL 6 Q d 0 0],((vs.length:Nat):Int)) true:=by
 exact no_implicit_lambda% xcw
theorem JC(H:MvH w cap base ag i vs ⟨8,Q,y,r,u,X⟩):PtC w N ab m1 ae cap m3 ak base ag i vs 0 d ([],0) false:=by
 exact xcy
end
section
def ptM (i:Int)(v:Vl)(la:Int)(k:Nat)(d:Int)(N:Nat):List Vl×Int:=if pq v k=true then nw i v la k d N else ([],0)
end
section
attribute [local go_sem] eG eE eD
theorem OZ{w W N ab m1 ae m3 ak base cap vs o Q y r u X aa R' a2 d F ap c0 c1 c5 ar av B ah m aP az aL aF I R aq}(ad:V (MS w W N m1 ae ab m3 ak vs ⟨o,Q,y,r,u,X⟩ base aa R' a2 cap))(au:vs.length<=900000)(K:ap<2)(bu:fld ⟨o,Q,y,r,u,X⟩ (1-ap)=F):PfC 8 W (MpR w N m1 ae ab m3 ak vs ⟨o,Q,y,r,u,X⟩ base aa (eL 4 Q d F 0)) c0 c1 (hI ap) (hI d) (hG w.heap.size) c5 ar av B ah m (hG (w.heap.size+1+1)) (hI Q) aP az aL aF I R aq ah m:=by
 unfold PfC;intros;rename_i HK;have bl:V (∀aD,Kept 0 0 W aD->_):=λaD k=>MS.call ad.o k (eL 4 Q d F 0) xaa;have s0:=ad.o.g.c0;have ax:=ad.o.g.c1;have aN:=ad.o.g.c2;have ay:=ad.o.v.c0;have bc:=ad.o.v.c1;have bd:=ad.o.v.c2;have bg:=ad.o.v.c3;have Z:=ad.o.v.c4;have s:=ad.o.v.c5;have di:V (∀W,Calls _ _ _ W λe J=>e=.returned (.int _ F)/\Kept 0 0 W _):=λW=>by rw[<-bu];exact nf W _ _ xaa
 have g:(1-ap:Nat)=1-(ap:Int):=xaa;rw[g]at di;have fv:IntKind.i64.wrap (1-ap)=1-ap:=by rw[IntKind.wrap_i64];omega
 clear bu g;conv=>arg 2;whnf
 go_region_with (first
  |(go_at_call 32;refine yai (bl.o _ (((eF W).trans f).trans an)) ?_;rintro e af ⟨aG,cap',rfl,⟨a9,bn⟩,⟨am,aC⟩,⟨al,a0⟩,aj,_,aH⟩;have bq:=aj 0;have br:=aj 1;have bC:=aj 2;clear aj)
  |(go_at_call 38;refine yai (di.o _) ?_;rintro e hy ⟨rfl,f⟩;have bN:=(MS.keep ad.o ((eF W).trans f)).g.c0;have bP:=(MS.keep ad.o ((eF W).trans f)).g.c1;have b8:=(MS.keep ad.o ((eF W).trans f)).g.c2)
  |(go_at_call 34;refine yai (gQ _ _ _ _ _ _) ?_;rintro e aB ⟨rfl,an⟩;have bk:=(MS.keep ad.o (((eF W).trans f).trans an)).g.c0;have a8:=(MS.keep ad.o (((eF W).trans f).trans an)).g.c1;have p2:=(MS.keep ad.o (((eF W).trans f).trans an)).g.c2))
 all_goals exact HK _ ⟨_,_,_,⟨rfl,by simp⟩,by simp,aH⟩
variable {w:World}{N ab:Option Addr}{m1 ae cap m3 ak base ag i j ap:Nat}{vs:List Vl}{Q y r u l d F:Int}{X:Nat}
theorem aH.qay(h:Zp:=by
 unfold PtC;have aP:V _:=bu;clear bu;go_enter func145,ntmps145;go_wp2_with fail;rw[aS.o];clear ay bc bd bg Z s aS;refine fC (OZ ad xaa K aP.o ?_);exact no_implicit_lambda% xan):Zp:=h
open aH in
theorem M6(H:MvH w cap base ag i vs ⟨4,Q,y,r,u,X⟩)(K:ap<2)(bu:fld ⟨4,Q,y,r,u,X⟩ (1-ap)=F):PtC w N ab m1 ae cap m3 ak base ag i vs (ap:Int) d ([eL 4 Q d F 0],((vs.length:Nat):Int)) true:=by
 exact qax
theorem F.qao(h:Zp:=by
 refine fC (MV ad xaa ?_);exact no_implicit_lambda% xan):Zp:=h
open F in
theorem JD(H:MvH w cap base ag i vs ⟨5,Q,y,r,u,X⟩):PtC w N ab m1 ae cap m3 ak base ag i vs 0 d ([eL 5 Q d r 0],((vs.length:Nat):Int)) true:=by
 exact qan
theorem G.qao(h:Zp:=by
 refine fC (MY ad xaa ?_);exact no_implicit_lambda% xan):Zp:=h
open G in
theorem M7(H:MvH w cap base ag i vs ⟨13,Q,y,r,u,X⟩):PtC w N ab m1 ae cap m3 ak base ag i vs 0 d ([eL 4 Q d (i:Int) 0],((vs.length:Nat):Int)) true:=by
 exact qan
