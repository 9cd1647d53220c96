import Derived.Test.YtamokkcfibdghaaGreatP28
import Derived.Test.YtamokkcfibdghaaGreatP21
import Derived.Test.YtamokkcfibdghaaGreatP19
import Derived.Test.YtamokkcfibdghaaGreatP17
namespace Go.Proofs.Z
variable {Zp:Prop}
open Tryz Go.RowKit Flt
set_option maxRecDepth 1000000
set_option maxHeartbeats 0
section
attribute [local go_sem] eG eE eD lT
theorem Kj(vs outs):pz vs outs=gG 0 vs outs:=by unfold gG;rw[hK rfl]
theorem Kk(vs outs):(fV vs vs.length,outs)=gG 2 vs outs:=by unfold gG;rw[hJ (by decide:¬(2:Int)=0),hK (rfl:(2:Int)=2)]
theorem xQ{p}(aj:p≠0)(R:p≠2)(vs outs):eqM p vs outs=gG p vs outs:=by unfold gG;rw[hJ aj,hJ R]
end
section
attribute [local go_sem] eG eE eD
variable {N ab a2:Option Addr}{m1 ae m3 ak base cap X:Nat}{vs:List Vl}{o Q y r u:Int}{aa R':Option Nat}{c0 c1 c2 c3 c5 ar av B ah m aP az aL aF I R aq:Value}
theorem GJ{w W}(ad:V (MS w W N m1 ae ab m3 ak vs ⟨o,Q,y,r,u,X⟩ base aa R' a2 cap))(au:vs.length<=900000):PfC 19 W (MpR w N m1 ae ab m3 ak vs ⟨o,Q,y,r,u,X⟩ base aa (eL 3 Q y r 0)) c0 c1 c2 c3 (hG w.heap.size) c5 ar av B ah m (hG (w.heap.size+1+1)) (hI Q) aP az aL aF I R aq ah m:=by
 unfold PfC;exact xce
theorem xR{w W f}(ad:V (MS w W N m1 ae ab m3 ak vs ⟨o,Q,y,r,u,X⟩ base aa R' a2 cap))(au:vs.length<=900000):PfC 24 W (MpR w N m1 ae ab m3 ak vs ⟨o,Q,y,r,u,X⟩ base aa (eL 1 Q 0 0 0)) c0 c1 c2 c3 (hG w.heap.size) c5 ar av B ah m f (hI Q) aP az aL aF I R aq ah m:=by
 unfold PfC;intros;rename_i HK;have bl:V (∀aD,Kept 0 0 W aD->_):=λaD k=>MS.call ad.o k (eL 1 Q 0 0 0) xaa;have s0:=ad.o.g.c0;have ax:=ad.o.g.c1;have aN:=ad.o.g.c2;conv=>arg 2;whnf
 go_region_with (first
  |(go_at_call 32;refine yai (bl.o _ ((eF W).trans an)) ?_;rintro e af ⟨aG,cap',rfl,⟨a9,bn⟩,⟨am,aC⟩,⟨al,a0⟩,aj,_,aH⟩;have bq:=aj 0;have br:=aj 1;have bC:=aj 2;clear aj)
  |(go_at_call 51;refine yai (oV _ _) ?_;rintro e aB ⟨rfl,an⟩;have bk:=(MS.keep ad.o ((eF W).trans an)).g.c0;have a8:=(MS.keep ad.o ((eF W).trans an)).g.c1;have p2:=(MS.keep ad.o ((eF W).trans an)).g.c2))
 all_goals exact HK _ ⟨_,_,_,⟨rfl,by simp⟩,by simp,aH⟩
variable {w:World}{N ab:Option Addr}{m1 ae cap m3 ak base ag i j ap:Nat}{vs:List Vl}{Q y r u l d F:Int}{X:Nat}
theorem J.qao(h:Zp:=by
 refine fC (GJ ad xaa ?_);exact no_implicit_lambda% qdj):Zp:=h
theorem J.qdk(h:Zp:=by
 exact no_implicit_lambda% qgd):Zp:=h
theorem J.qge(h:Zp:=by
 refine fC (Ft ad xaa ?_);exact no_implicit_lambda% xbw):Zp:=h
open J in
theorem Kl(H:MvH w cap base ag i vs ⟨7,Q,y,r,u,X⟩):PtC w N ab m1 ae cap m3 ak base ag i vs 0 d ([eL 3 Q y r 0,eL 1 Q 0 0 0,eL 8 Q ((vs.length:Nat):Int) d (((vs.length:Nat):Int)+1)],(((vs.length:Nat):Int)+2)) true:=by
 exact qan
variable {w:World}{N ab:Option Addr}{m1 ae cap m3 ak base ag i j ap:Nat}{vs:List Vl}{Q y r u l d F:Int}{X:Nat}
theorem K.qao(h:Zp:=by
 refine fC (GJ ad xaa ?_);exact no_implicit_lambda% qdj):Zp:=h
theorem K.qdk(h:Zp:=by
 exact no_implicit_lambda% qgd):Zp:=h
theorem K.qge(h:Zp:=by
 refine fC (Fu ad xaa ?_);exact no_implicit_lambda% xbw):Zp:=h
open K in
theorem Km(H:MvH w cap base ag i vs ⟨7,Q,y,r,u,X⟩):PtC w N ab m1 ae cap m3 ak base ag i vs 1 d ([eL 3 Q y r 0,eL 1 Q 0 0 0,eL 8 Q ((vs.length:Nat):Int) (((vs.length:Nat):Int)+1) d],(((vs.length:Nat):Int)+2)) true:=by
 exact qan
variable {w:World}{N ab:Option Addr}{m1 ae cap m3 ak base ag i j ap:Nat}{vs:List Vl}{Q y r u l d F:Int}{X:Nat}
theorem L.qao(h:Zp:=by
 refine fC (xR ad xaa ?_);exact no_implicit_lambda% qdj):Zp:=h
theorem L.qdk(h:Zp:=by
 refine fC (Ft ad xaa ?_);exact no_implicit_lambda% xdl):Zp:=h
open L in
theorem Kn(H:MvH w cap base ag i vs ⟨8,Q,y,r,u,X⟩):PtC w N ab m1 ae cap m3 ak base ag i vs 1 d ([eL 1 Q 0 0 0,eL 8 Q y d ((vs.length:Nat):Int)],(((vs.length:Nat):Int)+1)) true:=by
 exact qan
variable {w:World}{N ab:Option Addr}{m1 ae cap m3 ak base ag i j ap:Nat}{vs:List Vl}{Q y r u l d F:Int}{X:Nat}
theorem M.qao(h:Zp:=by
 refine fC (xR ad xaa ?_);exact no_implicit_lambda% qdj):Zp:=h
theorem M.qdk(h:Zp:=by
 refine fC (Fu ad xaa ?_);exact no_implicit_lambda% xdl):Zp:=h
open M in
theorem Ko(H:MvH w cap base ag i vs ⟨8,Q,y,r,u,X⟩):PtC w N ab m1 ae cap m3 ak base ag i vs 2 d ([eL 1 Q 0 0 0,eL 8 Q y ((vs.length:Nat):Int) d],(((vs.length:Nat):Int)+1)) true:=by
 exact qan
theorem xS(w N aA ab Y c1 U c2 Z c3 ins vs outs)(f:GS w N Y aA U ab Z ins vs outs)(bP:Y<=1000000)(b8:U<=1000000)(cx:Z<=1000000):
  Calls prog 144 #[eZ N Y c1 aA U c2 ab Z c3] w λe J=>∃a1 d1 a2 d2 a3 d3,e=.returned (eZ a1 Y d1 a2 U d2 a3 Z d3)/\J.ownsRow w.heap.size 3 1 (.slice a1 Y d1) Y (ins.map (Value.int .i64))/\J.ownsRow w.heap.size 53 6 (.slice a2 U d2) U (fQ vs)/\J.ownsRow w.heap.size 3 1 (.slice a3 Z d3) Z (outs.map (Value.int .i64))/\
   (Apart (.slice a2 U d2) (.slice a1 Y d1)/\Apart (.slice a2 U d2) (.slice a3 Z d3)/\Apart (.slice a1 Y d1) (.slice a3 Z d3))/\Kept 0 0 w J:=by
 obtain⟨bK,hi,bU,bO,bR⟩:=info_parts sV;have an:=ez 0 0 w (eY N Y c1 aA U c2 ab Z c3);have ao:=ez 0 0 (w.alloc (eY N Y c1 aA U c2 ab Z c3)) fp;have aI:V _:=(fE w _ _ _).keep ao;have bF:=fY (w.alloc (eY N Y c1 aA U c2 ab Z c3));rw[show(w.alloc _).heap.size=w.heap.size+1 by simp]at bF;have HR:V _:=bF;have HK:V _:=an.trans ao;have S:V _:=f.i.keep (an.trans ao) yaa;have bY:V _:=f.v.keep (an.trans ao) yaa;have p:V _:=f.o.keep (an.trans ao) yaa;clear f bF an ao;obtain⟨_,ba,aO,aR⟩:=aI.o;go_enter func144,ntmps144;go_upto_region 2 with fail;generalize (w.alloc _).alloc _=af at aI HR HK S bY p ba aO aR⊢;have bD:V _:=P1 bY.o;go_wp2_with (first|(at_builtin;refine mC _ rfl _ _ _ rfl af.heap.size 53 _ _ 6 _ underlying24 hi bU bO bR rfl xab rfl _ _ _ _ rfl ?c0 bD.o ?c2 ?c3 ?c4 ?c5 ?_))
 case c0=>rw[qn,bY.o.len]
 case c2=>exact Mw _
 case c3=>unfold maxLen;omega
 case c4=>omega
 case c5=>exact yad
 intro v' aX al t;obtain⟨a2,d2,rfl⟩:=l9 al;have aM:=mx t (λk O=>by cases O) hQ yad;have ai:V _:=al;have aV:V _:=aM;clear al t bD ba aO aR aM;obtain⟨_,ba,aO,aR⟩:=G0.keep aI.o aV.o;have s:=IS.keep S.o aV.o yaa;have er:V _:=s;have C:V _:=IS.keep p.o aV.o yaa;have cd:V _:=G0.keep aI.o aV.o;have aH:V _:=RB.keep HR.o aV.o;have ce:V (w.heap.size+1<af.heap.size/\w.heap.size<=af.heap.size/\af.heap.size<=aX.heap.size):=⟨HR.o.sz,HK.o.size,aV.o.size⟩
 clear s aI HR S bY p;go_wp2_with fail
 go_region_held3 (λJ=>J.cell? ⟨w.heap.size,0,none⟩=some (.slice N Y c1)/\J.cell? ⟨w.heap.size,2,none⟩=some (.slice ab Z c3)) (first|go_keep|(simp only[Fd _ _ _ _ _ _ _ bT];exact⟨bn,a0⟩))
  (first
   |(go_at_call 147;refine yai (rW _ _ _ _ _ _ _ cx (IS.keep C.o x yaa)) ?_;rintro e bA ⟨a3,d3,rfl,b5,bc⟩;have q:=Kept.trans x bc;obtain⟨_,bn,aC,a0⟩:=G0.keep cd.o q;obtain⟨_,bj,aQ,a6,bL,bI,bJ⟩:=RB.keep aH.o q;have bT:w.heap.size≠w.heap.size+1:=by omega)
   |(go_at_call 147;refine yai (rW (aX.drewN 1) _ _ _ _ _ _ bP (IS.keep er.o (eM 0 0 _ 1) yaa)) ?_;rintro e bm ⟨a1,d1,rfl,b1,bZ⟩;have x:=Kept.trans (eM 0 0 _ 1) bZ;obtain⟨_,s0,ax,aN⟩:=G0.keep cd.o x))
 go_wp2_with fail;obtain⟨bh,aU,aY⟩:=fj _ _ _ _ _ bj aQ a6 (.slice a1 Y d1) (.slice a2 U d2) (.slice a3 Z d3);have K:=ft bA (w.heap.size+1) (.slice a1 Y d1) (.slice a2 U d2) (.slice a3 Z d3);have z:(aX.drewN 1).heap.size=aX.heap.size:=rfl;have ad:=bZ.size;have G:=ce.o
 have aw:∀{b e size n:Nat}{v:Value}{xs:List _}{W:World},W.ownsRow b e _ v n _->af.heap.size<=b->Kept 0 0 W _->(((bA.setCell _ _).setCell _ _).setCell _ _).ownsRow w.heap.size e size v n xs:=λh hb k=>
  jd (gM (e8 h k) K (λg aW=>hR ((eI h aW).1))) xaa
 refine yay (v:=eZ a1 Y d1 a2 U d2 a3 Z d3) (by simp[results,results144,go_sem,bh,aU,aY]) rfl ⟨a1,d1,a2,d2,a3,d3,rfl,aw b1 xaa bc,aw ai.o yad q,aw b5 xaa hQ,⟨mP ai.o b1 xaa,mP ai.o b5 xaa,mP b1 b5 yad⟩,Kept.new ((HK.o.trans aV.o).trans q) K xaa⟩
theorem t.qaf(h:Zp:=by
 exact qek):Zp:=h
theorem t.qel(h:Zp:=by
 rw[gr.o]at a5;have bv:vs.length<=1000000:=hR al.o
 by_cases gP:s<x
 all_goals
  (first|(have bp:(s:Int)<x:=by omega)|(have bp:¬((s:Int)<x):=by omega))
  go_upto_region 5 with fail
  clear bk a8 p2 bG f1 f2 S
  generalize ((af.setCell _ _).setCell _ _).setCell _ _=dd at HL dg⊢
  rw[<-al.o]at HL⊢
  have s0:=HL.o.g.c0
  have ax:=HL.o.g.c1
  have aN:=HL.o.g.c2
  go_cut [] (λbo=>∃aG cap',V (LK w bo N Y d1 ab Z d3 ins outs (vs++[eL 1 cu 0 0 0]) aB.heap.size (some aG) (some ⟨aG,0,none⟩) cap'))
  case first=>
   go_region_with (first
    |(go_at_call 32;refine yai (LK.call HL.o ((eF _).trans an) _ bv) ?_;rintro e af ⟨aG,cap',rfl,⟨_,bn⟩,⟨_,aC⟩,⟨_,a0⟩,aj,aA⟩;have bq:=aj 0;have br:=aj 1;have bC:=aj 2;have cz:V _:=aA.o.1;clear aj aA)
    |(go_at_call 51;refine yai (oV _ _) ?_;rintro e aB ⟨rfl,an⟩;have bk:=(LK.keep HL.o ((eF _).trans an)).g.c0;have a8:=(LK.keep HL.o ((eF _).trans an)).g.c1;have p2:=(LK.keep HL.o ((eF _).trans an)).g.c2))
   all_goals (go_wp2_with fail;go_meet;exact⟨_,_,cz⟩)
  case rest=>
   obtain⟨aG,cap',aA⟩:=hcut
   have cf:(vs++[eL 1 cu 0 0 0]).length=vs.length+1:=by simp
   generalize aJ:vs++[eL 1 _ 0 0 0]=p at aA a5 cf
   clear s0 ax aN aJ HL
   have s0:=aA.o.g.c0
   have ax:=aA.o.g.c1
   have aN:=aA.o.g.c2
   obtain⟨_,bj,aQ,a6,bL,bI,bJ⟩:=aA.o.b
   have aK:V _:=λW=>je W N (some ⟨aG,0,none⟩) ab Y d1 _ cap' Z d3 (show p.length<=1000000 by have:=al.o;have:=cf;omega)
   rw[show(p.length:Int)-1=(vs.length:Nat) by omega]at aK
   clear cf
   go_wp2_with fail
   go_region_with (first
    |(go_at_call 35;refine yai (aK.o _) ?_;rintro e aX ⟨rfl,aM⟩;clear bj aQ a6 bL bI bJ;have ba:=(aA.o.keep ((eF _).trans aM)).g.c0;have aO:=(aA.o.keep ((eF _).trans aM)).g.c1;have aR:=(aA.o.keep ((eF _).trans aM)).g.c2;obtain⟨_,bj,aQ,a6,bL,bI,bJ⟩:=(aA.o.keep ((eF _).trans aM)).b))
   all_goals
    have eg:V _:=aA.o.a4
    have R1:V _:=aA.o.fin ((eF _).trans aM)
    obtain⟨bh,aU,aY⟩:=fj _ _ _ _ _ bj aQ a6 (.slice N Y d1) (hH aG p.length cap') (.slice ab Z d3)
    go_wp2_with fail
    refine yay (v:=.tuple #[eZ N Y d1 (some ⟨aG,0,none⟩) p.length cap' ab Z d3,hI vs.length]) (by simp[results,results139,go_sem,bh,aU,aY]) rfl ⟨?_,R1.o.2⟩
    rw[a5.o]
    exact⟨_,_,_,_,_,_,rfl,R1.o.1.1,R1.o.1.2.1,R1.o.1.2.2,eg.o⟩):Zp:=h
open t in
theorem xT(w bc bd ag Y c1 U c2 Z c3 s x ins vs outs)(f:GS w bc Y (some ⟨ag,0,none⟩) U bd Z ins vs outs)(cW:VA w ag U vs)(bP:Y<=1000000)(b8:U<=2000)(cx:Z<=1000000)(P:(List.range U).all (okV ins vs)=true)(cD:fe vs<=50000)(ad:s<U)(au:x<U)(G:(jC vs x (s-x)).getD s false=false):
  Calls prog 139 #[eZ bc Y c1 (some ⟨ag,0,none⟩) U c2 bd Z c3,hI s,hI x] w λe J=>uY w J Y Z ins outs (grM vs s x) e/\Kept 0 0 w J:=by
 have a5:V (grM vs s x=(vs++[eL 1 (vs.getD x hM).len 0 0 0],(vs.length:Int))):=by
  show _=_;unfold grM;rw[hJ (by rw[G];simp)]
 exact qdx
