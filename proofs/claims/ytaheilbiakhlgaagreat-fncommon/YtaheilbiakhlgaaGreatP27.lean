import Derived.Test.YtaheilbiakhlgaaGreatP21
namespace Go.Proofs.Z
variable{Zp:Prop}
open Tryz Go.RowKit Flt
set_option maxRecDepth 1000000
set_option maxHeartbeats 0
section
attribute[local go_sem] eF eE eD
variable{w:World}{N ad Z:Option Addr}{m1 af m3 aj base cap m:Nat}{vs:List Vl}{o G g f l d i:Int}{R R':Option Nat}{c0 c1 c2 c5 x y Y X h ab aB I U O s u v:Value}
theorem Lx{W}(ae:V (MS w W N m1 af ad m3 aj vs ⟨o,G,g,f,l,m⟩ base R R' Z cap))(aH:vs.length<=900000):PfC 6 W (MpR w N m1 af ad m3 aj vs ⟨o,G,g,f,l,m⟩ base R (eK 6 G d 0 0)) c0 c1 c2 (hF d) (hD w.heap.size) c5 x y Y X h (hD (w.heap.size+1+1)) (hF G) ab I U O s u v X h:=by
 unfold PfC;intros;rename_i HK;have bg:V (∀ay,Kept 0 0 W ay->_):=λay k=>MS.call ae.o k (eK 6 G d 0 0) xaa;exact xae
theorem Nf{W}(ae:V (MS w W N m1 af ad m3 aj vs ⟨o,G,g,f,l,m⟩ base R R' Z cap))(aH:vs.length<=900000):PfC 10 W (MpR w N m1 af ad m3 aj vs ⟨o,G,g,f,l,m⟩ base R (eK 5 G d f 0)) c0 c1 c2 (hF d) (hD w.heap.size) c5 x y Y X h (hD (w.heap.size+1+1)) (hF G) ab I U O s u v X h:=by
 unfold PfC;intros;rename_i HK;have bg:V (∀ay,Kept 0 0 W ay->_):=λay k=>MS.call ae.o k (eK 5 G d f 0) xaa;have aW:=ae.o.g.c0;have aq:=ae.o.g.c1;have aN:=ae.o.g.c2;exact xas
theorem Ng{W}(ae:V (MS w W N m1 af ad m3 aj vs ⟨o,G,g,f,l,m⟩ base R R' Z cap))(aH:vs.length<=900000):PfC 32 W (MpR w N m1 af ad m3 aj vs ⟨o,G,g,f,l,m⟩ base R (eK 9 1 d 0 0)) c0 c1 c2 (hF d) (hD w.heap.size) c5 x y Y X h (hD (w.heap.size+1+1)) aB ab I U O s u v X h:=by
 unfold PfC;intros;rename_i HK;have bg:V (∀ay,Kept 0 0 W ay->_):=λay k=>MS.call ae.o k (eK 9 1 d 0 0) xaa;exact xae
theorem Nh{W}(ae:V (MS w W N m1 af ad m3 aj vs ⟨o,G,g,f,l,m⟩ base R R' Z cap))(aH:vs.length<=900000):PfC 12 W (MpR w N m1 af ad m3 aj vs ⟨o,G,g,f,l,m⟩ base R (eK 4 G d i 0)) c0 (hF i) c2 (hF d) (hD w.heap.size) c5 x y Y X h (hD (w.heap.size+1+1)) (hF G) ab I U O s u v X h:=by
 exact no_implicit_lambda% xcd
theorem Ni{W}(ae:V (MS w W N m1 af ad m3 aj vs ⟨o,G,g,f,l,m⟩ base R R' Z cap))(aH:vs.length<=900000):PfC 37 W (MpR w N m1 af ad m3 aj vs ⟨o,G,g,f,l,m⟩ base R (eK 4 G d i 0)) c0 (hF i) c2 (hF d) (hD w.heap.size) c5 x y Y X h (hD (w.heap.size+1+1)) (hF G) ab I U O s u v X h:=by
 exact no_implicit_lambda% xcd
theorem kO{W bK c3 j}(ae:V (MS w W N m1 af ad m3 aj vs ⟨o,G,g,f,l,m⟩ base R R' Z cap))(aH:vs.length<=900000)(bB:(vs.length:Int)-1=bK):PfC 38 W (λW'=>W'.cell? ⟨w.heap.size+1,0,none⟩=some (.slice N m1 af)/\W'.cell? ⟨w.heap.size+1,1,none⟩=some (.slice Z vs.length cap)/\W'.cell? ⟨w.heap.size+1,2,none⟩=some (.slice ad m3 aj)/\V (∃a8,Kept 0 0 W a8/\W'=fF a8 (w.heap.size+1) (.slice N m1 af) (.slice Z vs.length cap) (.slice ad m3 aj))) c0 c1 c2 c3 (hD w.heap.size) c5 x y (hD (w.heap.size+1)) X h j aB ab I U O s u v (hF bK) (.bool true):=by
 unfold PfC;intros;rename_i HK;have aW:=ae.o.g.c0;have aq:=ae.o.g.c1;have aN:=ae.o.g.c2;obtain⟨_,bf,aO,aX,bI,bL,bM⟩:=ae.o.b;have aF:V _:=λW=>je W N Z ad m1 af vs.length cap m3 aj xaa;rw[bB]at aF;clear bB;conv=>arg 2;whnf
 go_region_with (first
  |(go_at_call 40;refine yai (aF.o _) ?_;rintro e a8 ⟨rfl,aJ⟩;clear bf aO aX bI bL bM;obtain⟨⟨_,_,a7,aK,aP,_,_,_,_⟩,⟨_,bf,aO,aX,bI,bL,bM⟩,_,_,_,_,_⟩:=MS.keep ae.o ((eG W).trans aJ)))
 all_goals
  obtain⟨bd,aR,aV⟩:=fg _ _ _ _ _ bf aO aX (.slice N m1 af) (.slice Z vs.length cap) (.slice ad m3 aj)
  exact HK _ ⟨bd,aR,aV,⟨_,(eG W).trans aJ,rfl⟩⟩
variable{w:World}{N ad:Option Addr}{m1 af cap m3 aj base aC i j al:Nat}{vs:List Vl}{G g f l P d F:Int}{m:Nat}
theorem Nj(H:MvH w cap base aC i vs ⟨2,G,g,f,l,m⟩):PtC w N ad m1 af cap m3 aj base aC i vs (al:Int) d ([],d) true:=by
 exact xcu
theorem JP(H:MvH w cap base aC i vs ⟨3,G,g,f,l,m⟩):PtC w N ad m1 af cap m3 aj base aC i vs 0 d ([],d) true:=by
 exact xcu
theorem JQ(H:MvH w cap base aC i vs ⟨3,G,g,f,l,m⟩):PtC w N ad m1 af cap m3 aj base aC i vs 1 d ([eK 6 G d 0 0],((vs.length:Nat):Int)) true:=by
 exact no_implicit_lambda% xcs
theorem Nk(H:MvH w cap base aC i vs ⟨6,G,g,f,l,m⟩):PtC w N ad m1 af cap m3 aj base aC i vs 0 d ([eK 6 G d 0 0],((vs.length:Nat):Int)) true:=by
 exact no_implicit_lambda% xcs
theorem JR(H:MvH w cap base aC i vs ⟨8,G,g,f,l,m⟩):PtC w N ad m1 af cap m3 aj base aC i vs 0 d ([],0) false:=by
 exact xcu
end
section
def ptM(i:Int)(v:Vl)(la:Int)(k:Nat)(d:Int)(N:Nat):List Vl×Int:=if pr v k=true then nF i v la k d N else ([],0)
end
section
attribute[local go_sem] eF eE eD
theorem Pc{w W N ad m1 af m3 aj base cap vs o G g f l m R R' Z d F al c0 c1 c5 x y Y X h ab I U O s u v}(ae:V (MS w W N m1 af ad m3 aj vs ⟨o,G,g,f,l,m⟩ base R R' Z cap))(aH:vs.length<=900000)(K:al<2)(bx:fld ⟨o,G,g,f,l,m⟩ (1-al)=F):PfC 8 W (MpR w N m1 af ad m3 aj vs ⟨o,G,g,f,l,m⟩ base R (eK 4 G d F 0)) c0 c1 (hF al) (hF d) (hD w.heap.size) c5 x y Y X h (hD (w.heap.size+1+1)) (hF G) ab I U O s u v X h:=by
 unfold PfC;intros;rename_i HK;have bg:V (∀ay,Kept 0 0 W ay->_):=λay k=>MS.call ae.o k (eK 4 G d F 0) xaa;have aW:=ae.o.g.c0;have aq:=ae.o.g.c1;have aN:=ae.o.g.c2;have av:=ae.o.v.c0;have ba:=ae.o.v.c1;have bc:=ae.o.v.c2;have z:=ae.o.v.c3;have aa:=ae.o.v.c4;have ap:=ae.o.v.c5;have c6:V (∀W,Calls _ _ _ W λe J=>e=.returned (.int _ F)/\Kept 0 0 W _):=λW=>by rw[<-bx];exact mE W _ _ xaa
 have j:(1-al:Nat)=1-(al:Int):=xaa;rw[j]at c6;have fx:IntKind.i64.wrap (1-al)=1-al:=by rw[IntKind.wrap_i64];omega
 clear bx j;conv=>arg 2;whnf
 go_region_with (first
  |(go_at_call 37;refine yai (bg.o _ (((eG W).trans i).trans am)) ?_;rintro e ag ⟨aA,cap',rfl,⟨u0,bo⟩,⟨u1,az⟩,⟨u2,aZ⟩,ai,_,ar⟩;have bl:=ai 0;have bG:=ai 1;have bP:=ai 2;clear ai)
  |(go_at_call 43;refine yai (c6.o _) ?_;rintro e hw ⟨rfl,i⟩;have bN:=(MS.keep ae.o ((eG W).trans i)).g.c0;have bJ:=(MS.keep ae.o ((eG W).trans i)).g.c1;have b5:=(MS.keep ae.o ((eG W).trans i)).g.c2)
  |(go_at_call 39;refine yai (gS _ _ _ _ _ _) ?_;rintro e aG ⟨rfl,am⟩;have bi:=(MS.keep ae.o (((eG W).trans i).trans am)).g.c0;have a5:=(MS.keep ae.o (((eG W).trans i).trans am)).g.c1;have p2:=(MS.keep ae.o (((eG W).trans i).trans am)).g.c2))
 all_goals exact HK _ ⟨_,_,_,⟨rfl,by simp⟩,by simp,ar⟩
variable{w:World}{N ad:Option Addr}{m1 af cap m3 aj base aC i j al:Nat}{vs:List Vl}{G g f l P d F:Int}{m:Nat}
theorem aH.qay(h:Zp:=by
 unfold PtC;have aL:V _:=bx;clear bx;go_enter func162,ntmps162;go_wp2_with fail;rw[aT.o];clear av ba bc z aa ap aT;refine fH (Pc ae xaa K aL.o ?_);exact no_implicit_lambda% xaj):Zp:=h
open aH in
theorem Nl(H:MvH w cap base aC i vs ⟨4,G,g,f,l,m⟩)(K:al<2)(bx:fld ⟨4,G,g,f,l,m⟩ (1-al)=F):PtC w N ad m1 af cap m3 aj base aC i vs (al:Int) d ([eK 4 G d F 0],((vs.length:Nat):Int)) true:=by
 exact qax
theorem F.qao(h:Zp:=by
 refine fH (Nf ae xaa ?_);exact no_implicit_lambda% xaj):Zp:=h
open F in
theorem JS(H:MvH w cap base aC i vs ⟨5,G,g,f,l,m⟩):PtC w N ad m1 af cap m3 aj base aC i vs 0 d ([eK 5 G d f 0],((vs.length:Nat):Int)) true:=by
 exact qan
theorem G.qao(h:Zp:=by
 refine fH (Ni ae xaa ?_);exact no_implicit_lambda% xaj):Zp:=h
open G in
theorem Nm(H:MvH w cap base aC i vs ⟨13,G,g,f,l,m⟩):PtC w N ad m1 af cap m3 aj base aC i vs 0 d ([eK 4 G d (i:Int) 0],((vs.length:Nat):Int)) true:=by
 exact qan
