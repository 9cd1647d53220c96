import Derived.Test.YtcjhlkdleojbjaaGreatP20
namespace Go.Proofs.Z
variable{Zp:Prop}
open Tryz Go.RowKit Flt
set_option maxRecDepth 1000000
set_option maxHeartbeats 0
section
attribute[local go_sem] eF eE eD
variable{w:World}{R aa U:Option Addr}{m1 ae m3 ai base cap bJ:Nat}{vs:List Vl}{o C r bE d i:Int}{H R':Option Nat}{c0 c1 c2 c5 cp cr cn bd ca aM N cx an cy ct cu cw:Value}
theorem M8{W vb}(HM:E (MS w W R m1 ae aa m3 ai vs ⟨o,C,r,vb,bE,bJ⟩ base H R' U cap))(au:vs.length<=900000):PfC 6 W (MpR w R m1 ae aa m3 ai vs ⟨o,C,r,vb,bE,bJ⟩ base H (eK 6 C d 0 0)) c0 c1 c2 (hA d) (hy w.heap.size) c5 cp cr cn bd ca (hy (w.heap.size+1+1)) (hA C) aM cx an cy ct cu cw bd ca:=by
 unfold PfC;intros;rename_i HK;have HC:E (∀az,Kept 0 0 W az->_):=λaz k=>MS.call HM.o k (eK 6 C d 0 0) xaa;exact xaf
theorem Ou{W vb}(HM:E (MS w W R m1 ae aa m3 ai vs ⟨o,C,r,vb,bE,bJ⟩ base H R' U cap))(au:vs.length<=900000):PfC 10 W (MpR w R m1 ae aa m3 ai vs ⟨o,C,r,vb,bE,bJ⟩ base H (eK 5 C d vb 0)) c0 c1 c2 (hA d) (hy w.heap.size) c5 cp cr cn bd ca (hy (w.heap.size+1+1)) (hA C) aM cx an cy ct cu cw bd ca:=by
 unfold PfC;intros;rename_i HK;have HC:E (∀az,Kept 0 0 W az->_):=λaz k=>MS.call HM.o k (eK 5 C d vb 0) xaa;have aZ:=HM.o.g.c0;have ax:=HM.o.g.c1;have aU:=HM.o.g.c2;exact xbx
theorem Ov{W vb}(HM:E (MS w W R m1 ae aa m3 ai vs ⟨o,C,r,vb,bE,bJ⟩ base H R' U cap))(au:vs.length<=900000):PfC 32 W (MpR w R m1 ae aa m3 ai vs ⟨o,C,r,vb,bE,bJ⟩ base H (eK 9 1 d 0 0)) c0 c1 c2 (hA d) (hy w.heap.size) c5 cp cr cn bd ca (hy (w.heap.size+1+1)) N aM cx an cy ct cu cw bd ca:=by
 unfold PfC;intros;rename_i HK;have HC:E (∀az,Kept 0 0 W az->_):=λaz k=>MS.call HM.o k (eK 9 1 d 0 0) xaa;exact xaf
theorem Ow{W vb}(HM:E (MS w W R m1 ae aa m3 ai vs ⟨o,C,r,vb,bE,bJ⟩ base H R' U cap))(au:vs.length<=900000):PfC 12 W (MpR w R m1 ae aa m3 ai vs ⟨o,C,r,vb,bE,bJ⟩ base H (eK 4 C d i 0)) c0 (hA i) c2 (hA d) (hy w.heap.size) c5 cp cr cn bd ca (hy (w.heap.size+1+1)) (hA C) aM cx an cy ct cu cw bd ca:=by
 exact no_implicit_lambda% xbj
theorem Ox{W vb}(HM:E (MS w W R m1 ae aa m3 ai vs ⟨o,C,r,vb,bE,bJ⟩ base H R' U cap))(au:vs.length<=900000):PfC 37 W (MpR w R m1 ae aa m3 ai vs ⟨o,C,r,vb,bE,bJ⟩ base H (eK 4 C d i 0)) c0 (hA i) c2 (hA d) (hy w.heap.size) c5 cp cr cn bd ca (hy (w.heap.size+1+1)) (hA C) aM cx an cy ct cu cw bd ca:=by
 exact no_implicit_lambda% xbj
theorem kj{W vb aV c3 aj}(HM:E (MS w W R m1 ae aa m3 ai vs ⟨o,C,r,vb,bE,bJ⟩ base H R' U cap))(au:vs.length<=900000)(bC:(vs.length:Int)-1=aV):PfC 38 W (λI=>I.cell? ⟨w.heap.size+1,0,none⟩=some (.slice R m1 ae)/\I.cell? ⟨w.heap.size+1,1,none⟩=some (.slice U vs.length cap)/\I.cell? ⟨w.heap.size+1,2,none⟩=some (.slice aa m3 ai)/\E (∃aF,Kept 0 0 W aF/\I=fw aF (w.heap.size+1) (.slice R m1 ae) (.slice U vs.length cap) (.slice aa m3 ai))) c0 c1 c2 c3 (hy w.heap.size) c5 cp cr (hy (w.heap.size+1)) bd ca aj N aM cx an cy ct cu cw (hA aV) (.bool true):=by
 unfold PfC;intros;rename_i HK;have aZ:=HM.o.g.c0;have ax:=HM.o.g.c1;have aU:=HM.o.g.c2;obtain⟨_,bn,aX,bb,bz,bo,bw⟩:=HM.o.b;have G:E _:=λW=>jO W R U aa m1 ae vs.length cap m3 ai xaa;rw[bC]at G;clear bC;conv=>arg 2;whnf
 go_region_with (first
  |(go_at_call 47;refine yaj (G.o _) ?_;rintro e aF ⟨rfl,aR⟩;clear bn aX bb bz bo bw;obtain⟨⟨_,_,aY,aC,aL,_,_,_,_⟩,⟨_,bn,aX,bb,bz,bo,bw⟩,_,_,_,_,_⟩:=MS.keep HM.o ((eG W).trans aR)))
 all_goals
  obtain⟨ba,aP,y2⟩:=fp _ _ _ _ _ bn aX bb (.slice R m1 ae) (.slice U vs.length cap) (.slice aa m3 ai)
  exact HK _ ⟨ba,aP,y2,⟨_,(eG W).trans aR,rfl⟩⟩
variable{w:World}{R aa:Option Addr}{m1 ae cap m3 ai base aN i j aj:Nat}{vs:List Vl}{C r vb bE l d bg:Int}{bJ:Nat}
theorem Oy(Y:MvH w cap base aN i vs ⟨2,C,r,vb,bE,bJ⟩):PtC w R aa m1 ae cap m3 ai base aN i vs (aj:Int) d ([],d) true:=by
 exact xbw
theorem Lh(Y:MvH w cap base aN i vs ⟨3,C,r,vb,bE,bJ⟩):PtC w R aa m1 ae cap m3 ai base aN i vs 0 d ([],d) true:=by
 exact xbw
theorem Li(Y:MvH w cap base aN i vs ⟨3,C,r,vb,bE,bJ⟩):PtC w R aa m1 ae cap m3 ai base aN i vs 1 d ([eK 6 C d 0 0],((vs.length:Nat):Int)) true:=by
 exact no_implicit_lambda% xbv
theorem Oz(Y:MvH w cap base aN i vs ⟨6,C,r,vb,bE,bJ⟩):PtC w R aa m1 ae cap m3 ai base aN i vs 0 d ([eK 6 C d 0 0],((vs.length:Nat):Int)) true:=by
 exact no_implicit_lambda% xbv
theorem Lj(Y:MvH w cap base aN i vs ⟨8,C,r,vb,bE,bJ⟩):PtC w R aa m1 ae cap m3 ai base aN i vs 0 d ([],0) false:=by
 exact xbw
end
section
def ptM(i:Int)(v:Vl)(la:Int)(k:Nat)(d:Int)(N:Nat):List Vl×Int:=if ph v k=true then nd i v la k d N else ([],0)
end
section
attribute[local go_sem] eF eE eD
theorem PU{w W R aa m1 ae m3 ai base cap vs o C r vb bE bJ H R' U d bg aj c0 c1 c5 cp cr cn bd ca aM cx an cy ct cu cw}(HM:E (MS w W R m1 ae aa m3 ai vs ⟨o,C,r,vb,bE,bJ⟩ base H R' U cap))(au:vs.length<=900000)(a9:aj<2)(aX:fld ⟨o,C,r,vb,bE,bJ⟩ (1-aj)=bg):PfC 8 W (MpR w R m1 ae aa m3 ai vs ⟨o,C,r,vb,bE,bJ⟩ base H (eK 4 C d bg 0)) c0 c1 (hA aj) (hA d) (hy w.heap.size) c5 cp cr cn bd ca (hy (w.heap.size+1+1)) (hA C) aM cx an cy ct cu cw bd ca:=by
 unfold PfC;intros;rename_i HK;have HC:E (∀az,Kept 0 0 W az->_):=λaz k=>MS.call HM.o k (eK 4 C d bg 0) xaa;have aZ:=HM.o.g.c0;have ax:=HM.o.g.c1;have aU:=HM.o.g.c2;have aD:=HM.o.v.c0;have a5:=HM.o.v.c1;have a7:=HM.o.v.c2;have z:=HM.o.v.c3;have G:=HM.o.v.c4;have F:=HM.o.v.c5;have cJ:E (∀W,Calls _ _ _ W λe B=>e=.returned (.int _ bg)/\Kept 0 0 W _):=λW=>by rw[<-aX];exact mj W _ _ xaa
 have s:(1-aj:Nat)=1-(aj:Int):=xaa;rw[s]at cJ;have fo:IntKind.i64.wrap (1-aj)=1-aj:=by rw[IntKind.wrap_i64];omega
 clear aX s;conv=>arg 2;whnf
 go_region_with (first
  |(go_at_call 44;refine yaj (HC.o _ (((eG W).trans f).trans aw)) ?_;rintro e ag ⟨aq,cap',rfl,⟨u0,br⟩,⟨u1,ay⟩,⟨u2,a0⟩,al,_,aI⟩;have bZ:=al 0;have b5:=al 1;have b6:=al 2;clear al)
  |(go_at_call 52;refine yaj (cJ.o _) ?_;rintro e hs ⟨rfl,f⟩;have bB:=(MS.keep HM.o ((eG W).trans f)).g.c0;have b8:=(MS.keep HM.o ((eG W).trans f)).g.c1;have cg:=(MS.keep HM.o ((eG W).trans f)).g.c2)
  |(go_at_call 46;refine yaj (ij _ _ _ _ _ _) ?_;rintro e aA ⟨rfl,aw⟩;have bK:=(MS.keep HM.o (((eG W).trans f).trans aw)).g.c0;have bu:=(MS.keep HM.o (((eG W).trans f).trans aw)).g.c1;have p2:=(MS.keep HM.o (((eG W).trans f).trans aw)).g.c2))
 all_goals exact HK _ ⟨_,_,_,⟨rfl,by simp⟩,by simp,aI⟩
variable{w:World}{R aa:Option Addr}{m1 ae cap m3 ai base aN i j aj:Nat}{vs:List Vl}{C r vb bE l d bg:Int}{bJ:Nat}
theorem H.qas(h:Zp:=by
 unfold PtC;have HF:E _:=aX;clear aX;go_enter func140,ntmps140;go_wp2_with fail;rw[aT.o];clear aD a5 a7 z G F aT;refine fk (PU HM xaa a9 HF.o ?_);exact no_implicit_lambda% xae):Zp:=h
open H in
theorem OA(Y:MvH w cap base aN i vs ⟨4,C,r,vb,bE,bJ⟩)(a9:aj<2)(aX:fld ⟨4,C,r,vb,bE,bJ⟩ (1-aj)=bg):PtC w R aa m1 ae cap m3 ai base aN i vs (aj:Int) d ([eK 4 C d bg 0],((vs.length:Nat):Int)) true:=by
 exact qar
theorem o.qak(h:Zp:=by
 refine fk (Ou HM xaa ?_);exact no_implicit_lambda% xae):Zp:=h
open o in
theorem Ll(Y:MvH w cap base aN i vs ⟨5,C,r,vb,bE,bJ⟩):PtC w R aa m1 ae cap m3 ai base aN i vs 0 d ([eK 5 C d vb 0],((vs.length:Nat):Int)) true:=by
 exact qaj
theorem p.qak(h:Zp:=by
 refine fk (Ox HM xaa ?_);exact no_implicit_lambda% xae):Zp:=h
open p in
theorem OB(Y:MvH w cap base aN i vs ⟨13,C,r,vb,bE,bJ⟩):PtC w R aa m1 ae cap m3 ai base aN i vs 0 d ([eK 4 C d (i:Int) 0],((vs.length:Nat):Int)) true:=by
 exact qaj
