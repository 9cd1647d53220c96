import Derived.Test.YtcjhlkdleojbjaaGreatP12
namespace Go.Proofs.Z
open Tryz
set_option maxRecDepth 1000000
set_option maxHeartbeats 0
open Go.RowKit Flt
attribute[local go_sem] eF eE eD
variable{w:World}{R aa U:Option Addr}{m1 ae m3 ai base cap bJ:Nat}{vs:List Vl}{o C r bE aI ak:Int}{H R':Option Nat}{c0 c1 c2 c3 c4 cp cr cn bd ca aj cx an cy ct cu cw:Value}
theorem xl{W vb}(HM:E (MS w W R m1 ae aa m3 ai vs ⟨o,C,r,vb,bE,bJ⟩ base H R' U cap))(au:vs.length<=900000):MfC 17 W (MpR w R m1 ae aa m3 ai vs ⟨o,C,r,vb,bE,bJ⟩ base H (eK o C aI vb 0)) c0 c1 (hA aI) c3 c4 (hy w.heap.size) cp cr cn bd ca aj (hy (w.heap.size+1+1)) (hA C) cx an cy ct cu cw aj:=by
 have HC:E (∀az,Kept 0 0 W az->_):=λaz k=>MS.call HM.o k (eK o C aI vb 0) xaa;have aD:=HM.o.v.c0;have z:=HM.o.v.c3;exact MpE
theorem GF{W vb i}(HM:E (MS w W R m1 ae aa m3 ai vs ⟨o,C,r,vb,bE,bJ⟩ base H R' U cap))(au:vs.length<=900000):MfC 23 W (MpR w R m1 ae aa m3 ai vs ⟨o,C,r,vb,bE,bJ⟩ base H (eK 4 C i ak 0)) c0 (hA i) c2 (hA ak) c4 (hy w.heap.size) cp cr cn bd ca aj (hy (w.heap.size+1+1)) (hA C) cx an cy ct cu cw aj:=by
 have HC:E (∀az,Kept 0 0 W az->_):=λaz k=>MS.call HM.o k (eK 4 C i ak 0) xaa;exact MpE
theorem sb{n}(ad:n=6\/n=11\/n=31\/n=34\/n=53\/n=59){W vb aV N aM}(HM:E (MS w W R m1 ae aa m3 ai vs ⟨o,C,r,vb,bE,bJ⟩ base H R' U cap))(au:vs.length<=900000)(bC:(vs.length:Int)-1=aV):MfC n W (λI=>I.cell? ⟨w.heap.size+1,0,none⟩=some (.slice R m1 ae)/\I.cell? ⟨w.heap.size+1,1,none⟩=some (.slice U vs.length cap)/\I.cell? ⟨w.heap.size+1,2,none⟩=some (.slice aa m3 ai)/\E (∃aF,Kept 0 0 W aF/\I=fw aF (w.heap.size+1) (.slice R m1 ae) (.slice U vs.length cap) (.slice aa m3 ai))) c0 c1 c2 c3 c4 (hy w.heap.size) cp cr cn bd (hy (w.heap.size+1)) aj N aM cx an cy ct cu cw (hA aV):=by
 rcases ad with rfl|rfl|rfl|rfl|rfl|rfl
 all_goals
  unfold MfC
  intros
  rename_i HK
  have aZ:=HM.o.g.c0
  have ax:=HM.o.g.c1
  have aU:=HM.o.g.c2
  obtain⟨_,bn,aX,bb,bz,bo,bw⟩:=HM.o.b
  have G:E (∀W:World,_):=λW=>jO W R U aa m1 ae vs.length cap m3 ai xaa
  rw[bC]at G
  clear bC
  conv=>arg 2;whnf
  go_region_with (first
   |(go_at_call 47;refine yaj (G.o _) ?_;rintro e aF ⟨rfl,aR⟩;clear bn aX bb bz bo bw;obtain⟨⟨_,_,aY,aC,aL,_,_,_,_⟩,⟨_,bn,aX,bb,bz,bo,bw⟩,_,_,_,_,_⟩:=MS.keep HM.o ((eG W).trans aR)))
  all_goals
   obtain⟨ba,aP,y2⟩:=fp aF (w.heap.size+1) _ _ _ bn aX bb (.slice R m1 ae) (.slice U vs.length cap) (.slice aa m3 ai)
   exact HK _ ⟨ba,aP,y2,⟨aF,(eG W).trans aR,rfl⟩⟩
theorem MU{W vb}(HM:E (MS w W R m1 ae aa m3 ai vs ⟨o,C,r,vb,bE,bJ⟩ base H R' U cap))(au:vs.length<=900000):MfC 5 W (MpR w R m1 ae aa m3 ai vs ⟨o,C,r,vb,bE,bJ⟩ base H (eK o C aI ak 0)) c0 c1 (hA aI) (hA ak) c4 (hy w.heap.size) cp cr cn bd ca aj (hy (w.heap.size+1+1)) (hA C) cx an cy ct cu cw aj:=by
 have HC:E (∀az,Kept 0 0 W az->_):=λaz k=>MS.call HM.o k (eK o C aI ak 0) xaa;have aD:=HM.o.v.c0;exact MpE
theorem NH{W vb}(HM:E (MS w W R m1 ae aa m3 ai vs ⟨o,C,r,vb,bE,bJ⟩ base H R' U cap))(au:vs.length<=900000):MfC 10 W (MpR w R m1 ae aa m3 ai vs ⟨o,C,r,vb,bE,bJ⟩ base H (eK 6 C ak 0 0)) c0 c1 c2 (hA ak) c4 (hy w.heap.size) cp cr cn bd ca aj (hy (w.heap.size+1+1)) (hA C) cx an cy ct cu cw aj:=by
 have HC:E (∀az,Kept 0 0 W az->_):=λaz k=>MS.call HM.o k (eK 6 C ak 0 0) xaa;exact MpE
theorem GG{W vb p q e}(HM:E (MS w W R m1 ae aa m3 ai vs ⟨o,C,r,vb,bE,bJ⟩ base H R' U cap))(au:vs.length<=900000):MfC 30 W (MpR w R m1 ae aa m3 ai vs ⟨o,C,r,vb,bE,bJ⟩ base H (eK e C p q 0)) c0 c1 c2 c3 c4 (hy w.heap.size) cp cr cn bd ca aj (hy (w.heap.size+1+1)) (hA C) (hA p) (hA q) (hA e) ct cu cw aj:=by
 have HC:E (∀az,Kept 0 0 W az->_):=λaz k=>MS.call HM.o k (eK e C p q 0) xaa;exact MpE
