import Derived.Test.YtkjahdegnkmejaaGreatP11
import Derived.Test.YtkjahdegnkmejaaGreatP19
import Derived.Test.YtkjahdegnkmejaaGreatP10
import Derived.Test.YtkjahdegnkmejaaGreatP09
namespace Go.Proofs.Z
variable{Zp:Prop}
open Tryz Go.RowKit Flt
set_option maxRecDepth 1000000
set_option maxHeartbeats 0
section
attribute[local go_sem] eE eC eB
variable{R U K:Option Addr}{m1 ad m3 ah base cap u:Nat}{vs:List Vl}{o Q l f r:Int}{H R':Option Nat}{c0 c1 c2 c4 J ag Y aX h P an az aw:Value}
theorem Fy{w W S N ai am}(Z:V (MS w W R m1 ad U m3 ah vs ⟨o,Q,l,f,r,u⟩ base H R' K cap))(bj:vs.length<=900000):MfC 20 W (MpR w R m1 ad U m3 ah vs ⟨o,Q,l,f,r,u⟩ base H (eK 4 Q l S 0)) c0 c1 c2 (ih S) c4 (ge w.heap.size) J ag Y aX h P (ge (w.heap.size+1+1)) (ih Q) an az aw N ai am P:=by
 unfold MfC;intros;rename_i HK;have bi:V (∀aq,Kept 0 0 W aq->_):=λaq k=>MS.call Z.o k (eK 4 Q l S 0) xaa;have a0:=Z.o.g.c0;have av:=Z.o.g.c1;have aT:=Z.o.g.c2;have bb:=Z.o.v.c2;exact xae
theorem wM{w W p q d c3}(Z:V (MS w W R m1 ad U m3 ah vs ⟨o,Q,l,f,r,u⟩ base H R' K cap))(bj:vs.length<=900000):MfC 52 W (MpR w R m1 ad U m3 ah vs ⟨o,Q,l,f,r,u⟩ base H (eK 8 Q d p q)) c0 c1 c2 c3 c4 (ge w.heap.size) J ag Y aX h P (ge (w.heap.size+1+1)) (ih Q) an az aw (ih p) (ih q) (ih d) P:=by
 unfold MfC;intros;rename_i HK;have bi:V (∀aq,Kept 0 0 W aq->_):=λaq k=>MS.call Z.o k (eK 8 Q d p q) xaa;exact xaf
end
section
variable{g vs2 q j vs:List Vl}{m1 ad m3 ah base cap:Nat}{Q l aA S b6:Int}{R U:Option Addr}
theorem rX{w F a2}(h:w.ownsRow base 79 6 (ia a2 vs.length cap) vs.length (fU vs))(k:Kept 0 0 w F)(r):
  MvP w R m1 ad U m3 ah vs base (some a2) ([],r) (.returned (.tuple #[eX R m1 ad (some ⟨a2,0,none⟩) vs.length cap U m3 ah,ih r])) F:=by
 unfold MvP;exact xip
def orM(a n:Int)(N:Nat):List Vl×Int:=if a<0 then ([eK 1 n 0 0 0],(N:Int))else ([],a)
theorem MS.orAny{w W aq K v H R'}(h:MS w W R m1 ad U m3 ah vs v base H R' K cap)(k:Kept 0 0 W aq)(a n)(hn:vs.length<=900000):
  Calls prog 131 #[eX R m1 ad K vs.length cap U m3 ah,ih a,ih n] aq λe ak=>∃(vs2:List Vl) (m:Int) (a2':Option Addr) (cap':Nat) (R2:Option Nat),V (vs2=vs++(orM a n vs.length).1/\m=(orM a n vs.length).2)/\vs2.length<=vs.length+1/\e=.returned (.tuple #[eX R m1 ad a2' vs2.length cap' U m3 ah,ih m])/\
   (∃u,ak.cell? ⟨w.heap.size,0,none⟩=some u)/\(∃u,ak.cell? ⟨w.heap.size,1,none⟩=some u)/\(∃u,ak.cell? ⟨w.heap.size,2,none⟩=some u)/\(∀o,ak.frozen? ⟨w.heap.size,o,none⟩=false)/\At ak (w.heap.size+1+1) 0 v/\
   V (MS w (fk ak w.heap.size (.slice R m1 ad) (.slice a2' vs2.length cap') (.slice U m3 ah)) R m1 ad U m3 ah vs2 v base H R2 a2' cap'):=by
 by_cases aB:a<0
 ·refine(h.orNone k a n aB hn).mono ?_;rintro e ak ⟨aI,cap',rfl,bo,ar,aQ,aj,aL,bE⟩;have ag:(vs++[eK 1 n 0 0 0]).length=vs.length+1:=by simp
  refine⟨vs++[eK 1 n 0 0 0],(vs.length:Nat),some ⟨aI,0,none⟩,cap',some aI,⟨by rw[orM,iv aB],by rw[orM,iv aB]⟩,by rw[ag];exact yad,by rw[ag],bo,ar,aQ,aj,aL,?_⟩;grind
 refine(h.orSome k a n xaa).mono ?_;rintro e ak ⟨rfl,bo,ar,aQ,aj,aL,bE⟩;exact⟨vs,a,K,cap,R',⟨by rw[orM,ip aB,List.append_nil],by rw[orM,ip aB]⟩,by omega,rfl,bo,ar,aQ,aj,aL,bE⟩
theorem LQ{d m3}(B:-1<=aA)(N:-1<=S)(aF:vs2=vs++(orM aA Q vs.length).1/\b6=(orM aA Q vs.length).2)(bv:q=vs2++(orM S Q vs2.length).1/\m3=(orM S Q vs2.length).2)(cF:j=q++[eK 8 Q d b6 m3]):
  j=vs++(chM Q d aA S vs.length).1/\(j.length:Int)-1=(chM Q d aA S vs.length).2:=by
 grind[chM,orM]
theorem Fz{aC m1}(B:-1<=S)(N:-1<=aC)(aF:g=vs++(orM S Q vs.length).1/\m1=(orM S Q vs.length).2)(bv:vs2=g++(orM aC Q g.length).1/\b6=(orM aC Q g.length).2)(cF:q=vs2++[eK 8 Q l m1 b6]):
  q=vs++(chM Q l S aC vs.length).1/\(q.length:Int)-1=(chM Q l S aC vs.length).2:=LQ B N aF bv cF
theorem FA{f m3}(B:-1<=aA)(N:-1<=S)(ax:g=vs++[eK 3 Q l f 0])(aF:vs2=g++(orM aA Q g.length).1/\b6=(orM aA Q g.length).2)(bv:q=vs2++(orM S Q vs2.length).1/\m3=(orM S Q vs2.length).2)(cF:j=q++[eK 8 Q ((vs.length:Nat):Int) b6 m3]):
  j=vs++([eK 3 Q l f 0]++(chM Q ((vs.length:Nat):Int) aA S (vs.length+1)).1)/\(j.length:Int)-1=(chM Q ((vs.length:Nat):Int) aA S (vs.length+1)).2:=by
 have ag:g.length=vs.length+1:=by grind
 grind[LQ]
variable{w W F:World}{R U K:Option Addr}{m1 ad cap m3 ah base a2 i:Nat}{vs vs0:List Vl}{v:Vl}{aA S aC:Int}{H R':Option Nat}{M:List Vl×Int}
def MvC(w:World)(b1 b3:Option Addr)(m1 e1 cap m3 e3 base g2 i:Nat)(vs:List Vl)(ta tb tc:Int)(M:List Vl×Int):Prop:=
 Calls prog 130 #[eX b1 m1 e1 (some ⟨g2,0,none⟩) vs.length cap b3 m3 e3,.int .i64 (i:Int),.int .i64 ta,.int .i64 tb,.int .i64 tc] w λe w'=>MvP w b1 m1 e1 b3 m3 e3 vs base (some g2) M e w'
theorem MS.orX(h:MS w W R m1 ad U m3 ah vs v base H R' K cap)(a n)(hn:vs.length<=900000):
  Calls prog 131 #[eX R m1 ad K vs.length cap U m3 ah,ih a,ih n] W λe ak=>∃(us:List Vl) (m:Int) (a2':Option Addr) (cap':Nat) (R2:Option Nat) (di:World),V (us=vs++(orM a n vs.length).1/\m=(orM a n vs.length).2)/\us.length<=vs.length+1/\e=.returned (.tuple #[eX R m1 ad a2' us.length cap' U m3 ah,ih m])/\
   (∃u,ak.cell? ⟨w.heap.size,0,none⟩=some u)/\(∃u,ak.cell? ⟨w.heap.size,1,none⟩=some u)/\(∃u,ak.cell? ⟨w.heap.size,2,none⟩=some u)/\ak.frozen? ⟨w.heap.size,0,none⟩=false/\ak.frozen? ⟨w.heap.size,1,none⟩=false/\ak.frozen? ⟨w.heap.size,2,none⟩=false/\
   V (((ak.setCell ⟨w.heap.size,0,none⟩ (.slice R m1 ad)).setCell ⟨w.heap.size,1,none⟩ (.slice a2' us.length cap')).setCell ⟨w.heap.size,2,none⟩ (.slice U m3 ah)=di)/\V (MS w di R m1 ad U m3 ah us v base H R2 a2' cap'):=by
 refine(MS.orAny h i3 a n hn).mono ?_;rintro e ak ⟨us,m,au,az,r,b2,bI,rfl,bC,bH,bJ,aj,_,bE⟩;exact⟨_,m,_,_,_,_,b2,bI,rfl,bC,bH,bJ,aj 0,aj 1,aj 2,rfl,bE⟩
theorem MS.finR(h:MS w W R m1 ad U m3 ah vs v base H R' K cap)(X:∃aM,Kept 0 0 W aM/\F=fk aM (w.heap.size+1) (.slice R m1 ad) (.slice K vs.length cap) (.slice U m3 ah))(aL:vs=vs0++M.1):
  MvP w R m1 ad U m3 ah vs0 base H M (.returned (.tuple #[eX R m1 ad K vs.length cap U m3 ah,ih M.2])) F:=by
 grind[MS.fin]
end
section
attribute[local go_sem] eE eC eB
variable{w:World}{R U:Option Addr}{m1 ad cap m3 ah base a2 i:Nat}{vs:List Vl}{o Q l f r:Int}{u:Nat}{aA S aC:Int}
theorem Jx(ab:MvH w cap base a2 i vs ⟨2,Q,l,f,r,u⟩)(aB:0<=aA)(K:0<=S):MvC w R U m1 ad cap m3 ah base a2 i vs aA S aC ([eK 2 Q aA S 0],((vs.length:Nat):Int)):=by
 exact no_implicit_lambda% xcc
theorem Jy(ab:MvH w cap base a2 i vs ⟨2,Q,l,f,r,u⟩)(aB:0<=aA)(K:S<0):MvC w R U m1 ad cap m3 ah base a2 i vs aA S aC ([],aA):=by
 exact xbh
theorem Jz(ab:MvH w cap base a2 i vs ⟨2,Q,l,f,r,u⟩)(aB:aA<0)(K:0<=S):MvC w R U m1 ad cap m3 ah base a2 i vs aA S aC ([],S):=by
 exact xbh
theorem JA(ab:MvH w cap base a2 i vs ⟨5,Q,l,f,r,u⟩)(aB:0<=aA)(K:S<0):MvC w R U m1 ad cap m3 ah base a2 i vs aA S aC ([eK 5 Q aA f 0],((vs.length:Nat):Int)):=by
 exact no_implicit_lambda% xbe
variable{w:World}{R U:Option Addr}{m1 ad cap m3 ah base a2 i:Nat}{vs:List Vl}{o Q l f r:Int}{u:Nat}{aA S aC:Int}
theorem JB(ab:MvH w cap base a2 i vs ⟨3,Q,l,f,r,u⟩)(aB:0<=aA)(K:0<=S):MvC w R U m1 ad cap m3 ah base a2 i vs aA S aC ([eK 3 Q aA S 0],((vs.length:Nat):Int)):=by
 exact no_implicit_lambda% xcc
theorem JC(ab:MvH w cap base a2 i vs ⟨3,Q,l,f,r,u⟩)(aB:0<=aA)(K:S<0):MvC w R U m1 ad cap m3 ah base a2 i vs aA S aC ([],aA):=by
 exact xbh
theorem V.qau(h:Zp:=by
 unfold MvC;exact qek):Zp:=h
theorem V.qel(h:Zp:=by
 refine fo (M8 Z xaa ?_);clear Z;unfold MfK;intros;rename_i wc X;obtain⟨g,aI,cap',b,ao,Z⟩:=X;go_wp2_with fail;refine fo (M7 Z xaa (show(g.length:Int)-1=(vs.length:Nat) by have:=b.o.2;omega) ?_);exact no_implicit_lambda% xbj):Zp:=h
open V in
theorem JD(ab:MvH w cap base a2 i vs ⟨3,Q,l,f,r,u⟩)(aB:aA<0)(K:0<=S):MvC w R U m1 ad cap m3 ah base a2 i vs aA S aC ([eK 6 Q S 0 0],((vs.length:Nat):Int)):=by
 exact qat
theorem W.qau(h:Zp:=by
 unfold MvC;have bd:=yan aR.1;have cu:=yan aR.2.1;have cD:=yan aR.2.2.1;have cC:=yan aR.2.2.2.1;have dd:=yan aR.2.2.2.2.1;have j:=yan aR.2.2.2.2.2.1;have d:=yan aR.2.2.2.2.2.2;clear aR;exact qek):Zp:=h
theorem W.qel(h:Zp:=by
 refine fo (MC Z xaa ?_);exact no_implicit_lambda% xcw):Zp:=h
open W in
theorem M9(ab:MvH w cap base a2 i vs ⟨o,Q,l,f,r,u⟩)(aR:o≠2/\o≠3/\o≠4/\o≠5/\o≠7/\o≠8/\o≠13)(aB:0<=aA):MvC w R U m1 ad cap m3 ah base a2 i vs aA S aC ([eK o Q aA 0 r],((vs.length:Nat):Int)):=by
 exact qat
theorem JE(ab:MvH w cap base a2 i vs ⟨8,Q,l,f,r,u⟩)(K:S<0)(ai:aC<0):MvC w R U m1 ad cap m3 ah base a2 i vs aA S aC ([],-1):=by
 exact xbh
variable{w:World}{R U:Option Addr}{m1 ad cap m3 ah base a2 i:Nat}{vs:List Vl}{o Q l f r:Int}{u:Nat}{aA S aC:Int}
theorem K.qao(h:Zp:=by
 have B:=Z.o.v.c0;go_wp2_with fail;clear B;refine fo (Fy Z xaa ?_);clear Z;unfold MfK;exact qde):Zp:=h
theorem K.qdf(h:Zp:=by
 have B:=Z.o.v.c0;have h:(0:Int)<=(vs.length:Nat):=xaa;have y:(0:Int)<=((vs.length:Nat)+1):=xaa;go_wp2_with fail;clear B;refine fo (Fx Z xaa ?_);clear Z;unfold MfK;intros;rename_i wc X;obtain⟨q,aI,cap',k,F,Z⟩:=X;go_wp2_with fail;refine fo (EY Z xaa (show(q.length:Int)-1=((vs.length:Nat)+2) by have:=b.o.2;have:=m.o.2;have:=k.o.2;omega) ?_);exact no_implicit_lambda% xer):Zp:=h
open K in
theorem JF(ab:MvH w cap base a2 i vs ⟨4,Q,l,f,r,u⟩)(aB:0<=aA)(K:0<=S):MvC w R U m1 ad cap m3 ah base a2 i vs aA S aC ([eK 4 Q aA f 0,eK 4 Q l S 0,eK 2 Q ((vs.length:Nat):Int) (((vs.length:Nat):Int)+1) 0],(((vs.length:Nat):Int)+2)):=by
 exact no_implicit_lambda% qeb
variable{w:World}{R U:Option Addr}{m1 ad cap m3 ah base a2 i:Nat}{vs:List Vl}{o Q l f r:Int}{u:Nat}{aA S aC:Int}
theorem JG(ab:MvH w cap base a2 i vs ⟨4,Q,l,f,r,u⟩)(aB:0<=aA)(K:S<0):MvC w R U m1 ad cap m3 ah base a2 i vs aA S aC ([eK 4 Q aA f 0],((vs.length:Nat):Int)):=by
 exact no_implicit_lambda% xbe
theorem X.qau(h:Zp:=by
 unfold MvC;exact qek):Zp:=h
theorem X.qel(h:Zp:=by
 refine fo (Fy Z xaa ?_);exact no_implicit_lambda% xat):Zp:=h
open X in
theorem JH(ab:MvH w cap base a2 i vs ⟨4,Q,l,f,r,u⟩)(aB:aA<0)(K:0<=S):MvC w R U m1 ad cap m3 ah base a2 i vs aA S aC ([eK 4 Q l S 0],((vs.length:Nat):Int)):=by
 exact qat
theorem Y.qau(h:Zp:=by
 unfold MvC;exact qek):Zp:=h
theorem Y.qel(h:Zp:=by
 refine fo (MD Z xaa ?_);exact no_implicit_lambda% xcw):Zp:=h
open Y in
theorem Na(ab:MvH w cap base a2 i vs ⟨13,Q,l,f,r,u⟩)(aB:0<=aA):MvC w R U m1 ad cap m3 ah base a2 i vs aA S aC ([eK 4 Q aA (i:Int) 0],((vs.length:Nat):Int)):=by
 exact qat
variable{w:World}{R U:Option Addr}{m1 ad cap m3 ah base a2 i:Nat}{vs:List Vl}{o Q l f r:Int}{u:Nat}{aA S aC:Int}
theorem Z.qau(h:Zp:=by
 unfold MvC;go_enter func130,ntmps130;go_wp2_with fail;rw[aZ.o];clear B bf bb bc C au aZ;refine fo (Fw Z xaa ?_);clear Z;unfold MfK;intros;rename_i wc X;obtain⟨g,aI,cap',b,ao,Z⟩:=X;go_wp2_with fail;refine fo (E0 Z xaa (show(g.length:Int)-1=(vs.length:Nat) by have:=b.o.2;omega) ?_);clear Z;unfold MfK;exact qde):Zp:=h
theorem Z.qdf(h:Zp:=by
 have B:=Z.o.v.c0;have h:(0:Int)<=((vs.length:Nat)+1):=xaa;go_wp2_with fail;clear B;refine fo (ME Z xaa ?_);clear Z;unfold MfK;intros;rename_i wc X;obtain⟨q,aI,cap',k,F,Z⟩:=X;go_wp2_with fail;refine fo (MF Z xaa (show(q.length:Int)-1=((vs.length:Nat)+2) by have:=b.o.2;have:=m.o.2;have:=k.o.2;omega) ?_);exact no_implicit_lambda% xer):Zp:=h
open Z in
theorem JI(ab:MvH w cap base a2 i vs ⟨5,Q,l,f,r,u⟩)(aB:aA<0)(K:0<=S):MvC w R U m1 ad cap m3 ah base a2 i vs aA S aC ([eK 4 Q (i:Int) S 0,eK 5 Q ((vs.length:Nat):Int) f 0,eK 6 Q (((vs.length:Nat):Int)+1) 0 0],(((vs.length:Nat):Int)+2)):=by
 exact qat
variable{w:World}{R U:Option Addr}{m1 ad cap m3 ah base a2 i:Nat}{vs:List Vl}{o Q l f r:Int}{u:Nat}{aA S aC:Int}
theorem L.qao(h:Zp:=by
 have B:=Z.o.v.c0;go_wp2_with fail;clear B;refine fo (Fw Z xaa ?_);clear Z;unfold MfK;intros;rename_i wc X;obtain⟨vs2,aI,cap',m,v,Z⟩:=X;go_wp2_with fail;refine fo (E0 Z xaa (show(vs2.length:Int)-1=((vs.length:Nat)+1) by have:=b.o.2;have:=m.o.2;omega) ?_);clear Z;unfold MfK;intros;rename_i wc X;obtain⟨q,aI,cap',k,F,Z⟩:=X;obtain⟨_,_,a0,av,aT,_,_,_,_⟩:=Z.o.g;go_wp2_with fail;refine(MS.lst Z.o xaa (show(q.length:Int)-1=((vs.length:Nat)+2) by have:=b.o.2;have:=m.o.2;have:=k.o.2;omega)).mono ?_;clear Z a0 av aT;rintro e t ⟨rfl,Z⟩;have B:=Z.o.v.c0;have h:(0:Int)<=(vs.length:Nat):=xaa;have y:(0:Int)<=((vs.length:Nat)+2):=xaa;go_wp2_with fail;clear B;refine fo (Fx Z xaa ?_);clear Z;unfold MfK;intros;rename_i wc X;obtain⟨j,aI,cap',d,a7,Z⟩:=X;go_wp2_with fail;refine fo (EY Z xaa (show(j.length:Int)-1=((vs.length:Nat)+3) by have:=b.o.2;have:=m.o.2;have:=k.o.2;have:=d.o.2;omega) ?_);unfold MfK;intros;rename_i aM X;obtain⟨a8,aJ,aP,HR⟩:=X;go_wp2_with fail;exact yaz (by simp[results,results130,go_sem,a8,aJ,aP]) rfl (MS.finR Z.o HR.o (by rw[d.o.1,k.o.1,m.o.1,b.o.1]<;>simp))):Zp:=h
open L in
theorem JJ(ab:MvH w cap base a2 i vs ⟨5,Q,l,f,r,u⟩)(aB:0<=aA)(K:0<=S):MvC w R U m1 ad cap m3 ah base a2 i vs aA S aC ([eK 5 Q aA f 0,eK 4 Q (i:Int) S 0,eK 5 Q (((vs.length:Nat):Int)+1) f 0,eK 3 Q ((vs.length:Nat):Int) (((vs.length:Nat):Int)+2) 0],(((vs.length:Nat):Int)+3)):=by
 exact no_implicit_lambda% qeb
variable{w:World}{R U:Option Addr}{m1 ad cap m3 ah base a2 i:Nat}{vs:List Vl}{o Q l f r:Int}{u:Nat}{aA S aC:Int}
theorem JK(ab:MvH w cap base a2 i vs ⟨7,Q,l,f,r,u⟩)(aB:0<=aA)(K:-1<=S):MvC w R U m1 ad cap m3 ah base a2 i vs aA S aC ([eK 3 Q l f 0]++(chM Q ((vs.length:Nat):Int) aA S (vs.length+1)).1,(chM Q ((vs.length:Nat):Int) aA S (vs.length+1)).2):=by
 exact no_implicit_lambda% xaq
theorem JL(ab:MvH w cap base a2 i vs ⟨8,Q,l,f,r,u⟩)(K:0<=S)(ai:-1<=aC):MvC w R U m1 ad cap m3 ah base a2 i vs aA S aC (chM Q l S aC vs.length):=by
 exact no_implicit_lambda% xax
variable{w:World}{R U:Option Addr}{m1 ad cap m3 ah base a2 i:Nat}{vs:List Vl}{o Q l f r:Int}{u:Nat}{aA S aC:Int}
theorem JM(ab:MvH w cap base a2 i vs ⟨7,Q,l,f,r,u⟩)(aB:aA<0)(G:-1<=aA)(K:0<=S):MvC w R U m1 ad cap m3 ah base a2 i vs aA S aC ([eK 3 Q l f 0]++(chM Q ((vs.length:Nat):Int) aA S (vs.length+1)).1,(chM Q ((vs.length:Nat):Int) aA S (vs.length+1)).2):=by
 exact no_implicit_lambda% xaq
theorem JN(ab:MvH w cap base a2 i vs ⟨8,Q,l,f,r,u⟩)(K:S<0)(cp:-1<=S)(ai:0<=aC):MvC w R U m1 ad cap m3 ah base a2 i vs aA S aC (chM Q l S aC vs.length):=by
 exact no_implicit_lambda% xax
end
section
theorem Nb(w R U m1 ad cap m3 ah base a2 i vs v aA S aC)(h:w.ownsRow base 79 6 (ia a2 vs.length cap) vs.length (fU vs))(hb:base<=w.heap.size)(hn:vs.length<=800000)(hi:i<vs.length)(aL:At w a2 (i*6) v)
  (g:-1<=aA) (aj:-1<=S) (q:-1<=aC) (aw:¬(aA=-1/\S=-1/\aC=-1)) (N:cnt v.op<=2->aC=-1) (B:cnt v.op<=1->S=-1):
  Calls prog 130 #[eX R m1 ad (some ⟨a2,0,none⟩) vs.length cap U m3 ah,ih i,ih aA,ih S,ih aC] w λe O=>MvP w R m1 ad U m3 ah vs base (some a2) (mvM (i:Int) v aA S aC vs.length) e O:=by
 obtain⟨o,Q,l,f,r,u⟩:=v;have ab:MvH w _ _ _ i _ _:=⟨h,hb,hn,hi,aL⟩
 have aB:∀{v:Vl}{M:List _×Int},MvC w R U m1 ad cap m3 ah base a2 i vs aA S aC M->mvM i v aA S aC vs.length=M->_:=λh e=>e ▸ h;clear h hb hn hi aL;simp only at B N;have d:∀{x:Int},0<=x->¬x=-1:=λh=>by omega
 have ae:∀{x:Int},-1<=x->¬0<=x->x=-1:=λh k=>by omega
 by_cases ck:o=2
 ·subst ck;have ai:=N xab;by_cases a:0<=aA
  ·by_cases b:0<=S
   ·exact aB (Jx ab a b) (by simp[mvM,yC,d a,d b])
   exact aB (Jy ab a xaa) (by simp[mvM,yC,d a,ae aj b])
  have b:0<=S:=xaa;exact aB (Jz ab xaa b) (by simp[mvM,yC,ae g a,d b])
 by_cases Z:o=3
 ·subst Z;have ai:=N xab;by_cases a:0<=aA
  ·by_cases b:0<=S
   ·exact aB (JB ab a b) (by simp[mvM,yD,d a,d b])
   exact aB (JC ab a xaa) (by simp[mvM,yD,d a,ae aj b])
  have b:0<=S:=xaa;exact aB (JD ab xaa b) (by simp[mvM,yD,ae g a,d b])
 by_cases C:o=4
 ·subst C;have ai:=N xab;by_cases a:0<=aA
  ·by_cases b:0<=S
   ·exact aB (JF ab a b) (by simp[mvM,yE,d a,d b])
   exact aB (JG ab a xaa) (by simp[mvM,yE,d a,ae aj b])
  have b:0<=S:=xaa;exact aB (JH ab xaa b) (by simp[mvM,yE,ae g a,d b])
 by_cases dg:o=5
 ·subst dg;have ai:=N xab;by_cases a:0<=aA
  ·by_cases b:0<=S
   ·exact aB (JJ ab a b) (by simp[mvM,yG,d a,d b])
   exact aB (JA ab a xaa) (by simp[mvM,yG,d a,ae aj b])
  have b:0<=S:=xaa;exact aB (JI ab xaa b) (by simp[mvM,yG,ae g a,d b])
 by_cases m:o=7
 ·subst m;have ai:=N xab;have e:mvM i ⟨7,Q,l,f,r,u⟩ aA S aC vs.length=([eK 3 Q l f 0]++(chM Q (vs.length:Nat) aA S (vs.length+1)).1,(chM Q (vs.length:Nat) aA S (vs.length+1)).2):=by grind[mvM]
  rw[e];by_cases a:0<=aA
  ·exact JK ab a aj
  exact JM ab xaa g xaa
 by_cases b1:o=8
 ·subst b1;by_cases b:0<=S
  ·have e:mvM i ⟨8,Q,l,f,r,u⟩ aA S aC vs.length=chM Q l S aC vs.length:=by grind[mvM]
   rw[e];exact JL ab b q
  by_cases c:0<=aC
  ·have e:mvM i ⟨8,Q,l,f,r,u⟩ aA S aC vs.length=chM Q l S aC vs.length:=by grind[mvM]
   rw[e];exact JN ab xaa aj c
  have e:mvM i ⟨8,Q,l,f,r,u⟩ aA S aC vs.length=([],-1):=by grind[mvM]
  rw[e];exact JE ab xaa xaa
 have bl:cnt o<=1:=by grind[cnt]
 have b:=B bl;have c:=N xaa;have a:0<=aA:=xaa;by_cases j:o=13
 ·subst j;exact aB (Na ab a) (by simp[mvM,d a])
 exact aB (M9 ab ⟨ck,Z,C,dg,m,b1,j⟩ a) (by grind[mvM])
