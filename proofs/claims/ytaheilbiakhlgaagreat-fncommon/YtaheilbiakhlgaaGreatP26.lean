import Derived.Test.YtaheilbiakhlgaaGreatP21
namespace Go.Proofs.Z
open Tryz
set_option maxRecDepth 1000000
set_option maxHeartbeats 0
open Go.RowKit Flt
attribute[local go_sem] eF eE eD
variable{w:World}{N ad Z:Option Addr}{m1 af m3 aj base cap m:Nat}{vs:List Vl}{o G g f l d t z:Int}{R R':Option Nat}{c0 c1 c2 c5 x y Y X h aB ab I U O s u v:Value}
theorem Gb{W}(ae:V (MS w W N m1 af ad m3 aj vs ⟨o,G,g,f,l,m⟩ base R R' Z cap))(aH:vs.length<=900000):PfC 27 W (MpR w N m1 af ad m3 aj vs ⟨o,G,g,f,l,m⟩ base R (eK 8 G t d z)) c0 c1 c2 (hF d) (hD w.heap.size) c5 x y Y X h (hD (w.heap.size+1+1)) (hF G) (hF t) I (hF z) O s u v X h:=by
 unfold PfC;intros;rename_i HK;have bg:V (∀ay,Kept 0 0 W ay->_):=λay k=>MS.call ae.o k (eK 8 G t d z) xaa;exact xae
theorem Gc{W}(ae:V (MS w W N m1 af ad m3 aj vs ⟨o,G,g,f,l,m⟩ base R R' Z cap))(aH:vs.length<=900000):PfC 28 W (MpR w N m1 af ad m3 aj vs ⟨o,G,g,f,l,m⟩ base R (eK 8 G t z d)) c0 c1 c2 (hF d) (hD w.heap.size) c5 x y Y X h (hD (w.heap.size+1+1)) (hF G) (hF t) I (hF z) O s u v X h:=by
 unfold PfC;intros;rename_i HK;have bg:V (∀ay,Kept 0 0 W ay->_):=λay k=>MS.call ae.o k (eK 8 G t z d) xaa;exact xae
theorem Nc{W}(ae:V (MS w W N m1 af ad m3 aj vs ⟨o,G,g,f,l,m⟩ base R R' Z cap))(aH:vs.length<=900000):PfC 36 W (MpR w N m1 af ad m3 aj vs ⟨o,G,g,f,l,m⟩ base R (eK 11 1 d 0 l)) c0 c1 c2 (hF d) (hD w.heap.size) c5 x y Y X h (hD (w.heap.size+1+1)) aB ab I U O s u v X h:=by
 unfold PfC;intros;rename_i HK;have bg:V (∀ay,Kept 0 0 W ay->_):=λay k=>MS.call ae.o k (eK 11 1 d 0 l) xaa;have aW:=ae.o.g.c0;have aq:=ae.o.g.c1;have aN:=ae.o.g.c2;exact xcx
theorem Nd{W}{aC j:Nat}{P}(ae:V (MS w W N m1 af ad m3 aj vs ⟨o,G,(j:Int),f,l,m⟩ base R R' (some ⟨aC,0,none⟩) cap))(aH:vs.length<=900000)(hj:j<vs.length)(aD:(vs.getD j hK).len=P):PfC 30 W (MpR w N m1 af ad m3 aj vs ⟨o,G,(j:Int),f,l,m⟩ base R (eK 10 P d 0 0)) c0 c1 c2 (hF d) (hD w.heap.size) c5 x y Y X h (hD (w.heap.size+1+1)) aB ab I U O s u v X h:=by
 unfold PfC;intros;rename_i HK;have bg:V (∀ay,Kept 0 0 W ay->_):=λay k=>MS.call ae.o k (eK 10 P d 0 0) xaa;have aW:=ae.o.g.c0;have aq:=ae.o.g.c1;have aN:=ae.o.g.c2;have bc:=ae.o.v.c2;exact xcq
