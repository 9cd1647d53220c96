import Derived.Test.YtbhmhdllnfkjhaaGreatP09
namespace Go.Proofs.Z
open Tryz
set_option maxRecDepth 1000000
set_option maxHeartbeats 0
open Go.RowKit Flt
attribute[local go_sem] eG eE eD
variable{w:World}{O Z Y:Option Addr}{m1 m3 af base cap aq:Nat}{vs:List Vl}{o G am r ak aH:Int}{U R':Option Nat}{c0 c1 c2 c3 c4 aX aC ad X x c p a5 aN a2 aU Q ar aw:Value}
theorem FG{W e1}(aa:V (MS w W O m1 e1 Z m3 af vs ⟨o,G,am,r,ak,aq⟩ base U R' Y cap))(an:vs.length<=900000):MfC 48 W (MpR w O m1 e1 Z m3 af vs ⟨o,G,am,r,ak,aq⟩ base U (eL 3 G am r 0)) c0 c1 c2 c3 c4 (hB w.heap.size) aX aC ad X x c (hB (w.heap.size+1+1)) (hD G) aN a2 aU Q ar aw c:=by
 unfold MfC;exact xbn
theorem MR{W e1 q}(aa:V (MS w W O m1 e1 Z m3 af vs ⟨o,G,am,r,ak,aq⟩ base U R' Y cap))(an:vs.length<=900000):MfC 33 W (MpR w O m1 e1 Z m3 af vs ⟨o,G,am,r,ak,aq⟩ base U (eL 6 G q 0 0)) c0 c1 c2 c3 c4 (hB w.heap.size) aX aC ad X x c (hB (w.heap.size+1+1)) (hD G) aN (hD q) aU Q ar aw c:=by
 unfold MfC;intros;rename_i HK;have bc:V (∀az,Kept 0 0 W az->_):=λaz k=>MS.call aa.o k (eL 6 G q 0 0) xaa;exact xae
theorem FH{W e1}(aa:V (MS w W O m1 e1 Z m3 af vs ⟨o,G,am,r,ak,aq⟩ base U R' Y cap))(an:vs.length<=900000)(bw:(vs.length:Int)-1=aH):MfC 31 W (λW'=>W'.cell? ⟨w.heap.size+1,0,none⟩=some (.slice O m1 e1)/\W'.cell? ⟨w.heap.size+1,1,none⟩=some (.slice Y vs.length cap)/\W'.cell? ⟨w.heap.size+1,2,none⟩=some (.slice Z m3 af)/\V (∃a7,Kept 0 0 W a7/\W'=fw a7 (w.heap.size+1) (.slice O m1 e1) (.slice Y vs.length cap) (.slice Z m3 af))) c0 c1 c2 c3 c4 (hB w.heap.size) aX aC ad X (hB (w.heap.size+1)) c p a5 aN a2 aU Q ar aw (hD aH):=by
 exact no_implicit_lambda% xaf
theorem MT{W e1}(aa:V (MS w W O m1 e1 Z m3 af vs ⟨o,G,am,r,ak,aq⟩ base U R' Y cap))(an:vs.length<=900000)(bw:(vs.length:Int)-1=aH):MfC 34 W (λW'=>W'.cell? ⟨w.heap.size+1,0,none⟩=some (.slice O m1 e1)/\W'.cell? ⟨w.heap.size+1,1,none⟩=some (.slice Y vs.length cap)/\W'.cell? ⟨w.heap.size+1,2,none⟩=some (.slice Z m3 af)/\V (∃a7,Kept 0 0 W a7/\W'=fw a7 (w.heap.size+1) (.slice O m1 e1) (.slice Y vs.length cap) (.slice Z m3 af))) c0 c1 c2 c3 c4 (hB w.heap.size) aX aC ad X (hB (w.heap.size+1)) c p a5 aN a2 aU Q ar aw (hD aH):=by
 exact no_implicit_lambda% xaf
