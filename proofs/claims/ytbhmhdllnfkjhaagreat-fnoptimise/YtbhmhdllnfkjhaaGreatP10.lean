import Derived.Test.YtbhmhdllnfkjhaaGreatP09
namespace Go.Proofs.Z
open Tryz
set_option maxRecDepth 1000000
set_option maxHeartbeats 0
open Go.RowKit Flt
attribute[local go_sem] eG eE eD
variable{w:World}{O Z Y:Option Addr}{m1 m3 af base cap aq:Nat}{vs:List Vl}{o G am r ak aH ah:Int}{U R':Option Nat}{c0 c1 c2 c3 c4 aX aC ad X x c p aN a5 a2 aU Q ar aw:Value}
theorem MP{W e1}(aa:V (MS w W O m1 e1 Z m3 af vs ⟨o,G,am,r,ak,aq⟩ base U R' Y cap))(an:vs.length<=900000):MfC 58 W (MpR w O m1 e1 Z m3 af vs ⟨o,G,am,r,ak,aq⟩ base U (eL o G ah 0 ak)) c0 c1 (hD ah) c3 c4 (hB w.heap.size) aX aC ad X x c (hB (w.heap.size+1+1)) (hD G) aN a2 aU Q ar aw c:=by
 unfold MfC;intros;rename_i HK;have bc:V (∀az,Kept 0 0 W az->_):=λaz k=>MS.call aa.o k (eL o G ah 0 ak) xaa;have aT:=aa.o.g.c0;have ao:=aa.o.g.c1;have aG:=aa.o.g.c2;have bF:=aa.o.v.c0;exact xcd
theorem MQ{W e1 i}(aa:V (MS w W O m1 e1 Z m3 af vs ⟨o,G,am,r,ak,aq⟩ base U R' Y cap))(an:vs.length<=900000):MfC 57 W (MpR w O m1 e1 Z m3 af vs ⟨o,G,am,r,ak,aq⟩ base U (eL 4 G ah i 0)) c0 (hD i) (hD ah) c3 c4 (hB w.heap.size) aX aC ad X x c (hB (w.heap.size+1+1)) (hD G) aN a2 aU Q ar aw c:=by
 unfold MfC;intros;rename_i HK;have bc:V (∀az,Kept 0 0 W az->_):=λaz k=>MS.call aa.o k (eL 4 G ah i 0) xaa;exact xae
theorem xe{W e1}(aa:V (MS w W O m1 e1 Z m3 af vs ⟨o,G,am,r,ak,aq⟩ base U R' Y cap))(an:vs.length<=900000)(bw:(vs.length:Int)-1=aH):MfC 53 W (λW'=>W'.cell? ⟨w.heap.size+1,0,none⟩=some (.slice O m1 e1)/\W'.cell? ⟨w.heap.size+1,1,none⟩=some (.slice Y vs.length cap)/\W'.cell? ⟨w.heap.size+1,2,none⟩=some (.slice Z m3 af)/\V (∃a7,Kept 0 0 W a7/\W'=fw a7 (w.heap.size+1) (.slice O m1 e1) (.slice Y vs.length cap) (.slice Z m3 af))) c0 c1 c2 c3 c4 (hB w.heap.size) aX aC ad X (hB (w.heap.size+1)) c p a5 aN a2 aU Q ar aw (hD aH):=by
 exact no_implicit_lambda% xaf
theorem FF{W e1}(aa:V (MS w W O m1 e1 Z m3 af vs ⟨o,G,am,r,ak,aq⟩ base U R' Y cap))(an:vs.length<=900000)(bw:(vs.length:Int)-1=aH):MfC 59 W (λW'=>W'.cell? ⟨w.heap.size+1,0,none⟩=some (.slice O m1 e1)/\W'.cell? ⟨w.heap.size+1,1,none⟩=some (.slice Y vs.length cap)/\W'.cell? ⟨w.heap.size+1,2,none⟩=some (.slice Z m3 af)/\V (∃a7,Kept 0 0 W a7/\W'=fw a7 (w.heap.size+1) (.slice O m1 e1) (.slice Y vs.length cap) (.slice Z m3 af))) c0 c1 c2 c3 c4 (hB w.heap.size) aX aC ad X (hB (w.heap.size+1)) c p a5 aN a2 aU Q ar aw (hD aH):=by
 exact no_implicit_lambda% xaf
