import Derived.Test.YtbhmhdllnfkjhaaGreatP20
namespace Go.Proofs.Z
open Tryz
set_option maxRecDepth 1000000
set_option maxHeartbeats 0
open Go.RowKit Flt
attribute[local go_sem] eG eE eD
variable{w:World}{O Z Y:Option Addr}{m1 m3 af base cap aq:Nat}{vs:List Vl}{o G am r ak d aH t z:Int}{U R':Option Nat}{c0 c1 c2 c3 c4 c5 aX aC ad X x c p a5 aN a2 aU Q ar aw:Value}
theorem If{W e1}(aa:V (MS w W O m1 e1 Z m3 af vs ⟨o,G,am,r,ak,aq⟩ base U R' Y cap))(an:vs.length<=900000):PfC 27 W (MpR w O m1 e1 Z m3 af vs ⟨o,G,am,r,ak,aq⟩ base U (eL 8 G t d z)) c0 c1 c2 (hD d) (hB w.heap.size) c5 aX aC ad X x (hB (w.heap.size+1+1)) (hD G) (hD t) aN (hD z) aU Q ar aw X x:=by
 unfold PfC;intros;rename_i HK;have bc:V (∀az,Kept 0 0 W az->_):=λaz k=>MS.call aa.o k (eL 8 G t d z) xaa;exact xae
theorem Ig{W e1}(aa:V (MS w W O m1 e1 Z m3 af vs ⟨o,G,am,r,ak,aq⟩ base U R' Y cap))(an:vs.length<=900000):PfC 28 W (MpR w O m1 e1 Z m3 af vs ⟨o,G,am,r,ak,aq⟩ base U (eL 8 G t z d)) c0 c1 c2 (hD d) (hB w.heap.size) c5 aX aC ad X x (hB (w.heap.size+1+1)) (hD G) (hD t) aN (hD z) aU Q ar aw X x:=by
 unfold PfC;intros;rename_i HK;have bc:V (∀az,Kept 0 0 W az->_):=λaz k=>MS.call aa.o k (eL 8 G t z d) xaa;exact xae
theorem NM{W e1}(aa:V (MS w W O m1 e1 Z m3 af vs ⟨o,G,am,r,ak,aq⟩ base U R' Y cap))(an:vs.length<=900000):PfC 36 W (MpR w O m1 e1 Z m3 af vs ⟨o,G,am,r,ak,aq⟩ base U (eL 11 1 d 0 ak)) c0 c1 c2 (hD d) (hB w.heap.size) c5 aX aC ad X x (hB (w.heap.size+1+1)) p a5 aN a2 aU Q ar aw X x:=by
 unfold PfC;intros;rename_i HK;have bc:V (∀az,Kept 0 0 W az->_):=λaz k=>MS.call aa.o k (eL 11 1 d 0 ak) xaa;have aT:=aa.o.g.c0;have ao:=aa.o.g.c1;have aG:=aa.o.g.c2;exact xcd
theorem x6{W e1 ah}(aa:V (MS w W O m1 e1 Z m3 af vs ⟨o,G,am,r,ak,aq⟩ base U R' Y cap))(an:vs.length<=900000):MfC 17 W (MpR w O m1 e1 Z m3 af vs ⟨o,G,am,r,ak,aq⟩ base U (eL o G ah r 0)) c0 c1 (hD ah) c3 c4 (hB w.heap.size) aX aC ad X x c (hB (w.heap.size+1+1)) (hD G) aN a2 aU Q ar aw c:=by
 unfold MfC;intros;rename_i HK;have bc:V (∀az,Kept 0 0 W az->_):=λaz k=>MS.call aa.o k (eL o G ah r 0) xaa;have aT:=aa.o.g.c0;have ao:=aa.o.g.c1;have aG:=aa.o.g.c2;have bF:=aa.o.v.c0;exact xan
theorem Ih{W e1 i S}(aa:V (MS w W O m1 e1 Z m3 af vs ⟨o,G,am,r,ak,aq⟩ base U R' Y cap))(an:vs.length<=900000):MfC 23 W (MpR w O m1 e1 Z m3 af vs ⟨o,G,am,r,ak,aq⟩ base U (eL 4 G i S 0)) c0 (hD i) c2 (hD S) c4 (hB w.heap.size) aX aC ad X x c (hB (w.heap.size+1+1)) (hD G) aN a2 aU Q ar aw c:=by
 unfold MfC;intros;rename_i HK;have bc:V (∀az,Kept 0 0 W az->_):=λaz k=>MS.call aa.o k (eL 4 G i S 0) xaa;exact xae
theorem Mh{W e1}(aa:V (MS w W O m1 e1 Z m3 af vs ⟨o,G,am,r,ak,aq⟩ base U R' Y cap))(an:vs.length<=900000)(bw:(vs.length:Int)-1=aH):MfC 6 W (λW'=>W'.cell? ⟨w.heap.size+1,0,none⟩=some (.slice O m1 e1)/\W'.cell? ⟨w.heap.size+1,1,none⟩=some (.slice Y vs.length cap)/\W'.cell? ⟨w.heap.size+1,2,none⟩=some (.slice Z m3 af)/\V (∃a7,Kept 0 0 W a7/\W'=fw a7 (w.heap.size+1) (.slice O m1 e1) (.slice Y vs.length cap) (.slice Z m3 af))) c0 c1 c2 c3 c4 (hB w.heap.size) aX aC ad X (hB (w.heap.size+1)) c p a5 aN a2 aU Q ar aw (hD aH):=by
 exact no_implicit_lambda% xaf
theorem NO{W e1}(aa:V (MS w W O m1 e1 Z m3 af vs ⟨o,G,am,r,ak,aq⟩ base U R' Y cap))(an:vs.length<=900000)(bw:(vs.length:Int)-1=aH):MfC 11 W (λW'=>W'.cell? ⟨w.heap.size+1,0,none⟩=some (.slice O m1 e1)/\W'.cell? ⟨w.heap.size+1,1,none⟩=some (.slice Y vs.length cap)/\W'.cell? ⟨w.heap.size+1,2,none⟩=some (.slice Z m3 af)/\V (∃a7,Kept 0 0 W a7/\W'=fw a7 (w.heap.size+1) (.slice O m1 e1) (.slice Y vs.length cap) (.slice Z m3 af))) c0 c1 c2 c3 c4 (hB w.heap.size) aX aC ad X (hB (w.heap.size+1)) c p a5 aN a2 aU Q ar aw (hD aH):=by
 exact no_implicit_lambda% xaf
