import Derived.Test.YtaheilbiakhlgaaGreatP12
namespace Go.Proofs.Z
open Tryz
set_option maxRecDepth 1000000
set_option maxHeartbeats 0
open Go.RowKit Flt
attribute[local go_sem] eF eE eD
variable{w:World}{N ad Z:Option Addr}{m1 af m3 aj base cap m:Nat}{vs:List Vl}{o G g f l bK an:Int}{R R':Option Nat}{c0 c1 c2 c3 c4 x y Y X h j aB I ab U O s u v:Value}
theorem Mt{W}(ae:V (MS w W N m1 af ad m3 aj vs ⟨o,G,g,f,l,m⟩ base R R' Z cap))(aH:vs.length<=900000):MfC 58 W (MpR w N m1 af ad m3 aj vs ⟨o,G,g,f,l,m⟩ base R (eK o G an 0 l)) c0 c1 (hF an) c3 c4 (hD w.heap.size) x y Y X h j (hD (w.heap.size+1+1)) (hF G) I U O s u v j:=by
 unfold MfC;intros;rename_i HK;have bg:V (∀ay,Kept 0 0 W ay->_):=λay k=>MS.call ae.o k (eK o G an 0 l) xaa;have aW:=ae.o.g.c0;have aq:=ae.o.g.c1;have aN:=ae.o.g.c2;have av:=ae.o.v.c0;exact xcx
theorem Mu{W i}(ae:V (MS w W N m1 af ad m3 aj vs ⟨o,G,g,f,l,m⟩ base R R' Z cap))(aH:vs.length<=900000):MfC 57 W (MpR w N m1 af ad m3 aj vs ⟨o,G,g,f,l,m⟩ base R (eK 4 G an i 0)) c0 (hF i) (hF an) c3 c4 (hD w.heap.size) x y Y X h j (hD (w.heap.size+1+1)) (hF G) I U O s u v j:=by
 unfold MfC;intros;rename_i HK;have bg:V (∀ay,Kept 0 0 W ay->_):=λay k=>MS.call ae.o k (eK 4 G an i 0) xaa;exact xae
theorem wH{W}(ae:V (MS w W N m1 af ad m3 aj vs ⟨o,G,g,f,l,m⟩ base R R' Z cap))(aH:vs.length<=900000)(bB:(vs.length:Int)-1=bK):MfC 53 W (λW'=>W'.cell? ⟨w.heap.size+1,0,none⟩=some (.slice N m1 af)/\W'.cell? ⟨w.heap.size+1,1,none⟩=some (.slice Z vs.length cap)/\W'.cell? ⟨w.heap.size+1,2,none⟩=some (.slice ad m3 aj)/\V (∃a8,Kept 0 0 W a8/\W'=fF a8 (w.heap.size+1) (.slice N m1 af) (.slice Z vs.length cap) (.slice ad m3 aj))) c0 c1 c2 c3 c4 (hD w.heap.size) x y Y X (hD (w.heap.size+1)) j aB ab I U O s u v (hF bK):=by
 exact no_implicit_lambda% xag
theorem E8{W}(ae:V (MS w W N m1 af ad m3 aj vs ⟨o,G,g,f,l,m⟩ base R R' Z cap))(aH:vs.length<=900000)(bB:(vs.length:Int)-1=bK):MfC 59 W (λW'=>W'.cell? ⟨w.heap.size+1,0,none⟩=some (.slice N m1 af)/\W'.cell? ⟨w.heap.size+1,1,none⟩=some (.slice Z vs.length cap)/\W'.cell? ⟨w.heap.size+1,2,none⟩=some (.slice ad m3 aj)/\V (∃a8,Kept 0 0 W a8/\W'=fF a8 (w.heap.size+1) (.slice N m1 af) (.slice Z vs.length cap) (.slice ad m3 aj))) c0 c1 c2 c3 c4 (hD w.heap.size) x y Y X (hD (w.heap.size+1)) j aB ab I U O s u v (hF bK):=by
 exact no_implicit_lambda% xag
