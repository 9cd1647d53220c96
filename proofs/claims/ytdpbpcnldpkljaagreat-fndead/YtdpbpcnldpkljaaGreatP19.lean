import Derived.Test.YtdpbpcnldpkljaaGreatP18
namespace Go.Proofs.Z
open Tryz
set_option maxRecDepth 1000000
set_option maxHeartbeats 0
open Go.RowKit Flt
theorem iI {P:Program}{w:World}{a:Addr}{m:Mode}(f:Fn)(r c:Array Value):(store a (.func f r c) m).run P w=stored P w a (.func f r c) m:=run_store P w a _ m rfl
attribute [local go_sem] eD eB eA iI
