import Derived.Test.YtnlffngpnoodkaaGreatP02
import Derived.Test.YtnlffngpnoodkaaGreatP01
namespace Go.Proofs.YtnlffngpnoodkaaGreat
set_option maxRecDepth 1000000
set_option maxHeartbeats 0
open Go.RowKit Flt
variable {s:Bool} {r:Nat}
theorem Ci (b:Int)(w:World):(callFunc 132 #[.int .u64 b]).run Tryz.prog w=.ok (.value (.float .f64 b.toNat)) w:=by
 rw[run_callFunc_extern (e:=Extern.MathFloatBits.float64frombits) Tryz.func132 (by kernel_rfl) (by kernel_rfl) (by kernel_rfl) (by kernel_rfl)]
 rfl
theorem nG (x:Nat)(w:World):
  Calls Tryz.prog 121 #[.float .f64 x] w λe w'=>e=.returned (.bool (FloatKind.f64.format.order x x !=some .eq))/\w'=w:=by
 go_enter Tryz.func121,Tryz.ntmps121
 go_wp2
 go_ret
 exact⟨rfl,rfl⟩
theorem nH (x:Nat)(w:World):
  Calls Tryz.prog 117 #[.float .f64 x] w λe w'=>e=.returned (.bool (FloatKind.f64.format.order x x !=some .eq))/\w'=w:=by
 go_enter Tryz.func117,Tryz.ntmps117
 go_wp2
 go_ret
 exact⟨rfl,rfl⟩
theorem zT (h:r<=9218868437227405312):(FloatKind.f64.format.order (W s r) (W s r) !=some .eq)=false:=by
 rw[show FloatKind.f64.format.order (W s r) (W s r)=some .eq from r9 h];rfl
theorem zU (h:9218868437227405312<r)(hr:r<9223372036854775808):(FloatKind.f64.format.order (W s r) (W s r) !=some .eq)=true:=by
 rw[show FloatKind.f64.format.order (W s r) (W s r)=none from sa h hr];rfl
def fb (x:Nat):Nat:=if FloatKind.f64.format.order x x !=some .eq then 9221120237041090560 else x
theorem Cj (h:9218868437227405312<r)(hr:r<9223372036854775808):fb (W s r)=9221120237041090560:=by unfold fb;rw[zU h hr];rfl
end Go.Proofs.YtnlffngpnoodkaaGreat
