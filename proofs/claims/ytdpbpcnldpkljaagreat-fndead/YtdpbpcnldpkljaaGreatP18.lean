import Derived.Test.YtdpbpcnldpkljaaGreatP11
import Derived.Test.YtdpbpcnldpkljaaGreatP13
namespace Go.Proofs.Z
open Tryz
set_option maxRecDepth 1000000
set_option maxHeartbeats 0
open Go.RowKit Flt
attribute [local go_sem] eD eB eA
variable {vs0 us:List Vl}
def kS (i:Int)(v:Vl)(la:Int)(k:Nat)(d:Int)(N:Nat):List Vl×Int:=
 if v.op=2 then ([],d)
 else if v.op=3 then (if k=0 then ([],d) else ([eI 6 v.len d 0 0],N))
 else if v.op=4 then (if k=0 then ([eI 4 v.len d v.b 0],N) else ([eI 4 v.len d v.a 0],N))
 else if v.op=5 then (if k=0 then ([eI 5 v.len d v.b 0],N) else ([eI 4 v.len d i 0,eI 5 v.len N v.b 0,eI 6 v.len ((N+1:Nat):Int) 0 0],((N+2:Nat):Int)))
 else if v.op=6 then ([eI 6 v.len d 0 0],N)
 else if v.op=13 then ([eI 4 v.len d i 0],N)
 else if v.op=8 then (if k=1 then ([eI 1 v.len 0 0 0,eI 8 v.len v.a d N],((N+1:Nat):Int)) else ([eI 1 v.len 0 0 0,eI 8 v.len v.a N d],((N+1:Nat):Int)))
 else if v.op=7 then (if k=0 then ([eI 3 v.len v.a v.b 0,eI 1 v.len 0 0 0,eI 8 v.len N d ((N+1:Nat):Int)],((N+2:Nat):Int)) else ([eI 3 v.len v.a v.b 0,eI 1 v.len 0 0 0,eI 8 v.len N ((N+1:Nat):Int) d],((N+2:Nat):Int)))
 else if v.op=9 then ([eI 10 la d 0 0],N)
 else if v.op=10 then ([eI 9 1 d 0 0],N)
 else if v.op=11 then ([eI 12 la d 0 v.c],N)
 else ([eI 11 1 d 0 v.c],N)
def me (v:Vl)(k:Nat):Bool:=!(v.op==8&&k==0)
def Pre (vs0 us:List Vl):Prop:=∃r,us=vs0++r
theorem Pre.at_ (h:Pre vs0 us){j:Nat}(hj:j<vs0.length):us.getD j Vl.zero=vs0.getD j Vl.zero/\j<us.length:=by
 obtain⟨r,rfl⟩:=h
 refine⟨?_,by rw[yak];omega⟩
 rw[yah,yas hj,<-yah]
theorem Pre.app {a:List Vl}(h:Pre vs0 us):Pre vs0 (us++a):=by
 obtain⟨r,rfl⟩:=h
 exact⟨r++a,by rw[List.append_assoc]⟩
