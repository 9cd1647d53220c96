import Derived.Test.YtgamjhpebmmjcaaGreatDoorP29
import Derived.Test.YtgamjhpebmmjcaaGreatDoorP42
import Derived.Test.YtgamjhpebmmjcaaGreatDoorP40
import Derived.Maps.OwnOps
import Derived.Deep.RegionLaw
import Derived.Deep.Cut
import Derived.Test.YtgamjhpebmmjcaaGreatDoorP01
import Derived.Test.YtgamjhpebmmjcaaGreatDoorP32
import Derived.Test.YtgamjhpebmmjcaaGreatDoorP36
namespace Go.Proofs.YtgamjhpebmmjcaaGreatDoor
set_option maxRecDepth 100000
set_option maxHeartbeats 40000000
open Go.RowKit Flt
theorem me_numberNode_place (x y z0 z1 z2:Value)(w:World):Sem.run Tryz.prog (method 489 264 (.agg #[x,y,z0,z1,z2]) "loop.example/s08086/impl.place") w=.ok (317,.agg #[x,y]) w:=by kernel_rfl
theorem me_numberNode_operands (x y z0 z1 z2:Value)(w:World):Sem.run Tryz.prog (method 489 264 (.agg #[x,y,z0,z1,z2]) "loop.example/s08086/impl.operands") w=.ok (316,.agg #[x,y]) w:=by kernel_rfl
theorem me_nameNode_place (x y z0 z1 z2:Value)(w:World):Sem.run Tryz.prog (method 489 267 (.agg #[x,y,z0,z1,z2]) "loop.example/s08086/impl.place") w=.ok (317,.agg #[x,y]) w:=by kernel_rfl
theorem me_nameNode_operands (x y z0 z1 z2:Value)(w:World):Sem.run Tryz.prog (method 489 267 (.agg #[x,y,z0,z1,z2]) "loop.example/s08086/impl.operands") w=.ok (316,.agg #[x,y]) w:=by kernel_rfl
theorem me_sameNode_place (x y z0:Value)(w:World):Sem.run Tryz.prog (method 489 261 (.agg #[x,y,z0]) "loop.example/s08086/impl.place") w=.ok (317,.agg #[x,y]) w:=by kernel_rfl
theorem me_sameNode_operands (x y z0:Value)(w:World):Sem.run Tryz.prog (method 489 261 (.agg #[x,y,z0]) "loop.example/s08086/impl.operands") w=.ok (316,.agg #[x,y]) w:=by kernel_rfl
theorem me_sumNode_place (x y:Value)(w:World):Sem.run Tryz.prog (method 489 272 (.agg #[x,y]) "loop.example/s08086/impl.place") w=.ok (317,.agg #[x,y]) w:=by kernel_rfl
theorem me_sumNode_operands (x y:Value)(w:World):Sem.run Tryz.prog (method 489 272 (.agg #[x,y]) "loop.example/s08086/impl.operands") w=.ok (316,.agg #[x,y]) w:=by kernel_rfl
theorem me_fittedNode_place (x y z0:Value)(w:World):Sem.run Tryz.prog (method 489 249 (.agg #[x,y,z0]) "loop.example/s08086/impl.place") w=.ok (317,.agg #[x,y]) w:=by kernel_rfl
theorem me_fittedNode_operands (x y z0:Value)(w:World):Sem.run Tryz.prog (method 489 249 (.agg #[x,y,z0]) "loop.example/s08086/impl.operands") w=.ok (316,.agg #[x,y]) w:=by kernel_rfl
theorem me_fillNode_place (x y z0 z1 z2:Value)(w:World):Sem.run Tryz.prog (method 489 274 (.agg #[x,y,z0,z1,z2]) "loop.example/s08086/impl.place") w=.ok (317,.agg #[x,y]) w:=by kernel_rfl
theorem me_fillNode_operands (x y z0 z1 z2:Value)(w:World):Sem.run Tryz.prog (method 489 274 (.agg #[x,y,z0,z1,z2]) "loop.example/s08086/impl.operands") w=.ok (316,.agg #[x,y]) w:=by kernel_rfl
theorem me_pickNode_place (x y z0 z1 z2:Value)(w:World):Sem.run Tryz.prog (method 489 276 (.agg #[x,y,z0,z1,z2]) "loop.example/s08086/impl.place") w=.ok (317,.agg #[x,y]) w:=by kernel_rfl
theorem me_pickNode_operands (x y z0 z1 z2:Value)(w:World):Sem.run Tryz.prog (method 489 276 (.agg #[x,y,z0,z1,z2]) "loop.example/s08086/impl.operands") w=.ok (316,.agg #[x,y]) w:=by kernel_rfl
theorem me_putNode_place (x y z0 z1 z2 z3 z4 z5:Value)(w:World):Sem.run Tryz.prog (method 489 278 (.agg #[x,y,z0,z1,z2,z3,z4,z5]) "loop.example/s08086/impl.place") w=.ok (317,.agg #[x,y]) w:=by kernel_rfl
theorem me_putNode_operands (x y z0 z1 z2 z3 z4 z5:Value)(w:World):Sem.run Tryz.prog (method 489 278 (.agg #[x,y,z0,z1,z2,z3,z4,z5]) "loop.example/s08086/impl.operands") w=.ok (316,.agg #[x,y]) w:=by kernel_rfl
theorem me_gradNode_place (x y z0 z1 z2:Value)(w:World):Sem.run Tryz.prog (method 489 279 (.agg #[x,y,z0,z1,z2]) "loop.example/s08086/impl.place") w=.ok (317,.agg #[x,y]) w:=by kernel_rfl
theorem me_gradNode_operands (x y z0 z1 z2:Value)(w:World):Sem.run Tryz.prog (method 489 279 (.agg #[x,y,z0,z1,z2]) "loop.example/s08086/impl.operands") w=.ok (316,.agg #[x,y]) w:=by kernel_rfl
theorem me_jvpNode_place (x y z0 z1 z2:Value)(w:World):Sem.run Tryz.prog (method 489 280 (.agg #[x,y,z0,z1,z2]) "loop.example/s08086/impl.place") w=.ok (317,.agg #[x,y]) w:=by kernel_rfl
theorem me_jvpNode_operands (x y z0 z1 z2:Value)(w:World):Sem.run Tryz.prog (method 489 280 (.agg #[x,y,z0,z1,z2]) "loop.example/s08086/impl.operands") w=.ok (316,.agg #[x,y]) w:=by kernel_rfl
theorem me_callNode_place (x y z0 z1 z2:Value)(w:World):Sem.run Tryz.prog (method 489 269 (.agg #[x,y,z0,z1,z2]) "loop.example/s08086/impl.place") w=.ok (317,.agg #[x,y]) w:=by kernel_rfl
theorem me_callNode_operands (x y z0 z1 z2:Value)(w:World):Sem.run Tryz.prog (method 489 269 (.agg #[x,y,z0,z1,z2]) "loop.example/s08086/impl.operands") w=.ok (316,.agg #[x,y]) w:=by kernel_rfl
theorem tay_numberNode (x:Value)(w:World):Sem.run Tryz.prog (Instr.typeAssert (.iface 264 x) 167 264 true) w=.ok (.tuple #[x,.bool true]) w:=by kernel_rfl
theorem tan_numberNode (T:TypeId)(x:Value)(w:World)(h:T≠264):Sem.run Tryz.prog (Instr.typeAssert (.iface T x) 167 264 true) w=.ok (.tuple #[.agg #[.int .i64 0,.slice none 0 0,.int .i64 0,.string ⟨#[]⟩,.int .i64 0],.bool false]) w:=by
 have hz:(zeroValue 264).run Tryz.prog w=.ok (.agg #[.int .i64 0,.slice none 0 0,.int .i64 0,.string ⟨#[]⟩,.int .i64 0]) w:=by kernel_rfl
 unfold Instr.typeAssert
 simp[run_underlying Tryz.underlying264,h,hz,Result.andThen]
theorem tay_nameNode (x:Value)(w:World):Sem.run Tryz.prog (Instr.typeAssert (.iface 267 x) 167 267 true) w=.ok (.tuple #[x,.bool true]) w:=by kernel_rfl
theorem tan_nameNode (T:TypeId)(x:Value)(w:World)(h:T≠267):Sem.run Tryz.prog (Instr.typeAssert (.iface T x) 167 267 true) w=.ok (.tuple #[.agg #[.int .i64 0,.slice none 0 0,.int .i64 0,.string ⟨#[]⟩,.int .i64 0],.bool false]) w:=by
 have hz:(zeroValue 267).run Tryz.prog w=.ok (.agg #[.int .i64 0,.slice none 0 0,.int .i64 0,.string ⟨#[]⟩,.int .i64 0]) w:=by kernel_rfl
 unfold Instr.typeAssert
 simp[run_underlying Tryz.underlying267,h,hz,Result.andThen]
theorem tay_sameNode (x:Value)(w:World):Sem.run Tryz.prog (Instr.typeAssert (.iface 261 x) 167 261 true) w=.ok (.tuple #[x,.bool true]) w:=by kernel_rfl
theorem tan_sameNode (T:TypeId)(x:Value)(w:World)(h:T≠261):Sem.run Tryz.prog (Instr.typeAssert (.iface T x) 167 261 true) w=.ok (.tuple #[.agg #[.int .i64 0,.slice none 0 0,.int .i64 0],.bool false]) w:=by
 have hz:(zeroValue 261).run Tryz.prog w=.ok (.agg #[.int .i64 0,.slice none 0 0,.int .i64 0]) w:=by kernel_rfl
 unfold Instr.typeAssert
 simp[run_underlying Tryz.underlying261,h,hz,Result.andThen]
theorem tay_sumNode (x:Value)(w:World):Sem.run Tryz.prog (Instr.typeAssert (.iface 272 x) 167 272 true) w=.ok (.tuple #[x,.bool true]) w:=by kernel_rfl
theorem tan_sumNode (T:TypeId)(x:Value)(w:World)(h:T≠272):Sem.run Tryz.prog (Instr.typeAssert (.iface T x) 167 272 true) w=.ok (.tuple #[.agg #[.int .i64 0,.slice none 0 0],.bool false]) w:=by
 have hz:(zeroValue 272).run Tryz.prog w=.ok (.agg #[.int .i64 0,.slice none 0 0]) w:=by kernel_rfl
 unfold Instr.typeAssert
 simp[run_underlying Tryz.underlying272,h,hz,Result.andThen]
theorem tay_fittedNode (x:Value)(w:World):Sem.run Tryz.prog (Instr.typeAssert (.iface 249 x) 167 249 true) w=.ok (.tuple #[x,.bool true]) w:=by kernel_rfl
theorem tan_fittedNode (T:TypeId)(x:Value)(w:World)(h:T≠249):Sem.run Tryz.prog (Instr.typeAssert (.iface T x) 167 249 true) w=.ok (.tuple #[.agg #[.int .i64 0,.slice none 0 0,.int .i64 0],.bool false]) w:=by
 have hz:(zeroValue 249).run Tryz.prog w=.ok (.agg #[.int .i64 0,.slice none 0 0,.int .i64 0]) w:=by kernel_rfl
 unfold Instr.typeAssert
 simp[run_underlying Tryz.underlying249,h,hz,Result.andThen]
theorem tay_fillNode (x:Value)(w:World):Sem.run Tryz.prog (Instr.typeAssert (.iface 274 x) 167 274 true) w=.ok (.tuple #[x,.bool true]) w:=by kernel_rfl
theorem tan_fillNode (T:TypeId)(x:Value)(w:World)(h:T≠274):Sem.run Tryz.prog (Instr.typeAssert (.iface T x) 167 274 true) w=.ok (.tuple #[.agg #[.int .i64 0,.slice none 0 0,.int .i64 0,.string ⟨#[]⟩,.int .i64 0],.bool false]) w:=by
 have hz:(zeroValue 274).run Tryz.prog w=.ok (.agg #[.int .i64 0,.slice none 0 0,.int .i64 0,.string ⟨#[]⟩,.int .i64 0]) w:=by kernel_rfl
 unfold Instr.typeAssert
 simp[run_underlying Tryz.underlying274,h,hz,Result.andThen]
theorem tay_pickNode (x:Value)(w:World):Sem.run Tryz.prog (Instr.typeAssert (.iface 276 x) 167 276 true) w=.ok (.tuple #[x,.bool true]) w:=by kernel_rfl
theorem tan_pickNode (T:TypeId)(x:Value)(w:World)(h:T≠276):Sem.run Tryz.prog (Instr.typeAssert (.iface T x) 167 276 true) w=.ok (.tuple #[.agg #[.int .i64 0,.slice none 0 0,.int .i64 0,.string ⟨#[]⟩,.int .i64 0],.bool false]) w:=by
 have hz:(zeroValue 276).run Tryz.prog w=.ok (.agg #[.int .i64 0,.slice none 0 0,.int .i64 0,.string ⟨#[]⟩,.int .i64 0]) w:=by kernel_rfl
 unfold Instr.typeAssert
 simp[run_underlying Tryz.underlying276,h,hz,Result.andThen]
theorem tay_putNode (x:Value)(w:World):Sem.run Tryz.prog (Instr.typeAssert (.iface 278 x) 167 278 true) w=.ok (.tuple #[x,.bool true]) w:=by kernel_rfl
theorem tan_putNode (T:TypeId)(x:Value)(w:World)(h:T≠278):Sem.run Tryz.prog (Instr.typeAssert (.iface T x) 167 278 true) w=.ok (.tuple #[.agg #[.int .i64 0,.slice none 0 0,.int .i64 0,.string ⟨#[]⟩,.int .i64 0,.int .i64 0,.string ⟨#[]⟩,.int .i64 0],.bool false]) w:=by
 have hz:(zeroValue 278).run Tryz.prog w=.ok (.agg #[.int .i64 0,.slice none 0 0,.int .i64 0,.string ⟨#[]⟩,.int .i64 0,.int .i64 0,.string ⟨#[]⟩,.int .i64 0]) w:=by kernel_rfl
 unfold Instr.typeAssert
 simp[run_underlying Tryz.underlying278,h,hz,Result.andThen]
theorem tay_gradNode (x:Value)(w:World):Sem.run Tryz.prog (Instr.typeAssert (.iface 279 x) 167 279 true) w=.ok (.tuple #[x,.bool true]) w:=by kernel_rfl
theorem tan_gradNode (T:TypeId)(x:Value)(w:World)(h:T≠279):Sem.run Tryz.prog (Instr.typeAssert (.iface T x) 167 279 true) w=.ok (.tuple #[.agg #[.int .i64 0,.slice none 0 0,.int .i64 0,.string ⟨#[]⟩,.int .i64 0],.bool false]) w:=by
 have hz:(zeroValue 279).run Tryz.prog w=.ok (.agg #[.int .i64 0,.slice none 0 0,.int .i64 0,.string ⟨#[]⟩,.int .i64 0]) w:=by kernel_rfl
 unfold Instr.typeAssert
 simp[run_underlying Tryz.underlying279,h,hz,Result.andThen]
theorem tay_jvpNode (x:Value)(w:World):Sem.run Tryz.prog (Instr.typeAssert (.iface 280 x) 167 280 true) w=.ok (.tuple #[x,.bool true]) w:=by kernel_rfl
theorem tan_jvpNode (T:TypeId)(x:Value)(w:World)(h:T≠280):Sem.run Tryz.prog (Instr.typeAssert (.iface T x) 167 280 true) w=.ok (.tuple #[.agg #[.int .i64 0,.slice none 0 0,.int .i64 0,.string ⟨#[]⟩,.int .i64 0],.bool false]) w:=by
 have hz:(zeroValue 280).run Tryz.prog w=.ok (.agg #[.int .i64 0,.slice none 0 0,.int .i64 0,.string ⟨#[]⟩,.int .i64 0]) w:=by kernel_rfl
 unfold Instr.typeAssert
 simp[run_underlying Tryz.underlying280,h,hz,Result.andThen]
theorem tay_callNode (x:Value)(w:World):Sem.run Tryz.prog (Instr.typeAssert (.iface 269 x) 167 269 true) w=.ok (.tuple #[x,.bool true]) w:=by kernel_rfl
theorem tan_callNode (T:TypeId)(x:Value)(w:World)(h:T≠269):Sem.run Tryz.prog (Instr.typeAssert (.iface T x) 167 269 true) w=.ok (.tuple #[.agg #[.int .i64 0,.slice none 0 0,.int .i64 0,.string ⟨#[]⟩,.int .i64 0],.bool false]) w:=by
 have hz:(zeroValue 269).run Tryz.prog w=.ok (.agg #[.int .i64 0,.slice none 0 0,.int .i64 0,.string ⟨#[]⟩,.int .i64 0]) w:=by kernel_rfl
 unfold Instr.typeAssert
 simp[run_underlying Tryz.underlying269,h,hz,Result.andThen]
theorem placeS (p:Int)(a:Option Addr)(n c:Nat)(W:World):Calls Tryz.prog 317 #[.agg #[.int .i64 p,.slice a n c]] W fun e W'=>e=.returned (.int .i64 p)∧Kept 0 0 W W':=by
 have HK:Hid _:=kept_alloc 0 0 W (.cells #[.int .i64 p,.slice a n c] 247)
 go_enter Tryz.func317,Tryz.ntmps317
 go_wp2
 go_ret
 exact⟨rfl,HK.out⟩
theorem operandsS (p:Int)(a:Option Addr)(n c:Nat)(W:World):Calls Tryz.prog 316 #[.agg #[.int .i64 p,.slice a n c]] W fun e W'=>e=.returned (.slice a n c)∧Kept 0 0 W W':=by
 have HK:Hid _:=kept_alloc 0 0 W (.cells #[.int .i64 p,.slice a n c] 247)
 go_enter Tryz.func316,Tryz.ntmps316
 go_wp2
 go_ret
 exact⟨rfl,HK.out⟩
theorem tkbox (w:World)(x y z:Value):∀W1,Kept 0 0 (w.alloc (.cells #[x,y,z] 296)) W1→Kept 0 0 w W1∧W1.cell? ⟨w.heap.size,0,none⟩=some x∧W1.cell? ⟨w.heap.size,1,none⟩=some y∧W1.cell? ⟨w.heap.size,2,none⟩=some z∧w.heap.size<W1.heap.size:=fun W1 k=>by
 obtain⟨b1,_,b3⟩:=box_at w _ #[x,y,z] 296 (Kept.refl 0 0 _).chg (S:=fun _=>False) (fun c=>c)
 exact⟨(kept_alloc 0 0 w _).trans k,kcell k b3 (b1 0),kcell k b3 (b1 1),kcell k b3 (b1 2),Nat.lt_of_lt_of_le b3 k.size⟩
end Go.Proofs.YtgamjhpebmmjcaaGreatDoor
namespace Go.Proofs.YtgamjhpebmmjcaaGreatDoor
set_option maxRecDepth 100000
set_option maxHeartbeats 40000000
open Go.RowKit Flt
attribute [local go_sem] alloc_drewN setCell_drewN run_store_float fld0 fld1 fld2 mkF
theorem OfR.any {W:World}{ρ:Nat→Nat}{v:Value}{ys:List Nat}(h:OfR W ρ v ys):∃a cap,v=.slice a ys.length cap:=by
 rcases h.1.2 with⟨e1,e2⟩|⟨g',cap',cur,e1,_⟩
 ·exact⟨none,0,by rw[e1,e2]⟩
 ·exact⟨_,cap',e1⟩
theorem Tq.pushX {E:Tqe}{ρ:Nat→Nat}{W W1:World}{ins:List Int}{vs:List Vl}{outs:List Int}{names:List Bdg}{calls:Nat}{L:List TkV}{xs:List Nat}{u1 u3 vv tv xv:Value}{a g n cap:Nat}
  (hB:TqB E ρ W ins vs outs u1 u3 vv) (hT:TqT E ρ W names calls L xs tv xv) (c:Chg (fun b=>xv.ownBlock=some b) W W1) (hg:xv.ownBlock=some g∨g=W.heap.size) (hlt:g<W1.heap.size)
  (hn:n=(xs++[a]).length) (hrow:W1.ownsRow E.N 3 1 (.slice (some ⟨g,0,none⟩) n cap) n (intsN (xs++[a]))):
  ∃ρ',TqB E ρ' (W1.setCell ⟨E.T,5,none⟩ (.slice (some ⟨g,0,none⟩) n cap)) ins vs outs u1 u3 vv∧TqT E ρ' (W1.setCell ⟨E.T,5,none⟩ (.slice (some ⟨g,0,none⟩) n cap)) names calls L (xs++[a]) tv (.slice (some ⟨g,0,none⟩) n cap)∧Sco ρ W ρ' (W1.setCell ⟨E.T,5,none⟩ (.slice (some ⟨g,0,none⟩) n cap)):=by
 have c2:=chg_set c E.T 5 (.slice (some ⟨g,0,none⟩) n cap)
 have hcol:∀b,(xv.ownBlock=some b∨b=E.T)→ρ b=2∨ρ b=9:=fun b q=>q.elim (fun q=>.inr (hT.rx b q)) (fun q=>.inl (by rw[q];exact hT.rT))
 have hTc:TcC E (W1.setCell ⟨E.T,5,none⟩ (.slice (some ⟨g,0,none⟩) n cap)) calls tv (.slice (some ⟨g,0,none⟩) n cap):=(hT.toTcC.chg c (fun q=>by have:=hT.rx _ q;have:=hT.rT;omega)).set5 _
 have hgT:∀b,g=b→b≠E.T:=fun b q e=>by
  rcases hg with d|d
  ·have h9:=hT.rx _ d;have:=hT.rT;rw[q,e] at h9;omega
  ·have:=hT.lt;omega
 have hrow2:(W1.setCell ⟨E.T,5,none⟩ (.slice (some ⟨g,0,none⟩) n cap)).ownsRow E.N 3 1 (.slice (some ⟨g,0,none⟩) n cap) (xs++[a]).length (intsN (xs++[a])):=by
  rw[←hn]
  exact own_setCell hrow (fun q=>hgT _ rfl (by simpa[Value.ownBlock] using q))
 have hk2:(W1.setCell ⟨E.T,5,none⟩ (.slice (some ⟨g,0,none⟩) n cap)).ownsRow E.N 296 3 tv L.length (tkC L.reverse):=own_chg hT.k c2 (fun b q r=>by have:=hT.rk b q;have:=hcol b r;omega)
 have hsz:(W1.setCell ⟨E.T,5,none⟩ (.slice (some ⟨g,0,none⟩) n cap)).heap.size=W1.heap.size:=by simp[go_sem]
 have fin:∀ρ':Nat→Nat,(∀b,b<W.heap.size→ρ' b=ρ b)→(∀b,W1.heap.size≤b→ρ' b=0)→ρ' g=9→TqB E ρ' (W1.setCell ⟨E.T,5,none⟩ (.slice (some ⟨g,0,none⟩) n cap)) ins vs outs u1 u3 vv∧TqT E ρ' (W1.setCell ⟨E.T,5,none⟩ (.slice (some ⟨g,0,none⟩) n cap)) names calls L (xs++[a]) tv (.slice (some ⟨g,0,none⟩) n cap)∧Sco ρ W ρ' (W1.setCell ⟨E.T,5,none⟩ (.slice (some ⟨g,0,none⟩) n cap)):=fun ρ' e eN e9=>by
  have rx:∀b,(Value.slice (some ⟨g,0,none⟩) n cap).ownBlock=some b→ρ' b=9:=fun b q=>by
   have:g=b:=by simpa[Value.ownBlock] using q
   rw[←this];exact e9
  have hT2:=TqT.own (ρ':=ρ') (L':=L) (xs':=xs++[a]) hT c2 (fun b _ q=>by have:=hcol b q;omega) e (fun b hb=>eN b (by rw[hsz] at hb;exact hb)) hTc hk2 (fun b q=>(e b (own_blkV hT.k q).2).trans (hT.rk b q)) hrow2 rx hT.l
  exact And.intro (hB.chg (ρ':=ρ') c2 (fun b _ q=>by have:=hcol b q;omega) e) (And.intro hT2 (Sco.of c2 (fun b _ q=>by have:=hcol b q;omega) e))
 rcases hg with d|d
 ·exact⟨ρ,fin ρ (fun _ _=>rfl) (fun b hb=>hT.rN b (Nat.le_trans c.size hb)) (hT.rx g d)⟩
 ·refine⟨colr ρ g 9,fin _ (colr_lt (by omega)) (fun b hb=>?_) (colr_same _ _ _)⟩
  unfold colr
  rw[if_neg (by omega)]
  exact hT.rN b (Nat.le_trans c.size hb)
theorem Tq.sameX {E:Tqe}{ρ':Nat→Nat}{W W':World}{st:LSt}{L:List TkV}{xs:List Nat}{xv:Value}(h:Tq E ρ' W' st L xs)(t:Tsm E W W')(hl:E.T<W.heap.size)(hx:W.cell? ⟨E.T,5,none⟩=some xv):∃u1 u3 vv tv,TqB E ρ' W' st.ins st.vs st.outs u1 u3 vv∧TqT E ρ' W' st.names st.calls L xs tv xv:=by
 obtain⟨u1,u3,vv,tv,xv',hB,hT⟩:=h
 have h1:W'.cell? ⟨E.T,5,none⟩=W.cell? ⟨E.T,5,none⟩:=World.cell?_of_block (w:=W) (t hl)
 have:xv'=xv:=by
  have:=hT.t5.symm.trans (h1.trans hx)
  exact Option.some.inj this
 subst this
 exact⟨u1,u3,vv,tv,hB,hT⟩
theorem far_T {E:Tqe}{ρ:Nat→Nat}{W W9:World}{names:List Bdg}{calls:Nat}{L:List TkV}{xs:List Nat}{tv xv:Value}{o:Obj}(hT:TqT E ρ W names calls L xs tv xv)(hg:(W.alloc o).grownBy W9 xv.ownBlock):W9.cell? ⟨E.T,5,none⟩=some xv:=
 ((chg_grow hg).cell (p:=⟨E.T,5,none⟩) (Nat.lt_of_lt_of_le hT.lt (kept_alloc 0 0 W o).size) (fun q=>by have q:xv.ownBlock=some E.T:=q;have:=hT.rx _ q;have:=hT.rT;omega)).trans (kcell (kept_alloc 0 0 W o) hT.lt hT.t5)
theorem far_F {E:Tqe}{ρ:Nat→Nat}{W W9:World}{names:List Bdg}{calls:Nat}{L:List TkV}{xs:List Nat}{tv xv:Value}{o:Obj}(hT:TqT E ρ W names calls L xs tv xv)(hg:(W.alloc o).grownBy W9 xv.ownBlock):W9.frozen? ⟨E.T,5,none⟩=false:=
 ((chg_grow hg).frozen (p:=⟨E.T,5,none⟩) (Nat.lt_of_lt_of_le hT.lt (kept_alloc 0 0 W o).size) (fun q=>by have q:xv.ownBlock=some E.T:=q;have:=hT.rx _ q;have:=hT.rT;omega)).trans (((kept_alloc 0 0 W o).frozen (p:=⟨E.T,5,none⟩) hT.lt (by omega)).trans (hT.fz 5))
def LvO (E:Tqe)(ρ:Nat→Nat)(w:World)(L:List TkV)(X:List Nat)(r:Rs (LSt×Nat))(e:Ending)(w':World):Prop:=
 (∃st' a ρ',r=.ok (st',a)∧e=.returned (.tuple #[])∧Tq E ρ' w' st' L (X++[a])∧Sco ρ w ρ' w')∨(∃c p,r=.error (c,p)∧e=Thr c (p:Nat)∧Chg (fun b=>ρ b≠0) w w')
end Go.Proofs.YtgamjhpebmmjcaaGreatDoor
namespace Go.Proofs.YtgamjhpebmmjcaaGreatDoor
set_option maxRecDepth 100000
set_option maxHeartbeats 40000000
open Go.RowKit Flt Go.Shelf
attribute [local go_sem] alloc_drewN setCell_drewN run_store_float fld0 fld1 fld2 mkF Oper.semAt_some me_gradNode_operands me_jvpNode_operands me_callNode_operands tay_gradNode tan_gradNode tay_jvpNode tan_jvpNode tay_callNode tan_callNode
def kTs (rs:List Value)(es:List Ex)(mp:Option Nat)(loc:Loc){m:Nat}(pre:List (Fin m)):List TkV:=pre.reverse.map fun y=>⟨rs[y.1]?.getD .nilIface,.map mp,⟨es.getD y.1 (.name Tok.zero),loc,false⟩⟩
theorem kTs_snoc (rs:List Value)(es:List Ex)(mp:Option Nat)(loc:Loc){m:Nat}(pre:List (Fin m))(y:Fin m):kTs rs es mp loc (pre++[y])=⟨rs[y.1]?.getD .nilIface,.map mp,⟨es.getD y.1 (.name Tok.zero),loc,false⟩⟩::kTs rs es mp loc pre:=by
 unfold kTs
 rw[List.reverse_append]
 rfl
theorem kTs_all {rs:List Value}{es:List Ex}{mp:Option Nat}{loc:Loc}{m:Nat}{ys:List (Fin m)}(hm:es.length=m)(h:ys.map Fin.val=(List.range m).map (fun i=>m-1-i)):(kTs rs es mp loc ys).map (·.t)=es.map (mkT loc):=by
 have h1:ys.reverse.map Fin.val=List.range m:=by
  rw[List.map_reverse,h]
  apply List.ext_getElem
  ·simp
  ·intro i h1 h2
   simp at h1 h2
   simp[List.getElem_reverse]
   omega
 have h2:(kTs rs es mp loc ys).map (·.t)=(ys.reverse.map Fin.val).map fun j=>(⟨es.getD j (.name Tok.zero),loc,false⟩:Tsk):=by
  unfold kTs
  rw[List.map_map,List.map_map]
  rfl
 rw[h2,h1]
 apply List.ext_getElem
 ·simp[hm]
 ·intro i h1 h2
  simp at h1 h2
  simp[List.getD_eq_getElem?_getD,List.getElem?_eq_getElem h2]
structure EnI (E:Tqe)(ρ:Nat→Nat)(w:World)(L:List TkV)(a1:Option Addr)(n1 c1:Nat)(mp:Option Nat)(loc:Loc)(rs:List Value)(es:List Ex):Prop where
 row:Rw w (fun b=>b<E.N) (.slice a1 n1 c1) rs
 nd:NdL w (fun b=>b<E.N) rs es
 rl:rs.length=n1
 tk:∀e∈es,ENk e
 y:∃y∈L,y.p=.map mp∧y.t.loc=loc
 l:L.length+n1≤40000000
 m:n1≤10000000
theorem EnI.bk {E:Tqe}{ρ:Nat→Nat}{w:World}{L:List TkV}{a1:Option Addr}{n1 c1:Nat}{mp:Option Nat}{loc:Loc}{rs:List Value}{es:List Ex}(f:EnI E ρ w L a1 n1 c1 mp loc rs es):∃g,(0<n1→0≤g∧g<E.N)∧∀W Bs,(0<n1→∀o,W.cell? ⟨g,o,none⟩=w.cell? ⟨g,o,none⟩)→W.cell? ⟨Bs,0,none⟩=some (.slice a1 n1 c1)→BkN W Bs g n1 c1 a1 rs:=by
 rcases Nat.eq_zero_or_pos n1 with z|z
 ·exact⟨0,fun h=>by omega,fun W Bs c hb=>⟨hb,fun j hj=>by omega⟩⟩
 ·obtain⟨g,hg⟩:∃g,a1=some ⟨g,0,none⟩:=by
   rcases f.row.1.2 with⟨e1,e2⟩|⟨g',cap',cur,e1,_⟩
   ·have:=f.rl;omega
   ·injection e1 with e3 _ _;exact⟨g',e3⟩
  have hgN:g<E.N:=f.row.2 g (by rw[hg];rfl)
  refine⟨g,fun _=>⟨Nat.zero_le _,hgN⟩,fun W Bs c hb=>⟨hb,fun j hj=>⟨hg,?_⟩⟩⟩
  have hjr:j<rs.length:=by have:=f.rl;omega
  have hje:j<es.length:=by rw[←f.nd.1];exact hjr
  have hnd:=f.nd.2 j rs[j] es[j] (List.getElem?_eq_getElem hjr) (List.getElem?_eq_getElem hje)
  obtain⟨T,x,hx⟩:=hnd.iface
  refine⟨T,x,by rw[List.getElem?_eq_getElem hjr];exact hx,?_⟩
  have:=f.row.1.cells (g:=g) (by rw[hg];rfl) j (.iface T x) (by rw[List.getElem?_eq_getElem hjr,hx])
  rw[add_addr,Nat.zero_add] at this
  rw[c z j]
  exact this
def EnO (E:Tqe)(ρ:Nat→Nat)(w:World)(st:LSt)(L:List TkV)(xs:List Nat)(loc:Loc)(es:List Ex)(e:Ending)(w':World):Prop:=
 e=.returned (.tuple #[])∧∃ρ' ks,Tq E ρ' w' st (ks++L) xs∧Sco ρ w ρ' w'∧ks.map (·.t)=es.map (mkT loc)
theorem sco_own {ρ ρ1 ρ2:Nat→Nat}{W A B:World}{row:Option Nat}(s:Sco ρ W ρ1 A)(g:A.grownBy B row)(hr:∀r,row=some r→W.heap.size≤r)(e:∀b,b<W.heap.size→ρ2 b=ρ1 b):Sco ρ W ρ2 B:=
 ⟨⟨g.os.trans s.chg.os,g.tape.trans s.chg.tape,g.output.trans s.chg.output,Nat.le_trans s.chg.size g.size,fun k hk hn=>(g.block k (Nat.lt_of_lt_of_le hk s.chg.size) (fun e=>by have:=hr k e.symm;omega)).trans (s.chg.block k hk hn)⟩,fun b hb=>(e b hb).trans (s.ext b hb)⟩
theorem bkn_same {A B:World}{lo hi Bs g m cap:Nat}{a:Option Addr}{rs:List Value}(k:Kpp lo hi Bs A B)(hg:0<m→lo≤g∧g<hi)(h:BkN A Bs g m cap a rs):BkN B Bs g m cap a rs:=
 ⟨by rw[k.2.cell (Nat.le_refl _) (Nat.lt_succ_self _)];exact h.box,fun j hj=>by
  obtain⟨h1,N,bs,h2,h3⟩:=h.at_ j hj
  have:=hg (by omega)
  exact⟨h1,N,bs,h2,by rw[k.1.cell this.1 this.2];exact h3⟩⟩
theorem enterPlain {E:Tqe}{ρ:Nat→Nat}{w:World}{st:LSt}{L:List TkV}{xs:List Nat}(h:Tq E ρ w st L xs){mp:Option Nat}{b:Bool}{loc:Loc}{a1:Option Addr}{n1 c1:Nat}{rs:List Value}{es:List Ex}(f:EnI E ρ w L a1 n1 c1 mp loc rs es){T0:TypeId}{x0:Value}{p:Int}
  (hm:∀W,Sem.run Tryz.prog (method 489 T0 x0 "loop.example/s08086/impl.operands") W=.ok (316,.agg #[.int .i64 p,.slice a1 n1 c1]) W)
  (h1:T0≠279) (h2:T0≠280) (h3:T0≠269):
  Calls Tryz.prog 213 #[.pointer (some ⟨E.T,0,none⟩),.agg #[.iface T0 x0,.map mp,.bool b]] w (EnO E ρ w st L xs loc es):=by
 have t1:=fun W=>tan_gradNode T0 x0 W h1
 have t2:=fun W=>tan_jvpNode T0 x0 W h2
 have t3:=fun W=>tan_callNode T0 x0 W h3
 clear h1 h2 h3
 have HC:Hid (E.N≤w.heap.size∧E.V<w.heap.size∧E.F<w.heap.size∧∀y∈L,∀q,y.p=.map (some q)→q<w.heap.size):=by
  obtain⟨_,_,_,_,_,_,hT⟩:=h
  obtain⟨G,g1,_⟩:=hT.f
  refine⟨hT.sz,hT.v.lt,g1.lt,fun y hy q e=>?_⟩
  rcases (hT.l y hy).2.1 with⟨e1,_⟩|⟨q',e1,_,e3⟩
  ·rw[e] at e1;cases e1
  ·rw[e] at e1;cases e1;exact e3.lt
 have HC0:Hid ((∀b,b<E.N→ρ b=0)∧∀b,w.heap.size≤b→ρ b=0):=by
  obtain⟨_,_,_,_,_,_,hT⟩:=h
  exact⟨hT.r0,hT.rN⟩
 obtain⟨g,hg,hbk⟩:=f.bk
 refine callsIn_wide.1 (callsIn_of_wp_marks (F:=Fence.wide) (n:=3) Tryz.func213 rfl trivial ?_ rfl)
 simp only[Tryz.ntmps213,List.size_toArray,List.length_cons,List.length_nil,Nat.reduceAdd,Nat.reduceSub,Array.replicate_succ,Array.replicate_zero,List.push_toArray,List.append_toArray,List.nil_append,List.cons_append]
 rw[wpIn_wide]
 have k0a:=kept_alloc 0 0 w (.cells #[.pointer (some ⟨E.T,0,none⟩)] 116)
 have k0:=k0a.trans (kept_alloc 0 0 _ (.cells #[.iface T0 x0,.map mp,.bool b] 296))
 have hbx1:=box_at w ((w.alloc (.cells #[.pointer (some ⟨E.T,0,none⟩)] 116)).alloc (.cells #[.iface T0 x0,.map mp,.bool b] 296)) #[.pointer (some ⟨E.T,0,none⟩)] 116 (S:=fun _=>False) (kept_alloc 0 0 _ _).chg (fun c=>c)
 have hbx2:=box_at (w.alloc (.cells #[.pointer (some ⟨E.T,0,none⟩)] 116)) _ #[.iface T0 x0,.map mp,.bool b] 296 (Kept.refl 0 0 _).chg (S:=fun _=>False) (fun c=>c)
 rw[show(w.alloc (.cells #[.pointer (some ⟨E.T,0,none⟩)] 116)).heap.size=w.heap.size+1 by simp] at hbx2
 have b20:((w.alloc (.cells #[.pointer (some ⟨E.T,0,none⟩)] 116)).alloc (.cells #[.iface T0 x0,.map mp,.bool b] 296)).cell? ⟨w.heap.size,0,none⟩=some (.pointer (some ⟨E.T,0,none⟩)):=hbx1.1 0
 have b30:((w.alloc (.cells #[.pointer (some ⟨E.T,0,none⟩)] 116)).alloc (.cells #[.iface T0 x0,.map mp,.bool b] 296)).cell? ⟨w.heap.size+1,0,none⟩=some (.iface T0 x0):=hbx2.1 0
 have b31:((w.alloc (.cells #[.pointer (some ⟨E.T,0,none⟩)] 116)).alloc (.cells #[.iface T0 x0,.map mp,.bool b] 296)).cell? ⟨w.heap.size+1,1,none⟩=some (.map mp):=hbx2.1 1
 have b2l:=hbx1.2.2
 have b3l:=hbx2.2.2
 have HR2:Hid (ρ w.heap.size=0∧ρ (w.heap.size+1)=0):=⟨HC0.out.2 _ (Nat.le_refl _),HC0.out.2 _ (Nat.le_succ _)⟩
 clear hbx1 hbx2 k0a
 go_upto_block 0 with fail
 change Code.wp _ _ _ _ ((w.alloc (.cells #[.pointer (some ⟨E.T,0,none⟩)] 116)).alloc (.cells #[.iface T0 x0,.map mp,.bool b] 296))
 generalize ((w.alloc (.cells #[.pointer (some ⟨E.T,0,none⟩)] 116)).alloc (.cells #[.iface T0 x0,.map mp,.bool b] 296))=w0 at*
 generalize hb3:w.heap.size+1=b3 at*
 generalize hb2:w.heap.size=b2 at HR2 b20 b2l ⊢
 go_cut [] from 4 to 45 (fun wx=>Hid (Kept 0 0 w0 wx))
 case first=>
  go_wp2_with fail
  go_meet
  exact Kept.refl 0 0 _
 case rest=>
  have kc:Kept 0 0 w0 wc:=hcut.out
  have y20:=kcell kc b2l b20
  have y30:=kcell kc b3l b30
  have y31:=kcell kc b3l b31
  go_wp2_with (first|(go_at_call 316;refine Calls.mono (operandsS _ _ _ _ _) ?_;rintro e w1 ⟨rfl,k1⟩)|(go_at_call 219;refine Calls.mono (callsIn_wide.1 (backN_in Fence.wide 3 trivial rfl _ _ _ _)) ?_;rintro e w2 ⟨rfl,rfl⟩)|fail)
  have kW:Kept 0 0 w (w1.alloc (.cells #[.slice a1 n1 c1] 245)):=((k0.trans kc).trans k1).trans (kept_alloc 0 0 w1 _)
  have hBs:(w1.alloc (.cells #[.slice a1 n1 c1] 245)).cell? ⟨w1.heap.size,0,none⟩=some (.slice a1 n1 c1):=(box_at w1 _ #[.slice a1 n1 c1] 245 (Kept.refl 0 0 _).chg (S:=fun _=>False) (fun c=>c)).1 0
  have hBl:w1.heap.size<(w1.alloc (.cells #[.slice a1 n1 c1] 245)).heap.size:=by simp
  have hw1:w.heap.size≤w1.heap.size:=((k0.trans kc).trans k1).size
  have q20:=kcell (k1.trans (kept_alloc 0 0 w1 (.cells #[.slice a1 n1 c1] 245))) (Nat.lt_of_lt_of_le b2l kc.size) y20
  have q31:=kcell (k1.trans (kept_alloc 0 0 w1 (.cells #[.slice a1 n1 c1] 245))) (Nat.lt_of_lt_of_le b3l kc.size) y31
  have b2W:b2<(w1.alloc (.cells #[.slice a1 n1 c1] 245)).heap.size:=Nat.lt_of_lt_of_le b2l (Nat.le_trans kc.size (Nat.le_trans k1.size (kept_alloc 0 0 w1 _).size))
  have b3W:b3<(w1.alloc (.cells #[.slice a1 n1 c1] 245)).heap.size:=Nat.lt_of_lt_of_le b3l (Nat.le_trans kc.size (Nat.le_trans k1.size (kept_alloc 0 0 w1 _).size))
  clear y20 y30 y31 k1 kc b20 b30 b31
  generalize (w1.alloc (.cells #[.slice a1 n1 c1] 245))=W1 at*
  generalize w1.heap.size=Bs at*
  obtain⟨hqN,hqV,hqF,hq0⟩:=HC.out
  have hW:w.heap.size≤W1.heap.size:=kW.size
  have HJ0:Hid (Tq E ρ W1 st (kTs rs es mp loc (m:=n1) []++L) xs):=h.keep kW
  have HRs:Hid (∀y:Fin n1,∃T x,rs[y.1]?.getD .nilIface=.iface T x∧Nd w (fun b=>b<E.N) (.iface T x) (es.getD y.1 (.name Tok.zero))∧ENk (es.getD y.1 (.name Tok.zero))):=fun y=>by
   have hjr:y.1<rs.length:=by have:=f.rl;have:=y.2;omega
   have hje:y.1<es.length:=by rw[←f.nd.1];exact hjr
   have hnd:=f.nd.2 y.1 rs[y.1] es[y.1] (List.getElem?_eq_getElem hjr) (List.getElem?_eq_getElem hje)
   obtain⟨T,x,hx⟩:=hnd.iface
   rw[hx] at hnd
   rw[List.getElem?_eq_getElem hjr,List.getD_eq_getElem?_getD,List.getElem?_eq_getElem hje]
   exact⟨T,x,hx,hnd,f.tk _ (List.getElem_mem hje)⟩
  have HPq:Hid (∀(pre:List (Fin n1)),∀y∈kTs rs es mp loc pre++L,∀q,y.p=.map (some q)→q<w.heap.size):=fun pre y hy q e=>by
   rcases List.mem_append.1 hy with hy|hy
   ·obtain⟨z,hz,hp,_⟩:=f.y
    unfold kTs at hy
    obtain⟨v,_,rfl⟩:=List.mem_map.1 hy
    exact hq0 z hz q (hp.trans e)
   ·exact hq0 y hy q e
  have HEl:Hid (es.length=n1):=by show _=_;rw[←f.nd.1];exact f.rl
  have HLl:Hid (∀pre:List (Fin n1),pre.length<n1→(kTs rs es mp loc pre++L).length≤50000000):=fun pre hp=>by
   have:=f.l
   unfold kTs
   rw[List.length_append,List.length_map,List.length_reverse]
   omega
  have HYm:Hid (∃y∈L,y.p=.map mp∧y.t.loc=loc):=f.y
  have HB0:Hid (ρ Bs=0):=HC0.out.2 Bs (by omega)
  refine(wpIn_wide (n:=3)).1 ?_
  refine wpIn_rangeFunc_ownG (F:=Fence.wide) rfl (by decide) (gf:=230) (lb:=#[.pointer (some ⟨Bs,0,none⟩)]) rfl trivial (enters_of Tryz.func230 (by kernel_rfl) rfl)
   (backN_stops Fence.wide (3-1) trivial rfl (by decide) Bs g n1 c1 a1 rs f.m (Kpp 0 E.N Bs) (fun A B k hh=>bkn_same k hg hh) W1 (fun W hWb=>hbk W Bs (fun z o=>(hWb.cell (p:=⟨g,o,none⟩) (by have:=(hg z).2;show g<_;omega)).trans (kW.cell (p:=⟨g,o,none⟩) (by have:=(hg z).2;show g<_;omega) (by omega))) ((hWb.cell (p:=⟨Bs,0,none⟩) hBl).trans hBs)))
   (fun h k=>⟨h.1.trans k.1 (Nat.le_refl _) (Nat.le_refl _),h.2.trans k.2 (Nat.le_refl _) (Nat.le_refl _)⟩) (fun W l o o' hl hh _ _=>⟨Same.put W l o o' (by omega) hl hh,Same.put W l o o' (by omega) hl hh⟩) (Below.refl _ _) (fun _=>rfl)
   (fun pre W=>∃ρ',Tq E ρ' W st (kTs rs es mp loc pre++L) xs∧Sco ρ W1 ρ' W) (fun _ _ _=>False)
   (fun pre A B row hh hgr hr=>?own) (fun _ _ _ _ _ hh _ _=>hh) ⟨ρ,HJ0.out,Sco.refl _ _⟩
   (fun y:Fin n1=>{tmps:=#[.pointer (some ⟨E.T,0,none⟩),.agg #[.iface T0 x0,.map mp,.bool b],.pointer (some ⟨b2,0,none⟩),.pointer (some ⟨b3,0,none⟩),u4,u5,u6,u7,rs[y.1]?.getD .nilIface,u9,u10,u11,u12,u13,u14,u15,u16,u17,u18,u19,u20,u21,u22,u23,u24,u25,u26,u27,u28,u29,u30,u31,u32,u33,u34,.pointer (some ⟨b3,0,none⟩),.iface T0 x0,.slice a1 n1 c1,.func (.func 230) #[] #[.pointer (some ⟨Bs,0,none⟩)],.int .i64 (y.1:Int),rs[y.1]?.getD .nilIface,u41,u42,u43,u44,u45],defers:=[]}) ?assign ?body ?done ?stop
  case own=>
   obtain⟨ρ1,hq1,hs1⟩:=hh
   obtain⟨ρ2,hq2,he2⟩:=hq1.own hgr hr (by omega) (by omega) (by omega) (fun y hy q e=>Nat.lt_of_lt_of_le (HPq.out pre y hy q e) hW)
   exact⟨ρ2,hq2,sco_own hs1 hgr (fun r e=>(hr r e).1) he2⟩
  case assign=>
   intro l y W K hK
   obtain⟨T,x,hx,_⟩:=HRs.out y
   rw[hx] at hK ⊢
   gi_wp2
   exact hK
  case body=>
   rintro l pre y W ⟨ρ1,hq1,hs1⟩ hlen
   obtain⟨T,x,hx,hnd,htk⟩:=HRs.out y
   have r2:ρ1 b2=0∧ρ1 b3=0∧ρ1 Bs=0:=⟨(hs1.ext b2 b2W).trans HR2.out.1,(hs1.ext b3 b3W).trans HR2.out.2,(hs1.ext Bs hBl).trans HB0.out⟩
   have p20:=(hs1.chg.cell (p:=⟨b2,0,none⟩) b2W (fun q=>q HR2.out.1)).trans q20
   have p31:=(hs1.chg.cell (p:=⟨b3,1,none⟩) b3W (fun q=>q HR2.out.2)).trans q31
   have h0N:∀b,b<E.N→ρ1 b=0:=by
    obtain⟨_,_,_,_,_,_,hT⟩:=hq1
    exact hT.r0
   have hndW:Nd W (fun b=>b<E.N) (.iface T x) (es.getD y.1 (.name Tok.zero)):=(hnd.keep kW).chg hs1.chg (fun b q hb=>q (HC0.out.1 b hb))
   have hpr:PrM W ρ1 (.map mp) loc:=by
    obtain⟨z,hz,hp,hl⟩:=HYm.out
    obtain⟨_,_,_,_,_,_,hT⟩:=hq1
    have:=(hT.l z (List.mem_append_right _ hz)).2.1
    rw[hp,hl] at this
    exact this
   have HBg:Hid _:=beginK hq1 (HLl.out pre hlen) hndW htk hpr
   have HSz:Hid (W1.heap.size≤W.heap.size):=hs1.chg.size
   have HS1:Hid (Sco ρ W1 ρ1 W):=hs1
   have HR1:Hid ((∀b,b<E.N→ρ1 b=0)∧ρ1 Bs=0):=⟨h0N,r2.2.2⟩
   have hx2:rs[y.1]?.getD .nilIface=.iface T x:=hx
   have HX2:Hid _:=hx2
   rw[hx]
   clear hq1 hs1 hndW hpr hnd htk r2 h0N hx hx2
   gi_wp2_with ((try refine⟨trivial,?_⟩);gi_at_call 211;refine(CallsIn.inRound l (callsIn_wide.2 HBg.out)).mono ?_;rintro e W' ⟨rfl,ρ2,q2,s2,ko⟩)
   have hNW:E.N≤W.heap.size:=by have:=HSz.out;omega
   refine⟨ko.from _,⟨⟨hNW,s2.chg.size,fun b _ hb=>s2.chg.block b (by omega) (fun q=>q (HR1.out.1 b hb))⟩,⟨by have:=HSz.out;omega,s2.chg.size,fun b h1 h2=>s2.chg.block b (by have:=HSz.out;omega) (fun q=>q (by rw[show b=Bs by omega];exact HR1.out.2))⟩⟩,ρ2,?_,HS1.out.trans s2⟩
   rw[kTs_snoc,HX2.out]
   exact q2
  case done=>
   rintro D ys W hD hS ⟨ρ1,hq1,hs1⟩ hK
   have hks:=kTs_all (rs:=rs) (mp:=mp) (loc:=loc) HEl.out hS
   have g9:=grownBy_putObj' W D (.deferred none)
   obtain⟨ρ2,hq2,he2⟩:=hq1.own g9 (B:=W1.heap.size) (fun r e=>by cases e;exact⟨hD,_,hK,rfl⟩) (by omega) (by omega) (by omega) (fun y hy q e=>Nat.lt_of_lt_of_le (HPq.out ys y hy q e) hW)
   have hs2:Sco ρ W1 ρ2 (W.putObj D (.deferred none)):=sco_own hs1 g9 (fun r e=>by cases e;exact hD) he2
   have HFin:Hid (Tq E ρ2 (W.putObj D (.deferred none)) st (kTs rs es mp loc ys++L) xs∧Sco ρ w ρ2 (W.putObj D (.deferred none))∧(kTs rs es mp loc ys).map (·.t)=es.map (mkT loc)):=⟨hq2,(Sco.kept kW).trans hs2,hks⟩
   have HKD:Hid (W.heap[D]? =some (.deferred (some []))):=hK
   clear hq1 hs1 hK hks g9 hq2 he2 hs2 hS
   go_wp2_with fail
   refine⟨by simp,.inl ⟨_,_,rfl,run_takeDeferred HKD.out,?_⟩⟩
   refine⟨_,results_none rfl _ _ _,?_⟩
   exact⟨rfl,ρ2,_,HFin.out.1,HFin.out.2.1,HFin.out.2.2⟩
  case stop=>
   rintro D c pre W _ _ hh _
   exact hh.elim
end Go.Proofs.YtgamjhpebmmjcaaGreatDoor
