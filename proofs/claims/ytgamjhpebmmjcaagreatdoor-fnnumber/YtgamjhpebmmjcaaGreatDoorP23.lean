import Derived.Test.YtgamjhpebmmjcaaGreatDoorP06
import Derived.Test.YtgamjhpebmmjcaaGreatDoorP05
import Derived.Deep.QuietTactic
import Derived.BigQuiet
import Derived.Test.YtgamjhpebmmjcaaGreatDoorP09
import Derived.Deep.RegionHeld3
import Derived.Deep.RegionLaw
import Derived.RangeFuncNested
import Derived.RangeFuncBound
import Derived.RangeFuncCalls
import Derived.RangeFuncLeaves
import Derived.Shelf.Abstract
import Derived.Shelf.RegionOpen
import Derived.OwnWalkIn
import Derived.TacticsInMore
import Derived.LoopNIn
import Derived.LoopIn
import Derived.Test.YtgamjhpebmmjcaaGreatDoorP22
import Derived.Test.YtgamjhpebmmjcaaGreatDoorP21
import Derived.Deep.RegionWith
import Derived.Test.YtgamjhpebmmjcaaGreatDoorP08
import Derived.Deep.AppendLies
import Derived.Deep.DeepCutAuto
import Derived.Test.YtgamjhpebmmjcaaGreatDoorP01
namespace Go.Proofs.YtgamjhpebmmjcaaGreatDoor
set_option maxRecDepth 100000
set_option maxHeartbeats 40000000
open Go.RowKit Flt
attribute [local go_sem] alloc_drewN setCell_drewN run_store_float
theorem BS.read {w:World}{P:Nat}{u1 u3:Value}{vs:List Vl}{c:Int}{base:Nat}{R:Option Nat}{vv:Value}(h:BS w P u1 u3 vs c base R vv)(hn:0<vs.length):
  ∃g cap,vv=.slice (some ⟨g,0,none⟩) vs.length cap∧g<w.heap.size∧∀i,i<vs.length→At w g (i*6) (vs.getD i Vl.zero):=by
 obtain⟨g,cap,e,_,hg,_,hA⟩:=row_at h.own hn rfl
 exact⟨g,cap,e,hg,hA.at_⟩
theorem quotient (w:World)(P:Nat)(u1 u3:Value)(vs:List Vl)(c:Int)(base:Nat)(R:Option Nat)(vv:Value)(i:Nat)(v:Vl)(ta tb:Int)(h:BS w P u1 u3 vs c base R vv)(hi:i<vs.length)(hv':vs.getD i Vl.zero=v)(b:Bnd0 vs c v.len):
  Calls Tryz.prog 247 #[.pointer (some ⟨P,0,none⟩),.int .i64 (i:Int),.int .i64 ta,.int .i64 tb] w fun e w'=>Bd w P u1 u3 vs c base R (divM (i:Int) v ta tb vs.length) e w':=by
 have k0:=kept_alloc 0 0 w (vbox v.op v.len v.a v.b v.c v.k)
 have hv:=vbox_atJ w v
 have hf:=h.far
 have h':=h.keep k0
 obtain⟨g,cap,rfl,hg,hA⟩:=h.read (by omega)
 have z1:=h.c1
 have hat:=hA i hi
 rw[hv'] at hat
 have HX:Hid (∀{w1:World} {a:List Vl} {R1:Option Nat} {vv:Value},BS w1 P u1 u3 (vs++a) (c+cellsV a) base R1 vv→Stp P R (w.alloc (vbox v.op v.len v.a v.b v.c v.k)) R1 w1→a.length≤10→-100000≤cellsV a→cellsV a≤100000→∀op p q r,_):=fun h s l0 l1 l2 op p q r=>put_next h s (by have:=b.l;omega) (by have:=b.c0;omega) (by have:=b.c1;omega) op v.len p q r b.n0 b.n1
 have HY:Hid (∀{w1:World} {a:List Vl} {R1:Option Nat} {vv:Value},BS w1 P u1 u3 (vs++a) (c+cellsV a) base R1 vv→Stp P R (w.alloc (vbox v.op v.len v.a v.b v.c v.k)) R1 w1→a.length≤10→-100000≤cellsV a→cellsV a≤100000→∀p q,_):=fun {w1 a R1 vv} h s l0 l1 l2 p q=>dif_next (n:=v.len) h s ⟨by rw[List.length_append];have:=b.l;omega,by have:=b.c0;omega,by have:=b.c1;omega,b.n0,b.n1⟩ p q
 have HB:Hid (BS (w.alloc (vbox v.op v.len v.a v.b v.c v.k)) P u1 u3 (vs++[]) (c+cellsV []) base R (.slice (some ⟨g,0,none⟩) vs.length cap)):=by show BS _ _ _ _ _ _ _ _ _;simpa[cellsV] using h'
 have HN:Hid (-1000≤v.len∧v.len≤1000):=⟨b.n0,b.n1⟩
 have HK:Hid _:=k0
 have HV:Hid (∀{w1:World} {R1:Option Nat},Stp P R (w.alloc (vbox v.op v.len v.a v.b v.c v.k)) R1 w1→At w1 w.heap.size 0 v):=fun s=>hv.step s (by simp) hf
 clear h h' b k0 hf hv hA hg hv'
 obtain⟨d0,d1,d2,d3,d4,d5⟩:=hat
 obtain⟨v0,v1,v2,v3,v4,v5⟩:=HV.out (StQ.refl _ _ _)
 unfold divM
 by_cases hp:ta=-1
 ·subst hp
  rw[if_pos rfl]
  by_cases hq:tb=-1
  ·subst hq
   rw[if_pos rfl]
   go_enter Tryz.func247,Tryz.ntmps247
   go_wp2_with fail
   clear d0 d1 d2 d3 d4 d5 z1
   refine Calls.mono (HY.out HB.out (StQ.refl _ _ _) (by simp) (by simp[cellsV];try (have:=HN.out;omega)) (by simp[cellsV];try (have:=HN.out;omega)) (-1) (-1)) ?_
   rintro e w9 hb
   obtain⟨rfl,hR⟩:=Bd.cast (M':=_) (by rw[difM_p]) (Bd.kept HK.out hb)
   have R:Hid _:=hR
   clear hR hb
   go_wp2
   go_ret
   exact⟨rfl,R.out⟩
  ·rw[if_neg hq]
   have tq:(tb !=-1)=true:=by simpa using hq
   go_enter Tryz.func247,Tryz.ntmps247
   go_wp2_with fail
   clear d0 d1 d2 d3 d4 d5 z1
   refine Calls.mono (HX.out HB.out (StQ.refl _ _ _) (by simp) (by simp[cellsV];try (have:=HN.out;omega)) (by simp[cellsV];try (have:=HN.out;omega)) 4 i tb 0) ?_
   rintro e w1 ⟨rfl,R1,vv1,h1,s1⟩
   have H1:Hid _:=h1
   have S1:Hid _:=s1
   clear h1 s1 v0 v1 v2 v3 v4 v5
   obtain⟨v0,v1,v2,v3,v4,v5⟩:=HV.out S1.out
   go_wp2_with fail
   refine Calls.mono (HX.out H1.out S1.out (by simp) (by simp[cellsV];try (have:=HN.out;omega)) (by simp[cellsV];try (have:=HN.out;omega)) 5 _ v.b 0) ?_
   rintro e w2 ⟨rfl,R2,vv2,h2,s2⟩
   have H2:Hid _:=h2
   have S2:Hid _:=s2
   clear h2 s2 v0 v1 v2 v3 v4 v5
   obtain⟨v0,v1,v2,v3,v4,v5⟩:=HV.out S2.out
   go_wp2_with fail
   refine Calls.mono (HY.out H2.out S2.out (by simp) (by simp[cellsV];try (have:=HN.out;omega)) (by simp[cellsV];try (have:=HN.out;omega)) (-1) _) ?_
   rintro e w9 hb
   obtain⟨rfl,hR⟩:=Bd.cast (M':=_) (by rw[difM_q (by omega)]) (Bd.kept HK.out hb)
   have R:Hid _:=hR
   clear hR hb
   go_wp2
   go_ret
   exact⟨rfl,R.out⟩
 ·rw[if_neg hp]
  have tp:(ta !=-1)=true:=by simpa using hp
  by_cases hq:tb=-1
  ·subst hq
   rw[if_pos rfl]
   go_enter Tryz.func247,Tryz.ntmps247
   go_wp2_with fail
   clear d0 d1 d2 d3 d4 d5 z1
   refine Calls.mono (HX.out HB.out (StQ.refl _ _ _) (by simp) (by simp[cellsV];try (have:=HN.out;omega)) (by simp[cellsV];try (have:=HN.out;omega)) 5 ta v.b 0) ?_
   rintro e w1 ⟨rfl,R1,vv1,h1,s1⟩
   have H1:Hid _:=h1
   have S1:Hid _:=s1
   clear h1 s1 v0 v1 v2 v3 v4 v5
   obtain⟨v0,v1,v2,v3,v4,v5⟩:=HV.out S1.out
   go_wp2_with fail
   refine Calls.mono (HY.out H1.out S1.out (by simp) (by simp[cellsV];try (have:=HN.out;omega)) (by simp[cellsV];try (have:=HN.out;omega)) _ (-1)) ?_
   rintro e w9 hb
   obtain⟨rfl,hR⟩:=Bd.cast (M':=_) (by rw[difM_p]) (Bd.kept HK.out hb)
   have R:Hid _:=hR
   clear hR hb
   go_wp2
   go_ret
   exact⟨rfl,R.out⟩
  ·rw[if_neg hq]
   have tq:(tb !=-1)=true:=by simpa using hq
   go_enter Tryz.func247,Tryz.ntmps247
   go_wp2_with fail
   clear d0 d1 d2 d3 d4 d5 z1
   refine Calls.mono (HX.out HB.out (StQ.refl _ _ _) (by simp) (by simp[cellsV];try (have:=HN.out;omega)) (by simp[cellsV];try (have:=HN.out;omega)) 5 ta v.b 0) ?_
   rintro e w1 ⟨rfl,R1,vv1,h1,s1⟩
   have H1:Hid _:=h1
   have S1:Hid _:=s1
   clear h1 s1 v0 v1 v2 v3 v4 v5
   obtain⟨v0,v1,v2,v3,v4,v5⟩:=HV.out S1.out
   go_wp2_with fail
   refine Calls.mono (HX.out H1.out S1.out (by simp) (by simp[cellsV];try (have:=HN.out;omega)) (by simp[cellsV];try (have:=HN.out;omega)) 4 i tb 0) ?_
   rintro e w2 ⟨rfl,R2,vv2,h2,s2⟩
   have H2:Hid _:=h2
   have S2:Hid _:=s2
   clear h2 s2 v0 v1 v2 v3 v4 v5
   obtain⟨v0,v1,v2,v3,v4,v5⟩:=HV.out S2.out
   go_wp2_with fail
   refine Calls.mono (HX.out H2.out S2.out (by simp) (by simp[cellsV];try (have:=HN.out;omega)) (by simp[cellsV];try (have:=HN.out;omega)) 5 _ v.b 0) ?_
   rintro e w3 ⟨rfl,R3,vv3,h3,s3⟩
   have H3:Hid _:=h3
   have S3:Hid _:=s3
   clear h3 s3 v0 v1 v2 v3 v4 v5
   obtain⟨v0,v1,v2,v3,v4,v5⟩:=HV.out S3.out
   go_wp2_with fail
   refine Calls.mono (HY.out H3.out S3.out (by simp) (by simp[cellsV];try (have:=HN.out;omega)) (by simp[cellsV];try (have:=HN.out;omega)) _ _) ?_
   rintro e w9 hb
   obtain⟨rfl,hR⟩:=Bd.cast (M':=_) (by rw[difM_pq (by omega) (by omega)]) (Bd.kept HK.out hb)
   have R:Hid _:=hR
   clear hR hb
   go_wp2
   go_ret
   exact⟨rfl,R.out⟩
end Go.Proofs.YtgamjhpebmmjcaaGreatDoor
namespace Go.Proofs.YtgamjhpebmmjcaaGreatDoor
set_option maxRecDepth 100000
set_option maxHeartbeats 40000000
open Go.RowKit Flt
attribute [local go_sem] alloc_drewN setCell_drewN run_store_float
def mvM (i:Int)(v:Vl)(ta tb tc:Int)(N:Nat):List Vl×Int:=
 if ta=-1∧tb=-1∧tc=-1 then ([],-1)
 else if v.op=2 then sumM v.len ta tb N
 else if v.op=3 then difM v.len ta tb N
 else if v.op=4 then mulM v ta tb N
 else if v.op=5 then divM i v ta tb N
 else if v.op=7 then ([vput 3 v.len v.a v.b 0]++(chM v.len N ta tb (N+1)).1,(chM v.len N ta tb (N+1)).2)
 else if v.op=8 then (if tb=-1∧tc=-1 then ([],-1) else chM v.len v.a tb tc N)
 else if v.op=13 then ([vput 4 v.len ta i 0],(N:Int))
 else ([vput v.op v.len ta 0 v.c],(N:Int))
def ovs (v:Vl)(mv:List Int)(q j:Nat):Int:=if j<q then mv.getD (fld v j).toNat 0 else -1
end Go.Proofs.YtgamjhpebmmjcaaGreatDoor
namespace Go.Proofs.YtgamjhpebmmjcaaGreatDoor
set_option maxRecDepth 100000
set_option maxHeartbeats 40000000
open Go.RowKit Flt
attribute [local go_sem] alloc_drewN setCell_drewN run_store_float
theorem keeps_many (w:World)(P:Nat)(u1 u3:Value)(vs:List Vl)(c:Int)(base:Nat)(R:Option Nat)(g cap:Nat)(h:BS w P u1 u3 vs c base R (.slice (some ⟨g,0,none⟩) vs.length cap))(hl:2000<vs.length):
  Calls Tryz.prog 201 #[.pointer (some ⟨P,0,none⟩)] w fun e w'=>e=.returned (.bool false)∧w'=w:=by
 have c1:=h.c1
 clear h
 generalize vs.length=n at c1 hl
 have t1:¬((n:Int)≤2000):=by omega
 go_enter Tryz.func201,Tryz.ntmps201
 go_wp2
 go_ret
 exact⟨rfl,rfl⟩
theorem keeps_cells (w:World)(P:Nat)(u1 u3:Value)(vs:List Vl)(c:Int)(base:Nat)(R:Option Nat)(g cap:Nat)(h:BS w P u1 u3 vs c base R (.slice (some ⟨g,0,none⟩) vs.length cap))(hl:vs.length≤2000)(hc:50000<c):
  Calls Tryz.prog 201 #[.pointer (some ⟨P,0,none⟩)] w fun e w'=>e=.returned (.bool false)∧w'=w:=by
 have c1:=h.c1
 have c3:=h.c3
 clear h
 generalize vs.length=n at c1 hl
 have t1:(n:Int)≤2000:=by omega
 have t2:decide (c≤50000)=false:=decide_eq_false (by omega)
 go_enter Tryz.func201,Tryz.ntmps201
 go_wp2
 go_ret
 exact⟨rfl,rfl⟩
theorem keeps_ok (w:World)(P:Nat)(u1 u3:Value)(vs:List Vl)(c:Int)(base:Nat)(R:Option Nat)(g cap:Nat)(h:BS w P u1 u3 vs c base R (.slice (some ⟨g,0,none⟩) vs.length cap))(hl:vs.length≤2000)(hc:c≤50000):
  Calls Tryz.prog 201 #[.pointer (some ⟨P,0,none⟩)] w fun e w'=>e=.returned (.bool true)∧w'=w:=by
 have c1:=h.c1
 have c3:=h.c3
 clear h
 generalize vs.length=n at c1 hl
 have t1:(n:Int)≤2000:=by omega
 have t2:decide (c≤50000)=true:=decide_eq_true hc
 go_enter Tryz.func201,Tryz.ntmps201
 go_wp2
 go_ret
 exact⟨rfl,rfl⟩
end Go.Proofs.YtgamjhpebmmjcaaGreatDoor
namespace Go.Proofs.YtgamjhpebmmjcaaGreatDoor
set_option maxRecDepth 100000
set_option maxHeartbeats 40000000
open Go.RowKit Flt
attribute [local go_sem] alloc_drewN setCell_drewN run_store_float
def jmv (vs0:List Vl)(i:Nat)(st:List Vl×List Int):List Vl×Int:=
 mvM (i:Int) (vs0.getD i Vl.zero) (ovs (vs0.getD i Vl.zero) st.2 (cnt (vs0.getD i Vl.zero).op) 0) (ovs (vs0.getD i Vl.zero) st.2 (cnt (vs0.getD i Vl.zero).op) 1) (ovs (vs0.getD i Vl.zero) st.2 (cnt (vs0.getD i Vl.zero).op) 2) st.1.length
def jst (vs0:List Vl)(x t:Nat):Nat→List Vl×List Int
 |0=>(vs0,(List.replicate vs0.length (-1)).set x (t:Int))
 |k+1=>((jst vs0 x t k).1++(jmv vs0 (x+1+k) (jst vs0 x t k)).1,(jst vs0 x t k).2.set (x+1+k) (jmv vs0 (x+1+k) (jst vs0 x t k)).2)
def jfin (vs0:List Vl)(s x t:Nat):List Vl×Int:=
 if (jst vs0 x t (s-x)).2.getD s 0=-1 then ((jst vs0 x t (s-x)).1++[vput 1 (vs0.getD s Vl.zero).len 0 0 0],((jst vs0 x t (s-x)).1.length:Nat)) else ((jst vs0 x t (s-x)).1,(jst vs0 x t (s-x)).2.getD s 0)
end Go.Proofs.YtgamjhpebmmjcaaGreatDoor
namespace Go.Proofs.YtgamjhpebmmjcaaGreatDoor
set_option maxRecDepth 100000
set_option maxHeartbeats 40000000
open Go.RowKit Flt
attribute [local go_sem] alloc_drewN setCell_drewN run_store_float
theorem cells_pos:∀(vs:List Vl),(∀j,j<vs.length→0≤(vs.getD j Vl.zero).len)→0≤cellsV vs
 |[],_=>by simp[cellsV]
 |v::r,h=>by
  have h0:=h 0 (by simp)
  have h1:=cells_pos r (fun j hj=>h (j+1) (by simp;omega))
  have e:(v::r).getD 0 Vl.zero=v:=rfl
  rw[e] at h0
  simp only[cellsV]
  omega
def limB (vs:List Vl):Bool:=decide (2000<vs.length∨50000<cellsV vs)
theorem lengthJ (w:World)(P:Nat)(u1 u3:Value)(vs:List Vl)(c:Int)(base:Nat)(R:Option Nat)(vv:Value)(i:Nat)(h:BS w P u1 u3 vs c base R vv)(hi:i<vs.length):
  Calls Tryz.prog 221 #[.pointer (some ⟨P,0,none⟩),.int .i64 (i:Int)] w fun e w'=>e=.returned (.int .i64 (vs.getD i Vl.zero).len)∧Drawn w w':=by
 obtain⟨g,cap,rfl,hg,hA⟩:=h.read (by omega)
 have z1:=h.c1
 have c1:=(hA i hi).c1
 generalize (vs.getD i Vl.zero).len=ln at c1 ⊢
 generalize vs.length=n at z1 hi
 clear h hA
 have j0:(0:Int)≤(i:Int):=by omega
 have j1:(i:Int)<(n:Int):=by omega
 go_enter Tryz.func221,Tryz.ntmps221
 go_wp2
 go_ret
 exact⟨rfl,Drawn.refl _⟩
end Go.Proofs.YtgamjhpebmmjcaaGreatDoor
namespace Go.Proofs.YtgamjhpebmmjcaaGreatDoor
set_option maxRecDepth 100000
set_option maxHeartbeats 40000000
open Go.RowKit Flt
attribute [local go_sem] alloc_drewN setCell_drewN run_store_float run_store_func
def actM (vs0:List Vl)(x:Nat):Nat→List Bool
 |0=>(List.replicate vs0.length false).set x true
 |m+1=>(actM vs0 x m).set (x+1+m) (reachB (actM vs0 x m) (vs0.getD (x+1+m) Vl.zero))
end Go.Proofs.YtgamjhpebmmjcaaGreatDoor
namespace Go.Proofs.YtgamjhpebmmjcaaGreatDoor
set_option maxRecDepth 100000
set_option maxHeartbeats 40000000
open Go.RowKit Flt
attribute [local go_sem] alloc_drewN setCell_drewN run_store_float run_store_func
theorem BS.chg {W W':World}{Q:Nat→Prop}{P:Nat}{u1 u3:Value}{us:List Vl}{c:Int}{base:Nat}{R:Option Nat}{vv:Value}(h:BS W P u1 u3 us c base R vv)(k:Chg Q W W')(hP:¬Q P)(hR:∀b,R=some b→¬Q b):BS W' P u1 u3 us c base R vv:=by
 have e:∀q,W'.cell? ⟨P,q,none⟩=W.cell? ⟨P,q,none⟩:=fun q=>k.cell (p:=⟨P,q,none⟩) h.lt hP
 exact⟨Nat.lt_of_lt_of_le h.lt k.size,fun q=>by rw[k.frozen (p:=⟨P,q,none⟩) h.lt hP];exact h.free q,by rw[e];exact h.c0,by rw[e];exact h.c1,by rw[e];exact h.c2,by rw[e];exact h.c3,own_keepC h.own k (fun g hg=>hR g (by rw[←h.row];exact hg)),h.row,h.ne,Nat.le_trans h.sz k.size⟩
end Go.Proofs.YtgamjhpebmmjcaaGreatDoor
namespace Go.Proofs.YtgamjhpebmmjcaaGreatDoor
set_option maxRecDepth 100000
set_option maxHeartbeats 40000000
open Go.RowKit Flt
def gfold (vs0:List Vl)(act:List Bool)(x:Nat)(st:List Vl×List Int)(js:List Nat):List Vl×List Int:=js.foldl (fun st j=>giM vs0 act (x+1+j) st) st
def downs (m:Nat):List Nat:=(List.range m).map (fun i=>m-1-i)
def gst0 (vs0:List Vl)(s:Nat):List Vl×List Int:=(vs0++[⟨1,1,0,0,0,4607182418800017408⟩],(List.replicate vs0.length (-1)).set s (vs0.length:Nat))
def gfin (vs0:List Vl)(x:Nat)(st:List Vl×List Int):List Vl×Int:=
 if st.2.getD x 0=-1 then (st.1++[vput 1 (vs0.getD x Vl.zero).len 0 0 0],(st.1.length:Nat)) else (st.1,st.2.getD x 0)
def grM (vs0:List Vl)(s x:Nat):List Vl×Int:=
 if (actM vs0 x (s-x)).getD s false=true then gfin vs0 x (gfold vs0 (actM vs0 x (s-x)) x (gst0 vs0 s) (downs (s-x)))
 else (vs0++[vput 1 (vs0.getD x Vl.zero).len 0 0 0],(vs0.length:Nat))
theorem own_cells {W:World}{base e size n:Nat}{v:Value}{xs:List Value}(h:W.ownsRow base e size v n xs){g:Nat}(hg:v.ownBlock=some g){o:Obj}(ho:W.heap[g]? =some o):o.isCells=true:=by
 rcases h.2 with⟨rfl,_⟩|⟨g',cap,cur,rfl,_,hc,_⟩
 ·simp[Value.ownBlock] at hg
 ·simp[Value.ownBlock] at hg
  subst hg
  rw[hc] at ho
  cases ho
  rfl
theorem cell_cells {W:World}{b o:Nat}{v:Value}(h:W.cell? ⟨b,o,none⟩=some v){ob:Obj}(ho:W.heap[b]? =some ob):ob.isCells=true:=by
 cases ob<;>first|rfl|(exfalso;simp[World.cell?,ho] at h)
end Go.Proofs.YtgamjhpebmmjcaaGreatDoor
namespace Go.Proofs.YtgamjhpebmmjcaaGreatDoor
set_option maxRecDepth 100000
set_option maxHeartbeats 40000000
open Go.RowKit Flt
inductive Bdg where
 |val (nm:List UInt8) (v:Nat)
 |fn (nm:List UInt8) (ps:List Tok) (e:Ex)
def Bdg.nm:Bdg→List UInt8
 |.val n _=>n
 |.fn n _ _=>n
structure LSt where
 ins:List Int
 vs:List Vl
 outs:List Int
 names:List Bdg
 calls:Nat
abbrev Flt3:=Int×Nat
abbrev Rs (α:Type):=Except Flt3 α
def putM (st:LSt)(v:Vl)(p:Nat):Rs (LSt×Nat):=if limB (st.vs++[v])=true then .error (5,p) else .ok ({st with vs:=st.vs++[v]},st.vs.length)
def lenA (st:LSt)(i:Nat):Int:=(st.vs.getD i Vl.zero).len
def findB (ns:List Bdg)(s:List UInt8):Option Bdg:=ns.find? fun b=>b.nm==s
def locM (loc:List (List UInt8×Nat))(s:List UInt8):Option Nat:=(loc.find? fun b=>b.1==s).map (·.2)
def valueM (st:LSt)(loc:List (List UInt8×Nat))(t:Tok):Rs Nat:=
 match locM loc t.text with
 |some v=>.ok v
 |none=>match findB st.names t.text with
  |some (.val _ v)=>.ok v
  |_=>.error (3,t.pos)
def maxL (st:LSt)(xs:List Nat):Int:=xs.foldl (fun n i=>if n<lenA st i then lenA st i else n) 1
def fillM (n:Int)(p:Nat):LSt→List Nat→Rs (LSt×List Nat)
 |st,[]=>.ok (st,[])
 |st,i::r=>if lenA st i<n then
   match putM st (vput 10 n (i:Int) 0 0) p with
   |.error f=>.error f
   |.ok (st1,j)=>match fillM n p st1 r with
    |.error f=>.error f
    |.ok (st2,js)=>.ok (st2,j::js)
  else match fillM n p st r with
   |.error f=>.error f
   |.ok (st2,js)=>.ok (st2,i::js)
def fitM (st:LSt)(xs:List Nat)(p:Nat):Rs (LSt×List Nat):=if xs.all (fun i=>lenA st i==maxL st xs||lenA st i==1)=true then fillM (maxL st xs) p st xs else .error (4,p)
def intM (t:List UInt8):Int:=t.foldl (fun v b=>v*10+((b.toNat:Int)-48)) 0
def numK (t:List UInt8):Nat:=cop .quo (floatOfInt .f64 (nds (numsOf t)).1) (floatOfInt .f64 (nds (numsOf t)).2.1)
def opOf (s:List UInt8):Int:=if s=[43] then 2 else if s=[45] then 3 else if s=[42] then 4 else 5
def becomeM (st:LSt)(m:List Vl×Int)(p:Nat):Rs (LSt×Nat):=if limB m.1=true then .error (5,p) else .ok ({st with vs:=m.1},m.2.toNat)
def placeN (st:LSt)(k:Tok)(a:Nat)(n:Tok):Rs (LSt×Nat):=
 if k.sym=kPick then
  if lenA st a≤intM n.text then .error (4,n.pos) else putM st (vput 11 1 (a:Int) 0 (intM n.text)) k.pos
 else if lenA st a≠1 then .error (4,k.pos)
 else if intM n.text<1∨1000<intM n.text then .error (4,n.pos) else putM st (vput 10 (intM n.text) (a:Int) 0 0) k.pos
def placeP (st:LSt)(k:Tok)(a:Nat)(i n:Tok):Rs (LSt×Nat):=
 if lenA st a≠1 then .error (4,k.pos)
 else if intM n.text<1∨1000<intM n.text then .error (4,n.pos)
 else if intM n.text≤intM i.text then .error (4,i.pos) else putM st (vput 12 (intM n.text) (a:Int) 0 (intM i.text)) k.pos
def binM (st:LSt)(o:Tok)(a b:Nat):Rs (LSt×Nat):=
 match fitM st [a,b] o.pos with
 |.error f=>.error f
 |.ok (s2,f)=>putM s2 (vput (opOf o.sym) (lenA s2 (f.getD 0 0)) (f.getD 0 0:Nat) (f.getD 1 0:Nat) 0) o.pos
def two2M (st:LSt)(k:Tok)(a b:Nat):Rs (LSt×Nat):=
 match fitM st [a,b] k.pos with
 |.error f=>.error f
 |.ok (s2,f)=>
  if k.sym=kMax then putM s2 (vput 7 (lenA s2 (f.getD 0 0)) (f.getD 0 0:Nat) (f.getD 1 0:Nat) 0) k.pos
  else match putM s2 (vput 4 (lenA s2 (f.getD 0 0)) (f.getD 0 0:Nat) (f.getD 1 0:Nat) 0) k.pos with
   |.error f=>.error f
   |.ok (s3,p)=>putM s3 (vput 9 1 (p:Int) 0 0) k.pos
def selM (st:LSt)(k:Tok)(a b c:Nat):Rs (LSt×Nat):=
 match fitM st [a,b,c] k.pos with
 |.error f=>.error f
 |.ok (s2,f)=>putM s2 (vput 8 (lenA s2 (f.getD 0 0)) (f.getD 0 0:Nat) (f.getD 1 0:Nat) (f.getD 2 0:Nat)) k.pos
def gradM (st:LSt)(k:Tok)(a x:Nat):Rs (LSt×Nat):=if lenA st a≠1 then .error (4,k.pos) else becomeM st (grM st.vs a x) k.pos
def jvpM (st:LSt)(k:Tok)(a x d:Nat):Rs (LSt×Nat):=
 if lenA st d=1∧1<lenA st x then
  match putM st (vput 10 (lenA st x) (d:Int) 0 0) k.pos with
  |.error f=>.error f
  |.ok (s2,d2)=>becomeM s2 (jfin s2.vs a x d2) k.pos
 else if lenA st d≠lenA st x then .error (4,k.pos) else becomeM st (jfin st.vs a x d) k.pos
abbrev Loc:=List (List UInt8×Nat)
def thenE (r:Option (Rs (LSt×Nat)))(f:LSt→Nat→Option (Rs (LSt×Nat))):Option (Rs (LSt×Nat)):=
 match r with
 |none=>none
 |some (.error e)=>some (.error e)
 |some (.ok (st,a))=>f st a
def argsM (ev:LSt→Ex→Option (Rs (LSt×Nat))):LSt→List Ex→Option (Rs (LSt×List Nat))
 |st,[]=>some (.ok (st,[]))
 |st,e::r=>match ev st e with
  |none=>none
  |some (.error f)=>some (.error f)
  |some (.ok (s1,a))=>match argsM ev s1 r with
   |none=>none
   |some (.error f)=>some (.error f)
   |some (.ok (s2,xs))=>some (.ok (s2,a::xs))
def evalE:Nat→LSt→Loc→Ex→Option (Rs (LSt×Nat))
 |0,_,_,_=>none
 |_+1,st,_,.num t=>some (putM st ⟨1,1,0,0,0,numK t.text⟩ t.pos)
 |_+1,st,loc,.name t=>some (match valueM st loc t with|.error f=>.error f|.ok v=>.ok (st,v))
 |f+1,st,loc,.neg o e=>thenE (evalE f st loc e) fun s a=>some (putM s (vput 6 (lenA s a) (a:Int) 0 0) o.pos)
 |f+1,st,loc,.bin o a b=>thenE (evalE f st loc a) fun s1 x=>thenE (evalE f s1 loc b) fun s2 y=>some (binM s2 o x y)
 |f+1,st,loc,.call t es=>
  match findB st.names t.text with
  |some (.fn _ ps body)=>
   if ps.length=es.length then
    match argsM (fun s e=>evalE f s loc e) st es with
    |none=>none
    |some (.error e)=>some (.error e)
    |some (.ok (s1,xs))=>if 500≤s1.calls then some (.error (5,t.pos)) else evalE f {s1 with calls:=s1.calls+1} ((ps.map (·.text)).zip xs) body
   else some (.error (3,t.pos))
  |_=>some (.error (3,t.pos))
 |f+1,st,loc,.key1 k e=>thenE (evalE f st loc e) fun s a=>some (if k.sym=kExp then putM s (vput 13 (lenA s a) (a:Int) 0 0) k.pos else putM s (vput 9 1 (a:Int) 0 0) k.pos)
 |f+1,st,loc,.key2 k a b=>thenE (evalE f st loc a) fun s1 x=>thenE (evalE f s1 loc b) fun s2 y=>some (two2M s2 k x y)
 |f+1,st,loc,.key3 k a b c=>thenE (evalE f st loc a) fun s1 x=>thenE (evalE f s1 loc b) fun s2 y=>thenE (evalE f s2 loc c) fun s3 z=>some (selM s3 k x y z)
 |f+1,st,loc,.keyN k e n=>thenE (evalE f st loc e) fun s a=>some (placeN s k a n)
 |f+1,st,loc,.put k e i n=>thenE (evalE f st loc e) fun s a=>some (placeP s k a i n)
 |f+1,st,loc,.grad k e x=>match valueM st loc x with
  |.error q=>some (.error q)
  |.ok v=>thenE (evalE f st loc e) fun s a=>some (gradM s k a v)
 |f+1,st,loc,.jvp k e x d=>match valueM st loc x with
  |.error q=>some (.error q)
  |.ok v=>thenE (evalE f st loc e) fun s1 a=>thenE (evalE f s1 loc d) fun s2 y=>some (jvpM s2 k a v y)
end Go.Proofs.YtgamjhpebmmjcaaGreatDoor
namespace Go.Proofs.YtgamjhpebmmjcaaGreatDoor
set_option maxRecDepth 100000
set_option maxHeartbeats 40000000
open Go.RowKit Flt
attribute [local go_sem] alloc_drewN setCell_drewN run_store_float
structure Dgs (l:List UInt8):Prop where
 len:l.length≤15
 d:∀k,k<l.length→48≤bt l k∧bt l k≤57
def NumOK (x:List UInt8):Prop:=Good (numsOf x)∧(numsOf x).countP dig≤15
end Go.Proofs.YtgamjhpebmmjcaaGreatDoor
namespace Go.Proofs.YtgamjhpebmmjcaaGreatDoor
set_option maxRecDepth 100000
set_option maxHeartbeats 40000000
open Go.RowKit Flt
attribute [local go_sem] alloc_drewN setCell_drewN run_store_float
theorem byteK (l:List UInt8)(k:Nat)(h:k<(⟨l.toArray⟩:ByteArray).size):(((⟨l.toArray⟩:ByteArray)[k]'h).toNat:Int)=bt l k:=by
 have hk:k<l.length:=by rw[←str_size];exact h
 unfold bt
 rw[List.getD_eq_getElem?_getD,List.getElem?_eq_getElem hk]
 rfl
end Go.Proofs.YtgamjhpebmmjcaaGreatDoor
namespace Go.Proofs.YtgamjhpebmmjcaaGreatDoor
set_option maxRecDepth 100000
set_option maxHeartbeats 40000000
open Go.RowKit Flt
attribute [local go_sem] alloc_drewN setCell_drewN run_store_float
theorem idxOne (s:List UInt8)(w:World):Calls Tryz.prog 49 #[strL s,strL [46]] w fun e w'=>e=.returned (.int .i64 (Lib.indexByte s 46))∧w'=w:=by
 by_cases h:s=[46]
 ·rw[show Lib.indexByte s 46=0 by rw[h];rfl]
  subst h
  go_enter Tryz.func49,Tryz.ntmps49
  go_wp2
  go_ret
  exact⟨rfl,rfl⟩
 ·have h1:([46]==s)=false:=beq_false_of_ne (fun e=>h e.symm)
  have h2:(s==[46])=false:=beq_false_of_ne h
  have HL:Hid (Calls Tryz.prog 81 #[strL s,.int .u8 46] w fun e w'=>e=.returned (.int .i64 (Lib.indexByte s 46))∧w'=w):=idxLite ⟨s.toArray⟩ 46 w
  clear h
  generalize Lib.indexByte s 46=q at HL ⊢
  go_enter Tryz.func49,Tryz.ntmps49
  go_wp2_with (go_at_call 81;refine Calls.mono HL.out ?_;rintro e w2 ⟨rfl,hw⟩;obtain rfl:=hw.symm)
  go_ret
  exact⟨rfl,rfl⟩
theorem hasPoint (s:List UInt8)(w:World):Calls Tryz.prog 91 #[strL s,strL [46]] w fun e w'=>e=.returned (.bool (decide ((46:UInt8)∈s)))∧w'=w:=by
 rw[←idx_mem]
 have HI:Hid _:=idxOne s w
 generalize Lib.indexByte s 46=q at HI ⊢
 have HS:Hid (Calls Tryz.prog 29 #[strL s,strL [46]] w fun e w'=>e=.returned (.int .i64 q)∧w'=w):=by
  go_enter Tryz.func29,Tryz.ntmps29
  go_wp2_with (go_at_call 49;refine Calls.mono HI.out ?_;rintro e w2 ⟨rfl,hw⟩;obtain rfl:=hw.symm)
  go_ret
  exact⟨rfl,rfl⟩
 clear HI
 go_enter Tryz.func91,Tryz.ntmps91
 go_wp2_with (go_at_call 29;refine Calls.mono HS.out ?_;rintro e w2 ⟨rfl,hw⟩;obtain rfl:=hw.symm)
 go_ret
 exact⟨rfl,rfl⟩
def kindM (s:List UInt8):Int:=if mrkB (bt s 0)=true then 6 else if keyB s=true then 3 else if letB (bt s 0)=true then 2 else if (46:UInt8)∈s then 5 else 4
theorem kindS (s:List UInt8)(h0:0<s.length)(w:World):Calls Tryz.prog 56 #[strL s] w fun e w'=>e=.returned (.int .i64 (kindM s))∧w'=w:=by
 have hs:(⟨s.toArray⟩:ByteArray).size=s.length:=str_size s
 have hy:=byteK s 0
 have HM:Hid _:=isMrkS (bt s 0) w
 have HK:Hid _:=isKeyS s w
 have HL:Hid _:=isLetS (bt s 0) w
 have HP:Hid _:=hasPoint s w
 have HKM:Hid (kindM s=if mrkB (bt s 0)=true then 6 else if keyB s=true then 3 else if letB (bt s 0)=true then 2 else if decide ((46:UInt8)∈s)=true then 5 else 4):=by
  show _=_
  unfold kindM
  simp only[decide_eq_true_eq]
 generalize kindM s=kk at HKM ⊢
 generalize keyB s=bk at HK HKM
 generalize decide ((46:UInt8)∈s)=bp at HP HKM
 generalize mrkB (bt s 0)=bm at HM HKM
 generalize letB (bt s 0)=bl at HL HKM
 generalize bt s 0=x at hy HM HL
 have h0':(0:Int)<(s.length:Int):=by omega
 cases bm
 ·cases bk
  ·cases bl
   ·cases bp
    ·have R:Hid (kk=4):=HKM.out
     clear HKM
     go_enter Tryz.func56,Tryz.ntmps56
     go_wp2_with (first
      |(go_at_call 55;refine Calls.mono HM.out ?_;rintro e w2 ⟨rfl,hw⟩;obtain rfl:=hw.symm)
      |(go_at_call 90;refine Calls.mono HK.out ?_;rintro e w2 ⟨rfl,hw⟩;obtain rfl:=hw.symm)
      |(go_at_call 53;refine Calls.mono HL.out ?_;rintro e w2 ⟨rfl,hw⟩;obtain rfl:=hw.symm)
      |(go_at_call 91;refine Calls.mono HP.out ?_;rintro e w2 ⟨rfl,hw⟩;obtain rfl:=hw.symm))
     go_ret
     rw[R.out]
     exact⟨rfl,rfl⟩
    ·have R:Hid (kk=5):=HKM.out
     clear HKM
     go_enter Tryz.func56,Tryz.ntmps56
     go_wp2_with (first
      |(go_at_call 55;refine Calls.mono HM.out ?_;rintro e w2 ⟨rfl,hw⟩;obtain rfl:=hw.symm)
      |(go_at_call 90;refine Calls.mono HK.out ?_;rintro e w2 ⟨rfl,hw⟩;obtain rfl:=hw.symm)
      |(go_at_call 53;refine Calls.mono HL.out ?_;rintro e w2 ⟨rfl,hw⟩;obtain rfl:=hw.symm)
      |(go_at_call 91;refine Calls.mono HP.out ?_;rintro e w2 ⟨rfl,hw⟩;obtain rfl:=hw.symm))
     go_ret
     rw[R.out]
     exact⟨rfl,rfl⟩
   ·have R:Hid (kk=2):=HKM.out
    clear HKM
    go_enter Tryz.func56,Tryz.ntmps56
    go_wp2_with (first
     |(go_at_call 55;refine Calls.mono HM.out ?_;rintro e w2 ⟨rfl,hw⟩;obtain rfl:=hw.symm)
     |(go_at_call 90;refine Calls.mono HK.out ?_;rintro e w2 ⟨rfl,hw⟩;obtain rfl:=hw.symm)
     |(go_at_call 53;refine Calls.mono HL.out ?_;rintro e w2 ⟨rfl,hw⟩;obtain rfl:=hw.symm))
    go_ret
    rw[R.out]
    exact⟨rfl,rfl⟩
  ·have R:Hid (kk=3):=HKM.out
   clear HKM
   go_enter Tryz.func56,Tryz.ntmps56
   go_wp2_with (first
    |(go_at_call 55;refine Calls.mono HM.out ?_;rintro e w2 ⟨rfl,hw⟩;obtain rfl:=hw.symm)
    |(go_at_call 90;refine Calls.mono HK.out ?_;rintro e w2 ⟨rfl,hw⟩;obtain rfl:=hw.symm))
   go_ret
   rw[R.out]
   exact⟨rfl,rfl⟩
 ·have R:Hid (kk=6):=HKM.out
  clear HKM
  go_enter Tryz.func56,Tryz.ntmps56
  go_wp2_with (go_at_call 55;refine Calls.mono HM.out ?_;rintro e w2 ⟨rfl,hw⟩;obtain rfl:=hw.symm)
  go_ret
  rw[R.out]
  exact⟨rfl,rfl⟩
end Go.Proofs.YtgamjhpebmmjcaaGreatDoor
namespace Go.Proofs.YtgamjhpebmmjcaaGreatDoor
set_option maxRecDepth 100000
set_option maxHeartbeats 40000000
open Go.RowKit Flt
attribute [local go_sem] alloc_drewN setCell_drewN run_store_float
structure PTk where
 kind:Int
 text:List UInt8
 at_:Nat
def wdE (t:List UInt8)(i:Nat):Nat:=if dig (bt t i)=true then numE t i else if letB (bt t i)=true then runE wrdB t i else i+1
theorem wdE_gt {t:List UInt8}{i:Nat}(h:i<t.length):i<wdE t i:=by
 unfold wdE
 split
 ·rename_i c;exact numE_gt h c
 ·split
  ·rename_i c;exact runE_gt h (by unfold wrdB;rw[c];rfl)
  ·omega
theorem wdE_le {t:List UInt8}{i:Nat}(h:i<t.length):wdE t i≤t.length:=by
 unfold wdE
 split
 ·exact numE_le h
 ·split
  ·exact runE_le _ _ _ (by omega)
  ·omega
def begB (x:Int):Bool:=dig x||letB x||mrkB x
def scM (t:List UInt8)(i:Nat):List PTk:=
 if h:i<t.length then
  if blkB (bt t i)=true then scM t (i+1)
  else if _h2:bt t i=35 then scM t (runE nnlB t i)
  else if begB (bt t i)=true then⟨kindM (cutT t i (wdE t i)),cutT t i (wdE t i),i⟩::scM t (wdE t i)
  else[⟨1,[],i⟩]
 else[⟨0,[],i⟩]
termination_by t.length-i
decreasing_by
 ·omega
 ·have:=runE_gt (p:=nnlB) h (by rw[_h2];decide);omega
 ·have:=wdE_gt h;omega
theorem scM_end {t:List UInt8}{i:Nat}(h:¬i<t.length):scM t i=[⟨0,[],i⟩]:=by rw[scM,dif_neg h]
theorem scM_blank {t:List UInt8}{i:Nat}(h:i<t.length)(h1:blkB (bt t i)=true):scM t i=scM t (i+1):=by rw[scM,dif_pos h,if_pos h1]
theorem scM_hash {t:List UInt8}{i:Nat}(h:i<t.length)(h1:blkB (bt t i)=false)(h2:bt t i=35):scM t i=scM t (runE nnlB t i):=by
 rw[scM,dif_pos h,if_neg (by rw[h1];decide),dif_pos h2]
theorem scM_word {t:List UInt8}{i:Nat}(h:i<t.length)(h1:blkB (bt t i)=false)(h2:bt t i≠35)(h3:begB (bt t i)=true):scM t i=⟨kindM (cutT t i (wdE t i)),cutT t i (wdE t i),i⟩::scM t (wdE t i):=by
 rw[scM,dif_pos h,if_neg (by rw[h1];decide),dif_neg h2,if_pos h3]
theorem scM_stray {t:List UInt8}{i:Nat}(h:i<t.length)(h1:blkB (bt t i)=false)(h2:bt t i≠35)(h3:begB (bt t i)=false):scM t i=[⟨1,[],i⟩]:=by
 rw[scM,dif_pos h,if_neg (by rw[h1];decide),dif_neg h2,if_neg (by rw[h3];decide)]
def ptc (k:PTk):List Value:=[.int .i64 k.kind,strL k.text,.int .i64 (k.at_:Int)]
def ptF:List PTk→List Value
 |[]=>[]
 |k::r=>ptc k++ptF r
theorem ptF_app (a b:List PTk):ptF (a++b)=ptF a++ptF b:=by
 induction a with
 |nil=>rfl
 |cons x r ih=>simp[ptF,ih]
theorem ptF_one (k:PTk):ptF [k]=ptc k:=by simp[ptF]
def PkR (W:World)(B:Nat)(v:Value)(ts:List PTk):Prop:=W.ownsRow B 106 3 v ts.length (ptF ts)
theorem PkR.keep {W W':World}{B:Nat}{v:Value}{ts:List PTk}(f:PkR W B v ts)(k:Kept 0 0 W W'):PkR W' B v ts:=own_keepJ f k
theorem PkR.nil (W:World)(B:Nat):PkR W B (.slice none 0 0) []:=World.ownsRow_nil _ _ _ _
theorem infoPt:(Tryz.prog.info? 106).map (fun i=>(i.zero,i.size,i.bytes))=some (some (.agg #[.int .i64 0,.string ⟨#[]⟩,.int .i64 0]),3,32):=by kernel_rfl
theorem infoPt_parts:∃i0,Tryz.prog.info? 106=some i0∧i0.zero=some (.agg #[.int .i64 0,.string ⟨#[]⟩,.int .i64 0])∧i0.size=3∧i0.bytes=32:=by
 have h:=infoPt
 cases e:Tryz.prog.info? 106 with
 |none=>rw[e] at h;cases h
 |some i0=>
  rw[e] at h
  simp only[Option.map_some,Option.some.injEq,Prod.mk.injEq] at h
  exact⟨i0,rfl,h.1,h.2.1,h.2.2⟩
theorem pt_news (w:World)(k:PTk)(T:TypeId):∀j u,(ptc k)[j]? =some u→(w.alloc (.cells #[.int .i64 k.kind,strL k.text,.int .i64 (k.at_:Int)] T)).cell? ((⟨w.heap.size,0,none⟩:Addr).add j)=some u:=by
 intro j u h
 rw[add_addr,Nat.zero_add,World.cell?_alloc_new]
 match j,h with
 |0,h=>exact h
 |1,h=>exact h
 |2,h=>exact h
theorem wpList_appendP (w:World){ops:Array Oper}{rest:List Oper}{o:Oper}{a:Act}{Q:Exit→Act→World→Prop}(hgd:o.guard=none)(s x:Operand)
  (ho:o.op=.call {callee:=.builtin .append,args:=#[s,x],argTypes:=#[72,72]})
  (B:Nat) (v:Value) (ts:List PTk) (hs:a.eval s=v) (hown:PkR w B v ts)
  (ad:Addr) (k:PTk) (hx:a.eval x=.slice (some ad) 1 1) (hnews:∀j u,(ptc k)[j]? =some u→w.cell? (ad.add j)=some u)
  (h63:ts.length+1≤1000000) (hbase:B≤w.heap.size)
  (h:∀g cap n w',n=(ts++[k]).length→PkR w' B (.slice (some ⟨g,0,none⟩) n cap) (ts++[k])→Chg (fun b=>v.ownBlock=some b) w w'→(v.ownBlock=some g∨g=w.heap.size)→wpList Tryz.prog ops Q rest (a.put o.dst (.slice (some ⟨g,0,none⟩) n cap)) w'):wpList Tryz.prog ops Q (o::rest) a w:=by
 obtain⟨i0,hi,hz0,hz1,hz2⟩:=infoPt_parts
 refine wpList_append_lies w hgd s x 72 ho B 106 i0 (.agg #[.int .i64 0,.string ⟨#[]⟩,.int .i64 0]) 3 32 Tryz.underlying72 hi hz0 hz1 hz2 rfl (by decide) v ts.length _ hs hown ad 1 1 (ptc k) hx rfl hnews ?_ (by decide) (by unfold maxLen;omega) (by omega) hbase _ rfl ?_
 ·intro u hu
  simp[ptc] at hu
  rcases hu with rfl|rfl|rfl<;>rfl
 ·intro g cap w' h1 h2 h3 _
  have e:ts.length+1=(ts++[k]).length:=by rw[List.length_append];rfl
  rw[e] at h1 ⊢
  refine h g cap _ w' rfl ?_ (chg_grow h2) h3
  unfold PkR
  rw[ptF_app,ptF_one]
  exact h1
theorem pr_kept {w W W':World}{v:Value}{ts:List PTk}{B:Nat}(hB:w.heap.size≤B)(k:Kept 0 0 w W)(f:PkR W B v ts)(c:Chg (fun b=>v.ownBlock=some b) W W'):Kept 0 0 w W':=
 Chg.kept k c (fun _ hi=>Nat.le_trans hB (own_blkV f hi).1)
end Go.Proofs.YtgamjhpebmmjcaaGreatDoor
namespace Go.Proofs.YtgamjhpebmmjcaaGreatDoor
set_option maxRecDepth 100000
set_option maxHeartbeats 40000000
open Go.RowKit Flt
def cvT (k:Tok):PTk:=if k.sym=[] then⟨1,[],k.pos⟩ else⟨kindM k.text,k.text,k.pos⟩
def clT (t:List UInt8)(l:List Tok):List PTk:=if (l.getLast?.map (·.sym))=some [] then[] else[⟨0,[],t.length⟩]
theorem clT_cons {t:List UInt8}{k:Tok}{l:List Tok}(h:k.sym≠[]):clT t (k::l)=clT t l:=by
 cases l with
 |nil=>unfold clT;simp[h]
 |cons x r=>unfold clT;rw[List.getLast?_cons_cons]
end Go.Proofs.YtgamjhpebmmjcaaGreatDoor
namespace Go.Proofs.YtgamjhpebmmjcaaGreatDoor
set_option maxRecDepth 100000
set_option maxHeartbeats 40000000
open Go.RowKit Flt
attribute [local go_sem] alloc_drewN setCell_drewN run_store_float
structure Gd (st:LSt):Prop where
 n:st.vs.length≤2000
 c:cellsV st.vs≤50000
 ok:(List.range st.vs.length).all (okV st.ins st.vs)=true
 k:∀v∈st.vs,v.k<18446744073709551616
 i:st.ins.length≤20
 o:st.outs.length≤50
 m:st.names.length≤5000
theorem Gd.len {st:LSt}(h:Gd st):∀k,k<st.vs.length→1≤(st.vs.getD k Vl.zero).len∧(st.vs.getD k Vl.zero).len≤1000:=fun k hk=>by
 have h1:=List.all_eq_true.1 h.ok k (List.mem_range.2 hk)
 exact of_decide_eq_true (okV_lenB h1)
theorem k_snoc {vs:List Vl}{v:Vl}(h:∀u∈vs,u.k<18446744073709551616)(hv:v.k<18446744073709551616):∀u∈vs++[v],u.k<18446744073709551616:=fun u hu=>by
 rcases List.mem_append.1 hu with c|c
 ·exact h u c
 ·simp only[List.mem_singleton] at c;subst c;exact hv
end Go.Proofs.YtgamjhpebmmjcaaGreatDoor
namespace Go.Proofs.YtgamjhpebmmjcaaGreatDoor
set_option maxRecDepth 100000
set_option maxHeartbeats 40000000
open Go.RowKit Flt
theorem lim_no {vs:List Vl}(h:limB vs=false):vs.length≤2000∧cellsV vs≤50000:=by
 unfold limB at h
 have:=of_decide_eq_false h
 omega
theorem Gd.lenB {st:LSt}(g:Gd st){i:Nat}(h:i<st.vs.length):1≤lenA st i∧lenA st i≤1000:=g.len i h
theorem okV_put (ins:List Int)(vs:List Vl)(v:Vl)(h0:v.op≠0)(hl:1≤v.len∧v.len≤1000)(hs:spareB v=true)(ho:∀o∈opsOf v,0≤o∧o<(vs.length:Int))(hsh:shapeB v.op v.len v.c ((opsOf v).map fun o=>(vs.getD o.toNat Vl.zero).len)=true):okV ins (vs++[v]) vs.length=true:=by
 have hv:(vs++[v]).getD vs.length Vl.zero=v:=by
  rw[List.getD_eq_getElem?_getD,List.getElem?_append_right (Nat.le_refl _),Nat.sub_self];rfl
 have hm:((opsOf v).map fun o=>((vs++[v]).getD o.toNat Vl.zero).len)=((opsOf v).map fun o=>(vs.getD o.toNat Vl.zero).len):=by
  apply List.map_congr_left
  intro o hmem
  have:=ho o hmem
  rw[List.getD_eq_getElem?_getD,List.getElem?_append_left (by omega),←List.getD_eq_getElem?_getD]
 unfold okV
 rw[hv,if_neg h0,hm,hsh,hs]
 have h1:lenB v.len=true:=decide_eq_true hl
 rw[h1]
 have h2:(opsOf v).all (idxB · vs.length)=true:=by
  rw[List.all_eq_true]
  intro o hmem
  exact decide_eq_true (ho o hmem)
 simp[h2]
end Go.Proofs.YtgamjhpebmmjcaaGreatDoor
namespace Go.Proofs.YtgamjhpebmmjcaaGreatDoor
set_option maxRecDepth 100000
set_option maxHeartbeats 40000000
open Go.RowKit Flt
def Kpp (lo hi Bs:Nat)(A B:World):Prop:=Same lo hi A B∧Same Bs (Bs+1) A B
theorem Same.put {lo hi N:Nat}(W:World)(l:Nat)(o o':Obj)(hN:hi≤N)(hl:N≤l)(h:W.heap[l]? =some o):Same lo hi W (W.putObj l o'):=
 ⟨by have:=(Array.getElem?_eq_some_iff.1 h).1;omega,(grownBy_putObj' W l o').size,fun b h1 h2=>(grownBy_putObj' W l o').block b (by have:=(Array.getElem?_eq_some_iff.1 h).1;omega) (fun e=>by cases e;omega)⟩
end Go.Proofs.YtgamjhpebmmjcaaGreatDoor
namespace Go.Proofs.YtgamjhpebmmjcaaGreatDoor
set_option maxRecDepth 100000
set_option maxHeartbeats 40000000
open Go.RowKit Flt
def GVal (ins:List Int)(vs:List Vl):Prop:=(∀i,i<vs.length→okV ins vs i=true)∧∀v∈vs,v.k<18446744073709551616
def Ln (vs:List Vl)(j n:Int):Prop:=0≤j∧j<(vs.length:Int)∧(vs.getD j.toNat Vl.zero).len=n
theorem ln_new (vs:List Vl)(v:Vl){j n:Int}(hj:j=(vs.length:Int))(hv:v.len=n):Ln (vs++[v]) j n:=by
 subst hj
 refine⟨by omega,by rw[List.length_append,List.length_singleton];omega,?_⟩
 rw[Int.toNat_natCast,List.getD_eq_getElem?_getD,List.getElem?_append_right (Nat.le_refl _),Nat.sub_self]
 exact hv
theorem GVal.len {ins:List Int}{vs:List Vl}(g:GVal ins vs){j n:Int}(h:Ln vs j n):1≤n∧n≤1000:=by
 obtain⟨h1,h2,h3⟩:=h
 have:=okV_len (g.1 j.toNat (by omega))
 rw[h3] at this
 exact this
theorem GVal.push {ins:List Int}{vs:List Vl}(g:GVal ins vs)(v:Vl)(h0:v.op≠0)(hl:1≤v.len∧v.len≤1000)(hk:v.k<18446744073709551616)(hs:spareB v=true)(ho:∀o∈opsOf v,0≤o∧o<(vs.length:Int))(hsh:shapeB v.op v.len v.c ((opsOf v).map fun o=>(vs.getD o.toNat Vl.zero).len)=true):GVal ins (vs++[v]):=by
 refine⟨fun i hi=>?_,k_snoc g.2 hk⟩
 rw[List.length_append,List.length_singleton] at hi
 by_cases c:i<vs.length
 ·exact okV_app c (g.1 i c)
 ·obtain rfl:i=vs.length:=by omega
  exact okV_put ins vs v h0 hl hs ho hsh
theorem GVal.p1 {ins:List Int}{vs:List Vl}(g:GVal ins vs){n:Int}{k:Nat}(hn:1≤n∧n≤1000)(hk:k<18446744073709551616):GVal ins (vs++[⟨1,n,0,0,0,k⟩]):=
 g.push _ (by show(1:Int)≠0;decide) hn hk (by simp[spareB,cnt,placeB]) (by intro o h;simp[opsOf,cnt] at h) (by simp[opsOf,cnt,shapeB])
theorem GVal.one {ins:List Int}{vs:List Vl}(g:GVal ins vs){op n p:Int}(ho:op=6∨op=13)(hp:Ln vs p n):GVal ins (vs++[vput op n p 0 0]):=by
 have hn:=g.len hp
 obtain⟨p1,p2,p3⟩:=hp
 rw[List.getD_eq_getElem?_getD] at p3
 refine g.push _ (by show op≠0;omega) hn (by show(0:Nat)<_;decide) ?_ ?_ ?_
 ·rcases ho with rfl|rfl<;>simp[spareB,cnt,placeB]
 ·rcases ho with rfl|rfl<;>(intro o h;simp[opsOf,cnt] at h;subst h;exact⟨p1,p2⟩)
 ·rcases ho with rfl|rfl<;>simp[opsOf,cnt,shapeB,p3]
def Put (ins:List Int)(vs:List Vl)(n:Int)(M:List Vl×Int):Prop:=GVal ins (vs++M.1)∧Ln (vs++M.1) M.2 n
section
variable {ins:List Int} {vs:List Vl} {n r:Int}
theorem put1 {a:Vl}(g:GVal ins (vs++[a]))(h:a.len=n)(hr:r=(vs.length:Int)):Put ins vs n ([a],r):=⟨g,ln_new vs a hr h⟩
theorem put2 {a b:Vl}(g:GVal ins ((vs++[a])++[b]))(h:b.len=n)(hr:r=((vs.length+1:Nat):Int)):Put ins vs n ([a,b],r):=by
 have h2:=ln_new (vs++[a]) b (j:=r) (by rw[hr,List.length_append];rfl) h
 rw[List.append_assoc] at g h2
 exact⟨g,h2⟩
end
end Go.Proofs.YtgamjhpebmmjcaaGreatDoor
namespace Go.Proofs.YtgamjhpebmmjcaaGreatDoor
set_option maxRecDepth 100000
set_option maxHeartbeats 40000000
open Go.RowKit Flt
theorem Gd.v {st:LSt}(g:Gd st):GVal st.ins st.vs:=⟨fun i hi=>List.all_eq_true.1 g.ok i (List.mem_range.2 hi),g.k⟩
theorem Gd.with {st:LSt}(g:Gd st){vs:List Vl}(h:GVal st.ins vs)(hl:limB vs=false):Gd {st with vs:=vs}:=by
 obtain⟨h1,h2⟩:=lim_no hl
 exact⟨h1,h2,List.all_eq_true.2 (fun i hi=>h.1 i (List.mem_range.1 hi)),h.2,g.i,g.o,g.m⟩
structure Gw (st st':LSt):Prop where
 g:Gd st'
 n:st.vs.length≤st'.vs.length
 l:∀i,i<st.vs.length→lenA st' i=lenA st i
 i:st'.ins=st.ins
 o:st'.outs=st.outs
 m:st'.names=st.names
theorem Gw.trans {a b c:LSt}(h:Gw a b)(k:Gw b c):Gw a c:=
 ⟨k.g,Nat.le_trans h.n k.n,fun i hi=>(k.l i (Nat.lt_of_lt_of_le hi h.n)).trans (h.l i hi),k.i.trans h.i,k.o.trans h.o,k.m.trans h.m⟩
def RsG (st:LSt)(r:Rs (LSt×Nat)):Prop:=∀st' v,r=.ok (st',v)→Gw st st'∧v<st'.vs.length
theorem lenA_pre {st:LSt}{vs:List Vl}(p:Pre st.vs vs){i:Nat}(hi:i<st.vs.length):lenA {st with vs:=vs} i=lenA st i:=by
 unfold lenA
 simp only
 rw[(p.at_ hi).1]
theorem gw_pre {st:LSt}(g:Gd st){vs:List Vl}(h:GVal st.ins vs)(hl:limB vs=false)(p:Pre st.vs vs):Gw st {st with vs:=vs}:=
 ⟨g.with h hl,by obtain⟨r,rfl⟩:=p;simp,fun i hi=>lenA_pre p hi,rfl,rfl,rfl⟩
theorem put_ok {st:LSt}(g:Gd st){v:Vl}(h:GVal st.ins (st.vs++[v])){p:Nat}{st':LSt}{j:Nat}(e:putM st v p=.ok (st',j)):Gw st st'∧j<st'.vs.length∧lenA st' j=v.len:=by
 unfold putM at e
 cases hl:limB (st.vs++[v]) with
 |true=>rw[hl,if_pos rfl] at e;cases e
 |false=>
  rw[hl,if_neg (by simp)] at e
  cases e
  have hn:=ln_new st.vs v (j:=(st.vs.length:Int)) rfl (rfl:v.len=v.len)
  exact⟨gw_pre g h hl ⟨_,rfl⟩,by simp,by have:=hn.2.2;rw[Int.toNat_natCast] at this;exact this⟩
theorem rsg_put {st:LSt}(g:Gd st){v:Vl}(h:GVal st.ins (st.vs++[v]))(p:Nat):RsG st (putM st v p):=fun _ _ e=>⟨(put_ok g h e).1,(put_ok g h e).2.1⟩
theorem ln_of {st:LSt}{i:Nat}(h:i<st.vs.length):Ln st.vs (i:Int) (lenA st i):=⟨by omega,by omega,by rw[Int.toNat_natCast];rfl⟩
end Go.Proofs.YtgamjhpebmmjcaaGreatDoor
