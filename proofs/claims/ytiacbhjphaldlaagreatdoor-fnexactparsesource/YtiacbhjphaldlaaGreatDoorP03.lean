import Derived.Test.YtiacbhjphaldlaaGreatDoorP01
namespace Go.Proofs.Z
open Tryz Go.RowKit Flt
set_option maxRecDepth 1000000
set_option maxHeartbeats 0
variable{a v}
section
theorem De{x y w}:Calls prog 178 #[.float .f64 x,.float .f64 y] w λe D=>e=.returned (.float .f64 (fop .quo x y w))/\D=w.drewN (fnd .quo x y):=by
 have z:=@wO prog;have J:=Dd;go_enter func178,ntmps178;go_wp2;go_ret;exact⟨rfl,rfl⟩
def Oe(r:Nat):Nat->Nat
 |0=>4607182418800017408
 |n+1=>cop .add (cop .quo (cop .mul r (Oe r n)) (floatOfInt .f64 (14-(n:Int)))) 4607182418800017408
def csq(p:Nat):Nat->Nat
 |0=>p
 |n+1=>cop .mul (csq p n) (csq p n)
def PL(x:Nat):Nat:=
 if FloatKind.f64.format.order x x !=some .eq then x
 else if FloatKind.f64.format.order x 4652007308841189376==some .gt then 9218868437227405312
 else if FloatKind.f64.format.order x 13875379345695965184==some .lt then 0
 else csq (Oe (cop .quo x 4652218415073722368) 14) 10
end
section
attribute[local go_sem] dI dG dF
variable{w D:World}{g lo hi o l n h:Nat}{G:List Int}
def lenB(n:Int):Bool:=decide (1<=n/\n<=1000)
theorem By{n}(z:1<=n)(J:n<=1000):lenB n=true:=decide_eq_true ⟨z,J⟩
theorem rJ{n}(h:¬(1<=n/\n<=1000)):lenB n=false:=yaw h
theorem oR(n w):Calls prog 181 #[h0 n] w λe D=>e=.returned (.bool (lenB n))/\D=w:=by
 by_cases z:1<=n
 ·by_cases J:n<=1000
  ·rw[By z J];exact xfd
  rw[rJ (λc=>J c.2)];have t:=yaw J;exact xfd
 rw[rJ (λc=>z c.1)];have t:=yaw z;exact xfd
def cnt(op:Int):Nat:=if op=6\/op=9\/op=10\/op=11\/op=12\/op=13 then 1 else if op=2\/op=3\/op=4\/op=5\/op=7 then 2 else if op=8 then 3 else 0
theorem Df(ax:Int):ax=1\/ax=2\/ax=3\/ax=4\/ax=5\/ax=6\/ax=7\/ax=8\/ax=9\/ax=10\/ax=11\/ax=12\/ax=13\/(ax≠1/\ax≠2/\ax≠3/\ax≠4/\ax≠5/\ax≠6/\ax≠7/\ax≠8/\ax≠9/\ax≠10/\ax≠11/\ax≠12/\ax≠13):=xaa
theorem GP(ax w):Calls prog 207 #[h0 ax] w λe D=>e=.returned (h0 (cnt ax:Nat))/\D=w:=by
 obtain rfl|rfl|rfl|rfl|rfl|rfl|rfl|rfl|rfl|rfl|rfl|rfl|rfl|h:=Df ax
 ·exact xhm
 all_goals try
  (go_enter func207,ntmps207
   go_wp2
   go_ret
   exact⟨rfl,rfl⟩)
 obtain⟨z,J,al,bw,bL,bf,S,m,u,f,B,C,A⟩:=h;have e:cnt ax=0:=by grind[cnt]
 rw[e];have bu:=yam J;have co:=yam al;have bs:=yam bw;have aZ:=yam bL;have L:=yam bf;have H:=yam S;have X:=yam m;have i1:=yam u;have b:=yam f;have j:=yam B;have r:=yam C;have q:=yam A;clear e z J al bw bL bf S m u f B C A;exact xhm
structure IS(w:World)(lo hi:Nat)(a:Option Addr)(n:Nat)(xs:List Int):Prop where
 len:xs.length=n
 at_:n=0\/∃g off,a=some ⟨g,off,none⟩/\lo<=g/\g<hi/\g<w.heap.size/\∀k,k<n->w.cell? ⟨g,off+k,none⟩=some (.int .i64 (xs.getD k 0))
theorem IS.keep(f:IS w lo hi a n G)(k:Kept l h w D)(aT:hi<=l\/h<=lo\/h<=l):IS D lo hi a n G:=
 ⟨f.len,by
  obtain aC|⟨g,aO,e,z,J,al,bw⟩:=f.at_
  ·exact .inl aC
  ·exact .inr ⟨g,_,e,z,J,yaj al k.size,λj aK=>by rw[k.cell al (by grind)];grind⟩⟩
theorem IS.prefix(f:IS w lo hi a n G)(m)(aR:m<=n):IS w lo hi a m (G.take m):=
 ⟨by rw[List.length_take,f.len];omega,by
  obtain aC|⟨g,aO,e,a1,a2,a3,a4⟩:=f.at_<;>simp_all<;>grind⟩
def jL(i n:Int):Bool:=decide (0<=i/\i<n)
theorem qx(i n w):Calls prog 183 #[h0 i,h0 n] w λe D=>e=.returned (.bool (jL i n))/\D=w:=by
 by_cases z:0<=i
 ·by_cases J:i<n
  ·rw[show jL i n=true from decide_eq_true ⟨z,J⟩];exact xfe
  rw[show jL i n=false from yaw (λc=>J c.2)];have t:=yaw J;exact xfe
 rw[show jL i n=false from yaw (λc=>z c.1)];have t:=yaw z;exact xfe
abbrev Dg(op len A B C:Int)(K:Nat):Value:=.agg #[.int .i64 op,.int .i64 len,.int .i64 A,.int .i64 B,.int .i64 C,.float .f64 K]
abbrev ir(op len A B C:Int)(K:Nat):Obj:=.cells #[.int .i64 op,.int .i64 len,.int .i64 A,.int .i64 B,.int .i64 C,.float .f64 K] 74
def gO(op len C:Int)(xs:List Int):Bool:=
 if op=9 then len==1&&lenB (xs.getD 0 0)
 else if op=10 then xs.getD 0 0==1
 else if op=11 then (len==1&&lenB (xs.getD 0 0))&&jL C (xs.getD 0 0)
 else if op=12 then xs.getD 0 0==1&&jL C len
 else if 1<=op/\op<=13 then xs.all (· ==len)
 else false
theorem kN(ax):cnt ax<=3:=by
 grind[cnt]
theorem dZ{W}(h:Kept 0 0 w W)(aG:g<w.heap.size){v}(aj:w.cell? ⟨g,o,none⟩=some v):W.cell? ⟨g,o,none⟩=some v:=by
 rw[h.cell aG xaa];exact aj
structure Vl where
 op:Int
 len:Int
 a:Int
 b:Int
 c:Int
 k:Nat
def Vl.cells(v:Vl):List Value:=[.int .i64 v.op,.int .i64 v.len,.int .i64 v.a,.int .i64 v.b,.int .i64 v.c,.float .f64 v.k]
def h7:Vl:=⟨0,0,0,0,0,0⟩
abbrev Vl.agg(v:Vl):Value:=Dg v.op v.len v.a v.b v.c v.k
structure At(w:World)(g o:Nat)(v:Vl):Prop where
 c0:w.cell? ⟨g,o,none⟩=some (.int .i64 v.op)
 c1:w.cell? ⟨g,o+1,none⟩=some (.int .i64 v.len)
 c2:w.cell? ⟨g,o+2,none⟩=some (.int .i64 v.a)
 c3:w.cell? ⟨g,o+3,none⟩=some (.int .i64 v.b)
 c4:w.cell? ⟨g,o+4,none⟩=some (.int .i64 v.c)
 c5:w.cell? ⟨g,o+5,none⟩=some (.float .f64 v.k)
theorem wQ:(prog.info? 74).map (λi=>(i.zero,i.size,i.bytes))=some (some (Dg 0 0 0 0 0 0),6,48):=by kernel_rfl
structure VA(w:World)(g n:Nat)(vs:List Vl):Prop where
 len:vs.length=n
 lt:g<w.heap.size
 at_:∀k,k<n->At w g (k*6) (vs.getD k h7)
 free:∀o,w.frozen? ⟨g,o,none⟩=false
abbrev wR(w:World)(g o:Nat)(v:Vl):World:=
 (((((w.setCell ⟨g,o,none⟩ (.int .i64 v.op)).setCell ⟨g,o+1,none⟩ (.int .i64 v.len)).setCell ⟨g,o+2,none⟩ (.int .i64 v.a)).setCell ⟨g,o+3,none⟩ (.int .i64 v.b)).setCell ⟨g,o+4,none⟩ (.int .i64 v.c)).setCell ⟨g,o+5,none⟩ (.float .f64 v.k)
theorem dR{w:World}{g aY b}(h:g≠aY\/a≠b):(w.setCell ⟨g,a,none⟩ v).cell? ⟨aY,b,none⟩=w.cell? ⟨aY,b,none⟩:=
 h6 w ⟨g,a,none⟩ ⟨aY,b,none⟩ v (by grind)
theorem eR{w:World}{g u}(h:w.cell? ⟨g,a,none⟩=some u):(w.setCell ⟨g,a,none⟩ v).cell? ⟨g,a,none⟩=some v:=World.cell?_setCell_same w ⟨g,a,none⟩ v h
theorem Dh(w g o aY b v)(h:g≠aY\/b<o\/o+6<=b):(wR w g o v).cell? ⟨aY,b,none⟩=w.cell? ⟨aY,b,none⟩:=by
 unfold wR;rw[dR xaa,dR xaa,dR xaa,dR xaa,dR xaa,dR xaa]
theorem GQ(w g){o u}(v)(h:At w g o u):At (wR w g o v) g o v:=by
 unfold wR;refine⟨?_,?_,?_,?_,?_,?_⟩
 ·rw[dR xaa,dR xaa,dR xaa,dR xaa,dR xaa];exact eR h.c0
 ·rw[dR xaa,dR xaa,dR xaa,dR xaa];exact eR (by rw[dR xaa];exact h.c1)
 ·rw[dR xaa,dR xaa,dR xaa];exact eR (by rw[dR xaa,dR xaa];exact h.c2)
 ·rw[dR xaa,dR xaa];exact eR (by rw[dR xaa,dR xaa,dR xaa];exact h.c3)
 ·rw[dR xaa];exact eR (by rw[dR xaa,dR xaa,dR xaa,dR xaa];exact h.c4)
 exact eR (by rw[dR xaa,dR xaa,dR xaa,dR xaa,dR xaa];exact h.c5)
theorem tU(w g o v):Kept g (g+1) w (wR w g o v):=by
 unfold wR;have k:∀(w:World) (a:Nat) (u:Value),Kept g (g+1) w _:=λw a u=>d9 w ⟨g,a,none⟩ u yab;exact((((k _ _ _).trans (k _ _ _)).trans (k _ _ _)).trans (k _ _ _)).trans (k _ _ _) |>.trans (k _ _ _)
theorem At.keep(a:At w g o v)(aG:g<w.heap.size)(k:Kept l h w D)(aT:g<l\/h<=g\/h<=l):At D g o v:=by
 have e:∀b,_:=λb=>k.cell (p:=⟨g,b,none⟩) aG (by grind);exact⟨it e a.c0,it e a.c1,it e a.c2,it e a.c3,it e a.c4,it e a.c5⟩
theorem VA.keep{vs}(f:VA w g n vs)(k:Kept l h w D)(aT:g<l\/h<=g\/h<=l):VA D g n vs:=
 ⟨f.len,yaj f.lt k.size,λi hi=>(f.at_ i hi).keep f.lt k aT,λo=>by rw[k.frozen f.lt (by grind)];exact f.free o⟩
theorem VA.step{vs}(f:VA w g n vs)(k)(H:k<n)(v):VA (wR w g (k*6) v) g n (vs.set k v) where
 len:=by rw[List.length_set];exact f.len
 lt:=yaj f.lt (tU w g (k*6) v).size
 at_:=λi hi=>by
  rw[yah,List.getElem?_set]
  by_cases e:k=i
  ·subst e
   rw[h3 rfl,h3 (it f.len H)]
   exact GQ w g v (f.at_ k H)
  ·rw[h2 e,<-yah]
   have a:=f.at_ i hi
   have o:∀b,i*6<=b->b<i*6+6->_:=λb z J=>Dh w g (k*6) g b v (by right;omega)
   exact⟨by rw[o _ xaa xaa];exact a.c0,by rw[o _ xaa xaa];exact a.c1,by rw[o _ xaa xaa];exact a.c2,by rw[o _ xaa xaa];exact a.c3,by rw[o _ xaa xaa];exact a.c4,by rw[o _ xaa xaa];exact a.c5⟩
 free:=λo=>by simp[wR,f.free o]
structure VS(w:World)(lo hi:Nat)(a:Option Addr)(n:Nat)(vs:List Vl):Prop where
 len:vs.length=n
 lt:∀v∈vs,v.k<18446744073709551616
 at_:n=0\/∃g off,a=some ⟨g,off,none⟩/\lo<=g/\g<hi/\g<w.heap.size/\∀k,k<n->At w g (off+k*6) (vs.getD k h7)
theorem VS.keep{vs}(f:VS w lo hi a n vs)(k:Kept l h w D)(aT:hi<=l\/h<=lo\/h<=l):VS D lo hi a n vs:=
 ⟨f.len,f.lt,by
  obtain aC|⟨g,aO,e,z,J,al,bw⟩:=f.at_
  ·exact .inl aC
  ·exact .inr ⟨g,_,e,z,J,yaj al k.size,λj aK=>(bw j aK).keep al k xaa⟩⟩
theorem VA.vs{vs}(f:VA w g n vs)(ab:∀v∈vs,v.k<18446744073709551616):VS w 0 w.heap.size (some ⟨g,0,none⟩) n vs:=
 ⟨f.len,ab,.inr ⟨g,0,rfl,yad,f.lt,f.lt,λk H=>by rw[Nat.zero_add];exact f.at_ k H⟩⟩
def GU(x y z:Nat):Nat:=if FloatKind.f64.format.order x 0==some .gt then y else z
def Di(x y:Nat):Nat:=if FloatKind.f64.format.order x y==some .gt then x else y
def PM:List Nat->Nat
 |[]=>0
 |x::xs=>xs.foldl (cop .add) x
def PO(op len C:Int)(la lb lc:Nat):Bool:=lenB len&&gO op len C (([(la:Int),(lb:Int),(lc:Int)]).take (cnt op))
def elem(op C:Int)(K:Nat)(xa xb xc:List Nat)(k:Nat):Nat:=
 if op=1 then K else if op=2 then cop .add (xa.getD k 0) (xb.getD k 0)else if op=3 then cop .sub (xa.getD k 0) (xb.getD k 0)
 else if op=4 then cop .mul (xa.getD k 0) (xb.getD k 0)else if op=5 then cop .quo (xa.getD k 0) (xb.getD k 0)
 else if op=6 then Op.negFloat .f64 (xa.getD k 0)else if op=7 then Di (xa.getD k 0) (xb.getD k 0)
 else if op=8 then GU (xa.getD k 0) (xb.getD k 0) (xc.getD k 0)else if op=9 then PM xa
 else if op=10 then xa.getD 0 0 else if op=11 then xa.getD C.toNat 0 else if op=12 then (if k=C.toNat then xa.getD 0 0 else 0)
 else PL (xa.getD k 0)
theorem GV(w:World)(x y aX):IS (w.alloc (.cells #[h0 x,h0 y,h0 aX] 3)) 0 (w.heap.size+1) (some ⟨w.heap.size,0,none⟩) 3 [x,y,aX]:=
 ⟨rfl,.inr ⟨w.heap.size,0,rfl,yad,yae,by simp,λk H=>by
  have:k=0\/k=1\/k=2:=xaa
  obtain rfl|rfl|rfl:=this<;>simp⟩⟩
