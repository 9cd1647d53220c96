import Derived.Test.YtbhmhdllnfkjhaaGreatP04
namespace Go.Proofs.Z
variable{Zp:Prop}
open Tryz
set_option maxRecDepth 1000000
set_option maxHeartbeats 0
open Go.RowKit Flt
attribute[local go_sem] eG eE eD
variable{w I W':World}{lo g p hi au l n X h:Nat}{xs ins:List Int}{bH O ax:Value}
theorem iF{W}(h:Kept 0 0 w W){o}(aR:g<w.heap.size){v}(ad:w.cell? ⟨g,o,none⟩=some v):W.cell? ⟨g,o,none⟩=some v:=by
 rw[h.cell aR xaa];exact ad
structure Vl where
 op:Int
 len:Int
 a:Int
 b:Int
 c:Int
 k:Nat
def Vl.cells(v:Vl):List Value:=[.int .i64 v.op,.int .i64 v.len,.int .i64 v.a,.int .i64 v.b,.int .i64 v.c,.float .f64 v.k]
def hI:Vl:=⟨0,0,0,0,0,0⟩
abbrev Vl.agg(v:Vl):Value:=kT v.op v.len v.a v.b v.c v.k
structure At(w:World)(g o:Nat)(v:Vl):Prop where
 c0:w.cell? ⟨g,o,none⟩=some (.int .i64 v.op)
 c1:w.cell? ⟨g,o+1,none⟩=some (.int .i64 v.len)
 c2:w.cell? ⟨g,o+2,none⟩=some (.int .i64 v.a)
 c3:w.cell? ⟨g,o+3,none⟩=some (.int .i64 v.b)
 c4:w.cell? ⟨g,o+4,none⟩=some (.int .i64 v.c)
 c5:w.cell? ⟨g,o+5,none⟩=some (.float .f64 v.k)
theorem sc:(prog.info? 60).map (λi=>(i.zero,i.size,i.bytes))=some (some (kT 0 0 0 0 0 0),6,48):=by kernel_rfl
structure VA(w:World)(g n:Nat)(vs:List Vl):Prop where
 len:vs.length=n
 lt:g<w.heap.size
 at_:∀k,k<n->At w g (k*6) (vs.getD k hI)
 free:∀o,w.frozen? ⟨g,o,none⟩=false
abbrev nW(w:World)(g o:Nat)(v:Vl):World:=
 (((((w.setCell ⟨g,o,none⟩ (.int .i64 v.op)).setCell ⟨g,o+1,none⟩ (.int .i64 v.len)).setCell ⟨g,o+2,none⟩ (.int .i64 v.a)).setCell ⟨g,o+3,none⟩ (.int .i64 v.b)).setCell ⟨g,o+4,none⟩ (.int .i64 v.c)).setCell ⟨g,o+5,none⟩ (.float .f64 v.k)
theorem eM(w:World)(g aB a b v)(h:g≠aB\/a≠b):(w.setCell ⟨g,a,none⟩ v).cell? ⟨aB,b,none⟩=w.cell? ⟨aB,b,none⟩:=
 World.cell?_setCell_other w ⟨g,a,none⟩ ⟨aB,b,none⟩ v (by grind)
theorem fD(w:World)(g a v u)(h:w.cell? ⟨g,a,none⟩=some u):(w.setCell ⟨g,a,none⟩ v).cell? ⟨g,a,none⟩=some v:=World.cell?_setCell_same w ⟨g,a,none⟩ v h
theorem iO(w g o aB b v)(h:g≠aB\/b<o\/o+6<=b):(nW w g o v).cell? ⟨aB,b,none⟩=w.cell? ⟨aB,b,none⟩:=by
 unfold nW;rw[eM _ _ _ _ _ _ xaa,eM _ _ _ _ _ _ xaa,eM _ _ _ _ _ _ xaa,eM _ _ _ _ _ _ xaa,eM _ _ _ _ _ _ xaa,eM _ _ _ _ _ _ xaa]
theorem BN(w g o u v)(h:At w g o u):At (nW w g o v) g o v:=by
 unfold nW;refine⟨?_,?_,?_,?_,?_,?_⟩
 ·rw[eM _ _ _ _ _ _ xaa,eM _ _ _ _ _ _ xaa,eM _ _ _ _ _ _ xaa,eM _ _ _ _ _ _ xaa,eM _ _ _ _ _ _ xaa];exact fD _ _ _ _ _ h.c0
 ·rw[eM _ _ _ _ _ _ xaa,eM _ _ _ _ _ _ xaa,eM _ _ _ _ _ _ xaa,eM _ _ _ _ _ _ xaa];exact fD _ _ _ _ _ (by rw[eM _ _ _ _ _ _ xaa];exact h.c1)
 ·rw[eM _ _ _ _ _ _ xaa,eM _ _ _ _ _ _ xaa,eM _ _ _ _ _ _ xaa];exact fD _ _ _ _ _ (by rw[eM _ _ _ _ _ _ xaa,eM _ _ _ _ _ _ xaa];exact h.c2)
 ·rw[eM _ _ _ _ _ _ xaa,eM _ _ _ _ _ _ xaa];exact fD _ _ _ _ _ (by rw[eM _ _ _ _ _ _ xaa,eM _ _ _ _ _ _ xaa,eM _ _ _ _ _ _ xaa];exact h.c3)
 ·rw[eM _ _ _ _ _ _ xaa];exact fD _ _ _ _ _ (by rw[eM _ _ _ _ _ _ xaa,eM _ _ _ _ _ _ xaa,eM _ _ _ _ _ _ xaa,eM _ _ _ _ _ _ xaa];exact h.c4)
 exact fD _ _ _ _ _ (by rw[eM _ _ _ _ _ _ xaa,eM _ _ _ _ _ _ xaa,eM _ _ _ _ _ _ xaa,eM _ _ _ _ _ _ xaa,eM _ _ _ _ _ _ xaa];exact h.c5)
theorem kY(w g o v):Kept g (g+1) w (nW w g o v):=by
 unfold nW;have k:∀(w:World) (a:Nat) (u:Value),Kept g (g+1) w _:=λw a u=>eP w ⟨g,a,none⟩ u yac;exact((((k _ _ _).trans (k _ _ _)).trans (k _ _ _)).trans (k _ _ _)).trans (k _ _ _) |>.trans (k _ _ _)
theorem At.keep{o v}(a:At w g o v)(aR:g<w.heap.size)(k:Kept l h w I)(G:g<l\/h<=g\/h<=l):At I g o v:=by
 have e:∀b,_:=λb=>k.cell (p:=⟨g,b,none⟩) aR (by grind);exact⟨hO e a.c0,hO e a.c1,hO e a.c2,hO e a.c3,hO e a.c4,hO e a.c5⟩
theorem VA.keep{vs}(f:VA w g n vs)(k:Kept l h w I)(G:g<l\/h<=g\/h<=l):VA I g n vs:=
 ⟨f.len,yak f.lt k.size,λi hi=>(f.at_ i hi).keep f.lt k G,λo=>by rw[k.frozen f.lt (by grind)];exact f.free o⟩
theorem VA.step{vs}(f:VA w g n vs)(k)(N:k<n)(v):VA (nW w g (k*6) v) g n (vs.set k v) where
 len:=by rw[List.length_set];exact f.len
 lt:=yak f.lt (kY w g (k*6) v).size
 at_:=λi hi=>by
  rw[yai,List.getElem?_set]
  by_cases e:k=i
  ·subst e
   rw[hG rfl,hG (hO f.len N)]
   exact BN w g _ _ v (f.at_ k N)
  ·rw[hF e,<-yai]
   have a:=f.at_ i hi
   have o:∀b,i*6<=b->b<i*6+6->_:=λb B J=>iO w g (k*6) g b v (by right;omega)
   exact⟨by rw[o _ xaa xaa];exact a.c0,by rw[o _ xaa xaa];exact a.c1,by rw[o _ xaa xaa];exact a.c2,by rw[o _ xaa xaa];exact a.c3,by rw[o _ xaa xaa];exact a.c4,by rw[o _ xaa xaa];exact a.c5⟩
 free:=λo=>by simp[nW,f.free o]
structure VS(w:World)(lo hi:Nat)(a:Option Addr)(n:Nat)(vs:List Vl):Prop where
 len:vs.length=n
 lt:∀v∈vs,v.k<18446744073709551616
 at_:n=0\/∃g off,a=some ⟨g,off,none⟩/\lo<=g/\g<hi/\g<w.heap.size/\∀k,k<n->At w g (off+k*6) (vs.getD k hI)
theorem VS.keep{a vs}(f:VS w lo hi a n vs)(k:Kept l h w I)(G:hi<=l\/h<=lo\/h<=l):VS I lo hi a n vs:=
 ⟨f.len,f.lt,by
  rcases f.at_ with ae|⟨g,off,e,B,J,h3,a0⟩
  ·exact .inl ae
  ·exact .inr ⟨g,_,e,B,J,yak h3 k.size,λj hj=>(a0 j hj).keep h3 k xaa⟩⟩
theorem VA.vs{vs}(f:VA w g n vs)(ab:∀v∈vs,v.k<18446744073709551616):VS w 0 w.heap.size (some ⟨g,0,none⟩) n vs:=
 ⟨f.len,ab,.inr ⟨g,0,rfl,yae,f.lt,f.lt,λk N=>by rw[Nat.zero_add];exact f.at_ k N⟩⟩
def IR(w:World)(g:Nat)(xs:List Int):Prop:=w.heap[g]? =some (.cells (xs.map (Value.int .i64)).toArray 3 (0,0))
theorem IR.lt(h:IR w g xs):g<w.heap.size:=by
 grind[IR]
theorem IR.cell(h:IR w g xs)(k)(N:k<xs.length):w.cell? ⟨g,k,none⟩=some (hD (xs.getD k 0)):=by
 rw[cell_of_row w g k _ _ _ h];grind
theorem IR.free(h:IR w g xs)(k):w.frozen? ⟨g,k,none⟩=false:=frozen_of_row w g k _ _ h
theorem IR.keep(f:IR w g xs)(k:Kept l h w I)(G:g<l\/h<=g\/h<=l):IR I g xs:=by
 unfold IR;rw[k.block g f.lt xaa];exact f
theorem IR.set(h:IR w g xs)(k x):IR (w.setCell ⟨g,k,none⟩ (hD x)) g (xs.set k x):=by
 unfold IR at h⊢;exact qcw
theorem IR.is(h:IR w g xs):IS w 0 w.heap.size (some ⟨g,0,none⟩) xs.length xs:=
 ⟨rfl,.inr ⟨g,0,rfl,yae,h.lt,h.lt,λk N=>by rw[Nat.zero_add];exact h.cell k N⟩⟩
theorem IR.made(w:World)(n):IR (w.alloc (.cells (madeCells #[hD 0] n) 3)) w.heap.size (List.replicate n 0):=by
 unfold IR;rw[heap_alloc_new]
 have:(madeCells #[hD 0] n)=(List.map (Value.int .i64) (List.replicate n 0)).toArray:=by
  apply Array.toList_inj.1;rw[toList_madeCells_one];simp
 rw[this]
theorem qz:(prog.info? 3).map (λi=>(i.zero,i.size,i.bytes))=some (some (hD 0),1,8):=by kernel_rfl
theorem ve(xs bT:List Int)(k)(N:k<xs.length)(ab:bT.length=xs.length):
  (xs.take k++bT.drop k).set k (xs.getD k 0)=xs.take (k+1)++bT.drop (k+1):=by
 apply List.ext_getElem?;intro i;simp only[List.getElem?_set,yal,List.length_take,List.length_drop,List.getElem?_append,List.getElem?_take,List.getElem?_drop,yai];rcases Nat.lt_trichotomy i k with h|h|h
 ·rw[hF xaa,hG xaa,hG xaa,hG xaa,hG xaa]
 ·subst h;rw[hG rfl,hG xaa,hG xaa,hG xaa,yam N];rfl
 rw[hF xaa,hF xaa,hF xaa];congr 1;omega
theorem rx(n:Nat)(w)(hn:n<=1099511627776):
  (Instr.makeSlice 23 (hD n) (hD n)).run prog w=.ok (hC w.heap.size n n) (w.alloc (.cells (madeCells #[hD 0] n) 3)):=by
 obtain⟨i,hi,a6,b8,b5⟩:=info_parts qz;have:=run_make w 23 3 i _ underlying23 hi a6 .i64 .i64 n n xaa xaa (by grind) xaa;exact qch
abbrev eV(a1:Option Addr)(n1 c1:Nat)(a2:Option Addr)(n2 c2:Nat)(a3:Option Addr)(n3 c3:Nat):Value:=.agg #[.slice a1 n1 c1,.slice a2 n2 c2,.slice a3 n3 c3]
structure GS(w:World)(a1:Option Addr)(n1:Nat)(a2:Option Addr)(n2:Nat)(a3:Option Addr)(n3:Nat)(ins:List Int)(vs:List Vl)(outs:List Int):Prop where
 i:IS w 0 w.heap.size a1 n1 ins
 v:VS w 0 w.heap.size a2 n2 vs
 o:IS w 0 w.heap.size a3 n3 outs
theorem IS.mono{a}(f:IS w lo hi a n xs)(B:au<=lo)(J:hi<=X):IS w au X a n xs:=
 ⟨f.len,by
  rcases f.at_ with ae|⟨g,off,e,a1,Y,a3,a4⟩<;>grind⟩
theorem VS.mono{a vs}(f:VS w lo hi a n vs)(B:au<=lo)(J:hi<=X):VS w au X a n vs:=
 ⟨f.len,f.lt,by
  rcases f.at_ with ae|⟨g,off,e,a1,Y,a3,a4⟩<;>grind⟩
theorem GS.keep{a1 Y a3 n1 T n3 vs outs}(f:GS w a1 n1 Y T a3 n3 ins vs outs)(k:Kept 0 0 w I):GS I a1 n1 Y T a3 n3 ins vs outs:=
 ⟨(f.i.keep k yaa).mono yad k.size,(f.v.keep k yaa).mono yad k.size,(f.o.keep k yaa).mono yad k.size⟩
structure IE(w:World)(g:Nat)(xs:List Int):Prop where
 lt:g<w.heap.size
 cell:∀k,k<xs.length->w.cell? ⟨g,k,none⟩=some (.int .i64 (xs.getD k 0))
theorem IE.keep(f:IE w g xs)(k:Kept l h w I)(G:g<l\/h<=g\/h<=l):IE I g xs:=
 ⟨yak f.lt k.size,λj hj=>by rw[k.cell f.lt (by show ¬(l<=g/\g<h);omega)];exact f.cell j hj⟩
theorem IE.is(h:IE w g xs):IS w 0 w.heap.size (some ⟨g,0,none⟩) xs.length xs:=
 ⟨rfl,.inr ⟨g,0,rfl,yae,h.lt,h.lt,λk N=>by rw[Nat.zero_add];exact h.cell k N⟩⟩
theorem fg(w g x y z):Kept g (g+1) w (((w.setCell ⟨g,0,none⟩ x).setCell ⟨g,1,none⟩ y).setCell ⟨g,2,none⟩ z):=by
 have k:∀(w:World) (a:Nat) (u:Value),Kept g (g+1) w _:=λw a u=>eP w ⟨g,a,none⟩ u yac;exact((k _ _ _).trans (k _ _ _)).trans (k _ _ _)
theorem oy(w W)(k:Kept 0 0 w W)(g o v)(h:w.heap.size<=g):Kept 0 0 w (W.setCell ⟨g,o,none⟩ v):=
 k.new (eP (lo:=g) (hi:=g+1) W ⟨g,o,none⟩ v yac) h
def iU(op:Int):Bool:=decide (op=11\/op=12)
theorem Fh(op w):Calls prog 131 #[hD op] w λe I=>e=.returned (.bool (iU op))/\I=w:=by
 by_cases B:op=11
 ·subst B;exact xfz
 by_cases J:op=12
 ·subst J;exact xfz
 rw[show iU op=false from yay xaa];have aP:(op==11)=false:=yan B;have aY:(op==12)=false:=yan J;clear B J;exact xfz
def gg(v:Vl):Bool:=!(((decide (cnt v.op<1)&&v.op !=0)&&v.a !=0)||(decide (cnt v.op<2)&&v.b !=0)||((decide (cnt v.op<3)&&!iU v.op)&&v.c !=0))
theorem CX(w op len A R C K n)(hn:n<=3)(p)(bc:V (∀w,Calls prog 98 #[hD op] w λe I=>e=.returned (hD (n:Nat))/\I=w))
  (bV:V (∀w,Calls prog 131 #[hD op] w λe I=>e=.returned (.bool p)/\I=w)):
  Calls prog 83 #[kT op len A R C K] w λe I=>e=.returned (.bool (!(((decide (n<1)&&op !=0)&&A !=0)||(decide (n<2)&&R !=0)||((decide (n<3)&&!p)&&C !=0))))/\Kept 0 0 w I:=by
 rcases (by omega:n=0\/n=1\/n=2\/n=3) with rfl|rfl|rfl|rfl
 all_goals
  go_enter func83,ntmps83
  go_wp2_with (first|(go_at_call 98;refine(bc.o _).mono ?_;rintro e ag ⟨rfl,rfl⟩)|(go_at_call 131;refine(bV.o _).mono ?_;rintro e ag ⟨rfl,rfl⟩))
  all_goals
   go_ret
   exact⟨by simp_all,ez _ _ _ _⟩
theorem oA(w v):Calls prog 83 #[v.agg] w λe I=>e=.returned (.bool (gg v))/\Kept 0 0 w I:=
 CX w v.op v.len v.a v.b v.c v.k (cnt v.op) (f9 _) (iU v.op) (λw=>qx _ w) (λw=>Fh _ w)
def eQ(v:Vl):List Int:=[v.a,v.b,v.c].take (cnt v.op)
theorem iz(v):(eQ v).length=cnt v.op:=by
 have:=f9 v.op;simp[eQ];omega
theorem nu(w v):Calls prog 62 #[v.agg] w λe I=>∃g,e=.returned (hC g (cnt v.op) 3)/\IS I w.heap.size I.heap.size (some ⟨g,0,none⟩) (cnt v.op) (eQ v)/\g+1=I.heap.size/\Kept 0 0 w I:=by
 have t:=f9 v.op;have a6:V _:=(wO (w.alloc (fB v.op v.len v.a v.b v.c v.k)) v.a v.b v.c).prefix _ t;have bc:V _:=qx v.op;generalize am:cnt _=q at a6 bc t;have bH:(0:Int)<=q:=xaa;have O:(q:Int)<=3:=xaa;go_enter func62,ntmps62;go_wp2_with fail
 go_region_held3 (λI=>I.cell? ⟨w.heap.size,0,none⟩=some (hD v.op)/\I.cell? ⟨w.heap.size,2,none⟩=some (hD v.a)/\I.cell? ⟨w.heap.size,3,none⟩=some (hD v.b)/\I.cell? ⟨w.heap.size,4,none⟩=some (hD v.c)) (go_keep)
  ((go_at_call 98;refine(bc.o _).mono ?_;rintro e ag ⟨rfl,rfl⟩))
 all_goals
  go_wp2
  go_ret
  have B:(w.alloc (fB v.op v.len v.a v.b v.c v.k)).heap.size=w.heap.size+1:=by simp
  have c:=a6.o
  rw[B]at c
  refine⟨_,rfl,⟨c.len.trans rfl |> λe=>by rw[eQ,am];exact e,?_⟩,?_,?_⟩
  ·rcases c.at_ with ae|⟨g,off,e,a1,Y,a3,a4⟩
   ·exact .inl ae
   ·cases e
    refine .inr ⟨_,_,rfl,Nat.le_succ _,?_,?_,λk N=>?_⟩
    ·exact a3
    ·exact a3
    ·rw[eQ,am];exact a4 k N
  ·show w.heap.size+1+1=((w.alloc _).alloc _).heap.size
   simp
  ·exact((ez 0 0 w _).trans (ez 0 0 _ _)).trans (eK 0 0 _ 1)
def okV(ins:List Int)(vs:List Vl)(i:Nat):Bool:=
 (lenB (vs.getD i hI).len&&gg (vs.getD i hI))&&
  (if (vs.getD i hI).op=0 then fJ (vs.getD i hI).a ins.length&&(vs.getD i hI).len==ins.getD (vs.getD i hI).a.toNat 0
   else (eQ (vs.getD i hI)).all (fJ · i)&&eY (vs.getD i hI).op (vs.getD i hI).len (vs.getD i hI).c ((eQ (vs.getD i hI)).map λo=>(vs.getD o.toNat hI).len))
abbrev eW(a1:Option Addr)(n1 c1:Nat)(a2:Option Addr)(n2 c2:Nat)(a3:Option Addr)(n3 c3:Nat):Obj:=.cells #[.slice a1 n1 c1,.slice a2 n2 c2,.slice a3 n3 c3] 26
theorem tz(w a1 a3 n1 c1 T c2 n3 c3 ap bO i v)(aR:ap<w.heap.size)(hi:i<T)(be:At w ap (bO+i*6) v)(ab:lenB v.len=false):
  Calls prog 52 #[eV a1 n1 c1 (some ⟨ap,bO,none⟩) T c2 a3 n3 c3,hD i] w λe I=>e=.returned (.bool false)/\Kept 0 0 w I:=by
 have bJ:V (∀w,Calls prog 51 #[hD v.len] w λe I=>e=.returned (.bool false)/\I=w):=λw=>by
  have:=gF v.len w
  rw[ab]at this
  exact this
 clear ab;have aw:=ez 0 0 w (eW a1 n1 c1 (some ⟨ap,bO,none⟩) T c2 a3 n3 c3);obtain⟨bc,e1,e2,af,e4,bo⟩:=be.keep aR aw yaa;clear be aw;go_enter func52,ntmps52;go_wp2_with (go_at_call 51;refine(bJ.o _).mono ?_;rintro e ag ⟨rfl,rfl⟩);go_ret;exact⟨rfl,(ez 0 0 w _).trans (ez 0 0 _ _)⟩
theorem tA(w a1 a3 n1 c1 T c2 n3 c3 ap bO i v)(aR:ap<w.heap.size)(hi:i<T)(be:At w ap (bO+i*6) v)(ab:lenB v.len=true)(ar:gg v=false):
  Calls prog 52 #[eV a1 n1 c1 (some ⟨ap,bO,none⟩) T c2 a3 n3 c3,hD i] w λe I=>e=.returned (.bool false)/\Kept 0 0 w I:=by
 have bJ:V (∀w,Calls prog 51 #[hD v.len] w λe I=>e=.returned (.bool true)/\I=w):=λw=>by
  have:=gF v.len w
  rw[ab]at this
  exact this
 have aZ:V (∀w,Calls prog 83 #[v.agg] w λe I=>e=.returned (.bool false)/\Kept 0 0 w I):=λw=>by
  have:=oA w v
  rw[ar]at this
  exact this
 clear ab ar;have aw:=ez 0 0 w (eW a1 n1 c1 (some ⟨ap,bO,none⟩) T c2 a3 n3 c3);obtain⟨bc,e1,e2,af,e4,bo⟩:=be.keep aR aw yaa;clear be aw;go_enter func52,ntmps52;go_wp2_with (first|(go_at_call 51;refine(bJ.o _).mono ?_;rintro e ag ⟨rfl,rfl⟩)|(go_at_call 83;refine(aZ.o _).mono ?_;rintro e ag ⟨rfl,b2⟩));go_ret;exact⟨rfl,((ez 0 0 w _).trans (ez 0 0 _ _)).trans b2⟩
structure GB(W:World)(p:Nat)(b0 b1 b2:Value)(v:Vl):Prop where
 sz:p+1<W.heap.size
 q0:W.cell? ⟨p,0,none⟩=some b0
 q1:W.cell? ⟨p,1,none⟩=some b1
 q2:W.cell? ⟨p,2,none⟩=some b2
 vt:At W (p+1) 0 v
theorem GB.keep{W v}(t:GB W p bH O ax v)(k:Kept 0 0 W W'):GB W' p bH O ax v:=by
 have e:∀g o,g<=p+1->_:=λg o h=>k.cell (p:=⟨g,o,none⟩) (Nat.lt_of_le_of_lt h t.sz) xaa;exact⟨yak t.sz k.size,by rw[e _ _ xaa];exact t.q0,by rw[e _ _ xaa];exact t.q1,by rw[e _ _ xaa];exact t.q2,t.vt.keep t.sz k yaa⟩
theorem qA(w:World)(bH O ax v):GB ((w.alloc (.cells #[bH,O,ax] 26)).alloc (fB v.op v.len v.a v.b v.c v.k)) w.heap.size bH O ax v:=by
 have B:(w.alloc (.cells #[bH,O,ax] 26)).heap.size=w.heap.size+1:=by simp
 refine⟨?_,?_,?_,?_,?_,?_,?_,?_,?_,?_⟩;all_goals first|(go_simp;done)|(simp;done)
theorem aV.qbk(h:Zp:=by
 have bd:=an.q0;have bu:=an.vt.c0;have d1:=an.vt.c1;have d2:=an.vt.c2;have c1:=iF c Z c0;have bR:V _:=c;simp only at bu d1 d2;clear c an aM c0 bc e1 e2 af e4 bo;have b9:0<=(j:Int):=xaa;have bK:(j:Int)<n1:=xaa;exact xga):Zp:=h
theorem aV.qew(h:Zp:=by
 have P:V _:=aw.trans (ez 0 0 _ (fB 0 len A R C K));have aS:V _:=qA w (.slice a1 n1 c1) (.slice (some ⟨ap,bO,none⟩) T c2) (.slice a3 n3 c3) ⟨0,len,A,R,C,K⟩;clear be aw;simp only at bc e1 e2 af e4 bo;by_cases aU:0<=A/\A<n1
 ·exact qgr
 rw[show fJ A n1=false from yay aU,Bool.false_and]
 have a6:V (∀w,Calls prog 53 #[hD A,hD n1] w λe I=>e=.returned (.bool false)/\I=w):=λw=>by
  have:=iu A n1 w
  rw[show fJ A n1=false from yay aU]at this
  exact this
 clear aU;go_enter func52,ntmps52;go_wp2_with (first|(go_at_call 51;refine(bJ.o _).mono ?_;rintro e ag ⟨rfl,rfl⟩)|fail);refine(aZ.o _).mono ?_;rintro e a7 ⟨rfl,aM⟩;have c:=P.o.trans aM;have an:=aS.o.keep aM;have bd:=an.q0;have bu:=an.vt.c0;have d1:=an.vt.c1;have d2:=an.vt.c2;have bR:V _:=c;simp only at bu d1 d2;clear c an aM bc e1 e2 af e4 bo;exact xga):Zp:=h
theorem aV.qgs(h:Zp:=by
 have a6:V (∀w,Calls prog 53 #[hD j,hD n1] w λe I=>e=.returned (.bool true)/\I=w):=λw=>by
  have:=iu (j:Int) n1 w
  rw[show fJ (j:Int) n1=true from decide_eq_true aU]at this
  exact this
 clear aU;rcases f.at_ with ae|⟨bA,ch,rfl,O,ax,Z,av⟩
 ·omega
 have c0:=av j hj;clear av f O ax;generalize ins.getD j 0=y at c0⊢;exact qbj):Zp:=h
open aV in
theorem tC(w a1 a3 n1 c1 T c2 n3 c3 ap bO i len A R C K ins)(f:IS w 0 w.heap.size a1 n1 ins)(aR:ap<w.heap.size)(hi:i<T)(be:At w ap (bO+i*6) ⟨0,len,A,R,C,K⟩)(ab:lenB len=true)(ar:gg ⟨0,len,A,R,C,K⟩=true):
  Calls prog 52 #[eV a1 n1 c1 (some ⟨ap,bO,none⟩) T c2 a3 n3 c3,hD i] w λe I=>e=.returned (.bool (fJ A n1&&len==ins.getD A.toNat 0))/\Kept 0 0 w I:=by
 have bJ:V (∀w,Calls prog 51 #[hD len] w λe I=>e=.returned (.bool true)/\I=w):=λw=>by
  have:=gF len w
  rw[ab]at this
  exact this
 have aZ:V (∀w,Calls prog 83 #[kT 0 len A R C K] w λe I=>e=.returned (.bool true)/\Kept 0 0 w I):=λw=>by
  have:=oA w ⟨0,len,A,R,C,K⟩
  rw[ar]at this
  exact this
 clear ab ar;exact qev
theorem mU{p k}(N:k<xs.length)(h:(xs.take k).all p=true)(t:p (xs.getD k 0)=true):(xs.take (k+1)).all p=true:=by
 rw[yau N,List.all_append,h];exact xis
theorem oB{p k}(N:k<xs.length)(t:p (xs.getD k 0)=false):xs.all p=false:=by
 rw[yai,yam N]at t;rw[List.all_eq_false];exact⟨_,List.getElem_mem _,by simpa using t⟩
theorem CY{f:Int->Int}{k}(N:k<xs.length):(xs.map f).getD k 0=f (xs.getD k 0):=by
 simp[List.getD_eq_getElem?_getD,List.getElem?_eq_getElem N]
theorem aW.qbk(h:Zp:=by
 obtain⟨bu,d1,d2,d3,H,aj⟩:=an.vt;have bR:V _:=c;have b7:V _:=an;clear c an aM aS P bc e1 e2 af e4 bo;simp only[Nat.zero_add]at d1 d2 d3 H aj;go_wp2_with fail;refine(nu _ v).mono ?_;rintro e bj ⟨G,rfl,t,bv,J⟩;have b0:V _:=bR.o.trans J;have bK:V _:=b7.o.keep J;have aX:V (G+1=bj.heap.size):=bv;clear bR b7 J bu d1 d2 d3 H aj bv;have am:cnt v.op<=3:=f9 _;have aq:=rx (cnt v.op) bj xaa;have ai:=IR.made bj (cnt v.op);have B:=ez 0 0 bj (.cells (madeCells #[hD 0] (cnt v.op)) 3);have m:V ((eQ v).length=cnt v.op):=iz v;have aI:V (∀W a cap xs,IS W 0 W.heap.size a (cnt v.op) xs->Calls prog 84 #[v.agg,.slice a (cnt v.op) cap] W λe I=>e=.returned (.bool (eY v.op v.len v.c xs))/\Kept 0 0 W I):=λW a cap xs f=>ro W v.op v.len v.a v.b v.c v.k 0 W.heap.size a (cnt v.op) cap xs f rfl;generalize cnt v.op=q at am aq ai B m aI t;generalize ee:eQ v=s at m t;have er:V (eQ v=s):=ee;clear ee;generalize K:bj.alloc (.cells (madeCells #[hD 0] q) 3)=br at aq ai B;clear K;go_wp2_with fail;clear aq;have z:V ((s.map λo:Int=>(vs.getD o.toNat hI).len).length=q):=by show(s.map _).length=q;rw[List.length_map];exact m.o
 have S:V (∀k,k<q->(s.map λo:Int=>(vs.getD o.toNat hI).len).getD k 0=(vs.getD (s.getD k 0).toNat hI).len):=λk N=>CY (hO m.o N);have Z:V _:=t;go_loopw [51] (λav W=>∃k:Nat,k<=q/\av=hD k/\V ((s.take k).all (fJ · i)=true)/\IR W bj.heap.size ((s.map λo:Int=>(vs.getD o.toNat hI).len).take k++(List.replicate q 0).drop k)/\Kept 0 0 bj W) (λav _=>q-(intOf av).toNat)
 case atStart=>exact⟨0,yae,rfl,rfl,by simpa using ai,B⟩
 case round=>
  obtain⟨k,N,rfl,aU,bp,r⟩:=hrel;clear ai B;by_cases aC:k<q
  ·rcases t.at_ with bC|⟨bw,bh,b4,aN,a2,bk,bq⟩
   ·omega
   cases b4;have c1:=iF r bk (bq k aC);rw[Nat.zero_add]at c1;clear bq aN a2 bk t;by_cases ak:fJ (s.getD k 0) i=true
   ·have ah:=of_decide_eq_true ak;obtain⟨j,hj⟩:∃j:Nat,s.getD k 0=j:=⟨(s.getD k 0).toNat,by omega⟩
    have Y:V _:=mU (p:=(fJ · i)) (hO m.o aC) aU.o ak;have C:=S.o k aC;rw[hj]at c1 ak ah C;rw[Int.toNat_natCast]at C;have x:j<i:=xaa
    have a6:V (∀w,Calls prog 53 #[hD j,hD i] w λe I=>e=.returned (.bool true)/\I=w):=λw=>by
     have:=iu (j:Int) i w
     rw[ak]at this
     exact this
    have u:=(iF (b0.o.trans r) aR (aa.o j xaa).c1)
    have aL:=(bK.o.keep r).q1;have ao:=bp.free k;have aK:((s.map λo:Int=>(vs.getD o.toNat hI).len).take k++(List.replicate q 0).drop k).length=q:=by rw[yal,List.length_take,List.length_drop,z.o,List.length_replicate];omega
    have aG:=bp.cell k xaa;rw[<-C]at u;have R1:V _:=bp.set k ((s.map λo:Int=>(vs.getD o.toNat hI).len).getD k 0);have R2:V _:=r.new (eP (lo:=bj.heap.size) (hi:=bj.heap.size+1) wr ⟨bj.heap.size,k,none⟩ (hD ((s.map λo:Int=>(vs.getD o.toNat hI).len).getD k 0)) yac) yad;have R3:V _:=ve (s.map λo:Int=>(vs.getD o.toNat hI).len) (List.replicate q 0) k (hO z.o aC) (by rw[z.o];simp);generalize (s.map λo:Int=>(vs.getD o.toNat hI).len).getD k 0=y at u R1 R2 R3;clear C bp r aK ak ah hj aU;go_wp2_with ((go_at_call 53;refine(a6.o _).mono ?_;rintro e ag ⟨rfl,rfl⟩));go_roundw
    case rel=>
     refine⟨k+1,by omega,by go_num,Y,?_,R2.o⟩;have:=R1.o;rw[R3.o]at this;exact this
    case measure=>simp[intOf];omega
   have ah:fJ (s.getD k 0) i=false:=by simpa using ak
   have U:V (s.all (fJ · i)=false):=oB (hO m.o aC) ah
   have a6:V (∀w,Calls prog 53 #[hD (s.getD k 0),hD i] w λe I=>e=.returned (.bool false)/\I=w):=λw=>by
    have:=iu (s.getD k 0) i w
    rw[ah]at this
    exact this
   have R2:V _:=b0.o.trans r;clear ak ah r bp aU;go_wp2_with ((go_at_call 53;refine(a6.o _).mono ?_;rintro e ag ⟨rfl,rfl⟩));go_ret;exact⟨by rw[er.o,U.o];rfl,R2.o⟩
  obtain rfl:k=q:=xaa
  have U:V (s.all (fJ · i)=true):=by
   have:=aU.o;rw[yap (hR m.o)]at this;exact this
  have R:IR wr bj.heap.size (s.map λo:Int=>(vs.getD o.toNat hI).len):=by
   rw[yap (hR z.o),List.drop_of_length_le xac,List.append_nil]at bp;exact bp
  have a6:=R.is;rw[z.o]at a6;have bT:V _:=λcap=>aI.o wr _ cap _ a6;have R2:V _:=b0.o.trans r;obtain⟨bu,d1,d2,d3,H,aj⟩:=(bK.o.keep r).vt;simp only[Nat.zero_add]at d1 d2 d3 H aj;clear a6 R bp aU r t;go_wp2_with fail;refine(bT.o _).mono ?_;rintro e bg ⟨rfl,F⟩;have R3:V _:=R2.o.trans F;clear F bu d1 d2 d3 H aj;go_wp2;go_ret;exact⟨by rw[er.o,U.o];rfl,R3.o⟩):Zp:=h
open aW in
theorem wQ(w a1 a3 n1 c1 T c2 n3 c3 ap bO i v)(vs:List Vl)(aR:ap<w.heap.size)(hi:i<T)
  (Q:∀k,k<T->At w ap (bO+k*6) (vs.getD k hI)) (aD:vs.getD i hI=v) (ab:lenB v.len=true) (ar:gg v=true) (ae:v.op≠0):
  Calls prog 52 #[eV a1 n1 c1 (some ⟨ap,bO,none⟩) T c2 a3 n3 c3,hD i] w λe I=>e=.returned (.bool ((eQ v).all (fJ · i)&&eY v.op v.len v.c ((eQ v).map λo=>(vs.getD o.toNat hI).len)))/\Kept 0 0 w I:=by
 have bJ:V (∀w,Calls prog 51 #[hD v.len] w λe I=>e=.returned (.bool true)/\I=w):=λw=>by
  have:=gF v.len w
  rw[ab]at this
  exact this
 have aZ:V (∀w,Calls prog 83 #[v.agg] w λe I=>e=.returned (.bool true)/\Kept 0 0 w I):=λw=>by
  have:=oA w v
  rw[ar]at this
  exact this
 clear ab ar;have aw:=ez 0 0 w (eW a1 n1 c1 (some ⟨ap,bO,none⟩) T c2 a3 n3 c3);have be:=Q i hi;rw[aD]at be;have aa:V (∀k,k<T->At w ap (bO+k*6) (vs.getD k hI)):=Q;clear Q aD;obtain⟨bc,e1,e2,af,e4,bo⟩:=be.keep aR aw yaa;have P:V _:=aw.trans (ez 0 0 _ (fB v.op v.len v.a v.b v.c v.k));have aS:V _:=qA w (.slice a1 n1 c1) (.slice (some ⟨ap,bO,none⟩) T c2) (.slice a3 n3 c3) v;clear be aw;have bf:(v.op==0)=false:=yan ae;clear ae;exact qbj
theorem Fi(w a1 Y a3 n1 c1 T c2 n3 c3 i ins vs outs)(f:GS w a1 n1 Y T a3 n3 ins vs outs)(hi:i<T):
  Calls prog 52 #[eV a1 n1 c1 Y T c2 a3 n3 c3,hD i] w λe I=>e=.returned (.bool (okV ins vs i))/\Kept 0 0 w I:=by
 rcases f.v.at_ with ae|⟨ap,bO,rfl,O,ax,Z,av⟩
 ·omega
 have be:=av i hi;unfold okV;generalize aD:vs.getD i hI=v at be;cases ab:lenB v.len
 ·exact tz w a1 a3 n1 c1 T c2 n3 c3 ap bO i v Z hi be ab
 cases ar:gg v
 ·exact tA w a1 a3 n1 c1 T c2 n3 c3 ap bO i v Z hi be ab ar
 by_cases ae:v.op=0
 ·rw[hG ae,f.i.len];obtain⟨op,len,A,R,C,K⟩:=v;simp only at ae;subst ae;exact tC w a1 a3 n1 c1 T c2 n3 c3 ap bO i len A R C K ins f.i Z hi be ab ar
 rw[hF ae];exact wQ w a1 a3 n1 c1 T c2 n3 c3 ap bO i v vs Z hi av aD ab ar ae
def fd:List Vl->Int
 |[]=>0
 |v::vs=>v.len+fd vs
def okG(ins:List Int)(vs:List Vl)(outs:List Int):Bool:=
 decide (ins.length<=20/\vs.length<=2000/\outs.length<=50)&&(ins.all lenB&&((List.range vs.length).all (okV ins vs)&&(outs.all (fJ · vs.length)&&decide (fd vs<=50000))))
theorem pO(xs v):fd (xs++[v])=fd xs+v.len:=by
 induction xs<;>grind[fd]
theorem mF{vs:List Vl}{k}(N:k<vs.length):fd (vs.take (k+1))=fd (vs.take k)+(vs.getD k hI).len:=by
 rw[yau N,pO,yai,yam N];rfl
theorem kZ{p k}(h:(List.range k).all p=true)(t:p k=true):(List.range (k+1)).all p=true:=by
 rw[List.range_succ,List.all_append,h];simpa using t
theorem mb{p k}(N:k<n)(t:p k=false):(List.range n).all p=false:=by
 rw[List.all_eq_false];exact⟨k,List.mem_range.2 N,by simpa using t⟩
theorem ir{vs i}(h:okV ins vs i=true):1<=(vs.getD i hI).len/\(vs.getD i hI).len<=1000:=by
 unfold okV at h;rw[Bool.and_eq_true,Bool.and_eq_true]at h;exact of_decide_eq_true h.1.1
structure G0(W:World)(p:Nat)(b0 b1 b2:Value):Prop where
 sz:p<W.heap.size
 q0:W.cell? ⟨p,0,none⟩=some b0
 q1:W.cell? ⟨p,1,none⟩=some b1
 q2:W.cell? ⟨p,2,none⟩=some b2
theorem G0.keep{W}(t:G0 W p bH O ax)(k:Kept 0 0 W W'):G0 W' p bH O ax:=
 ⟨yak t.sz k.size,iF k t.sz t.q0,iF k t.sz t.q1,iF k t.sz t.q2⟩
theorem ft(w:World)(bH O ax):G0 (w.alloc (.cells #[bH,O,ax] 26)) w.heap.size bH O ax:=by
 refine⟨?_,?_,?_,?_⟩;all_goals first|(go_simp;done)|(simp;done)
theorem cI.qcp(h:Zp:=by
 have aI:V _:=f.keep aw.o;have ca:V (ins.length=n1):=f.i.len;have ab:V (vs.length=T):=f.v.len;have j:V (outs.length=n3):=f.o.len;clear f;go_enter func23,ntmps23;go_wp2_with fail;generalize cB:w.alloc (.cells #[.slice a1 n1 c1,.slice Y T c2,.slice a3 n3 c3] 26)=aO at aw aS aI⊢;clear cB;go_loop [29] (λi=>∃k:Nat,k<=n1/\i=hD k/\V ((ins.take k).all lenB=true)) (λi=>n1-(intOf i).toNat)
 case atStart=>exact⟨0,yae,rfl,rfl⟩
 case round=>
  obtain⟨k,N,rfl,aU⟩:=hrel;by_cases aC:k<n1
  ·rcases aI.o.i.at_ with bC|⟨bw,bh,b4,aN,a2,bk,bq⟩
   ·omega
   have c:=bq k aC;subst b4;clear aN a2 bk bq;cases ak:lenB (ins.getD k 0)
   ·have U:V (ins.all lenB=false):=oB (hO ca.o aC) ak
    have a6:V (∀w,Calls prog 51 #[hD (ins.getD k 0)] w λe I=>e=.returned (.bool false)/\I=w):=λw=>by
     have:=gF (ins.getD k 0) w
     rw[ak]at this
     exact this
    generalize ins.getD k 0=y at c a6;clear ak aU;go_wp2_with ((go_at_call 51;refine(a6.o _).mono ?_;rintro e ag ⟨rfl,rfl⟩));go_ret;exact⟨hS U.o,aw.o⟩
   have U:V _:=mU (p:=lenB) (hO ca.o aC) aU.o ak
   have a6:V (∀w,Calls prog 51 #[hD (ins.getD k 0)] w λe I=>e=.returned (.bool true)/\I=w):=λw=>by
    have:=gF (ins.getD k 0) w
    rw[ak]at this
    exact this
   generalize ins.getD k 0=y at c a6;clear ak aU;go_wp2_with ((go_at_call 51;refine(a6.o _).mono ?_;rintro e ag ⟨rfl,rfl⟩));exact xcg
  have R1:V (ins.all lenB=true):=by
   have:=aU.o;rw[yap (hR ca.o)]at this;exact this
  clear aU;have aL:=aS.q1;go_wp2_with fail;clear aL;go_loopw [5,40] (λc i W=>∃k:Nat,k<=T/\i=hD k/\c=hD (fd (vs.take k))/\V (0<=fd (vs.take k)/\fd (vs.take k)<=1000*k)/\V ((List.range k).all (okV ins vs)=true)/\Kept 0 0 aO W) (λ_ i _=>T-(intOf i).toNat)
  case atStart=>exact⟨0,yae,rfl,rfl,by constructor<;>simp[fd],rfl,Kept.refl _ _ _⟩
  case round=>
   obtain⟨ah,b2,rfl,rfl,hb,aU,r⟩:=hrel;by_cases aB:ah<T
   ·rcases aI.o.v.at_ with bC|⟨bw,bh,b4,aN,a2,bk,bq⟩
    ·omega
    have be:=(bq ah aB).keep bk r yaa;have bn:V _:=λo=>Fi (wr.alloc o) a1 Y a3 n1 c1 T c2 n3 c3 ah ins vs outs (aI.o.keep (r.trans (ez 0 0 wr o))) aB;have bl:V _:=r;have co:V _:=mF (vs:=vs) (k:=ah) (hO ab.o aB);clear aN a2 bk bq r;cases ak:okV ins vs ah
    ·have U:V ((List.range T).all (okV ins vs)=false):=mb aB ak;rw[ak]at bn;generalize vs.getD ah hI=v at be co;obtain⟨bc,e1,e2,af,e4,bo⟩:=be;obtain⟨_,bd,aL,aJ⟩:=aS.keep (bl.o.trans (ez 0 0 wr (fB v.op v.len v.a v.b v.c v.k)));clear ak aU co;subst b4;go_wp2_with ((go_at_call 52;refine(bn.o _).mono ?_;rintro e ag ⟨rfl,F⟩));go_ret;exact⟨by rw[R1.o,U.o];rfl,((aw.o.trans bl.o).trans (ez 0 0 _ _)).trans F⟩
    have U:V _:=kZ aU.o ak;have Z:V _:=ir ak;rw[ak]at bn;generalize vs.getD ah hI=v at be co Z;obtain⟨bc,e1,e2,af,e4,bo⟩:=be;obtain⟨_,bd,aL,aJ⟩:=aS.keep (bl.o.trans (ez 0 0 wr (fB v.op v.len v.a v.b v.c v.k)));clear ak aU;subst b4;go_wp2_with fail;refine(bn.o _).mono ?_;rintro e ag ⟨rfl,F⟩;have ch:ag.cell? ⟨wr.heap.size,1,none⟩=some (hD v.len):=iF F xac xac;have R2:V _:=(bl.o.trans (ez 0 0 _ _)).trans F;clear F bd aL aJ bc e1 e2 af e4 bo;have c9:-1000000000<=fd (vs.take ah)+v.len:=hN hb.o Z.o
    have cg:fd (vs.take ah)+v.len<=1000000000:=hN hb.o Z.o
    have u:V (0<=fd (vs.take (ah+1))/\fd (vs.take (ah+1))<=1000*((ah+1:Nat):Int)):=by
     exact xji
    generalize Q:fd (vs.take ah)=bK at c9 cg co;clear hb Q;go_wp2;go_roundw;exact⟨ah+1,by omega,by go_num,by rw[co.o],u,U,R2.o⟩;simp[intOf];omega
   have R2:V ((List.range T).all (okV ins vs)=true):=by
    have:=aU.o;rw[show ah=T by omega]at this;exact this
   have R3:V (fd (vs.take ah)=fd vs):=by
    show fd (vs.take ah)=fd vs;rw[yap (hR ab.o)]
   have bT:=aS.keep r;have aH:V _:=aI.o.keep r;have bl:V _:=aw.o.trans r;have aL:=bT.q1;have aJ:=bT.q2;clear aU r;go_wp2_with fail;go_loop [57] (λi=>∃k:Nat,k<=n3/\i=hD k/\V ((outs.take k).all (fJ · T)=true)) (λi=>n3-(intOf i).toNat)
   case atStart=>exact⟨0,yae,rfl,rfl⟩
   case round=>
    obtain⟨aF,aM,rfl,aU⟩:=hrel;by_cases cx:aF<n3
    ·rcases aH.o.o.at_ with bC|⟨bw,bh,b4,aN,a2,bk,bq⟩
     ·omega
     have c:=bq aF cx;subst b4;clear aN a2 bk bq;cases ak:fJ (outs.getD aF 0) T
     ·have U:V (outs.all (fJ · T)=false):=oB (hO j.o cx) ak
      have a6:V (∀w,Calls prog 53 #[hD (outs.getD aF 0),hD T] w λe I=>e=.returned (.bool false)/\I=w):=λw=>by
       have:=iu (outs.getD aF 0) T w
       rw[ak]at this
       exact this
      generalize outs.getD aF 0=y at c a6;clear ak aU;go_wp2_with ((go_at_call 53;refine(a6.o _).mono ?_;rintro e ag ⟨rfl,rfl⟩));go_ret;exact⟨by rw[R1.o,R2.o,U.o];rfl,bl.o⟩
     have U:V _:=mU (p:=(fJ · T)) (hO j.o cx) aU.o ak
     have a6:V (∀w,Calls prog 53 #[hD (outs.getD aF 0),hD T] w λe I=>e=.returned (.bool true)/\I=w):=λw=>by
      have:=iu (outs.getD aF 0) T w
      rw[ak]at this
      exact this
     generalize outs.getD aF 0=y at c a6;clear ak aU;go_wp2_with ((go_at_call 53;refine(a6.o _).mono ?_;rintro e ag ⟨rfl,rfl⟩));go_round
     case rel=>exact⟨aF+1,by omega,by go_num,U⟩
     case measure=>simp[intOf];omega
    have z:V (outs.all (fJ · T)=true):=by
     exact xim
    clear aU;go_wp2;go_ret;exact⟨by rw[R1.o,R2.o,z.o,<-R3.o];rfl,bl.o⟩):Zp:=h
open cI in
theorem wR(w a1 Y a3 n1 c1 T c2 n3 c3 ins vs outs)(f:GS w a1 n1 Y T a3 n3 ins vs outs)(B:n1<=20)(J:T<=2000)(h3:n3<=50):
  Calls prog 23 #[eV a1 n1 c1 Y T c2 a3 n3 c3] w λe I=>e=.returned (.bool (ins.all lenB&&((List.range T).all (okV ins vs)&&(outs.all (fJ · T)&&decide (fd vs<=50000)))))/\Kept 0 0 w I:=by
 exact qco
theorem sC(w a1 Y a3 n1 c1 T c2 n3 c3)(h:¬(n1<=20/\T<=2000/\n3<=50)):
  Calls prog 23 #[eV a1 n1 c1 Y T c2 a3 n3 c3] w λe I=>e=.returned (.bool false)/\Kept 0 0 w I:=by
 by_cases B:n1<=20
 ·by_cases J:T<=2000
  ·have h3:50<n3:=xaa;clear h;go_enter func23,ntmps23;go_wp2;go_ret;exact⟨rfl,ez _ _ _ _⟩
  have h3:2000<T:=xaa;clear h J;exact xib
 have h3:20<n1:=xaa;clear h B;exact xib
theorem vf(w a1 Y a3 n1 c1 T c2 n3 c3 ins vs outs)(f:GS w a1 n1 Y T a3 n3 ins vs outs):
  Calls prog 23 #[eV a1 n1 c1 Y T c2 a3 n3 c3] w λe I=>e=.returned (.bool (okG ins vs outs))/\Kept 0 0 w I:=by
 unfold okG;rw[f.i.len,f.v.len,f.o.len];by_cases h:n1<=20/\T<=2000/\n3<=50
 ·rw[decide_eq_true h,Bool.true_and];exact wR w a1 Y a3 n1 c1 T c2 n3 c3 ins vs outs f h.1 h.2.1 h.2.2
 rw[yay h,Bool.false_and];exact sC w a1 Y a3 n1 c1 T c2 n3 c3 h
structure IBk(w:World)(g n:Nat)(xs:List Int):Prop where
 len:xs.length=n
 lt:g<w.heap.size
 at_:∀k,k<n->w.cell? ⟨g,k,none⟩=some (.int .i64 (xs.getD k 0))
 free:∀o,w.frozen? ⟨g,o,none⟩=false
theorem IBk.keep(f:IBk w g n xs)(k:Kept l h w I)(G:g<l\/h<=g\/h<=l):IBk I g n xs:=
 ⟨f.len,yak f.lt k.size,λj hj=>by rw[k.cell f.lt (by grind)];exact f.at_ j hj,λo=>by rw[k.frozen f.lt (by grind)];exact f.free o⟩
theorem IBk.put{w g n xs}(f:IBk w g n xs)(j)(hj:j<n)(x):IBk (w.setCell ⟨g,j,none⟩ (hD x)) g n (xs.set j x) where
 len:=by rw[List.length_set];exact f.len
 lt:=by simpa using f.lt
 at_:=λk N=>by
  rw[yai,List.getElem?_set]
  by_cases e:j=k
  ·subst e
   rw[hG rfl,hG (hO f.len hj)]
   exact fD _ _ _ _ _ (f.at_ j hj)
  ·rw[hF e,eM _ _ _ _ _ _ (.inr e),<-yai]
   exact f.at_ k N
 free:=λo=>by simp[f.free o]
