import Derived.Test.YtamokkcfibdghaaGreatP04
namespace Go.Proofs.Z
variable {Zp:Prop}
open Tryz
set_option maxRecDepth 1000000
set_option maxHeartbeats 0
open Go.RowKit Flt
attribute [local go_sem] eG eE eD
variable {w J W':World}{lo g p hi lo' l n hi' h:Nat}{xs ins:List Int}{bb N aA:Value}
theorem jh{W}(h:Kept 0 0 w W){o}(aW:g<w.heap.size){v}(ai:w.cell? ⟨g,o,none⟩=some v):W.cell? ⟨g,o,none⟩=some v:=by
 rw[h.cell aW xaa];exact ai
structure Vl where
 op:Int
 len:Int
 a:Int
 b:Int
 c:Int
 k:Nat
def Vl.cells (v:Vl):List Value:=[.int .i64 v.op,.int .i64 v.len,.int .i64 v.a,.int .i64 v.b,.int .i64 v.c,.float .f64 v.k]
def hM:Vl:=⟨0,0,0,0,0,0⟩
abbrev Vl.agg (v:Vl):Value:=ii v.op v.len v.a v.b v.c v.k
structure At (w:World)(g o:Nat)(v:Vl):Prop where
 c0:w.cell? ⟨g,o,none⟩=some (.int .i64 v.op)
 c1:w.cell? ⟨g,o+1,none⟩=some (.int .i64 v.len)
 c2:w.cell? ⟨g,o+2,none⟩=some (.int .i64 v.a)
 c3:w.cell? ⟨g,o+3,none⟩=some (.int .i64 v.b)
 c4:w.cell? ⟨g,o+4,none⟩=some (.int .i64 v.c)
 c5:w.cell? ⟨g,o+5,none⟩=some (.float .f64 v.k)
theorem sV:(prog.info? 53).map (λi=>(i.zero,i.size,i.bytes))=some (some (ii 0 0 0 0 0 0),6,48):=by kernel_rfl
structure VA (w:World)(g n:Nat)(vs:List Vl):Prop where
 len:vs.length=n
 lt:g<w.heap.size
 at_:∀k,k<n->At w g (k*6) (vs.getD k hM)
 free:∀o,w.frozen? ⟨g,o,none⟩=false
abbrev q8 (w:World)(g o:Nat)(v:Vl):World:=
 (((((w.setCell ⟨g,o,none⟩ (.int .i64 v.op)).setCell ⟨g,o+1,none⟩ (.int .i64 v.len)).setCell ⟨g,o+2,none⟩ (.int .i64 v.a)).setCell ⟨g,o+3,none⟩ (.int .i64 v.b)).setCell ⟨g,o+4,none⟩ (.int .i64 v.c)).setCell ⟨g,o+5,none⟩ (.float .f64 v.k)
theorem eO(w:World)(g aG a b v)(h:g≠aG\/a≠b):(w.setCell ⟨g,a,none⟩ v).cell? ⟨aG,b,none⟩=w.cell? ⟨aG,b,none⟩:=
 World.cell?_setCell_other w ⟨g,a,none⟩ ⟨aG,b,none⟩ v (by grind)
theorem fJ(w:World)(g a v u)(h:w.cell? ⟨g,a,none⟩=some u):(w.setCell ⟨g,a,none⟩ v).cell? ⟨g,a,none⟩=some v:=World.cell?_setCell_same w ⟨g,a,none⟩ v h
theorem fX(w g o aG b v)(h:g≠aG\/b<o\/o+6<=b):(q8 w g o v).cell? ⟨aG,b,none⟩=w.cell? ⟨aG,b,none⟩:=by
 unfold q8;rw[eO _ _ _ _ _ _ xaa,eO _ _ _ _ _ _ xaa,eO _ _ _ _ _ _ xaa,eO _ _ _ _ _ _ xaa,eO _ _ _ _ _ _ xaa,eO _ _ _ _ _ _ xaa]
theorem IZ(w g o u v)(h:At w g o u):At (q8 w g o v) g o v:=by
 unfold q8;refine⟨?_,?_,?_,?_,?_,?_⟩
 ·rw[eO _ _ _ _ _ _ xaa,eO _ _ _ _ _ _ xaa,eO _ _ _ _ _ _ xaa,eO _ _ _ _ _ _ xaa,eO _ _ _ _ _ _ xaa];exact fJ _ _ _ _ _ h.c0
 ·rw[eO _ _ _ _ _ _ xaa,eO _ _ _ _ _ _ xaa,eO _ _ _ _ _ _ xaa,eO _ _ _ _ _ _ xaa];exact fJ _ _ _ _ _ (by rw[eO _ _ _ _ _ _ xaa];exact h.c1)
 ·rw[eO _ _ _ _ _ _ xaa,eO _ _ _ _ _ _ xaa,eO _ _ _ _ _ _ xaa];exact fJ _ _ _ _ _ (by rw[eO _ _ _ _ _ _ xaa,eO _ _ _ _ _ _ xaa];exact h.c2)
 ·rw[eO _ _ _ _ _ _ xaa,eO _ _ _ _ _ _ xaa];exact fJ _ _ _ _ _ (by rw[eO _ _ _ _ _ _ xaa,eO _ _ _ _ _ _ xaa,eO _ _ _ _ _ _ xaa];exact h.c3)
 ·rw[eO _ _ _ _ _ _ xaa];exact fJ _ _ _ _ _ (by rw[eO _ _ _ _ _ _ xaa,eO _ _ _ _ _ _ xaa,eO _ _ _ _ _ _ xaa,eO _ _ _ _ _ _ xaa];exact h.c4)
 exact fJ _ _ _ _ _ (by rw[eO _ _ _ _ _ _ xaa,eO _ _ _ _ _ _ xaa,eO _ _ _ _ _ _ xaa,eO _ _ _ _ _ _ xaa,eO _ _ _ _ _ _ xaa];exact h.c5)
theorem mM(w g o v):Kept g (g+1) w (q8 w g o v):=by
 unfold q8;have k:∀(w:World) (a:Nat) (u:Value),Kept g (g+1) w _:=λw a u=>eX w ⟨g,a,none⟩ u yac;exact((((k _ _ _).trans (k _ _ _)).trans (k _ _ _)).trans (k _ _ _)).trans (k _ _ _) |>.trans (k _ _ _)
theorem At.keep{o v}(a:At w g o v)(aW:g<w.heap.size)(k:Kept l h w J)(aV:g<l\/h<=g\/h<=l):At J g o v:=by
 have e:∀b,_:=λb=>k.cell (p:=⟨g,b,none⟩) aW (by grind);exact⟨hU e a.c0,hU e a.c1,hU e a.c2,hU e a.c3,hU e a.c4,hU e a.c5⟩
theorem VA.keep{vs}(f:VA w g n vs)(k:Kept l h w J)(aV:g<l\/h<=g\/h<=l):VA J g n vs:=
 ⟨f.len,yaj f.lt k.size,λi hi=>(f.at_ i hi).keep f.lt k aV,λo=>by rw[k.frozen f.lt (by grind)];exact f.free o⟩
theorem VA.step{vs}(f:VA w g n vs)(k)(O:k<n)(v):VA (q8 w g (k*6) v) g n (vs.set k v) where
 len:=by rw[List.length_set];exact f.len
 lt:=yaj f.lt (mM w g (k*6) v).size
 at_:=λi hi=>by
  rw[yah,List.getElem?_set]
  by_cases e:k=i
  ·subst e
   rw[hK rfl,hK (hU f.len O)]
   exact IZ w g _ _ v (f.at_ k O)
  ·rw[hJ e,<-yah]
   have a:=f.at_ i hi
   have o:∀b,i*6<=b->b<i*6+6->_:=λb B R=>fX w g (k*6) g b v (by right;omega)
   exact⟨by rw[o _ xaa xaa];exact a.c0,by rw[o _ xaa xaa];exact a.c1,by rw[o _ xaa xaa];exact a.c2,by rw[o _ xaa xaa];exact a.c3,by rw[o _ xaa xaa];exact a.c4,by rw[o _ xaa xaa];exact a.c5⟩
 free:=λo=>by simp[q8,f.free o]
structure VS (w:World)(lo hi:Nat)(a:Option Addr)(n:Nat)(vs:List Vl):Prop where
 len:vs.length=n
 lt:∀v∈vs,v.k<18446744073709551616
 at_:n=0\/∃g off,a=some ⟨g,off,none⟩/\lo<=g/\g<hi/\g<w.heap.size/\∀k,k<n->At w g (off+k*6) (vs.getD k hM)
theorem VS.keep{a vs}(f:VS w lo hi a n vs)(k:Kept l h w J)(aV:hi<=l\/h<=lo\/h<=l):VS J lo hi a n vs:=
 ⟨f.len,f.lt,by
  rcases f.at_ with aj|⟨g,off,e,B,R,h3,a8⟩
  ·exact .inl aj
  ·exact .inr ⟨g,_,e,B,R,yaj h3 k.size,λj hj=>(a8 j hj).keep h3 k xaa⟩⟩
theorem VA.vs{vs}(f:VA w g n vs)(ah:∀v∈vs,v.k<18446744073709551616):VS w 0 w.heap.size (some ⟨g,0,none⟩) n vs:=
 ⟨f.len,ah,.inr ⟨g,0,rfl,Nat.zero_le _,f.lt,f.lt,λk O=>by rw[Nat.zero_add];exact f.at_ k O⟩⟩
def IR (w:World)(g:Nat)(xs:List Int):Prop:=w.heap[g]? =some (.cells (xs.map (Value.int .i64)).toArray 3 (0,0))
theorem IR.lt(h:IR w g xs):g<w.heap.size:=by
 grind [IR]
theorem IR.cell(h:IR w g xs)(k)(O:k<xs.length):w.cell? ⟨g,k,none⟩=some (hI (xs.getD k 0)):=by
 rw[cell_of_row w g k _ _ _ h];grind
theorem IR.free(h:IR w g xs)(k):w.frozen? ⟨g,k,none⟩=false:=frozen_of_row w g k _ _ h
theorem IR.keep(f:IR w g xs)(k:Kept l h w J)(aV:g<l\/h<=g\/h<=l):IR J g xs:=by
 unfold IR;rw[k.block g f.lt xaa];exact f
theorem IR.set(h:IR w g xs)(k x):IR (w.setCell ⟨g,k,none⟩ (hI x)) g (xs.set k x):=by
 unfold IR at h⊢;exact qdc
theorem IR.is(h:IR w g xs):IS w 0 w.heap.size (some ⟨g,0,none⟩) xs.length xs:=
 ⟨rfl,.inr ⟨g,0,rfl,Nat.zero_le _,h.lt,h.lt,λk O=>by rw[Nat.zero_add];exact h.cell k O⟩⟩
theorem IR.made(w:World)(n):IR (w.alloc (.cells (madeCells #[hI 0] n) 3)) w.heap.size (List.replicate n 0):=by
 unfold IR;rw[heap_alloc_new]
 have:(madeCells #[hI 0] n)=(List.map (Value.int .i64) (List.replicate n 0)).toArray:=by
  apply Array.toList_inj.1;rw[toList_madeCells_one];simp
 rw[this]
theorem sW:(prog.info? 3).map (λi=>(i.zero,i.size,i.bytes))=some (some (hI 0),1,8):=by kernel_rfl
theorem uR(xs bd:List Int)(k)(O:k<xs.length)(ah:bd.length=xs.length):
  (xs.take k++bd.drop k).set k (xs.getD k 0)=xs.take (k+1)++bd.drop (k+1):=by
 apply List.ext_getElem?;intro i;simp only[List.getElem?_set,yak,List.length_take,List.length_drop,List.getElem?_append,List.getElem?_take,List.getElem?_drop,yah];rcases Nat.lt_trichotomy i k with h|h|h
 ·rw[hJ xaa,hK xaa,hK xaa,hK xaa,hK xaa]
 ·subst h;rw[hK rfl,hK xaa,hK xaa,hK xaa,yal O];rfl
 rw[hJ xaa,hJ xaa,hJ xaa];congr 1;omega
theorem pJ(n:Nat)(w)(hn:n<=1099511627776):
  (Instr.makeSlice 23 (hI n) (hI n)).run prog w=.ok (hH w.heap.size n n) (w.alloc (.cells (madeCells #[hI 0] n) 3)):=by
 obtain⟨i,hi,bU,bO,bR⟩:=info_parts sW;have:=run_make w 23 3 i _ underlying23 hi bU .i64 .i64 n n xaa xaa (by grind) xaa;exact qcn
abbrev eZ (a1:Option Addr)(n1 c1:Nat)(a2:Option Addr)(n2 c2:Nat)(a3:Option Addr)(n3 c3:Nat):Value:=.agg #[.slice a1 n1 c1,.slice a2 n2 c2,.slice a3 n3 c3]
structure GS (w:World)(a1:Option Addr)(n1:Nat)(a2:Option Addr)(n2:Nat)(a3:Option Addr)(n3:Nat)(ins:List Int)(vs:List Vl)(outs:List Int):Prop where
 i:IS w 0 w.heap.size a1 n1 ins
 v:VS w 0 w.heap.size a2 n2 vs
 o:IS w 0 w.heap.size a3 n3 outs
theorem IS.mono{a}(f:IS w lo hi a n xs)(B:lo'<=lo)(R:hi<=hi'):IS w lo' hi' a n xs:=
 ⟨f.len,by
  rcases f.at_ with aj|⟨g,off,e,a1,a2,a3,a4⟩<;>grind⟩
theorem VS.mono{a vs}(f:VS w lo hi a n vs)(B:lo'<=lo)(R:hi<=hi'):VS w lo' hi' a n vs:=
 ⟨f.len,f.lt,by
  rcases f.at_ with aj|⟨g,off,e,a1,a2,a3,a4⟩<;>grind⟩
theorem GS.keep{a1 a2 a3 Y U Z vs outs}(f:GS w a1 Y a2 U a3 Z ins vs outs)(k:Kept 0 0 w J):GS J a1 Y a2 U a3 Z ins vs outs:=
 ⟨(f.i.keep k yaa).mono yad k.size,(f.v.keep k yaa).mono yad k.size,(f.o.keep k yaa).mono yad k.size⟩
structure IE (w:World)(g:Nat)(xs:List Int):Prop where
 lt:g<w.heap.size
 cell:∀k,k<xs.length->w.cell? ⟨g,k,none⟩=some (.int .i64 (xs.getD k 0))
theorem IE.keep(f:IE w g xs)(k:Kept l h w J)(aV:g<l\/h<=g\/h<=l):IE J g xs:=
 ⟨yaj f.lt k.size,λj hj=>by rw[k.cell f.lt (by show ¬(l<=g/\g<h);omega)];exact f.cell j hj⟩
theorem IE.is(h:IE w g xs):IS w 0 w.heap.size (some ⟨g,0,none⟩) xs.length xs:=
 ⟨rfl,.inr ⟨g,0,rfl,Nat.zero_le _,h.lt,h.lt,λk O=>by rw[Nat.zero_add];exact h.cell k O⟩⟩
theorem ft(w g x y z):Kept g (g+1) w (((w.setCell ⟨g,0,none⟩ x).setCell ⟨g,1,none⟩ y).setCell ⟨g,2,none⟩ z):=by
 have k:∀(w:World) (a:Nat) (u:Value),Kept g (g+1) w _:=λw a u=>eX w ⟨g,a,none⟩ u yac;exact((k _ _ _).trans (k _ _ _)).trans (k _ _ _)
theorem nV(w W)(k:Kept 0 0 w W)(g o v)(h:w.heap.size<=g):Kept 0 0 w (W.setCell ⟨g,o,none⟩ v):=
 k.new (eX (lo:=g) (hi:=g+1) W ⟨g,o,none⟩ v yac) h
def iX (op:Int):Bool:=decide (op=11\/op=12)
theorem EY(op w):Calls prog 114 #[hI op] w λe J=>e=.returned (.bool (iX op))/\J=w:=by
 by_cases B:op=11
 ·subst B;exact xhk
 by_cases R:op=12
 ·subst R;exact xhk
 rw[show iX op=false from yax xaa];have aQ:(op==11)=false:=yam B;have a6:(op==12)=false:=yam R;clear B R;exact xhk
def gg (v:Vl):Bool:=!(((decide (cnt v.op<1)&&v.op !=0)&&v.a !=0)||(decide (cnt v.op<2)&&v.b !=0)||((decide (cnt v.op<3)&&!iX v.op)&&v.c !=0))
theorem CO(w op len A I C K n)(hn:n<=3)(p)(bl:V (∀w,Calls prog 73 #[hI op] w λe J=>e=.returned (hI (n:Nat))/\J=w))
  (aW:V (∀w,Calls prog 114 #[hI op] w λe J=>e=.returned (.bool p)/\J=w)):
  Calls prog 71 #[ii op len A I C K] w λe J=>e=.returned (.bool (!(((decide (n<1)&&op !=0)&&A !=0)||(decide (n<2)&&I !=0)||((decide (n<3)&&!p)&&C !=0))))/\Kept 0 0 w J:=by
 rcases (by omega:n=0\/n=1\/n=2\/n=3) with rfl|rfl|rfl|rfl
 all_goals
  go_enter func71,ntmps71
  go_wp2_with (first|(go_at_call 73;refine(bl.o _).mono ?_;rintro e af ⟨rfl,rfl⟩)|(go_at_call 114;refine(aW.o _).mono ?_;rintro e af ⟨rfl,rfl⟩))
  all_goals
   go_ret
   exact⟨by simp_all,ez _ _ _ _⟩
theorem nW(w v):Calls prog 71 #[v.agg] w λe J=>e=.returned (.bool (gg v))/\Kept 0 0 w J:=
 CO w v.op v.len v.a v.b v.c v.k (cnt v.op) (gK _) (iX v.op) (λw=>qj _ w) (λw=>EY _ w)
def eW (v:Vl):List Int:=[v.a,v.b,v.c].take (cnt v.op)
theorem jP(v):(eW v).length=cnt v.op:=by
 have:=gK v.op;simp[eW];omega
theorem m9(w v):Calls prog 47 #[v.agg] w λe J=>∃g,e=.returned (hH g (cnt v.op) 3)/\IS J w.heap.size J.heap.size (some ⟨g,0,none⟩) (cnt v.op) (eW v)/\g+1=J.heap.size/\Kept 0 0 w J:=by
 have ar:=gK v.op;have bB:V _:=(ww (w.alloc (eK v.op v.len v.a v.b v.c v.k)) v.a v.b v.c).prefix _ ar;have bl:V _:=qj v.op;generalize aq:cnt _=q at bB bl ar;have bb:(0:Int)<=q:=xaa;have N:(q:Int)<=3:=xaa;go_enter func47,ntmps47;go_wp2_with fail
 go_region_held3 (λJ=>J.cell? ⟨w.heap.size,0,none⟩=some (hI v.op)/\J.cell? ⟨w.heap.size,2,none⟩=some (hI v.a)/\J.cell? ⟨w.heap.size,3,none⟩=some (hI v.b)/\J.cell? ⟨w.heap.size,4,none⟩=some (hI v.c)) (go_keep)
  ((go_at_call 73;refine(bl.o _).mono ?_;rintro e af ⟨rfl,rfl⟩))
 all_goals
  go_wp2
  go_ret
  have B:(w.alloc (eK v.op v.len v.a v.b v.c v.k)).heap.size=w.heap.size+1:=by simp
  have f:=bB.o
  rw[B]at f
  refine⟨_,rfl,⟨f.len.trans rfl |> λe=>by rw[eW,aq];exact e,?_⟩,?_,?_⟩
  ·rcases f.at_ with aj|⟨g,off,e,a1,a2,a3,a4⟩
   ·exact .inl aj
   ·cases e
    refine .inr ⟨_,_,rfl,Nat.le_succ _,?_,?_,λk O=>?_⟩
    ·exact a3
    ·exact a3
    ·rw[eW,aq];exact a4 k O
  ·show w.heap.size+1+1=((w.alloc _).alloc _).heap.size
   simp
  ·exact((ez 0 0 w _).trans (ez 0 0 _ _)).trans (eM 0 0 _ 1)
def okV (ins:List Int)(vs:List Vl)(i:Nat):Bool:=
 (lenB (vs.getD i hM).len&&gg (vs.getD i hM))&&
  (if (vs.getD i hM).op=0 then fI (vs.getD i hM).a ins.length&&(vs.getD i hM).len==ins.getD (vs.getD i hM).a.toNat 0
   else (eW (vs.getD i hM)).all (fI · i)&&eR (vs.getD i hM).op (vs.getD i hM).len (vs.getD i hM).c ((eW (vs.getD i hM)).map λo=>(vs.getD o.toNat hM).len))
abbrev eY (a1:Option Addr)(n1 c1:Nat)(a2:Option Addr)(n2 c2:Nat)(a3:Option Addr)(n3 c3:Nat):Obj:=.cells #[.slice a1 n1 c1,.slice a2 n2 c2,.slice a3 n3 c3] 26
theorem sX(w a1 a3 Y c1 U c2 Z c3 ag bS i v)(aW:ag<w.heap.size)(hi:i<U)(bg:At w ag (bS+i*6) v)(ah:lenB v.len=false):
  Calls prog 45 #[eZ a1 Y c1 (some ⟨ag,bS,none⟩) U c2 a3 Z c3,hI i] w λe J=>e=.returned (.bool false)/\Kept 0 0 w J:=by
 have bO:V (∀w,Calls prog 44 #[hI v.len] w λe J=>e=.returned (.bool false)/\J=w):=λw=>by
  have:=gH v.len w
  rw[ah]at this
  exact this
 clear ah;have aH:=ez 0 0 w (eY a1 Y c1 (some ⟨ag,bS,none⟩) U c2 a3 Z c3);obtain⟨bl,ae,a9,ak,e4,bx⟩:=bg.keep aW aH yaa;clear bg aH;go_enter func45,ntmps45;go_wp2_with (go_at_call 44;refine(bO.o _).mono ?_;rintro e af ⟨rfl,rfl⟩);go_ret;exact⟨rfl,(ez 0 0 w _).trans (ez 0 0 _ _)⟩
theorem sY(w a1 a3 Y c1 U c2 Z c3 ag bS i v)(aW:ag<w.heap.size)(hi:i<U)(bg:At w ag (bS+i*6) v)(ah:lenB v.len=true)(ad:gg v=false):
  Calls prog 45 #[eZ a1 Y c1 (some ⟨ag,bS,none⟩) U c2 a3 Z c3,hI i] w λe J=>e=.returned (.bool false)/\Kept 0 0 w J:=by
 have bO:V (∀w,Calls prog 44 #[hI v.len] w λe J=>e=.returned (.bool true)/\J=w):=λw=>by
  have:=gH v.len w
  rw[ah]at this
  exact this
 have aT:V (∀w,Calls prog 71 #[v.agg] w λe J=>e=.returned (.bool false)/\Kept 0 0 w J):=λw=>by
  have:=nW w v
  rw[ad]at this
  exact this
 clear ah ad;have aH:=ez 0 0 w (eY a1 Y c1 (some ⟨ag,bS,none⟩) U c2 a3 Z c3);obtain⟨bl,ae,a9,ak,e4,bx⟩:=bg.keep aW aH yaa;clear bg aH;go_enter func45,ntmps45;go_wp2_with (first|(go_at_call 44;refine(bO.o _).mono ?_;rintro e af ⟨rfl,rfl⟩)|(go_at_call 71;refine(aT.o _).mono ?_;rintro e af ⟨rfl,bY⟩));go_ret;exact⟨rfl,((ez 0 0 w _).trans (ez 0 0 _ _)).trans bY⟩
structure GB (W:World)(p:Nat)(b0 b1 b2:Value)(v:Vl):Prop where
 sz:p+1<W.heap.size
 q0:W.cell? ⟨p,0,none⟩=some b0
 q1:W.cell? ⟨p,1,none⟩=some b1
 q2:W.cell? ⟨p,2,none⟩=some b2
 vt:At W (p+1) 0 v
theorem GB.keep{W v}(t:GB W p bb N aA v)(k:Kept 0 0 W W'):GB W' p bb N aA v:=by
 have e:∀g o,g<=p+1->_:=λg o h=>k.cell (p:=⟨g,o,none⟩) (Nat.lt_of_le_of_lt h t.sz) xaa;exact⟨yaj t.sz k.size,by rw[e _ _ xaa];exact t.q0,by rw[e _ _ xaa];exact t.q1,by rw[e _ _ xaa];exact t.q2,t.vt.keep t.sz k yaa⟩
theorem qm(w:World)(bb N aA v):GB ((w.alloc (.cells #[bb,N,aA] 26)).alloc (eK v.op v.len v.a v.b v.c v.k)) w.heap.size bb N aA v:=by
 have B:(w.alloc (.cells #[bb,N,aA] 26)).heap.size=w.heap.size+1:=by simp
 refine⟨?_,?_,?_,?_,?_,?_,?_,?_,?_,?_⟩;all_goals first|(go_simp;done)|(simp;done)
theorem bA.qbo(h:Zp:=by
 have ba:=aJ.q0;have bD:=aJ.vt.c0;have d1:=aJ.vt.c1;have d2:=aJ.vt.c2;have c1:=jh m ab c0;have aV:V _:=m;simp only at bD d1 d2;clear m aJ aU c0 bl ae a9 ak e4 bx;have b4:0<=(j:Int):=xaa;have bi:(j:Int)<Y:=xaa;exact xhm):Zp:=h
theorem bA.qfo(h:Zp:=by
 have bB:V (∀w,Calls prog 46 #[hI j,hI Y] w λe J=>e=.returned (.bool true)/\J=w):=λw=>by
  have:=iz (j:Int) Y w
  rw[show fI (j:Int) Y=true from decide_eq_true a7]at this
  exact this
 clear a7;rcases f.at_ with aj|⟨br,b1,rfl,N,aA,ab,aI⟩
 ·omega
 have c0:=aI j hj;clear aI f N aA;generalize ins.getD j 0=y at c0⊢;exact qbn):Zp:=h
open bA in
theorem sZ(w a1 a3 Y c1 U c2 Z c3 ag bS i len A I C K ins)(f:IS w 0 w.heap.size a1 Y ins)(aW:ag<w.heap.size)(hi:i<U)(bg:At w ag (bS+i*6) ⟨0,len,A,I,C,K⟩)(ah:lenB len=true)(ad:gg ⟨0,len,A,I,C,K⟩=true):
  Calls prog 45 #[eZ a1 Y c1 (some ⟨ag,bS,none⟩) U c2 a3 Z c3,hI i] w λe J=>e=.returned (.bool (fI A Y&&len==ins.getD A.toNat 0))/\Kept 0 0 w J:=by
 have bO:V (∀w,Calls prog 44 #[hI len] w λe J=>e=.returned (.bool true)/\J=w):=λw=>by
  have:=gH len w
  rw[ah]at this
  exact this
 have aT:V (∀w,Calls prog 71 #[ii 0 len A I C K] w λe J=>e=.returned (.bool true)/\Kept 0 0 w J):=λw=>by
  have:=nW w ⟨0,len,A,I,C,K⟩
  rw[ad]at this
  exact this
 clear ah ad;have aH:=ez 0 0 w (eY a1 Y c1 (some ⟨ag,bS,none⟩) U c2 a3 Z c3);obtain⟨bl,ae,a9,ak,e4,bx⟩:=bg.keep aW aH yaa;have F:V _:=aH.trans (ez 0 0 _ (eK 0 len A I C K));have aS:V _:=qm w (.slice a1 Y c1) (.slice (some ⟨ag,bS,none⟩) U c2) (.slice a3 Z c3) ⟨0,len,A,I,C,K⟩;clear bg aH;simp only at bl ae a9 ak e4 bx;by_cases a7:0<=A/\A<Y
 ·exact qfn
 rw[show fI A Y=false from yax a7,Bool.false_and]
 have bB:V (∀w,Calls prog 46 #[hI A,hI Y] w λe J=>e=.returned (.bool false)/\J=w):=λw=>by
  have:=iz A Y w
  rw[show fI A Y=false from yax a7]at this
  exact this
 clear a7;go_enter func45,ntmps45;go_wp2_with (first|(go_at_call 44;refine(bO.o _).mono ?_;rintro e af ⟨rfl,rfl⟩)|fail);refine(aT.o _).mono ?_;rintro e aX ⟨rfl,aU⟩;have m:=F.o.trans aU;have aJ:=aS.o.keep aU;have ba:=aJ.q0;have bD:=aJ.vt.c0;have d1:=aJ.vt.c1;have d2:=aJ.vt.c2;have aV:V _:=m;simp only at bD d1 d2;clear m aJ aU bl ae a9 ak e4 bx;exact xhm
theorem mN{p k}(O:k<xs.length)(h:(xs.take k).all p=true)(t:p (xs.getD k 0)=true):(xs.take (k+1)).all p=true:=by
 rw[yat O,List.all_append,h];rw[yah,yal O]at t;simpa using t
theorem nY{p k}(O:k<xs.length)(t:p (xs.getD k 0)=false):xs.all p=false:=by
 rw[yah,yal O]at t;rw[List.all_eq_false];exact⟨_,List.getElem_mem _,by simpa using t⟩
theorem CP{f:Int->Int}{k}(O:k<xs.length):(xs.map f).getD k 0=f (xs.getD k 0):=by
 simp[List.getD_eq_getElem?_getD,List.getElem?_eq_getElem O]
theorem bB.qbo(h:Zp:=by
 obtain⟨bD,d1,d2,d3,d4,d5⟩:=aJ.vt;have aV:V _:=m;have cd:V _:=aJ;clear m aJ aU aS F bl ae a9 ak e4 bx;simp only[Nat.zero_add]at d1 d2 d3 d4 d5;go_wp2_with fail;refine(m9 _ v).mono ?_;rintro e bm ⟨G,rfl,z,bq,P⟩;have bX:V _:=aV.o.trans P;have ch:V _:=cd.o.keep P;have a5:V (G+1=bm.heap.size):=bq;clear aV cd P bD d1 d2 d3 d4 d5 bq;have aq:cnt v.op<=3:=gK _;have az:=pJ (cnt v.op) bm xaa;have t:=IR.made bm (cnt v.op);have H:=ez 0 0 bm (.cells (madeCells #[hI 0] (cnt v.op)) 3);have x:V ((eW v).length=cnt v.op):=jP v;have aP:V (∀W a cap xs,IS W 0 W.heap.size a (cnt v.op) xs->Calls prog 72 #[v.agg,.slice a (cnt v.op) cap] W λe J=>e=.returned (.bool (eR v.op v.len v.c xs))/\Kept 0 0 W J):=λW a cap xs f=>qY W v.op v.len v.a v.b v.c v.k 0 W.heap.size a (cnt v.op) cap xs f rfl;generalize cnt v.op=q at aq az t H x aP z;generalize ef:eW v=s at x z;have et:V (eW v=s):=ef;clear ef;generalize X:bm.alloc (.cells (madeCells #[hI 0] q) 3)=bA at az t H;clear X;go_wp2_with fail;clear az;have B:V ((s.map λo:Int=>(vs.getD o.toNat hM).len).length=q):=by show(s.map _).length=q;rw[List.length_map];exact x.o
 have S:V (∀k,k<q->(s.map λo:Int=>(vs.getD o.toNat hM).len).getD k 0=(vs.getD (s.getD k 0).toNat hM).len):=λk O=>CP (hU x.o O);have al:V _:=z;go_loopw [51] (λR W=>∃k:Nat,k<=q/\R=hI k/\V ((s.take k).all (fI · i)=true)/\IR W bm.heap.size ((s.map λo:Int=>(vs.getD o.toNat hM).len).take k++(List.replicate q 0).drop k)/\Kept 0 0 bm W) (λR _=>q-(intOf R).toNat)
 case atStart=>exact⟨0,Nat.zero_le _,rfl,rfl,by simpa using t,H⟩
 case round=>
  obtain⟨k,O,rfl,a7,bu,r⟩:=hrel;clear t H;by_cases aF:k<q
  ·rcases z.at_ with bM|⟨aG,bF,b1,aZ,be,bz,bE⟩
   ·omega
   cases b1;have c1:=jh r bz (bE k aF);rw[Nat.zero_add]at c1;clear bE aZ be bz z;by_cases au:fI (s.getD k 0) i=true
   ·have am:=of_decide_eq_true au;obtain⟨j,hj⟩:∃j:Nat,s.getD k 0=j:=⟨(s.getD k 0).toNat,by omega⟩
    have ai:V _:=mN (p:=(fI · i)) (hU x.o aF) a7.o au;have K:=S.o k aF;rw[hj]at c1 au am K;rw[Int.toNat_natCast]at K;have C:j<i:=xaa
    have bB:V (∀w,Calls prog 46 #[hI j,hI i] w λe J=>e=.returned (.bool true)/\J=w):=λw=>by
     have:=iz (j:Int) i w
     rw[au]at this
     exact this
    have u:=(jh (bX.o.trans r) aW (bf.o j xaa).c1)
    have aO:=(ch.o.keep r).q1;have ax:=bu.free k;have a0:((s.map λo:Int=>(vs.getD o.toNat hM).len).take k++(List.replicate q 0).drop k).length=q:=by rw[yak,List.length_take,List.length_drop,B.o,List.length_replicate];omega
    have aN:=bu.cell k xaa;rw[<-K]at u;have R1:V _:=bu.set k ((s.map λo:Int=>(vs.getD o.toNat hM).len).getD k 0);have R2:V _:=r.new (eX (lo:=bm.heap.size) (hi:=bm.heap.size+1) wr ⟨bm.heap.size,k,none⟩ (hI ((s.map λo:Int=>(vs.getD o.toNat hM).len).getD k 0)) yac) yad;have R3:V _:=uR (s.map λo:Int=>(vs.getD o.toNat hM).len) (List.replicate q 0) k (hU B.o aF) (by rw[B.o];simp);generalize (s.map λo:Int=>(vs.getD o.toNat hM).len).getD k 0=y at u R1 R2 R3;clear K bu r a0 au am hj a7;go_wp2_with ((go_at_call 46;refine(bB.o _).mono ?_;rintro e af ⟨rfl,rfl⟩));go_roundw
    case rel=>
     refine⟨k+1,by omega,by go_num,ai,?_,R2.o⟩;have:=R1.o;rw[R3.o]at this;exact this
    case measure=>simp[intOf];omega
   have am:fI (s.getD k 0) i=false:=by simpa using au
   have aa:V (s.all (fI · i)=false):=nY (hU x.o aF) am
   have bB:V (∀w,Calls prog 46 #[hI (s.getD k 0),hI i] w λe J=>e=.returned (.bool false)/\J=w):=λw=>by
    have:=iz (s.getD k 0) i w
    rw[am]at this
    exact this
   have R2:V _:=bX.o.trans r;clear au am r bu a7;go_wp2_with ((go_at_call 46;refine(bB.o _).mono ?_;rintro e af ⟨rfl,rfl⟩));go_ret;exact⟨by rw[et.o,aa.o];rfl,R2.o⟩
  obtain rfl:k=q:=xaa
  have aa:V (s.all (fI · i)=true):=by
   have:=a7.o;rw[yao (hW x.o)]at this;exact this
  have Q:IR wr bm.heap.size (s.map λo:Int=>(vs.getD o.toNat hM).len):=by
   rw[yao (hW B.o),List.drop_of_length_le xac,List.append_nil]at bu;exact bu
  have bB:=Q.is;rw[B.o]at bB;have ap:V _:=λcap=>aP.o wr _ cap _ bB;have R2:V _:=bX.o.trans r;obtain⟨bD,d1,d2,d3,d4,d5⟩:=(ch.o.keep r).vt;simp only[Nat.zero_add]at d1 d2 d3 d4 d5;clear bB Q bu a7 r z;go_wp2_with fail;refine(ap.o _).mono ?_;rintro e bo ⟨rfl,ab⟩;have R3:V _:=R2.o.trans ab;clear ab bD d1 d2 d3 d4 d5;go_wp2;go_ret;exact⟨by rw[et.o,aa.o];rfl,R3.o⟩):Zp:=h
theorem bB.qfi(h:Zp:=by
 clear I aL;obtain⟨bl,ae,a9,ak,e4,bx⟩:=bg.keep aW aH yaa;have F:V _:=aH.trans (ez 0 0 _ (eK v.op v.len v.a v.b v.c v.k));have aS:V _:=qm w (.slice a1 Y c1) (.slice (some ⟨ag,bS,none⟩) U c2) (.slice a3 Z c3) v;clear bg aH;have bj:(v.op==0)=false:=yam aj;clear aj;exact qbn):Zp:=h
open bB in
theorem wz(w a1 a3 Y c1 U c2 Z c3 ag bS i v)(vs:List Vl)(aW:ag<w.heap.size)(hi:i<U)
  (I:∀k,k<U->At w ag (bS+k*6) (vs.getD k hM)) (aL:vs.getD i hM=v) (ah:lenB v.len=true) (ad:gg v=true) (aj:v.op≠0):
  Calls prog 45 #[eZ a1 Y c1 (some ⟨ag,bS,none⟩) U c2 a3 Z c3,hI i] w λe J=>e=.returned (.bool ((eW v).all (fI · i)&&eR v.op v.len v.c ((eW v).map λo=>(vs.getD o.toNat hM).len)))/\Kept 0 0 w J:=by
 have bO:V (∀w,Calls prog 44 #[hI v.len] w λe J=>e=.returned (.bool true)/\J=w):=λw=>by
  have:=gH v.len w
  rw[ah]at this
  exact this
 have aT:V (∀w,Calls prog 71 #[v.agg] w λe J=>e=.returned (.bool true)/\Kept 0 0 w J):=λw=>by
  have:=nW w v
  rw[ad]at this
  exact this
 clear ah ad;exact qfh
theorem E4(w a1 a2 a3 Y c1 U c2 Z c3 i ins vs outs)(f:GS w a1 Y a2 U a3 Z ins vs outs)(hi:i<U):
  Calls prog 45 #[eZ a1 Y c1 a2 U c2 a3 Z c3,hI i] w λe J=>e=.returned (.bool (okV ins vs i))/\Kept 0 0 w J:=by
 rcases f.v.at_ with aj|⟨ag,bS,rfl,N,aA,ab,aI⟩
 ·omega
 have bg:=aI i hi;unfold okV;generalize aL:vs.getD i hM=v at bg;cases ah:lenB v.len
 ·exact sX w a1 a3 Y c1 U c2 Z c3 ag bS i v ab hi bg ah
 cases ad:gg v
 ·exact sY w a1 a3 Y c1 U c2 Z c3 ag bS i v ab hi bg ah ad
 by_cases aj:v.op=0
 ·rw[hK aj,f.i.len];obtain⟨op,len,A,I,C,K⟩:=v;simp only at aj;subst aj;exact sZ w a1 a3 Y c1 U c2 Z c3 ag bS i len A I C K ins f.i ab hi bg ah ad
 rw[hJ aj];exact wz w a1 a3 Y c1 U c2 Z c3 ag bS i v vs ab hi aI aL ah ad aj
def fe:List Vl->Int
 |[]=>0
 |v::vs=>v.len+fe vs
def okG (ins:List Int)(vs:List Vl)(outs:List Int):Bool:=
 decide (ins.length<=20/\vs.length<=2000/\outs.length<=50)&&(ins.all lenB&&((List.range vs.length).all (okV ins vs)&&(outs.all (fI · vs.length)&&decide (fe vs<=50000))))
theorem py(xs v):fe (xs++[v])=fe xs+v.len:=by
 induction xs<;>grind [fe]
theorem mw{vs:List Vl}{k}(O:k<vs.length):fe (vs.take (k+1))=fe (vs.take k)+(vs.getD k hM).len:=by
 rw[yat O,py,yah,yal O];rfl
theorem kV{p k}(h:(List.range k).all p=true)(t:p k=true):(List.range (k+1)).all p=true:=by
 rw[List.range_succ,List.all_append,h];simpa using t
theorem lX{p k}(O:k<n)(t:p k=false):(List.range n).all p=false:=by
 rw[List.all_eq_false];exact⟨k,List.mem_range.2 O,by simpa using t⟩
theorem iu{vs i}(h:okV ins vs i=true):1<=(vs.getD i hM).len/\(vs.getD i hM).len<=1000:=by
 unfold okV at h;rw[Bool.and_eq_true,Bool.and_eq_true]at h;exact of_decide_eq_true h.1.1
structure G0 (W:World)(p:Nat)(b0 b1 b2:Value):Prop where
 sz:p<W.heap.size
 q0:W.cell? ⟨p,0,none⟩=some b0
 q1:W.cell? ⟨p,1,none⟩=some b1
 q2:W.cell? ⟨p,2,none⟩=some b2
theorem G0.keep{W}(t:G0 W p bb N aA)(k:Kept 0 0 W W'):G0 W' p bb N aA:=
 ⟨yaj t.sz k.size,jh k t.sz t.q0,jh k t.sz t.q1,jh k t.sz t.q2⟩
theorem fE(w:World)(bb N aA):G0 (w.alloc (.cells #[bb,N,aA] 26)) w.heap.size bb N aA:=by
 refine⟨?_,?_,?_,?_⟩;all_goals first|(go_simp;done)|(simp;done)
theorem cO.qcx(h:Zp:=by
 have aP:V _:=f.keep aH.o;have bi:V (ins.length=Y):=f.i.len;have C:V (vs.length=U):=f.v.len;have j:V (outs.length=Z):=f.o.len;clear f;go_enter func23,ntmps23;go_wp2_with fail;generalize t:w.alloc (.cells #[.slice a1 Y c1,.slice a2 U c2,.slice a3 Z c3] 26)=aB at aH aS aP⊢;clear t;go_loop [29] (λi=>∃k:Nat,k<=Y/\i=hI k/\V ((ins.take k).all lenB=true)) (λi=>Y-(intOf i).toNat)
 case atStart=>exact⟨0,Nat.zero_le _,rfl,rfl⟩
 case round=>
  obtain⟨k,O,rfl,a7⟩:=hrel;by_cases aF:k<Y
  ·rcases aP.o.i.at_ with bM|⟨aG,bF,b1,aZ,be,bz,bE⟩
   ·omega
   have c:=bE k aF;subst b1;clear aZ be bz bE;cases au:lenB (ins.getD k 0)
   ·have aa:V (ins.all lenB=false):=nY (hU bi.o aF) au
    have bB:V (∀w,Calls prog 44 #[hI (ins.getD k 0)] w λe J=>e=.returned (.bool false)/\J=w):=λw=>by
     have:=gH (ins.getD k 0) w
     rw[au]at this
     exact this
    generalize ins.getD k 0=y at c bB;clear au a7;go_wp2_with ((go_at_call 44;refine(bB.o _).mono ?_;rintro e af ⟨rfl,rfl⟩));go_ret;exact⟨hX aa.o,aH.o⟩
   have aa:V _:=mN (p:=lenB) (hU bi.o aF) a7.o au
   have bB:V (∀w,Calls prog 44 #[hI (ins.getD k 0)] w λe J=>e=.returned (.bool true)/\J=w):=λw=>by
    have:=gH (ins.getD k 0) w
    rw[au]at this
    exact this
   generalize ins.getD k 0=y at c bB;clear au a7;go_wp2_with ((go_at_call 44;refine(bB.o _).mono ?_;rintro e af ⟨rfl,rfl⟩));exact xdk
  have R1:V (ins.all lenB=true):=by
   have:=a7.o;rw[yao (hW bi.o)]at this;exact this
  clear a7;have aO:=aS.q1;go_wp2_with fail;clear aO;go_loopw [5,40] (λc i W=>∃k:Nat,k<=U/\i=hI k/\c=hI (fe (vs.take k))/\V (0<=fe (vs.take k)/\fe (vs.take k)<=1000*k)/\V ((List.range k).all (okV ins vs)=true)/\Kept 0 0 aB W) (λ_ i _=>U-(intOf i).toNat)
  case atStart=>exact⟨0,Nat.zero_le _,rfl,rfl,by constructor<;>simp[fe],rfl,Kept.refl _ _ _⟩
  case round=>
   obtain⟨ao,bY,rfl,rfl,hb,a7,r⟩:=hrel;by_cases aN:ao<U
   ·rcases aP.o.v.at_ with bM|⟨aG,bF,b1,aZ,be,bz,bE⟩
    ·omega
    have bg:=(bE ao aN).keep bz r yaa;have bv:V _:=λo=>E4 (wr.alloc o) a1 a2 a3 Y c1 U c2 Z c3 ao ins vs outs (aP.o.keep (r.trans (ez 0 0 wr o))) aN;have cq:V _:=r;have aT:V _:=mw (vs:=vs) (k:=ao) (hU C.o aN);clear aZ be bz bE r;cases au:okV ins vs ao
    ·have aa:V ((List.range U).all (okV ins vs)=false):=lX aN au;rw[au]at bv;generalize vs.getD ao hM=v at bg aT;obtain⟨bl,ae,a9,ak,e4,bx⟩:=bg;obtain⟨_,ba,aO,aR⟩:=aS.keep (cq.o.trans (ez 0 0 wr (eK v.op v.len v.a v.b v.c v.k)));clear au a7 aT;subst b1;go_wp2_with ((go_at_call 45;refine(bv.o _).mono ?_;rintro e af ⟨rfl,ab⟩));go_ret;exact⟨by rw[R1.o,aa.o];rfl,((aH.o.trans cq.o).trans (ez 0 0 _ _)).trans ab⟩
    have aa:V _:=kV a7.o au;have aI:V _:=iu au;rw[au]at bv;generalize vs.getD ao hM=v at bg aT aI;obtain⟨bl,ae,a9,ak,e4,bx⟩:=bg;obtain⟨_,ba,aO,aR⟩:=aS.keep (cq.o.trans (ez 0 0 wr (eK v.op v.len v.a v.b v.c v.k)));clear au a7;subst b1;go_wp2_with fail;refine(bv.o _).mono ?_;rintro e af ⟨rfl,ab⟩;have cf:af.cell? ⟨wr.heap.size,1,none⟩=some (hI v.len):=jh ab xac xac;have R2:V _:=(cq.o.trans (ez 0 0 _ _)).trans ab;clear ab ba aO aR bl ae a9 ak e4 bx;have bO:-1000000000<=fe (vs.take ao)+v.len:=hS hb.o aI.o
    have b9:fe (vs.take ao)+v.len<=1000000000:=hS hb.o aI.o
    have u:V (0<=fe (vs.take (ao+1))/\fe (vs.take (ao+1))<=1000*((ao+1:Nat):Int)):=by
     exact xkq
    generalize S:fe (vs.take ao)=b3 at bO b9 aT;clear hb S;go_wp2;go_roundw
    case rel=>exact⟨ao+1,by omega,by go_num,by rw[aT.o],u,aa,R2.o⟩
    case measure=>simp[intOf];omega
   have R2:V ((List.range U).all (okV ins vs)=true):=by
    have:=a7.o;rw[show ao=U by omega]at this;exact this
   have R3:V (fe (vs.take ao)=fe vs):=by
    show fe (vs.take ao)=fe vs;rw[yao (hW C.o)]
   have b5:=aS.keep r;have aK:V _:=aP.o.keep r;have cq:V _:=aH.o.trans r;have aO:=b5.q1;have aR:=b5.q2;clear a7 r;go_wp2_with fail;go_loop [57] (λi=>∃k:Nat,k<=Z/\i=hI k/\V ((outs.take k).all (fI · U)=true)) (λi=>Z-(intOf i).toNat)
   case atStart=>exact⟨0,Nat.zero_le _,rfl,rfl⟩
   case round=>
    obtain⟨aM,aU,rfl,a7⟩:=hrel;by_cases b6:aM<Z
    ·rcases aK.o.o.at_ with bM|⟨aG,bF,b1,aZ,be,bz,bE⟩
     ·omega
     have c:=bE aM b6;subst b1;clear aZ be bz bE;cases au:fI (outs.getD aM 0) U
     ·have aa:V (outs.all (fI · U)=false):=nY (hU j.o b6) au
      have bB:V (∀w,Calls prog 46 #[hI (outs.getD aM 0),hI U] w λe J=>e=.returned (.bool false)/\J=w):=λw=>by
       have:=iz (outs.getD aM 0) U w
       rw[au]at this
       exact this
      generalize outs.getD aM 0=y at c bB;clear au a7;go_wp2_with ((go_at_call 46;refine(bB.o _).mono ?_;rintro e af ⟨rfl,rfl⟩));go_ret;exact⟨by rw[R1.o,R2.o,aa.o];rfl,cq.o⟩
     have aa:V _:=mN (p:=(fI · U)) (hU j.o b6) a7.o au
     have bB:V (∀w,Calls prog 46 #[hI (outs.getD aM 0),hI U] w λe J=>e=.returned (.bool true)/\J=w):=λw=>by
      have:=iz (outs.getD aM 0) U w
      rw[au]at this
      exact this
     generalize outs.getD aM 0=y at c bB;clear au a7;go_wp2_with ((go_at_call 46;refine(bB.o _).mono ?_;rintro e af ⟨rfl,rfl⟩));go_round
     case rel=>exact⟨aM+1,by omega,by go_num,aa⟩
     case measure=>simp[intOf];omega
    have bm:V (outs.all (fI · U)=true):=by
     exact xjx
    clear a7;go_wp2;go_ret;exact⟨by rw[R1.o,R2.o,bm.o,<-R3.o];rfl,cq.o⟩):Zp:=h
open cO in
theorem wC(w a1 a2 a3 Y c1 U c2 Z c3 ins vs outs)(f:GS w a1 Y a2 U a3 Z ins vs outs)(B:Y<=20)(R:U<=2000)(h3:Z<=50):
  Calls prog 23 #[eZ a1 Y c1 a2 U c2 a3 Z c3] w λe J=>e=.returned (.bool (ins.all lenB&&((List.range U).all (okV ins vs)&&(outs.all (fI · U)&&decide (fe vs<=50000)))))/\Kept 0 0 w J:=by
 exact qcw
theorem se(w a1 a2 a3 Y c1 U c2 Z c3)(h:¬(Y<=20/\U<=2000/\Z<=50)):
  Calls prog 23 #[eZ a1 Y c1 a2 U c2 a3 Z c3] w λe J=>e=.returned (.bool false)/\Kept 0 0 w J:=by
 by_cases B:Y<=20
 ·by_cases R:U<=2000
  ·have h3:50<Z:=xaa;clear h;go_enter func23,ntmps23;go_wp2;go_ret;exact⟨rfl,ez _ _ _ _⟩
  have h3:2000<U:=xaa;clear h R;exact xjo
 have h3:20<Y:=xaa;clear h B;exact xjo
theorem uS(w a1 a2 a3 Y c1 U c2 Z c3 ins vs outs)(f:GS w a1 Y a2 U a3 Z ins vs outs):
  Calls prog 23 #[eZ a1 Y c1 a2 U c2 a3 Z c3] w λe J=>e=.returned (.bool (okG ins vs outs))/\Kept 0 0 w J:=by
 unfold okG;rw[f.i.len,f.v.len,f.o.len];by_cases h:Y<=20/\U<=2000/\Z<=50
 ·rw[decide_eq_true h,Bool.true_and];exact wC w a1 a2 a3 Y c1 U c2 Z c3 ins vs outs f h.1 h.2.1 h.2.2
 rw[yax h,Bool.false_and];exact se w a1 a2 a3 Y c1 U c2 Z c3 h
structure IBk (w:World)(g n:Nat)(xs:List Int):Prop where
 len:xs.length=n
 lt:g<w.heap.size
 at_:∀k,k<n->w.cell? ⟨g,k,none⟩=some (.int .i64 (xs.getD k 0))
 free:∀o,w.frozen? ⟨g,o,none⟩=false
theorem IBk.keep(f:IBk w g n xs)(k:Kept l h w J)(aV:g<l\/h<=g\/h<=l):IBk J g n xs:=
 ⟨f.len,yaj f.lt k.size,λj hj=>by rw[k.cell f.lt (by grind)];exact f.at_ j hj,λo=>by rw[k.frozen f.lt (by grind)];exact f.free o⟩
theorem IBk.put{w g n xs}(f:IBk w g n xs)(j)(hj:j<n)(x):IBk (w.setCell ⟨g,j,none⟩ (hI x)) g n (xs.set j x) where
 len:=by rw[List.length_set];exact f.len
 lt:=by simpa using f.lt
 at_:=λk O=>by
  rw[yah,List.getElem?_set]
  by_cases e:j=k
  ·subst e
   rw[hK rfl,hK (hU f.len hj)]
   exact fJ _ _ _ _ _ (f.at_ j hj)
  ·rw[hJ e,eO _ _ _ _ _ _ (.inr e),<-yah]
   exact f.at_ k O
 free:=λo=>by simp[f.free o]
