import Derived.Test.YtaheilbiakhlgaaGreatP04
namespace Go.Proofs.Z
variable{Zp:Prop}
open Tryz
set_option maxRecDepth 1000000
set_option maxHeartbeats 0
open Go.RowKit Flt
attribute[local go_sem] eF eE eD
variable{w J W':World}{lo g p hi lo' l n hi' h:Nat}{xs ins:List Int}{a9 N aD:Value}
theorem jC{W}(h:Kept 0 0 w W){o}(aQ:g<w.heap.size){v}(ak:w.cell? ⟨g,o,none⟩=some v):W.cell? ⟨g,o,none⟩=some v:=by
 rw[h.cell aQ xaa];exact ak
structure Vl where
 op:Int
 len:Int
 a:Int
 b:Int
 c:Int
 k:Nat
def Vl.cells(v:Vl):List Value:=[.int .i64 v.op,.int .i64 v.len,.int .i64 v.a,.int .i64 v.b,.int .i64 v.c,.float .f64 v.k]
def hK:Vl:=⟨0,0,0,0,0,0⟩
abbrev Vl.agg(v:Vl):Value:=gO v.op v.len v.a v.b v.c v.k
structure At(w:World)(g o:Nat)(v:Vl):Prop where
 c0:w.cell? ⟨g,o,none⟩=some (.int .i64 v.op)
 c1:w.cell? ⟨g,o+1,none⟩=some (.int .i64 v.len)
 c2:w.cell? ⟨g,o+2,none⟩=some (.int .i64 v.a)
 c3:w.cell? ⟨g,o+3,none⟩=some (.int .i64 v.b)
 c4:w.cell? ⟨g,o+4,none⟩=some (.int .i64 v.c)
 c5:w.cell? ⟨g,o+5,none⟩=some (.float .f64 v.k)
theorem rK:(prog.info? 40).map (λi=>(i.zero,i.size,i.bytes))=some (some (gO 0 0 0 0 0 0),6,48):=by kernel_rfl
structure VA(w:World)(g n:Nat)(vs:List Vl):Prop where
 len:vs.length=n
 lt:g<w.heap.size
 at_:∀k,k<n->At w g (k*6) (vs.getD k hK)
 free:∀o,w.frozen? ⟨g,o,none⟩=false
abbrev uf(w:World)(g o:Nat)(v:Vl):World:=
 (((((w.setCell ⟨g,o,none⟩ (.int .i64 v.op)).setCell ⟨g,o+1,none⟩ (.int .i64 v.len)).setCell ⟨g,o+2,none⟩ (.int .i64 v.a)).setCell ⟨g,o+3,none⟩ (.int .i64 v.b)).setCell ⟨g,o+4,none⟩ (.int .i64 v.c)).setCell ⟨g,o+5,none⟩ (.float .f64 v.k)
theorem eN(w:World)(g aA a b v)(h:g≠aA\/a≠b):(w.setCell ⟨g,a,none⟩ v).cell? ⟨aA,b,none⟩=w.cell? ⟨aA,b,none⟩:=
 World.cell?_setCell_other w ⟨g,a,none⟩ ⟨aA,b,none⟩ v (by grind)
theorem fR(w:World)(g a v u)(h:w.cell? ⟨g,a,none⟩=some u):(w.setCell ⟨g,a,none⟩ v).cell? ⟨g,a,none⟩=some v:=World.cell?_setCell_same w ⟨g,a,none⟩ v h
theorem lE(w g o aA b v)(h:g≠aA\/b<o\/o+6<=b):(uf w g o v).cell? ⟨aA,b,none⟩=w.cell? ⟨aA,b,none⟩:=by
 unfold uf;rw[eN _ _ _ _ _ _ xaa,eN _ _ _ _ _ _ xaa,eN _ _ _ _ _ _ xaa,eN _ _ _ _ _ _ xaa,eN _ _ _ _ _ _ xaa,eN _ _ _ _ _ _ xaa]
theorem IG(w g o u v)(h:At w g o u):At (uf w g o v) g o v:=by
 unfold uf;refine⟨?_,?_,?_,?_,?_,?_⟩
 ·rw[eN _ _ _ _ _ _ xaa,eN _ _ _ _ _ _ xaa,eN _ _ _ _ _ _ xaa,eN _ _ _ _ _ _ xaa,eN _ _ _ _ _ _ xaa];exact fR _ _ _ _ _ h.c0
 ·rw[eN _ _ _ _ _ _ xaa,eN _ _ _ _ _ _ xaa,eN _ _ _ _ _ _ xaa,eN _ _ _ _ _ _ xaa];exact fR _ _ _ _ _ (by rw[eN _ _ _ _ _ _ xaa];exact h.c1)
 ·rw[eN _ _ _ _ _ _ xaa,eN _ _ _ _ _ _ xaa,eN _ _ _ _ _ _ xaa];exact fR _ _ _ _ _ (by rw[eN _ _ _ _ _ _ xaa,eN _ _ _ _ _ _ xaa];exact h.c2)
 ·rw[eN _ _ _ _ _ _ xaa,eN _ _ _ _ _ _ xaa];exact fR _ _ _ _ _ (by rw[eN _ _ _ _ _ _ xaa,eN _ _ _ _ _ _ xaa,eN _ _ _ _ _ _ xaa];exact h.c3)
 ·rw[eN _ _ _ _ _ _ xaa];exact fR _ _ _ _ _ (by rw[eN _ _ _ _ _ _ xaa,eN _ _ _ _ _ _ xaa,eN _ _ _ _ _ _ xaa,eN _ _ _ _ _ _ xaa];exact h.c4)
 exact fR _ _ _ _ _ (by rw[eN _ _ _ _ _ _ xaa,eN _ _ _ _ _ _ xaa,eN _ _ _ _ _ _ xaa,eN _ _ _ _ _ _ xaa,eN _ _ _ _ _ _ xaa];exact h.c5)
theorem oU(w g o v):Kept g (g+1) w (uf w g o v):=by
 unfold uf;have k:∀(w:World) (a:Nat) (u:Value),Kept g (g+1) w _:=λw a u=>eU w ⟨g,a,none⟩ u yac;exact((((k _ _ _).trans (k _ _ _)).trans (k _ _ _)).trans (k _ _ _)).trans (k _ _ _) |>.trans (k _ _ _)
theorem At.keep{o v}(a:At w g o v)(aQ:g<w.heap.size)(k:Kept l h w J)(G:g<l\/h<=g\/h<=l):At J g o v:=by
 have e:∀b,_:=λb=>k.cell (p:=⟨g,b,none⟩) aQ (by grind);exact⟨hR e a.c0,hR e a.c1,hR e a.c2,hR e a.c3,hR e a.c4,hR e a.c5⟩
theorem VA.keep{vs}(f:VA w g n vs)(k:Kept l h w J)(G:g<l\/h<=g\/h<=l):VA J g n vs:=
 ⟨f.len,yaj f.lt k.size,λi hi=>(f.at_ i hi).keep f.lt k G,λo=>by rw[k.frozen f.lt (by grind)];exact f.free o⟩
theorem VA.step{vs}(f:VA w g n vs)(k)(O:k<n)(v):VA (uf w g (k*6) v) g n (vs.set k v) where
 len:=by rw[List.length_set];exact f.len
 lt:=yaj f.lt (oU w g (k*6) v).size
 at_:=λi hi=>by
  rw[yah,List.getElem?_set]
  by_cases e:k=i
  ·subst e
   rw[hI rfl,hI (hR f.len O)]
   exact IG w g _ _ v (f.at_ k O)
  ·rw[hG e,<-yah]
   have a:=f.at_ i hi
   have o:∀b,i*6<=b->b<i*6+6->_:=λb B U=>lE w g (k*6) g b v (by right;omega)
   exact⟨by rw[o _ xaa xaa];exact a.c0,by rw[o _ xaa xaa];exact a.c1,by rw[o _ xaa xaa];exact a.c2,by rw[o _ xaa xaa];exact a.c3,by rw[o _ xaa xaa];exact a.c4,by rw[o _ xaa xaa];exact a.c5⟩
 free:=λo=>by simp[uf,f.free o]
structure VS(w:World)(lo hi:Nat)(a:Option Addr)(n:Nat)(vs:List Vl):Prop where
 len:vs.length=n
 lt:∀v∈vs,v.k<18446744073709551616
 at_:n=0\/∃g off,a=some ⟨g,off,none⟩/\lo<=g/\g<hi/\g<w.heap.size/\∀k,k<n->At w g (off+k*6) (vs.getD k hK)
theorem VS.keep{a vs}(f:VS w lo hi a n vs)(k:Kept l h w J)(G:hi<=l\/h<=lo\/h<=l):VS J lo hi a n vs:=
 ⟨f.len,f.lt,by
  rcases f.at_ with ai|⟨g,off,e,B,U,h3,a6⟩
  ·exact .inl ai
  ·exact .inr ⟨g,_,e,B,U,yaj h3 k.size,λj hj=>(a6 j hj).keep h3 k xaa⟩⟩
theorem VA.vs{vs}(f:VA w g n vs)(ah:∀v∈vs,v.k<18446744073709551616):VS w 0 w.heap.size (some ⟨g,0,none⟩) n vs:=
 ⟨f.len,ah,.inr ⟨g,0,rfl,Nat.zero_le _,f.lt,f.lt,λk O=>by rw[Nat.zero_add];exact f.at_ k O⟩⟩
def IR(w:World)(g:Nat)(xs:List Int):Prop:=w.heap[g]? =some (.cells (xs.map (Value.int .i64)).toArray 3 (0,0))
theorem IR.lt(h:IR w g xs):g<w.heap.size:=by
 grind[IR]
theorem IR.cell(h:IR w g xs)(k)(O:k<xs.length):w.cell? ⟨g,k,none⟩=some (hF (xs.getD k 0)):=by
 rw[cell_of_row w g k _ _ _ h];grind
theorem IR.free(h:IR w g xs)(k):w.frozen? ⟨g,k,none⟩=false:=frozen_of_row w g k _ _ h
theorem IR.keep(f:IR w g xs)(k:Kept l h w J)(G:g<l\/h<=g\/h<=l):IR J g xs:=by
 unfold IR;rw[k.block g f.lt xaa];exact f
theorem IR.set(h:IR w g xs)(k x):IR (w.setCell ⟨g,k,none⟩ (hF x)) g (xs.set k x):=by
 unfold IR at h⊢;exact qdk
theorem IR.is(h:IR w g xs):IS w 0 w.heap.size (some ⟨g,0,none⟩) xs.length xs:=
 ⟨rfl,.inr ⟨g,0,rfl,Nat.zero_le _,h.lt,h.lt,λk O=>by rw[Nat.zero_add];exact h.cell k O⟩⟩
theorem IR.made(w:World)(n):IR (w.alloc (.cells (madeCells #[hF 0] n) 3)) w.heap.size (List.replicate n 0):=by
 unfold IR;rw[heap_alloc_new]
 have:(madeCells #[hF 0] n)=(List.map (Value.int .i64) (List.replicate n 0)).toArray:=by
  apply Array.toList_inj.1;rw[toList_madeCells_one];simp
 rw[this]
theorem qk:(prog.info? 3).map (λi=>(i.zero,i.size,i.bytes))=some (some (hF 0),1,8):=by kernel_rfl
theorem uz(xs bc:List Int)(k)(O:k<xs.length)(ah:bc.length=xs.length):
  (xs.take k++bc.drop k).set k (xs.getD k 0)=xs.take (k+1)++bc.drop (k+1):=by
 apply List.ext_getElem?;intro i;simp only[List.getElem?_set,yak,List.length_take,List.length_drop,List.getElem?_append,List.getElem?_take,List.getElem?_drop,yah];rcases Nat.lt_trichotomy i k with h|h|h
 ·rw[hG xaa,hI xaa,hI xaa,hI xaa,hI xaa]
 ·subst h;rw[hI rfl,hI xaa,hI xaa,hI xaa,yal O];rfl
 rw[hG xaa,hG xaa,hG xaa];congr 1;omega
theorem q7(n:Nat)(w)(hn:n<=1099511627776):
  (Instr.makeSlice 23 (hF n) (hF n)).run prog w=.ok (hE w.heap.size n n) (w.alloc (.cells (madeCells #[hF 0] n) 3)):=by
 obtain⟨i,hi,bn,bQ,br⟩:=info_parts qk;have:=run_make w 23 3 i _ underlying23 hi bn .i64 .i64 n n xaa xaa (by grind) xaa;exact qct
abbrev eX(a1:Option Addr)(n1 c1:Nat)(a2:Option Addr)(n2 c2:Nat)(a3:Option Addr)(n3 c3:Nat):Value:=.agg #[.slice a1 n1 c1,.slice a2 n2 c2,.slice a3 n3 c3]
structure GS(w:World)(a1:Option Addr)(n1:Nat)(a2:Option Addr)(n2:Nat)(a3:Option Addr)(n3:Nat)(ins:List Int)(vs:List Vl)(outs:List Int):Prop where
 i:IS w 0 w.heap.size a1 n1 ins
 v:VS w 0 w.heap.size a2 n2 vs
 o:IS w 0 w.heap.size a3 n3 outs
theorem IS.mono{a}(f:IS w lo hi a n xs)(B:lo'<=lo)(U:hi<=hi'):IS w lo' hi' a n xs:=
 ⟨f.len,by
  rcases f.at_ with ai|⟨g,off,e,a1,Z,a3,a4⟩<;>grind⟩
theorem VS.mono{a vs}(f:VS w lo hi a n vs)(B:lo'<=lo)(U:hi<=hi'):VS w lo' hi' a n vs:=
 ⟨f.len,f.lt,by
  rcases f.at_ with ai|⟨g,off,e,a1,Z,a3,a4⟩<;>grind⟩
theorem GS.keep{a1 Z a3 Y ab aa vs outs}(f:GS w a1 Y Z ab a3 aa ins vs outs)(k:Kept 0 0 w J):GS J a1 Y Z ab a3 aa ins vs outs:=
 ⟨(f.i.keep k yaa).mono yad k.size,(f.v.keep k yaa).mono yad k.size,(f.o.keep k yaa).mono yad k.size⟩
structure IE(w:World)(g:Nat)(xs:List Int):Prop where
 lt:g<w.heap.size
 cell:∀k,k<xs.length->w.cell? ⟨g,k,none⟩=some (.int .i64 (xs.getD k 0))
theorem IE.keep(f:IE w g xs)(k:Kept l h w J)(G:g<l\/h<=g\/h<=l):IE J g xs:=
 ⟨yaj f.lt k.size,λj hj=>by rw[k.cell f.lt (by show ¬(l<=g/\g<h);omega)];exact f.cell j hj⟩
theorem IE.is(h:IE w g xs):IS w 0 w.heap.size (some ⟨g,0,none⟩) xs.length xs:=
 ⟨rfl,.inr ⟨g,0,rfl,Nat.zero_le _,h.lt,h.lt,λk O=>by rw[Nat.zero_add];exact h.cell k O⟩⟩
theorem fh(w g x y z):Kept g (g+1) w (((w.setCell ⟨g,0,none⟩ x).setCell ⟨g,1,none⟩ y).setCell ⟨g,2,none⟩ z):=by
 have k:∀(w:World) (a:Nat) (u:Value),Kept g (g+1) w _:=λw a u=>eU w ⟨g,a,none⟩ u yac;exact((k _ _ _).trans (k _ _ _)).trans (k _ _ _)
theorem nW(w W)(k:Kept 0 0 w W)(g o v)(h:w.heap.size<=g):Kept 0 0 w (W.setCell ⟨g,o,none⟩ v):=
 k.new (eU (lo:=g) (hi:=g+1) W ⟨g,o,none⟩ v yac) h
def iY(op:Int):Bool:=decide (op=11\/op=12)
theorem EH(op w):Calls prog 129 #[hF op] w λe J=>e=.returned (.bool (iY op))/\J=w:=by
 by_cases B:op=11
 ·subst B;exact xhf
 by_cases U:op=12
 ·subst U;exact xhf
 rw[show iY op=false from yax xaa];have aO:(op==11)=false:=yam B;have aX:(op==12)=false:=yam U;clear B U;exact xhf
def gC(v:Vl):Bool:=!(((decide (cnt v.op<1)&&v.op !=0)&&v.a !=0)||(decide (cnt v.op<2)&&v.b !=0)||((decide (cnt v.op<3)&&!iY v.op)&&v.c !=0))
theorem Cw(w op len A I C K n)(hn:n<=3)(p)(bg:V (∀w,Calls prog 83 #[hF op] w λe J=>e=.returned (hF (n:Nat))/\J=w))
  (aQ:V (∀w,Calls prog 129 #[hF op] w λe J=>e=.returned (.bool p)/\J=w)):
  Calls prog 81 #[gO op len A I C K] w λe J=>e=.returned (.bool (!(((decide (n<1)&&op !=0)&&A !=0)||(decide (n<2)&&I !=0)||((decide (n<3)&&!p)&&C !=0))))/\Kept 0 0 w J:=by
 rcases (by omega:n=0\/n=1\/n=2\/n=3) with rfl|rfl|rfl|rfl
 all_goals
  go_enter func81,ntmps81
  go_wp2_with (first|(go_at_call 83;refine(bg.o _).mono ?_;rintro e ag ⟨rfl,rfl⟩)|(go_at_call 129;refine(aQ.o _).mono ?_;rintro e ag ⟨rfl,rfl⟩))
  all_goals
   go_ret
   exact⟨by simp_all,ez _ _ _ _⟩
theorem nY(w v):Calls prog 81 #[v.agg] w λe J=>e=.returned (.bool (gC v))/\Kept 0 0 w J:=
 Cw w v.op v.len v.a v.b v.c v.k (cnt v.op) (gK _) (iY v.op) (λw=>qg _ w) (λw=>EH _ w)
def eY(v:Vl):List Int:=[v.a,v.b,v.c].take (cnt v.op)
theorem ja(v):(eY v).length=cnt v.op:=by
 have:=gK v.op;simp[eY];omega
theorem pH(w v):Calls prog 54 #[v.agg] w λe J=>∃g,e=.returned (hE g (cnt v.op) 3)/\IS J w.heap.size J.heap.size (some ⟨g,0,none⟩) (cnt v.op) (eY v)/\g+1=J.heap.size/\Kept 0 0 w J:=by
 have aB:=gK v.op;have bn:V _:=(vZ (w.alloc (eM v.op v.len v.a v.b v.c v.k)) v.a v.b v.c).prefix _ aB;have bg:V _:=qg v.op;generalize ao:cnt _=q at bn bg aB;have a9:(0:Int)<=q:=xaa;have N:(q:Int)<=3:=xaa;go_enter func54,ntmps54;go_wp2_with fail
 go_region_held3 (λJ=>J.cell? ⟨w.heap.size,0,none⟩=some (hF v.op)/\J.cell? ⟨w.heap.size,2,none⟩=some (hF v.a)/\J.cell? ⟨w.heap.size,3,none⟩=some (hF v.b)/\J.cell? ⟨w.heap.size,4,none⟩=some (hF v.c)) (go_keep)
  ((go_at_call 83;refine(bg.o _).mono ?_;rintro e ag ⟨rfl,rfl⟩))
 all_goals
  go_wp2
  go_ret
  have B:(w.alloc (eM v.op v.len v.a v.b v.c v.k)).heap.size=w.heap.size+1:=by simp
  have f:=bn.o
  rw[B]at f
  refine⟨_,rfl,⟨f.len.trans rfl |> λe=>by rw[eY,ao];exact e,?_⟩,?_,?_⟩
  ·rcases f.at_ with ai|⟨g,off,e,a1,Z,a3,a4⟩
   ·exact .inl ai
   ·cases e
    refine .inr ⟨_,_,rfl,Nat.le_succ _,?_,?_,λk O=>?_⟩
    ·exact a3
    ·exact a3
    ·rw[eY,ao];exact a4 k O
  ·show w.heap.size+1+1=((w.alloc _).alloc _).heap.size
   simp
  ·exact((ez 0 0 w _).trans (ez 0 0 _ _)).trans (eL 0 0 _ 1)
def okV(ins:List Int)(vs:List Vl)(i:Nat):Bool:=
 (lenB (vs.getD i hK).len&&gC (vs.getD i hK))&&
  (if (vs.getD i hK).op=0 then fN (vs.getD i hK).a ins.length&&(vs.getD i hK).len==ins.getD (vs.getD i hK).a.toNat 0
   else (eY (vs.getD i hK)).all (fN · i)&&eR (vs.getD i hK).op (vs.getD i hK).len (vs.getD i hK).c ((eY (vs.getD i hK)).map λo=>(vs.getD o.toNat hK).len))
abbrev eZ(a1:Option Addr)(n1 c1:Nat)(a2:Option Addr)(n2 c2:Nat)(a3:Option Addr)(n3 c3:Nat):Obj:=.cells #[.slice a1 n1 c1,.slice a2 n2 c2,.slice a3 n3 c3] 26
theorem sG(w a1 a3 Y c1 ab c2 aa c3 aC bO i v)(aQ:aC<w.heap.size)(hi:i<ab)(bm:At w aC (bO+i*6) v)(ah:lenB v.len=false):
  Calls prog 52 #[eX a1 Y c1 (some ⟨aC,bO,none⟩) ab c2 a3 aa c3,hF i] w λe J=>e=.returned (.bool false)/\Kept 0 0 w J:=by
 have bQ:V (∀w,Calls prog 51 #[hF v.len] w λe J=>e=.returned (.bool false)/\J=w):=λw=>by
  have:=gI v.len w
  rw[ah]at this
  exact this
 clear ah;have ar:=ez 0 0 w (eZ a1 Y c1 (some ⟨aC,bO,none⟩) ab c2 a3 aa c3);obtain⟨bg,af,a0,aj,e4,bW⟩:=bm.keep aQ ar yaa;clear bm ar;go_enter func52,ntmps52;go_wp2_with (go_at_call 51;refine(bQ.o _).mono ?_;rintro e ag ⟨rfl,rfl⟩);go_ret;exact⟨rfl,(ez 0 0 w _).trans (ez 0 0 _ _)⟩
theorem sH(w a1 a3 Y c1 ab c2 aa c3 aC bO i v)(aQ:aC<w.heap.size)(hi:i<ab)(bm:At w aC (bO+i*6) v)(ah:lenB v.len=true)(ae:gC v=false):
  Calls prog 52 #[eX a1 Y c1 (some ⟨aC,bO,none⟩) ab c2 a3 aa c3,hF i] w λe J=>e=.returned (.bool false)/\Kept 0 0 w J:=by
 have bQ:V (∀w,Calls prog 51 #[hF v.len] w λe J=>e=.returned (.bool true)/\J=w):=λw=>by
  have:=gI v.len w
  rw[ah]at this
  exact this
 have aU:V (∀w,Calls prog 81 #[v.agg] w λe J=>e=.returned (.bool false)/\Kept 0 0 w J):=λw=>by
  have:=nY w v
  rw[ae]at this
  exact this
 clear ah ae;have ar:=ez 0 0 w (eZ a1 Y c1 (some ⟨aC,bO,none⟩) ab c2 a3 aa c3);obtain⟨bg,af,a0,aj,e4,bW⟩:=bm.keep aQ ar yaa;clear bm ar;go_enter func52,ntmps52;go_wp2_with (first|(go_at_call 51;refine(bQ.o _).mono ?_;rintro e ag ⟨rfl,rfl⟩)|(go_at_call 81;refine(aU.o _).mono ?_;rintro e ag ⟨rfl,bZ⟩));go_ret;exact⟨rfl,((ez 0 0 w _).trans (ez 0 0 _ _)).trans bZ⟩
structure GB(W:World)(p:Nat)(b0 b1 b2:Value)(v:Vl):Prop where
 sz:p+1<W.heap.size
 q0:W.cell? ⟨p,0,none⟩=some b0
 q1:W.cell? ⟨p,1,none⟩=some b1
 q2:W.cell? ⟨p,2,none⟩=some b2
 vt:At W (p+1) 0 v
theorem GB.keep{W v}(t:GB W p a9 N aD v)(k:Kept 0 0 W W'):GB W' p a9 N aD v:=by
 have e:∀g o,g<=p+1->_:=λg o h=>k.cell (p:=⟨g,o,none⟩) (Nat.lt_of_le_of_lt h t.sz) xaa;exact⟨yaj t.sz k.size,by rw[e _ _ xaa];exact t.q0,by rw[e _ _ xaa];exact t.q1,by rw[e _ _ xaa];exact t.q2,t.vt.keep t.sz k yaa⟩
theorem ql(w:World)(a9 N aD v):GB ((w.alloc (.cells #[a9,N,aD] 26)).alloc (eM v.op v.len v.a v.b v.c v.k)) w.heap.size a9 N aD v:=by
 have B:(w.alloc (.cells #[a9,N,aD] 26)).heap.size=w.heap.size+1:=by simp
 refine⟨?_,?_,?_,?_,?_,?_,?_,?_,?_,?_⟩;all_goals first|(go_simp;done)|(simp;done)
theorem bE.qbs(h:Zp:=by
 have a7:=aI.q0;have bw:=aI.vt.c0;have d1:=aI.vt.c1;have d2:=aI.vt.c2;have c1:=jC m ad c0;have bX:V _:=m;simp only at bw d1 d2;clear m aI aR c0 bg af a0 aj e4 bW;have b8:0<=(j:Int):=xaa;have Q:(j:Int)<Y:=xaa;exact xhg):Zp:=h
theorem bE.qfz(h:Zp:=by
 have bn:V (∀w,Calls prog 53 #[hF j,hF Y] w λe J=>e=.returned (.bool true)/\J=w):=λw=>by
  have:=it (j:Int) Y w
  rw[show fN (j:Int) Y=true from decide_eq_true a2]at this
  exact this
 clear a2;rcases f.at_ with ai|⟨bG,bV,rfl,N,aD,ad,an⟩
 ·omega
 have c0:=an j hj;clear an f N aD;generalize ins.getD j 0=y at c0⊢;exact qbr):Zp:=h
open bE in
theorem sI(w a1 a3 Y c1 ab c2 aa c3 aC bO i len A I C K ins)(f:IS w 0 w.heap.size a1 Y ins)(aQ:aC<w.heap.size)(hi:i<ab)(bm:At w aC (bO+i*6) ⟨0,len,A,I,C,K⟩)(ah:lenB len=true)(ae:gC ⟨0,len,A,I,C,K⟩=true):
  Calls prog 52 #[eX a1 Y c1 (some ⟨aC,bO,none⟩) ab c2 a3 aa c3,hF i] w λe J=>e=.returned (.bool (fN A Y&&len==ins.getD A.toNat 0))/\Kept 0 0 w J:=by
 have bQ:V (∀w,Calls prog 51 #[hF len] w λe J=>e=.returned (.bool true)/\J=w):=λw=>by
  have:=gI len w
  rw[ah]at this
  exact this
 have aU:V (∀w,Calls prog 81 #[gO 0 len A I C K] w λe J=>e=.returned (.bool true)/\Kept 0 0 w J):=λw=>by
  have:=nY w ⟨0,len,A,I,C,K⟩
  rw[ae]at this
  exact this
 clear ah ae;have ar:=ez 0 0 w (eZ a1 Y c1 (some ⟨aC,bO,none⟩) ab c2 a3 aa c3);obtain⟨bg,af,a0,aj,e4,bW⟩:=bm.keep aQ ar yaa;have P:V _:=ar.trans (ez 0 0 _ (eM 0 len A I C K));have aT:V _:=ql w (.slice a1 Y c1) (.slice (some ⟨aC,bO,none⟩) ab c2) (.slice a3 aa c3) ⟨0,len,A,I,C,K⟩;clear bm ar;simp only at bg af a0 aj e4 bW;by_cases a2:0<=A/\A<Y
 ·exact qfy
 rw[show fN A Y=false from yax a2,Bool.false_and]
 have bn:V (∀w,Calls prog 53 #[hF A,hF Y] w λe J=>e=.returned (.bool false)/\J=w):=λw=>by
  have:=it A Y w
  rw[show fN A Y=false from yax a2]at this
  exact this
 clear a2;go_enter func52,ntmps52;go_wp2_with (first|(go_at_call 51;refine(bQ.o _).mono ?_;rintro e ag ⟨rfl,rfl⟩)|fail);refine(aU.o _).mono ?_;rintro e a8 ⟨rfl,aR⟩;have m:=P.o.trans aR;have aI:=aT.o.keep aR;have a7:=aI.q0;have bw:=aI.vt.c0;have d1:=aI.vt.c1;have d2:=aI.vt.c2;have bX:V _:=m;simp only at bw d1 d2;clear m aI aR bg af a0 aj e4 bW;exact xhg
theorem mU{p k}(O:k<xs.length)(h:(xs.take k).all p=true)(t:p (xs.getD k 0)=true):(xs.take (k+1)).all p=true:=by
 rw[yat O,List.all_append,h];exact xjz
theorem nZ{p k}(O:k<xs.length)(t:p (xs.getD k 0)=false):xs.all p=false:=by
 rw[yah,yal O]at t;rw[List.all_eq_false];exact⟨_,List.getElem_mem _,by simpa using t⟩
theorem Cx{f:Int->Int}{k}(O:k<xs.length):(xs.map f).getD k 0=f (xs.getD k 0):=by
 simp[List.getD_eq_getElem?_getD,List.getElem?_eq_getElem O]
theorem bF.qbs(h:Zp:=by
 obtain⟨bw,d1,d2,d3,d4,d5⟩:=aI.vt;have bX:V _:=m;have ch:V _:=aI;clear m aI aR aT P bg af a0 aj e4 bW;simp only[Nat.zero_add]at d1 d2 d3 d4 d5;go_wp2_with fail;refine(pH _ v).mono ?_;rintro e bj ⟨G,rfl,z,bl,S⟩;have bU:V _:=bX.o.trans S;have X:V _:=ch.o.keep S;have bk:V (G+1=bj.heap.size):=bl;clear bX ch S bw d1 d2 d3 d4 d5 bl;have ao:cnt v.op<=3:=gK _;have aw:=q7 (cnt v.op) bj xaa;have F:=IR.made bj (cnt v.op);have K:=ez 0 0 bj (.cells (madeCells #[hF 0] (cnt v.op)) 3);have x:V ((eY v).length=cnt v.op):=ja v;have aL:V (∀W a cap xs,IS W 0 W.heap.size a (cnt v.op) xs->Calls prog 82 #[v.agg,.slice a (cnt v.op) cap] W λe J=>e=.returned (.bool (eR v.op v.len v.c xs))/\Kept 0 0 W J):=λW a cap xs f=>qX W v.op v.len v.a v.b v.c v.k 0 W.heap.size a (cnt v.op) cap xs f rfl;generalize cnt v.op=q at ao aw F K x aL z;generalize ei:eY v=s at x z;have ev:V (eY v=s):=ei;clear ei;generalize az:bj.alloc (.cells (madeCells #[hF 0] q) 3)=bF at aw F K;clear az;go_wp2_with fail;clear aw;have B:V ((s.map λo:Int=>(vs.getD o.toNat hK).len).length=q):=by show(s.map _).length=q;rw[List.length_map];exact x.o
 have U:V (∀k,k<q->(s.map λo:Int=>(vs.getD o.toNat hK).len).getD k 0=(vs.getD (s.getD k 0).toNat hK).len):=λk O=>Cx (hR x.o O);have ad:V _:=z;go_loopw [51] (λaO W=>∃k:Nat,k<=q/\aO=hF k/\V ((s.take k).all (fN · i)=true)/\IR W bj.heap.size ((s.map λo:Int=>(vs.getD o.toNat hK).len).take k++(List.replicate q 0).drop k)/\Kept 0 0 bj W) (λaO _=>q-(intOf aO).toNat)
 case atStart=>exact⟨0,Nat.zero_le _,rfl,rfl,by simpa using F,K⟩
 case round=>
  obtain⟨k,O,rfl,a2,bx,r⟩:=hrel;clear F K;by_cases aB:k<q
  ·rcases z.at_ with bR|⟨aA,bK,cc,aS,bb,bq,bD⟩
   ·omega
   cases cc;have c1:=jC r bq (bD k aB);rw[Nat.zero_add]at c1;clear bD aS bb bq z;by_cases ap:fN (s.getD k 0) i=true
   ·have av:=of_decide_eq_true ap;obtain⟨j,hj⟩:∃j:Nat,s.getD k 0=j:=⟨(s.getD k 0).toNat,by omega⟩
    have Z:V _:=mU (p:=(fN · i)) (hR x.o aB) a2.o ap;have Q:=U.o k aB;rw[hj]at c1 ap av Q;rw[Int.toNat_natCast]at Q;have C:j<i:=xaa
    have bn:V (∀w,Calls prog 53 #[hF j,hF i] w λe J=>e=.returned (.bool true)/\J=w):=λw=>by
     have:=it (j:Int) i w
     rw[ap]at this
     exact this
    have u:=(jC (bU.o.trans r) aQ (aY.o j xaa).c1)
    have aK:=(X.o.keep r).q1;have aq:=bx.free k;have aH:((s.map λo:Int=>(vs.getD o.toNat hK).len).take k++(List.replicate q 0).drop k).length=q:=by rw[yak,List.length_take,List.length_drop,B.o,List.length_replicate];omega
    have aN:=bx.cell k xaa;rw[<-Q]at u;have R1:V _:=bx.set k ((s.map λo:Int=>(vs.getD o.toNat hK).len).getD k 0);have R2:V _:=r.new (eU (lo:=bj.heap.size) (hi:=bj.heap.size+1) wr ⟨bj.heap.size,k,none⟩ (hF ((s.map λo:Int=>(vs.getD o.toNat hK).len).getD k 0)) yac) yad;have R3:V _:=uz (s.map λo:Int=>(vs.getD o.toNat hK).len) (List.replicate q 0) k (hR B.o aB) (by rw[B.o];simp);generalize (s.map λo:Int=>(vs.getD o.toNat hK).len).getD k 0=y at u R1 R2 R3;clear Q bx r aH ap av hj a2;go_wp2_with ((go_at_call 53;refine(bn.o _).mono ?_;rintro e ag ⟨rfl,rfl⟩));go_roundw
    case rel=>
     refine⟨k+1,by omega,by go_num,Z,?_,R2.o⟩;have:=R1.o;rw[R3.o]at this;exact this
    case measure=>simp[intOf];omega
   have av:fN (s.getD k 0) i=false:=by simpa using ap
   have R:V (s.all (fN · i)=false):=nZ (hR x.o aB) av
   have bn:V (∀w,Calls prog 53 #[hF (s.getD k 0),hF i] w λe J=>e=.returned (.bool false)/\J=w):=λw=>by
    have:=it (s.getD k 0) i w
    rw[av]at this
    exact this
   have R2:V _:=bU.o.trans r;clear ap av r bx a2;go_wp2_with ((go_at_call 53;refine(bn.o _).mono ?_;rintro e ag ⟨rfl,rfl⟩));go_ret;exact⟨by rw[ev.o,R.o];rfl,R2.o⟩
  obtain rfl:k=q:=xaa
  have R:V (s.all (fN · i)=true):=by
   have:=a2.o;rw[yao (hT x.o)]at this;exact this
  have t:IR wr bj.heap.size (s.map λo:Int=>(vs.getD o.toNat hK).len):=by
   rw[yao (hT B.o),List.drop_of_length_le xac,List.append_nil]at bx;exact bx
  have bn:=t.is;rw[B.o]at bn;have al:V _:=λcap=>aL.o wr _ cap _ bn;have R2:V _:=bU.o.trans r;obtain⟨bw,d1,d2,d3,d4,d5⟩:=(X.o.keep r).vt;simp only[Nat.zero_add]at d1 d2 d3 d4 d5;clear bn t bx a2 r z;go_wp2_with fail;refine(al.o _).mono ?_;rintro e be ⟨rfl,H⟩;have R3:V _:=R2.o.trans H;clear H bw d1 d2 d3 d4 d5;go_wp2;go_ret;exact⟨by rw[ev.o,R.o];rfl,R3.o⟩):Zp:=h
theorem bF.qft(h:Zp:=by
 clear I aM;obtain⟨bg,af,a0,aj,e4,bW⟩:=bm.keep aQ ar yaa;have P:V _:=ar.trans (ez 0 0 _ (eM v.op v.len v.a v.b v.c v.k));have aT:V _:=ql w (.slice a1 Y c1) (.slice (some ⟨aC,bO,none⟩) ab c2) (.slice a3 aa c3) v;clear bm ar;have bf:(v.op==0)=false:=yam ai;clear ai;exact qbr):Zp:=h
open bF in
theorem v6(w a1 a3 Y c1 ab c2 aa c3 aC bO i v)(vs:List Vl)(aQ:aC<w.heap.size)(hi:i<ab)
  (I:∀k,k<ab->At w aC (bO+k*6) (vs.getD k hK)) (aM:vs.getD i hK=v) (ah:lenB v.len=true) (ae:gC v=true) (ai:v.op≠0):
  Calls prog 52 #[eX a1 Y c1 (some ⟨aC,bO,none⟩) ab c2 a3 aa c3,hF i] w λe J=>e=.returned (.bool ((eY v).all (fN · i)&&eR v.op v.len v.c ((eY v).map λo=>(vs.getD o.toNat hK).len)))/\Kept 0 0 w J:=by
 have bQ:V (∀w,Calls prog 51 #[hF v.len] w λe J=>e=.returned (.bool true)/\J=w):=λw=>by
  have:=gI v.len w
  rw[ah]at this
  exact this
 have aU:V (∀w,Calls prog 81 #[v.agg] w λe J=>e=.returned (.bool true)/\Kept 0 0 w J):=λw=>by
  have:=nY w v
  rw[ae]at this
  exact this
 clear ah ae;exact qfs
theorem EJ(w a1 Z a3 Y c1 ab c2 aa c3 i ins vs outs)(f:GS w a1 Y Z ab a3 aa ins vs outs)(hi:i<ab):
  Calls prog 52 #[eX a1 Y c1 Z ab c2 a3 aa c3,hF i] w λe J=>e=.returned (.bool (okV ins vs i))/\Kept 0 0 w J:=by
 rcases f.v.at_ with ai|⟨aC,bO,rfl,N,aD,ad,an⟩
 ·omega
 have bm:=an i hi;unfold okV;generalize aM:vs.getD i hK=v at bm;cases ah:lenB v.len
 ·exact sG w a1 a3 Y c1 ab c2 aa c3 aC bO i v ad hi bm ah
 cases ae:gC v
 ·exact sH w a1 a3 Y c1 ab c2 aa c3 aC bO i v ad hi bm ah ae
 by_cases ai:v.op=0
 ·rw[hI ai,f.i.len];obtain⟨op,len,A,I,C,K⟩:=v;simp only at ai;subst ai;exact sI w a1 a3 Y c1 ab c2 aa c3 aC bO i len A I C K ins f.i ad hi bm ah ae
 rw[hG ai];exact v6 w a1 a3 Y c1 ab c2 aa c3 aC bO i v vs ad hi an aM ah ae ai
def fd:List Vl->Int
 |[]=>0
 |v::vs=>v.len+fd vs
def okG(ins:List Int)(vs:List Vl)(outs:List Int):Bool:=
 decide (ins.length<=20/\vs.length<=2000/\outs.length<=50)&&(ins.all lenB&&((List.range vs.length).all (okV ins vs)&&(outs.all (fN · vs.length)&&decide (fd vs<=50000))))
theorem py(xs v):fd (xs++[v])=fd xs+v.len:=by
 induction xs<;>grind[fd]
theorem mD{vs:List Vl}{k}(O:k<vs.length):fd (vs.take (k+1))=fd (vs.take k)+(vs.getD k hK).len:=by
 rw[yat O,py,yah,yal O];rfl
theorem kV{p k}(h:(List.range k).all p=true)(t:p k=true):(List.range (k+1)).all p=true:=by
 rw[List.range_succ,List.all_append,h];simpa using t
theorem lW{p k}(O:k<n)(t:p k=false):(List.range n).all p=false:=by
 rw[List.all_eq_false];exact⟨k,List.mem_range.2 O,by simpa using t⟩
theorem iq{vs i}(h:okV ins vs i=true):1<=(vs.getD i hK).len/\(vs.getD i hK).len<=1000:=by
 unfold okV at h;rw[Bool.and_eq_true,Bool.and_eq_true]at h;exact of_decide_eq_true h.1.1
structure G0(W:World)(p:Nat)(b0 b1 b2:Value):Prop where
 sz:p<W.heap.size
 q0:W.cell? ⟨p,0,none⟩=some b0
 q1:W.cell? ⟨p,1,none⟩=some b1
 q2:W.cell? ⟨p,2,none⟩=some b2
theorem G0.keep{W}(t:G0 W p a9 N aD)(k:Kept 0 0 W W'):G0 W' p a9 N aD:=
 ⟨yaj t.sz k.size,jC k t.sz t.q0,jC k t.sz t.q1,jC k t.sz t.q2⟩
theorem fO(w:World)(a9 N aD):G0 (w.alloc (.cells #[a9,N,aD] 26)) w.heap.size a9 N aD:=by
 refine⟨?_,?_,?_,?_⟩;all_goals first|(go_simp;done)|(simp;done)
theorem cU.qcz(h:Zp:=by
 have aL:V _:=f.keep ar.o;have cw:V (ins.length=Y):=f.i.len;have C:V (vs.length=ab):=f.v.len;have j:V (outs.length=aa):=f.o.len;clear f;go_enter func27,ntmps27;go_wp2_with fail;generalize t:w.alloc (.cells #[.slice a1 Y c1,.slice Z ab c2,.slice a3 aa c3] 26)=aG at ar aT aL⊢;clear t;go_loop [29] (λi=>∃k:Nat,k<=Y/\i=hF k/\V ((ins.take k).all lenB=true)) (λi=>Y-(intOf i).toNat)
 case atStart=>exact⟨0,Nat.zero_le _,rfl,rfl⟩
 case round=>
  obtain⟨k,O,rfl,a2⟩:=hrel;by_cases aB:k<Y
  ·rcases aL.o.i.at_ with bR|⟨aA,bK,cc,aS,bb,bq,bD⟩
   ·omega
   have c:=bD k aB;subst cc;clear aS bb bq bD;cases ap:lenB (ins.getD k 0)
   ·have R:V (ins.all lenB=false):=nZ (hR cw.o aB) ap
    have bn:V (∀w,Calls prog 51 #[hF (ins.getD k 0)] w λe J=>e=.returned (.bool false)/\J=w):=λw=>by
     have:=gI (ins.getD k 0) w
     rw[ap]at this
     exact this
    generalize ins.getD k 0=y at c bn;clear ap a2;go_wp2_with ((go_at_call 51;refine(bn.o _).mono ?_;rintro e ag ⟨rfl,rfl⟩));go_ret;exact⟨hU R.o,ar.o⟩
   have R:V _:=mU (p:=lenB) (hR cw.o aB) a2.o ap
   have bn:V (∀w,Calls prog 51 #[hF (ins.getD k 0)] w λe J=>e=.returned (.bool true)/\J=w):=λw=>by
    have:=gI (ins.getD k 0) w
    rw[ap]at this
    exact this
   generalize ins.getD k 0=y at c bn;clear ap a2;go_wp2_with ((go_at_call 51;refine(bn.o _).mono ?_;rintro e ag ⟨rfl,rfl⟩));exact xdi
  have R1:V (ins.all lenB=true):=by
   have:=a2.o;rw[yao (hT cw.o)]at this;exact this
  clear a2;have aK:=aT.q1;go_wp2_with fail;clear aK;go_loopw [5,40] (λc i W=>∃k:Nat,k<=ab/\i=hF k/\c=hF (fd (vs.take k))/\V (0<=fd (vs.take k)/\fd (vs.take k)<=1000*k)/\V ((List.range k).all (okV ins vs)=true)/\Kept 0 0 aG W) (λ_ i _=>ab-(intOf i).toNat)
  case atStart=>exact⟨0,Nat.zero_le _,rfl,rfl,by constructor<;>simp[fd],rfl,Kept.refl _ _ _⟩
  case round=>
   obtain⟨an,bZ,rfl,rfl,hb,a2,r⟩:=hrel;by_cases aN:an<ab
   ·rcases aL.o.v.at_ with bR|⟨aA,bK,cc,aS,bb,bq,bD⟩
    ·omega
    have bm:=(bD an aN).keep bq r yaa;have bu:V _:=λo=>EJ (wr.alloc o) a1 Z a3 Y c1 ab c2 aa c3 an ins vs outs (aL.o.keep (r.trans (ez 0 0 wr o))) aN;have bk:V _:=r;have co:V _:=mD (vs:=vs) (k:=an) (hR C.o aN);clear aS bb bq bD r;cases ap:okV ins vs an
    ·have R:V ((List.range ab).all (okV ins vs)=false):=lW aN ap;rw[ap]at bu;generalize vs.getD an hK=v at bm co;obtain⟨bg,af,a0,aj,e4,bW⟩:=bm;obtain⟨_,a7,aK,aP⟩:=aT.keep (bk.o.trans (ez 0 0 wr (eM v.op v.len v.a v.b v.c v.k)));clear ap a2 co;subst cc;go_wp2_with ((go_at_call 52;refine(bu.o _).mono ?_;rintro e ag ⟨rfl,H⟩));go_ret;exact⟨by rw[R1.o,R.o];rfl,((ar.o.trans bk.o).trans (ez 0 0 _ _)).trans H⟩
    have R:V _:=kV a2.o ap;have K:V _:=iq ap;rw[ap]at bu;generalize vs.getD an hK=v at bm co K;obtain⟨bg,af,a0,aj,e4,bW⟩:=bm;obtain⟨_,a7,aK,aP⟩:=aT.keep (bk.o.trans (ez 0 0 wr (eM v.op v.len v.a v.b v.c v.k)));clear ap a2;subst cc;go_wp2_with fail;refine(bu.o _).mono ?_;rintro e ag ⟨rfl,H⟩;have cu:ag.cell? ⟨wr.heap.size,1,none⟩=some (hF v.len):=jC H xac xac;have R2:V _:=(bk.o.trans (ez 0 0 _ _)).trans H;clear H a7 aK aP bg af a0 aj e4 bW;have bQ:-1000000000<=fd (vs.take an)+v.len:=hQ hb.o K.o
    have bY:fd (vs.take an)+v.len<=1000000000:=hQ hb.o K.o
    have bl:V (0<=fd (vs.take (an+1))/\fd (vs.take (an+1))<=1000*((an+1:Nat):Int)):=by
     exact xko
    generalize ao:fd (vs.take an)=bT at bQ bY co;clear hb ao;go_wp2;go_roundw;exact⟨an+1,by omega,by go_num,by rw[co.o],bl,R,R2.o⟩;simp[intOf];omega
   have R2:V ((List.range ab).all (okV ins vs)=true):=by
    have:=a2.o;rw[show an=ab by omega]at this;exact this
   have R3:V (fd (vs.take an)=fd vs):=by
    show fd (vs.take an)=fd vs;rw[yao (hT C.o)]
   have b2:=aT.keep r;have aF:V _:=aL.o.keep r;have bk:V _:=ar.o.trans r;have aK:=b2.q1;have aP:=b2.q2;clear a2 r;go_wp2_with fail;go_loop [57] (λi=>∃k:Nat,k<=aa/\i=hF k/\V ((outs.take k).all (fN · ab)=true)) (λi=>aa-(intOf i).toNat)
   case atStart=>exact⟨0,Nat.zero_le _,rfl,rfl⟩
   case round=>
    obtain⟨aJ,aR,rfl,a2⟩:=hrel;by_cases cb:aJ<aa
    ·rcases aF.o.o.at_ with bR|⟨aA,bK,cc,aS,bb,bq,bD⟩
     ·omega
     have c:=bD aJ cb;subst cc;clear aS bb bq bD;cases ap:fN (outs.getD aJ 0) ab
     ·have R:V (outs.all (fN · ab)=false):=nZ (hR j.o cb) ap
      have bn:V (∀w,Calls prog 53 #[hF (outs.getD aJ 0),hF ab] w λe J=>e=.returned (.bool false)/\J=w):=λw=>by
       have:=it (outs.getD aJ 0) ab w
       rw[ap]at this
       exact this
      generalize outs.getD aJ 0=y at c bn;clear ap a2;go_wp2_with ((go_at_call 53;refine(bn.o _).mono ?_;rintro e ag ⟨rfl,rfl⟩));go_ret;exact⟨by rw[R1.o,R2.o,R.o];rfl,bk.o⟩
     have R:V _:=mU (p:=(fN · ab)) (hR j.o cb) a2.o ap
     have bn:V (∀w,Calls prog 53 #[hF (outs.getD aJ 0),hF ab] w λe J=>e=.returned (.bool true)/\J=w):=λw=>by
      have:=it (outs.getD aJ 0) ab w
      rw[ap]at this
      exact this
     generalize outs.getD aJ 0=y at c bn;clear ap a2;go_wp2_with ((go_at_call 53;refine(bn.o _).mono ?_;rintro e ag ⟨rfl,rfl⟩));go_round
     case rel=>exact⟨aJ+1,by omega,by go_num,R⟩
     case measure=>simp[intOf];omega
    have aI:V (outs.all (fN · ab)=true):=by
     exact xjs
    clear a2;go_wp2;go_ret;exact⟨by rw[R1.o,R2.o,aI.o,<-R3.o];rfl,bk.o⟩):Zp:=h
open cU in
theorem v7(w a1 Z a3 Y c1 ab c2 aa c3 ins vs outs)(f:GS w a1 Y Z ab a3 aa ins vs outs)(B:Y<=20)(U:ab<=2000)(h3:aa<=50):
  Calls prog 27 #[eX a1 Y c1 Z ab c2 a3 aa c3] w λe J=>e=.returned (.bool (ins.all lenB&&((List.range ab).all (okV ins vs)&&(outs.all (fN · ab)&&decide (fd vs<=50000)))))/\Kept 0 0 w J:=by
 exact qcy
theorem rW(w a1 Z a3 Y c1 ab c2 aa c3)(h:¬(Y<=20/\ab<=2000/\aa<=50)):
  Calls prog 27 #[eX a1 Y c1 Z ab c2 a3 aa c3] w λe J=>e=.returned (.bool false)/\Kept 0 0 w J:=by
 by_cases B:Y<=20
 ·by_cases U:ab<=2000
  ·have h3:50<aa:=xaa;clear h;go_enter func27,ntmps27;go_wp2;go_ret;exact⟨rfl,ez _ _ _ _⟩
  have h3:2000<ab:=xaa;clear h U;exact xjg
 have h3:20<Y:=xaa;clear h B;exact xjg
theorem uA(w a1 Z a3 Y c1 ab c2 aa c3 ins vs outs)(f:GS w a1 Y Z ab a3 aa ins vs outs):
  Calls prog 27 #[eX a1 Y c1 Z ab c2 a3 aa c3] w λe J=>e=.returned (.bool (okG ins vs outs))/\Kept 0 0 w J:=by
 unfold okG;rw[f.i.len,f.v.len,f.o.len];by_cases h:Y<=20/\ab<=2000/\aa<=50
 ·rw[decide_eq_true h,Bool.true_and];exact v7 w a1 Z a3 Y c1 ab c2 aa c3 ins vs outs f h.1 h.2.1 h.2.2
 rw[yax h,Bool.false_and];exact rW w a1 Z a3 Y c1 ab c2 aa c3 h
structure IBk(w:World)(g n:Nat)(xs:List Int):Prop where
 len:xs.length=n
 lt:g<w.heap.size
 at_:∀k,k<n->w.cell? ⟨g,k,none⟩=some (.int .i64 (xs.getD k 0))
 free:∀o,w.frozen? ⟨g,o,none⟩=false
theorem IBk.keep(f:IBk w g n xs)(k:Kept l h w J)(G:g<l\/h<=g\/h<=l):IBk J g n xs:=
 ⟨f.len,yaj f.lt k.size,λj hj=>by rw[k.cell f.lt (by grind)];exact f.at_ j hj,λo=>by rw[k.frozen f.lt (by grind)];exact f.free o⟩
theorem IBk.put{w g n xs}(f:IBk w g n xs)(j)(hj:j<n)(x):IBk (w.setCell ⟨g,j,none⟩ (hF x)) g n (xs.set j x) where
 len:=by rw[List.length_set];exact f.len
 lt:=by simpa using f.lt
 at_:=λk O=>by
  rw[yah,List.getElem?_set]
  by_cases e:j=k
  ·subst e
   rw[hI rfl,hI (hR f.len hj)]
   exact fR _ _ _ _ _ (f.at_ j hj)
  ·rw[hG e,eN _ _ _ _ _ _ (.inr e),<-yah]
   exact f.at_ k O
 free:=λo=>by simp[f.free o]
