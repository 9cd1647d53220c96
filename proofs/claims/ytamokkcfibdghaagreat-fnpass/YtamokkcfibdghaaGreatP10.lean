import Derived.Test.YtamokkcfibdghaaGreatP09
namespace Go.Proofs.Z
variable {Zp:Prop}
open Tryz
set_option maxRecDepth 1000000
set_option maxHeartbeats 0
open Go.RowKit Flt
attribute [local go_sem] eG eE eD
variable {aB W':World}{k:Nat}{xs:List Int}{v:Value}
def GrowI (w1:World)(k:Nat)(xs:List Int)(v:Value)(W:World):Prop:=
 W.ownsRow w1.heap.size 3 1 v k (xs.map (Value.int .i64))/\xs.length=k/\Kept 0 0 w1 W
theorem yC(aB):GrowI aB 0 [] (.slice none 0 0) aB:=⟨yav _ _ _ _,rfl,Kept.refl _ _ _⟩
theorem E7{base e size n:Nat}{xs W}(h:W.ownsRow base e size v n xs)(k:Kept 0 0 W W'):W'.ownsRow base e size v n xs:=by
 refine⟨h.1,?_⟩;rcases h.2 with hn|⟨g,cap,H,rfl,hb,f,rest⟩
 ·exact .inl hn
 refine .inr ⟨g,cap,H,rfl,hb,?_,rest⟩
 have aW:g<W.heap.size:=by
  rcases Nat.lt_or_ge g W.heap.size with c|c
  ·exact c
  rw[Array.getElem?_eq_none c]at f;cases f
 rw[k.block g aW xaa];exact f
theorem GrowI.keep{W}(h:GrowI aB k xs v W)(F:Kept 0 0 W W'):GrowI aB k xs v W':=
 ⟨E7 h.1 F,h.2.1,h.2.2.trans F⟩
theorem GrowI.step{W z}(h:GrowI aB k xs v W)
  {v'}{J}{o}
  (e:J.ownsRow aB.heap.size 3 1 v' (k+1) (xs.map (Value.int .i64)++[Value.int .i64 z])) (aW:(W.alloc o).grownBy J v.ownBlock):GrowI aB (k+1) (xs++[z]) v' J:=by
 refine⟨by rw[List.map_append];exact e,by simp[h.2.1],?_⟩;have aH:=h.2.2;refine⟨aW.os.trans aH.os,aW.tape.trans aH.tape,aW.output.trans aH.output,?_,λi hi _=>?_⟩
 ·have:=aW.size;have R:=aH.size;simp at this;omega
 have R:=aH.size;rw[aW.block i yaf (λc=>hR (h.1.lt i c.symm)),Below.heap_alloc W o i xaa];exact aH.block i hi xaa
theorem GrowI.at_{W}(h:GrowI aB k xs v W)(O:0<k):∃g cap,v=hH g k cap/\∀j,j<k->W.cell? ⟨g,j,none⟩=some (hI (xs.getD j 0)):=by
 obtain⟨av,ah,_⟩:=h;rcases av.2 with⟨_,c⟩|⟨g,cap,H,rfl,N,aA,_,_,b9,cn⟩
 ·omega
 refine⟨g,cap,rfl,λj hj=>?_⟩;rw[cell_of_row W g _ H _ _ aA,<-Array.getElem?_toList];have:(H.toList.take (k*1))[j]? =(xs.map (Value.int .i64))[j]?:=by rw[cn]
 exact xga
def okF (v:Vl)(i:Nat)(k:Nat):Bool:=if k<cnt v.op then fI (fld v k) i else (fld v k==0||(k==2&&iX v.op))
def jY (vs:List Vl)(v:Vl)(k:Nat):Nat:=if k<cnt v.op then (vs.getD (fld v k).toNat hM).len.toNat else 0
theorem yD{op}(B:1<=op)(R:op<=13):iB op=cnt op:=by
 rcases (by omega:op=1\/op=2\/op=3\/op=4\/op=5\/op=6\/op=7\/op=8\/op=9\/op=10\/op=11\/op=12\/op=13) with h|h|h|h|h|h|h|h|h|h|h|h|h<;>subst h<;>rfl
theorem dI.qfi(h:Zp:=by
 have al:V _:=p;clear I aL p;obtain⟨bl,ae,a9,ak,e4,bx⟩:=bg.keep aW aH yaa;have F:V _:=aH.trans (ez 0 0 _ (eK v.op v.len v.a v.b v.c v.k));have aS:=qm w (.slice a1 Y c1) (.slice (some ⟨ag,bS,none⟩) U c2) (.slice a3 Z c3) v;clear bg aH;have bj:(v.op==0)=false:=yam xaa
 have HO:V (∀w,Calls prog 37 #[hI v.op] w λe J=>e=.returned (hI (cnt v.op:Nat))/\J=w):=λw=>by
  have:=fd v.op w xaa aq
  rw[yD B aq]at this
  exact this
 go_enter func16,ntmps16;go_wp2_with (first|(go_at_call 37;refine(HO.o _).mono ?_;rintro e af ⟨rfl,rfl⟩)|fail);have bq:=yC ((w.alloc (eY a1 Y c1 (some ⟨ag,bS,none⟩) U c2 a3 Z c3)).alloc (eK v.op v.len v.a v.b v.c v.k));generalize t:(w.alloc (eY a1 Y c1 (some ⟨ag,bS,none⟩) U c2 a3 Z c3)).alloc (eK v.op v.len v.a v.b v.c v.k)=aB at aS F bq⊢;clear t bl ae a9 ak e4 bx;have aI:V _:=aS;clear aS;go_loopw [7,8] (λH cn W=>∃k:Nat,k<=3/\cn=hI k/\V ((List.range k).all (okF v i)=true)/\GrowI aB k ((List.range k).map λj=>(jY vs v j:Int)) H W) (λ_ cn _=>3-(intOf cn).toNat)
 case atStart=>exact⟨0,Nat.zero_le _,rfl,rfl,bq⟩
 case round=>
  obtain⟨k,O,rfl,a7,an⟩:=hrel;clear bq;by_cases aF:k<3
  ·have bv:V _:=nf wr v k aF;obtain⟨_,ba,aO,aR,n⟩:=aI.o.keep an.2.2;obtain⟨bD,d1,d2,d3,d4,d5⟩:=n;simp only[Nat.zero_add]at d1 d2 d3 d4 d5;go_wp2_with fail;refine yai bv.o ?_;rintro e af ⟨rfl,bY⟩;replace an:=an.keep bY;clear bY bv ba aO aR bD d1 d2 d3 d4 d5;obtain⟨_,ba,aO,aR,n⟩:=aI.o.keep an.2.2;obtain⟨bD,d1,d2,d3,d4,d5⟩:=n;simp only[Nat.zero_add]at d1 d2 d3 d4 d5;have cc:aB.heap.size<=af.heap.size:=an.2.2.size;by_cases b4:k<cnt v.op
   ·by_cases au:fI (fld v k) i=true
    ·have P:okF v i k=true:=by unfold okF;rw[hK b4];exact au
     have aa:V _:=kV a7.o P;have am:=of_decide_eq_true au;obtain⟨j,hj⟩:∃j:Nat,fld v k=j:=⟨(fld v k).toNat,by omega⟩
     have C:j<i:=xaa;have G:=al.o j C;have c:=jh (F.o.trans an.2.2) aW (bf.o j xaa).c1
     have bp:V ((jY vs v k:Int)=(vs.getD j hM).len):=by
      show(jY vs v k:Int)=_;unfold jY;rw[hK b4,hj,Int.toNat_natCast,Int.toNat_of_nonneg xaa]
     rw[hj];generalize (vs.getD j hM).len=z at c bp;clear au am P a7 hj G;generalize h:((List.range k).map λj=>(jY vs v j:Int))=L at an;have f:V _:=h;clear h;go_wp2_with (first|(at_builtin;refine wpList_append_own _ rfl _ _ 23 rfl aB.heap.size 3 bK (hI 0) 1 8 underlying23 be bU bO bR rfl xab _ _ _ rfl (an.1.alloc _) ⟨af.heap.size,0,none⟩ 1 1 [hI z] rfl rfl ?c1 ?c2 ?c3 ?c4 ?c5 ?_))
     case c1=>exact cell_one_new _ _ _
     case c2=>intro u aJ;simp at aJ;subst aJ;rfl
     case c3=>unfold maxLen;omega
     case c4=>omega
     case c5=>simp;omega
     intro v' bo bB bw _;have R2:V _:=an.step bB bw;clear bB bw an ba aO aR bD d1 d2 d3 d4 d5 cc;go_wp2;go_roundw
     case rel=>
      refine⟨k+1,by omega,by go_num,aa,?_⟩;exact xgn
     case measure=>simp[intOf];omega
    have am:¬(0<=fld v k/\fld v k<i):=λc=>au (decide_eq_true c);have P:okF v i k=false:=by unfold okF;rw[hK b4];exact yax am
    have aa:V ((List.range 3).all (okF v i)=false):=lX aF P;have R2:V _:=F.o.trans an.2.2;generalize fld v k=y at am⊢;clear au P a7;rcases (by omega:y<0\/(0<=y/\(i:Int)<=y)) with bV|⟨bV,q⟩
    all_goals
     clear am
     go_wp2
     go_ret
     exact⟨hX aa.o,R2.o⟩
   have x:cnt v.op<=k:=xaa
   have bp:V ((jY vs v k:Int)=0):=by
    show(jY vs v k:Int)=0;unfold jY;rw[hJ b4];rfl
   cases P:okF v i k
   ·have aa:V ((List.range 3).all (okF v i)=false):=lX aF P;have R2:V _:=F.o.trans an.2.2;unfold okF at P;rw[hJ b4,Bool.or_eq_false_iff]at P;obtain⟨bb,aK⟩:=P;have o:(fld v k !=0)=true:=by rw[bne,bb];rfl
    generalize fld v k=y at bb o⊢;rcases (by omega:k=0\/k=1\/k=2) with rfl|rfl|rfl
    ·exact xks
    ·exact xks
    have m:¬(v.op=11\/v.op=12):=of_decide_eq_false (show iX v.op=false by simpa using aK);have aQ:(v.op==11)=false:=yam xaa;have a6:(v.op==12)=false:=yam xaa;clear aK m bb a7 b4;go_wp2;go_ret;exact⟨hX aa.o,R2.o⟩
   have aa:V _:=kV a7.o P
   have s:(fld v k !=0)=false\/(k=2/\(fld v k !=0)=true/\((v.op==11)=true\/((v.op==11)=false/\(v.op==12)=true))):=by
    unfold okF at P;rw[hJ b4,Bool.or_eq_true]at P;cases bb:(fld v k==0)
    ·right;rw[bb]at P;have R:=P.resolve_left xac;rw[Bool.and_eq_true]at R;have aK:=of_decide_eq_true R.2;refine⟨by simpa using R.1,by rw[bne,bb];rfl,?_⟩;rcases aK with aK|aK
     ·exact .inl (beq_iff_eq.2 aK)
     exact .inr ⟨yam xaa,beq_iff_eq.2 aK⟩
    left;rw[bne,bb];rfl
   have bP:V _:=x;generalize fld v k=y at s⊢;clear a7 b4;generalize h:((List.range k).map λj=>(jY vs v j:Int))=L at an;have f:V _:=h;clear h;rcases s with r|⟨rfl,r,aK⟩
   ·rcases (by omega:k=0\/k=1\/k=2) with rfl|rfl|rfl
    ·go_wp2_with (first|(at_builtin;refine wpList_append_own _ rfl _ _ 23 rfl aB.heap.size 3 bK (hI 0) 1 8 underlying23 be bU bO bR rfl xab _ _ _ rfl (an.1.alloc _) ⟨af.heap.size,0,none⟩ 1 1 [hI 0] rfl rfl ?c1 ?c2 ?c3 ?c4 ?c5 ?_))
     case c1=>exact cell_one_new _ _ _
     case c2=>intro u aJ;simp at aJ;subst aJ;rfl
     case c3=>unfold maxLen;omega
     case c4=>omega
     case c5=>simp;omega
     intro v' bo bB bw _;have R2:V _:=an.step bB bw;clear bB bw an ba aO aR bD d1 d2 d3 d4 d5 cc;go_wp2;go_roundw
     case rel=>
      refine⟨1,by omega,by go_num,aa,?_⟩;exact xgn
     case measure=>simp[intOf]
    ·go_wp2_with (first|(at_builtin;refine wpList_append_own _ rfl _ _ 23 rfl aB.heap.size 3 bK (hI 0) 1 8 underlying23 be bU bO bR rfl xab _ _ _ rfl (an.1.alloc _) ⟨af.heap.size,0,none⟩ 1 1 [hI 0] rfl rfl ?c1 ?c2 ?c3 ?c4 ?c5 ?_))
     case c1=>exact cell_one_new _ _ _
     case c2=>intro u aJ;simp at aJ;subst aJ;rfl
     case c3=>unfold maxLen;omega
     case c4=>omega
     case c5=>simp;omega
     intro v' bo bB bw _;have R2:V _:=an.step bB bw;clear bB bw an ba aO aR bD d1 d2 d3 d4 d5 cc;go_wp2;go_roundw
     case rel=>
      refine⟨2,by omega,by go_num,aa,?_⟩;exact xgn
     case measure=>simp[intOf]
    cases aQ:(v.op==11)<;>cases a6:(v.op==12)
    all_goals
     go_wp2_with (first|(at_builtin;refine wpList_append_own _ rfl _ _ 23 rfl aB.heap.size 3 bK (hI 0) 1 8 underlying23 be bU bO bR rfl xab _ _ _ rfl (an.1.alloc _) ⟨af.heap.size,0,none⟩ 1 1 [hI 0] rfl rfl ?c1 ?c2 ?c3 ?c4 ?c5 ?_))
     case c1=>exact cell_one_new _ _ _
     case c2=>intro u aJ;simp at aJ;subst aJ;rfl
     case c3=>unfold maxLen;omega
     case c4=>omega
     case c5=>simp;omega
     intro v' bo bB bw _
     have R2:V _:=an.step bB bw
     clear bB bw an ba aO aR bD d1 d2 d3 d4 d5 cc
     go_wp2
     go_roundw
     case rel=>
      refine⟨3,by omega,by go_num,aa,?_⟩
      have:=R2.o
      rw[<-bp.o,<-f.o]at this
      rw[List.range_succ,List.map_append]
      exact this
     case measure=>simp[intOf]
   rcases aK with aQ|⟨aQ,a6⟩
   all_goals
    go_wp2_with (first|(at_builtin;refine wpList_append_own _ rfl _ _ 23 rfl aB.heap.size 3 bK (hI 0) 1 8 underlying23 be bU bO bR rfl xab _ _ _ rfl (an.1.alloc _) ⟨af.heap.size,0,none⟩ 1 1 [hI 0] rfl rfl ?c1 ?c2 ?c3 ?c4 ?c5 ?_))
    case c1=>exact cell_one_new _ _ _
    case c2=>intro u aJ;simp at aJ;subst aJ;rfl
    case c3=>unfold maxLen;omega
    case c4=>omega
    case c5=>simp;omega
    intro v' bo bB bw _
    have R2:V _:=an.step bB bw
    clear bB bw an ba aO aR bD d1 d2 d3 d4 d5 cc
    go_wp2
    go_roundw
    case rel=>
     refine⟨3,by omega,by go_num,aa,?_⟩
     have:=R2.o
     rw[<-bp.o,<-f.o]at this
     rw[List.range_succ,List.map_append]
     exact this
    case measure=>simp[intOf]
  obtain rfl:k=3:=xaa;have aa:V _:=a7.o;have R2:V _:=F.o.trans an.2.2;obtain⟨g,cap,rfl,ai⟩:=an.at_ xaa;have c0:=ai 0 xaa;have c1:=ai 1 xaa;have c2:=ai 2 xaa;obtain⟨_,ba,aO,aR,n⟩:=aI.o.keep an.2.2;obtain⟨bD,d1,d2,d3,d4,d5⟩:=n;simp only[Nat.zero_add]at d1 d2 d3 d4 d5;simp only[List.range,List.range.loop,List.map_cons,List.map_nil,List.getD_cons_zero,List.getD_cons_succ]at c0 c1 c2;clear ai an a7;have bP:V (∀w,Calls prog 39 #[v.agg,hI (jY vs v 0:Int),hI (jY vs v 1:Int),hI (jY vs v 2:Int)] w λe J=>e=.returned (.bool (fk v.op v.len v.c (jY vs v 0) (jY vs v 1) (jY vs v 2)))/\J=w.alloc (eK v.op v.len v.a v.b v.c v.k)):=λw=>kC w v.op v.len v.a v.b v.c v.k (jY vs v 0) (jY vs v 1) (jY vs v 2);go_wp2_with fail
  go_region_held3 (λJ=>J.cell? ⟨w.heap.size+1,0,none⟩=some (hI v.op)/\J.cell? ⟨w.heap.size+1,1,none⟩=some (hI v.len)/\J.cell? ⟨w.heap.size+1,2,none⟩=some (hI v.a)/\J.cell? ⟨w.heap.size+1,3,none⟩=some (hI v.b)/\J.cell? ⟨w.heap.size+1,4,none⟩=some (hI v.c)/\J.cell? ⟨w.heap.size+1,5,none⟩=some (.float .f64 v.k)/\J.cell? ⟨g,0,none⟩=some (hI (jY vs v 0:Int))/\J.cell? ⟨g,1,none⟩=some (hI (jY vs v 1:Int))/\J.cell? ⟨g,2,none⟩=some (hI (jY vs v 2:Int))) (go_keep)
   ((go_at_call 39;refine(bP.o _).mono ?_;rintro e bo ⟨rfl,rfl⟩))
  all_goals
   go_wp2
   go_ret
   exact⟨by rw[aa.o,Bool.true_and];rfl,(R2.o.trans (eM 0 0 _ 1)).trans (ez 0 0 _ _)⟩):Zp:=h
open dI in
theorem CR(w a1 a3 Y c1 U c2 Z c3 ag bS i v vs)(aW:ag<w.heap.size)(hi:i<U)
  (I:∀k,k<U->At w ag (bS+k*6) (vs.getD k hM)) (p:∀k,k<i->1<=(vs.getD k hM).len/\(vs.getD k hM).len<=1000) (aL:vs.getD i hM=v) (B:1<=v.op) (aq:v.op<=13) (cf:1<=v.len) (l:v.len<=1000):
  Calls prog 16 #[eZ a1 Y c1 (some ⟨ag,bS,none⟩) U c2 a3 Z c3,hI i] w λe J=>e=.returned (.bool ((List.range 3).all (okF v i)&&fk v.op v.len v.c (jY vs v 0) (jY vs v 1) (jY vs v 2)))/\Kept 0 0 w J:=by
 obtain⟨bK,be,bU,bO,bR⟩:=info_parts sW;exact qfh
