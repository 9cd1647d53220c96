import Derived.Test.YtcagphgmfbjneaaGreatP13
namespace Go.Proofs.Z
open Tryz
set_option maxRecDepth 1000000
set_option maxHeartbeats 0
open Go.RowKit Flt
attribute[local go_sem] eE eD eC
variable{aH:World}{k:Nat}{xs:List Int}{v:Value}
def GrowI(w1:World)(k:Nat)(xs:List Int)(v:Value)(W:World):Prop:=
 W.ownsRow w1.heap.size 3 1 v k (xs.map (Value.int .i64))/\xs.length=k/\Kept 0 0 w1 W
theorem zK(aH):GrowI aH 0 [] (.slice none 0 0) aH:=⟨yaw _ _ _ _,rfl,Kept.refl _ _ _⟩
theorem GrowI.keep{W H}(h:GrowI aH k xs v W)(aj:Kept 0 0 W H):GrowI aH k xs v H:=
 ⟨eN h.1 aj,h.2.1,h.2.2.trans aj⟩
theorem GrowI.step{W z}(h:GrowI aH k xs v W)
  {v'}{B}{o}
  (a:B.ownsRow aH.heap.size 3 1 v' (k+1) (xs.map (Value.int .i64)++[Value.int .i64 z])) (aK:(W.alloc o).grownBy B v.ownBlock):GrowI aH (k+1) (xs++[z]) v' B:=by
 refine⟨by grind,by simp[h.2.1],?_⟩;have aG:=h.2.2;refine⟨aK.os.trans aG.os,aK.tape.trans aG.tape,aK.output.trans aG.output,?_,λi hi _=>?_⟩
 ·have:=aK.size;have h2:=aG.size;simp at this;omega
 have h2:=aG.size;rw[aK.block i yag (λc=>ix (h.1.lt i c.symm)),Below.heap_alloc W o i xaa];exact aG.block i hi xaa
theorem GrowI.at_{W}(h:GrowI aH k xs v W)(O:0<k):∃g cap,v=h0 g k cap/\∀j,j<k->W.cell? ⟨g,j,none⟩=some (h1 (xs.getD j 0)):=by
 obtain⟨ho,ai,_⟩:=h;rcases ho.2 with⟨_,c⟩|⟨g,cap,ad,rfl,U,aV,_,_,ct,bX⟩
 ·omega
 refine⟨g,cap,rfl,λj hj=>?_⟩;rw[cell_of_row W g _ ad _ _ aV,<-Array.getElem?_toList];have:(ad.toList.take (k*1))[j]? =(xs.map (Value.int .i64))[j]?:=by rw[bX]
 grind
def okF(v:Vl)(i:Nat)(k:Nat):Bool:=if k<cnt v.op then gm (fld v k) i else (fld v k==0||(k==2&&g7 v.op))
def jM(vs:List Vl)(v:Vl)(k:Nat):Nat:=if k<cnt v.op then (vs.getD (fld v k).toNat h9).len.toNat else 0
theorem Gq{op}(F:1<=op)(h2:op<=13):sI op=cnt op:=by
 rcases (by omega:op=1\/op=2\/op=3\/op=4\/op=5\/op=6\/op=7\/op=8\/op=9\/op=10\/op=11\/op=12\/op=13) with h|h|h|h|h|h|h|h|h|h|h|h|h<;>subst h<;>rfl
theorem DN(w a1 a3 Z c1 ae c2 ab c3 a0 b9 i v vs)(aK:a0<w.heap.size)(hi:i<ae)
  (aw:∀k,k<ae->At w a0 (b9+k*6) (vs.getD k h9)) (d:∀k,k<i->1<=(vs.getD k h9).len/\(vs.getD k h9).len<=1000) (aN:vs.getD i h9=v) (F:1<=v.op) (aq:v.op<=13) (ci:1<=v.len) (cz:v.len<=1000):
  Calls prog 86 #[eX a1 Z c1 (some ⟨a0,b9,none⟩) ae c2 a3 ab c3,h1 i] w λe B=>e=.returned (.bool ((List.range 3).all (okF v i)&&jQ v.op v.len v.c (jM vs v 0) (jM vs v 1) (jM vs v 2)))/\Kept 0 0 w B:=by
 obtain⟨b1,bd,hz0,hz1,hz2⟩:=info_parts rZ;have aG:=eA 0 0 w (fx a1 Z c1 (some ⟨a0,b9,none⟩) ae c2 a3 ab c3);have bw:=aw i hi;rw[aN]at bw;have bO:V _:=aw;have N:V _:=d;clear aw aN d;obtain⟨cj,af,bg,ah,e4,ce⟩:=bw.keep aK aG yaa;have J:V _:=aG.trans (eA 0 0 _ (fW v.op v.len v.a v.b v.c v.k));have a7:=zu w (.slice a1 Z c1) (.slice (some ⟨a0,b9,none⟩) ae c2) (.slice a3 ab c3) v;clear bw aG;have bl:(v.op==0)=false:=yan xaa
 have HO:V _:=λw=>by
  have:=jr v.op w xaa aq
  rw[Gq F aq]at this
  exact this
 go_enter func86,ntmps86;go_wp2_with (first|(go_at_call 19;refine(HO.o _).mono ?_;rintro e am ⟨rfl,rfl⟩)|fail);have br:=zK ((w.alloc (fx a1 Z c1 (some ⟨a0,b9,none⟩) ae c2 a3 ab c3)).alloc (fW v.op v.len v.a v.b v.c v.k));generalize bm:(w.alloc (fx a1 Z c1 (some ⟨a0,b9,none⟩) ae c2 a3 ab c3)).alloc (fW v.op v.len v.a v.b v.c v.k)=aH at a7 J br⊢;clear bm cj af bg ah e4 ce;have T:V _:=a7;clear a7;go_loopw [7,8] (λm bX W=>∃k:Nat,k<=3/\bX=h1 k/\V ((List.range k).all (okF v i)=true)/\GrowI aH k ((List.range k).map λj=>(jM vs v j:Int)) m W) (λ_ bX _=>3-(intOf bX).toNat)
 case atStart=>exact⟨0,yae,rfl,rfl,br⟩
 case round=>
  obtain⟨k,O,rfl,be,bh⟩:=hrel;clear br;by_cases hlt:k<3
  ·have HX:V _:=nz wr v k hlt;obtain⟨_,aP,ay,aB,b⟩:=T.o.keep bh.2.2;obtain⟨bR,aM,bi,aI,r,aC⟩:=b;simp only[Nat.zero_add]at aM bi aI r aC;go_wp2_with fail;refine yaj HX.o ?_;rintro e am ⟨rfl,bM⟩;replace bh:=bh.keep bM;clear bM HX aP ay aB bR aM bi aI r aC;obtain⟨_,aP,ay,aB,b⟩:=T.o.keep bh.2.2;obtain⟨bR,aM,bi,aI,r,aC⟩:=b;simp only[Nat.zero_add]at aM bi aI r aC;have b2:=bh.2.2.size;by_cases cc:k<cnt v.op
   ·by_cases ap:gm (fld v k) i=true
    ·have Q:okF v i k=true:=by unfold okF;rw[h7 cc];exact ap
     have R:V _:=ig be.o Q;have aj:=of_decide_eq_true ap;obtain⟨j,hj⟩:∃j:Nat,fld v k=j:=⟨(fld v k).toNat,by omega⟩
     have n:j<i:=xaa;have P:=N.o j n;have c:=iI (J.o.trans bh.2.2) aK (bO.o j xaa).c1
     have a5:V ((jM vs v k:Int)=(vs.getD j h9).len):=by
      show(jM vs v k:Int)=_;unfold jM;rw[h7 cc,hj,Int.toNat_natCast,Int.toNat_of_nonneg xaa]
     rw[hj];generalize (vs.getD j h9).len=z at c a5;clear ap aj Q be hj P;generalize I:((List.range k).map λj=>(jM vs v j:Int))=L at bh;have l:V _:=I;clear I;go_wp2_with (first|(at_builtin;refine wpList_append_own _ rfl _ _ 23 rfl aH.heap.size 3 b1 (h1 0) 1 8 underlying23 bd hz0 hz1 hz2 rfl xab _ _ _ rfl (bh.1.alloc _) ⟨am.heap.size,0,none⟩ 1 1 [h1 z] rfl rfl ?c1 ?c2 ?c3 ?c4 ?c5 ?_))
     case c1=>exact cell_one_new _ _ _
     case c2=>intro u a6;simp at a6;subst a6;rfl
     case c3=>unfold maxLen;omega
     case c4=>omega
     case c5=>simp;omega
     intro v' bn bU bK _;have R2:V _:=bh.step bU bK;clear bU bK bh aP ay aB bR aM bi aI r aC b2;go_wp2;go_roundw
     case rel=>
      refine⟨k+1,by omega,by go_num,R,?_⟩;exact xfe
     case measure=>simp[intOf];omega
    have aj:¬(0<=fld v k/\fld v k<i):=λc=>ap (decide_eq_true c);have Q:okF v i k=false:=by unfold okF;rw[h7 cc];exact yay aj
    have R:V _:=jh hlt Q;have R2:V _:=J.o.trans bh.2.2;generalize fld v k=y at aj⊢;clear ap Q be;rcases (by omega:y<0\/(0<=y/\(i:Int)<=y)) with bp|⟨bp,h⟩
    all_goals
     clear aj
     go_wp2
     go_ret
     exact⟨i4 R.o,R2.o⟩
   have x:cnt v.op<=k:=xaa
   have a5:V ((jM vs v k:Int)=0):=by
    show(jM vs v k:Int)=0;unfold jM;rw[h6 cc];rfl
   cases Q:okF v i k
   ·have R:V _:=jh hlt Q;have R2:V _:=J.o.trans bh.2.2;unfold okF at Q;rw[h6 cc,Bool.or_eq_false_iff]at Q;obtain⟨ba,aQ⟩:=Q;have t:(fld v k !=0)=true:=by rw[bne,ba];rfl
    generalize fld v k=y at ba t⊢;rcases (by omega:k=0\/k=1\/k=2) with rfl|rfl|rfl
    ·exact xix
    ·exact xix
    have C:=of_decide_eq_false (show g7 v.op=false by simpa using aQ);have aS:(v.op==11)=false:=yan xaa;have a9:(v.op==12)=false:=yan xaa;clear aQ C ba be cc;go_wp2;go_ret;exact⟨i4 R.o,R2.o⟩
   have R:V _:=ig be.o Q
   have f:(fld v k !=0)=false\/(k=2/\(fld v k !=0)=true/\((v.op==11)=true\/((v.op==11)=false/\(v.op==12)=true))):=by
    unfold okF at Q;rw[h6 cc,Bool.or_eq_true]at Q;cases ba:(fld v k==0)
    ·right;rw[ba]at Q;have h2:=Q.resolve_left xac;rw[Bool.and_eq_true]at h2;have aQ:=of_decide_eq_true h2.2;refine⟨by simpa using h2.1,by rw[bne,ba];rfl,?_⟩;rcases aQ with aQ|aQ
     ·exact .inl (beq_iff_eq.2 aQ)
     exact .inr ⟨yan xaa,beq_iff_eq.2 aQ⟩
    left;rw[bne,ba];rfl
   have bI:V _:=x;generalize fld v k=y at f⊢;clear be cc;generalize I:((List.range k).map λj=>(jM vs v j:Int))=L at bh;have l:V _:=I;clear I;rcases f with a|⟨rfl,a,aQ⟩
   ·rcases (by omega:k=0\/k=1\/k=2) with rfl|rfl|rfl
    ·go_wp2_with (first|(at_builtin;refine wpList_append_own _ rfl _ _ 23 rfl aH.heap.size 3 b1 (h1 0) 1 8 underlying23 bd hz0 hz1 hz2 rfl xab _ _ _ rfl (bh.1.alloc _) ⟨am.heap.size,0,none⟩ 1 1 [h1 0] rfl rfl ?c1 ?c2 ?c3 ?c4 ?c5 ?_))
     case c1=>exact cell_one_new _ _ _
     case c2=>intro u a6;simp at a6;subst a6;rfl
     case c3=>unfold maxLen;omega
     case c4=>omega
     case c5=>simp;omega
     intro v' bn bU bK _;have R2:V _:=bh.step bU bK;clear bU bK bh aP ay aB bR aM bi aI r aC b2;go_wp2;go_roundw
     case rel=>
      refine⟨1,by omega,by go_num,R,?_⟩;exact xfe
     case measure=>simp[intOf]
    ·go_wp2_with (first|(at_builtin;refine wpList_append_own _ rfl _ _ 23 rfl aH.heap.size 3 b1 (h1 0) 1 8 underlying23 bd hz0 hz1 hz2 rfl xab _ _ _ rfl (bh.1.alloc _) ⟨am.heap.size,0,none⟩ 1 1 [h1 0] rfl rfl ?c1 ?c2 ?c3 ?c4 ?c5 ?_))
     case c1=>exact cell_one_new _ _ _
     case c2=>intro u a6;simp at a6;subst a6;rfl
     case c3=>unfold maxLen;omega
     case c4=>omega
     case c5=>simp;omega
     intro v' bn bU bK _;have R2:V _:=bh.step bU bK;clear bU bK bh aP ay aB bR aM bi aI r aC b2;go_wp2;go_roundw
     case rel=>
      refine⟨2,by omega,by go_num,R,?_⟩;exact xfe
     case measure=>simp[intOf]
    cases aS:(v.op==11)<;>cases a9:(v.op==12)
    all_goals
     go_wp2_with (first|(at_builtin;refine wpList_append_own _ rfl _ _ 23 rfl aH.heap.size 3 b1 (h1 0) 1 8 underlying23 bd hz0 hz1 hz2 rfl xab _ _ _ rfl (bh.1.alloc _) ⟨am.heap.size,0,none⟩ 1 1 [h1 0] rfl rfl ?c1 ?c2 ?c3 ?c4 ?c5 ?_))
     case c1=>exact cell_one_new _ _ _
     case c2=>intro u a6;simp at a6;subst a6;rfl
     case c3=>unfold maxLen;omega
     case c4=>omega
     case c5=>simp;omega
     intro v' bn bU bK _
     have R2:V _:=bh.step bU bK
     clear bU bK bh aP ay aB bR aM bi aI r aC b2
     go_wp2
     go_roundw
     case rel=>
      refine⟨3,by omega,by go_num,R,?_⟩
      have:=R2.o
      rw[<-a5.o,<-l.o]at this
      rw[List.range_succ,List.map_append]
      exact this
     case measure=>simp[intOf]
   rcases aQ with aS|⟨aS,a9⟩
   all_goals
    go_wp2_with (first|(at_builtin;refine wpList_append_own _ rfl _ _ 23 rfl aH.heap.size 3 b1 (h1 0) 1 8 underlying23 bd hz0 hz1 hz2 rfl xab _ _ _ rfl (bh.1.alloc _) ⟨am.heap.size,0,none⟩ 1 1 [h1 0] rfl rfl ?c1 ?c2 ?c3 ?c4 ?c5 ?_))
    case c1=>exact cell_one_new _ _ _
    case c2=>intro u a6;simp at a6;subst a6;rfl
    case c3=>unfold maxLen;omega
    case c4=>omega
    case c5=>simp;omega
    intro v' bn bU bK _
    have R2:V _:=bh.step bU bK
    clear bU bK bh aP ay aB bR aM bi aI r aC b2
    go_wp2
    go_roundw
    case rel=>
     refine⟨3,by omega,by go_num,R,?_⟩
     have:=R2.o
     rw[<-a5.o,<-l.o]at this
     rw[List.range_succ,List.map_append]
     exact this
    case measure=>simp[intOf]
  obtain rfl:k=3:=xaa;have R:V _:=be.o;have R2:V _:=J.o.trans bh.2.2;obtain⟨g,cap,rfl,al⟩:=bh.at_ xaa;have c0:=al 0 xaa;have c1:=al 1 xaa;have c2:=al 2 xaa;obtain⟨_,aP,ay,aB,b⟩:=T.o.keep bh.2.2;obtain⟨bR,aM,bi,aI,r,aC⟩:=b;simp only[Nat.zero_add]at aM bi aI r aC;simp only[List.range,List.range.loop,List.map_cons,List.map_nil,List.getD_cons_zero,List.getD_cons_succ]at c0 c1 c2;clear al bh be;have bI:V (∀w,Calls prog 47 #[v.agg,h1 (jM vs v 0:Int),h1 (jM vs v 1:Int),h1 (jM vs v 2:Int)] w λe B=>e=.returned (.bool (jQ v.op v.len v.c (jM vs v 0) (jM vs v 1) (jM vs v 2)))/\B=w.alloc (fW v.op v.len v.a v.b v.c v.k)):=λw=>xF w v.op v.len v.a v.b v.c v.k (jM vs v 0) (jM vs v 1) (jM vs v 2);go_wp2_with fail
  go_region_held3 (λB=>B.cell? ⟨w.heap.size+1,0,none⟩=some (h1 v.op)/\B.cell? ⟨w.heap.size+1,1,none⟩=some (h1 v.len)/\B.cell? ⟨w.heap.size+1,2,none⟩=some (h1 v.a)/\B.cell? ⟨w.heap.size+1,3,none⟩=some (h1 v.b)/\B.cell? ⟨w.heap.size+1,4,none⟩=some (h1 v.c)/\B.cell? ⟨w.heap.size+1,5,none⟩=some (.float .f64 v.k)/\B.cell? ⟨g,0,none⟩=some (h1 (jM vs v 0:Int))/\B.cell? ⟨g,1,none⟩=some (h1 (jM vs v 1:Int))/\B.cell? ⟨g,2,none⟩=some (h1 (jM vs v 2:Int))) (go_keep)
   ((go_at_call 47;refine(bI.o _).mono ?_;rintro e bn ⟨rfl,rfl⟩))
  all_goals
   go_wp2
   go_ret
   exact⟨by rw[R.o,Bool.true_and];rfl,(R2.o.trans (eH 0 0 _ 1)).trans (eA 0 0 _ _)⟩
