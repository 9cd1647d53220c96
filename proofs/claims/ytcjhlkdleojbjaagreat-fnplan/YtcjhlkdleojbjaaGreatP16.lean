import Derived.Test.YtcjhlkdleojbjaaGreatP15
namespace Go.Proofs.Z
open Tryz
set_option maxRecDepth 1000000
set_option maxHeartbeats 0
open Go.RowKit Flt
attribute[local go_sem] eF eE eD
variable{aA:World}{k:Nat}{xs:List Int}{v:Value}
def GrowI(w1:World)(k:Nat)(xs:List Int)(v:Value)(W:World):Prop:=
 W.ownsRow w1.heap.size 3 1 v k (xs.map (Value.int .i64))/\xs.length=k/\Kept 0 0 w1 W
theorem zj(aA):GrowI aA 0 [] (.slice none 0 0) aA:=⟨yaw _ _ _ _,rfl,Kept.refl _ _ _⟩
theorem GrowI.keep{W I}(h:GrowI aA k xs v W)(aL:Kept 0 0 W I):GrowI aA k xs v I:=
 ⟨eO h.1 aL,h.2.1,h.2.2.trans aL⟩
theorem GrowI.step{W z}(h:GrowI aA k xs v W)
  {v'}{B}{o}
  (e:B.ownsRow aA.heap.size 3 1 v' (k+1) (xs.map (Value.int .i64)++[Value.int .i64 z])) (aJ:(W.alloc o).grownBy B v.ownBlock):GrowI aA (k+1) (xs++[z]) v' B:=by
 refine⟨by grind,by simp[h.2.1],?_⟩;have aI:=h.2.2;refine⟨aJ.os.trans aI.os,aJ.tape.trans aI.tape,aJ.output.trans aI.output,?_,λi hi _=>?_⟩
 ·have:=aJ.size;have N:=aI.size;simp at this;omega
 have N:=aI.size;rw[aJ.block i yag (λc=>hJ (h.1.lt i c.symm)),Below.heap_alloc W o i xaa];exact aI.block i hi xaa
theorem GrowI.at_{W}(h:GrowI aA k xs v W)(O:0<k):∃g cap,v=hz g k cap/\∀j,j<k->W.cell? ⟨g,j,none⟩=some (hA (xs.getD j 0)):=by
 obtain⟨ho,af,_⟩:=h;rcases ho.2 with⟨_,c⟩|⟨g,cap,av,rfl,R,aS,_,_,b7,ba⟩
 ·omega
 refine⟨g,cap,rfl,λj hj=>?_⟩;rw[cell_of_row W g _ av _ _ aS,<-Array.getElem?_toList];have:(av.toList.take (k*1))[j]? =(xs.map (Value.int .i64))[j]?:=by rw[ba]
 grind
def okF(v:Vl)(i:Nat)(k:Nat):Bool:=if k<cnt v.op then fR (fld v k) i else (fld v k==0||(k==2&&iU v.op))
def jE(vs:List Vl)(v:Vl)(k:Nat):Nat:=if k<cnt v.op then (vs.getD (fld v k).toNat hF).len.toNat else 0
theorem zk{op}(F:1<=op)(N:op<=13):sQ op=cnt op:=by
 rcases (by omega:op=1\/op=2\/op=3\/op=4\/op=5\/op=6\/op=7\/op=8\/op=9\/op=10\/op=11\/op=12\/op=13) with h|h|h|h|h|h|h|h|h|h|h|h|h<;>subst h<;>rfl
theorem DK(w a1 a3 Z c1 n2 c2 ab c3 aN bT i v vs)(aJ:aN<w.heap.size)(hi:i<n2)
  (Q:∀k,k<n2->At w aN (bT+k*6) (vs.getD k hF)) (l:∀k,k<i->1<=(vs.getD k hF).len/\(vs.getD k hF).len<=1000) (aO:vs.getD i hF=v) (F:1<=v.op) (I:v.op<=13) (cf:1<=v.len) (b1:v.len<=1000):
  Calls prog 19 #[eZ a1 Z c1 (some ⟨aN,bT,none⟩) n2 c2 a3 ab c3,hA i] w λe B=>e=.returned (.bool ((List.range 3).all (okF v i)&&i8 v.op v.len v.c (jE vs v 0) (jE vs v 1) (jE vs v 2)))/\Kept 0 0 w B:=by
 obtain⟨bW,a8,b4,b3,b0⟩:=info_parts pX;have aI:=ez 0 0 w (e9 a1 Z c1 (some ⟨aN,bT,none⟩) n2 c2 a3 ab c3);have a7:=Q i hi;rw[aO]at a7;have bl:E _:=Q;have bB:E _:=l;clear Q aO l;obtain⟨b9,ae,a9,ai,e4,b7⟩:=a7.keep aJ aI yaa;have P:E _:=aI.trans (ez 0 0 _ (fH v.op v.len v.a v.b v.c v.k));have aT:=pZ w (.slice a1 Z c1) (.slice (some ⟨aN,bT,none⟩) n2 c2) (.slice a3 ab c3) v;clear a7 aI;have bn:(v.op==0)=false:=yan xaa
 have HO:E _:=λw=>by
  have:=lO v.op w xaa I
  rw[zk F I]at this
  exact this
 go_enter func19,ntmps19;go_wp2_with (first|(go_at_call 51;refine(HO.o _).mono ?_;rintro e ag ⟨rfl,rfl⟩)|fail);have bg:=zj ((w.alloc (e9 a1 Z c1 (some ⟨aN,bT,none⟩) n2 c2 a3 ab c3)).alloc (fH v.op v.len v.a v.b v.c v.k));generalize bA:(w.alloc (e9 a1 Z c1 (some ⟨aN,bT,none⟩) n2 c2 a3 ab c3)).alloc (fH v.op v.len v.a v.b v.c v.k)=aA at aT P bg⊢;clear bA b9 ae a9 ai e4 b7;have av:E _:=aT;clear aT;go_loopw [7,8] (λq cp W=>∃k:Nat,k<=3/\cp=hA k/\E ((List.range k).all (okF v i)=true)/\GrowI aA k ((List.range k).map λj=>(jE vs v j:Int)) q W) (λ_ cp _=>3-(intOf cp).toNat)
 case atStart=>exact⟨0,yae,rfl,rfl,bg⟩
 case round=>
  obtain⟨k,O,rfl,a2,ba⟩:=hrel;clear bg;by_cases aG:k<3
  ·have ar:E _:=mj wr v k aG;obtain⟨_,aY,aC,aL,m⟩:=av.o.keep ba.2.2;obtain⟨bS,aH,bf,Y,bC,bZ⟩:=m;simp only[Nat.zero_add]at aH bf Y bC bZ;go_wp2_with fail;refine yaj ar.o ?_;rintro e ag ⟨rfl,bP⟩;replace ba:=ba.keep bP;clear bP ar aY aC aL bS aH bf Y bC bZ;obtain⟨_,aY,aC,aL,m⟩:=av.o.keep ba.2.2;obtain⟨bS,aH,bf,Y,bC,bZ⟩:=m;simp only[Nat.zero_add]at aH bf Y bC bZ;have bX:=ba.2.2.size;by_cases bK:k<cnt v.op
   ·by_cases an:fR (fld v k) i=true
    ·have bV:okF v i k=true:=by unfold okF;rw[hD bK];exact an
     have H:E _:=jh a2.o bV;have aj:=of_decide_eq_true an;obtain⟨j,hj⟩:∃j:Nat,fld v k=j:=⟨(fld v k).toNat,by omega⟩
     have aw:j<i:=xaa;have af:=bB.o j aw;have c:=iD (P.o.trans ba.2.2) aJ (bl.o j xaa).c1
     have bv:E ((jE vs v k:Int)=(vs.getD j hF).len):=by
      show(jE vs v k:Int)=_;unfold jE;rw[hD bK,hj,Int.toNat_natCast,Int.toNat_of_nonneg xaa]
     rw[hj];generalize (vs.getD j hF).len=z at c bv;clear an aj bV a2 hj af;generalize aq:((List.range k).map λj=>(jE vs v j:Int))=L at ba;have cA:E _:=aq;clear aq;go_wp2_with (first|(at_builtin;refine wpList_append_own _ rfl _ _ 23 rfl aA.heap.size 3 bW (hA 0) 1 8 underlying23 a8 b4 b3 b0 rfl xab _ _ _ rfl (ba.1.alloc _) ⟨ag.heap.size,0,none⟩ 1 1 [hA z] rfl rfl ?c1 ?c2 ?c3 ?c4 ?c5 ?_))
     case c1=>exact cell_one_new _ _ _
     case c2=>intro u aB;simp at aB;subst aB;rfl
     case c3=>unfold maxLen;omega
     case c4=>omega
     case c5=>simp;omega
     intro v' bj bF aW _;have R2:E _:=ba.step bF aW;clear bF aW ba aY aC aL bS aH bf Y bC bZ bX;go_wp2;go_roundw
     case rel=>
      refine⟨k+1,by omega,by go_num,H,?_⟩;exact xet
     case measure=>simp[intOf];omega
    have aj:¬(0<=fld v k/\fld v k<i):=λc=>an (decide_eq_true c);have bV:okF v i k=false:=by unfold okF;rw[hD bK];exact yay aj
    have H:E _:=kz aG bV;have R2:E _:=P.o.trans ba.2.2;generalize fld v k=y at aj⊢;clear an bV a2;rcases (by omega:y<0\/(0<=y/\(i:Int)<=y)) with bN|⟨bN,n⟩
    all_goals
     clear aj
     go_wp2
     go_ret
     exact⟨hO H.o,R2.o⟩
   have p:cnt v.op<=k:=xaa
   have bv:E ((jE vs v k:Int)=0):=by
    show(jE vs v k:Int)=0;unfold jE;rw[hC bK];rfl
   cases bV:okF v i k
   ·have H:E _:=kz aG bV;have R2:E _:=P.o.trans ba.2.2;unfold okF at bV;rw[hC bK,Bool.or_eq_false_iff]at bV;obtain⟨a5,aM⟩:=bV;have o:(fld v k !=0)=true:=by rw[bne,a5];rfl
    generalize fld v k=y at a5 o⊢;rcases (by omega:k=0\/k=1\/k=2) with rfl|rfl|rfl
    ·exact xip
    ·exact xip
    have h:=of_decide_eq_false (show iU v.op=false by simpa using aM);have aX:(v.op==11)=false:=yan xaa;have bb:(v.op==12)=false:=yan xaa;clear aM h a5 a2 bK;go_wp2;go_ret;exact⟨hO H.o,R2.o⟩
   have H:E _:=jh a2.o bV
   have f:(fld v k !=0)=false\/(k=2/\(fld v k !=0)=true/\((v.op==11)=true\/((v.op==11)=false/\(v.op==12)=true))):=by
    unfold okF at bV;rw[hC bK,Bool.or_eq_true]at bV;cases a5:(fld v k==0)
    ·right;rw[a5]at bV;have N:=bV.resolve_left xac;rw[Bool.and_eq_true]at N;have aM:=of_decide_eq_true N.2;refine⟨by simpa using N.1,by rw[bne,a5];rfl,?_⟩;rcases aM with aM|aM
     ·exact .inl (beq_iff_eq.2 aM)
     exact .inr ⟨yan xaa,beq_iff_eq.2 aM⟩
    left;rw[bne,a5];rfl
   have aV:E _:=p;generalize fld v k=y at f⊢;clear a2 bK;generalize aq:((List.range k).map λj=>(jE vs v j:Int))=L at ba;have cA:E _:=aq;clear aq;rcases f with ak|⟨rfl,ak,aM⟩
   ·rcases (by omega:k=0\/k=1\/k=2) with rfl|rfl|rfl
    ·go_wp2_with (first|(at_builtin;refine wpList_append_own _ rfl _ _ 23 rfl aA.heap.size 3 bW (hA 0) 1 8 underlying23 a8 b4 b3 b0 rfl xab _ _ _ rfl (ba.1.alloc _) ⟨ag.heap.size,0,none⟩ 1 1 [hA 0] rfl rfl ?c1 ?c2 ?c3 ?c4 ?c5 ?_))
     case c1=>exact cell_one_new _ _ _
     case c2=>intro u aB;simp at aB;subst aB;rfl
     case c3=>unfold maxLen;omega
     case c4=>omega
     case c5=>simp;omega
     intro v' bj bF aW _;have R2:E _:=ba.step bF aW;clear bF aW ba aY aC aL bS aH bf Y bC bZ bX;go_wp2;go_roundw
     case rel=>
      refine⟨1,by omega,by go_num,H,?_⟩;exact xet
     case measure=>simp[intOf]
    ·go_wp2_with (first|(at_builtin;refine wpList_append_own _ rfl _ _ 23 rfl aA.heap.size 3 bW (hA 0) 1 8 underlying23 a8 b4 b3 b0 rfl xab _ _ _ rfl (ba.1.alloc _) ⟨ag.heap.size,0,none⟩ 1 1 [hA 0] rfl rfl ?c1 ?c2 ?c3 ?c4 ?c5 ?_))
     case c1=>exact cell_one_new _ _ _
     case c2=>intro u aB;simp at aB;subst aB;rfl
     case c3=>unfold maxLen;omega
     case c4=>omega
     case c5=>simp;omega
     intro v' bj bF aW _;have R2:E _:=ba.step bF aW;clear bF aW ba aY aC aL bS aH bf Y bC bZ bX;go_wp2;go_roundw
     case rel=>
      refine⟨2,by omega,by go_num,H,?_⟩;exact xet
     case measure=>simp[intOf]
    cases aX:(v.op==11)<;>cases bb:(v.op==12)
    all_goals
     go_wp2_with (first|(at_builtin;refine wpList_append_own _ rfl _ _ 23 rfl aA.heap.size 3 bW (hA 0) 1 8 underlying23 a8 b4 b3 b0 rfl xab _ _ _ rfl (ba.1.alloc _) ⟨ag.heap.size,0,none⟩ 1 1 [hA 0] rfl rfl ?c1 ?c2 ?c3 ?c4 ?c5 ?_))
     case c1=>exact cell_one_new _ _ _
     case c2=>intro u aB;simp at aB;subst aB;rfl
     case c3=>unfold maxLen;omega
     case c4=>omega
     case c5=>simp;omega
     intro v' bj bF aW _
     have R2:E _:=ba.step bF aW
     clear bF aW ba aY aC aL bS aH bf Y bC bZ bX
     go_wp2
     go_roundw
     case rel=>
      refine⟨3,by omega,by go_num,H,?_⟩
      have:=R2.o
      rw[<-bv.o,<-cA.o]at this
      rw[List.range_succ,List.map_append]
      exact this
     case measure=>simp[intOf]
   rcases aM with aX|⟨aX,bb⟩
   all_goals
    go_wp2_with (first|(at_builtin;refine wpList_append_own _ rfl _ _ 23 rfl aA.heap.size 3 bW (hA 0) 1 8 underlying23 a8 b4 b3 b0 rfl xab _ _ _ rfl (ba.1.alloc _) ⟨ag.heap.size,0,none⟩ 1 1 [hA 0] rfl rfl ?c1 ?c2 ?c3 ?c4 ?c5 ?_))
    case c1=>exact cell_one_new _ _ _
    case c2=>intro u aB;simp at aB;subst aB;rfl
    case c3=>unfold maxLen;omega
    case c4=>omega
    case c5=>simp;omega
    intro v' bj bF aW _
    have R2:E _:=ba.step bF aW
    clear bF aW ba aY aC aL bS aH bf Y bC bZ bX
    go_wp2
    go_roundw
    case rel=>
     refine⟨3,by omega,by go_num,H,?_⟩
     have:=R2.o
     rw[<-bv.o,<-cA.o]at this
     rw[List.range_succ,List.map_append]
     exact this
    case measure=>simp[intOf]
  obtain rfl:k=3:=xaa;have H:E _:=a2.o;have R2:E _:=P.o.trans ba.2.2;obtain⟨g,cap,rfl,ah⟩:=ba.at_ xaa;have c0:=ah 0 xaa;have c1:=ah 1 xaa;have c2:=ah 2 xaa;obtain⟨_,aY,aC,aL,m⟩:=av.o.keep ba.2.2;obtain⟨bS,aH,bf,Y,bC,bZ⟩:=m;simp only[Nat.zero_add]at aH bf Y bC bZ;simp only[List.range,List.range.loop,List.map_cons,List.map_nil,List.getD_cons_zero,List.getD_cons_succ]at c0 c1 c2;clear ah ba a2;have aV:E (∀w,Calls prog 53 #[v.agg,hA (jE vs v 0:Int),hA (jE vs v 1:Int),hA (jE vs v 2:Int)] w λe B=>e=.returned (.bool (i8 v.op v.len v.c (jE vs v 0) (jE vs v 1) (jE vs v 2)))/\B=w.alloc (fH v.op v.len v.a v.b v.c v.k)):=λw=>AQ w v.op v.len v.a v.b v.c v.k (jE vs v 0) (jE vs v 1) (jE vs v 2);go_wp2_with fail
  go_region_held3 (λB=>B.cell? ⟨w.heap.size+1,0,none⟩=some (hA v.op)/\B.cell? ⟨w.heap.size+1,1,none⟩=some (hA v.len)/\B.cell? ⟨w.heap.size+1,2,none⟩=some (hA v.a)/\B.cell? ⟨w.heap.size+1,3,none⟩=some (hA v.b)/\B.cell? ⟨w.heap.size+1,4,none⟩=some (hA v.c)/\B.cell? ⟨w.heap.size+1,5,none⟩=some (.float .f64 v.k)/\B.cell? ⟨g,0,none⟩=some (hA (jE vs v 0:Int))/\B.cell? ⟨g,1,none⟩=some (hA (jE vs v 1:Int))/\B.cell? ⟨g,2,none⟩=some (hA (jE vs v 2:Int))) (go_keep)
   ((go_at_call 53;refine(aV.o _).mono ?_;rintro e bj ⟨rfl,rfl⟩))
  all_goals
   go_wp2
   go_ret
   exact⟨by rw[H.o,Bool.true_and];rfl,(R2.o.trans (eJ 0 0 _ 1)).trans (ez 0 0 _ _)⟩
