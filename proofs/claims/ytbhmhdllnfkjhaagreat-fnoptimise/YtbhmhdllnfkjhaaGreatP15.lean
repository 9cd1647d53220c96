import Derived.Test.YtbhmhdllnfkjhaaGreatP14
namespace Go.Proofs.Z
open Tryz
set_option maxRecDepth 1000000
set_option maxHeartbeats 0
open Go.RowKit Flt
attribute[local go_sem] eG eE eD
variable{aO W':World}{k:Nat}{xs:List Int}{v:Value}
def GrowI(w1:World)(k:Nat)(xs:List Int)(v:Value)(W:World):Prop:=
 W.ownsRow w1.heap.size 3 1 v k (xs.map (Value.int .i64))/\xs.length=k/\Kept 0 0 w1 W
theorem yP(aO):GrowI aO 0 [] (.slice none 0 0) aO:=⟨yaw _ _ _ _,rfl,Kept.refl _ _ _⟩
theorem FK{base e size n:Nat}{xs W}(h:W.ownsRow base e size v n xs)(k:Kept 0 0 W W'):W'.ownsRow base e size v n xs:=by
 refine⟨h.1,?_⟩;rcases h.2 with hn|⟨g,cap,H,rfl,hb,f,rest⟩
 ·exact .inl hn
 refine .inr ⟨g,cap,H,rfl,hb,?_,rest⟩
 have aR:g<W.heap.size:=by
  rcases Nat.lt_or_ge g W.heap.size with c|c
  ·exact c
  rw[Array.getElem?_eq_none c]at f;cases f
 rw[k.block g aR xaa];exact f
theorem GrowI.keep{W}(h:GrowI aO k xs v W)(bZ:Kept 0 0 W W'):GrowI aO k xs v W':=
 ⟨FK h.1 bZ,h.2.1,h.2.2.trans bZ⟩
theorem GrowI.step{W z}(h:GrowI aO k xs v W)
  {v'}{I}{o}
  (e:I.ownsRow aO.heap.size 3 1 v' (k+1) (xs.map (Value.int .i64)++[Value.int .i64 z])) (aR:(W.alloc o).grownBy I v.ownBlock):GrowI aO (k+1) (xs++[z]) v' I:=by
 refine⟨by rw[List.map_append];exact e,by simp[h.2.1],?_⟩;have aw:=h.2.2;refine⟨aR.os.trans aw.os,aR.tape.trans aw.tape,aR.output.trans aw.output,?_,λi hi _=>?_⟩
 ·have:=aR.size;have J:=aw.size;simp at this;omega
 have J:=aw.size;rw[aR.block i yag (λc=>hM (h.1.lt i c.symm)),Below.heap_alloc W o i xaa];exact aw.block i hi xaa
theorem GrowI.at_{W}(h:GrowI aO k xs v W)(N:0<k):∃g cap,v=hC g k cap/\∀j,j<k->W.cell? ⟨g,j,none⟩=some (hD (xs.getD j 0)):=by
 obtain⟨al,ab,_⟩:=h;rcases al.2 with⟨_,c⟩|⟨g,cap,H,rfl,O,ax,_,_,cj,bG⟩
 ·omega
 refine⟨g,cap,rfl,λj hj=>?_⟩;rw[cell_of_row W g _ H _ _ ax,<-Array.getElem?_toList];have:(H.toList.take (k*1))[j]? =(xs.map (Value.int .i64))[j]?:=by rw[bG]
 exact xer
def okF(v:Vl)(i:Nat)(k:Nat):Bool:=if k<cnt v.op then fJ (fld v k) i else (fld v k==0||(k==2&&iU v.op))
def jT(vs:List Vl)(v:Vl)(k:Nat):Nat:=if k<cnt v.op then (vs.getD (fld v k).toNat hI).len.toNat else 0
theorem yR{op}(B:1<=op)(J:op<=13):tv op=cnt op:=by
 rcases (by omega:op=1\/op=2\/op=3\/op=4\/op=5\/op=6\/op=7\/op=8\/op=9\/op=10\/op=11\/op=12\/op=13) with h|h|h|h|h|h|h|h|h|h|h|h|h<;>subst h<;>rfl
theorem Dm(w a1 a3 n1 c1 T c2 n3 c3 ap bO i v vs)(aR:ap<w.heap.size)(hi:i<T)
  (Q:∀k,k<T->At w ap (bO+k*6) (vs.getD k hI)) (n:∀k,k<i->1<=(vs.getD k hI).len/\(vs.getD k hI).len<=1000) (aD:vs.getD i hI=v) (B:1<=v.op) (S:v.op<=13) (ck:1<=v.len) (cz:v.len<=1000):
  Calls prog 44 #[eV a1 n1 c1 (some ⟨ap,bO,none⟩) T c2 a3 n3 c3,hD i] w λe I=>e=.returned (.bool ((List.range 3).all (okF v i)&&jm v.op v.len v.c (jT vs v 0) (jT vs v 1) (jT vs v 2)))/\Kept 0 0 w I:=by
 obtain⟨b3,a2,a6,b8,b5⟩:=info_parts qz;have aw:=ez 0 0 w (eW a1 n1 c1 (some ⟨ap,bO,none⟩) T c2 a3 n3 c3);have be:=Q i hi;rw[aD]at be;have aa:V _:=Q;have b6:V _:=n;clear Q aD n;obtain⟨bc,e1,e2,af,e4,bo⟩:=be.keep aR aw yaa;have P:V _:=aw.trans (ez 0 0 _ (fB v.op v.len v.a v.b v.c v.k));have aS:=qA w (.slice a1 n1 c1) (.slice (some ⟨ap,bO,none⟩) T c2) (.slice a3 n3 c3) v;clear be aw;have bf:(v.op==0)=false:=yan xaa
 have HO:V _:=λw=>by
  have:=kX v.op w xaa S
  rw[yR B S]at this
  exact this
 go_enter func44,ntmps44;go_wp2_with (first|(go_at_call 48;refine(HO.o _).mono ?_;rintro e ag ⟨rfl,rfl⟩)|fail);have bv:=yP ((w.alloc (eW a1 n1 c1 (some ⟨ap,bO,none⟩) T c2 a3 n3 c3)).alloc (fB v.op v.len v.a v.b v.c v.k));generalize cB:(w.alloc (eW a1 n1 c1 (some ⟨ap,bO,none⟩) T c2 a3 n3 c3)).alloc (fB v.op v.len v.a v.b v.c v.k)=aO at aS P bv⊢;clear cB bc e1 e2 af e4 bo;have aA:V _:=aS;clear aS;go_loopw [7,8] (λF b4 W=>∃k:Nat,k<=3/\b4=hD k/\V ((List.range k).all (okF v i)=true)/\GrowI aO k ((List.range k).map λj=>(jT vs v j:Int)) F W) (λ_ b4 _=>3-(intOf b4).toNat)
 case atStart=>exact⟨0,yae,rfl,rfl,bv⟩
 case round=>
  obtain⟨k,N,rfl,aU,au⟩:=hrel;clear bv;by_cases aC:k<3
  ·have bn:V _:=lW wr v k aC;obtain⟨_,bd,aL,aJ,m⟩:=aA.o.keep au.2.2;obtain⟨bu,d1,d2,d3,H,aj⟩:=m;simp only[Nat.zero_add]at d1 d2 d3 H aj;go_wp2_with fail;refine yaj bn.o ?_;rintro e ag ⟨rfl,b2⟩;replace au:=au.keep b2;clear b2 bn bd aL aJ bu d1 d2 d3 H aj;obtain⟨_,bd,aL,aJ,m⟩:=aA.o.keep au.2.2;obtain⟨bu,d1,d2,d3,H,aj⟩:=m;simp only[Nat.zero_add]at d1 d2 d3 H aj;have ci:=au.2.2.size;by_cases bG:k<cnt v.op
   ·by_cases ak:fJ (fld v k) i=true
    ·have bN:okF v i k=true:=by unfold okF;rw[hG bG];exact ak
     have U:V _:=kZ aU.o bN;have ah:=of_decide_eq_true ak;obtain⟨j,hj⟩:∃j:Nat,fld v k=j:=⟨(fld v k).toNat,by omega⟩
     have x:j<i:=xaa;have C:=b6.o j x;have c:=iF (P.o.trans au.2.2) aR (aa.o j xaa).c1
     have bi:V ((jT vs v k:Int)=(vs.getD j hI).len):=by
      show(jT vs v k:Int)=_;unfold jT;rw[hG bG,hj,Int.toNat_natCast,Int.toNat_of_nonneg xaa]
     rw[hj];generalize (vs.getD j hI).len=z at c bi;clear ak ah bN aU hj C;generalize l:((List.range k).map λj=>(jT vs v j:Int))=L at au;have f:V _:=l;clear l;go_wp2_with (first|(at_builtin;refine wpList_append_own _ rfl _ _ 23 rfl aO.heap.size 3 b3 (hD 0) 1 8 underlying23 a2 a6 b8 b5 rfl xab _ _ _ rfl (au.1.alloc _) ⟨ag.heap.size,0,none⟩ 1 1 [hD z] rfl rfl ?c1 ?c2 ?c3 ?c4 ?c5 ?_))
     case c1=>exact cell_one_new _ _ _
     case c2=>intro u aH;simp at aH;subst aH;rfl
     case c3=>unfold maxLen;omega
     case c4=>omega
     case c5=>simp;omega
     intro v' bg bQ a0 _;have R2:V _:=au.step bQ a0;clear bQ a0 au bd aL aJ bu d1 d2 d3 H aj ci;go_wp2;go_roundw
     case rel=>
      refine⟨k+1,by omega,by go_num,U,?_⟩;exact xfd
     case measure=>simp[intOf];omega
    have ah:¬(0<=fld v k/\fld v k<i):=λc=>ak (decide_eq_true c);have bN:okF v i k=false:=by unfold okF;rw[hG bG];exact yay ah
    have U:V _:=mb aC bN;have R2:V _:=P.o.trans au.2.2;generalize fld v k=y at ah⊢;clear ak bN aU;rcases (by omega:y<0\/(0<=y/\(i:Int)<=y)) with bX|⟨bX,p⟩
    all_goals
     clear ah
     go_wp2
     go_ret
     exact⟨hS U.o,R2.o⟩
   have t:cnt v.op<=k:=xaa
   have bi:V ((jT vs v k:Int)=0):=by
    show(jT vs v k:Int)=0;unfold jT;rw[hF bG];rfl
   cases bN:okF v i k
   ·have U:V _:=mb aC bN;have R2:V _:=P.o.trans au.2.2;unfold okF at bN;rw[hF bG,Bool.or_eq_false_iff]at bN;obtain⟨a9,aK⟩:=bN;have q:(fld v k !=0)=true:=by rw[bne,a9];rfl
    generalize fld v k=y at a9 q⊢;rcases (by omega:k=0\/k=1\/k=2) with rfl|rfl|rfl
    ·exact xjk
    ·exact xjk
    have h:=of_decide_eq_false (show iU v.op=false by simpa using aK);have aP:(v.op==11)=false:=yan xaa;have aY:(v.op==12)=false:=yan xaa;clear aK h a9 aU bG;go_wp2;go_ret;exact⟨hS U.o,R2.o⟩
   have U:V _:=kZ aU.o bN
   have s:(fld v k !=0)=false\/(k=2/\(fld v k !=0)=true/\((v.op==11)=true\/((v.op==11)=false/\(v.op==12)=true))):=by
    unfold okF at bN;rw[hF bG,Bool.or_eq_true]at bN;cases a9:(fld v k==0)
    ·right;rw[a9]at bN;have J:=bN.resolve_left xac;rw[Bool.and_eq_true]at J;have aK:=of_decide_eq_true J.2;refine⟨by simpa using J.1,by rw[bne,a9];rfl,?_⟩;rcases aK with aK|aK
     ·exact .inl (beq_iff_eq.2 aK)
     exact .inr ⟨yan xaa,beq_iff_eq.2 aK⟩
    left;rw[bne,a9];rfl
   have b1:V _:=t;generalize fld v k=y at s⊢;clear aU bG;generalize l:((List.range k).map λj=>(jT vs v j:Int))=L at au;have f:V _:=l;clear l;rcases s with r|⟨rfl,r,aK⟩
   ·rcases (by omega:k=0\/k=1\/k=2) with rfl|rfl|rfl
    ·go_wp2_with (first|(at_builtin;refine wpList_append_own _ rfl _ _ 23 rfl aO.heap.size 3 b3 (hD 0) 1 8 underlying23 a2 a6 b8 b5 rfl xab _ _ _ rfl (au.1.alloc _) ⟨ag.heap.size,0,none⟩ 1 1 [hD 0] rfl rfl ?c1 ?c2 ?c3 ?c4 ?c5 ?_))
     case c1=>exact cell_one_new _ _ _
     case c2=>intro u aH;simp at aH;subst aH;rfl
     case c3=>unfold maxLen;omega
     case c4=>omega
     case c5=>simp;omega
     intro v' bg bQ a0 _;have R2:V _:=au.step bQ a0;clear bQ a0 au bd aL aJ bu d1 d2 d3 H aj ci;go_wp2;go_roundw
     case rel=>
      refine⟨1,by omega,by go_num,U,?_⟩;exact xfd
     case measure=>simp[intOf]
    ·go_wp2_with (first|(at_builtin;refine wpList_append_own _ rfl _ _ 23 rfl aO.heap.size 3 b3 (hD 0) 1 8 underlying23 a2 a6 b8 b5 rfl xab _ _ _ rfl (au.1.alloc _) ⟨ag.heap.size,0,none⟩ 1 1 [hD 0] rfl rfl ?c1 ?c2 ?c3 ?c4 ?c5 ?_))
     case c1=>exact cell_one_new _ _ _
     case c2=>intro u aH;simp at aH;subst aH;rfl
     case c3=>unfold maxLen;omega
     case c4=>omega
     case c5=>simp;omega
     intro v' bg bQ a0 _;have R2:V _:=au.step bQ a0;clear bQ a0 au bd aL aJ bu d1 d2 d3 H aj ci;go_wp2;go_roundw
     case rel=>
      refine⟨2,by omega,by go_num,U,?_⟩;exact xfd
     case measure=>simp[intOf]
    cases aP:(v.op==11)<;>cases aY:(v.op==12)
    all_goals
     go_wp2_with (first|(at_builtin;refine wpList_append_own _ rfl _ _ 23 rfl aO.heap.size 3 b3 (hD 0) 1 8 underlying23 a2 a6 b8 b5 rfl xab _ _ _ rfl (au.1.alloc _) ⟨ag.heap.size,0,none⟩ 1 1 [hD 0] rfl rfl ?c1 ?c2 ?c3 ?c4 ?c5 ?_))
     case c1=>exact cell_one_new _ _ _
     case c2=>intro u aH;simp at aH;subst aH;rfl
     case c3=>unfold maxLen;omega
     case c4=>omega
     case c5=>simp;omega
     intro v' bg bQ a0 _
     have R2:V _:=au.step bQ a0
     clear bQ a0 au bd aL aJ bu d1 d2 d3 H aj ci
     go_wp2
     go_roundw
     case rel=>
      refine⟨3,by omega,by go_num,U,?_⟩
      have:=R2.o
      rw[<-bi.o,<-f.o]at this
      rw[List.range_succ,List.map_append]
      exact this
     case measure=>simp[intOf]
   rcases aK with aP|⟨aP,aY⟩
   all_goals
    go_wp2_with (first|(at_builtin;refine wpList_append_own _ rfl _ _ 23 rfl aO.heap.size 3 b3 (hD 0) 1 8 underlying23 a2 a6 b8 b5 rfl xab _ _ _ rfl (au.1.alloc _) ⟨ag.heap.size,0,none⟩ 1 1 [hD 0] rfl rfl ?c1 ?c2 ?c3 ?c4 ?c5 ?_))
    case c1=>exact cell_one_new _ _ _
    case c2=>intro u aH;simp at aH;subst aH;rfl
    case c3=>unfold maxLen;omega
    case c4=>omega
    case c5=>simp;omega
    intro v' bg bQ a0 _
    have R2:V _:=au.step bQ a0
    clear bQ a0 au bd aL aJ bu d1 d2 d3 H aj ci
    go_wp2
    go_roundw
    case rel=>
     refine⟨3,by omega,by go_num,U,?_⟩
     have:=R2.o
     rw[<-bi.o,<-f.o]at this
     rw[List.range_succ,List.map_append]
     exact this
    case measure=>simp[intOf]
  obtain rfl:k=3:=xaa;have U:V _:=aU.o;have R2:V _:=P.o.trans au.2.2;obtain⟨g,cap,rfl,ad⟩:=au.at_ xaa;have c0:=ad 0 xaa;have c1:=ad 1 xaa;have c2:=ad 2 xaa;obtain⟨_,bd,aL,aJ,m⟩:=aA.o.keep au.2.2;obtain⟨bu,d1,d2,d3,H,aj⟩:=m;simp only[Nat.zero_add]at d1 d2 d3 H aj;simp only[List.range,List.range.loop,List.map_cons,List.map_nil,List.getD_cons_zero,List.getD_cons_succ]at c0 c1 c2;clear ad au aU;have b1:V (∀w,Calls prog 75 #[v.agg,hD (jT vs v 0:Int),hD (jT vs v 1:Int),hD (jT vs v 2:Int)] w λe I=>e=.returned (.bool (jm v.op v.len v.c (jT vs v 0) (jT vs v 1) (jT vs v 2)))/\I=w.alloc (fB v.op v.len v.a v.b v.c v.k)):=λw=>AC w v.op v.len v.a v.b v.c v.k (jT vs v 0) (jT vs v 1) (jT vs v 2);go_wp2_with fail
  go_region_held3 (λI=>I.cell? ⟨w.heap.size+1,0,none⟩=some (hD v.op)/\I.cell? ⟨w.heap.size+1,1,none⟩=some (hD v.len)/\I.cell? ⟨w.heap.size+1,2,none⟩=some (hD v.a)/\I.cell? ⟨w.heap.size+1,3,none⟩=some (hD v.b)/\I.cell? ⟨w.heap.size+1,4,none⟩=some (hD v.c)/\I.cell? ⟨w.heap.size+1,5,none⟩=some (.float .f64 v.k)/\I.cell? ⟨g,0,none⟩=some (hD (jT vs v 0:Int))/\I.cell? ⟨g,1,none⟩=some (hD (jT vs v 1:Int))/\I.cell? ⟨g,2,none⟩=some (hD (jT vs v 2:Int))) (go_keep)
   ((go_at_call 75;refine(b1.o _).mono ?_;rintro e bg ⟨rfl,rfl⟩))
  all_goals
   go_wp2
   go_ret
   exact⟨by rw[U.o,Bool.true_and];rfl,(R2.o.trans (eK 0 0 _ 1)).trans (ez 0 0 _ _)⟩
