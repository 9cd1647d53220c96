import Derived.Test.YtaheilbiakhlgaaGreatP08
namespace Go.Proofs.Z
variable{Zp:Prop}
open Tryz
set_option maxRecDepth 1000000
set_option maxHeartbeats 0
open Go.RowKit Flt
attribute[local go_sem] eF eE eD
variable{aG W':World}{vs:List Vl}{k i:Nat}{xs:List Int}{v:Value}
theorem Cz(w a1 a3 Y c1 ab c2 aa c3 aC bO i v)(aQ:aC<w.heap.size)(hi:i<ab)(bm:At w aC (bO+i*6) v)(ah:¬(0<=v.op/\v.op<=13/\1<=v.len/\v.len<=1000)):
  Calls prog 17 #[eX a1 Y c1 (some ⟨aC,bO,none⟩) ab c2 a3 aa c3,hF i] w λe J=>e=.returned (.bool false)/\Kept 0 0 w J:=by
 have ar:=ez 0 0 w (eZ a1 Y c1 (some ⟨aC,bO,none⟩) ab c2 a3 aa c3);obtain⟨bg,af,a0,aj,e4,bW⟩:=bm.keep aQ ar yaa;clear bm ar;rcases (by omega:v.op<0\/(0<=v.op/\13<v.op)\/((0<=v.op/\v.op<=13)/\v.len<1)\/((0<=v.op/\v.op<=13)/\1<=v.len/\1000<v.len)) with h|⟨h,h'⟩|⟨⟨h,h'⟩,f⟩|⟨⟨h,h'⟩,f,g⟩
 all_goals
  clear ah
  go_enter func17,ntmps17
  go_wp2
  go_ret
  exact⟨rfl,(ez 0 0 w _).trans (ez 0 0 _ _)⟩
theorem dV.qfz(h:Zp:=by
 clear a2;rcases f.at_ with ai|⟨bG,bV,rfl,N,aD,ad,an⟩
 ·omega
 have c1:=jC P ad (an j hj);clear an f N aD P;generalize ins.getD j 0=y at c1⊢;have b8:0<=(j:Int):=xaa;have Q:(j:Int)<Y:=xaa;cases aO:(len==y)<;>cases aX:(I==0)<;>cases ah:(C==0)
 all_goals
  go_enter func17,ntmps17
  go_wp2_with fail
  generalize g:(w.alloc (eZ (some ⟨bG,bV,none⟩) Y R (some ⟨aC,bO,none⟩) ab c2 a3 aa c3)).alloc (eM 0 len j I C K)=l at bN c1 a7 aK aP bw d1 d2 d3 d4 d5⊢
  clear g
  go_quiet (fail)
  go_wp2
  go_ret
  exact⟨rfl,bN.o.trans (eL 0 0 _ _)⟩):Zp:=h
open dV in
theorem yd(w a1 a3 Y R ab c2 aa c3 aC bO i len A I C K ins)(f:IS w 0 w.heap.size a1 Y ins)(aQ:aC<w.heap.size)(hi:i<ab)(bm:At w aC (bO+i*6) ⟨0,len,A,I,C,K⟩)(ci:1<=len)(cz:len<=1000):
  Calls prog 17 #[eX a1 Y R (some ⟨aC,bO,none⟩) ab c2 a3 aa c3,hF i] w λe J=>e=.returned (.bool (((fN A Y&&len==ins.getD A.toNat 0)&&I==0)&&C==0))/\Kept 0 0 w J:=by
 have ar:=ez 0 0 w (eZ a1 Y R (some ⟨aC,bO,none⟩) ab c2 a3 aa c3);obtain⟨bg,af,a0,aj,e4,bW⟩:=bm.keep aQ ar yaa;have P:=ar.trans (ez 0 0 _ (eM 0 len A I C K));have aT:=ql w (.slice a1 Y R) (.slice (some ⟨aC,bO,none⟩) ab c2) (.slice a3 aa c3) ⟨0,len,A,I,C,K⟩;clear bm ar;simp only at bg af a0 aj e4 bW;obtain⟨_,a7,aK,aP,m⟩:=aT;obtain⟨bw,d1,d2,d3,d4,d5⟩:=m;simp only at bw d1 d2 d3 d4 d5;have bN:V _:=P;by_cases a2:0<=A/\A<Y
 ·exact qfy
 rw[show fN A Y=false from yax a2];simp only[Bool.false_and];clear P f;rcases (by omega:A<0\/(0<=A/\(Y:Int)<=A)) with h|⟨h,h'⟩
 ·have aO:decide (0<=A)=false:=yax xaa;exact xey
 have aO:decide (0<=A)=true:=decide_eq_true h;have aX:decide (A<(Y:Int))=false:=yax xaa;exact xey
def GrowI(w1:World)(k:Nat)(xs:List Int)(v:Value)(W:World):Prop:=
 W.ownsRow w1.heap.size 3 1 v k (xs.map (Value.int .i64))/\xs.length=k/\Kept 0 0 w1 W
theorem ye(aG):GrowI aG 0 [] (.slice none 0 0) aG:=⟨yav _ _ _ _,rfl,Kept.refl _ _ _⟩
theorem EO{base e size n:Nat}{xs W}(h:W.ownsRow base e size v n xs)(k:Kept 0 0 W W'):W'.ownsRow base e size v n xs:=by
 refine⟨h.1,?_⟩;rcases h.2 with hn|⟨g,cap,H,rfl,hb,f,rest⟩
 ·exact .inl hn
 refine .inr ⟨g,cap,H,rfl,hb,?_,rest⟩
 have aQ:g<W.heap.size:=by
  rcases Nat.lt_or_ge g W.heap.size with c|c
  ·exact c
  rw[Array.getElem?_eq_none c]at f;cases f
 rw[k.block g aQ xaa];exact f
theorem GrowI.keep{W}(h:GrowI aG k xs v W)(cd:Kept 0 0 W W'):GrowI aG k xs v W':=
 ⟨EO h.1 cd,h.2.1,h.2.2.trans cd⟩
theorem GrowI.step{W z}(h:GrowI aG k xs v W)
  {v'}{J}{o}
  (e:J.ownsRow aG.heap.size 3 1 v' (k+1) (xs.map (Value.int .i64)++[Value.int .i64 z])) (aQ:(W.alloc o).grownBy J v.ownBlock):GrowI aG (k+1) (xs++[z]) v' J:=by
 refine⟨by rw[List.map_append];exact e,by simp[h.2.1],?_⟩;have ar:=h.2.2;refine⟨aQ.os.trans ar.os,aQ.tape.trans ar.tape,aQ.output.trans ar.output,?_,λi hi _=>?_⟩
 ·have:=aQ.size;have U:=ar.size;simp at this;omega
 have U:=ar.size;rw[aQ.block i yaf (λc=>hO (h.1.lt i c.symm)),Below.heap_alloc W o i xaa];exact ar.block i hi xaa
theorem GrowI.at_{W}(h:GrowI aG k xs v W)(O:0<k):∃g cap,v=hE g k cap/\∀j,j<k->W.cell? ⟨g,j,none⟩=some (hF (xs.getD j 0)):=by
 obtain⟨ax,ah,_⟩:=h;rcases ax.2 with⟨_,c⟩|⟨g,cap,H,rfl,N,aD,_,_,bE,bY⟩
 ·omega
 refine⟨g,cap,rfl,λj hj=>?_⟩;rw[cell_of_row W g _ H _ _ aD,<-Array.getElem?_toList];have:(H.toList.take (k*1))[j]? =(xs.map (Value.int .i64))[j]?:=by rw[bY]
 exact xfy
def okF(v:Vl)(i:Nat)(k:Nat):Bool:=if k<cnt v.op then fN (fld v k) i else (fld v k==0||(k==2&&iY v.op))
def jW(vs:List Vl)(v:Vl)(k:Nat):Nat:=if k<cnt v.op then (vs.getD (fld v k).toNat hK).len.toNat else 0
theorem yg{op}(B:1<=op)(U:op<=13):iw op=cnt op:=by
 rcases (by omega:op=1\/op=2\/op=3\/op=4\/op=5\/op=6\/op=7\/op=8\/op=9\/op=10\/op=11\/op=12\/op=13) with h|h|h|h|h|h|h|h|h|h|h|h|h<;>subst h<;>rfl
theorem dU.qft(h:Zp:=by
 have b0:V _:=n;clear I aM n;obtain⟨bg,af,a0,aj,e4,bW⟩:=bm.keep aQ ar yaa;have P:V _:=ar.trans (ez 0 0 _ (eM v.op v.len v.a v.b v.c v.k));have aT:=ql w (.slice a1 Y c1) (.slice (some ⟨aC,bO,none⟩) ab c2) (.slice a3 aa c3) v;clear bm ar;have bf:(v.op==0)=false:=yam xaa
 have HO:V (∀w,Calls prog 42 #[hF v.op] w λe J=>e=.returned (hF (cnt v.op:Nat))/\J=w):=λw=>by
  have:=e8 v.op w xaa ay
  rw[yg B ay]at this
  exact this
 go_enter func17,ntmps17;go_wp2_with (first|(go_at_call 42;refine(HO.o _).mono ?_;rintro e ag ⟨rfl,rfl⟩)|fail);have bl:=ye ((w.alloc (eZ a1 Y c1 (some ⟨aC,bO,none⟩) ab c2 a3 aa c3)).alloc (eM v.op v.len v.a v.b v.c v.k));generalize t:(w.alloc (eZ a1 Y c1 (some ⟨aC,bO,none⟩) ab c2 a3 aa c3)).alloc (eM v.op v.len v.a v.b v.c v.k)=aG at aT P bl⊢;clear t bg af a0 aj e4 bW;have aH:V _:=aT;clear aT;go_loopw [7,8] (λF bX W=>∃k:Nat,k<=3/\bX=hF k/\V ((List.range k).all (okF v i)=true)/\GrowI aG k ((List.range k).map λj=>(jW vs v j:Int)) F W) (λ_ bX _=>3-(intOf bX).toNat)
 case atStart=>exact⟨0,Nat.zero_le _,rfl,rfl,bl⟩
 case round=>
  obtain⟨k,O,rfl,a2,bp⟩:=hrel;clear bl;by_cases aB:k<3
  ·have bu:V _:=mE wr v k aB;obtain⟨_,a7,aK,aP,m⟩:=aH.o.keep bp.2.2;obtain⟨bw,d1,d2,d3,d4,d5⟩:=m;simp only[Nat.zero_add]at d1 d2 d3 d4 d5;go_wp2_with fail;refine yai bu.o ?_;rintro e ag ⟨rfl,bZ⟩;replace bp:=bp.keep bZ;clear bZ bu a7 aK aP bw d1 d2 d3 d4 d5;obtain⟨_,a7,aK,aP,m⟩:=aH.o.keep bp.2.2;obtain⟨bw,d1,d2,d3,d4,d5⟩:=m;simp only[Nat.zero_add]at d1 d2 d3 d4 d5;have b4:aG.heap.size<=ag.heap.size:=bp.2.2.size;by_cases bE:k<cnt v.op
   ·by_cases ap:fN (fld v k) i=true
    ·have b6:okF v i k=true:=by unfold okF;rw[hI bE];exact ap
     have R:V _:=kV a2.o b6;have av:=of_decide_eq_true ap;obtain⟨j,hj⟩:∃j:Nat,fld v k=j:=⟨(fld v k).toNat,by omega⟩
     have C:j<i:=xaa;have x:=b0.o j C;have c:=jC (P.o.trans bp.2.2) aQ (aY.o j xaa).c1
     have bz:V ((jW vs v k:Int)=(vs.getD j hK).len):=by
      show(jW vs v k:Int)=_;unfold jW;rw[hI bE,hj,Int.toNat_natCast,Int.toNat_of_nonneg xaa]
     rw[hj];generalize (vs.getD j hK).len=z at c bz;clear ap av b6 a2 hj x;generalize h:((List.range k).map λj=>(jW vs v j:Int))=L at bp;have f:V _:=h;clear h;go_wp2_with (first|(at_builtin;refine wpList_append_own _ rfl _ _ 23 rfl aG.heap.size 3 bC (hF 0) 1 8 underlying23 bb bn bQ br rfl xab _ _ _ rfl (bp.1.alloc _) ⟨ag.heap.size,0,none⟩ 1 1 [hF z] rfl rfl ?c1 ?c2 ?c3 ?c4 ?c5 ?_))
     case c1=>exact cell_one_new _ _ _
     case c2=>intro u aI;simp at aI;subst aI;rfl
     case c3=>unfold maxLen;omega
     case c4=>omega
     case c5=>simp;omega
     intro v' be bv a6 _;have R2:V _:=bp.step bv a6;clear bv a6 bp a7 aK aP bw d1 d2 d3 d4 d5 b4;go_wp2;go_roundw
     case rel=>
      refine⟨k+1,by omega,by go_num,R,?_⟩;exact xgh
     case measure=>simp[intOf];omega
    have av:¬(0<=fld v k/\fld v k<i):=λc=>ap (decide_eq_true c);have b6:okF v i k=false:=by unfold okF;rw[hI bE];exact yax av
    have R:V ((List.range 3).all (okF v i)=false):=lW aB b6;have R2:V _:=P.o.trans bp.2.2;generalize fld v k=y at av⊢;clear ap b6 a2;rcases (by omega:y<0\/(0<=y/\(i:Int)<=y)) with bS|⟨bS,p⟩
    all_goals
     clear av
     go_wp2
     go_ret
     exact⟨hU R.o,R2.o⟩
   have s:cnt v.op<=k:=xaa
   have bz:V ((jW vs v k:Int)=0):=by
    show(jW vs v k:Int)=0;unfold jW;rw[hG bE];rfl
   cases b6:okF v i k
   ·have R:V ((List.range 3).all (okF v i)=false):=lW aB b6;have R2:V _:=P.o.trans bp.2.2;unfold okF at b6;rw[hG bE,Bool.or_eq_false_iff]at b6;obtain⟨a9,aF⟩:=b6;have o:(fld v k !=0)=true:=by rw[bne,a9];rfl
    generalize fld v k=y at a9 o⊢;rcases (by omega:k=0\/k=1\/k=2) with rfl|rfl|rfl
    ·exact xkq
    ·exact xkq
    have l:¬(v.op=11\/v.op=12):=of_decide_eq_false (show iY v.op=false by simpa using aF);have aO:(v.op==11)=false:=yam xaa;have aX:(v.op==12)=false:=yam xaa;clear aF l a9 a2 bE;go_wp2;go_ret;exact⟨hU R.o,R2.o⟩
   have R:V _:=kV a2.o b6
   have q:(fld v k !=0)=false\/(k=2/\(fld v k !=0)=true/\((v.op==11)=true\/((v.op==11)=false/\(v.op==12)=true))):=by
    unfold okF at b6;rw[hG bE,Bool.or_eq_true]at b6;cases a9:(fld v k==0)
    ·right;rw[a9]at b6;have U:=b6.resolve_left xac;rw[Bool.and_eq_true]at U;have aF:=of_decide_eq_true U.2;refine⟨by simpa using U.1,by rw[bne,a9];rfl,?_⟩;rcases aF with aF|aF
     ·exact .inl (beq_iff_eq.2 aF)
     exact .inr ⟨yam xaa,beq_iff_eq.2 aF⟩
    left;rw[bne,a9];rfl
   have ba:V _:=s;generalize fld v k=y at q⊢;clear a2 bE;generalize h:((List.range k).map λj=>(jW vs v j:Int))=L at bp;have f:V _:=h;clear h;rcases q with r|⟨rfl,r,aF⟩
   ·rcases (by omega:k=0\/k=1\/k=2) with rfl|rfl|rfl
    ·go_wp2_with (first|(at_builtin;refine wpList_append_own _ rfl _ _ 23 rfl aG.heap.size 3 bC (hF 0) 1 8 underlying23 bb bn bQ br rfl xab _ _ _ rfl (bp.1.alloc _) ⟨ag.heap.size,0,none⟩ 1 1 [hF 0] rfl rfl ?c1 ?c2 ?c3 ?c4 ?c5 ?_))
     case c1=>exact cell_one_new _ _ _
     case c2=>intro u aI;simp at aI;subst aI;rfl
     case c3=>unfold maxLen;omega
     case c4=>omega
     case c5=>simp;omega
     intro v' be bv a6 _;have R2:V _:=bp.step bv a6;clear bv a6 bp a7 aK aP bw d1 d2 d3 d4 d5 b4;go_wp2;go_roundw
     case rel=>
      refine⟨1,by omega,by go_num,R,?_⟩;exact xgh
     case measure=>simp[intOf]
    ·go_wp2_with (first|(at_builtin;refine wpList_append_own _ rfl _ _ 23 rfl aG.heap.size 3 bC (hF 0) 1 8 underlying23 bb bn bQ br rfl xab _ _ _ rfl (bp.1.alloc _) ⟨ag.heap.size,0,none⟩ 1 1 [hF 0] rfl rfl ?c1 ?c2 ?c3 ?c4 ?c5 ?_))
     case c1=>exact cell_one_new _ _ _
     case c2=>intro u aI;simp at aI;subst aI;rfl
     case c3=>unfold maxLen;omega
     case c4=>omega
     case c5=>simp;omega
     intro v' be bv a6 _;have R2:V _:=bp.step bv a6;clear bv a6 bp a7 aK aP bw d1 d2 d3 d4 d5 b4;go_wp2;go_roundw
     case rel=>
      refine⟨2,by omega,by go_num,R,?_⟩;exact xgh
     case measure=>simp[intOf]
    cases aO:(v.op==11)<;>cases aX:(v.op==12)
    all_goals
     go_wp2_with (first|(at_builtin;refine wpList_append_own _ rfl _ _ 23 rfl aG.heap.size 3 bC (hF 0) 1 8 underlying23 bb bn bQ br rfl xab _ _ _ rfl (bp.1.alloc _) ⟨ag.heap.size,0,none⟩ 1 1 [hF 0] rfl rfl ?c1 ?c2 ?c3 ?c4 ?c5 ?_))
     case c1=>exact cell_one_new _ _ _
     case c2=>intro u aI;simp at aI;subst aI;rfl
     case c3=>unfold maxLen;omega
     case c4=>omega
     case c5=>simp;omega
     intro v' be bv a6 _
     have R2:V _:=bp.step bv a6
     clear bv a6 bp a7 aK aP bw d1 d2 d3 d4 d5 b4
     go_wp2
     go_roundw
     case rel=>
      refine⟨3,by omega,by go_num,R,?_⟩
      have:=R2.o
      rw[<-bz.o,<-f.o]at this
      rw[List.range_succ,List.map_append]
      exact this
     case measure=>simp[intOf]
   rcases aF with aO|⟨aO,aX⟩
   all_goals
    go_wp2_with (first|(at_builtin;refine wpList_append_own _ rfl _ _ 23 rfl aG.heap.size 3 bC (hF 0) 1 8 underlying23 bb bn bQ br rfl xab _ _ _ rfl (bp.1.alloc _) ⟨ag.heap.size,0,none⟩ 1 1 [hF 0] rfl rfl ?c1 ?c2 ?c3 ?c4 ?c5 ?_))
    case c1=>exact cell_one_new _ _ _
    case c2=>intro u aI;simp at aI;subst aI;rfl
    case c3=>unfold maxLen;omega
    case c4=>omega
    case c5=>simp;omega
    intro v' be bv a6 _
    have R2:V _:=bp.step bv a6
    clear bv a6 bp a7 aK aP bw d1 d2 d3 d4 d5 b4
    go_wp2
    go_roundw
    case rel=>
     refine⟨3,by omega,by go_num,R,?_⟩
     have:=R2.o
     rw[<-bz.o,<-f.o]at this
     rw[List.range_succ,List.map_append]
     exact this
    case measure=>simp[intOf]
  obtain rfl:k=3:=xaa;have R:V _:=a2.o;have R2:V _:=P.o.trans bp.2.2;obtain⟨g,cap,rfl,ak⟩:=bp.at_ xaa;have c0:=ak 0 xaa;have c1:=ak 1 xaa;have c2:=ak 2 xaa;obtain⟨_,a7,aK,aP,m⟩:=aH.o.keep bp.2.2;obtain⟨bw,d1,d2,d3,d4,d5⟩:=m;simp only[Nat.zero_add]at d1 d2 d3 d4 d5;simp only[List.range,List.range.loop,List.map_cons,List.map_nil,List.getD_cons_zero,List.getD_cons_succ]at c0 c1 c2;clear ak bp a2;have ba:V (∀w,Calls prog 44 #[v.agg,hF (jW vs v 0:Int),hF (jW vs v 1:Int),hF (jW vs v 2:Int)] w λe J=>e=.returned (.bool (fp v.op v.len v.c (jW vs v 0) (jW vs v 1) (jW vs v 2)))/\J=w.alloc (eM v.op v.len v.a v.b v.c v.k)):=λw=>kC w v.op v.len v.a v.b v.c v.k (jW vs v 0) (jW vs v 1) (jW vs v 2);go_wp2_with fail
  go_region_held3 (λJ=>J.cell? ⟨w.heap.size+1,0,none⟩=some (hF v.op)/\J.cell? ⟨w.heap.size+1,1,none⟩=some (hF v.len)/\J.cell? ⟨w.heap.size+1,2,none⟩=some (hF v.a)/\J.cell? ⟨w.heap.size+1,3,none⟩=some (hF v.b)/\J.cell? ⟨w.heap.size+1,4,none⟩=some (hF v.c)/\J.cell? ⟨w.heap.size+1,5,none⟩=some (.float .f64 v.k)/\J.cell? ⟨g,0,none⟩=some (hF (jW vs v 0:Int))/\J.cell? ⟨g,1,none⟩=some (hF (jW vs v 1:Int))/\J.cell? ⟨g,2,none⟩=some (hF (jW vs v 2:Int))) (go_keep)
   ((go_at_call 44;refine(ba.o _).mono ?_;rintro e be ⟨rfl,rfl⟩))
  all_goals
   go_wp2
   go_ret
   exact⟨by rw[R.o,Bool.true_and];rfl,(R2.o.trans (eL 0 0 _ 1)).trans (ez 0 0 _ _)⟩):Zp:=h
open dU in
theorem CA(w a1 a3 Y c1 ab c2 aa c3 aC bO i v vs)(aQ:aC<w.heap.size)(hi:i<ab)
  (I:∀k,k<ab->At w aC (bO+k*6) (vs.getD k hK)) (n:∀k,k<i->1<=(vs.getD k hK).len/\(vs.getD k hK).len<=1000) (aM:vs.getD i hK=v) (B:1<=v.op) (ay:v.op<=13) (ci:1<=v.len) (cz:v.len<=1000):
  Calls prog 17 #[eX a1 Y c1 (some ⟨aC,bO,none⟩) ab c2 a3 aa c3,hF i] w λe J=>e=.returned (.bool ((List.range 3).all (okF v i)&&fp v.op v.len v.c (jW vs v 0) (jW vs v 1) (jW vs v 2)))/\Kept 0 0 w J:=by
 obtain⟨bC,bb,bn,bQ,br⟩:=info_parts qk;exact qfs
theorem IQ{v}(ai:v.op≠0):(List.range 3).all (okF v i)=(gC v&&(eY v).all (fN · i)):=by
 have ak:=gK v.op;have t:=yam ai;have aj:(List.range 3).all _=(okF v i 0&&(okF v i 1&&(okF v i 2&&true))):=rfl;rw[aj];unfold okF gC eY bne;rw[t];have bH:fld v 0=v.a:=rfl;have f1:fld v 1=v.b:=rfl;have f2:fld v 2=v.c:=rfl;rw[bH,f1,f2];rcases (by omega:cnt v.op=0\/cnt v.op=1\/cnt v.op=2\/cnt v.op=3) with h|h|h|h
 all_goals
  rw[h]
  simp only[List.take_succ_cons,List.take_zero,List.all_cons,List.all_nil]
  generalize (v.a==0)=x
  generalize (v.b==0)=y
  generalize (v.c==0)=z
  generalize iY _=p
  generalize fN _ i=r
  generalize fN _ i=s
  generalize fN _ i=t
  revert x y z p r s t
  decide
theorem IT{v}(ah:∀k,k<i->1<=(vs.getD k hK).len/\(vs.getD k hK).len<=1000)(h:(eY v).all (fN · i)=true):
  ([(jW vs v 0:Int),(jW vs v 1:Int),(jW vs v 2:Int)]).take (cnt v.op)=(eY v).map λo=>(vs.getD o.toNat hK).len:=by
 have au:∀o,fN o i=true->((vs.getD o.toNat hK).len.toNat:Int)=(vs.getD o.toNat hK).len:=λo ax=>by
  have:=of_decide_eq_true ax
  have:=ah o.toNat xaa
  omega
 have ak:=gK v.op;have b2:0<cnt _->jW _ v 0=(vs.getD v.a.toNat _).len.toNat:=λc=>hI c;have Y:1<cnt _->jW _ v 1=(vs.getD v.b.toNat _).len.toNat:=λc=>hI c;have ab:2<cnt _->jW _ v 2=(vs.getD v.c.toNat _).len.toNat:=λc=>hI c;unfold eY at h⊢;rcases (by omega:cnt v.op=0\/cnt v.op=1\/cnt v.op=2\/cnt v.op=3) with e|e|e|e
 ·rw[e];rfl
 ·rw[b2 xaa];rw[e]at h⊢;simp only[List.take_succ_cons,List.take_zero,List.all_cons,List.all_nil,Bool.and_true]at h;simp only[List.take_succ_cons,List.take_zero,List.map_cons,List.map_nil];rw[au _ h]
 ·rw[b2 xaa,Y xaa];rw[e]at h⊢;simp only[List.take_succ_cons,List.take_zero,List.all_cons,List.all_nil,Bool.and_true,Bool.and_eq_true]at h;simp only[List.take_succ_cons,List.take_zero,List.map_cons,List.map_nil];rw[au _ h.1,au _ h.2]
 rw[b2 xaa,Y xaa,ab xaa];rw[e]at h⊢;simp only[List.take_succ_cons,List.take_zero,List.all_cons,List.all_nil,Bool.and_true,Bool.and_eq_true]at h;simp only[List.take_succ_cons,List.take_zero,List.map_cons,List.map_nil];rw[au _ h.1,au _ h.2.1,au _ h.2.2]
theorem q8{op len C}(h:¬(0<=op/\op<=13)):eR op len C xs=false:=by
 grind[eR]
theorem OH(w a1 Z a3 Y c1 ab c2 aa c3 i ins vs outs)(f:GS w a1 Y Z ab a3 aa ins vs outs)(hi:i<ab)
  (n:∀k,k<i->1<=(vs.getD k hK).len/\(vs.getD k hK).len<=1000):
  Calls prog 17 #[eX a1 Y c1 Z ab c2 a3 aa c3,hF i] w λe J=>e=.returned (.bool (okV ins vs i))/\Kept 0 0 w J:=by
 rcases f.v.at_ with ai|⟨aC,bO,rfl,N,aD,ad,an⟩
 ·omega
 have bm:=an i hi;unfold okV;generalize aM:vs.getD i hK=v at bm;by_cases hb:0<=v.op/\v.op<=13/\1<=v.len/\v.len<=1000
 ·rw[oS hb.2.2.1 hb.2.2.2,Bool.true_and];by_cases ai:v.op=0
  ·rw[hI ai,f.i.len];obtain⟨op,len,A,I,C,K⟩:=v;simp only at ai hb;subst ai
   have e:(gC ⟨0,len,A,I,C,K⟩&&(fN A Y&&len==ins.getD A.toNat 0))=(((fN A Y&&len==ins.getD A.toNat 0)&&I==0)&&C==0):=by
    have t:gC ⟨0,len,A,I,C,K⟩=(I==0&&C==0):=by
     simp[gC,cnt,iY,bne]
    rw[t];cases fN A Y<;>cases (len==ins.getD A.toNat 0)<;>cases (I==0)<;>cases (C==0)<;>rfl
   show Calls _ _ _ _ λe J=>e=.returned (.bool (gC ⟨0,len,A,I,C,K⟩&&(fN A Y&&len==ins.getD A.toNat 0)))/\_;rw[e];exact yd w a1 a3 Y c1 ab c2 aa c3 aC bO i len A I C K ins f.i ad hi bm hb.2.2.1 hb.2.2.2
  rw[hG ai]
  have e:(gC v&&((eY v).all (fN · i)&&eR v.op v.len v.c ((eY v).map λo=>(vs.getD o.toNat hK).len)))=((List.range 3).all (okF v i)&&fp v.op v.len v.c (jW vs v 0) (jW vs v 1) (jW vs v 2)):=by
   rw[IQ ai,<-Bool.and_assoc];cases a2:(eY v).all (fN · i)
   ·simp
   unfold fp;rw[IT n a2,oS hb.2.2.1 hb.2.2.2,Bool.true_and]
  rw[e];exact CA w a1 a3 Y c1 ab c2 aa c3 aC bO i v vs ad hi an n aM xaa hb.2.1 hb.2.2.1 hb.2.2.2
 have e:((lenB v.len&&gC v)&&(if v.op=0 then fN v.a ins.length&&v.len==ins.getD v.a.toNat 0 else (eY v).all (fN · i)&&eR v.op v.len v.c ((eY v).map λo=>(vs.getD o.toNat hK).len)))=false:=by
  by_cases ah:1<=v.len/\v.len<=1000
  ·have ax:¬(0<=v.op/\v.op<=13):=xaa;rw[hG xaa,q8 ax,Bool.and_false,Bool.and_false]
  rw[pF ah,Bool.false_and,Bool.false_and]
 rw[e];exact Cz w a1 a3 Y c1 ab c2 aa c3 aC bO i v ad hi bm hb
theorem yh{ins}(h:(List.range k).all (okV ins vs)=true):∀j,j<k->1<=(vs.getD j hK).len/\(vs.getD j hK).len<=1000:=λj hj=>
 iq (List.all_eq_true.1 h j (List.mem_range.2 hj))
theorem cV.qcz(h:Zp:=by
 have aL:V _:=f.keep ar.o;have C:V (vs.length=ab):=f.v.len;have j:V (outs.length=aa):=f.o.len;have o:V _:=Br _ _ _ _ _ c1 _ (f.keep ar.o).i;rw[bn]at o;clear f bn;go_enter func5,ntmps5;go_wp2_with fail;refine yai o.o ?_;rintro e aG ⟨rfl,am⟩;replace aT:=aT.keep am;have g:V _:=aL.o.keep am;have b4:V _:=ar.o.trans am;clear am aL ar o;have aK:=aT.q1;have aP:=aT.q2;go_wp2_with fail;clear aK aP;have aH:V _:=aT;clear aT;go_loopw [3] (λi W=>∃k:Nat,k<=ab/\i=hF k/\V ((List.range k).all (okV ins vs)=true)/\Kept 0 0 aG W) (λi _=>ab-(intOf i).toNat)
 case atStart=>exact⟨0,Nat.zero_le _,rfl,rfl,Kept.refl _ _ _⟩
 case round=>
  obtain⟨k,O,rfl,a2,r⟩:=hrel;obtain⟨_,a7,aK,aP⟩:=aH.o.keep r;by_cases aB:k<ab
  ·have bu:V _:=OH wr a1 Z a3 Y c1 ab c2 aa c3 k ins vs outs (g.o.keep r) aB (yh a2.o);cases ap:okV ins vs k
   ·rw[ap]at bu;have R:V ((List.range ab).all (okV ins vs)=false):=lW aB ap;have R2:V _:=b4.o.trans r;clear ap a2 r;go_wp2_with fail;refine yai bu.o ?_;rintro e ag ⟨rfl,bZ⟩;clear a7 aK aP;go_wp2;go_ret;exact⟨hU R.o,R2.o.trans bZ⟩
   rw[ap]at bu;have R:V _:=kV a2.o ap;have bk:V _:=r;clear ap a2 r;go_wp2_with fail;refine yai bu.o ?_;rintro e ag ⟨rfl,bZ⟩;have R2:V _:=bk.o.trans bZ;clear a7 aK aP bZ;go_wp2;go_roundw;exact⟨k+1,by omega,by go_num,R,R2.o⟩;simp[intOf];omega
  have R1:V ((List.range ab).all (okV ins vs)=true):=by
   have:=a2.o;rw[show k=ab by omega]at this;exact this
  have aF:V _:=g.o.keep r;have bN:V _:=b4.o.trans r;have bg:V (∀W,Drawn wr W->_):=λW G=>Bs W a1 Z a3 Y c1 ab c2 aa c3 ins vs outs (aF.o.keep (G.kept 0 0)) U (yh R1.o);have cd:V (∀W,Drawn wr W->W.cell? ⟨w.heap.size,0,none⟩=some (.slice a1 Y c1)/\W.cell? ⟨w.heap.size,1,none⟩=some (.slice Z ab c2)/\W.cell? ⟨w.heap.size,2,none⟩=some (.slice a3 aa c3)):=λW G=>⟨hR G.cell a7,hR G.cell aK,hR G.cell aP⟩
  clear a2 r;go_wp2_with fail;clear a7 aK aP;go_loopw [4] (λi W=>∃k:Nat,k<=aa/\i=hF k/\V ((outs.take k).all (fN · ab)=true)/\Drawn wr W) (λi _=>aa-(intOf i).toNat)
  case atStart=>exact⟨0,Nat.zero_le _,rfl,rfl,Drawn.refl _⟩
  case round=>
   obtain⟨aJ,aR,rfl,a2,aY⟩:=hrel;obtain⟨a7,aK,aP⟩:=cd.o _ aY;have HD:V _:=aY;by_cases cb:aJ<aa
   ·rcases aF.o.o.at_ with bR|⟨aA,bK,cc,aS,bb,bq,bD⟩
    ·omega
    have c:=(aY.cell _).trans (bD aJ cb);have b8:0<=(aJ:Int):=xaa;have Q:(aJ:Int)<aa:=xaa;subst cc;clear aS bb bq bD aY;cases ap:fN (outs.getD aJ 0) ab
    ·have R:V (outs.all (fN · ab)=false):=nZ (hR j.o cb) ap;have av:¬(0<=outs.getD aJ 0/\outs.getD aJ 0<ab):=of_decide_eq_false ap;generalize outs.getD aJ 0=y at c av;clear ap a2;rcases (by omega:y<0\/(0<=y/\(ab:Int)<=y)) with bS|⟨bS,p⟩
     ·have aO:decide (y<0)=true:=decide_eq_true bS;exact xgt
     have aO:decide (y<0)=false:=yax xaa;have aX:decide ((ab:Int)<=y)=true:=decide_eq_true p;exact xgt
    have R:V _:=mU (p:=(fN · ab)) (hR j.o cb) a2.o ap;have av:0<=outs.getD aJ 0/\outs.getD aJ 0<ab:=of_decide_eq_true ap;generalize outs.getD aJ 0=y at c av;obtain⟨bS,p⟩:=av;have aO:decide (y<0)=false:=yax xaa;have aX:decide ((ab:Int)<=y)=false:=yax xaa;clear ap a2;go_wp2_with fail;go_quiet (fail)
    go_wp2;go_roundw;exact⟨aJ+1,by omega,by go_num,R,Drawn.more HD.o _⟩;simp[intOf];omega
   have aI:V (outs.all (fN · ab)=true):=by
    exact xjs
   have bv:V _:=bg.o _ aY;clear a2 aY;go_wp2_with fail;refine yai bv.o ?_;rintro e be ⟨rfl,H⟩;clear a7 aK aP;go_wp2;go_ret;exact⟨by rw[R1.o,aI.o];rfl,(bN.o.trans (Drawn.kept HD.o 0 0)).trans H⟩):Zp:=h
open cV in
theorem wo(w a1 Z a3 Y c1 ab c2 aa c3 ins vs outs)(f:GS w a1 Y Z ab a3 aa ins vs outs)(U:ab<=2000)(h3:aa<=50)(bn:(decide (Y<=20)&&ins.all lenB)=true):
  Calls prog 5 #[eX a1 Y c1 Z ab c2 a3 aa c3] w λe J=>e=.returned (.bool ((List.range ab).all (okV ins vs)&&(outs.all (fN · ab)&&decide (fd vs<=50000))))/\Kept 0 0 w J:=by
 exact qcy
theorem cW.qcz(h:Zp:=by
 have o:V _:=Br _ _ _ _ _ c1 _ (f.keep ar.o).i;clear f;cases bn:(decide (Y<=20)&&ins.all lenB)
 ·rw[bn]at o;exact xfz
 rw[bn]at o;by_cases U:ab<=2000
 ·have h3:50<aa:=by
   rcases Nat.lt_or_ge 50 aa with c|c
   ·exact c
   exact absurd ⟨bn,U,c⟩ h
  exact xfz
 have h3:2000<ab:=xaa;clear h bn U;go_enter func5,ntmps5;go_wp2_with fail;refine yai o.o ?_;rintro e aG ⟨rfl,am⟩;obtain⟨_,a7,aK,aP⟩:=aT.keep am;clear aT;go_wp2
 all_goals
  go_ret
  exact⟨rfl,ar.o.trans am⟩):Zp:=h
open cW in
theorem rX(w a1 Z a3 Y c1 ab c2 aa c3 ins vs outs)(f:GS w a1 Y Z ab a3 aa ins vs outs)(h:¬(((decide (Y<=20)&&ins.all lenB)=true)/\ab<=2000/\aa<=50)):
  Calls prog 5 #[eX a1 Y c1 Z ab c2 a3 aa c3] w λe J=>e=.returned (.bool false)/\Kept 0 0 w J:=by
 exact qcy
theorem re(w a1 Z a3 Y c1 ab c2 aa c3 ins vs outs)(f:GS w a1 Y Z ab a3 aa ins vs outs):
  Calls prog 5 #[eX a1 Y c1 Z ab c2 a3 aa c3] w λe J=>e=.returned (.bool (okG ins vs outs))/\Kept 0 0 w J:=by
 unfold okG;rw[f.i.len,f.v.len,f.o.len];by_cases h:((decide (Y<=20)&&ins.all lenB)=true)/\ab<=2000/\aa<=50
 ·have h':=h.1;rw[Bool.and_eq_true]at h';rw[decide_eq_true (show Y<=20/\ab<=2000/\aa<=50 from⟨of_decide_eq_true h'.1,h.2⟩),h'.2,Bool.true_and,Bool.true_and];exact wo w a1 Z a3 Y c1 ab c2 aa c3 ins vs outs f h.2.1 h.2.2 h.1
 have e:(decide (Y<=20/\ab<=2000/\aa<=50)&&(ins.all lenB&&((List.range ab).all (okV ins vs)&&(outs.all (fN · ab)&&decide (fd vs<=50000)))))=false:=by
  rw[Bool.and_eq_false_iff];by_cases hn:Y<=20/\ab<=2000/\aa<=50
  ·right;rw[Bool.and_eq_false_iff];left;rw[Bool.eq_false_iff];intro c;exact h ⟨by rw[Bool.and_eq_true];exact⟨decide_eq_true hn.1,c⟩,hn.2⟩
  left;exact yax hn
 rw[e];exact rX w a1 Z a3 Y c1 ab c2 aa c3 ins vs outs f h
