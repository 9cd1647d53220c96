import Derived.Test.YtkjahdegnkmejaaGreatP06
namespace Go.Proofs.Z
open Tryz
set_option maxRecDepth 1000000
set_option maxHeartbeats 0
open Go.RowKit Flt
attribute[local go_sem] eE eC eB
variable{aK F:World}{vs:List Vl}{k i:Nat}{xs:List Int}{v:Value}
def GrowI(w1:World)(k:Nat)(xs:List Int)(v:Value)(W:World):Prop:=
 W.ownsRow w1.heap.size 3 1 v k (xs.map (Value.int .i64))/\xs.length=k/\Kept 0 0 w1 W
theorem yv(aK):GrowI aK 0 [] (.slice none 0 0) aK:=⟨yaw _ _ _ _,rfl,Kept.refl _ _ _⟩
theorem ES{base e size n:Nat}{xs W}(h:W.ownsRow base e size v n xs)(k:Kept 0 0 W F):F.ownsRow base e size v n xs:=by
 refine⟨h.1,?_⟩;rcases h.2 with hn|⟨g,cap,ao,rfl,hb,cA,rest⟩
 ·exact .inl hn
 refine .inr ⟨g,cap,ao,rfl,hb,?_,rest⟩
 have az:g<W.heap.size:=by
  rcases Nat.lt_or_ge g W.heap.size with c|c
  ·exact c
  rw[Array.getElem?_eq_none c]at cA;cases cA
 rw[k.block g az xaa];exact cA
theorem GrowI.keep{W}(h:GrowI aK k xs v W)(bb:Kept 0 0 W F):GrowI aK k xs v F:=
 ⟨ES h.1 bb,h.2.1,h.2.2.trans bb⟩
theorem GrowI.step{W z}(h:GrowI aK k xs v W)
  {v'}{O}{o}
  (b:O.ownsRow aK.heap.size 3 1 v' (k+1) (xs.map (Value.int .i64)++[Value.int .i64 z])) (az:(W.alloc o).grownBy O v.ownBlock):GrowI aK (k+1) (xs++[z]) v' O:=by
 refine⟨by rw[List.map_append];exact b,by simp[h.2.1],?_⟩;have aS:=h.2.2;refine⟨az.os.trans aS.os,az.tape.trans aS.tape,az.output.trans aS.output,?_,λi hi _=>?_⟩
 ·have:=az.size;have N:=aS.size;simp at this;omega
 have N:=aS.size;rw[az.block i yag (λc=>i4 (h.1.lt i c.symm)),Below.heap_alloc W o i xaa];exact aS.block i hi xaa
theorem GrowI.at_{W}(h:GrowI aK k xs v W)(J:0<k):∃g cap,v=ia g k cap/\∀j,j<k->W.cell? ⟨g,j,none⟩=some (ih (xs.getD j 0)):=by
 obtain⟨aR,ag,_⟩:=h;rcases aR.2 with⟨_,c⟩|⟨g,cap,ao,rfl,R,a6,_,_,ct,b2⟩
 ·omega
 refine⟨g,cap,rfl,λj hj=>?_⟩;rw[cell_of_row W g _ ao _ _ a6,<-Array.getElem?_toList];have:(ao.toList.take (k*1))[j]? =(xs.map (Value.int .i64))[j]?:=by rw[b2]
 rw[List.getElem?_take_of_lt xaa]at this;rw[this,List.getElem?_map,yam (by omega:j<xs.length)];simp[List.getD_eq_getElem?_getD,List.getElem?_eq_getElem (by omega:j<xs.length)]
def okF(v:Vl)(i:Nat)(k:Nat):Bool:=if k<cnt v.op then gn (fld v k) i else (fld v k==0||(k==2&&gH v.op))
def jH(vs:List Vl)(v:Vl)(k:Nat):Nat:=if k<cnt v.op then (vs.getD (fld v k).toNat i0).len.toNat else 0
theorem yw{op}(B:1<=op)(N:op<=13):vY op=cnt op:=by
 rcases (by omega:op=1\/op=2\/op=3\/op=4\/op=5\/op=6\/op=7\/op=8\/op=9\/op=10\/op=11\/op=12\/op=13) with h|h|h|h|h|h|h|h|h|h|h|h|h<;>subst h<;>rfl
theorem CD(w a1 a3 Y c1 ae c2 aa c3 a2 ck i v vs)(az:a2<w.heap.size)(hi:i<ae)
  (aw:∀k,k<ae->At w a2 (ck+k*6) (vs.getD k i0)) (h:∀k,k<i->1<=(vs.getD k i0).len/\(vs.getD k i0).len<=1000) (aL:vs.getD i i0=v) (B:1<=v.op) (P:v.op<=13) (cp:1<=v.len) (cw:v.len<=1000):
  Calls prog 67 #[eX a1 Y c1 (some ⟨a2,ck,none⟩) ae c2 a3 aa c3,ih i] w λe O=>e=.returned (.bool ((List.range 3).all (okF v i)&&rG v.op v.len v.c (jH vs v 0) (jH vs v 1) (jH vs v 2)))/\Kept 0 0 w O:=by
 obtain⟨bY,bg,cg,b8,cc⟩:=info_parts qd;have aS:=eA 0 0 w (fB a1 Y c1 (some ⟨a2,ck,none⟩) ae c2 a3 aa c3);have bf:=aw i hi;rw[aL]at bf;have bM:V _:=aw;have bb:V _:=h;clear aw aL h;obtain⟨bB,ad,be,ah,e4,cl⟩:=bf.keep az aS yaa;have d:V _:=aS.trans (eA 0 0 _ (iK v.op v.len v.a v.b v.c v.k));have aZ:=yq w (.slice a1 Y c1) (.slice (some ⟨a2,ck,none⟩) ae c2) (.slice a3 aa c3) v;clear bf aS;have bm:(v.op==0)=false:=yan xaa
 have HO:V _:=λw=>by
  have:=jR v.op w xaa P
  rw[yw B P]at this
  exact this
 go_enter func67,ntmps67;go_wp2_with (first|(go_at_call 38;refine(HO.o _).mono ?_;rintro e ak ⟨rfl,rfl⟩)|fail);have bR:=yv ((w.alloc (fB a1 Y c1 (some ⟨a2,ck,none⟩) ae c2 a3 aa c3)).alloc (iK v.op v.len v.a v.b v.c v.k));generalize b3:(w.alloc (fB a1 Y c1 (some ⟨a2,ck,none⟩) ae c2 a3 aa c3)).alloc (iK v.op v.len v.a v.b v.c v.k)=aK at aZ d bR⊢;clear b3 bB ad be ah e4 cl;have ao:V _:=aZ;clear aZ;go_loopw [7,8] (λx bZ W=>∃k:Nat,k<=3/\bZ=ih k/\V ((List.range k).all (okF v i)=true)/\GrowI aK k ((List.range k).map λj=>(jH vs v j:Int)) x W) (λ_ bZ _=>3-(intOf bZ).toNat)
 case atStart=>exact⟨0,yae,rfl,rfl,bR⟩
 case round=>
  obtain⟨k,J,rfl,bl,ap⟩:=hrel;clear bR;by_cases aY:k<3
  ·have bA:V _:=mW wr v k aY;obtain⟨_,aU,ax,aF,b⟩:=ao.o.keep ap.2.2;obtain⟨bT,aX,bk,ab,r,l⟩:=b;simp only[Nat.zero_add]at aX bk ab r l;go_wp2_with fail;refine yaj bA.o ?_;rintro e ak ⟨rfl,bO⟩;replace ap:=ap.keep bO;clear bO bA aU ax aF bT aX bk ab r l;obtain⟨_,aU,ax,aF,b⟩:=ao.o.keep ap.2.2;obtain⟨bT,aX,bk,ab,r,l⟩:=b;simp only[Nat.zero_add]at aX bk ab r l;have b9:=ap.2.2.size;by_cases ct:k<cnt v.op
   ·by_cases aH:gn (fld v k) i=true
    ·have af:okF v i k=true:=by unfold okF;rw[iv ct];exact aH
     have H:V _:=iL bl.o af;have am:=of_decide_eq_true aH;obtain⟨j,hj⟩:∃j:Nat,fld v k=j:=⟨(fld v k).toNat,by omega⟩
     have Q:j<i:=xaa;have S:=bb.o j Q;have c:=mH (d.o.trans ap.2.2) az (bM.o j xaa).c1
     have b5:V ((jH vs v k:Int)=(vs.getD j i0).len):=by
      show(jH vs v k:Int)=_;unfold jH;rw[iv ct,hj,Int.toNat_natCast,Int.toNat_of_nonneg xaa]
     rw[hj];generalize (vs.getD j i0).len=z at c b5;clear aH am af bl hj S;generalize I:((List.range k).map λj=>(jH vs v j:Int))=L at ap;have aV:V _:=I;clear I;go_wp2_with (first|(at_builtin;refine wpList_append_own _ rfl _ _ 24 rfl aK.heap.size 3 bY (ih 0) 1 8 underlying24 bg cg b8 cc rfl xab _ _ _ rfl (ap.1.alloc _) ⟨ak.heap.size,0,none⟩ 1 1 [ih z] rfl rfl ?c1 ?c2 ?c3 ?c4 ?c5 ?_))
     case c1=>exact cell_one_new _ _ _
     case c2=>intro u G;simp at G;subst G;rfl
     case c3=>unfold maxLen;omega
     case c4=>omega
     case c5=>simp;omega
     intro v' a7 Z bp _;have R2:V _:=ap.step Z bp;clear Z bp ap aU ax aF bT aX bk ab r l b9;go_wp2;go_roundw
     case rel=>
      refine⟨k+1,by omega,by go_num,H,?_⟩;exact xfk
     case measure=>simp[intOf];omega
    have am:¬(0<=fld v k/\fld v k<i):=λc=>aH (decide_eq_true c);have af:okF v i k=false:=by unfold okF;rw[iv ct];exact yay am
    have H:V _:=jc aY af;have R2:V _:=d.o.trans ap.2.2;generalize fld v k=y at am⊢;clear aH af bl;rcases (by omega:y<0\/(0<=y/\(i:Int)<=y)) with bK|⟨bK,m⟩
    all_goals
     clear am
     go_wp2
     go_ret
     exact⟨jL H.o,R2.o⟩
   have t:cnt v.op<=k:=xaa
   have b5:V ((jH vs v k:Int)=0):=by
    show(jH vs v k:Int)=0;unfold jH;rw[ip ct];rfl
   cases af:okF v i k
   ·have H:V _:=jc aY af;have R2:V _:=d.o.trans ap.2.2;unfold okF at af;rw[ip ct,Bool.or_eq_false_iff]at af;obtain⟨br,aA⟩:=af;have q:(fld v k !=0)=true:=by rw[bne,br];rfl
    generalize fld v k=y at br q⊢;rcases (by omega:k=0\/k=1\/k=2) with rfl|rfl|rfl
    ·exact xjo
    ·exact xjo
    have an:=of_decide_eq_false (show gH v.op=false by simpa using aA);have aW:(v.op==11)=false:=yan xaa;have bd:(v.op==12)=false:=yan xaa;clear aA an br bl ct;go_wp2;go_ret;exact⟨jL H.o,R2.o⟩
   have H:V _:=iL bl.o af
   have f:(fld v k !=0)=false\/(k=2/\(fld v k !=0)=true/\((v.op==11)=true\/((v.op==11)=false/\(v.op==12)=true))):=by
    unfold okF at af;rw[ip ct,Bool.or_eq_true]at af;cases br:(fld v k==0)
    ·right;rw[br]at af;have N:=af.resolve_left xac;rw[Bool.and_eq_true]at N;have aA:=of_decide_eq_true N.2;refine⟨by simpa using N.1,by rw[bne,br];rfl,?_⟩;rcases aA with aA|aA
     ·exact .inl (beq_iff_eq.2 aA)
     exact .inr ⟨yan xaa,beq_iff_eq.2 aA⟩
    left;rw[bne,br];rfl
   have bL:V _:=t;generalize fld v k=y at f⊢;clear bl ct;generalize I:((List.range k).map λj=>(jH vs v j:Int))=L at ap;have aV:V _:=I;clear I;rcases f with C|⟨rfl,C,aA⟩
   ·rcases (by omega:k=0\/k=1\/k=2) with rfl|rfl|rfl
    ·go_wp2_with (first|(at_builtin;refine wpList_append_own _ rfl _ _ 24 rfl aK.heap.size 3 bY (ih 0) 1 8 underlying24 bg cg b8 cc rfl xab _ _ _ rfl (ap.1.alloc _) ⟨ak.heap.size,0,none⟩ 1 1 [ih 0] rfl rfl ?c1 ?c2 ?c3 ?c4 ?c5 ?_))
     case c1=>exact cell_one_new _ _ _
     case c2=>intro u G;simp at G;subst G;rfl
     case c3=>unfold maxLen;omega
     case c4=>omega
     case c5=>simp;omega
     intro v' a7 Z bp _;have R2:V _:=ap.step Z bp;clear Z bp ap aU ax aF bT aX bk ab r l b9;go_wp2;go_roundw
     case rel=>
      refine⟨1,by omega,by go_num,H,?_⟩;exact xfk
     case measure=>simp[intOf]
    ·go_wp2_with (first|(at_builtin;refine wpList_append_own _ rfl _ _ 24 rfl aK.heap.size 3 bY (ih 0) 1 8 underlying24 bg cg b8 cc rfl xab _ _ _ rfl (ap.1.alloc _) ⟨ak.heap.size,0,none⟩ 1 1 [ih 0] rfl rfl ?c1 ?c2 ?c3 ?c4 ?c5 ?_))
     case c1=>exact cell_one_new _ _ _
     case c2=>intro u G;simp at G;subst G;rfl
     case c3=>unfold maxLen;omega
     case c4=>omega
     case c5=>simp;omega
     intro v' a7 Z bp _;have R2:V _:=ap.step Z bp;clear Z bp ap aU ax aF bT aX bk ab r l b9;go_wp2;go_roundw
     case rel=>
      refine⟨2,by omega,by go_num,H,?_⟩;exact xfk
     case measure=>simp[intOf]
    cases aW:(v.op==11)<;>cases bd:(v.op==12)
    all_goals
     go_wp2_with (first|(at_builtin;refine wpList_append_own _ rfl _ _ 24 rfl aK.heap.size 3 bY (ih 0) 1 8 underlying24 bg cg b8 cc rfl xab _ _ _ rfl (ap.1.alloc _) ⟨ak.heap.size,0,none⟩ 1 1 [ih 0] rfl rfl ?c1 ?c2 ?c3 ?c4 ?c5 ?_))
     case c1=>exact cell_one_new _ _ _
     case c2=>intro u G;simp at G;subst G;rfl
     case c3=>unfold maxLen;omega
     case c4=>omega
     case c5=>simp;omega
     intro v' a7 Z bp _
     have R2:V _:=ap.step Z bp
     clear Z bp ap aU ax aF bT aX bk ab r l b9
     go_wp2
     go_roundw
     case rel=>
      refine⟨3,by omega,by go_num,H,?_⟩
      have:=R2.o
      rw[<-b5.o,<-aV.o]at this
      rw[List.range_succ,List.map_append]
      exact this
     case measure=>simp[intOf]
   rcases aA with aW|⟨aW,bd⟩
   all_goals
    go_wp2_with (first|(at_builtin;refine wpList_append_own _ rfl _ _ 24 rfl aK.heap.size 3 bY (ih 0) 1 8 underlying24 bg cg b8 cc rfl xab _ _ _ rfl (ap.1.alloc _) ⟨ak.heap.size,0,none⟩ 1 1 [ih 0] rfl rfl ?c1 ?c2 ?c3 ?c4 ?c5 ?_))
    case c1=>exact cell_one_new _ _ _
    case c2=>intro u G;simp at G;subst G;rfl
    case c3=>unfold maxLen;omega
    case c4=>omega
    case c5=>simp;omega
    intro v' a7 Z bp _
    have R2:V _:=ap.step Z bp
    clear Z bp ap aU ax aF bT aX bk ab r l b9
    go_wp2
    go_roundw
    case rel=>
     refine⟨3,by omega,by go_num,H,?_⟩
     have:=R2.o
     rw[<-b5.o,<-aV.o]at this
     rw[List.range_succ,List.map_append]
     exact this
    case measure=>simp[intOf]
  obtain rfl:k=3:=xaa;have H:V _:=bl.o;have R2:V _:=d.o.trans ap.2.2;obtain⟨g,cap,rfl,ai⟩:=ap.at_ xaa;have c0:=ai 0 xaa;have c1:=ai 1 xaa;have c2:=ai 2 xaa;obtain⟨_,aU,ax,aF,b⟩:=ao.o.keep ap.2.2;obtain⟨bT,aX,bk,ab,r,l⟩:=b;simp only[Nat.zero_add]at aX bk ab r l;simp only[List.range,List.range.loop,List.map_cons,List.map_nil,List.getD_cons_zero,List.getD_cons_succ]at c0 c1 c2;clear ai ap bl;have bL:V (∀w,Calls prog 72 #[v.agg,ih (jH vs v 0:Int),ih (jH vs v 1:Int),ih (jH vs v 2:Int)] w λe O=>e=.returned (.bool (rG v.op v.len v.c (jH vs v 0) (jH vs v 1) (jH vs v 2)))/\O=w.alloc (iK v.op v.len v.a v.b v.c v.k)):=λw=>EM w v.op v.len v.a v.b v.c v.k (jH vs v 0) (jH vs v 1) (jH vs v 2);go_wp2_with fail
  go_region_held3 (λO=>O.cell? ⟨w.heap.size+1,0,none⟩=some (ih v.op)/\O.cell? ⟨w.heap.size+1,1,none⟩=some (ih v.len)/\O.cell? ⟨w.heap.size+1,2,none⟩=some (ih v.a)/\O.cell? ⟨w.heap.size+1,3,none⟩=some (ih v.b)/\O.cell? ⟨w.heap.size+1,4,none⟩=some (ih v.c)/\O.cell? ⟨w.heap.size+1,5,none⟩=some (.float .f64 v.k)/\O.cell? ⟨g,0,none⟩=some (ih (jH vs v 0:Int))/\O.cell? ⟨g,1,none⟩=some (ih (jH vs v 1:Int))/\O.cell? ⟨g,2,none⟩=some (ih (jH vs v 2:Int))) (go_keep)
   ((go_at_call 72;refine(bL.o _).mono ?_;rintro e a7 ⟨rfl,rfl⟩))
  all_goals
   go_wp2
   go_ret
   exact⟨by rw[H.o,Bool.true_and];rfl,(R2.o.trans (eJ 0 0 _ 1)).trans (eA 0 0 _ _)⟩
theorem I0{v}(aj:v.op≠0):(List.range 3).all (okF v i)=(fL v&&(fp v).all (gn · i)):=by
 have ai:=io v.op;have t:=yan aj;have ah:(List.range 3).all _=(okF v i 0&&(okF v i 1&&(okF v i 2&&true))):=rfl;rw[ah];unfold okF fL fp bne;rw[t];have bT:fld v 0=v.a:=rfl;have f1:fld v 1=v.b:=rfl;have f2:fld v 2=v.c:=rfl;rw[bT,f1,f2];rcases (by omega:cnt v.op=0\/cnt v.op=1\/cnt v.op=2\/cnt v.op=3) with h|h|h|h
 all_goals
  rw[h]
  simp only[List.take_succ_cons,List.take_zero,List.all_cons,List.all_nil]
  generalize (v.a==0)=x
  generalize (v.b==0)=y
  generalize (v.c==0)=z
  generalize gH _=p
  generalize gn _ i=r
  generalize gn _ i=s
  generalize gn _ i=t
  revert x y z p r s t
  decide
theorem I1{v}(ag:∀k,k<i->1<=(vs.getD k i0).len/\(vs.getD k i0).len<=1000)(h:(fp v).all (gn · i)=true):
  ([(jH vs v 0:Int),(jH vs v 1:Int),(jH vs v 2:Int)]).take (cnt v.op)=(fp v).map λo=>(vs.getD o.toNat i0).len:=by
 have G:∀o,gn o i=true->((vs.getD o.toNat i0).len.toNat:Int)=(vs.getD o.toNat i0).len:=λo aR=>by
  have:=of_decide_eq_true aR
  have:=ag o.toNat xaa
  omega
 have ai:=io v.op;have ay:0<cnt _->jH _ v 0=(vs.getD v.a.toNat _).len.toNat:=λc=>iv c;have Y:1<cnt _->jH _ v 1=(vs.getD v.b.toNat _).len.toNat:=λc=>iv c;have ae:2<cnt _->jH _ v 2=(vs.getD v.c.toNat _).len.toNat:=λc=>iv c;unfold fp at h⊢;rcases (by omega:cnt v.op=0\/cnt v.op=1\/cnt v.op=2\/cnt v.op=3) with e|e|e|e
 ·rw[e];rfl
 ·rw[ay xaa];rw[e]at h⊢;simp only[List.take_succ_cons,List.take_zero,List.all_cons,List.all_nil,Bool.and_true]at h;simp only[List.take_succ_cons,List.take_zero,List.map_cons,List.map_nil];rw[G _ h]
 ·rw[ay xaa,Y xaa];rw[e]at h⊢;simp only[List.take_succ_cons,List.take_zero,List.all_cons,List.all_nil,Bool.and_true,Bool.and_eq_true]at h;simp only[List.take_succ_cons,List.take_zero,List.map_cons,List.map_nil];rw[G _ h.1,G _ h.2]
 rw[ay xaa,Y xaa,ae xaa];rw[e]at h⊢;simp only[List.take_succ_cons,List.take_zero,List.all_cons,List.all_nil,Bool.and_true,Bool.and_eq_true]at h;simp only[List.take_succ_cons,List.take_zero,List.map_cons,List.map_nil];rw[G _ h.1,G _ h.2.1,G _ h.2.2]
theorem qO{op len C}(h:¬(0<=op/\op<=13)):eV op len C xs=false:=by
 grind[eV]
theorem OV(w a1 K a3 Y c1 ae c2 aa c3 i ins vs outs)(f:GS w a1 Y K ae a3 aa ins vs outs)(hi:i<ae)
  (h:∀k,k<i->1<=(vs.getD k i0).len/\(vs.getD k i0).len<=1000):
  Calls prog 67 #[eX a1 Y c1 K ae c2 a3 aa c3,ih i] w λe O=>e=.returned (.bool (okV ins vs i))/\Kept 0 0 w O:=by
 rcases f.v.at_ with aj|⟨a2,ck,rfl,R,a6,U,bZ⟩
 ·omega
 have bf:=bZ i hi;unfold okV;generalize aL:vs.getD i _=v at bf;by_cases hb:0<=v.op/\v.op<=13/\1<=v.len/\v.len<=1000
 ·rw[jX hb.2.2.1 hb.2.2.2,Bool.true_and];by_cases aj:v.op=0
  ·rw[iv aj,f.i.len];obtain⟨op,len,A,I,C,bA⟩:=v;simp only at aj hb;subst aj
   have e:(fL ⟨0,len,A,I,C,bA⟩&&(gn A Y&&len==ins.getD A.toNat 0))=(((gn A Y&&len==ins.getD A.toNat 0)&&I==0)&&C==0):=by
    have t:fL ⟨0,len,A,I,C,bA⟩=(I==0&&C==0):=by
     simp[fL,cnt,gH,bne]
    rw[t];cases gn A Y<;>cases (len==ins.getD A.toNat 0)<;>cases (I==0)<;>cases (C==0)<;>rfl
   show Calls _ _ _ _ λe O=>e=.returned (.bool (fL ⟨0,len,A,I,C,bA⟩&&(gn A Y&&len==ins.getD A.toNat 0)))/\_;rw[e];exact yu w _ _ _ _ _ _ _ _ _ _ i _ A I C bA _ f.i U hi bf hb.2.2.1 hb.2.2.2
  rw[ip aj]
  have e:(fL v&&((fp v).all (gn · i)&&eV v.op v.len v.c ((fp v).map λo=>(vs.getD o.toNat i0).len)))=((List.range 3).all (okF v i)&&rG v.op v.len v.c (jH vs v 0) (jH vs v 1) (jH vs v 2)):=by
   rw[I0 aj,<-Bool.and_assoc];cases bl:(fp v).all (gn · i)
   ·simp
   unfold rG;rw[I1 h bl,jX hb.2.2.1 hb.2.2.2,Bool.true_and]
  rw[e];exact CD w _ _ _ _ _ _ _ _ _ _ i v _ U hi bZ h aL xaa hb.2.1 hb.2.2.1 hb.2.2.2
 have e:((lenB v.len&&fL v)&&(if v.op=0 then gn v.a ins.length&&v.len==ins.getD v.a.toNat 0 else (fp v).all (gn · i)&&eV v.op v.len v.c ((fp v).map λo=>(vs.getD o.toNat i0).len)))=false:=by
  by_cases ag:1<=v.len/\v.len<=1000
  ·have aR:¬(0<=v.op/\v.op<=13):=xaa;rw[ip xaa,qO aR,Bool.and_false,Bool.and_false]
  rw[mS ag,Bool.false_and,Bool.false_and]
 rw[e];exact CC w _ _ _ _ _ _ _ _ _ _ i v U hi bf hb
theorem yx{ins}(h:(List.range k).all (okV ins vs)=true):∀j,j<k->1<=(vs.getD j i0).len/\(vs.getD j i0).len<=1000:=λj hj=>
 fV (List.all_eq_true.1 h j (List.mem_range.2 hj))
theorem wn(w a1 K a3 Y c1 ae c2 aa c3 ins vs outs)(f:GS w a1 Y K ae a3 aa ins vs outs)(N:ae<=2000)(h3:aa<=50)(b1:(decide (Y<=20)&&ins.all lenB)=true):
  Calls prog 36 #[eX a1 Y c1 K ae c2 a3 aa c3] w λe O=>e=.returned (.bool ((List.range ae).all (okV ins vs)&&(outs.all (gn · ae)&&decide (eY vs<=50000))))/\Kept 0 0 w O:=by
 have aS:V _:=eA 0 0 w (fB a1 Y c1 K ae c2 a3 aa c3);have aZ:=ib w (.slice a1 Y c1) (.slice K ae c2) (.slice a3 aa c3);have aO:V _:=f.keep aS.o;have aC:V _:=f.v.len;have bb:V _:=f.o.len;have g:V _:=rV _ _ _ _ _ c1 _ (f.keep aS.o).i;rw[b1]at g;clear f b1;go_enter func36,ntmps36;go_wp2_with fail;refine yaj g.o ?_;rintro e aK ⟨rfl,ap⟩;replace aZ:=aZ.keep ap;have b:V _:=aO.o.keep ap;have aA:V _:=aS.o.trans ap;clear ap aO aS g;have ax:=aZ.q1;have aF:=aZ.q2;go_wp2_with fail;clear ax aF;have ao:V _:=aZ;clear aZ;go_loopw [3] (λi W=>∃k:Nat,k<=ae/\i=ih k/\V ((List.range k).all (okV ins vs)=true)/\Kept 0 0 aK W) (λi _=>ae-(intOf i).toNat)
 case atStart=>exact⟨0,yae,rfl,rfl,Kept.refl _ _ _⟩
 case round=>
  obtain⟨k,J,rfl,bl,h⟩:=hrel;obtain⟨_,aU,ax,aF⟩:=ao.o.keep h;by_cases aY:k<ae
  ·have bA:V _:=OV _ _ _ _ _ c1 _ c2 _ c3 k _ _ _ (b.o.keep h) aY (yx bl.o);cases aH:okV ins vs k
   ·rw[aH]at bA;have H:V _:=jc aY aH;have R2:V _:=aA.o.trans h;clear aH bl h;go_wp2_with fail;refine yaj bA.o ?_;rintro e ak ⟨rfl,bO⟩;clear aU ax aF;go_wp2;go_ret;exact⟨jL H.o,R2.o.trans bO⟩
   rw[aH]at bA;have H:V _:=iL bl.o aH;have B:V _:=h;clear aH bl h;go_wp2_with fail;refine yaj bA.o ?_;rintro e ak ⟨rfl,bO⟩;have R2:V _:=B.o.trans bO;clear aU ax aF bO;go_wp2;go_roundw;exact⟨k+1,by omega,by go_num,H,R2.o⟩;simp[intOf];omega
  have R1:V ((List.range ae).all (okV ins vs)=true):=by
   have:=bl.o;rw[show k=ae by omega]at this;exact this
  have d:V _:=b.o.keep h;have bN:V _:=aA.o.trans h;have bi:V (∀W,Drawn _ W->_):=λW aN=>Bx W _ _ _ _ c1 _ c2 _ c3 _ _ _ (d.o.keep (aN.kept 0 0)) N (yx R1.o);have bQ:V (∀W,Drawn _ W->W.cell? _=some _/\W.cell? _=some _/\W.cell? _=some _):=λW aN=>⟨jn aN.cell aU,jn aN.cell ax,jn aN.cell aF⟩
  clear bl h;go_wp2_with fail;clear aU ax aF;go_loopw [4] (λi W=>∃k:Nat,k<=aa/\i=ih k/\V ((outs.take k).all (gn · ae)=true)/\Drawn wr W) (λi _=>aa-(intOf i).toNat)
  case atStart=>exact⟨0,yae,rfl,rfl,Drawn.refl _⟩
  case round=>
   obtain⟨a9,b9,rfl,bl,bI⟩:=hrel;obtain⟨aU,ax,aF⟩:=bQ.o _ bI;have HD:V _:=bI;by_cases aJ:a9<aa
   ·rcases d.o.o.at_ with bX|⟨b4,z,bU,aV,bg,bq,bB⟩
    ·omega
    have c:=(bI.cell _).trans (bB _ aJ);have cd:(0:Int)<=a9:=xaa;have bh:(a9:Int)<aa:=xaa;subst bU;clear aV bg bq bB bI;cases aH:gn (outs.getD a9 0) ae
    ·have H:V (outs.all (gn · _)=false):=sP (jn bb.o aJ) aH;have am:=of_decide_eq_false aH;generalize outs.getD _ 0=y at c am;clear aH bl;rcases (by omega:y<0\/(0<=y/\ae<=y)) with bK|⟨bK,m⟩
     ·have aW:=decide_eq_true bK;exact xga
     have aW:decide (y<0)=false:=yay xaa;have bd:=decide_eq_true m;exact xga
    have H:V _:=qN (jn bb.o aJ) bl.o aH;have am:=of_decide_eq_true aH;generalize outs.getD _ 0=y at c am;obtain⟨bK,m⟩:=am;have aW:decide (y<0)=false:=yay xaa;have bd:decide (ae<=y)=false:=yay xaa;clear aH bl;go_wp2_with fail;go_quiet (fail)
    go_wp2;go_roundw;exact⟨a9+1,by omega,by go_num,H,Drawn.more HD.o _⟩;simp[intOf];omega
   have dp:V (outs.all (gn · ae)=true):=by
    have:=bl.o;rw[yap (jx bb.o)]at this;exact this
   have cC:V _:=bi.o _ bI;clear bl bI;go_wp2_with fail;refine yaj cC.o ?_;rintro e a7 ⟨rfl,ab⟩;clear aU ax aF;go_wp2;go_ret;exact⟨by rw[R1.o,dp.o];rfl,(bN.o.trans (Drawn.kept HD.o 0 0)).trans ab⟩
theorem rJ(w a1 K a3 Y c1 ae c2 aa c3 ins vs outs)(f:GS w a1 Y K ae a3 aa ins vs outs)(h:¬(((decide (Y<=20)&&ins.all lenB)=true)/\ae<=2000/\aa<=50)):
  Calls prog 36 #[eX a1 Y c1 K ae c2 a3 aa c3] w λe O=>e=.returned (.bool false)/\Kept 0 0 w O:=by
 have aS:V _:=eA 0 0 w (fB a1 Y c1 K ae c2 a3 aa c3);have aZ:=ib w (.slice a1 Y c1) (.slice K ae c2) (.slice a3 aa c3);have g:V _:=rV _ _ _ _ _ c1 _ (f.keep aS.o).i;clear f;cases b1:(decide (Y<=20)&&ins.all lenB)
 ·rw[b1]at g;exact xfa
 rw[b1]at g;by_cases N:ae<=2000
 ·have h3:50<aa:=by
   rcases Nat.lt_or_ge 50 aa with c|c
   ·exact c
   exact absurd ⟨b1,N,c⟩ h
  exact xfa
 have h3:2000<ae:=xaa;clear h b1 N;go_enter func36,ntmps36;go_wp2_with fail;refine yaj g.o ?_;rintro e aK ⟨rfl,ap⟩;obtain⟨_,aU,ax,aF⟩:=aZ.keep ap;clear aZ;go_wp2
 all_goals
  go_ret
  exact⟨rfl,aS.o.trans ap⟩
theorem CE(w a1 K a3 Y c1 ae c2 aa c3 ins vs outs)(f:GS w a1 Y K ae a3 aa ins vs outs):
  Calls prog 36 #[eX a1 Y c1 K ae c2 a3 aa c3] w λe O=>e=.returned (.bool (okG ins vs outs))/\Kept 0 0 w O:=by
 unfold okG;rw[f.i.len,f.v.len,f.o.len];by_cases h:((decide (Y<=20)&&ins.all lenB)=true)/\ae<=2000/\aa<=50
 ·have h':=h.1;rw[Bool.and_eq_true]at h';rw[decide_eq_true (show Y<=20/\ae<=2000/\aa<=50 from⟨of_decide_eq_true h'.1,h.2⟩),h'.2,Bool.true_and,Bool.true_and];exact wn w _ _ _ _ _ _ _ _ _ _ _ _ f h.2.1 h.2.2 h.1
 have e:(decide (Y<=20/\ae<=2000/\aa<=50)&&(ins.all lenB&&((List.range ae).all (okV ins vs)&&(outs.all (gn · ae)&&decide (eY vs<=50000)))))=false:=by
  rw[Bool.and_eq_false_iff];by_cases hn:Y<=20/\ae<=2000/\aa<=50
  ·right;rw[Bool.and_eq_false_iff];left;rw[Bool.eq_false_iff];intro c;exact h ⟨by rw[Bool.and_eq_true];exact⟨decide_eq_true hn.1,c⟩,hn.2⟩
  left;exact yay hn
 rw[e];exact rJ w _ _ _ _ _ _ _ _ _ _ _ _ f h
