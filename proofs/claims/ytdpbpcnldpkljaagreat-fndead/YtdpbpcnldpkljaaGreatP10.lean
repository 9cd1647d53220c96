import Derived.Test.YtdpbpcnldpkljaaGreatP09
namespace Go.Proofs.Z
open Tryz
set_option maxRecDepth 1000000
set_option maxHeartbeats 0
open Go.RowKit Flt
attribute [local go_sem] eD eB eA
variable {w1 W':World} {k:Nat} {xs:List Int} {v:Value}
def GrowI (w1:World)(k:Nat)(xs:List Int)(v:Value)(W:World):Prop:=
 W.ownsRow w1.heap.size 3 1 v k (xs.map (Value.int .i64))/\xs.length=k/\Kept 0 0 w1 W
theorem sY (w1:World):GrowI w1 0 [] (.slice none 0 0) w1:=⟨yav _ _ _ _,rfl,Kept.refl _ _ _⟩
theorem y9 {base e size n:Nat}{xs:List Value}{W:World}(h:W.ownsRow base e size v n xs)(k:Kept 0 0 W W'):W'.ownsRow base e size v n xs:=by
 refine⟨h.1,?_⟩
 rcases h.2 with hn|⟨g,cap,cur,rfl,hb,hgg,rest⟩
 ·exact .inl hn
 ·refine .inr ⟨g,cap,cur,rfl,hb,?_,rest⟩
  have hg:g<W.heap.size:=by
   rcases Nat.lt_or_ge g W.heap.size with c|c
   ·exact c
   ·rw[Array.getElem?_eq_none c] at hgg;cases hgg
  rw[k.block g hg xaa]
  exact hgg
theorem GrowI.keep {W:World}(h:GrowI w1 k xs v W)(kb:Kept 0 0 W W'):GrowI w1 k xs v W':=
 ⟨y9 h.1 kb,h.2.1,h.2.2.trans kb⟩
theorem GrowI.step {W:World}{z:Int}(h:GrowI w1 k xs v W)
  {v':Value} {w':World} {o:Obj}
  (hown':w'.ownsRow w1.heap.size 3 1 v' (k+1) (xs.map (Value.int .i64)++[Value.int .i64 z])) (hg:(W.alloc o).grownBy w' v.ownBlock):GrowI w1 (k+1) (xs++[z]) v' w':=by
 refine⟨by rw[List.map_append];exact hown',by simp[h.2.1],?_⟩
 have hK:=h.2.2
 refine⟨hg.os.trans hK.os,hg.tape.trans hK.tape,hg.output.trans hK.output,?_,λi hi _=>?_⟩
 ·have:=hg.size
  have h2:=hK.size
  simp at this
  omega
 ·have h2:=hK.size
  rw[hg.block i yaf (λc=>by have:=h.1.lt i c.symm;omega),Below.heap_alloc W o i xaa]
  exact hK.block i hi xaa
theorem GrowI.at_ {W:World}(h:GrowI w1 k xs v W)(hk:0<k):∃g cap,v=.slice (some ⟨g,0,none⟩) k cap/\∀j,j<k->W.cell? ⟨g,j,none⟩=some (.int .i64 (xs.getD j 0)):=by
 obtain⟨ho,hl,_⟩:=h
 rcases ho.2 with⟨_,c⟩|⟨g,cap,cur,rfl,b1,b2,_,_,b5,b6⟩
 ·omega
 ·refine⟨g,cap,rfl,λj hj=>?_⟩
  rw[cell_of_row W g _ cur _ _ b2,<-Array.getElem?_toList]
  have:(cur.toList.take (k*1))[j]? =(xs.map (Value.int .i64))[j]?:=by rw[b6]
  rw[List.getElem?_take_of_lt xaa] at this
  rw[this,List.getElem?_map,yal (by omega:j<xs.length)]
  simp[List.getD_eq_getElem?_getD,List.getElem?_eq_getElem (by omega:j<xs.length)]
def okF (v:Vl)(i:Nat)(k:Nat):Bool:=if k<cnt v.op then fC (fld v k) i else (fld v k==0||(k==2&&io v.op))
def i6 (vs:List Vl)(v:Vl)(k:Nat):Nat:=if k<cnt v.op then (vs.getD (fld v k).toNat Vl.zero).len.toNat else 0
theorem za {op:Int}(h1:1<=op)(h2:op<=13):ig op=cnt op:=by
 rcases (by omega:op=1\/op=2\/op=3\/op=4\/op=5\/op=6\/op=7\/op=8\/op=9\/op=10\/op=11\/op=12\/op=13) with h|h|h|h|h|h|h|h|h|h|h|h|h<;>subst h<;>rfl
theorem xu (w:World)(a1 a3:Option Addr)(n1 c1 n2 c2 n3 c3 g2 o2 i:Nat)(v:Vl)(vs:List Vl)(hg:g2<w.heap.size)(hi:i<n2)
  (hall:∀k,k<n2->At w g2 (o2+k*6) (vs.getD k Vl.zero)) (hlens:∀k,k<i->1<=(vs.getD k Vl.zero).len/\(vs.getD k Vl.zero).len<=1000) (hv:vs.getD i Vl.zero=v) (h1:1<=v.op) (h13:v.op<=13) (hl1:1<=v.len) (hl2:v.len<=1000):
  Calls prog 15 #[eR a1 n1 c1 (some ⟨g2,o2,none⟩) n2 c2 a3 n3 c3,.int .i64 (i:Int)] w λe w'=>e=.returned (.bool ((List.range 3).all (okF v i)&&fi v.op v.len v.c (i6 vs v 0) (i6 vs v 1) (i6 vs v 2)))/\Kept 0 0 w w':=by
 obtain⟨i0,hi0,hz0,hz1,hz2⟩:=info_parts oi
 have hK:=ez 0 0 w (eP a1 n1 c1 (some ⟨g2,o2,none⟩) n2 c2 a3 n3 c3)
 have hat:=hall i hi
 rw[hv] at hat
 have HA:Hid (∀k,k<n2->At w g2 (o2+k*6) (vs.getD k Vl.zero)):=hall
 have HLN:Hid _:=hlens
 clear hall hv hlens
 obtain⟨e0,e1,e2,e3,e4,e5⟩:=hat.keep hg hK yaa
 have hK2:Hid _:=hK.trans (ez 0 0 _ (fX v.op v.len v.a v.b v.c v.k))
 have hB:=mQ w (.slice a1 n1 c1) (.slice (some ⟨g2,o2,none⟩) n2 c2) (.slice a3 n3 c3) v
 clear hat hK
 have t0:(v.op==0)=false:=yam xaa
 have HO:Hid (∀w,Calls prog 36 #[.int .i64 v.op] w λe w'=>e=.returned (.int .i64 (cnt v.op:Nat))/\w'=w):=λw=>by
  have:=eV v.op w xaa h13
  rw[za h1 h13] at this
  exact this
 go_enter func15,ntmps15
 go_wp2_with (first|(go_at_call 36;refine(HO.out _).mono ?_;rintro e w2 ⟨rfl,rfl⟩)|fail)
 have hG:=sY ((w.alloc (eP a1 n1 c1 (some ⟨g2,o2,none⟩) n2 c2 a3 n3 c3)).alloc (fX v.op v.len v.a v.b v.c v.k))
 generalize hw1:(w.alloc (eP a1 n1 c1 (some ⟨g2,o2,none⟩) n2 c2 a3 n3 c3)).alloc (fX v.op v.len v.a v.b v.c v.k)=w1 at hB hK2 hG ⊢
 clear hw1 e0 e1 e2 e3 e4 e5
 have HB:Hid _:=hB
 clear hB
 go_loopw [7,8] (λlv kv W=>∃k:Nat,k<=3/\kv=.int .i64 k/\Hid ((List.range k).all (okF v i)=true)/\GrowI w1 k ((List.range k).map λj=>(i6 vs v j:Int)) lv W) (λ_ kv _=>3-(intOf kv).toNat)
 case atStart=>exact⟨0,Nat.zero_le _,rfl,rfl,hG⟩
 case round=>
  obtain⟨k,hk,rfl,hA,hG2⟩:=hrel
  clear hG
  by_cases hlt:k<3
  ·have HX:Hid _:=kR wr v k hlt
   obtain⟨_,q0,q1,q2,vt⟩:=HB.out.keep hG2.2.2
   obtain⟨d0,d1,d2,d3,d4,d5⟩:=vt
   simp only[Nat.zero_add] at d1 d2 d3 d4 d5
   go_wp2_with fail
   refine yai HX.out ?_
   rintro e w2 ⟨rfl,hk2⟩
   replace hG2:=hG2.keep hk2
   clear hk2 HX q0 q1 q2 d0 d1 d2 d3 d4 d5
   obtain⟨_,q0,q1,q2,vt⟩:=HB.out.keep hG2.2.2
   obtain⟨d0,d1,d2,d3,d4,d5⟩:=vt
   simp only[Nat.zero_add] at d1 d2 d3 d4 d5
   have hsz:w1.heap.size<=w2.heap.size:=hG2.2.2.size
   by_cases hkn:k<cnt v.op
   ·by_cases hx:fC (fld v k) i=true
    ·have hok:okF v i k=true:=by unfold okF;rw[if_pos hkn];exact hx
     have R:Hid _:=kP hA.out hok
     have hx':=of_decide_eq_true hx
     obtain⟨j,hj⟩:∃j:Nat,fld v k=j:=⟨(fld v k).toNat,by omega⟩
     have hji:j<i:=xaa
     have hlj:=HLN.out j hji
     have c:=jN (hK2.out.trans hG2.2.2) hg (HA.out j xaa).c1
     have hz:Hid ((i6 vs v k:Int)=(vs.getD j Vl.zero).len):=by
      show(i6 vs v k:Int)=_
      unfold i6
      rw[if_pos hkn,hj,Int.toNat_natCast,Int.toNat_of_nonneg xaa]
     rw[hj]
     generalize (vs.getD j Vl.zero).len=z at c hz
     clear hx hx' hok hA hj hlj
     generalize hLL:((List.range k).map λj=>(i6 vs v j:Int))=L at hG2
     have HLL:Hid _:=hLL
     clear hLL
     go_wp2_with (first|(at_builtin;refine wpList_append_own _ rfl _ _ 23 rfl w1.heap.size 3 i0 (.int .i64 0) 1 8 underlying23 hi0 hz0 hz1 hz2 rfl xab _ _ _ rfl (hG2.1.alloc _) ⟨w2.heap.size,0,none⟩ 1 1 [.int .i64 z] rfl rfl ?c1 ?c2 ?c3 ?c4 ?c5 ?_))
     case c1=>exact cell_one_new _ _ _
     case c2=>intro u hu;simp at hu;subst hu;rfl
     case c3=>unfold maxLen;omega
     case c4=>omega
     case c5=>simp;omega
     intro v' w9 hown9 hg9 _
     have R2:Hid _:=hG2.step hown9 hg9
     clear hown9 hg9 hG2 q0 q1 q2 d0 d1 d2 d3 d4 d5 hsz
     go_wp2
     go_roundw
     case rel=>
      refine⟨k+1,by omega,by go_num,R,?_⟩
      exact xfw
     case measure=>simp[intOf];omega
    ·have hx':¬(0<=fld v k/\fld v k<i):=λc=>hx (decide_eq_true c)
     have hok:okF v i k=false:=by unfold okF;rw[if_pos hkn];exact yax hx'
     have R:Hid ((List.range 3).all (okF v i)=false):=lW hlt hok
     have R2:Hid _:=hK2.out.trans hG2.2.2
     generalize fld v k=y at hx' ⊢
     clear hx hok hA
     rcases (by omega:y<0\/(0<=y/\(i:Int)<=y)) with hy|⟨hy,hy'⟩
     all_goals
      clear hx'
      go_wp2
      go_ret
      exact⟨by rw[R.out];rfl,R2.out⟩
   ·have hkn':cnt v.op<=k:=xaa
    have hz:Hid ((i6 vs v k:Int)=0):=by
     show(i6 vs v k:Int)=0
     unfold i6
     rw[if_neg hkn];rfl
    cases hok:okF v i k
    ·have R:Hid ((List.range 3).all (okF v i)=false):=lW hlt hok
     have R2:Hid _:=hK2.out.trans hG2.2.2
     unfold okF at hok
     rw[if_neg hkn,Bool.or_eq_false_iff] at hok
     obtain⟨hf,hp⟩:=hok
     have hf':(fld v k !=0)=true:=by rw[bne,hf];rfl
     generalize fld v k=y at hf hf' ⊢
     rcases (by omega:k=0\/k=1\/k=2) with rfl|rfl|rfl
     ·exact xjp
     ·exact xjp
     ·have hp':¬(v.op=11\/v.op=12):=of_decide_eq_false (show io v.op=false by simpa using hp)
      have t1:(v.op==11)=false:=yam xaa
      have t2:(v.op==12)=false:=yam xaa
      clear hp hp' hf hA hkn
      go_wp2
      go_ret
      exact⟨by rw[R.out];rfl,R2.out⟩
    ·have R:Hid _:=kP hA.out hok
     have hpass:(fld v k !=0)=false\/(k=2/\(fld v k !=0)=true/\((v.op==11)=true\/((v.op==11)=false/\(v.op==12)=true))):=by
      unfold okF at hok
      rw[if_neg hkn,Bool.or_eq_true] at hok
      cases hf:(fld v k==0)
      ·right
       rw[hf] at hok
       have h2:=hok.resolve_left xac
       rw[Bool.and_eq_true] at h2
       have hp:=of_decide_eq_true h2.2
       refine⟨by simpa using h2.1,by rw[bne,hf];rfl,?_⟩
       rcases hp with hp|hp
       ·exact .inl (beq_iff_eq.2 hp)
       ·exact .inr ⟨yam xaa,beq_iff_eq.2 hp⟩
      ·left;rw[bne,hf];rfl
     have HT:Hid _:=hkn'
     generalize fld v k=y at hpass ⊢
     clear hA hkn
     generalize hLL:((List.range k).map λj=>(i6 vs v j:Int))=L at hG2
     have HLL:Hid _:=hLL
     clear hLL
     rcases hpass with tf|⟨rfl,tf,hp⟩
     ·rcases (by omega:k=0\/k=1\/k=2) with rfl|rfl|rfl
      ·go_wp2_with (first|(at_builtin;refine wpList_append_own _ rfl _ _ 23 rfl w1.heap.size 3 i0 (.int .i64 0) 1 8 underlying23 hi0 hz0 hz1 hz2 rfl xab _ _ _ rfl (hG2.1.alloc _) ⟨w2.heap.size,0,none⟩ 1 1 [.int .i64 0] rfl rfl ?c1 ?c2 ?c3 ?c4 ?c5 ?_))
       case c1=>exact cell_one_new _ _ _
       case c2=>intro u hu;simp at hu;subst hu;rfl
       case c3=>unfold maxLen;omega
       case c4=>omega
       case c5=>simp;omega
       intro v' w9 hown9 hg9 _
       have R2:Hid _:=hG2.step hown9 hg9
       clear hown9 hg9 hG2 q0 q1 q2 d0 d1 d2 d3 d4 d5 hsz
       go_wp2
       go_roundw
       case rel=>
        refine⟨1,by omega,by go_num,R,?_⟩
        exact xfw
       case measure=>simp[intOf]
      ·go_wp2_with (first|(at_builtin;refine wpList_append_own _ rfl _ _ 23 rfl w1.heap.size 3 i0 (.int .i64 0) 1 8 underlying23 hi0 hz0 hz1 hz2 rfl xab _ _ _ rfl (hG2.1.alloc _) ⟨w2.heap.size,0,none⟩ 1 1 [.int .i64 0] rfl rfl ?c1 ?c2 ?c3 ?c4 ?c5 ?_))
       case c1=>exact cell_one_new _ _ _
       case c2=>intro u hu;simp at hu;subst hu;rfl
       case c3=>unfold maxLen;omega
       case c4=>omega
       case c5=>simp;omega
       intro v' w9 hown9 hg9 _
       have R2:Hid _:=hG2.step hown9 hg9
       clear hown9 hg9 hG2 q0 q1 q2 d0 d1 d2 d3 d4 d5 hsz
       go_wp2
       go_roundw
       case rel=>
        refine⟨2,by omega,by go_num,R,?_⟩
        exact xfw
       case measure=>simp[intOf]
      ·cases t1:(v.op==11)<;>cases t2:(v.op==12)
       all_goals
        go_wp2_with (first|(at_builtin;refine wpList_append_own _ rfl _ _ 23 rfl w1.heap.size 3 i0 (.int .i64 0) 1 8 underlying23 hi0 hz0 hz1 hz2 rfl xab _ _ _ rfl (hG2.1.alloc _) ⟨w2.heap.size,0,none⟩ 1 1 [.int .i64 0] rfl rfl ?c1 ?c2 ?c3 ?c4 ?c5 ?_))
        case c1=>exact cell_one_new _ _ _
        case c2=>intro u hu;simp at hu;subst hu;rfl
        case c3=>unfold maxLen;omega
        case c4=>omega
        case c5=>simp;omega
        intro v' w9 hown9 hg9 _
        have R2:Hid _:=hG2.step hown9 hg9
        clear hown9 hg9 hG2 q0 q1 q2 d0 d1 d2 d3 d4 d5 hsz
        go_wp2
        go_roundw
        case rel=>
         refine⟨3,by omega,by go_num,R,?_⟩
         have:=R2.out
         rw[<-hz.out,<-HLL.out] at this
         rw[List.range_succ,List.map_append]
         exact this
        case measure=>simp[intOf]
     ·rcases hp with t1|⟨t1,t2⟩
      all_goals
       go_wp2_with (first|(at_builtin;refine wpList_append_own _ rfl _ _ 23 rfl w1.heap.size 3 i0 (.int .i64 0) 1 8 underlying23 hi0 hz0 hz1 hz2 rfl xab _ _ _ rfl (hG2.1.alloc _) ⟨w2.heap.size,0,none⟩ 1 1 [.int .i64 0] rfl rfl ?c1 ?c2 ?c3 ?c4 ?c5 ?_))
       case c1=>exact cell_one_new _ _ _
       case c2=>intro u hu;simp at hu;subst hu;rfl
       case c3=>unfold maxLen;omega
       case c4=>omega
       case c5=>simp;omega
       intro v' w9 hown9 hg9 _
       have R2:Hid _:=hG2.step hown9 hg9
       clear hown9 hg9 hG2 q0 q1 q2 d0 d1 d2 d3 d4 d5 hsz
       go_wp2
       go_roundw
       case rel=>
        refine⟨3,by omega,by go_num,R,?_⟩
        have:=R2.out
        rw[<-hz.out,<-HLL.out] at this
        rw[List.range_succ,List.map_append]
        exact this
       case measure=>simp[intOf]
  ·obtain rfl:k=3:=xaa
   have R:Hid _:=hA.out
   have R2:Hid _:=hK2.out.trans hG2.2.2
   obtain⟨g,cap,rfl,hc⟩:=hG2.at_ xaa
   have c0:=hc 0 xaa
   have c1:=hc 1 xaa
   have c2:=hc 2 xaa
   obtain⟨_,q0,q1,q2,vt⟩:=HB.out.keep hG2.2.2
   obtain⟨d0,d1,d2,d3,d4,d5⟩:=vt
   simp only[Nat.zero_add] at d1 d2 d3 d4 d5
   simp only[List.range,List.range.loop,List.map_cons,List.map_nil,List.getD_cons_zero,List.getD_cons_succ] at c0 c1 c2
   clear hc hG2 hA
   have HT:Hid (∀w,Calls prog 38 #[v.agg,.int .i64 (i6 vs v 0:Int),.int .i64 (i6 vs v 1:Int),.int .i64 (i6 vs v 2:Int)] w λe w'=>e=.returned (.bool (fi v.op v.len v.c (i6 vs v 0) (i6 vs v 1) (i6 vs v 2)))/\w'=w.alloc (fX v.op v.len v.a v.b v.c v.k)):=λw=>Fo w v.op v.len v.a v.b v.c v.k (i6 vs v 0) (i6 vs v 1) (i6 vs v 2)
   go_wp2_with fail
   go_region_held3 (λw'=>w'.cell? ⟨w.heap.size+1,0,none⟩=some (.int .i64 v.op)/\w'.cell? ⟨w.heap.size+1,1,none⟩=some (.int .i64 v.len)/\w'.cell? ⟨w.heap.size+1,2,none⟩=some (.int .i64 v.a)/\w'.cell? ⟨w.heap.size+1,3,none⟩=some (.int .i64 v.b)/\w'.cell? ⟨w.heap.size+1,4,none⟩=some (.int .i64 v.c)/\w'.cell? ⟨w.heap.size+1,5,none⟩=some (.float .f64 v.k)/\w'.cell? ⟨g,0,none⟩=some (.int .i64 (i6 vs v 0:Int))/\w'.cell? ⟨g,1,none⟩=some (.int .i64 (i6 vs v 1:Int))/\w'.cell? ⟨g,2,none⟩=some (.int .i64 (i6 vs v 2:Int))) (go_keep)
    ((go_at_call 38;refine(HT.out _).mono ?_;rintro e w9 ⟨rfl,rfl⟩))
   all_goals
    go_wp2
    go_ret
    exact⟨by rw[R.out,Bool.true_and];rfl,(R2.out.trans (eK 0 0 _ 1)).trans (ez 0 0 _ _)⟩
