import Derived.Test.YtnlffngpnoodkaaGreatP14
namespace Go.Proofs.YtnlffngpnoodkaaGreat
set_option maxRecDepth 1000000
set_option maxHeartbeats 0
open Go.RowKit Flt
attribute [local go_sem] ic ib ia
variable {l0 k h0' l1 n h1' l2 h2' la lb lc ca cb cc:Nat} {w1:World} {q:Nat->Nat} {v:Value} {a b c:Option Addr} {xa xb xc:List Nat}
theorem iZ (op:Int)(w:World)(h0:0<=op)(h1:op<=13):Calls Tryz.prog 73 #[.int .i64 op] w λe w'=>e=.returned (.bool (iG op))/\w=w':=
 (iT op w h0 h1).mono λ_ _ h=>⟨h.1,h.2.symm⟩
theorem jE (op:Int)(w:World)(h0:0<=op)(h1:op<=13):Calls Tryz.prog 45 #[.int .i64 op] w λe w'=>e=.returned (.int .i64 (jy op:Nat))/\w=w':=
 (iu op w h0 h1).mono λ_ _ h=>⟨h.1,h.2.symm⟩
def Grow (w1:World)(k:Nat)(q:Nat->Nat)(v:Value)(W:World):Prop:=
 ∃zs:List Nat,W.ownsRow w1.heap.size 29 1 v k (zs.map (Value.float .f64))/\zs.length=k/\(∀z∈zs,z<18446744073709551616)/\(∀j,j<k->fb (zs.getD j 0)=fb (q j))/\Kept 0 0 w1 W
theorem ju (w1:World)(q:Nat->Nat):Grow w1 0 q (.slice none 0 0) w1:=
 ⟨[],World.ownsRow_nil _ _ _ _,rfl,by simp,λj hj=>by omega,Kept.refl _ _ _⟩
theorem Grow.kept {W:World}(h:Grow w1 k q v W):Kept 0 0 w1 W:=by
 obtain⟨_,_,_,_,_,h⟩:=h;exact h
theorem kt {base e size:Nat}{xs:List Value}{W W':World}(h:W.ownsRow base e size v n xs)(d:Drawn W W'):W'.ownsRow base e size v n xs:=by
 obtain⟨m,rfl⟩:=d;exact h
theorem Grow.step {W:World}{zs:List Nat}{z:Nat}
  (hown:W.ownsRow w1.heap.size 29 1 v k (zs.map (Value.float .f64))) (hl:zs.length=k) (hlt:∀z∈zs,z<18446744073709551616) (hq:∀j,j<k->fb (zs.getD j 0)=fb (q j)) (hK:Kept 0 0 w1 W)
  (hz:z<18446744073709551616) (hzq:fb z=fb (q k)) {v':Value} {w':World} {o:Obj}
  (hown':w'.ownsRow w1.heap.size 29 1 v' (k+1) (zs.map (Value.float .f64)++[Value.float .f64 z])) (hg:(W.alloc o).grownBy w' v.ownBlock):Grow w1 (k+1) q v' w':=by
 refine⟨zs++[z],by rw[List.map_append];exact hown',by simp[hl],?_,?_,?_⟩
 ·intro x hx
  rcases List.mem_append.1 hx with c|c
  ·exact hlt x c
  ·simp at c;rw[c];exact hz
 ·intro j hj
  rw[List.getD_eq_getElem?_getD,List.getElem?_append]
  by_cases c:j<zs.length
  ·rw[if_pos c,<-List.getD_eq_getElem?_getD];exact hq j (by omega)
  ·rw[if_neg c,show j-zs.length=0 by omega]
   have:j=k:=by omega
   subst this
   exact hzq
 ·refine⟨hg.os.trans hK.os,hg.tape.trans hK.tape,hg.output.trans hK.output,?_,λi hi _=>?_⟩
  ·have:=hg.size
   have h2:=hK.size
   simp at this
   omega
  ·have h2:=hK.size
   rw[hg.block i (by simp;omega) (λc=>by have:=hown.lt i c.symm;omega),Below.heap_alloc W o i (by omega)]
   exact hK.block i hi (by omega)
def KS (n:Nat)(q:Nat->Nat)(w:World)(e:Ending)(w':World):Prop:=
 ∃(a:Option Addr) (cap:Nat) (zs:List Nat),e=.returned (.slice a n cap)/\FS w' w.heap.size w'.heap.size a n zs/\(∀k,k<n->fb (zs.getD k 0)=fb (q k))/\Kept 0 0 w w'/\n<=cap
theorem Grow.done {w:World}{W:World}(h:Grow w1 n q v W)(h1:1<=n)(hk:Kept 0 0 w w1):KS n q w (.returned v) W:=by
 obtain⟨zs,⟨_,ho⟩,h2,h3,h4,h5⟩:=h
 rcases ho with⟨_,c⟩|⟨g,cap,cur,rfl,b1,b2,b3,_,b5,b6⟩
 ·omega
 ·have hs:w.heap.size<=g:=by have:=hk.size;omega
  have hg:g<W.heap.size:=by
   rcases Nat.lt_or_ge g W.heap.size with c|c
   ·exact c
   ·rw[Array.getElem?_eq_none c] at b2;cases b2
  refine⟨_,cap,zs,rfl,⟨h2,h3,.inr ⟨g,0,rfl,hs,hg,hg,λk hk'=>?_⟩⟩,h4,hk.trans h5,b3⟩
  rw[cell_of_row W g _ cur _ _ b2,Nat.zero_add,<-Array.getElem?_toList]
  have:(cur.toList.take (n*1))[k]? =(zs.map (Value.float .f64))[k]?:=by rw[b6]
  rw[List.getElem?_take_of_lt (by omega)] at this
  rw[this,List.getElem?_map,List.getElem?_eq_getElem (by omega:k<zs.length)]
  simp[List.getD_eq_getElem?_getD,List.getElem?_eq_getElem (by omega:k<zs.length)]
theorem p7 (w:World)(op len A B C:Int)(K:Nat)(a b c:Option Addr)(la lb lc ca cb cc:Nat)(hs:iA op len C la lb lc=false):
  Calls Tryz.prog 47 #[jA op len A B C K,.slice a la ca,.slice b lb cb,.slice c lc cc] w λe w'=>e=.returned (.slice none 0 0)/\Kept 0 0 w w':=by
 go_enter Tryz.func47,Tryz.ntmps47
 go_wp2_with fail
 refine(kI _ op len A B C K la lb lc).mono ?_
 rintro e w' ⟨rfl,rfl⟩
 rw[hs]
 go_wp2
 go_ret
 exact⟨rfl,(hU 0 0 w _).trans (hU 0 0 _ _)⟩
theorem so (w:World)(A B C:Int)(n K:Nat)(h1:1<=n)(hn:n<=1000)(hK:K<18446744073709551616)
  (_fa:FS w l0 h0' a la xa) (_fb:FS w l1 h1' b lb xb) (_fc:FS w l2 h2' c lc xc) (_hca:la<=ca) (hs:iA 1 (n:Int) C la lb lc=true):
  Calls Tryz.prog 47 #[jA 1 (n:Int) A B C K,.slice a la ca,.slice b lb cb,.slice c lc cc] w λe w'=>KS n (iF 1 C K xa xb xc) w e w':=by
 have HS:=hs
 obtain⟨i0,hi,hz0,hz1,hz2⟩:=info_parts lq
 clear HS
 have hW:Hid _:=(hU 0 0 w (ij 1 (n:Int) A B C K)).trans (hU 0 0 _ (ij 1 (n:Int) A B C K))
 have b0:((w.alloc (ij 1 (n:Int) A B C K)).alloc (ij 1 (n:Int) A B C K)).cell? ⟨w.heap.size,0,none⟩=some (.int .i64 1):=by simp
 have b1:((w.alloc (ij 1 (n:Int) A B C K)).alloc (ij 1 (n:Int) A B C K)).cell? ⟨w.heap.size,1,none⟩=some (.int .i64 (n:Int)):=by simp
 have b4:((w.alloc (ij 1 (n:Int) A B C K)).alloc (ij 1 (n:Int) A B C K)).cell? ⟨w.heap.size,4,none⟩=some (.int .i64 C):=by simp
 have b5:((w.alloc (ij 1 (n:Int) A B C K)).alloc (ij 1 (n:Int) A B C K)).cell? ⟨w.heap.size,5,none⟩=some (.float .f64 K):=by simp
 have bs:w.heap.size<((w.alloc (ij 1 (n:Int) A B C K)).alloc (ij 1 (n:Int) A B C K)).heap.size:=by simp;omega
 go_enter Tryz.func47,Tryz.ntmps47
 go_wp2_with fail
 refine(kI _ 1 (n:Int) A B C K la lb lc).mono ?_
 rintro e w' ⟨rfl,rfl⟩
 rw[hs]
 clear hs
 go_wp2_with fail
 have hG:=ju ((w.alloc (ij 1 (n:Int) A B C K)).alloc (ij 1 (n:Int) A B C K)) (iF 1 C K xa xb xc)
 generalize hw1:(w.alloc (ij 1 (n:Int) A B C K)).alloc (ij 1 (n:Int) A B C K)=w1 at b0 b1 b4 b5 bs hW hG ⊢
 clear hw1
 go_loopw [9,10,11,12,13,14] (λv i _ _ _ _ W=>∃k:Nat,k<=n/\i=.int .i64 k/\Grow w1 k (iF 1 C K xa xb xc) v W) (λ_ i _ _ _ _ _=>n-(intOf i).toNat)
 case atStart=>exact⟨0,Nat.zero_le _,rfl,hG⟩
 case round=>
  obtain⟨k,hk,rfl,hG2⟩:=hrel
  clear hG
  have hKW:=hG2.kept
  have d1:=il hKW bs b1
  by_cases hlt:k<n
  ·obtain⟨zs,hown,hzl,hzlt,hzq,_⟩:=hG2
   have d0:=il hKW bs b0
   have d5:=il hKW bs b5
   have HE:Hid (fb K=fb (iF 1 C K xa xb xc k)):=by show fb K=fb (iF 1 C K xa xb xc k);simp[iF]
   go_wp2_with (first|(go_at_call 73;refine(iZ _ _ (by omega) (by omega)).mono ?_;rintro e w2 ⟨rfl,rfl⟩;simp only[show iG 1=false from rfl])|(at_builtin;refine wpList_append_own _ rfl _ _ 36 rfl w1.heap.size 29 i0 (.float .f64 0) 1 8 Tryz.underlying36 hi hz0 hz1 hz2 rfl (by decide) _ _ _ rfl (hown.alloc _) ⟨wr.heap.size,0,none⟩ 1 1 [.float .f64 K] rfl rfl ?c1 ?c2 ?c3 ?c4 ?c5 ?_))
   case c1=>exact cell_one_new _ _ _
   case c2=>intro u hu;simp at hu;subst hu;rfl
   case c3=>unfold maxLen;omega
   case c4=>omega
   case c5=>have:=hKW.size;simp;omega
   intro v' w9 hown9 hg9 _
   have R:Hid _:=Grow.step hown hzl hzlt hzq hKW hK HE.out hown9 hg9
   clear hown9 hg9 hown hzl hzlt hzq hKW
   go_wp2
   go_roundw
   case rel=>exact⟨k+1,by omega,by go_num,R.out⟩
   case measure=>simp[intOf];omega
  ·obtain rfl:k=n:=by omega
   have R:Hid _:=hG2.done h1 hW.out
   clear hG2 hKW
   go_wp2
   go_ret
   exact R.out
theorem sq (w:World)(A B C:Int)(n K:Nat)(h1:1<=n)(hn:n<=1000)(_hK:K<18446744073709551616)
  (fa:FS w l0 h0' a la xa) (fb':FS w l1 h1' b lb xb) (_fc:FS w l2 h2' c lc xc) (_hca:la<=ca) (hs:iA 2 (n:Int) C la lb lc=true):
  Calls Tryz.prog 47 #[jA 2 (n:Int) A B C K,.slice a la ca,.slice b lb cb,.slice c lc cc] w λe w'=>KS n (iF 2 C K xa xb xc) w e w':=by
 have HS:=hs
 obtain⟨i0,hi,hz0,hz1,hz2⟩:=info_parts lq
 have hfit:(la<=n/\n<=la)/\(lb<=n/\n<=lb):=by simp[iA,im,cnt,iJ] at HS;omega
 obtain⟨⟨ea,ea2⟩,⟨eb,eb2⟩⟩:=hfit
 clear HS
 rcases fa.at_ with hz|⟨ga,oa,rfl,_,_,gla,kca⟩
 ·omega
 rcases fb'.at_ with hz|⟨gb,ob,rfl,_,_,glb,kcb⟩
 ·omega
 have hW:Hid _:=(hU 0 0 w (ij 2 (n:Int) A B C K)).trans (hU 0 0 _ (ij 2 (n:Int) A B C K))
 have b0:((w.alloc (ij 2 (n:Int) A B C K)).alloc (ij 2 (n:Int) A B C K)).cell? ⟨w.heap.size,0,none⟩=some (.int .i64 2):=by simp
 have b1:((w.alloc (ij 2 (n:Int) A B C K)).alloc (ij 2 (n:Int) A B C K)).cell? ⟨w.heap.size,1,none⟩=some (.int .i64 (n:Int)):=by simp
 have b4:((w.alloc (ij 2 (n:Int) A B C K)).alloc (ij 2 (n:Int) A B C K)).cell? ⟨w.heap.size,4,none⟩=some (.int .i64 C):=by simp
 have b5:((w.alloc (ij 2 (n:Int) A B C K)).alloc (ij 2 (n:Int) A B C K)).cell? ⟨w.heap.size,5,none⟩=some (.float .f64 K):=by simp
 have bs:w.heap.size<((w.alloc (ij 2 (n:Int) A B C K)).alloc (ij 2 (n:Int) A B C K)).heap.size:=by simp;omega
 go_enter Tryz.func47,Tryz.ntmps47
 go_wp2_with fail
 refine(kI _ 2 (n:Int) A B C K la lb lc).mono ?_
 rintro e w' ⟨rfl,rfl⟩
 rw[hs]
 clear hs
 go_wp2_with fail
 have hG:=ju ((w.alloc (ij 2 (n:Int) A B C K)).alloc (ij 2 (n:Int) A B C K)) (iF 2 C K xa xb xc)
 generalize hw1:(w.alloc (ij 2 (n:Int) A B C K)).alloc (ij 2 (n:Int) A B C K)=w1 at b0 b1 b4 b5 bs hW hG ⊢
 clear hw1
 go_loopw [9,10,11,12,13,14] (λv i _ _ _ _ W=>∃k:Nat,k<=n/\i=.int .i64 k/\Grow w1 k (iF 2 C K xa xb xc) v W) (λ_ i _ _ _ _ _=>n-(intOf i).toNat)
 case atStart=>exact⟨0,Nat.zero_le _,rfl,hG⟩
 case round=>
  obtain⟨k,hk,rfl,hG2⟩:=hrel
  clear hG
  have hKW:=hG2.kept
  have d1:=il hKW bs b1
  by_cases hlt:k<n
  ·obtain⟨zs,hown,hzl,hzlt,hzq,_⟩:=hG2
   have d0:=il hKW bs b0
   have d5:=il hKW bs b5
   have xca:=il hKW (Nat.lt_of_lt_of_le gla hW.out.size) ((by rw[hW.out.cell (p:=⟨ga,oa+k,none⟩) gla (by omega)];exact kca k (by omega)):w1.cell? ⟨ga,oa+k,none⟩=some (.float .f64 (xa.getD k 0)))
   have xcb:=il hKW (Nat.lt_of_lt_of_le glb hW.out.size) ((by rw[hW.out.cell (p:=⟨gb,ob+k,none⟩) glb (by omega)];exact kcb k (by omega)):w1.cell? ⟨gb,ob+k,none⟩=some (.float .f64 (xb.getD k 0)))
   have ya:Hid _:=iE fa.lt k
   have yb:Hid _:=iE fb'.lt k
   have HE:Hid (∀u,fb u=fb (mK 2 (xa.getD k 0) (xb.getD k 0) 0)->fb u=fb (iF 2 C K xa xb xc k)):=λu h=>by rw[h];simp[mK,iF]
   generalize xa.getD k 0=ua at xca ya HE
   generalize xb.getD k 0=ub at xcb yb HE
   have haa:(k:Int)<(la:Int):=by omega
   have hbb:(k:Int)<(lb:Int):=by omega
   go_wp2_with (first|(go_at_call 73;refine(iZ _ _ (by omega) (by omega)).mono ?_;rintro e w2 ⟨rfl,rfl⟩;simp only[show iG 2=true from rfl])|(go_at_call 45;refine(jE _ _ (by omega) (by omega)).mono ?_;rintro e w2 ⟨rfl,rfl⟩;simp only[show jy 2=2 from rfl]))
   refine(pu 2 _ _ _ _ ya.out yb.out (by omega) (by omega)).mono ?_
   rintro e w2 ⟨u,rfl,hu,hfu,hD⟩
   have hfu2:Hid _:=HE.out u hfu
   have hown2:=kt hown hD
   have hKW2:=hKW.trans (hD.kept 0 0)
   clear hfu
   go_wp2_with (first|(go_at_call 73;refine(iZ _ _ (by omega) (by omega)).mono ?_;rintro e w2 ⟨rfl,rfl⟩;simp only[show iG 2=true from rfl])|(at_builtin;refine wpList_append_own _ rfl _ _ 36 rfl w1.heap.size 29 i0 (.float .f64 0) 1 8 Tryz.underlying36 hi hz0 hz1 hz2 rfl (by decide) _ _ _ rfl (hown2.alloc _) ⟨w2.heap.size,0,none⟩ 1 1 [.float .f64 u] rfl rfl ?c1 ?c2 ?c3 ?c4 ?c5 ?_))
   case c1=>exact cell_one_new _ _ _
   case c2=>intro u hu;simp at hu;subst hu;rfl
   case c3=>unfold maxLen;omega
   case c4=>omega
   case c5=>have:=hKW2.size;simp;omega
   intro v' w9 hown9 hg9 _
   have R:Hid _:=Grow.step hown2 hzl hzlt hzq hKW2 hu hfu2.out hown9 hg9
   clear hown9 hg9 hown hzl hzlt hzq hKW
   go_wp2
   go_roundw
   case rel=>exact⟨k+1,by omega,by go_num,R.out⟩
   case measure=>simp[intOf];omega
  ·obtain rfl:k=n:=by omega
   have R:Hid _:=hG2.done h1 hW.out
   clear hG2 hKW
   go_wp2
   go_ret
   exact R.out
theorem sr (w:World)(A B C:Int)(n K:Nat)(h1:1<=n)(hn:n<=1000)(_hK:K<18446744073709551616)
  (fa:FS w l0 h0' a la xa) (fb':FS w l1 h1' b lb xb) (_fc:FS w l2 h2' c lc xc) (_hca:la<=ca) (hs:iA 3 (n:Int) C la lb lc=true):
  Calls Tryz.prog 47 #[jA 3 (n:Int) A B C K,.slice a la ca,.slice b lb cb,.slice c lc cc] w λe w'=>KS n (iF 3 C K xa xb xc) w e w':=by
 have HS:=hs
 obtain⟨i0,hi,hz0,hz1,hz2⟩:=info_parts lq
 have hfit:(la<=n/\n<=la)/\(lb<=n/\n<=lb):=by simp[iA,im,cnt,iJ] at HS;omega
 obtain⟨⟨ea,ea2⟩,⟨eb,eb2⟩⟩:=hfit
 clear HS
 rcases fa.at_ with hz|⟨ga,oa,rfl,_,_,gla,kca⟩
 ·omega
 rcases fb'.at_ with hz|⟨gb,ob,rfl,_,_,glb,kcb⟩
 ·omega
 have hW:Hid _:=(hU 0 0 w (ij 3 (n:Int) A B C K)).trans (hU 0 0 _ (ij 3 (n:Int) A B C K))
 have b0:((w.alloc (ij 3 (n:Int) A B C K)).alloc (ij 3 (n:Int) A B C K)).cell? ⟨w.heap.size,0,none⟩=some (.int .i64 3):=by simp
 have b1:((w.alloc (ij 3 (n:Int) A B C K)).alloc (ij 3 (n:Int) A B C K)).cell? ⟨w.heap.size,1,none⟩=some (.int .i64 (n:Int)):=by simp
 have b4:((w.alloc (ij 3 (n:Int) A B C K)).alloc (ij 3 (n:Int) A B C K)).cell? ⟨w.heap.size,4,none⟩=some (.int .i64 C):=by simp
 have b5:((w.alloc (ij 3 (n:Int) A B C K)).alloc (ij 3 (n:Int) A B C K)).cell? ⟨w.heap.size,5,none⟩=some (.float .f64 K):=by simp
 have bs:w.heap.size<((w.alloc (ij 3 (n:Int) A B C K)).alloc (ij 3 (n:Int) A B C K)).heap.size:=by simp;omega
 go_enter Tryz.func47,Tryz.ntmps47
 go_wp2_with fail
 refine(kI _ 3 (n:Int) A B C K la lb lc).mono ?_
 rintro e w' ⟨rfl,rfl⟩
 rw[hs]
 clear hs
 go_wp2_with fail
 have hG:=ju ((w.alloc (ij 3 (n:Int) A B C K)).alloc (ij 3 (n:Int) A B C K)) (iF 3 C K xa xb xc)
 generalize hw1:(w.alloc (ij 3 (n:Int) A B C K)).alloc (ij 3 (n:Int) A B C K)=w1 at b0 b1 b4 b5 bs hW hG ⊢
 clear hw1
 go_loopw [9,10,11,12,13,14] (λv i _ _ _ _ W=>∃k:Nat,k<=n/\i=.int .i64 k/\Grow w1 k (iF 3 C K xa xb xc) v W) (λ_ i _ _ _ _ _=>n-(intOf i).toNat)
 case atStart=>exact⟨0,Nat.zero_le _,rfl,hG⟩
 case round=>
  obtain⟨k,hk,rfl,hG2⟩:=hrel
  clear hG
  have hKW:=hG2.kept
  have d1:=il hKW bs b1
  by_cases hlt:k<n
  ·obtain⟨zs,hown,hzl,hzlt,hzq,_⟩:=hG2
   have d0:=il hKW bs b0
   have d5:=il hKW bs b5
   have xca:=il hKW (Nat.lt_of_lt_of_le gla hW.out.size) ((by rw[hW.out.cell (p:=⟨ga,oa+k,none⟩) gla (by omega)];exact kca k (by omega)):w1.cell? ⟨ga,oa+k,none⟩=some (.float .f64 (xa.getD k 0)))
   have xcb:=il hKW (Nat.lt_of_lt_of_le glb hW.out.size) ((by rw[hW.out.cell (p:=⟨gb,ob+k,none⟩) glb (by omega)];exact kcb k (by omega)):w1.cell? ⟨gb,ob+k,none⟩=some (.float .f64 (xb.getD k 0)))
   have ya:Hid _:=iE fa.lt k
   have yb:Hid _:=iE fb'.lt k
   have HE:Hid (∀u,fb u=fb (mK 3 (xa.getD k 0) (xb.getD k 0) 0)->fb u=fb (iF 3 C K xa xb xc k)):=λu h=>by rw[h];simp[mK,iF]
   generalize xa.getD k 0=ua at xca ya HE
   generalize xb.getD k 0=ub at xcb yb HE
   have haa:(k:Int)<(la:Int):=by omega
   have hbb:(k:Int)<(lb:Int):=by omega
   go_wp2_with (first|(go_at_call 73;refine(iZ _ _ (by omega) (by omega)).mono ?_;rintro e w2 ⟨rfl,rfl⟩;simp only[show iG 3=true from rfl])|(go_at_call 45;refine(jE _ _ (by omega) (by omega)).mono ?_;rintro e w2 ⟨rfl,rfl⟩;simp only[show jy 3=2 from rfl]))
   refine(pu 3 _ _ _ _ ya.out yb.out (by omega) (by omega)).mono ?_
   rintro e w2 ⟨u,rfl,hu,hfu,hD⟩
   have hfu2:Hid _:=HE.out u hfu
   have hown2:=kt hown hD
   have hKW2:=hKW.trans (hD.kept 0 0)
   clear hfu
   go_wp2_with (first|(go_at_call 73;refine(iZ _ _ (by omega) (by omega)).mono ?_;rintro e w2 ⟨rfl,rfl⟩;simp only[show iG 3=true from rfl])|(at_builtin;refine wpList_append_own _ rfl _ _ 36 rfl w1.heap.size 29 i0 (.float .f64 0) 1 8 Tryz.underlying36 hi hz0 hz1 hz2 rfl (by decide) _ _ _ rfl (hown2.alloc _) ⟨w2.heap.size,0,none⟩ 1 1 [.float .f64 u] rfl rfl ?c1 ?c2 ?c3 ?c4 ?c5 ?_))
   case c1=>exact cell_one_new _ _ _
   case c2=>intro u hu;simp at hu;subst hu;rfl
   case c3=>unfold maxLen;omega
   case c4=>omega
   case c5=>have:=hKW2.size;simp;omega
   intro v' w9 hown9 hg9 _
   have R:Hid _:=Grow.step hown2 hzl hzlt hzq hKW2 hu hfu2.out hown9 hg9
   clear hown9 hg9 hown hzl hzlt hzq hKW
   go_wp2
   go_roundw
   case rel=>exact⟨k+1,by omega,by go_num,R.out⟩
   case measure=>simp[intOf];omega
  ·obtain rfl:k=n:=by omega
   have R:Hid _:=hG2.done h1 hW.out
   clear hG2 hKW
   go_wp2
   go_ret
   exact R.out
theorem su (w:World)(A B C:Int)(n K:Nat)(h1:1<=n)(hn:n<=1000)(_hK:K<18446744073709551616)
  (fa:FS w l0 h0' a la xa) (fb':FS w l1 h1' b lb xb) (_fc:FS w l2 h2' c lc xc) (_hca:la<=ca) (hs:iA 4 (n:Int) C la lb lc=true):
  Calls Tryz.prog 47 #[jA 4 (n:Int) A B C K,.slice a la ca,.slice b lb cb,.slice c lc cc] w λe w'=>KS n (iF 4 C K xa xb xc) w e w':=by
 have HS:=hs
 obtain⟨i0,hi,hz0,hz1,hz2⟩:=info_parts lq
 have hfit:(la<=n/\n<=la)/\(lb<=n/\n<=lb):=by simp[iA,im,cnt,iJ] at HS;omega
 obtain⟨⟨ea,ea2⟩,⟨eb,eb2⟩⟩:=hfit
 clear HS
 rcases fa.at_ with hz|⟨ga,oa,rfl,_,_,gla,kca⟩
 ·omega
 rcases fb'.at_ with hz|⟨gb,ob,rfl,_,_,glb,kcb⟩
 ·omega
 have hW:Hid _:=(hU 0 0 w (ij 4 (n:Int) A B C K)).trans (hU 0 0 _ (ij 4 (n:Int) A B C K))
 have b0:((w.alloc (ij 4 (n:Int) A B C K)).alloc (ij 4 (n:Int) A B C K)).cell? ⟨w.heap.size,0,none⟩=some (.int .i64 4):=by simp
 have b1:((w.alloc (ij 4 (n:Int) A B C K)).alloc (ij 4 (n:Int) A B C K)).cell? ⟨w.heap.size,1,none⟩=some (.int .i64 (n:Int)):=by simp
 have b4:((w.alloc (ij 4 (n:Int) A B C K)).alloc (ij 4 (n:Int) A B C K)).cell? ⟨w.heap.size,4,none⟩=some (.int .i64 C):=by simp
 have b5:((w.alloc (ij 4 (n:Int) A B C K)).alloc (ij 4 (n:Int) A B C K)).cell? ⟨w.heap.size,5,none⟩=some (.float .f64 K):=by simp
 have bs:w.heap.size<((w.alloc (ij 4 (n:Int) A B C K)).alloc (ij 4 (n:Int) A B C K)).heap.size:=by simp;omega
 go_enter Tryz.func47,Tryz.ntmps47
 go_wp2_with fail
 refine(kI _ 4 (n:Int) A B C K la lb lc).mono ?_
 rintro e w' ⟨rfl,rfl⟩
 rw[hs]
 clear hs
 go_wp2_with fail
 have hG:=ju ((w.alloc (ij 4 (n:Int) A B C K)).alloc (ij 4 (n:Int) A B C K)) (iF 4 C K xa xb xc)
 generalize hw1:(w.alloc (ij 4 (n:Int) A B C K)).alloc (ij 4 (n:Int) A B C K)=w1 at b0 b1 b4 b5 bs hW hG ⊢
 clear hw1
 go_loopw [9,10,11,12,13,14] (λv i _ _ _ _ W=>∃k:Nat,k<=n/\i=.int .i64 k/\Grow w1 k (iF 4 C K xa xb xc) v W) (λ_ i _ _ _ _ _=>n-(intOf i).toNat)
 case atStart=>exact⟨0,Nat.zero_le _,rfl,hG⟩
 case round=>
  obtain⟨k,hk,rfl,hG2⟩:=hrel
  clear hG
  have hKW:=hG2.kept
  have d1:=il hKW bs b1
  by_cases hlt:k<n
  ·obtain⟨zs,hown,hzl,hzlt,hzq,_⟩:=hG2
   have d0:=il hKW bs b0
   have d5:=il hKW bs b5
   have xca:=il hKW (Nat.lt_of_lt_of_le gla hW.out.size) ((by rw[hW.out.cell (p:=⟨ga,oa+k,none⟩) gla (by omega)];exact kca k (by omega)):w1.cell? ⟨ga,oa+k,none⟩=some (.float .f64 (xa.getD k 0)))
   have xcb:=il hKW (Nat.lt_of_lt_of_le glb hW.out.size) ((by rw[hW.out.cell (p:=⟨gb,ob+k,none⟩) glb (by omega)];exact kcb k (by omega)):w1.cell? ⟨gb,ob+k,none⟩=some (.float .f64 (xb.getD k 0)))
   have ya:Hid _:=iE fa.lt k
   have yb:Hid _:=iE fb'.lt k
   have HE:Hid (∀u,fb u=fb (mK 4 (xa.getD k 0) (xb.getD k 0) 0)->fb u=fb (iF 4 C K xa xb xc k)):=λu h=>by rw[h];simp[mK,iF]
   generalize xa.getD k 0=ua at xca ya HE
   generalize xb.getD k 0=ub at xcb yb HE
   have haa:(k:Int)<(la:Int):=by omega
   have hbb:(k:Int)<(lb:Int):=by omega
   go_wp2_with (first|(go_at_call 73;refine(iZ _ _ (by omega) (by omega)).mono ?_;rintro e w2 ⟨rfl,rfl⟩;simp only[show iG 4=true from rfl])|(go_at_call 45;refine(jE _ _ (by omega) (by omega)).mono ?_;rintro e w2 ⟨rfl,rfl⟩;simp only[show jy 4=2 from rfl]))
   refine(pu 4 _ _ _ _ ya.out yb.out (by omega) (by omega)).mono ?_
   rintro e w2 ⟨u,rfl,hu,hfu,hD⟩
   have hfu2:Hid _:=HE.out u hfu
   have hown2:=kt hown hD
   have hKW2:=hKW.trans (hD.kept 0 0)
   clear hfu
   go_wp2_with (first|(go_at_call 73;refine(iZ _ _ (by omega) (by omega)).mono ?_;rintro e w2 ⟨rfl,rfl⟩;simp only[show iG 4=true from rfl])|(at_builtin;refine wpList_append_own _ rfl _ _ 36 rfl w1.heap.size 29 i0 (.float .f64 0) 1 8 Tryz.underlying36 hi hz0 hz1 hz2 rfl (by decide) _ _ _ rfl (hown2.alloc _) ⟨w2.heap.size,0,none⟩ 1 1 [.float .f64 u] rfl rfl ?c1 ?c2 ?c3 ?c4 ?c5 ?_))
   case c1=>exact cell_one_new _ _ _
   case c2=>intro u hu;simp at hu;subst hu;rfl
   case c3=>unfold maxLen;omega
   case c4=>omega
   case c5=>have:=hKW2.size;simp;omega
   intro v' w9 hown9 hg9 _
   have R:Hid _:=Grow.step hown2 hzl hzlt hzq hKW2 hu hfu2.out hown9 hg9
   clear hown9 hg9 hown hzl hzlt hzq hKW
   go_wp2
   go_roundw
   case rel=>exact⟨k+1,by omega,by go_num,R.out⟩
   case measure=>simp[intOf];omega
  ·obtain rfl:k=n:=by omega
   have R:Hid _:=hG2.done h1 hW.out
   clear hG2 hKW
   go_wp2
   go_ret
   exact R.out
theorem sw (w:World)(A B C:Int)(n K:Nat)(h1:1<=n)(hn:n<=1000)(_hK:K<18446744073709551616)
  (fa:FS w l0 h0' a la xa) (fb':FS w l1 h1' b lb xb) (_fc:FS w l2 h2' c lc xc) (_hca:la<=ca) (hs:iA 5 (n:Int) C la lb lc=true):
  Calls Tryz.prog 47 #[jA 5 (n:Int) A B C K,.slice a la ca,.slice b lb cb,.slice c lc cc] w λe w'=>KS n (iF 5 C K xa xb xc) w e w':=by
 have HS:=hs
 obtain⟨i0,hi,hz0,hz1,hz2⟩:=info_parts lq
 have hfit:(la<=n/\n<=la)/\(lb<=n/\n<=lb):=by simp[iA,im,cnt,iJ] at HS;omega
 obtain⟨⟨ea,ea2⟩,⟨eb,eb2⟩⟩:=hfit
 clear HS
 rcases fa.at_ with hz|⟨ga,oa,rfl,_,_,gla,kca⟩
 ·omega
 rcases fb'.at_ with hz|⟨gb,ob,rfl,_,_,glb,kcb⟩
 ·omega
 have hW:Hid _:=(hU 0 0 w (ij 5 (n:Int) A B C K)).trans (hU 0 0 _ (ij 5 (n:Int) A B C K))
 have b0:((w.alloc (ij 5 (n:Int) A B C K)).alloc (ij 5 (n:Int) A B C K)).cell? ⟨w.heap.size,0,none⟩=some (.int .i64 5):=by simp
 have b1:((w.alloc (ij 5 (n:Int) A B C K)).alloc (ij 5 (n:Int) A B C K)).cell? ⟨w.heap.size,1,none⟩=some (.int .i64 (n:Int)):=by simp
 have b4:((w.alloc (ij 5 (n:Int) A B C K)).alloc (ij 5 (n:Int) A B C K)).cell? ⟨w.heap.size,4,none⟩=some (.int .i64 C):=by simp
 have b5:((w.alloc (ij 5 (n:Int) A B C K)).alloc (ij 5 (n:Int) A B C K)).cell? ⟨w.heap.size,5,none⟩=some (.float .f64 K):=by simp
 have bs:w.heap.size<((w.alloc (ij 5 (n:Int) A B C K)).alloc (ij 5 (n:Int) A B C K)).heap.size:=by simp;omega
 go_enter Tryz.func47,Tryz.ntmps47
 go_wp2_with fail
 refine(kI _ 5 (n:Int) A B C K la lb lc).mono ?_
 rintro e w' ⟨rfl,rfl⟩
 rw[hs]
 clear hs
 go_wp2_with fail
 have hG:=ju ((w.alloc (ij 5 (n:Int) A B C K)).alloc (ij 5 (n:Int) A B C K)) (iF 5 C K xa xb xc)
 generalize hw1:(w.alloc (ij 5 (n:Int) A B C K)).alloc (ij 5 (n:Int) A B C K)=w1 at b0 b1 b4 b5 bs hW hG ⊢
 clear hw1
 go_loopw [9,10,11,12,13,14] (λv i _ _ _ _ W=>∃k:Nat,k<=n/\i=.int .i64 k/\Grow w1 k (iF 5 C K xa xb xc) v W) (λ_ i _ _ _ _ _=>n-(intOf i).toNat)
 case atStart=>exact⟨0,Nat.zero_le _,rfl,hG⟩
 case round=>
  obtain⟨k,hk,rfl,hG2⟩:=hrel
  clear hG
  have hKW:=hG2.kept
  have d1:=il hKW bs b1
  by_cases hlt:k<n
  ·obtain⟨zs,hown,hzl,hzlt,hzq,_⟩:=hG2
   have d0:=il hKW bs b0
   have d5:=il hKW bs b5
   have xca:=il hKW (Nat.lt_of_lt_of_le gla hW.out.size) ((by rw[hW.out.cell (p:=⟨ga,oa+k,none⟩) gla (by omega)];exact kca k (by omega)):w1.cell? ⟨ga,oa+k,none⟩=some (.float .f64 (xa.getD k 0)))
   have xcb:=il hKW (Nat.lt_of_lt_of_le glb hW.out.size) ((by rw[hW.out.cell (p:=⟨gb,ob+k,none⟩) glb (by omega)];exact kcb k (by omega)):w1.cell? ⟨gb,ob+k,none⟩=some (.float .f64 (xb.getD k 0)))
   have ya:Hid _:=iE fa.lt k
   have yb:Hid _:=iE fb'.lt k
   have HE:Hid (∀u,fb u=fb (mK 5 (xa.getD k 0) (xb.getD k 0) 0)->fb u=fb (iF 5 C K xa xb xc k)):=λu h=>by rw[h];simp[mK,iF]
   generalize xa.getD k 0=ua at xca ya HE
   generalize xb.getD k 0=ub at xcb yb HE
   have haa:(k:Int)<(la:Int):=by omega
   have hbb:(k:Int)<(lb:Int):=by omega
   go_wp2_with (first|(go_at_call 73;refine(iZ _ _ (by omega) (by omega)).mono ?_;rintro e w2 ⟨rfl,rfl⟩;simp only[show iG 5=true from rfl])|(go_at_call 45;refine(jE _ _ (by omega) (by omega)).mono ?_;rintro e w2 ⟨rfl,rfl⟩;simp only[show jy 5=2 from rfl]))
   refine(pu 5 _ _ _ _ ya.out yb.out (by omega) (by omega)).mono ?_
   rintro e w2 ⟨u,rfl,hu,hfu,hD⟩
   have hfu2:Hid _:=HE.out u hfu
   have hown2:=kt hown hD
   have hKW2:=hKW.trans (hD.kept 0 0)
   clear hfu
   go_wp2_with (first|(go_at_call 73;refine(iZ _ _ (by omega) (by omega)).mono ?_;rintro e w2 ⟨rfl,rfl⟩;simp only[show iG 5=true from rfl])|(at_builtin;refine wpList_append_own _ rfl _ _ 36 rfl w1.heap.size 29 i0 (.float .f64 0) 1 8 Tryz.underlying36 hi hz0 hz1 hz2 rfl (by decide) _ _ _ rfl (hown2.alloc _) ⟨w2.heap.size,0,none⟩ 1 1 [.float .f64 u] rfl rfl ?c1 ?c2 ?c3 ?c4 ?c5 ?_))
   case c1=>exact cell_one_new _ _ _
   case c2=>intro u hu;simp at hu;subst hu;rfl
   case c3=>unfold maxLen;omega
   case c4=>omega
   case c5=>have:=hKW2.size;simp;omega
   intro v' w9 hown9 hg9 _
   have R:Hid _:=Grow.step hown2 hzl hzlt hzq hKW2 hu hfu2.out hown9 hg9
   clear hown9 hg9 hown hzl hzlt hzq hKW
   go_wp2
   go_roundw
   case rel=>exact⟨k+1,by omega,by go_num,R.out⟩
   case measure=>simp[intOf];omega
  ·obtain rfl:k=n:=by omega
   have R:Hid _:=hG2.done h1 hW.out
   clear hG2 hKW
   go_wp2
   go_ret
   exact R.out
theorem sx (w:World)(A B C:Int)(n K:Nat)(h1:1<=n)(hn:n<=1000)(_hK:K<18446744073709551616)
  (fa:FS w l0 h0' a la xa) (_fb:FS w l1 h1' b lb xb) (_fc:FS w l2 h2' c lc xc) (_hca:la<=ca) (hs:iA 6 (n:Int) C la lb lc=true):
  Calls Tryz.prog 47 #[jA 6 (n:Int) A B C K,.slice a la ca,.slice b lb cb,.slice c lc cc] w λe w'=>KS n (iF 6 C K xa xb xc) w e w':=by
 have HS:=hs
 obtain⟨i0,hi,hz0,hz1,hz2⟩:=info_parts lq
 have hfit:(la<=n/\n<=la):=by simp[iA,im,cnt,iJ] at HS;omega
 obtain⟨ea,ea2⟩:=hfit
 clear HS
 rcases fa.at_ with hz|⟨ga,oa,rfl,_,_,gla,kca⟩
 ·omega
 have hW:Hid _:=(hU 0 0 w (ij 6 (n:Int) A B C K)).trans (hU 0 0 _ (ij 6 (n:Int) A B C K))
 have b0:((w.alloc (ij 6 (n:Int) A B C K)).alloc (ij 6 (n:Int) A B C K)).cell? ⟨w.heap.size,0,none⟩=some (.int .i64 6):=by simp
 have b1:((w.alloc (ij 6 (n:Int) A B C K)).alloc (ij 6 (n:Int) A B C K)).cell? ⟨w.heap.size,1,none⟩=some (.int .i64 (n:Int)):=by simp
 have b4:((w.alloc (ij 6 (n:Int) A B C K)).alloc (ij 6 (n:Int) A B C K)).cell? ⟨w.heap.size,4,none⟩=some (.int .i64 C):=by simp
 have b5:((w.alloc (ij 6 (n:Int) A B C K)).alloc (ij 6 (n:Int) A B C K)).cell? ⟨w.heap.size,5,none⟩=some (.float .f64 K):=by simp
 have bs:w.heap.size<((w.alloc (ij 6 (n:Int) A B C K)).alloc (ij 6 (n:Int) A B C K)).heap.size:=by simp;omega
 go_enter Tryz.func47,Tryz.ntmps47
 go_wp2_with fail
 refine(kI _ 6 (n:Int) A B C K la lb lc).mono ?_
 rintro e w' ⟨rfl,rfl⟩
 rw[hs]
 clear hs
 go_wp2_with fail
 have hG:=ju ((w.alloc (ij 6 (n:Int) A B C K)).alloc (ij 6 (n:Int) A B C K)) (iF 6 C K xa xb xc)
 generalize hw1:(w.alloc (ij 6 (n:Int) A B C K)).alloc (ij 6 (n:Int) A B C K)=w1 at b0 b1 b4 b5 bs hW hG ⊢
 clear hw1
 go_loopw [9,10,11,12,13,14] (λv i _ _ _ _ W=>∃k:Nat,k<=n/\i=.int .i64 k/\Grow w1 k (iF 6 C K xa xb xc) v W) (λ_ i _ _ _ _ _=>n-(intOf i).toNat)
 case atStart=>exact⟨0,Nat.zero_le _,rfl,hG⟩
 case round=>
  obtain⟨k,hk,rfl,hG2⟩:=hrel
  clear hG
  have hKW:=hG2.kept
  have d1:=il hKW bs b1
  by_cases hlt:k<n
  ·obtain⟨zs,hown,hzl,hzlt,hzq,_⟩:=hG2
   have d0:=il hKW bs b0
   have d5:=il hKW bs b5
   have xca:=il hKW (Nat.lt_of_lt_of_le gla hW.out.size) ((by rw[hW.out.cell (p:=⟨ga,oa+k,none⟩) gla (by omega)];exact kca k (by omega)):w1.cell? ⟨ga,oa+k,none⟩=some (.float .f64 (xa.getD k 0)))
   have ya:Hid _:=iE fa.lt k
   have HE:Hid (∀u,fb u=fb (mK 6 (xa.getD k 0) 0 0)->fb u=fb (iF 6 C K xa xb xc k)):=λu h=>by rw[h];simp[mK,iF]
   generalize xa.getD k 0=ua at xca ya HE
   have haa:(k:Int)<(la:Int):=by omega
   go_wp2_with (first|(go_at_call 73;refine(iZ _ _ (by omega) (by omega)).mono ?_;rintro e w2 ⟨rfl,rfl⟩;simp only[show iG 6=true from rfl])|(go_at_call 45;refine(jE _ _ (by omega) (by omega)).mono ?_;rintro e w2 ⟨rfl,rfl⟩;simp only[show jy 6=1 from rfl]))
   refine(pu 6 _ _ _ _ ya.out (by omega) (by omega) (by omega)).mono ?_
   rintro e w2 ⟨u,rfl,hu,hfu,hD⟩
   have hfu2:Hid _:=HE.out u hfu
   have hown2:=kt hown hD
   have hKW2:=hKW.trans (hD.kept 0 0)
   clear hfu
   go_wp2_with (first|(go_at_call 73;refine(iZ _ _ (by omega) (by omega)).mono ?_;rintro e w2 ⟨rfl,rfl⟩;simp only[show iG 6=true from rfl])|(at_builtin;refine wpList_append_own _ rfl _ _ 36 rfl w1.heap.size 29 i0 (.float .f64 0) 1 8 Tryz.underlying36 hi hz0 hz1 hz2 rfl (by decide) _ _ _ rfl (hown2.alloc _) ⟨w2.heap.size,0,none⟩ 1 1 [.float .f64 u] rfl rfl ?c1 ?c2 ?c3 ?c4 ?c5 ?_))
   case c1=>exact cell_one_new _ _ _
   case c2=>intro u hu;simp at hu;subst hu;rfl
   case c3=>unfold maxLen;omega
   case c4=>omega
   case c5=>have:=hKW2.size;simp;omega
   intro v' w9 hown9 hg9 _
   have R:Hid _:=Grow.step hown2 hzl hzlt hzq hKW2 hu hfu2.out hown9 hg9
   clear hown9 hg9 hown hzl hzlt hzq hKW
   go_wp2
   go_roundw
   case rel=>exact⟨k+1,by omega,by go_num,R.out⟩
   case measure=>simp[intOf];omega
  ·obtain rfl:k=n:=by omega
   have R:Hid _:=hG2.done h1 hW.out
   clear hG2 hKW
   go_wp2
   go_ret
   exact R.out
theorem sy (w:World)(A B C:Int)(n K:Nat)(h1:1<=n)(hn:n<=1000)(_hK:K<18446744073709551616)
  (fa:FS w l0 h0' a la xa) (fb':FS w l1 h1' b lb xb) (_fc:FS w l2 h2' c lc xc) (_hca:la<=ca) (hs:iA 7 (n:Int) C la lb lc=true):
  Calls Tryz.prog 47 #[jA 7 (n:Int) A B C K,.slice a la ca,.slice b lb cb,.slice c lc cc] w λe w'=>KS n (iF 7 C K xa xb xc) w e w':=by
 have HS:=hs
 obtain⟨i0,hi,hz0,hz1,hz2⟩:=info_parts lq
 have hfit:(la<=n/\n<=la)/\(lb<=n/\n<=lb):=by simp[iA,im,cnt,iJ] at HS;omega
 obtain⟨⟨ea,ea2⟩,⟨eb,eb2⟩⟩:=hfit
 clear HS
 rcases fa.at_ with hz|⟨ga,oa,rfl,_,_,gla,kca⟩
 ·omega
 rcases fb'.at_ with hz|⟨gb,ob,rfl,_,_,glb,kcb⟩
 ·omega
 have hW:Hid _:=(hU 0 0 w (ij 7 (n:Int) A B C K)).trans (hU 0 0 _ (ij 7 (n:Int) A B C K))
 have b0:((w.alloc (ij 7 (n:Int) A B C K)).alloc (ij 7 (n:Int) A B C K)).cell? ⟨w.heap.size,0,none⟩=some (.int .i64 7):=by simp
 have b1:((w.alloc (ij 7 (n:Int) A B C K)).alloc (ij 7 (n:Int) A B C K)).cell? ⟨w.heap.size,1,none⟩=some (.int .i64 (n:Int)):=by simp
 have b4:((w.alloc (ij 7 (n:Int) A B C K)).alloc (ij 7 (n:Int) A B C K)).cell? ⟨w.heap.size,4,none⟩=some (.int .i64 C):=by simp
 have b5:((w.alloc (ij 7 (n:Int) A B C K)).alloc (ij 7 (n:Int) A B C K)).cell? ⟨w.heap.size,5,none⟩=some (.float .f64 K):=by simp
 have bs:w.heap.size<((w.alloc (ij 7 (n:Int) A B C K)).alloc (ij 7 (n:Int) A B C K)).heap.size:=by simp;omega
 go_enter Tryz.func47,Tryz.ntmps47
 go_wp2_with fail
 refine(kI _ 7 (n:Int) A B C K la lb lc).mono ?_
 rintro e w' ⟨rfl,rfl⟩
 rw[hs]
 clear hs
 go_wp2_with fail
 have hG:=ju ((w.alloc (ij 7 (n:Int) A B C K)).alloc (ij 7 (n:Int) A B C K)) (iF 7 C K xa xb xc)
 generalize hw1:(w.alloc (ij 7 (n:Int) A B C K)).alloc (ij 7 (n:Int) A B C K)=w1 at b0 b1 b4 b5 bs hW hG ⊢
 clear hw1
 go_loopw [9,10,11,12,13,14] (λv i _ _ _ _ W=>∃k:Nat,k<=n/\i=.int .i64 k/\Grow w1 k (iF 7 C K xa xb xc) v W) (λ_ i _ _ _ _ _=>n-(intOf i).toNat)
 case atStart=>exact⟨0,Nat.zero_le _,rfl,hG⟩
 case round=>
  obtain⟨k,hk,rfl,hG2⟩:=hrel
  clear hG
  have hKW:=hG2.kept
  have d1:=il hKW bs b1
  by_cases hlt:k<n
  ·obtain⟨zs,hown,hzl,hzlt,hzq,_⟩:=hG2
   have d0:=il hKW bs b0
   have d5:=il hKW bs b5
   have xca:=il hKW (Nat.lt_of_lt_of_le gla hW.out.size) ((by rw[hW.out.cell (p:=⟨ga,oa+k,none⟩) gla (by omega)];exact kca k (by omega)):w1.cell? ⟨ga,oa+k,none⟩=some (.float .f64 (xa.getD k 0)))
   have xcb:=il hKW (Nat.lt_of_lt_of_le glb hW.out.size) ((by rw[hW.out.cell (p:=⟨gb,ob+k,none⟩) glb (by omega)];exact kcb k (by omega)):w1.cell? ⟨gb,ob+k,none⟩=some (.float .f64 (xb.getD k 0)))
   have ya:Hid _:=iE fa.lt k
   have yb:Hid _:=iE fb'.lt k
   have HE:Hid (∀u,fb u=fb (mK 7 (xa.getD k 0) (xb.getD k 0) 0)->fb u=fb (iF 7 C K xa xb xc k)):=λu h=>by rw[h];simp[mK,iF]
   generalize xa.getD k 0=ua at xca ya HE
   generalize xb.getD k 0=ub at xcb yb HE
   have haa:(k:Int)<(la:Int):=by omega
   have hbb:(k:Int)<(lb:Int):=by omega
   go_wp2_with (first|(go_at_call 73;refine(iZ _ _ (by omega) (by omega)).mono ?_;rintro e w2 ⟨rfl,rfl⟩;simp only[show iG 7=true from rfl])|(go_at_call 45;refine(jE _ _ (by omega) (by omega)).mono ?_;rintro e w2 ⟨rfl,rfl⟩;simp only[show jy 7=2 from rfl]))
   refine(pu 7 _ _ _ _ ya.out yb.out (by omega) (by omega)).mono ?_
   rintro e w2 ⟨u,rfl,hu,hfu,hD⟩
   have hfu2:Hid _:=HE.out u hfu
   have hown2:=kt hown hD
   have hKW2:=hKW.trans (hD.kept 0 0)
   clear hfu
   go_wp2_with (first|(go_at_call 73;refine(iZ _ _ (by omega) (by omega)).mono ?_;rintro e w2 ⟨rfl,rfl⟩;simp only[show iG 7=true from rfl])|(at_builtin;refine wpList_append_own _ rfl _ _ 36 rfl w1.heap.size 29 i0 (.float .f64 0) 1 8 Tryz.underlying36 hi hz0 hz1 hz2 rfl (by decide) _ _ _ rfl (hown2.alloc _) ⟨w2.heap.size,0,none⟩ 1 1 [.float .f64 u] rfl rfl ?c1 ?c2 ?c3 ?c4 ?c5 ?_))
   case c1=>exact cell_one_new _ _ _
   case c2=>intro u hu;simp at hu;subst hu;rfl
   case c3=>unfold maxLen;omega
   case c4=>omega
   case c5=>have:=hKW2.size;simp;omega
   intro v' w9 hown9 hg9 _
   have R:Hid _:=Grow.step hown2 hzl hzlt hzq hKW2 hu hfu2.out hown9 hg9
   clear hown9 hg9 hown hzl hzlt hzq hKW
   go_wp2
   go_roundw
   case rel=>exact⟨k+1,by omega,by go_num,R.out⟩
   case measure=>simp[intOf];omega
  ·obtain rfl:k=n:=by omega
   have R:Hid _:=hG2.done h1 hW.out
   clear hG2 hKW
   go_wp2
   go_ret
   exact R.out
theorem sA (w:World)(A B C:Int)(n K:Nat)(h1:1<=n)(hn:n<=1000)(_hK:K<18446744073709551616)
  (fa:FS w l0 h0' a la xa) (fb':FS w l1 h1' b lb xb) (fc:FS w l2 h2' c lc xc) (_hca:la<=ca) (hs:iA 8 (n:Int) C la lb lc=true):
  Calls Tryz.prog 47 #[jA 8 (n:Int) A B C K,.slice a la ca,.slice b lb cb,.slice c lc cc] w λe w'=>KS n (iF 8 C K xa xb xc) w e w':=by
 have HS:=hs
 obtain⟨i0,hi,hz0,hz1,hz2⟩:=info_parts lq
 have hfit:(la<=n/\n<=la)/\(lb<=n/\n<=lb)/\(lc<=n/\n<=lc):=by simp[iA,im,cnt,iJ] at HS;omega
 obtain⟨⟨ea,ea2⟩,⟨eb,eb2⟩,⟨ec,ec2⟩⟩:=hfit
 clear HS
 rcases fa.at_ with hz|⟨ga,oa,rfl,_,_,gla,kca⟩
 ·omega
 rcases fb'.at_ with hz|⟨gb,ob,rfl,_,_,glb,kcb⟩
 ·omega
 rcases fc.at_ with hz|⟨gc,oc,rfl,_,_,glc,kcc⟩
 ·omega
 have hW:Hid _:=(hU 0 0 w (ij 8 (n:Int) A B C K)).trans (hU 0 0 _ (ij 8 (n:Int) A B C K))
 have b0:((w.alloc (ij 8 (n:Int) A B C K)).alloc (ij 8 (n:Int) A B C K)).cell? ⟨w.heap.size,0,none⟩=some (.int .i64 8):=by simp
 have b1:((w.alloc (ij 8 (n:Int) A B C K)).alloc (ij 8 (n:Int) A B C K)).cell? ⟨w.heap.size,1,none⟩=some (.int .i64 (n:Int)):=by simp
 have b4:((w.alloc (ij 8 (n:Int) A B C K)).alloc (ij 8 (n:Int) A B C K)).cell? ⟨w.heap.size,4,none⟩=some (.int .i64 C):=by simp
 have b5:((w.alloc (ij 8 (n:Int) A B C K)).alloc (ij 8 (n:Int) A B C K)).cell? ⟨w.heap.size,5,none⟩=some (.float .f64 K):=by simp
 have bs:w.heap.size<((w.alloc (ij 8 (n:Int) A B C K)).alloc (ij 8 (n:Int) A B C K)).heap.size:=by simp;omega
 go_enter Tryz.func47,Tryz.ntmps47
 go_wp2_with fail
 refine(kI _ 8 (n:Int) A B C K la lb lc).mono ?_
 rintro e w' ⟨rfl,rfl⟩
 rw[hs]
 clear hs
 go_wp2_with fail
 have hG:=ju ((w.alloc (ij 8 (n:Int) A B C K)).alloc (ij 8 (n:Int) A B C K)) (iF 8 C K xa xb xc)
 generalize hw1:(w.alloc (ij 8 (n:Int) A B C K)).alloc (ij 8 (n:Int) A B C K)=w1 at b0 b1 b4 b5 bs hW hG ⊢
 clear hw1
 go_loopw [9,10,11,12,13,14] (λv i _ _ _ _ W=>∃k:Nat,k<=n/\i=.int .i64 k/\Grow w1 k (iF 8 C K xa xb xc) v W) (λ_ i _ _ _ _ _=>n-(intOf i).toNat)
 case atStart=>exact⟨0,Nat.zero_le _,rfl,hG⟩
 case round=>
  obtain⟨k,hk,rfl,hG2⟩:=hrel
  clear hG
  have hKW:=hG2.kept
  have d1:=il hKW bs b1
  by_cases hlt:k<n
  ·obtain⟨zs,hown,hzl,hzlt,hzq,_⟩:=hG2
   have d0:=il hKW bs b0
   have d5:=il hKW bs b5
   have xca:=il hKW (Nat.lt_of_lt_of_le gla hW.out.size) ((by rw[hW.out.cell (p:=⟨ga,oa+k,none⟩) gla (by omega)];exact kca k (by omega)):w1.cell? ⟨ga,oa+k,none⟩=some (.float .f64 (xa.getD k 0)))
   have xcb:=il hKW (Nat.lt_of_lt_of_le glb hW.out.size) ((by rw[hW.out.cell (p:=⟨gb,ob+k,none⟩) glb (by omega)];exact kcb k (by omega)):w1.cell? ⟨gb,ob+k,none⟩=some (.float .f64 (xb.getD k 0)))
   have xcc:=il hKW (Nat.lt_of_lt_of_le glc hW.out.size) ((by rw[hW.out.cell (p:=⟨gc,oc+k,none⟩) glc (by omega)];exact kcc k (by omega)):w1.cell? ⟨gc,oc+k,none⟩=some (.float .f64 (xc.getD k 0)))
   have ya:Hid _:=iE fa.lt k
   have yb:Hid _:=iE fb'.lt k
   have yc:Hid _:=iE fc.lt k
   have HE:Hid (∀u,fb u=fb (mK 8 (xa.getD k 0) (xb.getD k 0) (xc.getD k 0))->fb u=fb (iF 8 C K xa xb xc k)):=λu h=>by rw[h];simp[mK,iF]
   generalize xa.getD k 0=ua at xca ya HE
   generalize xb.getD k 0=ub at xcb yb HE
   generalize xc.getD k 0=uc at xcc yc HE
   have haa:(k:Int)<(la:Int):=by omega
   have hbb:(k:Int)<(lb:Int):=by omega
   have hcc:(k:Int)<(lc:Int):=by omega
   go_wp2_with (first|(go_at_call 73;refine(iZ _ _ (by omega) (by omega)).mono ?_;rintro e w2 ⟨rfl,rfl⟩;simp only[show iG 8=true from rfl])|(go_at_call 45;refine(jE _ _ (by omega) (by omega)).mono ?_;rintro e w2 ⟨rfl,rfl⟩;simp only[show jy 8=3 from rfl]))
   refine(pu 8 _ _ _ _ ya.out yb.out yc.out (by omega)).mono ?_
   rintro e w2 ⟨u,rfl,hu,hfu,hD⟩
   have hfu2:Hid _:=HE.out u hfu
   have hown2:=kt hown hD
   have hKW2:=hKW.trans (hD.kept 0 0)
   clear hfu
   go_wp2_with (first|(go_at_call 73;refine(iZ _ _ (by omega) (by omega)).mono ?_;rintro e w2 ⟨rfl,rfl⟩;simp only[show iG 8=true from rfl])|(at_builtin;refine wpList_append_own _ rfl _ _ 36 rfl w1.heap.size 29 i0 (.float .f64 0) 1 8 Tryz.underlying36 hi hz0 hz1 hz2 rfl (by decide) _ _ _ rfl (hown2.alloc _) ⟨w2.heap.size,0,none⟩ 1 1 [.float .f64 u] rfl rfl ?c1 ?c2 ?c3 ?c4 ?c5 ?_))
   case c1=>exact cell_one_new _ _ _
   case c2=>intro u hu;simp at hu;subst hu;rfl
   case c3=>unfold maxLen;omega
   case c4=>omega
   case c5=>have:=hKW2.size;simp;omega
   intro v' w9 hown9 hg9 _
   have R:Hid _:=Grow.step hown2 hzl hzlt hzq hKW2 hu hfu2.out hown9 hg9
   clear hown9 hg9 hown hzl hzlt hzq hKW
   go_wp2
   go_roundw
   case rel=>exact⟨k+1,by omega,by go_num,R.out⟩
   case measure=>simp[intOf];omega
  ·obtain rfl:k=n:=by omega
   have R:Hid _:=hG2.done h1 hW.out
   clear hG2 hKW
   go_wp2
   go_ret
   exact R.out
theorem sC (w:World)(A B C:Int)(n K:Nat)(h1:1<=n)(hn:n<=1000)(_hK:K<18446744073709551616)
  (fa:FS w l0 h0' a la xa) (_fb:FS w l1 h1' b lb xb) (_fc:FS w l2 h2' c lc xc) (hca:la<=ca) (hs:iA 9 (n:Int) C la lb lc=true):
  Calls Tryz.prog 47 #[jA 9 (n:Int) A B C K,.slice a la ca,.slice b lb cb,.slice c lc cc] w λe w'=>KS n (iF 9 C K xa xb xc) w e w':=by
 have HS:=hs
 obtain⟨i0,hi,hz0,hz1,hz2⟩:=info_parts lq
 have hfit:n<=1/\1<=la/\la<=1000:=by simp[iA,im,cnt,iJ] at HS;omega
 clear HS
 have hW:Hid _:=(hU 0 0 w (ij 9 (n:Int) A B C K)).trans (hU 0 0 _ (ij 9 (n:Int) A B C K))
 have b0:((w.alloc (ij 9 (n:Int) A B C K)).alloc (ij 9 (n:Int) A B C K)).cell? ⟨w.heap.size,0,none⟩=some (.int .i64 9):=by simp
 have b1:((w.alloc (ij 9 (n:Int) A B C K)).alloc (ij 9 (n:Int) A B C K)).cell? ⟨w.heap.size,1,none⟩=some (.int .i64 (n:Int)):=by simp
 have b4:((w.alloc (ij 9 (n:Int) A B C K)).alloc (ij 9 (n:Int) A B C K)).cell? ⟨w.heap.size,4,none⟩=some (.int .i64 C):=by simp
 have b5:((w.alloc (ij 9 (n:Int) A B C K)).alloc (ij 9 (n:Int) A B C K)).cell? ⟨w.heap.size,5,none⟩=some (.float .f64 K):=by simp
 have bs:w.heap.size<((w.alloc (ij 9 (n:Int) A B C K)).alloc (ij 9 (n:Int) A B C K)).heap.size:=by simp;omega
 go_enter Tryz.func47,Tryz.ntmps47
 go_wp2_with fail
 refine(kI _ 9 (n:Int) A B C K la lb lc).mono ?_
 rintro e w' ⟨rfl,rfl⟩
 rw[hs]
 clear hs
 go_wp2_with fail
 have hG:=ju ((w.alloc (ij 9 (n:Int) A B C K)).alloc (ij 9 (n:Int) A B C K)) (iF 9 C K xa xb xc)
 generalize hw1:(w.alloc (ij 9 (n:Int) A B C K)).alloc (ij 9 (n:Int) A B C K)=w1 at b0 b1 b4 b5 bs hW hG ⊢
 clear hw1
 go_loopw [9,10,11,12,13,14] (λv i _ _ _ _ W=>∃k:Nat,k<=n/\i=.int .i64 k/\Grow w1 k (iF 9 C K xa xb xc) v W) (λ_ i _ _ _ _ _=>n-(intOf i).toNat)
 case atStart=>exact⟨0,Nat.zero_le _,rfl,hG⟩
 case round=>
  obtain⟨k,hk,rfl,hG2⟩:=hrel
  clear hG
  have hKW:=hG2.kept
  have d1:=il hKW bs b1
  by_cases hlt:k<n
  ·obtain⟨zs,hown,hzl,hzlt,hzq,_⟩:=hG2
   have d0:=il hKW bs b0
   have d5:=il hKW bs b5
   have HE:Hid (∀u,fb u=fb (kP xa)->fb u=fb (iF 9 C K xa xb xc k)):=λu h=>by rw[h];simp[iF]
   have ga:=fa.keep (hW.out.trans hKW) (.inr (.inr (Nat.le_refl _)))
   have GA:Hid _:=ga
   clear ga
   go_wp2_with (go_at_call 73;refine(iZ _ _ (by omega) (by omega)).mono ?_;rintro e w2 ⟨rfl,rfl⟩;simp only[show iG 9=false from rfl])
   refine(EH _ la hfit.2.1 hfit.2.2 GA.out hca).mono ?_
   rintro e w2 ⟨u,rfl,hu,hfu,hD⟩
   have hfu2:Hid _:=HE.out u hfu
   have hown2:=kt hown hD
   have hKW2:=hKW.trans (hD.kept 0 0)
   clear hfu
   go_wp2_with (first|(go_at_call 73;refine(iZ _ _ (by omega) (by omega)).mono ?_;rintro e w2 ⟨rfl,rfl⟩;simp only[show iG 9=false from rfl])|(at_builtin;refine wpList_append_own _ rfl _ _ 36 rfl w1.heap.size 29 i0 (.float .f64 0) 1 8 Tryz.underlying36 hi hz0 hz1 hz2 rfl (by decide) _ _ _ rfl (hown2.alloc _) ⟨w2.heap.size,0,none⟩ 1 1 [.float .f64 u] rfl rfl ?c1 ?c2 ?c3 ?c4 ?c5 ?_))
   case c1=>exact cell_one_new _ _ _
   case c2=>intro u hu;simp at hu;subst hu;rfl
   case c3=>unfold maxLen;omega
   case c4=>omega
   case c5=>have:=hKW2.size;simp;omega
   intro v' w9 hown9 hg9 _
   have R:Hid _:=Grow.step hown2 hzl hzlt hzq hKW2 hu hfu2.out hown9 hg9
   clear hown9 hg9 hown hzl hzlt hzq hKW
   go_wp2
   go_roundw
   case rel=>exact⟨k+1,by omega,by go_num,R.out⟩
   case measure=>simp[intOf];omega
  ·obtain rfl:k=n:=by omega
   have R:Hid _:=hG2.done h1 hW.out
   clear hG2 hKW
   go_wp2
   go_ret
   exact R.out
theorem qO (w:World)(A B C:Int)(n K:Nat)(h1:1<=n)(hn:n<=1000)(_hK:K<18446744073709551616)
  (fa:FS w l0 h0' a la xa) (_fb:FS w l1 h1' b lb xb) (_fc:FS w l2 h2' c lc xc) (_hca:la<=ca) (hs:iA 10 (n:Int) C la lb lc=true):
  Calls Tryz.prog 47 #[jA 10 (n:Int) A B C K,.slice a la ca,.slice b lb cb,.slice c lc cc] w λe w'=>KS n (iF 10 C K xa xb xc) w e w':=by
 have HS:=hs
 obtain⟨i0,hi,hz0,hz1,hz2⟩:=info_parts lq
 have hfit:la<=1/\1<=la:=by simp[iA,im,cnt,iJ] at HS;omega
 clear HS
 rcases fa.at_ with hz|⟨ga,oa,rfl,_,_,gla,kca⟩
 ·omega
 have hW:Hid _:=(hU 0 0 w (ij 10 (n:Int) A B C K)).trans (hU 0 0 _ (ij 10 (n:Int) A B C K))
 have b0:((w.alloc (ij 10 (n:Int) A B C K)).alloc (ij 10 (n:Int) A B C K)).cell? ⟨w.heap.size,0,none⟩=some (.int .i64 10):=by simp
 have b1:((w.alloc (ij 10 (n:Int) A B C K)).alloc (ij 10 (n:Int) A B C K)).cell? ⟨w.heap.size,1,none⟩=some (.int .i64 (n:Int)):=by simp
 have b4:((w.alloc (ij 10 (n:Int) A B C K)).alloc (ij 10 (n:Int) A B C K)).cell? ⟨w.heap.size,4,none⟩=some (.int .i64 C):=by simp
 have b5:((w.alloc (ij 10 (n:Int) A B C K)).alloc (ij 10 (n:Int) A B C K)).cell? ⟨w.heap.size,5,none⟩=some (.float .f64 K):=by simp
 have bs:w.heap.size<((w.alloc (ij 10 (n:Int) A B C K)).alloc (ij 10 (n:Int) A B C K)).heap.size:=by simp;omega
 go_enter Tryz.func47,Tryz.ntmps47
 go_wp2_with fail
 refine(kI _ 10 (n:Int) A B C K la lb lc).mono ?_
 rintro e w' ⟨rfl,rfl⟩
 rw[hs]
 clear hs
 go_wp2_with fail
 have hG:=ju ((w.alloc (ij 10 (n:Int) A B C K)).alloc (ij 10 (n:Int) A B C K)) (iF 10 C K xa xb xc)
 generalize hw1:(w.alloc (ij 10 (n:Int) A B C K)).alloc (ij 10 (n:Int) A B C K)=w1 at b0 b1 b4 b5 bs hW hG ⊢
 clear hw1
 go_loopw [9,10,11,12,13,14] (λv i _ _ _ _ W=>∃k:Nat,k<=n/\i=.int .i64 k/\Grow w1 k (iF 10 C K xa xb xc) v W) (λ_ i _ _ _ _ _=>n-(intOf i).toNat)
 case atStart=>exact⟨0,Nat.zero_le _,rfl,hG⟩
 case round=>
  obtain⟨k,hk,rfl,hG2⟩:=hrel
  clear hG
  have hKW:=hG2.kept
  have d1:=il hKW bs b1
  by_cases hlt:k<n
  ·obtain⟨zs,hown,hzl,hzlt,hzq,_⟩:=hG2
   have d0:=il hKW bs b0
   have d5:=il hKW bs b5
   have xx:w1.cell? ⟨ga,oa+0,none⟩=some (.float .f64 (xa.getD 0 0)):=by rw[hW.out.cell (p:=⟨ga,oa+0,none⟩) gla (by omega)];exact kca 0 (by omega)
   have x0:=il hKW (Nat.lt_of_lt_of_le gla hW.out.size) xx
   have y0:xa.getD 0 0<18446744073709551616:=iE fa.lt 0
   rw[Nat.add_zero] at x0
   have hla:(0:Int)<(la:Int):=by omega
   have HE:Hid (fb (xa.getD 0 0)=fb (iF 10 C K xa xb xc k)):=by show fb (xa.getD 0 0)=fb (iF 10 C K xa xb xc k);simp[iF]
   clear xx
   generalize xa.getD 0 0=u0 at x0 y0 HE
   go_wp2_with (first|(go_at_call 73;refine(iZ _ _ (by omega) (by omega)).mono ?_;rintro e w2 ⟨rfl,rfl⟩;simp only[show iG 10=false from rfl])|(at_builtin;refine wpList_append_own _ rfl _ _ 36 rfl w1.heap.size 29 i0 (.float .f64 0) 1 8 Tryz.underlying36 hi hz0 hz1 hz2 rfl (by decide) _ _ _ rfl (hown.alloc _) ⟨wr.heap.size,0,none⟩ 1 1 [.float .f64 u0] rfl rfl ?c1 ?c2 ?c3 ?c4 ?c5 ?_))
   case c1=>exact cell_one_new _ _ _
   case c2=>intro u hu;simp at hu;subst hu;rfl
   case c3=>unfold maxLen;omega
   case c4=>omega
   case c5=>have:=hKW.size;simp;omega
   intro v' w9 hown9 hg9 _
   have R:Hid _:=Grow.step hown hzl hzlt hzq hKW y0 HE.out hown9 hg9
   clear hown9 hg9 hown hzl hzlt hzq hKW
   go_wp2
   go_roundw
   case rel=>exact⟨k+1,by omega,by go_num,R.out⟩
   case measure=>simp[intOf];omega
  ·obtain rfl:k=n:=by omega
   have R:Hid _:=hG2.done h1 hW.out
   clear hG2 hKW
   go_wp2
   go_ret
   exact R.out
theorem qP (w:World)(A B C:Int)(n K:Nat)(h1:1<=n)(hn:n<=1000)(_hK:K<18446744073709551616)
  (fa:FS w l0 h0' a la xa) (_fb:FS w l1 h1' b lb xb) (_fc:FS w l2 h2' c lc xc) (_hca:la<=ca) (hs:iA 11 (n:Int) C la lb lc=true):
  Calls Tryz.prog 47 #[jA 11 (n:Int) A B C K,.slice a la ca,.slice b lb cb,.slice c lc cc] w λe w'=>KS n (iF 11 C K xa xb xc) w e w':=by
 have HS:=hs
 obtain⟨i0,hi,hz0,hz1,hz2⟩:=info_parts lq
 have hfit:n<=1/\1<=la/\la<=1000/\0<=C/\C<(la:Int):=by simp[iA,im,cnt,iJ,iL] at HS;omega
 obtain⟨p,rfl⟩:=Int.eq_ofNat_of_zero_le hfit.2.2.2.1
 clear HS
 rcases fa.at_ with hz|⟨ga,oa,rfl,_,_,gla,kca⟩
 ·omega
 have hW:Hid _:=(hU 0 0 w (ij 11 (n:Int) A B (p:Int) K)).trans (hU 0 0 _ (ij 11 (n:Int) A B (p:Int) K))
 have b0:((w.alloc (ij 11 (n:Int) A B (p:Int) K)).alloc (ij 11 (n:Int) A B (p:Int) K)).cell? ⟨w.heap.size,0,none⟩=some (.int .i64 11):=by simp
 have b1:((w.alloc (ij 11 (n:Int) A B (p:Int) K)).alloc (ij 11 (n:Int) A B (p:Int) K)).cell? ⟨w.heap.size,1,none⟩=some (.int .i64 (n:Int)):=by simp
 have b4:((w.alloc (ij 11 (n:Int) A B (p:Int) K)).alloc (ij 11 (n:Int) A B (p:Int) K)).cell? ⟨w.heap.size,4,none⟩=some (.int .i64 (p:Int)):=by simp
 have b5:((w.alloc (ij 11 (n:Int) A B (p:Int) K)).alloc (ij 11 (n:Int) A B (p:Int) K)).cell? ⟨w.heap.size,5,none⟩=some (.float .f64 K):=by simp
 have bs:w.heap.size<((w.alloc (ij 11 (n:Int) A B (p:Int) K)).alloc (ij 11 (n:Int) A B (p:Int) K)).heap.size:=by simp;omega
 go_enter Tryz.func47,Tryz.ntmps47
 go_wp2_with fail
 refine(kI _ 11 (n:Int) A B (p:Int) K la lb lc).mono ?_
 rintro e w' ⟨rfl,rfl⟩
 rw[hs]
 clear hs
 go_wp2_with fail
 have hG:=ju ((w.alloc (ij 11 (n:Int) A B (p:Int) K)).alloc (ij 11 (n:Int) A B (p:Int) K)) (iF 11 (p:Int) K xa xb xc)
 generalize hw1:(w.alloc (ij 11 (n:Int) A B (p:Int) K)).alloc (ij 11 (n:Int) A B (p:Int) K)=w1 at b0 b1 b4 b5 bs hW hG ⊢
 clear hw1
 go_loopw [9,10,11,12,13,14] (λv i _ _ _ _ W=>∃k:Nat,k<=n/\i=.int .i64 k/\Grow w1 k (iF 11 (p:Int) K xa xb xc) v W) (λ_ i _ _ _ _ _=>n-(intOf i).toNat)
 case atStart=>exact⟨0,Nat.zero_le _,rfl,hG⟩
 case round=>
  obtain⟨k,hk,rfl,hG2⟩:=hrel
  clear hG
  have hKW:=hG2.kept
  have d1:=il hKW bs b1
  by_cases hlt:k<n
  ·obtain⟨zs,hown,hzl,hzlt,hzq,_⟩:=hG2
   have d0:=il hKW bs b0
   have d5:=il hKW bs b5
   have xx:w1.cell? ⟨ga,oa+p,none⟩=some (.float .f64 (xa.getD p 0)):=by rw[hW.out.cell (p:=⟨ga,oa+p,none⟩) gla (by omega)];exact kca p (by omega)
   have x0:=il hKW (Nat.lt_of_lt_of_le gla hW.out.size) xx
   have y0:xa.getD p 0<18446744073709551616:=iE fa.lt p
   have hla:(p:Int)<(la:Int):=by omega
   have d4:=il hKW bs b4
   have HE:Hid (fb (xa.getD p 0)=fb (iF 11 (p:Int) K xa xb xc k)):=by show fb (xa.getD p 0)=fb (iF 11 (p:Int) K xa xb xc k);simp[iF]
   clear xx
   generalize xa.getD p 0=u0 at x0 y0 HE
   go_wp2_with (first|(go_at_call 73;refine(iZ _ _ (by omega) (by omega)).mono ?_;rintro e w2 ⟨rfl,rfl⟩;simp only[show iG 11=false from rfl])|(at_builtin;refine wpList_append_own _ rfl _ _ 36 rfl w1.heap.size 29 i0 (.float .f64 0) 1 8 Tryz.underlying36 hi hz0 hz1 hz2 rfl (by decide) _ _ _ rfl (hown.alloc _) ⟨wr.heap.size,0,none⟩ 1 1 [.float .f64 u0] rfl rfl ?c1 ?c2 ?c3 ?c4 ?c5 ?_))
   case c1=>exact cell_one_new _ _ _
   case c2=>intro u hu;simp at hu;subst hu;rfl
   case c3=>unfold maxLen;omega
   case c4=>omega
   case c5=>have:=hKW.size;simp;omega
   intro v' w9 hown9 hg9 _
   have R:Hid _:=Grow.step hown hzl hzlt hzq hKW y0 HE.out hown9 hg9
   clear hown9 hg9 hown hzl hzlt hzq hKW
   go_wp2
   go_roundw
   case rel=>exact⟨k+1,by omega,by go_num,R.out⟩
   case measure=>simp[intOf];omega
  ·obtain rfl:k=n:=by omega
   have R:Hid _:=hG2.done h1 hW.out
   clear hG2 hKW
   go_wp2
   go_ret
   exact R.out
theorem qQ (w:World)(A B C:Int)(n K:Nat)(h1:1<=n)(hn:n<=1000)(_hK:K<18446744073709551616)
  (fa:FS w l0 h0' a la xa) (_fb:FS w l1 h1' b lb xb) (_fc:FS w l2 h2' c lc xc) (_hca:la<=ca) (hs:iA 12 (n:Int) C la lb lc=true):
  Calls Tryz.prog 47 #[jA 12 (n:Int) A B C K,.slice a la ca,.slice b lb cb,.slice c lc cc] w λe w'=>KS n (iF 12 C K xa xb xc) w e w':=by
 have HS:=hs
 obtain⟨i0,hi,hz0,hz1,hz2⟩:=info_parts lq
 have hfit:(la<=1/\1<=la)/\0<=C/\C<(n:Int):=by simp[iA,im,cnt,iJ,iL] at HS;omega
 obtain⟨p,rfl⟩:=Int.eq_ofNat_of_zero_le hfit.2.1
 clear HS
 rcases fa.at_ with hz|⟨ga,oa,rfl,_,_,gla,kca⟩
 ·omega
 have hW:Hid _:=(hU 0 0 w (ij 12 (n:Int) A B (p:Int) K)).trans (hU 0 0 _ (ij 12 (n:Int) A B (p:Int) K))
 have b0:((w.alloc (ij 12 (n:Int) A B (p:Int) K)).alloc (ij 12 (n:Int) A B (p:Int) K)).cell? ⟨w.heap.size,0,none⟩=some (.int .i64 12):=by simp
 have b1:((w.alloc (ij 12 (n:Int) A B (p:Int) K)).alloc (ij 12 (n:Int) A B (p:Int) K)).cell? ⟨w.heap.size,1,none⟩=some (.int .i64 (n:Int)):=by simp
 have b4:((w.alloc (ij 12 (n:Int) A B (p:Int) K)).alloc (ij 12 (n:Int) A B (p:Int) K)).cell? ⟨w.heap.size,4,none⟩=some (.int .i64 (p:Int)):=by simp
 have b5:((w.alloc (ij 12 (n:Int) A B (p:Int) K)).alloc (ij 12 (n:Int) A B (p:Int) K)).cell? ⟨w.heap.size,5,none⟩=some (.float .f64 K):=by simp
 have bs:w.heap.size<((w.alloc (ij 12 (n:Int) A B (p:Int) K)).alloc (ij 12 (n:Int) A B (p:Int) K)).heap.size:=by simp;omega
 go_enter Tryz.func47,Tryz.ntmps47
 go_wp2_with fail
 refine(kI _ 12 (n:Int) A B (p:Int) K la lb lc).mono ?_
 rintro e w' ⟨rfl,rfl⟩
 rw[hs]
 clear hs
 go_wp2_with fail
 have hG:=ju ((w.alloc (ij 12 (n:Int) A B (p:Int) K)).alloc (ij 12 (n:Int) A B (p:Int) K)) (iF 12 (p:Int) K xa xb xc)
 generalize hw1:(w.alloc (ij 12 (n:Int) A B (p:Int) K)).alloc (ij 12 (n:Int) A B (p:Int) K)=w1 at b0 b1 b4 b5 bs hW hG ⊢
 clear hw1
 go_loopw [9,10,11,12,13,14] (λv i _ _ _ _ W=>∃k:Nat,k<=n/\i=.int .i64 k/\Grow w1 k (iF 12 (p:Int) K xa xb xc) v W) (λ_ i _ _ _ _ _=>n-(intOf i).toNat)
 case atStart=>exact⟨0,Nat.zero_le _,rfl,hG⟩
 case round=>
  obtain⟨k,hk,rfl,hG2⟩:=hrel
  clear hG
  have hKW:=hG2.kept
  have d1:=il hKW bs b1
  by_cases hlt:k<n
  ·obtain⟨zs,hown,hzl,hzlt,hzq,_⟩:=hG2
   have d0:=il hKW bs b0
   have d5:=il hKW bs b5
   have xx:w1.cell? ⟨ga,oa+0,none⟩=some (.float .f64 (xa.getD 0 0)):=by rw[hW.out.cell (p:=⟨ga,oa+0,none⟩) gla (by omega)];exact kca 0 (by omega)
   have x0:=il hKW (Nat.lt_of_lt_of_le gla hW.out.size) xx
   have y0:xa.getD 0 0<18446744073709551616:=iE fa.lt 0
   rw[Nat.add_zero] at x0
   have hla:(0:Int)<(la:Int):=by omega
   have d4:=il hKW bs b4
   by_cases hkp:k=p
   ·have HE:Hid (fb (xa.getD 0 0)=fb (iF 12 (p:Int) K xa xb xc k)):=by show fb (xa.getD 0 0)=fb (iF 12 (p:Int) K xa xb xc k);simp[iF,hkp]
    have tt:((k:Int)==(p:Int))=true:=beq_iff_eq.2 (by omega)
    clear hkp
    generalize xa.getD 0 0=u0 at x0 y0 HE
    go_wp2_with (first|(go_at_call 73;refine(iZ _ _ (by omega) (by omega)).mono ?_;rintro e w2 ⟨rfl,rfl⟩;simp only[show iG 12=false from rfl])|(at_builtin;refine wpList_append_own _ rfl _ _ 36 rfl w1.heap.size 29 i0 (.float .f64 0) 1 8 Tryz.underlying36 hi hz0 hz1 hz2 rfl (by decide) _ _ _ rfl (hown.alloc _) ⟨wr.heap.size,0,none⟩ 1 1 [.float .f64 u0] rfl rfl ?c1 ?c2 ?c3 ?c4 ?c5 ?_))
    case c1=>exact cell_one_new _ _ _
    case c2=>intro u hu;simp at hu;subst hu;rfl
    case c3=>unfold maxLen;omega
    case c4=>omega
    case c5=>have:=hKW.size;simp;omega
    intro v' w9 hown9 hg9 _
    have R:Hid _:=Grow.step hown hzl hzlt hzq hKW y0 HE.out hown9 hg9
    clear hown9 hg9 hown hzl hzlt hzq hKW
    go_wp2
    go_roundw
    case rel=>exact⟨k+1,by omega,by go_num,R.out⟩
    case measure=>simp[intOf];omega
   ·have HE:Hid (fb 0=fb (iF 12 (p:Int) K xa xb xc k)):=by show fb 0=fb (iF 12 (p:Int) K xa xb xc k);simp[iF,hkp]
    have tt:((k:Int)==(p:Int))=false:=beq_eq_false_iff_ne.2 (by omega)
    clear hkp x0 y0
    go_wp2_with (first|(go_at_call 73;refine(iZ _ _ (by omega) (by omega)).mono ?_;rintro e w2 ⟨rfl,rfl⟩;simp only[show iG 12=false from rfl])|(at_builtin;refine wpList_append_own _ rfl _ _ 36 rfl w1.heap.size 29 i0 (.float .f64 0) 1 8 Tryz.underlying36 hi hz0 hz1 hz2 rfl (by decide) _ _ _ rfl (hown.alloc _) ⟨wr.heap.size,0,none⟩ 1 1 [.float .f64 0] rfl rfl ?d1 ?d2 ?d3 ?d4 ?d5 ?_))
    case d1=>exact cell_one_new _ _ _
    case d2=>intro u hu;simp at hu;subst hu;rfl
    case d3=>unfold maxLen;omega
    case d4=>omega
    case d5=>have:=hKW.size;simp;omega
    intro v' w9 hown9 hg9 _
    have R:Hid _:=Grow.step hown hzl hzlt hzq hKW (by omega) HE.out hown9 hg9
    clear hown9 hg9 hown hzl hzlt hzq hKW
    go_wp2
    go_roundw
    case rel=>exact⟨k+1,by omega,by go_num,R.out⟩
    case measure=>simp[intOf];omega
  ·obtain rfl:k=n:=by omega
   have R:Hid _:=hG2.done h1 hW.out
   clear hG2 hKW
   go_wp2
   go_ret
   exact R.out
theorem qR (w:World)(A B C:Int)(n K:Nat)(h1:1<=n)(hn:n<=1000)(_hK:K<18446744073709551616)
  (fa:FS w l0 h0' a la xa) (_fb:FS w l1 h1' b lb xb) (_fc:FS w l2 h2' c lc xc) (_hca:la<=ca) (hs:iA 13 (n:Int) C la lb lc=true):
  Calls Tryz.prog 47 #[jA 13 (n:Int) A B C K,.slice a la ca,.slice b lb cb,.slice c lc cc] w λe w'=>KS n (iF 13 C K xa xb xc) w e w':=by
 have HS:=hs
 obtain⟨i0,hi,hz0,hz1,hz2⟩:=info_parts lq
 have hfit:(la<=n/\n<=la):=by simp[iA,im,cnt,iJ] at HS;omega
 obtain⟨ea,ea2⟩:=hfit
 clear HS
 rcases fa.at_ with hz|⟨ga,oa,rfl,_,_,gla,kca⟩
 ·omega
 have hW:Hid _:=(hU 0 0 w (ij 13 (n:Int) A B C K)).trans (hU 0 0 _ (ij 13 (n:Int) A B C K))
 have b0:((w.alloc (ij 13 (n:Int) A B C K)).alloc (ij 13 (n:Int) A B C K)).cell? ⟨w.heap.size,0,none⟩=some (.int .i64 13):=by simp
 have b1:((w.alloc (ij 13 (n:Int) A B C K)).alloc (ij 13 (n:Int) A B C K)).cell? ⟨w.heap.size,1,none⟩=some (.int .i64 (n:Int)):=by simp
 have b4:((w.alloc (ij 13 (n:Int) A B C K)).alloc (ij 13 (n:Int) A B C K)).cell? ⟨w.heap.size,4,none⟩=some (.int .i64 C):=by simp
 have b5:((w.alloc (ij 13 (n:Int) A B C K)).alloc (ij 13 (n:Int) A B C K)).cell? ⟨w.heap.size,5,none⟩=some (.float .f64 K):=by simp
 have bs:w.heap.size<((w.alloc (ij 13 (n:Int) A B C K)).alloc (ij 13 (n:Int) A B C K)).heap.size:=by simp;omega
 go_enter Tryz.func47,Tryz.ntmps47
 go_wp2_with fail
 refine(kI _ 13 (n:Int) A B C K la lb lc).mono ?_
 rintro e w' ⟨rfl,rfl⟩
 rw[hs]
 clear hs
 go_wp2_with fail
 have hG:=ju ((w.alloc (ij 13 (n:Int) A B C K)).alloc (ij 13 (n:Int) A B C K)) (iF 13 C K xa xb xc)
 generalize hw1:(w.alloc (ij 13 (n:Int) A B C K)).alloc (ij 13 (n:Int) A B C K)=w1 at b0 b1 b4 b5 bs hW hG ⊢
 clear hw1
 go_loopw [9,10,11,12,13,14] (λv i _ _ _ _ W=>∃k:Nat,k<=n/\i=.int .i64 k/\Grow w1 k (iF 13 C K xa xb xc) v W) (λ_ i _ _ _ _ _=>n-(intOf i).toNat)
 case atStart=>exact⟨0,Nat.zero_le _,rfl,hG⟩
 case round=>
  obtain⟨k,hk,rfl,hG2⟩:=hrel
  clear hG
  have hKW:=hG2.kept
  have d1:=il hKW bs b1
  by_cases hlt:k<n
  ·obtain⟨zs,hown,hzl,hzlt,hzq,_⟩:=hG2
   have d0:=il hKW bs b0
   have d5:=il hKW bs b5
   have xca:=il hKW (Nat.lt_of_lt_of_le gla hW.out.size) ((by rw[hW.out.cell (p:=⟨ga,oa+k,none⟩) gla (by omega)];exact kca k (by omega)):w1.cell? ⟨ga,oa+k,none⟩=some (.float .f64 (xa.getD k 0)))
   have ya:Hid _:=iE fa.lt k
   have HE:Hid (∀u,fb u=fb (mK 13 (xa.getD k 0) 0 0)->fb u=fb (iF 13 C K xa xb xc k)):=λu h=>by rw[h];simp[mK,iF]
   generalize xa.getD k 0=ua at xca ya HE
   have haa:(k:Int)<(la:Int):=by omega
   go_wp2_with (first|(go_at_call 73;refine(iZ _ _ (by omega) (by omega)).mono ?_;rintro e w2 ⟨rfl,rfl⟩;simp only[show iG 13=true from rfl])|(go_at_call 45;refine(jE _ _ (by omega) (by omega)).mono ?_;rintro e w2 ⟨rfl,rfl⟩;simp only[show jy 13=1 from rfl]))
   refine(pu 13 _ _ _ _ ya.out (by omega) (by omega) (by omega)).mono ?_
   rintro e w2 ⟨u,rfl,hu,hfu,hD⟩
   have hfu2:Hid _:=HE.out u hfu
   have hown2:=kt hown hD
   have hKW2:=hKW.trans (hD.kept 0 0)
   clear hfu
   go_wp2_with (first|(go_at_call 73;refine(iZ _ _ (by omega) (by omega)).mono ?_;rintro e w2 ⟨rfl,rfl⟩;simp only[show iG 13=true from rfl])|(at_builtin;refine wpList_append_own _ rfl _ _ 36 rfl w1.heap.size 29 i0 (.float .f64 0) 1 8 Tryz.underlying36 hi hz0 hz1 hz2 rfl (by decide) _ _ _ rfl (hown2.alloc _) ⟨w2.heap.size,0,none⟩ 1 1 [.float .f64 u] rfl rfl ?c1 ?c2 ?c3 ?c4 ?c5 ?_))
   case c1=>exact cell_one_new _ _ _
   case c2=>intro u hu;simp at hu;subst hu;rfl
   case c3=>unfold maxLen;omega
   case c4=>omega
   case c5=>have:=hKW2.size;simp;omega
   intro v' w9 hown9 hg9 _
   have R:Hid _:=Grow.step hown2 hzl hzlt hzq hKW2 hu hfu2.out hown9 hg9
   clear hown9 hg9 hown hzl hzlt hzq hKW
   go_wp2
   go_roundw
   case rel=>exact⟨k+1,by omega,by go_num,R.out⟩
   case measure=>simp[intOf];omega
  ·obtain rfl:k=n:=by omega
   have R:Hid _:=hG2.done h1 hW.out
   clear hG2 hKW
   go_wp2
   go_ret
   exact R.out
end Go.Proofs.YtnlffngpnoodkaaGreat
