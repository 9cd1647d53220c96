import Derived.Test.YtamokkcfibdghaaGreatP07
import Derived.Test.YtamokkcfibdghaaGreatP05
namespace Go.Proofs.Z
variable {Zp:Prop}
open Tryz
set_option maxRecDepth 1000000
set_option maxHeartbeats 0
open Go.RowKit Flt
attribute [local go_sem] eG eE eD
variable {bN k P bP n bj b8 ce l F s ca b5 b3:Nat}{aB:World}{q:Nat->Nat}{v:Value}{a b c:Option Addr}{Q X al:List Nat}
theorem gh(op w)(aj:0<=op)(B:op<=13):Calls prog 61 #[hI op] w λe J=>e=.returned (.bool (fF op))/\w=J:=
 (fR op w aj B).mono λ_ _ h=>⟨h.1,h.2.symm⟩
theorem iM(op w)(aj:0<=op)(B:op<=13):Calls prog 37 #[hI op] w λe J=>e=.returned (hI (iB op:Nat))/\w=J:=
 (fd op w aj B).mono λ_ _ h=>⟨h.1,h.2.symm⟩
def Grow (w1:World)(k:Nat)(q:Nat->Nat)(v:Value)(W:World):Prop:=
 ∃zs:List Nat,W.ownsRow w1.heap.size 49 1 v k (zs.map (Value.float .f64))/\zs.length=k/\(∀z∈zs,z<18446744073709551616)/\(∀j,j<k->fb (zs.getD j 0)=fb (q j))/\Kept 0 0 w1 W
theorem il(aB q):Grow aB 0 q (.slice none 0 0) aB:=
 ⟨[],yav _ _ _ _,rfl,by simp,λj hj=>by omega,Kept.refl _ _ _⟩
theorem Grow.kept{W}(h:Grow aB k q v W):Kept 0 0 aB W:=by
 obtain⟨_,_,_,_,_,h⟩:=h;exact h
theorem jQ{base e size:Nat}{xs W W'}(h:W.ownsRow base e size v n xs)(d:Drawn W W'):W'.ownsRow base e size v n xs:=by
 obtain⟨m,rfl⟩:=d;exact h
theorem Grow.step{W}{zs:List Nat}{z}
  (aT:W.ownsRow aB.heap.size 49 1 v k (zs.map (Value.float .f64))) (ah:zs.length=k) (aF:∀z∈zs,z<18446744073709551616) (aq:∀j,j<k->fb (zs.getD j 0)=fb (q j)) (aH:Kept 0 0 aB W)
  (bp:z<18446744073709551616) (g:fb z=fb (q k)) {v'}{J}{o}
  (e:J.ownsRow aB.heap.size 49 1 v' (k+1) (zs.map (Value.float .f64)++[Value.float .f64 z])) (aW:(W.alloc o).grownBy J v.ownBlock):Grow aB (k+1) q v' J:=by
 refine⟨zs++[z],by rw[List.map_append];exact e,by simp[ah],?_,?_,?_⟩
 ·intro x au;rcases List.mem_append.1 au with c|c
  ·exact aF x c
  simp at c;rw[c];exact bp
 ·intro j hj;rw[yah,List.getElem?_append];by_cases c:j<zs.length
  ·rw[hK c,<-yah];exact aq j xaa
  rw[hJ c,show j-zs.length=0 by omega];have:j=k:=xaa;subst this;exact g
 refine⟨aW.os.trans aH.os,aW.tape.trans aH.tape,aW.output.trans aH.output,?_,λi hi _=>?_⟩
 ·have:=aW.size;have R:=aH.size;simp at this;omega
 have R:=aH.size;rw[aW.block i yaf (λc=>hR (aT.lt i c.symm)),Below.heap_alloc W o i xaa];exact aH.block i hi xaa
def KS (n:Nat)(q:Nat->Nat)(w:World)(e:Ending)(w':World):Prop:=
 ∃(a:Option Addr) (cap:Nat) (zs:List Nat),e=.returned (.slice a n cap)/\FS w' w.heap.size w'.heap.size a n zs/\(∀k,k<n->fb (zs.getD k 0)=fb (q k))/\Kept 0 0 w w'/\n<=cap
theorem Grow.done{w W}(h:Grow aB n q v W)(B:1<=n)(O:Kept 0 0 w aB):KS n q w (.returned v) W:=by
 obtain⟨zs,⟨_,av⟩,R,h3,a8,bQ⟩:=h;rcases av with⟨_,c⟩|⟨g,cap,H,rfl,N,aA,ab,_,b9,cn⟩
 ·omega
 have ad:w.heap.size<=g:=hR O.size
 have aW:g<W.heap.size:=by
  exact xdo
 refine⟨_,cap,zs,rfl,⟨R,h3,.inr ⟨g,0,rfl,ad,aW,aW,λk ae=>?_⟩⟩,a8,O.trans bQ,ab⟩;rw[cell_of_row W g _ H _ _ aA,Nat.zero_add,<-Array.getElem?_toList];have:(H.toList.take (n*1))[k]? =(zs.map (Value.float .f64))[k]?:=by rw[cn]
 rw[List.getElem?_take_of_lt xaa]at this;rw[this,List.getElem?_map,yal (by omega:k<zs.length)];simp[List.getD_eq_getElem?_getD,List.getElem?_eq_getElem (by omega:k<zs.length)]
theorem s7(w op len A I C K a b c l F s ca b5 b3)(ad:fk op len C l F s=false):
  Calls prog 40 #[ii op len A I C K,.slice a l ca,.slice b F b5,.slice c s b3] w λe J=>e=.returned (.slice none 0 0)/\Kept 0 0 w J:=by
 go_enter func40,ntmps40;go_wp2_with fail;refine(kC _ op len A I C K l F s).mono ?_;rintro e J ⟨rfl,rfl⟩;rw[ad];go_wp2;go_ret;exact⟨rfl,(ez 0 0 w _).trans (ez 0 0 _ _)⟩
theorem dD.qej(h:Zp:=by
 by_cases aF:k<n
 ·obtain⟨zs,aT,m,j,g,_⟩:=an;have bD:=eQ r bs bb;have d5:=eQ r bs b9;have HE:V (fb K=fb (fA 1 C K Q X al k)):=by show fb K=fb (fA 1 C K Q X al k);simp[fA]
  go_wp2_with (first|(go_at_call 61;refine(gh _ _ xaa xaa).mono ?_;rintro e af ⟨rfl,rfl⟩;simp only[show fF 1=false from rfl])|(at_builtin;refine wpList_append_own _ rfl _ _ 47 rfl aB.heap.size 49 bK (.float .f64 0) 1 8 underlying47 hi bU bO bR rfl xab _ _ _ rfl (aT.alloc _) ⟨wr.heap.size,0,none⟩ 1 1 [.float .f64 K] rfl rfl ?c1 ?c2 ?c3 ?c4 ?c5 ?_))
  case c1=>exact cell_one_new _ _ _
  case c2=>intro u aJ;simp at aJ;subst aJ;rfl
  case c3=>unfold maxLen;omega
  case c4=>omega
  case c5=>have:=r.size;simp;omega
  intro v' bo bB bw _;have aa:V _:=Grow.step aT m j g r aH HE.o bB bw;exact xaz
 exact xbk):Zp:=h
theorem dD.qgs(h:Zp:=by
 have bq:=il ((w.alloc (eK 1 (n:Int) A I C K)).alloc (eK 1 (n:Int) A I C K)) (fA 1 C K Q X al);generalize t:(w.alloc (eK 1 (n:Int) A I C K)).alloc (eK 1 (n:Int) A I C K)=aB at bb N aI b9 bs U bq⊢;clear t;go_loopw [9,10,11,12,13,14] (λv i _ _ _ _ W=>∃k:Nat,k<=n/\i=hI k/\Grow aB k (fA 1 C K Q X al) v W) (λ_ i _ _ _ _ _=>n-(intOf i).toNat)
 case atStart=>exact⟨0,Nat.zero_le _,rfl,bq⟩
 case round=>
  exact qei):Zp:=h
open dD in
theorem wD(w A I C)(n K:Nat)(B:1<=n)(hn:n<=1000)(aH:K<18446744073709551616)
  (_fa:FS w bN P a l Q) (_fb:FS w bP bj b F X) (_fc:FS w b8 ce c s al) (_hca:l<=ca) (ad:fk 1 (n:Int) C l F s=true):
  Calls prog 40 #[ii 1 (n:Int) A I C K,.slice a l ca,.slice b F b5,.slice c s b3] w λe J=>KS n (fA 1 C K Q X al) w e J:=by
 have aw:=ad;obtain⟨bK,hi,bU,bO,bR⟩:=info_parts lG;clear aw;have U:V _:=(ez 0 0 w (eK 1 (n:Int) A I C K)).trans (ez 0 0 _ (eK 1 (n:Int) A I C K));have bb:((w.alloc (eK 1 (n:Int) A I C K)).alloc (eK 1 (n:Int) A I C K)).cell? ⟨w.heap.size,0,none⟩=some (hI 1):=by simp
 have N:((w.alloc (eK 1 (n:Int) A I C K)).alloc (eK 1 (n:Int) A I C K)).cell? ⟨w.heap.size,1,none⟩=some (hI n):=by simp
 have aI:((w.alloc (eK 1 (n:Int) A I C K)).alloc (eK 1 (n:Int) A I C K)).cell? ⟨w.heap.size,4,none⟩=some (hI C):=by simp
 have b9:((w.alloc (eK 1 (n:Int) A I C K)).alloc (eK 1 (n:Int) A I C K)).cell? ⟨w.heap.size,5,none⟩=some (.float .f64 K):=by simp
 have bs:w.heap.size<((w.alloc (eK 1 (n:Int) A I C K)).alloc (eK 1 (n:Int) A I C K)).heap.size:=by simp;omega
 go_enter func40,ntmps40;go_wp2_with fail;refine(kC _ 1 (n:Int) A I C K l F s).mono ?_;exact qgr
theorem v.qah(h:Zp:=by
 have H:V _:=fx am.lt k;have Y:V _:=fx av.lt k;have HE:V (∀u,fb u=fb (nd 2 (Q.getD k 0) (X.getD k 0) 0)->fb u=fb (fA 2 C K Q X al k)):=λu h=>by rw[h];simp[nd,fA]
 exact qfz):Zp:=h
theorem v.qdo(h:Zp:=by
 go_wp2_with (first|(go_at_call 61;refine(gh _ _ xaa xaa).mono ?_;rintro e af ⟨rfl,rfl⟩;simp only[show fF 2=true from rfl])|(at_builtin;refine wpList_append_own _ rfl _ _ 47 rfl aB.heap.size 49 bK (.float .f64 0) 1 8 underlying47 hi bU bO bR rfl xab _ _ _ rfl (z.alloc _) ⟨af.heap.size,0,none⟩ 1 1 [.float .f64 u] rfl rfl ?c1 ?c2 ?c3 ?c4 ?c5 ?_))
 case c1=>exact cell_one_new _ _ _
 case c2=>intro u aJ;simp at aJ;subst aJ;rfl
 case c3=>unfold maxLen;omega
 case c4=>omega
 case c5=>have:=x.size;simp;omega
 exact xba):Zp:=h
theorem v.qdq(h:Zp:=by
 rcases am.at_ with bp|⟨aG,bF,rfl,_,_,o,G⟩
 ·omega
 rcases av.at_ with bp|⟨bH,ab,rfl,_,_,R,ag⟩
 ·omega
 have U:V _:=(ez 0 0 w (eK 2 (n:Int) A I C K)).trans (ez 0 0 _ (eK 2 (n:Int) A I C K));have bb:((w.alloc (eK 2 (n:Int) A I C K)).alloc (eK 2 (n:Int) A I C K)).cell? ⟨w.heap.size,0,none⟩=some (hI 2):=by simp
 have N:((w.alloc (eK 2 (n:Int) A I C K)).alloc (eK 2 (n:Int) A I C K)).cell? ⟨w.heap.size,1,none⟩=some (hI n):=by simp
 have aI:((w.alloc (eK 2 (n:Int) A I C K)).alloc (eK 2 (n:Int) A I C K)).cell? ⟨w.heap.size,4,none⟩=some (hI C):=by simp
 have b9:((w.alloc (eK 2 (n:Int) A I C K)).alloc (eK 2 (n:Int) A I C K)).cell? ⟨w.heap.size,5,none⟩=some (.float .f64 K):=by simp
 have bs:w.heap.size<((w.alloc (eK 2 (n:Int) A I C K)).alloc (eK 2 (n:Int) A I C K)).heap.size:=by simp;omega
 go_enter func40,ntmps40;go_wp2_with fail;refine(kC _ 2 (n:Int) A I C K l F s).mono ?_;exact qgr):Zp:=h
theorem v.qga(h:Zp:=by
 go_wp2_with (first|(go_at_call 61;refine(gh _ _ xaa xaa).mono ?_;rintro e af ⟨rfl,rfl⟩;simp only[show fF 2=true from rfl])|(go_at_call 37;refine(iM _ _ xaa xaa).mono ?_;rintro e af ⟨rfl,rfl⟩;simp only[show iB 2=2 from rfl]));refine(rS 2 _ _ _ _ H.o Y.o xaa xaa).mono ?_;exact qdn):Zp:=h
theorem v.qgs(h:Zp:=by
 have bq:=il ((w.alloc (eK 2 (n:Int) A I C K)).alloc (eK 2 (n:Int) A I C K)) (fA 2 C K Q X al);generalize t:(w.alloc (eK 2 (n:Int) A I C K)).alloc (eK 2 (n:Int) A I C K)=aB at bb N aI b9 bs U bq⊢;clear t;go_loopw [9,10,11,12,13,14] (λv i _ _ _ _ W=>∃k:Nat,k<=n/\i=hI k/\Grow aB k (fA 2 C K Q X al) v W) (λ_ i _ _ _ _ _=>n-(intOf i).toNat)
 case atStart=>exact⟨0,Nat.zero_le _,rfl,bq⟩
 case round=>
  exact qho):Zp:=h
theorem v.qhp(h:Zp:=by
 by_cases aF:k<n
 ·exact qag
 exact xbk):Zp:=h
open v in
theorem wE(w A I C)(n K:Nat)(B:1<=n)(hn:n<=1000)(_hK:K<18446744073709551616)
  (am:FS w bN P a l Q) (av:FS w bP bj b F X) (_fc:FS w b8 ce c s al) (_hca:l<=ca) (ad:fk 2 (n:Int) C l F s=true):
  Calls prog 40 #[ii 2 (n:Int) A I C K,.slice a l ca,.slice b F b5,.slice c s b3] w λe J=>KS n (fA 2 C K Q X al) w e J:=by
 exact qdp
theorem w.qah(h:Zp:=by
 have H:V _:=fx am.lt k;have Y:V _:=fx av.lt k;have HE:V (∀u,fb u=fb (nd 3 (Q.getD k 0) (X.getD k 0) 0)->fb u=fb (fA 3 C K Q X al k)):=λu h=>by rw[h];simp[nd,fA]
 exact qfz):Zp:=h
theorem w.qdo(h:Zp:=by
 go_wp2_with (first|(go_at_call 61;refine(gh _ _ xaa xaa).mono ?_;rintro e af ⟨rfl,rfl⟩;simp only[show fF 3=true from rfl])|(at_builtin;refine wpList_append_own _ rfl _ _ 47 rfl aB.heap.size 49 bK (.float .f64 0) 1 8 underlying47 hi bU bO bR rfl xab _ _ _ rfl (z.alloc _) ⟨af.heap.size,0,none⟩ 1 1 [.float .f64 u] rfl rfl ?c1 ?c2 ?c3 ?c4 ?c5 ?_))
 case c1=>exact cell_one_new _ _ _
 case c2=>intro u aJ;simp at aJ;subst aJ;rfl
 case c3=>unfold maxLen;omega
 case c4=>omega
 case c5=>have:=x.size;simp;omega
 exact xba):Zp:=h
theorem w.qdq(h:Zp:=by
 rcases am.at_ with bp|⟨aG,bF,rfl,_,_,o,G⟩
 ·omega
 rcases av.at_ with bp|⟨bH,ab,rfl,_,_,R,ag⟩
 ·omega
 have U:V _:=(ez 0 0 w (eK 3 (n:Int) A I C K)).trans (ez 0 0 _ (eK 3 (n:Int) A I C K));have bb:((w.alloc (eK 3 (n:Int) A I C K)).alloc (eK 3 (n:Int) A I C K)).cell? ⟨w.heap.size,0,none⟩=some (hI 3):=by simp
 have N:((w.alloc (eK 3 (n:Int) A I C K)).alloc (eK 3 (n:Int) A I C K)).cell? ⟨w.heap.size,1,none⟩=some (hI n):=by simp
 have aI:((w.alloc (eK 3 (n:Int) A I C K)).alloc (eK 3 (n:Int) A I C K)).cell? ⟨w.heap.size,4,none⟩=some (hI C):=by simp
 have b9:((w.alloc (eK 3 (n:Int) A I C K)).alloc (eK 3 (n:Int) A I C K)).cell? ⟨w.heap.size,5,none⟩=some (.float .f64 K):=by simp
 have bs:w.heap.size<((w.alloc (eK 3 (n:Int) A I C K)).alloc (eK 3 (n:Int) A I C K)).heap.size:=by simp;omega
 go_enter func40,ntmps40;go_wp2_with fail;refine(kC _ 3 (n:Int) A I C K l F s).mono ?_;exact qgr):Zp:=h
theorem w.qga(h:Zp:=by
 go_wp2_with (first|(go_at_call 61;refine(gh _ _ xaa xaa).mono ?_;rintro e af ⟨rfl,rfl⟩;simp only[show fF 3=true from rfl])|(go_at_call 37;refine(iM _ _ xaa xaa).mono ?_;rintro e af ⟨rfl,rfl⟩;simp only[show iB 3=2 from rfl]));refine(rS 3 _ _ _ _ H.o Y.o xaa xaa).mono ?_;exact qdn):Zp:=h
theorem w.qgs(h:Zp:=by
 have bq:=il ((w.alloc (eK 3 (n:Int) A I C K)).alloc (eK 3 (n:Int) A I C K)) (fA 3 C K Q X al);generalize t:(w.alloc (eK 3 (n:Int) A I C K)).alloc (eK 3 (n:Int) A I C K)=aB at bb N aI b9 bs U bq⊢;clear t;go_loopw [9,10,11,12,13,14] (λv i _ _ _ _ W=>∃k:Nat,k<=n/\i=hI k/\Grow aB k (fA 3 C K Q X al) v W) (λ_ i _ _ _ _ _=>n-(intOf i).toNat)
 case atStart=>exact⟨0,Nat.zero_le _,rfl,bq⟩
 case round=>
  exact qho):Zp:=h
theorem w.qhp(h:Zp:=by
 by_cases aF:k<n
 ·exact qag
 exact xbk):Zp:=h
open w in
theorem wG(w A I C)(n K:Nat)(B:1<=n)(hn:n<=1000)(_hK:K<18446744073709551616)
  (am:FS w bN P a l Q) (av:FS w bP bj b F X) (_fc:FS w b8 ce c s al) (_hca:l<=ca) (ad:fk 3 (n:Int) C l F s=true):
  Calls prog 40 #[ii 3 (n:Int) A I C K,.slice a l ca,.slice b F b5,.slice c s b3] w λe J=>KS n (fA 3 C K Q X al) w e J:=by
 exact qdp
theorem x.qah(h:Zp:=by
 have H:V _:=fx am.lt k;have Y:V _:=fx av.lt k;have HE:V (∀u,fb u=fb (nd 4 (Q.getD k 0) (X.getD k 0) 0)->fb u=fb (fA 4 C K Q X al k)):=λu h=>by rw[h];simp[nd,fA]
 exact qfz):Zp:=h
theorem x.qdo(h:Zp:=by
 go_wp2_with (first|(go_at_call 61;refine(gh _ _ xaa xaa).mono ?_;rintro e af ⟨rfl,rfl⟩;simp only[show fF 4=true from rfl])|(at_builtin;refine wpList_append_own _ rfl _ _ 47 rfl aB.heap.size 49 bK (.float .f64 0) 1 8 underlying47 hi bU bO bR rfl xab _ _ _ rfl (z.alloc _) ⟨af.heap.size,0,none⟩ 1 1 [.float .f64 u] rfl rfl ?c1 ?c2 ?c3 ?c4 ?c5 ?_))
 case c1=>exact cell_one_new _ _ _
 case c2=>intro u aJ;simp at aJ;subst aJ;rfl
 case c3=>unfold maxLen;omega
 case c4=>omega
 case c5=>have:=x.size;simp;omega
 exact xba):Zp:=h
theorem x.qdq(h:Zp:=by
 rcases am.at_ with bp|⟨aG,bF,rfl,_,_,o,G⟩
 ·omega
 rcases av.at_ with bp|⟨bH,ab,rfl,_,_,R,ag⟩
 ·omega
 have U:V _:=(ez 0 0 w (eK 4 (n:Int) A I C K)).trans (ez 0 0 _ (eK 4 (n:Int) A I C K));have bb:((w.alloc (eK 4 (n:Int) A I C K)).alloc (eK 4 (n:Int) A I C K)).cell? ⟨w.heap.size,0,none⟩=some (hI 4):=by simp
 have N:((w.alloc (eK 4 (n:Int) A I C K)).alloc (eK 4 (n:Int) A I C K)).cell? ⟨w.heap.size,1,none⟩=some (hI n):=by simp
 have aI:((w.alloc (eK 4 (n:Int) A I C K)).alloc (eK 4 (n:Int) A I C K)).cell? ⟨w.heap.size,4,none⟩=some (hI C):=by simp
 have b9:((w.alloc (eK 4 (n:Int) A I C K)).alloc (eK 4 (n:Int) A I C K)).cell? ⟨w.heap.size,5,none⟩=some (.float .f64 K):=by simp
 have bs:w.heap.size<((w.alloc (eK 4 (n:Int) A I C K)).alloc (eK 4 (n:Int) A I C K)).heap.size:=by simp;omega
 go_enter func40,ntmps40;go_wp2_with fail;refine(kC _ 4 (n:Int) A I C K l F s).mono ?_;exact qgr):Zp:=h
theorem x.qga(h:Zp:=by
 go_wp2_with (first|(go_at_call 61;refine(gh _ _ xaa xaa).mono ?_;rintro e af ⟨rfl,rfl⟩;simp only[show fF 4=true from rfl])|(go_at_call 37;refine(iM _ _ xaa xaa).mono ?_;rintro e af ⟨rfl,rfl⟩;simp only[show iB 4=2 from rfl]));refine(rS 4 _ _ _ _ H.o Y.o xaa xaa).mono ?_;exact qdn):Zp:=h
theorem x.qgs(h:Zp:=by
 have bq:=il ((w.alloc (eK 4 (n:Int) A I C K)).alloc (eK 4 (n:Int) A I C K)) (fA 4 C K Q X al);generalize t:(w.alloc (eK 4 (n:Int) A I C K)).alloc (eK 4 (n:Int) A I C K)=aB at bb N aI b9 bs U bq⊢;clear t;go_loopw [9,10,11,12,13,14] (λv i _ _ _ _ W=>∃k:Nat,k<=n/\i=hI k/\Grow aB k (fA 4 C K Q X al) v W) (λ_ i _ _ _ _ _=>n-(intOf i).toNat)
 case atStart=>exact⟨0,Nat.zero_le _,rfl,bq⟩
 case round=>
  exact qho):Zp:=h
theorem x.qhp(h:Zp:=by
 by_cases aF:k<n
 ·exact qag
 exact xbk):Zp:=h
open x in
theorem wH(w A I C)(n K:Nat)(B:1<=n)(hn:n<=1000)(_hK:K<18446744073709551616)
  (am:FS w bN P a l Q) (av:FS w bP bj b F X) (_fc:FS w b8 ce c s al) (_hca:l<=ca) (ad:fk 4 (n:Int) C l F s=true):
  Calls prog 40 #[ii 4 (n:Int) A I C K,.slice a l ca,.slice b F b5,.slice c s b3] w λe J=>KS n (fA 4 C K Q X al) w e J:=by
 exact qdp
theorem y.qah(h:Zp:=by
 have H:V _:=fx am.lt k;have Y:V _:=fx av.lt k;have HE:V (∀u,fb u=fb (nd 5 (Q.getD k 0) (X.getD k 0) 0)->fb u=fb (fA 5 C K Q X al k)):=λu h=>by rw[h];simp[nd,fA]
 exact qfz):Zp:=h
theorem y.qdo(h:Zp:=by
 go_wp2_with (first|(go_at_call 61;refine(gh _ _ xaa xaa).mono ?_;rintro e af ⟨rfl,rfl⟩;simp only[show fF 5=true from rfl])|(at_builtin;refine wpList_append_own _ rfl _ _ 47 rfl aB.heap.size 49 bK (.float .f64 0) 1 8 underlying47 hi bU bO bR rfl xab _ _ _ rfl (z.alloc _) ⟨af.heap.size,0,none⟩ 1 1 [.float .f64 u] rfl rfl ?c1 ?c2 ?c3 ?c4 ?c5 ?_))
 case c1=>exact cell_one_new _ _ _
 case c2=>intro u aJ;simp at aJ;subst aJ;rfl
 case c3=>unfold maxLen;omega
 case c4=>omega
 case c5=>have:=x.size;simp;omega
 exact xba):Zp:=h
theorem y.qdq(h:Zp:=by
 rcases am.at_ with bp|⟨aG,bF,rfl,_,_,o,G⟩
 ·omega
 rcases av.at_ with bp|⟨bH,ab,rfl,_,_,R,ag⟩
 ·omega
 have U:V _:=(ez 0 0 w (eK 5 (n:Int) A I C K)).trans (ez 0 0 _ (eK 5 (n:Int) A I C K));have bb:((w.alloc (eK 5 (n:Int) A I C K)).alloc (eK 5 (n:Int) A I C K)).cell? ⟨w.heap.size,0,none⟩=some (hI 5):=by simp
 have N:((w.alloc (eK 5 (n:Int) A I C K)).alloc (eK 5 (n:Int) A I C K)).cell? ⟨w.heap.size,1,none⟩=some (hI n):=by simp
 have aI:((w.alloc (eK 5 (n:Int) A I C K)).alloc (eK 5 (n:Int) A I C K)).cell? ⟨w.heap.size,4,none⟩=some (hI C):=by simp
 have b9:((w.alloc (eK 5 (n:Int) A I C K)).alloc (eK 5 (n:Int) A I C K)).cell? ⟨w.heap.size,5,none⟩=some (.float .f64 K):=by simp
 have bs:w.heap.size<((w.alloc (eK 5 (n:Int) A I C K)).alloc (eK 5 (n:Int) A I C K)).heap.size:=by simp;omega
 go_enter func40,ntmps40;go_wp2_with fail;refine(kC _ 5 (n:Int) A I C K l F s).mono ?_;exact qgr):Zp:=h
theorem y.qga(h:Zp:=by
 go_wp2_with (first|(go_at_call 61;refine(gh _ _ xaa xaa).mono ?_;rintro e af ⟨rfl,rfl⟩;simp only[show fF 5=true from rfl])|(go_at_call 37;refine(iM _ _ xaa xaa).mono ?_;rintro e af ⟨rfl,rfl⟩;simp only[show iB 5=2 from rfl]));refine(rS 5 _ _ _ _ H.o Y.o xaa xaa).mono ?_;exact qdn):Zp:=h
theorem y.qgs(h:Zp:=by
 have bq:=il ((w.alloc (eK 5 (n:Int) A I C K)).alloc (eK 5 (n:Int) A I C K)) (fA 5 C K Q X al);generalize t:(w.alloc (eK 5 (n:Int) A I C K)).alloc (eK 5 (n:Int) A I C K)=aB at bb N aI b9 bs U bq⊢;clear t;go_loopw [9,10,11,12,13,14] (λv i _ _ _ _ W=>∃k:Nat,k<=n/\i=hI k/\Grow aB k (fA 5 C K Q X al) v W) (λ_ i _ _ _ _ _=>n-(intOf i).toNat)
 case atStart=>exact⟨0,Nat.zero_le _,rfl,bq⟩
 case round=>
  exact qho):Zp:=h
theorem y.qhp(h:Zp:=by
 by_cases aF:k<n
 ·exact qag
 exact xbk):Zp:=h
open y in
theorem wI(w A I C)(n K:Nat)(B:1<=n)(hn:n<=1000)(_hK:K<18446744073709551616)
  (am:FS w bN P a l Q) (av:FS w bP bj b F X) (_fc:FS w b8 ce c s al) (_hca:l<=ca) (ad:fk 5 (n:Int) C l F s=true):
  Calls prog 40 #[ii 5 (n:Int) A I C K,.slice a l ca,.slice b F b5,.slice c s b3] w λe J=>KS n (fA 5 C K Q X al) w e J:=by
 exact qdp
theorem B.qaj(h:Zp:=by
 have H:V _:=fx am.lt k;have HE:V (∀u,fb u=fb (nd 6 (Q.getD k 0) 0 0)->fb u=fb (fA 6 C K Q X al k)):=λu h=>by rw[h];simp[nd,fA]
 generalize Q.getD k 0=aj at Z H HE;have ao:(k:Int)<l:=xaa;go_wp2_with (first|(go_at_call 61;refine(gh _ _ xaa xaa).mono ?_;rintro e af ⟨rfl,rfl⟩;simp only[show fF 6=true from rfl])|(go_at_call 37;refine(iM _ _ xaa xaa).mono ?_;rintro e af ⟨rfl,rfl⟩;simp only[show iB 6=1 from rfl]));refine(rS 6 _ _ _ _ H.o xaa xaa xaa).mono ?_;exact qdn):Zp:=h
theorem B.qdo(h:Zp:=by
 go_wp2_with (first|(go_at_call 61;refine(gh _ _ xaa xaa).mono ?_;rintro e af ⟨rfl,rfl⟩;simp only[show fF 6=true from rfl])|(at_builtin;refine wpList_append_own _ rfl _ _ 47 rfl aB.heap.size 49 bK (.float .f64 0) 1 8 underlying47 hi bU bO bR rfl xab _ _ _ rfl (z.alloc _) ⟨af.heap.size,0,none⟩ 1 1 [.float .f64 u] rfl rfl ?c1 ?c2 ?c3 ?c4 ?c5 ?_))
 case c1=>exact cell_one_new _ _ _
 case c2=>intro u aJ;simp at aJ;subst aJ;rfl
 case c3=>unfold maxLen;omega
 case c4=>omega
 case c5=>have:=x.size;simp;omega
 exact xba):Zp:=h
theorem B.qej(h:Zp:=by
 by_cases aF:k<n
 ·exact qai
 exact xbk):Zp:=h
theorem B.qgs(h:Zp:=by
 have bq:=il ((w.alloc (eK 6 (n:Int) A I C K)).alloc (eK 6 (n:Int) A I C K)) (fA 6 C K Q X al);generalize t:(w.alloc (eK 6 (n:Int) A I C K)).alloc (eK 6 (n:Int) A I C K)=aB at bb N aI b9 bs U bq⊢;clear t;go_loopw [9,10,11,12,13,14] (λv i _ _ _ _ W=>∃k:Nat,k<=n/\i=hI k/\Grow aB k (fA 6 C K Q X al) v W) (λ_ i _ _ _ _ _=>n-(intOf i).toNat)
 case atStart=>exact⟨0,Nat.zero_le _,rfl,bq⟩
 case round=>
  exact qei):Zp:=h
theorem B.qib(h:Zp:=by
 rcases am.at_ with bp|⟨aG,bF,rfl,_,_,o,G⟩
 ·omega
 have U:V _:=(ez 0 0 w (eK 6 (n:Int) A I C K)).trans (ez 0 0 _ (eK 6 (n:Int) A I C K));have bb:((w.alloc (eK 6 (n:Int) A I C K)).alloc (eK 6 (n:Int) A I C K)).cell? ⟨w.heap.size,0,none⟩=some (hI 6):=by simp
 have N:((w.alloc (eK 6 (n:Int) A I C K)).alloc (eK 6 (n:Int) A I C K)).cell? ⟨w.heap.size,1,none⟩=some (hI n):=by simp
 have aI:((w.alloc (eK 6 (n:Int) A I C K)).alloc (eK 6 (n:Int) A I C K)).cell? ⟨w.heap.size,4,none⟩=some (hI C):=by simp
 have b9:((w.alloc (eK 6 (n:Int) A I C K)).alloc (eK 6 (n:Int) A I C K)).cell? ⟨w.heap.size,5,none⟩=some (.float .f64 K):=by simp
 have bs:w.heap.size<((w.alloc (eK 6 (n:Int) A I C K)).alloc (eK 6 (n:Int) A I C K)).heap.size:=by simp;omega
 go_enter func40,ntmps40;go_wp2_with fail;refine(kC _ 6 (n:Int) A I C K l F s).mono ?_;exact qgr):Zp:=h
open B in
theorem wJ(w A I C)(n K:Nat)(B:1<=n)(hn:n<=1000)(_hK:K<18446744073709551616)
  (am:FS w bN P a l Q) (_fb:FS w bP bj b F X) (_fc:FS w b8 ce c s al) (_hca:l<=ca) (ad:fk 6 (n:Int) C l F s=true):
  Calls prog 40 #[ii 6 (n:Int) A I C K,.slice a l ca,.slice b F b5,.slice c s b3] w λe J=>KS n (fA 6 C K Q X al) w e J:=by
 exact qia
theorem z.qah(h:Zp:=by
 have H:V _:=fx am.lt k;have Y:V _:=fx av.lt k;have HE:V (∀u,fb u=fb (nd 7 (Q.getD k 0) (X.getD k 0) 0)->fb u=fb (fA 7 C K Q X al k)):=λu h=>by rw[h];simp[nd,fA]
 exact qfz):Zp:=h
theorem z.qdo(h:Zp:=by
 go_wp2_with (first|(go_at_call 61;refine(gh _ _ xaa xaa).mono ?_;rintro e af ⟨rfl,rfl⟩;simp only[show fF 7=true from rfl])|(at_builtin;refine wpList_append_own _ rfl _ _ 47 rfl aB.heap.size 49 bK (.float .f64 0) 1 8 underlying47 hi bU bO bR rfl xab _ _ _ rfl (z.alloc _) ⟨af.heap.size,0,none⟩ 1 1 [.float .f64 u] rfl rfl ?c1 ?c2 ?c3 ?c4 ?c5 ?_))
 case c1=>exact cell_one_new _ _ _
 case c2=>intro u aJ;simp at aJ;subst aJ;rfl
 case c3=>unfold maxLen;omega
 case c4=>omega
 case c5=>have:=x.size;simp;omega
 exact xba):Zp:=h
theorem z.qdq(h:Zp:=by
 rcases am.at_ with bp|⟨aG,bF,rfl,_,_,o,G⟩
 ·omega
 rcases av.at_ with bp|⟨bH,ab,rfl,_,_,R,ag⟩
 ·omega
 have U:V _:=(ez 0 0 w (eK 7 (n:Int) A I C K)).trans (ez 0 0 _ (eK 7 (n:Int) A I C K));have bb:((w.alloc (eK 7 (n:Int) A I C K)).alloc (eK 7 (n:Int) A I C K)).cell? ⟨w.heap.size,0,none⟩=some (hI 7):=by simp
 have N:((w.alloc (eK 7 (n:Int) A I C K)).alloc (eK 7 (n:Int) A I C K)).cell? ⟨w.heap.size,1,none⟩=some (hI n):=by simp
 have aI:((w.alloc (eK 7 (n:Int) A I C K)).alloc (eK 7 (n:Int) A I C K)).cell? ⟨w.heap.size,4,none⟩=some (hI C):=by simp
 have b9:((w.alloc (eK 7 (n:Int) A I C K)).alloc (eK 7 (n:Int) A I C K)).cell? ⟨w.heap.size,5,none⟩=some (.float .f64 K):=by simp
 have bs:w.heap.size<((w.alloc (eK 7 (n:Int) A I C K)).alloc (eK 7 (n:Int) A I C K)).heap.size:=by simp;omega
 go_enter func40,ntmps40;go_wp2_with fail;refine(kC _ 7 (n:Int) A I C K l F s).mono ?_;exact qgr):Zp:=h
theorem z.qga(h:Zp:=by
 go_wp2_with (first|(go_at_call 61;refine(gh _ _ xaa xaa).mono ?_;rintro e af ⟨rfl,rfl⟩;simp only[show fF 7=true from rfl])|(go_at_call 37;refine(iM _ _ xaa xaa).mono ?_;rintro e af ⟨rfl,rfl⟩;simp only[show iB 7=2 from rfl]));refine(rS 7 _ _ _ _ H.o Y.o xaa xaa).mono ?_;exact qdn):Zp:=h
theorem z.qgs(h:Zp:=by
 have bq:=il ((w.alloc (eK 7 (n:Int) A I C K)).alloc (eK 7 (n:Int) A I C K)) (fA 7 C K Q X al);generalize t:(w.alloc (eK 7 (n:Int) A I C K)).alloc (eK 7 (n:Int) A I C K)=aB at bb N aI b9 bs U bq⊢;clear t;go_loopw [9,10,11,12,13,14] (λv i _ _ _ _ W=>∃k:Nat,k<=n/\i=hI k/\Grow aB k (fA 7 C K Q X al) v W) (λ_ i _ _ _ _ _=>n-(intOf i).toNat)
 case atStart=>exact⟨0,Nat.zero_le _,rfl,bq⟩
 case round=>
  exact qho):Zp:=h
theorem z.qhp(h:Zp:=by
 by_cases aF:k<n
 ·exact qag
 exact xbk):Zp:=h
open z in
theorem wK(w A I C)(n K:Nat)(B:1<=n)(hn:n<=1000)(_hK:K<18446744073709551616)
  (am:FS w bN P a l Q) (av:FS w bP bj b F X) (_fc:FS w b8 ce c s al) (_hca:l<=ca) (ad:fk 7 (n:Int) C l F s=true):
  Calls prog 40 #[ii 7 (n:Int) A I C K,.slice a l ca,.slice b F b5,.slice c s b3] w λe J=>KS n (fA 7 C K Q X al) w e J:=by
 exact qdp
theorem A.qah(h:Zp:=by
 have ay:=eQ r (yaj au U.o.size) ((by rw[U.o.cell (p:=⟨ah,a5+k,none⟩) au xaa];exact ax k xaa):aB.cell? ⟨ah,a5+k,none⟩=some (.float .f64 (al.getD k 0)));have H:V _:=fx am.lt k;have Y:V _:=fx av.lt k;have ar:V _:=fx y.lt k;have HE:V (∀u,fb u=fb (nd 8 (Q.getD k 0) (X.getD k 0) (al.getD k 0))->fb u=fb (fA 8 C K Q X al k)):=λu h=>by rw[h];simp[nd,fA]
 generalize Q.getD k 0=aj at Z H HE;generalize X.getD k 0=ap at ai Y HE;generalize al.getD k 0=aA at ay ar HE;have ao:(k:Int)<l:=xaa;have aN:(k:Int)<F:=xaa;have S:(k:Int)<s:=xaa;go_wp2_with (first|(go_at_call 61;refine(gh _ _ xaa xaa).mono ?_;rintro e af ⟨rfl,rfl⟩;simp only[show fF 8=true from rfl])|(go_at_call 37;refine(iM _ _ xaa xaa).mono ?_;rintro e af ⟨rfl,rfl⟩;simp only[show iB 8=3 from rfl]));refine(rS 8 _ _ _ _ H.o Y.o ar.o xaa).mono ?_;exact qdn):Zp:=h
theorem A.qdo(h:Zp:=by
 go_wp2_with (first|(go_at_call 61;refine(gh _ _ xaa xaa).mono ?_;rintro e af ⟨rfl,rfl⟩;simp only[show fF 8=true from rfl])|(at_builtin;refine wpList_append_own _ rfl _ _ 47 rfl aB.heap.size 49 bK (.float .f64 0) 1 8 underlying47 hi bU bO bR rfl xab _ _ _ rfl (z.alloc _) ⟨af.heap.size,0,none⟩ 1 1 [.float .f64 u] rfl rfl ?c1 ?c2 ?c3 ?c4 ?c5 ?_))
 case c1=>exact cell_one_new _ _ _
 case c2=>intro u aJ;simp at aJ;subst aJ;rfl
 case c3=>unfold maxLen;omega
 case c4=>omega
 case c5=>have:=x.size;simp;omega
 exact xba):Zp:=h
theorem A.qej(h:Zp:=by
 by_cases aF:k<n
 ·exact qag
 exact xbk):Zp:=h
theorem A.qgs(h:Zp:=by
 have bq:=il ((w.alloc (eK 8 (n:Int) A I C K)).alloc (eK 8 (n:Int) A I C K)) (fA 8 C K Q X al);generalize t:(w.alloc (eK 8 (n:Int) A I C K)).alloc (eK 8 (n:Int) A I C K)=aB at bb N aI b9 bs U bq⊢;clear t;go_loopw [9,10,11,12,13,14] (λv i _ _ _ _ W=>∃k:Nat,k<=n/\i=hI k/\Grow aB k (fA 8 C K Q X al) v W) (λ_ i _ _ _ _ _=>n-(intOf i).toNat)
 case atStart=>exact⟨0,Nat.zero_le _,rfl,bq⟩
 case round=>
  exact qei):Zp:=h
open A in
theorem wL(w A I C)(n K:Nat)(B:1<=n)(hn:n<=1000)(_hK:K<18446744073709551616)
  (am:FS w bN P a l Q) (av:FS w bP bj b F X) (y:FS w b8 ce c s al) (_hca:l<=ca) (ad:fk 8 (n:Int) C l F s=true):
  Calls prog 40 #[ii 8 (n:Int) A I C K,.slice a l ca,.slice b F b5,.slice c s b3] w λe J=>KS n (fA 8 C K Q X al) w e J:=by
 have aw:=ad;obtain⟨bK,hi,bU,bO,bR⟩:=info_parts lG;have f:(l<=n/\n<=l)/\(F<=n/\n<=F)/\(s<=n/\n<=s):=by simp[fk,eR,cnt,lenB]at aw;omega
 obtain⟨⟨b1,ak⟩,⟨cf,aq⟩,⟨aQ,az⟩⟩:=f;clear aw;rcases am.at_ with bp|⟨aG,bF,rfl,_,_,o,G⟩
 ·omega
 rcases av.at_ with bp|⟨bH,ab,rfl,_,_,R,ag⟩
 ·omega
 rcases y.at_ with bp|⟨ah,a5,rfl,_,_,au,ax⟩
 ·omega
 have U:V _:=(ez 0 0 w (eK 8 (n:Int) A I C K)).trans (ez 0 0 _ (eK 8 (n:Int) A I C K));have bb:((w.alloc (eK 8 (n:Int) A I C K)).alloc (eK 8 (n:Int) A I C K)).cell? ⟨w.heap.size,0,none⟩=some (hI 8):=by simp
 have N:((w.alloc (eK 8 (n:Int) A I C K)).alloc (eK 8 (n:Int) A I C K)).cell? ⟨w.heap.size,1,none⟩=some (hI n):=by simp
 have aI:((w.alloc (eK 8 (n:Int) A I C K)).alloc (eK 8 (n:Int) A I C K)).cell? ⟨w.heap.size,4,none⟩=some (hI C):=by simp
 have b9:((w.alloc (eK 8 (n:Int) A I C K)).alloc (eK 8 (n:Int) A I C K)).cell? ⟨w.heap.size,5,none⟩=some (.float .f64 K):=by simp
 have bs:w.heap.size<((w.alloc (eK 8 (n:Int) A I C K)).alloc (eK 8 (n:Int) A I C K)).heap.size:=by simp;omega
 go_enter func40,ntmps40;go_wp2_with fail;refine(kC _ 8 (n:Int) A I C K l F s).mono ?_;exact qgr
theorem cZ.qdo(h:Zp:=by
 go_wp2_with (first|(go_at_call 61;refine(gh _ _ xaa xaa).mono ?_;rintro e af ⟨rfl,rfl⟩;simp only[show fF 9=false from rfl])|(at_builtin;refine wpList_append_own _ rfl _ _ 47 rfl aB.heap.size 49 bK (.float .f64 0) 1 8 underlying47 hi bU bO bR rfl xab _ _ _ rfl (z.alloc _) ⟨af.heap.size,0,none⟩ 1 1 [.float .f64 u] rfl rfl ?c1 ?c2 ?c3 ?c4 ?c5 ?_))
 case c1=>exact cell_one_new _ _ _
 case c2=>intro u aJ;simp at aJ;subst aJ;rfl
 case c3=>unfold maxLen;omega
 case c4=>omega
 case c5=>have:=x.size;simp;omega
 exact xba):Zp:=h
theorem cZ.qgs(h:Zp:=by
 have bq:=il ((w.alloc (eK 9 (n:Int) A I C K)).alloc (eK 9 (n:Int) A I C K)) (fA 9 C K Q X al);generalize t:(w.alloc (eK 9 (n:Int) A I C K)).alloc (eK 9 (n:Int) A I C K)=aB at bb N aI b9 bs U bq⊢;clear t;go_loopw [9,10,11,12,13,14] (λv i _ _ _ _ W=>∃k:Nat,k<=n/\i=hI k/\Grow aB k (fA 9 C K Q X al) v W) (λ_ i _ _ _ _ _=>n-(intOf i).toNat)
 case atStart=>exact⟨0,Nat.zero_le _,rfl,bq⟩
 case round=>
  exact qho):Zp:=h
theorem cZ.qhp(h:Zp:=by
 by_cases aF:k<n
 ·obtain⟨zs,aT,m,j,g,_⟩:=an;have bD:=eQ r bs bb;have d5:=eQ r bs b9;have HE:V (∀u,fb u=fb (kR Q)->fb u=fb (fA 9 C K Q X al k)):=λu h=>by rw[h];simp[fA]
  have aG:=am.keep (U.o.trans r) yaa;have G:V _:=aG;clear aG;go_wp2_with (go_at_call 61;refine(gh _ _ xaa xaa).mono ?_;rintro e af ⟨rfl,rfl⟩;simp only[show fF 9=false from rfl]);refine(OQ _ l f.2.1 f.2.2 G.o Z).mono ?_;exact qdn
 exact xbk):Zp:=h
open cZ in
theorem wM(w A I C)(n K:Nat)(B:1<=n)(hn:n<=1000)(_hK:K<18446744073709551616)
  (am:FS w bN P a l Q) (_fb:FS w bP bj b F X) (_fc:FS w b8 ce c s al) (Z:l<=ca) (ad:fk 9 (n:Int) C l F s=true):
  Calls prog 40 #[ii 9 (n:Int) A I C K,.slice a l ca,.slice b F b5,.slice c s b3] w λe J=>KS n (fA 9 C K Q X al) w e J:=by
 have aw:=ad;obtain⟨bK,hi,bU,bO,bR⟩:=info_parts lG;have f:n<=1/\1<=l/\l<=1000:=by simp[fk,eR,cnt,lenB]at aw;omega
 clear aw;have U:V _:=(ez 0 0 w (eK 9 (n:Int) A I C K)).trans (ez 0 0 _ (eK 9 (n:Int) A I C K));have bb:((w.alloc (eK 9 (n:Int) A I C K)).alloc (eK 9 (n:Int) A I C K)).cell? ⟨w.heap.size,0,none⟩=some (hI 9):=by simp
 have N:((w.alloc (eK 9 (n:Int) A I C K)).alloc (eK 9 (n:Int) A I C K)).cell? ⟨w.heap.size,1,none⟩=some (hI n):=by simp
 have aI:((w.alloc (eK 9 (n:Int) A I C K)).alloc (eK 9 (n:Int) A I C K)).cell? ⟨w.heap.size,4,none⟩=some (hI C):=by simp
 have b9:((w.alloc (eK 9 (n:Int) A I C K)).alloc (eK 9 (n:Int) A I C K)).cell? ⟨w.heap.size,5,none⟩=some (.float .f64 K):=by simp
 have bs:w.heap.size<((w.alloc (eK 9 (n:Int) A I C K)).alloc (eK 9 (n:Int) A I C K)).heap.size:=by simp;omega
 go_enter func40,ntmps40;go_wp2_with fail;refine(kC _ 9 (n:Int) A I C K l F s).mono ?_;exact qgr
theorem bL.qbw(h:Zp:=by
 have HE:V (fb (Q.getD 0 0)=fb (fA 10 C K Q X al k)):=by show fb (Q.getD 0 0)=fb (fA 10 C K Q X al k);simp[fA]
 clear cx;generalize Q.getD 0 0=a9 at bL bh HE;go_wp2_with (first|(go_at_call 61;refine(gh _ _ xaa xaa).mono ?_;rintro e af ⟨rfl,rfl⟩;simp only[show fF 10=false from rfl])|(at_builtin;refine wpList_append_own _ rfl _ _ 47 rfl aB.heap.size 49 bK (.float .f64 0) 1 8 underlying47 hi bU bO bR rfl xab _ _ _ rfl (aT.alloc _) ⟨wr.heap.size,0,none⟩ 1 1 [.float .f64 a9] rfl rfl ?c1 ?c2 ?c3 ?c4 ?c5 ?_))
 case c1=>exact cell_one_new _ _ _
 case c2=>intro u aJ;simp at aJ;subst aJ;rfl
 case c3=>unfold maxLen;omega
 case c4=>omega
 case c5=>have:=r.size;simp;omega
 exact xdq):Zp:=h
theorem bL.qej(h:Zp:=by
 by_cases aF:k<n
 ·exact qbv
 exact xbk):Zp:=h
theorem bL.qgs(h:Zp:=by
 have bq:=il ((w.alloc (eK 10 (n:Int) A I C K)).alloc (eK 10 (n:Int) A I C K)) (fA 10 C K Q X al);generalize t:(w.alloc (eK 10 (n:Int) A I C K)).alloc (eK 10 (n:Int) A I C K)=aB at bb N aI b9 bs U bq⊢;clear t;go_loopw [9,10,11,12,13,14] (λv i _ _ _ _ W=>∃k:Nat,k<=n/\i=hI k/\Grow aB k (fA 10 C K Q X al) v W) (λ_ i _ _ _ _ _=>n-(intOf i).toNat)
 case atStart=>exact⟨0,Nat.zero_le _,rfl,bq⟩
 case round=>
  exact qei):Zp:=h
open bL in
theorem uy(w A I C)(n K:Nat)(B:1<=n)(hn:n<=1000)(_hK:K<18446744073709551616)
  (am:FS w bN P a l Q) (_fb:FS w bP bj b F X) (_fc:FS w b8 ce c s al) (_hca:l<=ca) (ad:fk 10 (n:Int) C l F s=true):
  Calls prog 40 #[ii 10 (n:Int) A I C K,.slice a l ca,.slice b F b5,.slice c s b3] w λe J=>KS n (fA 10 C K Q X al) w e J:=by
 have aw:=ad;obtain⟨bK,hi,bU,bO,bR⟩:=info_parts lG;have f:l<=1/\1<=l:=by simp[fk,eR,cnt,lenB]at aw;omega
 clear aw;rcases am.at_ with bp|⟨aG,bF,rfl,_,_,o,G⟩
 ·omega
 have U:V _:=(ez 0 0 w (eK 10 (n:Int) A I C K)).trans (ez 0 0 _ (eK 10 (n:Int) A I C K));have bb:((w.alloc (eK 10 (n:Int) A I C K)).alloc (eK 10 (n:Int) A I C K)).cell? ⟨w.heap.size,0,none⟩=some (hI 10):=by simp
 have N:((w.alloc (eK 10 (n:Int) A I C K)).alloc (eK 10 (n:Int) A I C K)).cell? ⟨w.heap.size,1,none⟩=some (hI n):=by simp
 have aI:((w.alloc (eK 10 (n:Int) A I C K)).alloc (eK 10 (n:Int) A I C K)).cell? ⟨w.heap.size,4,none⟩=some (hI C):=by simp
 have b9:((w.alloc (eK 10 (n:Int) A I C K)).alloc (eK 10 (n:Int) A I C K)).cell? ⟨w.heap.size,5,none⟩=some (.float .f64 K):=by simp
 have bs:w.heap.size<((w.alloc (eK 10 (n:Int) A I C K)).alloc (eK 10 (n:Int) A I C K)).heap.size:=by simp;omega
 go_enter func40,ntmps40;go_wp2_with fail;refine(kC _ 10 (n:Int) A I C K l F s).mono ?_;exact qgr
theorem dE.qej(h:Zp:=by
 by_cases aF:k<n
 ·obtain⟨zs,aT,m,j,g,_⟩:=an;have bD:=eQ r bs bb;have d5:=eQ r bs b9;have cx:aB.cell? ⟨aG,bF+p,none⟩=some (.float .f64 (Q.getD p 0)):=by rw[U.o.cell (p:=⟨aG,bF+p,none⟩) o xaa];exact G p xaa
  have bL:=eQ r (yaj o U.o.size) cx;have bh:Q.getD p 0<18446744073709551616:=fx am.lt p;have ao:(p:Int)<l:=xaa;have d4:=eQ r bs aI;have HE:V (fb (Q.getD p 0)=fb (fA 11 (p:Int) K Q X al k)):=by show fb (Q.getD p 0)=fb (fA 11 (p:Int) K Q X al k);simp[fA]
  clear cx;generalize Q.getD p 0=a9 at bL bh HE;go_wp2_with (first|(go_at_call 61;refine(gh _ _ xaa xaa).mono ?_;rintro e af ⟨rfl,rfl⟩;simp only[show fF 11=false from rfl])|(at_builtin;refine wpList_append_own _ rfl _ _ 47 rfl aB.heap.size 49 bK (.float .f64 0) 1 8 underlying47 hi bU bO bR rfl xab _ _ _ rfl (aT.alloc _) ⟨wr.heap.size,0,none⟩ 1 1 [.float .f64 a9] rfl rfl ?c1 ?c2 ?c3 ?c4 ?c5 ?_))
  case c1=>exact cell_one_new _ _ _
  case c2=>intro u aJ;simp at aJ;subst aJ;rfl
  case c3=>unfold maxLen;omega
  case c4=>omega
  case c5=>have:=r.size;simp;omega
  exact xdq
 exact xbk):Zp:=h
theorem dE.qgs(h:Zp:=by
 have bq:=il ((w.alloc (eK 11 (n:Int) A I (p:Int) K)).alloc (eK 11 (n:Int) A I (p:Int) K)) (fA 11 (p:Int) K Q X al);generalize t:(w.alloc (eK 11 (n:Int) A I (p:Int) K)).alloc (eK 11 (n:Int) A I (p:Int) K)=aB at bb N aI b9 bs U bq⊢;clear t;go_loopw [9,10,11,12,13,14] (λv i _ _ _ _ W=>∃k:Nat,k<=n/\i=hI k/\Grow aB k (fA 11 (p:Int) K Q X al) v W) (λ_ i _ _ _ _ _=>n-(intOf i).toNat)
 case atStart=>exact⟨0,Nat.zero_le _,rfl,bq⟩
 case round=>
  exact qei):Zp:=h
open dE in
theorem uz(w A I C)(n K:Nat)(B:1<=n)(hn:n<=1000)(_hK:K<18446744073709551616)
  (am:FS w bN P a l Q) (_fb:FS w bP bj b F X) (_fc:FS w b8 ce c s al) (_hca:l<=ca) (ad:fk 11 (n:Int) C l F s=true):
  Calls prog 40 #[ii 11 (n:Int) A I C K,.slice a l ca,.slice b F b5,.slice c s b3] w λe J=>KS n (fA 11 C K Q X al) w e J:=by
 have aw:=ad;obtain⟨bK,hi,bU,bO,bR⟩:=info_parts lG;have f:n<=1/\1<=l/\l<=1000/\0<=C/\C<(l:Int):=by simp[fk,eR,cnt,lenB,fI]at aw;omega
 obtain⟨p,rfl⟩:=Int.eq_ofNat_of_zero_le f.2.2.2.1;clear aw;rcases am.at_ with bp|⟨aG,bF,rfl,_,_,o,G⟩
 ·omega
 have U:V _:=(ez 0 0 w (eK 11 (n:Int) A I (p:Int) K)).trans (ez 0 0 _ (eK 11 (n:Int) A I (p:Int) K));have bb:((w.alloc (eK 11 (n:Int) A I (p:Int) K)).alloc (eK 11 (n:Int) A I (p:Int) K)).cell? ⟨w.heap.size,0,none⟩=some (hI 11):=by simp
 have N:((w.alloc (eK 11 (n:Int) A I (p:Int) K)).alloc (eK 11 (n:Int) A I (p:Int) K)).cell? ⟨w.heap.size,1,none⟩=some (hI n):=by simp
 have aI:((w.alloc (eK 11 (n:Int) A I (p:Int) K)).alloc (eK 11 (n:Int) A I (p:Int) K)).cell? ⟨w.heap.size,4,none⟩=some (hI p):=by simp
 have b9:((w.alloc (eK 11 (n:Int) A I (p:Int) K)).alloc (eK 11 (n:Int) A I (p:Int) K)).cell? ⟨w.heap.size,5,none⟩=some (.float .f64 K):=by simp
 have bs:w.heap.size<((w.alloc (eK 11 (n:Int) A I (p:Int) K)).alloc (eK 11 (n:Int) A I (p:Int) K)).heap.size:=by simp;omega
 go_enter func40,ntmps40;go_wp2_with fail;refine(kC _ 11 (n:Int) A I (p:Int) K l F s).mono ?_;exact qgr
theorem bM.qbw(h:Zp:=by
 have d4:=eQ r bs aI;by_cases h:k=p
 ·have HE:V (fb (Q.getD 0 0)=fb (fA 12 (p:Int) K Q X al k)):=by show fb (Q.getD 0 0)=fb (fA 12 (p:Int) K Q X al k);simp[fA,h]
  have Z:((k:Int)==p)=true:=beq_iff_eq.2 xaa;clear h;generalize Q.getD 0 0=a9 at bL bh HE;go_wp2_with (first|(go_at_call 61;refine(gh _ _ xaa xaa).mono ?_;rintro e af ⟨rfl,rfl⟩;simp only[show fF 12=false from rfl])|(at_builtin;refine wpList_append_own _ rfl _ _ 47 rfl aB.heap.size 49 bK (.float .f64 0) 1 8 underlying47 hi bU bO bR rfl xab _ _ _ rfl (aT.alloc _) ⟨wr.heap.size,0,none⟩ 1 1 [.float .f64 a9] rfl rfl ?c1 ?c2 ?c3 ?c4 ?c5 ?_))
  case c1=>exact cell_one_new _ _ _
  case c2=>intro u aJ;simp at aJ;subst aJ;rfl
  case c3=>unfold maxLen;omega
  case c4=>omega
  case c5=>have:=r.size;simp;omega
  exact xdq
 have HE:V (fb 0=fb (fA 12 (p:Int) K Q X al k)):=by show fb 0=fb (fA 12 (p:Int) K Q X al k);simp[fA,h]
 have Z:((k:Int)==p)=false:=yam xaa;clear h bL bh;go_wp2_with (first|(go_at_call 61;refine(gh _ _ xaa xaa).mono ?_;rintro e af ⟨rfl,rfl⟩;simp only[show fF 12=false from rfl])|(at_builtin;refine wpList_append_own _ rfl _ _ 47 rfl aB.heap.size 49 bK (.float .f64 0) 1 8 underlying47 hi bU bO bR rfl xab _ _ _ rfl (aT.alloc _) ⟨wr.heap.size,0,none⟩ 1 1 [.float .f64 0] rfl rfl ?d1 ?d2 ?d3 ?d4 ?d5 ?_))
 case d1=>exact cell_one_new _ _ _
 case d2=>intro u aJ;simp at aJ;subst aJ;rfl
 case d3=>unfold maxLen;omega
 case d4=>omega
 case d5=>have:=r.size;simp;omega
 intro v' bo bB bw _;have aa:V _:=Grow.step aT m j g r xaa HE.o bB bw;exact xaz):Zp:=h
theorem bM.qej(h:Zp:=by
 by_cases aF:k<n
 ·exact qbv
 exact xbk):Zp:=h
theorem bM.qgs(h:Zp:=by
 have bq:=il ((w.alloc (eK 12 (n:Int) A I (p:Int) K)).alloc (eK 12 (n:Int) A I (p:Int) K)) (fA 12 (p:Int) K Q X al);generalize t:(w.alloc (eK 12 (n:Int) A I (p:Int) K)).alloc (eK 12 (n:Int) A I (p:Int) K)=aB at bb N aI b9 bs U bq⊢;clear t;go_loopw [9,10,11,12,13,14] (λv i _ _ _ _ W=>∃k:Nat,k<=n/\i=hI k/\Grow aB k (fA 12 (p:Int) K Q X al) v W) (λ_ i _ _ _ _ _=>n-(intOf i).toNat)
 case atStart=>exact⟨0,Nat.zero_le _,rfl,bq⟩
 case round=>
  exact qei):Zp:=h
open bM in
theorem uA(w A I C)(n K:Nat)(B:1<=n)(hn:n<=1000)(_hK:K<18446744073709551616)
  (am:FS w bN P a l Q) (_fb:FS w bP bj b F X) (_fc:FS w b8 ce c s al) (_hca:l<=ca) (ad:fk 12 (n:Int) C l F s=true):
  Calls prog 40 #[ii 12 (n:Int) A I C K,.slice a l ca,.slice b F b5,.slice c s b3] w λe J=>KS n (fA 12 C K Q X al) w e J:=by
 have aw:=ad;obtain⟨bK,hi,bU,bO,bR⟩:=info_parts lG;have f:(l<=1/\1<=l)/\0<=C/\C<(n:Int):=by simp[fk,eR,cnt,lenB,fI]at aw;omega
 obtain⟨p,rfl⟩:=Int.eq_ofNat_of_zero_le f.2.1;clear aw;rcases am.at_ with bp|⟨aG,bF,rfl,_,_,o,G⟩
 ·omega
 have U:V _:=(ez 0 0 w (eK 12 (n:Int) A I (p:Int) K)).trans (ez 0 0 _ (eK 12 (n:Int) A I (p:Int) K));have bb:((w.alloc (eK 12 (n:Int) A I (p:Int) K)).alloc (eK 12 (n:Int) A I (p:Int) K)).cell? ⟨w.heap.size,0,none⟩=some (hI 12):=by simp
 have N:((w.alloc (eK 12 (n:Int) A I (p:Int) K)).alloc (eK 12 (n:Int) A I (p:Int) K)).cell? ⟨w.heap.size,1,none⟩=some (hI n):=by simp
 have aI:((w.alloc (eK 12 (n:Int) A I (p:Int) K)).alloc (eK 12 (n:Int) A I (p:Int) K)).cell? ⟨w.heap.size,4,none⟩=some (hI p):=by simp
 have b9:((w.alloc (eK 12 (n:Int) A I (p:Int) K)).alloc (eK 12 (n:Int) A I (p:Int) K)).cell? ⟨w.heap.size,5,none⟩=some (.float .f64 K):=by simp
 have bs:w.heap.size<((w.alloc (eK 12 (n:Int) A I (p:Int) K)).alloc (eK 12 (n:Int) A I (p:Int) K)).heap.size:=by simp;omega
 go_enter func40,ntmps40;go_wp2_with fail;refine(kC _ 12 (n:Int) A I (p:Int) K l F s).mono ?_;exact qgr
theorem C.qaj(h:Zp:=by
 have H:V _:=fx am.lt k;have HE:V (∀u,fb u=fb (nd 13 (Q.getD k 0) 0 0)->fb u=fb (fA 13 C K Q X al k)):=λu h=>by rw[h];simp[nd,fA]
 generalize Q.getD k 0=aj at Z H HE;have ao:(k:Int)<l:=xaa;go_wp2_with (first|(go_at_call 61;refine(gh _ _ xaa xaa).mono ?_;rintro e af ⟨rfl,rfl⟩;simp only[show fF 13=true from rfl])|(go_at_call 37;refine(iM _ _ xaa xaa).mono ?_;rintro e af ⟨rfl,rfl⟩;simp only[show iB 13=1 from rfl]));refine(rS 13 _ _ _ _ H.o xaa xaa xaa).mono ?_;exact qdn):Zp:=h
theorem C.qdo(h:Zp:=by
 go_wp2_with (first|(go_at_call 61;refine(gh _ _ xaa xaa).mono ?_;rintro e af ⟨rfl,rfl⟩;simp only[show fF 13=true from rfl])|(at_builtin;refine wpList_append_own _ rfl _ _ 47 rfl aB.heap.size 49 bK (.float .f64 0) 1 8 underlying47 hi bU bO bR rfl xab _ _ _ rfl (z.alloc _) ⟨af.heap.size,0,none⟩ 1 1 [.float .f64 u] rfl rfl ?c1 ?c2 ?c3 ?c4 ?c5 ?_))
 case c1=>exact cell_one_new _ _ _
 case c2=>intro u aJ;simp at aJ;subst aJ;rfl
 case c3=>unfold maxLen;omega
 case c4=>omega
 case c5=>have:=x.size;simp;omega
 exact xba):Zp:=h
theorem C.qej(h:Zp:=by
 by_cases aF:k<n
 ·exact qai
 exact xbk):Zp:=h
theorem C.qgs(h:Zp:=by
 have bq:=il ((w.alloc (eK 13 (n:Int) A I C K)).alloc (eK 13 (n:Int) A I C K)) (fA 13 C K Q X al);generalize t:(w.alloc (eK 13 (n:Int) A I C K)).alloc (eK 13 (n:Int) A I C K)=aB at bb N aI b9 bs U bq⊢;clear t;go_loopw [9,10,11,12,13,14] (λv i _ _ _ _ W=>∃k:Nat,k<=n/\i=hI k/\Grow aB k (fA 13 C K Q X al) v W) (λ_ i _ _ _ _ _=>n-(intOf i).toNat)
 case atStart=>exact⟨0,Nat.zero_le _,rfl,bq⟩
 case round=>
  exact qei):Zp:=h
theorem C.qib(h:Zp:=by
 rcases am.at_ with bp|⟨aG,bF,rfl,_,_,o,G⟩
 ·omega
 have U:V _:=(ez 0 0 w (eK 13 (n:Int) A I C K)).trans (ez 0 0 _ (eK 13 (n:Int) A I C K));have bb:((w.alloc (eK 13 (n:Int) A I C K)).alloc (eK 13 (n:Int) A I C K)).cell? ⟨w.heap.size,0,none⟩=some (hI 13):=by simp
 have N:((w.alloc (eK 13 (n:Int) A I C K)).alloc (eK 13 (n:Int) A I C K)).cell? ⟨w.heap.size,1,none⟩=some (hI n):=by simp
 have aI:((w.alloc (eK 13 (n:Int) A I C K)).alloc (eK 13 (n:Int) A I C K)).cell? ⟨w.heap.size,4,none⟩=some (hI C):=by simp
 have b9:((w.alloc (eK 13 (n:Int) A I C K)).alloc (eK 13 (n:Int) A I C K)).cell? ⟨w.heap.size,5,none⟩=some (.float .f64 K):=by simp
 have bs:w.heap.size<((w.alloc (eK 13 (n:Int) A I C K)).alloc (eK 13 (n:Int) A I C K)).heap.size:=by simp;omega
 go_enter func40,ntmps40;go_wp2_with fail;refine(kC _ 13 (n:Int) A I C K l F s).mono ?_;exact qgr):Zp:=h
open C in
theorem uB(w A I C)(n K:Nat)(B:1<=n)(hn:n<=1000)(_hK:K<18446744073709551616)
  (am:FS w bN P a l Q) (_fb:FS w bP bj b F X) (_fc:FS w b8 ce c s al) (_hca:l<=ca) (ad:fk 13 (n:Int) C l F s=true):
  Calls prog 40 #[ii 13 (n:Int) A I C K,.slice a l ca,.slice b F b5,.slice c s b3] w λe J=>KS n (fA 13 C K Q X al) w e J:=by
 exact qia
def fld (v:Vl)(k:Nat):Int:=if k=0 then v.a else if k=1 then v.b else v.c
theorem nf(w v)(k:Nat)(O:k<3):
  Calls prog 38 #[v.agg,hI k] w λe J=>e=.returned (hI (fld v k))/\Kept 0 0 w J:=by
 rcases (by omega:k=0\/k=1\/k=2) with rfl|rfl|rfl
 all_goals
  go_enter func38,ntmps38
  go_wp2
  go_ret
  exact⟨rfl,ez _ _ _ _⟩
theorem AF(w lo hi a n cap xs)(f:IS w lo hi a n xs)(hn:n<=20):
  Calls prog 15 #[.slice a n cap] w λe J=>e=.returned (.bool (xs.all lenB))/\Kept 0 0 w J:=by
 have aP:V _:=f;have HL:V (xs.length=n):=f.len;clear f;go_enter func15,ntmps15;go_wp2_with fail;go_loop [3] (λi=>∃k:Nat,k<=n/\i=hI k/\V ((xs.take k).all lenB=true)) (λi=>n-(intOf i).toNat)
 case atStart=>exact⟨0,Nat.zero_le _,rfl,rfl⟩
 case round=>
  obtain⟨k,O,rfl,a7⟩:=hrel;by_cases aF:k<n
  ·rcases aP.o.at_ with bM|⟨aG,bF,b1,aZ,be,bz,bE⟩
   ·omega
   have c:=bE k aF;subst b1;clear aZ be bz bE;cases au:lenB (xs.getD k 0)
   ·have aa:V (xs.all lenB=false):=nY (hU HL.o aF) au;have am:¬(1<=xs.getD k 0/\xs.getD k 0<=1000):=of_decide_eq_false au;generalize xs.getD k 0=y at c am;clear au a7;by_cases bV:y<1
    ·exact xkr
    have g:1000<y:=xaa;exact xkr
   have aa:V _:=mN (p:=lenB) (hU HL.o aF) a7.o au;have am:1<=xs.getD k 0/\xs.getD k 0<=1000:=of_decide_eq_true au;generalize xs.getD k 0=y at c am;obtain⟨bD,cg⟩:=am;exact xip
  have aa:V (xs.all lenB=true):=by
   have:=a7.o;rw[yao (hW HL.o)]at this;exact this
  clear a7;go_wp2;go_ret;exact⟨hX aa.o,Kept.refl _ _ _⟩
theorem uC(w a n cap)(hn:20<n):
  Calls prog 15 #[.slice a n cap] w λe J=>e=.returned (.bool false)/\Kept 0 0 w J:=by
 go_enter func15,ntmps15;go_wp2;go_ret;exact⟨rfl,Kept.refl _ _ _⟩
theorem BJ(w lo hi a n cap xs)(f:IS w lo hi a n xs):
  Calls prog 15 #[.slice a n cap] w λe J=>e=.returned (.bool (decide (n<=20)&&xs.all lenB))/\Kept 0 0 w J:=by
 by_cases h:n<=20
 ·rw[decide_eq_true h,Bool.true_and];exact AF w lo hi a n cap xs f h
 rw[yax h,Bool.false_and];exact uC w a n cap xaa
theorem BK(w a1 a2 a3 Y c1 U c2 Z c3 ins vs outs)(f:GS w a1 Y a2 U a3 Z ins vs outs)(R:U<=2000)(ah:∀k,k<U->1<=(vs.getD k hM).len/\(vs.getD k hM).len<=1000):
  Calls prog 17 #[eZ a1 Y c1 a2 U c2 a3 Z c3] w λe J=>e=.returned (hI (fe vs))/\Kept 0 0 w J:=by
 have aH:=ez 0 0 w (eY a1 Y c1 a2 U c2 a3 Z c3);have aS:=fE w (.slice a1 Y c1) (.slice a2 U c2) (.slice a3 Z c3);have aP:V _:=f.keep aH;have HL:V _:=f.v.len;have bT:V _:=ah;clear f ah aH;go_enter func17,ntmps17;go_wp2_with fail;go_loop [3,4] (λc i=>∃k:Nat,k<=U/\i=hI k/\c=hI (fe (vs.take k))/\V (0<=fe (vs.take k)/\fe (vs.take k)<=1000*k)) (λ_ i=>U-(intOf i).toNat)
 case atStart=>exact⟨0,Nat.zero_le _,rfl,rfl,by constructor<;>simp[fe]⟩
 case round=>
  obtain⟨k,O,rfl,rfl,hb⟩:=hrel;by_cases aF:k<U
  ·rcases aP.o.v.at_ with bM|⟨aG,bF,b1,aZ,be,bz,bE⟩
   ·omega
   have c:=(bE k aF).c1;have aT:V _:=mw (hU HL.o aF);have aI:V _:=bT.o k aF;subst b1;clear aZ be bz bE;generalize vs.getD k _=v at c aT aI;have bO:-1000000000<=fe (vs.take k)+v.len:=hS hb.o aI.o
   have b9:fe (vs.take k)+v.len<=1000000000:=hS hb.o aI.o
   have u:V (0<=fe (vs.take (k+1))/\fe (vs.take (k+1))<=1000*(k+1:Nat)):=by
    exact xkq
   generalize S:fe _=b3 at bO b9 aT;clear hb S;go_wp2;go_round
   case rel=>exact⟨k+1,by omega,by go_num,by rw[aT.o],u⟩
   case measure=>simp[intOf];omega
  have aa:V (fe (vs.take k)=fe vs):=by
   show fe (vs.take k)=fe vs;rw[yao (hW HL.o)]
  clear hb;go_wp2;go_ret;exact⟨by rw[<-aa.o];rfl,ez _ _ _ _⟩
