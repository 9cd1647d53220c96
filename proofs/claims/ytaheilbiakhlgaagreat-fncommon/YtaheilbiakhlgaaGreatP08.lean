import Derived.Test.YtaheilbiakhlgaaGreatP07
import Derived.Test.YtaheilbiakhlgaaGreatP05
namespace Go.Proofs.Z
variable{Zp:Prop}
open Tryz
set_option maxRecDepth 1000000
set_option maxHeartbeats 0
open Go.RowKit Flt
attribute[local go_sem] eF eE eD
variable{bN k az bJ n bf b5 b6 P X l bu b2 bT:Nat}{aG:World}{q:Nat->Nat}{v:Value}{a b c:Option Addr}{Q S aq:List Nat}
theorem gm(op w)(ai:0<=op)(B:op<=13):Calls prog 67 #[hF op] w λe J=>e=.returned (.bool (fL op))/\w=J:=
 (fX op w ai B).mono λ_ _ h=>⟨h.1,h.2.symm⟩
theorem iG(op w)(ai:0<=op)(B:op<=13):Calls prog 42 #[hF op] w λe J=>e=.returned (hF (iw op:Nat))/\w=J:=
 (e8 op w ai B).mono λ_ _ h=>⟨h.1,h.2.symm⟩
def Grow(w1:World)(k:Nat)(q:Nat->Nat)(v:Value)(W:World):Prop:=
 ∃zs:List Nat,W.ownsRow w1.heap.size 38 1 v k (zs.map (Value.float .f64))/\zs.length=k/\(∀z∈zs,z<18446744073709551616)/\(∀j,j<k->fb (zs.getD j 0)=fb (q j))/\Kept 0 0 w1 W
theorem ig(aG q):Grow aG 0 q (.slice none 0 0) aG:=
 ⟨[],yav _ _ _ _,rfl,by simp,λj hj=>by omega,Kept.refl _ _ _⟩
theorem Grow.kept{W}(h:Grow aG k q v W):Kept 0 0 aG W:=by
 obtain⟨_,_,_,_,_,h⟩:=h;exact h
theorem jN{base e size:Nat}{xs W W'}(h:W.ownsRow base e size v n xs)(d:Drawn W W'):W'.ownsRow base e size v n xs:=by
 obtain⟨m,rfl⟩:=d;exact h
theorem Grow.step{W}{zs:List Nat}{z}
  (aU:W.ownsRow aG.heap.size 38 1 v k (zs.map (Value.float .f64))) (ah:zs.length=k) (aB:∀z∈zs,z<18446744073709551616) (ao:∀j,j<k->fb (zs.getD j 0)=fb (q j)) (ar:Kept 0 0 aG W)
  (bz:z<18446744073709551616) (g:fb z=fb (q k)) {v'}{J}{o}
  (e:J.ownsRow aG.heap.size 38 1 v' (k+1) (zs.map (Value.float .f64)++[Value.float .f64 z])) (aQ:(W.alloc o).grownBy J v.ownBlock):Grow aG (k+1) q v' J:=by
 refine⟨zs++[z],by rw[List.map_append];exact e,by simp[ah],?_,?_,?_⟩
 ·intro x ap;rcases List.mem_append.1 ap with c|c
  ·exact aB x c
  simp at c;rw[c];exact bz
 ·intro j hj;rw[yah,List.getElem?_append];by_cases c:j<zs.length
  ·rw[hI c,<-yah];exact ao j xaa
  rw[hG c,show j-zs.length=0 by omega];have:j=k:=xaa;subst this;exact g
 refine⟨aQ.os.trans ar.os,aQ.tape.trans ar.tape,aQ.output.trans ar.output,?_,λi hi _=>?_⟩
 ·have:=aQ.size;have U:=ar.size;simp at this;omega
 have U:=ar.size;rw[aQ.block i yaf (λc=>hO (aU.lt i c.symm)),Below.heap_alloc W o i xaa];exact ar.block i hi xaa
def KS(n:Nat)(q:Nat->Nat)(w:World)(e:Ending)(w':World):Prop:=
 ∃(a:Option Addr) (cap:Nat) (zs:List Nat),e=.returned (.slice a n cap)/\FS w' w.heap.size w'.heap.size a n zs/\(∀k,k<n->fb (zs.getD k 0)=fb (q k))/\Kept 0 0 w w'/\n<=cap
theorem Grow.done{w W}(h:Grow aG n q v W)(B:1<=n)(O:Kept 0 0 w aG):KS n q w (.returned v) W:=by
 obtain⟨zs,⟨_,ax⟩,U,h3,a6,bK⟩:=h;rcases ax with⟨_,c⟩|⟨g,cap,H,rfl,N,aD,ad,_,bE,bY⟩
 ·omega
 have ae:w.heap.size<=g:=hO O.size
 have aQ:g<W.heap.size:=by
  exact xdl
 refine⟨_,cap,zs,rfl,⟨U,h3,.inr ⟨g,0,rfl,ae,aQ,aQ,λk af=>?_⟩⟩,a6,O.trans bK,ad⟩;rw[cell_of_row W g _ H _ _ aD,Nat.zero_add,<-Array.getElem?_toList];have:(H.toList.take (n*1))[k]? =(zs.map (Value.float .f64))[k]?:=by rw[bY]
 rw[List.getElem?_take_of_lt xaa]at this;rw[this,List.getElem?_map,yal (by omega:k<zs.length)];simp[List.getD_eq_getElem?_getD,List.getElem?_eq_getElem (by omega:k<zs.length)]
theorem sJ(w op len A I C K a b c P X l bu b2 bT)(ae:fp op len C P X l=false):
  Calls prog 47 #[gO op len A I C K,.slice a P bu,.slice b X b2,.slice c l bT] w λe J=>e=.returned (.slice none 0 0)/\Kept 0 0 w J:=by
 go_enter func47,ntmps47;go_wp2_with fail;refine(kC _ op len A I C K P X l).mono ?_;rintro e J ⟨rfl,rfl⟩;rw[ae];go_wp2;go_ret;exact⟨rfl,(ez 0 0 w _).trans (ez 0 0 _ _)⟩
theorem dM.qen(h:Zp:=by
 by_cases aB:k<n
 ·obtain⟨zs,aU,j,m,g,_⟩:=bp;have bw:=eQ r bs a9;have d5:=eQ r bs bE;have HE:V (fb K=fb (fD 1 C K Q S aq k)):=by show fb K=fb (fD 1 C K Q S aq k);simp[fD]
  go_wp2_with (first|(go_at_call 67;refine(gm _ _ xaa xaa).mono ?_;rintro e ag ⟨rfl,rfl⟩;simp only[show fL 1=false from rfl])|(at_builtin;refine wpList_append_own _ rfl _ _ 54 rfl aG.heap.size 38 bC (.float .f64 0) 1 8 underlying54 hi bn bQ br rfl xab _ _ _ rfl (aU.alloc _) ⟨wr.heap.size,0,none⟩ 1 1 [.float .f64 K] rfl rfl ?c1 ?c2 ?c3 ?c4 ?c5 ?_))
  case c1=>exact cell_one_new _ _ _
  case c2=>intro u aI;simp at aI;subst aI;rfl
  case c3=>unfold maxLen;omega
  case c4=>omega
  case c5=>have:=r.size;simp;omega
  intro v' be bv a6 _;have R:V _:=Grow.step aU j m g r ar HE.o bv a6;exact xav
 exact xbg):Zp:=h
theorem dM.qhb(h:Zp:=by
 have bl:=ig ((w.alloc (eM 1 (n:Int) A I C K)).alloc (eM 1 (n:Int) A I C K)) (fD 1 C K Q S aq);generalize t:(w.alloc (eM 1 (n:Int) A I C K)).alloc (eM 1 (n:Int) A I C K)=aG at a9 N an bE bs F bl⊢;clear t;go_loopw [9,10,11,12,13,14] (λv i _ _ _ _ W=>∃k:Nat,k<=n/\i=hF k/\Grow aG k (fD 1 C K Q S aq) v W) (λ_ i _ _ _ _ _=>n-(intOf i).toNat)
 case atStart=>exact⟨0,Nat.zero_le _,rfl,bl⟩
 case round=>
  exact qem):Zp:=h
open dM in
theorem v8(w A I C)(n K:Nat)(B:1<=n)(hn:n<=1000)(ar:K<18446744073709551616)
  (_fa:FS w bN az a P Q) (_fb:FS w bJ bf b X S) (_fc:FS w b5 b6 c l aq) (_hca:P<=bu) (ae:fp 1 (n:Int) C P X l=true):
  Calls prog 47 #[gO 1 (n:Int) A I C K,.slice a P bu,.slice b X b2,.slice c l bT] w λe J=>KS n (fD 1 C K Q S aq) w e J:=by
 have au:=ae;obtain⟨bC,hi,bn,bQ,br⟩:=info_parts lD;clear au;have F:V _:=(ez 0 0 w (eM 1 (n:Int) A I C K)).trans (ez 0 0 _ (eM 1 (n:Int) A I C K));have a9:((w.alloc (eM 1 (n:Int) A I C K)).alloc (eM 1 (n:Int) A I C K)).cell? ⟨w.heap.size,0,none⟩=some (hF 1):=by simp
 have N:((w.alloc (eM 1 (n:Int) A I C K)).alloc (eM 1 (n:Int) A I C K)).cell? ⟨w.heap.size,1,none⟩=some (hF n):=by simp
 have an:((w.alloc (eM 1 (n:Int) A I C K)).alloc (eM 1 (n:Int) A I C K)).cell? ⟨w.heap.size,4,none⟩=some (hF C):=by simp
 have bE:((w.alloc (eM 1 (n:Int) A I C K)).alloc (eM 1 (n:Int) A I C K)).cell? ⟨w.heap.size,5,none⟩=some (.float .f64 K):=by simp
 have bs:w.heap.size<((w.alloc (eM 1 (n:Int) A I C K)).alloc (eM 1 (n:Int) A I C K)).heap.size:=by simp;omega
 go_enter func47,ntmps47;go_wp2_with fail;refine(kC _ 1 (n:Int) A I C K P X l).mono ?_;exact qha
theorem v.qah(h:Zp:=by
 have p:V _:=fC ax.lt k;have G:V _:=fC bk.lt k;have HE:V (∀u,fb u=fb (nz 2 (Q.getD k 0) (S.getD k 0) 0)->fb u=fb (fD 2 C K Q S aq k)):=λu h=>by rw[h];simp[nz,fD]
 exact qgi):Zp:=h
theorem v.qdw(h:Zp:=by
 rcases ax.at_ with bz|⟨aA,bK,rfl,_,_,o,z⟩
 ·omega
 rcases bk.at_ with bz|⟨ca,bB,rfl,_,_,H,aa⟩
 ·omega
 have F:V _:=(ez 0 0 w (eM 2 (n:Int) A I C K)).trans (ez 0 0 _ (eM 2 (n:Int) A I C K));have a9:((w.alloc (eM 2 (n:Int) A I C K)).alloc (eM 2 (n:Int) A I C K)).cell? ⟨w.heap.size,0,none⟩=some (hF 2):=by simp
 have N:((w.alloc (eM 2 (n:Int) A I C K)).alloc (eM 2 (n:Int) A I C K)).cell? ⟨w.heap.size,1,none⟩=some (hF n):=by simp
 have an:((w.alloc (eM 2 (n:Int) A I C K)).alloc (eM 2 (n:Int) A I C K)).cell? ⟨w.heap.size,4,none⟩=some (hF C):=by simp
 have bE:((w.alloc (eM 2 (n:Int) A I C K)).alloc (eM 2 (n:Int) A I C K)).cell? ⟨w.heap.size,5,none⟩=some (.float .f64 K):=by simp
 have bs:w.heap.size<((w.alloc (eM 2 (n:Int) A I C K)).alloc (eM 2 (n:Int) A I C K)).heap.size:=by simp;omega
 go_enter func47,ntmps47;go_wp2_with fail;refine(kC _ 2 (n:Int) A I C K P X l).mono ?_;exact qha):Zp:=h
theorem v.qdy(h:Zp:=by
 go_wp2_with (first|(go_at_call 67;refine(gm _ _ xaa xaa).mono ?_;rintro e ag ⟨rfl,rfl⟩;simp only[show fL 2=true from rfl])|(at_builtin;refine wpList_append_own _ rfl _ _ 54 rfl aG.heap.size 38 bC (.float .f64 0) 1 8 underlying54 hi bn bQ br rfl xab _ _ _ rfl (s.alloc _) ⟨ag.heap.size,0,none⟩ 1 1 [.float .f64 u] rfl rfl ?c1 ?c2 ?c3 ?c4 ?c5 ?_))
 case c1=>exact cell_one_new _ _ _
 case c2=>intro u aI;simp at aI;subst aI;rfl
 case c3=>unfold maxLen;omega
 case c4=>omega
 case c5=>have:=x.size;simp;omega
 exact xaw):Zp:=h
theorem v.qgj(h:Zp:=by
 go_wp2_with (first|(go_at_call 67;refine(gm _ _ xaa xaa).mono ?_;rintro e ag ⟨rfl,rfl⟩;simp only[show fL 2=true from rfl])|(go_at_call 42;refine(iG _ _ xaa xaa).mono ?_;rintro e ag ⟨rfl,rfl⟩;simp only[show iw 2=2 from rfl]));refine(rL 2 _ _ _ _ p.o G.o xaa xaa).mono ?_;exact qdx):Zp:=h
theorem v.qhb(h:Zp:=by
 have bl:=ig ((w.alloc (eM 2 (n:Int) A I C K)).alloc (eM 2 (n:Int) A I C K)) (fD 2 C K Q S aq);generalize t:(w.alloc (eM 2 (n:Int) A I C K)).alloc (eM 2 (n:Int) A I C K)=aG at a9 N an bE bs F bl⊢;clear t;go_loopw [9,10,11,12,13,14] (λv i _ _ _ _ W=>∃k:Nat,k<=n/\i=hF k/\Grow aG k (fD 2 C K Q S aq) v W) (λ_ i _ _ _ _ _=>n-(intOf i).toNat)
 case atStart=>exact⟨0,Nat.zero_le _,rfl,bl⟩
 case round=>
  exact qhz):Zp:=h
theorem v.qia(h:Zp:=by
 by_cases aB:k<n
 ·exact qag
 exact xbg):Zp:=h
open v in
theorem wb(w A I C)(n K:Nat)(B:1<=n)(hn:n<=1000)(_hK:K<18446744073709551616)
  (ax:FS w bN az a P Q) (bk:FS w bJ bf b X S) (_fc:FS w b5 b6 c l aq) (_hca:P<=bu) (ae:fp 2 (n:Int) C P X l=true):
  Calls prog 47 #[gO 2 (n:Int) A I C K,.slice a P bu,.slice b X b2,.slice c l bT] w λe J=>KS n (fD 2 C K Q S aq) w e J:=by
 exact qdv
theorem w.qah(h:Zp:=by
 have p:V _:=fC ax.lt k;have G:V _:=fC bk.lt k;have HE:V (∀u,fb u=fb (nz 3 (Q.getD k 0) (S.getD k 0) 0)->fb u=fb (fD 3 C K Q S aq k)):=λu h=>by rw[h];simp[nz,fD]
 exact qgi):Zp:=h
theorem w.qdw(h:Zp:=by
 rcases ax.at_ with bz|⟨aA,bK,rfl,_,_,o,z⟩
 ·omega
 rcases bk.at_ with bz|⟨ca,bB,rfl,_,_,H,aa⟩
 ·omega
 have F:V _:=(ez 0 0 w (eM 3 (n:Int) A I C K)).trans (ez 0 0 _ (eM 3 (n:Int) A I C K));have a9:((w.alloc (eM 3 (n:Int) A I C K)).alloc (eM 3 (n:Int) A I C K)).cell? ⟨w.heap.size,0,none⟩=some (hF 3):=by simp
 have N:((w.alloc (eM 3 (n:Int) A I C K)).alloc (eM 3 (n:Int) A I C K)).cell? ⟨w.heap.size,1,none⟩=some (hF n):=by simp
 have an:((w.alloc (eM 3 (n:Int) A I C K)).alloc (eM 3 (n:Int) A I C K)).cell? ⟨w.heap.size,4,none⟩=some (hF C):=by simp
 have bE:((w.alloc (eM 3 (n:Int) A I C K)).alloc (eM 3 (n:Int) A I C K)).cell? ⟨w.heap.size,5,none⟩=some (.float .f64 K):=by simp
 have bs:w.heap.size<((w.alloc (eM 3 (n:Int) A I C K)).alloc (eM 3 (n:Int) A I C K)).heap.size:=by simp;omega
 go_enter func47,ntmps47;go_wp2_with fail;refine(kC _ 3 (n:Int) A I C K P X l).mono ?_;exact qha):Zp:=h
theorem w.qdy(h:Zp:=by
 go_wp2_with (first|(go_at_call 67;refine(gm _ _ xaa xaa).mono ?_;rintro e ag ⟨rfl,rfl⟩;simp only[show fL 3=true from rfl])|(at_builtin;refine wpList_append_own _ rfl _ _ 54 rfl aG.heap.size 38 bC (.float .f64 0) 1 8 underlying54 hi bn bQ br rfl xab _ _ _ rfl (s.alloc _) ⟨ag.heap.size,0,none⟩ 1 1 [.float .f64 u] rfl rfl ?c1 ?c2 ?c3 ?c4 ?c5 ?_))
 case c1=>exact cell_one_new _ _ _
 case c2=>intro u aI;simp at aI;subst aI;rfl
 case c3=>unfold maxLen;omega
 case c4=>omega
 case c5=>have:=x.size;simp;omega
 exact xaw):Zp:=h
theorem w.qgj(h:Zp:=by
 go_wp2_with (first|(go_at_call 67;refine(gm _ _ xaa xaa).mono ?_;rintro e ag ⟨rfl,rfl⟩;simp only[show fL 3=true from rfl])|(go_at_call 42;refine(iG _ _ xaa xaa).mono ?_;rintro e ag ⟨rfl,rfl⟩;simp only[show iw 3=2 from rfl]));refine(rL 3 _ _ _ _ p.o G.o xaa xaa).mono ?_;exact qdx):Zp:=h
theorem w.qhb(h:Zp:=by
 have bl:=ig ((w.alloc (eM 3 (n:Int) A I C K)).alloc (eM 3 (n:Int) A I C K)) (fD 3 C K Q S aq);generalize t:(w.alloc (eM 3 (n:Int) A I C K)).alloc (eM 3 (n:Int) A I C K)=aG at a9 N an bE bs F bl⊢;clear t;go_loopw [9,10,11,12,13,14] (λv i _ _ _ _ W=>∃k:Nat,k<=n/\i=hF k/\Grow aG k (fD 3 C K Q S aq) v W) (λ_ i _ _ _ _ _=>n-(intOf i).toNat)
 case atStart=>exact⟨0,Nat.zero_le _,rfl,bl⟩
 case round=>
  exact qhz):Zp:=h
theorem w.qia(h:Zp:=by
 by_cases aB:k<n
 ·exact qag
 exact xbg):Zp:=h
open w in
theorem we(w A I C)(n K:Nat)(B:1<=n)(hn:n<=1000)(_hK:K<18446744073709551616)
  (ax:FS w bN az a P Q) (bk:FS w bJ bf b X S) (_fc:FS w b5 b6 c l aq) (_hca:P<=bu) (ae:fp 3 (n:Int) C P X l=true):
  Calls prog 47 #[gO 3 (n:Int) A I C K,.slice a P bu,.slice b X b2,.slice c l bT] w λe J=>KS n (fD 3 C K Q S aq) w e J:=by
 exact qdv
theorem x.qah(h:Zp:=by
 have p:V _:=fC ax.lt k;have G:V _:=fC bk.lt k;have HE:V (∀u,fb u=fb (nz 4 (Q.getD k 0) (S.getD k 0) 0)->fb u=fb (fD 4 C K Q S aq k)):=λu h=>by rw[h];simp[nz,fD]
 exact qgi):Zp:=h
theorem x.qdw(h:Zp:=by
 rcases ax.at_ with bz|⟨aA,bK,rfl,_,_,o,z⟩
 ·omega
 rcases bk.at_ with bz|⟨ca,bB,rfl,_,_,H,aa⟩
 ·omega
 have F:V _:=(ez 0 0 w (eM 4 (n:Int) A I C K)).trans (ez 0 0 _ (eM 4 (n:Int) A I C K));have a9:((w.alloc (eM 4 (n:Int) A I C K)).alloc (eM 4 (n:Int) A I C K)).cell? ⟨w.heap.size,0,none⟩=some (hF 4):=by simp
 have N:((w.alloc (eM 4 (n:Int) A I C K)).alloc (eM 4 (n:Int) A I C K)).cell? ⟨w.heap.size,1,none⟩=some (hF n):=by simp
 have an:((w.alloc (eM 4 (n:Int) A I C K)).alloc (eM 4 (n:Int) A I C K)).cell? ⟨w.heap.size,4,none⟩=some (hF C):=by simp
 have bE:((w.alloc (eM 4 (n:Int) A I C K)).alloc (eM 4 (n:Int) A I C K)).cell? ⟨w.heap.size,5,none⟩=some (.float .f64 K):=by simp
 have bs:w.heap.size<((w.alloc (eM 4 (n:Int) A I C K)).alloc (eM 4 (n:Int) A I C K)).heap.size:=by simp;omega
 go_enter func47,ntmps47;go_wp2_with fail;refine(kC _ 4 (n:Int) A I C K P X l).mono ?_;exact qha):Zp:=h
theorem x.qdy(h:Zp:=by
 go_wp2_with (first|(go_at_call 67;refine(gm _ _ xaa xaa).mono ?_;rintro e ag ⟨rfl,rfl⟩;simp only[show fL 4=true from rfl])|(at_builtin;refine wpList_append_own _ rfl _ _ 54 rfl aG.heap.size 38 bC (.float .f64 0) 1 8 underlying54 hi bn bQ br rfl xab _ _ _ rfl (s.alloc _) ⟨ag.heap.size,0,none⟩ 1 1 [.float .f64 u] rfl rfl ?c1 ?c2 ?c3 ?c4 ?c5 ?_))
 case c1=>exact cell_one_new _ _ _
 case c2=>intro u aI;simp at aI;subst aI;rfl
 case c3=>unfold maxLen;omega
 case c4=>omega
 case c5=>have:=x.size;simp;omega
 exact xaw):Zp:=h
theorem x.qgj(h:Zp:=by
 go_wp2_with (first|(go_at_call 67;refine(gm _ _ xaa xaa).mono ?_;rintro e ag ⟨rfl,rfl⟩;simp only[show fL 4=true from rfl])|(go_at_call 42;refine(iG _ _ xaa xaa).mono ?_;rintro e ag ⟨rfl,rfl⟩;simp only[show iw 4=2 from rfl]));refine(rL 4 _ _ _ _ p.o G.o xaa xaa).mono ?_;exact qdx):Zp:=h
theorem x.qhb(h:Zp:=by
 have bl:=ig ((w.alloc (eM 4 (n:Int) A I C K)).alloc (eM 4 (n:Int) A I C K)) (fD 4 C K Q S aq);generalize t:(w.alloc (eM 4 (n:Int) A I C K)).alloc (eM 4 (n:Int) A I C K)=aG at a9 N an bE bs F bl⊢;clear t;go_loopw [9,10,11,12,13,14] (λv i _ _ _ _ W=>∃k:Nat,k<=n/\i=hF k/\Grow aG k (fD 4 C K Q S aq) v W) (λ_ i _ _ _ _ _=>n-(intOf i).toNat)
 case atStart=>exact⟨0,Nat.zero_le _,rfl,bl⟩
 case round=>
  exact qhz):Zp:=h
theorem x.qia(h:Zp:=by
 by_cases aB:k<n
 ·exact qag
 exact xbg):Zp:=h
open x in
theorem wg(w A I C)(n K:Nat)(B:1<=n)(hn:n<=1000)(_hK:K<18446744073709551616)
  (ax:FS w bN az a P Q) (bk:FS w bJ bf b X S) (_fc:FS w b5 b6 c l aq) (_hca:P<=bu) (ae:fp 4 (n:Int) C P X l=true):
  Calls prog 47 #[gO 4 (n:Int) A I C K,.slice a P bu,.slice b X b2,.slice c l bT] w λe J=>KS n (fD 4 C K Q S aq) w e J:=by
 exact qdv
theorem y.qah(h:Zp:=by
 have p:V _:=fC ax.lt k;have G:V _:=fC bk.lt k;have HE:V (∀u,fb u=fb (nz 5 (Q.getD k 0) (S.getD k 0) 0)->fb u=fb (fD 5 C K Q S aq k)):=λu h=>by rw[h];simp[nz,fD]
 exact qgi):Zp:=h
theorem y.qdw(h:Zp:=by
 rcases ax.at_ with bz|⟨aA,bK,rfl,_,_,o,z⟩
 ·omega
 rcases bk.at_ with bz|⟨ca,bB,rfl,_,_,H,aa⟩
 ·omega
 have F:V _:=(ez 0 0 w (eM 5 (n:Int) A I C K)).trans (ez 0 0 _ (eM 5 (n:Int) A I C K));have a9:((w.alloc (eM 5 (n:Int) A I C K)).alloc (eM 5 (n:Int) A I C K)).cell? ⟨w.heap.size,0,none⟩=some (hF 5):=by simp
 have N:((w.alloc (eM 5 (n:Int) A I C K)).alloc (eM 5 (n:Int) A I C K)).cell? ⟨w.heap.size,1,none⟩=some (hF n):=by simp
 have an:((w.alloc (eM 5 (n:Int) A I C K)).alloc (eM 5 (n:Int) A I C K)).cell? ⟨w.heap.size,4,none⟩=some (hF C):=by simp
 have bE:((w.alloc (eM 5 (n:Int) A I C K)).alloc (eM 5 (n:Int) A I C K)).cell? ⟨w.heap.size,5,none⟩=some (.float .f64 K):=by simp
 have bs:w.heap.size<((w.alloc (eM 5 (n:Int) A I C K)).alloc (eM 5 (n:Int) A I C K)).heap.size:=by simp;omega
 go_enter func47,ntmps47;go_wp2_with fail;refine(kC _ 5 (n:Int) A I C K P X l).mono ?_;exact qha):Zp:=h
theorem y.qdy(h:Zp:=by
 go_wp2_with (first|(go_at_call 67;refine(gm _ _ xaa xaa).mono ?_;rintro e ag ⟨rfl,rfl⟩;simp only[show fL 5=true from rfl])|(at_builtin;refine wpList_append_own _ rfl _ _ 54 rfl aG.heap.size 38 bC (.float .f64 0) 1 8 underlying54 hi bn bQ br rfl xab _ _ _ rfl (s.alloc _) ⟨ag.heap.size,0,none⟩ 1 1 [.float .f64 u] rfl rfl ?c1 ?c2 ?c3 ?c4 ?c5 ?_))
 case c1=>exact cell_one_new _ _ _
 case c2=>intro u aI;simp at aI;subst aI;rfl
 case c3=>unfold maxLen;omega
 case c4=>omega
 case c5=>have:=x.size;simp;omega
 exact xaw):Zp:=h
theorem y.qgj(h:Zp:=by
 go_wp2_with (first|(go_at_call 67;refine(gm _ _ xaa xaa).mono ?_;rintro e ag ⟨rfl,rfl⟩;simp only[show fL 5=true from rfl])|(go_at_call 42;refine(iG _ _ xaa xaa).mono ?_;rintro e ag ⟨rfl,rfl⟩;simp only[show iw 5=2 from rfl]));refine(rL 5 _ _ _ _ p.o G.o xaa xaa).mono ?_;exact qdx):Zp:=h
theorem y.qhb(h:Zp:=by
 have bl:=ig ((w.alloc (eM 5 (n:Int) A I C K)).alloc (eM 5 (n:Int) A I C K)) (fD 5 C K Q S aq);generalize t:(w.alloc (eM 5 (n:Int) A I C K)).alloc (eM 5 (n:Int) A I C K)=aG at a9 N an bE bs F bl⊢;clear t;go_loopw [9,10,11,12,13,14] (λv i _ _ _ _ W=>∃k:Nat,k<=n/\i=hF k/\Grow aG k (fD 5 C K Q S aq) v W) (λ_ i _ _ _ _ _=>n-(intOf i).toNat)
 case atStart=>exact⟨0,Nat.zero_le _,rfl,bl⟩
 case round=>
  exact qhz):Zp:=h
theorem y.qia(h:Zp:=by
 by_cases aB:k<n
 ·exact qag
 exact xbg):Zp:=h
open y in
theorem wi(w A I C)(n K:Nat)(B:1<=n)(hn:n<=1000)(_hK:K<18446744073709551616)
  (ax:FS w bN az a P Q) (bk:FS w bJ bf b X S) (_fc:FS w b5 b6 c l aq) (_hca:P<=bu) (ae:fp 5 (n:Int) C P X l=true):
  Calls prog 47 #[gO 5 (n:Int) A I C K,.slice a P bu,.slice b X b2,.slice c l bT] w λe J=>KS n (fD 5 C K Q S aq) w e J:=by
 exact qdv
theorem B.qaj(h:Zp:=by
 have p:V _:=fC ax.lt k;have HE:V (∀u,fb u=fb (nz 6 (Q.getD k 0) 0 0)->fb u=fb (fD 6 C K Q S aq k)):=λu h=>by rw[h];simp[nz,fD]
 generalize Q.getD k 0=ai at Y p HE;have ah:(k:Int)<P:=xaa;go_wp2_with (first|(go_at_call 67;refine(gm _ _ xaa xaa).mono ?_;rintro e ag ⟨rfl,rfl⟩;simp only[show fL 6=true from rfl])|(go_at_call 42;refine(iG _ _ xaa xaa).mono ?_;rintro e ag ⟨rfl,rfl⟩;simp only[show iw 6=1 from rfl]));refine(rL 6 _ _ _ _ p.o xaa xaa xaa).mono ?_;exact qdx):Zp:=h
theorem B.qdy(h:Zp:=by
 go_wp2_with (first|(go_at_call 67;refine(gm _ _ xaa xaa).mono ?_;rintro e ag ⟨rfl,rfl⟩;simp only[show fL 6=true from rfl])|(at_builtin;refine wpList_append_own _ rfl _ _ 54 rfl aG.heap.size 38 bC (.float .f64 0) 1 8 underlying54 hi bn bQ br rfl xab _ _ _ rfl (s.alloc _) ⟨ag.heap.size,0,none⟩ 1 1 [.float .f64 u] rfl rfl ?c1 ?c2 ?c3 ?c4 ?c5 ?_))
 case c1=>exact cell_one_new _ _ _
 case c2=>intro u aI;simp at aI;subst aI;rfl
 case c3=>unfold maxLen;omega
 case c4=>omega
 case c5=>have:=x.size;simp;omega
 exact xaw):Zp:=h
theorem B.qen(h:Zp:=by
 by_cases aB:k<n
 ·exact qai
 exact xbg):Zp:=h
theorem B.qhb(h:Zp:=by
 have bl:=ig ((w.alloc (eM 6 (n:Int) A I C K)).alloc (eM 6 (n:Int) A I C K)) (fD 6 C K Q S aq);generalize t:(w.alloc (eM 6 (n:Int) A I C K)).alloc (eM 6 (n:Int) A I C K)=aG at a9 N an bE bs F bl⊢;clear t;go_loopw [9,10,11,12,13,14] (λv i _ _ _ _ W=>∃k:Nat,k<=n/\i=hF k/\Grow aG k (fD 6 C K Q S aq) v W) (λ_ i _ _ _ _ _=>n-(intOf i).toNat)
 case atStart=>exact⟨0,Nat.zero_le _,rfl,bl⟩
 case round=>
  exact qem):Zp:=h
theorem B.qik(h:Zp:=by
 rcases ax.at_ with bz|⟨aA,bK,rfl,_,_,o,z⟩
 ·omega
 have F:V _:=(ez 0 0 w (eM 6 (n:Int) A I C K)).trans (ez 0 0 _ (eM 6 (n:Int) A I C K));have a9:((w.alloc (eM 6 (n:Int) A I C K)).alloc (eM 6 (n:Int) A I C K)).cell? ⟨w.heap.size,0,none⟩=some (hF 6):=by simp
 have N:((w.alloc (eM 6 (n:Int) A I C K)).alloc (eM 6 (n:Int) A I C K)).cell? ⟨w.heap.size,1,none⟩=some (hF n):=by simp
 have an:((w.alloc (eM 6 (n:Int) A I C K)).alloc (eM 6 (n:Int) A I C K)).cell? ⟨w.heap.size,4,none⟩=some (hF C):=by simp
 have bE:((w.alloc (eM 6 (n:Int) A I C K)).alloc (eM 6 (n:Int) A I C K)).cell? ⟨w.heap.size,5,none⟩=some (.float .f64 K):=by simp
 have bs:w.heap.size<((w.alloc (eM 6 (n:Int) A I C K)).alloc (eM 6 (n:Int) A I C K)).heap.size:=by simp;omega
 go_enter func47,ntmps47;go_wp2_with fail;refine(kC _ 6 (n:Int) A I C K P X l).mono ?_;exact qha):Zp:=h
open B in
theorem wj(w A I C)(n K:Nat)(B:1<=n)(hn:n<=1000)(_hK:K<18446744073709551616)
  (ax:FS w bN az a P Q) (_fb:FS w bJ bf b X S) (_fc:FS w b5 b6 c l aq) (_hca:P<=bu) (ae:fp 6 (n:Int) C P X l=true):
  Calls prog 47 #[gO 6 (n:Int) A I C K,.slice a P bu,.slice b X b2,.slice c l bT] w λe J=>KS n (fD 6 C K Q S aq) w e J:=by
 exact qij
theorem z.qah(h:Zp:=by
 have p:V _:=fC ax.lt k;have G:V _:=fC bk.lt k;have HE:V (∀u,fb u=fb (nz 7 (Q.getD k 0) (S.getD k 0) 0)->fb u=fb (fD 7 C K Q S aq k)):=λu h=>by rw[h];simp[nz,fD]
 exact qgi):Zp:=h
theorem z.qdw(h:Zp:=by
 rcases ax.at_ with bz|⟨aA,bK,rfl,_,_,o,z⟩
 ·omega
 rcases bk.at_ with bz|⟨ca,bB,rfl,_,_,H,aa⟩
 ·omega
 have F:V _:=(ez 0 0 w (eM 7 (n:Int) A I C K)).trans (ez 0 0 _ (eM 7 (n:Int) A I C K));have a9:((w.alloc (eM 7 (n:Int) A I C K)).alloc (eM 7 (n:Int) A I C K)).cell? ⟨w.heap.size,0,none⟩=some (hF 7):=by simp
 have N:((w.alloc (eM 7 (n:Int) A I C K)).alloc (eM 7 (n:Int) A I C K)).cell? ⟨w.heap.size,1,none⟩=some (hF n):=by simp
 have an:((w.alloc (eM 7 (n:Int) A I C K)).alloc (eM 7 (n:Int) A I C K)).cell? ⟨w.heap.size,4,none⟩=some (hF C):=by simp
 have bE:((w.alloc (eM 7 (n:Int) A I C K)).alloc (eM 7 (n:Int) A I C K)).cell? ⟨w.heap.size,5,none⟩=some (.float .f64 K):=by simp
 have bs:w.heap.size<((w.alloc (eM 7 (n:Int) A I C K)).alloc (eM 7 (n:Int) A I C K)).heap.size:=by simp;omega
 go_enter func47,ntmps47;go_wp2_with fail;refine(kC _ 7 (n:Int) A I C K P X l).mono ?_;exact qha):Zp:=h
theorem z.qdy(h:Zp:=by
 go_wp2_with (first|(go_at_call 67;refine(gm _ _ xaa xaa).mono ?_;rintro e ag ⟨rfl,rfl⟩;simp only[show fL 7=true from rfl])|(at_builtin;refine wpList_append_own _ rfl _ _ 54 rfl aG.heap.size 38 bC (.float .f64 0) 1 8 underlying54 hi bn bQ br rfl xab _ _ _ rfl (s.alloc _) ⟨ag.heap.size,0,none⟩ 1 1 [.float .f64 u] rfl rfl ?c1 ?c2 ?c3 ?c4 ?c5 ?_))
 case c1=>exact cell_one_new _ _ _
 case c2=>intro u aI;simp at aI;subst aI;rfl
 case c3=>unfold maxLen;omega
 case c4=>omega
 case c5=>have:=x.size;simp;omega
 exact xaw):Zp:=h
theorem z.qgj(h:Zp:=by
 go_wp2_with (first|(go_at_call 67;refine(gm _ _ xaa xaa).mono ?_;rintro e ag ⟨rfl,rfl⟩;simp only[show fL 7=true from rfl])|(go_at_call 42;refine(iG _ _ xaa xaa).mono ?_;rintro e ag ⟨rfl,rfl⟩;simp only[show iw 7=2 from rfl]));refine(rL 7 _ _ _ _ p.o G.o xaa xaa).mono ?_;exact qdx):Zp:=h
theorem z.qhb(h:Zp:=by
 have bl:=ig ((w.alloc (eM 7 (n:Int) A I C K)).alloc (eM 7 (n:Int) A I C K)) (fD 7 C K Q S aq);generalize t:(w.alloc (eM 7 (n:Int) A I C K)).alloc (eM 7 (n:Int) A I C K)=aG at a9 N an bE bs F bl⊢;clear t;go_loopw [9,10,11,12,13,14] (λv i _ _ _ _ W=>∃k:Nat,k<=n/\i=hF k/\Grow aG k (fD 7 C K Q S aq) v W) (λ_ i _ _ _ _ _=>n-(intOf i).toNat)
 case atStart=>exact⟨0,Nat.zero_le _,rfl,bl⟩
 case round=>
  exact qhz):Zp:=h
theorem z.qia(h:Zp:=by
 by_cases aB:k<n
 ·exact qag
 exact xbg):Zp:=h
open z in
theorem wk(w A I C)(n K:Nat)(B:1<=n)(hn:n<=1000)(_hK:K<18446744073709551616)
  (ax:FS w bN az a P Q) (bk:FS w bJ bf b X S) (_fc:FS w b5 b6 c l aq) (_hca:P<=bu) (ae:fp 7 (n:Int) C P X l=true):
  Calls prog 47 #[gO 7 (n:Int) A I C K,.slice a P bu,.slice b X b2,.slice c l bT] w λe J=>KS n (fD 7 C K Q S aq) w e J:=by
 exact qdv
theorem A.qah(h:Zp:=by
 have av:=eQ r (yaj al F.o.size) ((by rw[F.o.cell (p:=⟨cr,aD+k,none⟩) al xaa];exact ap k xaa):aG.cell? ⟨cr,aD+k,none⟩=some (.float .f64 (aq.getD k 0)));have p:V _:=fC ax.lt k;have G:V _:=fC bk.lt k;have ar:V _:=fC Z.lt k;have HE:V (∀u,fb u=fb (nz 8 (Q.getD k 0) (S.getD k 0) (aq.getD k 0))->fb u=fb (fD 8 C K Q S aq k)):=λu h=>by rw[h];simp[nz,fD]
 generalize Q.getD k 0=ai at Y p HE;generalize S.getD k 0=ak at ab G HE;generalize aq.getD k 0=ay at av ar HE;have ah:(k:Int)<P:=xaa;have ad:(k:Int)<X:=xaa;have ao:(k:Int)<l:=xaa;go_wp2_with (first|(go_at_call 67;refine(gm _ _ xaa xaa).mono ?_;rintro e ag ⟨rfl,rfl⟩;simp only[show fL 8=true from rfl])|(go_at_call 42;refine(iG _ _ xaa xaa).mono ?_;rintro e ag ⟨rfl,rfl⟩;simp only[show iw 8=3 from rfl]));refine(rL 8 _ _ _ _ p.o G.o ar.o xaa).mono ?_;exact qdx):Zp:=h
theorem A.qdy(h:Zp:=by
 go_wp2_with (first|(go_at_call 67;refine(gm _ _ xaa xaa).mono ?_;rintro e ag ⟨rfl,rfl⟩;simp only[show fL 8=true from rfl])|(at_builtin;refine wpList_append_own _ rfl _ _ 54 rfl aG.heap.size 38 bC (.float .f64 0) 1 8 underlying54 hi bn bQ br rfl xab _ _ _ rfl (s.alloc _) ⟨ag.heap.size,0,none⟩ 1 1 [.float .f64 u] rfl rfl ?c1 ?c2 ?c3 ?c4 ?c5 ?_))
 case c1=>exact cell_one_new _ _ _
 case c2=>intro u aI;simp at aI;subst aI;rfl
 case c3=>unfold maxLen;omega
 case c4=>omega
 case c5=>have:=x.size;simp;omega
 exact xaw):Zp:=h
theorem A.qen(h:Zp:=by
 by_cases aB:k<n
 ·exact qag
 exact xbg):Zp:=h
theorem A.qhb(h:Zp:=by
 have bl:=ig ((w.alloc (eM 8 (n:Int) A I C K)).alloc (eM 8 (n:Int) A I C K)) (fD 8 C K Q S aq);generalize t:(w.alloc (eM 8 (n:Int) A I C K)).alloc (eM 8 (n:Int) A I C K)=aG at a9 N an bE bs F bl⊢;clear t;go_loopw [9,10,11,12,13,14] (λv i _ _ _ _ W=>∃k:Nat,k<=n/\i=hF k/\Grow aG k (fD 8 C K Q S aq) v W) (λ_ i _ _ _ _ _=>n-(intOf i).toNat)
 case atStart=>exact⟨0,Nat.zero_le _,rfl,bl⟩
 case round=>
  exact qem):Zp:=h
open A in
theorem wm(w A I C)(n K:Nat)(B:1<=n)(hn:n<=1000)(_hK:K<18446744073709551616)
  (ax:FS w bN az a P Q) (bk:FS w bJ bf b X S) (Z:FS w b5 b6 c l aq) (_hca:P<=bu) (ae:fp 8 (n:Int) C P X l=true):
  Calls prog 47 #[gO 8 (n:Int) A I C K,.slice a P bu,.slice b X b2,.slice c l bT] w λe J=>KS n (fD 8 C K Q S aq) w e J:=by
 have au:=ae;obtain⟨bC,hi,bn,bQ,br⟩:=info_parts lD;have f:(P<=n/\n<=P)/\(X<=n/\n<=X)/\(l<=n/\n<=l):=by simp[fp,eR,cnt,lenB]at au;omega
 obtain⟨⟨cc,af⟩,⟨cp,aj⟩,⟨am,aw⟩⟩:=f;clear au;rcases ax.at_ with bz|⟨aA,bK,rfl,_,_,o,z⟩
 ·omega
 rcases bk.at_ with bz|⟨ca,bB,rfl,_,_,H,aa⟩
 ·omega
 rcases Z.at_ with bz|⟨cr,aD,rfl,_,_,al,ap⟩
 ·omega
 have F:V _:=(ez 0 0 w (eM 8 (n:Int) A I C K)).trans (ez 0 0 _ (eM 8 (n:Int) A I C K));have a9:((w.alloc (eM 8 (n:Int) A I C K)).alloc (eM 8 (n:Int) A I C K)).cell? ⟨w.heap.size,0,none⟩=some (hF 8):=by simp
 have N:((w.alloc (eM 8 (n:Int) A I C K)).alloc (eM 8 (n:Int) A I C K)).cell? ⟨w.heap.size,1,none⟩=some (hF n):=by simp
 have an:((w.alloc (eM 8 (n:Int) A I C K)).alloc (eM 8 (n:Int) A I C K)).cell? ⟨w.heap.size,4,none⟩=some (hF C):=by simp
 have bE:((w.alloc (eM 8 (n:Int) A I C K)).alloc (eM 8 (n:Int) A I C K)).cell? ⟨w.heap.size,5,none⟩=some (.float .f64 K):=by simp
 have bs:w.heap.size<((w.alloc (eM 8 (n:Int) A I C K)).alloc (eM 8 (n:Int) A I C K)).heap.size:=by simp;omega
 go_enter func47,ntmps47;go_wp2_with fail;refine(kC _ 8 (n:Int) A I C K P X l).mono ?_;exact qha
theorem dL.qdy(h:Zp:=by
 go_wp2_with (first|(go_at_call 67;refine(gm _ _ xaa xaa).mono ?_;rintro e ag ⟨rfl,rfl⟩;simp only[show fL 9=false from rfl])|(at_builtin;refine wpList_append_own _ rfl _ _ 54 rfl aG.heap.size 38 bC (.float .f64 0) 1 8 underlying54 hi bn bQ br rfl xab _ _ _ rfl (s.alloc _) ⟨ag.heap.size,0,none⟩ 1 1 [.float .f64 u] rfl rfl ?c1 ?c2 ?c3 ?c4 ?c5 ?_))
 case c1=>exact cell_one_new _ _ _
 case c2=>intro u aI;simp at aI;subst aI;rfl
 case c3=>unfold maxLen;omega
 case c4=>omega
 case c5=>have:=x.size;simp;omega
 exact xaw):Zp:=h
theorem dL.qhb(h:Zp:=by
 have bl:=ig ((w.alloc (eM 9 (n:Int) A I C K)).alloc (eM 9 (n:Int) A I C K)) (fD 9 C K Q S aq);generalize t:(w.alloc (eM 9 (n:Int) A I C K)).alloc (eM 9 (n:Int) A I C K)=aG at a9 N an bE bs F bl⊢;clear t;go_loopw [9,10,11,12,13,14] (λv i _ _ _ _ W=>∃k:Nat,k<=n/\i=hF k/\Grow aG k (fD 9 C K Q S aq) v W) (λ_ i _ _ _ _ _=>n-(intOf i).toNat)
 case atStart=>exact⟨0,Nat.zero_le _,rfl,bl⟩
 case round=>
  exact qhz):Zp:=h
theorem dL.qia(h:Zp:=by
 by_cases aB:k<n
 ·obtain⟨zs,aU,j,m,g,_⟩:=bp;have bw:=eQ r bs a9;have d5:=eQ r bs bE;have HE:V (∀u,fb u=fb (kT Q)->fb u=fb (fD 9 C K Q S aq k)):=λu h=>by rw[h];simp[fD]
  have aA:=ax.keep (F.o.trans r) yaa;have G:V _:=aA;clear aA;go_wp2_with (go_at_call 67;refine(gm _ _ xaa xaa).mono ?_;rintro e ag ⟨rfl,rfl⟩;simp only[show fL 9=false from rfl]);refine(OG _ P f.2.1 f.2.2 G.o aa).mono ?_;exact qdx
 exact xbg):Zp:=h
open dL in
theorem wn(w A I C)(n K:Nat)(B:1<=n)(hn:n<=1000)(_hK:K<18446744073709551616)
  (ax:FS w bN az a P Q) (_fb:FS w bJ bf b X S) (_fc:FS w b5 b6 c l aq) (aa:P<=bu) (ae:fp 9 (n:Int) C P X l=true):
  Calls prog 47 #[gO 9 (n:Int) A I C K,.slice a P bu,.slice b X b2,.slice c l bT] w λe J=>KS n (fD 9 C K Q S aq) w e J:=by
 have au:=ae;obtain⟨bC,hi,bn,bQ,br⟩:=info_parts lD;have f:n<=1/\1<=P/\P<=1000:=by simp[fp,eR,cnt,lenB]at au;omega
 clear au;have F:V _:=(ez 0 0 w (eM 9 (n:Int) A I C K)).trans (ez 0 0 _ (eM 9 (n:Int) A I C K));have a9:((w.alloc (eM 9 (n:Int) A I C K)).alloc (eM 9 (n:Int) A I C K)).cell? ⟨w.heap.size,0,none⟩=some (hF 9):=by simp
 have N:((w.alloc (eM 9 (n:Int) A I C K)).alloc (eM 9 (n:Int) A I C K)).cell? ⟨w.heap.size,1,none⟩=some (hF n):=by simp
 have an:((w.alloc (eM 9 (n:Int) A I C K)).alloc (eM 9 (n:Int) A I C K)).cell? ⟨w.heap.size,4,none⟩=some (hF C):=by simp
 have bE:((w.alloc (eM 9 (n:Int) A I C K)).alloc (eM 9 (n:Int) A I C K)).cell? ⟨w.heap.size,5,none⟩=some (.float .f64 K):=by simp
 have bs:w.heap.size<((w.alloc (eM 9 (n:Int) A I C K)).alloc (eM 9 (n:Int) A I C K)).heap.size:=by simp;omega
 go_enter func47,ntmps47;go_wp2_with fail;refine(kC _ 9 (n:Int) A I C K P X l).mono ?_;exact qha
theorem bP.qca(h:Zp:=by
 have HE:V (fb (Q.getD 0 0)=fb (fD 10 C K Q S aq k)):=by show fb (Q.getD 0 0)=fb (fD 10 C K Q S aq k);simp[fD]
 clear ci;generalize Q.getD 0 0=u0 at bI bd HE;go_wp2_with (first|(go_at_call 67;refine(gm _ _ xaa xaa).mono ?_;rintro e ag ⟨rfl,rfl⟩;simp only[show fL 10=false from rfl])|(at_builtin;refine wpList_append_own _ rfl _ _ 54 rfl aG.heap.size 38 bC (.float .f64 0) 1 8 underlying54 hi bn bQ br rfl xab _ _ _ rfl (aU.alloc _) ⟨wr.heap.size,0,none⟩ 1 1 [.float .f64 u0] rfl rfl ?c1 ?c2 ?c3 ?c4 ?c5 ?_))
 case c1=>exact cell_one_new _ _ _
 case c2=>intro u aI;simp at aI;subst aI;rfl
 case c3=>unfold maxLen;omega
 case c4=>omega
 case c5=>have:=r.size;simp;omega
 exact xdo):Zp:=h
theorem bP.qen(h:Zp:=by
 by_cases aB:k<n
 ·exact qbz
 exact xbg):Zp:=h
theorem bP.qhb(h:Zp:=by
 have bl:=ig ((w.alloc (eM 10 (n:Int) A I C K)).alloc (eM 10 (n:Int) A I C K)) (fD 10 C K Q S aq);generalize t:(w.alloc (eM 10 (n:Int) A I C K)).alloc (eM 10 (n:Int) A I C K)=aG at a9 N an bE bs F bl⊢;clear t;go_loopw [9,10,11,12,13,14] (λv i _ _ _ _ W=>∃k:Nat,k<=n/\i=hF k/\Grow aG k (fD 10 C K Q S aq) v W) (λ_ i _ _ _ _ _=>n-(intOf i).toNat)
 case atStart=>exact⟨0,Nat.zero_le _,rfl,bl⟩
 case round=>
  exact qem):Zp:=h
open bP in
theorem ug(w A I C)(n K:Nat)(B:1<=n)(hn:n<=1000)(_hK:K<18446744073709551616)
  (ax:FS w bN az a P Q) (_fb:FS w bJ bf b X S) (_fc:FS w b5 b6 c l aq) (_hca:P<=bu) (ae:fp 10 (n:Int) C P X l=true):
  Calls prog 47 #[gO 10 (n:Int) A I C K,.slice a P bu,.slice b X b2,.slice c l bT] w λe J=>KS n (fD 10 C K Q S aq) w e J:=by
 have au:=ae;obtain⟨bC,hi,bn,bQ,br⟩:=info_parts lD;have f:P<=1/\1<=P:=by simp[fp,eR,cnt,lenB]at au;omega
 clear au;rcases ax.at_ with bz|⟨aA,bK,rfl,_,_,o,z⟩
 ·omega
 have F:V _:=(ez 0 0 w (eM 10 (n:Int) A I C K)).trans (ez 0 0 _ (eM 10 (n:Int) A I C K));have a9:((w.alloc (eM 10 (n:Int) A I C K)).alloc (eM 10 (n:Int) A I C K)).cell? ⟨w.heap.size,0,none⟩=some (hF 10):=by simp
 have N:((w.alloc (eM 10 (n:Int) A I C K)).alloc (eM 10 (n:Int) A I C K)).cell? ⟨w.heap.size,1,none⟩=some (hF n):=by simp
 have an:((w.alloc (eM 10 (n:Int) A I C K)).alloc (eM 10 (n:Int) A I C K)).cell? ⟨w.heap.size,4,none⟩=some (hF C):=by simp
 have bE:((w.alloc (eM 10 (n:Int) A I C K)).alloc (eM 10 (n:Int) A I C K)).cell? ⟨w.heap.size,5,none⟩=some (.float .f64 K):=by simp
 have bs:w.heap.size<((w.alloc (eM 10 (n:Int) A I C K)).alloc (eM 10 (n:Int) A I C K)).heap.size:=by simp;omega
 go_enter func47,ntmps47;go_wp2_with fail;refine(kC _ 10 (n:Int) A I C K P X l).mono ?_;exact qha
theorem dN.qen(h:Zp:=by
 by_cases aB:k<n
 ·obtain⟨zs,aU,j,m,g,_⟩:=bp;have bw:=eQ r bs a9;have d5:=eQ r bs bE;have ci:aG.cell? ⟨aA,bK+p,none⟩=some (.float .f64 (Q.getD p 0)):=by rw[F.o.cell (p:=⟨aA,bK+p,none⟩) o xaa];exact z p xaa
  have bI:=eQ r (yaj o F.o.size) ci;have bd:Q.getD p 0<18446744073709551616:=fC ax.lt p;have aD:(p:Int)<P:=xaa;have d4:=eQ r bs an;have HE:V (fb (Q.getD p 0)=fb (fD 11 (p:Int) K Q S aq k)):=by show fb (Q.getD p 0)=fb (fD 11 (p:Int) K Q S aq k);simp[fD]
  clear ci;generalize Q.getD p 0=u0 at bI bd HE;go_wp2_with (first|(go_at_call 67;refine(gm _ _ xaa xaa).mono ?_;rintro e ag ⟨rfl,rfl⟩;simp only[show fL 11=false from rfl])|(at_builtin;refine wpList_append_own _ rfl _ _ 54 rfl aG.heap.size 38 bC (.float .f64 0) 1 8 underlying54 hi bn bQ br rfl xab _ _ _ rfl (aU.alloc _) ⟨wr.heap.size,0,none⟩ 1 1 [.float .f64 u0] rfl rfl ?c1 ?c2 ?c3 ?c4 ?c5 ?_))
  case c1=>exact cell_one_new _ _ _
  case c2=>intro u aI;simp at aI;subst aI;rfl
  case c3=>unfold maxLen;omega
  case c4=>omega
  case c5=>have:=r.size;simp;omega
  exact xdo
 exact xbg):Zp:=h
theorem dN.qhb(h:Zp:=by
 have bl:=ig ((w.alloc (eM 11 (n:Int) A I (p:Int) K)).alloc (eM 11 (n:Int) A I (p:Int) K)) (fD 11 (p:Int) K Q S aq);generalize t:(w.alloc (eM 11 (n:Int) A I (p:Int) K)).alloc (eM 11 (n:Int) A I (p:Int) K)=aG at a9 N an bE bs F bl⊢;clear t;go_loopw [9,10,11,12,13,14] (λv i _ _ _ _ W=>∃k:Nat,k<=n/\i=hF k/\Grow aG k (fD 11 (p:Int) K Q S aq) v W) (λ_ i _ _ _ _ _=>n-(intOf i).toNat)
 case atStart=>exact⟨0,Nat.zero_le _,rfl,bl⟩
 case round=>
  exact qem):Zp:=h
open dN in
theorem uh(w A I C)(n K:Nat)(B:1<=n)(hn:n<=1000)(_hK:K<18446744073709551616)
  (ax:FS w bN az a P Q) (_fb:FS w bJ bf b X S) (_fc:FS w b5 b6 c l aq) (_hca:P<=bu) (ae:fp 11 (n:Int) C P X l=true):
  Calls prog 47 #[gO 11 (n:Int) A I C K,.slice a P bu,.slice b X b2,.slice c l bT] w λe J=>KS n (fD 11 C K Q S aq) w e J:=by
 have au:=ae;obtain⟨bC,hi,bn,bQ,br⟩:=info_parts lD;have f:n<=1/\1<=P/\P<=1000/\0<=C/\C<(P:Int):=by simp[fp,eR,cnt,lenB,fN]at au;omega
 obtain⟨p,rfl⟩:=Int.eq_ofNat_of_zero_le f.2.2.2.1;clear au;rcases ax.at_ with bz|⟨aA,bK,rfl,_,_,o,z⟩
 ·omega
 have F:V _:=(ez 0 0 w (eM 11 (n:Int) A I (p:Int) K)).trans (ez 0 0 _ (eM 11 (n:Int) A I (p:Int) K));have a9:((w.alloc (eM 11 (n:Int) A I (p:Int) K)).alloc (eM 11 (n:Int) A I (p:Int) K)).cell? ⟨w.heap.size,0,none⟩=some (hF 11):=by simp
 have N:((w.alloc (eM 11 (n:Int) A I (p:Int) K)).alloc (eM 11 (n:Int) A I (p:Int) K)).cell? ⟨w.heap.size,1,none⟩=some (hF n):=by simp
 have an:((w.alloc (eM 11 (n:Int) A I (p:Int) K)).alloc (eM 11 (n:Int) A I (p:Int) K)).cell? ⟨w.heap.size,4,none⟩=some (hF p):=by simp
 have bE:((w.alloc (eM 11 (n:Int) A I (p:Int) K)).alloc (eM 11 (n:Int) A I (p:Int) K)).cell? ⟨w.heap.size,5,none⟩=some (.float .f64 K):=by simp
 have bs:w.heap.size<((w.alloc (eM 11 (n:Int) A I (p:Int) K)).alloc (eM 11 (n:Int) A I (p:Int) K)).heap.size:=by simp;omega
 go_enter func47,ntmps47;go_wp2_with fail;refine(kC _ 11 (n:Int) A I (p:Int) K P X l).mono ?_;exact qha
theorem bQ.qca(h:Zp:=by
 have d4:=eQ r bs an;by_cases h:k=p
 ·have HE:V (fb (Q.getD 0 0)=fb (fD 12 (p:Int) K Q S aq k)):=by show fb (Q.getD 0 0)=fb (fD 12 (p:Int) K Q S aq k);simp[fD,h]
  have s:((k:Int)==p)=true:=beq_iff_eq.2 xaa;clear h;generalize Q.getD 0 0=u0 at bI bd HE;go_wp2_with (first|(go_at_call 67;refine(gm _ _ xaa xaa).mono ?_;rintro e ag ⟨rfl,rfl⟩;simp only[show fL 12=false from rfl])|(at_builtin;refine wpList_append_own _ rfl _ _ 54 rfl aG.heap.size 38 bC (.float .f64 0) 1 8 underlying54 hi bn bQ br rfl xab _ _ _ rfl (aU.alloc _) ⟨wr.heap.size,0,none⟩ 1 1 [.float .f64 u0] rfl rfl ?c1 ?c2 ?c3 ?c4 ?c5 ?_))
  case c1=>exact cell_one_new _ _ _
  case c2=>intro u aI;simp at aI;subst aI;rfl
  case c3=>unfold maxLen;omega
  case c4=>omega
  case c5=>have:=r.size;simp;omega
  exact xdo
 have HE:V (fb 0=fb (fD 12 (p:Int) K Q S aq k)):=by show fb 0=fb (fD 12 (p:Int) K Q S aq k);simp[fD,h]
 have s:((k:Int)==p)=false:=yam xaa;clear h bI bd;go_wp2_with (first|(go_at_call 67;refine(gm _ _ xaa xaa).mono ?_;rintro e ag ⟨rfl,rfl⟩;simp only[show fL 12=false from rfl])|(at_builtin;refine wpList_append_own _ rfl _ _ 54 rfl aG.heap.size 38 bC (.float .f64 0) 1 8 underlying54 hi bn bQ br rfl xab _ _ _ rfl (aU.alloc _) ⟨wr.heap.size,0,none⟩ 1 1 [.float .f64 0] rfl rfl ?d1 ?d2 ?d3 ?d4 ?d5 ?_))
 case d1=>exact cell_one_new _ _ _
 case d2=>intro u aI;simp at aI;subst aI;rfl
 case d3=>unfold maxLen;omega
 case d4=>omega
 case d5=>have:=r.size;simp;omega
 intro v' be bv a6 _;have R:V _:=Grow.step aU j m g r xaa HE.o bv a6;exact xav):Zp:=h
theorem bQ.qen(h:Zp:=by
 by_cases aB:k<n
 ·exact qbz
 exact xbg):Zp:=h
theorem bQ.qhb(h:Zp:=by
 have bl:=ig ((w.alloc (eM 12 (n:Int) A I (p:Int) K)).alloc (eM 12 (n:Int) A I (p:Int) K)) (fD 12 (p:Int) K Q S aq);generalize t:(w.alloc (eM 12 (n:Int) A I (p:Int) K)).alloc (eM 12 (n:Int) A I (p:Int) K)=aG at a9 N an bE bs F bl⊢;clear t;go_loopw [9,10,11,12,13,14] (λv i _ _ _ _ W=>∃k:Nat,k<=n/\i=hF k/\Grow aG k (fD 12 (p:Int) K Q S aq) v W) (λ_ i _ _ _ _ _=>n-(intOf i).toNat)
 case atStart=>exact⟨0,Nat.zero_le _,rfl,bl⟩
 case round=>
  exact qem):Zp:=h
open bQ in
theorem ui(w A I C)(n K:Nat)(B:1<=n)(hn:n<=1000)(_hK:K<18446744073709551616)
  (ax:FS w bN az a P Q) (_fb:FS w bJ bf b X S) (_fc:FS w b5 b6 c l aq) (_hca:P<=bu) (ae:fp 12 (n:Int) C P X l=true):
  Calls prog 47 #[gO 12 (n:Int) A I C K,.slice a P bu,.slice b X b2,.slice c l bT] w λe J=>KS n (fD 12 C K Q S aq) w e J:=by
 have au:=ae;obtain⟨bC,hi,bn,bQ,br⟩:=info_parts lD;have f:(P<=1/\1<=P)/\0<=C/\C<(n:Int):=by simp[fp,eR,cnt,lenB,fN]at au;omega
 obtain⟨p,rfl⟩:=Int.eq_ofNat_of_zero_le f.2.1;clear au;rcases ax.at_ with bz|⟨aA,bK,rfl,_,_,o,z⟩
 ·omega
 have F:V _:=(ez 0 0 w (eM 12 (n:Int) A I (p:Int) K)).trans (ez 0 0 _ (eM 12 (n:Int) A I (p:Int) K));have a9:((w.alloc (eM 12 (n:Int) A I (p:Int) K)).alloc (eM 12 (n:Int) A I (p:Int) K)).cell? ⟨w.heap.size,0,none⟩=some (hF 12):=by simp
 have N:((w.alloc (eM 12 (n:Int) A I (p:Int) K)).alloc (eM 12 (n:Int) A I (p:Int) K)).cell? ⟨w.heap.size,1,none⟩=some (hF n):=by simp
 have an:((w.alloc (eM 12 (n:Int) A I (p:Int) K)).alloc (eM 12 (n:Int) A I (p:Int) K)).cell? ⟨w.heap.size,4,none⟩=some (hF p):=by simp
 have bE:((w.alloc (eM 12 (n:Int) A I (p:Int) K)).alloc (eM 12 (n:Int) A I (p:Int) K)).cell? ⟨w.heap.size,5,none⟩=some (.float .f64 K):=by simp
 have bs:w.heap.size<((w.alloc (eM 12 (n:Int) A I (p:Int) K)).alloc (eM 12 (n:Int) A I (p:Int) K)).heap.size:=by simp;omega
 go_enter func47,ntmps47;go_wp2_with fail;refine(kC _ 12 (n:Int) A I (p:Int) K P X l).mono ?_;exact qha
theorem C.qaj(h:Zp:=by
 have p:V _:=fC ax.lt k;have HE:V (∀u,fb u=fb (nz 13 (Q.getD k 0) 0 0)->fb u=fb (fD 13 C K Q S aq k)):=λu h=>by rw[h];simp[nz,fD]
 generalize Q.getD k 0=ai at Y p HE;have ah:(k:Int)<P:=xaa;go_wp2_with (first|(go_at_call 67;refine(gm _ _ xaa xaa).mono ?_;rintro e ag ⟨rfl,rfl⟩;simp only[show fL 13=true from rfl])|(go_at_call 42;refine(iG _ _ xaa xaa).mono ?_;rintro e ag ⟨rfl,rfl⟩;simp only[show iw 13=1 from rfl]));refine(rL 13 _ _ _ _ p.o xaa xaa xaa).mono ?_;exact qdx):Zp:=h
theorem C.qdy(h:Zp:=by
 go_wp2_with (first|(go_at_call 67;refine(gm _ _ xaa xaa).mono ?_;rintro e ag ⟨rfl,rfl⟩;simp only[show fL 13=true from rfl])|(at_builtin;refine wpList_append_own _ rfl _ _ 54 rfl aG.heap.size 38 bC (.float .f64 0) 1 8 underlying54 hi bn bQ br rfl xab _ _ _ rfl (s.alloc _) ⟨ag.heap.size,0,none⟩ 1 1 [.float .f64 u] rfl rfl ?c1 ?c2 ?c3 ?c4 ?c5 ?_))
 case c1=>exact cell_one_new _ _ _
 case c2=>intro u aI;simp at aI;subst aI;rfl
 case c3=>unfold maxLen;omega
 case c4=>omega
 case c5=>have:=x.size;simp;omega
 exact xaw):Zp:=h
theorem C.qen(h:Zp:=by
 by_cases aB:k<n
 ·exact qai
 exact xbg):Zp:=h
theorem C.qhb(h:Zp:=by
 have bl:=ig ((w.alloc (eM 13 (n:Int) A I C K)).alloc (eM 13 (n:Int) A I C K)) (fD 13 C K Q S aq);generalize t:(w.alloc (eM 13 (n:Int) A I C K)).alloc (eM 13 (n:Int) A I C K)=aG at a9 N an bE bs F bl⊢;clear t;go_loopw [9,10,11,12,13,14] (λv i _ _ _ _ W=>∃k:Nat,k<=n/\i=hF k/\Grow aG k (fD 13 C K Q S aq) v W) (λ_ i _ _ _ _ _=>n-(intOf i).toNat)
 case atStart=>exact⟨0,Nat.zero_le _,rfl,bl⟩
 case round=>
  exact qem):Zp:=h
theorem C.qik(h:Zp:=by
 rcases ax.at_ with bz|⟨aA,bK,rfl,_,_,o,z⟩
 ·omega
 have F:V _:=(ez 0 0 w (eM 13 (n:Int) A I C K)).trans (ez 0 0 _ (eM 13 (n:Int) A I C K));have a9:((w.alloc (eM 13 (n:Int) A I C K)).alloc (eM 13 (n:Int) A I C K)).cell? ⟨w.heap.size,0,none⟩=some (hF 13):=by simp
 have N:((w.alloc (eM 13 (n:Int) A I C K)).alloc (eM 13 (n:Int) A I C K)).cell? ⟨w.heap.size,1,none⟩=some (hF n):=by simp
 have an:((w.alloc (eM 13 (n:Int) A I C K)).alloc (eM 13 (n:Int) A I C K)).cell? ⟨w.heap.size,4,none⟩=some (hF C):=by simp
 have bE:((w.alloc (eM 13 (n:Int) A I C K)).alloc (eM 13 (n:Int) A I C K)).cell? ⟨w.heap.size,5,none⟩=some (.float .f64 K):=by simp
 have bs:w.heap.size<((w.alloc (eM 13 (n:Int) A I C K)).alloc (eM 13 (n:Int) A I C K)).heap.size:=by simp;omega
 go_enter func47,ntmps47;go_wp2_with fail;refine(kC _ 13 (n:Int) A I C K P X l).mono ?_;exact qha):Zp:=h
open C in
theorem uj(w A I C)(n K:Nat)(B:1<=n)(hn:n<=1000)(_hK:K<18446744073709551616)
  (ax:FS w bN az a P Q) (_fb:FS w bJ bf b X S) (_fc:FS w b5 b6 c l aq) (_hca:P<=bu) (ae:fp 13 (n:Int) C P X l=true):
  Calls prog 47 #[gO 13 (n:Int) A I C K,.slice a P bu,.slice b X b2,.slice c l bT] w λe J=>KS n (fD 13 C K Q S aq) w e J:=by
 exact qij
def fld(v:Vl)(k:Nat):Int:=if k=0 then v.a else if k=1 then v.b else v.c
theorem mE(w v)(k:Nat)(O:k<3):
  Calls prog 43 #[v.agg,hF k] w λe J=>e=.returned (hF (fld v k))/\Kept 0 0 w J:=by
 rcases (by omega:k=0\/k=1\/k=2) with rfl|rfl|rfl
 all_goals
  go_enter func43,ntmps43
  go_wp2
  go_ret
  exact⟨rfl,ez _ _ _ _⟩
theorem Af(w lo hi a n cap xs)(f:IS w lo hi a n xs)(hn:n<=20):
  Calls prog 16 #[.slice a n cap] w λe J=>e=.returned (.bool (xs.all lenB))/\Kept 0 0 w J:=by
 have aL:V _:=f;have HL:V (xs.length=n):=f.len;clear f;go_enter func16,ntmps16;go_wp2_with fail;go_loop [3] (λi=>∃k:Nat,k<=n/\i=hF k/\V ((xs.take k).all lenB=true)) (λi=>n-(intOf i).toNat)
 case atStart=>exact⟨0,Nat.zero_le _,rfl,rfl⟩
 case round=>
  obtain⟨k,O,rfl,a2⟩:=hrel;by_cases aB:k<n
  ·rcases aL.o.at_ with bR|⟨aA,bK,cc,aS,bb,bq,bD⟩
   ·omega
   have c:=bD k aB;subst cc;clear aS bb bq bD;cases ap:lenB (xs.getD k 0)
   ·have R:V (xs.all lenB=false):=nZ (hR HL.o aB) ap;have av:¬(1<=xs.getD k 0/\xs.getD k 0<=1000):=of_decide_eq_false ap;generalize xs.getD k 0=y at c av;clear ap a2;by_cases bS:y<1
    ·exact xkp
    have dv:1000<y:=xaa;exact xkp
   have R:V _:=mU (p:=lenB) (hR HL.o aB) a2.o ap;have av:1<=xs.getD k 0/\xs.getD k 0<=1000:=of_decide_eq_true ap;generalize xs.getD k 0=y at c av;obtain⟨cq,bX⟩:=av;exact xii
  have R:V (xs.all lenB=true):=by
   exact xgp
  clear a2;go_wp2;go_ret;exact⟨hU R.o,Kept.refl _ _ _⟩
theorem uk(w a n cap)(hn:20<n):
  Calls prog 16 #[.slice a n cap] w λe J=>e=.returned (.bool false)/\Kept 0 0 w J:=by
 go_enter func16,ntmps16;go_wp2;go_ret;exact⟨rfl,Kept.refl _ _ _⟩
theorem Br(w lo hi a n cap xs)(f:IS w lo hi a n xs):
  Calls prog 16 #[.slice a n cap] w λe J=>e=.returned (.bool (decide (n<=20)&&xs.all lenB))/\Kept 0 0 w J:=by
 by_cases h:n<=20
 ·rw[decide_eq_true h,Bool.true_and];exact Af w lo hi a n cap xs f h
 rw[yax h,Bool.false_and];exact uk w a n cap xaa
theorem Bs(w a1 Z a3 Y c1 ab c2 aa c3 ins vs outs)(f:GS w a1 Y Z ab a3 aa ins vs outs)(U:ab<=2000)(ah:∀k,k<ab->1<=(vs.getD k hK).len/\(vs.getD k hK).len<=1000):
  Calls prog 18 #[eX a1 Y c1 Z ab c2 a3 aa c3] w λe J=>e=.returned (hF (fd vs))/\Kept 0 0 w J:=by
 have ar:=ez 0 0 w (eZ a1 Y c1 Z ab c2 a3 aa c3);have aT:=fO w (.slice a1 Y c1) (.slice Z ab c2) (.slice a3 aa c3);have aL:V _:=f.keep ar;have HL:V _:=f.v.len;have b1:V _:=ah;clear f ah ar;go_enter func18,ntmps18;go_wp2_with fail;go_loop [3,4] (λc i=>∃k:Nat,k<=ab/\i=hF k/\c=hF (fd (vs.take k))/\V (0<=fd (vs.take k)/\fd (vs.take k)<=1000*k)) (λ_ i=>ab-(intOf i).toNat)
 case atStart=>exact⟨0,Nat.zero_le _,rfl,rfl,by constructor<;>simp[fd]⟩
 case round=>
  obtain⟨k,O,rfl,rfl,hb⟩:=hrel;by_cases aB:k<ab
  ·rcases aL.o.v.at_ with bR|⟨aA,bK,cc,aS,bb,bq,bD⟩
   ·omega
   have c:=(bD k aB).c1;have co:V _:=mD (hR HL.o aB);have K:V _:=b1.o k aB;subst cc;clear aS bb bq bD;generalize vs.getD k _=v at c co K;have bQ:-1000000000<=fd (vs.take k)+v.len:=hQ hb.o K.o
   have bY:fd (vs.take k)+v.len<=1000000000:=hQ hb.o K.o
   have bl:V (0<=fd (vs.take (k+1))/\fd (vs.take (k+1))<=1000*(k+1:Nat)):=by
    exact xko
   generalize ao:fd _=bT at bQ bY co;clear hb ao;go_wp2;go_round
   case rel=>exact⟨k+1,by omega,by go_num,by rw[co.o],bl⟩
   case measure=>simp[intOf];omega
  have R:V (fd (vs.take k)=fd vs):=by
   show fd (vs.take k)=fd vs;rw[yao (hT HL.o)]
  clear hb;go_wp2;go_ret;exact⟨by rw[<-R.o];rfl,ez _ _ _ _⟩
