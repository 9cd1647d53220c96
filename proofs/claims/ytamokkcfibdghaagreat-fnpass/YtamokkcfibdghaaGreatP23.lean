import Derived.Test.YtamokkcfibdghaaGreatP08
namespace Go.Proofs.Z
open Tryz
set_option maxRecDepth 1000000
set_option maxHeartbeats 0
open Go.RowKit Flt
attribute [local go_sem] eG eE eD
variable {bN P n c0 bP bj b8 ce c1 l F s ca b5 b3:Nat}{bw a a1 b c:Option Addr}{xs zs bd Q X al:List Nat}
theorem JF(w n)(B:1<=n)(hn:n<=1000)(bG:FS w bN P bw n xs)(f1:FS w bP bj a1 n bd):
  Calls prog 75 #[.slice bw n c0,.slice a1 n c1,.func (.func 76) #[] #[]] w λe J=>Made n (λk=>cop .add (xs.getD k 0) (bd.getD k 0)) w e J:=by
 rcases bG.at_ with h|⟨bY,ai,rfl,_,_,bb,H⟩
 ·omega
 rcases f1.at_ with h|⟨br,b1,rfl,_,_,N,an⟩
 ·omega
 exact CJ _ BH w n hn bY ai c0 xs bb bG.lt H br b1 c1 bd N f1.lt an
theorem FA(w n)(B:1<=n)(hn:n<=1000)(bG:FS w bN P bw n xs)(f1:FS w bP bj a1 n bd):
  Calls prog 75 #[.slice bw n c0,.slice a1 n c1,.func (.func 77) #[] #[]] w λe J=>Made n (λk=>cop .sub (xs.getD k 0) (bd.getD k 0)) w e J:=by
 rcases bG.at_ with h|⟨bY,ai,rfl,_,_,bb,H⟩
 ·omega
 rcases f1.at_ with h|⟨br,b1,rfl,_,_,N,an⟩
 ·omega
 exact AA _ EW w n hn bY ai c0 xs bb bG.lt H br b1 c1 bd N f1.lt an
theorem FC(w n)(B:1<=n)(hn:n<=1000)(bG:FS w bN P bw n xs)(f1:FS w bP bj a1 n bd):
  Calls prog 75 #[.slice bw n c0,.slice a1 n c1,.func (.func 78) #[] #[]] w λe J=>Made n (λk=>cop .mul (xs.getD k 0) (bd.getD k 0)) w e J:=by
 rcases bG.at_ with h|⟨bY,ai,rfl,_,_,bb,H⟩
 ·omega
 rcases f1.at_ with h|⟨br,b1,rfl,_,_,N,an⟩
 ·omega
 exact AB _ EV w n hn bY ai c0 xs bb bG.lt H br b1 c1 bd N f1.lt an
theorem JG(w n)(B:1<=n)(hn:n<=1000)(bG:FS w bN P bw n xs)(f1:FS w bP bj a1 n bd):
  Calls prog 75 #[.slice bw n c0,.slice a1 n c1,.func (.func 79) #[] #[]] w λe J=>Made n (λk=>cop .quo (xs.getD k 0) (bd.getD k 0)) w e J:=by
 rcases bG.at_ with h|⟨bY,ai,rfl,_,_,bb,H⟩
 ·omega
 rcases f1.at_ with h|⟨br,b1,rfl,_,_,N,an⟩
 ·omega
 exact CK _ IY w n hn bY ai c0 xs bb bG.lt H br b1 c1 bd N f1.lt an
theorem AN(w n)(B:1<=n)(hn:n<=1000)(bG:FS w bN P bw n xs)(f1:FS w bP bj a1 n bd):
  Calls prog 75 #[.slice bw n c0,.slice a1 n c1,.func (.func 82) #[] #[]] w λe J=>Made n (λk=>jr (xs.getD k 0) (bd.getD k 0)) w e J:=by
 rcases bG.at_ with h|⟨bY,ai,rfl,_,_,bb,H⟩
 ·omega
 rcases f1.at_ with h|⟨br,b1,rfl,_,_,N,an⟩
 ·omega
 exact wn _ AD w n hn bY ai c0 xs bb bG.lt H br b1 c1 bd N f1.lt an
theorem AO(w n)(B:1<=n)(hn:n<=1000)(bG:FS w bN P bw n xs):
  Calls prog 80 #[.slice bw n c0,.func (.func 81) #[] #[]] w λe J=>Made n (λk=>Op.negFloat .f64 (xs.getD k 0)) w e J:=by
 rcases bG.at_ with h|⟨bY,ai,rfl,_,_,bb,H⟩
 ·omega
 exact wo _ AE w n hn bY ai c0 xs bb bG.lt H
theorem Nb(w n)(B:1<=n)(hn:n<=1000)(bG:FS w bN P bw n xs):
  Calls prog 80 #[.slice bw n c0,.func (.func 87) #[] #[]] w λe J=>Made n (λk=>qk (xs.getD k 0)) w e J:=by
 rcases bG.at_ with h|⟨bY,ai,rfl,_,_,bb,H⟩
 ·omega
 exact EU _ Mg w n hn bY ai c0 xs bb bG.lt H
theorem Db(w n)(B:1<=n)(hn:n<=1000)(bG:FS w bN P bw n xs)(f1:FS w bP bj a1 n bd){a2 c2 us}(f2:FS w b8 ce a2 n us):
  Calls prog 83 #[.slice bw n c0,.slice a1 n c1,.slice a2 n c2,.func (.func 84) #[] #[]] w λe J=>Made n (λk=>iC (xs.getD k 0) (bd.getD k 0) (us.getD k 0)) w e J:=by
 rcases bG.at_ with h|⟨bY,ai,rfl,_,_,bb,H⟩
 ·omega
 rcases f1.at_ with h|⟨br,b1,rfl,_,_,N,an⟩
 ·omega
 rcases f2.at_ with h|⟨ag,bS,rfl,_,_,aA,ao⟩
 ·omega
 exact yy w n hn bY ai c0 xs bb bG.lt H br b1 c1 bd N f1.lt an ag bS c2 us aA f2.lt ao
theorem Nc(w n)(B:1<=n)(hn:n<=1000)(bG:FS w bN P bw n xs)(ai:n<=c0):
  Calls prog 85 #[.slice bw n c0,.func (.func 76) #[] #[]] w λe J=>∃z,e=.returned (.float .f64 z)/\z<18446744073709551616/\fb z=fb (kR xs)/\Drawn w J:=by
 rcases bG.at_ with h|⟨g,o,rfl,_,_,b,k⟩
 ·omega
 exact PV w n hn B g o c0 xs bG.len ai bG.lt k
theorem Made.kres{q ak w wc e J}(h:Made n q wc e J)(O:Kept 0 0 w wc)(aq:∀k,k<n->fb (q k)=fb (ak k)):OP n ak w e J:=by
 obtain⟨zs,B,R,h3,a8,bQ,bV⟩:=h;exact⟨_,zs,B,O.size,R,h3,a8,λk ae=>(bQ k ae).trans (aq k ae),O.trans bV⟩
theorem uD(w op A I C)(n K:Nat)(B:1<=n)(hn:n<=1000)(aH:K<18446744073709551616)
  (am:FS w bN P a l Q) (av:FS w bP bj b F X) (y:FS w b8 ce c s al) (Z:l<=ca)
  (ad:eR op (n:Int) C (([(l:Int),(F:Int),(s:Int)]).take (cnt op))=true):
  Calls prog 48 #[ii op (n:Int) A I C K,.slice a l ca,.slice b F b5,.slice c s b3] w λe J=>OP n (fA op C K Q X al) w e J:=by
 have aw:V (eR op (n:Int) C (([(l:Int),(F:Int),(s:Int)]).take (cnt op))=true):=ad
 have bO:V (∀w,Calls prog 44 #[hI n] w λe J=>e=.returned (.bool true)/\J=w):=λw=>by
  have:=gH (n:Int) w
  rw[oR xaa xaa]at this
  exact this
 have bB:=ww (w.alloc (eK op (n:Int) A I C K)) l F s;have an:=bB.prefix (cnt op) (gK op);have ar:=gK op;have ap:V (∀w,Calls prog 73 #[hI op] w λe J=>e=.returned (hI (cnt op:Nat))/\J=w):=qj op
 have aT:V (∀m,Calls prog 72 #[ii op (n:Int) A I C K,hH (w.heap.size+1) (cnt op) 3] (((w.alloc (eK op (n:Int) A I C K)).alloc (.cells #[hI l,hI F,hI s] 3)).drewN m)
   λe J=>e=.returned (.bool true)/\Kept 0 0 (((w.alloc (eK op (n:Int) A I C K)).alloc (.cells #[hI l,hI F,hI s] 3)).drewN m) J):=λm=>by
  have h:=qY _ op (n:Int) A I C K _ _ _ _ 3 _ (an.keep (eM 0 0 _ m) yaa) rfl
  rw[ad]at h
  have e:(w.alloc (eK op (n:Int) A I C K)).heap.size=w.heap.size+1:=by simp
  rw[e]at h
  exact h
 clear bB an ad;generalize cnt op=q at ap aT ar;go_enter func48,ntmps48;go_upto_region 2 with fail;go_cut [30] (λr bo=>r=.bool (!true)/\Kept 0 0 ((w.alloc (eK op (n:Int) A I C K)).alloc (.cells #[hI l,hI F,hI s] 3)) bo)
 case first=>
  exact xep
 case rest=>
  obtain⟨rfl,ay⟩:=hcut;clear bO ap aT ar;have U:V _:=((ez 0 0 w (eK op (n:Int) A I C K)).trans (ez 0 0 _ (.cells #[hI l,hI F,hI s] 3))).trans ay;have R:w.heap.size<((w.alloc (eK op (n:Int) A I C K)).alloc (.cells #[hI l,hI F,hI s] 3)).heap.size:=by simp;omega
  have bL:∀i,wc.cell? ⟨w.heap.size,i,none⟩=((w.alloc (eK op (n:Int) A I C K)).alloc (.cells #[hI l,hI F,hI s] 3)).cell? ⟨w.heap.size,i,none⟩:=λi=>ay.cell (p:=⟨w.heap.size,i,none⟩) R xaa;have bb:wc.cell? ⟨w.heap.size,0,none⟩=some (hI op):=by rw[bL];simp
  have N:wc.cell? ⟨w.heap.size,1,none⟩=some (hI n):=by rw[bL];simp
  have aI:wc.cell? ⟨w.heap.size,4,none⟩=some (hI C):=by rw[bL];simp
  have b9:wc.cell? ⟨w.heap.size,5,none⟩=some (.float .f64 K):=by rw[bL];simp
  have aG:=am.keep U.o yaa;have bH:=av.keep U.o yaa;have ah:=y.keep U.o yaa;clear am av y bL R ay;have a9:=aw.o;clear aw;rcases qh op with h|h|h|h|h|h|h|h|h|h|h|h|h|h
  ·
   have aQ:(op==1)=true:=beq_iff_eq.2 h
   clear a9 aG bH ah
   have HE:V (∀k,k<n->fb ((λ_=>K) k)=fb (fA op C K Q X al k)):=λk _=>by simp[fA,h]
   clear h
   go_wp2_with fail
   refine(wv _ K n aH hn).mono ?_
   exact xat
  ·
   have aQ:(op==1)=false:=yam xaa
   have a6:(op==2)=true:=beq_iff_eq.2 h
   have f:l=n/\F=n:=by rw[h]at a9;simp[eR,cnt]at a9;omega
   have HE:V (∀k,k<n->fb ((λk=>cop .add (Q.getD k 0) (X.getD k 0)) k)=fb (fA op C K Q X al k)):=λk _=>by simp[fA,h]
   have aP:V _:=f
   have G:V _:=aG
   have GB:V _:=bH
   have aj:V _:=ah
   clear a9 aG bH ah f h
   go_wp2_with fail
   have ba:=G.o
   rw[aP.o.1]at ba
   have aO:=GB.o
   rw[aP.o.2]at aO
   rw[aP.o.1,aP.o.2]
   refine(JF _ n B hn ba aO).mono ?_
   exact xbo
  ·
   have aQ:(op==1)=false:=yam xaa
   have a6:(op==2)=false:=yam xaa
   have bK:(op==3)=true:=beq_iff_eq.2 h
   have f:l=n/\F=n:=by rw[h]at a9;simp[eR,cnt]at a9;omega
   have HE:V (∀k,k<n->fb ((λk=>cop .sub (Q.getD k 0) (X.getD k 0)) k)=fb (fA op C K Q X al k)):=λk _=>by simp[fA,h]
   have aP:V _:=f
   have G:V _:=aG
   have GB:V _:=bH
   have aj:V _:=ah
   clear a9 aG bH ah f h
   go_wp2_with fail
   have ba:=G.o
   rw[aP.o.1]at ba
   have aO:=GB.o
   rw[aP.o.2]at aO
   rw[aP.o.1,aP.o.2]
   refine(FA _ n B hn ba aO).mono ?_
   exact xbo
  ·
   have aQ:(op==1)=false:=yam xaa
   have a6:(op==2)=false:=yam xaa
   have bK:(op==3)=false:=yam xaa
   have b1:(op==4)=true:=beq_iff_eq.2 h
   have f:l=n/\F=n:=by rw[h]at a9;simp[eR,cnt]at a9;omega
   have HE:V (∀k,k<n->fb ((λk=>cop .mul (Q.getD k 0) (X.getD k 0)) k)=fb (fA op C K Q X al k)):=λk _=>by simp[fA,h]
   have aP:V _:=f
   have G:V _:=aG
   have GB:V _:=bH
   have aj:V _:=ah
   clear a9 aG bH ah f h
   go_wp2_with fail
   have ba:=G.o
   rw[aP.o.1]at ba
   have aO:=GB.o
   rw[aP.o.2]at aO
   rw[aP.o.1,aP.o.2]
   refine(FC _ n B hn ba aO).mono ?_
   exact xbo
  ·
   have aQ:(op==1)=false:=yam xaa
   have a6:(op==2)=false:=yam xaa
   have bK:(op==3)=false:=yam xaa
   have b1:(op==4)=false:=yam xaa
   have bY:(op==5)=true:=beq_iff_eq.2 h
   have f:l=n/\F=n:=by rw[h]at a9;simp[eR,cnt]at a9;omega
   have HE:V (∀k,k<n->fb ((λk=>cop .quo (Q.getD k 0) (X.getD k 0)) k)=fb (fA op C K Q X al k)):=λk _=>by simp[fA,h]
   have aP:V _:=f
   have G:V _:=aG
   have GB:V _:=bH
   have aj:V _:=ah
   clear a9 aG bH ah f h
   go_wp2_with fail
   have ba:=G.o
   rw[aP.o.1]at ba
   have aO:=GB.o
   rw[aP.o.2]at aO
   rw[aP.o.1,aP.o.2]
   refine(JG _ n B hn ba aO).mono ?_
   exact xbo
  ·
   have aQ:(op==1)=false:=yam xaa
   have a6:(op==2)=false:=yam xaa
   have bK:(op==3)=false:=yam xaa
   have b1:(op==4)=false:=yam xaa
   have bY:(op==5)=false:=yam xaa
   have a7:(op==6)=true:=beq_iff_eq.2 h
   have f:l=n:=by rw[h]at a9;simp[eR,cnt]at a9;omega
   have HE:V (∀k,k<n->fb ((λk=>Op.negFloat .f64 (Q.getD k 0)) k)=fb (fA op C K Q X al k)):=λk _=>by simp[fA,h]
   have aP:V _:=f
   have G:V _:=aG
   have GB:V _:=bH
   have aj:V _:=ah
   clear a9 aG bH ah f h
   go_wp2_with fail
   have ba:=G.o
   rw[aP.o]at ba
   rw[aP.o]
   refine(AO _ n B hn ba).mono ?_
   exact xfh
  ·
   have aQ:(op==1)=false:=yam xaa
   have a6:(op==2)=false:=yam xaa
   have bK:(op==3)=false:=yam xaa
   have b1:(op==4)=false:=yam xaa
   have bY:(op==5)=false:=yam xaa
   have a7:(op==6)=false:=yam xaa
   have ai:(op==7)=true:=beq_iff_eq.2 h
   have f:l=n/\F=n:=by rw[h]at a9;simp[eR,cnt]at a9;omega
   have HE:V (∀k,k<n->fb ((λk=>jr (Q.getD k 0) (X.getD k 0)) k)=fb (fA op C K Q X al k)):=λk _=>by simp[fA,h]
   have aP:V _:=f
   have G:V _:=aG
   have GB:V _:=bH
   have aj:V _:=ah
   clear a9 aG bH ah f h
   go_wp2_with fail
   have ba:=G.o
   rw[aP.o.1]at ba
   have aO:=GB.o
   rw[aP.o.2]at aO
   rw[aP.o.1,aP.o.2]
   refine(AN _ n B hn ba aO).mono ?_
   exact xbo
  ·
   have aQ:(op==1)=false:=yam xaa
   have a6:(op==2)=false:=yam xaa
   have bK:(op==3)=false:=yam xaa
   have b1:(op==4)=false:=yam xaa
   have bY:(op==5)=false:=yam xaa
   have a7:(op==6)=false:=yam xaa
   have ai:(op==7)=false:=yam xaa
   have ax:(op==8)=true:=beq_iff_eq.2 h
   have f:l=n/\F=n/\s=n:=by rw[h]at a9;simp[eR,cnt]at a9;omega
   have HE:V (∀k,k<n->fb ((λk=>iC (Q.getD k 0) (X.getD k 0) (al.getD k 0)) k)=fb (fA op C K Q X al k)):=λk _=>by simp[fA,h]
   have aP:V _:=f
   have G:V _:=aG
   have GB:V _:=bH
   have aj:V _:=ah
   clear a9 aG bH ah f h
   go_wp2_with fail
   have ba:=G.o
   rw[aP.o.1]at ba
   have aO:=GB.o
   rw[aP.o.2.1]at aO
   have aR:=aj.o
   rw[aP.o.2.2]at aR
   rw[aP.o.1,aP.o.2.1,aP.o.2.2]
   refine(Db _ n B hn ba aO aR).mono ?_
   clear ba aO aR
   exact xat
  ·
   have aQ:(op==1)=false:=yam xaa
   have a6:(op==2)=false:=yam xaa
   have bK:(op==3)=false:=yam xaa
   have b1:(op==4)=false:=yam xaa
   have bY:(op==5)=false:=yam xaa
   have a7:(op==6)=false:=yam xaa
   have ai:(op==7)=false:=yam xaa
   have ax:(op==8)=false:=yam xaa
   have aB:(op==9)=true:=beq_iff_eq.2 h
   have f:n=1/\1<=l/\l<=1000:=by rw[h]at a9;simp[eR,cnt,lenB]at a9;omega
   have HE:V (∀z,fb z=fb (kR Q)->∀k,k<n->fb ((λ_=>z) k)=fb (fA op C K Q X al k)):=λz bp k _=>by simp[fA,h,bp]
   have aP:V _:=f
   have G:V _:=aG
   clear a9 aG bH ah f h
   go_wp2_with fail
   refine(Nc _ l aP.o.2.1 aP.o.2.2 G.o Z).mono ?_
   rintro e af ⟨z,rfl,bp,aC,bf⟩
   have cd:V (fb z=fb (kR Q)):=aC
   clear aC
   go_wp2_with fail
   refine(wv _ z 1 bp xaa).mono ?_
   intro e aX az
   obtain⟨zs,rfl,(S:V _),(Y:V _),(t:V _),(u:V _),(v:V _)⟩:=az
   go_wp2
   go_ret
   rw[aP.o.1]
   have b2:=HE.o z cd.o
   rw[aP.o.1]at b2
   exact Made.kres ⟨zs,rfl,S.o,Y.o,t.o,u.o,v.o⟩ (U.o.trans (bf.kept 0 0)) b2
  ·
   have aQ:(op==1)=false:=yam xaa
   have a6:(op==2)=false:=yam xaa
   have bK:(op==3)=false:=yam xaa
   have b1:(op==4)=false:=yam xaa
   have bY:(op==5)=false:=yam xaa
   have a7:(op==6)=false:=yam xaa
   have ai:(op==7)=false:=yam xaa
   have ax:(op==8)=false:=yam xaa
   have aB:(op==9)=false:=yam xaa
   have aD:(op==10)=true:=beq_iff_eq.2 h
   have f:l=1:=by rw[h]at a9;simp[eR,cnt]at a9;omega
   have HE:V (∀k,k<n->fb ((λ_=>Q.getD 0 0) k)=fb (fA op C K Q X al k)):=λk _=>by simp[fA,h]
   have au:=fx aG.lt 0
   rcases aG.at_ with bp|⟨g,o,rfl,_,_,aW,ag⟩
   ·omega
   have H:=ag 0 xaa
   rw[Nat.add_zero]at H
   have ao:0<(l:Int):=xaa
   clear a9 aG bH ah f h ag aW
   generalize Q.getD 0 0=x at au HE H
   go_wp2_with fail
   go_region_with (go_at_call 74;refine(wv _ x n au hn).mono ?_;intro e af az;obtain⟨zs,rfl,(S:V _),(Y:V _),(t:V _),(u:V _),(v:V _)⟩:=az)
   all_goals
    go_wp2
    go_ret
    exact Made.kres (wc:=wc.drew) ⟨zs,rfl,S.o,Y.o,t.o,u.o,v.o⟩ (U.o.trans (eM 0 0 _ 1)) HE.o
  ·
   have aQ:(op==1)=false:=yam xaa
   have a6:(op==2)=false:=yam xaa
   have bK:(op==3)=false:=yam xaa
   have b1:(op==4)=false:=yam xaa
   have bY:(op==5)=false:=yam xaa
   have a7:(op==6)=false:=yam xaa
   have ai:(op==7)=false:=yam xaa
   have ax:(op==8)=false:=yam xaa
   have aB:(op==9)=false:=yam xaa
   have aD:(op==10)=false:=yam xaa
   have aF:(op==11)=true:=beq_iff_eq.2 h
   have f:n=1/\1<=l/\l<=1000/\0<=C/\C<(l:Int):=by rw[h]at a9;simp[eR,cnt,lenB,fI]at a9;omega
   obtain⟨p,aK⟩:=Int.eq_ofNat_of_zero_le f.2.2.2.1
   have HE:V (∀k,k<n->fb ((λ_=>Q.getD p 0) k)=fb (fA op C K Q X al k)):=λk _=>by simp[fA,h,aK]
   have au:=fx aG.lt p
   rcases aG.at_ with bp|⟨g,o,rfl,_,_,aW,ag⟩
   ·omega
   have H:=ag p xaa
   have cI:(p:Int)<l:=xaa
   have aP:V _:=f
   rw[aK]at aI
   clear a9 aG bH ah f h ag aW aK
   generalize Q.getD p 0=x at au HE H
   go_wp2_with fail
   refine(wv _ x 1 au xaa).mono ?_
   intro e af az
   obtain⟨zs,rfl,(S:V _),(Y:V _),(t:V _),(u:V _),(v:V _)⟩:=az
   go_wp2
   go_ret
   rw[aP.o.1]
   have b2:=HE.o
   rw[aP.o.1]at b2
   exact Made.kres ⟨zs,rfl,S.o,Y.o,t.o,u.o,v.o⟩ U.o b2
  ·
   have aQ:(op==1)=false:=yam xaa
   have a6:(op==2)=false:=yam xaa
   have bK:(op==3)=false:=yam xaa
   have b1:(op==4)=false:=yam xaa
   have bY:(op==5)=false:=yam xaa
   have a7:(op==6)=false:=yam xaa
   have ai:(op==7)=false:=yam xaa
   have ax:(op==8)=false:=yam xaa
   have aB:(op==9)=false:=yam xaa
   have aD:(op==10)=false:=yam xaa
   have aF:(op==11)=false:=yam xaa
   have aL:(op==12)=true:=beq_iff_eq.2 h
   have f:l=1/\0<=C/\C<(n:Int):=by rw[h]at a9;simp[eR,cnt,fI]at a9;omega
   obtain⟨p,aK⟩:=Int.eq_ofNat_of_zero_le f.2.1
   have HE:V (∀k,k<n->fb ((λk=>if k=p then Q.getD 0 0 else 0) k)=fb (fA op C K Q X al k)):=λk _=>by simp[fA,h,aK]
   have au:=fx aG.lt 0
   rcases aG.at_ with bp|⟨g,o,rfl,_,_,aW,ag⟩
   ·omega
   have H:=ag 0 xaa
   rw[Nat.add_zero]at H
   have ao:0<(l:Int):=xaa
   have aV:p<n:=xaa
   rw[aK]at aI
   clear a9 aG bH ah f h ag aW aK
   generalize Q.getD 0 0=x at au HE H
   go_wp2_with fail
   go_region_with (go_at_call 86;refine(Mh _ x p n au hn aV).mono ?_;intro e af az;obtain⟨zs,rfl,(S:V _),(Y:V _),(t:V _),(u:V _),(v:V _)⟩:=az)
   all_goals
    go_wp2
    go_ret
    exact Made.kres (wc:=wc.drew) ⟨zs,rfl,S.o,Y.o,t.o,u.o,v.o⟩ (U.o.trans (eM 0 0 _ 1)) HE.o
  ·
   have aQ:(op==1)=false:=yam xaa
   have a6:(op==2)=false:=yam xaa
   have bK:(op==3)=false:=yam xaa
   have b1:(op==4)=false:=yam xaa
   have bY:(op==5)=false:=yam xaa
   have a7:(op==6)=false:=yam xaa
   have ai:(op==7)=false:=yam xaa
   have ax:(op==8)=false:=yam xaa
   have aB:(op==9)=false:=yam xaa
   have aD:(op==10)=false:=yam xaa
   have aF:(op==11)=false:=yam xaa
   have aL:(op==12)=false:=yam xaa
   have aM:(op==13)=true:=beq_iff_eq.2 h
   have f:l=n:=by rw[h]at a9;simp[eR,cnt]at a9;omega
   have HE:V (∀k,k<n->fb ((λk=>qk (Q.getD k 0)) k)=fb (fA op C K Q X al k)):=λk _=>by simp[fA,h]
   have aP:V _:=f
   have G:V _:=aG
   have GB:V _:=bH
   have aj:V _:=ah
   clear a9 aG bH ah f h
   go_wp2_with fail
   have ba:=G.o
   rw[aP.o]at ba
   rw[aP.o]
   refine(Nb _ n B hn ba).mono ?_
   exact xfh
  exfalso;obtain⟨bj,ce,h3,a8,bQ,bV,aA,aa,bm,ab,ae,ak,aq⟩:=h;unfold eR at a9;rw[hJ bm,hJ ab,hJ ae,hJ ak,hJ xaa]at a9;cases a9
def iW (op len C:Int)(K:Nat)(xa xb xc:List Nat):List Nat:=
 if fk op len C xa.length xb.length xc.length then (List.range len.toNat).map (fA op C K xa xb xc) else[]
theorem uZ{op len C K}(h:fk op len C Q.length X.length al.length=true)(ah:zs.length=len.toNat)
  (aq:∀k,k<len.toNat->fb (zs.getD k 0)=fb (fA op C K Q X al k)):fU zs (iW op len C K Q X al):=by
 unfold iW;rw[hK h];refine oQ (by simp[ah]) λk O=>?_;rw[aq k xaa];congr 1;simp[List.getD_eq_getElem?_getD,(by omega:k<len.toNat)]
def OR (w:World)(lo:Nat)(a:Option Addr)(n cap:Nat)(zs:List Nat):Prop:=
 (a=none/\n=0/\cap=0/\zs=[])\/∃g,a=some ⟨g,0,none⟩/\lo<=g/\FR w g zs/\zs.length=n/\(∀z∈zs,z<18446744073709551616)
theorem OR.fs{w lo cap}(h:OR w lo a n cap zs):FS w lo w.heap.size a n zs:=by
 rcases h with⟨rfl,rfl,rfl,rfl⟩|⟨g,rfl,B,R,rfl,a8⟩
 ·exact⟨rfl,by simp,.inl rfl⟩
 exact R.fs a8 B R.lt
theorem yW(w op len A I C K)(aH:K<18446744073709551616)
  (am:FS w bN P a l Q) (av:FS w bP bj b F X) (y:FS w b8 ce c s al) (Z:l<=ca):
  Calls prog 48 #[ii op len A I C K,.slice a l ca,.slice b F b5,.slice c s b3] w λe J=>
   ∃(af:Option Addr) (n cap:Nat) (zs:List Nat),e=.returned (.slice af n cap)/\OR J w.heap.size af n cap zs/\fU zs (iW op len C K Q X al)/\Kept 0 0 w J/\n<=cap:=by
 have ae:=am.len;have a9:=av.len;have ak:=y.len;cases bb:fk op len C l F s
 ·have hn:iW op len C K Q X al=[]:=by unfold iW;rw[ae,a9,ak,bb];rfl
  have aw:∀(e:Ending) (J:World),(e=.returned (.slice none 0 0)/\Kept 0 0 w J)->∃(af:Option Addr) (n cap:Nat) (zs:List Nat),e=.returned (.slice af n cap)/\OR J w.heap.size af n cap zs/\fU zs (iW op len C K Q X al)/\Kept 0 0 w J/\n<=cap:=
   λe J h=>⟨none,0,0,[],h.1,.inl ⟨rfl,rfl,rfl,rfl⟩,hX hn,h.2,yad⟩
  cases ah:lenB len
  ·exact(q7 w op len A I C K a b c l F s ca b5 b3 ah).mono λe J h=>aw e J h
  refine(sU w op len A I C K a b c l F s ca b5 b3 ah ?_).mono λe J h=>aw e J h;simpa[fk,ah] using bb
 have ah:lenB len=true:=by have:=bb;simp only[fk,Bool.and_eq_true]at this;exact this.1
 have ad:eR op len C (([(l:Int),(F:Int),(s:Int)]).take (cnt op))=true:=by have:=bb;simp only[fk,Bool.and_eq_true]at this;exact this.2
 have hb:1<=len/\len<=1000:=by simpa[lenB] using ah
 obtain⟨n,rfl⟩:=Int.eq_ofNat_of_zero_le (by omega:0<=len);refine(uD w op A I C n K xaa xaa aH am av y Z ad).mono λe J h=>?_;obtain⟨G,zs,B,R,h3,a8,bQ,bV,aA⟩:=h;exact⟨_,n,n,zs,B,.inr ⟨G,rfl,R,h3,bQ,a8⟩,uZ (by rw[ae,a9,ak];exact bb) (by simpa using bQ) (by simpa using bV),aA,yad⟩
theorem yX(w op len A I C K)(aH:K<18446744073709551616)
  (am:FS w bN P a l Q) (av:FS w bP bj b F X) (y:FS w b8 ce c s al) (Z:l<=ca):
  Calls prog 40 #[ii op len A I C K,.slice a l ca,.slice b F b5,.slice c s b3] w λe J=>
   ∃(af:Option Addr) (n cap:Nat) (zs:List Nat),e=.returned (.slice af n cap)/\FS J w.heap.size J.heap.size af n zs/\fU zs (iW op len C K Q X al)/\Kept 0 0 w J/\n<=cap:=by
 have ae:=am.len;have a9:=av.len;have ak:=y.len;cases bb:fk op len C l F s
 ·have hn:iW op len C K Q X al=[]:=by unfold iW;rw[ae,a9,ak,bb];rfl
  exact(s7 w op len A I C K a b c l F s ca b5 b3 bb).mono λe J h=>⟨none,0,0,[],h.1,⟨rfl,by simp,.inl rfl⟩,hX hn,h.2,yad⟩
 have ay:1<=op/\op<=13/\1<=len/\len<=1000:=Decidable.byContradiction λc=>by rw[yz op len C l F s c]at bb;cases bb
 obtain⟨n,rfl⟩:=Int.eq_ofNat_of_zero_le (by omega:0<=len);have B:1<=n:=xaa;have hn:n<=1000:=xaa
 have aw:∀(e:Ending) (J:World),KS n (fA op C K Q X al) w e J->∃(af:Option Addr) (m cap:Nat) (zs:List Nat),e=.returned (.slice af m cap)/\FS J w.heap.size J.heap.size af m zs/\fU zs (iW op (n:Int) C K Q X al)/\Kept 0 0 w J/\m<=cap:=by
  rintro e J ⟨af,cap,zs,an,ao,aM,bZ,bc⟩;exact⟨af,n,cap,zs,an,ao,uZ (by rw[ae,a9,ak];exact bb) (by simpa using ao.len) (by simpa using aM),bZ,bc⟩
 have:op=1\/op=2\/op=3\/op=4\/op=5\/op=6\/op=7\/op=8\/op=9\/op=10\/op=11\/op=12\/op=13:=xaa;rcases this with rfl|rfl|rfl|rfl|rfl|rfl|rfl|rfl|rfl|rfl|rfl|rfl|rfl
 ·exact(wD w A I C n K B hn aH am av y Z bb).mono aw
 ·exact(wE w A I C n K B hn aH am av y Z bb).mono aw
 ·exact(wG w A I C n K B hn aH am av y Z bb).mono aw
 ·exact(wH w A I C n K B hn aH am av y Z bb).mono aw
 ·exact(wI w A I C n K B hn aH am av y Z bb).mono aw
 ·exact(wJ w A I C n K B hn aH am av y Z bb).mono aw
 ·exact(wK w A I C n K B hn aH am av y Z bb).mono aw
 ·exact(wL w A I C n K B hn aH am av y Z bb).mono aw
 ·exact(wM w A I C n K B hn aH am av y Z bb).mono aw
 ·exact(uy w A I C n K B hn aH am av y Z bb).mono aw
 ·exact(uz w A I C n K B hn aH am av y Z bb).mono aw
 ·exact(uA w A I C n K B hn aH am av y Z bb).mono aw
 exact(uB w A I C n K B hn aH am av y Z bb).mono aw
