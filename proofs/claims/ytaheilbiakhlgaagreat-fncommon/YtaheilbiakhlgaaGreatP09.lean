import Derived.Test.YtaheilbiakhlgaaGreatP08
namespace Go.Proofs.Z
open Tryz
set_option maxRecDepth 1000000
set_option maxHeartbeats 0
open Go.RowKit Flt
attribute[local go_sem] eF eE eD
variable{bN az n c0 bJ bf b5 b6 c1 P X l bu b2 bT:Nat}{br a a1 b c:Option Addr}{xs zs bc Q S aq:List Nat}
theorem IN(w n)(B:1<=n)(hn:n<=1000)(bH:FS w bN az br n xs)(f1:FS w bJ bf a1 n bc):
  Calls prog 85 #[.slice br n c0,.slice a1 n c1,.func (.func 86) #[] #[]] w λe J=>Made n (λk=>cop .add (xs.getD k 0) (bc.getD k 0)) w e J:=by
 rcases bH.at_ with h|⟨bZ,ak,rfl,_,_,a9,H⟩
 ·omega
 rcases f1.at_ with h|⟨bG,bV,rfl,_,_,N,am⟩
 ·omega
 exact Cs _ Bp w n hn bZ ak c0 xs a9 bH.lt H bG bV c1 bc N f1.lt am
theorem EM(w n)(B:1<=n)(hn:n<=1000)(bH:FS w bN az br n xs)(f1:FS w bJ bf a1 n bc):
  Calls prog 85 #[.slice br n c0,.slice a1 n c1,.func (.func 87) #[] #[]] w λe J=>Made n (λk=>cop .sub (xs.getD k 0) (bc.getD k 0)) w e J:=by
 rcases bH.at_ with h|⟨bZ,ak,rfl,_,_,a9,H⟩
 ·omega
 rcases f1.at_ with h|⟨bG,bV,rfl,_,_,N,am⟩
 ·omega
 exact Aa _ EF w n hn bZ ak c0 xs a9 bH.lt H bG bV c1 bc N f1.lt am
theorem EN(w n)(B:1<=n)(hn:n<=1000)(bH:FS w bN az br n xs)(f1:FS w bJ bf a1 n bc):
  Calls prog 85 #[.slice br n c0,.slice a1 n c1,.func (.func 88) #[] #[]] w λe J=>Made n (λk=>cop .mul (xs.getD k 0) (bc.getD k 0)) w e J:=by
 rcases bH.at_ with h|⟨bZ,ak,rfl,_,_,a9,H⟩
 ·omega
 rcases f1.at_ with h|⟨bG,bV,rfl,_,_,N,am⟩
 ·omega
 exact Ab _ EE w n hn bZ ak c0 xs a9 bH.lt H bG bV c1 bc N f1.lt am
theorem IP(w n)(B:1<=n)(hn:n<=1000)(bH:FS w bN az br n xs)(f1:FS w bJ bf a1 n bc):
  Calls prog 85 #[.slice br n c0,.slice a1 n c1,.func (.func 89) #[] #[]] w λe J=>Made n (λk=>cop .quo (xs.getD k 0) (bc.getD k 0)) w e J:=by
 rcases bH.at_ with h|⟨bZ,ak,rfl,_,_,a9,H⟩
 ·omega
 rcases f1.at_ with h|⟨bG,bV,rfl,_,_,N,am⟩
 ·omega
 exact Ct _ IF w n hn bZ ak c0 xs a9 bH.lt H bG bV c1 bc N f1.lt am
theorem Ag(w n)(B:1<=n)(hn:n<=1000)(bH:FS w bN az br n xs)(f1:FS w bJ bf a1 n bc):
  Calls prog 85 #[.slice br n c0,.slice a1 n c1,.func (.func 92) #[] #[]] w λe J=>Made n (λk=>jp (xs.getD k 0) (bc.getD k 0)) w e J:=by
 rcases bH.at_ with h|⟨bZ,ak,rfl,_,_,a9,H⟩
 ·omega
 rcases f1.at_ with h|⟨bG,bV,rfl,_,_,N,am⟩
 ·omega
 exact vV _ Ad w n hn bZ ak c0 xs a9 bH.lt H bG bV c1 bc N f1.lt am
theorem Ah(w n)(B:1<=n)(hn:n<=1000)(bH:FS w bN az br n xs):
  Calls prog 90 #[.slice br n c0,.func (.func 91) #[] #[]] w λe J=>Made n (λk=>Op.negFloat .f64 (xs.getD k 0)) w e J:=by
 rcases bH.at_ with h|⟨bZ,ak,rfl,_,_,a9,H⟩
 ·omega
 exact vW _ Ae w n hn bZ ak c0 xs a9 bH.lt H
theorem Me(w n)(B:1<=n)(hn:n<=1000)(bH:FS w bN az br n xs):
  Calls prog 90 #[.slice br n c0,.func (.func 97) #[] #[]] w λe J=>Made n (λk=>qh (xs.getD k 0)) w e J:=by
 rcases bH.at_ with h|⟨bZ,ak,rfl,_,_,a9,H⟩
 ·omega
 exact ED _ LY w n hn bZ ak c0 xs a9 bH.lt H
theorem Cy(w n)(B:1<=n)(hn:n<=1000)(bH:FS w bN az br n xs)(f1:FS w bJ bf a1 n bc){Z c2 us}(f2:FS w b5 b6 Z n us):
  Calls prog 93 #[.slice br n c0,.slice a1 n c1,.slice Z n c2,.func (.func 94) #[] #[]] w λe J=>Made n (λk=>iz (xs.getD k 0) (bc.getD k 0) (us.getD k 0)) w e J:=by
 rcases bH.at_ with h|⟨bZ,ak,rfl,_,_,a9,H⟩
 ·omega
 rcases f1.at_ with h|⟨bG,bV,rfl,_,_,N,am⟩
 ·omega
 rcases f2.at_ with h|⟨aC,bO,rfl,_,_,aD,an⟩
 ·omega
 exact x6 w n hn bZ ak c0 xs a9 bH.lt H bG bV c1 bc N f1.lt am aC bO c2 us aD f2.lt an
theorem Mf(w n)(B:1<=n)(hn:n<=1000)(bH:FS w bN az br n xs)(ak:n<=c0):
  Calls prog 95 #[.slice br n c0,.func (.func 86) #[] #[]] w λe J=>∃z,e=.returned (.float .f64 z)/\z<18446744073709551616/\fb z=fb (kT xs)/\Drawn w J:=by
 rcases bH.at_ with h|⟨g,o,rfl,_,_,b,k⟩
 ·omega
 exact PJ w n hn B g o c0 xs bH.len ak bH.lt k
theorem Made.kres{q j w wc e J}(h:Made n q wc e J)(O:Kept 0 0 w wc)(ao:∀k,k<n->fb (q k)=fb (j k)):OF n j w e J:=by
 obtain⟨zs,B,U,h3,a6,bK,bm⟩:=h;exact⟨_,zs,B,O.size,U,h3,a6,λk af=>(bK k af).trans (ao k af),O.trans bm⟩
theorem ul(w op A I C)(n K:Nat)(B:1<=n)(hn:n<=1000)(ar:K<18446744073709551616)
  (ax:FS w bN az a P Q) (bk:FS w bJ bf b X S) (Z:FS w b5 b6 c l aq) (aa:P<=bu)
  (ae:eR op (n:Int) C (([(P:Int),(X:Int),(l:Int)]).take (cnt op))=true):
  Calls prog 55 #[gO op (n:Int) A I C K,.slice a P bu,.slice b X b2,.slice c l bT] w λe J=>OF n (fD op C K Q S aq) w e J:=by
 have au:V (eR op (n:Int) C (([(P:Int),(X:Int),(l:Int)]).take (cnt op))=true):=ae
 have bQ:V (∀w,Calls prog 51 #[hF n] w λe J=>e=.returned (.bool true)/\J=w):=λw=>by
  have:=gI (n:Int) w
  rw[oS xaa xaa]at this
  exact this
 have bn:=vZ (w.alloc (eM op (n:Int) A I C K)) P X l;have am:=bn.prefix (cnt op) (gK op);have aB:=gK op;have al:V (∀w,Calls prog 83 #[hF op] w λe J=>e=.returned (hF (cnt op:Nat))/\J=w):=qg op
 have aU:V (∀m,Calls prog 82 #[gO op (n:Int) A I C K,hE (w.heap.size+1) (cnt op) 3] (((w.alloc (eM op (n:Int) A I C K)).alloc (.cells #[hF P,hF X,hF l] 3)).drewN m)
   λe J=>e=.returned (.bool true)/\Kept 0 0 (((w.alloc (eM op (n:Int) A I C K)).alloc (.cells #[hF P,hF X,hF l] 3)).drewN m) J):=λm=>by
  have h:=qX _ op (n:Int) A I C K _ _ _ _ 3 _ (am.keep (eL 0 0 _ m) yaa) rfl
  rw[ae]at h
  have e:(w.alloc (eM op (n:Int) A I C K)).heap.size=w.heap.size+1:=by simp
  rw[e]at h
  exact h
 clear bn am ae;generalize cnt op=q at al aU aB;go_enter func55,ntmps55;go_upto_region 2 with fail;go_cut [30] (λr bp=>r=.bool (!true)/\Kept 0 0 ((w.alloc (eM op (n:Int) A I C K)).alloc (.cells #[hF P,hF X,hF l] 3)) bp)
 case first=>
  exact xeq
 case rest=>
  obtain⟨rfl,aC⟩:=hcut;clear bQ al aU aB;have F:V _:=((ez 0 0 w (eM op (n:Int) A I C K)).trans (ez 0 0 _ (.cells #[hF P,hF X,hF l] 3))).trans aC;have U:w.heap.size<((w.alloc (eM op (n:Int) A I C K)).alloc (.cells #[hF P,hF X,hF l] 3)).heap.size:=by simp;omega
  have bI:∀i,wc.cell? ⟨w.heap.size,i,none⟩=((w.alloc (eM op (n:Int) A I C K)).alloc (.cells #[hF P,hF X,hF l] 3)).cell? ⟨w.heap.size,i,none⟩:=λi=>aC.cell (p:=⟨w.heap.size,i,none⟩) U xaa;have a9:wc.cell? ⟨w.heap.size,0,none⟩=some (hF op):=by rw[bI];simp
  have N:wc.cell? ⟨w.heap.size,1,none⟩=some (hF n):=by rw[bI];simp
  have an:wc.cell? ⟨w.heap.size,4,none⟩=some (hF C):=by rw[bI];simp
  have bE:wc.cell? ⟨w.heap.size,5,none⟩=some (.float .f64 K):=by rw[bI];simp
  have aA:=ax.keep F.o yaa;have ca:=bk.keep F.o yaa;have cr:=Z.keep F.o yaa;clear ax bk Z bI U aC;have a0:=au.o;clear au;rcases qf op with h|h|h|h|h|h|h|h|h|h|h|h|h|h
  ·
   have aO:(op==1)=true:=beq_iff_eq.2 h
   clear a0 aA ca cr
   have HE:V (∀k,k<n->fb ((λ_=>K) k)=fb (fD op C K Q S aq k)):=λk _=>by simp[fD,h]
   clear h
   go_wp2_with fail
   refine(vY _ K n ar hn).mono ?_
   exact xap
  ·
   have aO:(op==1)=false:=yam xaa
   have aX:(op==2)=true:=beq_iff_eq.2 h
   have f:P=n/\X=n:=by rw[h]at a0;simp[eR,cnt]at a0;omega
   have HE:V (∀k,k<n->fb ((λk=>cop .add (Q.getD k 0) (S.getD k 0)) k)=fb (fD op C K Q S aq k)):=λk _=>by simp[fD,h]
   have aL:V _:=f
   have G:V _:=aA
   have GB:V _:=ca
   have ad:V _:=cr
   clear a0 aA ca cr f h
   go_wp2_with fail
   have a7:=G.o
   rw[aL.o.1]at a7
   have aK:=GB.o
   rw[aL.o.2]at aK
   rw[aL.o.1,aL.o.2]
   refine(IN _ n B hn a7 aK).mono ?_
   exact xbk
  ·
   have aO:(op==1)=false:=yam xaa
   have aX:(op==2)=false:=yam xaa
   have ah:(op==3)=true:=beq_iff_eq.2 h
   have f:P=n/\X=n:=by rw[h]at a0;simp[eR,cnt]at a0;omega
   have HE:V (∀k,k<n->fb ((λk=>cop .sub (Q.getD k 0) (S.getD k 0)) k)=fb (fD op C K Q S aq k)):=λk _=>by simp[fD,h]
   have aL:V _:=f
   have G:V _:=aA
   have GB:V _:=ca
   have ad:V _:=cr
   clear a0 aA ca cr f h
   go_wp2_with fail
   have a7:=G.o
   rw[aL.o.1]at a7
   have aK:=GB.o
   rw[aL.o.2]at aK
   rw[aL.o.1,aL.o.2]
   refine(EM _ n B hn a7 aK).mono ?_
   exact xbk
  ·
   have aO:(op==1)=false:=yam xaa
   have aX:(op==2)=false:=yam xaa
   have ah:(op==3)=false:=yam xaa
   have bg:(op==4)=true:=beq_iff_eq.2 h
   have f:P=n/\X=n:=by rw[h]at a0;simp[eR,cnt]at a0;omega
   have HE:V (∀k,k<n->fb ((λk=>cop .mul (Q.getD k 0) (S.getD k 0)) k)=fb (fD op C K Q S aq k)):=λk _=>by simp[fD,h]
   have aL:V _:=f
   have G:V _:=aA
   have GB:V _:=ca
   have ad:V _:=cr
   clear a0 aA ca cr f h
   go_wp2_with fail
   have a7:=G.o
   rw[aL.o.1]at a7
   have aK:=GB.o
   rw[aL.o.2]at aK
   rw[aL.o.1,aL.o.2]
   refine(EN _ n B hn a7 aK).mono ?_
   exact xbk
  ·
   have aO:(op==1)=false:=yam xaa
   have aX:(op==2)=false:=yam xaa
   have ah:(op==3)=false:=yam xaa
   have bg:(op==4)=false:=yam xaa
   have a2:(op==5)=true:=beq_iff_eq.2 h
   have f:P=n/\X=n:=by rw[h]at a0;simp[eR,cnt]at a0;omega
   have HE:V (∀k,k<n->fb ((λk=>cop .quo (Q.getD k 0) (S.getD k 0)) k)=fb (fD op C K Q S aq k)):=λk _=>by simp[fD,h]
   have aL:V _:=f
   have G:V _:=aA
   have GB:V _:=ca
   have ad:V _:=cr
   clear a0 aA ca cr f h
   go_wp2_with fail
   have a7:=G.o
   rw[aL.o.1]at a7
   have aK:=GB.o
   rw[aL.o.2]at aK
   rw[aL.o.1,aL.o.2]
   refine(IP _ n B hn a7 aK).mono ?_
   exact xbk
  ·
   have aO:(op==1)=false:=yam xaa
   have aX:(op==2)=false:=yam xaa
   have ah:(op==3)=false:=yam xaa
   have bg:(op==4)=false:=yam xaa
   have a2:(op==5)=false:=yam xaa
   have bL:(op==6)=true:=beq_iff_eq.2 h
   have f:P=n:=by rw[h]at a0;simp[eR,cnt]at a0;omega
   have HE:V (∀k,k<n->fb ((λk=>Op.negFloat .f64 (Q.getD k 0)) k)=fb (fD op C K Q S aq k)):=λk _=>by simp[fD,h]
   have aL:V _:=f
   have G:V _:=aA
   have GB:V _:=ca
   have ad:V _:=cr
   clear a0 aA ca cr f h
   go_wp2_with fail
   have a7:=G.o
   rw[aL.o]at a7
   rw[aL.o]
   refine(Ah _ n B hn a7).mono ?_
   exact xfh
  ·
   have aO:(op==1)=false:=yam xaa
   have aX:(op==2)=false:=yam xaa
   have ah:(op==3)=false:=yam xaa
   have bg:(op==4)=false:=yam xaa
   have a2:(op==5)=false:=yam xaa
   have bL:(op==6)=false:=yam xaa
   have ak:(op==7)=true:=beq_iff_eq.2 h
   have f:P=n/\X=n:=by rw[h]at a0;simp[eR,cnt]at a0;omega
   have HE:V (∀k,k<n->fb ((λk=>jp (Q.getD k 0) (S.getD k 0)) k)=fb (fD op C K Q S aq k)):=λk _=>by simp[fD,h]
   have aL:V _:=f
   have G:V _:=aA
   have GB:V _:=ca
   have ad:V _:=cr
   clear a0 aA ca cr f h
   go_wp2_with fail
   have a7:=G.o
   rw[aL.o.1]at a7
   have aK:=GB.o
   rw[aL.o.2]at aK
   rw[aL.o.1,aL.o.2]
   refine(Ag _ n B hn a7 aK).mono ?_
   exact xbk
  ·
   have aO:(op==1)=false:=yam xaa
   have aX:(op==2)=false:=yam xaa
   have ah:(op==3)=false:=yam xaa
   have bg:(op==4)=false:=yam xaa
   have a2:(op==5)=false:=yam xaa
   have bL:(op==6)=false:=yam xaa
   have ak:(op==7)=false:=yam xaa
   have ao:(op==8)=true:=beq_iff_eq.2 h
   have f:P=n/\X=n/\l=n:=by rw[h]at a0;simp[eR,cnt]at a0;omega
   have HE:V (∀k,k<n->fb ((λk=>iz (Q.getD k 0) (S.getD k 0) (aq.getD k 0)) k)=fb (fD op C K Q S aq k)):=λk _=>by simp[fD,h]
   have aL:V _:=f
   have G:V _:=aA
   have GB:V _:=ca
   have ad:V _:=cr
   clear a0 aA ca cr f h
   go_wp2_with fail
   have a7:=G.o
   rw[aL.o.1]at a7
   have aK:=GB.o
   rw[aL.o.2.1]at aK
   have aP:=ad.o
   rw[aL.o.2.2]at aP
   rw[aL.o.1,aL.o.2.1,aL.o.2.2]
   refine(Cy _ n B hn a7 aK aP).mono ?_
   clear a7 aK aP
   exact xap
  ·
   have aO:(op==1)=false:=yam xaa
   have aX:(op==2)=false:=yam xaa
   have ah:(op==3)=false:=yam xaa
   have bg:(op==4)=false:=yam xaa
   have a2:(op==5)=false:=yam xaa
   have bL:(op==6)=false:=yam xaa
   have ak:(op==7)=false:=yam xaa
   have ao:(op==8)=false:=yam xaa
   have aG:(op==9)=true:=beq_iff_eq.2 h
   have f:n=1/\1<=P/\P<=1000:=by rw[h]at a0;simp[eR,cnt,lenB]at a0;omega
   have HE:V (∀z,fb z=fb (kT Q)->∀k,k<n->fb ((λ_=>z) k)=fb (fD op C K Q S aq k)):=λz bz k _=>by simp[fD,h,bz]
   have aL:V _:=f
   have G:V _:=aA
   clear a0 aA ca cr f h
   go_wp2_with fail
   refine(Mf _ P aL.o.2.1 aL.o.2.2 G.o aa).mono ?_
   rintro e ag ⟨z,rfl,bz,aH,aY⟩
   have ch:V (fb z=fb (kT Q)):=aH
   clear aH
   go_wp2_with fail
   refine(vY _ z 1 bz xaa).mono ?_
   intro e a8 aw
   obtain⟨zs,rfl,(Y:V _),(ai:V _),(t:V _),(u:V _),(v:V _)⟩:=aw
   go_wp2
   go_ret
   rw[aL.o.1]
   have b3:=HE.o z ch.o
   rw[aL.o.1]at b3
   exact Made.kres ⟨zs,rfl,Y.o,ai.o,t.o,u.o,v.o⟩ (F.o.trans (aY.kept 0 0)) b3
  ·
   have aO:(op==1)=false:=yam xaa
   have aX:(op==2)=false:=yam xaa
   have ah:(op==3)=false:=yam xaa
   have bg:(op==4)=false:=yam xaa
   have a2:(op==5)=false:=yam xaa
   have bL:(op==6)=false:=yam xaa
   have ak:(op==7)=false:=yam xaa
   have ao:(op==8)=false:=yam xaa
   have aG:(op==9)=false:=yam xaa
   have aI:(op==10)=true:=beq_iff_eq.2 h
   have f:P=1:=by rw[h]at a0;simp[eR,cnt]at a0;omega
   have HE:V (∀k,k<n->fb ((λ_=>Q.getD 0 0) k)=fb (fD op C K Q S aq k)):=λk _=>by simp[fD,h]
   have ap:=fC aA.lt 0
   rcases aA.at_ with bz|⟨g,o,rfl,_,_,aQ,y⟩
   ·omega
   have H:=y 0 xaa
   rw[Nat.add_zero]at H
   have aD:0<(P:Int):=xaa
   clear a0 aA ca cr f h y aQ
   generalize Q.getD 0 0=x at ap HE H
   go_wp2_with fail
   go_region_with (go_at_call 84;refine(vY _ x n ap hn).mono ?_;intro e ag aw;obtain⟨zs,rfl,(Y:V _),(ai:V _),(t:V _),(u:V _),(v:V _)⟩:=aw)
   all_goals
    go_wp2
    go_ret
    exact Made.kres (wc:=wc.drew) ⟨zs,rfl,Y.o,ai.o,t.o,u.o,v.o⟩ (F.o.trans (eL 0 0 _ 1)) HE.o
  ·
   have aO:(op==1)=false:=yam xaa
   have aX:(op==2)=false:=yam xaa
   have ah:(op==3)=false:=yam xaa
   have bg:(op==4)=false:=yam xaa
   have a2:(op==5)=false:=yam xaa
   have bL:(op==6)=false:=yam xaa
   have ak:(op==7)=false:=yam xaa
   have ao:(op==8)=false:=yam xaa
   have aG:(op==9)=false:=yam xaa
   have aI:(op==10)=false:=yam xaa
   have aJ:(op==11)=true:=beq_iff_eq.2 h
   have f:n=1/\1<=P/\P<=1000/\0<=C/\C<(P:Int):=by rw[h]at a0;simp[eR,cnt,lenB,fN]at a0;omega
   obtain⟨p,aF⟩:=Int.eq_ofNat_of_zero_le f.2.2.2.1
   have HE:V (∀k,k<n->fb ((λ_=>Q.getD p 0) k)=fb (fD op C K Q S aq k)):=λk _=>by simp[fD,h,aF]
   have ap:=fC aA.lt p
   rcases aA.at_ with bz|⟨g,o,rfl,_,_,aQ,y⟩
   ·omega
   have H:=y p xaa
   have c7:(p:Int)<P:=xaa
   have aL:V _:=f
   rw[aF]at an
   clear a0 aA ca cr f h y aQ aF
   generalize Q.getD p 0=x at ap HE H
   go_wp2_with fail
   refine(vY _ x 1 ap xaa).mono ?_
   intro e ag aw
   obtain⟨zs,rfl,(Y:V _),(ai:V _),(t:V _),(u:V _),(v:V _)⟩:=aw
   go_wp2
   go_ret
   rw[aL.o.1]
   have b3:=HE.o
   rw[aL.o.1]at b3
   exact Made.kres ⟨zs,rfl,Y.o,ai.o,t.o,u.o,v.o⟩ F.o b3
  ·
   have aO:(op==1)=false:=yam xaa
   have aX:(op==2)=false:=yam xaa
   have ah:(op==3)=false:=yam xaa
   have bg:(op==4)=false:=yam xaa
   have a2:(op==5)=false:=yam xaa
   have bL:(op==6)=false:=yam xaa
   have ak:(op==7)=false:=yam xaa
   have ao:(op==8)=false:=yam xaa
   have aG:(op==9)=false:=yam xaa
   have aI:(op==10)=false:=yam xaa
   have aJ:(op==11)=false:=yam xaa
   have aM:(op==12)=true:=beq_iff_eq.2 h
   have f:P=1/\0<=C/\C<(n:Int):=by rw[h]at a0;simp[eR,cnt,fN]at a0;omega
   obtain⟨p,aF⟩:=Int.eq_ofNat_of_zero_le f.2.1
   have HE:V (∀k,k<n->fb ((λk=>if k=p then Q.getD 0 0 else 0) k)=fb (fD op C K Q S aq k)):=λk _=>by simp[fD,h,aF]
   have ap:=fC aA.lt 0
   rcases aA.at_ with bz|⟨g,o,rfl,_,_,aQ,y⟩
   ·omega
   have H:=y 0 xaa
   rw[Nat.add_zero]at H
   have aD:0<(P:Int):=xaa
   have bj:p<n:=xaa
   rw[aF]at an
   clear a0 aA ca cr f h y aQ aF
   generalize Q.getD 0 0=x at ap HE H
   go_wp2_with fail
   go_region_with (go_at_call 96;refine(LZ _ x p n ap hn bj).mono ?_;intro e ag aw;obtain⟨zs,rfl,(Y:V _),(ai:V _),(t:V _),(u:V _),(v:V _)⟩:=aw)
   all_goals
    go_wp2
    go_ret
    exact Made.kres (wc:=wc.drew) ⟨zs,rfl,Y.o,ai.o,t.o,u.o,v.o⟩ (F.o.trans (eL 0 0 _ 1)) HE.o
  ·
   have aO:(op==1)=false:=yam xaa
   have aX:(op==2)=false:=yam xaa
   have ah:(op==3)=false:=yam xaa
   have bg:(op==4)=false:=yam xaa
   have a2:(op==5)=false:=yam xaa
   have bL:(op==6)=false:=yam xaa
   have ak:(op==7)=false:=yam xaa
   have ao:(op==8)=false:=yam xaa
   have aG:(op==9)=false:=yam xaa
   have aI:(op==10)=false:=yam xaa
   have aJ:(op==11)=false:=yam xaa
   have aM:(op==12)=false:=yam xaa
   have aN:(op==13)=true:=beq_iff_eq.2 h
   have f:P=n:=by rw[h]at a0;simp[eR,cnt]at a0;omega
   have HE:V (∀k,k<n->fb ((λk=>qh (Q.getD k 0)) k)=fb (fD op C K Q S aq k)):=λk _=>by simp[fD,h]
   have aL:V _:=f
   have G:V _:=aA
   have GB:V _:=ca
   have ad:V _:=cr
   clear a0 aA ca cr f h
   go_wp2_with fail
   have a7:=G.o
   rw[aL.o]at a7
   rw[aL.o]
   refine(Me _ n B hn a7).mono ?_
   exact xfh
  exfalso;obtain⟨bf,b6,h3,a6,bK,bm,bP,R,ab,af,aj,av,ay⟩:=h;unfold eR at a0;rw[hG ab,hG af,hG aj,hG av,hG xaa]at a0;cases a0
def jD(op len C:Int)(K:Nat)(xa xb xc:List Nat):List Nat:=
 if fp op len C xa.length xb.length xc.length then (List.range len.toNat).map (fD op C K xa xb xc) else[]
theorem uB{op len C K}(h:fp op len C Q.length S.length aq.length=true)(ah:zs.length=len.toNat)
  (ao:∀k,k<len.toNat->fb (zs.getD k 0)=fb (fD op C K Q S aq k)):gH zs (jD op len C K Q S aq):=by
 unfold jD;rw[hI h];refine vT (by simp[ah]) λk O=>?_;rw[ao k xaa];congr 1;simp[List.getD_eq_getElem?_getD,(by omega:k<len.toNat)]
def OR(w:World)(lo:Nat)(a:Option Addr)(n cap:Nat)(zs:List Nat):Prop:=
 (a=none/\n=0/\cap=0/\zs=[])\/∃g,a=some ⟨g,0,none⟩/\lo<=g/\FR w g zs/\zs.length=n/\(∀z∈zs,z<18446744073709551616)
theorem OR.fs{w lo cap}(h:OR w lo a n cap zs):FS w lo w.heap.size a n zs:=by
 rcases h with⟨rfl,rfl,rfl,rfl⟩|⟨g,rfl,B,U,rfl,a6⟩
 ·exact⟨rfl,by simp,.inl rfl⟩
 exact U.fs a6 B U.lt
theorem x8(w op len A I C K)(ar:K<18446744073709551616)
  (ax:FS w bN az a P Q) (bk:FS w bJ bf b X S) (Z:FS w b5 b6 c l aq) (aa:P<=bu):
  Calls prog 55 #[gO op len A I C K,.slice a P bu,.slice b X b2,.slice c l bT] w λe J=>
   ∃(ag:Option Addr) (n cap:Nat) (zs:List Nat),e=.returned (.slice ag n cap)/\OR J w.heap.size ag n cap zs/\gH zs (jD op len C K Q S aq)/\Kept 0 0 w J/\n<=cap:=by
 have af:=ax.len;have a0:=bk.len;have aj:=Z.len;cases a9:fp op len C P X l
 ·have hn:jD op len C K Q S aq=[]:=by unfold jD;rw[af,a0,aj,a9];rfl
  have au:∀(e:Ending) (J:World),(e=.returned (.slice none 0 0)/\Kept 0 0 w J)->∃(ag:Option Addr) (n cap:Nat) (zs:List Nat),e=.returned (.slice ag n cap)/\OR J w.heap.size ag n cap zs/\gH zs (jD op len C K Q S aq)/\Kept 0 0 w J/\n<=cap:=
   λe J h=>⟨none,0,0,[],h.1,.inl ⟨rfl,rfl,rfl,rfl⟩,hU hn,h.2,yad⟩
  cases ah:lenB len
  ·exact(qZ w op len A I C K a b c P X l bu b2 bT ah).mono λe J h=>au e J h
  refine(sF w op len A I C K a b c P X l bu b2 bT ah ?_).mono λe J h=>au e J h;simpa[fp,ah] using a9
 have ah:lenB len=true:=by have:=a9;simp only[fp,Bool.and_eq_true]at this;exact this.1
 have ae:eR op len C (([(P:Int),(X:Int),(l:Int)]).take (cnt op))=true:=by have:=a9;simp only[fp,Bool.and_eq_true]at this;exact this.2
 have hb:1<=len/\len<=1000:=by simpa[lenB] using ah
 obtain⟨n,rfl⟩:=Int.eq_ofNat_of_zero_le (by omega:0<=len);refine(ul w op A I C n K xaa xaa ar ax bk Z aa ae).mono λe J h=>?_;obtain⟨G,zs,B,U,h3,a6,bK,bm,bP⟩:=h;exact⟨_,n,n,zs,B,.inr ⟨G,rfl,U,h3,bK,a6⟩,uB (by rw[af,a0,aj];exact a9) (by simpa using bK) (by simpa using bm),bP,yad⟩
theorem x9(w op len A I C K)(ar:K<18446744073709551616)
  (ax:FS w bN az a P Q) (bk:FS w bJ bf b X S) (Z:FS w b5 b6 c l aq) (aa:P<=bu):
  Calls prog 47 #[gO op len A I C K,.slice a P bu,.slice b X b2,.slice c l bT] w λe J=>
   ∃(ag:Option Addr) (n cap:Nat) (zs:List Nat),e=.returned (.slice ag n cap)/\FS J w.heap.size J.heap.size ag n zs/\gH zs (jD op len C K Q S aq)/\Kept 0 0 w J/\n<=cap:=by
 have af:=ax.len;have a0:=bk.len;have aj:=Z.len;cases a9:fp op len C P X l
 ·have hn:jD op len C K Q S aq=[]:=by unfold jD;rw[af,a0,aj,a9];rfl
  exact(sJ w op len A I C K a b c P X l bu b2 bT a9).mono λe J h=>⟨none,0,0,[],h.1,⟨rfl,by simp,.inl rfl⟩,hU hn,h.2,yad⟩
 have av:1<=op/\op<=13/\1<=len/\len<=1000:=Decidable.byContradiction λc=>by rw[x7 op len C P X l c]at a9;cases a9
 obtain⟨n,rfl⟩:=Int.eq_ofNat_of_zero_le (by omega:0<=len);have B:1<=n:=xaa;have hn:n<=1000:=xaa
 have au:∀(e:Ending) (J:World),KS n (fD op C K Q S aq) w e J->∃(ag:Option Addr) (m cap:Nat) (zs:List Nat),e=.returned (.slice ag m cap)/\FS J w.heap.size J.heap.size ag m zs/\gH zs (jD op (n:Int) C K Q S aq)/\Kept 0 0 w J/\m<=cap:=by
  rintro e J ⟨ag,cap,zs,am,an,aJ,b7,bW⟩;exact⟨ag,n,cap,zs,am,an,uB (by rw[af,a0,aj];exact a9) (by simpa using an.len) (by simpa using aJ),b7,bW⟩
 have:op=1\/op=2\/op=3\/op=4\/op=5\/op=6\/op=7\/op=8\/op=9\/op=10\/op=11\/op=12\/op=13:=xaa;rcases this with rfl|rfl|rfl|rfl|rfl|rfl|rfl|rfl|rfl|rfl|rfl|rfl|rfl
 ·exact(v8 w A I C n K B hn ar ax bk Z aa a9).mono au
 ·exact(wb w A I C n K B hn ar ax bk Z aa a9).mono au
 ·exact(we w A I C n K B hn ar ax bk Z aa a9).mono au
 ·exact(wg w A I C n K B hn ar ax bk Z aa a9).mono au
 ·exact(wi w A I C n K B hn ar ax bk Z aa a9).mono au
 ·exact(wj w A I C n K B hn ar ax bk Z aa a9).mono au
 ·exact(wk w A I C n K B hn ar ax bk Z aa a9).mono au
 ·exact(wm w A I C n K B hn ar ax bk Z aa a9).mono au
 ·exact(wn w A I C n K B hn ar ax bk Z aa a9).mono au
 ·exact(ug w A I C n K B hn ar ax bk Z aa a9).mono au
 ·exact(uh w A I C n K B hn ar ax bk Z aa a9).mono au
 ·exact(ui w A I C n K B hn ar ax bk Z aa a9).mono au
 exact(uj w A I C n K B hn ar ax bk Z aa a9).mono au
