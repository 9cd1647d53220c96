import Derived.Test.YtcagphgmfbjneaaGreatP10
namespace Go.Proofs.Z
open Tryz
set_option maxRecDepth 1000000
set_option maxHeartbeats 0
open Go.RowKit Flt
attribute[local go_sem] eE eD eC
variable{bQ t n b6 c0 ak cf cC S X f bc cb aK:Nat}{cg a b c:Option Addr}{xs zs l N P:List Nat}
theorem DS(w n)(F:1<=n)(ag:n<=1000)(bN:FS w bQ t cg n xs){a1 c1 ys}(f1:FS w b6 ak a1 n ys){J c2 us}(f2:FS w cf cC J n us):
  Calls prog 172 #[.slice cg n c0,.slice a1 n c1,.slice J n c2,.func (.func 173) #[] #[]] w λe B=>Made n (λk=>ir (xs.getD k 0) (ys.getD k 0) (us.getD k 0)) w e B:=by
 rcases bN.at_ with h|⟨az,ed,rfl,_,_,bL,ad⟩
 ·omega
 rcases f1.at_ with h|⟨b5,ch,rfl,_,_,U,an⟩
 ·omega
 rcases f2.at_ with h|⟨a0,b9,rfl,_,_,aV,av⟩
 ·omega
 exact zo w n ag _ _ _ _ bL bN.lt ad _ _ _ _ U f1.lt an _ _ _ _ aV f2.lt av
theorem Oc(w n)(F:1<=n)(ag:n<=1000)(bN:FS w bQ t cg n xs)(al:n<=c0):
  Calls prog 174 #[.slice cg n c0,.func (.func 165) #[] #[]] w λe B=>∃z,e=.returned (.float .f64 z)/\z<18446744073709551616/\fb z=fb (lB xs)/\Drawn w B:=by
 rcases bN.at_ with h|⟨g,o,rfl,_,_,b,k⟩
 ·omega
 exact Q1 w n ag F g o _ _ bN.len al bN.lt k
theorem Made.kres{q j w wc e B}(h:Made n q wc e B)(O:Kept 0 0 w wc)(aA:∀k,k<n->fb (q k)=fb (j k)):PR n j w e B:=by
 obtain⟨zs,F,h2,h3,h4,bK,b3⟩:=h;exact⟨_,_,F,O.size,h2,h3,h4,λk G=>(bK k G).trans (aA k G),O.trans b3⟩
theorem vA(w op A I C)(n K:Nat)(F:1<=n)(ag:n<=1000)(aG:K<18446744073709551616)
  (aN:FS w bQ t a S l) (aO:FS w b6 ak b X N) (y:FS w cf cC c f P) (Z:S<=bc)
  (aw:eQ op (n:Int) C (([(S:Int),(X:Int),(f:Int)]).take (cnt op))=true):
  Calls prog 162 #[lK op (n:Int) A I C K,.slice a S bc,.slice b X cb,.slice c f aK] w λe B=>PR n (gS op C K l N P) w e B:=by
 have au:V (eQ op (n:Int) C (([(S:Int),(X:Int),(f:Int)]).take (cnt op))=true):=aw
 have bV:V (∀w,Calls prog 30 #[h1 n] w λe B=>e=.returned (.bool true)/\B=w):=λw=>by
  have:=gX (n:Int) w
  rw[iV xaa xaa]at this
  exact this
 have aL:=Cs (w.alloc (fW op (n:Int) A I C K)) S X f;have u:=aL.prefix (cnt op) (gK op);have ab:=gK op;have aj:V (∀w,Calls prog 54 #[h1 op] w λe B=>e=.returned (h1 (cnt op:Nat))/\B=w):=qq op
 have a2:V (∀m,Calls prog 56 #[lK op (n:Int) A I C K,h0 (w.heap.size+1) (cnt op) 3] (((w.alloc (fW op (n:Int) A I C K)).alloc (.cells #[h1 S,h1 X,h1 f] 3)).drewN m)
   λe B=>e=.returned (.bool true)/\Kept 0 0 (((w.alloc (fW op (n:Int) A I C K)).alloc (.cells #[h1 S,h1 X,h1 f] 3)).drewN m) B):=λm=>by
  have h:=pe _ op (n:Int) A I C K _ _ _ _ 3 _ (u.keep (eH 0 0 _ m) yaa) rfl
  rw[aw]at h
  have e:(w.alloc (fW op (n:Int) A I C K)).heap.size=w.heap.size+1:=by simp
  rw[e]at h
  exact h
 clear aL u aw;generalize cnt op=q at aj a2 ab;go_enter func162,ntmps162;go_upto_region 2 with fail;go_cut [30] (λr bb=>r=.bool (!true)/\Kept 0 0 ((w.alloc (fW op (n:Int) A I C K)).alloc (.cells #[h1 S,h1 X,h1 f] 3)) bb)
 case first=>
  exact xdj
 case rest=>
  obtain⟨rfl,j⟩:=hcut;clear bV aj a2 ab;have G:V _:=((eA 0 0 w (fW op (n:Int) A I C K)).trans (eA 0 0 _ (.cells #[h1 S,h1 X,h1 f] 3))).trans j;have v:w.heap.size<((w.alloc (fW op (n:Int) A I C K)).alloc (.cells #[h1 S,h1 X,h1 f] 3)).heap.size:=by simp;omega
  have a7:∀i,wc.cell? ⟨w.heap.size,i,none⟩=((w.alloc (fW op (n:Int) A I C K)).alloc (.cells #[h1 S,h1 X,h1 f] 3)).cell? ⟨w.heap.size,i,none⟩:=λi=>j.cell (p:=⟨w.heap.size,i,none⟩) v xaa;have bL:wc.cell? ⟨w.heap.size,0,none⟩=some (h1 op):=by rw[a7];simp
  have U:wc.cell? ⟨w.heap.size,1,none⟩=some (h1 n):=by rw[a7];simp
  have b1:wc.cell? ⟨w.heap.size,4,none⟩=some (h1 C):=by rw[a7];simp
  have ct:wc.cell? ⟨w.heap.size,5,none⟩=some (.float .f64 K):=by rw[a7];simp
  have d:=aN.keep G.o yaa;have aa:=aO.keep G.o yaa;have Q:=y.keep G.o yaa;clear aN aO y a7 v j;rcases qp op with rfl|rfl|rfl|rfl|rfl|rfl|rfl|rfl|rfl|rfl|rfl|rfl|rfl|h
  ·clear d aa Q;go_wp2_with fail;refine yaj (xD _ K n aG ag) ?_;exact xbd
  ·obtain⟨rfl,rfl⟩:S=n/\X=n:=by have:=au.o;simp[eQ,cnt]at this;omega
   have bv:V _:=h5 d aa;clear d aa Q;go_wp2_with fail;refine yaj (zn Cr ag bv.o.1 bv.o.2 xab) ?_;exact xbd
  ·obtain⟨rfl,rfl⟩:S=n/\X=n:=by have:=au.o;simp[eQ,cnt]at this;omega
   have bv:V _:=h5 d aa;clear d aa Q;go_wp2_with fail;refine yaj (zn FT ag bv.o.1 bv.o.2 xab) ?_;exact xbd
  ·obtain⟨rfl,rfl⟩:S=n/\X=n:=by have:=au.o;simp[eQ,cnt]at this;omega
   have bv:V _:=h5 d aa;clear d aa Q;go_wp2_with fail;refine yaj (zn FQ ag bv.o.1 bv.o.2 xab) ?_;exact xbd
  ·obtain⟨rfl,rfl⟩:S=n/\X=n:=by have:=au.o;simp[eQ,cnt]at this;omega
   have bv:V _:=h5 d aa;clear d aa Q;go_wp2_with fail;refine yaj (zn JT ag bv.o.1 bv.o.2 xab) ?_;exact xbd
  ·obtain rfl:S=n:=by have:=au.o;simp[eQ,cnt]at this;omega
   have bv:V _:=d;clear d aa Q;go_wp2_with fail;refine yaj (MQ Bq ag bv.o xab) ?_;exact xbd
  ·obtain⟨rfl,rfl⟩:S=n/\X=n:=by have:=au.o;simp[eQ,cnt]at this;omega
   have bv:V _:=h5 d aa;clear d aa Q;go_wp2_with fail;refine yaj (zn Bp ag bv.o.1 bv.o.2 xab) ?_;exact xbd
  ·obtain⟨rfl,rfl,rfl⟩:S=n/\X=n/\f=n:=by have:=au.o;simp[eQ,cnt]at this;omega
   have bv:V _:=h5 d (h5 aa Q);clear d aa Q;go_wp2_with fail;refine yaj (DS _ _ F ag bv.o.1 bv.o.2.1 bv.o.2.2) ?_;exact xbd
  ·obtain⟨rfl,ci,cz⟩:n=1/\1<=S/\S<=1000:=by have:=au.o;simp[eQ,cnt,lenB]at this;omega
   have bv:V _:=d;clear d aa Q;go_wp2_with fail;refine yaj (Oc _ S ci cz bv.o Z) ?_;rintro e am ⟨z,rfl,a5,af,bx⟩;have HZ:V (fb z=fb (lB l)/\Kept 0 0 w am):=⟨af,G.o.trans (bx.kept 0 0)⟩
   clear af bx;go_wp2_with fail;refine yaj (xD _ z 1 a5 xaa) ?_;rintro e aU ⟨zs,rfl,(Y:V _)⟩;go_wp2;go_ret;exact Made.kres ⟨zs,rfl,Y.o⟩ HZ.o.2 λk _=>by simp[gS,HZ.o.1]
  ·have ai:0<S:=by have:=au.o;simp[eQ,cnt]at this;omega
   have ap:=gh d.lt 0;obtain⟨g,o,rfl,ad⟩:=d.el ai iv;rw[Nat.add_zero]at ad;have HE:V (∀k,fb (l.getD 0 0)=fb (gS 10 C K l N P k)):=λk=>by simp[gS]
   clear d aa Q;generalize l.getD 0 0=x at ap HE ad;go_wp2_with fail;go_region_with (go_at_call 163;refine yaj (xD _ x n ap ag) ?_;rintro e am ⟨zs,rfl,(Y:V _)⟩)
   all_goals
    go_wp2
    go_ret
    exact Made.kres (wc:=wc.drew) ⟨zs,rfl,Y.o⟩ (G.o.trans (eH 0 0 _ 1)) λk _=>HE.o k
  ·obtain⟨rfl,ai,p,rfl⟩:n=1/\∃h:C.toNat<S,∃p:Nat,C=p:=by have:=au.o;simp[eQ,cnt,lenB,gm]at this;exact⟨by omega,by omega,C.toNat,by omega⟩
   rw[Int.toNat_natCast]at ai;have ap:=gh d.lt p;obtain⟨g,o,rfl,ad⟩:=d.el ai iv;have HE:V (∀k,fb (l.getD p 0)=fb (gS 11 p K l N P k)):=λk=>by simp[gS]
   clear d aa Q;generalize l.getD p 0=x at ap HE ad;go_wp2_with fail;refine yaj (xD _ x 1 ap xaa) ?_;rintro e am ⟨zs,rfl,(Y:V _)⟩;go_wp2;go_ret;exact Made.kres ⟨zs,rfl,Y.o⟩ G.o λk _=>HE.o k
  ·obtain⟨ai,p,rfl,bm⟩:0<S/\∃p:Nat,C=p/\p<n:=by have:=au.o;simp[eQ,cnt,gm]at this;exact⟨by omega,C.toNat,by omega,by omega⟩
   have ap:=gh d.lt 0;obtain⟨g,o,rfl,ad⟩:=d.el ai iv;rw[Nat.add_zero]at ad;have HE:V (∀k,fb (if k=p then l.getD 0 0 else 0)=fb (gS 12 p K l N P k)):=λk=>by simp[gS]
   clear d aa Q;generalize l.getD 0 0=x at ap HE ad;go_wp2_with fail;go_region_with (go_at_call 175;refine yaj (Nx _ x p n ap ag bm) ?_;rintro e am ⟨zs,rfl,(Y:V _)⟩)
   all_goals
    go_wp2
    go_ret
    exact Made.kres (wc:=wc.drew) ⟨zs,rfl,Y.o⟩ (G.o.trans (eH 0 0 _ 1)) λk _=>HE.o k
  ·obtain rfl:S=n:=by have:=au.o;simp[eQ,cnt]at this;omega
   have bv:V _:=d;clear d aa Q;go_wp2_with fail;refine yaj (MQ Nw ag bv.o xab) ?_;exact xbd
  exfalso;obtain⟨ak,cC,h3,h4,bK,b3,bZ,ar,ae,H,J,T,aq⟩:=h;have:=au.o;unfold eQ at this;rw[h6 ae,h6 H,h6 J,h6 T,h6 xaa]at this;cases this
def jN(op len C:Int)(K:Nat)(xa xb xc:List Nat):List Nat:=
 if jQ op len C xa.length xb.length xc.length then (List.range len.toNat).map (gS op C K xa xb xc) else[]
theorem vX{op len C K}(h:jQ op len C l.length N.length P.length=true)(ai:zs.length=len.toNat)
  (aA:∀k,k<len.toNat->fb (zs.getD k 0)=fb (gS op C K l N P k)):fS zs (jN op len C K l N P):=by
 unfold jN;rw[h7 h];refine pd (by simp[ai]) λk O=>?_;rw[aA k xaa];congr 1;simp[List.getD_eq_getElem?_getD,(by omega:k<len.toNat)]
def OR(w:World)(lo:Nat)(a:Option Addr)(n cap:Nat)(zs:List Nat):Prop:=
 (a=none/\n=0/\cap=0/\zs=[])\/∃g,a=some ⟨g,0,none⟩/\lo<=g/\FR w g zs/\zs.length=n/\(∀z∈zs,z<18446744073709551616)
theorem OR.fs{w lo cap}(h:OR w lo a n cap zs):FS w lo w.heap.size a n zs:=by
 rcases h with⟨rfl,rfl,rfl,rfl⟩|⟨g,rfl,F,h2,rfl,h4⟩
 ·exact⟨rfl,by simp,.inl rfl⟩
 exact h2.fs h4 F h2.lt
theorem zO(w op len A I C K)(aG:K<18446744073709551616)
  (aN:FS w bQ t a S l) (aO:FS w b6 ak b X N) (y:FS w cf cC c f P) (Z:S<=bc):
  Calls prog 162 #[lK op len A I C K,.slice a S bc,.slice b X cb,.slice c f aK] w λe B=>
   ∃(am:Option Addr) (n cap:Nat) (zs:List Nat),e=.returned (.slice am n cap)/\OR B w.heap.size am n cap zs/\fS zs (jN op len C K l N P)/\Kept 0 0 w B/\n<=cap:=by
 have af:=aN.len;have bg:=aO.len;have ah:=y.len;cases ba:jQ op len C S X f
 ·have ag:jN op len C K l N P=[]:=by unfold jN;rw[af,bg,ah,ba];rfl
  have Y:∀(e:Ending) (B:World),(e=.returned (.slice none 0 0)/\Kept 0 0 w B)->∃(am:Option Addr) (n cap:Nat) (zs:List Nat),e=.returned (.slice am n cap)/\OR B w.heap.size am n cap zs/\fS zs (jN op len C K l N P)/\Kept 0 0 w B/\n<=cap:=
   λe B h=>⟨none,0,0,[],h.1,.inl ⟨rfl,rfl,rfl,rfl⟩,i4 ag,h.2,yad⟩
  cases ai:lenB len
  ·exact(rC w op len A I C K a b c S X f bc cb aK ai).mono λe B h=>Y e B h
  refine(tZ w op len A I C K a b c S X f bc cb aK ai ?_).mono λe B h=>Y e B h;simpa[jQ,ai] using ba
 have ai:lenB len=true:=by have:=ba;simp only[jQ,Bool.and_eq_true]at this;exact this.1
 have aw:eQ op len C (([(S:Int),(X:Int),(f:Int)]).take (cnt op))=true:=by have:=ba;simp only[jQ,Bool.and_eq_true]at this;exact this.2
 have hb:1<=len/\len<=1000:=by simpa[lenB] using ai
 obtain⟨n,rfl⟩:=Int.eq_ofNat_of_zero_le (by omega:0<=len);refine(vA w op A I C n K xaa xaa aG aN aO y Z aw).mono λe B h=>?_;obtain⟨G,zs,F,h2,h3,h4,bK,b3,bZ⟩:=h;exact⟨_,n,n,zs,F,.inr ⟨G,rfl,h2,h3,bK,h4⟩,vX (by rw[af,bg,ah];exact ba) (by simpa using bK) (by simpa using b3),bZ,yad⟩
theorem zP(w op len A I C K)(aG:K<18446744073709551616)
  (aN:FS w bQ t a S l) (aO:FS w b6 ak b X N) (y:FS w cf cC c f P) (Z:S<=bc):
  Calls prog 51 #[lK op len A I C K,.slice a S bc,.slice b X cb,.slice c f aK] w λe B=>
   ∃(am:Option Addr) (n cap:Nat) (zs:List Nat),e=.returned (.slice am n cap)/\FS B w.heap.size B.heap.size am n zs/\fS zs (jN op len C K l N P)/\Kept 0 0 w B/\n<=cap:=by
 have af:=aN.len;have bg:=aO.len;have ah:=y.len;cases ba:jQ op len C S X f
 ·have ag:jN op len C K l N P=[]:=by unfold jN;rw[af,bg,ah,ba];rfl
  exact(uk w op len A I C K a b c S X f bc cb aK ba).mono λe B h=>⟨none,0,0,[],h.1,⟨rfl,by simp,.inl rfl⟩,i4 ag,h.2,yad⟩
 have aF:1<=op/\op<=13/\1<=len/\len<=1000:=Decidable.byContradiction λc=>by rw[zp op len C S X f c]at ba;cases ba
 obtain⟨n,rfl⟩:=Int.eq_ofNat_of_zero_le (by omega:0<=len);have F:1<=n:=xaa;have ag:n<=1000:=xaa
 have Y:∀(e:Ending) (B:World),KS n (gS op C K l N P) w e B->∃(am:Option Addr) (m cap:Nat) (zs:List Nat),e=.returned (.slice am m cap)/\FS B w.heap.size B.heap.size am m zs/\fS zs (jN op (n:Int) C K l N P)/\Kept 0 0 w B/\m<=cap:=by
  rintro e B ⟨am,cap,zs,an,av,aZ,bW,a2⟩;exact⟨am,n,cap,zs,an,av,vX (by rw[af,bg,ah];exact ba) (by simpa using av.len) (by simpa using aZ),bW,a2⟩
 exact(vx w op A I C n K ⟨aF.1,aF.2.1⟩ F ag aG aN aO y Z ba).mono Y
