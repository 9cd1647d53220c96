import Derived.Test.YtbhmhdllnfkjhaaGreatP08
namespace Go.Proofs.Z
open Tryz
set_option maxRecDepth 1000000
set_option maxHeartbeats 0
open Go.RowKit Flt
attribute[local go_sem] eG eE eD
variable{aJ ai n b1 c0 bM ce b3 l X f bd cb bK:Nat}{bV a b c:Option Addr}{xs zs P az aB:List Nat}
theorem Dk(w n)(B:1<=n)(hn:n<=1000)(bG:FS w aJ ai bV n xs){a1 c1 bT}(f1:FS w b1 bM a1 n bT){Y c2 us}(f2:FS w ce b3 Y n us):
  Calls prog 108 #[.slice bV n c0,.slice a1 n c1,.slice Y n c2,.func (.func 109) #[] #[]] w λe I=>Made n (λk=>iH (xs.getD k 0) (bT.getD k 0) (us.getD k 0)) w e I:=by
 rcases bG.at_ with h|⟨cy,eu,rfl,_,_,bH,an⟩
 ·omega
 rcases f1.at_ with h|⟨bA,ch,rfl,_,_,O,aj⟩
 ·omega
 rcases f2.at_ with h|⟨ap,bO,rfl,_,_,ax,ah⟩
 ·omega
 exact yw w n hn _ _ _ _ bH bG.lt an _ _ _ _ O f1.lt aj _ _ _ _ ax f2.lt ah
theorem MU(w n)(B:1<=n)(hn:n<=1000)(bG:FS w aJ ai bV n xs)(ad:n<=c0):
  Calls prog 110 #[.slice bV n c0,.func (.func 101) #[] #[]] w λe I=>∃z,e=.returned (.float .f64 z)/\z<18446744073709551616/\fb z=fb (lI xs)/\Drawn w I:=by
 rcases bG.at_ with h|⟨g,o,rfl,_,_,b,k⟩
 ·omega
 exact PY w n hn B g o _ _ bG.len ad bG.lt k
theorem Made.kres{q j w wc e I}(h:Made n q wc e I)(N:Kept 0 0 w wc)(am:∀k,k<n->fb (q k)=fb (j k)):OU n j w e I:=by
 obtain⟨zs,B,J,h3,a0,bz,bP⟩:=h;exact⟨_,_,B,N.size,J,h3,a0,λk av=>(bz k av).trans (am k av),N.trans bP⟩
theorem uP(w op A R C)(n K:Nat)(B:1<=n)(hn:n<=1000)(aw:K<18446744073709551616)
  (Q:FS w aJ ai a l P) (bk:FS w b1 bM b X az) (s:FS w ce b3 c f aB) (y:l<=bd)
  (ar:eY op (n:Int) C (([(l:Int),(X:Int),(f:Int)]).take (cnt op))=true):
  Calls prog 63 #[kT op (n:Int) A R C K,.slice a l bd,.slice b X cb,.slice c f bK] w λe I=>OU n (gU op C K P az aB) w e I:=by
 have au:V (eY op (n:Int) C (([(l:Int),(X:Int),(f:Int)]).take (cnt op))=true):=ar
 have bJ:V (∀w,Calls prog 51 #[hD n] w λe I=>e=.returned (.bool true)/\I=w):=λw=>by
  have:=gF (n:Int) w
  rw[pl xaa xaa]at this
  exact this
 have a6:=wO (w.alloc (fB op (n:Int) A R C K)) l X f;have j:=a6.prefix (cnt op) (f9 op);have t:=f9 op;have bT:V (∀w,Calls prog 98 #[hD op] w λe I=>e=.returned (hD (cnt op:Nat))/\I=w):=qx op
 have aZ:V (∀m,Calls prog 84 #[kT op (n:Int) A R C K,hC (w.heap.size+1) (cnt op) 3] (((w.alloc (fB op (n:Int) A R C K)).alloc (.cells #[hD l,hD X,hD f] 3)).drewN m)
   λe I=>e=.returned (.bool true)/\Kept 0 0 (((w.alloc (fB op (n:Int) A R C K)).alloc (.cells #[hD l,hD X,hD f] 3)).drewN m) I):=λm=>by
  have h:=ro _ op (n:Int) A R C K _ _ _ _ 3 _ (j.keep (eK 0 0 _ m) yaa) rfl
  rw[ar]at h
  have e:(w.alloc (fB op (n:Int) A R C K)).heap.size=w.heap.size+1:=by simp
  rw[e]at h
  exact h
 clear a6 j ar;generalize cnt op=q at bT aZ t;go_enter func63,ntmps63;go_upto_region 2 with fail;go_cut [30] (λr cl=>r=.bool (!true)/\Kept 0 0 ((w.alloc (fB op (n:Int) A R C K)).alloc (.cells #[hD l,hD X,hD f] 3)) cl)
 case first=>
  exact xdk
 case rest=>
  obtain⟨rfl,F⟩:=hcut;clear bJ bT aZ t;have bf:V _:=((ez 0 0 w (fB op (n:Int) A R C K)).trans (ez 0 0 _ (.cells #[hD l,hD X,hD f] 3))).trans F;have v:w.heap.size<((w.alloc (fB op (n:Int) A R C K)).alloc (.cells #[hD l,hD X,hD f] 3)).heap.size:=by simp;omega
  have aR:∀i,wc.cell? ⟨w.heap.size,i,none⟩=((w.alloc (fB op (n:Int) A R C K)).alloc (.cells #[hD l,hD X,hD f] 3)).cell? ⟨w.heap.size,i,none⟩:=λi=>F.cell (p:=⟨w.heap.size,i,none⟩) v xaa;have bH:wc.cell? ⟨w.heap.size,0,none⟩=some (hD op):=by rw[aR];simp
  have O:wc.cell? ⟨w.heap.size,1,none⟩=some (hD n):=by rw[aR];simp
  have av:wc.cell? ⟨w.heap.size,4,none⟩=some (hD C):=by rw[aR];simp
  have cj:wc.cell? ⟨w.heap.size,5,none⟩=some (.float .f64 K):=by rw[aR];simp
  have bw:=Q.keep bf.o yaa;have aY:=bk.keep bf.o yaa;have cg:=s.keep bf.o yaa;clear Q bk s aR v F;rcases qw op with rfl|rfl|rfl|rfl|rfl|rfl|rfl|rfl|rfl|rfl|rfl|rfl|rfl|h
  ·clear bw aY cg;go_wp2_with fail;refine yaj (wM _ K n aw hn) ?_;exact xbb
  ·obtain⟨rfl,rfl⟩:l=n/\X=n:=by have:=au.o;simp[eY,cnt]at this;omega
   have aX:V _:=hE bw aY;clear bw aY cg;go_wp2_with fail;refine yaj (e2 BL hn aX.o.1 aX.o.2 xab) ?_;exact xbb
  ·obtain⟨rfl,rfl⟩:l=n/\X=n:=by have:=au.o;simp[eY,cnt]at this;omega
   have aX:V _:=hE bw aY;clear bw aY cg;go_wp2_with fail;refine yaj (e2 Fb hn aX.o.1 aX.o.2 xab) ?_;exact xbb
  ·obtain⟨rfl,rfl⟩:l=n/\X=n:=by have:=au.o;simp[eY,cnt]at this;omega
   have aX:V _:=hE bw aY;clear bw aY cg;go_wp2_with fail;refine yaj (e2 Fa hn aX.o.1 aX.o.2 xab) ?_;exact xbb
  ·obtain⟨rfl,rfl⟩:l=n/\X=n:=by have:=au.o;simp[eY,cnt]at this;omega
   have aX:V _:=hE bw aY;clear bw aY cg;go_wp2_with fail;refine yaj (e2 Jk hn aX.o.1 aX.o.2 xab) ?_;exact xbb
  ·obtain rfl:l=n:=by have:=au.o;simp[eY,cnt]at this;omega
   have aX:V _:=bw;clear bw aY cg;go_wp2_with fail;refine yaj (e1 AB hn aX.o xab) ?_;exact xbb
  ·obtain⟨rfl,rfl⟩:l=n/\X=n:=by have:=au.o;simp[eY,cnt]at this;omega
   have aX:V _:=hE bw aY;clear bw aY cg;go_wp2_with fail;refine yaj (e2 AA hn aX.o.1 aX.o.2 xab) ?_;exact xbb
  ·obtain⟨rfl,rfl,rfl⟩:l=n/\X=n/\f=n:=by have:=au.o;simp[eY,cnt]at this;omega
   have aX:V _:=hE bw (hE aY cg);clear bw aY cg;go_wp2_with fail;refine yaj (Dk _ _ B hn aX.o.1 aX.o.2.1 aX.o.2.2) ?_;exact xbb
  ·obtain⟨rfl,ck,cz⟩:n=1/\1<=l/\l<=1000:=by have:=au.o;simp[eY,cnt,lenB]at this;omega
   have aX:V _:=bw;clear bw aY cg;go_wp2_with fail;refine yaj (MU _ l ck cz aX.o y) ?_;rintro e ag ⟨z,rfl,bi,G,a5⟩;have b7:V (fb z=fb (lI P)/\Kept 0 0 w ag):=⟨G,bf.o.trans (a5.kept 0 0)⟩
   clear G a5;go_wp2_with fail;refine yaj (wM _ z 1 bi xaa) ?_;rintro e a7 ⟨zs,rfl,(aa:V _)⟩;go_wp2;go_ret;exact Made.kres ⟨zs,rfl,aa.o⟩ b7.o.2 λk _=>by simp[gU,b7.o.1]
  ·have ab:0<l:=by have:=au.o;simp[eY,cnt]at this;omega
   have ak:=fR bw.lt 0;obtain⟨g,o,rfl,an⟩:=bw.el ab hL;rw[Nat.add_zero]at an;have HE:V (∀k,fb (P.getD 0 0)=fb (gU 10 C K P az aB k)):=λk=>by simp[gU]
   clear bw aY cg;generalize P.getD 0 0=x at ak HE an;go_wp2_with fail;go_region_with (go_at_call 99;refine yaj (wM _ x n ak hn) ?_;rintro e ag ⟨zs,rfl,(aa:V _)⟩)
   all_goals
    go_wp2
    go_ret
    exact Made.kres (wc:=wc.drew) ⟨zs,rfl,aa.o⟩ (bf.o.trans (eK 0 0 _ 1)) λk _=>HE.o k
  ·obtain⟨rfl,ab,p,rfl⟩:n=1/\∃h:C.toNat<l,∃p:Nat,C=p:=by have:=au.o;simp[eY,cnt,lenB,fJ]at this;exact⟨by omega,by omega,C.toNat,by omega⟩
   rw[Int.toNat_natCast]at ab;have ak:=fR bw.lt p;obtain⟨g,o,rfl,an⟩:=bw.el ab hL;have HE:V (∀k,fb (P.getD p 0)=fb (gU 11 p K P az aB k)):=λk=>by simp[gU]
   clear bw aY cg;generalize P.getD p 0=x at ak HE an;go_wp2_with fail;refine yaj (wM _ x 1 ak xaa) ?_;rintro e ag ⟨zs,rfl,(aa:V _)⟩;go_wp2;go_ret;exact Made.kres ⟨zs,rfl,aa.o⟩ bf.o λk _=>HE.o k
  ·obtain⟨ab,p,rfl,a9⟩:0<l/\∃p:Nat,C=p/\p<n:=by have:=au.o;simp[eY,cnt,fJ]at this;exact⟨by omega,C.toNat,by omega,by omega⟩
   have ak:=fR bw.lt 0;obtain⟨g,o,rfl,an⟩:=bw.el ab hL;rw[Nat.add_zero]at an;have HE:V (∀k,fb (if k=p then P.getD 0 0 else 0)=fb (gU 12 p K P az aB k)):=λk=>by simp[gU]
   clear bw aY cg;generalize P.getD 0 0=x at ak HE an;go_wp2_with fail;go_region_with (go_at_call 111;refine yaj (Mz _ x p n ak hn a9) ?_;rintro e ag ⟨zs,rfl,(aa:V _)⟩)
   all_goals
    go_wp2
    go_ret
    exact Made.kres (wc:=wc.drew) ⟨zs,rfl,aa.o⟩ (bf.o.trans (eK 0 0 _ 1)) λk _=>HE.o k
  ·obtain rfl:l=n:=by have:=au.o;simp[eY,cnt]at this;omega
   have aX:V _:=bw;clear bw aY cg;go_wp2_with fail;refine yaj (e1 My hn aX.o xab) ?_;exact xbb
  exfalso;obtain⟨bM,b3,h3,a0,bz,bP,aS,U,bp,u,H,T,S⟩:=h;have:=au.o;unfold eY at this;rw[hF bp,hF u,hF H,hF T,hF xaa]at this;cases this
def iN(op len C:Int)(K:Nat)(xa xb xc:List Nat):List Nat:=
 if jm op len C xa.length xb.length xc.length then (List.range len.toNat).map (gU op C K xa xb xc) else[]
theorem yK(op len C K P az aB):(iN op len C K P az aB).length<=1000:=by
 unfold iN;split
 ·rename_i h;simp only[jm,Bool.and_eq_true,lenB,decide_eq_true_eq]at h;simp;omega
 simp
theorem vr{op len C K}(h:jm op len C P.length az.length aB.length=true)(ab:zs.length=len.toNat)
  (am:∀k,k<len.toNat->fb (zs.getD k 0)=fb (gU op C K P az aB k)):fO zs (iN op len C K P az aB):=by
 unfold iN;rw[hG h];refine pi (by simp[ab]) λk N=>?_;rw[am k xaa];congr 1;simp[List.getD_eq_getElem?_getD,(by omega:k<len.toNat)]
def OR(w:World)(lo:Nat)(a:Option Addr)(n cap:Nat)(zs:List Nat):Prop:=
 (a=none/\n=0/\cap=0/\zs=[])\/∃g,a=some ⟨g,0,none⟩/\lo<=g/\FR w g zs/\zs.length=n/\(∀z∈zs,z<18446744073709551616)
theorem OR.fs{w lo cap}(h:OR w lo a n cap zs):FS w lo w.heap.size a n zs:=by
 rcases h with⟨rfl,rfl,rfl,rfl⟩|⟨g,rfl,B,J,rfl,a0⟩
 ·exact⟨rfl,by simp,.inl rfl⟩
 exact J.fs a0 B J.lt
theorem yL(w op len A R C K)(aw:K<18446744073709551616)
  (Q:FS w aJ ai a l P) (bk:FS w b1 bM b X az) (s:FS w ce b3 c f aB) (y:l<=bd):
  Calls prog 63 #[kT op len A R C K,.slice a l bd,.slice b X cb,.slice c f bK] w λe I=>
   ∃(ag:Option Addr) (n cap:Nat) (zs:List Nat),e=.returned (.slice ag n cap)/\OR I w.heap.size ag n cap zs/\fO zs (iN op len C K P az aB)/\Kept 0 0 w I/\n<=cap:=by
 have e1:=Q.len;have e2:=bk.len;have af:=s.len;cases a9:jm op len C l X f
 ·have hn:iN op len C K P az aB=[]:=by unfold iN;rw[e1,e2,af,a9];rfl
  have au:∀(e:Ending) (I:World),(e=.returned (.slice none 0 0)/\Kept 0 0 w I)->∃(ag:Option Addr) (n cap:Nat) (zs:List Nat),e=.returned (.slice ag n cap)/\OR I w.heap.size ag n cap zs/\fO zs (iN op len C K P az aB)/\Kept 0 0 w I/\n<=cap:=
   λe I h=>⟨none,0,0,[],h.1,.inl ⟨rfl,rfl,rfl,rfl⟩,hS hn,h.2,yad⟩
  cases ab:lenB len
  ·exact(rt w op len A R C K a b c l X f bd cb bK ab).mono λe I h=>au e I h
  refine(tw w op len A R C K a b c l X f bd cb bK ab ?_).mono λe I h=>au e I h;simpa[jm,ab] using a9
 have ab:lenB len=true:=by have:=a9;simp only[jm,Bool.and_eq_true]at this;exact this.1
 have ar:eY op len C (([(l:Int),(X:Int),(f:Int)]).take (cnt op))=true:=by have:=a9;simp only[jm,Bool.and_eq_true]at this;exact this.2
 have hb:1<=len/\len<=1000:=by simpa[lenB] using ab
 obtain⟨n,rfl⟩:=Int.eq_ofNat_of_zero_le (by omega:0<=len);refine(uP w op A R C n K xaa xaa aw Q bk s y ar).mono λe I h=>?_;obtain⟨G,zs,B,J,h3,a0,bz,bP,aS⟩:=h;exact⟨_,n,n,zs,B,.inr ⟨G,rfl,J,h3,bz,a0⟩,vr (by rw[e1,e2,af];exact a9) (by simpa using bz) (by simpa using bP),aS,yad⟩
theorem yM(w op len A R C K)(aw:K<18446744073709551616)
  (Q:FS w aJ ai a l P) (bk:FS w b1 bM b X az) (s:FS w ce b3 c f aB) (y:l<=bd):
  Calls prog 50 #[kT op len A R C K,.slice a l bd,.slice b X cb,.slice c f bK] w λe I=>
   ∃(ag:Option Addr) (n cap:Nat) (zs:List Nat),e=.returned (.slice ag n cap)/\FS I w.heap.size I.heap.size ag n zs/\fO zs (iN op len C K P az aB)/\Kept 0 0 w I/\n<=cap:=by
 have e1:=Q.len;have e2:=bk.len;have af:=s.len;cases a9:jm op len C l X f
 ·have hn:iN op len C K P az aB=[]:=by unfold iN;rw[e1,e2,af,a9];rfl
  exact(tL w op len A R C K a b c l X f bd cb bK a9).mono λe I h=>⟨none,0,0,[],h.1,⟨rfl,by simp,.inl rfl⟩,hS hn,h.2,yad⟩
 have av:1<=op/\op<=13/\1<=len/\len<=1000:=Decidable.byContradiction λc=>by rw[yx op len C l X f c]at a9;cases a9
 obtain⟨n,rfl⟩:=Int.eq_ofNat_of_zero_le (by omega:0<=len);have B:1<=n:=xaa;have hn:n<=1000:=xaa
 have au:∀(e:Ending) (I:World),KS n (gU op C K P az aB) w e I->∃(ag:Option Addr) (m cap:Nat) (zs:List Nat),e=.returned (.slice ag m cap)/\FS I w.heap.size I.heap.size ag m zs/\fO zs (iN op (n:Int) C K P az aB)/\Kept 0 0 w I/\m<=cap:=by
  rintro e I ⟨ag,cap,zs,aj,ah,aF,ca,bS⟩;exact⟨ag,n,cap,zs,aj,ah,vr (by rw[e1,e2,af];exact a9) (by simpa using ah.len) (by simpa using aF),ca,bS⟩
 exact(uN w op A R C n K ⟨av.1,av.2.1⟩ B hn aw Q bk s y a9).mono au
