import Derived.Test.YtcjhlkdleojbjaaGreatP09
import Derived.Test.YtcjhlkdleojbjaaGreatP08
namespace Go.Proofs.Z
variable{Zp:Prop}
open Tryz Go.RowKit Flt
set_option maxRecDepth 1000000
set_option maxHeartbeats 0
section
attribute[local go_sem] eF eE eD
variable{bB aO lo b8 hi n c0 i bb e cg cA l bf Y bh cb bV:Nat}{w B:World}{b0 a b c:Option Addr}{S:Nat->Prop}{xs:List Value}{zs P Q X:List Nat}
theorem VS.at_idx{vs}(f:VS w lo hi a n vs)(h:i<n):∃g off,a=some ⟨g,off,none⟩/\g<w.heap.size/\g<hi/\lo<=g/\At w g (off+i*6) (vs.getD i hF):=by
 rcases f.at_ with z|⟨g,off,e,aQ,a8,bi,bk⟩
 ·omega
 exact⟨g,_,e,bi,a8,aQ,bk i h⟩
theorem IS.keepC{xs}(f:IS w lo hi a n xs)(k:Chg S w B)(aK:∀g,lo<=g->g<hi->¬S g):IS B lo hi a n xs:=
 ⟨f.len,by
  rcases f.at_ with z|⟨g,off,e,aQ,a8,bi,bk⟩
  ·exact .inl z
  ·exact .inr ⟨g,_,e,aQ,a8,yak bi k.size,λj hj=>by rw[k.cell bi (aK g aQ a8)];exact bk j hj⟩⟩
theorem qY(v){q}(ap:q<cnt v.op):(fe v).getD q 0=fld v q:=by
 have:=fI v.op;unfold fe;rw[yai,List.getElem?_take_of_lt ap];rcases (by omega:q=0\/q=1\/q=2) with rfl|rfl|rfl<;>rfl
theorem Cc(op)(al:0<=op)(F:op<=13)(w):Calls prog 51 #[hA op] w λe B=>e=.returned (hA (cnt op:Nat))/\w=B:=by
 have:=lO _ w al F;rw[Pp al F]at this;exact this.mono λ_ _ h=>⟨h.1,h.2.symm⟩
theorem bL.qcj(h:Zp:=by
 rw[k.block g aJ (aK g (hO ae))];exact aS):Zp:=h
open bL in
theorem fi{base size v W I}(o:W.ownsRow base e size v n xs)(k:Chg S W I)(aK:∀g,v.ownBlock=some g->¬S g):I.ownsRow base e size v n xs:=by
 exact qci
theorem gh{z}(h:w.grownBy B z):Chg (λb=>z=some b) w B:=
 ⟨h.os,h.tape,h.output,h.size,λk O ad=>h.block k O (λc=>ad c.symm)⟩
theorem y9{outs:List Int}{k}(O:k<outs.length)(h:(outs.take k).any (λo=>o==(i:Int))=false)(t:(outs.getD k 0==(i:Int))=false):(outs.take (k+1)).any (λo=>o==(i:Int))=false:=by
 rw[yau O,List.any_append,h];exact xhz
theorem Gq(w R aS aa Z c1 n2 c2 ab c3 i lo hi outs)(f:IS w lo hi aa ab outs)(ad:ab<=1000000):
  Calls prog 108 #[eZ R Z c1 aS n2 c2 aa ab c3,hA (i:Nat)] w λe B=>e=.returned (.bool (isO outs i))/\Kept 0 0 w B:=by
 have bq:=ez 0 0 w (e9 R Z c1 aS n2 c2 aa ab c3);have av:E _:=fB w (.slice R Z c1) (.slice aS n2 c2) (.slice aa ab c3);have HF:E _:=f.keep bq yaa;have HL:E _:=f.len;have HK:E _:=bq;clear f bq;go_enter func108,ntmps108;go_wp2_with fail;generalize w.alloc (e9 R Z c1 aS n2 c2 aa ab c3)=aA at av HF HK⊢;go_loop [5] (λx=>∃k:Nat,k<=ab/\x=hA k/\E ((outs.take k).any (λo=>o==(i:Int))=false)) (λx=>ab-(intOf x).toNat)
 case atStart=>exact⟨0,yae,rfl,rfl⟩
 case round=>
  obtain⟨k,O,rfl,a2⟩:=hrel;obtain⟨_,aY,aC,aL⟩:=av.o;by_cases aG:k<ab
  ·obtain⟨g,off,m,rfl,em,am,aJ,ai⟩:=HF.o.at_idx (o:=k) xaa xaa;obtain rfl:k=m:=xaa;rw[Int.toNat_natCast]at ai;cases t:(outs.getD k 0==(i:Int))
   ·have H:E _:=y9 (hL HL.o aG) a2.o t;generalize outs.getD k 0=x at ai t;exact xeh
   have H:E (isO outs i=true):=by
    show _=_;unfold isO;rw[List.any_eq_true];exact⟨outs.getD k 0,oP (hL HL.o aG),t⟩
   generalize outs.getD k 0=x at ai t;clear a2;go_wp2;go_ret;exact⟨hO H.o,HK.o⟩
  obtain rfl:k=ab:=xaa
  have H:E (isO outs i=false):=by
   exact xey
  clear a2;go_wp2;go_ret;exact⟨hO H.o,HK.o⟩
theorem jy{W:World}{J m c s}(h:W.ownsRow J e s (.slice a n c) m xs):n=m:=by
 obtain⟨b,d,e⟩:=im h;injection e
theorem DD(w n)(F:1<=n)(ad:n<=1000){xs}(bG:FS w bB aO b0 n xs){a1 c1 bJ}(f1:FS w b8 bb a1 n bJ){U c2 us}(f2:FS w cg cA U n us):
  Calls prog 174 #[.slice b0 n c0,.slice a1 n c1,.slice U n c2,.func (.func 175) #[] #[]] w λe B=>Made n (λk=>io (xs.getD k 0) (bJ.getD k 0) (us.getD k 0)) w e B:=by
 rcases bG.at_ with h|⟨bP,d7,rfl,_,_,bE,bq⟩
 ·omega
 rcases f1.at_ with h|⟨aq,cn,rfl,_,_,R,aw⟩
 ·omega
 rcases f2.at_ with h|⟨aN,bT,rfl,_,_,aS,ak⟩
 ·omega
 exact yG w n ad _ _ _ _ bE bG.lt bq _ _ _ _ R f1.lt aw _ _ _ _ aS f2.lt ak
theorem Nw(w n)(F:1<=n)(ad:n<=1000){xs}(bG:FS w bB aO b0 n xs)(ah:n<=c0):
  Calls prog 176 #[.slice b0 n c0,.func (.func 167) #[] #[]] w λe B=>∃z,e=.returned (.float .f64 z)/\z<18446744073709551616/\fb z=fb (kX xs)/\Drawn w B:=by
 rcases bG.at_ with h|⟨g,o,rfl,_,_,b,k⟩
 ·omega
 exact Qo w n ad F g o _ _ bG.len ah bG.lt k
theorem Made.kres{q j wc e}(h:Made n q wc e B)(O:Kept 0 0 w wc)(ap:∀k,k<n->fb (q k)=fb (j k)):Pk n j w e B:=by
 obtain⟨zs,F,N,h3,a6,bF,bp⟩:=h;exact⟨_,_,F,O.size,N,h3,a6,λk u=>(bF k u).trans (ap k u),O.trans bp⟩
theorem uM(w op A J C)(n K:Nat)(F:1<=n)(ad:n<=1000)(aI:K<18446744073709551616)
  (aK:FS w bB aO a l P) (bd:FS w b8 bb b bf Q) (j:FS w cg cA c Y X) (s:l<=bh)
  (au:eV op (n:Int) C (([(l:Int),(bf:Int),(Y:Int)]).take (cnt op))=true):
  Calls prog 164 #[lN op (n:Int) A J C K,.slice a l bh,.slice b bf cb,.slice c Y bV] w λe B=>Pk n (gD op C K P Q X) w e B:=by
 have ao:E (eV op (n:Int) C (([(l:Int),(bf:Int),(Y:Int)]).take (cnt op))=true):=au
 have bA:E (∀w,Calls prog 34 #[hA n] w λe B=>e=.returned (.bool true)/\B=w):=λw=>by
  have:=fD (n:Int) w
  rw[mD xaa xaa]at this
  exact this
 have aM:=wz (w.alloc (fH op (n:Int) A J C K)) l bf Y;have v:=aM.prefix (cnt op) (fI op);have G:=fI op;have bu:E (∀w,Calls prog 62 #[hA op] w λe B=>e=.returned (hA (cnt op:Nat))/\B=w):=mU op
 have aW:E (∀m,Calls prog 65 #[lN op (n:Int) A J C K,hz (w.heap.size+1) (cnt op) 3] (((w.alloc (fH op (n:Int) A J C K)).alloc (.cells #[hA l,hA bf,hA Y] 3)).drewN m)
   λe B=>e=.returned (.bool true)/\Kept 0 0 (((w.alloc (fH op (n:Int) A J C K)).alloc (.cells #[hA l,hA bf,hA Y] 3)).drewN m) B):=λm=>by
  have h:=mE _ op (n:Int) A J C K _ _ _ _ 3 _ (v.keep (eJ 0 0 _ m) yaa) rfl
  rw[au]at h
  have e:(w.alloc (fH op (n:Int) A J C K)).heap.size=w.heap.size+1:=by simp
  rw[e]at h
  exact h
 clear aM v au;generalize cnt op=q at bu aW G;go_enter func164,ntmps164;go_upto_region 2 with fail;go_cut [30] (λr cd=>r=.bool (!true)/\Kept 0 0 ((w.alloc (fH op (n:Int) A J C K)).alloc (.cells #[hA l,hA bf,hA Y] 3)) cd)
 case first=>
  exact xcz
 case rest=>
  obtain⟨rfl,N⟩:=hcut;clear bA bu aW G;have ai:E _:=((ez 0 0 w (fH op (n:Int) A J C K)).trans (ez 0 0 _ (.cells #[hA l,hA bf,hA Y] 3))).trans N;have f:w.heap.size<((w.alloc (fH op (n:Int) A J C K)).alloc (.cells #[hA l,hA bf,hA Y] 3)).heap.size:=by simp;omega
  have aJ:∀i,wc.cell? ⟨w.heap.size,i,none⟩=((w.alloc (fH op (n:Int) A J C K)).alloc (.cells #[hA l,hA bf,hA Y] 3)).cell? ⟨w.heap.size,i,none⟩:=λi=>N.cell (p:=⟨w.heap.size,i,none⟩) f xaa;have bE:wc.cell? ⟨w.heap.size,0,none⟩=some (hA op):=by rw[aJ];simp
  have R:wc.cell? ⟨w.heap.size,1,none⟩=some (hA n):=by rw[aJ];simp
  have bi:wc.cell? ⟨w.heap.size,4,none⟩=some (hA C):=by rw[aJ];simp
  have b7:wc.cell? ⟨w.heap.size,5,none⟩=some (.float .f64 K):=by rw[aJ];simp
  have az:=aK.keep ai.o yaa;have bX:=bd.keep ai.o yaa;have aS:=j.keep ai.o yaa;clear aK bd j aJ f N;rcases pV op with rfl|rfl|rfl|rfl|rfl|rfl|rfl|rfl|rfl|rfl|rfl|rfl|rfl|h
  ·clear az bX aS;go_wp2_with fail;refine yaj (ww _ K n aI ad) ?_;exact xax
  ·obtain⟨rfl,rfl⟩:l=n/\bf=n:=by have:=ao.o;simp[eV,cnt]at this;omega
   have be:E _:=hB az bX;clear az bX aS;go_wp2_with fail;refine yaj (yE B5 ad be.o.1 be.o.2 xab) ?_;exact xax
  ·obtain⟨rfl,rfl⟩:l=n/\bf=n:=by have:=ao.o;simp[eV,cnt]at this;omega
   have be:E _:=hB az bX;clear az bX aS;go_wp2_with fail;refine yaj (yE FC ad be.o.1 be.o.2 xab) ?_;exact xax
  ·obtain⟨rfl,rfl⟩:l=n/\bf=n:=by have:=ao.o;simp[eV,cnt]at this;omega
   have be:E _:=hB az bX;clear az bX aS;go_wp2_with fail;refine yaj (yE FA ad be.o.1 be.o.2 xab) ?_;exact xax
  ·obtain⟨rfl,rfl⟩:l=n/\bf=n:=by have:=ao.o;simp[eV,cnt]at this;omega
   have be:E _:=hB az bX;clear az bX aS;go_wp2_with fail;refine yaj (yE JP ad be.o.1 be.o.2 xab) ?_;exact xax
  ·obtain rfl:l=n:=by have:=ao.o;simp[eV,cnt]at this;omega
   have be:E _:=az;clear az bX aS;go_wp2_with fail;refine yaj (ML AP ad be.o xab) ?_;exact xax
  ·obtain⟨rfl,rfl⟩:l=n/\bf=n:=by have:=ao.o;simp[eV,cnt]at this;omega
   have be:E _:=hB az bX;clear az bX aS;go_wp2_with fail;refine yaj (yE AO ad be.o.1 be.o.2 xab) ?_;exact xax
  ·obtain⟨rfl,rfl,rfl⟩:l=n/\bf=n/\Y=n:=by have:=ao.o;simp[eV,cnt]at this;omega
   have be:E _:=hB az (hB bX aS);clear az bX aS;go_wp2_with fail;refine yaj (DD _ _ F ad be.o.1 be.o.2.1 be.o.2.2) ?_;exact xax
  ·obtain⟨rfl,cf,b1⟩:n=1/\1<=l/\l<=1000:=by have:=ao.o;simp[eV,cnt,lenB]at this;omega
   have be:E _:=az;clear az bX aS;go_wp2_with fail;refine yaj (Nw _ l cf b1 be.o s) ?_;rintro e ag ⟨z,rfl,bv,U,bl⟩;have b2:E (fb z=fb (kX P)/\Kept 0 0 w ag):=⟨U,ai.o.trans (bl.kept 0 0)⟩
   clear U bl;go_wp2_with fail;refine yaj (ww _ z 1 bv xaa) ?_;rintro e aF ⟨zs,rfl,(HM:E _)⟩;go_wp2;go_ret;exact Made.kres ⟨zs,rfl,HM.o⟩ b2.o.2 λk _=>by simp[gD,b2.o.1]
  ·have af:0<l:=by have:=ao.o;simp[eV,cnt]at this;omega
   have an:=gI az.lt 0;obtain⟨g,o,rfl,bq⟩:=az.el af hI;rw[Nat.add_zero]at bq;have HE:E (∀k,fb (P.getD 0 0)=fb (gD 10 C K P Q X k)):=λk=>by simp[gD]
   clear az bX aS;generalize P.getD 0 0=x at an HE bq;go_wp2_with fail;go_region_with (go_at_call 165;refine yaj (ww _ x n an ad) ?_;rintro e ag ⟨zs,rfl,(HM:E _)⟩)
   all_goals
    go_wp2
    go_ret
    exact Made.kres (wc:=wc.drew) ⟨zs,rfl,HM.o⟩ (ai.o.trans (eJ 0 0 _ 1)) λk _=>HE.o k
  ·obtain⟨rfl,af,p,rfl⟩:n=1/\∃h:C.toNat<l,∃p:Nat,C=p:=by have:=ao.o;simp[eV,cnt,lenB,fR]at this;exact⟨by omega,by omega,C.toNat,by omega⟩
   rw[Int.toNat_natCast]at af;have an:=gI az.lt p;obtain⟨g,o,rfl,bq⟩:=az.el af hI;have HE:E (∀k,fb (P.getD p 0)=fb (gD 11 p K P Q X k)):=λk=>by simp[gD]
   clear az bX aS;generalize P.getD p 0=x at an HE bq;go_wp2_with fail;refine yaj (ww _ x 1 an xaa) ?_;rintro e ag ⟨zs,rfl,(HM:E _)⟩;go_wp2;go_ret;exact Made.kres ⟨zs,rfl,HM.o⟩ ai.o λk _=>HE.o k
  ·obtain⟨af,p,rfl,ca⟩:0<l/\∃p:Nat,C=p/\p<n:=by have:=ao.o;simp[eV,cnt,fR]at this;exact⟨by omega,C.toNat,by omega,by omega⟩
   have an:=gI az.lt 0;obtain⟨g,o,rfl,bq⟩:=az.el af hI;rw[Nat.add_zero]at bq;have HE:E (∀k,fb (if k=p then P.getD 0 0 else 0)=fb (gD 12 p K P Q X k)):=λk=>by simp[gD]
   clear az bX aS;generalize P.getD 0 0=x at an HE bq;go_wp2_with fail;go_region_with (go_at_call 177;refine yaj (Nl _ x p n an ad ca) ?_;rintro e ag ⟨zs,rfl,(HM:E _)⟩)
   all_goals
    go_wp2
    go_ret
    exact Made.kres (wc:=wc.drew) ⟨zs,rfl,HM.o⟩ (ai.o.trans (eJ 0 0 _ 1)) λk _=>HE.o k
  ·obtain rfl:l=n:=by have:=ao.o;simp[eV,cnt]at this;omega
   have be:E _:=az;clear az bX aS;go_wp2_with fail;refine yaj (ML Nk ad be.o xab) ?_;exact xax
  exfalso;obtain⟨bb,cA,h3,a6,bF,bp,aj,ax,aP,u,y,H,I⟩:=h;have:=ao.o;unfold eV at this;rw[hC aP,hC u,hC y,hC H,hC xaa]at this;cases this
def iL(op len C:Int)(K:Nat)(xa xb xc:List Nat):List Nat:=
 if i8 op len C xa.length xb.length xc.length then (List.range len.toNat).map (gD op C K xa xb xc) else[]
theorem vi{op len C K}(h:i8 op len C P.length Q.length X.length=true)(af:zs.length=len.toNat)
  (ap:∀k,k<len.toNat->fb (zs.getD k 0)=fb (gD op C K P Q X k)):gC zs (iL op len C K P Q X):=by
 unfold iL;rw[hD h];refine so (by simp[af]) λk O=>?_;rw[ap k xaa];congr 1;simp[List.getD_eq_getElem?_getD,(by omega:k<len.toNat)]
def OR(w:World)(lo:Nat)(a:Option Addr)(n cap:Nat)(zs:List Nat):Prop:=
 (a=none/\n=0/\cap=0/\zs=[])\/∃g,a=some ⟨g,0,none⟩/\lo<=g/\FR w g zs/\zs.length=n/\(∀z∈zs,z<18446744073709551616)
theorem OR.fs{cap}(h:OR w lo a n cap zs):FS w lo w.heap.size a n zs:=by
 rcases h with⟨rfl,rfl,rfl,rfl⟩|⟨g,rfl,F,N,rfl,a6⟩
 ·exact⟨rfl,by simp,.inl rfl⟩
 exact N.fs a6 F N.lt
theorem zd(w op len A J C K)(aI:K<18446744073709551616)
  (aK:FS w bB aO a l P) (bd:FS w b8 bb b bf Q) (j:FS w cg cA c Y X) (s:l<=bh):
  Calls prog 164 #[lN op len A J C K,.slice a l bh,.slice b bf cb,.slice c Y bV] w λe B=>
   ∃(ag:Option Addr) (n cap:Nat) (zs:List Nat),e=.returned (.slice ag n cap)/\OR B w.heap.size ag n cap zs/\gC zs (iL op len C K P Q X)/\Kept 0 0 w B/\n<=cap:=by
 have ae:=aK.len;have a9:=bd.len;have ai:=j.len;cases a5:i8 op len C l bf Y
 ·have ad:iL op len C K P Q X=[]:=by unfold iL;rw[ae,a9,ai,a5];rfl
  have aB:∀(e:Ending) (B:World),(e=.returned (.slice none 0 0)/\Kept 0 0 w B)->∃(ag:Option Addr) (n cap:Nat) (zs:List Nat),e=.returned (.slice ag n cap)/\OR B w.heap.size ag n cap zs/\gC zs (iL op len C K P Q X)/\Kept 0 0 w B/\n<=cap:=
   λe B h=>⟨none,0,0,[],h.1,.inl ⟨rfl,rfl,rfl,rfl⟩,hO ad,h.2,yad⟩
  cases af:lenB len
  ·exact(qT w op len A J C K a b c l bf Y bh cb bV af).mono λe B h=>aB e B h
  refine(sP w op len A J C K a b c l bf Y bh cb bV af ?_).mono λe B h=>aB e B h;simpa[i8,af] using a5
 have af:lenB len=true:=by have:=a5;simp only[i8,Bool.and_eq_true]at this;exact this.1
 have au:eV op len C (([(l:Int),(bf:Int),(Y:Int)]).take (cnt op))=true:=by have:=a5;simp only[i8,Bool.and_eq_true]at this;exact this.2
 have hb:1<=len/\len<=1000:=by simpa[lenB] using af
 obtain⟨n,rfl⟩:=Int.eq_ofNat_of_zero_le (by omega:0<=len);refine(uM w op A J C n K xaa xaa aI aK bd j s au).mono λe B h=>?_;obtain⟨G,zs,F,N,h3,a6,bF,bp,aj⟩:=h;exact⟨_,n,n,zs,F,.inr ⟨G,rfl,N,h3,bF,a6⟩,vi (by rw[ae,a9,ai];exact a5) (by simpa using bF) (by simpa using bp),aj,yad⟩
theorem ze(w op len A J C K)(aI:K<18446744073709551616)
  (aK:FS w bB aO a l P) (bd:FS w b8 bb b bf Q) (j:FS w cg cA c Y X) (s:l<=bh):
  Calls prog 54 #[lN op len A J C K,.slice a l bh,.slice b bf cb,.slice c Y bV] w λe B=>
   ∃(ag:Option Addr) (n cap:Nat) (zs:List Nat),e=.returned (.slice ag n cap)/\FS B w.heap.size B.heap.size ag n zs/\gC zs (iL op len C K P Q X)/\Kept 0 0 w B/\n<=cap:=by
 have ae:=aK.len;have a9:=bd.len;have ai:=j.len;cases a5:i8 op len C l bf Y
 ·have ad:iL op len C K P Q X=[]:=by unfold iL;rw[ae,a9,ai,a5];rfl
  exact(tF w op len A J C K a b c l bf Y bh cb bV a5).mono λe B h=>⟨none,0,0,[],h.1,⟨rfl,by simp,.inl rfl⟩,hO ad,h.2,yad⟩
 have aD:1<=op/\op<=13/\1<=len/\len<=1000:=Decidable.byContradiction λc=>by rw[yH op len C l bf Y c]at a5;cases a5
 obtain⟨n,rfl⟩:=Int.eq_ofNat_of_zero_le (by omega:0<=len);have F:1<=n:=xaa;have ad:n<=1000:=xaa
 have aB:∀(e:Ending) (B:World),KS n (gD op C K P Q X) w e B->∃(ag:Option Addr) (m cap:Nat) (zs:List Nat),e=.returned (.slice ag m cap)/\FS B w.heap.size B.heap.size ag m zs/\gC zs (iL op (n:Int) C K P Q X)/\Kept 0 0 w B/\m<=cap:=by
  rintro e B ⟨ag,cap,zs,aw,ak,aR,bM,bQ⟩;exact⟨ag,n,cap,zs,aw,ak,vi (by rw[ae,a9,ai];exact a5) (by simpa using ak.len) (by simpa using aR),bM,bQ⟩
 exact(uK w op A J C n K ⟨aD.1,aD.2.1⟩ F ad aI aK bd j s a5).mono aB
end
section
variable{w B:World}{a:Option Addr}{P n cap i h:Nat}{bs:List Int}
structure RdF(w:World)(P:Nat)(a:Option Addr)(n cap i:Nat)(bs:List Int):Prop where
 lt:P<w.heap.size
 c0:w.cell? ⟨P,0,none⟩=some (.slice a n cap)
 c1:w.cell? ⟨P,1,none⟩=some (.int .i64 (i:Int))
 fz:w.frozen? ⟨P,1,none⟩=false
 hi:i<=n
 small:n<=500
 ys:YS w a n bs
 ne:0<n->∀g off,a=some ⟨g,off,none⟩->g<P
theorem Gt{xs}(f:YS w a n xs)(k:Kept P h w B)(ne:0<n->∀g off,a=some ⟨g,off,none⟩->g<P):YS B a n xs:=
 ⟨f.len,f.lt,f.at_.imp id λ⟨g,off,e,h3,a6⟩=>⟨g,off,e,yak h3 k.size,λj hj=>by rw[k.cell (p:=⟨g,off+j,none⟩) h3 (by have:=ne xaa g off e;show ¬(P<=g/\g<h);omega)];exact a6 j hj⟩⟩
theorem RdF.keep{l}(f:RdF w P a n cap i bs)(k:Kept l h w B)(aK:P<l\/h<=l):RdF B P a n cap i bs where
 lt:=yak f.lt k.size
 c0:=by rw[k.cell (p:=⟨P,0,none⟩) f.lt (by show ¬(l<=P/\P<h);omega)];exact f.c0
 c1:=by rw[k.cell (p:=⟨P,1,none⟩) f.lt (by show ¬(l<=P/\P<h);omega)];exact f.c1
 fz:=by rw[k.frozen (p:=⟨P,1,none⟩) f.lt (by show ¬(l<=P/\P<h);omega)];exact f.fz
 hi:=f.hi
 small:=f.small
 ys:=⟨f.ys.len,f.ys.lt,f.ys.at_.imp id λ⟨g,off,e,h3,a6⟩=>⟨g,off,e,yak h3 k.size,λj hj=>by rw[k.cell (p:=⟨g,off+j,none⟩) h3 (by have:=f.ne xaa g off e;show ¬(l<=g/\g<h);omega)];exact a6 j hj⟩⟩
 ne:=f.ne
def nv(bs:List Int)(i:Nat):Nat:=(bs.getD i 0).toNat
def ni(bs:List Int)(i:Nat):Nat:=if i<bs.length then i+1 else i
theorem ib(f:YS w a n bs)(i):nv bs i<256:=by
 unfold nv;by_cases h:i<bs.length
 ·have:=f.lt _ (List.getElem_mem h);rw[yai,yam h];show(bs[i]).toNat<256;omega
 rw[yai,List.getElem?_eq_none xaa];decide
theorem J2(f:RdF w P a n cap i bs)(hi:i<n):
  RdF (w.setCell ⟨P,1,none⟩ (hA ((i:Int)+1))) P a n cap (i+1) bs/\Kept P (P+1) w (w.setCell ⟨P,1,none⟩ (hA ((i:Int)+1)))/\(w.setCell ⟨P,1,none⟩ (hA ((i:Int)+1))).heap.size=w.heap.size:=by
 have aj:Kept P (P+1) w (w.setCell ⟨P,1,none⟩ (hA ((i:Int)+1))):=eR w ⟨P,1,none⟩ _ yac;exact⟨⟨by simpa using f.lt,by rw[World.cell?_setCell_other (h:=by simp)];exact f.c0,by rw[World.cell?_setCell_same (h:=f.c1)];rfl,by rw[World.frozen?_setCell];exact f.fz,hi,f.small,Gt f.ys aj f.ne,f.ne⟩,aj,by simp⟩
theorem iX(w P a n cap i bs)(f:RdF w P a n cap i bs):
  Calls prog 15 #[hy P] w λe B=>e=.returned (hA (nv bs i:Int))/\RdF B P a n cap (ni bs i) bs/\Kept P (P+1) w B/\B.heap.size=w.heap.size:=by
 have al:=f.c0;have F:=f.c1;have ad:=f.small;have af:=f.ys.len;by_cases hi:i<n
 ·have N:=f.fz
  obtain⟨J,off,rfl,aT,an⟩:∃J off,a=some ⟨J,off,none⟩/\J<w.heap.size/\w.cell? ⟨J,off+i,none⟩=some (.int .u8 (bs.getD i 0)):=by
   rcases f.ys.at_ with q|⟨g,off,e,h3,a6⟩
   ·omega
   exact⟨g,off,e,h3,a6 i hi⟩
  have hb:0<=bs.getD i 0/\bs.getD i 0<256:=by
   rw[yai,yam xaa];exact f.ys.lt _ (List.getElem_mem _)
  obtain⟨bB,cA⟩:=hb;have aO:(nv bs i:Int)=bs.getD i 0:=by unfold nv;omega
  have j:ni bs i=i+1:=by unfold ni;rw[hD xaa]
  have HF:E _:=f;rw[aO,j];generalize bs.getD i 0=x at an bB cA aO;clear f aO j aT;go_enter func15,ntmps15;go_wp2;go_quiet (fail)
  go_wp2;go_quiet (fail)
  go_wp2;go_ret;have bq:=eJ P (P+1) w;obtain⟨ay,a0,ch⟩:=J2 (HF.o.keep (eJ 0 0 w _) yab) hi;exact⟨rfl,ay,(bq _).trans a0,ch⟩
 have aO:(nv bs i:Int)=0:=by
  unfold nv;rw[yai,List.getElem?_eq_none xaa];rfl
 have j:ni bs i=i:=by unfold ni;rw[hC xaa]
 have HF:E _:=f;rw[aO,j];have hi:n<=i:=xaa;clear f aO j;go_enter func15,ntmps15;go_wp2;go_quiet (fail)
 go_wp2;go_ret;exact⟨rfl,HF.o.keep (eJ 0 0 _ _) yab,eJ _ _ _ _,rfl⟩
end
section
attribute[local go_sem] eF eE
variable{S:Nat->Prop}
theorem qr(n):floatOfInt .f64 n<18446744073709551616:=by
 have:=floatOfInt_wf .f64 n;simpa[Lit.wf] using this
theorem rL(n):IntKind.u64.wrap n<18446744073709551616:=by rw[IntKind.wrap_u64];omega
theorem Nx(a b)(F:0<=a)(N:a<18446744073709551616)(h3:0<=b)(a6:b<18446744073709551616):∃n:Nat,bits .or .u64 a b=(n:Int)/\n<18446744073709551616:=by
 refine⟨_,u64_or a b F N h3 a6,?_⟩;have:a.toNat|||b.toNat<2 ^ 64:=Nat.or_lt_two_pow xaa xaa
 simpa using this
theorem J3(x):x%16<6\/(6<=x%16/\x%16<9)\/x%16=9\/x%16=10\/x%16=11\/x%16=12\/x%16=13\/x%16=14\/x%16=15:=xaa
theorem sr(w I:World)(xs T)(k:Chg S (w.alloc (.cells xs T)) I)(aW:¬S w.heap.size):(∀o,I.cell? ⟨w.heap.size,o,none⟩=xs[o]?)/\(∀o,I.frozen? ⟨w.heap.size,o,none⟩=false)/\w.heap.size<I.heap.size:=by
 have F:w.heap.size<(w.alloc (.cells xs T)).heap.size:=by simp
 refine⟨λo=>?_,λo=>?_,yak F k.size⟩
 ·rw[k.cell F aW,yav]
 rw[k.frozen F aW];simp_all
theorem Cd(w a n m cap xs)(h:YS w a n xs)(am:m<=n)(bu:m<=500)(an:(xs.take 500).length=m)(T):
  RdF (w.alloc (.cells #[.slice a m cap,hA 0] T)) w.heap.size a m cap 0 (xs.take 500):=by
 have hb:=sr (S:=λ_=>False) w _ #[.slice a m cap,hA 0] T (hI).chg (λc=>c);refine⟨hb.2.2,hb.1 0,hb.1 1,hb.2.1 1,yae,bu,⟨an,λx q=>h.lt x (List.mem_of_mem_take q),?_⟩,?_⟩
 ·rcases h.at_ with q|⟨g,off,e,h3,a6⟩
  ·omega
  refine .inr ⟨g,off,e,yak h3 (ez 0 0 w _).size,λk O=>?_⟩;rw[(ez 0 0 w _).cell (p:=⟨g,off+k,none⟩) h3 xaa,a6 k xaa];grind
 intro al g off e;rcases h.at_ with q|⟨aq,aQ,aN,h3,a6⟩<;>grind
theorem Ny(w a n cap xs)(h:YS w a n xs)(ah:n<=cap):
  Calls prog 14 #[.slice a n cap] w λe B=>e=.returned (hy w.heap.size)/\(∃m,RdF B w.heap.size a m cap 0 (xs.take 500))/\Kept 0 0 w B:=by
 have af:=h.len;by_cases ad:n<=500
 ·have Y:E _:=Cd w a n n cap xs h yad ad (by grind) 80;have HK:E _:=ez 0 0 w (.cells #[.slice a n cap,hA 0] 80);clear h;go_enter func14,ntmps14;go_wp2;go_ret;exact⟨rfl,⟨n,Y.o⟩,HK.o⟩
 obtain⟨x,rfl⟩:∃x,a=some x:=by
  rcases h.at_ with q|⟨g,off,e,_⟩<;>grind
 have Y:E _:=Cd w (some x) n 500 cap xs h xaa yad (by grind) 80;have HK:E _:=ez 0 0 w (.cells #[.slice (some x) 500 cap,hA 0] 80);have Z:500<=cap:=xaa;have ad:500<n:=xaa;clear h;go_enter func14,ntmps14;go_wp2;go_ret;exact⟨rfl,⟨500,Y.o⟩,HK.o⟩
theorem qZ{w B P a n cap i bs}(f:RdF w P a n cap i bs)(k:Chg S w B)(aW:∀b,S b->P<b):RdF B P a n cap i bs where
 lt:=yak f.lt k.size
 c0:=by rw[k.cell (p:=⟨P,0,none⟩) f.lt (λc=>Nat.lt_irrefl _ (aW _ c))];exact f.c0
 c1:=by rw[k.cell (p:=⟨P,1,none⟩) f.lt (λc=>Nat.lt_irrefl _ (aW _ c))];exact f.c1
 fz:=by rw[k.frozen (p:=⟨P,1,none⟩) f.lt (λc=>Nat.lt_irrefl _ (aW _ c))];exact f.fz
 hi:=f.hi
 small:=f.small
 ys:=⟨f.ys.len,f.ys.lt,f.ys.at_.imp id λ⟨g,off,e,h3,a6⟩=>⟨g,off,e,yak h3 k.size,λj hj=>by rw[k.cell (p:=⟨g,off+j,none⟩) h3 (λc=>by have bF:P<g:=aW _ c;have:=f.ne xaa g off e;omega)];grind⟩⟩
 ne:=f.ne
theorem jl{W I p bE R aS}(t:RB W p bE R aS)(c:Chg S W I)(aM:¬S p):RB I p bE R aS:=
 have e:∀o,I.cell? ⟨p,o,none⟩=W.cell? ⟨p,o,none⟩:=λo=>c.cell (p:=⟨p,o,none⟩) t.sz aM
 have j:∀o,I.frozen? ⟨p,o,none⟩=W.frozen? ⟨p,o,none⟩:=λo=>c.frozen (p:=⟨p,o,none⟩) t.sz aM
 ⟨yak t.sz c.size,hL e t.q0,hL e t.q1,hL e t.q2,hL j t.f0,hL j t.f1,hL j t.f2⟩
end
section
def l3n(x:Nat):List UInt8:=if x%10<6 then gO (x/10%6)else if x%10=6 then gO x++[46,53]else if x%10=7 then[48,46]++gO x else if x%10=8 then[49]else ([48,48]++gO x)++[46,50,53,48,48]
theorem A9(w P a n cap i bs)(f:RdF w P a n cap i bs):
  Calls prog 127 #[hy P] w λe B=>e=.returned (eN (l3n (nv bs i)))/\RdF B P a n cap (ni bs i) bs/\Kept P (P+1) w B/\B.heap.size=w.heap.size:=by
 have bm:E _:=iX w P a n _ i _ f;have an:=ib f.ys i;generalize nv _ i=x at bm an⊢;have HD:E _:=yN x x yad xaa;have g:E (∀W:World,Calls _ _ #[.int _ (x/10%6)] W _):=yN _ (x/10%6) yad xaa;have HL:E ((gO x).length<=300):=by have:=jS x;show _<=_;omega
 clear f;unfold l3n;rcases (by omega:x%10<6\/x%10=6\/x%10=7\/x%10=8\/x%10=9) with c|c|c|c|c
 ·rw[hD c];have c1:(x:Int)%10<6:=xaa;unfold eN at g⊢;go_enter func127,ntmps127;go_wp2_with (first|(go_at_call 15;refine yaj bm.o ?_;rintro e aA ⟨rfl,aD,aw,aQ⟩)|(go_at_call 77;refine yaj (g.o _) ?_;rintro e ag ⟨rfl,rfl⟩));go_ret;exact⟨rfl,aD,aw,aQ⟩
 ·rw[hC xaa,hD c];have c1:(x:Int)%10=6:=xaa;unfold eN at HD⊢;rw[<-sY]
  have bv:¬(9223372036854775807<(⟨(gO x).toArray⟩:ByteArray).size+(⟨#[46,53]⟩:ByteArray).size):=by
   rw[fX];have:=HL.o;simp[ByteArray.size];omega
  exact xde
 ·rw[hC xaa,hC xaa,hD c];have c1:(x:Int)%10=7:=xaa;unfold eN at HD⊢;rw[<-sY]
  have bv:¬(9223372036854775807<(⟨#[48,46]⟩:ByteArray).size+(⟨(gO x).toArray⟩:ByteArray).size):=by
   rw[fX];have:=HL.o;simp[ByteArray.size];omega
  exact xde
 ·rw[hC xaa,hC xaa,hC xaa,hD c];have c1:(x:Int)%10=8:=xaa;go_enter func127,ntmps127;go_wp2_with (go_at_call 15;refine yaj bm.o ?_;rintro e aA ⟨rfl,aD,aw,aQ⟩);go_ret;exact⟨rfl,aD,aw,aQ⟩
 rw[hC xaa,hC xaa,hC xaa,hC xaa];have c1:(x:Int)%10=9:=xaa;unfold eN at HD⊢;rw[<-sY,<-sY]
 have bv:¬(9223372036854775807<(⟨#[48,48]⟩:ByteArray).size+(⟨(gO x).toArray⟩:ByteArray).size):=by
  rw[fX];have:=HL.o;simp[ByteArray.size];omega
 have b0:¬(9223372036854775807<((⟨#[48,48]⟩:ByteArray)++(⟨(gO x).toArray⟩:ByteArray)).size+(⟨#[46,50,53,48,48]⟩:ByteArray).size):=by
  rw[yar,fX];have:=HL.o;simp[ByteArray.size];omega
 generalize (⟨_⟩:ByteArray)=h at HD bv b0⊢;exact xcf
end
section
attribute[local go_sem] eF eE eD
variable{w I:World}{bz:Array Oper}{lo J hi n g:Nat}{rest:List Oper}{o:Oper}{v:Value}{ss:List (List UInt8)}{a:Act}{ts:List Tok}{b:Option Addr}{Q:Exit->Act->World->Prop}
theorem ml{P}(w)(aG:o.guard=none)(s x t)
  (ho:o.op=.call {callee:=.builtin .append,args:=#[s,x],argTypes:=#[t,t]})
  (base) (e) (i) (z) (size l) (ht:P.underlying t=some (.slice e)) (hi:P.info? e=some i) (bv:i.zero=some z)
  (G:i.size=size) (p:i.bytes=l) (C:z.cells.size=size) (bX:0<size) (au:a.eval s=.slice none 0 0)
  (b) (m c) (q) (an:a.eval x=.slice b m c) (af:q.length=m*size) (y:(b=none/\m=0)\/∃ak,b=some ak/\∀j u,q[j]? =some u->w.cell? (ak.add j)=some u) (F:∀u∈q,u.oneCell'=true)
  (f:m<=maxLen) (H:m*l<=140737488355328) (ae:base<=w.heap.size)
  (h:∀v' B,B.ownsRow base e size v' m q->w.grownBy B none->wpList P bz Q rest (a.put o.dst v') B):wpList P bz Q (o::rest) a w:=by
 rcases y with⟨rfl,rfl⟩|⟨ak,rfl,ad⟩
 ·have r:=List.length_eq_zero_iff.1 (hN af);subst r
  have aD:(Builtin.append_ #[t,t] o.type #[.slice none 0 0,.slice none 0 c]).run P w=.ok (.slice none 0 0) w:=by
   simp[Builtin.append_,run_underlying ht,sizeOf,typeInfo,hi,Builtin.lenOf,run_firstCells_none]
  refine wpList_plain aG λ_ aI=>?_;unfold Oper.wp execOp;simp only[ho,resolve,invoke,builtin,Sem.run_bind,Sem.run_pure,Result.andThen_ok,List.map_toArray,List.map_cons,List.map_nil,au,an,aD];exact aI _ _ (h _ _ (yaw w _ e _) ⟨rfl,rfl,rfl,yad,λ_ _ _=>rfl⟩)
 refine wpList_append_own w aG s x t ho _ e i z _ _ ht hi bv G p C bX _ 0 _ au (yaw w _ e _) _ m c _ an af ad F xaa (by grind) ae ?_;intro v' B aC aL _;rw[Nat.zero_add,List.nil_append]at aC;exact h _ _ aC aL
theorem jG(g off j):(⟨g,off,none⟩:Addr).add j=⟨g,off+j,none⟩:=by
 simp[Addr.add_lit]
theorem Qp{xs}(h:IS w lo hi b n xs):(b=none/\n=0)\/∃ak,b=some ak/\∀j u,(xs.map (Value.int .i64))[j]? =some u->w.cell? (ak.add j)=some u:=by
 have af:=h.len;rcases h.at_ with z|⟨g,off,rfl,_,_,_,ah⟩
 ·subst z;have:=List.length_eq_zero_iff.1 af;subst this;cases b<;>grind
 refine .inr ⟨_,rfl,λj u aB=>?_⟩;have hj:j<n:=by grind
 rw[jG,ah j hj];simp_all
theorem Qq{vs}(h:VS w lo hi b n vs):(b=none/\n=0)\/∃ak,b=some ak/\∀j u,(fF vs)[j]? =some u->w.cell? (ak.add j)=some u:=by
 have af:=h.len;rcases h.at_ with z|⟨g,off,rfl,_,_,_,ah⟩
 ·subst z;have:=List.length_eq_zero_iff.1 af;subst this;cases b<;>grind[fF]
 refine .inr ⟨_,rfl,λj u aB=>?_⟩;have hj:j<n*6:=by grind[sV]
 have Z:j=j/6*6+j%6:=xaa;have O:j/6<n:=xaa;rw[Z,wH _ _ _ xaa xaa]at aB;rw[jG];obtain⟨c0,c1,c2,c3,c4,c5⟩:=ah _ O;grind[Vl.cells]
theorem nZ(w lo hi' b n c xs)(be:n<=1000000)(h:IS w lo hi' b n xs):
  Calls prog 50 #[.slice b n c] w λe B=>∃a cap,e=.returned (.slice a n cap)/\B.ownsRow w.heap.size 3 1 (.slice a n cap) n (xs.map (Value.int .i64))/\Kept 0 0 w B:=by
 obtain⟨bW,hi,b4,b3,b0⟩:=info_parts pX;have bm:E _:=Qp h;have ar:E _:=h.len;clear h;go_enter func50,ntmps50;go_wp2_with (first|(at_builtin;refine ml _ rfl _ _ _ rfl w.heap.size 3 _ _ 1 8 underlying23 hi b4 b3 b0 rfl xab rfl b n c _ rfl ?c0 bm.o ?c2 ?c3 ?c4 ?c5 ?_))
 case c0=>rw[List.length_map,ar.o,Nat.mul_one]
 case c2=>intro u aB;obtain⟨x,_,rfl⟩:=List.mem_map.1 aB;rfl
 case c3=>unfold maxLen;omega
 case c4=>omega
 case c5=>omega
 intro v' bj bF aW;obtain⟨a,cap,rfl⟩:=im bF;have H:E _:=gm aW (λk O=>by cases O) (Kept.refl 0 0 w) yad;have R2:E _:=bF;clear bF aW;go_wp2;go_ret;exact⟨a,_,rfl,R2.o,H.o⟩
def tkc(k:Tok):List Value:=[eN k.sym,.int .i64 (k.pos:Int),eN k.text]
def tkF:List Tok->List Value
 |[]=>[]
 |k::r=>tkc k++tkF r
theorem J4(a b):tkF (a++b)=tkF a++tkF b:=by
 induction a<;>grind[tkF]
theorem J5(k):tkF [k]=tkc k:=by simp[tkF]
theorem Gu:∀(a:List Tok) (k j:Nat),k<a.length->j<3->(tkF a)[k*3+j]? =(tkc (a.getD k hG))[j]?
 |x::r,0,j,_,hj=>by
  grind[tkF,tkc]
 |x::r,k+1,j,O,hj=>by
  have an:(tkc x).length=3:=rfl
  rw[tkF,yas xaa,an,show(k+1)*3+j-3=k*3+j by omega]
  exact Gu r k j (by grind) hj
def TR(W:World)(B:Nat)(v:Value)(ts:List Tok):Prop:=W.ownsRow B 119 3 v ts.length (tkF ts)
theorem TR.keep{W}(f:TR W J v ts)(k:Kept 0 0 W I):TR I J v ts:=eO f k
theorem TR.nil(W J):TR W J (.slice none 0 0) []:=yaw _ _ _ _
theorem TR.blk{W}(f:TR W J v ts)(h:v.ownBlock=some g):J<=g/\g<W.heap.size:=eH f h
structure TkA(w:World)(g off n:Nat)(ts:List Tok):Prop where
 len:ts.length=n
 lt:g<w.heap.size
 c0:∀k,k<n->w.cell? ⟨g,off+k*3,none⟩=some (eN (ts.getD k hG).sym)
 c1:∀k,k<n->w.cell? ⟨g,off+k*3+1,none⟩=some (.int .i64 ((ts.getD k hG).pos:Int))
 c2:∀k,k<n->w.cell? ⟨g,off+k*3+2,none⟩=some (eN (ts.getD k hG).text)
theorem TR.at_{W}(f:TR W J v ts)(h:0<ts.length):∃g cap,v=hz g ts.length cap/\J<=g/\TkA W g 0 ts.length ts/\ts.length<=cap:=by
 rcases f.2 with⟨_,c⟩|⟨g,cap,av,rfl,R,aS,aa,_,b7,ba⟩
 ·omega
 have aJ:g<W.heap.size:=by grind
 have aB:∀k j,k<ts.length->j<3->W.cell? _=(tkc _)[j]?:=λk j O hj=>by
  rw[cell_of_row W g _ _ _ _ aS,<-Array.getElem?_toList]
  have:(av.toList.take (ts.length*3))[k*3+j]? =(tkF ts)[k*3+j]?:=by rw[ba]
  rw[List.getElem?_take_of_lt xaa]at this
  rw[this]
  exact Gu _ k j O hj
 refine⟨g,_,rfl,R,⟨rfl,aJ,λk O=>?_,λk O=>?_,λk O=>?_⟩,aa⟩
 ·rw[Nat.zero_add];exact aB k 0 O xaa
 ·rw[Nat.zero_add];exact aB k 1 O xaa
 rw[Nat.zero_add];exact aB k 2 O xaa
theorem Nz:(prog.info? 119).map (λi=>(i.zero,i.size,i.bytes))=some (some (.agg #[.string ⟨#[]⟩,hA 0,.string ⟨#[]⟩]),3,40):=by kernel_rfl
theorem wY:∃bW,prog.info? 119=some bW/\bW.zero=some (.agg #[.string ⟨#[]⟩,hA 0,.string ⟨#[]⟩])/\bW.size=3/\bW.bytes=40:=by
 have h:=Nz;simp_all
theorem zh(w:World)(k T):∀j u,(tkc k)[j]? =some u->(w.alloc (.cells #[eN k.sym,hA k.pos,eN k.text] T)).cell? ((⟨w.heap.size,0,none⟩:Addr).add j)=some u:=by
 intro j u h;rw[jG,Nat.zero_add,yav];match j,h with
 |0,h=>exact h
 |1,h=>exact h
 |2,h=>exact h
theorem oe(w)(aG:o.guard=none)(s x)
  (ho:o.op=.call {callee:=.builtin .append,args:=#[s,x],argTypes:=#[115,115]})
  (J) (v) (ts) (au:a.eval s=v) (a6:TR w J v ts)
  (ak) (k) (an:a.eval x=.slice (some ak) 1 1) (z:∀j u,(tkc k)[j]? =some u->w.cell? (ak.add j)=some u)
  (f:ts.length+1<=1000000) (ae:J<=w.heap.size)
  (h:∀g cap n B,n=(ts++[k]).length->TR B J (hz g n cap) (ts++[k])->Chg (λb=>v.ownBlock=some b) w B->(v.ownBlock=some g\/g=w.heap.size)->wpList prog bz Q rest (a.put o.dst (hz g n cap)) B):wpList prog bz Q (o::rest) a w:=by
 obtain⟨bW,hi,b4,b3,b0⟩:=wY;refine wpList_append_lies w aG s x _ ho J 119 _ _ 3 _ underlying115 hi b4 b3 b0 rfl xab v _ _ au a6 _ 1 1 _ an rfl z ?_ xab (by unfold maxLen;omega) xaa ae _ rfl ?_
 ·intro u aB;simp[tkc]at aB;rcases aB with rfl|rfl|rfl<;>rfl
 intro g cap B F N h3 _;have e:ts.length+1=(ts++[k]).length:=by grind
 rw[e]at F⊢;refine h g _ _ _ rfl ?_ (gh N) h3;unfold TR;rw[J4,J5];exact F
theorem Ce{W}(aT:w.heap.size<=J)(k:Kept 0 0 w W)(f:TR W J v ts)(c:Chg (λb=>v.ownBlock=some b) W I):Kept 0 0 w I:=
 Chg.kept k c (λ_ hi=>yao aT (f.blk hi).1)
theorem Gv(w g off n cap t)(f:TxS w g off n t)(ad:n<=100000)(u:n<=cap):
  Calls prog 73 #[.slice (some ⟨g,off,none⟩) n cap] w λe B=>∃v,e=.returned v/\TR B w.heap.size v (jk t)/\Kept 0 0 w B:=by
 have HF:E (∀W,Kept 0 0 w W->_):=λW k=>f.keep k;have ao:E _:=FW w g _ n cap t f 0 xaa xaa;have bB:E _:=f.len;have be:E (skM t 0<=n):=by show _<=_;rw[<-f.len];exact wS t 0 yae
 clear f;obtain⟨A,a2⟩:∃A,A=jk t:=⟨_,rfl⟩
 rw[<-a2];have bl:E ([]++kr t _=A):=a2.symm;clear a2;go_enter func73,ntmps73;go_wp2_with (go_at_call 96;refine yaj ao.o ?_;rintro e aA ⟨rfl,X⟩;obtain rfl:=X.symm);go_loopw [3,4] (λv S W=>∃(k:Nat) (i:List Tok),k<=n/\i.length<=k/\S=hA k/\E (TR W w.heap.size v i)/\E (Kept 0 0 w W)/\E (i++kr t k=A)) (λ_ S _=>n-(intOf S).toNat)
 case atStart=>exact⟨_,_,be.o,yae,rfl,TR.nil _ _,Kept.refl 0 0 w,bl⟩
 case round=>
  obtain⟨k,i,O,p,rfl,K,aI,bd⟩:=hrel;by_cases aG:k<n
  ·have q:k<t.length:=by rw[bB.o];exact aG
   have ar:E _:=Nr _ g _ n _ t (HF.o _ aI.o) k aG xaa u;have av:E (k<nxE t k/\nxE t k<=n/\nxE t k<=skM t _/\skM t _<=n):=⟨tu q,by rw[<-bB.o];exact FU q,pE _ _,by rw[<-bB.o];exact wS t _ (FU q)⟩
   have l:E ((nxT t k).sym=[]->i++[nxT t k]=A):=λh=>by rw[<-bd.o,Do q h]
   have j:E ((nxT t k).sym≠[]->(i++[nxT t k])++kr t (skM t (nxE t k))=A):=λh=>by rw[<-bd.o,FV q h];simp
   unfold NxO iR at ar;generalize nxT t k=C at ar l j;have cp:E _:=λW aj=>FW W g _ n cap t (HF.o W aj) _ av.o.2.1 xaa;generalize nxE t k=ne at ar av j cp;generalize skM t _=y at av j cp;have m:E _:=λag:World=>zh ag C 119;obtain⟨aO,ps,bv⟩:=C;simp only at ar l j m;clear bd q
   go_wp2_with (first
    |(go_at_call 97;refine yaj ar.o ?_;rintro e ag ⟨rfl,ak⟩)
    |(at_builtin;refine oe _ rfl _ _ rfl _ _ _ rfl ((K.o.keep ak).keep ((ez 0 0 _ _).trans (ez 0 0 _ _))) _ ⟨aO,ps,bv⟩ rfl ?c1 ?c2 ?c3 ?_)
    |fail)
   case c1=>
    have bp:=m.o (ag.alloc (.cells #[eN aO,hA ps,eN bv] 119));rw[show(ag.alloc _).heap.size=ag.heap.size+1 by simp]at bp;exact bp
   case c2=>omega
   case c3=>have:=aI.o.size;have:=ak.size;simp;omega
   intro g9 cap9 n9 bj aw bM aN b6;have R1:E _:=bM;have af:=(aI.o.trans ak).trans ((ez 0 0 _ (.cells #[eN aO,hA ps,eN bv] 119)).trans (ez 0 0 _ (.cells #[eN aO,hA ps,eN bv] 119)));have R2:E _:=Ce yad af ((K.o.keep ak).keep ((ez 0 0 _ _).trans (ez 0 0 _ _))) aN
   have r:bj.cell? ⟨ag.heap.size,0,none⟩=some (eN aO):=by
    rw[aN.cell yag (λc=>by have:=(K.o.blk c).2;have:=ak.size;simp at*;omega),(ez 0 0 _ _).cell xac xaa,yav];rfl
   clear bM aN b6 aw af;cases au:(aO==[])
   ·have bL:aO≠[]:=by intro c;rw[c]at au;simp at au
    have R3:E _:=j.o bL;have ck:E _:=cp.o _ R2.o;have ca:(i++[(⟨aO,ps,bv⟩:Tok)]).length=i.length+1:=by simp
    clear bL;go_wp2_with (go_at_call 96;refine yaj ck.o ?_;rintro e am ⟨rfl,X⟩;obtain rfl:=X.symm);go_roundw
    case rel=>exact⟨_,_,av.o.2.2.2,by rw[ca];have:=av.o;omega,rfl,R1,R2,R3⟩
    case measure=>simp[intOf];have:=av.o;omega
   have aZ:aO=[]:=by simpa using au
   have R3:E _:=l.o aZ;rw[R3.o]at R1;clear aZ;go_wp2_with fail;go_ret;exact⟨_,rfl,R1.o,R2.o⟩
  rw[Dn (hL bB.o aG),List.append_nil]at bd;obtain rfl:=bd.o;go_wp2_with fail;go_ret;exact⟨_,rfl,K.o,aI.o⟩
def WB(W:World)(B:Nat)(v:Value)(ss:List (List UInt8)):Prop:=W.ownsRow B 9 1 v ss.length (ss.map λl=>eN l)
theorem WB.keep{W}(f:WB W J v ss)(k:Kept 0 0 W I):WB I J v ss:=eO f k
theorem WB.blk{W}(f:WB W J v ss)(h:v.ownBlock=some g):J<=g/\g<W.heap.size:=eH f h
theorem J6:(prog.info? 9).map (λi=>(i.zero,i.size,i.bytes))=some (some (.string ⟨#[]⟩),1,16):=by kernel_rfl
theorem uN:∃bW,prog.info? 9=some bW/\bW.zero=some (.string ⟨#[]⟩)/\bW.size=1/\bW.bytes=16:=by
 have h:=J6;simp_all
def WC(w:World)(a:Addr)(ss:List (List UInt8)):Prop:=∀j x,ss[j]? =some x->w.cell? (a.add j)=some (eN x)
theorem WC.news{a}(h:WC w a ss):∀j u,(ss.map λl=>eN l)[j]? =some u->w.cell? (a.add j)=some u:=by
 intro j u aB;rw[List.getElem?_map]at aB;cases e:ss[j]? with
 |none=>grind
 |some x=>rw[e]at aB;cases aB;exact h j x e
theorem WB.at_{W}(f:WB W J v ss)(h:0<ss.length):∃g cap,v=hz g ss.length cap/\J<=g/\g<W.heap.size/\WC W ⟨g,0,none⟩ ss/\ss.length<=cap:=by
 have ah:=f;rcases f.2 with⟨_,c⟩|⟨g,cap,av,e,R,aS,aa,_,b7,ba⟩
 ·omega
 have aJ:g<W.heap.size:=by grind
 refine⟨g,_,e,R,aJ,λj x an=>?_,aa⟩;subst e;exact World.ownsRow.cells ah rfl j _ (by grind)
theorem tG(w)(aG:o.guard=none)(s x)
  (ho:o.op=.call {callee:=.builtin .append,args:=#[s,x],argTypes:=#[127,127]})
  (J) (v) (ss) (au:a.eval s=v) (a6:WB w J v ss)
  (ak) (m c) (bJ) (an:a.eval x=.slice (some ak) m c) (af:bJ.length=m) (z:WC w ak bJ)
  (am:0<m) (f:ss.length+m<=1000000) (ae:J<=w.heap.size)
  (h:∀g cap n B,n=(ss++bJ).length->WB B J (hz g n cap) (ss++bJ)->Chg (λb=>v.ownBlock=some b) w B->(v.ownBlock=some g\/g=w.heap.size)->wpList prog bz Q rest (a.put o.dst (hz g n cap)) B):wpList prog bz Q (o::rest) a w:=by
 obtain⟨bW,hi,b4,b3,b0⟩:=uN;refine wpList_append_lies w aG s x _ ho J 9 _ _ 1 _ underlying127 hi b4 b3 b0 rfl xab v _ _ au a6 _ m c _ an (by grind) z.news ?_ am (by unfold maxLen;omega) xaa ae _ rfl ?_
 ·intro u aB;obtain⟨x,_,rfl⟩:=List.mem_map.1 aB;rfl
 intro g cap B F N h3 _;have e:ss.length+m=(ss++bJ).length:=by grind
 rw[e]at F⊢;refine h g _ _ _ rfl ?_ (gh N) h3;unfold WB;grind
