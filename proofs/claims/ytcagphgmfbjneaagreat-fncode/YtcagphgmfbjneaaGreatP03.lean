import Derived.Test.YtcagphgmfbjneaaGreatP02
namespace Go.Proofs.Z
open Tryz
set_option maxRecDepth 1000000
set_option maxHeartbeats 0
section
open Go.RowKit Flt
attribute[local go_sem] eE eD eC
variable{xs:List Int}
structure YS(w:World)(a:Option Addr)(n:Nat)(xs:List Int):Prop where
 len:xs.length=n
 lt:∀x∈xs,0<=x/\x<256
 at_:n=0\/∃g off,a=some ⟨g,off,none⟩/\g<w.heap.size/\∀k,k<n->w.cell? ⟨g,off+k,none⟩=some (.int .u8 (xs.getD k 0))
theorem YS.keep{w B a n}(f:YS w a n xs)(k:Kept 0 0 w B):YS B a n xs:=
 ⟨f.len,f.lt,by
  rcases f.at_ with ak|⟨g,off,e,h3,h4⟩
  ·exact .inl ak
  ·exact .inr ⟨g,_,e,yak h3 k.size,λj hj=>by rw[k.cell h3 xaa];grind⟩⟩
theorem sR(h:∀x∈xs,0<=x/\x<256)(k):0<=xs.getD k 0/\xs.getD k 0<256:=by
 rw[yai];by_cases O:k<xs.length
 ·exact xjh
 rw[List.getElem?_eq_none xaa];exact⟨by decide,by decide⟩
theorem MN:(prog.info? 5).map (λi=>(i.zero,i.size,i.bytes))=some (some (.int .u8 0),1,1):=by kernel_rfl
end
section
open Go.RowKit Flt
variable{xs:List Int}{t:List UInt8}{k i j:Nat}{p b:Int}
def dig(c:Int):Bool:=decide (48<=c)&&decide (c<=57)
theorem tR{c}(h:dig c=true):48<=c/\c<=57:=by simp[dig]at h;exact h
theorem xv:dig 46=false:=xab
structure GoodAt(xs:List Int)(p:Int):Prop where
 pos:0<xs.length
 point:∀i,i<xs.length->(xs.getD i 0=46↔(i:Int)=p)
 digit:∀i,i<xs.length->xs.getD i 0≠46->dig (xs.getD i 0)=true
 place:p=-1\/(0<p/\p+1<xs.length)
def xw(xs:List Int):Prop:=∃p,GoodAt xs p
def nst(s:Int×Int×Bool)(c:Int):Int×Int×Bool:=if c=46 then (s.1,s.2.1,true)else (s.1*10+(c-48),if s.2.2 then s.2.1*10 else s.2.1,s.2.2)
def nds(xs:List Int):Int×Int×Bool:=xs.foldl nst (0,1,false)
theorem vI(xs:List Int)(k)(O:k<xs.length):xs.take (k+1)=xs.take k++[xs.getD k 0]:=by
 simp_all
theorem qr(xs:List Int)(k)(O:k<xs.length):nds (xs.take (k+1))=nst (nds (xs.take k)) (xs.getD k 0):=by
 rw[vI _ k O,nds,List.foldl_append];rfl
theorem qt(q)(xs:List Int)(k)(O:k<xs.length):(xs.take (k+1)).countP q=(xs.take k).countP q+if q (xs.getD k 0)then 1 else 0:=by
 rw[vI _ k O,List.countP_append];grind
theorem vJ(xs:List Int)(h:∀i,i<xs.length->xs.getD i 0≠46->dig (xs.getD i 0)=true):∀k,k<=xs.length->
  0<=(nds (xs.take k)).1/\(nds (xs.take k)).1<10 ^ k/\1<=(nds (xs.take k)).2.1/\(nds (xs.take k)).2.1<=10 ^ k
 |0,_=>by simp[nds]
 |k+1,O=>by
  obtain⟨F,h2,h3,h4⟩:=vJ _ h k xaa
  have aQ:(10:Int) ^ (k+1)=10 ^ k*10:=xaa
  rw[qr _ k xaa,aQ]
  unfold nst
  by_cases c:xs.getD k 0=46
  ·grind
  ·rw[h6 c]
   have:=tR (h k xaa c)
   grind
theorem PP(h:k<=16):(10:Int) ^ k<=10000000000000000:=by
 have:(10:Int) ^ k<=10 ^ 16:=by
  have e:((10 ^ k:Nat):Int)<=(10 ^ 16:Nat):=Int.ofNat_le.2 (Nat.pow_le_pow_right xab h);simpa using e
 omega
theorem vK(xs:List Int)(h:∀i,i<xs.length->xs.getD i 0≠46->dig (xs.getD i 0)=true)(k)(O:k<=xs.length)(e:k<=16):
  0<=(nds (xs.take k)).1/\(nds (xs.take k)).1<=10000000000000000/\1<=(nds (xs.take k)).2.1/\(nds (xs.take k)).2.1<=10000000000000000:=by
 obtain⟨F,h2,h3,h4⟩:=vJ _ h k O;have:=PP e;omega
theorem y8(xs:List Int)(h:∀i,i<xs.length->xs.getD i 0≠46->dig (xs.getD i 0)=true):∀k,k<=xs.length->
  (xs.take k).countP dig+(xs.take k).countP (· ==46)=k
 |0,_=>by simp
 |k+1,O=>by
  have N:=y8 _ h k xaa
  grind[qt,xv]
theorem GoodAt.points(h:GoodAt xs p):∀k,k<=xs.length->(xs.take k).countP (· ==46)=if 0<=p/\p<k then 1 else 0
 |0,_=>by grind
 |k+1,O=>by
  rw[qt _ _ k xaa,h.points k xaa]
  by_cases c:xs.getD k 0=46
  ·have:=(h.point k xaa).1 c
   grind
  ·have:¬k=p:=λe=>c ((h.point k xaa).2 e)
   grind
theorem GoodAt.short(h:GoodAt xs p)(aO:xs.countP dig<=15):xs.length<=16:=by
 have F:=y8 _ h.digit _ yad;have h2:=h.points _ yad;grind
theorem GoodAt.behind(h:GoodAt xs p):∀k,k<=xs.length->(nds (xs.take k)).2.2=decide (0<=p/\p<k)
 |0,_=>by rw[yay xaa];rfl
 |k+1,O=>by
  have N:=h.behind k xaa
  rw[qr _ k xaa]
  unfold nst
  by_cases c:xs.getD k 0=46
  ·have:=(h.point k xaa).1 c
   grind
  ·have:¬k=p:=λe=>c ((h.point k xaa).2 e)
   grind
def RN(xs:List Int)(f:Nat)(c:Int):Prop:=
 (¬xw xs/\f=0/\c=2)\/(xw xs/\15<xs.countP dig/\f=0/\c=5)\/
 (xw xs/\xs.countP dig<=15/\f<18446744073709551616/\fb f=fb (cop .quo (floatOfInt .f64 (nds xs).1) (floatOfInt .f64 (nds xs).2.1))/\c=0)
structure Mid(xs:List Int)(k:Nat)(p:Int)(dg:Int):Prop where
 count:dg=((xs.take k).countP dig:Nat)
 point:∀i,i<k->(xs.getD i 0=46↔(i:Int)=p)
 digit:∀i,i<k->xs.getD i 0≠46->dig (xs.getD i 0)=true
 place:p=-1\/(0<=p/\p<k)
theorem Dn(xs):Mid xs 0 (-1) 0:=⟨rfl,λi hi=>by omega,λi hi=>by omega,.inl rfl⟩
theorem Mid.digitStep(h:Mid xs k p b)(O:k<xs.length)(aO:dig (xs.getD k 0)=true):Mid xs (k+1) p (b+1):=by
 have ag:xs.getD k 0≠46:=λe=>by rw[e]at aO;cases aO
 refine⟨?_,?_,?_,?_⟩
 ·rw[qt _ _ k O,aO,h.count];simp
 ·intro i hi;by_cases e:i=k
  ·subst e;refine⟨λc=>absurd c ag,λc=>?_⟩;rcases h.place with q|q<;>omega
  exact h.point i xaa
 ·exact xiv
 rcases h.place with q|q<;>grind
theorem Mid.pointStep(h:Mid xs k p b)(O:k<xs.length)(aO:xs.getD k 0=46)(aQ:p<0):Mid xs (k+1) k b:=by
 refine⟨?_,?_,?_,?_⟩
 ·rw[qt _ _ k O,aO,xv,h.count];simp
 ·intro i hi;by_cases e:i=k
  ·simp_all
  refine⟨λc=>?_,λc=>by omega⟩;have:=(h.point i xaa).1 c;omega
 ·exact xiv
 omega
theorem Mid.bad(h:Mid xs k p b)(O:k<xs.length)(aO:dig (xs.getD k 0)=false)(hb:xs.getD k 0≠46\/0<=p):¬xw xs:=by
 rintro⟨q,g⟩;by_cases c:xs.getD k 0=46
 ·rcases hb with hb|hb
  ·exact hb c
  have af:=(g.point k O).1 c;rcases h.place with ak|ak
  ·omega
  obtain⟨m,rfl⟩:=Int.eq_ofNat_of_zero_le ak.1;have F:=(h.point m xaa).2 rfl;have:=(g.point m xaa).1 F;omega
 have:=g.digit k O c;grind
theorem Mid.good(h:Mid xs xs.length p b)(ak:0<xs.length)(F:p≠0)(h2:p≠(xs.length:Int)-1):GoodAt xs p:=
 ⟨ak,h.point,h.digit,by rcases h.place with q|q<;>omega⟩
theorem Mid.notGood(h:Mid xs xs.length p b)(hb:xs.length=0\/p=0\/p=(xs.length:Int)-1)(ak:0<xs.length->0<=p):¬xw xs:=by
 rintro⟨q,g⟩;have aQ:=g.pos;have:=ak aQ;obtain⟨m,rfl⟩:=Int.eq_ofNat_of_zero_le this;have ao:m<xs.length:=xaa;have F:=(h.point m ao).2 rfl;have:=(g.point m ao).1 F;rcases g.place with q|q<;>omega
def bt(t:List UInt8)(k:Nat):Int:=((t.getD k 0).toNat:Int)
def nZ(x:Int):Bool:=decide (97<=x)&&decide (x<=122)||x==95
def qu(x:Int):Bool:=nZ x||dig x
def Ba(x:Int):Bool:=x==32||x==9||x==13||x==10
def sG(x:Int):Bool:=!(x==10)
def gJ(p:Int->Bool)(t:List UInt8)(j:Nat):Nat:=if j<t.length/\p (bt t j)=true then gJ p t (j+1)else j
termination_by t.length-j
decreasing_by omega
theorem ph{p}(h:¬(j<t.length/\p (bt t j)=true)):gJ p t j=j:=by rw[gJ,h6 h]
theorem xy{p}(F:j<t.length)(h2:p (bt t j)=true):gJ p t j=gJ p t (j+1):=by rw[gJ,h7 ⟨F,h2⟩]
theorem m8(p t j):j<=gJ p t j:=by
 rw[gJ];split
 ·have:=m8 p t (j+1);omega
 omega
termination_by t.length-j
decreasing_by omega
theorem lL(p t j)(h:j<=t.length):gJ p t j<=t.length:=by
 rw[gJ];split
 ·exact lL p t _ xaa
 exact h
termination_by t.length-j
decreasing_by omega
theorem pi{p}(F:j<t.length)(h2:p (bt t j)=true):j<gJ p t j:=by
 grind[xy,m8]
theorem y9{p t}(j):∀k,j<=k->k<gJ p t j->p (bt t k)=true:=by
 intro k F h2;rw[gJ]at h2;split at h2
 ·rename_i c;by_cases e:k=j
  ·grind
  exact y9 _ k xaa h2
 omega
termination_by t.length-j
decreasing_by omega
def skM(t:List UInt8)(i:Nat):Nat:=
 if h:i<t.length then
  if Ba (bt t i)=true then skM t (i+1)
  else if _h2:bt t i=35 then skM t (gJ sG t i)else i
 else i
termination_by t.length-i
decreasing_by
 ·omega
 ·grind[pi,sG]
theorem JM(h:¬i<t.length):skM t i=i:=by rw[skM,dif_neg h]
theorem Do(h:i<t.length)(F:Ba (bt t i)=true):skM t i=skM t (i+1):=by rw[skM,dif_pos h,h7 F]
theorem FC(h:i<t.length)(F:bt t i=35):skM t i=skM t (gJ sG t i):=by
 rw[skM,dif_pos h,h6 (by rw[F];decide),dif_pos F]
theorem FD(h:i<t.length)(F:Ba (bt t i)=false)(h2:bt t i≠35):skM t i=i:=by
 grind[skM]
theorem pR(t i):i<=skM t i:=by
 rw[skM];split
 ·rename_i h;split
  ·have:=pR t (i+1);omega
  split
  ·rename_i h2;have h3:=pi (p:=sG) h (by rw[h2];decide);have:=pR t (gJ sG t i);omega
  omega
 omega
termination_by t.length-i
decreasing_by
 ·omega
 ·omega
theorem xz(t i)(hi:i<=t.length):skM t i<=t.length:=by
 rw[skM];split
 ·rename_i h;split
  ·exact xz t _ xaa
  split
  ·rename_i h2;have h3:=pi (p:=sG) h (by rw[h2];decide);exact xz t _ (lL _ _ _ hi)
  omega
 omega
termination_by t.length-i
decreasing_by
 ·omega
 ·omega
structure Tok where
 sym:List UInt8
 pos:Nat
 text:List UInt8
def ih:Tok:=⟨[],0,[]⟩
def kN(t:List UInt8)(i j:Nat):List UInt8:=(t.drop i).take (j-i)
theorem zd(h:j<=t.length):(kN t i j).length=j-i:=by
 grind[kN]
def gH:List UInt8:=[110,97,109,101]
def ik:List UInt8:=[105,110,116]
def kO:List UInt8:=[100,101,99]
def keysL:List (List UInt8):=[[105,110],[108,101,116],[111,117,116],[100,101,102],[114,101,112,101,97,116],[101,120,112],[115,117,109],[109,97,120],[100,111,116],[115,101,108],[102,105,108,108],[112,105,99,107],[112,117,116],[103,114,97,100],[106,118,112]]
def onesL:List UInt8:=[43,45,42,47,40,41,44,59,58,61]
def mA(s:List UInt8):List UInt8:=if s∈keysL then s else gH
def ll(x:UInt8):List UInt8:=if x∈onesL then[x] else[]
def sH(t:List UInt8)(i:Nat):Nat:=if gJ dig t i+1<t.length/\bt t (gJ dig t i)=46/\dig (bt t (gJ dig t i+1))=true then gJ dig t (gJ dig t i+1)else gJ dig t i
def tS(t:List UInt8)(i:Nat):List UInt8:=if gJ dig t i+1<t.length/\bt t (gJ dig t i)=46/\dig (bt t (gJ dig t i+1))=true then kO else ik
def nxE(t:List UInt8)(i:Nat):Nat:=if nZ (bt t i)=true then gJ qu t i else if dig (bt t i)=true then sH t i else i+1
def nxT(t:List UInt8)(i:Nat):Tok:=
 if nZ (bt t i)=true then⟨mA (kN t i (gJ qu t i)),i,kN t i (gJ qu t i)⟩
 else if dig (bt t i)=true then⟨tS t i,i,kN t i (sH t i)⟩
 else⟨ll (t.getD i 0),i,ll (t.getD i 0)⟩
theorem JN(h:i<t.length)(aO:dig (bt t i)=true):i<sH t i:=by
 grind[sH,m8,gJ]
theorem JO(h:i<t.length):sH t i<=t.length:=by
 grind[lL,sH]
theorem tT(h:i<t.length):i<nxE t i:=by
 grind[nxE,pi,qu,JN]
theorem FE(h:i<t.length):nxE t i<=t.length:=by
 grind[nxE,lL,JO]
def kL(t:List UInt8)(i:Nat):List Tok:=
 if _h:i<t.length then
  if (nxT t i).sym=[] then[nxT t i]else nxT t i::kL t (skM t (nxE t i))
 else[]
termination_by t.length-i
decreasing_by
 grind[tT,pR]
theorem Dp(h:¬i<t.length):kL t i=[]:=by rw[kL,dif_neg h]
theorem Dq(h:i<t.length)(F:(nxT t i).sym=[]):kL t i=[nxT t i]:=by rw[kL,dif_pos h,h7 F]
theorem FF(h:i<t.length)(F:(nxT t i).sym≠[]):kL t i=nxT t i::kL t (skM t (nxE t i)):=by rw[kL,dif_pos h,h6 F]
theorem vL(t i):(kL t i).length<=t.length-i:=by
 rw[kL];split
 ·rename_i h;split
  ·simp;omega
  have F:=tT h;have h2:=pR t (nxE t i);have h3:=vL t (skM t (nxE t i));grind
 simp
termination_by t.length-i
decreasing_by omega
def jq(t:List UInt8):List Tok:=kL t (skM t 0)
theorem qw(t):(jq t).length<=t.length:=by
 grind[vL,jq]
theorem lr(c w):Calls prog 110 #[.int .u8 c] w λe B=>e=.returned (.bool (dig c))/\B=w:=by
 by_cases F:48<=c
 ·have e:dig c=decide (c<=57):=by unfold dig;rw[decide_eq_true F];rfl
  exact xim
 have e:dig c=false:=by unfold dig;rw[yay F];rfl
 have t:=yay F;exact xim
theorem ze(w a cap):
  Calls prog 98 #[.slice a 0 cap] w λe B=>e=.returned (.tuple #[.float .f64 0,h1 2])/\Drawn w B:=by
 go_enter func98,ntmps98;go_wp2_with fail;refine wp_loop_rounds 1 ?_;rw[rounds_succ];go_wp2;go_ret2
 exact⟨rfl,Drawn.refl _⟩
theorem Ds(O:k<xs.length)(h:xs.getD k 0=46):(nds (xs.take (k+1))).1=(nds (xs.take k)).1/\(nds (xs.take (k+1))).2.1=(nds (xs.take k)).2.1/\(nds (xs.take (k+1))).2.2=true:=by
 grind[qr,nst]
theorem Dt(O:k<xs.length)(h:xs.getD k 0≠46):(nds (xs.take (k+1))).1=(nds (xs.take k)).1*10+(xs.getD k 0-48)/\(nds (xs.take (k+1))).2.1=(if (nds (xs.take k)).2.2 then (nds (xs.take k)).2.1*10 else (nds (xs.take k)).2.1)/\(nds (xs.take (k+1))).2.2=(nds (xs.take k)).2.2:=by
 grind[qr,nst]
theorem Bb(w g off n cap xs)(ap:xs.length=n)(ak:0<n)(ag:n<=1048576)(hlt:∀x∈xs,0<=x/\x<256)
  (al:∀k,k<n->w.cell? ⟨g,off+k,none⟩=some (.int .u8 (xs.getD k 0))):
  Calls prog 98 #[.slice (some ⟨g,off,none⟩) n cap] w λe B=>∃f c,e=.returned (.tuple #[.float .f64 f,h1 c])/\RN xs f c/\Drawn w B:=by
 have bf:V _:=al;have HX:V _:=ap;have HL:V _:=hlt;clear al ap hlt;go_enter func98,ntmps98;go_wp2_with fail;go_loopw [4,5,6] (λer u S W=>∃(k:Nat) (p b:Int),k<=n/\er=h1 p/\u=h1 b/\S=h1 k/\V (Mid xs k p b)/\(0<=b/\b<=k/\-1<=p/\p<n)/\Drawn w W) (λ_ _ S _=>n-(intOf S).toNat)
 case atStart=>exact⟨0,_,0,yae,rfl,rfl,rfl,Dn _,⟨by omega,by omega,by omega,by omega⟩,Drawn.refl _⟩
 case round=>
  obtain⟨k,p,b,O,rfl,rfl,rfl,bJ,⟨ax,ab,Q,J⟩,bE⟩:=hrel;by_cases hlt:k<n
  ·have c1:wr.cell? ⟨g,off+k,none⟩=some (.int .u8 (xs.getD k 0)):=by rw[bE.cell];exact bf.o k hlt
   have HD:V _:=lr (xs.getD k 0) wr;have y:k<xs.length:=i1 HX.o hlt
   cases t:dig (xs.getD k 0)
   ·by_cases l:xs.getD k 0=46
    ·by_cases aQ:p<0
     ·have R:V _:=bJ.o.pointStep y l aQ;rw[l]at c1 HD;rw[xv]at HD;clear t l bJ;exact xhs
     have R:V (RN _ 0 2):=.inl ⟨bJ.o.bad y t (.inr xaa),rfl,rfl⟩;have T:=aQ;rw[l]at c1 HD;rw[xv]at HD;exact xgm
    have R:V (RN _ 0 2):=.inl ⟨bJ.o.bad y t (.inl l),rfl,rfl⟩;have a9:=yan l;rw[t]at HD;generalize xs.getD k 0=x at c1 HD a9;exact xgm
   have R:V _:=bJ.o.digitStep y t;rw[t]at HD;generalize xs.getD k 0=x at c1 HD;clear t bJ;exact xhs
  obtain rfl:k=n:=xaa;have aG:Mid xs xs.length p b:=i1 HX.o bJ.o
  by_cases Z:p=0
  ·have R:V (RN _ 0 2):=.inl ⟨aG.notGood (.inr (.inl Z)) (λ_=>by omega),rfl,rfl⟩;subst Z;clear bJ aG;go_wp2;go_ret2
   exact⟨0,2,rfl,R.o,bE⟩
  by_cases r:p=k-1
  ·have R:V (RN _ 0 2):=.inl ⟨aG.notGood (.inr (.inr (i1 HX.o r))) (λ_=>by omega),rfl,rfl⟩;have aS:=yan Z;have a9:(p==k-1)=true:=by grind
   clear bJ aG;go_wp2;go_ret2
   exact⟨0,2,rfl,R.o,bE⟩
  have br:=aG.good (i1 HX.o ak) Z (i1 HX.o r)
  have K:b=(xs.countP dig:Nat):=by
   have:=aG.count;rw[yap yad]at this;exact this
  have aS:=yan Z;have a9:=yan r;have bl:((k:Int)==0)=false:=yan xaa;by_cases I:15<b
  ·have R:V (RN _ 0 5):=.inr (.inl ⟨⟨p,br⟩,by omega,rfl,rfl⟩);clear bJ aG br K;go_wp2;go_ret2
   exact⟨0,5,rfl,R.o,bE⟩
  have z:=br.short xaa;have bv:V _:=br;have F:V (xs.countP dig<=15):=by show _<=_;omega
  have P:k<=16:=by rw[HX.o]at z;exact z
  clear bJ aG br K z;go_wp2_with fail;go_loopw [7,8,9] (λnv u S W=>∃(j:Nat) (N D:Int),j<=k/\nv=h1 N/\u=h1 D/\S=h1 j/\V (N=(nds (xs.take j)).1/\D=(nds (xs.take j)).2.1)/\Drawn w W) (λ_ _ S _=>k-(intOf S).toNat)
  case atStart=>exact⟨0,0,1,yae,rfl,rfl,rfl,⟨rfl,rfl⟩,bE⟩
  case round=>
   obtain⟨j,N,D,hj,rfl,rfl,rfl,a,d⟩:=hrel;obtain⟨U,aV,aa,b1⟩:=vK _ bv.o.digit j (i1 HX.o hj) xaa;rw[<-a.o.1]at U aV;rw[<-a.o.2]at aa b1;by_cases ae:j<k
   ·have c1:wr.cell? ⟨g,off+j,none⟩=some (.int .u8 (xs.getD j 0)):=by rw[d.cell];exact bf.o j ae
    have m:j<xs.length:=i1 HX.o ae
    by_cases v:j=p
    ·have l:=(bv.o.point j m).2 v
     have R:V (N=(nds (xs.take (j+1))).1/\D=(nds (xs.take (j+1))).2.1):=by
      obtain⟨ay,aB,_⟩:=Ds m l;exact⟨a.o.1.trans ay.symm,a.o.2.trans aB.symm⟩
     have H:(j !=p)=false:=by simp[v]
     clear a c1;go_wp2;go_roundw;exact⟨j+1,N,D,by omega,rfl,rfl,by go_num,R,d⟩;simp[intOf];omega
    have l:xs.getD j 0≠46:=λc=>v ((bv.o.point j m).1 c);have aO:=tR (bv.o.digit j m l);obtain⟨ay,aB,_⟩:=Dt m l;rw[bv.o.behind j xaa]at aB;have H:(j !=p)=true:=by simp[v]
    by_cases h:0<=p/\p<j
    ·rw[decide_eq_true h]at aB
     have R:V (N*10+(xs.getD j 0-48)=(nds (xs.take (j+1))).1/\D*10=(nds (xs.take (j+1))).2.1):=by
      refine⟨?_,?_⟩
      ·rw[ay,a.o.1]
      rw[aB,a.o.2];rfl
     clear ay aB l a;generalize xs.getD j 0=x at c1 aO R;have C:=h.1;have G:=h.2;go_wp2;go_roundw;exact⟨j+1,_,_,by omega,by go_num,by go_num,by go_num,R,d⟩;simp[intOf];omega
    rw[yay h]at aB
    have R:V (N*10+(xs.getD j 0-48)=(nds (xs.take (j+1))).1/\D=(nds (xs.take (j+1))).2.1):=by
     refine⟨?_,?_⟩
     ·rw[ay,a.o.1]
     rw[aB,a.o.2];rfl
    clear ay aB l a;generalize xs.getD j 0=x at c1 aO R;by_cases C:0<=p
    ·have G:¬(p<j):=λc=>h ⟨C,c⟩;exact xgz
    exact xgz
   obtain rfl:j=k:=xaa;have e:=yap (by rw[HX.o];exact yad);rw[e]at a;have R:V (∀W:World,RN _ (fop _ (floatOfInt _ N) (floatOfInt _ D) W) 0):=λW=>.inr (.inr ⟨⟨p,bv.o⟩,F.o,gF _ _ _ _,by rw[fV,a.o.1,a.o.2],rfl⟩);have aA:=λW=>kr (P:=prog) W 45 (floatOfInt .f64 N) (floatOfInt .f64 D);clear a e;go_wp2;go_ret2
   exact⟨_,0,rfl,R.o _,d.more _⟩
theorem rA(w a n cap xs)(f:YS w a n xs)(ag:n<=1048576):
  Calls prog 98 #[.slice a n cap] w λe B=>∃f c,e=.returned (.tuple #[.float .f64 f,h1 c])/\RN xs f c/\Drawn w B:=by
 rcases Nat.eq_zero_or_pos n with ak|ak
 ·subst ak;have:=List.length_eq_zero_iff.1 f.len;subst this;exact(ze w a _).mono λ_ _ h=>⟨0,2,h.1,.inl ⟨λ⟨_,g⟩=>by have:=g.pos;grind,rfl,rfl⟩,h.2⟩
 rcases f.at_ with h|⟨g,off,rfl,h3,h4⟩
 ·omega
 exact Bb w g _ n _ _ f.len ak ag f.lt h4
end
section
open Go.RowKit Flt
attribute[local go_sem] eE eD eC
structure TxS(w:World)(g off n:Nat)(t:List UInt8):Prop where
 len:t.length=n
 lt:g<w.heap.size
 at_:∀k,k<n->w.cell? ⟨g,off+k,none⟩=some (.int .u8 (bt t k))
theorem TxS.keep{w B g off n t}(h:TxS w g off n t)(k:Kept 0 0 w B):TxS B g off n t:=
 ⟨h.len,yak h.lt k.size,λj hj=>(k.cell (p:=⟨g,off+j,none⟩) h.lt xaa).trans (h.at_ j hj)⟩
theorem oB(c w):Calls prog 119 #[.int .u8 c] w λe B=>e=.returned (.bool (nZ c))/\B=w:=by
 cases F:decide (97<=c)
 ·have e:nZ c=(c==95):=by unfold nZ;rw[F];rfl
  exact xfr
 cases h2:decide (c<=122)
 ·have e:nZ c=(c==95):=by unfold nZ;rw[F,h2];rfl
  exact xfr
 have e:nZ c=true:=by unfold nZ;rw[F,h2];rfl
 exact xfr
theorem FG(w g off n cap t)(f:TxS w g off n t)(i)(hi:i<=n)(ag:n<=1000000):
  Calls prog 107 #[.slice (some ⟨g,off,none⟩) n cap,h1 i] w λe B=>e=.returned (h1 (skM t i:Nat))/\B=w:=by
 have aD:V _:=f;obtain⟨E,bU⟩:∃E,E=skM t i:=⟨_,rfl⟩
 rw[<-bU];have HE:V _:=bU.symm;clear f bU;go_enter func107,ntmps107;go_wp2_with fail;go_loopw [1] (λS W=>W=w/\∃k:Nat,k<=n/\S=h1 k/\V (skM t k=E)) (λS _=>n-(intOf S).toNat)
 case atStart=>exact⟨rfl,i,hi,rfl,HE⟩
 case round=>
  obtain⟨rfl,k,O,rfl,aG⟩:=hrel;by_cases hlt:k<n
  ·have c1:=aD.o.at_ k hlt;have a:V (k<t.length):=by show _<_;rw[aD.o.len];exact hlt
   by_cases hb:Ba (bt t k)=true
   ·have R:V _:=(Do a.o hb).symm.trans aG.o;unfold Ba at hb;generalize bt t k=x at c1 hb;cases aS:(x==32)
    ·cases a9:(x==9)
     ·cases bV:(x==13)
      ·have cj:(x==10)=true:=by simpa[aS,a9,bV] using hb
       exact xdd
      exact xdd
     exact xdd
    exact xdd
   have y:Ba (bt t k)=false:=by simpa using hb
   by_cases b:bt t k=35
   ·have HR:V _:=(FC a.o b).symm.trans aG.o;have bv:V (k<gJ sG t k/\gJ sG t k<=t.length):=⟨pi a.o (by rw[b];decide),lL _ _ _ (Nat.le_of_lt a.o)⟩
    obtain⟨E2,l⟩:∃E2,E2=gJ sG t k:=⟨_,rfl⟩
    rw[<-l]at HR bv;have a6:V _:=l.symm;rw[b]at c1;clear l hb y b aG;go_wp2_with fail;go_loopw [1] (λS W=>W=wr/\∃j:Nat,j<=n/\S=h1 j/\V (gJ sG t j=E2)) (λS _=>n-(intOf S).toNat)
    case atStart=>exact⟨rfl,k,O,rfl,a6⟩
    case round=>
     rename World=>W0
     obtain⟨rfl,j,hj,rfl,m⟩:=hrel;by_cases cz:j<n
     ·have c2:=aD.o.at_ j cz;have d:V (j<t.length):=by show _<_;rw[aD.o.len];exact cz
      cases cC:(bt t j==10)
      ·have R:V _:=(xy d.o (by unfold sG;rw[cC];rfl)).symm.trans m.o;generalize bt t j=x at c2 cC;have dT:(x !=10)=true:=by unfold bne;rw[cC];rfl
       clear cC;go_wp2;exact xhm
      have R:V _:=(ph (λh=>by have:=h.2;unfold sG at this;rw[cC]at this;cases this)).symm.trans m.o;obtain rfl:=R.o;generalize bt t j=x at c2 cC;have dT:(x !=10)=false:=by unfold bne;rw[cC];rfl
      clear cC;exact xha
     have R:V _:=(ph (λh=>ix aD.o.len)).symm.trans m.o;obtain rfl:=R.o;exact xha
   have R:V _:=(FD a.o y b).symm.trans aG.o;obtain rfl:=R.o;unfold Ba at y;have bl:(bt t k==35)=false:=by simpa using b
   generalize bt t k=x at c1 y bl;simp only[Bool.or_eq_false_iff]at y;obtain⟨⟨⟨aS,a9⟩,bV⟩,cj⟩:=y;clear b hb;go_wp2;go_ret;exact⟨rfl,rfl⟩
  have R:V _:=(JM (i1 aD.o.len hlt)).symm.trans aG.o;obtain rfl:=R.o;go_wp2;go_ret;exact⟨rfl,rfl⟩
end
section
open Go.RowKit Flt
variable{s x p y z:List UInt8}{l c t o:Tok}{n:Nat}{ts us:List Tok}{r:List (List UInt8)}
def im:List UInt8:=[83,84,77,84,83]
def lw:List UInt8:=[80,65,82,65,77,83]
def gq:List UInt8:=[77,79,82,69,80,65,82,65,77,83]
def gI:List UInt8:=[69,88,80,82]
def fK:List UInt8:=[77,79,82,69,84,69,82,77,83]
def jY:List UInt8:=[84,69,82,77]
def fE:List UInt8:=[77,79,82,69,85,78,65,82,89]
def qx:List UInt8:=[67,65,76,76]
def nW:List UInt8:=[65,82,71,83]
def gQ:List UInt8:=[77,79,82,69,65,82,71,83]
def lH:List UInt8:=[85,78,65,82,89]
def kP(s:List UInt8):List (List UInt8):=
 if s=[45] then[[45],lH] else
 if s=[110,97,109,101] then[[110,97,109,101],qx] else
 if s=[40] then[[40],gI,[41]] else
 if s=[101,120,112]\/s=[115,117,109] then[s,[40],gI,[41]] else
 if s=[109,97,120]\/s=[100,111,116] then[s,[40],gI,[44],gI,[41]] else
 if s=[115,101,108] then[s,[40],gI,[44],gI,[44],gI,[41]] else
 if s=[102,105,108,108]\/s=[112,105,99,107] then[s,[40],gI,[44],[105,110,116],[41]] else
 if s=[112,117,116] then[s,[40],gI,[44],[105,110,116],[44],[105,110,116],[41]] else
 if s=[103,114,97,100] then[s,[40],gI,[44],[110,97,109,101],[41]] else
 if s=[106,118,112] then[s,[40],gI,[44],[110,97,109,101],[44],gI,[41]] else
 if s=[100,101,99] then[[100,101,99]] else
 [[105,110,116]]
def fY(p s:List UInt8):List (List UInt8):=
 if p=im then (if s=[105,110] then[[105,110],[110,97,109,101],[58],[105,110,116],[59],im]else if s=[108,101,116] then[[108,101,116],[110,97,109,101],[61],gI,[59],im]else if s=[114,101,112,101,97,116] then[[114,101,112,101,97,116],[105,110,116],[110,97,109,101],[61],gI,[59],im]else if s=[100,101,102] then[[100,101,102],[110,97,109,101],[40],lw,[41],[61],gI,[59],im]else if s=[111,117,116] then[[111,117,116],gI,[59],im] else[]) else
 if p=lw then (if s=[110,97,109,101] then[[110,97,109,101],gq] else[]) else
 if p=gq then (if s=[44] then[[44],[110,97,109,101],gq] else[]) else
 if p=gI then ([jY,fK]) else
 if p=fK then (if s=[43]\/s=[45] then[s,jY,fK] else[]) else
 if p=jY then ([lH,fE]) else
 if p=fE then (if s=[42]\/s=[47] then[s,lH,fE] else[]) else
 if p=qx then (if s=[40] then[[40],nW,[41]] else[]) else
 if p=nW then (if s=[41] then[] else[gI,gQ]) else
 if p=gQ then (if s=[44] then[[44],gI,gQ] else[]) else
 kP s
def jE(s:List UInt8):Bool:=decide (1<s.length)&&(decide (65<=bt s 0)&&decide (bt s 0<=90))
def wt(s:List UInt8):Nat:=if s=nW then 7 else if s=gI then 5 else if s=jY then 3 else 1
def wts:List (List UInt8)->Nat
 |[]=>0
 |s::r=>wt s+wts r
def Bd:List (List UInt8)->Bool
 |[]=>false
 |p::_=>jE p
def mu(st:List (List UInt8)):Nat:=if Bd st=true then wts st+1 else 0
theorem Be(s):1<=wt s:=by
 unfold wt;grind
def UL:List (List UInt8):=[[45],[110,97,109,101],[40],[101,120,112],[115,117,109],[109,97,120],[100,111,116],[115,101,108],[102,105,108,108],[112,105,99,107],[112,117,116],[103,114,97,100],[106,118,112],[100,101,99]]
def RL:List (List UInt8):=[[105,110],[108,101,116],[114,101,112,101,97,116],[100,101,102],[111,117,116],[110,97,109,101],[44],[43],[45],[42],[47],[40],[41]]
def PQ:List (List UInt8):=[im,lw,gq,gI,fK,jY,fE,qx,nW,gQ]
theorem xA(h:¬s∈UL):kP s=[[105,110,116]]:=by
 simp_all[UL,kP]
theorem FH(s)(h:¬p∈PQ):fY p s=kP s:=by
 simp_all[PQ,fY]
def ruN(p:List UInt8):List (List UInt8):=if p=gI then[jY,fK]else if p=jY then[lH,fE]else if p=nW then[gI,gQ] else[]
theorem FI{p s}(h:p∈PQ)(aw:¬s∈RL):fY p s=ruN p:=by
 simp only[PQ,RL,List.mem_cons,List.not_mem_nil,or_false,not_or]at h aw;rcases h with rfl|rfl|rfl|rfl|rfl|rfl|rfl|rfl|rfl|rfl<;>simp[fY,aw]<;>rfl
theorem vM(s r):Bd (kP s++r)=false:=by
 by_cases h:s∈UL
 ·simp only[UL,List.mem_cons,List.not_mem_nil,or_false]at h;rcases h with rfl|rfl|rfl|rfl|rfl|rfl|rfl|rfl|rfl|rfl|rfl|rfl|rfl|rfl<;>rfl
 rw[xA h];rfl
theorem tU(p s r):fY p s=[]\/Bd (fY p s++r)=false\/(p=gI/\fY p s=[jY,fK])\/(p=jY/\fY p s=[lH,fE])\/(p=nW/\fY p s=[gI,gQ]):=by
 by_cases h:p∈PQ
 ·by_cases aw:s∈RL
  ·simp only[PQ,RL,List.mem_cons,List.not_mem_nil,or_false]at h aw;rcases h with rfl|rfl|rfl|rfl|rfl|rfl|rfl|rfl|rfl|rfl<;>rcases aw with rfl|rfl|rfl|rfl|rfl|rfl|rfl|rfl|rfl|rfl|rfl|rfl|rfl<;>simp[fY,im,lw,gq,gI,fK,jY,fE,qx,nW,gQ,Bd,jE,bt]
  rw[FI h aw];clear aw;simp only[PQ,List.mem_cons,List.not_mem_nil,or_false]at h;rcases h with rfl|rfl|rfl|rfl|rfl|rfl|rfl|rfl|rfl|rfl<;>grind[ruN]
 grind[FH,vM]
theorem Cp(p s r)(h:jE p=true):mu (fY p s++r)<mu (p::r):=by
 have e:mu (p::r)=wt p+wts r+1:=by unfold mu Bd;rw[h7 h];rfl
 rw[e];rcases tU p s r with c|c|⟨rfl,c⟩|⟨rfl,c⟩|⟨rfl,c⟩
 ·rw[c,List.nil_append];grind[Be,mu]
 ·grind[mu]
 all_goals
  rw[c]
  unfold mu
  split
  ·show wt _+(wt _+wts r)+1<_
   have F:wt jY=3:=xab
   have h2:wt fK=1:=xab
   have h3:wt gI=5:=xab
   have h4:wt lH=1:=xab
   have bK:wt fE=1:=xab
   have b3:wt gQ=1:=xab
   have bZ:wt nW=7:=xab
   omega
  ·omega
def gY(s:List UInt8)(st:List (List UInt8)):List (List UInt8):=
 match st with
 |[]=>[]
 |p::r=>if _h:jE p=true then gY s (fY p s++r)else p::r
termination_by mu st
decreasing_by exact Cp p s r _h
theorem nd(s):gY s []=[]:=by rw[gY]
theorem iJ(h:jE p=true):gY s (p::r)=gY s (fY p s++r):=by rw[gY,dif_pos h]
theorem mb(h:jE p=false):gY s (p::r)=p::r:=by rw[gY,dif_neg (by rw[h];simp)]
def JP:List UInt8:=[101,110,100]
def ft(n:Nat):List Tok->List (List UInt8)->Int
 |[],st=>if gY JP st=[]then -1 else (n:Int)
 |t::ts,st=>match gY t.sym st with
  |[]=>(t.pos:Int)
  |p::r=>if p=t.sym then ft n ts r else (t.pos:Int)
theorem vN(s):1<=(kP s).length/\(kP s).length<=8:=by
 by_cases h:s∈UL
 ·revert s;decide
 rw[xA h];decide
theorem zh(p s):(fY p s).length<=9:=by
 by_cases h:p∈PQ
 ·by_cases aw:s∈RL
  ·exact(show ∀p∈PQ,∀s∈RL,(fY p s).length<=9 by decide) p h s aw
  rw[FI h aw];revert p;decide
 rw[FH s h];have:=vN s;omega
inductive Ex where
 |num (t:Tok)
 |name (t:Tok)
 |neg (o:Tok) (e:Ex)
 |bin (o:Tok) (a b:Ex)
 |call (t:Tok) (es:List Ex)
 |key1 (k:Tok) (e:Ex)
 |key2 (k:Tok) (a b:Ex)
 |key3 (k:Tok) (a b c:Ex)
 |keyN (k:Tok) (e:Ex) (n:Tok)
 |put (k:Tok) (e:Ex) (i n:Tok)
 |grad (k:Tok) (e:Ex) (x:Tok)
 |jvp (k:Tok) (e:Ex) (x:Tok) (d:Ex)
def zi:List UInt8:=[101,120,112]
def FJ:List UInt8:=[115,117,109]
def Bf:List UInt8:=[109,97,120]
def JQ:List UInt8:=[100,111,116]
def zj:List UInt8:=[115,101,108]
def vO:List UInt8:=[102,105,108,108]
def qy:List UInt8:=[112,105,99,107]
def Du:List UInt8:=[112,117,116]
def Cq:List UInt8:=[103,114,97,100]
def JR:List UInt8:=[106,118,112]
inductive Pr:Nat->List Ex->List Tok->Prop
 |up01 {e:Ex}{ts:List Tok}:Pr 0 [e] ts->Pr 1 [e] ts
 |up12 {e:Ex}{ts:List Tok}:Pr 1 [e] ts->Pr 2 [e] ts
 |add {a b:Ex}{ts us:List Tok}{o:Tok}:Pr 2 [a] ts->(o.sym=[43]\/o.sym=[45])->Pr 1 [b] us->Pr 2 [.bin o a b] (ts++o::us)
 |mul {a b:Ex}{ts us:List Tok}{o:Tok}:Pr 1 [a] ts->(o.sym=[42]\/o.sym=[47])->Pr 0 [b] us->Pr 1 [.bin o a b] (ts++o::us)
 |neg {e:Ex}{ts:List Tok}{o:Tok}:o.sym=[45]->Pr 0 [e] ts->Pr 0 [.neg o e] (o::ts)
 |num {t:Tok}:(t.sym=ik\/t.sym=kO)->Pr 0 [.num t] [t]
 |name {t:Tok}:t.sym=gH->Pr 0 [.name t] [t]
 |par {e:Ex}{ts:List Tok}{l r:Tok}:l.sym=[40]->Pr 2 [e] ts->r.sym=[41]->Pr 0 [e] (l::(ts++[r]))
 |call0 {t l r:Tok}:t.sym=gH->l.sym=[40]->r.sym=[41]->Pr 0 [.call t []] [t,l,r]
 |call {es:List Ex}{ts:List Tok}{t l r:Tok}:t.sym=gH->l.sym=[40]->Pr 3 es ts->r.sym=[41]->Pr 0 [.call t es] (t::l::(ts++[r]))
 |arg1 {e:Ex}{ts:List Tok}:Pr 2 [e] ts->Pr 3 [e] ts
 |argM {es:List Ex}{e:Ex}{ts us:List Tok}{c:Tok}:Pr 3 es ts->c.sym=[44]->Pr 2 [e] us->Pr 3 (es++[e]) (ts++c::us)
 |key1 {e:Ex}{ts:List Tok}{k l r:Tok}:(k.sym=zi\/k.sym=FJ)->l.sym=[40]->Pr 2 [e] ts->r.sym=[41]->Pr 0 [.key1 k e] (k::l::(ts++[r]))
 |key2 {a b:Ex}{ts us:List Tok}{k l c r:Tok}:(k.sym=Bf\/k.sym=JQ)->l.sym=[40]->Pr 2 [a] ts->c.sym=[44]->Pr 2 [b] us->r.sym=[41]->Pr 0 [.key2 k a b] (k::l::(ts++c::(us++[r])))
 |key3 {a b d:Ex}{ts us ws:List Tok}{k l c c2 r:Tok}:k.sym=zj->l.sym=[40]->Pr 2 [a] ts->c.sym=[44]->Pr 2 [b] us->c2.sym=[44]->Pr 2 [d] ws->r.sym=[41]->Pr 0 [.key3 k a b d] (k::l::(ts++c::(us++c2::(ws++[r]))))
 |keyN {e:Ex}{ts:List Tok}{k l c n r:Tok}:(k.sym=vO\/k.sym=qy)->l.sym=[40]->Pr 2 [e] ts->c.sym=[44]->n.sym=ik->r.sym=[41]->Pr 0 [.keyN k e n] (k::l::(ts++[c,n,r]))
 |put {e:Ex}{ts:List Tok}{k l c i c2 n r:Tok}:k.sym=Du->l.sym=[40]->Pr 2 [e] ts->c.sym=[44]->i.sym=ik->c2.sym=[44]->n.sym=ik->r.sym=[41]->Pr 0 [.put k e i n] (k::l::(ts++[c,i,c2,n,r]))
 |grad {e:Ex}{ts:List Tok}{k l c x r:Tok}:k.sym=Cq->l.sym=[40]->Pr 2 [e] ts->c.sym=[44]->x.sym=gH->r.sym=[41]->Pr 0 [.grad k e x] (k::l::(ts++[c,x,r]))
 |jvp {e d:Ex}{ts us:List Tok}{k l c x c2 r:Tok}:k.sym=JR->l.sym=[40]->Pr 2 [e] ts->c.sym=[44]->x.sym=gH->c2.sym=[44]->Pr 2 [d] us->r.sym=[41]->Pr 0 [.jvp k e x d] (k::l::(ts++c::x::c2::(us++[r])))
structure OpS where
 i:Nat
 d:Int
 at_:Int
 b:Bool
def i8(s:List UInt8):Bool:=s==gH||s==ik||s==kO||s==[41]
def i9(x y:List UInt8)(q:OpS)(t:Tok):OpS:=
 if t.sym=[40] then⟨q.i+1,q.d+1,q.at_,i8 t.sym⟩
 else if t.sym=[41] then⟨q.i+1,q.d-1,q.at_,i8 t.sym⟩
 else⟨q.i+1,q.d,if q.d=0/\q.b=true/\(t.sym=x\/t.sym=y)then (q.i:Int)else q.at_,i8 t.sym⟩
def jI(x y:List UInt8)(q:OpS)(ts:List Tok):OpS:=ts.foldl (i9 x y) q
theorem lS(x y q a b):jI x y q (a++b)=jI x y (jI x y q a) b:=by unfold jI;grind
theorem gL(x y q t b):jI x y q (t::b)=jI x y (i9 x y q t) b:=rfl
theorem rB(x y q):jI x y q []=q:=rfl
theorem neL(h:s=x)(ap:x≠z:=by decide):s≠z:=h ▸ ap
theorem neO(h:s=x\/s=y)(ap:x≠z:=by decide)(bp:y≠z:=by decide):s≠z:=by grind
theorem xB{q}(h:t.sym=[40]):i9 x y q t=⟨q.i+1,q.d+1,q.at_,false⟩:=by unfold i9;rw[h7 h,h];rfl
theorem xC{q}(h:t.sym=[41]):i9 x y q t=⟨q.i+1,q.d-1,q.at_,true⟩:=by unfold i9;rw[h6 (neL h),h7 h,h];rfl
theorem oC{q}(F:t.sym≠[40])(h2:t.sym≠[41])(h3:¬(q.d=0/\q.b=true/\(t.sym=x\/t.sym=y))):i9 x y q t=⟨q.i+1,q.d,q.at_,i8 t.sym⟩:=by grind[i9]
theorem Bg{q}(F:t.sym≠[40])(h2:t.sym≠[41])(h3:q.d=0/\q.b=true/\(t.sym=x\/t.sym=y)):i9 x y q t=⟨q.i+1,q.d,q.i,i8 t.sym⟩:=by grind[i9]
def cm(d:Int):List Tok->Option Int
 |[]=>some d
 |t::ts=>if t.sym=[40]then cm (d+1) ts else if t.sym=[41]then cm (d-1) ts else if t.sym=[44]/\d=0 then none else cm d ts
theorem Bh:∀(a b:List Tok) (d e:Int),cm d a=some e->cm d (a++b)=cm e b
 |[],_,_,_,h=>by cases h;rfl
 |t::a,b,d,e,h=>by grind[cm,Bh a b]
def dpB:Nat->List Tok->Option Nat
 |n,[]=>some n
 |n,t::ts=>if t.sym=[40]then dpB (n+1) ts else if t.sym=[41]then (if n=0 then none else dpB (n-1) ts)else dpB n ts
def rY(b:Bool)(ts:List Tok):Bool:=ts.foldl (λ_ t=>i8 t.sym) b
theorem Bi:∀(a b:List Tok) (n m:Nat),dpB n a=some m->dpB n (a++b)=dpB m b
 |[],_,_,_,h=>by cases h;rfl
 |t::a,b,n,m,h=>by grind[dpB,Bi a b]
theorem MO:∀(ts:List Tok) (n m:Nat) (d:Int),d=n+1->dpB n ts=some m->cm d ts=some ((m:Int)+1)
 |[],_,_,_,aO,h=>by cases h;rw[aO];rfl
 |t::a,n,m,d,aO,h=>by grind[dpB,cm,MO a]
theorem qz{x y}:∀(ts:List Tok) (n m i:Nat) (d a:Int) (b:Bool),d=n+1->dpB n ts=some m->jI x y ⟨i,d,a,b⟩ ts=⟨i+ts.length,m+1,a,rY b ts⟩
 |[],_,_,_,_,_,_,aO,h=>by cases h;rw[aO];rfl
 |t::ts,n,m,i,d,a,b,aO,h=>by
  have e:i+(ts.length+1)=i+1+ts.length:=xaa
  rw[gL,yaq,e]
  unfold i9
  by_cases F:t.sym=[40]
  ·rw[dpB,h7 F]at h
   rw[h7 F]
   exact qz _ _ _ _ _ _ _ (by simp only;omega) h
  ·by_cases h2:t.sym=[41]
   ·rw[dpB,h6 F,h7 h2]at h
    rw[h6 F,h7 h2]
    exact qz _ (n-1) _ _ _ _ _ (by grind) (by grind)
   ·rw[dpB,h6 F,h6 h2]at h
    rw[h6 F,h6 h2,h6 (by grind)]
    exact qz _ _ _ _ _ _ _ aO h
theorem zk{x y}:∀(ts:List Tok) (n m i:Nat) (d a:Int) (b:Bool),d=n->dpB n ts=some m->∃am,jI x y ⟨i,d,a,b⟩ ts=⟨i+ts.length,m,am,rY b ts⟩
 |[],_,_,_,_,a,_,aO,h=>by cases h;rw[aO];exact⟨a,rfl⟩
 |t::ts,n,m,i,d,a,b,aO,h=>by
  have e:i+(ts.length+1)=i+1+ts.length:=xaa
  rw[gL,yaq,e]
  unfold i9
  by_cases F:t.sym=[40]
  ·rw[dpB,h7 F]at h
   rw[h7 F]
   exact zk _ _ _ _ _ _ _ (by simp only;omega) h
  ·by_cases h2:t.sym=[41]
   ·rw[dpB,h6 F,h7 h2]at h
    rw[h6 F,h7 h2]
    exact zk _ (n-1) _ _ _ _ _ (by grind) (by grind)
   ·rw[dpB,h6 F,h6 h2]at h
    rw[h6 F,h6 h2]
    exact zk _ _ _ _ _ _ _ aO h
def Bl(ts:List Tok):Prop:=∀n,dpB n ts=some n
theorem tV:Bl []:=λ_=>rfl
theorem nf{a b}(az:Bl a)(hb:Bl b):Bl (a++b):=λn=>(Bi _ _ _ _ (az n)).trans (hb n)
theorem io{b}(F:t.sym≠[40])(h2:t.sym≠[41])(hb:Bl b):Bl (t::b):=λn=>by rw[dpB,h6 F,h6 h2];exact hb n
structure BxT(n:Nat)(ts:List Tok):Prop where
 bl:Bl ts
 la:∀b,rY b ts=true
 cf:n<=2->cm 0 ts=some 0
 un:n=0->∀(x y:List UInt8) (i:Nat) (a:Int),jI x y ⟨i,0,a,false⟩ ts=⟨i+ts.length,0,a,true⟩
 te:n=1->∀(i:Nat) (a:Int),jI [43] [45] ⟨i,0,a,false⟩ ts=⟨i+ts.length,0,a,true⟩
theorem FK(F:t.sym≠[40])(h2:t.sym≠[41])(h3:t.sym≠[44])(h4:i8 t.sym=true):BxT 0 [t]:=
 ⟨io F h2 tV,λ_=>h4,λ_=>by grind[cm],λ_ x y i a=>by rw[gL,oC F h2 (λc=>by grind),h4];rfl,nofun⟩
theorem FL{r}(ai:l.sym=[40])(ao:Bl ts)(aF:r.sym=[41]):BxT 0 (l::(ts++[r])):=by
 have e:i8 r.sym=true:=by rw[aF];decide
 refine⟨λn=>?_,λb=>?_,λ_=>?_,λ_ x y i a=>?_,nofun⟩
 ·rw[dpB,h7 ai,Bi _ _ _ _ (ao _)];grind[dpB]
 ·rw[rY,List.foldl_cons,List.foldl_append];exact e
 ·have c:=MO _ 0 0 (0+1) rfl (ao 0);rw[cm,h7 ai,Bh _ _ _ _ c];grind[cm]
 rw[gL,xB ai,lS];show jI x y (jI x y ⟨i+1,0+1,a,false⟩ ts) [r]=_;rw[qz _ 0 0 _ (0+1) _ _ rfl (ao 0),gL,xC aF,rB];simp;omega
theorem ng{k r}(F:k.sym≠[40])(h2:k.sym≠[41])(h3:k.sym≠[44])(ai:l.sym=[40])(ao:Bl ts)(aF:r.sym=[41]):BxT 0 (k::l::(ts++[r])):=by
 have h:=FL ai ao aF;refine⟨io F h2 h.bl,λb=>h.la (i8 k.sym),λ_=>?_,λ_ x y i a=>?_,nofun⟩
 ·rw[cm,h6 F,h6 h2,h6 (by grind)];exact h.cf xab
 rw[gL,oC F h2 (λc=>by grind),gL,xB ai,lS];show jI x y (jI x y ⟨i+1+1,0+1,a,false⟩ ts) [r]=_;rw[qz _ 0 0 _ (0+1) _ _ rfl (ao 0),gL,xC aF,rB];simp;omega
theorem FM(F:BxT n ts)(h2:Bl us/\(∀b,rY b us=true)/\cm 0 us=some 0)(ag:n<=2)(a1:o.sym≠[40])(J:o.sym≠[41])(a3:o.sym≠[44]):Bl (ts++o::us)/\(∀b,rY b (ts++o::us)=true)/\cm 0 (ts++o::us)=some 0:=
 ⟨nf F.bl (io a1 J h2.1),λb=>by rw[rY,List.foldl_append];exact h2.2.1 _,by rw[Bh _ _ _ _ (F.cf ag),cm,h6 a1,h6 J,h6 (by grind)];exact h2.2.2⟩
theorem qA{es}(h:Pr n es ts):BxT n ts:=by
 induction h with
 |up01 _ G=>exact⟨G.bl,G.la,λ_=>G.cf xab,nofun,λ_=>G.un rfl _ _⟩
 |up12 _ G=>exact⟨G.bl,G.la,λ_=>G.cf xab,nofun,nofun⟩
 |arg1 _ G=>exact⟨G.bl,G.la,λh=>absurd h xab,nofun,nofun⟩
 |argM _ al _ g d=>exact⟨nf g.bl (io (neL al) (neL al) d.bl),λb=>by rw[rY,List.foldl_append];exact d.la _,λh=>absurd h xab,nofun,nofun⟩
 |add _ ho _ g d=>
  obtain⟨F,h2,h3⟩:=FM g ⟨d.bl,d.la,d.cf xab⟩ xab (neO ho) (neO ho) (neO ho);exact⟨F,h2,λ_=>h3,nofun,nofun⟩
 |@mul _ _ ts us o _ ho _ g d=>
  obtain⟨F,h2,h3⟩:=FM g ⟨d.bl,d.la,d.cf xab⟩ xab (neO ho) (neO ho) (neO ho);refine⟨F,h2,λ_=>h3,nofun,λ_ i a=>?_⟩;have u:¬(o.sym=[43]\/o.sym=[45]):=by grind
  have ab:i8 o.sym=false:=by rcases ho with c|c<;>rw[c]<;>decide
  rw[lS,g.te rfl,gL,oC (neO ho) (neO ho) (λc=>u c.2.2),ab,d.un rfl];simp;omega
 |@neg e ts o ho _ G=>
  have ab:i8 o.sym=false:=by rw[ho];decide
  refine⟨io (neL ho) (neL ho) G.bl,λb=>G.la _,λ_=>by rw[cm,h6 (neL ho),h6 (neL ho),h6 (by grind)];exact G.cf xab,λ_ x y i a=>?_,nofun⟩;rw[gL,oC (neL ho) (neL ho) (λc=>by grind),ab,G.un rfl];simp;omega
 |num h=>exact FK (neO h) (neO h) (neO h) (by rcases h with c|c<;>rw[c]<;>decide)
 |name h=>exact FK (neL h) (neL h) (neL h) (by rw[h];decide)
 |par ai _ aF G=>exact FL ai G.bl aF
 |call0 h ai aF=>exact ng (neL h) (neL h) (neL h) ai tV aF
 |call h ai _ aF G=>exact ng (neL h) (neL h) (neL h) ai G.bl aF
 |key1 h ai _ aF G=>exact ng (neO h) (neO h) (neO h) ai G.bl aF
 |key2 h ai _ al _ aF cq cc=>simpa using ng (neO h) (neO h) (neO h) ai (nf cq.bl (io (neL al) (neL al) cc.bl)) aF
 |key3 h ai _ al _ aO _ aF cq cc ds=>simpa using ng (neL h) (neL h) (neL h) ai (nf cq.bl (io (neL al) (neL al) (nf cc.bl (io (neL aO) (neL aO) ds.bl)))) aF
 |keyN h ai _ al ag aF G=>simpa using ng (neO h) (neO h) (neO h) ai (nf G.bl (io (neL al) (neL al) (io (neL ag) (neL ag) tV))) aF
 |put h ai _ al hi aO ag aF G=>simpa using ng (neL h) (neL h) (neL h) ai (nf G.bl (io (neL al) (neL al) (io (neL hi) (neL hi) (io (neL aO) (neL aO) (io (neL ag) (neL ag) tV))))) aF
 |grad h ai _ al ag aF G=>simpa using ng (neL h) (neL h) (neL h) ai (nf G.bl (io (neL al) (neL al) (io (neL ag) (neL ag) tV))) aF
 |jvp h ai _ al ag aO _ aF cq cc=>simpa using ng (neL h) (neL h) (neL h) ai (nf cq.bl (io (neL al) (neL al) (io (neL ag) (neL ag) (io (neL aO) (neL aO) cc.bl)))) aF
def opM(x y:List UInt8)(ts:List Tok):Int:=(jI x y ⟨0,0,-1,false⟩ ts).at_
theorem mB{e}(h:Pr 0 [e] ts):opM x y ts=-1:=by
 unfold opM;rw[(qA h).un rfl]
theorem FN{e}(h:Pr 1 [e] ts):opM [43] [45] ts=-1:=by
 unfold opM;rw[(qA h).te rfl]
theorem Ns{a b}(F:Pr 2 [a] ts)(ho:o.sym=[43]\/o.sym=[45])(h2:Pr 1 [b] us):opM [43] [45] (ts++o::us)=(ts.length:Int):=by
 unfold opM;obtain⟨am,e⟩:=zk (x:=[43]) (y:=[45]) _ 0 0 0 0 (-1) false rfl ((qA F).bl 0);rw[lS,e,(qA F).la,gL,Bg (by grind) (by grind) ⟨rfl,rfl,ho⟩,show i8 _=false by rcases ho with c|c<;>rw[c]<;>decide];exact(congrArg _ ((qA h2).te rfl _ _)).trans xac
theorem Nt{a b}(F:Pr 1 [a] ts)(ho:o.sym=[42]\/o.sym=[47])(h2:Pr 0 [b] us):opM [42] [47] (ts++o::us)=(ts.length:Int):=by
 unfold opM;obtain⟨am,e⟩:=zk (x:=[42]) (y:=[47]) _ 0 0 0 0 (-1) false rfl ((qA F).bl 0);rw[lS,e,(qA F).la,gL,Bg (by grind) (by grind) ⟨rfl,rfl,ho⟩,show i8 _=false by rcases ho with c|c<;>rw[c]<;>decide];exact(congrArg _ ((qA h2).un rfl _ _ _ _)).trans xac
theorem jF{es}(h:Pr n es ts):n<=2->cm 0 ts=some 0:=(qA h).cf
structure SpS where
 d:Int
 cur:List Tok
 ou:List (List Tok)
def iq(q:SpS)(t:Tok):SpS:=
 if t.sym=[40] then⟨q.d+1,q.cur++[t],q.ou⟩
 else if t.sym=[41] then⟨q.d-1,q.cur++[t],q.ou⟩
 else if t.sym=[44]/\q.d=0 then⟨0,[],q.ou++[q.cur]⟩
 else⟨q.d,q.cur++[t],q.ou⟩
def me(q:SpS)(ts:List Tok):SpS:=ts.foldl iq q
theorem pl(q a b):me q (a++b)=me (me q a) b:=by unfold me;grind
theorem kQ(q t b):me q (t::b)=me (iq q t) b:=rfl
theorem qB:∀(ts:List Tok) (d e:Int) (ad:List Tok) (out:List (List Tok)),cm d ts=some e->me ⟨d,ad,out⟩ ts=⟨e,ad++ts,out⟩
 |[],d,e,ad,out,h=>by cases h;show(⟨d,ad,out⟩:SpS)=_;grind
 |t::ts,d,e,ad,out,h=>by
  rw[kQ]
  by_cases F:t.sym=[40]
  ·rw[cm,h7 F]at h
   rw[show iq _ t=⟨_,ad++[t],out⟩ by unfold iq;rw[h7 F],qB _ _ _ _ _ h,List.append_assoc];rfl
  ·by_cases h2:t.sym=[41]
   ·rw[cm,h6 F,h7 h2]at h
    rw[show iq _ t=⟨_,ad++[t],out⟩ by unfold iq;rw[h6 F,h7 h2],qB _ _ _ _ _ h,List.append_assoc];rfl
   ·by_cases h3:t.sym=[44]/\d=0
    ·grind[cm]
    ·have h':cm d ts=some e:=by grind[cm]
     rw[show iq _ t=⟨d,ad++[t],out⟩ by grind[iq],qB _ _ _ _ _ h',List.append_assoc];rfl
theorem tW(h:c.sym=[44])(ad out):iq ⟨0,ad,out⟩ c=⟨0,[],out++[ad]⟩:=by
 grind[iq]
def fL(ts:List Tok):List (List Tok):=if ts=[] then[]else (me ⟨0,[],[]⟩ ts).ou++[(me ⟨0,[],[]⟩ ts).cur]
theorem tX(F:t.sym≠[40])(h2:t.sym≠[41])(h3:t.sym≠[44]):cm 0 [t]=some 0:=by grind[cm]
theorem MP{es}(h:Pr n es ts):ts≠[]:=by
 induction h<;>simp_all<;>grind
theorem Nu(bc:ts≠[])(h:cm 0 ts=some 0):fL ts=[ts]:=by
 simp_all[fL,qB]
theorem Bj(h:cm 0 ts=some 0)(al:c.sym=[44])(h2:cm 0 us=some 0):fL (ts++c::us)=[ts,us]:=by
 simp_all[fL,pl,qB,kQ,tW]
theorem Bk{au c2}(h:cm 0 ts=some 0)(al:c.sym=[44])(h2:cm 0 us=some 0)(aC:c2.sym=[44])(h3:cm 0 au=some 0):fL (ts++c::(us++c2::au))=[ts,us,au]:=by
 simp_all[fL,pl,qB,kQ,tW]
theorem Bm{es}(h:Pr n es ts):n=3->∃(d:List (List Tok)) (l:List Tok),me ⟨0,[],[]⟩ ts=⟨0,l,d⟩/\(d++[l]).length=es.length/\∀i,i<es.length->Pr 2 [es.getD i (.num ih)] ((d++[l]).getD i []):=by
 induction h with
 |@arg1 e ts F _=>
  intro _;refine⟨[],ts,?_,rfl,λi hi=>?_⟩
  ·rw[qB _ 0 0 _ _ (jF F xab)];rfl
  simp_all
 |@argM es e ts us c F al h2 G _=>
  intro _;obtain⟨d,l,af,bg,ah⟩:=G rfl;refine⟨_,us,?_,by simp at bg⊢;omega,λi hi=>?_⟩
  ·rw[pl,af,kQ,tW al,qB _ 0 0 _ _ (jF h2 xab)];rfl
  grind
 |_=>omega
theorem Bn{es}(h:Pr 3 es ts):(fL ts).length=es.length/\∀i,i<es.length->Pr 2 [es.getD i (.num ih)] ((fL ts).getD i []):=by
 grind[Bm,fL,MP]
structure TxA(w:World)(a:Option Addr)(n:Nat)(t:List UInt8):Prop where
 len:t.length=n
 at_:0<n->∃g off,a=some ⟨g,off,none⟩/\TxS w g off n t
theorem TxA.keep{w B a t}(h:TxA w a n t)(k:Kept 0 0 w B):TxA B a n t:=
 ⟨h.len,λag=>by obtain⟨g,off,e,F⟩:=h.at_ ag;exact⟨g,_,e,F.keep k⟩⟩
theorem Nv(t i j):(kN t i j).length<=t.length:=by
 grind[kN]
theorem FP(t i)(h:i<t.length):(nxT t i).text.length<=t.length:=by
 grind[nxT,Nv,ll]
theorem zl(t i):∀C∈kL t i,C.text.length<=t.length:=by
 intro C ao;rw[kL]at ao;split at ao
 ·rename_i h;split at ao
  ·grind[FP]
  rcases List.mem_cons.1 ao with c|c
  ·subst c;exact FP t i h
  exact zl t _ _ c
 cases ao
termination_by t.length-i
decreasing_by
 grind[tT,pR]
theorem JS(t j):((jq t).getD j ih).text.length<=t.length:=by
 by_cases h:j<(jq t).length
 ·refine zl t (skM t 0) _ ?_;rw[yai,yam h];exact List.getElem_mem _
 rw[yai,List.getElem?_eq_none xaa];exact yae
end
section
open Go.ChangeShapes Go.WideShapes Go.ChangeAt Go.RowKit Flt
theorem Dv:prog.cellsOf 5=1:=by kernel_rfl
theorem zm:laidOutB prog=true:=by kernel_rfl
theorem tY{ad enc w base u g a n cap}{d:DataW ad}{ps}
  (h:DataW.Trod enc prog w base u g 22 (.slice a n cap) d ps):n<=cap/\∃xs,YS w a n xs:=by
 obtain⟨B,ba⟩:=h;rcases Deep.open_slice1 underlying22 Dv ba with⟨aG,_⟩|⟨x,l,c,m,r,Vaa,D,z,aG,_,ai,_,ao,_,az⟩
 ·simp[Value.cells]at aG;obtain⟨rfl,rfl,rfl⟩:=aG;exact⟨yad,[],rfl,by simp,.inl rfl⟩
 simp[Value.cells]at aG;obtain⟨rfl,rfl,rfl⟩:=aG;refine⟨ai,?_⟩;have y:n<=m:=by grind
 have Y:∀i,i<n->∃b:Int,w.cell? _=some _/\0<=b/\b<256:=λi hi=>by
  obtain⟨F,h2⟩:=az i xaa
  obtain⟨b,e,X⟩:=DataW.trod_int underlying5 h2
  simp at e
  have hb:0<=b/\b<256:=by
   have:=X.2
   simp[Lit.wf,IntKind.min,IntKind.max,IntKind.signed,IntKind.bits]at this
   omega
  exact⟨b,by rw[F,e],hb.1,hb.2⟩
 obtain⟨f,t⟩:=Deep.choose_lt Y;refine⟨(List.range n).map f,by simp,?_,?_⟩
 ·simp_all
 rcases Nat.eq_zero_or_pos n with ak|ak
 ·exact .inl ak
 obtain⟨b,off,v⟩:=x;have j:v=none:=by simpa[Addr.add] using World.cell?_spot (t 0 ak).1
 subst j
 have h2:∀k,k<n->w.cell? ⟨b,off+k,_⟩=some (.int _ (((List.range n).map f).getD k 0)):=λk O=>by
  have F:=(t k O).1
  rw[show((List.range n).map f).getD k 0=f k by grind]
  by_cases bE:k=0
  ·subst bE;simpa[Addr.add] using F
  ·simpa[Addr.add,bE] using F
 have hb:=World.block_lt_of_cell? (h:=h2 0 ak);grind
