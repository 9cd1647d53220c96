import Derived.Test.YtbhmhdllnfkjhaaGreatP02
namespace Go.Proofs.Z
open Tryz
set_option maxRecDepth 1000000
set_option maxHeartbeats 0
section
open Go.RowKit Flt
attribute[local go_sem] eG eE eD
structure YS(w:World)(a:Option Addr)(n:Nat)(xs:List Int):Prop where
 len:xs.length=n
 lt:∀x∈xs,0<=x/\x<256
 at_:n=0\/∃g off,a=some ⟨g,off,none⟩/\g<w.heap.size/\∀k,k<n->w.cell? ⟨g,off+k,none⟩=some (.int .u8 (xs.getD k 0))
theorem YS.keep{w I a n xs}(f:YS w a n xs)(k:Kept 0 0 w I):YS I a n xs:=
 ⟨f.len,f.lt,by
  rcases f.at_ with ae|⟨g,off,e,h3,a0⟩
  ·exact .inl ae
  ·exact .inr ⟨g,_,e,yak h3 k.size,λj hj=>by rw[k.cell h3 xaa];grind⟩⟩
end
section
open Go.RowKit Flt
variable{xs:List Int}{t:List UInt8}{k i j:Nat}{p r:Int}
def dig(c:Int):Bool:=decide (48<=c)&&decide (c<=57)
theorem tP{c}(h:dig c=true):48<=c/\c<=57:=by simp[dig]at h;exact h
theorem xg:dig 46=false:=xab
structure GoodAt(xs:List Int)(p:Int):Prop where
 pos:0<xs.length
 point:∀i,i<xs.length->(xs.getD i 0=46↔(i:Int)=p)
 digit:∀i,i<xs.length->xs.getD i 0≠46->dig (xs.getD i 0)=true
 place:p=-1\/(0<p/\p+1<xs.length)
def xh(xs:List Int):Prop:=∃p,GoodAt xs p
def nst(s:Int×Int×Bool)(c:Int):Int×Int×Bool:=if c=46 then (s.1,s.2.1,true)else (s.1*10+(c-48),if s.2.2 then s.2.1*10 else s.2.1,s.2.2)
def nds(xs:List Int):Int×Int×Bool:=xs.foldl nst (0,1,false)
theorem vu(xs:List Int)(k)(N:k<xs.length):xs.take (k+1)=xs.take k++[xs.getD k 0]:=by
 simp_all
theorem qJ(xs:List Int)(k)(N:k<xs.length):nds (xs.take (k+1))=nst (nds (xs.take k)) (xs.getD k 0):=by
 rw[vu _ k N,nds,List.foldl_append];rfl
theorem qK(q)(xs:List Int)(k)(N:k<xs.length):(xs.take (k+1)).countP q=(xs.take k).countP q+if q (xs.getD k 0)then 1 else 0:=by
 rw[vu _ k N,List.countP_append];grind
theorem vw(xs:List Int)(h:∀i,i<xs.length->xs.getD i 0≠46->dig (xs.getD i 0)=true):∀k,k<=xs.length->
  0<=(nds (xs.take k)).1/\(nds (xs.take k)).1<10 ^ k/\1<=(nds (xs.take k)).2.1/\(nds (xs.take k)).2.1<=10 ^ k
 |0,_=>by simp[nds]
 |k+1,N=>by
  obtain⟨B,J,h3,a0⟩:=vw _ h k xaa
  have aK:(10:Int) ^ (k+1)=10 ^ k*10:=xaa
  rw[qJ _ k xaa,aK]
  unfold nst
  by_cases c:xs.getD k 0=46
  ·grind
  ·rw[hF c]
   have:=tP (h k xaa c)
   grind
theorem O6(h:k<=16):(10:Int) ^ k<=10000000000000000:=by
 have:(10:Int) ^ k<=10 ^ 16:=by
  have e:((10 ^ k:Nat):Int)<=(10 ^ 16:Nat):=Int.ofNat_le.2 (Nat.pow_le_pow_right xab h);simpa using e
 omega
theorem vx(xs:List Int)(h:∀i,i<xs.length->xs.getD i 0≠46->dig (xs.getD i 0)=true)(k)(N:k<=xs.length)(c:k<=16):
  0<=(nds (xs.take k)).1/\(nds (xs.take k)).1<=10000000000000000/\1<=(nds (xs.take k)).2.1/\(nds (xs.take k)).2.1<=10000000000000000:=by
 obtain⟨B,J,h3,a0⟩:=vw _ h k N;have:=O6 c;omega
theorem yT(xs:List Int)(h:∀i,i<xs.length->xs.getD i 0≠46->dig (xs.getD i 0)=true):∀k,k<=xs.length->
  (xs.take k).countP dig+(xs.take k).countP (· ==46)=k
 |0,_=>by simp
 |k+1,N=>by
  have Q:=yT _ h k xaa
  grind[qK,xg]
theorem GoodAt.points(h:GoodAt xs p):∀k,k<=xs.length->(xs.take k).countP (· ==46)=if 0<=p/\p<k then 1 else 0
 |0,_=>by grind
 |k+1,N=>by
  rw[qK _ _ k xaa,h.points k xaa]
  by_cases c:xs.getD k 0=46
  ·have:=(h.point k xaa).1 c
   grind
  ·have:¬k=p:=λe=>c ((h.point k xaa).2 e)
   grind
theorem GoodAt.short(h:GoodAt xs p)(G:xs.countP dig<=15):xs.length<=16:=by
 have B:=yT _ h.digit _ yad;have J:=h.points _ yad;grind
theorem GoodAt.behind(h:GoodAt xs p):∀k,k<=xs.length->(nds (xs.take k)).2.2=decide (0<=p/\p<k)
 |0,_=>by rw[yay xaa];rfl
 |k+1,N=>by
  have Q:=h.behind k xaa
  rw[qJ _ k xaa]
  unfold nst
  by_cases c:xs.getD k 0=46
  ·have:=(h.point k xaa).1 c
   grind
  ·have:¬k=p:=λe=>c ((h.point k xaa).2 e)
   grind
def RN(xs:List Int)(f:Nat)(c:Int):Prop:=
 (¬xh xs/\f=0/\c=2)\/(xh xs/\15<xs.countP dig/\f=0/\c=5)\/
 (xh xs/\xs.countP dig<=15/\f<18446744073709551616/\fb f=fb (cop .quo (floatOfInt .f64 (nds xs).1) (floatOfInt .f64 (nds xs).2.1))/\c=0)
structure Mid(xs:List Int)(k:Nat)(p:Int)(dg:Int):Prop where
 count:dg=((xs.take k).countP dig:Nat)
 point:∀i,i<k->(xs.getD i 0=46↔(i:Int)=p)
 digit:∀i,i<k->xs.getD i 0≠46->dig (xs.getD i 0)=true
 place:p=-1\/(0<=p/\p<k)
theorem Dn(xs):Mid xs 0 (-1) 0:=⟨rfl,λi hi=>by omega,λi hi=>by omega,.inl rfl⟩
theorem Mid.digitStep(h:Mid xs k p r)(N:k<xs.length)(G:dig (xs.getD k 0)=true):Mid xs (k+1) p (r+1):=by
 have hn:xs.getD k 0≠46:=λe=>by rw[e]at G;cases G
 refine⟨?_,?_,?_,?_⟩
 ·rw[qK _ _ k N,G,h.count];simp
 ·intro i hi;by_cases e:i=k
  ·subst e;refine⟨λc=>absurd c hn,λc=>?_⟩;rcases h.place with q|q<;>omega
  exact h.point i xaa
 ·exact xjl
 rcases h.place with q|q<;>grind
theorem Mid.pointStep(h:Mid xs k p r)(N:k<xs.length)(G:xs.getD k 0=46)(aK:p<0):Mid xs (k+1) k r:=by
 refine⟨?_,?_,?_,?_⟩
 ·rw[qK _ _ k N,G,xg,h.count];simp
 ·intro i hi;by_cases e:i=k
  ·simp_all
  refine⟨λc=>?_,λc=>by omega⟩;have:=(h.point i xaa).1 c;omega
 ·exact xjl
 omega
theorem Mid.bad(h:Mid xs k p r)(N:k<xs.length)(G:dig (xs.getD k 0)=false)(hb:xs.getD k 0≠46\/0<=p):¬xh xs:=by
 rintro⟨q,g⟩;by_cases c:xs.getD k 0=46
 ·rcases hb with hb|hb
  ·exact hb c
  have e1:=(g.point k N).1 c;rcases h.place with ae|ae
  ·omega
  obtain⟨m,rfl⟩:=Int.eq_ofNat_of_zero_le ae.1;have B:=(h.point m xaa).2 rfl;have:=(g.point m xaa).1 B;omega
 have:=g.digit k N c;grind
theorem Mid.good(h:Mid xs xs.length p r)(ae:0<xs.length)(B:p≠0)(J:p≠(xs.length:Int)-1):GoodAt xs p:=
 ⟨ae,h.point,h.digit,by rcases h.place with q|q<;>omega⟩
theorem Mid.notGood(h:Mid xs xs.length p r)(hb:xs.length=0\/p=0\/p=(xs.length:Int)-1)(ae:0<xs.length->0<=p):¬xh xs:=by
 rintro⟨q,g⟩;have aK:=g.pos;have:=ae aK;obtain⟨m,rfl⟩:=Int.eq_ofNat_of_zero_le this;have aq:m<xs.length:=xaa;have B:=(h.point m aq).2 rfl;have:=(g.point m aq).1 B;rcases g.place with q|q<;>omega
def bt(t:List UInt8)(k:Nat):Int:=((t.getD k 0).toNat:Int)
def nY(x:Int):Bool:=decide (97<=x)&&decide (x<=122)||x==95
def qL(x:Int):Bool:=nY x||dig x
def AN(x:Int):Bool:=x==32||x==9||x==13||x==10
def sD(x:Int):Bool:=!(x==10)
def gV(p:Int->Bool)(t:List UInt8)(j:Nat):Nat:=if j<t.length/\p (bt t j)=true then gV p t (j+1)else j
termination_by t.length-j
decreasing_by omega
theorem px{p}(h:¬(j<t.length/\p (bt t j)=true)):gV p t j=j:=by rw[gV,hF h]
theorem xi{p}(B:j<t.length)(J:p (bt t j)=true):gV p t j=gV p t (j+1):=by rw[gV,hG ⟨B,J⟩]
theorem nF(p t j):j<=gV p t j:=by
 rw[gV];split
 ·have:=nF p t (j+1);omega
 omega
termination_by t.length-j
decreasing_by omega
theorem lX(p t j)(h:j<=t.length):gV p t j<=t.length:=by
 rw[gV];split
 ·exact lX p t _ xaa
 exact h
termination_by t.length-j
decreasing_by omega
theorem py{p}(B:j<t.length)(J:p (bt t j)=true):j<gV p t j:=by
 grind[xi,nF]
theorem yU{p t}(j):∀k,j<=k->k<gV p t j->p (bt t k)=true:=by
 intro k B J;rw[gV]at J;split at J
 ·rename_i c;by_cases e:k=j
  ·grind
  exact yU _ k xaa J
 omega
termination_by t.length-j
decreasing_by omega
def skM(t:List UInt8)(i:Nat):Nat:=
 if h:i<t.length then
  if AN (bt t i)=true then skM t (i+1)
  else if _h2:bt t i=35 then skM t (gV sD t i)else i
 else i
termination_by t.length-i
decreasing_by
 ·omega
 ·grind[py,sD]
theorem Js(h:¬i<t.length):skM t i=i:=by rw[skM,dif_neg h]
theorem Do(h:i<t.length)(B:AN (bt t i)=true):skM t i=skM t (i+1):=by rw[skM,dif_pos h,hG B]
theorem FL(h:i<t.length)(B:bt t i=35):skM t i=skM t (gV sD t i):=by
 rw[skM,dif_pos h,hF (by rw[B];decide),dif_pos B]
theorem FM(h:i<t.length)(B:AN (bt t i)=false)(J:bt t i≠35):skM t i=i:=by
 grind[skM]
theorem pY(t i):i<=skM t i:=by
 rw[skM];split
 ·rename_i h;split
  ·have:=pY t (i+1);omega
  split
  ·rename_i J;have h3:=py (p:=sD) h (by rw[J];decide);have:=pY t (gV sD t i);omega
  omega
 omega
termination_by t.length-i
decreasing_by
 ·omega
 ·omega
theorem xl(t i)(hi:i<=t.length):skM t i<=t.length:=by
 rw[skM];split
 ·rename_i h;split
  ·exact xl t _ xaa
  split
  ·rename_i J;have h3:=py (p:=sD) h (by rw[J];decide);exact xl t _ (lX _ _ _ hi)
  omega
 omega
termination_by t.length-i
decreasing_by
 ·omega
 ·omega
structure Tok where
 sym:List UInt8
 pos:Nat
 text:List UInt8
def hJ:Tok:=⟨[],0,[]⟩
def lh(t:List UInt8)(i j:Nat):List UInt8:=(t.drop i).take (j-i)
theorem yV(h:j<=t.length):(lh t i j).length=j-i:=by
 grind[lh]
def gQ:List UInt8:=[110,97,109,101]
def iG:List UInt8:=[105,110,116]
def li:List UInt8:=[100,101,99]
def keysL:List (List UInt8):=[[105,110],[108,101,116],[111,117,116],[100,101,102],[114,101,112,101,97,116],[101,120,112],[115,117,109],[109,97,120],[100,111,116],[115,101,108],[102,105,108,108],[112,105,99,107],[112,117,116],[103,114,97,100],[106,118,112]]
def onesL:List UInt8:=[43,45,42,47,40,41,44,59,58,61]
def mJ(s:List UInt8):List UInt8:=if s∈keysL then s else gQ
def lD(x:UInt8):List UInt8:=if x∈onesL then[x] else[]
def sE(t:List UInt8)(i:Nat):Nat:=if gV dig t i+1<t.length/\bt t (gV dig t i)=46/\dig (bt t (gV dig t i+1))=true then gV dig t (gV dig t i+1)else gV dig t i
def tQ(t:List UInt8)(i:Nat):List UInt8:=if gV dig t i+1<t.length/\bt t (gV dig t i)=46/\dig (bt t (gV dig t i+1))=true then li else iG
def nxE(t:List UInt8)(i:Nat):Nat:=if nY (bt t i)=true then gV qL t i else if dig (bt t i)=true then sE t i else i+1
def nxT(t:List UInt8)(i:Nat):Tok:=
 if nY (bt t i)=true then⟨mJ (lh t i (gV qL t i)),i,lh t i (gV qL t i)⟩
 else if dig (bt t i)=true then⟨tQ t i,i,lh t i (sE t i)⟩
 else⟨lD (t.getD i 0),i,lD (t.getD i 0)⟩
theorem Jt(h:i<t.length)(G:dig (bt t i)=true):i<sE t i:=by
 grind[sE,nF,gV]
theorem Ju(h:i<t.length):sE t i<=t.length:=by
 grind[lX,sE]
theorem tR(h:i<t.length):i<nxE t i:=by
 grind[nxE,py,qL,Jt]
theorem FN(h:i<t.length):nxE t i<=t.length:=by
 grind[nxE,lX,Ju]
def kV(t:List UInt8)(i:Nat):List Tok:=
 if _h:i<t.length then
  if (nxT t i).sym=[] then[nxT t i]else nxT t i::kV t (skM t (nxE t i))
 else[]
termination_by t.length-i
decreasing_by
 grind[tR,pY]
theorem Dp(h:¬i<t.length):kV t i=[]:=by rw[kV,dif_neg h]
theorem Dq(h:i<t.length)(B:(nxT t i).sym=[]):kV t i=[nxT t i]:=by rw[kV,dif_pos h,hG B]
theorem FP(h:i<t.length)(B:(nxT t i).sym≠[]):kV t i=nxT t i::kV t (skM t (nxE t i)):=by rw[kV,dif_pos h,hF B]
theorem vy(t i):(kV t i).length<=t.length-i:=by
 rw[kV];split
 ·rename_i h;split
  ·simp;omega
  have B:=tR h;have J:=pY t (nxE t i);have h3:=vy t (skM t (nxE t i));grind
 simp
termination_by t.length-i
decreasing_by omega
def jC(t:List UInt8):List Tok:=kV t (skM t 0)
theorem qM(t):(jC t).length<=t.length:=by
 grind[vy,jC]
theorem lE(c w):Calls prog 116 #[.int .u8 c] w λe I=>e=.returned (.bool (dig c))/\I=w:=by
 by_cases B:48<=c
 ·have e:dig c=decide (c<=57):=by unfold dig;rw[decide_eq_true B];rfl
  exact xix
 have e:dig c=false:=by unfold dig;rw[yay B];rfl
 have t:=yay B;exact xix
theorem yW(w a cap):
  Calls prog 69 #[.slice a 0 cap] w λe I=>e=.returned (.tuple #[.float .f64 0,hD 2])/\Drawn w I:=by
 go_enter func69,ntmps69;go_wp2_with fail;refine wp_loop_rounds 1 ?_;rw[rounds_succ];go_wp2;go_ret2
 exact⟨rfl,Drawn.refl _⟩
theorem Ds(N:k<xs.length)(h:xs.getD k 0=46):(nds (xs.take (k+1))).1=(nds (xs.take k)).1/\(nds (xs.take (k+1))).2.1=(nds (xs.take k)).2.1/\(nds (xs.take (k+1))).2.2=true:=by
 grind[qJ,nst]
theorem Dt(N:k<xs.length)(h:xs.getD k 0≠46):(nds (xs.take (k+1))).1=(nds (xs.take k)).1*10+(xs.getD k 0-48)/\(nds (xs.take (k+1))).2.1=(if (nds (xs.take k)).2.2 then (nds (xs.take k)).2.1*10 else (nds (xs.take k)).2.1)/\(nds (xs.take (k+1))).2.2=(nds (xs.take k)).2.2:=by
 grind[qJ,nst]
theorem AO(w g off n cap xs)(ak:xs.length=n)(ae:0<n)(hn:n<=1048576)(aC:∀x∈xs,0<=x/\x<256)
  (ad:∀k,k<n->w.cell? ⟨g,off+k,none⟩=some (.int .u8 (xs.getD k 0))):
  Calls prog 69 #[.slice (some ⟨g,off,none⟩) n cap] w λe I=>∃f c,e=.returned (.tuple #[.float .f64 f,hD c])/\RN xs f c/\Drawn w I:=by
 have bc:V _:=ad;have bn:V _:=ak;have HL:V _:=aC;clear ad ak aC;go_enter func69,ntmps69;go_wp2_with fail;go_loopw [4,5,6] (λen T aD W=>∃(k:Nat) (p r:Int),k<=n/\en=hD p/\T=hD r/\aD=hD k/\V (Mid xs k p r)/\(0<=r/\r<=k/\-1<=p/\p<n)/\Drawn w W) (λ_ _ aD _=>n-(intOf aD).toNat)
 case atStart=>exact⟨0,_,0,yae,rfl,rfl,rfl,Dn _,⟨by omega,by omega,by omega,by omega⟩,Drawn.refl _⟩
 case round=>
  obtain⟨k,p,r,N,rfl,rfl,rfl,C,⟨au,H,z,S⟩,bo⟩:=hrel;by_cases aC:k<n
  ·have c1:wr.cell? ⟨g,off+k,none⟩=some (.int .u8 (xs.getD k 0)):=by rw[bo.cell];exact bc.o k aC
   have HD:V _:=lE (xs.getD k 0) wr;have B:k<xs.length:=hO bn.o aC
   cases t:dig (xs.getD k 0)
   ·by_cases l:xs.getD k 0=46
    ·by_cases aK:p<0
     ·have U:V _:=C.o.pointStep B l aK;rw[l]at c1 HD;rw[xg]at HD;clear t l C;exact xhu
     have U:V (RN _ 0 2):=.inl ⟨C.o.bad B t (.inr xaa),rfl,rfl⟩;have aa:=aK;rw[l]at c1 HD;rw[xg]at HD;exact xgl
    have U:V (RN _ 0 2):=.inl ⟨C.o.bad B t (.inl l),rfl,rfl⟩;have aY:=yan l;rw[t]at HD;generalize xs.getD k 0=x at c1 HD aY;exact xgl
   have U:V _:=C.o.digitStep B t;rw[t]at HD;generalize xs.getD k 0=x at c1 HD;clear t C;exact xhu
  obtain rfl:k=n:=xaa;have a0:Mid xs xs.length p r:=hO bn.o C.o
  by_cases ab:p=0
  ·have U:V (RN _ 0 2):=.inl ⟨a0.notGood (.inr (.inl ab)) (λ_=>by omega),rfl,rfl⟩;subst ab;clear C a0;go_wp2;go_ret2
   exact⟨0,2,rfl,U.o,bo⟩
  by_cases u:p=k-1
  ·have U:V (RN _ 0 2):=.inl ⟨a0.notGood (.inr (.inr (hO bn.o u))) (λ_=>by omega),rfl,rfl⟩;have aP:=yan ab;have aY:(p==k-1)=true:=by grind
   clear C a0;go_wp2;go_ret2
   exact⟨0,2,rfl,U.o,bo⟩
  have bv:=a0.good (hO bn.o ae) ab (hO bn.o u)
  have X:r=(xs.countP dig:Nat):=by
   have:=a0.count;rw[yap yad]at this;exact this
  have aP:=yan ab;have aY:=yan u;have bf:((k:Int)==0)=false:=yan xaa;by_cases R:15<r
  ·have U:V (RN _ 0 5):=.inr (.inl ⟨⟨p,bv⟩,by omega,rfl,rfl⟩);clear C a0 bv X;go_wp2;go_ret2
   exact⟨0,5,rfl,U.o,bo⟩
  have F:=bv.short xaa;have aX:V _:=bv;have K:V (xs.countP dig<=15):=by show _<=_;omega
  have Y:k<=16:=by rw[bn.o]at F;exact F
  clear C a0 bv X F;go_wp2_with fail;go_loopw [7,8,9] (λnv T aD W=>∃(j:Nat) (aH D:Int),j<=k/\nv=hD aH/\T=hD D/\aD=hD j/\V (aH=(nds (xs.take j)).1/\D=(nds (xs.take j)).2.1)/\Drawn w W) (λ_ _ aD _=>k-(intOf aD).toNat)
  case atStart=>exact⟨0,0,1,yae,rfl,rfl,rfl,⟨rfl,rfl⟩,bo⟩
  case round=>
   obtain⟨j,aH,D,hj,rfl,rfl,rfl,h,m⟩:=hrel;obtain⟨O,ax,Z,av⟩:=vx _ aX.o.digit j (hO bn.o hj) xaa;rw[<-h.o.1]at O ax;rw[<-h.o.2]at Z av;by_cases y:j<k
   ·have c1:wr.cell? ⟨g,off+j,none⟩=some (.int .u8 (xs.getD j 0)):=by rw[m.cell];exact bc.o j y
    have s:j<xs.length:=hO bn.o y
    by_cases v:j=p
    ·have l:=(aX.o.point j s).2 v
     have U:V (aH=(nds (xs.take (j+1))).1/\D=(nds (xs.take (j+1))).2.1):=by
      obtain⟨aL,aJ,_⟩:=Ds s l;exact⟨h.o.1.trans aL.symm,h.o.2.trans aJ.symm⟩
     have Q:(j !=p)=false:=by simp[v]
     clear h c1;go_wp2;go_roundw;exact⟨j+1,aH,D,by omega,rfl,rfl,by go_num,U,m⟩;simp[intOf];omega
    have l:xs.getD j 0≠46:=λc=>v ((aX.o.point j s).1 c);have G:=tP (aX.o.digit j s l);obtain⟨aL,aJ,_⟩:=Dt s l;rw[aX.o.behind j xaa]at aJ;have Q:(j !=p)=true:=by simp[v]
    by_cases q:0<=p/\p<j
    ·rw[decide_eq_true q]at aJ
     have U:V (aH*10+(xs.getD j 0-48)=(nds (xs.take (j+1))).1/\D*10=(nds (xs.take (j+1))).2.1):=by
      refine⟨?_,?_⟩
      ·rw[aL,h.o.1]
      rw[aJ,h.o.2];rfl
     clear aL aJ l h;generalize xs.getD j 0=x at c1 G U;have J:=q.1;have P:=q.2;go_wp2;go_roundw;exact⟨j+1,_,_,by omega,by go_num,by go_num,by go_num,U,m⟩;simp[intOf];omega
    rw[yay q]at aJ
    have U:V (aH*10+(xs.getD j 0-48)=(nds (xs.take (j+1))).1/\D=(nds (xs.take (j+1))).2.1):=by
     refine⟨?_,?_⟩
     ·rw[aL,h.o.1]
     rw[aJ,h.o.2];rfl
    clear aL aJ l h;generalize xs.getD j 0=x at c1 G U;by_cases J:0<=p
    ·have P:¬(p<j):=λc=>q ⟨J,c⟩;exact xgx
    exact xgx
   obtain rfl:j=k:=xaa;have e:=yap (by rw[bn.o];exact yad);rw[e]at h;have U:V (∀W:World,RN _ (fop _ (floatOfInt _ aH) (floatOfInt _ D) W) 0):=λW=>.inr (.inr ⟨⟨p,aX.o⟩,K.o,gN _ _ _ _,by rw[gu,h.o.1,h.o.2],rfl⟩);have am:=λW=>kK (P:=prog) W 50 (floatOfInt .f64 aH) (floatOfInt .f64 D);clear h e;go_wp2;go_ret2
   exact⟨_,0,rfl,U.o _,m.more _⟩
theorem rA(w a n cap xs)(f:YS w a n xs)(hn:n<=1048576):
  Calls prog 69 #[.slice a n cap] w λe I=>∃f c,e=.returned (.tuple #[.float .f64 f,hD c])/\RN xs f c/\Drawn w I:=by
 rcases Nat.eq_zero_or_pos n with ae|ae
 ·subst ae;have:=List.length_eq_zero_iff.1 f.len;subst this;exact(yW w a _).mono λ_ _ h=>⟨0,2,h.1,.inl ⟨λ⟨_,g⟩=>by have:=g.pos;grind,rfl,rfl⟩,h.2⟩
 rcases f.at_ with h|⟨g,off,rfl,h3,a0⟩
 ·omega
 exact AO w g _ n _ _ f.len ae hn f.lt a0
end
section
open Go.RowKit Flt
attribute[local go_sem] eG eE eD
structure TxS(w:World)(g off n:Nat)(t:List UInt8):Prop where
 len:t.length=n
 lt:g<w.heap.size
 at_:∀k,k<n->w.cell? ⟨g,off+k,none⟩=some (.int .u8 (bt t k))
theorem TxS.keep{w I g off n t}(h:TxS w g off n t)(k:Kept 0 0 w I):TxS I g off n t:=
 ⟨h.len,yak h.lt k.size,λj hj=>(k.cell (p:=⟨g,off+j,none⟩) h.lt xaa).trans (h.at_ j hj)⟩
theorem oG(c w):Calls prog 138 #[.int .u8 c] w λe I=>e=.returned (.bool (nY c))/\I=w:=by
 cases B:decide (97<=c)
 ·have e:nY c=(c==95):=by unfold nY;rw[B];rfl
  exact xfn
 cases J:decide (c<=122)
 ·have e:nY c=(c==95):=by unfold nY;rw[B,J];rfl
  exact xfn
 have e:nY c=true:=by unfold nY;rw[B,J];rfl
 exact xfn
theorem FQ(w g off n cap t)(f:TxS w g off n t)(i)(hi:i<=n)(hn:n<=1000000):
  Calls prog 113 #[.slice (some ⟨g,off,none⟩) n cap,hD i] w λe I=>e=.returned (hD (skM t i:Nat))/\I=w:=by
 have aI:V _:=f;obtain⟨E,ar⟩:∃E,E=skM t i:=⟨_,rfl⟩
 rw[<-ar];have HE:V _:=ar.symm;clear f ar;go_enter func113,ntmps113;go_wp2_with fail;go_loopw [1] (λaD W=>W=w/\∃k:Nat,k<=n/\aD=hD k/\V (skM t k=E)) (λaD _=>n-(intOf aD).toNat)
 case atStart=>exact⟨rfl,i,hi,rfl,HE⟩
 case round=>
  obtain⟨rfl,k,N,rfl,aw⟩:=hrel;by_cases aC:k<n
  ·have c1:=aI.o.at_ k aC;have ad:V (k<t.length):=by show _<_;rw[aI.o.len];exact aC
   by_cases hb:AN (bt t k)=true
   ·have U:V _:=(Do ad.o hb).symm.trans aw.o;unfold AN at hb;generalize bt t k=x at c1 hb;cases aP:(x==32)
    ·cases aY:(x==9)
     ·cases bW:(x==13)
      ·have b3:(x==10)=true:=by simpa[aP,aY,bW] using hb
       exact xdd
      exact xdd
     exact xdd
    exact xdd
   have y:AN (bt t k)=false:=by simpa using hb
   by_cases c:bt t k=35
   ·have HR:V _:=(FL ad.o c).symm.trans aw.o;have aX:V (k<gV sD t k/\gV sD t k<=t.length):=⟨py ad.o (by rw[c];decide),lX _ _ _ (Nat.le_of_lt ad.o)⟩
    obtain⟨E2,l⟩:∃E2,E2=gV sD t k:=⟨_,rfl⟩
    rw[<-l]at HR aX;have s:V _:=l.symm;rw[c]at c1;clear l hb y c aw;go_wp2_with fail;go_loopw [1] (λaD W=>W=wr/\∃j:Nat,j<=n/\aD=hD j/\V (gV sD t j=E2)) (λaD _=>n-(intOf aD).toNat)
    case atStart=>exact⟨rfl,k,N,rfl,s⟩
    case round=>
     rename World=>W0
     obtain⟨rfl,j,hj,rfl,ax⟩:=hrel;by_cases cz:j<n
     ·have c2:=aI.o.at_ j cz;have m:V (j<t.length):=by show _<_;rw[aI.o.len];exact cz
      cases b2:(bt t j==10)
      ·have U:V _:=(xi m.o (by unfold sD;rw[b2];rfl)).symm.trans ax.o;generalize bt t j=x at c2 b2;have b5:(x !=10)=true:=by unfold bne;rw[b2];rfl
       clear b2;go_wp2;exact xhm
      have U:V _:=(px (λh=>by have:=h.2;unfold sD at this;rw[b2]at this;cases this)).symm.trans ax.o;obtain rfl:=U.o;generalize bt t j=x at c2 b2;have b5:(x !=10)=false:=by unfold bne;rw[b2];rfl
      clear b2;exact xgy
     have U:V _:=(px (λh=>hM aI.o.len)).symm.trans ax.o;obtain rfl:=U.o;exact xgy
   have U:V _:=(FM ad.o y c).symm.trans aw.o;obtain rfl:=U.o;unfold AN at y;have bf:(bt t k==35)=false:=by simpa using c
   generalize bt t k=x at c1 y bf;simp only[Bool.or_eq_false_iff]at y;obtain⟨⟨⟨aP,aY⟩,bW⟩,b3⟩:=y;clear c hb;go_wp2;go_ret;exact⟨rfl,rfl⟩
  have U:V _:=(Js (hO aI.o.len aC)).symm.trans aw.o;obtain rfl:=U.o;go_wp2;go_ret;exact⟨rfl,rfl⟩
end
section
open Go.RowKit Flt
variable{s x p y z:List UInt8}{j n:Nat}{t c o:Tok}{ts us:List Tok}{r:List (List UInt8)}
def iI:List UInt8:=[83,84,77,84,83]
def lF:List UInt8:=[80,65,82,65,77,83]
def gL:List UInt8:=[77,79,82,69,80,65,82,65,77,83]
def gS:List UInt8:=[69,88,80,82]
def fY:List UInt8:=[77,79,82,69,84,69,82,77,83]
def kD:List UInt8:=[84,69,82,77]
def fS:List UInt8:=[77,79,82,69,85,78,65,82,89]
def qN:List UInt8:=[67,65,76,76]
def nT:List UInt8:=[65,82,71,83]
def il:List UInt8:=[77,79,82,69,65,82,71,83]
def lN:List UInt8:=[85,78,65,82,89]
def lj(s:List UInt8):List (List UInt8):=
 if s=[45] then[[45],lN] else
 if s=[110,97,109,101] then[[110,97,109,101],qN] else
 if s=[40] then[[40],gS,[41]] else
 if s=[101,120,112]\/s=[115,117,109] then[s,[40],gS,[41]] else
 if s=[109,97,120]\/s=[100,111,116] then[s,[40],gS,[44],gS,[41]] else
 if s=[115,101,108] then[s,[40],gS,[44],gS,[44],gS,[41]] else
 if s=[102,105,108,108]\/s=[112,105,99,107] then[s,[40],gS,[44],[105,110,116],[41]] else
 if s=[112,117,116] then[s,[40],gS,[44],[105,110,116],[44],[105,110,116],[41]] else
 if s=[103,114,97,100] then[s,[40],gS,[44],[110,97,109,101],[41]] else
 if s=[106,118,112] then[s,[40],gS,[44],[110,97,109,101],[44],gS,[41]] else
 if s=[100,101,99] then[[100,101,99]] else
 [[105,110,116]]
def gC(p s:List UInt8):List (List UInt8):=
 if p=iI then (if s=[105,110] then[[105,110],[110,97,109,101],[58],[105,110,116],[59],iI]else if s=[108,101,116] then[[108,101,116],[110,97,109,101],[61],gS,[59],iI]else if s=[114,101,112,101,97,116] then[[114,101,112,101,97,116],[105,110,116],[110,97,109,101],[61],gS,[59],iI]else if s=[100,101,102] then[[100,101,102],[110,97,109,101],[40],lF,[41],[61],gS,[59],iI]else if s=[111,117,116] then[[111,117,116],gS,[59],iI] else[]) else
 if p=lF then (if s=[110,97,109,101] then[[110,97,109,101],gL] else[]) else
 if p=gL then (if s=[44] then[[44],[110,97,109,101],gL] else[]) else
 if p=gS then ([kD,fY]) else
 if p=fY then (if s=[43]\/s=[45] then[s,kD,fY] else[]) else
 if p=kD then ([lN,fS]) else
 if p=fS then (if s=[42]\/s=[47] then[s,lN,fS] else[]) else
 if p=qN then (if s=[40] then[[40],nT,[41]] else[]) else
 if p=nT then (if s=[41] then[] else[gS,il]) else
 if p=il then (if s=[44] then[[44],gS,il] else[]) else
 lj s
def jM(s:List UInt8):Bool:=decide (1<s.length)&&(decide (65<=bt s 0)&&decide (bt s 0<=90))
def wt(s:List UInt8):Nat:=if s=nT then 7 else if s=gS then 5 else if s=kD then 3 else 1
def wts:List (List UInt8)->Nat
 |[]=>0
 |s::r=>wt s+wts r
def AQ:List (List UInt8)->Bool
 |[]=>false
 |p::_=>jM p
def mu(st:List (List UInt8)):Nat:=if AQ st=true then wts st+1 else 0
theorem AS(s):1<=wt s:=by
 unfold wt;grind
def UL:List (List UInt8):=[[45],[110,97,109,101],[40],[101,120,112],[115,117,109],[109,97,120],[100,111,116],[115,101,108],[102,105,108,108],[112,105,99,107],[112,117,116],[103,114,97,100],[106,118,112],[100,101,99]]
def RL:List (List UInt8):=[[105,110],[108,101,116],[114,101,112,101,97,116],[100,101,102],[111,117,116],[110,97,109,101],[44],[43],[45],[42],[47],[40],[41]]
def PQ:List (List UInt8):=[iI,lF,gL,gS,fY,kD,fS,qN,nT,il]
theorem xn(h:¬s∈UL):lj s=[[105,110,116]]:=by
 simp_all[UL,lj]
theorem FT(s)(h:¬p∈PQ):gC p s=lj s:=by
 simp_all[PQ,gC]
def ruN(p:List UInt8):List (List UInt8):=if p=gS then[kD,fY]else if p=kD then[lN,fS]else if p=nT then[gS,il] else[]
theorem FU{p s}(h:p∈PQ)(ar:¬s∈RL):gC p s=ruN p:=by
 simp only[PQ,RL,List.mem_cons,List.not_mem_nil,or_false,not_or]at h ar;rcases h with rfl|rfl|rfl|rfl|rfl|rfl|rfl|rfl|rfl|rfl<;>simp[gC,ar]<;>rfl
theorem vz(s r):AQ (lj s++r)=false:=by
 by_cases h:s∈UL
 ·simp only[UL,List.mem_cons,List.not_mem_nil,or_false]at h;rcases h with rfl|rfl|rfl|rfl|rfl|rfl|rfl|rfl|rfl|rfl|rfl|rfl|rfl|rfl<;>rfl
 rw[xn h];rfl
theorem tS(p s r):gC p s=[]\/AQ (gC p s++r)=false\/(p=gS/\gC p s=[kD,fY])\/(p=kD/\gC p s=[lN,fS])\/(p=nT/\gC p s=[gS,il]):=by
 by_cases h:p∈PQ
 ·by_cases ar:s∈RL
  ·simp only[PQ,RL,List.mem_cons,List.not_mem_nil,or_false]at h ar;rcases h with rfl|rfl|rfl|rfl|rfl|rfl|rfl|rfl|rfl|rfl<;>rcases ar with rfl|rfl|rfl|rfl|rfl|rfl|rfl|rfl|rfl|rfl|rfl|rfl|rfl<;>simp[gC,iI,lF,gL,gS,fY,kD,fS,qN,nT,il,AQ,jM,bt]
  rw[FU h ar];clear ar;simp only[PQ,List.mem_cons,List.not_mem_nil,or_false]at h;rcases h with rfl|rfl|rfl|rfl|rfl|rfl|rfl|rfl|rfl|rfl<;>grind[ruN]
 grind[FT,vz]
theorem BY(p s r)(h:jM p=true):mu (gC p s++r)<mu (p::r):=by
 have e:mu (p::r)=wt p+wts r+1:=by unfold mu AQ;rw[hG h];rfl
 rw[e];rcases tS p s r with c|c|⟨rfl,c⟩|⟨rfl,c⟩|⟨rfl,c⟩
 ·rw[c,List.nil_append];grind[AS,mu]
 ·grind[mu]
 all_goals
  rw[c]
  unfold mu
  split
  ·show wt _+(wt _+wts r)+1<_
   have B:wt kD=3:=xab
   have J:wt fY=1:=xab
   have h3:wt gS=5:=xab
   have a0:wt lN=1:=xab
   have bz:wt fS=1:=xab
   have bP:wt il=1:=xab
   have aS:wt nT=7:=xab
   omega
  ·omega
def it(s:List UInt8)(st:List (List UInt8)):List (List UInt8):=
 match st with
 |[]=>[]
 |p::r=>if _h:jM p=true then it s (gC p s++r)else p::r
termination_by mu st
decreasing_by exact BY p s r _h
theorem nG(s):it s []=[]:=by rw[it]
theorem i7(h:jM p=true):it s (p::r)=it s (gC p s++r):=by rw[it,dif_pos h]
theorem mj(h:jM p=false):it s (p::r)=p::r:=by rw[it,dif_neg (by rw[h];simp)]
def Jv:List UInt8:=[101,110,100]
def fE(n:Nat):List Tok->List (List UInt8)->Int
 |[],st=>if it Jv st=[]then -1 else (n:Int)
 |t::ts,st=>match it t.sym st with
  |[]=>(t.pos:Int)
  |p::r=>if p=t.sym then fE n ts r else (t.pos:Int)
theorem vA(s):1<=(lj s).length/\(lj s).length<=8:=by
 by_cases h:s∈UL
 ·revert s;decide
 rw[xn h];decide
theorem yX(p s):(gC p s).length<=9:=by
 by_cases h:p∈PQ
 ·by_cases ar:s∈RL
  ·exact(show ∀p∈PQ,∀s∈RL,(gC p s).length<=9 by decide) p h s ar
  rw[FU h ar];revert p;decide
 rw[FT s h];have:=vA s;omega
inductive Ex where
 |num (t:Tok)
 |name (t:Tok)
 |neg (o:Tok) (e:Ex)
 |bin (o:Tok) (a b:Ex)
 |call (t:Tok) (es:List Ex)
 |key1 (k:Tok) (e:Ex)
 |key2 (k:Tok) (a b:Ex)
 |key3 (k:Tok) (a b c:Ex)
 |keyN (k:Tok) (e:Ex) (n:Tok)
 |put (k:Tok) (e:Ex) (i n:Tok)
 |grad (k:Tok) (e:Ex) (x:Tok)
 |jvp (k:Tok) (e:Ex) (x:Tok) (d:Ex)
def yY:List UInt8:=[101,120,112]
def FV:List UInt8:=[115,117,109]
def AT:List UInt8:=[109,97,120]
def Jw:List UInt8:=[100,111,116]
def yZ:List UInt8:=[115,101,108]
def vB:List UInt8:=[102,105,108,108]
def qO:List UInt8:=[112,105,99,107]
def Du:List UInt8:=[112,117,116]
def BZ:List UInt8:=[103,114,97,100]
def Jx:List UInt8:=[106,118,112]
inductive Pr:Nat->List Ex->List Tok->Prop
 |up01 {e:Ex}{ts:List Tok}:Pr 0 [e] ts->Pr 1 [e] ts
 |up12 {e:Ex}{ts:List Tok}:Pr 1 [e] ts->Pr 2 [e] ts
 |add {a b:Ex}{ts us:List Tok}{o:Tok}:Pr 2 [a] ts->(o.sym=[43]\/o.sym=[45])->Pr 1 [b] us->Pr 2 [.bin o a b] (ts++o::us)
 |mul {a b:Ex}{ts us:List Tok}{o:Tok}:Pr 1 [a] ts->(o.sym=[42]\/o.sym=[47])->Pr 0 [b] us->Pr 1 [.bin o a b] (ts++o::us)
 |neg {e:Ex}{ts:List Tok}{o:Tok}:o.sym=[45]->Pr 0 [e] ts->Pr 0 [.neg o e] (o::ts)
 |num {t:Tok}:(t.sym=iG\/t.sym=li)->Pr 0 [.num t] [t]
 |name {t:Tok}:t.sym=gQ->Pr 0 [.name t] [t]
 |par {e:Ex}{ts:List Tok}{l r:Tok}:l.sym=[40]->Pr 2 [e] ts->r.sym=[41]->Pr 0 [e] (l::(ts++[r]))
 |call0 {t l r:Tok}:t.sym=gQ->l.sym=[40]->r.sym=[41]->Pr 0 [.call t []] [t,l,r]
 |call {es:List Ex}{ts:List Tok}{t l r:Tok}:t.sym=gQ->l.sym=[40]->Pr 3 es ts->r.sym=[41]->Pr 0 [.call t es] (t::l::(ts++[r]))
 |arg1 {e:Ex}{ts:List Tok}:Pr 2 [e] ts->Pr 3 [e] ts
 |argM {es:List Ex}{e:Ex}{ts us:List Tok}{c:Tok}:Pr 3 es ts->c.sym=[44]->Pr 2 [e] us->Pr 3 (es++[e]) (ts++c::us)
 |key1 {e:Ex}{ts:List Tok}{k l r:Tok}:(k.sym=yY\/k.sym=FV)->l.sym=[40]->Pr 2 [e] ts->r.sym=[41]->Pr 0 [.key1 k e] (k::l::(ts++[r]))
 |key2 {a b:Ex}{ts us:List Tok}{k l c r:Tok}:(k.sym=AT\/k.sym=Jw)->l.sym=[40]->Pr 2 [a] ts->c.sym=[44]->Pr 2 [b] us->r.sym=[41]->Pr 0 [.key2 k a b] (k::l::(ts++c::(us++[r])))
 |key3 {a b d:Ex}{ts us ws:List Tok}{k l c c2 r:Tok}:k.sym=yZ->l.sym=[40]->Pr 2 [a] ts->c.sym=[44]->Pr 2 [b] us->c2.sym=[44]->Pr 2 [d] ws->r.sym=[41]->Pr 0 [.key3 k a b d] (k::l::(ts++c::(us++c2::(ws++[r]))))
 |keyN {e:Ex}{ts:List Tok}{k l c n r:Tok}:(k.sym=vB\/k.sym=qO)->l.sym=[40]->Pr 2 [e] ts->c.sym=[44]->n.sym=iG->r.sym=[41]->Pr 0 [.keyN k e n] (k::l::(ts++[c,n,r]))
 |put {e:Ex}{ts:List Tok}{k l c i c2 n r:Tok}:k.sym=Du->l.sym=[40]->Pr 2 [e] ts->c.sym=[44]->i.sym=iG->c2.sym=[44]->n.sym=iG->r.sym=[41]->Pr 0 [.put k e i n] (k::l::(ts++[c,i,c2,n,r]))
 |grad {e:Ex}{ts:List Tok}{k l c x r:Tok}:k.sym=BZ->l.sym=[40]->Pr 2 [e] ts->c.sym=[44]->x.sym=gQ->r.sym=[41]->Pr 0 [.grad k e x] (k::l::(ts++[c,x,r]))
 |jvp {e d:Ex}{ts us:List Tok}{k l c x c2 r:Tok}:k.sym=Jx->l.sym=[40]->Pr 2 [e] ts->c.sym=[44]->x.sym=gQ->c2.sym=[44]->Pr 2 [d] us->r.sym=[41]->Pr 0 [.jvp k e x d] (k::l::(ts++c::x::c2::(us++[r])))
structure OpS where
 i:Nat
 d:Int
 at_:Int
 b:Bool
def jb(s:List UInt8):Bool:=s==gQ||s==iG||s==li||s==[41]
def iJ(x y:List UInt8)(q:OpS)(t:Tok):OpS:=
 if t.sym=[40] then⟨q.i+1,q.d+1,q.at_,jb t.sym⟩
 else if t.sym=[41] then⟨q.i+1,q.d-1,q.at_,jb t.sym⟩
 else⟨q.i+1,q.d,if q.d=0/\q.b=true/\(t.sym=x\/t.sym=y)then (q.i:Int)else q.at_,jb t.sym⟩
def jD(x y:List UInt8)(q:OpS)(ts:List Tok):OpS:=ts.foldl (iJ x y) q
theorem fp(x y q a b):jD x y q (a++b)=jD x y (jD x y q a) b:=by unfold jD;grind
theorem eI(x y q t b):jD x y q (t::b)=jD x y (iJ x y q t) b:=rfl
theorem fI(x y q):jD x y q []=q:=rfl
theorem neL(h:s=x)(ak:x≠z:=by decide):s≠z:=h ▸ ak
theorem neO(h:s=x\/s=y)(ak:x≠z:=by decide)(bX:y≠z:=by decide):s≠z:=by grind
theorem xo{q}(h:t.sym=[40]):iJ x y q t=⟨q.i+1,q.d+1,q.at_,false⟩:=by unfold iJ;rw[hG h,h];rfl
theorem xq{q}(h:t.sym=[41]):iJ x y q t=⟨q.i+1,q.d-1,q.at_,true⟩:=by unfold iJ;rw[hF (neL h),hG h,h];rfl
theorem mY{q}(B:t.sym≠[40])(J:t.sym≠[41])(h3:¬(q.d=0/\q.b=true/\(t.sym=x\/t.sym=y))):iJ x y q t=⟨q.i+1,q.d,q.at_,jb t.sym⟩:=by grind[iJ]
theorem xr{q}(B:t.sym≠[40])(J:t.sym≠[41])(h3:q.d=0/\q.b=true/\(t.sym=x\/t.sym=y)):iJ x y q t=⟨q.i+1,q.d,q.i,jb t.sym⟩:=by grind[iJ]
theorem tT{i d e a b}(B:i=j)(J:d=e):(⟨i,d,a,b⟩:OpS)=⟨j,e,a,b⟩:=by rw[B,J]
theorem opq{i:Nat}{d e a:Int}{b:Bool}(B:i=j:=by first|(simp;done)|(simp;omega))(J:d=e:=by omega):(⟨i,d,a,b⟩:OpS)=⟨j,e,a,b⟩:=tT B J
theorem Jy{es}(h:Pr n es ts):∀(i:Nat) (d a:Int) (b:Bool),0<d->jD x y ⟨i,d,a,b⟩ ts=⟨i+ts.length,d,a,true⟩:=by
 have q:∀(i:Nat) (d a:Int) (b:Bool) (t:Tok),0<d->t.sym≠[40]->t.sym≠[41]->iJ x y ⟨i,d,a,b⟩ t=⟨i+1,d,a,_⟩:=λi d a b t am B J=>mY B J (λc=>by grind);have H:∀(i:Nat) (d a:Int) (b:Bool) (t:Tok),t.sym=[40]->iJ x y ⟨i,d,a,b⟩ t=⟨i+1,d+1,a,_⟩:=λi d a b t h=>xo h;have u:∀(i:Nat) (d a:Int) (b:Bool) (t:Tok),t.sym=[41]->iJ x y ⟨i,d,a,b⟩ t=⟨i+1,d-1,a,_⟩:=λi d a b t h=>xq h;induction h with
 |up01 _ aa=>exact aa
 |up12 _ aa=>exact aa
 |@add a b ts us o _ al _ g m=>
  intro i d bV bH am;rw[fp,g _ _ _ _ am,eI,q _ _ _ _ o am (neO al) (neO al),m _ _ _ _ am];exact opq
 |@mul a b ts us o _ al _ g m=>
  intro i d bV bH am;rw[fp,g _ _ _ _ am,eI,q _ _ _ _ o am (neO al) (neO al),m _ _ _ _ am];exact opq
 |@neg e ts o al _ aa=>
  intro i d bV bH am;rw[eI,q _ _ _ _ o am (neL al) (neL al),aa _ _ _ _ am];exact opq
 |@num t ht=>
  intro i d bV bH am;have n3:jb t.sym=true:=by rcases ht with c|c<;>rw[c]<;>decide
  rw[eI,q _ _ _ _ t am (neO ht) (neO ht),fI,n3];exact opq
 |@name t ht=>
  intro i d bV bH am;have n3:jb t.sym=true:=by rw[ht];decide
  rw[eI,q _ _ _ _ t am (neL ht) (neL ht),fI,n3];exact opq
 |@par e ts l r ab _ av aa=>
  intro i d bV bH am;have f:0<d+1:=xaa;rw[eI,H _ _ _ _ l ab,fp,aa _ _ _ _ f,eI,u _ _ _ _ r av,fI];exact opq
 |@call0 t l r ht ab av=>
  intro i d bV bH am;rw[eI,q _ _ _ _ t am (neL ht) (neL ht),eI,H _ _ _ _ l ab,eI,u _ _ _ _ r av,fI];exact opq
 |@call es ts t l r ht ab _ av aa=>
  intro i d bV bH am;have f:0<d+1:=xaa;rw[eI,q _ _ _ _ t am (neL ht) (neL ht),eI,H _ _ _ _ l ab,fp,aa _ _ _ _ f,eI,u _ _ _ _ r av,fI];exact opq
 |arg1 _ aa=>exact aa
 |@argM es e ts us c _ ad _ g m=>
  intro i d bV bH am;rw[fp,g _ _ _ _ am,eI,q _ _ _ _ c am (neL ad) (neL ad),m _ _ _ _ am];exact opq
 |@key1 e ts k l r N ab _ av aa=>
  intro i d bV bH am;have f:0<d+1:=xaa;rw[eI,q _ _ _ _ k am (neO N) (neO N),eI,H _ _ _ _ l ab,fp,aa _ _ _ _ f,eI,u _ _ _ _ r av,fI];exact opq
 |@key2 a b ts us k l c r N ab _ ad _ av g m=>
  intro i d bV bH am;have f:0<d+1:=xaa;rw[eI,q _ _ _ _ k am (neO N) (neO N),eI,H _ _ _ _ l ab,fp,g _ _ _ _ f,eI,q _ _ _ _ c f (neL ad) (neL ad),fp,m _ _ _ _ f,eI,u _ _ _ _ r av,fI];exact opq
 |@key3 a b bu ts us au k l c c2 r N ab _ ad _ T _ av g m v=>
  intro i d bV bH am;have f:0<d+1:=xaa;rw[eI,q _ _ _ _ k am (neL N) (neL N),eI,H _ _ _ _ l ab,fp,g _ _ _ _ f,eI,q _ _ _ _ c f (neL ad) (neL ad),fp,m _ _ _ _ f,eI,q _ _ _ _ _ f (neL T) (neL T),fp,v _ _ _ _ f,eI,u _ _ _ _ r av,fI];exact opq
 |@keyN e ts k l c bT r N ab _ ad hn av aa=>
  intro i d bV bH am;have f:0<d+1:=xaa;rw[eI,q _ _ _ _ k am (neO N) (neO N),eI,H _ _ _ _ l ab,fp,aa _ _ _ _ f,eI,q _ _ _ _ c f (neL ad) (neL ad),eI,q _ _ _ _ _ f (neL hn) (neL hn),eI,u _ _ _ _ r av,fI];exact opq
 |@put e ts k l c b3 c2 bT r N ab _ ad hi T hn av aa=>
  intro i d bV bH am;have f:0<d+1:=xaa;rw[eI,q _ _ _ _ k am (neL N) (neL N),eI,H _ _ _ _ l ab,fp,aa _ _ _ _ f,eI,q _ _ _ _ c f (neL ad) (neL ad),eI,q _ _ _ _ _ f (neL hi) (neL hi),eI,q _ _ _ _ _ f (neL T) (neL T),eI,q _ _ _ _ _ f (neL hn) (neL hn),eI,u _ _ _ _ r av,fI];exact opq
 |@grad e ts k l c bI r N ab _ ad hn av aa=>
  intro i d bV bH am;have f:0<d+1:=xaa;rw[eI,q _ _ _ _ k am (neL N) (neL N),eI,H _ _ _ _ l ab,fp,aa _ _ _ _ f,eI,q _ _ _ _ c f (neL ad) (neL ad),eI,q _ _ _ _ _ f (neL hn) (neL hn),eI,u _ _ _ _ r av,fI];exact opq
 |@jvp e bu ts us k l c bI c2 r N ab _ ad hn T _ av g m=>
  intro i d bV bH am;have f:0<d+1:=xaa;rw[eI,q _ _ _ _ k am (neL N) (neL N),eI,H _ _ _ _ l ab,fp,g _ _ _ _ f,eI,q _ _ _ _ c f (neL ad) (neL ad),eI,q _ _ _ _ _ f (neL hn) (neL hn),eI,q _ _ _ _ _ f (neL T) (neL T),fp,m _ _ _ _ f,eI,u _ _ _ _ r av,fI];exact opq
theorem jq(i a t)(B:t.sym≠[40])(J:t.sym≠[41]):iJ x y ⟨i,0,a,false⟩ t=⟨i+1,0,a,jb t.sym⟩:=mY B J (λc=>by grind)
theorem sl0(i a b t)(h:t.sym=[40]):iJ x y ⟨i,0,a,b⟩ t=⟨i+1,1,a,false⟩:=xo h
theorem sr1(i a b t)(h:t.sym=[41]):iJ x y ⟨i,1,a,b⟩ t=⟨i+1,0,a,true⟩:=xq h
theorem so1(i a b t)(B:t.sym≠[40])(J:t.sym≠[41]):iJ x y ⟨i,1,a,b⟩ t=⟨i+1,1,a,jb t.sym⟩:=mY B J (λc=>by grind)
theorem oH{es}(h:Pr n es ts):n=0->∀(i:Nat) (a:Int),jD x y ⟨i,0,a,false⟩ ts=⟨i+ts.length,0,a,true⟩:=by
 have f:∀{n:Nat}{es:List _}{ts:List _},Pr n es ts->∀(i:Nat) (a:Int) (b:Bool),jD x y _ _=⟨_,1,a,_⟩:=λh i a b=>Jy h i 1 a b xab;induction h with
 |up01 _ _=>omega
 |up12 _ _=>omega
 |add _ _ _ _ _=>omega
 |mul _ _ _ _ _=>omega
 |arg1 _ _=>omega
 |argM _ _ _ _ _=>omega
 |@neg e ts o al _ aa=>
  intro _ i a;have n3:jb o.sym=false:=by rw[al];decide
  rw[eI,jq i a o (neL al) (neL al),n3,aa rfl];grind
 |@num t ht=>
  intro _ i a;have n3:jb t.sym=true:=by rcases ht with c|c<;>rw[c]<;>decide
  rw[eI,jq i a t (neO ht) (neO ht),fI,n3];rfl
 |@name t ht=>
  intro _ i a;have n3:jb t.sym=true:=by rw[ht];decide
  rw[eI,jq i a t (neL ht) (neL ht),fI,n3];rfl
 |@par e ts l r ab B av _=>
  grind[eI,sl0,fp,sr1,fI]
 |@call0 t l r ht ab av=>
  intro _ i a;rw[eI,jq i a t (neL ht) (neL ht),eI,sl0 _ _ _ l ab,eI,sr1 _ _ _ r av,fI];rfl
 |@call es ts t l r ht ab B av _=>
  intro _ i a;rw[eI,jq i a t (neL ht) (neL ht),eI,sl0 _ _ _ l ab,fp,f B,eI,sr1 _ _ _ r av,fI];grind
 |@key1 e ts k l r N ab B av _=>
  intro _ i a;rw[eI,jq i a k (neO N) (neO N),eI,sl0 _ _ _ l ab,fp,f B,eI,sr1 _ _ _ r av,fI];grind
 |@key2 bV bH ts us k l c r N ab B ad J av _ _=>
  intro _ i a;rw[eI,jq i a k (neO N) (neO N),eI,sl0 _ _ _ l ab,fp,f B,eI,so1 _ _ _ c (neL ad) (neL ad),fp,f J,eI,sr1 _ _ _ r av,fI];grind
 |@key3 bV bH bu ts us au k l c c2 r N ab B ad J T h3 av _ _ _=>
  intro _ i a;rw[eI,jq i a k (neL N) (neL N),eI,sl0 _ _ _ l ab,fp,f B,eI,so1 _ _ _ c (neL ad) (neL ad),fp,f J,eI,so1 _ _ _ _ (neL T) (neL T),fp,f h3,eI,sr1 _ _ _ r av,fI];grind
 |@keyN e ts k l c bT r N ab B ad hn av _=>
  intro _ i a;rw[eI,jq i a k (neO N) (neO N),eI,sl0 _ _ _ l ab,fp,f B,eI,so1 _ _ _ c (neL ad) (neL ad),eI,so1 _ _ _ _ (neL hn) (neL hn),eI,sr1 _ _ _ r av,fI];grind
 |@put e ts k l c b3 c2 bT r N ab B ad hi T hn av _=>
  intro _ i a;rw[eI,jq i a k (neL N) (neL N),eI,sl0 _ _ _ l ab,fp,f B,eI,so1 _ _ _ c (neL ad) (neL ad),eI,so1 _ _ _ _ (neL hi) (neL hi),eI,so1 _ _ _ _ (neL T) (neL T),eI,so1 _ _ _ _ (neL hn) (neL hn),eI,sr1 _ _ _ r av,fI];exact tT yag rfl
 |@grad e ts k l c bI r N ab B ad hn av _=>
  intro _ i a;rw[eI,jq i a k (neL N) (neL N),eI,sl0 _ _ _ l ab,fp,f B,eI,so1 _ _ _ c (neL ad) (neL ad),eI,so1 _ _ _ _ (neL hn) (neL hn),eI,sr1 _ _ _ r av,fI];grind
 |@jvp e bu ts us k l c bI c2 r N ab B ad hn T J av _ _=>
  intro _ i a;rw[eI,jq i a k (neL N) (neL N),eI,sl0 _ _ _ l ab,fp,f B,eI,so1 _ _ _ c (neL ad) (neL ad),eI,so1 _ _ _ _ (neL hn) (neL hn),eI,so1 _ _ _ _ (neL T) (neL T),fp,f J,eI,sr1 _ _ _ r av,fI];exact tT yag rfl
theorem B0{es}(h:Pr n es ts):n=1->∀(i:Nat) (a:Int),jD [43] [45] ⟨i,0,a,false⟩ ts=⟨i+ts.length,0,a,true⟩:=by
 induction h with
 |up01 ae _=>intro _ i a;exact oH ae rfl i a
 |@mul bV bH ts us o _ al J g _=>
  intro _ i a;have l:¬(o.sym=[43]\/o.sym=[45]):=by grind
  have n3:jb o.sym=false:=by rcases al with c|c<;>rw[c]<;>decide
  rw[fp,g rfl,eI,mY (neO al) (neO al) (λc=>l c.2.2),n3,oH J rfl];grind
 |up12 _ _=>omega
 |add _ _ _ _ _=>omega
 |arg1 _ _=>omega
 |argM _ _ _ _ _=>omega
 |neg _ _ _=>omega
 |num _=>omega
 |name _=>omega
 |par _ _ _ _=>omega
 |call0 _ _ _=>omega
 |call _ _ _ _ _=>omega
 |key1 _ _ _ _ _=>omega
 |key2 _ _ _ _ _ _ _ _=>omega
 |key3 _ _ _ _ _ _ _ _ _ _ _=>omega
 |keyN _ _ _ _ _ _ _=>omega
 |put _ _ _ _ _ _ _ _ _=>omega
 |grad _ _ _ _ _ _ _=>omega
 |jvp _ _ _ _ _ _ _ _ _ _=>omega
theorem FX{es}(h:Pr n es ts):n<=2->∀(i:Nat) (a:Int),∃ag,jD x y ⟨i,0,a,false⟩ ts=⟨i+ts.length,0,ag,true⟩:=by
 have l:∀{es:List _}{ts:List _},Pr 0 es ts->∀(i:Nat) (a:Int),∃ag,jD x y _ _=⟨_,0,ag,_⟩:=λh i a=>⟨a,oH h rfl i a⟩
 have bL:∀{ts us:List _}{o:Tok},o.sym≠[40]->o.sym≠[41]->jb o.sym=false->(∀(i:Nat) (a:Int),∃ag,jD x y ⟨i,0,a,false⟩ ts=⟨i+ts.length,0,ag,true⟩)->(∀(i:Nat) (a:Int),∃ag,jD x y ⟨i,0,a,false⟩ us=⟨i+us.length,0,ag,true⟩)->∀(i:Nat) (a:Int),∃ag,jD x y ⟨i,0,a,false⟩ (ts++o::us)=⟨i+(ts++o::us).length,0,ag,true⟩:=by
  intro ts us o n1 T n3 B J i a;obtain⟨a1,e1⟩:=B i a;rw[fp,e1,eI];by_cases c:x=o.sym\/y=o.sym
  ·rw[xr n1 T ⟨rfl,rfl,c.imp Eq.symm Eq.symm⟩,n3];obtain⟨Y,e2⟩:=J (i+ts.length+1) _;exact⟨Y,by rw[e2];exact tT yag rfl⟩
  rw[mY n1 T (λd=>c (d.2.2.imp Eq.symm Eq.symm)),n3];obtain⟨Y,e2⟩:=J (i+ts.length+1) a1;exact⟨Y,by rw[e2];exact tT yag rfl⟩
 induction h with
 |up01 _ aa=>grind
 |up12 _ aa=>grind
 |@add bV bH ts us o _ al _ g m=>
  exact λ_=>bL (by grind) (by grind) (by rcases al with c|c<;>rw[c]<;>decide) (g xab) (m xab)
 |@mul bV bH ts us o _ al _ g m=>
  exact λ_=>bL (by grind) (by grind) (by rcases al with c|c<;>rw[c]<;>decide) (g xab) (m xab)
 |arg1 _ _=>omega
 |argM _ _ _ _ _=>omega
 |neg al B _=>exact λ_=>l (.neg al B)
 |num h=>exact λ_=>l (.num h)
 |name h=>exact λ_=>l (.name h)
 |par B J h3 _=>exact λ_=>l (.par B J h3)
 |call0 B J h3=>exact λ_=>l (.call0 B J h3)
 |call B J h3 a0 _=>exact λ_=>l (.call B J h3 a0)
 |key1 B J h3 a0 _=>exact λ_=>l (.key1 B J h3 a0)
 |key2 B J h3 a0 bz bP _ _=>exact λ_=>l (.key2 B J h3 a0 bz bP)
 |key3 B J h3 a0 bz bP aS U _ _ _=>exact λ_=>l (.key3 B J h3 a0 bz bP aS U)
 |keyN B J h3 a0 bz bP _=>exact λ_=>l (.keyN B J h3 a0 bz bP)
 |put B J h3 a0 bz bP aS U _=>exact λ_=>l (.put B J h3 a0 bz bP aS U)
 |grad B J h3 a0 bz bP _=>exact λ_=>l (.grad B J h3 a0 bz bP)
 |jvp B J h3 a0 bz bP aS U _ _=>exact λ_=>l (.jvp B J h3 a0 bz bP aS U)
def opM(x y:List UInt8)(ts:List Tok):Int:=(jD x y ⟨0,0,-1,false⟩ ts).at_
theorem mK{e}(h:Pr 0 [e] ts):opM x y ts=-1:=by
 unfold opM;rw[oH h rfl]
theorem FY{e}(h:Pr 1 [e] ts):opM [43] [45] ts=-1:=by
 unfold opM;rw[B0 h rfl]
theorem MV{a b}(B:Pr 2 [a] ts)(al:o.sym=[43]\/o.sym=[45])(J:Pr 1 [b] us):opM [43] [45] (ts++o::us)=(ts.length:Int):=by
 unfold opM;obtain⟨ag,e⟩:=FX (x:=[43]) (y:=[45]) B xab 0 (-1);rw[fp,e,eI,xr (by grind) (by grind) ⟨rfl,rfl,al⟩,show jb _=false by rcases al with c|c<;>rw[c]<;>decide,B0 J rfl];simp
theorem MW{a b}(B:Pr 1 [a] ts)(al:o.sym=[42]\/o.sym=[47])(J:Pr 0 [b] us):opM [42] [47] (ts++o::us)=(ts.length:Int):=by
 unfold opM;obtain⟨ag,e⟩:=FX (x:=[42]) (y:=[47]) B xab 0 (-1);rw[fp,e,eI,xr (by grind) (by grind) ⟨rfl,rfl,al⟩,show jb _=false by rcases al with c|c<;>rw[c]<;>decide,oH J rfl];simp
def cm(d:Int):List Tok->Option Int
 |[]=>some d
 |t::ts=>if t.sym=[40]then cm (d+1) ts else if t.sym=[41]then cm (d-1) ts else if t.sym=[44]/\d=0 then none else cm d ts
theorem hY{d}(h:t.sym=[40]):cm d (t::ts)=cm (d+1) ts:=by rw[cm,hG h]
theorem ib{d}(h:t.sym=[41]):cm d (t::ts)=cm (d-1) ts:=by grind[cm]
theorem AU{d}(B:t.sym≠[40])(J:t.sym≠[41])(h3:t.sym≠[44]):cm d (t::ts)=cm d ts:=by grind[cm]
theorem im{d:Int}(h:t.sym=x)(ak:x≠[40]/\x≠[41]/\x≠[44]:=by decide):cm d (t::ts)=cm d ts:=by subst h;exact AU ak.1 ak.2.1 ak.2.2
theorem lP{d:Int}(h:t.sym=x\/t.sym=y)(ak:x≠[40]/\x≠[41]/\x≠[44]:=by decide)(bX:y≠[40]/\y≠[41]/\y≠[44]:=by decide):cm d (t::ts)=cm d ts:=by rcases h with h|h<;>exact im h ‹_›
theorem jg{d}(h:t.sym=[44])(G:d≠0):cm d (t::ts)=cm d ts:=by grind[cm]
theorem gh:∀(a b:List Tok) (d e:Int),cm d a=some e->cm d (a++b)=cm e b
 |[],b,d,e,h=>by cases h;rfl
 |t::a,b,d,e,h=>by
  rw[List.cons_append]
  by_cases B:t.sym=[40]
  ·rw[hY B]at h⊢;exact gh a b _ _ h
  ·by_cases J:t.sym=[41]
   ·rw[ib J]at h⊢;exact gh a b _ _ h
   ·by_cases h3:t.sym=[44]
    ·by_cases a0:d=0
     ·grind[cm]
     ·rw[jg h3 a0]at h⊢;exact gh a b _ _ h
    ·rw[AU B J h3]at h⊢;exact gh a b _ _ h
theorem iK(d):cm d []=some d:=rfl
theorem Jz{es}(h:Pr n es ts):∀d:Int,0<d->cm d ts=some d:=by
 induction h with
 |up01 _ aa=>exact aa
 |up12 _ aa=>exact aa
 |arg1 _ aa=>exact aa
 |@add a b ts us o _ al _ g m=>
  intro d G;rw[gh _ _ _ _ (g _ G),lP al,m _ G]
 |@mul a b ts us o _ al _ g m=>
  intro d G;rw[gh _ _ _ _ (g _ G),lP al,m _ G]
 |@neg e ts o al _ aa=>
  intro d G;rw[im al,aa _ G]
 |@num t ht=>
  intro d G;rw[lP ht,iK]
 |@name t ht=>
  intro d G;rw[im ht,iK]
 |@par e ts l r ab _ av aa=>
  intro d G;have f:0<d+1:=xaa;rw[hY ab,gh _ _ _ _ (aa _ f),ib av,iK];grind
 |@call0 t l r ht ab av=>
  intro d G;have f:0<d+1:=xaa;rw[im ht,hY ab,ib av,iK];grind
 |@call es ts t l r ht ab _ av aa=>
  intro d G;have f:0<d+1:=xaa;rw[im ht,hY ab,gh _ _ _ _ (aa _ f),ib av,iK];grind
 |@argM es e ts us c _ ad _ g m=>
  intro d G;rw[gh _ _ _ _ (g _ G),jg ad xaa,m _ G]
 |@key1 e ts k l r N ab _ av aa=>
  intro d G;have f:0<d+1:=xaa;rw[lP N,hY ab,gh _ _ _ _ (aa _ f),ib av,iK];grind
 |@key2 a b ts us k l c r N ab _ ad _ av g m=>
  intro d G;have f:0<d+1:=xaa;rw[lP N,hY ab,gh _ _ _ _ (g _ f),jg ad xaa,gh _ _ _ _ (m _ f),ib av,iK];grind
 |@key3 a b bu ts us au k l c c2 r N ab _ ad _ T _ av g m v=>
  intro d G;have f:0<d+1:=xaa;rw[im N,hY ab,gh _ _ _ _ (g _ f),jg ad xaa,gh _ _ _ _ (m _ f),jg T xaa,gh _ _ _ _ (v _ f),ib av,iK];grind
 |@keyN e ts k l c bT r N ab _ ad hn av aa=>
  intro d G;have f:0<d+1:=xaa;rw[lP N,hY ab,gh _ _ _ _ (aa _ f),jg ad xaa,im hn,ib av,iK];grind
 |@put e ts k l c b3 c2 bT r N ab _ ad hi T hn av aa=>
  intro d G;have f:0<d+1:=xaa;rw[im N,hY ab,gh _ _ _ _ (aa _ f),jg ad xaa,im hi,jg T xaa,im hn,ib av,iK];grind
 |@grad e ts k l c bI r N ab _ ad hn av aa=>
  intro d G;have f:0<d+1:=xaa;rw[im N,hY ab,gh _ _ _ _ (aa _ f),jg ad xaa,im hn,ib av,iK];grind
 |@jvp e bu ts us k l c bI c2 r N ab _ ad hn T _ av g m=>
  intro d G;have f:0<d+1:=xaa;rw[im N,hY ab,gh _ _ _ _ (g _ f),jg ad xaa,im hn,jg T xaa,gh _ _ _ _ (m _ f),ib av,iK];grind
theorem jN{es}(h:Pr n es ts):n<=2->cm 0 ts=some 0:=by
 have f:∀{n:Nat}{es:List Ex}{ts:List Tok},Pr n es ts->cm (0+1) ts=some (0+1):=λh=>Jz h _ xab;induction h with
 |up01 _ aa=>exact λ_=>aa xab
 |up12 _ aa=>exact λ_=>aa xab
 |arg1 _ _=>intro h;omega
 |argM _ _ _ _ _=>intro h;omega
 |@add a b ts us o _ al _ g m=>
  intro _;rw[gh _ _ _ _ (g xab),lP al,m xab]
 |@mul a b ts us o _ al _ g m=>
  intro _;rw[gh _ _ _ _ (g xab),lP al,m xab]
 |@neg e ts o al _ aa=>
  intro _;rw[im al,aa xab]
 |@num t ht=>
  intro _;rw[lP ht,iK]
 |@name t ht=>
  intro _;rw[im ht,iK]
 |@par e ts l r ab B av _=>
  intro _;rw[hY ab,gh _ _ _ _ (f B),ib av,iK];rfl
 |@call0 t l r ht ab av=>
  intro _;rw[im ht,hY ab,ib av,iK];rfl
 |@call es ts t l r ht ab B av _=>
  intro _;rw[im ht,hY ab,gh _ _ _ _ (f B),ib av,iK];rfl
 |@key1 e ts k l r N ab B av _=>
  intro _;rw[lP N,hY ab,gh _ _ _ _ (f B),ib av,iK];rfl
 |@key2 a b ts us k l c r N ab B ad J av _ _=>
  intro _;rw[lP N,hY ab,gh _ _ _ _ (f B),jg ad xab,gh _ _ _ _ (f J),ib av,iK];rfl
 |@key3 a b bu ts us au k l c c2 r N ab B ad J T h3 av _ _ _=>
  intro _;rw[im N,hY ab,gh _ _ _ _ (f B),jg ad xab,gh _ _ _ _ (f J),jg T xab,gh _ _ _ _ (f h3),ib av,iK];rfl
 |@keyN e ts k l c bT r N ab B ad hn av _=>
  intro _;rw[lP N,hY ab,gh _ _ _ _ (f B),jg ad xab,im hn,ib av,iK];rfl
 |@put e ts k l c b3 c2 bT r N ab B ad hi T hn av _=>
  intro _;rw[im N,hY ab,gh _ _ _ _ (f B),jg ad xab,im hi,jg T xab,im hn,ib av,iK];rfl
 |@grad e ts k l c bI r N ab B ad hn av _=>
  intro _;rw[im N,hY ab,gh _ _ _ _ (f B),jg ad xab,im hn,ib av,iK];rfl
 |@jvp e bu ts us k l c bI c2 r N ab B ad hn T J av _ _=>
  intro _;rw[im N,hY ab,gh _ _ _ _ (f B),jg ad xab,im hn,jg T xab,gh _ _ _ _ (f J),ib av,iK];rfl
structure SpS where
 d:Int
 cur:List Tok
 ou:List (List Tok)
def iL(q:SpS)(t:Tok):SpS:=
 if t.sym=[40] then⟨q.d+1,q.cur++[t],q.ou⟩
 else if t.sym=[41] then⟨q.d-1,q.cur++[t],q.ou⟩
 else if t.sym=[44]/\q.d=0 then⟨0,[],q.ou++[q.cur]⟩
 else⟨q.d,q.cur++[t],q.ou⟩
def ml(q:SpS)(ts:List Tok):SpS:=ts.foldl iL q
theorem pz(q a b):ml q (a++b)=ml (ml q a) b:=by unfold ml;grind
theorem ll(q t b):ml q (t::b)=ml (iL q t) b:=rfl
theorem qP:∀(ts:List Tok) (d e:Int) (H:List Tok) (out:List (List Tok)),cm d ts=some e->ml ⟨d,H,out⟩ ts=⟨e,H++ts,out⟩
 |[],d,e,H,out,h=>by cases h;show(⟨d,H,out⟩:SpS)=_;grind
 |t::ts,d,e,H,out,h=>by
  rw[ll]
  by_cases B:t.sym=[40]
  ·rw[hY B]at h
   rw[show iL ⟨d,H,out⟩ t=⟨d+1,H++[t],out⟩ by unfold iL;rw[hG B],qP ts _ _ _ _ h,List.append_assoc];rfl
  ·by_cases J:t.sym=[41]
   ·rw[ib J]at h
    rw[show iL ⟨d,H,out⟩ t=⟨d-1,H++[t],out⟩ by unfold iL;rw[hF B,hG J],qP ts _ _ _ _ h,List.append_assoc];rfl
   ·by_cases h3:t.sym=[44]/\d=0
    ·grind[cm]
    ·have h':cm d ts=some e:=by grind[cm]
     rw[show iL _ t=⟨d,H++[t],out⟩ by grind[iL],qP _ _ _ _ _ h',List.append_assoc];rfl
theorem tU(h:c.sym=[44])(H out):iL ⟨0,H,out⟩ c=⟨0,[],out++[H]⟩:=by
 grind[iL]
def fZ(ts:List Tok):List (List Tok):=if ts=[] then[]else (ml ⟨0,[],[]⟩ ts).ou++[(ml ⟨0,[],[]⟩ ts).cur]
theorem tV(B:t.sym≠[40])(J:t.sym≠[41])(h3:t.sym≠[44]):cm 0 [t]=some 0:=by rw[AU B J h3];rfl
theorem L5{es}(h:Pr n es ts):ts≠[]:=by
 induction h<;>simp_all<;>grind
theorem MX(cf:ts≠[])(h:cm 0 ts=some 0):fZ ts=[ts]:=by
 simp_all[fZ,qP]
theorem AV(h:cm 0 ts=some 0)(ad:c.sym=[44])(J:cm 0 us=some 0):fZ (ts++c::us)=[ts,us]:=by
 simp_all[fZ,pz,qP,ll,tU]
theorem AX{au c2}(h:cm 0 ts=some 0)(ad:c.sym=[44])(J:cm 0 us=some 0)(T:c2.sym=[44])(h3:cm 0 au=some 0):fZ (ts++c::(us++c2::au))=[ts,us,au]:=by
 simp_all[fZ,pz,qP,ll,tU]
theorem AY{es}(h:Pr n es ts):n=3->∃(d:List (List Tok)) (l:List Tok),ml ⟨0,[],[]⟩ ts=⟨0,l,d⟩/\(d++[l]).length=es.length/\∀i,i<es.length->Pr 2 [es.getD i (.num hJ)] ((d++[l]).getD i []):=by
 induction h with
 |@arg1 e ts B _=>
  intro _;refine⟨[],ts,?_,rfl,λi hi=>?_⟩
  ·rw[qP _ 0 0 _ _ (jN B xab)];rfl
  simp_all
 |@argM es e ts us c B ad J aa _=>
  intro _;obtain⟨d,l,e1,e2,af⟩:=aa rfl;refine⟨d++[l],us,?_,by simp at e2⊢;omega,λi hi=>?_⟩
  ·rw[pz,e1,ll,tU ad,qP _ 0 0 _ _ (jN J xab)];rfl
  grind
 |up01 _ _=>omega
 |up12 _ _=>omega
 |add _ _ _ _ _=>omega
 |mul _ _ _ _ _=>omega
 |neg _ _ _=>omega
 |num _=>omega
 |name _=>omega
 |par _ _ _ _=>omega
 |call0 _ _ _=>omega
 |call _ _ _ _ _=>omega
 |key1 _ _ _ _ _=>omega
 |key2 _ _ _ _ _ _ _ _=>omega
 |key3 _ _ _ _ _ _ _ _ _ _ _=>omega
 |keyN _ _ _ _ _ _ _=>omega
 |put _ _ _ _ _ _ _ _ _=>omega
 |grad _ _ _ _ _ _ _=>omega
 |jvp _ _ _ _ _ _ _ _ _ _=>omega
theorem AZ{es}(h:Pr 3 es ts):(fZ ts).length=es.length/\∀i,i<es.length->Pr 2 [es.getD i (.num hJ)] ((fZ ts).getD i []):=by
 grind[AY,fZ,L5]
structure TxA(w:World)(a:Option Addr)(n:Nat)(t:List UInt8):Prop where
 len:t.length=n
 at_:0<n->∃g off,a=some ⟨g,off,none⟩/\TxS w g off n t
theorem TxA.keep{w I a t}(h:TxA w a n t)(k:Kept 0 0 w I):TxA I a n t:=
 ⟨h.len,λhn=>by obtain⟨g,off,e,B⟩:=h.at_ hn;exact⟨g,_,e,B.keep k⟩⟩
theorem MY(t i j):(lh t i j).length<=t.length:=by
 grind[lh]
theorem FZ(t i)(h:i<t.length):(nxT t i).text.length<=t.length:=by
 grind[nxT,MY,lD]
theorem y7(t i):∀K∈kV t i,K.text.length<=t.length:=by
 intro K aq;rw[kV]at aq;split at aq
 ·rename_i h;split at aq
  ·grind[FZ]
  rcases List.mem_cons.1 aq with c|c
  ·subst c;exact FZ t i h
  exact y7 t _ _ c
 cases aq
termination_by t.length-i
decreasing_by
 grind[tR,pY]
theorem JA(t j):((jC t).getD j hJ).text.length<=t.length:=by
 by_cases h:j<(jC t).length
 ·refine y7 t (skM t 0) _ ?_;exact xih
 rw[yai,List.getElem?_eq_none xaa];exact yae
end
section
open Go.ChangeShapes Go.WideShapes Go.ChangeAt Go.RowKit Flt
theorem Dv:prog.cellsOf 5=1:=by kernel_rfl
theorem y8:laidOutB prog=true:=by kernel_rfl
theorem tW{H enc w base s g a n cap}{d:DataW H}{X}
  (h:DataW.Trod enc prog w base s g 22 (.slice a n cap) d X):n<=cap/\∃xs,YS w a n xs:=by
 obtain⟨v,a9⟩:=h;rcases Deep.open_slice1 underlying22 Dv a9 with⟨p,_⟩|⟨x,l,c,m,r,Vaa,D,u,p,_,ab,_,aq,_,av⟩
 ·simp[Value.cells]at p;obtain⟨rfl,rfl,rfl⟩:=p;exact⟨yad,[],rfl,by simp,.inl rfl⟩
 simp[Value.cells]at p;obtain⟨rfl,rfl,rfl⟩:=p;refine⟨ab,?_⟩;have ak:n<=m:=by grind
 have au:∀i,i<n->∃b:Int,w.cell? _=some _/\0<=b/\b<256:=λi hi=>by
  obtain⟨B,J⟩:=av i xaa
  obtain⟨b,e,an⟩:=DataW.trod_int underlying5 J
  simp at e
  have hb:0<=b/\b<256:=by
   have:=an.2
   simp[Lit.wf,IntKind.min,IntKind.max,IntKind.signed,IntKind.bits]at this
   omega
  exact⟨b,by rw[B,e],hb.1,hb.2⟩
 obtain⟨f,q⟩:=Deep.choose_lt au;refine⟨(List.range n).map f,by simp,?_,?_⟩
 ·simp_all
 rcases Nat.eq_zero_or_pos n with ae|ae
 ·exact .inl ae
 obtain⟨b,off,t⟩:=x;have j:t=none:=by simpa[Addr.add] using World.cell?_spot (q 0 ae).1
 subst j
 have J:∀k,k<n->w.cell? ⟨b,off+k,_⟩=some (.int _ (((List.range n).map f).getD k 0)):=λk N=>by
  have B:=(q k N).1
  rw[show((List.range n).map f).getD k 0=f k by grind]
  by_cases T:k=0
  ·subst T;simpa[Addr.add] using B
  ·simpa[Addr.add,T] using B
 have hb:=World.block_lt_of_cell? (h:=J 0 ae);grind
