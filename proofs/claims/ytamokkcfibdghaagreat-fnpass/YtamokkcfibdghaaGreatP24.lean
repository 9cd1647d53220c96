import Derived.Test.YtamokkcfibdghaaGreatP02
namespace Go.Proofs.Z
open Tryz
set_option maxRecDepth 1000000
set_option maxHeartbeats 0
section
open Go.RowKit Flt
attribute [local go_sem] eG eE eD
structure YS (w:World)(a:Option Addr)(n:Nat)(xs:List Int):Prop where
 len:xs.length=n
 lt:∀x∈xs,0<=x/\x<256
 at_:n=0\/∃g off,a=some ⟨g,off,none⟩/\g<w.heap.size/\∀k,k<n->w.cell? ⟨g,off+k,none⟩=some (.int .u8 (xs.getD k 0))
theorem YS.keep{w J a n xs}(f:YS w a n xs)(k:Kept 0 0 w J):YS J a n xs:=
 ⟨f.len,f.lt,by
  rcases f.at_ with aj|⟨g,off,e,h3,a8⟩
  ·exact .inl aj
  ·exact .inr ⟨g,_,e,yaj h3 k.size,λj hj=>by rw[k.cell h3 xaa];grind⟩⟩
end
section
open Go.RowKit Flt
variable {xs:List Int}{t:List UInt8}{k i j:Nat}{p l:Int}
def dig (c:Int):Bool:=decide (48<=c)&&decide (c<=57)
theorem tE{c}(h:dig c=true):48<=c/\c<=57:=by simp[dig]at h;exact h
theorem xn:dig 46=false:=xab
structure GoodAt (xs:List Int)(p:Int):Prop where
 pos:0<xs.length
 point:∀i,i<xs.length->(xs.getD i 0=46↔(i:Int)=p)
 digit:∀i,i<xs.length->xs.getD i 0≠46->dig (xs.getD i 0)=true
 place:p=-1\/(0<p/\p+1<xs.length)
def xo (xs:List Int):Prop:=∃p,GoodAt xs p
def nst (s:Int×Int×Bool)(c:Int):Int×Int×Bool:=if c=46 then (s.1,s.2.1,true)else (s.1*10+(c-48),if s.2.2 then s.2.1*10 else s.2.1,s.2.2)
def nds (xs:List Int):Int×Int×Bool:=xs.foldl nst (0,1,false)
theorem ve(xs:List Int)(k)(O:k<xs.length):xs.take (k+1)=xs.take k++[xs.getD k 0]:=by
 simp_all
theorem qu(xs:List Int)(k)(O:k<xs.length):nds (xs.take (k+1))=nst (nds (xs.take k)) (xs.getD k 0):=by
 rw[ve _ k O,nds,List.foldl_append];rfl
theorem qw(q)(xs:List Int)(k)(O:k<xs.length):(xs.take (k+1)).countP q=(xs.take k).countP q+if q (xs.getD k 0)then 1 else 0:=by
 rw[ve _ k O,List.countP_append];grind
theorem vf(xs:List Int)(h:∀i,i<xs.length->xs.getD i 0≠46->dig (xs.getD i 0)=true):∀k,k<=xs.length->
  0<=(nds (xs.take k)).1/\(nds (xs.take k)).1<10 ^ k/\1<=(nds (xs.take k)).2.1/\(nds (xs.take k)).2.1<=10 ^ k
 |0,_=>by simp[nds]
 |k+1,O=>by
  obtain⟨B,R,h3,a8⟩:=vf _ h k xaa
  have aK:(10:Int) ^ (k+1)=10 ^ k*10:=xaa
  rw[qu _ k xaa,aK]
  unfold nst
  by_cases c:xs.getD k 0=46
  ·grind
  ·rw[hJ c]
   have:=tE (h k xaa c)
   grind
theorem O0(h:k<=16):(10:Int) ^ k<=10000000000000000:=by
 have:(10:Int) ^ k<=10 ^ 16:=by
  have e:((10 ^ k:Nat):Int)<=(10 ^ 16:Nat):=Int.ofNat_le.2 (Nat.pow_le_pow_right xab h);simpa using e
 omega
theorem vg(xs:List Int)(h:∀i,i<xs.length->xs.getD i 0≠46->dig (xs.getD i 0)=true)(k)(O:k<=xs.length)(e:k<=16):
  0<=(nds (xs.take k)).1/\(nds (xs.take k)).1<=10000000000000000/\1<=(nds (xs.take k)).2.1/\(nds (xs.take k)).2.1<=10000000000000000:=by
 obtain⟨B,R,h3,a8⟩:=vf _ h k O;have:=O0 e;omega
theorem yY(xs:List Int)(h:∀i,i<xs.length->xs.getD i 0≠46->dig (xs.getD i 0)=true):∀k,k<=xs.length->
  (xs.take k).countP dig+(xs.take k).countP (· ==46)=k
 |0,_=>by simp
 |k+1,O=>by
  have aj:=yY _ h k xaa
  grind [qw,xn]
theorem GoodAt.points(h:GoodAt xs p):∀k,k<=xs.length->(xs.take k).countP (· ==46)=if 0<=p/\p<k then 1 else 0
 |0,_=>by grind
 |k+1,O=>by
  rw[qw _ _ k xaa,h.points k xaa]
  by_cases c:xs.getD k 0=46
  ·have:=(h.point k xaa).1 c
   grind
  ·have:¬k=p:=λe=>c ((h.point k xaa).2 e)
   grind
theorem GoodAt.short(h:GoodAt xs p)(aV:xs.countP dig<=15):xs.length<=16:=by
 have B:=yY _ h.digit _ yad;have R:=h.points _ yad;grind
theorem GoodAt.behind(h:GoodAt xs p):∀k,k<=xs.length->(nds (xs.take k)).2.2=decide (0<=p/\p<k)
 |0,_=>by rw[yax xaa];rfl
 |k+1,O=>by
  have aj:=h.behind k xaa
  rw[qu _ k xaa]
  unfold nst
  by_cases c:xs.getD k 0=46
  ·have:=(h.point k xaa).1 c
   grind
  ·have:¬k=p:=λe=>c ((h.point k xaa).2 e)
   grind
def RN (xs:List Int)(f:Nat)(c:Int):Prop:=
 (¬xo xs/\f=0/\c=2)\/(xo xs/\15<xs.countP dig/\f=0/\c=5)\/
 (xo xs/\xs.countP dig<=15/\f<18446744073709551616/\fb f=fb (cop .quo (floatOfInt .f64 (nds xs).1) (floatOfInt .f64 (nds xs).2.1))/\c=0)
structure Mid (xs:List Int)(k:Nat)(p:Int)(dg:Int):Prop where
 count:dg=((xs.take k).countP dig:Nat)
 point:∀i,i<k->(xs.getD i 0=46↔(i:Int)=p)
 digit:∀i,i<k->xs.getD i 0≠46->dig (xs.getD i 0)=true
 place:p=-1\/(0<=p/\p<k)
theorem Dc(xs):Mid xs 0 (-1) 0:=⟨rfl,λi hi=>by omega,λi hi=>by omega,.inl rfl⟩
theorem Mid.digitStep(h:Mid xs k p l)(O:k<xs.length)(aV:dig (xs.getD k 0)=true):Mid xs (k+1) p (l+1):=by
 have hn:xs.getD k 0≠46:=λe=>by rw[e]at aV;cases aV
 refine⟨?_,?_,?_,?_⟩
 ·rw[qw _ _ k O,aV,h.count];simp
 ·intro i hi;by_cases e:i=k
  ·subst e;refine⟨λc=>absurd c hn,λc=>?_⟩;rcases h.place with q|q<;>omega
  exact h.point i xaa
 ·exact xku
 rcases h.place with q|q<;>grind
theorem Mid.pointStep(h:Mid xs k p l)(O:k<xs.length)(aV:xs.getD k 0=46)(aK:p<0):Mid xs (k+1) k l:=by
 refine⟨?_,?_,?_,?_⟩
 ·rw[qw _ _ k O,aV,xn,h.count];simp
 ·intro i hi;by_cases e:i=k
  ·simp_all
  refine⟨λc=>?_,λc=>by omega⟩;have:=(h.point i xaa).1 c;omega
 ·exact xku
 omega
theorem Mid.bad(h:Mid xs k p l)(O:k<xs.length)(aV:dig (xs.getD k 0)=false)(hb:xs.getD k 0≠46\/0<=p):¬xo xs:=by
 rintro⟨q,g⟩;by_cases c:xs.getD k 0=46
 ·rcases hb with hb|hb
  ·exact hb c
  have ae:=(g.point k O).1 c;rcases h.place with aj|aj
  ·omega
  obtain⟨m,rfl⟩:=Int.eq_ofNat_of_zero_le aj.1;have B:=(h.point m xaa).2 rfl;have:=(g.point m xaa).1 B;omega
 have:=g.digit k O c;grind
theorem Mid.good(h:Mid xs xs.length p l)(aj:0<xs.length)(B:p≠0)(R:p≠(xs.length:Int)-1):GoodAt xs p:=
 ⟨aj,h.point,h.digit,by rcases h.place with q|q<;>omega⟩
theorem Mid.notGood(h:Mid xs xs.length p l)(hb:xs.length=0\/p=0\/p=(xs.length:Int)-1)(aj:0<xs.length->0<=p):¬xo xs:=by
 rintro⟨q,g⟩;have aK:=g.pos;have:=aj aK;obtain⟨m,rfl⟩:=Int.eq_ofNat_of_zero_le this;have az:m<xs.length:=xaa;have B:=(h.point m az).2 rfl;have:=(g.point m az).1 B;rcases g.place with q|q<;>omega
def bt (t:List UInt8)(k:Nat):Int:=((t.getD k 0).toNat:Int)
def nQ (x:Int):Bool:=decide (97<=x)&&decide (x<=122)||x==95
def qx (x:Int):Bool:=nQ x||dig x
def AQ (x:Int):Bool:=x==32||x==9||x==13||x==10
def si (x:Int):Bool:=!(x==10)
def gV (p:Int->Bool)(t:List UInt8)(j:Nat):Nat:=if j<t.length/\p (bt t j)=true then gV p t (j+1)else j
termination_by t.length-j
decreasing_by omega
theorem oW{p}(h:¬(j<t.length/\p (bt t j)=true)):gV p t j=j:=by rw[gV,hJ h]
theorem xq{p}(B:j<t.length)(R:p (bt t j)=true):gV p t j=gV p t (j+1):=by rw[gV,hK ⟨B,R⟩]
theorem nz(p t j):j<=gV p t j:=by
 rw[gV];split
 ·have:=nz p t (j+1);omega
 omega
termination_by t.length-j
decreasing_by omega
theorem lS(p t j)(h:j<=t.length):gV p t j<=t.length:=by
 rw[gV];split
 ·exact lS p t _ xaa
 exact h
termination_by t.length-j
decreasing_by omega
theorem oX{p}(B:j<t.length)(R:p (bt t j)=true):j<gV p t j:=by
 grind [xq,nz]
theorem yZ{p t}(j):∀k,j<=k->k<gV p t j->p (bt t k)=true:=by
 intro k B R;rw[gV]at R;split at R
 ·rename_i c;by_cases e:k=j
  ·grind
  exact yZ _ k xaa R
 omega
termination_by t.length-j
decreasing_by omega
def skM (t:List UInt8)(i:Nat):Nat:=
 if h:i<t.length then
  if AQ (bt t i)=true then skM t (i+1)
  else if _h2:bt t i=35 then skM t (gV si t i)else i
 else i
termination_by t.length-i
decreasing_by
 ·omega
 ·grind [oX,si]
theorem JH(h:¬i<t.length):skM t i=i:=by rw[skM,dif_neg h]
theorem De(h:i<t.length)(B:AQ (bt t i)=true):skM t i=skM t (i+1):=by rw[skM,dif_pos h,hK B]
theorem FD(h:i<t.length)(B:bt t i=35):skM t i=skM t (gV si t i):=by
 rw[skM,dif_pos h,hJ (by rw[B];decide),dif_pos B]
theorem FE(h:i<t.length)(B:AQ (bt t i)=false)(R:bt t i≠35):skM t i=i:=by
 grind [skM]
theorem pK(t i):i<=skM t i:=by
 rw[skM];split
 ·rename_i h;split
  ·have:=pK t (i+1);omega
  split
  ·rename_i R;have h3:=oX (p:=si) h (by rw[R];decide);have:=pK t (gV si t i);omega
  omega
 omega
termination_by t.length-i
decreasing_by
 ·omega
 ·omega
theorem xr(t i)(hi:i<=t.length):skM t i<=t.length:=by
 rw[skM];split
 ·rename_i h;split
  ·exact xr t _ xaa
  split
  ·rename_i R;have h3:=oX (p:=si) h (by rw[R];decide);exact xr t _ (lS _ _ _ hi)
  omega
 omega
termination_by t.length-i
decreasing_by
 ·omega
 ·omega
structure Tok where
 sym:List UInt8
 pos:Nat
 text:List UInt8
def hN:Tok:=⟨[],0,[]⟩
def kZ (t:List UInt8)(i j:Nat):List UInt8:=(t.drop i).take (j-i)
theorem y7(h:j<=t.length):(kZ t i j).length=j-i:=by
 grind [kZ]
def gS:List UInt8:=[110,97,109,101]
def iK:List UInt8:=[105,110,116]
def lg:List UInt8:=[100,101,99]
def keysL:List (List UInt8):=[[105,110],[108,101,116],[111,117,116],[100,101,102],[114,101,112,101,97,116],[101,120,112],[115,117,109],[109,97,120],[100,111,116],[115,101,108],[102,105,108,108],[112,105,99,107],[112,117,116],[103,114,97,100],[106,118,112]]
def onesL:List UInt8:=[43,45,42,47,40,41,44,59,58,61]
def mA (s:List UInt8):List UInt8:=if s∈keysL then s else gS
def lB (x:UInt8):List UInt8:=if x∈onesL then[x] else[]
def sj (t:List UInt8)(i:Nat):Nat:=if gV dig t i+1<t.length/\bt t (gV dig t i)=46/\dig (bt t (gV dig t i+1))=true then gV dig t (gV dig t i+1)else gV dig t i
def tF (t:List UInt8)(i:Nat):List UInt8:=if gV dig t i+1<t.length/\bt t (gV dig t i)=46/\dig (bt t (gV dig t i+1))=true then lg else iK
def nxE (t:List UInt8)(i:Nat):Nat:=if nQ (bt t i)=true then gV qx t i else if dig (bt t i)=true then sj t i else i+1
def nxT (t:List UInt8)(i:Nat):Tok:=
 if nQ (bt t i)=true then⟨mA (kZ t i (gV qx t i)),i,kZ t i (gV qx t i)⟩
 else if dig (bt t i)=true then⟨tF t i,i,kZ t i (sj t i)⟩
 else⟨lB (t.getD i 0),i,lB (t.getD i 0)⟩
theorem JI(h:i<t.length)(aV:dig (bt t i)=true):i<sj t i:=by
 grind [sj,nz,gV]
theorem JJ(h:i<t.length):sj t i<=t.length:=by
 grind [lS,sj]
theorem tG(h:i<t.length):i<nxE t i:=by
 grind [nxE,oX,qx,JI]
theorem FF(h:i<t.length):nxE t i<=t.length:=by
 grind [nxE,lS,JJ]
def kT (t:List UInt8)(i:Nat):List Tok:=
 if _h:i<t.length then
  if (nxT t i).sym=[] then[nxT t i]else nxT t i::kT t (skM t (nxE t i))
 else[]
termination_by t.length-i
decreasing_by
 grind [tG,pK]
theorem Df(h:¬i<t.length):kT t i=[]:=by rw[kT,dif_neg h]
theorem Dg(h:i<t.length)(B:(nxT t i).sym=[]):kT t i=[nxT t i]:=by rw[kT,dif_pos h,hK B]
theorem FG(h:i<t.length)(B:(nxT t i).sym≠[]):kT t i=nxT t i::kT t (skM t (nxE t i)):=by rw[kT,dif_pos h,hJ B]
theorem vh(t i):(kT t i).length<=t.length-i:=by
 rw[kT];split
 ·rename_i h;split
  ·simp;omega
  have B:=tG h;have R:=pK t (nxE t i);have h3:=vh t (skM t (nxE t i));grind
 simp
termination_by t.length-i
decreasing_by omega
def jH (t:List UInt8):List Tok:=kT t (skM t 0)
theorem qy(t):(jH t).length<=t.length:=by
 grind [vh,jH]
theorem lC(c w):Calls prog 91 #[.int .u8 c] w λe J=>e=.returned (.bool (dig c))/\J=w:=by
 by_cases B:48<=c
 ·have e:dig c=decide (c<=57):=by unfold dig;rw[decide_eq_true B];rfl
  exact xkk
 have e:dig c=false:=by unfold dig;rw[yax B];rfl
 have t:=yax B;exact xkk
theorem y8(w a cap):
  Calls prog 55 #[.slice a 0 cap] w λe J=>e=.returned (.tuple #[.float .f64 0,hI 2])/\Drawn w J:=by
 go_enter func55,ntmps55;go_wp2_with fail;refine wp_loop_rounds 1 ?_;rw[rounds_succ];go_wp2;go_ret2
 exact⟨rfl,Drawn.refl _⟩
theorem Dh(O:k<xs.length)(h:xs.getD k 0=46):(nds (xs.take (k+1))).1=(nds (xs.take k)).1/\(nds (xs.take (k+1))).2.1=(nds (xs.take k)).2.1/\(nds (xs.take (k+1))).2.2=true:=by
 grind [qu,nst]
theorem Di(O:k<xs.length)(h:xs.getD k 0≠46):(nds (xs.take (k+1))).1=(nds (xs.take k)).1*10+(xs.getD k 0-48)/\(nds (xs.take (k+1))).2.1=(if (nds (xs.take k)).2.2 then (nds (xs.take k)).2.1*10 else (nds (xs.take k)).2.1)/\(nds (xs.take (k+1))).2.2=(nds (xs.take k)).2.2:=by
 grind [qu,nst]
theorem AS(w g off n cap xs)(au:xs.length=n)(aj:0<n)(hn:n<=1048576)(aF:∀x∈xs,0<=x/\x<256)
  (ai:∀k,k<n->w.cell? ⟨g,off+k,none⟩=some (.int .u8 (xs.getD k 0))):
  Calls prog 55 #[.slice (some ⟨g,off,none⟩) n cap] w λe J=>∃f c,e=.returned (.tuple #[.float .f64 f,hI c])/\RN xs f c/\Drawn w J:=by
 have bl:V _:=ai;have bv:V _:=au;have HL:V _:=aF;clear ai au aF;go_enter func55,ntmps55;go_wp2_with fail;go_loopw [4,5,6] (λeT S aL W=>∃(k:Nat) (p l:Int),k<=n/\eT=hI p/\S=hI l/\aL=hI k/\V (Mid xs k p l)/\(0<=l/\l<=k/\-1<=p/\p<n)/\Drawn w W) (λ_ _ aL _=>n-(intOf aL).toNat)
 case atStart=>exact⟨0,_,0,Nat.zero_le _,rfl,rfl,rfl,Dc _,⟨by omega,by omega,by omega,by omega⟩,Drawn.refl _⟩
 case round=>
  obtain⟨k,p,l,O,rfl,rfl,rfl,C,⟨U,av,z,Q⟩,bx⟩:=hrel;by_cases aF:k<n
  ·have c1:wr.cell? ⟨g,off+k,none⟩=some (.int .u8 (xs.getD k 0)):=by rw[bx.cell];exact bl.o k aF
   have HD:V _:=lC (xs.getD k 0) wr;have u:k<xs.length:=hU bv.o aF
   cases t:dig (xs.getD k 0)
   ·by_cases q:xs.getD k 0=46
    ·by_cases aK:p<0
     ·have aa:V _:=C.o.pointStep u q aK;rw[q]at c1 HD;rw[xn]at HD;clear t q C;exact xje
     have aa:V (RN _ 0 2):=.inl ⟨C.o.bad u t (.inr xaa),rfl,rfl⟩;have X:=aK;rw[q]at c1 HD;rw[xn]at HD;exact xhw
    have aa:V (RN _ 0 2):=.inl ⟨C.o.bad u t (.inl q),rfl,rfl⟩;have a6:=yam q;rw[t]at HD;generalize xs.getD k 0=x at c1 HD a6;exact xhw
   have aa:V _:=C.o.digitStep u t;rw[t]at HD;generalize xs.getD k 0=x at c1 HD;clear t C;exact xje
  obtain rfl:k=n:=xaa;have aH:Mid xs xs.length p l:=hU bv.o C.o
  by_cases Y:p=0
  ·have aa:V (RN _ 0 2):=.inl ⟨aH.notGood (.inr (.inl Y)) (λ_=>by omega),rfl,rfl⟩;subst Y;clear C aH;go_wp2;go_ret2
   exact⟨0,2,rfl,aa.o,bx⟩
  by_cases v:p=k-1
  ·have aa:V (RN _ 0 2):=.inl ⟨aH.notGood (.inr (.inr (hU bv.o v))) (λ_=>by omega),rfl,rfl⟩;have aQ:=yam Y;have a6:(p==k-1)=true:=by grind
   clear C aH;go_wp2;go_ret2
   exact⟨0,2,rfl,aa.o,bx⟩
  have bq:=aH.good (hU bv.o aj) Y (hU bv.o v)
  have P:l=(xs.countP dig:Nat):=by
   have:=aH.count;rw[yao yad]at this;exact this
  have aQ:=yam Y;have a6:=yam v;have bj:((k:Int)==0)=false:=yam xaa;by_cases K:15<l
  ·have aa:V (RN _ 0 5):=.inr (.inl ⟨⟨p,bq⟩,by omega,rfl,rfl⟩);clear C aH bq P;go_wp2;go_ret2
   exact⟨0,5,rfl,aa.o,bx⟩
  have B:=bq.short xaa;have a5:V _:=bq;have G:V (xs.countP dig<=15):=by show _<=_;omega
  have R:k<=16:=by rw[bv.o]at B;exact B
  clear C aH bq P B;go_wp2_with fail;go_loopw [7,8,9] (λnv S aL W=>∃(j:Nat) (bQ D:Int),j<=k/\nv=hI bQ/\S=hI D/\aL=hI j/\V (bQ=(nds (xs.take j)).1/\D=(nds (xs.take j)).2.1)/\Drawn w W) (λ_ _ aL _=>k-(intOf aL).toNat)
  case atStart=>exact⟨0,0,1,Nat.zero_le _,rfl,rfl,rfl,⟨rfl,rfl⟩,bx⟩
  case round=>
   obtain⟨j,bQ,D,hj,rfl,rfl,rfl,h,m⟩:=hrel;obtain⟨N,aA,ab,aI⟩:=vg _ a5.o.digit j (hU bv.o hj) xaa;rw[<-h.o.1]at N aA;rw[<-h.o.2]at ab aI;by_cases y:j<k
   ·have c1:wr.cell? ⟨g,off+j,none⟩=some (.int .u8 (xs.getD j 0)):=by rw[m.cell];exact bl.o j y
    have r:j<xs.length:=hU bv.o y
    by_cases s:j=p
    ·have q:=(a5.o.point j r).2 s
     have aa:V (bQ=(nds (xs.take (j+1))).1/\D=(nds (xs.take (j+1))).2.1):=by
      obtain⟨aO,aR,_⟩:=Dh r q;exact⟨h.o.1.trans aO.symm,h.o.2.trans aR.symm⟩
     have I:(j !=p)=false:=by simp[s]
     clear h c1;go_wp2;go_roundw
     case rel=>exact⟨j+1,bQ,D,by omega,rfl,rfl,by go_num,aa,m⟩
     case measure=>simp[intOf];omega
    have q:xs.getD j 0≠46:=λc=>s ((a5.o.point j r).1 c);have aV:=tE (a5.o.digit j r q);obtain⟨aO,aR,_⟩:=Di r q;rw[a5.o.behind j xaa]at aR;have I:(j !=p)=true:=by simp[s]
    by_cases o:0<=p/\p<j
    ·rw[decide_eq_true o]at aR
     have aa:V (bQ*10+(xs.getD j 0-48)=(nds (xs.take (j+1))).1/\D*10=(nds (xs.take (j+1))).2.1):=by
      refine⟨?_,?_⟩
      ·rw[aO,h.o.1]
      rw[aR,h.o.2];rfl
     clear aO aR q h;generalize xs.getD j 0=x at c1 aV aa;have F:=o.1;have H:=o.2;go_wp2;go_roundw
     case rel=>exact⟨j+1,_,_,by omega,by go_num,by go_num,by go_num,aa,m⟩
     case measure=>simp[intOf];omega
    rw[yax o]at aR
    have aa:V (bQ*10+(xs.getD j 0-48)=(nds (xs.take (j+1))).1/\D=(nds (xs.take (j+1))).2.1):=by
     refine⟨?_,?_⟩
     ·rw[aO,h.o.1]
     rw[aR,h.o.2];rfl
    clear aO aR q h;generalize xs.getD j 0=x at c1 aV aa;by_cases F:0<=p
    ·have H:¬(p<j):=λc=>o ⟨F,c⟩;exact xif
    exact xif
   obtain rfl:j=k:=xaa;have e:=yao (by rw[bv.o];exact yad);rw[e]at h;have aa:V (∀W:World,RN _ (fop _ (floatOfInt _ bQ) (floatOfInt _ D) W) 0):=λW=>.inr (.inr ⟨⟨p,a5.o⟩,G.o,iE _ _ _ _,by rw[ik,h.o.1,h.o.2],rfl⟩);have aq:=λW=>kK (P:=prog) W 49 (floatOfInt .f64 bQ) (floatOfInt .f64 D);clear h e;go_wp2;go_ret2
   exact⟨_,0,rfl,aa.o _,m.more _⟩
theorem rm(w a n cap xs)(f:YS w a n xs)(hn:n<=1048576):
  Calls prog 55 #[.slice a n cap] w λe J=>∃f c,e=.returned (.tuple #[.float .f64 f,hI c])/\RN xs f c/\Drawn w J:=by
 rcases Nat.eq_zero_or_pos n with aj|aj
 ·subst aj;have:=List.length_eq_zero_iff.1 f.len;subst this;exact(y8 w a _).mono λ_ _ h=>⟨0,2,h.1,.inl ⟨λ⟨_,g⟩=>by have:=g.pos;grind,rfl,rfl⟩,h.2⟩
 rcases f.at_ with h|⟨g,off,rfl,h3,a8⟩
 ·omega
 exact AS w g _ n _ _ f.len aj hn f.lt a8
end
section
open Go.RowKit Flt
attribute [local go_sem] eG eE eD
structure TxS (w:World)(g off n:Nat)(t:List UInt8):Prop where
 len:t.length=n
 lt:g<w.heap.size
 at_:∀k,k<n->w.cell? ⟨g,off+k,none⟩=some (.int .u8 (bt t k))
theorem TxS.keep{w J g off n t}(h:TxS w g off n t)(k:Kept 0 0 w J):TxS J g off n t:=
 ⟨h.len,yaj h.lt k.size,λj hj=>(k.cell (p:=⟨g,off+j,none⟩) h.lt xaa).trans (h.at_ j hj)⟩
theorem og(c w):Calls prog 118 #[.int .u8 c] w λe J=>e=.returned (.bool (nQ c))/\J=w:=by
 cases B:decide (97<=c)
 ·have e:nQ c=(c==95):=by unfold nQ;rw[B];rfl
  exact xhc
 cases R:decide (c<=122)
 ·have e:nQ c=(c==95):=by unfold nQ;rw[B,R];rfl
  exact xhc
 have e:nQ c=true:=by unfold nQ;rw[B,R];rfl
 exact xhc
theorem FH(w g off n cap t)(f:TxS w g off n t)(i)(hi:i<=n)(hn:n<=1000000):
  Calls prog 88 #[.slice (some ⟨g,off,none⟩) n cap,hI i] w λe J=>e=.returned (hI (skM t i:Nat))/\J=w:=by
 have aP:V _:=f;obtain⟨E,b2⟩:∃E,E=skM t i:=⟨_,rfl⟩
 rw[<-b2];have HE:V _:=b2.symm;clear f b2;go_enter func88,ntmps88;go_wp2_with fail;go_loopw [1] (λaL W=>W=w/\∃k:Nat,k<=n/\aL=hI k/\V (skM t k=E)) (λaL _=>n-(intOf aL).toNat)
 case atStart=>exact⟨rfl,i,hi,rfl,HE⟩
 case round=>
  obtain⟨rfl,k,O,rfl,aH⟩:=hrel;by_cases aF:k<n
  ·have c1:=aP.o.at_ k aF;have m:V (k<t.length):=by show _<_;rw[aP.o.len];exact aF
   by_cases hb:AQ (bt t k)=true
   ·have aa:V _:=(De m.o hb).symm.trans aH.o;unfold AQ at hb;generalize bt t k=x at c1 hb;cases aQ:(x==32)
    ·cases a6:(x==9)
     ·cases bK:(x==13)
      ·have b1:(x==10)=true:=by simpa[aQ,a6,bK] using hb
       exact xea
      exact xea
     exact xea
    exact xea
   have K:AQ (bt t k)=false:=by simpa using hb
   by_cases p:bt t k=35
   ·have HR:V _:=(FD m.o p).symm.trans aH.o;have a5:V (k<gV si t k/\gV si t k<=t.length):=⟨oX m.o (by rw[p];decide),lS _ _ _ (Nat.le_of_lt m.o)⟩
    obtain⟨E2,q⟩:∃E2,E2=gV si t k:=⟨_,rfl⟩
    rw[<-q]at HR a5;have o:V _:=q.symm;rw[p]at c1;clear q hb K p aH;go_wp2_with fail;go_loopw [1] (λaL W=>W=wr/\∃j:Nat,j<=n/\aL=hI j/\V (gV si t j=E2)) (λaL _=>n-(intOf aL).toNat)
    case atStart=>exact⟨rfl,k,O,rfl,o⟩
    case round=>
     rename World=>W0
     obtain⟨rfl,j,hj,rfl,ak⟩:=hrel;by_cases l:j<n
     ·have c2:=aP.o.at_ j l;have r:V (j<t.length):=by show _<_;rw[aP.o.len];exact l
      cases bY:(bt t j==10)
      ·have aa:V _:=(xq r.o (by unfold si;rw[bY];rfl)).symm.trans ak.o;generalize bt t j=x at c2 bY;have a7:(x !=10)=true:=by unfold bne;rw[bY];rfl
       clear bY;go_wp2;exact xix
      have aa:V _:=(oW (λh=>by have:=h.2;unfold si at this;rw[bY]at this;cases this)).symm.trans ak.o;obtain rfl:=aa.o;generalize bt t j=x at c2 bY;have a7:(x !=10)=false:=by unfold bne;rw[bY];rfl
      clear bY;exact xik
     have aa:V _:=(oW (λh=>hR aP.o.len)).symm.trans ak.o;obtain rfl:=aa.o;exact xik
   have aa:V _:=(FE m.o K p).symm.trans aH.o;obtain rfl:=aa.o;unfold AQ at K;have bj:(bt t k==35)=false:=by simpa using p
   generalize bt t k=x at c1 K bj;simp only[Bool.or_eq_false_iff]at K;obtain⟨⟨⟨aQ,a6⟩,bK⟩,b1⟩:=K;clear p hb;go_wp2;go_ret;exact⟨rfl,rfl⟩
  have aa:V _:=(JH (hU aP.o.len aF)).symm.trans aH.o;obtain rfl:=aa.o;go_wp2;go_ret;exact⟨rfl,rfl⟩
end
section
open Go.RowKit Flt
variable {s x p y z:List UInt8}{n j:Nat}{t c o:Tok}{ts us:List Tok}{r:List (List UInt8)}
def iN:List UInt8:=[83,84,77,84,83]
def lD:List UInt8:=[80,65,82,65,77,83]
def gN:List UInt8:=[77,79,82,69,80,65,82,65,77,83]
def gU:List UInt8:=[69,88,80,82]
def f8:List UInt8:=[77,79,82,69,84,69,82,77,83]
def kG:List UInt8:=[84,69,82,77]
def fW:List UInt8:=[77,79,82,69,85,78,65,82,89]
def qz:List UInt8:=[67,65,76,76]
def nJ:List UInt8:=[65,82,71,83]
def io:List UInt8:=[77,79,82,69,65,82,71,83]
def lN:List UInt8:=[85,78,65,82,89]
def lh (s:List UInt8):List (List UInt8):=
 if s=[45] then[[45],lN] else
 if s=[110,97,109,101] then[[110,97,109,101],qz] else
 if s=[40] then[[40],gU,[41]] else
 if s=[101,120,112]\/s=[115,117,109] then[s,[40],gU,[41]] else
 if s=[109,97,120]\/s=[100,111,116] then[s,[40],gU,[44],gU,[41]] else
 if s=[115,101,108] then[s,[40],gU,[44],gU,[44],gU,[41]] else
 if s=[102,105,108,108]\/s=[112,105,99,107] then[s,[40],gU,[44],[105,110,116],[41]] else
 if s=[112,117,116] then[s,[40],gU,[44],[105,110,116],[44],[105,110,116],[41]] else
 if s=[103,114,97,100] then[s,[40],gU,[44],[110,97,109,101],[41]] else
 if s=[106,118,112] then[s,[40],gU,[44],[110,97,109,101],[44],gU,[41]] else
 if s=[100,101,99] then[[100,101,99]] else
 [[105,110,116]]
def gD (p s:List UInt8):List (List UInt8):=
 if p=iN then (if s=[105,110] then[[105,110],[110,97,109,101],[58],[105,110,116],[59],iN]else if s=[108,101,116] then[[108,101,116],[110,97,109,101],[61],gU,[59],iN]else if s=[114,101,112,101,97,116] then[[114,101,112,101,97,116],[105,110,116],[110,97,109,101],[61],gU,[59],iN]else if s=[100,101,102] then[[100,101,102],[110,97,109,101],[40],lD,[41],[61],gU,[59],iN]else if s=[111,117,116] then[[111,117,116],gU,[59],iN] else[]) else
 if p=lD then (if s=[110,97,109,101] then[[110,97,109,101],gN] else[]) else
 if p=gN then (if s=[44] then[[44],[110,97,109,101],gN] else[]) else
 if p=gU then ([kG,f8]) else
 if p=f8 then (if s=[43]\/s=[45] then[s,kG,f8] else[]) else
 if p=kG then ([lN,fW]) else
 if p=fW then (if s=[42]\/s=[47] then[s,lN,fW] else[]) else
 if p=qz then (if s=[40] then[[40],nJ,[41]] else[]) else
 if p=nJ then (if s=[41] then[] else[gU,io]) else
 if p=io then (if s=[44] then[[44],gU,io] else[]) else
 lh s
def jR (s:List UInt8):Bool:=decide (1<s.length)&&(decide (65<=bt s 0)&&decide (bt s 0<=90))
def wt (s:List UInt8):Nat:=if s=nJ then 7 else if s=gU then 5 else if s=kG then 3 else 1
def wts:List (List UInt8)->Nat
 |[]=>0
 |s::r=>wt s+wts r
def AT:List (List UInt8)->Bool
 |[]=>false
 |p::_=>jR p
def mu (st:List (List UInt8)):Nat:=if AT st=true then wts st+1 else 0
theorem AU(s):1<=wt s:=by
 unfold wt;grind
def UL:List (List UInt8):=[[45],[110,97,109,101],[40],[101,120,112],[115,117,109],[109,97,120],[100,111,116],[115,101,108],[102,105,108,108],[112,105,99,107],[112,117,116],[103,114,97,100],[106,118,112],[100,101,99]]
def RL:List (List UInt8):=[[105,110],[108,101,116],[114,101,112,101,97,116],[100,101,102],[111,117,116],[110,97,109,101],[44],[43],[45],[42],[47],[40],[41]]
def PQ:List (List UInt8):=[iN,lD,gN,gU,f8,kG,fW,qz,nJ,io]
theorem xu(h:¬s∈UL):lh s=[[105,110,116]]:=by
 simp_all [UL,lh]
theorem FJ(s)(h:¬p∈PQ):gD p s=lh s:=by
 simp_all [PQ,gD]
def ruN (p:List UInt8):List (List UInt8):=if p=gU then[kG,f8]else if p=kG then[lN,fW]else if p=nJ then[gU,io] else[]
theorem FK{p s}(h:p∈PQ)(ad:¬s∈RL):gD p s=ruN p:=by
 simp only[PQ,RL,List.mem_cons,List.not_mem_nil,or_false,not_or]at h ad;rcases h with rfl|rfl|rfl|rfl|rfl|rfl|rfl|rfl|rfl|rfl<;>simp[gD,ad]<;>rfl
theorem vi(s r):AT (lh s++r)=false:=by
 by_cases h:s∈UL
 ·simp only[UL,List.mem_cons,List.not_mem_nil,or_false]at h;rcases h with rfl|rfl|rfl|rfl|rfl|rfl|rfl|rfl|rfl|rfl|rfl|rfl|rfl|rfl<;>rfl
 rw[xu h];rfl
theorem tH(p s r):gD p s=[]\/AT (gD p s++r)=false\/(p=gU/\gD p s=[kG,f8])\/(p=kG/\gD p s=[lN,fW])\/(p=nJ/\gD p s=[gU,io]):=by
 by_cases h:p∈PQ
 ·by_cases ad:s∈RL
  ·simp only[PQ,RL,List.mem_cons,List.not_mem_nil,or_false]at h ad;rcases h with rfl|rfl|rfl|rfl|rfl|rfl|rfl|rfl|rfl|rfl<;>rcases ad with rfl|rfl|rfl|rfl|rfl|rfl|rfl|rfl|rfl|rfl|rfl|rfl|rfl<;>simp[gD,iN,lD,gN,gU,f8,kG,fW,qz,nJ,io,AT,jR,bt]
  rw[FK h ad];clear ad;simp only[PQ,List.mem_cons,List.not_mem_nil,or_false]at h;rcases h with rfl|rfl|rfl|rfl|rfl|rfl|rfl|rfl|rfl|rfl<;>grind [ruN]
 grind [FJ,vi]
theorem BT(p s r)(h:jR p=true):mu (gD p s++r)<mu (p::r):=by
 have e:mu (p::r)=wt p+wts r+1:=by unfold mu AT;rw[hK h];rfl
 rw[e];rcases tH p s r with c|c|⟨rfl,c⟩|⟨rfl,c⟩|⟨rfl,c⟩
 ·rw[c,List.nil_append];grind [AU,mu]
 ·grind [mu]
 all_goals
  rw[c]
  unfold mu
  split
  ·show wt _+(wt _+wts r)+1<_
   have B:wt kG=3:=xab
   have R:wt f8=1:=xab
   have h3:wt gU=5:=xab
   have a8:wt lN=1:=xab
   have bQ:wt fW=1:=xab
   have bV:wt io=1:=xab
   have aA:wt nJ=7:=xab
   omega
  ·omega
def iw (s:List UInt8)(st:List (List UInt8)):List (List UInt8):=
 match st with
 |[]=>[]
 |p::r=>if _h:jR p=true then iw s (gD p s++r)else p::r
termination_by mu st
decreasing_by exact BT p s r _h
theorem nC(s):iw s []=[]:=by rw[iw]
theorem i8(h:jR p=true):iw s (p::r)=iw s (gD p s++r):=by rw[iw,dif_pos h]
theorem me(h:jR p=false):iw s (p::r)=p::r:=by rw[iw,dif_neg (by rw[h];simp)]
def JK:List UInt8:=[101,110,100]
def fH (n:Nat):List Tok->List (List UInt8)->Int
 |[],st=>if iw JK st=[]then -1 else (n:Int)
 |t::ts,st=>match iw t.sym st with
  |[]=>(t.pos:Int)
  |p::r=>if p=t.sym then fH n ts r else (t.pos:Int)
theorem vm(s):1<=(lh s).length/\(lh s).length<=8:=by
 by_cases h:s∈UL
 ·revert s;decide
 rw[xu h];decide
theorem y9(p s):(gD p s).length<=9:=by
 by_cases h:p∈PQ
 ·by_cases ad:s∈RL
  ·exact(show ∀p∈PQ,∀s∈RL,(gD p s).length<=9 by decide) p h s ad
  rw[FK h ad];revert p;decide
 rw[FJ s h];have:=vm s;omega
inductive Ex where
 |num (t:Tok)
 |name (t:Tok)
 |neg (o:Tok) (e:Ex)
 |bin (o:Tok) (a b:Ex)
 |call (t:Tok) (es:List Ex)
 |key1 (k:Tok) (e:Ex)
 |key2 (k:Tok) (a b:Ex)
 |key3 (k:Tok) (a b c:Ex)
 |keyN (k:Tok) (e:Ex) (n:Tok)
 |put (k:Tok) (e:Ex) (i n:Tok)
 |grad (k:Tok) (e:Ex) (x:Tok)
 |jvp (k:Tok) (e:Ex) (x:Tok) (d:Ex)
def zd:List UInt8:=[101,120,112]
def FL:List UInt8:=[115,117,109]
def AV:List UInt8:=[109,97,120]
def JL:List UInt8:=[100,111,116]
def ze:List UInt8:=[115,101,108]
def vn:List UInt8:=[102,105,108,108]
def qA:List UInt8:=[112,105,99,107]
def Dj:List UInt8:=[112,117,116]
def BU:List UInt8:=[103,114,97,100]
def JM:List UInt8:=[106,118,112]
inductive Pr:Nat->List Ex->List Tok->Prop
 |up01 {e:Ex}{ts:List Tok}:Pr 0 [e] ts->Pr 1 [e] ts
 |up12 {e:Ex}{ts:List Tok}:Pr 1 [e] ts->Pr 2 [e] ts
 |add {a b:Ex}{ts us:List Tok}{o:Tok}:Pr 2 [a] ts->(o.sym=[43]\/o.sym=[45])->Pr 1 [b] us->Pr 2 [.bin o a b] (ts++o::us)
 |mul {a b:Ex}{ts us:List Tok}{o:Tok}:Pr 1 [a] ts->(o.sym=[42]\/o.sym=[47])->Pr 0 [b] us->Pr 1 [.bin o a b] (ts++o::us)
 |neg {e:Ex}{ts:List Tok}{o:Tok}:o.sym=[45]->Pr 0 [e] ts->Pr 0 [.neg o e] (o::ts)
 |num {t:Tok}:(t.sym=iK\/t.sym=lg)->Pr 0 [.num t] [t]
 |name {t:Tok}:t.sym=gS->Pr 0 [.name t] [t]
 |par {e:Ex}{ts:List Tok}{l r:Tok}:l.sym=[40]->Pr 2 [e] ts->r.sym=[41]->Pr 0 [e] (l::(ts++[r]))
 |call0 {t l r:Tok}:t.sym=gS->l.sym=[40]->r.sym=[41]->Pr 0 [.call t []] [t,l,r]
 |call {es:List Ex}{ts:List Tok}{t l r:Tok}:t.sym=gS->l.sym=[40]->Pr 3 es ts->r.sym=[41]->Pr 0 [.call t es] (t::l::(ts++[r]))
 |arg1 {e:Ex}{ts:List Tok}:Pr 2 [e] ts->Pr 3 [e] ts
 |argM {es:List Ex}{e:Ex}{ts us:List Tok}{c:Tok}:Pr 3 es ts->c.sym=[44]->Pr 2 [e] us->Pr 3 (es++[e]) (ts++c::us)
 |key1 {e:Ex}{ts:List Tok}{k l r:Tok}:(k.sym=zd\/k.sym=FL)->l.sym=[40]->Pr 2 [e] ts->r.sym=[41]->Pr 0 [.key1 k e] (k::l::(ts++[r]))
 |key2 {a b:Ex}{ts us:List Tok}{k l c r:Tok}:(k.sym=AV\/k.sym=JL)->l.sym=[40]->Pr 2 [a] ts->c.sym=[44]->Pr 2 [b] us->r.sym=[41]->Pr 0 [.key2 k a b] (k::l::(ts++c::(us++[r])))
 |key3 {a b d:Ex}{ts us ws:List Tok}{k l c c2 r:Tok}:k.sym=ze->l.sym=[40]->Pr 2 [a] ts->c.sym=[44]->Pr 2 [b] us->c2.sym=[44]->Pr 2 [d] ws->r.sym=[41]->Pr 0 [.key3 k a b d] (k::l::(ts++c::(us++c2::(ws++[r]))))
 |keyN {e:Ex}{ts:List Tok}{k l c n r:Tok}:(k.sym=vn\/k.sym=qA)->l.sym=[40]->Pr 2 [e] ts->c.sym=[44]->n.sym=iK->r.sym=[41]->Pr 0 [.keyN k e n] (k::l::(ts++[c,n,r]))
 |put {e:Ex}{ts:List Tok}{k l c i c2 n r:Tok}:k.sym=Dj->l.sym=[40]->Pr 2 [e] ts->c.sym=[44]->i.sym=iK->c2.sym=[44]->n.sym=iK->r.sym=[41]->Pr 0 [.put k e i n] (k::l::(ts++[c,i,c2,n,r]))
 |grad {e:Ex}{ts:List Tok}{k l c x r:Tok}:k.sym=BU->l.sym=[40]->Pr 2 [e] ts->c.sym=[44]->x.sym=gS->r.sym=[41]->Pr 0 [.grad k e x] (k::l::(ts++[c,x,r]))
 |jvp {e d:Ex}{ts us:List Tok}{k l c x c2 r:Tok}:k.sym=JM->l.sym=[40]->Pr 2 [e] ts->c.sym=[44]->x.sym=gS->c2.sym=[44]->Pr 2 [d] us->r.sym=[41]->Pr 0 [.jvp k e x d] (k::l::(ts++c::x::c2::(us++[r])))
structure OpS where
 i:Nat
 d:Int
 at_:Int
 b:Bool
def ja (s:List UInt8):Bool:=s==gS||s==iK||s==lg||s==[41]
def iO (x y:List UInt8)(q:OpS)(t:Tok):OpS:=
 if t.sym=[40] then⟨q.i+1,q.d+1,q.at_,ja t.sym⟩
 else if t.sym=[41] then⟨q.i+1,q.d-1,q.at_,ja t.sym⟩
 else⟨q.i+1,q.d,if q.d=0/\q.b=true/\(t.sym=x\/t.sym=y)then (q.i:Int)else q.at_,ja t.sym⟩
def jI (x y:List UInt8)(q:OpS)(ts:List Tok):OpS:=ts.foldl (iO x y) q
theorem fy(x y q a b):jI x y q (a++b)=jI x y (jI x y q a) b:=by unfold jI;grind
theorem eH(x y q t b):jI x y q (t::b)=jI x y (iO x y q t) b:=rfl
theorem fO(x y q):jI x y q []=q:=rfl
theorem neL(h:s=x)(au:x≠z:=by decide):s≠z:=h ▸ au
theorem neO(h:s=x\/s=y)(au:x≠z:=by decide)(bV:y≠z:=by decide):s≠z:=by grind
theorem xv{q}(h:t.sym=[40]):iO x y q t=⟨q.i+1,q.d+1,q.at_,false⟩:=by unfold iO;rw[hK h,h];rfl
theorem xw{q}(h:t.sym=[41]):iO x y q t=⟨q.i+1,q.d-1,q.at_,true⟩:=by unfold iO;rw[hJ (neL h),hK h,h];rfl
theorem mT{q}(B:t.sym≠[40])(R:t.sym≠[41])(h3:¬(q.d=0/\q.b=true/\(t.sym=x\/t.sym=y))):iO x y q t=⟨q.i+1,q.d,q.at_,ja t.sym⟩:=by grind [iO]
theorem xy{q}(B:t.sym≠[40])(R:t.sym≠[41])(h3:q.d=0/\q.b=true/\(t.sym=x\/t.sym=y)):iO x y q t=⟨q.i+1,q.d,q.i,ja t.sym⟩:=by grind [iO]
theorem tI{i d e a b}(B:i=j)(R:d=e):(⟨i,d,a,b⟩:OpS)=⟨j,e,a,b⟩:=by rw[B,R]
theorem opq{i:Nat}{d e a:Int}{b:Bool}(B:i=j:=by first|(simp;done)|(simp;omega))(R:d=e:=by omega):(⟨i,d,a,b⟩:OpS)=⟨j,e,a,b⟩:=tI B R
theorem JN{es}(h:Pr n es ts):∀(i:Nat) (d a:Int) (b:Bool),0<d->jI x y ⟨i,d,a,b⟩ ts=⟨i+ts.length,d,a,true⟩:=by
 have q:∀(i:Nat) (d a:Int) (b:Bool) (t:Tok),0<d->t.sym≠[40]->t.sym≠[41]->iO x y ⟨i,d,a,b⟩ t=⟨i+1,d,a,_⟩:=λi d a b t aq B R=>mT B R (λc=>by grind);have H:∀(i:Nat) (d a:Int) (b:Bool) (t:Tok),t.sym=[40]->iO x y ⟨i,d,a,b⟩ t=⟨i+1,d+1,a,_⟩:=λi d a b t h=>xv h;have u:∀(i:Nat) (d a:Int) (b:Bool) (t:Tok),t.sym=[41]->iO x y ⟨i,d,a,b⟩ t=⟨i+1,d-1,a,_⟩:=λi d a b t h=>xw h;induction h with
 |up01 _ ag=>exact ag
 |up12 _ ag=>exact ag
 |@add a b ts us o _ av _ g m=>
  intro i d bw bb aq;rw[fy,g _ _ _ _ aq,eH,q _ _ _ _ o aq (neO av) (neO av),m _ _ _ _ aq];exact opq
 |@mul a b ts us o _ av _ g m=>
  intro i d bw bb aq;rw[fy,g _ _ _ _ aq,eH,q _ _ _ _ o aq (neO av) (neO av),m _ _ _ _ aq];exact opq
 |@neg e ts o av _ ag=>
  intro i d bw bb aq;rw[eH,q _ _ _ _ o aq (neL av) (neL av),ag _ _ _ _ aq];exact opq
 |@num t ht=>
  intro i d bw bb aq;have Z:ja t.sym=true:=by rcases ht with c|c<;>rw[c]<;>decide
  rw[eH,q _ _ _ _ t aq (neO ht) (neO ht),fO,Z];exact opq
 |@name t ht=>
  intro i d bw bb aq;have Z:ja t.sym=true:=by rw[ht];decide
  rw[eH,q _ _ _ _ t aq (neL ht) (neL ht),fO,Z];exact opq
 |@par e ts l r ah _ ay ag=>
  intro i d bw bb aq;have f:0<d+1:=xaa;rw[eH,H _ _ _ _ l ah,fy,ag _ _ _ _ f,eH,u _ _ _ _ r ay,fO];exact opq
 |@call0 t l r ht ah ay=>
  intro i d bw bb aq;rw[eH,q _ _ _ _ t aq (neL ht) (neL ht),eH,H _ _ _ _ l ah,eH,u _ _ _ _ r ay,fO];exact opq
 |@call es ts t l r ht ah _ ay ag=>
  intro i d bw bb aq;have f:0<d+1:=xaa;rw[eH,q _ _ _ _ t aq (neL ht) (neL ht),eH,H _ _ _ _ l ah,fy,ag _ _ _ _ f,eH,u _ _ _ _ r ay,fO];exact opq
 |arg1 _ ag=>exact ag
 |@argM es e ts us c _ ai _ g m=>
  intro i d bw bb aq;rw[fy,g _ _ _ _ aq,eH,q _ _ _ _ c aq (neL ai) (neL ai),m _ _ _ _ aq];exact opq
 |@key1 e ts k l r O ah _ ay ag=>
  intro i d bw bb aq;have f:0<d+1:=xaa;rw[eH,q _ _ _ _ k aq (neO O) (neO O),eH,H _ _ _ _ l ah,fy,ag _ _ _ _ f,eH,u _ _ _ _ r ay,fO];exact opq
 |@key2 a b ts us k l c r O ah _ ai _ ay g m=>
  intro i d bw bb aq;have f:0<d+1:=xaa;rw[eH,q _ _ _ _ k aq (neO O) (neO O),eH,H _ _ _ _ l ah,fy,g _ _ _ _ f,eH,q _ _ _ _ c f (neL ai) (neL ai),fy,m _ _ _ _ f,eH,u _ _ _ _ r ay,fO];exact opq
 |@key3 a b bD ts us F k l c c2 r O ah _ ai _ Y _ ay g m v=>
  intro i d bw bb aq;have f:0<d+1:=xaa;rw[eH,q _ _ _ _ k aq (neL O) (neL O),eH,H _ _ _ _ l ah,fy,g _ _ _ _ f,eH,q _ _ _ _ c f (neL ai) (neL ai),fy,m _ _ _ _ f,eH,q _ _ _ _ _ f (neL Y) (neL Y),fy,v _ _ _ _ f,eH,u _ _ _ _ r ay,fO];exact opq
 |@keyN e ts k l c b5 r O ah _ ai hn ay ag=>
  intro i d bw bb aq;have f:0<d+1:=xaa;rw[eH,q _ _ _ _ k aq (neO O) (neO O),eH,H _ _ _ _ l ah,fy,ag _ _ _ _ f,eH,q _ _ _ _ c f (neL ai) (neL ai),eH,q _ _ _ _ _ f (neL hn) (neL hn),eH,u _ _ _ _ r ay,fO];exact opq
 |@put e ts k l c bK c2 b5 r O ah _ ai hi Y hn ay ag=>
  intro i d bw bb aq;have f:0<d+1:=xaa;rw[eH,q _ _ _ _ k aq (neL O) (neL O),eH,H _ _ _ _ l ah,fy,ag _ _ _ _ f,eH,q _ _ _ _ c f (neL ai) (neL ai),eH,q _ _ _ _ _ f (neL hi) (neL hi),eH,q _ _ _ _ _ f (neL Y) (neL Y),eH,q _ _ _ _ _ f (neL hn) (neL hn),eH,u _ _ _ _ r ay,fO];exact opq
 |@grad e ts k l c bL r O ah _ ai hn ay ag=>
  intro i d bw bb aq;have f:0<d+1:=xaa;rw[eH,q _ _ _ _ k aq (neL O) (neL O),eH,H _ _ _ _ l ah,fy,ag _ _ _ _ f,eH,q _ _ _ _ c f (neL ai) (neL ai),eH,q _ _ _ _ _ f (neL hn) (neL hn),eH,u _ _ _ _ r ay,fO];exact opq
 |@jvp e bD ts us k l c bL c2 r O ah _ ai hn Y _ ay g m=>
  intro i d bw bb aq;have f:0<d+1:=xaa;rw[eH,q _ _ _ _ k aq (neL O) (neL O),eH,H _ _ _ _ l ah,fy,g _ _ _ _ f,eH,q _ _ _ _ c f (neL ai) (neL ai),eH,q _ _ _ _ _ f (neL hn) (neL hn),eH,q _ _ _ _ _ f (neL Y) (neL Y),fy,m _ _ _ _ f,eH,u _ _ _ _ r ay,fO];exact opq
theorem jt(i a t)(B:t.sym≠[40])(R:t.sym≠[41]):iO x y ⟨i,0,a,false⟩ t=⟨i+1,0,a,ja t.sym⟩:=mT B R (λc=>by grind)
theorem sl0(i a b t)(h:t.sym=[40]):iO x y ⟨i,0,a,b⟩ t=⟨i+1,1,a,false⟩:=xv h
theorem sr1(i a b t)(h:t.sym=[41]):iO x y ⟨i,1,a,b⟩ t=⟨i+1,0,a,true⟩:=xw h
theorem so1(i a b t)(B:t.sym≠[40])(R:t.sym≠[41]):iO x y ⟨i,1,a,b⟩ t=⟨i+1,1,a,ja t.sym⟩:=mT B R (λc=>by grind)
theorem oh{es}(h:Pr n es ts):n=0->∀(i:Nat) (a:Int),jI x y ⟨i,0,a,false⟩ ts=⟨i+ts.length,0,a,true⟩:=by
 have f:∀{n:Nat}{es:List _}{ts:List _},Pr n es ts->∀(i:Nat) (a:Int) (b:Bool),jI x y _ _=⟨_,1,a,_⟩:=λh i a b=>JN h i 1 a b xab;induction h with
 |up01 _ _=>omega
 |up12 _ _=>omega
 |add _ _ _ _ _=>omega
 |mul _ _ _ _ _=>omega
 |arg1 _ _=>omega
 |argM _ _ _ _ _=>omega
 |@neg e ts o av _ ag=>
  intro _ i a;have Z:ja o.sym=false:=by rw[av];decide
  rw[eH,jt i a o (neL av) (neL av),Z,ag rfl];grind
 |@num t ht=>
  intro _ i a;have Z:ja t.sym=true:=by rcases ht with c|c<;>rw[c]<;>decide
  rw[eH,jt i a t (neO ht) (neO ht),fO,Z];rfl
 |@name t ht=>
  intro _ i a;have Z:ja t.sym=true:=by rw[ht];decide
  rw[eH,jt i a t (neL ht) (neL ht),fO,Z];rfl
 |@par e ts l r ah B ay _=>
  grind [eH,sl0,fy,sr1,fO]
 |@call0 t l r ht ah ay=>
  intro _ i a;rw[eH,jt i a t (neL ht) (neL ht),eH,sl0 _ _ _ l ah,eH,sr1 _ _ _ r ay,fO];rfl
 |@call es ts t l r ht ah B ay _=>
  intro _ i a;rw[eH,jt i a t (neL ht) (neL ht),eH,sl0 _ _ _ l ah,fy,f B,eH,sr1 _ _ _ r ay,fO];grind
 |@key1 e ts k l r O ah B ay _=>
  intro _ i a;rw[eH,jt i a k (neO O) (neO O),eH,sl0 _ _ _ l ah,fy,f B,eH,sr1 _ _ _ r ay,fO];grind
 |@key2 bw bb ts us k l c r O ah B ai R ay _ _=>
  intro _ i a;rw[eH,jt i a k (neO O) (neO O),eH,sl0 _ _ _ l ah,fy,f B,eH,so1 _ _ _ c (neL ai) (neL ai),fy,f R,eH,sr1 _ _ _ r ay,fO];grind
 |@key3 bw bb bD ts us F k l c c2 r O ah B ai R Y h3 ay _ _ _=>
  intro _ i a;rw[eH,jt i a k (neL O) (neL O),eH,sl0 _ _ _ l ah,fy,f B,eH,so1 _ _ _ c (neL ai) (neL ai),fy,f R,eH,so1 _ _ _ _ (neL Y) (neL Y),fy,f h3,eH,sr1 _ _ _ r ay,fO];grind
 |@keyN e ts k l c b5 r O ah B ai hn ay _=>
  intro _ i a;rw[eH,jt i a k (neO O) (neO O),eH,sl0 _ _ _ l ah,fy,f B,eH,so1 _ _ _ c (neL ai) (neL ai),eH,so1 _ _ _ _ (neL hn) (neL hn),eH,sr1 _ _ _ r ay,fO];grind
 |@put e ts k l c bK c2 b5 r O ah B ai hi Y hn ay _=>
  intro _ i a;rw[eH,jt i a k (neL O) (neL O),eH,sl0 _ _ _ l ah,fy,f B,eH,so1 _ _ _ c (neL ai) (neL ai),eH,so1 _ _ _ _ (neL hi) (neL hi),eH,so1 _ _ _ _ (neL Y) (neL Y),eH,so1 _ _ _ _ (neL hn) (neL hn),eH,sr1 _ _ _ r ay,fO];exact tI yaf rfl
 |@grad e ts k l c bL r O ah B ai hn ay _=>
  intro _ i a;rw[eH,jt i a k (neL O) (neL O),eH,sl0 _ _ _ l ah,fy,f B,eH,so1 _ _ _ c (neL ai) (neL ai),eH,so1 _ _ _ _ (neL hn) (neL hn),eH,sr1 _ _ _ r ay,fO];grind
 |@jvp e bD ts us k l c bL c2 r O ah B ai hn Y R ay _ _=>
  intro _ i a;rw[eH,jt i a k (neL O) (neL O),eH,sl0 _ _ _ l ah,fy,f B,eH,so1 _ _ _ c (neL ai) (neL ai),eH,so1 _ _ _ _ (neL hn) (neL hn),eH,so1 _ _ _ _ (neL Y) (neL Y),fy,f R,eH,sr1 _ _ _ r ay,fO];exact tI yaf rfl
theorem BV{es}(h:Pr n es ts):n=1->∀(i:Nat) (a:Int),jI [43] [45] ⟨i,0,a,false⟩ ts=⟨i+ts.length,0,a,true⟩:=by
 induction h with
 |up01 aj _=>intro _ i a;exact oh aj rfl i a
 |@mul bw bb ts us o _ av R g _=>
  intro _ i a;have l:¬(o.sym=[43]\/o.sym=[45]):=by grind
  have Z:ja o.sym=false:=by rcases av with c|c<;>rw[c]<;>decide
  rw[fy,g rfl,eH,mT (neO av) (neO av) (λc=>l c.2.2),Z,oh R rfl];grind
 |up12 _ _=>omega
 |add _ _ _ _ _=>omega
 |arg1 _ _=>omega
 |argM _ _ _ _ _=>omega
 |neg _ _ _=>omega
 |num _=>omega
 |name _=>omega
 |par _ _ _ _=>omega
 |call0 _ _ _=>omega
 |call _ _ _ _ _=>omega
 |key1 _ _ _ _ _=>omega
 |key2 _ _ _ _ _ _ _ _=>omega
 |key3 _ _ _ _ _ _ _ _ _ _ _=>omega
 |keyN _ _ _ _ _ _ _=>omega
 |put _ _ _ _ _ _ _ _ _=>omega
 |grad _ _ _ _ _ _ _=>omega
 |jvp _ _ _ _ _ _ _ _ _ _=>omega
theorem FM{es}(h:Pr n es ts):n<=2->∀(i:Nat) (a:Int),∃af,jI x y ⟨i,0,a,false⟩ ts=⟨i+ts.length,0,af,true⟩:=by
 have l:∀{es:List _}{ts:List _},Pr 0 es ts->∀(i:Nat) (a:Int),∃af,jI x y _ _=⟨_,0,af,_⟩:=λh i a=>⟨a,oh h rfl i a⟩
 have cu:∀{ts us:List _}{o:Tok},o.sym≠[40]->o.sym≠[41]->ja o.sym=false->(∀(i:Nat) (a:Int),∃af,jI x y ⟨i,0,a,false⟩ ts=⟨i+ts.length,0,af,true⟩)->(∀(i:Nat) (a:Int),∃af,jI x y ⟨i,0,a,false⟩ us=⟨i+us.length,0,af,true⟩)->∀(i:Nat) (a:Int),∃af,jI x y ⟨i,0,a,false⟩ (ts++o::us)=⟨i+(ts++o::us).length,0,af,true⟩:=by
  intro ts us o Y U Z B R i a;obtain⟨a1,ae⟩:=B i a;rw[fy,ae,eH];by_cases c:x=o.sym\/y=o.sym
  ·rw[xy Y U ⟨rfl,rfl,c.imp Eq.symm Eq.symm⟩,Z];obtain⟨a2,a9⟩:=R (i+ts.length+1) _;exact⟨a2,by rw[a9];exact tI yaf rfl⟩
  rw[mT Y U (λd=>c (d.2.2.imp Eq.symm Eq.symm)),Z];obtain⟨a2,a9⟩:=R (i+ts.length+1) a1;exact⟨a2,by rw[a9];exact tI yaf rfl⟩
 induction h with
 |up01 _ ag=>grind
 |up12 _ ag=>grind
 |@add bw bb ts us o _ av _ g m=>
  exact λ_=>cu (by grind) (by grind) (by rcases av with c|c<;>rw[c]<;>decide) (g xab) (m xab)
 |@mul bw bb ts us o _ av _ g m=>
  exact λ_=>cu (by grind) (by grind) (by rcases av with c|c<;>rw[c]<;>decide) (g xab) (m xab)
 |arg1 _ _=>omega
 |argM _ _ _ _ _=>omega
 |neg av B _=>exact λ_=>l (.neg av B)
 |num h=>exact λ_=>l (.num h)
 |name h=>exact λ_=>l (.name h)
 |par B R h3 _=>exact λ_=>l (.par B R h3)
 |call0 B R h3=>exact λ_=>l (.call0 B R h3)
 |call B R h3 a8 _=>exact λ_=>l (.call B R h3 a8)
 |key1 B R h3 a8 _=>exact λ_=>l (.key1 B R h3 a8)
 |key2 B R h3 a8 bQ bV _ _=>exact λ_=>l (.key2 B R h3 a8 bQ bV)
 |key3 B R h3 a8 bQ bV aA aa _ _ _=>exact λ_=>l (.key3 B R h3 a8 bQ bV aA aa)
 |keyN B R h3 a8 bQ bV _=>exact λ_=>l (.keyN B R h3 a8 bQ bV)
 |put B R h3 a8 bQ bV aA aa _=>exact λ_=>l (.put B R h3 a8 bQ bV aA aa)
 |grad B R h3 a8 bQ bV _=>exact λ_=>l (.grad B R h3 a8 bQ bV)
 |jvp B R h3 a8 bQ bV aA aa _ _=>exact λ_=>l (.jvp B R h3 a8 bQ bV aA aa)
def opM (x y:List UInt8)(ts:List Tok):Int:=(jI x y ⟨0,0,-1,false⟩ ts).at_
theorem mB{e}(h:Pr 0 [e] ts):opM x y ts=-1:=by
 unfold opM;rw[oh h rfl]
theorem FN{e}(h:Pr 1 [e] ts):opM [43] [45] ts=-1:=by
 unfold opM;rw[BV h rfl]
theorem Nd{a b}(B:Pr 2 [a] ts)(av:o.sym=[43]\/o.sym=[45])(R:Pr 1 [b] us):opM [43] [45] (ts++o::us)=(ts.length:Int):=by
 unfold opM;obtain⟨af,e⟩:=FM (x:=[43]) (y:=[45]) B xab 0 (-1);rw[fy,e,eH,xy (by grind) (by grind) ⟨rfl,rfl,av⟩,show ja _=false by rcases av with c|c<;>rw[c]<;>decide,BV R rfl];simp
theorem Nf{a b}(B:Pr 1 [a] ts)(av:o.sym=[42]\/o.sym=[47])(R:Pr 0 [b] us):opM [42] [47] (ts++o::us)=(ts.length:Int):=by
 unfold opM;obtain⟨af,e⟩:=FM (x:=[42]) (y:=[47]) B xab 0 (-1);rw[fy,e,eH,xy (by grind) (by grind) ⟨rfl,rfl,av⟩,show ja _=false by rcases av with c|c<;>rw[c]<;>decide,oh R rfl];simp
def cm (d:Int):List Tok->Option Int
 |[]=>some d
 |t::ts=>if t.sym=[40]then cm (d+1) ts else if t.sym=[41]then cm (d-1) ts else if t.sym=[44]/\d=0 then none else cm d ts
theorem hY{d}(h:t.sym=[40]):cm d (t::ts)=cm (d+1) ts:=by rw[cm,hK h]
theorem ib{d}(h:t.sym=[41]):cm d (t::ts)=cm (d-1) ts:=by grind [cm]
theorem AW{d}(B:t.sym≠[40])(R:t.sym≠[41])(h3:t.sym≠[44]):cm d (t::ts)=cm d ts:=by grind [cm]
theorem iq{d:Int}(h:t.sym=x)(au:x≠[40]/\x≠[41]/\x≠[44]:=by decide):cm d (t::ts)=cm d ts:=by subst h;exact AW au.1 au.2.1 au.2.2
theorem lP{d:Int}(h:t.sym=x\/t.sym=y)(au:x≠[40]/\x≠[41]/\x≠[44]:=by decide)(bV:y≠[40]/\y≠[41]/\y≠[44]:=by decide):cm d (t::ts)=cm d ts:=by rcases h with h|h<;>exact iq h ‹_›
theorem jf{d}(h:t.sym=[44])(aV:d≠0):cm d (t::ts)=cm d ts:=by grind [cm]
theorem gj:∀(a b:List Tok) (d e:Int),cm d a=some e->cm d (a++b)=cm e b
 |[],b,d,e,h=>by cases h;rfl
 |t::a,b,d,e,h=>by
  rw[List.cons_append]
  by_cases B:t.sym=[40]
  ·rw[hY B]at h⊢;exact gj a b _ _ h
  ·by_cases R:t.sym=[41]
   ·rw[ib R]at h⊢;exact gj a b _ _ h
   ·by_cases h3:t.sym=[44]
    ·by_cases a8:d=0
     ·grind [cm]
     ·rw[jf h3 a8]at h⊢;exact gj a b _ _ h
    ·rw[AW B R h3]at h⊢;exact gj a b _ _ h
theorem iP(d):cm d []=some d:=rfl
theorem JO{es}(h:Pr n es ts):∀d:Int,0<d->cm d ts=some d:=by
 induction h with
 |up01 _ ag=>exact ag
 |up12 _ ag=>exact ag
 |arg1 _ ag=>exact ag
 |@add a b ts us o _ av _ g m=>
  intro d aV;rw[gj _ _ _ _ (g _ aV),lP av,m _ aV]
 |@mul a b ts us o _ av _ g m=>
  intro d aV;rw[gj _ _ _ _ (g _ aV),lP av,m _ aV]
 |@neg e ts o av _ ag=>
  intro d aV;rw[iq av,ag _ aV]
 |@num t ht=>
  intro d aV;rw[lP ht,iP]
 |@name t ht=>
  intro d aV;rw[iq ht,iP]
 |@par e ts l r ah _ ay ag=>
  intro d aV;have f:0<d+1:=xaa;rw[hY ah,gj _ _ _ _ (ag _ f),ib ay,iP];grind
 |@call0 t l r ht ah ay=>
  intro d aV;have f:0<d+1:=xaa;rw[iq ht,hY ah,ib ay,iP];grind
 |@call es ts t l r ht ah _ ay ag=>
  intro d aV;have f:0<d+1:=xaa;rw[iq ht,hY ah,gj _ _ _ _ (ag _ f),ib ay,iP];grind
 |@argM es e ts us c _ ai _ g m=>
  intro d aV;rw[gj _ _ _ _ (g _ aV),jf ai xaa,m _ aV]
 |@key1 e ts k l r O ah _ ay ag=>
  intro d aV;have f:0<d+1:=xaa;rw[lP O,hY ah,gj _ _ _ _ (ag _ f),ib ay,iP];grind
 |@key2 a b ts us k l c r O ah _ ai _ ay g m=>
  intro d aV;have f:0<d+1:=xaa;rw[lP O,hY ah,gj _ _ _ _ (g _ f),jf ai xaa,gj _ _ _ _ (m _ f),ib ay,iP];grind
 |@key3 a b bD ts us F k l c c2 r O ah _ ai _ Y _ ay g m v=>
  intro d aV;have f:0<d+1:=xaa;rw[iq O,hY ah,gj _ _ _ _ (g _ f),jf ai xaa,gj _ _ _ _ (m _ f),jf Y xaa,gj _ _ _ _ (v _ f),ib ay,iP];grind
 |@keyN e ts k l c b5 r O ah _ ai hn ay ag=>
  intro d aV;have f:0<d+1:=xaa;rw[lP O,hY ah,gj _ _ _ _ (ag _ f),jf ai xaa,iq hn,ib ay,iP];grind
 |@put e ts k l c bK c2 b5 r O ah _ ai hi Y hn ay ag=>
  intro d aV;have f:0<d+1:=xaa;rw[iq O,hY ah,gj _ _ _ _ (ag _ f),jf ai xaa,iq hi,jf Y xaa,iq hn,ib ay,iP];grind
 |@grad e ts k l c bL r O ah _ ai hn ay ag=>
  intro d aV;have f:0<d+1:=xaa;rw[iq O,hY ah,gj _ _ _ _ (ag _ f),jf ai xaa,iq hn,ib ay,iP];grind
 |@jvp e bD ts us k l c bL c2 r O ah _ ai hn Y _ ay g m=>
  intro d aV;have f:0<d+1:=xaa;rw[iq O,hY ah,gj _ _ _ _ (g _ f),jf ai xaa,iq hn,jf Y xaa,gj _ _ _ _ (m _ f),ib ay,iP];grind
theorem jS{es}(h:Pr n es ts):n<=2->cm 0 ts=some 0:=by
 have f:∀{n:Nat}{es:List Ex}{ts:List Tok},Pr n es ts->cm (0+1) ts=some (0+1):=λh=>JO h _ xab;induction h with
 |up01 _ ag=>exact λ_=>ag xab
 |up12 _ ag=>exact λ_=>ag xab
 |arg1 _ _=>intro h;omega
 |argM _ _ _ _ _=>intro h;omega
 |@add a b ts us o _ av _ g m=>
  intro _;rw[gj _ _ _ _ (g xab),lP av,m xab]
 |@mul a b ts us o _ av _ g m=>
  intro _;rw[gj _ _ _ _ (g xab),lP av,m xab]
 |@neg e ts o av _ ag=>
  intro _;rw[iq av,ag xab]
 |@num t ht=>
  intro _;rw[lP ht,iP]
 |@name t ht=>
  intro _;rw[iq ht,iP]
 |@par e ts l r ah B ay _=>
  intro _;rw[hY ah,gj _ _ _ _ (f B),ib ay,iP];rfl
 |@call0 t l r ht ah ay=>
  intro _;rw[iq ht,hY ah,ib ay,iP];rfl
 |@call es ts t l r ht ah B ay _=>
  intro _;rw[iq ht,hY ah,gj _ _ _ _ (f B),ib ay,iP];rfl
 |@key1 e ts k l r O ah B ay _=>
  intro _;rw[lP O,hY ah,gj _ _ _ _ (f B),ib ay,iP];rfl
 |@key2 a b ts us k l c r O ah B ai R ay _ _=>
  intro _;rw[lP O,hY ah,gj _ _ _ _ (f B),jf ai xab,gj _ _ _ _ (f R),ib ay,iP];rfl
 |@key3 a b bD ts us F k l c c2 r O ah B ai R Y h3 ay _ _ _=>
  intro _;rw[iq O,hY ah,gj _ _ _ _ (f B),jf ai xab,gj _ _ _ _ (f R),jf Y xab,gj _ _ _ _ (f h3),ib ay,iP];rfl
 |@keyN e ts k l c b5 r O ah B ai hn ay _=>
  intro _;rw[lP O,hY ah,gj _ _ _ _ (f B),jf ai xab,iq hn,ib ay,iP];rfl
 |@put e ts k l c bK c2 b5 r O ah B ai hi Y hn ay _=>
  intro _;rw[iq O,hY ah,gj _ _ _ _ (f B),jf ai xab,iq hi,jf Y xab,iq hn,ib ay,iP];rfl
 |@grad e ts k l c bL r O ah B ai hn ay _=>
  intro _;rw[iq O,hY ah,gj _ _ _ _ (f B),jf ai xab,iq hn,ib ay,iP];rfl
 |@jvp e bD ts us k l c bL c2 r O ah B ai hn Y R ay _ _=>
  intro _;rw[iq O,hY ah,gj _ _ _ _ (f B),jf ai xab,iq hn,jf Y xab,gj _ _ _ _ (f R),ib ay,iP];rfl
structure SpS where
 d:Int
 cur:List Tok
 ou:List (List Tok)
def iQ (q:SpS)(t:Tok):SpS:=
 if t.sym=[40] then⟨q.d+1,q.cur++[t],q.ou⟩
 else if t.sym=[41] then⟨q.d-1,q.cur++[t],q.ou⟩
 else if t.sym=[44]/\q.d=0 then⟨0,[],q.ou++[q.cur]⟩
 else⟨q.d,q.cur++[t],q.ou⟩
def mf (q:SpS)(ts:List Tok):SpS:=ts.foldl iQ q
theorem oY(q a b):mf q (a++b)=mf (mf q a) b:=by unfold mf;grind
theorem li(q t b):mf q (t::b)=mf (iQ q t) b:=rfl
theorem qB:∀(ts:List Tok) (d e:Int) (H:List Tok) (out:List (List Tok)),cm d ts=some e->mf ⟨d,H,out⟩ ts=⟨e,H++ts,out⟩
 |[],d,e,H,out,h=>by cases h;show(⟨d,H,out⟩:SpS)=_;grind
 |t::ts,d,e,H,out,h=>by
  rw[li]
  by_cases B:t.sym=[40]
  ·rw[hY B]at h
   rw[show iQ ⟨d,H,out⟩ t=⟨d+1,H++[t],out⟩ by unfold iQ;rw[hK B],qB ts _ _ _ _ h,List.append_assoc];rfl
  ·by_cases R:t.sym=[41]
   ·rw[ib R]at h
    rw[show iQ ⟨d,H,out⟩ t=⟨d-1,H++[t],out⟩ by unfold iQ;rw[hJ B,hK R],qB ts _ _ _ _ h,List.append_assoc];rfl
   ·by_cases h3:t.sym=[44]/\d=0
    ·grind [cm]
    ·have h':cm d ts=some e:=by grind [cm]
     rw[show iQ _ t=⟨d,H++[t],out⟩ by grind [iQ],qB _ _ _ _ _ h',List.append_assoc];rfl
theorem tJ(h:c.sym=[44])(H out):iQ ⟨0,H,out⟩ c=⟨0,[],out++[H]⟩:=by
 grind [iQ]
def f9 (ts:List Tok):List (List Tok):=if ts=[] then[]else (mf ⟨0,[],[]⟩ ts).ou++[(mf ⟨0,[],[]⟩ ts).cur]
theorem tK(B:t.sym≠[40])(R:t.sym≠[41])(h3:t.sym≠[44]):cm 0 [t]=some 0:=by rw[AW B R h3];rfl
theorem LL{es}(h:Pr n es ts):ts≠[]:=by
 induction h<;>simp_all<;>grind
theorem Ng(bT:ts≠[])(h:cm 0 ts=some 0):f9 ts=[ts]:=by
 simp_all [f9,qB]
theorem AX(h:cm 0 ts=some 0)(ai:c.sym=[44])(R:cm 0 us=some 0):f9 (ts++c::us)=[ts,us]:=by
 simp_all [f9,oY,qB,li,tJ]
theorem AY{F c2}(h:cm 0 ts=some 0)(ai:c.sym=[44])(R:cm 0 us=some 0)(Y:c2.sym=[44])(h3:cm 0 F=some 0):f9 (ts++c::(us++c2::F))=[ts,us,F]:=by
 simp_all [f9,oY,qB,li,tJ]
theorem AZ{es}(h:Pr n es ts):n=3->∃(d:List (List Tok)) (l:List Tok),mf ⟨0,[],[]⟩ ts=⟨0,l,d⟩/\(d++[l]).length=es.length/\∀i,i<es.length->Pr 2 [es.getD i (.num hN)] ((d++[l]).getD i []):=by
 induction h with
 |@arg1 e ts B _=>
  intro _;refine⟨[],ts,?_,rfl,λi hi=>?_⟩
  ·rw[qB _ 0 0 _ _ (jS B xab)];rfl
  simp_all
 |@argM es e ts us c B ai R ag _=>
  intro _;obtain⟨d,l,ae,a9,ak⟩:=ag rfl;refine⟨d++[l],us,?_,by simp at a9⊢;omega,λi hi=>?_⟩
  ·rw[oY,ae,li,tJ ai,qB _ 0 0 _ _ (jS R xab)];rfl
  grind
 |up01 _ _=>omega
 |up12 _ _=>omega
 |add _ _ _ _ _=>omega
 |mul _ _ _ _ _=>omega
 |neg _ _ _=>omega
 |num _=>omega
 |name _=>omega
 |par _ _ _ _=>omega
 |call0 _ _ _=>omega
 |call _ _ _ _ _=>omega
 |key1 _ _ _ _ _=>omega
 |key2 _ _ _ _ _ _ _ _=>omega
 |key3 _ _ _ _ _ _ _ _ _ _ _=>omega
 |keyN _ _ _ _ _ _ _=>omega
 |put _ _ _ _ _ _ _ _ _=>omega
 |grad _ _ _ _ _ _ _=>omega
 |jvp _ _ _ _ _ _ _ _ _ _=>omega
theorem A0{es}(h:Pr 3 es ts):(f9 ts).length=es.length/\∀i,i<es.length->Pr 2 [es.getD i (.num hN)] ((f9 ts).getD i []):=by
 grind [AZ,f9,LL]
theorem Nh(t i j):(kZ t i j).length<=t.length:=by
 grind [kZ]
theorem FP(t i)(h:i<t.length):(nxT t i).text.length<=t.length:=by
 grind [nxT,Nh,lB]
theorem zh(t i):∀K∈kT t i,K.text.length<=t.length:=by
 intro K az;rw[kT]at az;split at az
 ·rename_i h;split at az
  ·grind [FP]
  rcases List.mem_cons.1 az with c|c
  ·subst c;exact FP t i h
  exact zh t _ _ c
 cases az
termination_by t.length-i
decreasing_by
 grind [tG,pK]
theorem JP(t j):((jH t).getD j hN).text.length<=t.length:=by
 by_cases h:j<(jH t).length
 ·refine zh t (skM t 0) _ ?_;exact xjs
 rw[yah,List.getElem?_eq_none xaa];exact Nat.zero_le _
end
section
open Go.ChangeShapes Go.WideShapes Go.ChangeAt Go.RowKit Flt
theorem Dk:prog.cellsOf 5=1:=by kernel_rfl
theorem zi:laidOutB prog=true:=by kernel_rfl
theorem tL{H enc w base p g a n cap}{d:DataW H}{aS}
  (h:DataW.Trod enc prog w base p g 22 (.slice a n cap) d aS):n<=cap/\∃xs,YS w a n xs:=by
 obtain⟨t,bb⟩:=h;rcases Deep.open_slice1 underlying22 Dk bb with⟨aL,_⟩|⟨x,l,c,m,r,Vaa,D,s,aL,_,ah,_,az,_,z⟩
 ·simp[Value.cells]at aL;obtain⟨rfl,rfl,rfl⟩:=aL;exact⟨yad,[],rfl,by simp,.inl rfl⟩
 simp[Value.cells]at aL;obtain⟨rfl,rfl,rfl⟩:=aL;refine⟨ah,?_⟩;have av:n<=m:=by grind
 have aw:∀i,i<n->∃b:Int,w.cell? _=some _/\0<=b/\b<256:=λi hi=>by
  obtain⟨B,R⟩:=z i xaa
  obtain⟨b,e,S⟩:=DataW.trod_int underlying5 R
  simp at e
  have hb:0<=b/\b<256:=by
   have:=S.2
   simp[Lit.wf,IntKind.min,IntKind.max,IntKind.signed,IntKind.bits]at this
   omega
  exact⟨b,by rw[B,e],hb.1,hb.2⟩
 obtain⟨f,o⟩:=Deep.choose_lt aw;refine⟨(List.range n).map f,by simp,?_,?_⟩
 ·simp_all
 rcases Nat.eq_zero_or_pos n with aj|aj
 ·exact .inl aj
 obtain⟨b,off,q⟩:=x;have j:q=none:=by simpa[Addr.add] using World.cell?_spot (o 0 aj).1
 subst j
 have R:∀k,k<n->w.cell? ⟨b,off+k,_⟩=some (.int _ (((List.range n).map f).getD k 0)):=λk O=>by
  have B:=(o k O).1
  rw[show((List.range n).map f).getD k 0=f k by grind]
  by_cases F:k=0
  ·subst F;simpa[Addr.add] using B
  ·simpa[Addr.add,F] using B
 have hb:=World.block_lt_of_cell? (h:=R 0 aj);grind
