import Derived.Test.YtaheilbiakhlgaaGreatP02
namespace Go.Proofs.Z
open Tryz
set_option maxRecDepth 1000000
set_option maxHeartbeats 0
section
open Go.RowKit Flt
attribute[local go_sem] eF eE eD
structure YS(w:World)(a:Option Addr)(n:Nat)(xs:List Int):Prop where
 len:xs.length=n
 lt:∀x∈xs,0<=x/\x<256
 at_:n=0\/∃g off,a=some ⟨g,off,none⟩/\g<w.heap.size/\∀k,k<n->w.cell? ⟨g,off+k,none⟩=some (.int .u8 (xs.getD k 0))
theorem YS.keep{w J a n xs}(f:YS w a n xs)(k:Kept 0 0 w J):YS J a n xs:=
 ⟨f.len,f.lt,by
  rcases f.at_ with ai|⟨g,off,e,h3,a6⟩
  ·exact .inl ai
  ·exact .inr ⟨g,_,e,yaj h3 k.size,λj hj=>by rw[k.cell h3 xaa];grind⟩⟩
end
section
open Go.RowKit Flt
variable{xs:List Int}{t:List UInt8}{k i j:Nat}{p l:Int}
def dig(c:Int):Bool:=decide (48<=c)&&decide (c<=57)
theorem sR{c}(h:dig c=true):48<=c/\c<=57:=by simp[dig]at h;exact h
theorem wK:dig 46=false:=xab
structure GoodAt(xs:List Int)(p:Int):Prop where
 pos:0<xs.length
 point:∀i,i<xs.length->(xs.getD i 0=46↔(i:Int)=p)
 digit:∀i,i<xs.length->xs.getD i 0≠46->dig (xs.getD i 0)=true
 place:p=-1\/(0<p/\p+1<xs.length)
def wL(xs:List Int):Prop:=∃p,GoodAt xs p
def nst(s:Int×Int×Bool)(c:Int):Int×Int×Bool:=if c=46 then (s.1,s.2.1,true)else (s.1*10+(c-48),if s.2.2 then s.2.1*10 else s.2.1,s.2.2)
def nds(xs:List Int):Int×Int×Bool:=xs.foldl nst (0,1,false)
theorem uI(xs:List Int)(k)(O:k<xs.length):xs.take (k+1)=xs.take k++[xs.getD k 0]:=by
 simp_all
theorem qr(xs:List Int)(k)(O:k<xs.length):nds (xs.take (k+1))=nst (nds (xs.take k)) (xs.getD k 0):=by
 rw[uI _ k O,nds,List.foldl_append];rfl
theorem qt(q)(xs:List Int)(k)(O:k<xs.length):(xs.take (k+1)).countP q=(xs.take k).countP q+if q (xs.getD k 0)then 1 else 0:=by
 rw[uI _ k O,List.countP_append];grind
theorem uJ(xs:List Int)(h:∀i,i<xs.length->xs.getD i 0≠46->dig (xs.getD i 0)=true):∀k,k<=xs.length->
  0<=(nds (xs.take k)).1/\(nds (xs.take k)).1<10 ^ k/\1<=(nds (xs.take k)).2.1/\(nds (xs.take k)).2.1<=10 ^ k
 |0,_=>by simp[nds]
 |k+1,O=>by
  obtain⟨B,U,h3,a6⟩:=uJ _ h k xaa
  have aF:(10:Int) ^ (k+1)=10 ^ k*10:=xaa
  rw[qr _ k xaa,aF]
  unfold nst
  by_cases c:xs.getD k 0=46
  ·grind
  ·rw[hG c]
   have:=sR (h k xaa c)
   grind
theorem OO(h:k<=16):(10:Int) ^ k<=10000000000000000:=by
 have:(10:Int) ^ k<=10 ^ 16:=by
  have e:((10 ^ k:Nat):Int)<=(10 ^ 16:Nat):=Int.ofNat_le.2 (Nat.pow_le_pow_right xab h);simpa using e
 omega
theorem uK(xs:List Int)(h:∀i,i<xs.length->xs.getD i 0≠46->dig (xs.getD i 0)=true)(k)(O:k<=xs.length)(e:k<=16):
  0<=(nds (xs.take k)).1/\(nds (xs.take k)).1<=10000000000000000/\1<=(nds (xs.take k)).2.1/\(nds (xs.take k)).2.1<=10000000000000000:=by
 obtain⟨B,U,h3,a6⟩:=uJ _ h k O;have:=OO e;omega
theorem yr(xs:List Int)(h:∀i,i<xs.length->xs.getD i 0≠46->dig (xs.getD i 0)=true):∀k,k<=xs.length->
  (xs.take k).countP dig+(xs.take k).countP (· ==46)=k
 |0,_=>by simp
 |k+1,O=>by
  have Q:=yr _ h k xaa
  grind[qt,wK]
theorem GoodAt.points(h:GoodAt xs p):∀k,k<=xs.length->(xs.take k).countP (· ==46)=if 0<=p/\p<k then 1 else 0
 |0,_=>by grind
 |k+1,O=>by
  rw[qt _ _ k xaa,h.points k xaa]
  by_cases c:xs.getD k 0=46
  ·have:=(h.point k xaa).1 c
   grind
  ·have:¬k=p:=λe=>c ((h.point k xaa).2 e)
   grind
theorem GoodAt.short(h:GoodAt xs p)(G:xs.countP dig<=15):xs.length<=16:=by
 have B:=yr _ h.digit _ yad;have U:=h.points _ yad;grind
theorem GoodAt.behind(h:GoodAt xs p):∀k,k<=xs.length->(nds (xs.take k)).2.2=decide (0<=p/\p<k)
 |0,_=>by rw[yax xaa];rfl
 |k+1,O=>by
  have Q:=h.behind k xaa
  rw[qr _ k xaa]
  unfold nst
  by_cases c:xs.getD k 0=46
  ·have:=(h.point k xaa).1 c
   grind
  ·have:¬k=p:=λe=>c ((h.point k xaa).2 e)
   grind
def RN(xs:List Int)(f:Nat)(c:Int):Prop:=
 (¬wL xs/\f=0/\c=2)\/(wL xs/\15<xs.countP dig/\f=0/\c=5)\/
 (wL xs/\xs.countP dig<=15/\f<18446744073709551616/\fb f=fb (cop .quo (floatOfInt .f64 (nds xs).1) (floatOfInt .f64 (nds xs).2.1))/\c=0)
structure Mid(xs:List Int)(k:Nat)(p:Int)(dg:Int):Prop where
 count:dg=((xs.take k).countP dig:Nat)
 point:∀i,i<k->(xs.getD i 0=46↔(i:Int)=p)
 digit:∀i,i<k->xs.getD i 0≠46->dig (xs.getD i 0)=true
 place:p=-1\/(0<=p/\p<k)
theorem CL(xs):Mid xs 0 (-1) 0:=⟨rfl,λi hi=>by omega,λi hi=>by omega,.inl rfl⟩
theorem Mid.digitStep(h:Mid xs k p l)(O:k<xs.length)(G:dig (xs.getD k 0)=true):Mid xs (k+1) p (l+1):=by
 have hn:xs.getD k 0≠46:=λe=>by rw[e]at G;cases G
 refine⟨?_,?_,?_,?_⟩
 ·rw[qt _ _ k O,G,h.count];simp
 ·intro i hi;by_cases e:i=k
  ·subst e;refine⟨λc=>absurd c hn,λc=>?_⟩;rcases h.place with q|q<;>omega
  exact h.point i xaa
 ·exact xkr
 rcases h.place with q|q<;>grind
theorem Mid.pointStep(h:Mid xs k p l)(O:k<xs.length)(G:xs.getD k 0=46)(aF:p<0):Mid xs (k+1) k l:=by
 refine⟨?_,?_,?_,?_⟩
 ·rw[qt _ _ k O,G,wK,h.count];simp
 ·intro i hi;by_cases e:i=k
  ·simp_all
  refine⟨λc=>?_,λc=>by omega⟩;have:=(h.point i xaa).1 c;omega
 ·exact xkr
 omega
theorem Mid.bad(h:Mid xs k p l)(O:k<xs.length)(G:dig (xs.getD k 0)=false)(hb:xs.getD k 0≠46\/0<=p):¬wL xs:=by
 rintro⟨q,g⟩;by_cases c:xs.getD k 0=46
 ·rcases hb with hb|hb
  ·exact hb c
  have af:=(g.point k O).1 c;rcases h.place with ai|ai
  ·omega
  obtain⟨m,rfl⟩:=Int.eq_ofNat_of_zero_le ai.1;have B:=(h.point m xaa).2 rfl;have:=(g.point m xaa).1 B;omega
 have:=g.digit k O c;grind
theorem Mid.good(h:Mid xs xs.length p l)(ai:0<xs.length)(B:p≠0)(U:p≠(xs.length:Int)-1):GoodAt xs p:=
 ⟨ai,h.point,h.digit,by rcases h.place with q|q<;>omega⟩
theorem Mid.notGood(h:Mid xs xs.length p l)(hb:xs.length=0\/p=0\/p=(xs.length:Int)-1)(ai:0<xs.length->0<=p):¬wL xs:=by
 rintro⟨q,g⟩;have aF:=g.pos;have:=ai aF;obtain⟨m,rfl⟩:=Int.eq_ofNat_of_zero_le this;have aw:m<xs.length:=xaa;have B:=(h.point m aw).2 rfl;have:=(g.point m aw).1 B;rcases g.place with q|q<;>omega
def bt(t:List UInt8)(k:Nat):Int:=((t.getD k 0).toNat:Int)
def nR(x:Int):Bool:=decide (97<=x)&&decide (x<=122)||x==95
def qu(x:Int):Bool:=nR x||dig x
def Ap(x:Int):Bool:=x==32||x==9||x==13||x==10
def rY(x:Int):Bool:=!(x==10)
def gW(p:Int->Bool)(t:List UInt8)(j:Nat):Nat:=if j<t.length/\p (bt t j)=true then gW p t (j+1)else j
termination_by t.length-j
decreasing_by omega
theorem oX{p}(h:¬(j<t.length/\p (bt t j)=true)):gW p t j=j:=by rw[gW,hG h]
theorem wM{p}(B:j<t.length)(U:p (bt t j)=true):gW p t j=gW p t (j+1):=by rw[gW,hI ⟨B,U⟩]
theorem nC(p t j):j<=gW p t j:=by
 rw[gW];split
 ·have:=nC p t (j+1);omega
 omega
termination_by t.length-j
decreasing_by omega
theorem lQ(p t j)(h:j<=t.length):gW p t j<=t.length:=by
 rw[gW];split
 ·exact lQ p t _ xaa
 exact h
termination_by t.length-j
decreasing_by omega
theorem oY{p}(B:j<t.length)(U:p (bt t j)=true):j<gW p t j:=by
 grind[wM,nC]
theorem yt{p t}(j):∀k,j<=k->k<gW p t j->p (bt t k)=true:=by
 intro k B U;rw[gW]at U;split at U
 ·rename_i c;by_cases e:k=j
  ·grind
  exact yt _ k xaa U
 omega
termination_by t.length-j
decreasing_by omega
def skM(t:List UInt8)(i:Nat):Nat:=
 if h:i<t.length then
  if Ap (bt t i)=true then skM t (i+1)
  else if _h2:bt t i=35 then skM t (gW rY t i)else i
 else i
termination_by t.length-i
decreasing_by
 ·omega
 ·grind[oY,rY]
theorem Jh(h:¬i<t.length):skM t i=i:=by rw[skM,dif_neg h]
theorem CN(h:i<t.length)(B:Ap (bt t i)=true):skM t i=skM t (i+1):=by rw[skM,dif_pos h,hI B]
theorem Fg(h:i<t.length)(B:bt t i=35):skM t i=skM t (gW rY t i):=by
 rw[skM,dif_pos h,hG (by rw[B];decide),dif_pos B]
theorem Fh(h:i<t.length)(B:Ap (bt t i)=false)(U:bt t i≠35):skM t i=i:=by
 grind[skM]
theorem pI(t i):i<=skM t i:=by
 rw[skM];split
 ·rename_i h;split
  ·have:=pI t (i+1);omega
  split
  ·rename_i U;have h3:=oY (p:=rY) h (by rw[U];decide);have:=pI t (gW rY t i);omega
  omega
 omega
termination_by t.length-i
decreasing_by
 ·omega
 ·omega
theorem wN(t i)(hi:i<=t.length):skM t i<=t.length:=by
 rw[skM];split
 ·rename_i h;split
  ·exact wN t _ xaa
  split
  ·rename_i U;have h3:=oY (p:=rY) h (by rw[U];decide);exact wN t _ (lQ _ _ _ hi)
  omega
 omega
termination_by t.length-i
decreasing_by
 ·omega
 ·omega
structure Tok where
 sym:List UInt8
 pos:Nat
 text:List UInt8
def hL:Tok:=⟨[],0,[]⟩
def kY(t:List UInt8)(i j:Nat):List UInt8:=(t.drop i).take (j-i)
theorem yu(h:j<=t.length):(kY t i j).length=j-i:=by
 grind[kY]
def gU:List UInt8:=[110,97,109,101]
def iE:List UInt8:=[105,110,116]
def kZ:List UInt8:=[100,101,99]
def keysL:List (List UInt8):=[[105,110],[108,101,116],[111,117,116],[100,101,102],[114,101,112,101,97,116],[101,120,112],[115,117,109],[109,97,120],[100,111,116],[115,101,108],[102,105,108,108],[112,105,99,107],[112,117,116],[103,114,97,100],[106,118,112]]
def onesL:List UInt8:=[43,45,42,47,40,41,44,59,58,61]
def mH(s:List UInt8):List UInt8:=if s∈keysL then s else gU
def lr(x:UInt8):List UInt8:=if x∈onesL then[x] else[]
def rZ(t:List UInt8)(i:Nat):Nat:=if gW dig t i+1<t.length/\bt t (gW dig t i)=46/\dig (bt t (gW dig t i+1))=true then gW dig t (gW dig t i+1)else gW dig t i
def sS(t:List UInt8)(i:Nat):List UInt8:=if gW dig t i+1<t.length/\bt t (gW dig t i)=46/\dig (bt t (gW dig t i+1))=true then kZ else iE
def nxE(t:List UInt8)(i:Nat):Nat:=if nR (bt t i)=true then gW qu t i else if dig (bt t i)=true then rZ t i else i+1
def nxT(t:List UInt8)(i:Nat):Tok:=
 if nR (bt t i)=true then⟨mH (kY t i (gW qu t i)),i,kY t i (gW qu t i)⟩
 else if dig (bt t i)=true then⟨sS t i,i,kY t i (rZ t i)⟩
 else⟨lr (t.getD i 0),i,lr (t.getD i 0)⟩
theorem Ji(h:i<t.length)(G:dig (bt t i)=true):i<rZ t i:=by
 grind[rZ,nC,gW]
theorem Jj(h:i<t.length):rZ t i<=t.length:=by
 grind[lQ,rZ]
theorem sT(h:i<t.length):i<nxE t i:=by
 grind[nxE,oY,qu,Ji]
theorem Fi(h:i<t.length):nxE t i<=t.length:=by
 grind[nxE,lQ,Jj]
def kU(t:List UInt8)(i:Nat):List Tok:=
 if _h:i<t.length then
  if (nxT t i).sym=[] then[nxT t i]else nxT t i::kU t (skM t (nxE t i))
 else[]
termination_by t.length-i
decreasing_by
 grind[sT,pI]
theorem CO(h:¬i<t.length):kU t i=[]:=by rw[kU,dif_neg h]
theorem CP(h:i<t.length)(B:(nxT t i).sym=[]):kU t i=[nxT t i]:=by rw[kU,dif_pos h,hI B]
theorem Fj(h:i<t.length)(B:(nxT t i).sym≠[]):kU t i=nxT t i::kU t (skM t (nxE t i)):=by rw[kU,dif_pos h,hG B]
theorem uL(t i):(kU t i).length<=t.length-i:=by
 rw[kU];split
 ·rename_i h;split
  ·simp;omega
  have B:=sT h;have U:=pI t (nxE t i);have h3:=uL t (skM t (nxE t i));grind
 simp
termination_by t.length-i
decreasing_by omega
def jE(t:List UInt8):List Tok:=kU t (skM t 0)
theorem qw(t):(jE t).length<=t.length:=by
 grind[uL,jE]
theorem lu(c w):Calls prog 101 #[.int .u8 c] w λe J=>e=.returned (.bool (dig c))/\J=w:=by
 by_cases B:48<=c
 ·have e:dig c=decide (c<=57):=by unfold dig;rw[decide_eq_true B];rfl
  exact xke
 have e:dig c=false:=by unfold dig;rw[yax B];rfl
 have t:=yax B;exact xke
theorem yv(w a cap):
  Calls prog 61 #[.slice a 0 cap] w λe J=>e=.returned (.tuple #[.float .f64 0,hF 2])/\Drawn w J:=by
 go_enter func61,ntmps61;go_wp2_with fail;refine wp_loop_rounds 1 ?_;rw[rounds_succ];go_wp2;go_ret2
 exact⟨rfl,Drawn.refl _⟩
theorem CQ(O:k<xs.length)(h:xs.getD k 0=46):(nds (xs.take (k+1))).1=(nds (xs.take k)).1/\(nds (xs.take (k+1))).2.1=(nds (xs.take k)).2.1/\(nds (xs.take (k+1))).2.2=true:=by
 grind[qr,nst]
theorem CR(O:k<xs.length)(h:xs.getD k 0≠46):(nds (xs.take (k+1))).1=(nds (xs.take k)).1*10+(xs.getD k 0-48)/\(nds (xs.take (k+1))).2.1=(if (nds (xs.take k)).2.2 then (nds (xs.take k)).2.1*10 else (nds (xs.take k)).2.1)/\(nds (xs.take (k+1))).2.2=(nds (xs.take k)).2.2:=by
 grind[qr,nst]
theorem Aq(w g off n cap xs)(ap:xs.length=n)(ai:0<n)(hn:n<=1048576)(aB:∀x∈xs,0<=x/\x<256)
  (ak:∀k,k<n->w.cell? ⟨g,off+k,none⟩=some (.int .u8 (xs.getD k 0))):
  Calls prog 61 #[.slice (some ⟨g,off,none⟩) n cap] w λe J=>∃f c,e=.returned (.tuple #[.float .f64 f,hF c])/\RN xs f c/\Drawn w J:=by
 have bg:V _:=ak;have bu:V _:=ap;have HL:V _:=aB;clear ak ap aB;go_enter func61,ntmps61;go_wp2_with fail;go_loopw [4,5,6] (λe2 X aM W=>∃(k:Nat) (p l:Int),k<=n/\e2=hF p/\X=hF l/\aM=hF k/\V (Mid xs k p l)/\(0<=l/\l<=k/\-1<=p/\p<n)/\Drawn w W) (λ_ _ aM _=>n-(intOf aM).toNat)
 case atStart=>exact⟨0,_,0,Nat.zero_le _,rfl,rfl,rfl,CL _,⟨by omega,by omega,by omega,by omega⟩,Drawn.refl _⟩
 case round=>
  obtain⟨k,p,l,O,rfl,rfl,rfl,C,⟨ay,aw,z,Q⟩,bp⟩:=hrel;by_cases aB:k<n
  ·have c1:wr.cell? ⟨g,off+k,none⟩=some (.int .u8 (xs.getD k 0)):=by rw[bp.cell];exact bg.o k aB
   have HD:V _:=lu (xs.getD k 0) wr;have u:k<xs.length:=hR bu.o aB
   cases t:dig (xs.getD k 0)
   ·by_cases q:xs.getD k 0=46
    ·by_cases aF:p<0
     ·have R:V _:=C.o.pointStep u q aF;rw[q]at c1 HD;rw[wK]at HD;clear t q C;exact xiy
     have R:V (RN _ 0 2):=.inl ⟨C.o.bad u t (.inr xaa),rfl,rfl⟩;have U:=aF;rw[q]at c1 HD;rw[wK]at HD;exact xhr
    have R:V (RN _ 0 2):=.inl ⟨C.o.bad u t (.inl q),rfl,rfl⟩;have aX:=yam q;rw[t]at HD;generalize xs.getD k 0=x at c1 HD aX;exact xhr
   have R:V _:=C.o.digitStep u t;rw[t]at HD;generalize xs.getD k 0=x at c1 HD;clear t C;exact xiy
  obtain rfl:k=n:=xaa;have ar:Mid xs xs.length p l:=hR bu.o C.o
  by_cases aa:p=0
  ·have R:V (RN _ 0 2):=.inl ⟨ar.notGood (.inr (.inl aa)) (λ_=>by omega),rfl,rfl⟩;subst aa;clear C ar;go_wp2;go_ret2
   exact⟨0,2,rfl,R.o,bp⟩
  by_cases v:p=k-1
  ·have R:V (RN _ 0 2):=.inl ⟨ar.notGood (.inr (.inr (hR bu.o v))) (λ_=>by omega),rfl,rfl⟩;have aO:=yam aa;have aX:(p==k-1)=true:=by grind
   clear C ar;go_wp2;go_ret2
   exact⟨0,2,rfl,R.o,bp⟩
  have bl:=ar.good (hR bu.o ai) aa (hR bu.o v)
  have Y:l=(xs.countP dig:Nat):=by
   have:=ar.count;rw[yao yad]at this;exact this
  have aO:=yam aa;have aX:=yam v;have bf:((k:Int)==0)=false:=yam xaa;by_cases P:15<l
  ·have R:V (RN _ 0 5):=.inr (.inl ⟨⟨p,bl⟩,by omega,rfl,rfl⟩);clear C ar bl Y;go_wp2;go_ret2
   exact⟨0,5,rfl,R.o,bp⟩
  have B:=bl.short xaa;have bk:V _:=bl;have H:V (xs.countP dig<=15):=by show _<=_;omega
  have S:k<=16:=by rw[bu.o]at B;exact B
  clear C ar bl Y B;go_wp2_with fail;go_loopw [7,8,9] (λnv X aM W=>∃(j:Nat) (bK D:Int),j<=k/\nv=hF bK/\X=hF D/\aM=hF j/\V (bK=(nds (xs.take j)).1/\D=(nds (xs.take j)).2.1)/\Drawn w W) (λ_ _ aM _=>k-(intOf aM).toNat)
  case atStart=>exact⟨0,0,1,Nat.zero_le _,rfl,rfl,rfl,⟨rfl,rfl⟩,bp⟩
  case round=>
   obtain⟨j,bK,D,hj,rfl,rfl,rfl,h,m⟩:=hrel;obtain⟨N,aD,ad,an⟩:=uK _ bk.o.digit j (hR bu.o hj) xaa;rw[<-h.o.1]at N aD;rw[<-h.o.2]at ad an;by_cases y:j<k
   ·have c1:wr.cell? ⟨g,off+j,none⟩=some (.int .u8 (xs.getD j 0)):=by rw[m.cell];exact bg.o j y
    have r:j<xs.length:=hR bu.o y
    by_cases s:j=p
    ·have q:=(bk.o.point j r).2 s
     have R:V (bK=(nds (xs.take (j+1))).1/\D=(nds (xs.take (j+1))).2.1):=by
      obtain⟨aK,aP,_⟩:=CQ r q;exact⟨h.o.1.trans aK.symm,h.o.2.trans aP.symm⟩
     have K:(j !=p)=false:=by simp[s]
     clear h c1;go_wp2;go_roundw;exact⟨j+1,bK,D,by omega,rfl,rfl,by go_num,R,m⟩;simp[intOf];omega
    have q:xs.getD j 0≠46:=λc=>s ((bk.o.point j r).1 c);have G:=sR (bk.o.digit j r q);obtain⟨aK,aP,_⟩:=CR r q;rw[bk.o.behind j xaa]at aP;have K:(j !=p)=true:=by simp[s]
    by_cases o:0<=p/\p<j
    ·rw[decide_eq_true o]at aP
     have R:V (bK*10+(xs.getD j 0-48)=(nds (xs.take (j+1))).1/\D*10=(nds (xs.take (j+1))).2.1):=by
      refine⟨?_,?_⟩
      ·rw[aK,h.o.1]
      rw[aP,h.o.2];rfl
     clear aK aP q h;generalize xs.getD j 0=x at c1 G R;have F:=o.1;have I:=o.2;go_wp2;go_roundw;exact⟨j+1,_,_,by omega,by go_num,by go_num,by go_num,R,m⟩;simp[intOf];omega
    rw[yax o]at aP
    have R:V (bK*10+(xs.getD j 0-48)=(nds (xs.take (j+1))).1/\D=(nds (xs.take (j+1))).2.1):=by
     refine⟨?_,?_⟩
     ·rw[aK,h.o.1]
     rw[aP,h.o.2];rfl
    clear aK aP q h;generalize xs.getD j 0=x at c1 G R;by_cases F:0<=p
    ·have I:¬(p<j):=λc=>o ⟨F,c⟩;exact xid
    exact xid
   obtain rfl:j=k:=xaa;have e:=yao (by rw[bu.o];exact yad);rw[e]at h;have R:V (∀W:World,RN _ (fop _ (floatOfInt _ bK) (floatOfInt _ D) W) 0):=λW=>.inr (.inr ⟨⟨p,bk.o⟩,H.o,iB _ _ _ _,by rw[ie,h.o.1,h.o.2],rfl⟩);have ao:=λW=>kL (P:=prog) W 38 (floatOfInt .f64 bK) (floatOfInt .f64 D);clear h e;go_wp2;go_ret2
   exact⟨_,0,rfl,R.o _,m.more _⟩
theorem ri(w a n cap xs)(f:YS w a n xs)(hn:n<=1048576):
  Calls prog 61 #[.slice a n cap] w λe J=>∃f c,e=.returned (.tuple #[.float .f64 f,hF c])/\RN xs f c/\Drawn w J:=by
 rcases Nat.eq_zero_or_pos n with ai|ai
 ·subst ai;have:=List.length_eq_zero_iff.1 f.len;subst this;exact(yv w a _).mono λ_ _ h=>⟨0,2,h.1,.inl ⟨λ⟨_,g⟩=>by have:=g.pos;grind,rfl,rfl⟩,h.2⟩
 rcases f.at_ with h|⟨g,off,rfl,h3,a6⟩
 ·omega
 exact Aq w g _ n _ _ f.len ai hn f.lt a6
end
section
open Go.RowKit Flt
attribute[local go_sem] eF eE eD
structure TxS(w:World)(g off n:Nat)(t:List UInt8):Prop where
 len:t.length=n
 lt:g<w.heap.size
 at_:∀k,k<n->w.cell? ⟨g,off+k,none⟩=some (.int .u8 (bt t k))
theorem TxS.keep{w J g off n t}(h:TxS w g off n t)(k:Kept 0 0 w J):TxS J g off n t:=
 ⟨h.len,yaj h.lt k.size,λj hj=>(k.cell (p:=⟨g,off+j,none⟩) h.lt xaa).trans (h.at_ j hj)⟩
theorem oe(c w):Calls prog 133 #[.int .u8 c] w λe J=>e=.returned (.bool (nR c))/\J=w:=by
 cases B:decide (97<=c)
 ·have e:nR c=(c==95):=by unfold nR;rw[B];rfl
  exact xgu
 cases U:decide (c<=122)
 ·have e:nR c=(c==95):=by unfold nR;rw[B,U];rfl
  exact xgu
 have e:nR c=true:=by unfold nR;rw[B,U];rfl
 exact xgu
theorem Fk(w g off n cap t)(f:TxS w g off n t)(i)(hi:i<=n)(hn:n<=1000000):
  Calls prog 98 #[.slice (some ⟨g,off,none⟩) n cap,hF i] w λe J=>e=.returned (hF (skM t i:Nat))/\J=w:=by
 have aL:V _:=f;obtain⟨E,b3⟩:∃E,E=skM t i:=⟨_,rfl⟩
 rw[<-b3];have HE:V _:=b3.symm;clear f b3;go_enter func98,ntmps98;go_wp2_with fail;go_loopw [1] (λaM W=>W=w/\∃k:Nat,k<=n/\aM=hF k/\V (skM t k=E)) (λaM _=>n-(intOf aM).toNat)
 case atStart=>exact⟨rfl,i,hi,rfl,HE⟩
 case round=>
  obtain⟨rfl,k,O,rfl,ar⟩:=hrel;by_cases aB:k<n
  ·have c1:=aL.o.at_ k aB;have B:V (k<t.length):=by show _<_;rw[aL.o.len];exact aB
   by_cases hb:Ap (bt t k)=true
   ·have R:V _:=(CN B.o hb).symm.trans ar.o;unfold Ap at hb;generalize bt t k=x at c1 hb;cases aO:(x==32)
    ·cases aX:(x==9)
     ·cases ah:(x==13)
      ·have bg:(x==10)=true:=by simpa[aO,aX,ah] using hb
       exact xea
      exact xea
     exact xea
    exact xea
   have y:Ap (bt t k)=false:=by simpa using hb
   by_cases m:bt t k=35
   ·have HR:V _:=(Fg B.o m).symm.trans ar.o;have bk:V (k<gW rY t k/\gW rY t k<=t.length):=⟨oY B.o (by rw[m];decide),lQ _ _ _ (Nat.le_of_lt B.o)⟩
    obtain⟨E2,l⟩:∃E2,E2=gW rY t k:=⟨_,rfl⟩
    rw[<-l]at HR bk;have o:V _:=l.symm;rw[m]at c1;clear l hb y m ar;go_wp2_with fail;go_loopw [1] (λaM W=>W=wr/\∃j:Nat,j<=n/\aM=hF j/\V (gW rY t j=E2)) (λaM _=>n-(intOf aM).toNat)
    case atStart=>exact⟨rfl,k,O,rfl,o⟩
    case round=>
     rename World=>W0
     obtain⟨rfl,j,hj,rfl,aj⟩:=hrel;by_cases cz:j<n
     ·have c2:=aL.o.at_ j cz;have p:V (j<t.length):=by show _<_;rw[aL.o.len];exact cz
      cases a2:(bt t j==10)
      ·have R:V _:=(wM p.o (by unfold rY;rw[a2];rfl)).symm.trans aj.o;generalize bt t j=x at c2 a2;have bL:(x !=10)=true:=by unfold bne;rw[a2];rfl
       clear a2;go_wp2;exact xiq
      have R:V _:=(oX (λh=>by have:=h.2;unfold rY at this;rw[a2]at this;cases this)).symm.trans aj.o;obtain rfl:=R.o;generalize bt t j=x at c2 a2;have bL:(x !=10)=false:=by unfold bne;rw[a2];rfl
      clear a2;exact xie
     have R:V _:=(oX (λh=>hO aL.o.len)).symm.trans aj.o;obtain rfl:=R.o;exact xie
   have R:V _:=(Fh B.o y m).symm.trans ar.o;obtain rfl:=R.o;unfold Ap at y;have bf:(bt t k==35)=false:=by simpa using m
   generalize bt t k=x at c1 y bf;simp only[Bool.or_eq_false_iff]at y;obtain⟨⟨⟨aO,aX⟩,ah⟩,bg⟩:=y;clear m hb;go_wp2;go_ret;exact⟨rfl,rfl⟩
  have R:V _:=(Jh (hR aL.o.len aB)).symm.trans ar.o;obtain rfl:=R.o;go_wp2;go_ret;exact⟨rfl,rfl⟩
end
section
open Go.RowKit Flt
variable{s x p y z:List UInt8}{n j:Nat}{t c o:Tok}{ts us:List Tok}{r:List (List UInt8)}
def iH:List UInt8:=[83,84,77,84,83]
def lz:List UInt8:=[80,65,82,65,77,83]
def gN:List UInt8:=[77,79,82,69,80,65,82,65,77,83]
def gV:List UInt8:=[69,88,80,82]
def gi:List UInt8:=[77,79,82,69,84,69,82,77,83]
def kG:List UInt8:=[84,69,82,77]
def f8:List UInt8:=[77,79,82,69,85,78,65,82,89]
def qx:List UInt8:=[67,65,76,76]
def nN:List UInt8:=[65,82,71,83]
def ij:List UInt8:=[77,79,82,69,65,82,71,83]
def lJ:List UInt8:=[85,78,65,82,89]
def lg(s:List UInt8):List (List UInt8):=
 if s=[45] then[[45],lJ] else
 if s=[110,97,109,101] then[[110,97,109,101],qx] else
 if s=[40] then[[40],gV,[41]] else
 if s=[101,120,112]\/s=[115,117,109] then[s,[40],gV,[41]] else
 if s=[109,97,120]\/s=[100,111,116] then[s,[40],gV,[44],gV,[41]] else
 if s=[115,101,108] then[s,[40],gV,[44],gV,[44],gV,[41]] else
 if s=[102,105,108,108]\/s=[112,105,99,107] then[s,[40],gV,[44],[105,110,116],[41]] else
 if s=[112,117,116] then[s,[40],gV,[44],[105,110,116],[44],[105,110,116],[41]] else
 if s=[103,114,97,100] then[s,[40],gV,[44],[110,97,109,101],[41]] else
 if s=[106,118,112] then[s,[40],gV,[44],[110,97,109,101],[44],gV,[41]] else
 if s=[100,101,99] then[[100,101,99]] else
 [[105,110,116]]
def gG(p s:List UInt8):List (List UInt8):=
 if p=iH then (if s=[105,110] then[[105,110],[110,97,109,101],[58],[105,110,116],[59],iH]else if s=[108,101,116] then[[108,101,116],[110,97,109,101],[61],gV,[59],iH]else if s=[114,101,112,101,97,116] then[[114,101,112,101,97,116],[105,110,116],[110,97,109,101],[61],gV,[59],iH]else if s=[100,101,102] then[[100,101,102],[110,97,109,101],[40],lz,[41],[61],gV,[59],iH]else if s=[111,117,116] then[[111,117,116],gV,[59],iH] else[]) else
 if p=lz then (if s=[110,97,109,101] then[[110,97,109,101],gN] else[]) else
 if p=gN then (if s=[44] then[[44],[110,97,109,101],gN] else[]) else
 if p=gV then ([kG,gi]) else
 if p=gi then (if s=[43]\/s=[45] then[s,kG,gi] else[]) else
 if p=kG then ([lJ,f8]) else
 if p=f8 then (if s=[42]\/s=[47] then[s,lJ,f8] else[]) else
 if p=qx then (if s=[40] then[[40],nN,[41]] else[]) else
 if p=nN then (if s=[41] then[] else[gV,ij]) else
 if p=ij then (if s=[44] then[[44],gV,ij] else[]) else
 lg s
def jP(s:List UInt8):Bool:=decide (1<s.length)&&(decide (65<=bt s 0)&&decide (bt s 0<=90))
def wt(s:List UInt8):Nat:=if s=nN then 7 else if s=gV then 5 else if s=kG then 3 else 1
def wts:List (List UInt8)->Nat
 |[]=>0
 |s::r=>wt s+wts r
def Ar:List (List UInt8)->Bool
 |[]=>false
 |p::_=>jP p
def mu(st:List (List UInt8)):Nat:=if Ar st=true then wts st+1 else 0
theorem As(s):1<=wt s:=by
 unfold wt;grind
def UL:List (List UInt8):=[[45],[110,97,109,101],[40],[101,120,112],[115,117,109],[109,97,120],[100,111,116],[115,101,108],[102,105,108,108],[112,105,99,107],[112,117,116],[103,114,97,100],[106,118,112],[100,101,99]]
def RL:List (List UInt8):=[[105,110],[108,101,116],[114,101,112,101,97,116],[100,101,102],[111,117,116],[110,97,109,101],[44],[43],[45],[42],[47],[40],[41]]
def PQ:List (List UInt8):=[iH,lz,gN,gV,gi,kG,f8,qx,nN,ij]
theorem wO(h:¬s∈UL):lg s=[[105,110,116]]:=by
 simp_all[UL,lg]
theorem Fl(s)(h:¬p∈PQ):gG p s=lg s:=by
 simp_all[PQ,gG]
def ruN(p:List UInt8):List (List UInt8):=if p=gV then[kG,gi]else if p=kG then[lJ,f8]else if p=nN then[gV,ij] else[]
theorem Fm{p s}(h:p∈PQ)(ae:¬s∈RL):gG p s=ruN p:=by
 simp only[PQ,RL,List.mem_cons,List.not_mem_nil,or_false,not_or]at h ae;rcases h with rfl|rfl|rfl|rfl|rfl|rfl|rfl|rfl|rfl|rfl<;>simp[gG,ae]<;>rfl
theorem uM(s r):Ar (lg s++r)=false:=by
 by_cases h:s∈UL
 ·simp only[UL,List.mem_cons,List.not_mem_nil,or_false]at h;rcases h with rfl|rfl|rfl|rfl|rfl|rfl|rfl|rfl|rfl|rfl|rfl|rfl|rfl|rfl<;>rfl
 rw[wO h];rfl
theorem sU(p s r):gG p s=[]\/Ar (gG p s++r)=false\/(p=gV/\gG p s=[kG,gi])\/(p=kG/\gG p s=[lJ,f8])\/(p=nN/\gG p s=[gV,ij]):=by
 by_cases h:p∈PQ
 ·by_cases ae:s∈RL
  ·simp only[PQ,RL,List.mem_cons,List.not_mem_nil,or_false]at h ae;rcases h with rfl|rfl|rfl|rfl|rfl|rfl|rfl|rfl|rfl|rfl<;>rcases ae with rfl|rfl|rfl|rfl|rfl|rfl|rfl|rfl|rfl|rfl|rfl|rfl|rfl<;>simp[gG,iH,lz,gN,gV,gi,kG,f8,qx,nN,ij,Ar,jP,bt]
  rw[Fm h ae];clear ae;simp only[PQ,List.mem_cons,List.not_mem_nil,or_false]at h;rcases h with rfl|rfl|rfl|rfl|rfl|rfl|rfl|rfl|rfl|rfl<;>grind[ruN]
 grind[Fl,uM]
theorem Bz(p s r)(h:jP p=true):mu (gG p s++r)<mu (p::r):=by
 have e:mu (p::r)=wt p+wts r+1:=by unfold mu Ar;rw[hI h];rfl
 rw[e];rcases sU p s r with c|c|⟨rfl,c⟩|⟨rfl,c⟩|⟨rfl,c⟩
 ·rw[c,List.nil_append];grind[As,mu]
 ·grind[mu]
 all_goals
  rw[c]
  unfold mu
  split
  ·show wt _+(wt _+wts r)+1<_
   have B:wt kG=3:=xab
   have U:wt gi=1:=xab
   have h3:wt gV=5:=xab
   have a6:wt lJ=1:=xab
   have bK:wt f8=1:=xab
   have bm:wt ij=1:=xab
   have bP:wt nN=7:=xab
   omega
  ·omega
def ir(s:List UInt8)(st:List (List UInt8)):List (List UInt8):=
 match st with
 |[]=>[]
 |p::r=>if _h:jP p=true then ir s (gG p s++r)else p::r
termination_by mu st
decreasing_by exact Bz p s r _h
theorem nD(s):ir s []=[]:=by rw[ir]
theorem iW(h:jP p=true):ir s (p::r)=ir s (gG p s++r):=by rw[ir,dif_pos h]
theorem mj(h:jP p=false):ir s (p::r)=p::r:=by rw[ir,dif_neg (by rw[h];simp)]
def Jk:List UInt8:=[101,110,100]
def fS(n:Nat):List Tok->List (List UInt8)->Int
 |[],st=>if ir Jk st=[]then -1 else (n:Int)
 |t::ts,st=>match ir t.sym st with
  |[]=>(t.pos:Int)
  |p::r=>if p=t.sym then fS n ts r else (t.pos:Int)
theorem uN(s):1<=(lg s).length/\(lg s).length<=8:=by
 by_cases h:s∈UL
 ·revert s;decide
 rw[wO h];decide
theorem yw(p s):(gG p s).length<=9:=by
 by_cases h:p∈PQ
 ·by_cases ae:s∈RL
  ·exact(show ∀p∈PQ,∀s∈RL,(gG p s).length<=9 by decide) p h s ae
  rw[Fm h ae];revert p;decide
 rw[Fl s h];have:=uN s;omega
inductive Ex where
 |num (t:Tok)
 |name (t:Tok)
 |neg (o:Tok) (e:Ex)
 |bin (o:Tok) (a b:Ex)
 |call (t:Tok) (es:List Ex)
 |key1 (k:Tok) (e:Ex)
 |key2 (k:Tok) (a b:Ex)
 |key3 (k:Tok) (a b c:Ex)
 |keyN (k:Tok) (e:Ex) (n:Tok)
 |put (k:Tok) (e:Ex) (i n:Tok)
 |grad (k:Tok) (e:Ex) (x:Tok)
 |jvp (k:Tok) (e:Ex) (x:Tok) (d:Ex)
def yx:List UInt8:=[101,120,112]
def Fo:List UInt8:=[115,117,109]
def Au:List UInt8:=[109,97,120]
def Jl:List UInt8:=[100,111,116]
def yy:List UInt8:=[115,101,108]
def uO:List UInt8:=[102,105,108,108]
def qy:List UInt8:=[112,105,99,107]
def CS:List UInt8:=[112,117,116]
def BA:List UInt8:=[103,114,97,100]
def Jm:List UInt8:=[106,118,112]
inductive Pr:Nat->List Ex->List Tok->Prop
 |up01 {e:Ex}{ts:List Tok}:Pr 0 [e] ts->Pr 1 [e] ts
 |up12 {e:Ex}{ts:List Tok}:Pr 1 [e] ts->Pr 2 [e] ts
 |add {a b:Ex}{ts us:List Tok}{o:Tok}:Pr 2 [a] ts->(o.sym=[43]\/o.sym=[45])->Pr 1 [b] us->Pr 2 [.bin o a b] (ts++o::us)
 |mul {a b:Ex}{ts us:List Tok}{o:Tok}:Pr 1 [a] ts->(o.sym=[42]\/o.sym=[47])->Pr 0 [b] us->Pr 1 [.bin o a b] (ts++o::us)
 |neg {e:Ex}{ts:List Tok}{o:Tok}:o.sym=[45]->Pr 0 [e] ts->Pr 0 [.neg o e] (o::ts)
 |num {t:Tok}:(t.sym=iE\/t.sym=kZ)->Pr 0 [.num t] [t]
 |name {t:Tok}:t.sym=gU->Pr 0 [.name t] [t]
 |par {e:Ex}{ts:List Tok}{l r:Tok}:l.sym=[40]->Pr 2 [e] ts->r.sym=[41]->Pr 0 [e] (l::(ts++[r]))
 |call0 {t l r:Tok}:t.sym=gU->l.sym=[40]->r.sym=[41]->Pr 0 [.call t []] [t,l,r]
 |call {es:List Ex}{ts:List Tok}{t l r:Tok}:t.sym=gU->l.sym=[40]->Pr 3 es ts->r.sym=[41]->Pr 0 [.call t es] (t::l::(ts++[r]))
 |arg1 {e:Ex}{ts:List Tok}:Pr 2 [e] ts->Pr 3 [e] ts
 |argM {es:List Ex}{e:Ex}{ts us:List Tok}{c:Tok}:Pr 3 es ts->c.sym=[44]->Pr 2 [e] us->Pr 3 (es++[e]) (ts++c::us)
 |key1 {e:Ex}{ts:List Tok}{k l r:Tok}:(k.sym=yx\/k.sym=Fo)->l.sym=[40]->Pr 2 [e] ts->r.sym=[41]->Pr 0 [.key1 k e] (k::l::(ts++[r]))
 |key2 {a b:Ex}{ts us:List Tok}{k l c r:Tok}:(k.sym=Au\/k.sym=Jl)->l.sym=[40]->Pr 2 [a] ts->c.sym=[44]->Pr 2 [b] us->r.sym=[41]->Pr 0 [.key2 k a b] (k::l::(ts++c::(us++[r])))
 |key3 {a b d:Ex}{ts us ws:List Tok}{k l c c2 r:Tok}:k.sym=yy->l.sym=[40]->Pr 2 [a] ts->c.sym=[44]->Pr 2 [b] us->c2.sym=[44]->Pr 2 [d] ws->r.sym=[41]->Pr 0 [.key3 k a b d] (k::l::(ts++c::(us++c2::(ws++[r]))))
 |keyN {e:Ex}{ts:List Tok}{k l c n r:Tok}:(k.sym=uO\/k.sym=qy)->l.sym=[40]->Pr 2 [e] ts->c.sym=[44]->n.sym=iE->r.sym=[41]->Pr 0 [.keyN k e n] (k::l::(ts++[c,n,r]))
 |put {e:Ex}{ts:List Tok}{k l c i c2 n r:Tok}:k.sym=CS->l.sym=[40]->Pr 2 [e] ts->c.sym=[44]->i.sym=iE->c2.sym=[44]->n.sym=iE->r.sym=[41]->Pr 0 [.put k e i n] (k::l::(ts++[c,i,c2,n,r]))
 |grad {e:Ex}{ts:List Tok}{k l c x r:Tok}:k.sym=BA->l.sym=[40]->Pr 2 [e] ts->c.sym=[44]->x.sym=gU->r.sym=[41]->Pr 0 [.grad k e x] (k::l::(ts++[c,x,r]))
 |jvp {e d:Ex}{ts us:List Tok}{k l c x c2 r:Tok}:k.sym=Jm->l.sym=[40]->Pr 2 [e] ts->c.sym=[44]->x.sym=gU->c2.sym=[44]->Pr 2 [d] us->r.sym=[41]->Pr 0 [.jvp k e x d] (k::l::(ts++c::x::c2::(us++[r])))
structure OpS where
 i:Nat
 d:Int
 at_:Int
 b:Bool
def i6(s:List UInt8):Bool:=s==gU||s==iE||s==kZ||s==[41]
def iI(x y:List UInt8)(q:OpS)(t:Tok):OpS:=
 if t.sym=[40] then⟨q.i+1,q.d+1,q.at_,i6 t.sym⟩
 else if t.sym=[41] then⟨q.i+1,q.d-1,q.at_,i6 t.sym⟩
 else⟨q.i+1,q.d,if q.d=0/\q.b=true/\(t.sym=x\/t.sym=y)then (q.i:Int)else q.at_,i6 t.sym⟩
def jF(x y:List UInt8)(q:OpS)(ts:List Tok):OpS:=ts.foldl (iI x y) q
theorem fB(x y q a b):jF x y q (a++b)=jF x y (jF x y q a) b:=by unfold jF;grind
theorem eH(x y q t b):jF x y q (t::b)=jF x y (iI x y q t) b:=rfl
theorem fV(x y q):jF x y q []=q:=rfl
theorem neL(h:s=x)(ap:x≠z:=by decide):s≠z:=h ▸ ap
theorem neO(h:s=x\/s=y)(ap:x≠z:=by decide)(bS:y≠z:=by decide):s≠z:=by grind
theorem wQ{q}(h:t.sym=[40]):iI x y q t=⟨q.i+1,q.d+1,q.at_,false⟩:=by unfold iI;rw[hI h,h];rfl
theorem wR{q}(h:t.sym=[41]):iI x y q t=⟨q.i+1,q.d-1,q.at_,true⟩:=by unfold iI;rw[hG (neL h),hI h,h];rfl
theorem m7{q}(B:t.sym≠[40])(U:t.sym≠[41])(h3:¬(q.d=0/\q.b=true/\(t.sym=x\/t.sym=y))):iI x y q t=⟨q.i+1,q.d,q.at_,i6 t.sym⟩:=by grind[iI]
theorem wS{q}(B:t.sym≠[40])(U:t.sym≠[41])(h3:q.d=0/\q.b=true/\(t.sym=x\/t.sym=y)):iI x y q t=⟨q.i+1,q.d,q.i,i6 t.sym⟩:=by grind[iI]
theorem sV{i d e a b}(B:i=j)(U:d=e):(⟨i,d,a,b⟩:OpS)=⟨j,e,a,b⟩:=by rw[B,U]
theorem opq{i:Nat}{d e a:Int}{b:Bool}(B:i=j:=by first|(simp;done)|(simp;omega))(U:d=e:=by omega):(⟨i,d,a,b⟩:OpS)=⟨j,e,a,b⟩:=sV B U
theorem Jn{es}(h:Pr n es ts):∀(i:Nat) (d a:Int) (b:Bool),0<d->jF x y ⟨i,d,a,b⟩ ts=⟨i+ts.length,d,a,true⟩:=by
 have q:∀(i:Nat) (d a:Int) (b:Bool) (t:Tok),0<d->t.sym≠[40]->t.sym≠[41]->iI x y ⟨i,d,a,b⟩ t=⟨i+1,d,a,_⟩:=λi d a b t ao B U=>m7 B U (λc=>by grind);have H:∀(i:Nat) (d a:Int) (b:Bool) (t:Tok),t.sym=[40]->iI x y ⟨i,d,a,b⟩ t=⟨i+1,d+1,a,_⟩:=λi d a b t h=>wQ h;have u:∀(i:Nat) (d a:Int) (b:Bool) (t:Tok),t.sym=[41]->iI x y ⟨i,d,a,b⟩ t=⟨i+1,d-1,a,_⟩:=λi d a b t h=>wR h;induction h with
 |up01 _ al=>exact al
 |up12 _ al=>exact al
 |@add a b ts us o _ ax _ g m=>
  intro i d br a9 ao;rw[fB,g _ _ _ _ ao,eH,q _ _ _ _ o ao (neO ax) (neO ax),m _ _ _ _ ao];exact opq
 |@mul a b ts us o _ ax _ g m=>
  intro i d br a9 ao;rw[fB,g _ _ _ _ ao,eH,q _ _ _ _ o ao (neO ax) (neO ax),m _ _ _ _ ao];exact opq
 |@neg e ts o ax _ al=>
  intro i d br a9 ao;rw[eH,q _ _ _ _ o ao (neL ax) (neL ax),al _ _ _ _ ao];exact opq
 |@num t ht=>
  intro i d br a9 ao;have aa:i6 t.sym=true:=by rcases ht with c|c<;>rw[c]<;>decide
  rw[eH,q _ _ _ _ t ao (neO ht) (neO ht),fV,aa];exact opq
 |@name t ht=>
  intro i d br a9 ao;have aa:i6 t.sym=true:=by rw[ht];decide
  rw[eH,q _ _ _ _ t ao (neL ht) (neL ht),fV,aa];exact opq
 |@par e ts l r ah _ av al=>
  intro i d br a9 ao;have f:0<d+1:=xaa;rw[eH,H _ _ _ _ l ah,fB,al _ _ _ _ f,eH,u _ _ _ _ r av,fV];exact opq
 |@call0 t l r ht ah av=>
  intro i d br a9 ao;rw[eH,q _ _ _ _ t ao (neL ht) (neL ht),eH,H _ _ _ _ l ah,eH,u _ _ _ _ r av,fV];exact opq
 |@call es ts t l r ht ah _ av al=>
  intro i d br a9 ao;have f:0<d+1:=xaa;rw[eH,q _ _ _ _ t ao (neL ht) (neL ht),eH,H _ _ _ _ l ah,fB,al _ _ _ _ f,eH,u _ _ _ _ r av,fV];exact opq
 |arg1 _ al=>exact al
 |@argM es e ts us c _ ak _ g m=>
  intro i d br a9 ao;rw[fB,g _ _ _ _ ao,eH,q _ _ _ _ c ao (neL ak) (neL ak),m _ _ _ _ ao];exact opq
 |@key1 e ts k l r O ah _ av al=>
  intro i d br a9 ao;have f:0<d+1:=xaa;rw[eH,q _ _ _ _ k ao (neO O) (neO O),eH,H _ _ _ _ l ah,fB,al _ _ _ _ f,eH,u _ _ _ _ r av,fV];exact opq
 |@key2 a b ts us k l c r O ah _ ak _ av g m=>
  intro i d br a9 ao;have f:0<d+1:=xaa;rw[eH,q _ _ _ _ k ao (neO O) (neO O),eH,H _ _ _ _ l ah,fB,g _ _ _ _ f,eH,q _ _ _ _ c f (neL ak) (neL ak),fB,m _ _ _ _ f,eH,u _ _ _ _ r av,fV];exact opq
 |@key3 a b bw ts us Y k l c c2 r O ah _ ak _ ab _ av g m v=>
  intro i d br a9 ao;have f:0<d+1:=xaa;rw[eH,q _ _ _ _ k ao (neL O) (neL O),eH,H _ _ _ _ l ah,fB,g _ _ _ _ f,eH,q _ _ _ _ c f (neL ak) (neL ak),fB,m _ _ _ _ f,eH,q _ _ _ _ _ f (neL ab) (neL ab),fB,v _ _ _ _ f,eH,u _ _ _ _ r av,fV];exact opq
 |@keyN e ts k l c b2 r O ah _ ak hn av al=>
  intro i d br a9 ao;have f:0<d+1:=xaa;rw[eH,q _ _ _ _ k ao (neO O) (neO O),eH,H _ _ _ _ l ah,fB,al _ _ _ _ f,eH,q _ _ _ _ c f (neL ak) (neL ak),eH,q _ _ _ _ _ f (neL hn) (neL hn),eH,u _ _ _ _ r av,fV];exact opq
 |@put e ts k l c bC c2 b2 r O ah _ ak hi ab hn av al=>
  intro i d br a9 ao;have f:0<d+1:=xaa;rw[eH,q _ _ _ _ k ao (neL O) (neL O),eH,H _ _ _ _ l ah,fB,al _ _ _ _ f,eH,q _ _ _ _ c f (neL ak) (neL ak),eH,q _ _ _ _ _ f (neL hi) (neL hi),eH,q _ _ _ _ _ f (neL ab) (neL ab),eH,q _ _ _ _ _ f (neL hn) (neL hn),eH,u _ _ _ _ r av,fV];exact opq
 |@grad e ts k l c bI r O ah _ ak hn av al=>
  intro i d br a9 ao;have f:0<d+1:=xaa;rw[eH,q _ _ _ _ k ao (neL O) (neL O),eH,H _ _ _ _ l ah,fB,al _ _ _ _ f,eH,q _ _ _ _ c f (neL ak) (neL ak),eH,q _ _ _ _ _ f (neL hn) (neL hn),eH,u _ _ _ _ r av,fV];exact opq
 |@jvp e bw ts us k l c bI c2 r O ah _ ak hn ab _ av g m=>
  intro i d br a9 ao;have f:0<d+1:=xaa;rw[eH,q _ _ _ _ k ao (neL O) (neL O),eH,H _ _ _ _ l ah,fB,g _ _ _ _ f,eH,q _ _ _ _ c f (neL ak) (neL ak),eH,q _ _ _ _ _ f (neL hn) (neL hn),eH,q _ _ _ _ _ f (neL ab) (neL ab),fB,m _ _ _ _ f,eH,u _ _ _ _ r av,fV];exact opq
theorem jq(i a t)(B:t.sym≠[40])(U:t.sym≠[41]):iI x y ⟨i,0,a,false⟩ t=⟨i+1,0,a,i6 t.sym⟩:=m7 B U (λc=>by grind)
theorem sl0(i a b t)(h:t.sym=[40]):iI x y ⟨i,0,a,b⟩ t=⟨i+1,1,a,false⟩:=wQ h
theorem sr1(i a b t)(h:t.sym=[41]):iI x y ⟨i,1,a,b⟩ t=⟨i+1,0,a,true⟩:=wR h
theorem so1(i a b t)(B:t.sym≠[40])(U:t.sym≠[41]):iI x y ⟨i,1,a,b⟩ t=⟨i+1,1,a,i6 t.sym⟩:=m7 B U (λc=>by grind)
theorem og{es}(h:Pr n es ts):n=0->∀(i:Nat) (a:Int),jF x y ⟨i,0,a,false⟩ ts=⟨i+ts.length,0,a,true⟩:=by
 have f:∀{n:Nat}{es:List _}{ts:List _},Pr n es ts->∀(i:Nat) (a:Int) (b:Bool),jF x y _ _=⟨_,1,a,_⟩:=λh i a b=>Jn h i 1 a b xab;induction h with
 |up01 _ _=>omega
 |up12 _ _=>omega
 |add _ _ _ _ _=>omega
 |mul _ _ _ _ _=>omega
 |arg1 _ _=>omega
 |argM _ _ _ _ _=>omega
 |@neg e ts o ax _ al=>
  intro _ i a;have aa:i6 o.sym=false:=by rw[ax];decide
  rw[eH,jq i a o (neL ax) (neL ax),aa,al rfl];grind
 |@num t ht=>
  intro _ i a;have aa:i6 t.sym=true:=by rcases ht with c|c<;>rw[c]<;>decide
  rw[eH,jq i a t (neO ht) (neO ht),fV,aa];rfl
 |@name t ht=>
  intro _ i a;have aa:i6 t.sym=true:=by rw[ht];decide
  rw[eH,jq i a t (neL ht) (neL ht),fV,aa];rfl
 |@par e ts l r ah B av _=>
  grind[eH,sl0,fB,sr1,fV]
 |@call0 t l r ht ah av=>
  intro _ i a;rw[eH,jq i a t (neL ht) (neL ht),eH,sl0 _ _ _ l ah,eH,sr1 _ _ _ r av,fV];rfl
 |@call es ts t l r ht ah B av _=>
  intro _ i a;rw[eH,jq i a t (neL ht) (neL ht),eH,sl0 _ _ _ l ah,fB,f B,eH,sr1 _ _ _ r av,fV];grind
 |@key1 e ts k l r O ah B av _=>
  intro _ i a;rw[eH,jq i a k (neO O) (neO O),eH,sl0 _ _ _ l ah,fB,f B,eH,sr1 _ _ _ r av,fV];grind
 |@key2 br a9 ts us k l c r O ah B ak U av _ _=>
  intro _ i a;rw[eH,jq i a k (neO O) (neO O),eH,sl0 _ _ _ l ah,fB,f B,eH,so1 _ _ _ c (neL ak) (neL ak),fB,f U,eH,sr1 _ _ _ r av,fV];grind
 |@key3 br a9 bw ts us Y k l c c2 r O ah B ak U ab h3 av _ _ _=>
  intro _ i a;rw[eH,jq i a k (neL O) (neL O),eH,sl0 _ _ _ l ah,fB,f B,eH,so1 _ _ _ c (neL ak) (neL ak),fB,f U,eH,so1 _ _ _ _ (neL ab) (neL ab),fB,f h3,eH,sr1 _ _ _ r av,fV];grind
 |@keyN e ts k l c b2 r O ah B ak hn av _=>
  intro _ i a;rw[eH,jq i a k (neO O) (neO O),eH,sl0 _ _ _ l ah,fB,f B,eH,so1 _ _ _ c (neL ak) (neL ak),eH,so1 _ _ _ _ (neL hn) (neL hn),eH,sr1 _ _ _ r av,fV];grind
 |@put e ts k l c bC c2 b2 r O ah B ak hi ab hn av _=>
  intro _ i a;rw[eH,jq i a k (neL O) (neL O),eH,sl0 _ _ _ l ah,fB,f B,eH,so1 _ _ _ c (neL ak) (neL ak),eH,so1 _ _ _ _ (neL hi) (neL hi),eH,so1 _ _ _ _ (neL ab) (neL ab),eH,so1 _ _ _ _ (neL hn) (neL hn),eH,sr1 _ _ _ r av,fV];exact sV yaf rfl
 |@grad e ts k l c bI r O ah B ak hn av _=>
  intro _ i a;rw[eH,jq i a k (neL O) (neL O),eH,sl0 _ _ _ l ah,fB,f B,eH,so1 _ _ _ c (neL ak) (neL ak),eH,so1 _ _ _ _ (neL hn) (neL hn),eH,sr1 _ _ _ r av,fV];grind
 |@jvp e bw ts us k l c bI c2 r O ah B ak hn ab U av _ _=>
  intro _ i a;rw[eH,jq i a k (neL O) (neL O),eH,sl0 _ _ _ l ah,fB,f B,eH,so1 _ _ _ c (neL ak) (neL ak),eH,so1 _ _ _ _ (neL hn) (neL hn),eH,so1 _ _ _ _ (neL ab) (neL ab),fB,f U,eH,sr1 _ _ _ r av,fV];exact sV yaf rfl
theorem BB{es}(h:Pr n es ts):n=1->∀(i:Nat) (a:Int),jF [43] [45] ⟨i,0,a,false⟩ ts=⟨i+ts.length,0,a,true⟩:=by
 induction h with
 |up01 ai _=>intro _ i a;exact og ai rfl i a
 |@mul br a9 ts us o _ ax U g _=>
  intro _ i a;have l:¬(o.sym=[43]\/o.sym=[45]):=by grind
  have aa:i6 o.sym=false:=by rcases ax with c|c<;>rw[c]<;>decide
  rw[fB,g rfl,eH,m7 (neO ax) (neO ax) (λc=>l c.2.2),aa,og U rfl];grind
 |up12 _ _=>omega
 |add _ _ _ _ _=>omega
 |arg1 _ _=>omega
 |argM _ _ _ _ _=>omega
 |neg _ _ _=>omega
 |num _=>omega
 |name _=>omega
 |par _ _ _ _=>omega
 |call0 _ _ _=>omega
 |call _ _ _ _ _=>omega
 |key1 _ _ _ _ _=>omega
 |key2 _ _ _ _ _ _ _ _=>omega
 |key3 _ _ _ _ _ _ _ _ _ _ _=>omega
 |keyN _ _ _ _ _ _ _=>omega
 |put _ _ _ _ _ _ _ _ _=>omega
 |grad _ _ _ _ _ _ _=>omega
 |jvp _ _ _ _ _ _ _ _ _ _=>omega
theorem Fp{es}(h:Pr n es ts):n<=2->∀(i:Nat) (a:Int),∃ag,jF x y ⟨i,0,a,false⟩ ts=⟨i+ts.length,0,ag,true⟩:=by
 have l:∀{es:List _}{ts:List _},Pr 0 es ts->∀(i:Nat) (a:Int),∃ag,jF x y _ _=⟨_,0,ag,_⟩:=λh i a=>⟨a,og h rfl i a⟩
 have bN:∀{ts us:List _}{o:Tok},o.sym≠[40]->o.sym≠[41]->i6 o.sym=false->(∀(i:Nat) (a:Int),∃ag,jF x y ⟨i,0,a,false⟩ ts=⟨i+ts.length,0,ag,true⟩)->(∀(i:Nat) (a:Int),∃ag,jF x y ⟨i,0,a,false⟩ us=⟨i+us.length,0,ag,true⟩)->∀(i:Nat) (a:Int),∃ag,jF x y ⟨i,0,a,false⟩ (ts++o::us)=⟨i+(ts++o::us).length,0,ag,true⟩:=by
  intro ts us o Y ab aa B U i a;obtain⟨a1,af⟩:=B i a;rw[fB,af,eH];by_cases c:x=o.sym\/y=o.sym
  ·rw[wS Y ab ⟨rfl,rfl,c.imp Eq.symm Eq.symm⟩,aa];obtain⟨Z,a0⟩:=U (i+ts.length+1) _;exact⟨Z,by rw[a0];exact sV yaf rfl⟩
  rw[m7 Y ab (λd=>c (d.2.2.imp Eq.symm Eq.symm)),aa];obtain⟨Z,a0⟩:=U (i+ts.length+1) a1;exact⟨Z,by rw[a0];exact sV yaf rfl⟩
 induction h with
 |up01 _ al=>grind
 |up12 _ al=>grind
 |@add br a9 ts us o _ ax _ g m=>
  exact λ_=>bN (by grind) (by grind) (by rcases ax with c|c<;>rw[c]<;>decide) (g xab) (m xab)
 |@mul br a9 ts us o _ ax _ g m=>
  exact λ_=>bN (by grind) (by grind) (by rcases ax with c|c<;>rw[c]<;>decide) (g xab) (m xab)
 |arg1 _ _=>omega
 |argM _ _ _ _ _=>omega
 |neg ax B _=>exact λ_=>l (.neg ax B)
 |num h=>exact λ_=>l (.num h)
 |name h=>exact λ_=>l (.name h)
 |par B U h3 _=>exact λ_=>l (.par B U h3)
 |call0 B U h3=>exact λ_=>l (.call0 B U h3)
 |call B U h3 a6 _=>exact λ_=>l (.call B U h3 a6)
 |key1 B U h3 a6 _=>exact λ_=>l (.key1 B U h3 a6)
 |key2 B U h3 a6 bK bm _ _=>exact λ_=>l (.key2 B U h3 a6 bK bm)
 |key3 B U h3 a6 bK bm bP R _ _ _=>exact λ_=>l (.key3 B U h3 a6 bK bm bP R)
 |keyN B U h3 a6 bK bm _=>exact λ_=>l (.keyN B U h3 a6 bK bm)
 |put B U h3 a6 bK bm bP R _=>exact λ_=>l (.put B U h3 a6 bK bm bP R)
 |grad B U h3 a6 bK bm _=>exact λ_=>l (.grad B U h3 a6 bK bm)
 |jvp B U h3 a6 bK bm bP R _ _=>exact λ_=>l (.jvp B U h3 a6 bK bm bP R)
def opM(x y:List UInt8)(ts:List Tok):Int:=(jF x y ⟨0,0,-1,false⟩ ts).at_
theorem mI{e}(h:Pr 0 [e] ts):opM x y ts=-1:=by
 unfold opM;rw[og h rfl]
theorem Fq{e}(h:Pr 1 [e] ts):opM [43] [45] ts=-1:=by
 unfold opM;rw[BB h rfl]
theorem MC{a b}(B:Pr 2 [a] ts)(ax:o.sym=[43]\/o.sym=[45])(U:Pr 1 [b] us):opM [43] [45] (ts++o::us)=(ts.length:Int):=by
 unfold opM;obtain⟨ag,e⟩:=Fp (x:=[43]) (y:=[45]) B xab 0 (-1);rw[fB,e,eH,wS (by grind) (by grind) ⟨rfl,rfl,ax⟩,show i6 _=false by rcases ax with c|c<;>rw[c]<;>decide,BB U rfl];simp
theorem MD{a b}(B:Pr 1 [a] ts)(ax:o.sym=[42]\/o.sym=[47])(U:Pr 0 [b] us):opM [42] [47] (ts++o::us)=(ts.length:Int):=by
 unfold opM;obtain⟨ag,e⟩:=Fp (x:=[42]) (y:=[47]) B xab 0 (-1);rw[fB,e,eH,wS (by grind) (by grind) ⟨rfl,rfl,ax⟩,show i6 _=false by rcases ax with c|c<;>rw[c]<;>decide,og U rfl];simp
def cm(d:Int):List Tok->Option Int
 |[]=>some d
 |t::ts=>if t.sym=[40]then cm (d+1) ts else if t.sym=[41]then cm (d-1) ts else if t.sym=[44]/\d=0 then none else cm d ts
theorem gZ{d}(h:t.sym=[40]):cm d (t::ts)=cm (d+1) ts:=by rw[cm,hI h]
theorem g7{d}(h:t.sym=[41]):cm d (t::ts)=cm (d-1) ts:=by grind[cm]
theorem Av{d}(B:t.sym≠[40])(U:t.sym≠[41])(h3:t.sym≠[44]):cm d (t::ts)=cm d ts:=by grind[cm]
theorem ik{d:Int}(h:t.sym=x)(ap:x≠[40]/\x≠[41]/\x≠[44]:=by decide):cm d (t::ts)=cm d ts:=by subst h;exact Av ap.1 ap.2.1 ap.2.2
theorem lK{d:Int}(h:t.sym=x\/t.sym=y)(ap:x≠[40]/\x≠[41]/\x≠[44]:=by decide)(bS:y≠[40]/\y≠[41]/\y≠[44]:=by decide):cm d (t::ts)=cm d ts:=by rcases h with h|h<;>exact ik h ‹_›
theorem jf{d}(h:t.sym=[44])(G:d≠0):cm d (t::ts)=cm d ts:=by grind[cm]
theorem gn:∀(a b:List Tok) (d e:Int),cm d a=some e->cm d (a++b)=cm e b
 |[],b,d,e,h=>by cases h;rfl
 |t::a,b,d,e,h=>by
  rw[List.cons_append]
  by_cases B:t.sym=[40]
  ·rw[gZ B]at h⊢;exact gn a b _ _ h
  ·by_cases U:t.sym=[41]
   ·rw[g7 U]at h⊢;exact gn a b _ _ h
   ·by_cases h3:t.sym=[44]
    ·by_cases a6:d=0
     ·grind[cm]
     ·rw[jf h3 a6]at h⊢;exact gn a b _ _ h
    ·rw[Av B U h3]at h⊢;exact gn a b _ _ h
theorem iJ(d):cm d []=some d:=rfl
theorem Jo{es}(h:Pr n es ts):∀d:Int,0<d->cm d ts=some d:=by
 induction h with
 |up01 _ al=>exact al
 |up12 _ al=>exact al
 |arg1 _ al=>exact al
 |@add a b ts us o _ ax _ g m=>
  intro d G;rw[gn _ _ _ _ (g _ G),lK ax,m _ G]
 |@mul a b ts us o _ ax _ g m=>
  intro d G;rw[gn _ _ _ _ (g _ G),lK ax,m _ G]
 |@neg e ts o ax _ al=>
  intro d G;rw[ik ax,al _ G]
 |@num t ht=>
  intro d G;rw[lK ht,iJ]
 |@name t ht=>
  intro d G;rw[ik ht,iJ]
 |@par e ts l r ah _ av al=>
  intro d G;have f:0<d+1:=xaa;rw[gZ ah,gn _ _ _ _ (al _ f),g7 av,iJ];grind
 |@call0 t l r ht ah av=>
  intro d G;have f:0<d+1:=xaa;rw[ik ht,gZ ah,g7 av,iJ];grind
 |@call es ts t l r ht ah _ av al=>
  intro d G;have f:0<d+1:=xaa;rw[ik ht,gZ ah,gn _ _ _ _ (al _ f),g7 av,iJ];grind
 |@argM es e ts us c _ ak _ g m=>
  intro d G;rw[gn _ _ _ _ (g _ G),jf ak xaa,m _ G]
 |@key1 e ts k l r O ah _ av al=>
  intro d G;have f:0<d+1:=xaa;rw[lK O,gZ ah,gn _ _ _ _ (al _ f),g7 av,iJ];grind
 |@key2 a b ts us k l c r O ah _ ak _ av g m=>
  intro d G;have f:0<d+1:=xaa;rw[lK O,gZ ah,gn _ _ _ _ (g _ f),jf ak xaa,gn _ _ _ _ (m _ f),g7 av,iJ];grind
 |@key3 a b bw ts us Y k l c c2 r O ah _ ak _ ab _ av g m v=>
  intro d G;have f:0<d+1:=xaa;rw[ik O,gZ ah,gn _ _ _ _ (g _ f),jf ak xaa,gn _ _ _ _ (m _ f),jf ab xaa,gn _ _ _ _ (v _ f),g7 av,iJ];grind
 |@keyN e ts k l c b2 r O ah _ ak hn av al=>
  intro d G;have f:0<d+1:=xaa;rw[lK O,gZ ah,gn _ _ _ _ (al _ f),jf ak xaa,ik hn,g7 av,iJ];grind
 |@put e ts k l c bC c2 b2 r O ah _ ak hi ab hn av al=>
  intro d G;have f:0<d+1:=xaa;rw[ik O,gZ ah,gn _ _ _ _ (al _ f),jf ak xaa,ik hi,jf ab xaa,ik hn,g7 av,iJ];grind
 |@grad e ts k l c bI r O ah _ ak hn av al=>
  intro d G;have f:0<d+1:=xaa;rw[ik O,gZ ah,gn _ _ _ _ (al _ f),jf ak xaa,ik hn,g7 av,iJ];grind
 |@jvp e bw ts us k l c bI c2 r O ah _ ak hn ab _ av g m=>
  intro d G;have f:0<d+1:=xaa;rw[ik O,gZ ah,gn _ _ _ _ (g _ f),jf ak xaa,ik hn,jf ab xaa,gn _ _ _ _ (m _ f),g7 av,iJ];grind
theorem jQ{es}(h:Pr n es ts):n<=2->cm 0 ts=some 0:=by
 have f:∀{n:Nat}{es:List Ex}{ts:List Tok},Pr n es ts->cm (0+1) ts=some (0+1):=λh=>Jo h _ xab;induction h with
 |up01 _ al=>exact λ_=>al xab
 |up12 _ al=>exact λ_=>al xab
 |arg1 _ _=>intro h;omega
 |argM _ _ _ _ _=>intro h;omega
 |@add a b ts us o _ ax _ g m=>
  intro _;rw[gn _ _ _ _ (g xab),lK ax,m xab]
 |@mul a b ts us o _ ax _ g m=>
  intro _;rw[gn _ _ _ _ (g xab),lK ax,m xab]
 |@neg e ts o ax _ al=>
  intro _;rw[ik ax,al xab]
 |@num t ht=>
  intro _;rw[lK ht,iJ]
 |@name t ht=>
  intro _;rw[ik ht,iJ]
 |@par e ts l r ah B av _=>
  intro _;rw[gZ ah,gn _ _ _ _ (f B),g7 av,iJ];rfl
 |@call0 t l r ht ah av=>
  intro _;rw[ik ht,gZ ah,g7 av,iJ];rfl
 |@call es ts t l r ht ah B av _=>
  intro _;rw[ik ht,gZ ah,gn _ _ _ _ (f B),g7 av,iJ];rfl
 |@key1 e ts k l r O ah B av _=>
  intro _;rw[lK O,gZ ah,gn _ _ _ _ (f B),g7 av,iJ];rfl
 |@key2 a b ts us k l c r O ah B ak U av _ _=>
  intro _;rw[lK O,gZ ah,gn _ _ _ _ (f B),jf ak xab,gn _ _ _ _ (f U),g7 av,iJ];rfl
 |@key3 a b bw ts us Y k l c c2 r O ah B ak U ab h3 av _ _ _=>
  intro _;rw[ik O,gZ ah,gn _ _ _ _ (f B),jf ak xab,gn _ _ _ _ (f U),jf ab xab,gn _ _ _ _ (f h3),g7 av,iJ];rfl
 |@keyN e ts k l c b2 r O ah B ak hn av _=>
  intro _;rw[lK O,gZ ah,gn _ _ _ _ (f B),jf ak xab,ik hn,g7 av,iJ];rfl
 |@put e ts k l c bC c2 b2 r O ah B ak hi ab hn av _=>
  intro _;rw[ik O,gZ ah,gn _ _ _ _ (f B),jf ak xab,ik hi,jf ab xab,ik hn,g7 av,iJ];rfl
 |@grad e ts k l c bI r O ah B ak hn av _=>
  intro _;rw[ik O,gZ ah,gn _ _ _ _ (f B),jf ak xab,ik hn,g7 av,iJ];rfl
 |@jvp e bw ts us k l c bI c2 r O ah B ak hn ab U av _ _=>
  intro _;rw[ik O,gZ ah,gn _ _ _ _ (f B),jf ak xab,ik hn,jf ab xab,gn _ _ _ _ (f U),g7 av,iJ];rfl
structure SpS where
 d:Int
 cur:List Tok
 ou:List (List Tok)
def iK(q:SpS)(t:Tok):SpS:=
 if t.sym=[40] then⟨q.d+1,q.cur++[t],q.ou⟩
 else if t.sym=[41] then⟨q.d-1,q.cur++[t],q.ou⟩
 else if t.sym=[44]/\q.d=0 then⟨0,[],q.ou++[q.cur]⟩
 else⟨q.d,q.cur++[t],q.ou⟩
def ml(q:SpS)(ts:List Tok):SpS:=ts.foldl iK q
theorem oZ(q a b):ml q (a++b)=ml (ml q a) b:=by unfold ml;grind
theorem lh(q t b):ml q (t::b)=ml (iK q t) b:=rfl
theorem qz:∀(ts:List Tok) (d e:Int) (H:List Tok) (out:List (List Tok)),cm d ts=some e->ml ⟨d,H,out⟩ ts=⟨e,H++ts,out⟩
 |[],d,e,H,out,h=>by cases h;show(⟨d,H,out⟩:SpS)=_;grind
 |t::ts,d,e,H,out,h=>by
  rw[lh]
  by_cases B:t.sym=[40]
  ·rw[gZ B]at h
   rw[show iK ⟨d,H,out⟩ t=⟨d+1,H++[t],out⟩ by unfold iK;rw[hI B],qz ts _ _ _ _ h,List.append_assoc];rfl
  ·by_cases U:t.sym=[41]
   ·rw[g7 U]at h
    rw[show iK ⟨d,H,out⟩ t=⟨d-1,H++[t],out⟩ by unfold iK;rw[hG B,hI U],qz ts _ _ _ _ h,List.append_assoc];rfl
   ·by_cases h3:t.sym=[44]/\d=0
    ·grind[cm]
    ·have h':cm d ts=some e:=by grind[cm]
     rw[show iK _ t=⟨d,H++[t],out⟩ by grind[iK],qz _ _ _ _ _ h',List.append_assoc];rfl
theorem sW(h:c.sym=[44])(H out):iK ⟨0,H,out⟩ c=⟨0,[],out++[H]⟩:=by
 grind[iK]
def gj(ts:List Tok):List (List Tok):=if ts=[] then[]else (ml ⟨0,[],[]⟩ ts).ou++[(ml ⟨0,[],[]⟩ ts).cur]
theorem sX(B:t.sym≠[40])(U:t.sym≠[41])(h3:t.sym≠[44]):cm 0 [t]=some 0:=by rw[Av B U h3];rfl
theorem Lt{es}(h:Pr n es ts):ts≠[]:=by
 induction h<;>simp_all<;>grind
theorem ME(ca:ts≠[])(h:cm 0 ts=some 0):gj ts=[ts]:=by
 simp_all[gj,qz]
theorem Aw(h:cm 0 ts=some 0)(ak:c.sym=[44])(U:cm 0 us=some 0):gj (ts++c::us)=[ts,us]:=by
 simp_all[gj,oZ,qz,lh,sW]
theorem Ax{Y c2}(h:cm 0 ts=some 0)(ak:c.sym=[44])(U:cm 0 us=some 0)(ab:c2.sym=[44])(h3:cm 0 Y=some 0):gj (ts++c::(us++c2::Y))=[ts,us,Y]:=by
 simp_all[gj,oZ,qz,lh,sW]
theorem Ay{es}(h:Pr n es ts):n=3->∃(d:List (List Tok)) (l:List Tok),ml ⟨0,[],[]⟩ ts=⟨0,l,d⟩/\(d++[l]).length=es.length/\∀i,i<es.length->Pr 2 [es.getD i (.num hL)] ((d++[l]).getD i []):=by
 induction h with
 |@arg1 e ts B _=>
  intro _;refine⟨[],ts,?_,rfl,λi hi=>?_⟩
  ·rw[qz _ 0 0 _ _ (jQ B xab)];rfl
  simp_all
 |@argM es e ts us c B ak U al _=>
  intro _;obtain⟨d,l,af,a0,aj⟩:=al rfl;refine⟨d++[l],us,?_,by simp at a0⊢;omega,λi hi=>?_⟩
  ·rw[oZ,af,lh,sW ak,qz _ 0 0 _ _ (jQ U xab)];rfl
  grind
 |up01 _ _=>omega
 |up12 _ _=>omega
 |add _ _ _ _ _=>omega
 |mul _ _ _ _ _=>omega
 |neg _ _ _=>omega
 |num _=>omega
 |name _=>omega
 |par _ _ _ _=>omega
 |call0 _ _ _=>omega
 |call _ _ _ _ _=>omega
 |key1 _ _ _ _ _=>omega
 |key2 _ _ _ _ _ _ _ _=>omega
 |key3 _ _ _ _ _ _ _ _ _ _ _=>omega
 |keyN _ _ _ _ _ _ _=>omega
 |put _ _ _ _ _ _ _ _ _=>omega
 |grad _ _ _ _ _ _ _=>omega
 |jvp _ _ _ _ _ _ _ _ _ _=>omega
theorem Az{es}(h:Pr 3 es ts):(gj ts).length=es.length/\∀i,i<es.length->Pr 2 [es.getD i (.num hL)] ((gj ts).getD i []):=by
 grind[Ay,gj,Lt]
theorem MF(t i j):(kY t i j).length<=t.length:=by
 grind[kY]
theorem Fr(t i)(h:i<t.length):(nxT t i).text.length<=t.length:=by
 grind[nxT,MF,lr]
theorem yz(t i):∀K∈kU t i,K.text.length<=t.length:=by
 intro K aw;rw[kU]at aw;split at aw
 ·rename_i h;split at aw
  ·grind[Fr]
  rcases List.mem_cons.1 aw with c|c
  ·subst c;exact Fr t i h
  exact yz t _ _ c
 cases aw
termination_by t.length-i
decreasing_by
 grind[sT,pI]
theorem Jp(t j):((jE t).getD j hL).text.length<=t.length:=by
 by_cases h:j<(jE t).length
 ·refine yz t (skM t 0) _ ?_;exact xjm
 rw[yah,List.getElem?_eq_none xaa];exact Nat.zero_le _
end
section
open Go.ChangeShapes Go.WideShapes Go.ChangeAt Go.RowKit Flt
theorem CT:prog.cellsOf 5=1:=by kernel_rfl
theorem yB:laidOutB prog=true:=by kernel_rfl
theorem sY{H enc w base p g a n cap}{d:DataW H}{aT}
  (h:DataW.Trod enc prog w base p g 22 (.slice a n cap) d aT):n<=cap/\∃xs,YS w a n xs:=by
 obtain⟨s,a9⟩:=h;rcases Deep.open_slice1 underlying22 CT a9 with⟨aM,_⟩|⟨x,l,c,m,S,Vaa,D,r,aM,_,ah,_,aw,_,ak⟩
 ·simp[Value.cells]at aM;obtain⟨rfl,rfl,rfl⟩:=aM;exact⟨yad,[],rfl,by simp,.inl rfl⟩
 simp[Value.cells]at aM;obtain⟨rfl,rfl,rfl⟩:=aM;refine⟨ah,?_⟩;have ar:n<=m:=by grind
 have au:∀i,i<n->∃b:Int,w.cell? _=some _/\0<=b/\b<256:=λi hi=>by
  obtain⟨B,U⟩:=ak i xaa
  obtain⟨b,e,X⟩:=DataW.trod_int underlying5 U
  simp at e
  have hb:0<=b/\b<256:=by
   have:=X.2
   simp[Lit.wf,IntKind.min,IntKind.max,IntKind.signed,IntKind.bits]at this
   omega
  exact⟨b,by rw[B,e],hb.1,hb.2⟩
 obtain⟨f,o⟩:=Deep.choose_lt au;refine⟨(List.range n).map f,by simp,?_,?_⟩
 ·simp_all
 rcases Nat.eq_zero_or_pos n with ai|ai
 ·exact .inl ai
 obtain⟨b,off,q⟩:=x;have j:q=none:=by simpa[Addr.add] using World.cell?_spot (o 0 ai).1
 subst j
 have U:∀k,k<n->w.cell? ⟨b,off+k,_⟩=some (.int _ (((List.range n).map f).getD k 0)):=λk O=>by
  have B:=(o k O).1
  rw[show((List.range n).map f).getD k 0=f k by grind]
  by_cases N:k=0
  ·subst N;simpa[Addr.add] using B
  ·simpa[Addr.add,N] using B
 have hb:=World.block_lt_of_cell? (h:=U 0 ai);grind
