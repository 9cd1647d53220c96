import Derived.Test.YtkjahdegnkmejaaGreatP01
namespace Go.Proofs.Z
open Tryz
set_option maxRecDepth 1000000
set_option maxHeartbeats 0
section
open Go.RowKit Flt
attribute[local go_sem] eE eC eB
variable{xs:List Int}
structure YS(w:World)(a:Option Addr)(n:Nat)(xs:List Int):Prop where
 len:xs.length=n
 lt:∀x∈xs,0<=x/\x<256
 at_:n=0\/∃g off,a=some ⟨g,off,none⟩/\g<w.heap.size/\∀k,k<n->w.cell? ⟨g,off+k,none⟩=some (.int .u8 (xs.getD k 0))
theorem YS.keep{w O a n}(f:YS w a n xs)(k:Kept 0 0 w O):YS O a n xs:=
 ⟨f.len,f.lt,by
  rcases f.at_ with aj|⟨g,an,e,h3,bp⟩
  ·exact .inl aj
  ·exact .inr ⟨g,_,e,yak h3 k.size,λj hj=>by rw[k.cell h3 xaa];grind⟩⟩
theorem mf(h:∀x∈xs,0<=x/\x<256)(k):0<=xs.getD k 0/\xs.getD k 0<256:=by
 rw[yai];by_cases J:k<xs.length
 ·rw[yam J];exact h _ (List.getElem_mem _)
 rw[List.getElem?_eq_none xaa];exact⟨by decide,by decide⟩
theorem LD:(prog.info? 5).map (λi=>(i.zero,i.size,i.bytes))=some (some (.int .u8 0),1,1):=by kernel_rfl
end
section
open Go.RowKit Flt
variable{xs:List Int}{t:List UInt8}{k i j:Nat}{p b:Int}
def dig(c:Int):Bool:=decide (48<=c)&&decide (c<=57)
theorem sG{c}(h:dig c=true):48<=c/\c<=57:=by simp[dig]at h;exact h
theorem vZ:dig 46=false:=xab
structure GoodAt(xs:List Int)(p:Int):Prop where
 pos:0<xs.length
 point:∀i,i<xs.length->(xs.getD i 0=46↔(i:Int)=p)
 digit:∀i,i<xs.length->xs.getD i 0≠46->dig (xs.getD i 0)=true
 place:p=-1\/(0<p/\p+1<xs.length)
def v7(xs:List Int):Prop:=∃p,GoodAt xs p
def nst(s:Int×Int×Bool)(c:Int):Int×Int×Bool:=if c=46 then (s.1,s.2.1,true)else (s.1*10+(c-48),if s.2.2 then s.2.1*10 else s.2.1,s.2.2)
def nds(xs:List Int):Int×Int×Bool:=xs.foldl nst (0,1,false)
theorem uF(xs:List Int)(k)(J:k<xs.length):xs.take (k+1)=xs.take k++[xs.getD k 0]:=by
 simp_all
theorem pU(xs:List Int)(k)(J:k<xs.length):nds (xs.take (k+1))=nst (nds (xs.take k)) (xs.getD k 0):=by
 rw[uF _ k J,nds,List.foldl_append];rfl
theorem pV(q)(xs:List Int)(k)(J:k<xs.length):(xs.take (k+1)).countP q=(xs.take k).countP q+if q (xs.getD k 0)then 1 else 0:=by
 rw[uF _ k J,List.countP_append];grind
theorem uG(xs:List Int)(h:∀i,i<xs.length->xs.getD i 0≠46->dig (xs.getD i 0)=true):∀k,k<=xs.length->
  0<=(nds (xs.take k)).1/\(nds (xs.take k)).1<10 ^ k/\1<=(nds (xs.take k)).2.1/\(nds (xs.take k)).2.1<=10 ^ k
 |0,_=>by simp[nds]
 |k+1,J=>by
  obtain⟨B,N,h3,bp⟩:=uG _ h k xaa
  have aA:(10:Int) ^ (k+1)=10 ^ k*10:=xaa
  rw[pU _ k xaa,aA]
  unfold nst
  by_cases c:xs.getD k 0=46
  ·grind
  ·rw[ip c]
   have:=sG (h k xaa c)
   grind
theorem OT(h:k<=16):(10:Int) ^ k<=10000000000000000:=by
 have:(10:Int) ^ k<=10 ^ 16:=by
  have e:((10 ^ k:Nat):Int)<=(10 ^ 16:Nat):=Int.ofNat_le.2 (Nat.pow_le_pow_right xab h);simpa using e
 omega
theorem uH(xs:List Int)(h:∀i,i<xs.length->xs.getD i 0≠46->dig (xs.getD i 0)=true)(k)(J:k<=xs.length)(e:k<=16):
  0<=(nds (xs.take k)).1/\(nds (xs.take k)).1<=10000000000000000/\1<=(nds (xs.take k)).2.1/\(nds (xs.take k)).2.1<=10000000000000000:=by
 obtain⟨B,N,h3,bp⟩:=uG _ h k J;have:=OT e;omega
theorem ye(xs:List Int)(h:∀i,i<xs.length->xs.getD i 0≠46->dig (xs.getD i 0)=true):∀k,k<=xs.length->
  (xs.take k).countP dig+(xs.take k).countP (· ==46)=k
 |0,_=>by simp
 |k+1,J=>by
  have O:=ye _ h k xaa
  grind[pV,vZ]
theorem GoodAt.points(h:GoodAt xs p):∀k,k<=xs.length->(xs.take k).countP (· ==46)=if 0<=p/\p<k then 1 else 0
 |0,_=>by grind
 |k+1,J=>by
  rw[pV _ _ k xaa,h.points k xaa]
  by_cases c:xs.getD k 0=46
  ·have:=(h.point k xaa).1 c
   grind
  ·have:¬k=p:=λe=>c ((h.point k xaa).2 e)
   grind
theorem GoodAt.short(h:GoodAt xs p)(aN:xs.countP dig<=15):xs.length<=16:=by
 have B:=ye _ h.digit _ yad;have N:=h.points _ yad;grind
theorem GoodAt.behind(h:GoodAt xs p):∀k,k<=xs.length->(nds (xs.take k)).2.2=decide (0<=p/\p<k)
 |0,_=>by rw[yay xaa];rfl
 |k+1,J=>by
  have O:=h.behind k xaa
  rw[pU _ k xaa]
  unfold nst
  by_cases c:xs.getD k 0=46
  ·have:=(h.point k xaa).1 c
   grind
  ·have:¬k=p:=λe=>c ((h.point k xaa).2 e)
   grind
def RN(xs:List Int)(f:Nat)(c:Int):Prop:=
 (¬v7 xs/\f=0/\c=2)\/(v7 xs/\15<xs.countP dig/\f=0/\c=5)\/
 (v7 xs/\xs.countP dig<=15/\f<18446744073709551616/\fb f=fb (cop .quo (floatOfInt .f64 (nds xs).1) (floatOfInt .f64 (nds xs).2.1))/\c=0)
structure Mid(xs:List Int)(k:Nat)(p:Int)(dg:Int):Prop where
 count:dg=((xs.take k).countP dig:Nat)
 point:∀i,i<k->(xs.getD i 0=46↔(i:Int)=p)
 digit:∀i,i<k->xs.getD i 0≠46->dig (xs.getD i 0)=true
 place:p=-1\/(0<=p/\p<k)
theorem Cr(xs):Mid xs 0 (-1) 0:=⟨rfl,λi hi=>by omega,λi hi=>by omega,.inl rfl⟩
theorem Mid.digitStep(h:Mid xs k p b)(J:k<xs.length)(aN:dig (xs.getD k 0)=true):Mid xs (k+1) p (b+1):=by
 have hn:xs.getD k 0≠46:=λe=>by rw[e]at aN;cases aN
 refine⟨?_,?_,?_,?_⟩
 ·rw[pV _ _ k J,aN,h.count];simp
 ·intro i hi;by_cases e:i=k
  ·subst e;refine⟨λc=>absurd c hn,λc=>?_⟩;rcases h.place with q|q<;>omega
  exact h.point i xaa
 ·exact xjm
 rcases h.place with q|q<;>grind
theorem Mid.pointStep(h:Mid xs k p b)(J:k<xs.length)(aN:xs.getD k 0=46)(aA:p<0):Mid xs (k+1) k b:=by
 refine⟨?_,?_,?_,?_⟩
 ·rw[pV _ _ k J,aN,vZ,h.count];simp
 ·intro i hi;by_cases e:i=k
  ·simp_all
  refine⟨λc=>?_,λc=>by omega⟩;have:=(h.point i xaa).1 c;omega
 ·exact xjm
 omega
theorem Mid.bad(h:Mid xs k p b)(J:k<xs.length)(aN:dig (xs.getD k 0)=false)(hb:xs.getD k 0≠46\/0<=p):¬v7 xs:=by
 rintro⟨q,g⟩;by_cases c:xs.getD k 0=46
 ·rcases hb with hb|hb
  ·exact hb c
  have ad:=(g.point k J).1 c;rcases h.place with aj|aj
  ·omega
  obtain⟨m,rfl⟩:=Int.eq_ofNat_of_zero_le aj.1;have B:=(h.point m xaa).2 rfl;have:=(g.point m xaa).1 B;omega
 have:=g.digit k J c;grind
theorem Mid.good(h:Mid xs xs.length p b)(aj:0<xs.length)(B:p≠0)(N:p≠(xs.length:Int)-1):GoodAt xs p:=
 ⟨aj,h.point,h.digit,by rcases h.place with q|q<;>omega⟩
theorem Mid.notGood(h:Mid xs xs.length p b)(hb:xs.length=0\/p=0\/p=(xs.length:Int)-1)(aj:0<xs.length->0<=p):¬v7 xs:=by
 rintro⟨q,g⟩;have aA:=g.pos;have:=aj aA;obtain⟨m,rfl⟩:=Int.eq_ofNat_of_zero_le this;have aD:m<xs.length:=xaa;have B:=(h.point m aD).2 rfl;have:=(g.point m aD).1 B;rcases g.place with q|q<;>omega
def bt(t:List UInt8)(k:Nat):Int:=((t.getD k 0).toNat:Int)
def nC(x:Int):Bool:=decide (97<=x)&&decide (x<=122)||x==95
def pW(x:Int):Bool:=nC x||dig x
def Ao(x:Int):Bool:=x==32||x==9||x==13||x==10
def rH(x:Int):Bool:=!(x==10)
def gG(p:Int->Bool)(t:List UInt8)(j:Nat):Nat:=if j<t.length/\p (bt t j)=true then gG p t (j+1)else j
termination_by t.length-j
decreasing_by omega
theorem oG{p}(h:¬(j<t.length/\p (bt t j)=true)):gG p t j=j:=by rw[gG,ip h]
theorem v8{p}(B:j<t.length)(N:p (bt t j)=true):gG p t j=gG p t (j+1):=by rw[gG,iv ⟨B,N⟩]
theorem mT(p t j):j<=gG p t j:=by
 rw[gG];split
 ·have:=mT p t (j+1);omega
 omega
termination_by t.length-j
decreasing_by omega
theorem lE(p t j)(h:j<=t.length):gG p t j<=t.length:=by
 rw[gG];split
 ·exact lE p t _ xaa
 exact h
termination_by t.length-j
decreasing_by omega
theorem oH{p}(B:j<t.length)(N:p (bt t j)=true):j<gG p t j:=by
 grind[v8,mT]
theorem yg{p t}(j):∀k,j<=k->k<gG p t j->p (bt t k)=true:=by
 intro k B N;rw[gG]at N;split at N
 ·rename_i c;by_cases e:k=j
  ·grind
  exact yg _ k xaa N
 omega
termination_by t.length-j
decreasing_by omega
def skM(t:List UInt8)(i:Nat):Nat:=
 if h:i<t.length then
  if Ao (bt t i)=true then skM t (i+1)
  else if _h2:bt t i=35 then skM t (gG rH t i)else i
 else i
termination_by t.length-i
decreasing_by
 ·omega
 ·grind[oH,rH]
theorem IM(h:¬i<t.length):skM t i=i:=by rw[skM,dif_neg h]
theorem Cs(h:i<t.length)(B:Ao (bt t i)=true):skM t i=skM t (i+1):=by rw[skM,dif_pos h,iv B]
theorem Ew(h:i<t.length)(B:bt t i=35):skM t i=skM t (gG rH t i):=by
 rw[skM,dif_pos h,ip (by rw[B];decide),dif_pos B]
theorem Ey(h:i<t.length)(B:Ao (bt t i)=false)(N:bt t i≠35):skM t i=i:=by
 grind[skM]
theorem py(t i):i<=skM t i:=by
 rw[skM];split
 ·rename_i h;split
  ·have:=py t (i+1);omega
  split
  ·rename_i N;have h3:=oH (p:=rH) h (by rw[N];decide);have:=py t (gG rH t i);omega
  omega
 omega
termination_by t.length-i
decreasing_by
 ·omega
 ·omega
theorem wa(t i)(hi:i<=t.length):skM t i<=t.length:=by
 rw[skM];split
 ·rename_i h;split
  ·exact wa t _ xaa
  split
  ·rename_i N;have h3:=oH (p:=rH) h (by rw[N];decide);exact wa t _ (lE _ _ _ hi)
  omega
 omega
termination_by t.length-i
decreasing_by
 ·omega
 ·omega
structure Tok where
 sym:List UInt8
 pos:Nat
 text:List UInt8
def i1:Tok:=⟨[],0,[]⟩
def kJ(t:List UInt8)(i j:Nat):List UInt8:=(t.drop i).take (j-i)
theorem yh(h:j<=t.length):(kJ t i j).length=j-i:=by
 grind[kJ]
def gz:List UInt8:=[110,97,109,101]
def ik:List UInt8:=[105,110,116]
def kK:List UInt8:=[100,101,99]
def keysL:List (List UInt8):=[[105,110],[108,101,116],[111,117,116],[100,101,102],[114,101,112,101,97,116],[101,120,112],[115,117,109],[109,97,120],[100,111,116],[115,101,108],[102,105,108,108],[112,105,99,107],[112,117,116],[103,114,97,100],[106,118,112]]
def onesL:List UInt8:=[43,45,42,47,40,41,44,59,58,61]
def mg(s:List UInt8):List UInt8:=if s∈keysL then s else gz
def kT(x:UInt8):List UInt8:=if x∈onesL then[x] else[]
def rI(t:List UInt8)(i:Nat):Nat:=if gG dig t i+1<t.length/\bt t (gG dig t i)=46/\dig (bt t (gG dig t i+1))=true then gG dig t (gG dig t i+1)else gG dig t i
def sH(t:List UInt8)(i:Nat):List UInt8:=if gG dig t i+1<t.length/\bt t (gG dig t i)=46/\dig (bt t (gG dig t i+1))=true then kK else ik
def nxE(t:List UInt8)(i:Nat):Nat:=if nC (bt t i)=true then gG pW t i else if dig (bt t i)=true then rI t i else i+1
def nxT(t:List UInt8)(i:Nat):Tok:=
 if nC (bt t i)=true then⟨mg (kJ t i (gG pW t i)),i,kJ t i (gG pW t i)⟩
 else if dig (bt t i)=true then⟨sH t i,i,kJ t i (rI t i)⟩
 else⟨kT (t.getD i 0),i,kT (t.getD i 0)⟩
theorem IN(h:i<t.length)(aN:dig (bt t i)=true):i<rI t i:=by
 grind[rI,mT,gG]
theorem IP(h:i<t.length):rI t i<=t.length:=by
 grind[lE,rI]
theorem sI(h:i<t.length):i<nxE t i:=by
 grind[nxE,oH,pW,IN]
theorem Ez(h:i<t.length):nxE t i<=t.length:=by
 grind[nxE,lE,IP]
def kH(t:List UInt8)(i:Nat):List Tok:=
 if _h:i<t.length then
  if (nxT t i).sym=[] then[nxT t i]else nxT t i::kH t (skM t (nxE t i))
 else[]
termination_by t.length-i
decreasing_by
 grind[sI,py]
theorem Ct(h:¬i<t.length):kH t i=[]:=by rw[kH,dif_neg h]
theorem Cu(h:i<t.length)(B:(nxT t i).sym=[]):kH t i=[nxT t i]:=by rw[kH,dif_pos h,iv B]
theorem EA(h:i<t.length)(B:(nxT t i).sym≠[]):kH t i=nxT t i::kH t (skM t (nxE t i)):=by rw[kH,dif_pos h,ip B]
theorem uI(t i):(kH t i).length<=t.length-i:=by
 rw[kH];split
 ·rename_i h;split
  ·simp;omega
  have B:=sI h;have N:=py t (nxE t i);have h3:=uI t (skM t (nxE t i));grind
 simp
termination_by t.length-i
decreasing_by omega
def jk(t:List UInt8):List Tok:=kH t (skM t 0)
theorem pX(t):(jk t).length<=t.length:=by
 grind[uI,jk]
theorem kU(c w):Calls prog 100 #[.int .u8 c] w λe O=>e=.returned (.bool (dig c))/\O=w:=by
 by_cases B:48<=c
 ·have e:dig c=decide (c<=57):=by unfold dig;rw[decide_eq_true B];rfl
  exact xjc
 have e:dig c=false:=by unfold dig;rw[yay B];rfl
 have t:=yay B;exact xjc
theorem yi(w a cap):
  Calls prog 87 #[.slice a 0 cap] w λe O=>e=.returned (.tuple #[.float .f64 0,ih 2])/\Drawn w O:=by
 go_enter func87,ntmps87;go_wp2_with fail;refine wp_loop_rounds 1 ?_;rw[rounds_succ];go_wp2;go_ret2
 exact⟨rfl,Drawn.refl _⟩
theorem Cv(J:k<xs.length)(h:xs.getD k 0=46):(nds (xs.take (k+1))).1=(nds (xs.take k)).1/\(nds (xs.take (k+1))).2.1=(nds (xs.take k)).2.1/\(nds (xs.take (k+1))).2.2=true:=by
 grind[pU,nst]
theorem Cw(J:k<xs.length)(h:xs.getD k 0≠46):(nds (xs.take (k+1))).1=(nds (xs.take k)).1*10+(xs.getD k 0-48)/\(nds (xs.take (k+1))).2.1=(if (nds (xs.take k)).2.2 then (nds (xs.take k)).2.1*10 else (nds (xs.take k)).2.1)/\(nds (xs.take (k+1))).2.2=(nds (xs.take k)).2.2:=by
 grind[pU,nst]
theorem Ap(w g an n cap xs)(aH:xs.length=n)(aj:0<n)(hn:n<=1048576)(aY:∀x∈xs,0<=x/\x<256)
  (ai:∀k,k<n->w.cell? ⟨g,an+k,none⟩=some (.int .u8 (xs.getD k 0))):
  Calls prog 87 #[.slice (some ⟨g,an,none⟩) n cap] w λe O=>∃f c,e=.returned (.tuple #[.float .f64 f,ih c])/\RN xs f c/\Drawn w O:=by
 have bi:V _:=ai;have bA:V _:=aH;have HL:V _:=aY;clear ai aH aY;go_enter func87,ntmps87;go_wp2_with fail;go_loopw [4,5,6] (λex K G W=>∃(k:Nat) (p b:Int),k<=n/\ex=ih p/\K=ih b/\G=ih k/\V (Mid xs k p b)/\(0<=b/\b<=k/\-1<=p/\p<n)/\Drawn w W) (λ_ _ G _=>n-(intOf G).toNat)
 case atStart=>exact⟨0,_,0,yae,rfl,rfl,rfl,Cr _,⟨by omega,by omega,by omega,by omega⟩,Drawn.refl _⟩
 case round=>
  obtain⟨k,p,b,J,rfl,rfl,rfl,bE,⟨cp,aD,cJ,N⟩,bF⟩:=hrel;by_cases aY:k<n
  ·have c1:wr.cell? ⟨g,an+k,none⟩=some (.int .u8 (xs.getD k 0)):=by rw[bF.cell];exact bi.o k aY
   have HD:V _:=kU (xs.getD k 0) wr;have C:k<xs.length:=jn bA.o aY
   cases t:dig (xs.getD k 0)
   ·by_cases l:xs.getD k 0=46
    ·by_cases aA:p<0
     ·have H:V _:=bE.o.pointStep C l aA;rw[l]at c1 HD;rw[vZ]at HD;clear t l bE;exact xif
     have H:V (RN _ 0 2):=.inl ⟨bE.o.bad C t (.inr xaa),rfl,rfl⟩;have S:=aA;rw[l]at c1 HD;rw[vZ]at HD;exact xgw
    have H:V (RN _ 0 2):=.inl ⟨bE.o.bad C t (.inl l),rfl,rfl⟩;have bd:=yan l;rw[t]at HD;generalize xs.getD k 0=x at c1 HD bd;exact xgw
   have H:V _:=bE.o.digitStep C t;rw[t]at HD;generalize xs.getD k 0=x at c1 HD;clear t bE;exact xif
  obtain rfl:k=n:=xaa;have a7:Mid xs xs.length p b:=jn bA.o bE.o
  by_cases aa:p=0
  ·have H:V (RN _ 0 2):=.inl ⟨a7.notGood (.inr (.inl aa)) (λ_=>by omega),rfl,rfl⟩;subst aa;clear bE a7;go_wp2;go_ret2
   exact⟨0,2,rfl,H.o,bF⟩
  by_cases u:p=k-1
  ·have H:V (RN _ 0 2):=.inl ⟨a7.notGood (.inr (.inr (jn bA.o u))) (λ_=>by omega),rfl,rfl⟩;have aW:=yan aa;have bd:(p==k-1)=true:=by grind
   clear bE a7;go_wp2;go_ret2
   exact⟨0,2,rfl,H.o,bF⟩
  have bR:=a7.good (jn bA.o aj) aa (jn bA.o u)
  have P:b=(xs.countP dig:Nat):=by
   have:=a7.count;rw[yap yad]at this;exact this
  have aW:=yan aa;have bd:=yan u;have bm:((k:Int)==0)=false:=yan xaa;by_cases I:15<b
  ·have H:V (RN _ 0 5):=.inr (.inl ⟨⟨p,bR⟩,by omega,rfl,rfl⟩);clear bE a7 bR P;go_wp2;go_ret2
   exact⟨0,5,rfl,H.o,bF⟩
  have v:=bR.short xaa;have bD:V _:=bR;have z:V (xs.countP dig<=15):=by show _<=_;omega
  have Q:k<=16:=by rw[bA.o]at v;exact v
  clear bE a7 bR P v;go_wp2_with fail;go_loopw [7,8,9] (λnv K G W=>∃(j:Nat) (aZ D:Int),j<=k/\nv=ih aZ/\K=ih D/\G=ih j/\V (aZ=(nds (xs.take j)).1/\D=(nds (xs.take j)).2.1)/\Drawn w W) (λ_ _ G _=>k-(intOf G).toNat)
  case atStart=>exact⟨0,0,1,yae,rfl,rfl,rfl,⟨rfl,rfl⟩,bF⟩
  case round=>
   obtain⟨j,aZ,D,hj,rfl,rfl,rfl,d,h⟩:=hrel;obtain⟨R,a6,U,bZ⟩:=uH _ bD.o.digit j (jn bA.o hj) xaa;rw[<-d.o.1]at R a6;rw[<-d.o.2]at U bZ;by_cases ab:j<k
   ·have c1:wr.cell? ⟨g,an+j,none⟩=some (.int .u8 (xs.getD j 0)):=by rw[h.cell];exact bi.o j ab
    have q:j<xs.length:=jn bA.o ab
    by_cases r:j=p
    ·have l:=(bD.o.point j q).2 r
     have H:V (aZ=(nds (xs.take (j+1))).1/\D=(nds (xs.take (j+1))).2.1):=by
      obtain⟨ax,aF,_⟩:=Cv q l;exact⟨d.o.1.trans ax.symm,d.o.2.trans aF.symm⟩
     have F:(j !=p)=false:=by simp[r]
     clear d c1;go_wp2;go_roundw;exact⟨j+1,aZ,D,by omega,rfl,rfl,by go_num,H,h⟩;simp[intOf];omega
    have l:xs.getD j 0≠46:=λc=>r ((bD.o.point j q).1 c);have aN:=sG (bD.o.digit j q l);obtain⟨ax,aF,_⟩:=Cw q l;rw[bD.o.behind j xaa]at aF;have F:(j !=p)=true:=by simp[r]
    by_cases m:0<=p/\p<j
    ·rw[decide_eq_true m]at aF
     have H:V (aZ*10+(xs.getD j 0-48)=(nds (xs.take (j+1))).1/\D*10=(nds (xs.take (j+1))).2.1):=by
      refine⟨?_,?_⟩
      ·rw[ax,d.o.1]
      rw[aF,d.o.2];rfl
     clear ax aF l d;generalize xs.getD j 0=x at c1 aN H;have y:=m.1;have B:=m.2;go_wp2;go_roundw;exact⟨j+1,_,_,by omega,by go_num,by go_num,by go_num,H,h⟩;simp[intOf];omega
    rw[yay m]at aF
    have H:V (aZ*10+(xs.getD j 0-48)=(nds (xs.take (j+1))).1/\D=(nds (xs.take (j+1))).2.1):=by
     refine⟨?_,?_⟩
     ·rw[ax,d.o.1]
     rw[aF,d.o.2];rfl
    clear ax aF l d;generalize xs.getD j 0=x at c1 aN H;by_cases y:0<=p
    ·have B:¬(p<j):=λc=>m ⟨y,c⟩;exact xhi
    exact xhi
   obtain rfl:j=k:=xaa;have e:=yap (by rw[bA.o];exact yad);rw[e]at d;have H:V (∀W:World,RN _ (fop _ (floatOfInt _ aZ) (floatOfInt _ D) W) 0):=λW=>.inr (.inr ⟨⟨p,bD.o⟩,z.o,mR _ _ _ _,by rw[mz,d.o.1,d.o.2],rfl⟩);have am:=λW=>pT (P:=prog) W 41 (floatOfInt .f64 aZ) (floatOfInt .f64 D);clear d e;go_wp2;go_ret2
   exact⟨_,0,rfl,H.o _,h.more _⟩
theorem qM(w a n cap xs)(f:YS w a n xs)(hn:n<=1048576):
  Calls prog 87 #[.slice a n cap] w λe O=>∃f c,e=.returned (.tuple #[.float .f64 f,ih c])/\RN xs f c/\Drawn w O:=by
 rcases Nat.eq_zero_or_pos n with aj|aj
 ·subst aj;have:=List.length_eq_zero_iff.1 f.len;subst this;exact(yi w a _).mono λ_ _ h=>⟨0,2,h.1,.inl ⟨λ⟨_,g⟩=>by have:=g.pos;grind,rfl,rfl⟩,h.2⟩
 rcases f.at_ with h|⟨g,an,rfl,h3,bp⟩
 ·omega
 exact Ap w g _ n _ _ f.len aj hn f.lt bp
end
section
open Go.RowKit Flt
attribute[local go_sem] eE eC eB
structure TxS(w:World)(g off n:Nat)(t:List UInt8):Prop where
 len:t.length=n
 lt:g<w.heap.size
 at_:∀k,k<n->w.cell? ⟨g,off+k,none⟩=some (.int .u8 (bt t k))
theorem TxS.keep{w O g an n t}(h:TxS w g an n t)(k:Kept 0 0 w O):TxS O g an n t:=
 ⟨h.len,yak h.lt k.size,λj hj=>(k.cell (p:=⟨g,an+j,none⟩) h.lt xaa).trans (h.at_ j hj)⟩
theorem nQ(c w):Calls prog 109 #[.int .u8 c] w λe O=>e=.returned (.bool (nC c))/\O=w:=by
 cases B:decide (97<=c)
 ·have e:nC c=(c==95):=by unfold nC;rw[B];rfl
  exact xfz
 cases N:decide (c<=122)
 ·have e:nC c=(c==95):=by unfold nC;rw[B,N];rfl
  exact xfz
 have e:nC c=true:=by unfold nC;rw[B,N];rfl
 exact xfz
theorem EB(w g an n cap t)(f:TxS w g an n t)(i)(hi:i<=n)(hn:n<=1000000):
  Calls prog 97 #[.slice (some ⟨g,an,none⟩) n cap,ih i] w λe O=>e=.returned (ih (skM t i:Nat))/\O=w:=by
 have aO:V _:=f;obtain⟨E,bY⟩:∃E,E=skM t i:=⟨_,rfl⟩
 rw[<-bY];have HE:V _:=bY.symm;clear f bY;go_enter func97,ntmps97;go_wp2_with fail;go_loopw [1] (λG W=>W=w/\∃k:Nat,k<=n/\G=ih k/\V (skM t k=E)) (λG _=>n-(intOf G).toNat)
 case atStart=>exact⟨rfl,i,hi,rfl,HE⟩
 case round=>
  obtain⟨rfl,k,J,rfl,aS⟩:=hrel;by_cases aY:k<n
  ·have c1:=aO.o.at_ k aY;have b:V (k<t.length):=by show _<_;rw[aO.o.len];exact aY
   by_cases hb:Ao (bt t k)=true
   ·have H:V _:=(Cs b.o hb).symm.trans aS.o;unfold Ao at hb;generalize bt t k=x at c1 hb;cases aW:(x==32)
    ·cases bd:(x==9)
     ·cases cu:(x==13)
      ·have cD:(x==10)=true:=by simpa[aW,bd,cu] using hb
       exact xdh
      exact xdh
     exact xdh
    exact xdh
   have K:Ao (bt t k)=false:=by simpa using hb
   by_cases l:bt t k=35
   ·have HR:V _:=(Ew b.o l).symm.trans aS.o;have bD:V (k<gG rH t k/\gG rH t k<=t.length):=⟨oH b.o (by rw[l];decide),lE _ _ _ (Nat.le_of_lt b.o)⟩
    obtain⟨E2,d⟩:∃E2,E2=gG rH t k:=⟨_,rfl⟩
    rw[<-d]at HR bD;have aB:V _:=d.symm;rw[l]at c1;clear d hb K l aS;go_wp2_with fail;go_loopw [1] (λG W=>W=wr/\∃j:Nat,j<=n/\G=ih j/\V (gG rH t j=E2)) (λG _=>n-(intOf G).toNat)
    case atStart=>exact⟨rfl,k,J,rfl,aB⟩
    case round=>
     rename World=>W0
     obtain⟨rfl,j,hj,rfl,m⟩:=hrel;by_cases cw:j<n
     ·have c2:=aO.o.at_ j cw;have q:V (j<t.length):=by show _<_;rw[aO.o.len];exact cw
      cases cC:(bt t j==10)
      ·have H:V _:=(v8 q.o (by unfold rH;rw[cC];rfl)).symm.trans m.o;generalize bt t j=x at c2 cC;have cS:(x !=10)=true:=by unfold bne;rw[cC];rfl
       clear cC;go_wp2;exact xhy
      have H:V _:=(oG (λh=>by have:=h.2;unfold rH at this;rw[cC]at this;cases this)).symm.trans m.o;obtain rfl:=H.o;generalize bt t j=x at c2 cC;have cS:(x !=10)=false:=by unfold bne;rw[cC];rfl
      clear cC;exact xhj
     have H:V _:=(oG (λh=>i4 aO.o.len)).symm.trans m.o;obtain rfl:=H.o;exact xhj
   have H:V _:=(Ey b.o K l).symm.trans aS.o;obtain rfl:=H.o;unfold Ao at K;have bm:(bt t k==35)=false:=by simpa using l
   generalize bt t k=x at c1 K bm;simp only[Bool.or_eq_false_iff]at K;obtain⟨⟨⟨aW,bd⟩,cu⟩,cD⟩:=K;clear l hb;go_wp2;go_ret;exact⟨rfl,rfl⟩
  have H:V _:=(IM (jn aO.o.len aY)).symm.trans aS.o;obtain rfl:=H.o;go_wp2;go_ret;exact⟨rfl,rfl⟩
end
section
open Go.RowKit Flt
variable{s x p y z:List UInt8}{n j:Nat}{t c o:Tok}{ts us:List Tok}{r:List (List UInt8)}
def iq:List UInt8:=[83,84,77,84,83]
def kV:List UInt8:=[80,65,82,65,77,83]
def gl:List UInt8:=[77,79,82,69,80,65,82,65,77,83]
def gD:List UInt8:=[69,88,80,82]
def fS:List UInt8:=[77,79,82,69,84,69,82,77,83]
def jY:List UInt8:=[84,69,82,77]
def fK:List UInt8:=[77,79,82,69,85,78,65,82,89]
def pY:List UInt8:=[67,65,76,76]
def nA:List UInt8:=[65,82,71,83]
def gV:List UInt8:=[77,79,82,69,65,82,71,83]
def lA:List UInt8:=[85,78,65,82,89]
def kL(s:List UInt8):List (List UInt8):=
 if s=[45] then[[45],lA] else
 if s=[110,97,109,101] then[[110,97,109,101],pY] else
 if s=[40] then[[40],gD,[41]] else
 if s=[101,120,112]\/s=[115,117,109] then[s,[40],gD,[41]] else
 if s=[109,97,120]\/s=[100,111,116] then[s,[40],gD,[44],gD,[41]] else
 if s=[115,101,108] then[s,[40],gD,[44],gD,[44],gD,[41]] else
 if s=[102,105,108,108]\/s=[112,105,99,107] then[s,[40],gD,[44],[105,110,116],[41]] else
 if s=[112,117,116] then[s,[40],gD,[44],[105,110,116],[44],[105,110,116],[41]] else
 if s=[103,114,97,100] then[s,[40],gD,[44],[110,97,109,101],[41]] else
 if s=[106,118,112] then[s,[40],gD,[44],[110,97,109,101],[44],gD,[41]] else
 if s=[100,101,99] then[[100,101,99]] else
 [[105,110,116]]
def gh(p s:List UInt8):List (List UInt8):=
 if p=iq then (if s=[105,110] then[[105,110],[110,97,109,101],[58],[105,110,116],[59],iq]else if s=[108,101,116] then[[108,101,116],[110,97,109,101],[61],gD,[59],iq]else if s=[114,101,112,101,97,116] then[[114,101,112,101,97,116],[105,110,116],[110,97,109,101],[61],gD,[59],iq]else if s=[100,101,102] then[[100,101,102],[110,97,109,101],[40],kV,[41],[61],gD,[59],iq]else if s=[111,117,116] then[[111,117,116],gD,[59],iq] else[]) else
 if p=kV then (if s=[110,97,109,101] then[[110,97,109,101],gl] else[]) else
 if p=gl then (if s=[44] then[[44],[110,97,109,101],gl] else[]) else
 if p=gD then ([jY,fS]) else
 if p=fS then (if s=[43]\/s=[45] then[s,jY,fS] else[]) else
 if p=jY then ([lA,fK]) else
 if p=fK then (if s=[42]\/s=[47] then[s,lA,fK] else[]) else
 if p=pY then (if s=[40] then[[40],nA,[41]] else[]) else
 if p=nA then (if s=[41] then[] else[gD,gV]) else
 if p=gV then (if s=[44] then[[44],gD,gV] else[]) else
 kL s
def jA(s:List UInt8):Bool:=decide (1<s.length)&&(decide (65<=bt s 0)&&decide (bt s 0<=90))
def wt(s:List UInt8):Nat:=if s=nA then 7 else if s=gD then 5 else if s=jY then 3 else 1
def wts:List (List UInt8)->Nat
 |[]=>0
 |s::r=>wt s+wts r
def Aq:List (List UInt8)->Bool
 |[]=>false
 |p::_=>jA p
def mu(st:List (List UInt8)):Nat:=if Aq st=true then wts st+1 else 0
theorem Ar(s):1<=wt s:=by
 unfold wt;grind
def UL:List (List UInt8):=[[45],[110,97,109,101],[40],[101,120,112],[115,117,109],[109,97,120],[100,111,116],[115,101,108],[102,105,108,108],[112,105,99,107],[112,117,116],[103,114,97,100],[106,118,112],[100,101,99]]
def RL:List (List UInt8):=[[105,110],[108,101,116],[114,101,112,101,97,116],[100,101,102],[111,117,116],[110,97,109,101],[44],[43],[45],[42],[47],[40],[41]]
def PQ:List (List UInt8):=[iq,kV,gl,gD,fS,jY,fK,pY,nA,gV]
theorem wb(h:¬s∈UL):kL s=[[105,110,116]]:=by
 simp_all[UL,kL]
theorem ED(s)(h:¬p∈PQ):gh p s=kL s:=by
 simp_all[PQ,gh]
def ruN(p:List UInt8):List (List UInt8):=if p=gD then[jY,fS]else if p=jY then[lA,fK]else if p=nA then[gD,gV] else[]
theorem EE{p s}(h:p∈PQ)(aw:¬s∈RL):gh p s=ruN p:=by
 simp only[PQ,RL,List.mem_cons,List.not_mem_nil,or_false,not_or]at h aw;rcases h with rfl|rfl|rfl|rfl|rfl|rfl|rfl|rfl|rfl|rfl<;>simp[gh,aw]<;>rfl
theorem uJ(s r):Aq (kL s++r)=false:=by
 by_cases h:s∈UL
 ·simp only[UL,List.mem_cons,List.not_mem_nil,or_false]at h;rcases h with rfl|rfl|rfl|rfl|rfl|rfl|rfl|rfl|rfl|rfl|rfl|rfl|rfl|rfl<;>rfl
 rw[wb h];rfl
theorem sJ(p s r):gh p s=[]\/Aq (gh p s++r)=false\/(p=gD/\gh p s=[jY,fS])\/(p=jY/\gh p s=[lA,fK])\/(p=nA/\gh p s=[gD,gV]):=by
 by_cases h:p∈PQ
 ·by_cases aw:s∈RL
  ·simp only[PQ,RL,List.mem_cons,List.not_mem_nil,or_false]at h aw;rcases h with rfl|rfl|rfl|rfl|rfl|rfl|rfl|rfl|rfl|rfl<;>rcases aw with rfl|rfl|rfl|rfl|rfl|rfl|rfl|rfl|rfl|rfl|rfl|rfl|rfl<;>simp[gh,iq,kV,gl,gD,fS,jY,fK,pY,nA,gV,Aq,jA,bt]
  rw[EE h aw];clear aw;simp only[PQ,List.mem_cons,List.not_mem_nil,or_false]at h;rcases h with rfl|rfl|rfl|rfl|rfl|rfl|rfl|rfl|rfl|rfl<;>grind[ruN]
 grind[ED,uJ]
theorem Bt(p s r)(h:jA p=true):mu (gh p s++r)<mu (p::r):=by
 have e:mu (p::r)=wt p+wts r+1:=by unfold mu Aq;rw[iv h];rfl
 rw[e];rcases sJ p s r with c|c|⟨rfl,c⟩|⟨rfl,c⟩|⟨rfl,c⟩
 ·rw[c,List.nil_append];grind[Ar,mu]
 ·grind[mu]
 all_goals
  rw[c]
  unfold mu
  split
  ·show wt _+(wt _+wts r)+1<_
   have B:wt jY=3:=xab
   have N:wt fS=1:=xab
   have h3:wt gD=5:=xab
   have bp:wt lA=1:=xab
   have bU:wt fK=1:=xab
   have bz:wt gV=1:=xab
   have al:wt nA=7:=xab
   omega
  ·omega
def g7(s:List UInt8)(st:List (List UInt8)):List (List UInt8):=
 match st with
 |[]=>[]
 |p::r=>if _h:jA p=true then g7 s (gh p s++r)else p::r
termination_by mu st
decreasing_by exact Bt p s r _h
theorem mU(s):g7 s []=[]:=by rw[g7]
theorem iG(h:jA p=true):g7 s (p::r)=g7 s (gh p s++r):=by rw[g7,dif_pos h]
theorem lL(h:jA p=false):g7 s (p::r)=p::r:=by rw[g7,dif_neg (by rw[h];simp)]
def IQ:List UInt8:=[101,110,100]
def fC(n:Nat):List Tok->List (List UInt8)->Int
 |[],st=>if g7 IQ st=[]then -1 else (n:Int)
 |t::ts,st=>match g7 t.sym st with
  |[]=>(t.pos:Int)
  |p::r=>if p=t.sym then fC n ts r else (t.pos:Int)
theorem uK(s):1<=(kL s).length/\(kL s).length<=8:=by
 by_cases h:s∈UL
 ·revert s;decide
 rw[wb h];decide
theorem yj(p s):(gh p s).length<=9:=by
 by_cases h:p∈PQ
 ·by_cases aw:s∈RL
  ·exact(show ∀p∈PQ,∀s∈RL,(gh p s).length<=9 by decide) p h s aw
  rw[EE h aw];revert p;decide
 rw[ED s h];have:=uK s;omega
inductive Ex where
 |num (t:Tok)
 |name (t:Tok)
 |neg (o:Tok) (e:Ex)
 |bin (o:Tok) (a b:Ex)
 |call (t:Tok) (es:List Ex)
 |key1 (k:Tok) (e:Ex)
 |key2 (k:Tok) (a b:Ex)
 |key3 (k:Tok) (a b c:Ex)
 |keyN (k:Tok) (e:Ex) (n:Tok)
 |put (k:Tok) (e:Ex) (i n:Tok)
 |grad (k:Tok) (e:Ex) (x:Tok)
 |jvp (k:Tok) (e:Ex) (x:Tok) (d:Ex)
def yk:List UInt8:=[101,120,112]
def EF:List UInt8:=[115,117,109]
def As:List UInt8:=[109,97,120]
def IT:List UInt8:=[100,111,116]
def ym:List UInt8:=[115,101,108]
def uL:List UInt8:=[102,105,108,108]
def pZ:List UInt8:=[112,105,99,107]
def Cx:List UInt8:=[112,117,116]
def Bu:List UInt8:=[103,114,97,100]
def IU:List UInt8:=[106,118,112]
inductive Pr:Nat->List Ex->List Tok->Prop
 |up01 {e:Ex}{ts:List Tok}:Pr 0 [e] ts->Pr 1 [e] ts
 |up12 {e:Ex}{ts:List Tok}:Pr 1 [e] ts->Pr 2 [e] ts
 |add {a b:Ex}{ts us:List Tok}{o:Tok}:Pr 2 [a] ts->(o.sym=[43]\/o.sym=[45])->Pr 1 [b] us->Pr 2 [.bin o a b] (ts++o::us)
 |mul {a b:Ex}{ts us:List Tok}{o:Tok}:Pr 1 [a] ts->(o.sym=[42]\/o.sym=[47])->Pr 0 [b] us->Pr 1 [.bin o a b] (ts++o::us)
 |neg {e:Ex}{ts:List Tok}{o:Tok}:o.sym=[45]->Pr 0 [e] ts->Pr 0 [.neg o e] (o::ts)
 |num {t:Tok}:(t.sym=ik\/t.sym=kK)->Pr 0 [.num t] [t]
 |name {t:Tok}:t.sym=gz->Pr 0 [.name t] [t]
 |par {e:Ex}{ts:List Tok}{l r:Tok}:l.sym=[40]->Pr 2 [e] ts->r.sym=[41]->Pr 0 [e] (l::(ts++[r]))
 |call0 {t l r:Tok}:t.sym=gz->l.sym=[40]->r.sym=[41]->Pr 0 [.call t []] [t,l,r]
 |call {es:List Ex}{ts:List Tok}{t l r:Tok}:t.sym=gz->l.sym=[40]->Pr 3 es ts->r.sym=[41]->Pr 0 [.call t es] (t::l::(ts++[r]))
 |arg1 {e:Ex}{ts:List Tok}:Pr 2 [e] ts->Pr 3 [e] ts
 |argM {es:List Ex}{e:Ex}{ts us:List Tok}{c:Tok}:Pr 3 es ts->c.sym=[44]->Pr 2 [e] us->Pr 3 (es++[e]) (ts++c::us)
 |key1 {e:Ex}{ts:List Tok}{k l r:Tok}:(k.sym=yk\/k.sym=EF)->l.sym=[40]->Pr 2 [e] ts->r.sym=[41]->Pr 0 [.key1 k e] (k::l::(ts++[r]))
 |key2 {a b:Ex}{ts us:List Tok}{k l c r:Tok}:(k.sym=As\/k.sym=IT)->l.sym=[40]->Pr 2 [a] ts->c.sym=[44]->Pr 2 [b] us->r.sym=[41]->Pr 0 [.key2 k a b] (k::l::(ts++c::(us++[r])))
 |key3 {a b d:Ex}{ts us ws:List Tok}{k l c c2 r:Tok}:k.sym=ym->l.sym=[40]->Pr 2 [a] ts->c.sym=[44]->Pr 2 [b] us->c2.sym=[44]->Pr 2 [d] ws->r.sym=[41]->Pr 0 [.key3 k a b d] (k::l::(ts++c::(us++c2::(ws++[r]))))
 |keyN {e:Ex}{ts:List Tok}{k l c n r:Tok}:(k.sym=uL\/k.sym=pZ)->l.sym=[40]->Pr 2 [e] ts->c.sym=[44]->n.sym=ik->r.sym=[41]->Pr 0 [.keyN k e n] (k::l::(ts++[c,n,r]))
 |put {e:Ex}{ts:List Tok}{k l c i c2 n r:Tok}:k.sym=Cx->l.sym=[40]->Pr 2 [e] ts->c.sym=[44]->i.sym=ik->c2.sym=[44]->n.sym=ik->r.sym=[41]->Pr 0 [.put k e i n] (k::l::(ts++[c,i,c2,n,r]))
 |grad {e:Ex}{ts:List Tok}{k l c x r:Tok}:k.sym=Bu->l.sym=[40]->Pr 2 [e] ts->c.sym=[44]->x.sym=gz->r.sym=[41]->Pr 0 [.grad k e x] (k::l::(ts++[c,x,r]))
 |jvp {e d:Ex}{ts us:List Tok}{k l c x c2 r:Tok}:k.sym=IU->l.sym=[40]->Pr 2 [e] ts->c.sym=[44]->x.sym=gz->c2.sym=[44]->Pr 2 [d] us->r.sym=[41]->Pr 0 [.jvp k e x d] (k::l::(ts++c::x::c2::(us++[r])))
structure OpS where
 i:Nat
 d:Int
 at_:Int
 b:Bool
def iR(s:List UInt8):Bool:=s==gz||s==ik||s==kK||s==[41]
def ir(x y:List UInt8)(q:OpS)(t:Tok):OpS:=
 if t.sym=[40] then⟨q.i+1,q.d+1,q.at_,iR t.sym⟩
 else if t.sym=[41] then⟨q.i+1,q.d-1,q.at_,iR t.sym⟩
 else⟨q.i+1,q.d,if q.d=0/\q.b=true/\(t.sym=x\/t.sym=y)then (q.i:Int)else q.at_,iR t.sym⟩
def jl(x y:List UInt8)(q:OpS)(ts:List Tok):OpS:=ts.foldl (ir x y) q
theorem fi(x y q a b):jl x y q (a++b)=jl x y (jl x y q a) b:=by unfold jl;grind
theorem eI(x y q t b):jl x y q (t::b)=jl x y (ir x y q t) b:=rfl
theorem fE(x y q):jl x y q []=q:=rfl
theorem neL(h:s=x)(aH:x≠z:=by decide):s≠z:=h ▸ aH
theorem neO(h:s=x\/s=y)(aH:x≠z:=by decide)(bK:y≠z:=by decide):s≠z:=by grind
theorem we{q}(h:t.sym=[40]):ir x y q t=⟨q.i+1,q.d+1,q.at_,false⟩:=by unfold ir;rw[iv h,h];rfl
theorem wg{q}(h:t.sym=[41]):ir x y q t=⟨q.i+1,q.d-1,q.at_,true⟩:=by unfold ir;rw[ip (neL h),iv h,h];rfl
theorem mG{q}(B:t.sym≠[40])(N:t.sym≠[41])(h3:¬(q.d=0/\q.b=true/\(t.sym=x\/t.sym=y))):ir x y q t=⟨q.i+1,q.d,q.at_,iR t.sym⟩:=by grind[ir]
theorem wi{q}(B:t.sym≠[40])(N:t.sym≠[41])(h3:q.d=0/\q.b=true/\(t.sym=x\/t.sym=y)):ir x y q t=⟨q.i+1,q.d,q.i,iR t.sym⟩:=by grind[ir]
theorem sK{i d e a b}(B:i=j)(N:d=e):(⟨i,d,a,b⟩:OpS)=⟨j,e,a,b⟩:=by rw[B,N]
theorem opq{i:Nat}{d e a:Int}{b:Bool}(B:i=j:=by first|(simp;done)|(simp;omega))(N:d=e:=by omega):(⟨i,d,a,b⟩:OpS)=⟨j,e,a,b⟩:=sK B N
theorem IV{es}(h:Pr n es ts):∀(i:Nat) (d a:Int) (b:Bool),0<d->jl x y ⟨i,d,a,b⟩ ts=⟨i+ts.length,d,a,true⟩:=by
 have f:∀(i:Nat) (d a:Int) (b:Bool) (t:Tok),0<d->t.sym≠[40]->t.sym≠[41]->ir x y ⟨i,d,a,b⟩ t=⟨i+1,d,a,_⟩:=λi d a b t am B N=>mG B N (λc=>by grind);have C:∀(i:Nat) (d a:Int) (b:Bool) (t:Tok),t.sym=[40]->ir x y ⟨i,d,a,b⟩ t=⟨i+1,d+1,a,_⟩:=λi d a b t h=>we h;have q:∀(i:Nat) (d a:Int) (b:Bool) (t:Tok),t.sym=[41]->ir x y ⟨i,d,a,b⟩ t=⟨i+1,d-1,a,_⟩:=λi d a b t h=>wg h;induction h with
 |up01 _ Z=>exact Z
 |up12 _ Z=>exact Z
 |@add a b ts us o _ aR _ g m=>
  intro i d bK bE am;rw[fi,g _ _ _ _ am,eI,f _ _ _ _ o am (neO aR) (neO aR),m _ _ _ _ am];exact opq
 |@mul a b ts us o _ aR _ g m=>
  intro i d bK bE am;rw[fi,g _ _ _ _ am,eI,f _ _ _ _ o am (neO aR) (neO aR),m _ _ _ _ am];exact opq
 |@neg e ts o aR _ Z=>
  intro i d bK bE am;rw[eI,f _ _ _ _ o am (neL aR) (neL aR),Z _ _ _ _ am];exact opq
 |@num t ht=>
  intro i d bK bE am;have aa:iR t.sym=true:=by rcases ht with c|c<;>rw[c]<;>decide
  rw[eI,f _ _ _ _ t am (neO ht) (neO ht),fE,aa];exact opq
 |@name t ht=>
  intro i d bK bE am;have aa:iR t.sym=true:=by rw[ht];decide
  rw[eI,f _ _ _ _ t am (neL ht) (neL ht),fE,aa];exact opq
 |@par e ts l r ag _ au Z=>
  intro i d bK bE am;have Q:0<d+1:=xaa;rw[eI,C _ _ _ _ l ag,fi,Z _ _ _ _ Q,eI,q _ _ _ _ r au,fE];exact opq
 |@call0 t l r ht ag au=>
  intro i d bK bE am;rw[eI,f _ _ _ _ t am (neL ht) (neL ht),eI,C _ _ _ _ l ag,eI,q _ _ _ _ r au,fE];exact opq
 |@call es ts t l r ht ag _ au Z=>
  intro i d bK bE am;have Q:0<d+1:=xaa;rw[eI,f _ _ _ _ t am (neL ht) (neL ht),eI,C _ _ _ _ l ag,fi,Z _ _ _ _ Q,eI,q _ _ _ _ r au,fE];exact opq
 |arg1 _ Z=>exact Z
 |@argM es e ts us c _ ai _ g m=>
  intro i d bK bE am;rw[fi,g _ _ _ _ am,eI,f _ _ _ _ c am (neL ai) (neL ai),m _ _ _ _ am];exact opq
 |@key1 e ts k l r J ag _ au Z=>
  intro i d bK bE am;have Q:0<d+1:=xaa;rw[eI,f _ _ _ _ k am (neO J) (neO J),eI,C _ _ _ _ l ag,fi,Z _ _ _ _ Q,eI,q _ _ _ _ r au,fE];exact opq
 |@key2 a b ts us k l c r J ag _ ai _ au g m=>
  intro i d bK bE am;have Q:0<d+1:=xaa;rw[eI,f _ _ _ _ k am (neO J) (neO J),eI,C _ _ _ _ l ag,fi,g _ _ _ _ Q,eI,f _ _ _ _ c Q (neL ai) (neL ai),fi,m _ _ _ _ Q,eI,q _ _ _ _ r au,fE];exact opq
 |@key3 a b bT ts us Y k l c c2 r J ag _ ai _ bQ _ au g m u=>
  intro i d bK bE am;have Q:0<d+1:=xaa;rw[eI,f _ _ _ _ k am (neL J) (neL J),eI,C _ _ _ _ l ag,fi,g _ _ _ _ Q,eI,f _ _ _ _ c Q (neL ai) (neL ai),fi,m _ _ _ _ Q,eI,f _ _ _ _ _ Q (neL bQ) (neL bQ),fi,u _ _ _ _ Q,eI,q _ _ _ _ r au,fE];exact opq
 |@keyN e ts k l c ay r J ag _ ai hn au Z=>
  intro i d bK bE am;have Q:0<d+1:=xaa;rw[eI,f _ _ _ _ k am (neO J) (neO J),eI,C _ _ _ _ l ag,fi,Z _ _ _ _ Q,eI,f _ _ _ _ c Q (neL ai) (neL ai),eI,f _ _ _ _ _ Q (neL hn) (neL hn),eI,q _ _ _ _ r au,fE];exact opq
 |@put e ts k l c bY c2 ay r J ag _ ai hi bQ hn au Z=>
  intro i d bK bE am;have Q:0<d+1:=xaa;rw[eI,f _ _ _ _ k am (neL J) (neL J),eI,C _ _ _ _ l ag,fi,Z _ _ _ _ Q,eI,f _ _ _ _ c Q (neL ai) (neL ai),eI,f _ _ _ _ _ Q (neL hi) (neL hi),eI,f _ _ _ _ _ Q (neL bQ) (neL bQ),eI,f _ _ _ _ _ Q (neL hn) (neL hn),eI,q _ _ _ _ r au,fE];exact opq
 |@grad e ts k l c bC r J ag _ ai hn au Z=>
  intro i d bK bE am;have Q:0<d+1:=xaa;rw[eI,f _ _ _ _ k am (neL J) (neL J),eI,C _ _ _ _ l ag,fi,Z _ _ _ _ Q,eI,f _ _ _ _ c Q (neL ai) (neL ai),eI,f _ _ _ _ _ Q (neL hn) (neL hn),eI,q _ _ _ _ r au,fE];exact opq
 |@jvp e bT ts us k l c bC c2 r J ag _ ai hn bQ _ au g m=>
  intro i d bK bE am;have Q:0<d+1:=xaa;rw[eI,f _ _ _ _ k am (neL J) (neL J),eI,C _ _ _ _ l ag,fi,g _ _ _ _ Q,eI,f _ _ _ _ c Q (neL ai) (neL ai),eI,f _ _ _ _ _ Q (neL hn) (neL hn),eI,f _ _ _ _ _ Q (neL bQ) (neL bQ),fi,m _ _ _ _ Q,eI,q _ _ _ _ r au,fE];exact opq
theorem i8(i a t)(B:t.sym≠[40])(N:t.sym≠[41]):ir x y ⟨i,0,a,false⟩ t=⟨i+1,0,a,iR t.sym⟩:=mG B N (λc=>by grind)
theorem sl0(i a b t)(h:t.sym=[40]):ir x y ⟨i,0,a,b⟩ t=⟨i+1,1,a,false⟩:=we h
theorem sr1(i a b t)(h:t.sym=[41]):ir x y ⟨i,1,a,b⟩ t=⟨i+1,0,a,true⟩:=wg h
theorem so1(i a b t)(B:t.sym≠[40])(N:t.sym≠[41]):ir x y ⟨i,1,a,b⟩ t=⟨i+1,1,a,iR t.sym⟩:=mG B N (λc=>by grind)
theorem nR{es}(h:Pr n es ts):n=0->∀(i:Nat) (a:Int),jl x y ⟨i,0,a,false⟩ ts=⟨i+ts.length,0,a,true⟩:=by
 have d:∀{n:Nat}{es:List _}{ts:List _},Pr n es ts->∀(i:Nat) (a:Int) (b:Bool),jl x y _ _=⟨_,1,a,_⟩:=λh i a b=>IV h i 1 a b xab;induction h with
 |up01 _ _=>omega
 |up12 _ _=>omega
 |add _ _ _ _ _=>omega
 |mul _ _ _ _ _=>omega
 |arg1 _ _=>omega
 |argM _ _ _ _ _=>omega
 |@neg e ts o aR _ Z=>
  intro _ i a;have aa:iR o.sym=false:=by rw[aR];decide
  rw[eI,i8 i a o (neL aR) (neL aR),aa,Z rfl];grind
 |@num t ht=>
  intro _ i a;have aa:iR t.sym=true:=by rcases ht with c|c<;>rw[c]<;>decide
  rw[eI,i8 i a t (neO ht) (neO ht),fE,aa];rfl
 |@name t ht=>
  intro _ i a;have aa:iR t.sym=true:=by rw[ht];decide
  rw[eI,i8 i a t (neL ht) (neL ht),fE,aa];rfl
 |@par e ts l r ag B au _=>
  grind[eI,sl0,fi,sr1,fE]
 |@call0 t l r ht ag au=>
  intro _ i a;rw[eI,i8 i a t (neL ht) (neL ht),eI,sl0 _ _ _ l ag,eI,sr1 _ _ _ r au,fE];rfl
 |@call es ts t l r ht ag B au _=>
  intro _ i a;rw[eI,i8 i a t (neL ht) (neL ht),eI,sl0 _ _ _ l ag,fi,d B,eI,sr1 _ _ _ r au,fE];grind
 |@key1 e ts k l r J ag B au _=>
  intro _ i a;rw[eI,i8 i a k (neO J) (neO J),eI,sl0 _ _ _ l ag,fi,d B,eI,sr1 _ _ _ r au,fE];grind
 |@key2 bK bE ts us k l c r J ag B ai N au _ _=>
  intro _ i a;rw[eI,i8 i a k (neO J) (neO J),eI,sl0 _ _ _ l ag,fi,d B,eI,so1 _ _ _ c (neL ai) (neL ai),fi,d N,eI,sr1 _ _ _ r au,fE];grind
 |@key3 bK bE bT ts us Y k l c c2 r J ag B ai N bQ h3 au _ _ _=>
  intro _ i a;rw[eI,i8 i a k (neL J) (neL J),eI,sl0 _ _ _ l ag,fi,d B,eI,so1 _ _ _ c (neL ai) (neL ai),fi,d N,eI,so1 _ _ _ _ (neL bQ) (neL bQ),fi,d h3,eI,sr1 _ _ _ r au,fE];grind
 |@keyN e ts k l c ay r J ag B ai hn au _=>
  intro _ i a;rw[eI,i8 i a k (neO J) (neO J),eI,sl0 _ _ _ l ag,fi,d B,eI,so1 _ _ _ c (neL ai) (neL ai),eI,so1 _ _ _ _ (neL hn) (neL hn),eI,sr1 _ _ _ r au,fE];grind
 |@put e ts k l c bY c2 ay r J ag B ai hi bQ hn au _=>
  intro _ i a;rw[eI,i8 i a k (neL J) (neL J),eI,sl0 _ _ _ l ag,fi,d B,eI,so1 _ _ _ c (neL ai) (neL ai),eI,so1 _ _ _ _ (neL hi) (neL hi),eI,so1 _ _ _ _ (neL bQ) (neL bQ),eI,so1 _ _ _ _ (neL hn) (neL hn),eI,sr1 _ _ _ r au,fE];exact sK yag rfl
 |@grad e ts k l c bC r J ag B ai hn au _=>
  intro _ i a;rw[eI,i8 i a k (neL J) (neL J),eI,sl0 _ _ _ l ag,fi,d B,eI,so1 _ _ _ c (neL ai) (neL ai),eI,so1 _ _ _ _ (neL hn) (neL hn),eI,sr1 _ _ _ r au,fE];grind
 |@jvp e bT ts us k l c bC c2 r J ag B ai hn bQ N au _ _=>
  intro _ i a;rw[eI,i8 i a k (neL J) (neL J),eI,sl0 _ _ _ l ag,fi,d B,eI,so1 _ _ _ c (neL ai) (neL ai),eI,so1 _ _ _ _ (neL hn) (neL hn),eI,so1 _ _ _ _ (neL bQ) (neL bQ),fi,d N,eI,sr1 _ _ _ r au,fE];exact sK yag rfl
theorem Bv{es}(h:Pr n es ts):n=1->∀(i:Nat) (a:Int),jl [43] [45] ⟨i,0,a,false⟩ ts=⟨i+ts.length,0,a,true⟩:=by
 induction h with
 |up01 aj _=>intro _ i a;exact nR aj rfl i a
 |@mul bK bE ts us o _ aR N g _=>
  intro _ i a;have U:¬(o.sym=[43]\/o.sym=[45]):=by grind
  have aa:iR o.sym=false:=by rcases aR with c|c<;>rw[c]<;>decide
  rw[fi,g rfl,eI,mG (neO aR) (neO aR) (λc=>U c.2.2),aa,nR N rfl];grind
 |up12 _ _=>omega
 |add _ _ _ _ _=>omega
 |arg1 _ _=>omega
 |argM _ _ _ _ _=>omega
 |neg _ _ _=>omega
 |num _=>omega
 |name _=>omega
 |par _ _ _ _=>omega
 |call0 _ _ _=>omega
 |call _ _ _ _ _=>omega
 |key1 _ _ _ _ _=>omega
 |key2 _ _ _ _ _ _ _ _=>omega
 |key3 _ _ _ _ _ _ _ _ _ _ _=>omega
 |keyN _ _ _ _ _ _ _=>omega
 |put _ _ _ _ _ _ _ _ _=>omega
 |grad _ _ _ _ _ _ _=>omega
 |jvp _ _ _ _ _ _ _ _ _ _=>omega
theorem EG{es}(h:Pr n es ts):n<=2->∀(i:Nat) (a:Int),∃ak,jl x y ⟨i,0,a,false⟩ ts=⟨i+ts.length,0,ak,true⟩:=by
 have w:∀{es:List _}{ts:List _},Pr 0 es ts->∀(i:Nat) (a:Int),∃ak,jl x y _ _=⟨_,0,ak,_⟩:=λh i a=>⟨a,nR h rfl i a⟩
 have bN:∀{ts us:List _}{o:Tok},o.sym≠[40]->o.sym≠[41]->iR o.sym=false->(∀(i:Nat) (a:Int),∃ak,jl x y ⟨i,0,a,false⟩ ts=⟨i+ts.length,0,ak,true⟩)->(∀(i:Nat) (a:Int),∃ak,jl x y ⟨i,0,a,false⟩ us=⟨i+us.length,0,ak,true⟩)->∀(i:Nat) (a:Int),∃ak,jl x y ⟨i,0,a,false⟩ (ts++o::us)=⟨i+(ts++o::us).length,0,ak,true⟩:=by
  intro ts us o Y ae aa B N i a;obtain⟨a1,ad⟩:=B i a;rw[fi,ad,eI];by_cases c:x=o.sym\/y=o.sym
  ·rw[wi Y ae ⟨rfl,rfl,c.imp Eq.symm Eq.symm⟩,aa];obtain⟨K,be⟩:=N (i+ts.length+1) _;exact⟨K,by rw[be];exact sK yag rfl⟩
  rw[mG Y ae (λd=>c (d.2.2.imp Eq.symm Eq.symm)),aa];obtain⟨K,be⟩:=N (i+ts.length+1) a1;exact⟨K,by rw[be];exact sK yag rfl⟩
 induction h with
 |up01 _ Z=>grind
 |up12 _ Z=>grind
 |@add bK bE ts us o _ aR _ g m=>
  exact λ_=>bN (by grind) (by grind) (by rcases aR with c|c<;>rw[c]<;>decide) (g xab) (m xab)
 |@mul bK bE ts us o _ aR _ g m=>
  exact λ_=>bN (by grind) (by grind) (by rcases aR with c|c<;>rw[c]<;>decide) (g xab) (m xab)
 |arg1 _ _=>omega
 |argM _ _ _ _ _=>omega
 |neg aR B _=>exact λ_=>w (.neg aR B)
 |num h=>exact λ_=>w (.num h)
 |name h=>exact λ_=>w (.name h)
 |par B N h3 _=>exact λ_=>w (.par B N h3)
 |call0 B N h3=>exact λ_=>w (.call0 B N h3)
 |call B N h3 bp _=>exact λ_=>w (.call B N h3 bp)
 |key1 B N h3 bp _=>exact λ_=>w (.key1 B N h3 bp)
 |key2 B N h3 bp bU bz _ _=>exact λ_=>w (.key2 B N h3 bp bU bz)
 |key3 B N h3 bp bU bz al Q _ _ _=>exact λ_=>w (.key3 B N h3 bp bU bz al Q)
 |keyN B N h3 bp bU bz _=>exact λ_=>w (.keyN B N h3 bp bU bz)
 |put B N h3 bp bU bz al Q _=>exact λ_=>w (.put B N h3 bp bU bz al Q)
 |grad B N h3 bp bU bz _=>exact λ_=>w (.grad B N h3 bp bU bz)
 |jvp B N h3 bp bU bz al Q _ _=>exact λ_=>w (.jvp B N h3 bp bU bz al Q)
def opM(x y:List UInt8)(ts:List Tok):Int:=(jl x y ⟨0,0,-1,false⟩ ts).at_
theorem mh{e}(h:Pr 0 [e] ts):opM x y ts=-1:=by
 unfold opM;rw[nR h rfl]
theorem EH{e}(h:Pr 1 [e] ts):opM [43] [45] ts=-1:=by
 unfold opM;rw[Bv h rfl]
theorem Mr{a b}(B:Pr 2 [a] ts)(aR:o.sym=[43]\/o.sym=[45])(N:Pr 1 [b] us):opM [43] [45] (ts++o::us)=(ts.length:Int):=by
 unfold opM;obtain⟨ak,e⟩:=EG (x:=[43]) (y:=[45]) B xab 0 (-1);rw[fi,e,eI,wi (by grind) (by grind) ⟨rfl,rfl,aR⟩,show iR _=false by rcases aR with c|c<;>rw[c]<;>decide,Bv N rfl];simp
theorem Ms{a b}(B:Pr 1 [a] ts)(aR:o.sym=[42]\/o.sym=[47])(N:Pr 0 [b] us):opM [42] [47] (ts++o::us)=(ts.length:Int):=by
 unfold opM;obtain⟨ak,e⟩:=EG (x:=[42]) (y:=[47]) B xab 0 (-1);rw[fi,e,eI,wi (by grind) (by grind) ⟨rfl,rfl,aR⟩,show iR _=false by rcases aR with c|c<;>rw[c]<;>decide,nR N rfl];simp
def cm(d:Int):List Tok->Option Int
 |[]=>some d
 |t::ts=>if t.sym=[40]then cm (d+1) ts else if t.sym=[41]then cm (d-1) ts else if t.sym=[44]/\d=0 then none else cm d ts
theorem gN{d}(h:t.sym=[40]):cm d (t::ts)=cm (d+1) ts:=by rw[cm,iv h]
theorem gO{d}(h:t.sym=[41]):cm d (t::ts)=cm (d-1) ts:=by grind[cm]
theorem Au{d}(B:t.sym≠[40])(N:t.sym≠[41])(h3:t.sym≠[44]):cm d (t::ts)=cm d ts:=by grind[cm]
theorem gW{d:Int}(h:t.sym=x)(aH:x≠[40]/\x≠[41]/\x≠[44]:=by decide):cm d (t::ts)=cm d ts:=by subst h;exact Au aH.1 aH.2.1 aH.2.2
theorem lB{d:Int}(h:t.sym=x\/t.sym=y)(aH:x≠[40]/\x≠[41]/\x≠[44]:=by decide)(bK:y≠[40]/\y≠[41]/\y≠[44]:=by decide):cm d (t::ts)=cm d ts:=by rcases h with h|h<;>exact gW h ‹_›
theorem iT{d}(h:t.sym=[44])(aN:d≠0):cm d (t::ts)=cm d ts:=by grind[cm]
theorem fW:∀(a b:List Tok) (d e:Int),cm d a=some e->cm d (a++b)=cm e b
 |[],b,d,e,h=>by cases h;rfl
 |t::a,b,d,e,h=>by
  rw[List.cons_append]
  by_cases B:t.sym=[40]
  ·rw[gN B]at h⊢;exact fW a b _ _ h
  ·by_cases N:t.sym=[41]
   ·rw[gO N]at h⊢;exact fW a b _ _ h
   ·by_cases h3:t.sym=[44]
    ·by_cases bp:d=0
     ·grind[cm]
     ·rw[iT h3 bp]at h⊢;exact fW a b _ _ h
    ·rw[Au B N h3]at h⊢;exact fW a b _ _ h
theorem it(d):cm d []=some d:=rfl
theorem IW{es}(h:Pr n es ts):∀d:Int,0<d->cm d ts=some d:=by
 induction h with
 |up01 _ Z=>exact Z
 |up12 _ Z=>exact Z
 |arg1 _ Z=>exact Z
 |@add a b ts us o _ aR _ g m=>
  intro d aN;rw[fW _ _ _ _ (g _ aN),lB aR,m _ aN]
 |@mul a b ts us o _ aR _ g m=>
  intro d aN;rw[fW _ _ _ _ (g _ aN),lB aR,m _ aN]
 |@neg e ts o aR _ Z=>
  intro d aN;rw[gW aR,Z _ aN]
 |@num t ht=>
  intro d aN;rw[lB ht,it]
 |@name t ht=>
  intro d aN;rw[gW ht,it]
 |@par e ts l r ag _ au Z=>
  intro d aN;have f:0<d+1:=xaa;rw[gN ag,fW _ _ _ _ (Z _ f),gO au,it];grind
 |@call0 t l r ht ag au=>
  intro d aN;have f:0<d+1:=xaa;rw[gW ht,gN ag,gO au,it];grind
 |@call es ts t l r ht ag _ au Z=>
  intro d aN;have f:0<d+1:=xaa;rw[gW ht,gN ag,fW _ _ _ _ (Z _ f),gO au,it];grind
 |@argM es e ts us c _ ai _ g m=>
  intro d aN;rw[fW _ _ _ _ (g _ aN),iT ai xaa,m _ aN]
 |@key1 e ts k l r J ag _ au Z=>
  intro d aN;have f:0<d+1:=xaa;rw[lB J,gN ag,fW _ _ _ _ (Z _ f),gO au,it];grind
 |@key2 a b ts us k l c r J ag _ ai _ au g m=>
  intro d aN;have f:0<d+1:=xaa;rw[lB J,gN ag,fW _ _ _ _ (g _ f),iT ai xaa,fW _ _ _ _ (m _ f),gO au,it];grind
 |@key3 a b bT ts us Y k l c c2 r J ag _ ai _ bQ _ au g m u=>
  intro d aN;have f:0<d+1:=xaa;rw[gW J,gN ag,fW _ _ _ _ (g _ f),iT ai xaa,fW _ _ _ _ (m _ f),iT bQ xaa,fW _ _ _ _ (u _ f),gO au,it];grind
 |@keyN e ts k l c ay r J ag _ ai hn au Z=>
  intro d aN;have f:0<d+1:=xaa;rw[lB J,gN ag,fW _ _ _ _ (Z _ f),iT ai xaa,gW hn,gO au,it];grind
 |@put e ts k l c bY c2 ay r J ag _ ai hi bQ hn au Z=>
  intro d aN;have f:0<d+1:=xaa;rw[gW J,gN ag,fW _ _ _ _ (Z _ f),iT ai xaa,gW hi,iT bQ xaa,gW hn,gO au,it];grind
 |@grad e ts k l c bC r J ag _ ai hn au Z=>
  intro d aN;have f:0<d+1:=xaa;rw[gW J,gN ag,fW _ _ _ _ (Z _ f),iT ai xaa,gW hn,gO au,it];grind
 |@jvp e bT ts us k l c bC c2 r J ag _ ai hn bQ _ au g m=>
  intro d aN;have f:0<d+1:=xaa;rw[gW J,gN ag,fW _ _ _ _ (g _ f),iT ai xaa,gW hn,iT bQ xaa,fW _ _ _ _ (m _ f),gO au,it];grind
theorem jB{es}(h:Pr n es ts):n<=2->cm 0 ts=some 0:=by
 have d:∀{n:Nat}{es:List Ex}{ts:List Tok},Pr n es ts->cm (0+1) ts=some (0+1):=λh=>IW h _ xab;induction h with
 |up01 _ Z=>exact λ_=>Z xab
 |up12 _ Z=>exact λ_=>Z xab
 |arg1 _ _=>intro h;omega
 |argM _ _ _ _ _=>intro h;omega
 |@add a b ts us o _ aR _ g m=>
  intro _;rw[fW _ _ _ _ (g xab),lB aR,m xab]
 |@mul a b ts us o _ aR _ g m=>
  intro _;rw[fW _ _ _ _ (g xab),lB aR,m xab]
 |@neg e ts o aR _ Z=>
  intro _;rw[gW aR,Z xab]
 |@num t ht=>
  intro _;rw[lB ht,it]
 |@name t ht=>
  intro _;rw[gW ht,it]
 |@par e ts l r ag B au _=>
  intro _;rw[gN ag,fW _ _ _ _ (d B),gO au,it];rfl
 |@call0 t l r ht ag au=>
  intro _;rw[gW ht,gN ag,gO au,it];rfl
 |@call es ts t l r ht ag B au _=>
  intro _;rw[gW ht,gN ag,fW _ _ _ _ (d B),gO au,it];rfl
 |@key1 e ts k l r J ag B au _=>
  intro _;rw[lB J,gN ag,fW _ _ _ _ (d B),gO au,it];rfl
 |@key2 a b ts us k l c r J ag B ai N au _ _=>
  intro _;rw[lB J,gN ag,fW _ _ _ _ (d B),iT ai xab,fW _ _ _ _ (d N),gO au,it];rfl
 |@key3 a b bT ts us Y k l c c2 r J ag B ai N bQ h3 au _ _ _=>
  intro _;rw[gW J,gN ag,fW _ _ _ _ (d B),iT ai xab,fW _ _ _ _ (d N),iT bQ xab,fW _ _ _ _ (d h3),gO au,it];rfl
 |@keyN e ts k l c ay r J ag B ai hn au _=>
  intro _;rw[lB J,gN ag,fW _ _ _ _ (d B),iT ai xab,gW hn,gO au,it];rfl
 |@put e ts k l c bY c2 ay r J ag B ai hi bQ hn au _=>
  intro _;rw[gW J,gN ag,fW _ _ _ _ (d B),iT ai xab,gW hi,iT bQ xab,gW hn,gO au,it];rfl
 |@grad e ts k l c bC r J ag B ai hn au _=>
  intro _;rw[gW J,gN ag,fW _ _ _ _ (d B),iT ai xab,gW hn,gO au,it];rfl
 |@jvp e bT ts us k l c bC c2 r J ag B ai hn bQ N au _ _=>
  intro _;rw[gW J,gN ag,fW _ _ _ _ (d B),iT ai xab,gW hn,iT bQ xab,fW _ _ _ _ (d N),gO au,it];rfl
structure SpS where
 d:Int
 cur:List Tok
 ou:List (List Tok)
def iu(q:SpS)(t:Tok):SpS:=
 if t.sym=[40] then⟨q.d+1,q.cur++[t],q.ou⟩
 else if t.sym=[41] then⟨q.d-1,q.cur++[t],q.ou⟩
 else if t.sym=[44]/\q.d=0 then⟨0,[],q.ou++[q.cur]⟩
 else⟨q.d,q.cur++[t],q.ou⟩
def lM(q:SpS)(ts:List Tok):SpS:=ts.foldl iu q
theorem oI(q a b):lM q (a++b)=lM (lM q a) b:=by unfold lM;grind
theorem kM(q t b):lM q (t::b)=lM (iu q t) b:=rfl
theorem qb:∀(ts:List Tok) (d e:Int) (ao:List Tok) (out:List (List Tok)),cm d ts=some e->lM ⟨d,ao,out⟩ ts=⟨e,ao++ts,out⟩
 |[],d,e,ao,out,h=>by cases h;show(⟨d,ao,out⟩:SpS)=_;grind
 |t::ts,d,e,ao,out,h=>by
  rw[kM]
  by_cases B:t.sym=[40]
  ·rw[gN B]at h
   rw[show iu ⟨d,ao,out⟩ t=⟨d+1,ao++[t],out⟩ by unfold iu;rw[iv B],qb ts _ _ _ _ h,List.append_assoc];rfl
  ·by_cases N:t.sym=[41]
   ·rw[gO N]at h
    rw[show iu ⟨d,ao,out⟩ t=⟨d-1,ao++[t],out⟩ by unfold iu;rw[ip B,iv N],qb ts _ _ _ _ h,List.append_assoc];rfl
   ·by_cases h3:t.sym=[44]/\d=0
    ·grind[cm]
    ·have h':cm d ts=some e:=by grind[cm]
     rw[show iu _ t=⟨d,ao++[t],out⟩ by grind[iu],qb _ _ _ _ _ h',List.append_assoc];rfl
theorem sM(h:c.sym=[44])(ao out):iu ⟨0,ao,out⟩ c=⟨0,[],out++[ao]⟩:=by
 grind[iu]
def fT(ts:List Tok):List (List Tok):=if ts=[] then[]else (lM ⟨0,[],[]⟩ ts).ou++[(lM ⟨0,[],[]⟩ ts).cur]
theorem sN(B:t.sym≠[40])(N:t.sym≠[41])(h3:t.sym≠[44]):cm 0 [t]=some 0:=by rw[Au B N h3];rfl
theorem LE{es}(h:Pr n es ts):ts≠[]:=by
 induction h<;>simp_all<;>grind
theorem Mt(bc:ts≠[])(h:cm 0 ts=some 0):fT ts=[ts]:=by
 simp_all[fT,qb]
theorem Av(h:cm 0 ts=some 0)(ai:c.sym=[44])(N:cm 0 us=some 0):fT (ts++c::us)=[ts,us]:=by
 simp_all[fT,oI,qb,kM,sM]
theorem Aw{Y c2}(h:cm 0 ts=some 0)(ai:c.sym=[44])(N:cm 0 us=some 0)(bQ:c2.sym=[44])(h3:cm 0 Y=some 0):fT (ts++c::(us++c2::Y))=[ts,us,Y]:=by
 simp_all[fT,oI,qb,kM,sM]
theorem Ax{es}(h:Pr n es ts):n=3->∃(d:List (List Tok)) (l:List Tok),lM ⟨0,[],[]⟩ ts=⟨0,l,d⟩/\(d++[l]).length=es.length/\∀i,i<es.length->Pr 2 [es.getD i (.num i1)] ((d++[l]).getD i []):=by
 induction h with
 |@arg1 e ts B _=>
  intro _;refine⟨[],ts,?_,rfl,λi hi=>?_⟩
  ·rw[qb _ 0 0 _ _ (jB B xab)];rfl
  simp_all
 |@argM es e ts us c B ai N Z _=>
  intro _;obtain⟨d,l,ad,be,ah⟩:=Z rfl;refine⟨d++[l],us,?_,by simp at be⊢;omega,λi hi=>?_⟩
  ·rw[oI,ad,kM,sM ai,qb _ 0 0 _ _ (jB N xab)];rfl
  grind
 |up01 _ _=>omega
 |up12 _ _=>omega
 |add _ _ _ _ _=>omega
 |mul _ _ _ _ _=>omega
 |neg _ _ _=>omega
 |num _=>omega
 |name _=>omega
 |par _ _ _ _=>omega
 |call0 _ _ _=>omega
 |call _ _ _ _ _=>omega
 |key1 _ _ _ _ _=>omega
 |key2 _ _ _ _ _ _ _ _=>omega
 |key3 _ _ _ _ _ _ _ _ _ _ _=>omega
 |keyN _ _ _ _ _ _ _=>omega
 |put _ _ _ _ _ _ _ _ _=>omega
 |grad _ _ _ _ _ _ _=>omega
 |jvp _ _ _ _ _ _ _ _ _ _=>omega
theorem Ay{es}(h:Pr 3 es ts):(fT ts).length=es.length/\∀i,i<es.length->Pr 2 [es.getD i (.num i1)] ((fT ts).getD i []):=by
 grind[Ax,fT,LE]
theorem Mu(t i j):(kJ t i j).length<=t.length:=by
 grind[kJ]
theorem EI(t i)(h:i<t.length):(nxT t i).text.length<=t.length:=by
 grind[nxT,Mu,kT]
theorem yn(t i):∀aa∈kH t i,aa.text.length<=t.length:=by
 intro aa aD;rw[kH]at aD;split at aD
 ·rename_i h;split at aD
  ·grind[EI]
  rcases List.mem_cons.1 aD with c|c
  ·subst c;exact EI t i h
  exact yn t _ _ c
 cases aD
termination_by t.length-i
decreasing_by
 grind[sI,py]
theorem IX(t j):((jk t).getD j i1).text.length<=t.length:=by
 by_cases h:j<(jk t).length
 ·refine yn t (skM t 0) _ ?_;rw[yai,yam h];exact List.getElem_mem _
 rw[yai,List.getElem?_eq_none xaa];exact yae
end
section
open Go.ChangeShapes Go.WideShapes Go.ChangeAt Go.RowKit Flt
theorem uM:prog.cellsOf 5=1:=by kernel_rfl
theorem EJ:laidOutB prog=true:=by kernel_rfl
theorem Az{ab enc w base j g a n cap}{d:DataW ab}{ps}
  (h:DataW.Trod enc prog w base j g 22 (.slice a n cap) d ps):n<=cap/\∃xs,YS w a n xs:=by
 obtain⟨t,br⟩:=h;rcases Deep.open_slice1 underlying22 uM br with⟨aL,_⟩|⟨x,l,c,m,v,Vaa,D,r,aL,_,ag,_,aD,_,ai⟩
 ·simp[Value.cells]at aL;obtain⟨rfl,rfl,rfl⟩:=aL;exact⟨yad,[],rfl,by simp,.inl rfl⟩
 simp[Value.cells]at aL;obtain⟨rfl,rfl,rfl⟩:=aL;refine⟨ag,?_⟩;have y:n<=m:=by grind
 have G:∀i,i<n->∃b:Int,w.cell? _=some _/\0<=b/\b<256:=λi hi=>by
  obtain⟨B,N⟩:=ai i xaa
  obtain⟨b,e,S⟩:=DataW.trod_int underlying5 N
  simp at e
  have hb:0<=b/\b<256:=by
   have:=S.2
   simp[Lit.wf,IntKind.min,IntKind.max,IntKind.signed,IntKind.bits]at this
   omega
  exact⟨b,by rw[B,e],hb.1,hb.2⟩
 obtain⟨f,q⟩:=Deep.choose_lt G;refine⟨(List.range n).map f,by simp,?_,?_⟩
 ·simp_all
 rcases Nat.eq_zero_or_pos n with aj|aj
 ·exact .inl aj
 obtain⟨b,an,z⟩:=x;have u:z=none:=by simpa[Addr.add] using World.cell?_spot (q 0 aj).1
 subst u
 have N:∀k,k<n->w.cell? ⟨b,an+k,_⟩=some (.int _ (((List.range n).map f).getD k 0)):=λk J=>by
  have B:=(q k J).1
  rw[show((List.range n).map f).getD k 0=f k by grind]
  by_cases cy:k=0
  ·subst cy;simpa[Addr.add] using B
  ·simpa[Addr.add,cy] using B
 have hb:=World.block_lt_of_cell? (h:=N 0 aj);grind
