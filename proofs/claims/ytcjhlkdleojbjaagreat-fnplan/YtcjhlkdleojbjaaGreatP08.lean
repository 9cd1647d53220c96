import Derived.Test.YtcjhlkdleojbjaaGreatP07
namespace Go.Proofs.Z
variable{Zp:Prop}
open Tryz
set_option maxRecDepth 1000000
set_option maxHeartbeats 0
section
open Go.RowKit Flt
attribute[local go_sem] eF eE eD
structure YS(w:World)(a:Option Addr)(n:Nat)(xs:List Int):Prop where
 len:xs.length=n
 lt:∀x∈xs,0<=x/\x<256
 at_:n=0\/∃g off,a=some ⟨g,off,none⟩/\g<w.heap.size/\∀k,k<n->w.cell? ⟨g,off+k,none⟩=some (.int .u8 (xs.getD k 0))
theorem YS.keep{w B a n xs}(f:YS w a n xs)(k:Kept 0 0 w B):YS B a n xs:=
 ⟨f.len,f.lt,by
  rcases f.at_ with al|⟨g,off,e,h3,a6⟩
  ·exact .inl al
  ·exact .inr ⟨g,_,e,yak h3 k.size,λj hj=>by rw[k.cell h3 xaa];grind⟩⟩
end
section
open Go.RowKit Flt
variable{xs:List Int}{t:List UInt8}{k i j:Nat}{p o:Int}
abbrev eN(l:List UInt8):Value:=.string ⟨l.toArray⟩
theorem sY(a b:List UInt8):(⟨a.toArray⟩:ByteArray)++⟨b.toArray⟩=⟨(a++b).toArray⟩:=by
 apply ByteArray.ext;simp
def gO(n:Nat):List UInt8:=if n<10 then[UInt8.ofNat (48+n)]else gO (n/10)++gO (n%10)
termination_by n
decreasing_by all_goals omega
theorem jS(n):(gO n).length<=n+1:=by
 rw[gO];split
 ·simp
 rw[yal];have F:=jS (n/10);have N:(gO (n%10)).length=1:=by rw[gO,hD xaa];rfl
 omega
termination_by n
decreasing_by all_goals omega
theorem fX(l:List UInt8):(⟨l.toArray⟩:ByteArray).size=l.length:=by simp[ByteArray.size]
theorem JT:∀k:Fin 10,({data:=#[48,49,50,51,52,53,54,55,56,57]}:ByteArray).extract k.1 (k.1+1)=⟨#[UInt8.ofNat (48+k.1)]⟩:=by decide+kernel
theorem uW(n:Nat)(ad:n<10)(w):Calls prog 77 #[hA n] w λe B=>e=.returned (eN (gO n))/\B=w:=by
 have aK:gO n=[UInt8.ofNat (48+n)]:=by rw[gO,hD ad]
 have an:({data:=#[48,49,50,51,52,53,54,55,56,57]}:ByteArray).extract n (n+1)=⟨(gO n).toArray⟩:=by rw[aK];exact JT ⟨n,ad⟩
 unfold eN;generalize (⟨(gO n).toArray⟩:ByteArray)=f at an;have aX:(n:Int)<10:=xaa;have bb:IntKind.i64.wrap ((n:Int)+1)=(n:Int)+1:=by rw[IntKind.wrap_i64];omega
 have co:0<=(n:Int):=xaa;clear aK;go_enter func77,ntmps77;go_wp2;go_ret;exact⟨rfl,rfl⟩
theorem yN:∀(aV n:Nat),n<=aV->n<=1000000->∀w:World,Calls prog 77 #[hA n] w λe B=>e=.returned (eN (gO n))/\B=w:=by
 intro aV;induction aV with
 |zero=>
  intro n h _ w;exact uW n xaa w
 |succ aV G=>
  intro n h hb w;by_cases ad:n<10
  ·exact uW n ad w
  have aK:gO n=gO (n/10)++gO (n%10):=by rw[gO,hC ad]
  have H1:E (∀w:World,Calls prog 77 #[hA ((n:Int)/10)] w λe B=>e=.returned (eN (gO (n/10)))/\B=w):=G (n/10) xaa xaa;have H2:E (∀w:World,Calls prog 77 #[hA ((n:Int)%10)] w λe B=>e=.returned (eN (gO (n%10)))/\B=w):=G (n%10) xaa xaa;have aX:¬((n:Int)<10):=xaa;unfold eN at H1 H2⊢;rw[aK,<-sY]
  have bv:¬(9223372036854775807<(⟨(gO (n/10)).toArray⟩:ByteArray).size+(⟨(gO (n%10)).toArray⟩:ByteArray).size):=by
   rw[fX,fX];have:=jS (n/10);have:=jS (n%10);omega
  generalize (⟨(gO (n/10)).toArray⟩:ByteArray)=a at H1 bv;generalize (⟨(gO (n%10)).toArray⟩:ByteArray)=b at H2 bv;clear G aK;go_enter func77,ntmps77;go_wp2_with fail;refine yaj (H1.o w) ?_;rintro e aA ⟨rfl,rfl⟩;go_wp2_with fail;refine yaj (H2.o aA) ?_;rintro e ag ⟨rfl,rfl⟩;go_wp2_with fail;go_ret;exact⟨rfl,rfl⟩
def dig(c:Int):Bool:=decide (48<=c)&&decide (c<=57)
theorem sZ{c}(h:dig c=true):48<=c/\c<=57:=by simp[dig]at h;exact h
theorem wO:dig 46=false:=xab
structure GoodAt(xs:List Int)(p:Int):Prop where
 pos:0<xs.length
 point:∀i,i<xs.length->(xs.getD i 0=46↔(i:Int)=p)
 digit:∀i,i<xs.length->xs.getD i 0≠46->dig (xs.getD i 0)=true
 place:p=-1\/(0<p/\p+1<xs.length)
def wQ(xs:List Int):Prop:=∃p,GoodAt xs p
def nst(s:Int×Int×Bool)(c:Int):Int×Int×Bool:=if c=46 then (s.1,s.2.1,true)else (s.1*10+(c-48),if s.2.2 then s.2.1*10 else s.2.1,s.2.2)
def nds(xs:List Int):Int×Int×Bool:=xs.foldl nst (0,1,false)
theorem uX(xs:List Int)(k)(O:k<xs.length):xs.take (k+1)=xs.take k++[xs.getD k 0]:=by
 simp_all
theorem qf(xs:List Int)(k)(O:k<xs.length):nds (xs.take (k+1))=nst (nds (xs.take k)) (xs.getD k 0):=by
 rw[uX _ k O,nds,List.foldl_append];rfl
theorem qg(q)(xs:List Int)(k)(O:k<xs.length):(xs.take (k+1)).countP q=(xs.take k).countP q+if q (xs.getD k 0)then 1 else 0:=by
 rw[uX _ k O,List.countP_append];grind
theorem uY(xs:List Int)(h:∀i,i<xs.length->xs.getD i 0≠46->dig (xs.getD i 0)=true):∀k,k<=xs.length->
  0<=(nds (xs.take k)).1/\(nds (xs.take k)).1<10 ^ k/\1<=(nds (xs.take k)).2.1/\(nds (xs.take k)).2.1<=10 ^ k
 |0,_=>by simp[nds]
 |k+1,O=>by
  obtain⟨F,N,h3,a6⟩:=uY _ h k xaa
  have aM:(10:Int) ^ (k+1)=10 ^ k*10:=xaa
  rw[qf _ k xaa,aM]
  unfold nst
  by_cases c:xs.getD k 0=46
  ·grind
  ·rw[hC c]
   have:=sZ (h k xaa c)
   grind
theorem Pq(h:k<=16):(10:Int) ^ k<=10000000000000000:=by
 have:(10:Int) ^ k<=10 ^ 16:=by
  have e:((10 ^ k:Nat):Int)<=(10 ^ 16:Nat):=Int.ofNat_le.2 (Nat.pow_le_pow_right xab h);simpa using e
 omega
theorem uZ(xs:List Int)(h:∀i,i<xs.length->xs.getD i 0≠46->dig (xs.getD i 0)=true)(k)(O:k<=xs.length)(e:k<=16):
  0<=(nds (xs.take k)).1/\(nds (xs.take k)).1<=10000000000000000/\1<=(nds (xs.take k)).2.1/\(nds (xs.take k)).2.1<=10000000000000000:=by
 obtain⟨F,N,h3,a6⟩:=uY _ h k O;have:=Pq e;omega
theorem yP(xs:List Int)(h:∀i,i<xs.length->xs.getD i 0≠46->dig (xs.getD i 0)=true):∀k,k<=xs.length->
  (xs.take k).countP dig+(xs.take k).countP (· ==46)=k
 |0,_=>by simp
 |k+1,O=>by
  have al:=yP _ h k xaa
  grind[qg,wO]
theorem GoodAt.points(h:GoodAt xs p):∀k,k<=xs.length->(xs.take k).countP (· ==46)=if 0<=p/\p<k then 1 else 0
 |0,_=>by grind
 |k+1,O=>by
  rw[qg _ _ k xaa,h.points k xaa]
  by_cases c:xs.getD k 0=46
  ·have:=(h.point k xaa).1 c
   grind
  ·have:¬k=p:=λe=>c ((h.point k xaa).2 e)
   grind
theorem GoodAt.short(h:GoodAt xs p)(aK:xs.countP dig<=15):xs.length<=16:=by
 have F:=yP _ h.digit _ yad;have N:=h.points _ yad;grind
theorem GoodAt.behind(h:GoodAt xs p):∀k,k<=xs.length->(nds (xs.take k)).2.2=decide (0<=p/\p<k)
 |0,_=>by rw[yay xaa];rfl
 |k+1,O=>by
  have al:=h.behind k xaa
  rw[qf _ k xaa]
  unfold nst
  by_cases c:xs.getD k 0=46
  ·have:=(h.point k xaa).1 c
   grind
  ·have:¬k=p:=λe=>c ((h.point k xaa).2 e)
   grind
def RN(xs:List Int)(f:Nat)(c:Int):Prop:=
 (¬wQ xs/\f=0/\c=2)\/(wQ xs/\15<xs.countP dig/\f=0/\c=5)\/
 (wQ xs/\xs.countP dig<=15/\f<18446744073709551616/\fb f=fb (cop .quo (floatOfInt .f64 (nds xs).1) (floatOfInt .f64 (nds xs).2.1))/\c=0)
structure Mid(xs:List Int)(k:Nat)(p:Int)(dg:Int):Prop where
 count:dg=((xs.take k).countP dig:Nat)
 point:∀i,i<k->(xs.getD i 0=46↔(i:Int)=p)
 digit:∀i,i<k->xs.getD i 0≠46->dig (xs.getD i 0)=true
 place:p=-1\/(0<=p/\p<k)
theorem Dl(xs):Mid xs 0 (-1) 0:=⟨rfl,λi hi=>by omega,λi hi=>by omega,.inl rfl⟩
theorem Mid.digitStep(h:Mid xs k p o)(O:k<xs.length)(aK:dig (xs.getD k 0)=true):Mid xs (k+1) p (o+1):=by
 have ad:xs.getD k 0≠46:=λe=>by rw[e]at aK;cases aK
 refine⟨?_,?_,?_,?_⟩
 ·rw[qg _ _ k O,aK,h.count];simp
 ·intro i hi;by_cases e:i=k
  ·subst e;refine⟨λc=>absurd c ad,λc=>?_⟩;rcases h.place with q|q<;>omega
  exact h.point i xaa
 ·exact xin
 rcases h.place with q|q<;>grind
theorem Mid.pointStep(h:Mid xs k p o)(O:k<xs.length)(aK:xs.getD k 0=46)(aM:p<0):Mid xs (k+1) k o:=by
 refine⟨?_,?_,?_,?_⟩
 ·rw[qg _ _ k O,aK,wO,h.count];simp
 ·intro i hi;by_cases e:i=k
  ·simp_all
  refine⟨λc=>?_,λc=>by omega⟩;have:=(h.point i xaa).1 c;omega
 ·exact xin
 omega
theorem Mid.bad(h:Mid xs k p o)(O:k<xs.length)(aK:dig (xs.getD k 0)=false)(hb:xs.getD k 0≠46\/0<=p):¬wQ xs:=by
 rintro⟨q,g⟩;by_cases c:xs.getD k 0=46
 ·rcases hb with hb|hb
  ·exact hb c
  have ae:=(g.point k O).1 c;rcases h.place with al|al
  ·omega
  obtain⟨m,rfl⟩:=Int.eq_ofNat_of_zero_le al.1;have F:=(h.point m xaa).2 rfl;have:=(g.point m xaa).1 F;omega
 have:=g.digit k O c;grind
theorem Mid.good(h:Mid xs xs.length p o)(al:0<xs.length)(F:p≠0)(N:p≠(xs.length:Int)-1):GoodAt xs p:=
 ⟨al,h.point,h.digit,by rcases h.place with q|q<;>omega⟩
theorem Mid.notGood(h:Mid xs xs.length p o)(hb:xs.length=0\/p=0\/p=(xs.length:Int)-1)(al:0<xs.length->0<=p):¬wQ xs:=by
 rintro⟨q,g⟩;have aM:=g.pos;have:=al aM;obtain⟨m,rfl⟩:=Int.eq_ofNat_of_zero_le this;have am:m<xs.length:=xaa;have F:=(h.point m am).2 rfl;have:=(g.point m am).1 F;rcases g.place with q|q<;>omega
def bt(t:List UInt8)(k:Nat):Int:=((t.getD k 0).toNat:Int)
def nD(x:Int):Bool:=decide (97<=x)&&decide (x<=122)||x==95
def qh(x:Int):Bool:=nD x||dig x
def AS(x:Int):Bool:=x==32||x==9||x==13||x==10
def rY(x:Int):Bool:=!(x==10)
def gM(p:Int->Bool)(t:List UInt8)(j:Nat):Nat:=if j<t.length/\p (bt t j)=true then gM p t (j+1)else j
termination_by t.length-j
decreasing_by omega
theorem oQ{p}(h:¬(j<t.length/\p (bt t j)=true)):gM p t j=j:=by rw[gM,hC h]
theorem wR{p}(F:j<t.length)(N:p (bt t j)=true):gM p t j=gM p t (j+1):=by rw[gM,hD ⟨F,N⟩]
theorem mZ(p t j):j<=gM p t j:=by
 rw[gM];split
 ·have:=mZ p t (j+1);omega
 omega
termination_by t.length-j
decreasing_by omega
theorem lA(p t j)(h:j<=t.length):gM p t j<=t.length:=by
 rw[gM];split
 ·exact lA p t _ xaa
 exact h
termination_by t.length-j
decreasing_by omega
theorem oR{p}(F:j<t.length)(N:p (bt t j)=true):j<gM p t j:=by
 grind[wR,mZ]
theorem yR{p t}(j):∀k,j<=k->k<gM p t j->p (bt t k)=true:=by
 intro k F N;rw[gM]at N;split at N
 ·rename_i c;by_cases e:k=j
  ·grind
  exact yR _ k xaa N
 omega
termination_by t.length-j
decreasing_by omega
def skM(t:List UInt8)(i:Nat):Nat:=
 if h:i<t.length then
  if AS (bt t i)=true then skM t (i+1)
  else if _h2:bt t i=35 then skM t (gM rY t i)else i
 else i
termination_by t.length-i
decreasing_by
 ·omega
 ·grind[oR,rY]
theorem JU(h:¬i<t.length):skM t i=i:=by rw[skM,dif_neg h]
theorem Dm(h:i<t.length)(F:AS (bt t i)=true):skM t i=skM t (i+1):=by rw[skM,dif_pos h,hD F]
theorem FQ(h:i<t.length)(F:bt t i=35):skM t i=skM t (gM rY t i):=by
 rw[skM,dif_pos h,hC (by rw[F];decide),dif_pos F]
theorem FT(h:i<t.length)(F:AS (bt t i)=false)(N:bt t i≠35):skM t i=i:=by
 grind[skM]
theorem pE(t i):i<=skM t i:=by
 rw[skM];split
 ·rename_i h;split
  ·have:=pE t (i+1);omega
  split
  ·rename_i N;have h3:=oR (p:=rY) h (by rw[N];decide);have:=pE t (gM rY t i);omega
  omega
 omega
termination_by t.length-i
decreasing_by
 ·omega
 ·omega
theorem wS(t i)(hi:i<=t.length):skM t i<=t.length:=by
 rw[skM];split
 ·rename_i h;split
  ·exact wS t _ xaa
  split
  ·rename_i N;have h3:=oR (p:=rY) h (by rw[N];decide);exact wS t _ (lA _ _ _ hi)
  omega
 omega
termination_by t.length-i
decreasing_by
 ·omega
 ·omega
structure Tok where
 sym:List UInt8
 pos:Nat
 text:List UInt8
def hG:Tok:=⟨[],0,[]⟩
def nR(t:List UInt8)(i j:Nat):List UInt8:=(t.drop i).take (j-i)
theorem yT(h:j<=t.length):(nR t i j).length=j-i:=by
 grind[nR]
def gK:List UInt8:=[110,97,109,101]
def iK:List UInt8:=[105,110,116]
def lk:List UInt8:=[100,101,99]
def keysL:List (List UInt8):=[[105,110],[108,101,116],[111,117,116],[100,101,102],[114,101,112,101,97,116],[101,120,112],[115,117,109],[109,97,120],[100,111,116],[115,101,108],[102,105,108,108],[112,105,99,107],[112,117,116],[103,114,97,100],[106,118,112]]
def onesL:List UInt8:=[43,45,42,47,40,41,44,59,58,61]
def mh(s:List UInt8):List UInt8:=if s∈keysL then s else gK
def kP(x:UInt8):List UInt8:=if x∈onesL then[x] else[]
def rZ(t:List UInt8)(i:Nat):Nat:=if gM dig t i+1<t.length/\bt t (gM dig t i)=46/\dig (bt t (gM dig t i+1))=true then gM dig t (gM dig t i+1)else gM dig t i
def tr(t:List UInt8)(i:Nat):List UInt8:=if gM dig t i+1<t.length/\bt t (gM dig t i)=46/\dig (bt t (gM dig t i+1))=true then lk else iK
def nxE(t:List UInt8)(i:Nat):Nat:=if nD (bt t i)=true then gM qh t i else if dig (bt t i)=true then rZ t i else i+1
def nxT(t:List UInt8)(i:Nat):Tok:=
 if nD (bt t i)=true then⟨mh (nR t i (gM qh t i)),i,nR t i (gM qh t i)⟩
 else if dig (bt t i)=true then⟨tr t i,i,nR t i (rZ t i)⟩
 else⟨kP (t.getD i 0),i,kP (t.getD i 0)⟩
theorem JV(h:i<t.length)(aK:dig (bt t i)=true):i<rZ t i:=by
 grind[rZ,mZ,gM]
theorem JW(h:i<t.length):rZ t i<=t.length:=by
 grind[lA,rZ]
theorem tu(h:i<t.length):i<nxE t i:=by
 grind[nxE,oR,qh,JV]
theorem FU(h:i<t.length):nxE t i<=t.length:=by
 grind[nxE,lA,JW]
def kr(t:List UInt8)(i:Nat):List Tok:=
 if _h:i<t.length then
  if (nxT t i).sym=[] then[nxT t i]else nxT t i::kr t (skM t (nxE t i))
 else[]
termination_by t.length-i
decreasing_by
 grind[tu,pE]
theorem Dn(h:¬i<t.length):kr t i=[]:=by rw[kr,dif_neg h]
theorem Do(h:i<t.length)(F:(nxT t i).sym=[]):kr t i=[nxT t i]:=by rw[kr,dif_pos h,hD F]
theorem FV(h:i<t.length)(F:(nxT t i).sym≠[]):kr t i=nxT t i::kr t (skM t (nxE t i)):=by rw[kr,dif_pos h,hC F]
theorem ve(t i):(kr t i).length<=t.length-i:=by
 rw[kr];split
 ·rename_i h;split
  ·simp;omega
  have F:=tu h;have N:=pE t (nxE t i);have h3:=ve t (skM t (nxE t i));grind
 simp
termination_by t.length-i
decreasing_by omega
def jk(t:List UInt8):List Tok:=kr t (skM t 0)
theorem qj(t):(jk t).length<=t.length:=by
 grind[ve,jk]
theorem kQ(c w):Calls prog 99 #[.int .u8 c] w λe B=>e=.returned (.bool (dig c))/\B=w:=by
 by_cases F:48<=c
 ·have e:dig c=decide (c<=57):=by unfold dig;rw[decide_eq_true F];rfl
  exact xig
 have e:dig c=false:=by unfold dig;rw[yay F];rfl
 have t:=yay F;exact xig
theorem yU(w a cap):
  Calls prog 75 #[.slice a 0 cap] w λe B=>e=.returned (.tuple #[.float .f64 0,hA 2])/\Drawn w B:=by
 go_enter func75,ntmps75;go_wp2_with fail;refine wp_loop_rounds 1 ?_;rw[rounds_succ];go_wp2;go_ret2
 exact⟨rfl,Drawn.refl _⟩
theorem Dp(O:k<xs.length)(h:xs.getD k 0=46):(nds (xs.take (k+1))).1=(nds (xs.take k)).1/\(nds (xs.take (k+1))).2.1=(nds (xs.take k)).2.1/\(nds (xs.take (k+1))).2.2=true:=by
 grind[qf,nst]
theorem Dq(O:k<xs.length)(h:xs.getD k 0≠46):(nds (xs.take (k+1))).1=(nds (xs.take k)).1*10+(xs.getD k 0-48)/\(nds (xs.take (k+1))).2.1=(if (nds (xs.take k)).2.2 then (nds (xs.take k)).2.1*10 else (nds (xs.take k)).2.1)/\(nds (xs.take (k+1))).2.2=(nds (xs.take k)).2.2:=by
 grind[qf,nst]
theorem AT(w g off n cap xs)(an:xs.length=n)(al:0<n)(ad:n<=1048576)(aG:∀x∈xs,0<=x/\x<256)
  (ah:∀k,k<n->w.cell? ⟨g,off+k,none⟩=some (.int .u8 (xs.getD k 0))):
  Calls prog 75 #[.slice (some ⟨g,off,none⟩) n cap] w λe B=>∃f c,e=.returned (.tuple #[.float .f64 f,hA c])/\RN xs f c/\Drawn w B:=by
 have HC:E _:=ah;have ar:E _:=an;have HL:E _:=aG;clear ah an aG;go_enter func75,ntmps75;go_wp2_with fail;go_loopw [4,5,6] (λeB Z S W=>∃(k:Nat) (p o:Int),k<=n/\eB=hA p/\Z=hA o/\S=hA k/\E (Mid xs k p o)/\(0<=o/\o<=k/\-1<=p/\p<n)/\Drawn w W) (λ_ _ S _=>n-(intOf S).toNat)
 case atStart=>exact⟨0,_,0,yae,rfl,rfl,rfl,Dl _,⟨by omega,by omega,by omega,by omega⟩,Drawn.refl _⟩
 case round=>
  obtain⟨k,p,o,O,rfl,rfl,rfl,bx,⟨ao,Y,aw,N⟩,bq⟩:=hrel;by_cases aG:k<n
  ·have c1:wr.cell? ⟨g,off+k,none⟩=some (.int .u8 (xs.getD k 0)):=by rw[bq.cell];exact HC.o k aG
   have HD:E _:=kQ (xs.getD k 0) wr;have u:k<xs.length:=hL ar.o aG
   cases t:dig (xs.getD k 0)
   ·by_cases l:xs.getD k 0=46
    ·by_cases aM:p<0
     ·have H:E _:=bx.o.pointStep u l aM;rw[l]at c1 HD;rw[wO]at HD;clear t l bx;exact xhf
     have H:E (RN _ 0 2):=.inl ⟨bx.o.bad u t (.inr xaa),rfl,rfl⟩;have K:=aM;rw[l]at c1 HD;rw[wO]at HD;exact xga
    have H:E (RN _ 0 2):=.inl ⟨bx.o.bad u t (.inl l),rfl,rfl⟩;have bb:=yan l;rw[t]at HD;generalize xs.getD k 0=x at c1 HD bb;exact xga
   have H:E _:=bx.o.digitStep u t;rw[t]at HD;generalize xs.getD k 0=x at c1 HD;clear t bx;exact xhf
  obtain rfl:k=n:=xaa;have aI:Mid xs xs.length p o:=hL ar.o bx.o
  by_cases av:p=0
  ·have H:E (RN _ 0 2):=.inl ⟨aI.notGood (.inr (.inl av)) (λ_=>by omega),rfl,rfl⟩;subst av;clear bx aI;go_wp2;go_ret2
   exact⟨0,2,rfl,H.o,bq⟩
  by_cases aQ:p=k-1
  ·have H:E (RN _ 0 2):=.inl ⟨aI.notGood (.inr (.inr (hL ar.o aQ))) (λ_=>by omega),rfl,rfl⟩;have aX:=yan av;have bb:(p==k-1)=true:=by grind
   clear bx aI;go_wp2;go_ret2
   exact⟨0,2,rfl,H.o,bq⟩
  have bg:=aI.good (hL ar.o al) av (hL ar.o aQ)
  have v:o=(xs.countP dig:Nat):=by
   have:=aI.count;rw[yap yad]at this;exact this
  have aX:=yan av;have bb:=yan aQ;have bn:((k:Int)==0)=false:=yan xaa;by_cases I:15<o
  ·have H:E (RN _ 0 5):=.inr (.inl ⟨⟨p,bg⟩,by omega,rfl,rfl⟩);clear bx aI bg v;go_wp2;go_ret2
   exact⟨0,5,rfl,H.o,bq⟩
  have y:=bg.short xaa;have be:E _:=bg;have C:E (xs.countP dig<=15):=by show _<=_;omega
  have J:k<=16:=by rw[ar.o]at y;exact y
  clear bx aI bg v y;go_wp2_with fail;go_loopw [7,8,9] (λnv Z S W=>∃(j:Nat) (aV D:Int),j<=k/\nv=hA aV/\Z=hA D/\S=hA j/\E (aV=(nds (xs.take j)).1/\D=(nds (xs.take j)).2.1)/\Drawn w W) (λ_ _ S _=>k-(intOf S).toNat)
  case atStart=>exact⟨0,0,1,yae,rfl,rfl,rfl,⟨rfl,rfl⟩,bq⟩
  case round=>
   obtain⟨j,aV,D,hj,rfl,rfl,rfl,h,m⟩:=hrel;obtain⟨R,aS,aa,bi⟩:=uZ _ be.o.digit j (hL ar.o hj) xaa;rw[<-h.o.1]at R aS;rw[<-h.o.2]at aa bi;by_cases ab:j<k
   ·have c1:wr.cell? ⟨g,off+j,none⟩=some (.int .u8 (xs.getD j 0)):=by rw[m.cell];exact HC.o j ab
    have r:j<xs.length:=hL ar.o ab
    by_cases s:j=p
    ·have l:=(be.o.point j r).2 s
     have H:E (aV=(nds (xs.take (j+1))).1/\D=(nds (xs.take (j+1))).2.1):=by
      obtain⟨aC,aL,_⟩:=Dp r l;exact⟨h.o.1.trans aC.symm,h.o.2.trans aL.symm⟩
     have G:(j !=p)=false:=by simp[s]
     clear h c1;go_wp2;go_roundw;exact⟨j+1,aV,D,by omega,rfl,rfl,by go_num,H,m⟩;simp[intOf];omega
    have l:xs.getD j 0≠46:=λc=>s ((be.o.point j r).1 c);have aK:=sZ (be.o.digit j r l);obtain⟨aC,aL,_⟩:=Dq r l;rw[be.o.behind j xaa]at aL;have G:(j !=p)=true:=by simp[s]
    by_cases q:0<=p/\p<j
    ·rw[decide_eq_true q]at aL
     have H:E (aV*10+(xs.getD j 0-48)=(nds (xs.take (j+1))).1/\D*10=(nds (xs.take (j+1))).2.1):=by
      refine⟨?_,?_⟩
      ·rw[aC,h.o.1]
      rw[aL,h.o.2];rfl
     clear aC aL l h;generalize xs.getD j 0=x at c1 aK H;have z:=q.1;have F:=q.2;go_wp2;go_roundw;exact⟨j+1,_,_,by omega,by go_num,by go_num,by go_num,H,m⟩;simp[intOf];omega
    rw[yay q]at aL
    have H:E (aV*10+(xs.getD j 0-48)=(nds (xs.take (j+1))).1/\D=(nds (xs.take (j+1))).2.1):=by
     refine⟨?_,?_⟩
     ·rw[aC,h.o.1]
     rw[aL,h.o.2];rfl
    clear aC aL l h;generalize xs.getD j 0=x at c1 aK H;by_cases z:0<=p
    ·have F:¬(p<j):=λc=>q ⟨z,c⟩;exact xgm
    exact xgm
   obtain rfl:j=k:=xaa;have e:=yap (by rw[ar.o];exact yad);rw[e]at h;have H:E (∀W:World,RN _ (fop _ (floatOfInt _ aV) (floatOfInt _ D) W) 0):=λW=>.inr (.inr ⟨⟨p,be.o⟩,C.o,gJ _ _ _ _,by rw[gl,h.o.1,h.o.2],rfl⟩);have ap:=λW=>jX (P:=prog) W 57 (floatOfInt .f64 aV) (floatOfInt .f64 D);clear h e;go_wp2;go_ret2
   exact⟨_,0,rfl,H.o _,m.more _⟩
theorem qU(w a n cap xs)(f:YS w a n xs)(ad:n<=1048576):
  Calls prog 75 #[.slice a n cap] w λe B=>∃f c,e=.returned (.tuple #[.float .f64 f,hA c])/\RN xs f c/\Drawn w B:=by
 rcases Nat.eq_zero_or_pos n with al|al
 ·subst al;have:=List.length_eq_zero_iff.1 f.len;subst this;exact(yU w a _).mono λ_ _ h=>⟨0,2,h.1,.inl ⟨λ⟨_,g⟩=>by have:=g.pos;grind,rfl,rfl⟩,h.2⟩
 rcases f.at_ with h|⟨g,off,rfl,h3,a6⟩
 ·omega
 exact AT w g _ n _ _ f.len al ad f.lt a6
end
section
open Go.RowKit Flt
attribute[local go_sem] eF eE eD
variable{w I:World}{g p j off J o i:Nat}{s x:List UInt8}
structure TxS(w:World)(g off n:Nat)(t:List UInt8):Prop where
 len:t.length=n
 lt:g<w.heap.size
 at_:∀k,k<n->w.cell? ⟨g,off+k,none⟩=some (.int .u8 (bt t k))
theorem TxS.keep{B n t}(h:TxS w g off n t)(k:Kept 0 0 w B):TxS B g off n t:=
 ⟨h.len,yak h.lt k.size,λj hj=>(k.cell (p:=⟨g,off+j,none⟩) h.lt xaa).trans (h.at_ j hj)⟩
theorem nT(c w):Calls prog 115 #[.int .u8 c] w λe B=>e=.returned (.bool (nD c))/\B=w:=by
 cases F:decide (97<=c)
 ·have e:nD c=(c==95):=by unfold nD;rw[F];rfl
  exact xff
 cases N:decide (c<=122)
 ·have e:nD c=(c==95):=by unfold nD;rw[F,N];rfl
  exact xff
 have e:nD c=true:=by unfold nD;rw[F,N];rfl
 exact xff
theorem FW(w g off n cap t)(f:TxS w g off n t)(i)(hi:i<=n)(ad:n<=1000000):
  Calls prog 96 #[.slice (some ⟨g,off,none⟩) n cap,hA i] w λe B=>e=.returned (hA (skM t i:Nat))/\B=w:=by
 have HF:E _:=f;obtain⟨Eaa,au⟩:∃Eaa,Eaa=skM t i:=⟨_,rfl⟩
 rw[<-au];have HE:E _:=au.symm;clear f au;go_enter func96,ntmps96;go_wp2_with fail;go_loopw [1] (λS W=>W=w/\∃k:Nat,k<=n/\S=hA k/\E (skM t k=Eaa)) (λS _=>n-(intOf S).toNat)
 case atStart=>exact⟨rfl,i,hi,rfl,HE⟩
 case round=>
  obtain⟨rfl,k,O,rfl,aI⟩:=hrel;by_cases aG:k<n
  ·have c1:=HF.o.at_ k aG;have q:E (k<t.length):=by show _<_;rw[HF.o.len];exact aG
   by_cases hb:AS (bt t k)=true
   ·have H:E _:=(Dm q.o hb).symm.trans aI.o;unfold AS at hb;generalize bt t k=x at c1 hb;cases aX:(x==32)
    ·cases bb:(x==9)
     ·cases co:(x==13)
      ·have cg:(x==10)=true:=by simpa[aX,bb,co] using hb
       exact xct
      exact xct
     exact xct
    exact xct
   have Q:AS (bt t k)=false:=by simpa using hb
   by_cases r:bt t k=35
   ·have HR:E _:=(FQ q.o r).symm.trans aI.o;have be:E (k<gM rY t k/\gM rY t k<=t.length):=⟨oR q.o (by rw[r];decide),lA _ _ _ (Nat.le_of_lt q.o)⟩
    obtain⟨E2,l⟩:∃E2,E2=gM rY t k:=⟨_,rfl⟩
    rw[<-l]at HR be;have al:E _:=l.symm;rw[r]at c1;clear l hb Q r aI;go_wp2_with fail;go_loopw [1] (λS W=>W=wr/\∃j:Nat,j<=n/\S=hA j/\E (gM rY t j=E2)) (λS _=>n-(intOf S).toNat)
    case atStart=>exact⟨rfl,k,O,rfl,al⟩
    case round=>
     rename World=>W0
     obtain⟨rfl,j,hj,rfl,m⟩:=hrel;by_cases b1:j<n
     ·have c2:=HF.o.at_ j b1;have u:E (j<t.length):=by show _<_;rw[HF.o.len];exact b1
      cases ag:(bt t j==10)
      ·have H:E _:=(wR u.o (by unfold rY;rw[ag];rfl)).symm.trans m.o;generalize bt t j=x at c2 ag;have R:(x !=10)=true:=by unfold bne;rw[ag];rfl
       clear ag;go_wp2;exact xgz
      have H:E _:=(oQ (λh=>by have:=h.2;unfold rY at this;rw[ag]at this;cases this)).symm.trans m.o;obtain rfl:=H.o;generalize bt t j=x at c2 ag;have R:(x !=10)=false:=by unfold bne;rw[ag];rfl
      clear ag;exact xgn
     have H:E _:=(oQ (λh=>hJ HF.o.len)).symm.trans m.o;obtain rfl:=H.o;exact xgn
   have H:E _:=(FT q.o Q r).symm.trans aI.o;obtain rfl:=H.o;unfold AS at Q;have bn:(bt t k==35)=false:=by simpa using r
   generalize bt t k=x at c1 Q bn;simp only[Bool.or_eq_false_iff]at Q;obtain⟨⟨⟨aX,bb⟩,co⟩,cg⟩:=Q;clear r hb;go_wp2;go_ret;exact⟨rfl,rfl⟩
  have H:E _:=(JU (hL HF.o.len aG)).symm.trans aI.o;obtain rfl:=H.o;go_wp2;go_ret;exact⟨rfl,rfl⟩
theorem FX{t k}(O:k<j-i):bt (nR t i j) k=bt t (i+k):=by
 simp_all[bt,nR]
def gV(t:List UInt8):List Int:=t.map λb=>(b.toNat:Int)
theorem qV(t k)(h:k<t.length):(gV t).getD k 0=bt t k:=by
 simp_all[gV,bt]
theorem FY(t):strOfNums (gV t)=⟨t.toArray⟩:=by
 simp_all[strOfNums,gV,List.map_congr_left]
theorem qW{n t}(f:TxS w g off n t)(c):(convert 22 9 (.slice (some ⟨g,off,none⟩) n c)).run prog w=.ok (eN t) w:=by
 have hb:prog.underlying 5=some (.int .u8):=by kernel_rfl
 have au:prog.underlying 9=some .string:=by kernel_rfl
 have h:=run_convert_bytes_arg w 22 5 underlying22 hb g _ n c (gV t) (by unfold gV;rw[List.length_map];exact f.len) (λk O=>by rw[qV t k (hL f.len O)];exact f.at_ k O) 9 au;rw[FY]at h;exact h
theorem TxS.cut{n t}(f:TxS w g off n t)(hj:j<=n):TxS w g (off+i) (j-i) (nR t i j):=
 ⟨yT (hL f.len hj),f.lt,λk O=>by
  rw[FX O,Nat.add_assoc]
  exact f.at_ _ xaa⟩
def nU:Array Value:=(keysL.map λl=>eN l).toArray
theorem FZ(w):Calls prog 116 #[] w λe B=>e=.returned (hz w.heap.size 15 15)/\w.alloc (.cells nU 9)=B:=by
 go_enter func116,ntmps116;go_wp2;go_ret;exact⟨rfl,rfl⟩
def iR(k:Tok):Value:=.agg #[eN k.sym,.int .i64 (k.pos:Int),eN k.text]
def NxO(w:World)(k:Tok)(j:Nat)(e:Ending)(w':World):Prop:=e=.returned (.tuple #[iR k,.int .i64 (j:Int)])/\Kept 0 0 w w'
structure TB(W:World)(p:Nat)(s:List UInt8)(k:Nat)(x:List UInt8):Prop where
 lt:p<W.heap.size
 c0:W.cell? ⟨p,0,none⟩=some (eN s)
 c1:W.cell? ⟨p,1,none⟩=some (.int .i64 (k:Int))
 c2:W.cell? ⟨p,2,none⟩=some (eN x)
 fr:∀o,W.frozen? ⟨p,o,none⟩=false
theorem TB.keep{W k}(h:TB W p s k x)(q:Kept 0 0 W I):TB I p s k x:=
 ⟨yak h.lt q.size,(q.cell (p:=⟨p,0,none⟩) h.lt xaa).trans h.c0,(q.cell (p:=⟨p,1,none⟩) h.lt xaa).trans h.c1,(q.cell (p:=⟨p,2,none⟩) h.lt xaa).trans h.c2,λo=>(q.frozen (p:=⟨p,o,none⟩) h.lt xaa).trans (h.fr o)⟩
theorem TB.sym{W k}(h:TB W p s k x)(z):TB (W.setCell ⟨p,0,none⟩ (eN z)) p z k x:=
 ⟨by simpa using h.lt,fy _ _ _ _ _ h.c0,(eQ _ _ _ _ _ _ (.inr xaa)).trans h.c1,(eQ _ _ _ _ _ _ (.inr xaa)).trans h.c2,λo=>by simp[h.fr o]⟩
theorem TB.text{W k}(h:TB W p s k x)(z):TB (W.setCell ⟨p,2,none⟩ (eN z)) p s k z:=
 ⟨by simpa using h.lt,(eQ _ _ _ _ _ _ (.inr xaa)).trans h.c0,(eQ _ _ _ _ _ _ (.inr xaa)).trans h.c1,fy _ _ _ _ _ h.c2,λo=>by simp[h.fr o]⟩
theorem TB.posn{W k}(h:TB W p s k x)(z:Nat):TB (W.setCell ⟨p,1,none⟩ (hA z)) p s z x:=
 ⟨by simpa using h.lt,(eQ _ _ _ _ _ _ (.inr xaa)).trans h.c0,fy _ _ _ _ _ h.c1,(eQ _ _ _ _ _ _ (.inr xaa)).trans h.c2,λo=>by simp[h.fr o]⟩
theorem TB.other{W q v k}(h:TB W p s k x)(ap:q≠p):TB (W.setCell ⟨q,o,none⟩ v) p s k x:=
 ⟨by simpa using h.lt,(eQ _ _ _ _ _ _ (.inl ap)).trans h.c0,(eQ _ _ _ _ _ _ (.inl ap)).trans h.c1,(eQ _ _ _ _ _ _ (.inl ap)).trans h.c2,λo=>by simp[h.fr o]⟩
theorem gW(w:World)(s)(k:Nat)(x):TB (w.alloc (.cells #[eN s,hA k,eN x] 119)) w.heap.size s k x:=
 ⟨by simp,by rw[yav];rfl,by rw[yav];rfl,by rw[yav];rfl,λo=>World.frozen?_alloc_at _ _ w.heap.size o rfl⟩
theorem nW{W}(k:Kept 0 0 w W){v}(h:w.heap.size<=p):Kept 0 0 w (W.setCell ⟨p,o,none⟩ v):=
 Chg.kept (S:=λi=>i=p) k ((eR (lo:=p) (hi:=p+1) W ⟨p,o,none⟩ v yac).chg1 rfl) (λi hi=>by omega)
structure NI(w W:World)(s:List UInt8)(k:Nat)(x:List UInt8):Prop where
 r:TB W w.heap.size [] 0 []
 t:TB W (w.heap.size+1) s k x
 k:Kept 0 0 w W
theorem NI.keep{W k}(h:NI w W s k x)(q:Kept 0 0 W I):NI w I s k x:=⟨h.r.keep q,h.t.keep q,h.k.trans q⟩
theorem NI.sym{W k}(h:NI w W s k x)(z):NI w (W.setCell ⟨w.heap.size+1,0,none⟩ (eN z)) z k x:=⟨h.r.other xaa,h.t.sym z,nW h.k xaa⟩
theorem NI.text{W k}(h:NI w W s k x)(z):NI w (W.setCell ⟨w.heap.size+1,2,none⟩ (eN z)) s k z:=⟨h.r.other xaa,h.t.text z,nW h.k xaa⟩
theorem AU(w)(i:Nat):NI w ((w.alloc (.cells #[eN [],hA (0:Nat),eN []] 119)).alloc (.cells #[eN [],hA i,eN []] 119)) [] i []:=by
 refine⟨(gW w _ 0 _).keep (ez 0 0 _ _),?_,(ez 0 0 w _).trans (ez 0 0 _ _)⟩;have h:=gW (w.alloc (.cells #[eN [],hA (0:Nat),eN []] 119)) [] i [];simp_all
theorem NI.fin{W k}(h:NI w W s k x):TB (((W.setCell ⟨w.heap.size,0,none⟩ (eN s)).setCell ⟨w.heap.size,1,none⟩ (hA k)).setCell ⟨w.heap.size,2,none⟩ (eN x)) w.heap.size s k x/\Kept 0 0 w (((W.setCell ⟨w.heap.size,0,none⟩ (eN s)).setCell ⟨w.heap.size,1,none⟩ (hA k)).setCell ⟨w.heap.size,2,none⟩ (eN x)):=
 ⟨((h.r.sym s).posn k).text x,nW (nW (nW h.k yad) yad) yad⟩
def rJ(s:List UInt8)(k:Nat):List UInt8:=if s∈keysL.take k then s else gK
theorem F6(W aA:World)(k)(O:k<15)(h:Kept 0 0 (aA.alloc (.cells nU 9)) W):W.cell? ⟨aA.heap.size,k,none⟩=some (eN (keysL.getD k [])):=by
 rw[h.cell xac xaa,yav];have af:k<keysL.length:=O;show nU[k]? =_;unfold nU;simp_all
theorem Ds{k}(O:k<15)(h:keysL.getD k []=s):rJ s (k+1)=s:=by
 unfold rJ;rw[hD];have af:k<keysL.length:=O;exact xit
theorem AV{k}(O:k<15)(h:keysL.getD k []≠s):rJ s (k+1)=rJ s k:=by
 unfold rJ;have af:k<keysL.length:=O;exact xfn
theorem F8{t}(F:j<t.length):gM qh t j=if nD (bt t j)=true\/dig (bt t j)=true then gM qh t (j+1)else j:=by
 grind[wR,qh,oQ]
structure KI(w W:World)(B:Nat)(x:List UInt8)(i k:Nat):Prop where
 n:NI w W (rJ x k) i x
 lt:B<W.heap.size
 ne:w.heap.size+1<B
 c:∀q,q<15->W.cell? ⟨B,q,none⟩=some (eN (keysL.getD q []))
theorem F9{W}(h:NI w W gK i x):KI w (W.alloc (.cells nU 9)) W.heap.size x i 0:=
 ⟨h.keep (ez 0 0 W _),by simp,h.t.lt,λq ap=>F6 _ W q ap hI⟩
theorem KI.keep{W k}(h:KI w W J x i k)(q:Kept 0 0 W I):KI w I J x i k:=
 ⟨h.n.keep q,yak h.lt q.size,h.ne,λj hj=>(q.cell (p:=⟨J,j,none⟩) h.lt xaa).trans (h.c j hj)⟩
theorem KI.hit{W k}(h:KI w W J x i k)(O:k<15)(e:keysL.getD k []=x):KI w (W.setCell ⟨w.heap.size+1,0,none⟩ (eN x)) J x i (k+1):=by
 refine⟨?_,by simpa using h.lt,h.ne,λj hj=>(eQ _ _ _ _ _ _ (.inl (hJ h.ne))).trans (h.c j hj)⟩;rw[Ds O e];exact h.n.sym x
theorem KI.miss{W k}(h:KI w W J x i k)(O:k<15)(e:keysL.getD k []≠x):KI w W J x i (k+1):=by
 refine⟨?_,h.lt,h.ne,h.c⟩;rw[AV O e];exact h.n
theorem aU.qbv(h:Zp:=by
 go_wp2_with (go_at_call 115;refine yaj (a5.o _) ?_;rintro e aA ⟨rfl,rfl⟩);clear c0;rename World=>W0
 go_loopw [7] (λS W=>W=W0/\∃j:Nat,j<=n/\S=hA j/\E (gM qh t j=Eaa)) (λS _=>n-(intOf S).toNat)
 case atStart=>grind
 case round=>
  obtain⟨rfl,j,hj,rfl,m⟩:=hrel;by_cases d1:j=Eaa
  ·subst d1;by_cases aG:j<n
   ·have c1:=(HF.o _ bm.o.k).at_ j aG;have bq:E _:=m.o;rw[F8 (hL bB.o aG)]at bq;have HD:E _:=kQ (bt t j) wr;have l:E _:=nT (bt t j) wr
    have Q:¬(nD _=true\/dig _=true):=λh=>by
     have F:=bq.o
     rw[hD h]at F
     have:=mZ qh t (j+1)
     omega
    have aq:nD (bt t j)=false:=by grind
    have K:dig (bt t j)=false:=by grind
    rw[aq]at l;rw[K]at HD;clear Q aq K bq;generalize bt t j=x at c1 HD l
    go_upto_region 6 with (first
     |(go_at_call 115;refine yaj l.o ?_;rintro e aA ⟨rfl,X⟩;obtain rfl:=X.symm)
     |(go_at_call 99;refine yaj HD.o ?_;rintro e aA ⟨rfl,X⟩;obtain rfl:=X.symm))
    clear c1 HD l;have HC:E _:=qW ((HF.o _ bm.o.k).cut (i:=i) av.o.1) (cap-i);have Y:=av.o.2;have bD:(0:Int)<=i:=xaa;have aQ:(i:Int)<=j:=xaa;have a8:(j:Int)<=cap:=xaa;have ae:((j:Int)-i).toNat=j-i:=xaa;have y2:=bm.o.t.c2;have y3:=bm.o.t.fr 2;have ah:=HC.o;go_upto_region 7 with fail;change Code.wp _ _ _ _ (wr.setCell _ (eN _));have N:E _:=bm.o.text (nR t i j);clear HC ah y2 y3 Y bD aQ a8 ae;generalize wr.setCell _ _=az at N⊢;generalize an:nR t i j=x at N⊢;have ar:E _:=an;clear an;have y2:=N.o.t.c0;have y3:=N.o.t.fr 0;go_upto_region 8 with fail;change Code.wp _ _ _ _ (az.setCell _ (eN gK));have HN2:E _:=N.o.sym gK;clear y2 y3 N;generalize az.setCell _ _=bS at HN2⊢;go_upto_region 9 with (go_at_call 116;refine yaj (FZ _) ?_;rintro e aB ⟨rfl,rfl⟩);have aK:E _:=F9 HN2.o;generalize bS.alloc _=aB at aK⊢;generalize bS.heap.size=J at aK⊢;clear HN2;go_wp2_with fail;go_loopw [9] (λS W=>∃k:Nat,k<=15/\S=hA k/\E (KI w W J x i k)) (λS _=>15-(intOf S).toNat)
    case atStart=>exact⟨0,by omega,rfl,aK⟩
    case round=>
     exact xao
   go_upto_region 6 with fail;have HC:E _:=qW ((HF.o _ bm.o.k).cut (i:=i) av.o.1) (cap-i);have Y:=av.o.2;have bD:(0:Int)<=i:=xaa;have aQ:(i:Int)<=j:=xaa;have a8:(j:Int)<=cap:=xaa;have ae:((j:Int)-i).toNat=j-i:=xaa;have y2:=bm.o.t.c2;have y3:=bm.o.t.fr 2;have ah:=HC.o;go_upto_region 7 with fail;change Code.wp _ _ _ _ (wr.setCell _ (eN _));have N:E _:=bm.o.text (nR t i j);clear HC ah y2 y3 Y bD aQ a8 ae;generalize wr.setCell _ _=az at N⊢;generalize an:nR t i j=x at N⊢;have ar:E _:=an;clear an;have y2:=N.o.t.c0;have y3:=N.o.t.fr 0;go_upto_region 8 with fail;change Code.wp _ _ _ _ (az.setCell _ (eN gK));have HN2:E _:=N.o.sym gK;clear y2 y3 N;generalize az.setCell _ _=bS at HN2⊢;go_upto_region 9 with (go_at_call 116;refine yaj (FZ _) ?_;rintro e aB ⟨rfl,rfl⟩);have aK:E _:=F9 HN2.o;generalize bS.alloc _=aB at aK⊢;generalize bS.heap.size=J at aK⊢;clear HN2;go_wp2_with fail;go_loopw [9] (λS W=>∃k:Nat,k<=15/\S=hA k/\E (KI w W J x i k)) (λS _=>15-(intOf S).toNat)
   case atStart=>grind
   case round=>
    exact xao
  have aG:j<n:=by
   rcases Nat.lt_or_ge j n with c|c
   ·exact c
   exact absurd ((oQ (λh=>hJ bB.o)).symm.trans m.o) d1
  have c1:=(HF.o _ bm.o.k).at_ j aG;have bq:E _:=m.o;rw[F8 (hL bB.o aG)]at bq;have HD:E _:=kQ (bt t j) wr;have l:E _:=nT (bt t j) wr;generalize bt t j=x at c1 HD l bq;cases aq:nD x
  ·rw[aq]at l bq;cases K:dig x
   ·rw[K]at bq;exact absurd (by simpa using bq.o) d1
   rw[K]at HD bq;have H:E (gM qh t (j+1)=Eaa):=by grind
   go_wp2_with (first
    |(go_at_call 115;refine yaj l.o ?_;rintro e aA ⟨rfl,rfl⟩)
    |(go_at_call 99;refine yaj HD.o ?_;rintro e aA ⟨rfl,rfl⟩))
   grind[intOf]
  rw[aq]at l bq;have H:E (gM qh t (j+1)=Eaa):=by grind
  go_wp2_with (first
   |(go_at_call 115;refine yaj l.o ?_;rintro e aA ⟨rfl,rfl⟩))
  grind[intOf]):Zp:=h
open aU in
theorem Dt(w g off n cap t)(f:TxS w g off n t)(i)(hi:i<n)(ad:n<=1000000)(u:n<=cap)(bA:nD (bt t i)=true):
  Calls prog 97 #[.slice (some ⟨g,off,none⟩) n cap,hA i] w (NxO w (nxT t i) (nxE t i)):=by
 have HF:E (∀W,Kept 0 0 w W->_):=λW k=>f.keep k;have aV:E (nxT t i=⟨_,i,_⟩):=hD bA;have HE:E (nxE t i=gM _ t i):=hD bA;have av:E (gM qh t i<=n/\i<=gM qh t i):=⟨by rw[<-f.len];exact lA _ _ _ (hN f.len),mZ _ _ _⟩
 have bB:E _:=f.len;have aJ:=f.lt;have a5:E (∀W,Calls _ _ _ W λe B=>e=.returned (.bool true)/\B=W):=λW=>by rw[<-bA];exact nT _ W
 unfold NxO;rw[aV.o,HE.o];obtain⟨Eaa,au⟩:∃Eaa,Eaa=gM qh t i:=⟨_,rfl⟩
 rw[<-au]at av⊢;have HR:E _:=au.symm;clear au aV HE f bA;exact qbu
theorem yV{t Eaa}(h:gM dig t j=Eaa)(hj:j<t.length)(aZ:j=Eaa):dig (bt t j)=false:=by
 subst aZ;cases c:dig (bt t j)
 ·rfl
 have:=oR hj c;omega
theorem Ga{t Eaa}(h:gM dig t j=Eaa)(aZ:j≠Eaa):j<t.length/\dig (bt t j)=true/\gM dig t (j+1)=Eaa:=by
 have F:=h;rw[gM]at F;split at F
 ·rename_i c;exact⟨c.1,c.2,F⟩
 exact absurd F aZ
theorem TkF{y:Prop}(h:y:=by
 rw[<-eY]at HN2;clear eY;have HC:E _:=qW ((HF.o _ HN2.o.k).cut (i:=i) HBj.o.2) (cap-i);have ao:=HBj.o.1;have Y:=HBj.o.2;have bD:(0:Int)<=i:=xaa;have aQ:(i:Int)<=NE:=xaa;have a8:(NE:Int)<=cap:=xaa;have ae:((NE:Int)-i).toNat=NE-i:=xaa;have y2:=HN2.o.t.c2;have y3:=HN2.o.t.fr 2;have ah:=HC.o;go_upto_region 25 with fail;change Code.wp _ _ _ _ (wr.setCell _ (eN _));have N:E _:=HN2.o.text (nR t i NE);clear HC ah y2 y3 ao Y bD aQ a8 ae;generalize wr.setCell _ _=az at N⊢;generalize an:nR t i NE=x at N;have ar:E _:=an;clear an;obtain⟨_,br,ay,a0,al⟩:=N.o.r;obtain⟨_,bn,aX,bb,ak⟩:=N.o.t;have bZ:=al 0;have b5:=al 1;have b6:=al 2;have H:E _:=N.o.fin;clear al ak N;go_wp2_with fail;change bodyPost _ _ _ _ _ (((az.setCell _ (eN _)).setCell _ _).setCell _ (eN x));generalize ((az.setCell _ _).setCell _ _).setCell _ _=aW at H⊢;obtain⟨⟨_,bG,f1,f2,_⟩,ai⟩:=H.o;exact yaz (v:=.tuple #[.agg #[eN NY,hA i,eN x],hA NE]) (by simp[results,results97,go_sem,bG,f1,f2]) rfl ⟨hO ar.o,ai⟩):y:=h
theorem Gb(w g off n cap t)(f:TxS w g off n t)(i)(hi:i<n)(ad:n<=1000000)(u:n<=cap)(bA:nD (bt t i)=false)(aK:dig (bt t i)=true):
  Calls prog 97 #[.slice (some ⟨g,off,none⟩) n cap,hA i] w (NxO w (nxT t i) (nxE t i)):=by
 have HF:E (∀W,Kept 0 0 w W->_):=λW k=>f.keep k;have aV:E (nxT t i=⟨tr t i,i,nR t i (rZ t i)⟩):=by show _=_;unfold nxT;rw[bA,hC xac,hD aK]
 have HE:E (nxE t i=rZ t i):=by show _=_;unfold nxE;rw[bA,hC xac,hD aK]
 have av:E (gM dig t i<=n/\i<=gM dig t i):=⟨by rw[<-f.len];exact lA _ _ _ (hN f.len),mZ _ _ _⟩
 have bB:E _:=f.len;have aJ:=f.lt;have a5:E (∀W,Calls _ _ _ W λe B=>e=.returned (.bool false)/\B=W):=λW=>by rw[<-bA];exact nT _ W
 have ae:E (∀W,Calls _ _ _ W λe B=>e=.returned (.bool true)/\B=W):=λW=>by rw[<-aK];exact kQ _ W
 have q:E (rZ t i=if gM _ t i+1<t.length/\bt t _=46/\dig _=true then gM _ t _ else gM _ t i):=rfl;have Q:E (tr t i=if gM _ t i+1<t.length/\bt t _=46/\dig _=true then lk else iK):=rfl;unfold NxO;rw[aV.o,HE.o];obtain⟨Eaa,au⟩:∃Eaa,Eaa=gM dig t i:=⟨_,rfl⟩
 rw[<-au]at av q Q;have HR:E _:=au.symm;clear au aV HE f bA aK;generalize rZ t i=NE at q⊢;generalize tr t i=NY at Q⊢;go_enter func97,ntmps97;go_upto_region 3 with fail;have bm:E _:=AU w i;change Code.wp _ _ _ _ ((w.alloc (.cells #[eN _,.int _ _,eN _] 119)).alloc (.cells #[eN _,hA _,eN _] 119));generalize (w.alloc _).alloc _=W0 at bm⊢;have c0:=(HF.o _ bm.o.k).at_ i hi;generalize bt t i=bz at c0 a5 ae
 go_upto_region 16 with (first
  |(go_at_call 115;refine yaj (a5.o _) ?_;rintro e aA ⟨rfl,X⟩;obtain rfl:=X.symm)
  |(go_at_call 99;refine yaj (ae.o _) ?_;rintro e aA ⟨rfl,X⟩;obtain rfl:=X.symm))
 have y2:=bm.o.t.c0;have y3:=bm.o.t.fr 0;go_upto_region 17 with fail;change Code.wp _ _ _ _ (W0.setCell _ (eN iK));have HN2:E _:=bm.o.sym iK;clear y2 y3 bm c0;generalize W0.setCell _ _=bS at HN2⊢;go_loopw [7] (λS W=>W=bS/\∃j:Nat,j<=n/\S=hA j/\E (gM dig t j=Eaa)) (λS _=>n-(intOf S).toNat)
 case atStart=>exact⟨rfl,i,by omega,rfl,HR⟩
 case round=>
  obtain⟨rfl,j,hj,rfl,m⟩:=hrel;by_cases d1:j=Eaa
  ·by_cases aG:j<n
   ·have c1:=(HF.o _ HN2.o.k).at_ j aG;have HD:E _:=kQ (bt t j) wr;rw[yV m.o (hL bB.o aG) d1]at HD;subst d1;generalize C:bt t j=G at c1 HD q Q;go_upto_region 19 with (go_at_call 99;refine yaj HD.o ?_;rintro e aA ⟨rfl,X⟩;obtain rfl:=X.symm);by_cases cf:j+1<n
    ·by_cases l:G=46
     ·have r:E _:=kQ (bt t (j+1)) wr;have c2:=(HF.o _ HN2.o.k).at_ _ cf;subst l;cases v:dig (bt t (j+1))
      ·have bl:E (NY=iK/\NE=j):=⟨Q.o.trans (hC (λh=>by rw[v]at h;exact absurd h.2.2 xac)),q.o.trans (hC (λh=>by rw[v]at h;exact absurd h.2.2 xac))⟩
       have HBj:E (i<=j/\j<=n):=⟨av.o.2,av.o.1⟩
       rw[v]at r;clear HD C v q Q;generalize bt t _=R at c2 r;go_upto_region 24 with (go_at_call 99;refine yaj r.o ?_;rintro e aA ⟨rfl,X⟩;obtain rfl:=X.symm);clear c1 c2 r;obtain⟨eY,rfl⟩:=bl.o;exact TkF
      have z:E (NY=lk/\NE=gM _ t _):=⟨Q.o.trans (hD ⟨hL bB.o cf,rfl,v⟩),q.o.trans (hD ⟨hL bB.o cf,rfl,v⟩)⟩
      rw[v]at r;clear HD C v q Q;generalize bt t _=R at c2 r;go_upto_region 20 with (go_at_call 99;refine yaj r.o ?_;rintro e aA ⟨rfl,X⟩;obtain rfl:=X.symm);clear c1 c2 r;have y2:=HN2.o.t.c0;have y3:=HN2.o.t.fr 0;go_upto_region 21 with fail;change Code.wp _ _ _ _ (wr.setCell _ (eN lk));replace HN2:E _:=HN2.o.sym lk;clear y2 y3;generalize wr.setCell _ _=aB at HN2⊢;have y:E (gM dig t (j+1)<=n/\i<=gM dig t (j+1)):=⟨by rw[<-bB.o];exact lA _ _ _ (hN bB.o),hK (mZ dig t (j+1)) av.o.2⟩
      obtain⟨bg,aX⟩:∃bg,bg=gM dig t (j+1):=⟨_,rfl⟩
      rw[<-aX]at z y;have P:E _:=aX.symm;clear aX;go_wp2_with fail;go_loopw [7] (λS W=>W=aB/\∃j:Nat,j<=n/\S=hA j/\E (gM dig t j=bg)) (λS _=>n-(intOf S).toNat)
      case atStart=>exact⟨rfl,j+1,by omega,by go_num,P⟩
      case round=>
       obtain⟨rfl,k,O,rfl,aI⟩:=hrel;by_cases d2:k=bg
       ·by_cases cc:k<n
        ·have c3:=(HF.o _ HN2.o.k).at_ k cc;have aM:E _:=kQ (bt t k) wr;rw[yV aI.o (hL bB.o cc) d2]at aM;subst d2;have bl:E _:=z.o;have HBj:E (i<=k/\k<=n):=⟨y.o.2,y.o.1⟩
         generalize bt t k=K at c3 aM;go_upto_region 24 with (go_at_call 99;refine yaj aM.o ?_;rintro e aA ⟨rfl,X⟩;obtain rfl:=X.symm);clear c3 aM;obtain⟨eY,rfl⟩:=bl.o;exact TkF
        subst d2;have bl:E _:=z.o;have HBj:E (i<=k/\k<=n):=⟨y.o.2,y.o.1⟩
        exact xiu
       obtain⟨F,N,h3⟩:=Ga aI.o d2;have cc:k<n:=by rw[bB.o]at F;exact F
       have c3:=(HF.o _ HN2.o.k).at_ k cc;have aM:E _:=kQ (bt t k) wr;rw[N]at aM;have H:E _:=h3;clear F N h3;generalize bt t k=K at c3 aM;go_wp2_with (go_at_call 99;refine yaj aM.o ?_;rintro e aA ⟨rfl,X⟩;obtain rfl:=X.symm);exact xcd
     have bl:E (NY=iK/\NE=j):=⟨Q.o.trans (hC (λh=>l h.2.1)),q.o.trans (hC (λh=>l h.2.1))⟩
     have HBj:E (i<=j/\j<=n):=⟨av.o.2,av.o.1⟩
     have U:(G==46)=false:=by simpa using l
     clear HD C q Q l;exact xif
    have bl:E (NY=iK/\NE=j):=⟨Q.o.trans (hC (λh=>hJ bB.o)),q.o.trans (hC (λh=>hJ bB.o))⟩
    have HBj:E (i<=j/\j<=n):=⟨av.o.2,av.o.1⟩
    clear HD C q Q;exact xif
   subst d1;have bl:E (NY=iK/\NE=j):=⟨Q.o.trans (hC (λh=>hJ bB.o)),q.o.trans (hC (λh=>hJ bB.o))⟩
   have HBj:E (i<=j/\j<=n):=⟨av.o.2,av.o.1⟩
   clear q Q;go_upto_region 19 with fail;exact xiu
  obtain⟨F,N,h3⟩:=Ga m.o d1;have aG:j<n:=by rw[bB.o]at F;exact F
  have c1:=(HF.o _ HN2.o.k).at_ j aG;have HD:E _:=kQ (bt t j) wr;rw[N]at HD;have H:E _:=h3;clear F N h3;generalize bt t j=K at c1 HD;go_wp2_with (go_at_call 99;refine yaj HD.o ?_;rintro e aA ⟨rfl,X⟩;obtain rfl:=X.symm);exact xgz
def wU(x:UInt8)(k:Nat):List UInt8:=if x∈onesL.take k then[x] else[]
theorem Gc{x k}(O:k<10)(h:onesL.getD k 0=x):wU x (k+1)=[x]:=by
 unfold wU;rw[hD];have af:k<onesL.length:=O;exact xit
theorem Du{x k}(O:k<10)(h:onesL.getD k 0≠x):wU x (k+1)=wU x k:=by
 unfold wU;have af:k<onesL.length:=O;exact xfn
abbrev onesS:ByteArray:={data:=#[43,45,42,47,40,41,44,59,58,61]}
theorem Ge:∀k:Fin 10,onesS.extract k.1 (k.1+1)=⟨#[onesL.getD k.1 0]⟩:=by decide+kernel
theorem Gf:∀k:Fin 10,∀h,((onesS[k.1]'h).toNat:Int)=bt onesL k.1:=by decide+kernel
theorem JX(k)(O:k<10)(h):((onesS[k]'h).toNat:Int)=bt onesL k:=Gf ⟨k,O⟩ h
theorem aV.qbv(h:Zp:=by
 have bU:E _:=λW k=>(HF.o W k).at_ i hi;generalize bt t i=bz at c0 a5 ae K bU
 go_upto_region 26 with (first
  |(go_at_call 115;refine yaj (a5.o _) ?_;rintro e aA ⟨rfl,X⟩;obtain rfl:=X.symm)
  |(go_at_call 99;refine yaj (ae.o _) ?_;rintro e aA ⟨rfl,X⟩;obtain rfl:=X.symm))
 clear c0 a5 ae HF;go_wp2_with fail;go_loopw [11] (λS W=>∃k:Nat,k<=10/\S=hA k/\E (NI w W (wU Q k) i (wU Q k))) (λS _=>10-(intOf S).toNat)
 case atStart=>exact⟨0,by omega,rfl,bm⟩
 case round=>
  obtain⟨k,O,rfl,aM⟩:=hrel;by_cases l:k<10
  ·have c1:=bU.o _ aM.o.k
   have b9:E (onesL.getD k 0=Q↔bt onesL k=bz):=by
    show _↔_;rw[K.o];unfold bt;constructor
    ·grind
    intro h;exact UInt8.toNat_inj.1 xaa
   have bN:∀h,_:=λh=>JX k l h;have an:onesS.extract k (k+1)=⟨#[onesL.getD k 0]⟩:=Ge ⟨k,l⟩;generalize bt _ k=y at b9 bN;go_upto_region 30 with fail;go_quiet (fail)
   have bO:E _:=aM.o.keep (eJ 0 0 _ nq);clear c1 aM;generalize wr.drewN _=bc at bO⊢;have ba:=bO.o.t.c0;have aP:=bO.o.t.fr 0;have y2:=bO.o.t.c2;have y3:=bO.o.t.fr 2;cases ap:(y==bz)
   ·have am:onesL.getD k 0≠Q:=λc=>by have:=b9.o.1 c;rw[this]at ap;simp at ap
    have H:E _:=bO.o;rw[<-Du l am]at H;clear bO am an ba aP y2 y3;go_wp2_with fail;grind[intOf]
   have am:=b9.o.2 (by simpa using ap);have H:E _:=(bO.o.sym [Q]).text [Q];rw[am]at an;have bx:=Gc l am;have HM:E _:=bx;have b2:E (eN [Q]=.string _):=rfl;generalize wU _ k=aZ at ba y2 bO;clear bO am bx;have aQ:IntKind.i64.wrap (k+1)=k+1:=by rw[IntKind.wrap_i64];omega
   have a8:(0:Int)<=k:=xaa;have bi:(k:Int)+1<=10:=xaa;go_wp2_with fail;go_roundw;exact⟨k+1,by omega,by go_num,hL HM.o H⟩;simp[intOf];omega
  obtain rfl:k=10:=xaa;have G:E _:=aM.o;rw[show wU _ _=kP _ from rfl]at G;generalize Z:kP _=v at G;have ab:E _:=Z;clear Z;obtain⟨_,br,ay,a0,al⟩:=G.o.r;obtain⟨_,bn,aX,bb,ak⟩:=G.o.t;have bZ:=al 0;have b5:=al 1;have b6:=al 2;have H:E _:=G.o.fin;have aQ:IntKind.i64.wrap (i+1)=i+1:=by rw[IntKind.wrap_i64];omega
  clear aM al ak G;go_wp2_with fail;change bodyPost _ _ _ _ _ (((wr.setCell _ (eN _)).setCell _ _).setCell _ (eN _));generalize ((wr.setCell _ _).setCell _ _).setCell _ _=aW at H⊢;obtain⟨⟨_,bG,f1,f2,_⟩,ai⟩:=H.o;refine yaz (v:=.tuple #[.agg #[eN v,hA i,eN v],hA ((i:Int)+1)]) (by simp[results,results97,go_sem,bG,f1,f2]) rfl ⟨?_,ai⟩;rw[ab.o,Int.natCast_add];rfl):Zp:=h
open aV in
theorem Dv(w g off n cap t)(f:TxS w g off n t)(i)(hi:i<n)(ad:n<=1000000)(bA:nD (bt t i)=false)(aK:dig (bt t i)=false):
  Calls prog 97 #[.slice (some ⟨g,off,none⟩) n cap,hA i] w (NxO w (nxT t i) (nxE t i)):=by
 have HF:E (∀W,Kept 0 0 w W->_):=λW k=>f.keep k;have aV:E (nxT t i=⟨kP (t.getD i 0),i,kP (t.getD i 0)⟩):=by show _=_;unfold nxT;simp_all
 have HE:E (nxE t i=i+1):=by show _=_;unfold nxE;simp_all
 have aJ:=f.lt;have a5:E (∀W,Calls _ _ _ W λe B=>e=.returned (.bool false)/\B=W):=λW=>by rw[<-bA];exact nT _ W
 have ae:E (∀W,Calls _ _ _ W λe B=>e=.returned (.bool false)/\B=W):=λW=>by rw[<-aK];exact kQ _ W
 have K:E (bt t i=((t.getD i 0).toNat:Int)):=rfl;unfold NxO;rw[aV.o,HE.o];clear aV HE f bA aK;generalize t.getD i 0=Q at K⊢;exact qbu
theorem Nr(w g off n cap t)(f:TxS w g off n t)(i)(hi:i<n)(ad:n<=1000000)(u:n<=cap):
  Calls prog 97 #[.slice (some ⟨g,off,none⟩) n cap,hA i] w (NxO w (nxT t i) (nxE t i)):=by
 cases bA:nD (bt t i)
 ·cases aK:dig (bt t i)
  ·exact Dv w g _ n _ t f i hi ad bA aK
  exact Gb w g _ n _ t f i hi ad u bA aK
 exact Dt w g _ n _ t f i hi ad u bA
end
section
open Go.RowKit Flt
variable{s x p y z:List UInt8}{l c t o:Tok}{n:Nat}{ts us:List Tok}{r:List (List UInt8)}
def iq:List UInt8:=[83,84,77,84,83]
def kR:List UInt8:=[80,65,82,65,77,83]
def gH:List UInt8:=[77,79,82,69,80,65,82,65,77,83]
def gL:List UInt8:=[69,88,80,82]
def fO:List UInt8:=[77,79,82,69,84,69,82,77,83]
def jT:List UInt8:=[84,69,82,77]
def fK:List UInt8:=[77,79,82,69,85,78,65,82,89]
def qk:List UInt8:=[67,65,76,76]
def nj:List UInt8:=[65,82,71,83]
def gX:List UInt8:=[77,79,82,69,65,82,71,83]
def ll:List UInt8:=[85,78,65,82,89]
def kH(s:List UInt8):List (List UInt8):=
 if s=[45] then[[45],ll] else
 if s=[110,97,109,101] then[[110,97,109,101],qk] else
 if s=[40] then[[40],gL,[41]] else
 if s=[101,120,112]\/s=[115,117,109] then[s,[40],gL,[41]] else
 if s=[109,97,120]\/s=[100,111,116] then[s,[40],gL,[44],gL,[41]] else
 if s=[115,101,108] then[s,[40],gL,[44],gL,[44],gL,[41]] else
 if s=[102,105,108,108]\/s=[112,105,99,107] then[s,[40],gL,[44],[105,110,116],[41]] else
 if s=[112,117,116] then[s,[40],gL,[44],[105,110,116],[44],[105,110,116],[41]] else
 if s=[103,114,97,100] then[s,[40],gL,[44],[110,97,109,101],[41]] else
 if s=[106,118,112] then[s,[40],gL,[44],[110,97,109,101],[44],gL,[41]] else
 if s=[100,101,99] then[[100,101,99]] else
 [[105,110,116]]
def gq(p s:List UInt8):List (List UInt8):=
 if p=iq then (if s=[105,110] then[[105,110],[110,97,109,101],[58],[105,110,116],[59],iq]else if s=[108,101,116] then[[108,101,116],[110,97,109,101],[61],gL,[59],iq]else if s=[114,101,112,101,97,116] then[[114,101,112,101,97,116],[105,110,116],[110,97,109,101],[61],gL,[59],iq]else if s=[100,101,102] then[[100,101,102],[110,97,109,101],[40],kR,[41],[61],gL,[59],iq]else if s=[111,117,116] then[[111,117,116],gL,[59],iq] else[]) else
 if p=kR then (if s=[110,97,109,101] then[[110,97,109,101],gH] else[]) else
 if p=gH then (if s=[44] then[[44],[110,97,109,101],gH] else[]) else
 if p=gL then ([jT,fO]) else
 if p=fO then (if s=[43]\/s=[45] then[s,jT,fO] else[]) else
 if p=jT then ([ll,fK]) else
 if p=fK then (if s=[42]\/s=[47] then[s,ll,fK] else[]) else
 if p=qk then (if s=[40] then[[40],nj,[41]] else[]) else
 if p=nj then (if s=[41] then[] else[gL,gX]) else
 if p=gX then (if s=[44] then[[44],gL,gX] else[]) else
 kH s
def ju(s:List UInt8):Bool:=decide (1<s.length)&&(decide (65<=bt s 0)&&decide (bt s 0<=90))
def wt(s:List UInt8):Nat:=if s=nj then 7 else if s=gL then 5 else if s=jT then 3 else 1
def wts:List (List UInt8)->Nat
 |[]=>0
 |s::r=>wt s+wts r
def AW:List (List UInt8)->Bool
 |[]=>false
 |p::_=>ju p
def mu(st:List (List UInt8)):Nat:=if AW st=true then wts st+1 else 0
theorem AX(s):1<=wt s:=by
 unfold wt;grind
def UL:List (List UInt8):=[[45],[110,97,109,101],[40],[101,120,112],[115,117,109],[109,97,120],[100,111,116],[115,101,108],[102,105,108,108],[112,105,99,107],[112,117,116],[103,114,97,100],[106,118,112],[100,101,99]]
def RL:List (List UInt8):=[[105,110],[108,101,116],[114,101,112,101,97,116],[100,101,102],[111,117,116],[110,97,109,101],[44],[43],[45],[42],[47],[40],[41]]
def PQ:List (List UInt8):=[iq,kR,gH,gL,fO,jT,fK,qk,nj,gX]
theorem wV(h:¬s∈UL):kH s=[[105,110,116]]:=by
 simp_all[UL,kH]
theorem Gg(s)(h:¬p∈PQ):gq p s=kH s:=by
 simp_all[PQ,gq]
def ruN(p:List UInt8):List (List UInt8):=if p=gL then[jT,fO]else if p=jT then[ll,fK]else if p=nj then[gL,gX] else[]
theorem Gh{p s}(h:p∈PQ)(au:¬s∈RL):gq p s=ruN p:=by
 simp only[PQ,RL,List.mem_cons,List.not_mem_nil,or_false,not_or]at h au;rcases h with rfl|rfl|rfl|rfl|rfl|rfl|rfl|rfl|rfl|rfl<;>simp[gq,au]<;>rfl
theorem vf(s r):AW (kH s++r)=false:=by
 by_cases h:s∈UL
 ·simp only[UL,List.mem_cons,List.not_mem_nil,or_false]at h;rcases h with rfl|rfl|rfl|rfl|rfl|rfl|rfl|rfl|rfl|rfl|rfl|rfl|rfl|rfl<;>rfl
 rw[wV h];rfl
theorem tv(p s r):gq p s=[]\/AW (gq p s++r)=false\/(p=gL/\gq p s=[jT,fO])\/(p=jT/\gq p s=[ll,fK])\/(p=nj/\gq p s=[gL,gX]):=by
 by_cases h:p∈PQ
 ·by_cases au:s∈RL
  ·simp only[PQ,RL,List.mem_cons,List.not_mem_nil,or_false]at h au;rcases h with rfl|rfl|rfl|rfl|rfl|rfl|rfl|rfl|rfl|rfl<;>rcases au with rfl|rfl|rfl|rfl|rfl|rfl|rfl|rfl|rfl|rfl|rfl|rfl|rfl<;>simp[gq,iq,kR,gH,gL,fO,jT,fK,qk,nj,gX,AW,ju,bt]
  rw[Gh h au];clear au;simp only[PQ,List.mem_cons,List.not_mem_nil,or_false]at h;rcases h with rfl|rfl|rfl|rfl|rfl|rfl|rfl|rfl|rfl|rfl<;>grind[ruN]
 grind[Gg,vf]
theorem B8(p s r)(h:ju p=true):mu (gq p s++r)<mu (p::r):=by
 have e:mu (p::r)=wt p+wts r+1:=by unfold mu AW;rw[hD h];rfl
 rw[e];rcases tv p s r with c|c|⟨rfl,c⟩|⟨rfl,c⟩|⟨rfl,c⟩
 ·rw[c,List.nil_append];grind[AX,mu]
 ·grind[mu]
 all_goals
  rw[c]
  unfold mu
  split
  ·show wt _+(wt _+wts r)+1<_
   have F:wt jT=3:=xab
   have N:wt fO=1:=xab
   have h3:wt gL=5:=xab
   have a6:wt ll=1:=xab
   have bF:wt fK=1:=xab
   have bp:wt gX=1:=xab
   have aj:wt nj=7:=xab
   omega
  ·omega
def gZ(s:List UInt8)(st:List (List UInt8)):List (List UInt8):=
 match st with
 |[]=>[]
 |p::r=>if _h:ju p=true then gZ s (gq p s++r)else p::r
termination_by mu st
decreasing_by exact B8 p s r _h
theorem m4(s):gZ s []=[]:=by rw[gZ]
theorem iO(h:ju p=true):gZ s (p::r)=gZ s (gq p s++r):=by rw[gZ,dif_pos h]
theorem lP(h:ju p=false):gZ s (p::r)=p::r:=by rw[gZ,dif_neg (by rw[h];simp)]
def JY:List UInt8:=[101,110,100]
def fA(n:Nat):List Tok->List (List UInt8)->Int
 |[],st=>if gZ JY st=[]then -1 else (n:Int)
 |t::ts,st=>match gZ t.sym st with
  |[]=>(t.pos:Int)
  |p::r=>if p=t.sym then fA n ts r else (t.pos:Int)
theorem vg(s):1<=(kH s).length/\(kH s).length<=8:=by
 by_cases h:s∈UL
 ·revert s;decide
 rw[wV h];decide
theorem yW(p s):(gq p s).length<=9:=by
 by_cases h:p∈PQ
 ·by_cases au:s∈RL
  ·exact(show ∀p∈PQ,∀s∈RL,(gq p s).length<=9 by decide) p h s au
  rw[Gh h au];revert p;decide
 rw[Gg s h];have:=vg s;omega
inductive Ex where
 |num (t:Tok)
 |name (t:Tok)
 |neg (o:Tok) (e:Ex)
 |bin (o:Tok) (a b:Ex)
 |call (t:Tok) (es:List Ex)
 |key1 (k:Tok) (e:Ex)
 |key2 (k:Tok) (a b:Ex)
 |key3 (k:Tok) (a b c:Ex)
 |keyN (k:Tok) (e:Ex) (n:Tok)
 |put (k:Tok) (e:Ex) (i n:Tok)
 |grad (k:Tok) (e:Ex) (x:Tok)
 |jvp (k:Tok) (e:Ex) (x:Tok) (d:Ex)
def yX:List UInt8:=[101,120,112]
def Gi:List UInt8:=[115,117,109]
def AY:List UInt8:=[109,97,120]
def JZ:List UInt8:=[100,111,116]
def yY:List UInt8:=[115,101,108]
def vh:List UInt8:=[102,105,108,108]
def ql:List UInt8:=[112,105,99,107]
def Dz:List UInt8:=[112,117,116]
def B9:List UInt8:=[103,114,97,100]
def J0:List UInt8:=[106,118,112]
inductive Pr:Nat->List Ex->List Tok->Prop
 |up01 {e:Ex}{ts:List Tok}:Pr 0 [e] ts->Pr 1 [e] ts
 |up12 {e:Ex}{ts:List Tok}:Pr 1 [e] ts->Pr 2 [e] ts
 |add {a b:Ex}{ts us:List Tok}{o:Tok}:Pr 2 [a] ts->(o.sym=[43]\/o.sym=[45])->Pr 1 [b] us->Pr 2 [.bin o a b] (ts++o::us)
 |mul {a b:Ex}{ts us:List Tok}{o:Tok}:Pr 1 [a] ts->(o.sym=[42]\/o.sym=[47])->Pr 0 [b] us->Pr 1 [.bin o a b] (ts++o::us)
 |neg {e:Ex}{ts:List Tok}{o:Tok}:o.sym=[45]->Pr 0 [e] ts->Pr 0 [.neg o e] (o::ts)
 |num {t:Tok}:(t.sym=iK\/t.sym=lk)->Pr 0 [.num t] [t]
 |name {t:Tok}:t.sym=gK->Pr 0 [.name t] [t]
 |par {e:Ex}{ts:List Tok}{l r:Tok}:l.sym=[40]->Pr 2 [e] ts->r.sym=[41]->Pr 0 [e] (l::(ts++[r]))
 |call0 {t l r:Tok}:t.sym=gK->l.sym=[40]->r.sym=[41]->Pr 0 [.call t []] [t,l,r]
 |call {es:List Ex}{ts:List Tok}{t l r:Tok}:t.sym=gK->l.sym=[40]->Pr 3 es ts->r.sym=[41]->Pr 0 [.call t es] (t::l::(ts++[r]))
 |arg1 {e:Ex}{ts:List Tok}:Pr 2 [e] ts->Pr 3 [e] ts
 |argM {es:List Ex}{e:Ex}{ts us:List Tok}{c:Tok}:Pr 3 es ts->c.sym=[44]->Pr 2 [e] us->Pr 3 (es++[e]) (ts++c::us)
 |key1 {e:Ex}{ts:List Tok}{k l r:Tok}:(k.sym=yX\/k.sym=Gi)->l.sym=[40]->Pr 2 [e] ts->r.sym=[41]->Pr 0 [.key1 k e] (k::l::(ts++[r]))
 |key2 {a b:Ex}{ts us:List Tok}{k l c r:Tok}:(k.sym=AY\/k.sym=JZ)->l.sym=[40]->Pr 2 [a] ts->c.sym=[44]->Pr 2 [b] us->r.sym=[41]->Pr 0 [.key2 k a b] (k::l::(ts++c::(us++[r])))
 |key3 {a b d:Ex}{ts us ws:List Tok}{k l c c2 r:Tok}:k.sym=yY->l.sym=[40]->Pr 2 [a] ts->c.sym=[44]->Pr 2 [b] us->c2.sym=[44]->Pr 2 [d] ws->r.sym=[41]->Pr 0 [.key3 k a b d] (k::l::(ts++c::(us++c2::(ws++[r]))))
 |keyN {e:Ex}{ts:List Tok}{k l c n r:Tok}:(k.sym=vh\/k.sym=ql)->l.sym=[40]->Pr 2 [e] ts->c.sym=[44]->n.sym=iK->r.sym=[41]->Pr 0 [.keyN k e n] (k::l::(ts++[c,n,r]))
 |put {e:Ex}{ts:List Tok}{k l c i c2 n r:Tok}:k.sym=Dz->l.sym=[40]->Pr 2 [e] ts->c.sym=[44]->i.sym=iK->c2.sym=[44]->n.sym=iK->r.sym=[41]->Pr 0 [.put k e i n] (k::l::(ts++[c,i,c2,n,r]))
 |grad {e:Ex}{ts:List Tok}{k l c x r:Tok}:k.sym=B9->l.sym=[40]->Pr 2 [e] ts->c.sym=[44]->x.sym=gK->r.sym=[41]->Pr 0 [.grad k e x] (k::l::(ts++[c,x,r]))
 |jvp {e d:Ex}{ts us:List Tok}{k l c x c2 r:Tok}:k.sym=J0->l.sym=[40]->Pr 2 [e] ts->c.sym=[44]->x.sym=gK->c2.sym=[44]->Pr 2 [d] us->r.sym=[41]->Pr 0 [.jvp k e x d] (k::l::(ts++c::x::c2::(us++[r])))
structure OpS where
 i:Nat
 d:Int
 at_:Int
 b:Bool
def iV(s:List UInt8):Bool:=s==gK||s==iK||s==lk||s==[41]
def iW(x y:List UInt8)(q:OpS)(t:Tok):OpS:=
 if t.sym=[40] then⟨q.i+1,q.d+1,q.at_,iV t.sym⟩
 else if t.sym=[41] then⟨q.i+1,q.d-1,q.at_,iV t.sym⟩
 else⟨q.i+1,q.d,if q.d=0/\q.b=true/\(t.sym=x\/t.sym=y)then (q.i:Int)else q.at_,iV t.sym⟩
def jz(x y:List UInt8)(q:OpS)(ts:List Tok):OpS:=ts.foldl (iW x y) q
theorem lH(x y q a b):jz x y q (a++b)=jz x y (jz x y q a) b:=by unfold jz;grind
theorem gN(x y q t b):jz x y q (t::b)=jz x y (iW x y q t) b:=rfl
theorem qX(x y q):jz x y q []=q:=rfl
theorem neL(h:s=x)(an:x≠z:=by decide):s≠z:=h ▸ an
theorem neO(h:s=x\/s=y)(an:x≠z:=by decide)(bN:y≠z:=by decide):s≠z:=by grind
theorem wW{q}(h:t.sym=[40]):iW x y q t=⟨q.i+1,q.d+1,q.at_,false⟩:=by unfold iW;rw[hD h,h];rfl
theorem wX{q}(h:t.sym=[41]):iW x y q t=⟨q.i+1,q.d-1,q.at_,true⟩:=by unfold iW;rw[hC (neL h),hD h,h];rfl
theorem nY{q}(F:t.sym≠[40])(N:t.sym≠[41])(h3:¬(q.d=0/\q.b=true/\(t.sym=x\/t.sym=y))):iW x y q t=⟨q.i+1,q.d,q.at_,iV t.sym⟩:=by grind[iW]
theorem AZ{q}(F:t.sym≠[40])(N:t.sym≠[41])(h3:q.d=0/\q.b=true/\(t.sym=x\/t.sym=y)):iW x y q t=⟨q.i+1,q.d,q.i,iV t.sym⟩:=by grind[iW]
def cm(d:Int):List Tok->Option Int
 |[]=>some d
 |t::ts=>if t.sym=[40]then cm (d+1) ts else if t.sym=[41]then cm (d-1) ts else if t.sym=[44]/\d=0 then none else cm d ts
theorem A0:∀(a b:List Tok) (d e:Int),cm d a=some e->cm d (a++b)=cm e b
 |[],_,_,_,h=>by cases h;rfl
 |t::a,b,d,e,h=>by grind[cm,A0 a b]
def dpB:Nat->List Tok->Option Nat
 |n,[]=>some n
 |n,t::ts=>if t.sym=[40]then dpB (n+1) ts else if t.sym=[41]then (if n=0 then none else dpB (n-1) ts)else dpB n ts
def rK(b:Bool)(ts:List Tok):Bool:=ts.foldl (λ_ t=>iV t.sym) b
theorem A1:∀(a b:List Tok) (n m:Nat),dpB n a=some m->dpB n (a++b)=dpB m b
 |[],_,_,_,h=>by cases h;rfl
 |t::a,b,n,m,h=>by grind[dpB,A1 a b]
theorem MO:∀(ts:List Tok) (n m:Nat) (d:Int),d=n+1->dpB n ts=some m->cm d ts=some ((m:Int)+1)
 |[],_,_,_,aK,h=>by cases h;rw[aK];rfl
 |t::a,n,m,d,aK,h=>by grind[dpB,cm,MO a]
theorem qm{x y}:∀(ts:List Tok) (n m i:Nat) (d a:Int) (b:Bool),d=n+1->dpB n ts=some m->jz x y ⟨i,d,a,b⟩ ts=⟨i+ts.length,m+1,a,rK b ts⟩
 |[],_,_,_,_,_,_,aK,h=>by cases h;rw[aK];rfl
 |t::ts,n,m,i,d,a,b,aK,h=>by
  have e:i+(ts.length+1)=i+1+ts.length:=xaa
  rw[gN,yaq,e]
  unfold iW
  by_cases F:t.sym=[40]
  ·rw[dpB,hD F]at h
   rw[hD F]
   exact qm _ _ _ _ _ _ _ (by simp only;omega) h
  ·by_cases N:t.sym=[41]
   ·rw[dpB,hC F,hD N]at h
    rw[hC F,hD N]
    exact qm _ (n-1) _ _ _ _ _ (by grind) (by grind)
   ·rw[dpB,hC F,hC N]at h
    rw[hC F,hC N,hC (by grind)]
    exact qm _ _ _ _ _ _ _ aK h
theorem yZ{x y}:∀(ts:List Tok) (n m i:Nat) (d a:Int) (b:Bool),d=n->dpB n ts=some m->∃ag,jz x y ⟨i,d,a,b⟩ ts=⟨i+ts.length,m,ag,rK b ts⟩
 |[],_,_,_,_,a,_,aK,h=>by cases h;rw[aK];exact⟨a,rfl⟩
 |t::ts,n,m,i,d,a,b,aK,h=>by
  have e:i+(ts.length+1)=i+1+ts.length:=xaa
  rw[gN,yaq,e]
  unfold iW
  by_cases F:t.sym=[40]
  ·rw[dpB,hD F]at h
   rw[hD F]
   exact yZ _ _ _ _ _ _ _ (by simp only;omega) h
  ·by_cases N:t.sym=[41]
   ·rw[dpB,hC F,hD N]at h
    rw[hC F,hD N]
    exact yZ _ (n-1) _ _ _ _ _ (by grind) (by grind)
   ·rw[dpB,hC F,hC N]at h
    rw[hC F,hC N]
    exact yZ _ _ _ _ _ _ _ aK h
def Bl(ts:List Tok):Prop:=∀n,dpB n ts=some n
theorem tz:Bl []:=λ_=>rfl
theorem m6{a b}(ar:Bl a)(hb:Bl b):Bl (a++b):=λn=>(A1 _ _ _ _ (ar n)).trans (hb n)
theorem ir{b}(F:t.sym≠[40])(N:t.sym≠[41])(hb:Bl b):Bl (t::b):=λn=>by rw[dpB,hC F,hC N];exact hb n
structure BxT(n:Nat)(ts:List Tok):Prop where
 bl:Bl ts
 la:∀b,rK b ts=true
 cf:n<=2->cm 0 ts=some 0
 un:n=0->∀(x y:List UInt8) (i:Nat) (a:Int),jz x y ⟨i,0,a,false⟩ ts=⟨i+ts.length,0,a,true⟩
 te:n=1->∀(i:Nat) (a:Int),jz [43] [45] ⟨i,0,a,false⟩ ts=⟨i+ts.length,0,a,true⟩
theorem Gj(F:t.sym≠[40])(N:t.sym≠[41])(h3:t.sym≠[44])(a6:iV t.sym=true):BxT 0 [t]:=
 ⟨ir F N tz,λ_=>a6,λ_=>by grind[cm],λ_ x y i a=>by rw[gN,nY F N (λc=>by grind),a6];rfl,nofun⟩
theorem Gk{r}(af:l.sym=[40])(am:Bl ts)(aD:r.sym=[41]):BxT 0 (l::(ts++[r])):=by
 have e:iV r.sym=true:=by rw[aD];decide
 refine⟨λn=>?_,λb=>?_,λ_=>?_,λ_ x y i a=>?_,nofun⟩
 ·rw[dpB,hD af,A1 _ _ _ _ (am _)];grind[dpB]
 ·rw[rK,List.foldl_cons,List.foldl_append];exact e
 ·have c:=MO _ 0 0 (0+1) rfl (am 0);rw[cm,hD af,A0 _ _ _ _ c];grind[cm]
 rw[gN,wW af,lH];show jz x y (jz x y ⟨i+1,0+1,a,false⟩ ts) [r]=_;rw[qm _ 0 0 _ (0+1) _ _ rfl (am 0),gN,wX aD,qX];simp;omega
theorem m7{k r}(F:k.sym≠[40])(N:k.sym≠[41])(h3:k.sym≠[44])(af:l.sym=[40])(am:Bl ts)(aD:r.sym=[41]):BxT 0 (k::l::(ts++[r])):=by
 have h:=Gk af am aD;refine⟨ir F N h.bl,λb=>h.la (iV k.sym),λ_=>?_,λ_ x y i a=>?_,nofun⟩
 ·rw[cm,hC F,hC N,hC (by grind)];exact h.cf xab
 rw[gN,nY F N (λc=>by grind),gN,wW af,lH];show jz x y (jz x y ⟨i+1+1,0+1,a,false⟩ ts) [r]=_;rw[qm _ 0 0 _ (0+1) _ _ rfl (am 0),gN,wX aD,qX];simp;omega
theorem Gl(F:BxT n ts)(N:Bl us/\(∀b,rK b us=true)/\cm 0 us=some 0)(ad:n<=2)(a1:o.sym≠[40])(U:o.sym≠[41])(a3:o.sym≠[44]):Bl (ts++o::us)/\(∀b,rK b (ts++o::us)=true)/\cm 0 (ts++o::us)=some 0:=
 ⟨m6 F.bl (ir a1 U N.1),λb=>by rw[rK,List.foldl_append];exact N.2.1 _,by rw[A0 _ _ _ _ (F.cf ad),cm,hC a1,hC U,hC (by grind)];exact N.2.2⟩
theorem qn{es}(h:Pr n es ts):BxT n ts:=by
 induction h with
 |up01 _ G=>exact⟨G.bl,G.la,λ_=>G.cf xab,nofun,λ_=>G.un rfl _ _⟩
 |up12 _ G=>exact⟨G.bl,G.la,λ_=>G.cf xab,nofun,nofun⟩
 |arg1 _ G=>exact⟨G.bl,G.la,λh=>absurd h xab,nofun,nofun⟩
 |argM _ ah _ m g=>exact⟨m6 m.bl (ir (neL ah) (neL ah) g.bl),λb=>by rw[rK,List.foldl_append];exact g.la _,λh=>absurd h xab,nofun,nofun⟩
 |add _ ho _ m g=>
  obtain⟨F,N,h3⟩:=Gl m ⟨g.bl,g.la,g.cf xab⟩ xab (neO ho) (neO ho) (neO ho);exact⟨F,N,λ_=>h3,nofun,nofun⟩
 |@mul _ _ ts us o _ ho _ m g=>
  obtain⟨F,N,h3⟩:=Gl m ⟨g.bl,g.la,g.cf xab⟩ xab (neO ho) (neO ho) (neO ho);refine⟨F,N,λ_=>h3,nofun,λ_ i a=>?_⟩;have u:¬(o.sym=[43]\/o.sym=[45]):=by grind
  have ab:iV o.sym=false:=by rcases ho with c|c<;>rw[c]<;>decide
  rw[lH,m.te rfl,gN,nY (neO ho) (neO ho) (λc=>u c.2.2),ab,g.un rfl];simp;omega
 |@neg e ts o ho _ G=>
  have ab:iV o.sym=false:=by rw[ho];decide
  refine⟨ir (neL ho) (neL ho) G.bl,λb=>G.la _,λ_=>by rw[cm,hC (neL ho),hC (neL ho),hC (by grind)];exact G.cf xab,λ_ x y i a=>?_,nofun⟩;rw[gN,nY (neL ho) (neL ho) (λc=>by grind),ab,G.un rfl];simp;omega
 |num h=>exact Gj (neO h) (neO h) (neO h) (by rcases h with c|c<;>rw[c]<;>decide)
 |name h=>exact Gj (neL h) (neL h) (neL h) (by rw[h];decide)
 |par af _ aD G=>exact Gk af G.bl aD
 |call0 h af aD=>exact m7 (neL h) (neL h) (neL h) af tz aD
 |call h af _ aD G=>exact m7 (neL h) (neL h) (neL h) af G.bl aD
 |key1 h af _ aD G=>exact m7 (neO h) (neO h) (neO h) af G.bl aD
 |key2 h af _ ah _ aD ch bO=>simpa using m7 (neO h) (neO h) (neO h) af (m6 ch.bl (ir (neL ah) (neL ah) bO.bl)) aD
 |key3 h af _ ah _ aK _ aD ch bO d6=>simpa using m7 (neL h) (neL h) (neL h) af (m6 ch.bl (ir (neL ah) (neL ah) (m6 bO.bl (ir (neL aK) (neL aK) d6.bl)))) aD
 |keyN h af _ ah ad aD G=>simpa using m7 (neO h) (neO h) (neO h) af (m6 G.bl (ir (neL ah) (neL ah) (ir (neL ad) (neL ad) tz))) aD
 |put h af _ ah hi aK ad aD G=>simpa using m7 (neL h) (neL h) (neL h) af (m6 G.bl (ir (neL ah) (neL ah) (ir (neL hi) (neL hi) (ir (neL aK) (neL aK) (ir (neL ad) (neL ad) tz))))) aD
 |grad h af _ ah ad aD G=>simpa using m7 (neL h) (neL h) (neL h) af (m6 G.bl (ir (neL ah) (neL ah) (ir (neL ad) (neL ad) tz))) aD
 |jvp h af _ ah ad aK _ aD ch bO=>simpa using m7 (neL h) (neL h) (neL h) af (m6 ch.bl (ir (neL ah) (neL ah) (ir (neL ad) (neL ad) (ir (neL aK) (neL aK) bO.bl)))) aD
def opM(x y:List UInt8)(ts:List Tok):Int:=(jz x y ⟨0,0,-1,false⟩ ts).at_
theorem mi{e}(h:Pr 0 [e] ts):opM x y ts=-1:=by
 unfold opM;rw[(qn h).un rfl]
theorem Gm{e}(h:Pr 1 [e] ts):opM [43] [45] ts=-1:=by
 unfold opM;rw[(qn h).te rfl]
theorem Ns{a b}(F:Pr 2 [a] ts)(ho:o.sym=[43]\/o.sym=[45])(N:Pr 1 [b] us):opM [43] [45] (ts++o::us)=(ts.length:Int):=by
 unfold opM;obtain⟨ag,e⟩:=yZ (x:=[43]) (y:=[45]) _ 0 0 0 0 (-1) false rfl ((qn F).bl 0);rw[lH,e,(qn F).la,gN,AZ (by grind) (by grind) ⟨rfl,rfl,ho⟩,show iV _=false by rcases ho with c|c<;>rw[c]<;>decide];exact(congrArg _ ((qn N).te rfl _ _)).trans xac
theorem Nt{a b}(F:Pr 1 [a] ts)(ho:o.sym=[42]\/o.sym=[47])(N:Pr 0 [b] us):opM [42] [47] (ts++o::us)=(ts.length:Int):=by
 unfold opM;obtain⟨ag,e⟩:=yZ (x:=[42]) (y:=[47]) _ 0 0 0 0 (-1) false rfl ((qn F).bl 0);rw[lH,e,(qn F).la,gN,AZ (by grind) (by grind) ⟨rfl,rfl,ho⟩,show iV _=false by rcases ho with c|c<;>rw[c]<;>decide];exact(congrArg _ ((qn N).un rfl _ _ _ _)).trans xac
theorem jw{es}(h:Pr n es ts):n<=2->cm 0 ts=some 0:=(qn h).cf
structure SpS where
 d:Int
 cur:List Tok
 ou:List (List Tok)
def it(q:SpS)(t:Tok):SpS:=
 if t.sym=[40] then⟨q.d+1,q.cur++[t],q.ou⟩
 else if t.sym=[41] then⟨q.d-1,q.cur++[t],q.ou⟩
 else if t.sym=[44]/\q.d=0 then⟨0,[],q.ou++[q.cur]⟩
 else⟨q.d,q.cur++[t],q.ou⟩
def lQ(q:SpS)(ts:List Tok):SpS:=ts.foldl it q
theorem oS(q a b):lQ q (a++b)=lQ (lQ q a) b:=by unfold lQ;grind
theorem kJ(q t b):lQ q (t::b)=lQ (it q t) b:=rfl
theorem qo:∀(ts:List Tok) (d e:Int) (av:List Tok) (out:List (List Tok)),cm d ts=some e->lQ ⟨d,av,out⟩ ts=⟨e,av++ts,out⟩
 |[],d,e,av,out,h=>by cases h;show(⟨d,av,out⟩:SpS)=_;grind
 |t::ts,d,e,av,out,h=>by
  rw[kJ]
  by_cases F:t.sym=[40]
  ·rw[cm,hD F]at h
   rw[show it _ t=⟨_,av++[t],out⟩ by unfold it;rw[hD F],qo _ _ _ _ _ h,List.append_assoc];rfl
  ·by_cases N:t.sym=[41]
   ·rw[cm,hC F,hD N]at h
    rw[show it _ t=⟨_,av++[t],out⟩ by unfold it;rw[hC F,hD N],qo _ _ _ _ _ h,List.append_assoc];rfl
   ·by_cases h3:t.sym=[44]/\d=0
    ·grind[cm]
    ·have h':cm d ts=some e:=by grind[cm]
     rw[show it _ t=⟨d,av++[t],out⟩ by grind[it],qo _ _ _ _ _ h',List.append_assoc];rfl
theorem tC(h:c.sym=[44])(av out):it ⟨0,av,out⟩ c=⟨0,[],out++[av]⟩:=by
 grind[it]
def fQ(ts:List Tok):List (List Tok):=if ts=[] then[]else (lQ ⟨0,[],[]⟩ ts).ou++[(lQ ⟨0,[],[]⟩ ts).cur]
theorem tD(F:t.sym≠[40])(N:t.sym≠[41])(h3:t.sym≠[44]):cm 0 [t]=some 0:=by grind[cm]
theorem MP{es}(h:Pr n es ts):ts≠[]:=by
 induction h<;>simp_all<;>grind
theorem Nu(bL:ts≠[])(h:cm 0 ts=some 0):fQ ts=[ts]:=by
 simp_all[fQ,qo]
theorem A2(h:cm 0 ts=some 0)(ah:c.sym=[44])(N:cm 0 us=some 0):fQ (ts++c::us)=[ts,us]:=by
 simp_all[fQ,oS,qo,kJ,tC]
theorem A3{v c2}(h:cm 0 ts=some 0)(ah:c.sym=[44])(N:cm 0 us=some 0)(Z:c2.sym=[44])(h3:cm 0 v=some 0):fQ (ts++c::(us++c2::v))=[ts,us,v]:=by
 simp_all[fQ,oS,qo,kJ,tC]
theorem A5{es}(h:Pr n es ts):n=3->∃(d:List (List Tok)) (l:List Tok),lQ ⟨0,[],[]⟩ ts=⟨0,l,d⟩/\(d++[l]).length=es.length/\∀i,i<es.length->Pr 2 [es.getD i (.num hG)] ((d++[l]).getD i []):=by
 induction h with
 |@arg1 e ts F _=>
  intro _;refine⟨[],ts,?_,rfl,λi hi=>?_⟩
  ·rw[qo _ 0 0 _ _ (jw F xab)];rfl
  simp_all
 |@argM es e ts us c F ah N G _=>
  intro _;obtain⟨d,l,ae,a9,ai⟩:=G rfl;refine⟨_,us,?_,by simp at a9⊢;omega,λi hi=>?_⟩
  ·rw[oS,ae,kJ,tC ah,qo _ 0 0 _ _ (jw N xab)];rfl
  grind
 |_=>omega
theorem A6{es}(h:Pr 3 es ts):(fQ ts).length=es.length/\∀i,i<es.length->Pr 2 [es.getD i (.num hG)] ((fQ ts).getD i []):=by
 grind[A5,fQ,MP]
structure TxA(w:World)(a:Option Addr)(n:Nat)(t:List UInt8):Prop where
 len:t.length=n
 at_:0<n->∃g off,a=some ⟨g,off,none⟩/\TxS w g off n t
theorem TxA.keep{w B a t}(h:TxA w a n t)(k:Kept 0 0 w B):TxA B a n t:=
 ⟨h.len,λad=>by obtain⟨g,off,e,F⟩:=h.at_ ad;exact⟨g,_,e,F.keep k⟩⟩
theorem Nv(t i j):(nR t i j).length<=t.length:=by
 grind[nR]
theorem Gn(t i)(h:i<t.length):(nxT t i).text.length<=t.length:=by
 grind[nxT,Nv,kP]
theorem y7(t i):∀C∈kr t i,C.text.length<=t.length:=by
 intro C am;rw[kr]at am;split at am
 ·rename_i h;split at am
  ·grind[Gn]
  rcases List.mem_cons.1 am with c|c
  ·subst c;exact Gn t i h
  exact y7 t _ _ c
 cases am
termination_by t.length-i
decreasing_by
 grind[tu,pE]
theorem J1(t j):((jk t).getD j hG).text.length<=t.length:=by
 by_cases h:j<(jk t).length
 ·refine y7 t (skM t 0) _ ?_;exact xhp
 rw[yai,List.getElem?_eq_none xaa];exact yae
end
section
open Go.ChangeShapes Go.WideShapes Go.ChangeAt Go.RowKit Flt
theorem DA:prog.cellsOf 5=1:=by kernel_rfl
theorem y8:laidOutB prog=true:=by kernel_rfl
theorem tE{Y enc w base p g a n cap}{d:DataW Y}{ps}
  (h:DataW.Trod enc prog w base p g 22 (.slice a n cap) d ps):n<=cap/\∃xs,YS w a n xs:=by
 obtain⟨u,a5⟩:=h;rcases Deep.open_slice1 underlying22 DA a5 with⟨bY,_⟩|⟨x,l,c,m,q,V,D,s,bY,_,af,_,am,_,bO⟩
 ·simp[Value.cells]at bY;obtain⟨rfl,rfl,rfl⟩:=bY;exact⟨yad,[],rfl,by simp,.inl rfl⟩
 simp[Value.cells]at bY;obtain⟨rfl,rfl,rfl⟩:=bY;refine⟨af,?_⟩;have z:n<=m:=by grind
 have aB:∀i,i<n->∃b:Int,w.cell? _=some _/\0<=b/\b<256:=λi hi=>by
  obtain⟨F,N⟩:=bO i xaa
  obtain⟨b,e,X⟩:=DataW.trod_int underlying5 N
  simp at e
  have hb:0<=b/\b<256:=by
   have:=X.2
   simp[Lit.wf,IntKind.min,IntKind.max,IntKind.signed,IntKind.bits]at this
   omega
  exact⟨b,by rw[F,e],hb.1,hb.2⟩
 obtain⟨f,o⟩:=Deep.choose_lt aB;refine⟨(List.range n).map f,by simp,?_,?_⟩
 ·simp_all
 rcases Nat.eq_zero_or_pos n with al|al
 ·exact .inl al
 obtain⟨b,off,r⟩:=x;have j:r=none:=by simpa[Addr.add] using World.cell?_spot (o 0 al).1
 subst j
 have N:∀k,k<n->w.cell? ⟨b,off+k,_⟩=some (.int _ (((List.range n).map f).getD k 0)):=λk O=>by
  have F:=(o k O).1
  rw[show((List.range n).map f).getD k 0=f k by grind]
  by_cases ar:k=0
  ·subst ar;simpa[Addr.add] using F
  ·simpa[Addr.add,ar] using F
 have hb:=World.block_lt_of_cell? (h:=N 0 al);grind
