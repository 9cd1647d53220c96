import Derived.Test.YtdpbpcnldpkljaaGreatP04
namespace Go.Proofs.Z
open Tryz
set_option maxRecDepth 1000000
set_option maxHeartbeats 0
section
open Go.RowKit Flt
attribute [local go_sem] eD eB eA
structure YS (w:World)(a:Option Addr)(n:Nat)(xs:List Int):Prop where
 len:xs.length=n
 lt:∀x∈xs,0<=x/\x<256
 at_:n=0\/∃g off,a=some ⟨g,off,none⟩/\g<w.heap.size/\∀k,k<n->w.cell? ⟨g,off+k,none⟩=some (.int .u8 (xs.getD k 0))
theorem YS.keep {w w':World}{a:Option Addr}{n:Nat}{xs:List Int}(f:YS w a n xs)(k:Kept 0 0 w w'):YS w' a n xs:=
 ⟨f.len,f.lt,by
  rcases f.at_ with h0|⟨g,off,e,h3,h4⟩
  ·exact .inl h0
  ·exact .inr ⟨g,off,e,yaj h3 k.size,λj hj=>by rw[k.cell (p:=⟨g,off+j,none⟩) h3 xaa];exact h4 j hj⟩⟩
end
section
open Go.RowKit Flt
variable {xs:List Int} {t:List UInt8} {k i j:Nat} {p dg:Int}
def dig (c:Int):Bool:=decide (48<=c)&&decide (c<=57)
theorem px {c:Int}(h:dig c=true):48<=c/\c<=57:=by simp[dig] at h;exact h
theorem rR:dig 46=false:=xab
structure GoodAt (xs:List Int)(p:Int):Prop where
 pos:0<xs.length
 point:∀i,i<xs.length->(xs.getD i 0=46↔(i:Int)=p)
 digit:∀i,i<xs.length->xs.getD i 0≠46->dig (xs.getD i 0)=true
 place:p=-1\/(0<p/\p+1<xs.length)
def rS (xs:List Int):Prop:=∃p,GoodAt xs p
def nst (s:Int×Int×Bool)(c:Int):Int×Int×Bool:=if c=46 then (s.1,s.2.1,true) else (s.1*10+(c-48),if s.2.2 then s.2.1*10 else s.2.1,s.2.2)
def nds (xs:List Int):Int×Int×Bool:=xs.foldl nst (0,1,false)
theorem qy (xs:List Int)(k:Nat)(hk:k<xs.length):xs.take (k+1)=xs.take k++[xs.getD k 0]:=by
 rw[yat hk,yah,yal hk];rfl
theorem mU (xs:List Int)(k:Nat)(hk:k<xs.length):nds (xs.take (k+1))=nst (nds (xs.take k)) (xs.getD k 0):=by
 rw[qy xs k hk,nds,List.foldl_append];rfl
theorem lD (q:Int->Bool)(xs:List Int)(k:Nat)(hk:k<xs.length):(xs.take (k+1)).countP q=(xs.take k).countP q+if q (xs.getD k 0) then 1 else 0:=by
 rw[qy xs k hk,List.countP_append]
 simp[List.countP_cons]
theorem qz (xs:List Int)(h:∀i,i<xs.length->xs.getD i 0≠46->dig (xs.getD i 0)=true):∀k,k<=xs.length->
  0<=(nds (xs.take k)).1/\(nds (xs.take k)).1<10 ^ k/\1<=(nds (xs.take k)).2.1/\(nds (xs.take k)).2.1<=10 ^ k
 |0,_=>by simp[nds]
 |k+1,hk=>by
  obtain⟨h1,h2,h3,h4⟩:=qz xs h k xaa
  have hp:(10:Int) ^ (k+1)=10 ^ k*10:=by rw[Int.pow_succ]
  rw[mU xs k xaa,hp]
  unfold nst
  by_cases c:xs.getD k 0=46
  ·rw[if_pos c]
   exact⟨h1,by simp only;omega,h3,by simp only;omega⟩
  ·rw[if_neg c]
   have:=px (h k xaa c)
   refine⟨by simp only;omega,by simp only;omega,?_,?_⟩
   ·simp only;split<;>omega
   ·simp only;split<;>omega
theorem Hz (h:k<=16):(10:Int) ^ k<=10000000000000000:=by
 have:(10:Int) ^ k<=10 ^ 16:=by
  have e:((10 ^ k:Nat):Int)<=((10 ^ 16:Nat):Int):=Int.ofNat_le.2 (Nat.pow_le_pow_right xab h)
  simpa using e
 simpa using this
theorem qA (xs:List Int)(h:∀i,i<xs.length->xs.getD i 0≠46->dig (xs.getD i 0)=true)(k:Nat)(hk:k<=xs.length)(h16:k<=16):
  0<=(nds (xs.take k)).1/\(nds (xs.take k)).1<=10000000000000000/\1<=(nds (xs.take k)).2.1/\(nds (xs.take k)).2.1<=10000000000000000:=by
 obtain⟨h1,h2,h3,h4⟩:=qz xs h k hk
 have:=Hz h16
 exact⟨h1,by omega,h3,by omega⟩
theorem tA (xs:List Int)(h:∀i,i<xs.length->xs.getD i 0≠46->dig (xs.getD i 0)=true):∀k,k<=xs.length->
  (xs.take k).countP dig+(xs.take k).countP (· ==46)=k
 |0,_=>by simp
 |k+1,hk=>by
  have IH:=tA xs h k xaa
  rw[lD _ xs k xaa,lD _ xs k xaa]
  by_cases c:xs.getD k 0=46
  ·rw[c,rR];simp;omega
  ·rw[h k xaa c]
   have:(xs.getD k 0==46)=false:=yam c
   rw[this];simp;omega
theorem GoodAt.points (h:GoodAt xs p):∀k,k<=xs.length->(xs.take k).countP (· ==46)=if 0<=p/\p<k then 1 else 0
 |0,_=>by rw[if_neg xaa];simp
 |k+1,hk=>by
  rw[lD _ xs k xaa,h.points k xaa]
  by_cases c:xs.getD k 0=46
  ·have:=(h.point k xaa).1 c
   rw[c,if_neg (show ¬(0<=p/\p<(k:Int)) by omega),if_pos (show 0<=p/\p<((k+1:Nat):Int) by omega)];simp
  ·have:¬(k:Int)=p:=λe=>c ((h.point k xaa).2 e)
   have e:(xs.getD k 0==46)=false:=yam c
   rw[e]
   by_cases q:0<=p/\p<k
   ·rw[if_pos q,if_pos (show 0<=p/\p<((k+1:Nat):Int) by omega)];simp
   ·rw[if_neg q,if_neg (show ¬(0<=p/\p<((k+1:Nat):Int)) by omega)];simp
theorem GoodAt.short (h:GoodAt xs p)(hd:xs.countP dig<=15):xs.length<=16:=by
 have h1:=tA xs h.digit xs.length yad
 have h2:=h.points xs.length yad
 rw[yao yad] at h1 h2
 rw[h2] at h1
 split at h1<;>omega
theorem GoodAt.behind (h:GoodAt xs p):∀k,k<=xs.length->(nds (xs.take k)).2.2=decide (0<=p/\p<k)
 |0,_=>by rw[yax xaa];rfl
 |k+1,hk=>by
  have IH:=h.behind k xaa
  rw[mU xs k xaa]
  unfold nst
  by_cases c:xs.getD k 0=46
  ·have:=(h.point k xaa).1 c
   rw[if_pos c]
   exact(decide_eq_true xaa).symm
  ·have:¬(k:Int)=p:=λe=>c ((h.point k xaa).2 e)
   rw[if_neg c]
   simp only
   rw[IH]
   exact decide_eq_decide.2 xaa
def RN (xs:List Int)(f:Nat)(c:Int):Prop:=
 (¬rS xs/\f=0/\c=2)\/(rS xs/\15<xs.countP dig/\f=0/\c=5)\/
 (rS xs/\xs.countP dig<=15/\f<18446744073709551616/\fb f=fb (cop .quo (floatOfInt .f64 (nds xs).1) (floatOfInt .f64 (nds xs).2.1))/\c=0)
structure Mid (xs:List Int)(k:Nat)(p:Int)(dg:Int):Prop where
 count:dg=((xs.take k).countP dig:Nat)
 point:∀i,i<k->(xs.getD i 0=46↔(i:Int)=p)
 digit:∀i,i<k->xs.getD i 0≠46->dig (xs.getD i 0)=true
 place:p=-1\/(0<=p/\p<k)
theorem xG (xs:List Int):Mid xs 0 (-1) 0:=⟨rfl,λi hi=>by omega,λi hi=>by omega,.inl rfl⟩
theorem Mid.digitStep (h:Mid xs k p dg)(hk:k<xs.length)(hd:dig (xs.getD k 0)=true):Mid xs (k+1) p (dg+1):=by
 have hn:xs.getD k 0≠46:=λe=>by rw[e] at hd;cases hd
 refine⟨?_,?_,?_,?_⟩
 ·rw[lD _ xs k hk,hd,h.count];simp
 ·intro i hi
  by_cases e:i=k
  ·subst e
   refine⟨λc=>absurd c hn,λc=>?_⟩
   rcases h.place with q|q<;>omega
  ·exact h.point i xaa
 ·intro i hi c
  by_cases e:i=k
  ·subst e;exact hd
  ·exact h.digit i xaa c
 ·rcases h.place with q|q
  ·exact .inl q
  ·exact .inr xaa
theorem Mid.pointStep (h:Mid xs k p dg)(hk:k<xs.length)(hd:xs.getD k 0=46)(hp:p<0):Mid xs (k+1) k dg:=by
 refine⟨?_,?_,?_,?_⟩
 ·rw[lD _ xs k hk,hd,rR,h.count];simp
 ·intro i hi
  by_cases e:i=k
  ·subst e
   exact⟨λ_=>rfl,λ_=>hd⟩
  ·refine⟨λc=>?_,λc=>by omega⟩
   have:=(h.point i xaa).1 c
   rcases h.place with q|q<;>omega
 ·intro i hi c
  by_cases e:i=k
  ·subst e;exact absurd hd c
  ·exact h.digit i xaa c
 ·exact .inr xaa
theorem Mid.bad (h:Mid xs k p dg)(hk:k<xs.length)(hd:dig (xs.getD k 0)=false)(hb:xs.getD k 0≠46\/0<=p):¬rS xs:=by
 rintro⟨q,g⟩
 by_cases c:xs.getD k 0=46
 ·rcases hb with hb|hb
  ·exact hb c
  ·have e1:=(g.point k hk).1 c
   rcases h.place with h0|h0
   ·omega
   ·obtain⟨m,rfl⟩:=Int.eq_ofNat_of_zero_le h0.1
    have h1:=(h.point m xaa).2 rfl
    have:=(g.point m xaa).1 h1
    omega
 ·have:=g.digit k hk c
  rw[hd] at this;cases this
theorem Mid.good (h:Mid xs xs.length p dg)(h0:0<xs.length)(h1:p≠0)(h2:p≠(xs.length:Int)-1):GoodAt xs p:=
 ⟨h0,h.point,h.digit,by rcases h.place with q|q<;>omega⟩
theorem Mid.notGood (h:Mid xs xs.length p dg)(hb:xs.length=0\/p=0\/p=(xs.length:Int)-1)(h0:0<xs.length->0<=p):¬rS xs:=by
 rintro⟨q,g⟩
 have hp:=g.pos
 have:=h0 hp
 obtain⟨m,rfl⟩:=Int.eq_ofNat_of_zero_le this
 have hm:m<xs.length:=by rcases h.place with q|q<;>omega
 have h1:=(h.point m hm).2 rfl
 have:=(g.point m hm).1 h1
 rcases g.place with q|q<;>omega
def bt (t:List UInt8)(k:Nat):Int:=((t.getD k 0).toNat:Int)
def kT (x:Int):Bool:=decide (97<=x)&&decide (x<=122)||x==95
def kU (x:Int):Bool:=kT x||dig x
def uV (x:Int):Bool:=x==32||x==9||x==13||x==10
def mz (x:Int):Bool:=!(x==10)
def fN (p:Int->Bool)(t:List UInt8)(j:Nat):Nat:=if j<t.length/\p (bt t j)=true then fN p t (j+1) else j
termination_by t.length-j
decreasing_by omega
theorem lZ {p:Int->Bool}(h:¬(j<t.length/\p (bt t j)=true)):fN p t j=j:=by rw[fN,if_neg h]
theorem rT {p:Int->Bool}(h1:j<t.length)(h2:p (bt t j)=true):fN p t j=fN p t (j+1):=by rw[fN,if_pos ⟨h1,h2⟩]
theorem kV (p:Int->Bool)(t:List UInt8)(j:Nat):j<=fN p t j:=by
 rw[fN]
 split
 ·have:=kV p t (j+1);omega
 ·omega
termination_by t.length-j
decreasing_by omega
theorem jA (p:Int->Bool)(t:List UInt8)(j:Nat)(h:j<=t.length):fN p t j<=t.length:=by
 rw[fN]
 split
 ·exact jA p t (j+1) xaa
 ·exact h
termination_by t.length-j
decreasing_by omega
theorem kX {p:Int->Bool}(h1:j<t.length)(h2:p (bt t j)=true):j<fN p t j:=by
 rw[rT h1 h2]
 have:=kV p t (j+1)
 omega
theorem tC {p:Int->Bool}{t:List UInt8}(j:Nat):∀k,j<=k->k<fN p t j->p (bt t k)=true:=by
 intro k h1 h2
 rw[fN] at h2
 split at h2
 ·rename_i c
  by_cases e:k=j
  ·subst e;exact c.2
  ·exact tC (j+1) k xaa h2
 ·omega
termination_by t.length-j
decreasing_by omega
def skM (t:List UInt8)(i:Nat):Nat:=
 if h:i<t.length then
  if uV (bt t i)=true then skM t (i+1)
  else if _h2:bt t i=35 then skM t (fN mz t i) else i
 else i
termination_by t.length-i
decreasing_by
 ·omega
 ·have:=kX (p:=mz) h (by rw[_h2];decide);omega
theorem Ct (h:¬i<t.length):skM t i=i:=by rw[skM,dif_neg h]
theorem xH (h:i<t.length)(h1:uV (bt t i)=true):skM t i=skM t (i+1):=by rw[skM,dif_pos h,if_pos h1]
theorem zB (h:i<t.length)(h1:bt t i=35):skM t i=skM t (fN mz t i):=by
 rw[skM,dif_pos h,if_neg (by rw[h1];decide),dif_pos h1]
theorem zC (h:i<t.length)(h1:uV (bt t i)=false)(h2:bt t i≠35):skM t i=i:=by
 rw[skM,dif_pos h,if_neg (by rw[h1];simp),dif_neg h2]
theorem mA (t:List UInt8)(i:Nat):i<=skM t i:=by
 rw[skM]
 split
 ·rename_i h
  split
  ·have:=mA t (i+1);omega
  ·split
   ·rename_i h2
    have h3:=kX (p:=mz) h (by rw[h2];decide)
    have:=mA t (fN mz t i);omega
   ·omega
 ·omega
termination_by t.length-i
decreasing_by
 ·omega
 ·omega
theorem rU (t:List UInt8)(i:Nat)(hi:i<=t.length):skM t i<=t.length:=by
 rw[skM]
 split
 ·rename_i h
  split
  ·exact rU t (i+1) xaa
  ·split
   ·rename_i h2
    have h3:=kX (p:=mz) h (by rw[h2];decide)
    exact rU t _ (jA _ _ _ hi)
   ·omega
 ·omega
termination_by t.length-i
decreasing_by
 ·omega
 ·omega
structure Tok where
 sym:List UInt8
 pos:Nat
 text:List UInt8
def Tok.zero:Tok:=⟨[],0,[]⟩
def gJ (t:List UInt8)(i j:Nat):List UInt8:=(t.drop i).take (j-i)
theorem tD (h:j<=t.length):(gJ t i j).length=j-i:=by
 unfold gJ
 rw[List.length_take,List.length_drop]
 omega
def f8:List UInt8:=[110,97,109,101]
def gm:List UInt8:=[105,110,116]
def iT:List UInt8:=[100,101,99]
def keysL:List (List UInt8):=[[105,110],[108,101,116],[111,117,116],[100,101,102],[114,101,112,101,97,116],[101,120,112],[115,117,109],[109,97,120],[100,111,116],[115,101,108],[102,105,108,108],[112,105,99,107],[112,117,116],[103,114,97,100],[106,118,112]]
def onesL:List UInt8:=[43,45,42,47,40,41,44,59,58,61]
def jl (s:List UInt8):List UInt8:=if s∈keysL then s else f8
def jb (x:UInt8):List UInt8:=if x∈onesL then[x] else[]
def oB (t:List UInt8)(i:Nat):Nat:=if fN dig t i+1<t.length/\bt t (fN dig t i)=46/\dig (bt t (fN dig t i+1))=true then fN dig t (fN dig t i+1) else fN dig t i
def py (t:List UInt8)(i:Nat):List UInt8:=if fN dig t i+1<t.length/\bt t (fN dig t i)=46/\dig (bt t (fN dig t i+1))=true then iT else gm
def nxE (t:List UInt8)(i:Nat):Nat:=if kT (bt t i)=true then fN kU t i else if dig (bt t i)=true then oB t i else i+1
def nxT (t:List UInt8)(i:Nat):Tok:=
 if kT (bt t i)=true then⟨jl (gJ t i (fN kU t i)),i,gJ t i (fN kU t i)⟩
 else if dig (bt t i)=true then⟨py t i,i,gJ t i (oB t i)⟩
 else⟨jb (t.getD i 0),i,jb (t.getD i 0)⟩
theorem Cu (h:i<t.length)(hd:dig (bt t i)=true):i<oB t i:=by
 have h1:=kX (p:=dig) h hd
 unfold oB
 split
 ·have:=kV dig t (fN dig t i+1);omega
 ·exact h1
theorem Cv (h:i<t.length):oB t i<=t.length:=by
 have h1:=jA dig t i xaa
 unfold oB
 split
 ·exact jA _ _ _ xaa
 ·exact h1
theorem pz (h:i<t.length):i<nxE t i:=by
 unfold nxE
 split
 ·rename_i c
  exact kX h (by unfold kU;rw[c];rfl)
 ·split
  ·rename_i c
   exact Cu h c
  ·omega
theorem zD (h:i<t.length):nxE t i<=t.length:=by
 unfold nxE
 split
 ·exact jA _ _ _ xaa
 ·split
  ·exact Cv h
  ·omega
def jr (t:List UInt8)(i:Nat):List Tok:=
 if _h:i<t.length then
  if (nxT t i).sym=[] then[nxT t i] else nxT t i::jr t (skM t (nxE t i))
 else[]
termination_by t.length-i
decreasing_by
 have:=pz _h
 have:=mA t (nxE t i)
 omega
theorem xI (h:¬i<t.length):jr t i=[]:=by rw[jr,dif_neg h]
theorem xJ (h:i<t.length)(h1:(nxT t i).sym=[]):jr t i=[nxT t i]:=by rw[jr,dif_pos h,if_pos h1]
theorem zE (h:i<t.length)(h1:(nxT t i).sym≠[]):jr t i=nxT t i::jr t (skM t (nxE t i)):=by rw[jr,dif_pos h,if_neg h1]
theorem qB (t:List UInt8)(i:Nat):(jr t i).length<=t.length-i:=by
 rw[jr]
 split
 ·rename_i h
  split
  ·simp;omega
  ·have h1:=pz h
   have h2:=mA t (nxE t i)
   have h3:=qB t (skM t (nxE t i))
   rw[yap]
   omega
 ·simp
termination_by t.length-i
decreasing_by omega
def iz (t:List UInt8):List Tok:=jr t (skM t 0)
theorem mV (t:List UInt8):(iz t).length<=t.length:=by
 have:=qB t (skM t 0)
 unfold iz
 omega
theorem jB (c:Int)(w:World):Calls prog 73 #[.int .u8 c] w λe w'=>e=.returned (.bool (dig c))/\w'=w:=by
 by_cases h1:48<=c
 ·have e:dig c=decide (c<=57):=by unfold dig;rw[decide_eq_true h1];rfl
  exact xjk
 ·have e:dig c=false:=by unfold dig;rw[yax h1];rfl
  have t:decide (48<=c)=false:=yax h1
  exact xjk
theorem tE (w:World)(a:Option Addr)(cap:Nat):
  Calls prog 45 #[.slice a 0 cap] w λe w'=>e=.returned (.tuple #[.float .f64 0,.int .i64 2])/\Drawn w w':=by
 go_enter func45,ntmps45
 go_wp2_with fail
 refine wp_loop_rounds 1 ?_
 rw[rounds_succ]
 go_wp2
 go_ret2
 exact⟨rfl,Drawn.refl _⟩
theorem xK (hk:k<xs.length)(h:xs.getD k 0=46):(nds (xs.take (k+1))).1=(nds (xs.take k)).1/\(nds (xs.take (k+1))).2.1=(nds (xs.take k)).2.1/\(nds (xs.take (k+1))).2.2=true:=by
 rw[mU xs k hk];unfold nst;rw[if_pos h];exact⟨rfl,rfl,rfl⟩
theorem xL (hk:k<xs.length)(h:xs.getD k 0≠46):(nds (xs.take (k+1))).1=(nds (xs.take k)).1*10+(xs.getD k 0-48)/\(nds (xs.take (k+1))).2.1=(if (nds (xs.take k)).2.2 then (nds (xs.take k)).2.1*10 else (nds (xs.take k)).2.1)/\(nds (xs.take (k+1))).2.2=(nds (xs.take k)).2.2:=by
 rw[mU xs k hk];unfold nst;rw[if_neg h];exact⟨rfl,rfl,rfl⟩
theorem uW (w:World)(g off n cap:Nat)(xs:List Int)(hx:xs.length=n)(h0:0<n)(hn:n<=1048576)(hlt:∀x∈xs,0<=x/\x<256)
  (hc:∀k,k<n->w.cell? ⟨g,off+k,none⟩=some (.int .u8 (xs.getD k 0))):
  Calls prog 45 #[.slice (some ⟨g,off,none⟩) n cap] w λe w'=>∃f c,e=.returned (.tuple #[.float .f64 f,.int .i64 c])/\RN xs f c/\Drawn w w':=by
 have HC:Hid (∀k,k<n->w.cell? ⟨g,off+k,none⟩=some (.int .u8 (xs.getD k 0))):=hc
 have HX:Hid (xs.length=n):=hx
 have HL:Hid (∀x∈xs,0<=x/\x<256):=hlt
 clear hc hx hlt
 go_enter func45,ntmps45
 go_wp2_with fail
 go_loopw [4,5,6] (λpv dv iv W=>∃(k:Nat) (p dg:Int),k<=n/\pv=.int .i64 p/\dv=.int .i64 dg/\iv=.int .i64 k/\Hid (Mid xs k p dg)/\(0<=dg/\dg<=k/\-1<=p/\p<n)/\Drawn w W) (λ_ _ iv _=>n-(intOf iv).toNat)
 case atStart=>exact⟨0,-1,0,Nat.zero_le _,rfl,rfl,rfl,xG xs,⟨by omega,by omega,by omega,by omega⟩,Drawn.refl _⟩
 case round=>
  obtain⟨k,p,dg,hk,rfl,rfl,rfl,hM,⟨hb1,hb2,hb3,hb4⟩,HW⟩:=hrel
  by_cases hlt:k<n
  ·have c1:wr.cell? ⟨g,off+k,none⟩=some (.int .u8 (xs.getD k 0)):=by rw[HW.cell];exact HC.out k hlt
   have HD:Hid _:=jB (xs.getD k 0) wr
   have hkx:k<xs.length:=by rw[HX.out];exact hlt
   cases t:dig (xs.getD k 0)
   ·by_cases h46:xs.getD k 0=46
    ·by_cases hp:p<0
     ·have R:Hid _:=hM.out.pointStep hkx h46 hp
      rw[h46] at c1 HD
      rw[rR] at HD
      clear t h46 hM
      go_wp2_with fail
      refine yai HD.out ?_
      rintro e w' ⟨rfl,rfl⟩
      go_wp2
      go_roundw
      case rel=>exact⟨k+1,k,dg,by omega,rfl,rfl,by go_num,R,⟨by omega,by omega,by omega,by omega⟩,HW⟩
      case measure=>simp[intOf];omega
     ·have R:Hid (RN xs 0 2):=.inl ⟨hM.out.bad hkx t (.inr xaa),rfl,rfl⟩
      have tp:¬(p<0):=hp
      rw[h46] at c1 HD
      rw[rR] at HD
      exact xha
    ·have R:Hid (RN xs 0 2):=.inl ⟨hM.out.bad hkx t (.inl h46),rfl,rfl⟩
     have t2:(xs.getD k 0==46)=false:=yam h46
     rw[t] at HD
     generalize xs.getD k 0=x at c1 HD t2
     exact xha
   ·have R:Hid _:=hM.out.digitStep hkx t
    rw[t] at HD
    generalize xs.getD k 0=x at c1 HD
    clear t hM
    go_wp2_with fail
    refine yai HD.out ?_
    rintro e w' ⟨rfl,rfl⟩
    go_wp2
    go_roundw
    case rel=>exact⟨k+1,p,dg+1,by omega,rfl,by go_num,by go_num,R,⟨by omega,by omega,by omega,by omega⟩,HW⟩
    case measure=>simp[intOf];omega
  ·obtain rfl:k=n:=xaa
   have hM2:Mid xs xs.length p dg:=by rw[HX.out];exact hM.out
   by_cases hp0:p=0
   ·have R:Hid (RN xs 0 2):=.inl ⟨hM2.notGood (.inr (.inl hp0)) (λ_=>by omega),rfl,rfl⟩
    subst hp0
    clear hM hM2
    go_wp2
    go_ret2
    exact⟨0,2,rfl,R.out,HW⟩
   ·by_cases hp1:p=(k:Int)-1
    ·have R:Hid (RN xs 0 2):=.inl ⟨hM2.notGood (.inr (.inr (by rw[HX.out];exact hp1))) (λ_=>by omega),rfl,rfl⟩
     have t1:(p==0)=false:=yam hp0
     have t2:(p==(k:Int)-1)=true:=by rw[hp1];simp
     clear hM hM2
     go_wp2
     go_ret2
     exact⟨0,2,rfl,R.out,HW⟩
    ·have hG:=hM2.good (by rw[HX.out];exact h0) hp0 (by rw[HX.out];exact hp1)
     have hdg:dg=(xs.countP dig:Nat):=by
      have:=hM2.count
      rw[yao yad] at this
      exact this
     have t1:(p==0)=false:=yam hp0
     have t2:(p==(k:Int)-1)=false:=yam hp1
     have t0:((k:Int)==0)=false:=yam xaa
     by_cases h15:15<dg
     ·have R:Hid (RN xs 0 5):=.inr (.inl ⟨⟨p,hG⟩,by omega,rfl,rfl⟩)
      clear hM hM2 hG hdg
      go_wp2
      go_ret2
      exact⟨0,5,rfl,R.out,HW⟩
     ·have hshort:=hG.short xaa
      have HG:Hid _:=hG
      have HDG:Hid (xs.countP dig<=15):=by have:xs.countP dig<=15:=xaa
                                           exact this
      have hk16:k<=16:=by rw[HX.out] at hshort;exact hshort
      clear hM hM2 hG hdg hshort
      go_wp2_with fail
      go_loopw [7,8,9] (λnv dv iv W=>∃(j:Nat) (N D:Int),j<=k/\nv=.int .i64 N/\dv=.int .i64 D/\iv=.int .i64 j/\Hid (N=(nds (xs.take j)).1/\D=(nds (xs.take j)).2.1)/\Drawn w W) (λ_ _ iv _=>k-(intOf iv).toNat)
      case atStart=>exact⟨0,0,1,Nat.zero_le _,rfl,rfl,rfl,⟨rfl,rfl⟩,HW⟩
      case round=>
       obtain⟨j,N,D,hj,rfl,rfl,rfl,hND,HW2⟩:=hrel
       obtain⟨b1,b2,b3,b4⟩:=qA xs HG.out.digit j (by rw[HX.out];exact hj) xaa
       rw[<-hND.out.1] at b1 b2
       rw[<-hND.out.2] at b3 b4
       by_cases hjl:j<k
       ·have c1:wr.cell? ⟨g,off+j,none⟩=some (.int .u8 (xs.getD j 0)):=by rw[HW2.cell];exact HC.out j hjl
        have hjx:j<xs.length:=by rw[HX.out];exact hjl
        by_cases hjp:(j:Int)=p
        ·have h46:=(HG.out.point j hjx).2 hjp
         have R:Hid (N=(nds (xs.take (j+1))).1/\D=(nds (xs.take (j+1))).2.1):=by
          obtain⟨q1,q2,_⟩:=xK hjx h46
          exact⟨hND.out.1.trans q1.symm,hND.out.2.trans q2.symm⟩
         have tj:((j:Int) !=p)=false:=by simp[hjp]
         clear hND c1
         go_wp2
         go_roundw
         case rel=>exact⟨j+1,N,D,by omega,rfl,rfl,by go_num,R,HW2⟩
         case measure=>simp[intOf];omega
        ·have h46:xs.getD j 0≠46:=λc=>hjp ((HG.out.point j hjx).1 c)
         have hd:=px (HG.out.digit j hjx h46)
         obtain⟨q1,q2,_⟩:=xL hjx h46
         rw[HG.out.behind j xaa] at q2
         have tj:((j:Int) !=p)=true:=by simp[hjp]
         by_cases hbh:0<=p/\p<(j:Int)
         ·rw[decide_eq_true hbh] at q2
          have R:Hid (N*10+(xs.getD j 0-48)=(nds (xs.take (j+1))).1/\D*10=(nds (xs.take (j+1))).2.1):=by
           refine⟨?_,?_⟩
           ·rw[q1,hND.out.1]
           ·rw[q2,hND.out.2];rfl
          clear q1 q2 h46 hND
          generalize xs.getD j 0=x at c1 hd R
          have tb1:=hbh.1
          have tb2:=hbh.2
          go_wp2
          go_roundw
          case rel=>exact⟨j+1,_,_,by omega,by go_num,by go_num,by go_num,R,HW2⟩
          case measure=>simp[intOf];omega
         ·rw[yax hbh] at q2
          have R:Hid (N*10+(xs.getD j 0-48)=(nds (xs.take (j+1))).1/\D=(nds (xs.take (j+1))).2.1):=by
           refine⟨?_,?_⟩
           ·rw[q1,hND.out.1]
           ·rw[q2,hND.out.2];rfl
          clear q1 q2 h46 hND
          generalize xs.getD j 0=x at c1 hd R
          by_cases tb1:0<=p
          ·have tb2:¬(p<(j:Int)):=λc=>hbh ⟨tb1,c⟩
           exact xhl
          ·exact xhl
       ·obtain rfl:j=k:=xaa
        have e:xs.take j=xs:=yao (by rw[HX.out];exact yad)
        rw[e] at hND
        have R:Hid (∀W:World,RN xs (fop .quo (floatOfInt .f64 N) (floatOfInt .f64 D) W) 0):=λW=>.inr (.inr ⟨⟨p,HG.out⟩,HDG.out,kO _ _ _ _,by rw[yP,hND.out.1,hND.out.2],rfl⟩)
        have hq:=λW=>mP (P:=prog) W 33 (floatOfInt .f64 N) (floatOfInt .f64 D)
        clear hND e
        go_wp2
        go_ret2
        exact⟨_,0,rfl,R.out _,HW2.more _⟩
theorem nJ (w:World)(a:Option Addr)(n cap:Nat)(xs:List Int)(f:YS w a n xs)(hn:n<=1048576):
  Calls prog 45 #[.slice a n cap] w λe w'=>∃f c,e=.returned (.tuple #[.float .f64 f,.int .i64 c])/\RN xs f c/\Drawn w w':=by
 rcases Nat.eq_zero_or_pos n with h0|h0
 ·subst h0
  have:xs=[]:=List.length_eq_zero_iff.1 f.len
  subst this
  exact(tE w a cap).mono λ_ _ h=>⟨0,2,h.1,.inl ⟨λ⟨_,g⟩=>by have:=g.pos;simp at this,rfl,rfl⟩,h.2⟩
 ·rcases f.at_ with h|⟨g,off,rfl,h3,h4⟩
  ·omega
  ·exact uW w g off n cap xs f.len h0 hn f.lt h4
end
section
open Go.RowKit Flt
attribute [local go_sem] eD eB eA
structure TxS (w:World)(g off n:Nat)(t:List UInt8):Prop where
 len:t.length=n
 lt:g<w.heap.size
 at_:∀k,k<n->w.cell? ⟨g,off+k,none⟩=some (.int .u8 (bt t k))
theorem TxS.keep {w w':World}{g off n:Nat}{t:List UInt8}(h:TxS w g off n t)(k:Kept 0 0 w w'):TxS w' g off n t:=
 ⟨h.len,yaj h.lt k.size,λj hj=>(k.cell (p:=⟨g,off+j,none⟩) h.lt xaa).trans (h.at_ j hj)⟩
theorem lE (c:Int)(w:World):Calls prog 103 #[.int .u8 c] w λe w'=>e=.returned (.bool (kT c))/\w'=w:=by
 cases h1:decide (97<=c)
 ·have e:kT c=(c==95):=by unfold kT;rw[h1];rfl
  exact xgi
 ·cases h2:decide (c<=122)
  ·have e:kT c=(c==95):=by unfold kT;rw[h1,h2];rfl
   exact xgi
  ·have e:kT c=true:=by unfold kT;rw[h1,h2];rfl
   exact xgi
theorem zG (w:World)(g off n cap:Nat)(t:List UInt8)(f:TxS w g off n t)(i:Nat)(hi:i<=n)(hn:n<=1000000):
  Calls prog 70 #[.slice (some ⟨g,off,none⟩) n cap,.int .i64 (i:Int)] w λe w'=>e=.returned (.int .i64 (skM t i:Nat))/\w'=w:=by
 have HF:Hid _:=f
 obtain⟨E,hE⟩:∃E,E=skM t i:=⟨_,rfl⟩
 rw[<-hE]
 have HE:Hid (skM t i=E):=hE.symm
 clear f hE
 go_enter func70,ntmps70
 go_wp2_with fail
 go_loopw [1] (λiv W=>W=w/\∃k:Nat,k<=n/\iv=.int .i64 k/\Hid (skM t k=E)) (λiv _=>n-(intOf iv).toNat)
 case atStart=>exact⟨rfl,i,hi,rfl,HE⟩
 case round=>
  obtain⟨rfl,k,hk,rfl,hK⟩:=hrel
  by_cases hlt:k<n
  ·have c1:=HF.out.at_ k hlt
   have hkt:Hid (k<t.length):=by show _<_;rw[HF.out.len];exact hlt
   by_cases hb:uV (bt t k)=true
   ·have R:Hid (skM t (k+1)=E):=(xH hkt.out hb).symm.trans hK.out
    unfold uV at hb
    generalize bt t k=x at c1 hb
    cases t1:(x==32)
    ·cases t2:(x==9)
     ·cases t3:(x==13)
      ·have t4:(x==10)=true:=by simpa[t1,t2,t3] using hb
       exact xdv
      ·exact xdv
     ·exact xdv
    ·exact xdv
   ·have hb':uV (bt t k)=false:=by simpa using hb
    by_cases h35:bt t k=35
    ·have HR:Hid (skM t (fN mz t k)=E):=(zB hkt.out h35).symm.trans hK.out
     have HG:Hid (k<fN mz t k/\fN mz t k<=t.length):=⟨kX hkt.out (by rw[h35];decide),jA _ _ _ (Nat.le_of_lt hkt.out)⟩
     obtain⟨E2,hE2⟩:∃E2,E2=fN mz t k:=⟨_,rfl⟩
     rw[<-hE2] at HR HG
     have HE2:Hid (fN mz t k=E2):=hE2.symm
     rw[h35] at c1
     clear hE2 hb hb' h35 hK
     go_wp2_with fail
     go_loopw [1] (λiv W=>W=wr/\∃j:Nat,j<=n/\iv=.int .i64 j/\Hid (fN mz t j=E2)) (λiv _=>n-(intOf iv).toNat)
     case atStart=>exact⟨rfl,k,hk,rfl,HE2⟩
     case round=>
      rename World=>W0
      obtain⟨rfl,j,hj,rfl,hJ⟩:=hrel
      by_cases hl2:j<n
      ·have c2:=HF.out.at_ j hl2
       have hjt:Hid (j<t.length):=by show _<_;rw[HF.out.len];exact hl2
       cases t5:(bt t j==10)
       ·have R:Hid (fN mz t (j+1)=E2):=(rT hjt.out (by unfold mz;rw[t5];rfl)).symm.trans hJ.out
        generalize bt t j=x at c2 t5
        have t6:(x !=10)=true:=by unfold bne;rw[t5];rfl
        clear t5
        go_wp2
        exact xer
       ·have R:Hid (j=E2):=(lZ (λh=>by have:=h.2;unfold mz at this;rw[t5] at this;cases this)).symm.trans hJ.out
        obtain rfl:=R.out
        generalize bt t j=x at c2 t5
        have t6:(x !=10)=false:=by unfold bne;rw[t5];rfl
        clear t5
        exact xhn
      ·have R:Hid (j=E2):=(lZ (λh=>by have:=HF.out.len;omega)).symm.trans hJ.out
       obtain rfl:=R.out
       exact xhn
    ·have R:Hid (k=E):=(zC hkt.out hb' h35).symm.trans hK.out
     obtain rfl:=R.out
     unfold uV at hb'
     have t0:(bt t k==35)=false:=by simpa using h35
     generalize bt t k=x at c1 hb' t0
     simp only[Bool.or_eq_false_iff] at hb'
     obtain⟨⟨⟨t1,t2⟩,t3⟩,t4⟩:=hb'
     clear h35 hb
     go_wp2
     go_ret
     exact⟨rfl,rfl⟩
  ·have R:Hid (k=E):=(Ct (by rw[HF.out.len];exact hlt)).symm.trans hK.out
   obtain rfl:=R.out
   go_wp2
   go_ret
   exact⟨rfl,rfl⟩
end
section
open Go.RowKit Flt
variable {s x p y z:List UInt8} {n j:Nat} {t c o:Tok} {ts us:List Tok} {r:List (List UInt8)}
def gl:List UInt8:=[83,84,77,84,83]
def jm:List UInt8:=[80,65,82,65,77,83]
def fU:List UInt8:=[77,79,82,69,80,65,82,65,77,83]
def gh:List UInt8:=[69,88,80,82]
def fH:List UInt8:=[77,79,82,69,84,69,82,77,83]
def i7:List UInt8:=[84,69,82,77]
def fA:List UInt8:=[77,79,82,69,85,78,65,82,89]
def mo:List UInt8:=[67,65,76,76]
def kG:List UInt8:=[65,82,71,83]
def gy:List UInt8:=[77,79,82,69,65,82,71,83]
def jI:List UInt8:=[85,78,65,82,89]
def jt (s:List UInt8):List (List UInt8):=
 if s=[45] then[[45],jI] else
 if s=[110,97,109,101] then[[110,97,109,101],mo] else
 if s=[40] then[[40],gh,[41]] else
 if s=[101,120,112]\/s=[115,117,109] then[s,[40],gh,[41]] else
 if s=[109,97,120]\/s=[100,111,116] then[s,[40],gh,[44],gh,[41]] else
 if s=[115,101,108] then[s,[40],gh,[44],gh,[44],gh,[41]] else
 if s=[102,105,108,108]\/s=[112,105,99,107] then[s,[40],gh,[44],[105,110,116],[41]] else
 if s=[112,117,116] then[s,[40],gh,[44],[105,110,116],[44],[105,110,116],[41]] else
 if s=[103,114,97,100] then[s,[40],gh,[44],[110,97,109,101],[41]] else
 if s=[106,118,112] then[s,[40],gh,[44],[110,97,109,101],[44],gh,[41]] else
 if s=[100,101,99] then[[100,101,99]] else
 [[105,110,116]]
def fV (p s:List UInt8):List (List UInt8):=
 if p=gl then (if s=[105,110] then[[105,110],[110,97,109,101],[58],[105,110,116],[59],gl] else if s=[108,101,116] then[[108,101,116],[110,97,109,101],[61],gh,[59],gl] else if s=[114,101,112,101,97,116] then[[114,101,112,101,97,116],[105,110,116],[110,97,109,101],[61],gh,[59],gl] else if s=[100,101,102] then[[100,101,102],[110,97,109,101],[40],jm,[41],[61],gh,[59],gl] else if s=[111,117,116] then[[111,117,116],gh,[59],gl] else[]) else
 if p=jm then (if s=[110,97,109,101] then[[110,97,109,101],fU] else[]) else
 if p=fU then (if s=[44] then[[44],[110,97,109,101],fU] else[]) else
 if p=gh then ([i7,fH]) else
 if p=fH then (if s=[43]\/s=[45] then[s,i7,fH] else[]) else
 if p=i7 then ([jI,fA]) else
 if p=fA then (if s=[42]\/s=[47] then[s,jI,fA] else[]) else
 if p=mo then (if s=[40] then[[40],kG,[41]] else[]) else
 if p=kG then (if s=[41] then[] else[gh,gy]) else
 if p=gy then (if s=[44] then[[44],gh,gy] else[]) else
 jt s
def iU (s:List UInt8):Bool:=decide (1<s.length)&&(decide (65<=bt s 0)&&decide (bt s 0<=90))
def wt (s:List UInt8):Nat:=if s=kG then 7 else if s=gh then 5 else if s=i7 then 3 else 1
def wts:List (List UInt8)->Nat
 |[]=>0
 |s::r=>wt s+wts r
def uX:List (List UInt8)->Bool
 |[]=>false
 |p::_=>iU p
def mu (st:List (List UInt8)):Nat:=if uX st=true then wts st+1 else 0
theorem uY (s:List UInt8):1<=wt s:=by
 unfold wt
 repeat' split
 all_goals omega
def UL:List (List UInt8):=[[45],[110,97,109,101],[40],[101,120,112],[115,117,109],[109,97,120],[100,111,116],[115,101,108],[102,105,108,108],[112,105,99,107],[112,117,116],[103,114,97,100],[106,118,112],[100,101,99]]
def RL:List (List UInt8):=[[105,110],[108,101,116],[114,101,112,101,97,116],[100,101,102],[111,117,116],[110,97,109,101],[44],[43],[45],[42],[47],[40],[41]]
def PQ:List (List UInt8):=[gl,jm,fU,gh,fH,i7,fA,mo,kG,gy]
theorem rV (h:¬s∈UL):jt s=[[105,110,116]]:=by
 simp only[UL,List.mem_cons,List.not_mem_nil,or_false,not_or] at h
 simp[jt,h]
theorem zH (s:List UInt8)(h:¬p∈PQ):fV p s=jt s:=by
 simp only[PQ,List.mem_cons,List.not_mem_nil,or_false,not_or] at h
 simp[fV,h]
def ruN (p:List UInt8):List (List UInt8):=if p=gh then[i7,fH] else if p=i7 then[jI,fA] else if p=kG then[gh,gy] else[]
theorem zJ {p s:List UInt8}(h:p∈PQ)(hs:¬s∈RL):fV p s=ruN p:=by
 simp only[PQ,RL,List.mem_cons,List.not_mem_nil,or_false,not_or] at h hs
 rcases h with rfl|rfl|rfl|rfl|rfl|rfl|rfl|rfl|rfl|rfl<;>simp[fV,hs]<;>rfl
theorem qC (s:List UInt8)(r:List (List UInt8)):uX (jt s++r)=false:=by
 by_cases h:s∈UL
 ·simp only[UL,List.mem_cons,List.not_mem_nil,or_false] at h
  rcases h with rfl|rfl|rfl|rfl|rfl|rfl|rfl|rfl|rfl|rfl|rfl|rfl|rfl|rfl<;>rfl
 ·rw[rV h];rfl
theorem pA (p s:List UInt8)(r:List (List UInt8)):fV p s=[]\/uX (fV p s++r)=false\/(p=gh/\fV p s=[i7,fH])\/(p=i7/\fV p s=[jI,fA])\/(p=kG/\fV p s=[gh,gy]):=by
 by_cases h:p∈PQ
 ·by_cases hs:s∈RL
  ·simp only[PQ,RL,List.mem_cons,List.not_mem_nil,or_false] at h hs
   rcases h with rfl|rfl|rfl|rfl|rfl|rfl|rfl|rfl|rfl|rfl<;>rcases hs with rfl|rfl|rfl|rfl|rfl|rfl|rfl|rfl|rfl|rfl|rfl|rfl|rfl<;>simp[fV,gl,jm,fU,gh,fH,i7,fA,mo,kG,gy,uX,iU,bt]
  ·rw[zJ h hs]
   clear hs
   simp only[PQ,List.mem_cons,List.not_mem_nil,or_false] at h
   rcases h with rfl|rfl|rfl|rfl|rfl|rfl|rfl|rfl|rfl|rfl<;>simp[ruN,gl,jm,fU,gh,fH,i7,fA,mo,kG,gy]
 ·rw[zH s h];exact .inr (.inl (qC s r))
theorem wg (p s:List UInt8)(r:List (List UInt8))(h:iU p=true):mu (fV p s++r)<mu (p::r):=by
 have e:mu (p::r)=wt p+wts r+1:=by unfold mu uX;rw[if_pos h];rfl
 rw[e]
 rcases pA p s r with c|c|⟨rfl,c⟩|⟨rfl,c⟩|⟨rfl,c⟩
 ·rw[c,List.nil_append]
  have:=uY p
  unfold mu
  split<;>omega
 ·unfold mu
  rw[if_neg (by rw[c];simp)]
  omega
 all_goals
  rw[c]
  unfold mu
  split
  ·show wt _+(wt _+wts r)+1<_
   have h1:wt i7=3:=xab
   have h2:wt fH=1:=xab
   have h3:wt gh=5:=xab
   have h4:wt jI=1:=xab
   have h5:wt fA=1:=xab
   have h6:wt gy=1:=xab
   have h7:wt kG=7:=xab
   omega
  ·omega
def gi (s:List UInt8)(st:List (List UInt8)):List (List UInt8):=
 match st with
 |[]=>[]
 |p::r=>if _h:iU p=true then gi s (fV p s++r) else p::r
termination_by mu st
decreasing_by exact wg p s r _h
theorem kY (s:List UInt8):gi s []=[]:=by rw[gi]
theorem ic (h:iU p=true):gi s (p::r)=gi s (fV p s++r):=by rw[gi,dif_pos h]
theorem jP (h:iU p=false):gi s (p::r)=p::r:=by rw[gi,dif_neg (by rw[h];simp)]
def zK:List UInt8:=[101,110,100]
def ft (n:Nat):List Tok->List (List UInt8)->Int
 |[],st=>if gi zK st=[] then -1 else (n:Int)
 |t::ts,st=>match gi t.sym st with
  |[]=>(t.pos:Int)
  |p::r=>if p=t.sym then ft n ts r else (t.pos:Int)
theorem qD (s:List UInt8):1<=(jt s).length/\(jt s).length<=8:=by
 by_cases h:s∈UL
 ·revert s;decide
 ·rw[rV h];decide
theorem tF (p s:List UInt8):(fV p s).length<=9:=by
 by_cases h:p∈PQ
 ·by_cases hs:s∈RL
  ·exact(show ∀p∈PQ,∀s∈RL,(fV p s).length<=9 by decide) p h s hs
  ·rw[zJ h hs];revert p;decide
 ·rw[zH s h];have:=qD s;omega
inductive Ex where
 |num (t:Tok)
 |name (t:Tok)
 |neg (o:Tok) (e:Ex)
 |bin (o:Tok) (a b:Ex)
 |call (t:Tok) (es:List Ex)
 |key1 (k:Tok) (e:Ex)
 |key2 (k:Tok) (a b:Ex)
 |key3 (k:Tok) (a b c:Ex)
 |keyN (k:Tok) (e:Ex) (n:Tok)
 |put (k:Tok) (e:Ex) (i n:Tok)
 |grad (k:Tok) (e:Ex) (x:Tok)
 |jvp (k:Tok) (e:Ex) (x:Tok) (d:Ex)
def tG:List UInt8:=[101,120,112]
def zL:List UInt8:=[115,117,109]
def uZ:List UInt8:=[109,97,120]
def Cw:List UInt8:=[100,111,116]
def tH:List UInt8:=[115,101,108]
def qE:List UInt8:=[102,105,108,108]
def mW:List UInt8:=[112,105,99,107]
def xM:List UInt8:=[112,117,116]
def wi:List UInt8:=[103,114,97,100]
def Cx:List UInt8:=[106,118,112]
inductive Pr:Nat->List Ex->List Tok->Prop
 |up01 {e:Ex} {ts:List Tok}:Pr 0 [e] ts->Pr 1 [e] ts
 |up12 {e:Ex} {ts:List Tok}:Pr 1 [e] ts->Pr 2 [e] ts
 |add {a b:Ex} {ts us:List Tok} {o:Tok}:Pr 2 [a] ts->(o.sym=[43]\/o.sym=[45])->Pr 1 [b] us->Pr 2 [.bin o a b] (ts++o::us)
 |mul {a b:Ex} {ts us:List Tok} {o:Tok}:Pr 1 [a] ts->(o.sym=[42]\/o.sym=[47])->Pr 0 [b] us->Pr 1 [.bin o a b] (ts++o::us)
 |neg {e:Ex} {ts:List Tok} {o:Tok}:o.sym=[45]->Pr 0 [e] ts->Pr 0 [.neg o e] (o::ts)
 |num {t:Tok}:(t.sym=gm\/t.sym=iT)->Pr 0 [.num t] [t]
 |name {t:Tok}:t.sym=f8->Pr 0 [.name t] [t]
 |par {e:Ex} {ts:List Tok} {l r:Tok}:l.sym=[40]->Pr 2 [e] ts->r.sym=[41]->Pr 0 [e] (l::(ts++[r]))
 |call0 {t l r:Tok}:t.sym=f8->l.sym=[40]->r.sym=[41]->Pr 0 [.call t []] [t,l,r]
 |call {es:List Ex} {ts:List Tok} {t l r:Tok}:t.sym=f8->l.sym=[40]->Pr 3 es ts->r.sym=[41]->Pr 0 [.call t es] (t::l::(ts++[r]))
 |arg1 {e:Ex} {ts:List Tok}:Pr 2 [e] ts->Pr 3 [e] ts
 |argM {es:List Ex} {e:Ex} {ts us:List Tok} {c:Tok}:Pr 3 es ts->c.sym=[44]->Pr 2 [e] us->Pr 3 (es++[e]) (ts++c::us)
 |key1 {e:Ex} {ts:List Tok} {k l r:Tok}:(k.sym=tG\/k.sym=zL)->l.sym=[40]->Pr 2 [e] ts->r.sym=[41]->Pr 0 [.key1 k e] (k::l::(ts++[r]))
 |key2 {a b:Ex} {ts us:List Tok} {k l c r:Tok}:(k.sym=uZ\/k.sym=Cw)->l.sym=[40]->Pr 2 [a] ts->c.sym=[44]->Pr 2 [b] us->r.sym=[41]->Pr 0 [.key2 k a b] (k::l::(ts++c::(us++[r])))
 |key3 {a b d:Ex} {ts us ws:List Tok} {k l c c2 r:Tok}:k.sym=tH->l.sym=[40]->Pr 2 [a] ts->c.sym=[44]->Pr 2 [b] us->c2.sym=[44]->Pr 2 [d] ws->r.sym=[41]->Pr 0 [.key3 k a b d] (k::l::(ts++c::(us++c2::(ws++[r]))))
 |keyN {e:Ex} {ts:List Tok} {k l c n r:Tok}:(k.sym=qE\/k.sym=mW)->l.sym=[40]->Pr 2 [e] ts->c.sym=[44]->n.sym=gm->r.sym=[41]->Pr 0 [.keyN k e n] (k::l::(ts++[c,n,r]))
 |put {e:Ex} {ts:List Tok} {k l c i c2 n r:Tok}:k.sym=xM->l.sym=[40]->Pr 2 [e] ts->c.sym=[44]->i.sym=gm->c2.sym=[44]->n.sym=gm->r.sym=[41]->Pr 0 [.put k e i n] (k::l::(ts++[c,i,c2,n,r]))
 |grad {e:Ex} {ts:List Tok} {k l c x r:Tok}:k.sym=wi->l.sym=[40]->Pr 2 [e] ts->c.sym=[44]->x.sym=f8->r.sym=[41]->Pr 0 [.grad k e x] (k::l::(ts++[c,x,r]))
 |jvp {e d:Ex} {ts us:List Tok} {k l c x c2 r:Tok}:k.sym=Cx->l.sym=[40]->Pr 2 [e] ts->c.sym=[44]->x.sym=f8->c2.sym=[44]->Pr 2 [d] us->r.sym=[41]->Pr 0 [.jvp k e x d] (k::l::(ts++c::x::c2::(us++[r])))
structure OpS where
 i:Nat
 d:Int
 at_:Int
 b:Bool
def gW (s:List UInt8):Bool:=s==f8||s==gm||s==iT||s==[41]
def gF (x y:List UInt8)(q:OpS)(t:Tok):OpS:=
 if t.sym=[40] then⟨q.i+1,q.d+1,q.at_,gW t.sym⟩
 else if t.sym=[41] then⟨q.i+1,q.d-1,q.at_,gW t.sym⟩
 else⟨q.i+1,q.d,if q.d=0/\q.b=true/\(t.sym=x\/t.sym=y) then (q.i:Int) else q.at_,gW t.sym⟩
def iJ (x y:List UInt8)(q:OpS)(ts:List Tok):OpS:=ts.foldl (gF x y) q
theorem fd (x y:List UInt8)(q:OpS)(a b:List Tok):iJ x y q (a++b)=iJ x y (iJ x y q a) b:=by unfold iJ;rw[List.foldl_append]
theorem eF (x y:List UInt8)(q:OpS)(t:Tok)(b:List Tok):iJ x y q (t::b)=iJ x y (gF x y q t) b:=rfl
theorem fy (x y:List UInt8)(q:OpS):iJ x y q []=q:=rfl
theorem neL (h:s=x)(hx:x≠z:=by decide):s≠z:=h ▸ hx
theorem neO (h:s=x\/s=y)(hx:x≠z:=by decide)(hy:y≠z:=by decide):s≠z:=by rcases h with rfl|rfl<;>assumption
theorem rW {q:OpS}(h:t.sym=[40]):gF x y q t=⟨q.i+1,q.d+1,q.at_,false⟩:=by unfold gF;rw[if_pos h,h];rfl
theorem rX {q:OpS}(h:t.sym=[41]):gF x y q t=⟨q.i+1,q.d-1,q.at_,true⟩:=by unfold gF;rw[if_neg (neL h),if_pos h,h];rfl
theorem kH {q:OpS}(h1:t.sym≠[40])(h2:t.sym≠[41])(h3:¬(q.d=0/\q.b=true/\(t.sym=x\/t.sym=y))):gF x y q t=⟨q.i+1,q.d,q.at_,gW t.sym⟩:=by unfold gF;rw[if_neg h1,if_neg h2,if_neg h3]
theorem rY {q:OpS}(h1:t.sym≠[40])(h2:t.sym≠[41])(h3:q.d=0/\q.b=true/\(t.sym=x\/t.sym=y)):gF x y q t=⟨q.i+1,q.d,q.i,gW t.sym⟩:=by unfold gF;rw[if_neg h1,if_neg h2,if_pos h3]
theorem jo {i:Nat}{d e a:Int}{b:Bool}(h1:i=j)(h2:d=e):(⟨i,d,a,b⟩:OpS)=⟨j,e,a,b⟩:=by rw[h1,h2]
theorem opq {i:Nat}{d e a:Int}{b:Bool}(h1:i=j:=by first|(simp;done)|(simp;omega))(h2:d=e:=by omega):(⟨i,d,a,b⟩:OpS)=⟨j,e,a,b⟩:=jo h1 h2
theorem Cy {es:List Ex}(h:Pr n es ts):∀(i:Nat) (d a:Int) (b:Bool),0<d->iJ x y ⟨i,d,a,b⟩ ts=⟨i+ts.length,d,a,true⟩:=by
 have so:∀(i:Nat) (d a:Int) (b:Bool) (t:Tok),0<d->t.sym≠[40]->t.sym≠[41]->gF x y ⟨i,d,a,b⟩ t=⟨i+1,d,a,gW t.sym⟩:=λi d a b t hq h1 h2=>kH h1 h2 (λc=>by have:=c.1;simp only at this;omega)
 have sl:∀(i:Nat) (d a:Int) (b:Bool) (t:Tok),t.sym=[40]->gF x y ⟨i,d,a,b⟩ t=⟨i+1,d+1,a,false⟩:=λi d a b t h=>rW h
 have sr:∀(i:Nat) (d a:Int) (b:Bool) (t:Tok),t.sym=[41]->gF x y ⟨i,d,a,b⟩ t=⟨i+1,d-1,a,true⟩:=λi d a b t h=>rX h
 induction h with
 |up01 _ ih=>exact ih
 |up12 _ ih=>exact ih
 |@add a b ts us o _ ho _ ih1 ih2=>
  intro i d a0 b0 hq
  rw[fd,ih1 _ _ _ _ hq,eF,so _ _ _ _ o hq (neO ho) (neO ho),ih2 _ _ _ _ hq]
  exact opq
 |@mul a b ts us o _ ho _ ih1 ih2=>
  intro i d a0 b0 hq
  rw[fd,ih1 _ _ _ _ hq,eF,so _ _ _ _ o hq (neO ho) (neO ho),ih2 _ _ _ _ hq]
  exact opq
 |@neg e ts o ho _ ih=>
  intro i d a0 b0 hq
  rw[eF,so _ _ _ _ o hq (neL ho) (neL ho),ih _ _ _ _ hq]
  exact opq
 |@num t ht=>
  intro i d a0 b0 hq
  have n3:gW t.sym=true:=by rcases ht with c|c<;>rw[c]<;>decide
  rw[eF,so _ _ _ _ t hq (neO ht) (neO ht),fy,n3]
  exact opq
 |@name t ht=>
  intro i d a0 b0 hq
  have n3:gW t.sym=true:=by rw[ht];decide
  rw[eF,so _ _ _ _ t hq (neL ht) (neL ht),fy,n3]
  exact opq
 |@par e ts l r hl _ hr ih=>
  intro i d a0 b0 hq
  have hq1:0<d+1:=xaa
  rw[eF,sl _ _ _ _ l hl,fd,ih _ _ _ _ hq1,eF,sr _ _ _ _ r hr,fy]
  exact opq
 |@call0 t l r ht hl hr=>
  intro i d a0 b0 hq
  rw[eF,so _ _ _ _ t hq (neL ht) (neL ht),eF,sl _ _ _ _ l hl,eF,sr _ _ _ _ r hr,fy]
  exact opq
 |@call es ts t l r ht hl _ hr ih=>
  intro i d a0 b0 hq
  have hq1:0<d+1:=xaa
  rw[eF,so _ _ _ _ t hq (neL ht) (neL ht),eF,sl _ _ _ _ l hl,fd,ih _ _ _ _ hq1,eF,sr _ _ _ _ r hr,fy]
  exact opq
 |arg1 _ ih=>exact ih
 |@argM es e ts us c _ hc _ ih1 ih2=>
  intro i d a0 b0 hq
  rw[fd,ih1 _ _ _ _ hq,eF,so _ _ _ _ c hq (neL hc) (neL hc),ih2 _ _ _ _ hq]
  exact opq
 |@key1 e ts k l r hk hl _ hr ih=>
  intro i d a0 b0 hq
  have hq1:0<d+1:=xaa
  rw[eF,so _ _ _ _ k hq (neO hk) (neO hk),eF,sl _ _ _ _ l hl,fd,ih _ _ _ _ hq1,eF,sr _ _ _ _ r hr,fy]
  exact opq
 |@key2 a b ts us k l c r hk hl _ hc _ hr ih1 ih2=>
  intro i d a0 b0 hq
  have hq1:0<d+1:=xaa
  rw[eF,so _ _ _ _ k hq (neO hk) (neO hk),eF,sl _ _ _ _ l hl,fd,ih1 _ _ _ _ hq1,eF,so _ _ _ _ c hq1 (neL hc) (neL hc),fd,ih2 _ _ _ _ hq1,eF,sr _ _ _ _ r hr,fy]
  exact opq
 |@key3 a b d0 ts us ws k l c c2 r hk hl _ hc _ hc2 _ hr ih1 ih2 ih3=>
  intro i d a0 b0 hq
  have hq1:0<d+1:=xaa
  rw[eF,so _ _ _ _ k hq (neL hk) (neL hk),eF,sl _ _ _ _ l hl,fd,ih1 _ _ _ _ hq1,eF,so _ _ _ _ c hq1 (neL hc) (neL hc),fd,ih2 _ _ _ _ hq1,eF,so _ _ _ _ c2 hq1 (neL hc2) (neL hc2),fd,ih3 _ _ _ _ hq1,eF,sr _ _ _ _ r hr,fy]
  exact opq
 |@keyN e ts k l c n0 r hk hl _ hc hn hr ih=>
  intro i d a0 b0 hq
  have hq1:0<d+1:=xaa
  rw[eF,so _ _ _ _ k hq (neO hk) (neO hk),eF,sl _ _ _ _ l hl,fd,ih _ _ _ _ hq1,eF,so _ _ _ _ c hq1 (neL hc) (neL hc),eF,so _ _ _ _ n0 hq1 (neL hn) (neL hn),eF,sr _ _ _ _ r hr,fy]
  exact opq
 |@put e ts k l c i0 c2 n0 r hk hl _ hc hi hc2 hn hr ih=>
  intro i d a0 b0 hq
  have hq1:0<d+1:=xaa
  rw[eF,so _ _ _ _ k hq (neL hk) (neL hk),eF,sl _ _ _ _ l hl,fd,ih _ _ _ _ hq1,eF,so _ _ _ _ c hq1 (neL hc) (neL hc),eF,so _ _ _ _ i0 hq1 (neL hi) (neL hi),eF,so _ _ _ _ c2 hq1 (neL hc2) (neL hc2),eF,so _ _ _ _ n0 hq1 (neL hn) (neL hn),eF,sr _ _ _ _ r hr,fy]
  exact opq
 |@grad e ts k l c x0 r hk hl _ hc hn hr ih=>
  intro i d a0 b0 hq
  have hq1:0<d+1:=xaa
  rw[eF,so _ _ _ _ k hq (neL hk) (neL hk),eF,sl _ _ _ _ l hl,fd,ih _ _ _ _ hq1,eF,so _ _ _ _ c hq1 (neL hc) (neL hc),eF,so _ _ _ _ x0 hq1 (neL hn) (neL hn),eF,sr _ _ _ _ r hr,fy]
  exact opq
 |@jvp e d0 ts us k l c x0 c2 r hk hl _ hc hn hc2 _ hr ih1 ih2=>
  intro i d a0 b0 hq
  have hq1:0<d+1:=xaa
  rw[eF,so _ _ _ _ k hq (neL hk) (neL hk),eF,sl _ _ _ _ l hl,fd,ih1 _ _ _ _ hq1,eF,so _ _ _ _ c hq1 (neL hc) (neL hc),eF,so _ _ _ _ x0 hq1 (neL hn) (neL hn),eF,so _ _ _ _ c2 hq1 (neL hc2) (neL hc2),fd,ih2 _ _ _ _ hq1,eF,sr _ _ _ _ r hr,fy]
  exact opq
theorem iA (i:Nat)(a:Int)(t:Tok)(h1:t.sym≠[40])(h2:t.sym≠[41]):gF x y ⟨i,0,a,false⟩ t=⟨i+1,0,a,gW t.sym⟩:=kH h1 h2 (λc=>by have:=c.2.1;cases this)
theorem sl0 (i:Nat)(a:Int)(b:Bool)(t:Tok)(h:t.sym=[40]):gF x y ⟨i,0,a,b⟩ t=⟨i+1,1,a,false⟩:=rW h
theorem sr1 (i:Nat)(a:Int)(b:Bool)(t:Tok)(h:t.sym=[41]):gF x y ⟨i,1,a,b⟩ t=⟨i+1,0,a,true⟩:=rX h
theorem so1 (i:Nat)(a:Int)(b:Bool)(t:Tok)(h1:t.sym≠[40])(h2:t.sym≠[41]):gF x y ⟨i,1,a,b⟩ t=⟨i+1,1,a,gW t.sym⟩:=kH h1 h2 (λc=>by have:=c.1;cases this)
theorem lF {es:List Ex}(h:Pr n es ts):n=0->∀(i:Nat) (a:Int),iJ x y ⟨i,0,a,false⟩ ts=⟨i+ts.length,0,a,true⟩:=by
 have dp:∀{n:Nat} {es:List Ex} {ts:List Tok},Pr n es ts->∀(i:Nat) (a:Int) (b:Bool),iJ x y ⟨i,1,a,b⟩ ts=⟨i+ts.length,1,a,true⟩:=λh i a b=>Cy h i 1 a b xab
 induction h with
 |up01 _ _=>intro h;cases h
 |up12 _ _=>intro h;cases h
 |add _ _ _ _ _=>intro h;cases h
 |mul _ _ _ _ _=>intro h;cases h
 |arg1 _ _=>intro h;cases h
 |argM _ _ _ _ _=>intro h;cases h
 |@neg e ts o ho _ ih=>
  intro _ i a
  have n3:gW o.sym=false:=by rw[ho];decide
  rw[eF,iA i a o (neL ho) (neL ho),n3,ih rfl]
  exact jo yaf rfl
 |@num t ht=>
  intro _ i a
  have n3:gW t.sym=true:=by rcases ht with c|c<;>rw[c]<;>decide
  rw[eF,iA i a t (neO ht) (neO ht),fy,n3];rfl
 |@name t ht=>
  intro _ i a
  have n3:gW t.sym=true:=by rw[ht];decide
  rw[eF,iA i a t (neL ht) (neL ht),fy,n3];rfl
 |@par e ts l r hl h1 hr _=>
  intro _ i a
  rw[eF,sl0 _ _ _ l hl,fd,dp h1,eF,sr1 _ _ _ r hr,fy]
  exact jo yaf rfl
 |@call0 t l r ht hl hr=>
  intro _ i a
  rw[eF,iA i a t (neL ht) (neL ht),eF,sl0 _ _ _ l hl,eF,sr1 _ _ _ r hr,fy]
  rfl
 |@call es ts t l r ht hl h1 hr _=>
  intro _ i a
  rw[eF,iA i a t (neL ht) (neL ht),eF,sl0 _ _ _ l hl,fd,dp h1,eF,sr1 _ _ _ r hr,fy]
  exact jo yaf rfl
 |@key1 e ts k l r hk hl h1 hr _=>
  intro _ i a
  rw[eF,iA i a k (neO hk) (neO hk),eF,sl0 _ _ _ l hl,fd,dp h1,eF,sr1 _ _ _ r hr,fy]
  exact jo yaf rfl
 |@key2 a0 b0 ts us k l c r hk hl h1 hc h2 hr _ _=>
  intro _ i a
  rw[eF,iA i a k (neO hk) (neO hk),eF,sl0 _ _ _ l hl,fd,dp h1,eF,so1 _ _ _ c (neL hc) (neL hc),fd,dp h2,eF,sr1 _ _ _ r hr,fy]
  exact jo yaf rfl
 |@key3 a0 b0 d0 ts us ws k l c c2 r hk hl h1 hc h2 hc2 h3 hr _ _ _=>
  intro _ i a
  rw[eF,iA i a k (neL hk) (neL hk),eF,sl0 _ _ _ l hl,fd,dp h1,eF,so1 _ _ _ c (neL hc) (neL hc),fd,dp h2,eF,so1 _ _ _ c2 (neL hc2) (neL hc2),fd,dp h3,eF,sr1 _ _ _ r hr,fy]
  exact jo yaf rfl
 |@keyN e ts k l c n0 r hk hl h1 hc hn hr _=>
  intro _ i a
  rw[eF,iA i a k (neO hk) (neO hk),eF,sl0 _ _ _ l hl,fd,dp h1,eF,so1 _ _ _ c (neL hc) (neL hc),eF,so1 _ _ _ n0 (neL hn) (neL hn),eF,sr1 _ _ _ r hr,fy]
  exact jo yaf rfl
 |@put e ts k l c i0 c2 n0 r hk hl h1 hc hi hc2 hn hr _=>
  intro _ i a
  rw[eF,iA i a k (neL hk) (neL hk),eF,sl0 _ _ _ l hl,fd,dp h1,eF,so1 _ _ _ c (neL hc) (neL hc),eF,so1 _ _ _ i0 (neL hi) (neL hi),eF,so1 _ _ _ c2 (neL hc2) (neL hc2),eF,so1 _ _ _ n0 (neL hn) (neL hn),eF,sr1 _ _ _ r hr,fy]
  exact jo yaf rfl
 |@grad e ts k l c x0 r hk hl h1 hc hn hr _=>
  intro _ i a
  rw[eF,iA i a k (neL hk) (neL hk),eF,sl0 _ _ _ l hl,fd,dp h1,eF,so1 _ _ _ c (neL hc) (neL hc),eF,so1 _ _ _ x0 (neL hn) (neL hn),eF,sr1 _ _ _ r hr,fy]
  exact jo yaf rfl
 |@jvp e d0 ts us k l c x0 c2 r hk hl h1 hc hn hc2 h2 hr _ _=>
  intro _ i a
  rw[eF,iA i a k (neL hk) (neL hk),eF,sl0 _ _ _ l hl,fd,dp h1,eF,so1 _ _ _ c (neL hc) (neL hc),eF,so1 _ _ _ x0 (neL hn) (neL hn),eF,so1 _ _ _ c2 (neL hc2) (neL hc2),fd,dp h2,eF,sr1 _ _ _ r hr,fy]
  exact jo yaf rfl
theorem wj {es:List Ex}(h:Pr n es ts):n=1->∀(i:Nat) (a:Int),iJ [43] [45] ⟨i,0,a,false⟩ ts=⟨i+ts.length,0,a,true⟩:=by
 induction h with
 |up01 h0 _=>intro _ i a;exact lF h0 rfl i a
 |@mul a0 b0 ts us o _ ho h2 ih1 _=>
  intro _ i a
  have n4:¬(o.sym=[43]\/o.sym=[45]):=by rcases ho with c|c<;>rw[c]<;>decide
  have n3:gW o.sym=false:=by rcases ho with c|c<;>rw[c]<;>decide
  rw[fd,ih1 rfl,eF,kH (neO ho) (neO ho) (λc=>n4 c.2.2),n3,lF h2 rfl]
  exact jo yaf rfl
 |up12 _ _=>intro h;cases h
 |add _ _ _ _ _=>intro h;cases h
 |arg1 _ _=>intro h;cases h
 |argM _ _ _ _ _=>intro h;cases h
 |neg _ _ _=>intro h;cases h
 |num _=>intro h;cases h
 |name _=>intro h;cases h
 |par _ _ _ _=>intro h;cases h
 |call0 _ _ _=>intro h;cases h
 |call _ _ _ _ _=>intro h;cases h
 |key1 _ _ _ _ _=>intro h;cases h
 |key2 _ _ _ _ _ _ _ _=>intro h;cases h
 |key3 _ _ _ _ _ _ _ _ _ _ _=>intro h;cases h
 |keyN _ _ _ _ _ _ _=>intro h;cases h
 |put _ _ _ _ _ _ _ _ _=>intro h;cases h
 |grad _ _ _ _ _ _ _=>intro h;cases h
 |jvp _ _ _ _ _ _ _ _ _ _=>intro h;cases h
theorem zM {es:List Ex}(h:Pr n es ts):n<=2->∀(i:Nat) (a:Int),∃a',iJ x y ⟨i,0,a,false⟩ ts=⟨i+ts.length,0,a',true⟩:=by
 have un:∀{es:List Ex} {ts:List Tok},Pr 0 es ts->∀(i:Nat) (a:Int),∃a',iJ x y ⟨i,0,a,false⟩ ts=⟨i+ts.length,0,a',true⟩:=λh i a=>⟨a,lF h rfl i a⟩
 have bi:∀{ts us:List Tok} {o:Tok},o.sym≠[40]->o.sym≠[41]->gW o.sym=false->(∀(i:Nat) (a:Int),∃a',iJ x y ⟨i,0,a,false⟩ ts=⟨i+ts.length,0,a',true⟩)->(∀(i:Nat) (a:Int),∃a',iJ x y ⟨i,0,a,false⟩ us=⟨i+us.length,0,a',true⟩)->∀(i:Nat) (a:Int),∃a',iJ x y ⟨i,0,a,false⟩ (ts++o::us)=⟨i+(ts++o::us).length,0,a',true⟩:=by
  intro ts us o n1 n2 n3 h1 h2 i a
  obtain⟨a1,e1⟩:=h1 i a
  rw[fd,e1,eF]
  by_cases c:x=o.sym\/y=o.sym
  ·rw[rY n1 n2 ⟨rfl,rfl,c.imp Eq.symm Eq.symm⟩,n3]
   obtain⟨a2,e2⟩:=h2 (i+ts.length+1) ((i+ts.length:Nat):Int)
   exact⟨a2,by rw[e2];exact jo yaf rfl⟩
  ·rw[kH n1 n2 (λd=>c (d.2.2.imp Eq.symm Eq.symm)),n3]
   obtain⟨a2,e2⟩:=h2 (i+ts.length+1) a1
   exact⟨a2,by rw[e2];exact jo yaf rfl⟩
 induction h with
 |up01 _ ih=>exact λ_=>ih xab
 |up12 _ ih=>exact λ_=>ih xab
 |@add a0 b0 ts us o _ ho _ ih1 ih2=>
  exact λ_=>bi (by rcases ho with c|c<;>rw[c]<;>decide) (by rcases ho with c|c<;>rw[c]<;>decide) (by rcases ho with c|c<;>rw[c]<;>decide) (ih1 xab) (ih2 xab)
 |@mul a0 b0 ts us o _ ho _ ih1 ih2=>
  exact λ_=>bi (by rcases ho with c|c<;>rw[c]<;>decide) (by rcases ho with c|c<;>rw[c]<;>decide) (by rcases ho with c|c<;>rw[c]<;>decide) (ih1 xab) (ih2 xab)
 |arg1 _ _=>intro h;omega
 |argM _ _ _ _ _=>intro h;omega
 |neg ho h1 _=>exact λ_=>un (.neg ho h1)
 |num h=>exact λ_=>un (.num h)
 |name h=>exact λ_=>un (.name h)
 |par h1 h2 h3 _=>exact λ_=>un (.par h1 h2 h3)
 |call0 h1 h2 h3=>exact λ_=>un (.call0 h1 h2 h3)
 |call h1 h2 h3 h4 _=>exact λ_=>un (.call h1 h2 h3 h4)
 |key1 h1 h2 h3 h4 _=>exact λ_=>un (.key1 h1 h2 h3 h4)
 |key2 h1 h2 h3 h4 h5 h6 _ _=>exact λ_=>un (.key2 h1 h2 h3 h4 h5 h6)
 |key3 h1 h2 h3 h4 h5 h6 h7 h8 _ _ _=>exact λ_=>un (.key3 h1 h2 h3 h4 h5 h6 h7 h8)
 |keyN h1 h2 h3 h4 h5 h6 _=>exact λ_=>un (.keyN h1 h2 h3 h4 h5 h6)
 |put h1 h2 h3 h4 h5 h6 h7 h8 _=>exact λ_=>un (.put h1 h2 h3 h4 h5 h6 h7 h8)
 |grad h1 h2 h3 h4 h5 h6 _=>exact λ_=>un (.grad h1 h2 h3 h4 h5 h6)
 |jvp h1 h2 h3 h4 h5 h6 h7 h8 _ _=>exact λ_=>un (.jvp h1 h2 h3 h4 h5 h6 h7 h8)
def opM (x y:List UInt8)(ts:List Tok):Int:=(iJ x y ⟨0,0,-1,false⟩ ts).at_
theorem j8 {e:Ex}(h:Pr 0 [e] ts):opM x y ts=-1:=by
 unfold opM
 rw[lF h rfl]
theorem zN {e:Ex}(h:Pr 1 [e] ts):opM [43] [45] ts=-1:=by
 unfold opM
 rw[wj h rfl]
theorem FT {a b:Ex}(h1:Pr 2 [a] ts)(ho:o.sym=[43]\/o.sym=[45])(h2:Pr 1 [b] us):opM [43] [45] (ts++o::us)=(ts.length:Int):=by
 unfold opM
 obtain⟨a',e⟩:=zM (x:=[43]) (y:=[45]) h1 xab 0 (-1)
 rw[fd,e,eF,rY (by rcases ho with c|c<;>rw[c]<;>decide) (by rcases ho with c|c<;>rw[c]<;>decide) ⟨rfl,rfl,ho⟩,show gW o.sym=false by rcases ho with c|c<;>rw[c]<;>decide,wj h2 rfl]
 simp
theorem FU {a b:Ex}(h1:Pr 1 [a] ts)(ho:o.sym=[42]\/o.sym=[47])(h2:Pr 0 [b] us):opM [42] [47] (ts++o::us)=(ts.length:Int):=by
 unfold opM
 obtain⟨a',e⟩:=zM (x:=[42]) (y:=[47]) h1 xab 0 (-1)
 rw[fd,e,eF,rY (by rcases ho with c|c<;>rw[c]<;>decide) (by rcases ho with c|c<;>rw[c]<;>decide) ⟨rfl,rfl,ho⟩,show gW o.sym=false by rcases ho with c|c<;>rw[c]<;>decide,lF h2 rfl]
 simp
def cm (d:Int):List Tok->Option Int
 |[]=>some d
 |t::ts=>if t.sym=[40] then cm (d+1) ts else if t.sym=[41] then cm (d-1) ts else if t.sym=[44]/\d=0 then none else cm d ts
theorem gA {d:Int}(h:t.sym=[40]):cm d (t::ts)=cm (d+1) ts:=by rw[cm,if_pos h]
theorem gB {d:Int}(h:t.sym=[41]):cm d (t::ts)=cm (d-1) ts:=by rw[cm,if_neg (by rw[h];decide),if_pos h]
theorem ve {d:Int}(h1:t.sym≠[40])(h2:t.sym≠[41])(h3:t.sym≠[44]):cm d (t::ts)=cm d ts:=by rw[cm,if_neg h1,if_neg h2,if_neg (λc=>h3 c.1)]
theorem gG {d:Int}(h:t.sym=x)(hx:x≠[40]/\x≠[41]/\x≠[44]:=by decide):cm d (t::ts)=cm d ts:=by subst h;exact ve hx.1 hx.2.1 hx.2.2
theorem jJ {d:Int}(h:t.sym=x\/t.sym=y)(hx:x≠[40]/\x≠[41]/\x≠[44]:=by decide)(hy:y≠[40]/\y≠[41]/\y≠[44]:=by decide):cm d (t::ts)=cm d ts:=by rcases h with h|h<;>exact gG h ‹_›
theorem it {d:Int}(h:t.sym=[44])(hd:d≠0):cm d (t::ts)=cm d ts:=by rw[cm,if_neg (by rw[h];decide),if_neg (by rw[h];decide),if_neg (λc=>hd c.2)]
theorem fO:∀(a b:List Tok) (d e:Int),cm d a=some e->cm d (a++b)=cm e b
 |[],b,d,e,h=>by cases h;rfl
 |t::a,b,d,e,h=>by
  rw[List.cons_append]
  by_cases h1:t.sym=[40]
  ·rw[gA h1] at h ⊢;exact fO a b _ _ h
  ·by_cases h2:t.sym=[41]
   ·rw[gB h2] at h ⊢;exact fO a b _ _ h
   ·by_cases h3:t.sym=[44]
    ·by_cases h4:d=0
     ·rw[cm,if_neg h1,if_neg h2,if_pos ⟨h3,h4⟩] at h;cases h
     ·rw[it h3 h4] at h ⊢;exact fO a b _ _ h
    ·rw[ve h1 h2 h3] at h ⊢;exact fO a b _ _ h
theorem gQ (d:Int):cm d []=some d:=rfl
theorem Cz {es:List Ex}(h:Pr n es ts):∀d:Int,0<d->cm d ts=some d:=by
 induction h with
 |up01 _ ih=>exact ih
 |up12 _ ih=>exact ih
 |arg1 _ ih=>exact ih
 |@add a b ts us o _ ho _ ih1 ih2=>
  intro d hd
  rw[fO _ _ _ _ (ih1 _ hd),jJ ho,ih2 _ hd]
 |@mul a b ts us o _ ho _ ih1 ih2=>
  intro d hd
  rw[fO _ _ _ _ (ih1 _ hd),jJ ho,ih2 _ hd]
 |@neg e ts o ho _ ih=>
  intro d hd
  rw[gG ho,ih _ hd]
 |@num t ht=>
  intro d hd
  rw[jJ ht,gQ]
 |@name t ht=>
  intro d hd
  rw[gG ht,gQ]
 |@par e ts l r hl _ hr ih=>
  intro d hd
  have hd1:0<d+1:=xaa
  rw[gA hl,fO _ _ _ _ (ih _ hd1),gB hr,gQ]
  congr 1;omega
 |@call0 t l r ht hl hr=>
  intro d hd
  have hd1:0<d+1:=xaa
  rw[gG ht,gA hl,gB hr,gQ]
  congr 1;omega
 |@call es ts t l r ht hl _ hr ih=>
  intro d hd
  have hd1:0<d+1:=xaa
  rw[gG ht,gA hl,fO _ _ _ _ (ih _ hd1),gB hr,gQ]
  congr 1;omega
 |@argM es e ts us c _ hc _ ih1 ih2=>
  intro d hd
  rw[fO _ _ _ _ (ih1 _ hd),it hc xaa,ih2 _ hd]
 |@key1 e ts k l r hk hl _ hr ih=>
  intro d hd
  have hd1:0<d+1:=xaa
  rw[jJ hk,gA hl,fO _ _ _ _ (ih _ hd1),gB hr,gQ]
  congr 1;omega
 |@key2 a b ts us k l c r hk hl _ hc _ hr ih1 ih2=>
  intro d hd
  have hd1:0<d+1:=xaa
  rw[jJ hk,gA hl,fO _ _ _ _ (ih1 _ hd1),it hc xaa,fO _ _ _ _ (ih2 _ hd1),gB hr,gQ]
  congr 1;omega
 |@key3 a b d0 ts us ws k l c c2 r hk hl _ hc _ hc2 _ hr ih1 ih2 ih3=>
  intro d hd
  have hd1:0<d+1:=xaa
  rw[gG hk,gA hl,fO _ _ _ _ (ih1 _ hd1),it hc xaa,fO _ _ _ _ (ih2 _ hd1),it hc2 xaa,fO _ _ _ _ (ih3 _ hd1),gB hr,gQ]
  congr 1;omega
 |@keyN e ts k l c n0 r hk hl _ hc hn hr ih=>
  intro d hd
  have hd1:0<d+1:=xaa
  rw[jJ hk,gA hl,fO _ _ _ _ (ih _ hd1),it hc xaa,gG hn,gB hr,gQ]
  congr 1;omega
 |@put e ts k l c i0 c2 n0 r hk hl _ hc hi hc2 hn hr ih=>
  intro d hd
  have hd1:0<d+1:=xaa
  rw[gG hk,gA hl,fO _ _ _ _ (ih _ hd1),it hc xaa,gG hi,it hc2 xaa,gG hn,gB hr,gQ]
  congr 1;omega
 |@grad e ts k l c x0 r hk hl _ hc hn hr ih=>
  intro d hd
  have hd1:0<d+1:=xaa
  rw[gG hk,gA hl,fO _ _ _ _ (ih _ hd1),it hc xaa,gG hn,gB hr,gQ]
  congr 1;omega
 |@jvp e d0 ts us k l c x0 c2 r hk hl _ hc hn hc2 _ hr ih1 ih2=>
  intro d hd
  have hd1:0<d+1:=xaa
  rw[gG hk,gA hl,fO _ _ _ _ (ih1 _ hd1),it hc xaa,gG hn,it hc2 xaa,fO _ _ _ _ (ih2 _ hd1),gB hr,gQ]
  congr 1;omega
theorem iV {es:List Ex}(h:Pr n es ts):n<=2->cm 0 ts=some 0:=by
 have dp:∀{n:Nat} {es:List Ex} {ts:List Tok},Pr n es ts->cm (0+1) ts=some (0+1):=λh=>Cz h _ xab
 induction h with
 |up01 _ ih=>exact λ_=>ih xab
 |up12 _ ih=>exact λ_=>ih xab
 |arg1 _ _=>intro h;omega
 |argM _ _ _ _ _=>intro h;omega
 |@add a b ts us o _ ho _ ih1 ih2=>
  intro _
  rw[fO _ _ _ _ (ih1 xab),jJ ho,ih2 xab]
 |@mul a b ts us o _ ho _ ih1 ih2=>
  intro _
  rw[fO _ _ _ _ (ih1 xab),jJ ho,ih2 xab]
 |@neg e ts o ho _ ih=>
  intro _
  rw[gG ho,ih xab]
 |@num t ht=>
  intro _
  rw[jJ ht,gQ]
 |@name t ht=>
  intro _
  rw[gG ht,gQ]
 |@par e ts l r hl h1 hr _=>
  intro _
  rw[gA hl,fO _ _ _ _ (dp h1),gB hr,gQ]
  rfl
 |@call0 t l r ht hl hr=>
  intro _
  rw[gG ht,gA hl,gB hr,gQ]
  rfl
 |@call es ts t l r ht hl h1 hr _=>
  intro _
  rw[gG ht,gA hl,fO _ _ _ _ (dp h1),gB hr,gQ]
  rfl
 |@key1 e ts k l r hk hl h1 hr _=>
  intro _
  rw[jJ hk,gA hl,fO _ _ _ _ (dp h1),gB hr,gQ]
  rfl
 |@key2 a b ts us k l c r hk hl h1 hc h2 hr _ _=>
  intro _
  rw[jJ hk,gA hl,fO _ _ _ _ (dp h1),it hc xab,fO _ _ _ _ (dp h2),gB hr,gQ]
  rfl
 |@key3 a b d0 ts us ws k l c c2 r hk hl h1 hc h2 hc2 h3 hr _ _ _=>
  intro _
  rw[gG hk,gA hl,fO _ _ _ _ (dp h1),it hc xab,fO _ _ _ _ (dp h2),it hc2 xab,fO _ _ _ _ (dp h3),gB hr,gQ]
  rfl
 |@keyN e ts k l c n0 r hk hl h1 hc hn hr _=>
  intro _
  rw[jJ hk,gA hl,fO _ _ _ _ (dp h1),it hc xab,gG hn,gB hr,gQ]
  rfl
 |@put e ts k l c i0 c2 n0 r hk hl h1 hc hi hc2 hn hr _=>
  intro _
  rw[gG hk,gA hl,fO _ _ _ _ (dp h1),it hc xab,gG hi,it hc2 xab,gG hn,gB hr,gQ]
  rfl
 |@grad e ts k l c x0 r hk hl h1 hc hn hr _=>
  intro _
  rw[gG hk,gA hl,fO _ _ _ _ (dp h1),it hc xab,gG hn,gB hr,gQ]
  rfl
 |@jvp e d0 ts us k l c x0 c2 r hk hl h1 hc hn hc2 h2 hr _ _=>
  intro _
  rw[gG hk,gA hl,fO _ _ _ _ (dp h1),it hc xab,gG hn,it hc2 xab,fO _ _ _ _ (dp h2),gB hr,gQ]
  rfl
structure SpS where
 d:Int
 cur:List Tok
 out:List (List Tok)
def gK (q:SpS)(t:Tok):SpS:=
 if t.sym=[40] then⟨q.d+1,q.cur++[t],q.out⟩
 else if t.sym=[41] then⟨q.d-1,q.cur++[t],q.out⟩
 else if t.sym=[44]/\q.d=0 then⟨0,[],q.out++[q.cur]⟩
 else⟨q.d,q.cur++[t],q.out⟩
def jQ (q:SpS)(ts:List Tok):SpS:=ts.foldl gK q
theorem kI (q:SpS)(a b:List Tok):jQ q (a++b)=jQ (jQ q a) b:=by unfold jQ;rw[List.foldl_append]
theorem jd (q:SpS)(t:Tok)(b:List Tok):jQ q (t::b)=jQ (gK q t) b:=rfl
theorem lh:∀(ts:List Tok) (d e:Int) (cur:List Tok) (out:List (List Tok)),cm d ts=some e->jQ ⟨d,cur,out⟩ ts=⟨e,cur++ts,out⟩
 |[],d,e,cur,out,h=>by cases h;show(⟨d,cur,out⟩:SpS)=_;rw[List.append_nil]
 |t::ts,d,e,cur,out,h=>by
  rw[jd]
  by_cases h1:t.sym=[40]
  ·rw[gA h1] at h
   rw[show gK ⟨d,cur,out⟩ t=⟨d+1,cur++[t],out⟩ by unfold gK;rw[if_pos h1],lh ts _ _ _ _ h,List.append_assoc];rfl
  ·by_cases h2:t.sym=[41]
   ·rw[gB h2] at h
    rw[show gK ⟨d,cur,out⟩ t=⟨d-1,cur++[t],out⟩ by unfold gK;rw[if_neg h1,if_pos h2],lh ts _ _ _ _ h,List.append_assoc];rfl
   ·by_cases h3:t.sym=[44]/\d=0
    ·rw[cm,if_neg h1,if_neg h2,if_pos h3] at h;cases h
    ·have h':cm d ts=some e:=by rw[cm,if_neg h1,if_neg h2,if_neg h3] at h;exact h
     rw[show gK ⟨d,cur,out⟩ t=⟨d,cur++[t],out⟩ by unfold gK;rw[if_neg h1,if_neg h2,if_neg h3],lh ts _ _ _ _ h',List.append_assoc];rfl
theorem mX (h:c.sym=[44])(cur:List Tok)(out:List (List Tok)):gK ⟨0,cur,out⟩ c=⟨0,[],out++[cur]⟩:=by
 unfold gK
 rw[if_neg (by rw[h];decide),if_neg (by rw[h];decide),if_pos ⟨h,rfl⟩]
def fx (ts:List Tok):List (List Tok):=if ts=[] then[] else (jQ ⟨0,[],[]⟩ ts).out++[(jQ ⟨0,[],[]⟩ ts).cur]
theorem pB (h1:t.sym≠[40])(h2:t.sym≠[41])(h3:t.sym≠[44]):cm 0 [t]=some 0:=by rw[ve h1 h2 h3];rfl
theorem EO {es:List Ex}(h:Pr n es ts):ts≠[]:=by
 induction h with
 |up01 _ ih=>exact ih
 |up12 _ ih=>exact ih
 |arg1 _ ih=>exact ih
 |_=>simp
theorem FV (hne:ts≠[])(h:cm 0 ts=some 0):fx ts=[ts]:=by
 unfold fx
 rw[if_neg hne,lh ts 0 0 [] [] h];rfl
theorem vf (h:cm 0 ts=some 0)(hc:c.sym=[44])(h2:cm 0 us=some 0):fx (ts++c::us)=[ts,us]:=by
 unfold fx
 rw[if_neg xac,kI,lh ts 0 0 [] [] h,jd,mX hc,lh us 0 0 _ _ h2];rfl
theorem vg {ws:List Tok}{c2:Tok}(h:cm 0 ts=some 0)(hc:c.sym=[44])(h2:cm 0 us=some 0)(hc2:c2.sym=[44])(h3:cm 0 ws=some 0):fx (ts++c::(us++c2::ws))=[ts,us,ws]:=by
 unfold fx
 rw[if_neg xac,kI,lh ts 0 0 [] [] h,jd,mX hc,kI,lh us 0 0 _ _ h2,jd,mX hc2,lh ws 0 0 _ _ h3];rfl
theorem vh {es:List Ex}(h:Pr n es ts):n=3->∃(d:List (List Tok)) (l:List Tok),jQ ⟨0,[],[]⟩ ts=⟨0,l,d⟩/\(d++[l]).length=es.length/\∀i,i<es.length->Pr 2 [es.getD i (.num Tok.zero)] ((d++[l]).getD i []):=by
 induction h with
 |@arg1 e ts h1 _=>
  intro _
  refine⟨[],ts,?_,rfl,λi hi=>?_⟩
  ·rw[lh ts 0 0 [] [] (iV h1 xab)];rfl
  ·obtain rfl:i=0:=by simpa using hi
   exact h1
 |@argM es e ts us c h1 hc h2 ih _=>
  intro _
  obtain⟨d,l,e1,e2,e3⟩:=ih rfl
  refine⟨d++[l],us,?_,by simp at e2 ⊢;omega,λi hi=>?_⟩
  ·rw[kI,e1,jd,mX hc,lh us 0 0 _ _ (iV h2 xab)];rfl
  ·by_cases c:i<es.length
   ·rw[yah,yas c,<-yah,yah (l:=d++[l]++[us]),yas (by rw[e2];exact c),<-yah]
    exact e3 i c
   ·have hi2:i=es.length:=by simp at hi;omega
    subst hi2
    rw[yah,yar yad,yah (l:=d++[l]++[us]),yar (by rw[e2];exact yad),e2,Nat.sub_self]
    exact h2
 |up01 _ _=>intro h;cases h
 |up12 _ _=>intro h;cases h
 |add _ _ _ _ _=>intro h;cases h
 |mul _ _ _ _ _=>intro h;cases h
 |neg _ _ _=>intro h;cases h
 |num _=>intro h;cases h
 |name _=>intro h;cases h
 |par _ _ _ _=>intro h;cases h
 |call0 _ _ _=>intro h;cases h
 |call _ _ _ _ _=>intro h;cases h
 |key1 _ _ _ _ _=>intro h;cases h
 |key2 _ _ _ _ _ _ _ _=>intro h;cases h
 |key3 _ _ _ _ _ _ _ _ _ _ _=>intro h;cases h
 |keyN _ _ _ _ _ _ _=>intro h;cases h
 |put _ _ _ _ _ _ _ _ _=>intro h;cases h
 |grad _ _ _ _ _ _ _=>intro h;cases h
 |jvp _ _ _ _ _ _ _ _ _ _=>intro h;cases h
theorem vi {es:List Ex}(h:Pr 3 es ts):(fx ts).length=es.length/\∀i,i<es.length->Pr 2 [es.getD i (.num Tok.zero)] ((fx ts).getD i []):=by
 obtain⟨d,l,e1,e2,e3⟩:=vh h rfl
 have e:fx ts=d++[l]:=by unfold fx;rw[if_neg (EO h),e1]
 rw[e]
 exact⟨e2,e3⟩
theorem zO (t:List UInt8)(i j:Nat):(gJ t i j).length<=t.length:=by
 unfold gJ
 rw[List.length_take,List.length_drop]
 omega
theorem zP (t:List UInt8)(i:Nat)(h:i<t.length):(nxT t i).text.length<=t.length:=by
 unfold nxT
 split
 ·exact zO t _ _
 ·split
  ·exact zO t _ _
  ·show(jb _).length<=_
   unfold jb
   split<;>simp<;>omega
theorem tI (t:List UInt8)(i:Nat):∀tk∈jr t i,tk.text.length<=t.length:=by
 intro tk hm
 rw[jr] at hm
 split at hm
 ·rename_i h
  split at hm
  ·simp only[List.mem_singleton] at hm
   subst hm
   exact zP t i h
  ·rcases List.mem_cons.1 hm with c|c
   ·subst c;exact zP t i h
   ·exact tI t (skM t (nxE t i)) tk c
 ·cases hm
termination_by t.length-i
decreasing_by
 have:=pz ‹i<t.length›
 have:=mA t (nxE t i)
 omega
theorem CA (t:List UInt8)(j:Nat):((iz t).getD j Tok.zero).text.length<=t.length:=by
 by_cases h:j<(iz t).length
 ·refine tI t (skM t 0) _ ?_
  exact xip
 ·rw[yah,List.getElem?_eq_none xaa]
  exact Nat.zero_le _
end
section
open Go.ChangeShapes Go.WideShapes Go.ChangeAt Go.RowKit Flt
theorem xN:prog.cellsOf 5=1:=by kernel_rfl
theorem zQ:laidOutB prog=true:=by kernel_rfl
theorem vl {H:Type}{enc:TypeId×Value->H}{w:World}{base:Nat}{spare:Nat->Bool}{held:Bool}{a:Option Addr}{n cap:Nat}{d:DataW H}{ps:List MemPlace}
  (h:DataW.Trod enc prog w base spare held 22 (.slice a n cap) d ps):n<=cap/\∃xs,YS w a n xs:=by
 obtain⟨fuel,hf⟩:=h
 rcases Deep.open_slice1 underlying22 xN hf with⟨hcs,_⟩|⟨x,l,c,m,n',V,D,Pl,hcs,_,hl,_,hm,_,hV⟩
 ·simp[Value.cells] at hcs
  obtain⟨rfl,rfl,rfl⟩:=hcs
  exact⟨yad,[],rfl,by simp,.inl rfl⟩
 ·simp[Value.cells] at hcs
  obtain⟨rfl,rfl,rfl⟩:=hcs
  refine⟨hl,?_⟩
  have hlm:n<=m:=by rw[hm];split<;>omega
  have key:∀i,i<n->∃b:Int,w.cell? (x.add i)=some (.int .u8 b)/\0<=b/\b<256:=λi hi=>by
   obtain⟨h1,h2⟩:=hV i xaa
   obtain⟨b,e,hw⟩:=DataW.trod_int underlying5 h2
   simp at e
   have hb:0<=b/\b<256:=by
    have:=hw.2
    simp[Lit.wf,IntKind.min,IntKind.max,IntKind.signed,IntKind.bits] at this
    omega
   exact⟨b,by rw[h1,e],hb.1,hb.2⟩
  obtain⟨f,hf'⟩:=Deep.choose_lt (α:=Int) (p:=λi b=>w.cell? (x.add i)=some (.int .u8 b)/\0<=b/\b<256) key
  refine⟨(List.range n).map f,by simp,?_,?_⟩
  ·intro y hy
   simp only[List.mem_map,List.mem_range] at hy
   obtain⟨i,hi,rfl⟩:=hy
   exact(hf' i hi).2
  ·rcases Nat.eq_zero_or_pos n with h0|h0
   ·exact .inl h0
   ·obtain⟨b,off,spot⟩:=x
    have hspot:spot=none:=by simpa[Addr.add] using World.cell?_spot (hf' 0 h0).1
    subst hspot
    have h2:∀k,k<n->w.cell? ⟨b,off+k,none⟩=some (.int .u8 (((List.range n).map f).getD k 0)):=λk hk=>by
     have h1:=(hf' k hk).1
     rw[show((List.range n).map f).getD k 0=f k by simp[List.getD_eq_getElem?_getD,hk]]
     by_cases hk0:k=0
     ·subst hk0;simpa[Addr.add] using h1
     ·simpa[Addr.add,hk0] using h1
    have hb:=World.block_lt_of_cell? (h:=h2 0 h0)
    exact .inr ⟨b,off,rfl,hb,h2⟩
