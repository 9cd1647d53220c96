import Derived.Test.YtnlffngpnoodkaaGreatP30
import Derived.Test.YtnlffngpnoodkaaGreatP20
namespace Go.Proofs.YtnlffngpnoodkaaGreat
set_option maxRecDepth 1000000
set_option maxHeartbeats 0
section
open Go.RowKit Flt
variable {x y x' K y':Nat} {xs ys xa xb xc ya yb yc:List Nat} {op len C:Int}
theorem wN (hx:x<18446744073709551616)(hy:y<18446744073709551616)(h:fb x=fb y):fb (Op.negFloat .f64 x)=fb (Op.negFloat .f64 y):=by
 rcases lP h with rfl|⟨a,b⟩
 ·rfl
 ·have key:∀z,z<18446744073709551616->(f64.read z).isNaN=true->(f64.read (Op.negFloat .f64 z)).isNaN=true:=λz hz hn=>by
   obtain⟨s,r,hr,rfl⟩:=mI z hz
   rw[rn s hr]
   rcases Nat.lt_or_ge 9218868437227405312 r with c|c
   ·rw[show f64.read (W (!s) r)=_ from oq c hr];rfl
   ·have:=zT (s:=s) c
    rw[sb,hn] at this
    cases this
  exact ru (key x hx a) (key y hy b)
theorem qW (h:fb x=fb x')(h':fb y=fb y'):fb (jZ x y)=fb (jZ x' y'):=by
 have e:FloatKind.f64.format.order x y=FloatKind.f64.format.order x' y':=jV h h'
 unfold jZ
 rw[e]
 split
 ·exact h
 ·exact h'
theorem sT {z z':Nat}(h:fb x=fb x')(h':fb y=fb y')(h'':fb z=fb z'):fb (jz x y z)=fb (jz x' y' z'):=by
 have e:FloatKind.f64.format.order x 0=FloatKind.f64.format.order x' 0:=jV h rfl
 unfold jz
 rw[e]
 split
 ·exact h'
 ·exact h''
theorem wO (h:fb x=fb y):fb (oC x)=fb (oC y):=by
 have e1:FloatKind.f64.format.order x x=FloatKind.f64.format.order y y:=jV h h
 have e2:FloatKind.f64.format.order x 4652007308841189376=FloatKind.f64.format.order y 4652007308841189376:=jV h rfl
 have e3:FloatKind.f64.format.order x 13875379345695965184=FloatKind.f64.format.order y 13875379345695965184:=jV h rfl
 unfold oC
 rw[e1,e2,e3,jt .quo h rfl]
 split
 ·exact h
 ·rfl
theorem ve (h:same xs ys)(h0:0<xs.length):fb (kP xs)=fb (kP ys):=by
 have hl:=jY h
 have key:∀k,0<k->k<=xs.length->fb (kP (xs.take k))=fb (kP (ys.take k)):=λk=>by
  induction k with
  |zero=>intro c;omega
  |succ k ih=>
   intro _ hk
   rcases Nat.eq_zero_or_pos k with c|c
   ·subst c
    rw[mZ xs h0,mZ ys (by omega)]
    exact jk h 0
   ·rw[mt xs k c (by omega),mt ys k c (by omega),jt .add (ih c (by omega)) (jk h k)]
 have:=key xs.length h0 (Nat.le_refl _)
 rw[List.take_of_length_le (Nat.le_refl _),List.take_of_length_le (by omega)] at this
 exact this
theorem AQ {la lb lc:Nat}(h:iA op len C la lb lc=true)(h9:op=9):0<la:=by
 subst h9
 simp[iA,im,cnt,iJ] at h
 omega
theorem vf {k:Nat}(ha:same xa ya)(hb:same xb yb)(hc:same xc yc)(la:∀x∈xa,x<18446744073709551616)(la':∀x∈ya,x<18446744073709551616)(h9:op=9->0<xa.length):
  fb (iF op C K xa xb xc k)=fb (iF op C K ya yb yc k):=by
 unfold iF
 by_cases c:op=1
 ·rw[if_pos c,if_pos c]
 rw[if_neg c,if_neg c]
 clear c
 by_cases c:op=2
 ·rw[if_pos c,if_pos c]
  exact congrArg fb (jt .add (jk ha k) (jk hb k))
 rw[if_neg c,if_neg c]
 clear c
 by_cases c:op=3
 ·rw[if_pos c,if_pos c]
  exact congrArg fb (jt .sub (jk ha k) (jk hb k))
 rw[if_neg c,if_neg c]
 clear c
 by_cases c:op=4
 ·rw[if_pos c,if_pos c]
  exact congrArg fb (jt .mul (jk ha k) (jk hb k))
 rw[if_neg c,if_neg c]
 clear c
 by_cases c:op=5
 ·rw[if_pos c,if_pos c]
  exact congrArg fb (jt .quo (jk ha k) (jk hb k))
 rw[if_neg c,if_neg c]
 clear c
 by_cases c:op=6
 ·rw[if_pos c,if_pos c]
  exact wN (iE la k) (iE la' k) (jk ha k)
 rw[if_neg c,if_neg c]
 clear c
 by_cases c:op=7
 ·rw[if_pos c,if_pos c]
  exact qW (jk ha k) (jk hb k)
 rw[if_neg c,if_neg c]
 clear c
 by_cases c:op=8
 ·rw[if_pos c,if_pos c]
  exact sT (jk ha k) (jk hb k) (jk hc k)
 rw[if_neg c,if_neg c]
 clear c
 by_cases c:op=9
 ·rw[if_pos c,if_pos c]
  exact ve ha (h9 c)
 rw[if_neg c,if_neg c]
 clear c
 by_cases c:op=10
 ·rw[if_pos c,if_pos c]
  exact jk ha 0
 rw[if_neg c,if_neg c]
 clear c
 by_cases c:op=11
 ·rw[if_pos c,if_pos c]
  exact jk ha _
 rw[if_neg c,if_neg c]
 clear c
 by_cases c:op=12
 ·rw[if_pos c,if_pos c]
  by_cases d:k=C.toNat
  ·rw[if_pos d,if_pos d]
   exact jk ha 0
  ·rw[if_neg d,if_neg d]
 rw[if_neg c,if_neg c]
 exact wO (jk ha k)
theorem qr (ha:same xa ya)(hb:same xb yb)(hc:same xc yc)(la:∀x∈xa,x<18446744073709551616)(la':∀x∈ya,x<18446744073709551616):
  same (lB op len C K xa xb xc) (lB op len C K ya yb yc):=by
 unfold lB
 rw[<-jY ha,<-jY hb,<-jY hc]
 cases hf:iA op len C xa.length xb.length xc.length
 ·rfl
 ·rw[if_pos rfl,if_pos rfl]
  refine vF (by simp) λk hk=>?_
  have hk':k<len.toNat:=by simpa using hk
  have e:=vf (op:=op) (C:=C) (K:=K) (k:=k) ha hb hc la la' (λh9=>AQ hf h9)
  simpa[List.getD_eq_getElem?_getD,hk'] using e
theorem qs {zs:List Nat}(h:same xs ys)(h':same ys zs):same xs zs:=Eq.trans h h'
def one (xss:List (List Nat))(v:Vl)(Vs:List (List Nat)):List Nat:=
 if v.op=0 then xss.getD v.a.toNat [] else
  lB v.op v.len v.c v.k (if 0<cnt v.op then Vs.getD v.a.toNat [] else[]) (if 1<cnt v.op then Vs.getD v.b.toNat [] else[]) (if 2<cnt v.op then Vs.getD v.c.toNat [] else[])
def io (xss:List (List Nat))(vs:List Vl):Nat->List (List Nat)
 |0=>[]
 |i+1=>io xss vs i++[one xss (vs.getD i Vl.zero) (io xss vs i)]
theorem kJ (xss:List (List Nat))(vs:List Vl):∀i,(io xss vs i).length=i
 |0=>rfl
 |i+1=>by rw[io,List.length_append,kJ xss vs i];rfl
theorem lH (xss:List (List Nat))(vs:List Vl){i j:Nat}(h:j<i):(io xss vs (i+1)).getD j []=(io xss vs i).getD j []:=by
 rw[io,List.getD_eq_getElem?_getD,List.getElem?_append_left (by rw[kJ];exact h),<-List.getD_eq_getElem?_getD]
theorem lI (xss:List (List Nat))(vs:List Vl)(i:Nat):(io xss vs (i+1)).getD i []=one xss (vs.getD i Vl.zero) (io xss vs i):=by
 rw[io,List.getD_eq_getElem?_getD,List.getElem?_append_right (by rw[kJ];exact Nat.le_refl _),kJ,Nat.sub_self];rfl
theorem mA (xss:List (List Nat))(vs:List Vl){i j:Nat}:∀n,j<i->(io xss vs (i+n)).getD j []=(io xss vs i).getD j []
 |0,_=>rfl
 |n+1,h=>by rw[<-Nat.add_assoc,lH _ _ (by omega)];exact mA xss vs n h
def inB (ins:List Int)(xss:List (List Nat)):Bool:=decide (xss.length=ins.length)&&(List.range ins.length).all λi=>((xss.getD i []).length:Int)==ins.getD i 0
theorem yp (h:iA op len C xa.length xb.length xc.length=true):(lB op len C K xa xb xc).length=len.toNat:=by
 unfold lB;rw[if_pos h];simp
theorem jU {ins:List Int}{vs:List Vl}{xss:List (List Nat)}(hi:inB ins xss=true):∀i,(List.range i).all (okV ins vs)=true->∀j,j<i->(((io xss vs i).getD j []).length:Int)=(vs.getD j Vl.zero).len
 |0,_,j,hj=>by omega
 |i+1,h,j,hj=>by
  have hr:(List.range i).all (okV ins vs)=true:=by rw[List.range_succ,List.all_append] at h;rw[Bool.and_eq_true] at h;exact h.1
  have ih:=jU hi i hr
  by_cases e:j<i
  ·rw[lH _ _ e];exact ih j e
  ·have:j=i:=by omega
   subst this
   rw[lI]
   have ho:okV ins vs j=true:=List.all_eq_true.1 h j (List.mem_range.2 (Nat.lt_succ_self _))
   have hlen:=ja ho
   unfold okV at ho
   generalize vs.getD j Vl.zero=v at ho hlen ⊢
   rw[Bool.and_eq_true,Bool.and_eq_true] at ho
   obtain⟨⟨h1,h2⟩,h3⟩:=ho
   unfold one
   by_cases h0:v.op=0
   ·rw[if_pos h0] at h3 ⊢
    rw[Bool.and_eq_true] at h3
    have ha:=of_decide_eq_true h3.1
    unfold inB at hi
    rw[Bool.and_eq_true] at hi
    have hx:=List.all_eq_true.1 hi.2 v.a.toNat (List.mem_range.2 (by omega))
    rw[beq_iff_eq.1 hx]
    exact(beq_iff_eq.1 h3.2).symm
   ·rw[if_neg h0] at h3 ⊢
    rw[Bool.and_eq_true] at h3
    have hq:=h3.1
    have hs:=h3.2
    have hc:=jo v.op
    have key:∀o,iL o j=true->(((io xss vs j).getD o.toNat []).length:Int)=(vs.getD o.toNat Vl.zero).len:=λo ho=>by
     have:=of_decide_eq_true ho
     exact ih o.toNat (by omega)
    rw[yp]
    ·omega
    ·unfold iA
     rw[h1,Bool.true_and]
     unfold iV at hq hs
     rcases (by omega:cnt v.op=0\/cnt v.op=1\/cnt v.op=2\/cnt v.op=3) with e|e|e|e
     ·rw[e] at hs ⊢;exact hs
     ·rw[e] at hq hs ⊢
      simp only[List.take_succ_cons,List.take_zero,List.all_cons,List.all_nil,Bool.and_true,List.map_cons,List.map_nil] at hq hs ⊢
      rw[if_pos (by omega),key _ hq]
      exact hs
     ·rw[e] at hq hs ⊢
      simp only[List.take_succ_cons,List.take_zero,List.all_cons,List.all_nil,Bool.and_true,Bool.and_eq_true,List.map_cons,List.map_nil] at hq hs ⊢
      rw[if_pos (by omega),if_pos (by omega),key _ hq.1,key _ hq.2]
      exact hs
     ·rw[e] at hq hs ⊢
      simp only[List.take_succ_cons,List.take_zero,List.all_cons,List.all_nil,Bool.and_true,Bool.and_eq_true,List.map_cons,List.map_nil] at hq hs ⊢
      rw[if_pos (by omega),if_pos (by omega),if_pos (by omega),key _ hq.1,key _ hq.2.1,key _ hq.2.2]
      exact hs
end
section
open Go.RowKit Flt Ieee
variable {m n b k q i N' N:Nat} {us fs vs r:List Vl} {ins:List Int} {B y:Int} {Z D:Nat->Nat->Int} {xss:List (List Nat)} {T:Nat->Int}
def FZ (x:Nat)(z:Int):Prop:=∃s r m,r<9218868437227405312/\x=W s r/\z=sg s m/\val r=m*p2 1074
theorem AS {a:Nat}(h:a<=b):p2 a<=p2 b:=lN h
theorem pM {r:Nat}(h:val r=m*p2 1074)(hm:m<9007199254740992):r<9218868437227405312:=by
 apply pW
 have h1:val r<p2 53*p2 1074:=by
  rw[h]
  exact Nat.mul_lt_mul_of_pos_right (show m<p2 53 from hm) (mH _)
 rw[<-kg] at h1
 exact Nat.lt_of_lt_of_le h1 (AS (by decide))
theorem FJ (t:Nat)(ht:t<9007199254740992)(k:Nat):∃r,val r=t*p2 k:=rep t ht k
theorem AT (t:Nat)(ht:t<9007199254740992):∃r,val r=t*p2 1074:=FJ t ht 1074
theorem yq (z:Int):∃s,z=sg s z.natAbs:=by
 rcases Int.lt_or_le z 0 with h|h
 ·exact⟨true,by unfold sg;simp;omega⟩
 ·exact⟨false,by unfold sg;simp;omega⟩
theorem yr {x:Nat}{z:Int}(h:FZ x z):x<18446744073709551616:=by
 obtain⟨s,r,m,hr,rfl,_,_⟩:=h
 exact wn (by omega)
theorem vg {x:Nat}{z:Int}(h:FZ x z):(f64.read x).isNaN=false:=by
 obtain⟨s,r,m,hr,rfl,_,_⟩:=h
 rw[show f64.read (W s r)=_ from jH hr];rfl
theorem pj {a:Nat}{x:Int}(ha:FZ a x)(hb:FZ b y)(h:(x+y).natAbs<9007199254740992):FZ (cop .add a b) (x+y):=by
 obtain⟨s,r,m,hr,rfl,hx,hm⟩:=ha
 obtain⟨t,q,n,hq,rfl,hy,hn⟩:=hb
 obtain⟨p,hp⟩:=AT (x+y).natAbs h
 have hpf:=pM hp h
 obtain⟨v,hv⟩:=yq (x+y)
 let u:Bool:=if x+y=0 then (s&&t) else v
 have hu:x+y=sg u (x+y).natAbs:=by
  show _=sg (if x+y=0 then (s&&t) else v) _
  by_cases c:x+y=0
  ·rw[c];unfold sg;simp
  ·rw[if_neg c];exact hv
 have e:double.add (W s r) (W t q)=some (W u p):=by
  refine rt hr hq hpf ?_ λh0=>?_
  ·rw[hm,hn,hp,kR,kR,kR,<-hu,<-hx,<-hy,Int.add_mul]
  ·have:x+y=0:=by
    rw[h0,kQ] at hp
    rcases Nat.mul_eq_zero.1 hp.symm with c|c
    ·omega
    ·have:=mH 1074;omega
   show(if x+y=0 then (s&&t) else v)=_
   rw[if_pos this]
 refine⟨u,p,(x+y).natAbs,hpf,?_,hu,hp⟩
 show((double.add (W s r) (W t q)).getD _)=_
 rw[e];rfl
theorem vh {a:Nat}{x:Int}(ha:FZ a x):FZ (Op.negFloat .f64 a) (-x):=by
 obtain⟨s,r,m,hr,rfl,hx,hm⟩:=ha
 exact⟨!s,r,m,hr,rn s (by omega),by rw[xB,hx],hm⟩
theorem yt {a:Nat}{x:Int}(ha:FZ a x)(hb:FZ b y)(h:(x-y).natAbs<9007199254740992):FZ (cop .sub a b) (x-y):=by
 obtain⟨s,r,m,hr,rfl,hx,hm⟩:=ha
 obtain⟨t,q,n,hq,rfl,hy,hn⟩:=hb
 obtain⟨p,hp⟩:=AT (x-y).natAbs h
 have hpf:=pM hp h
 obtain⟨v,hv⟩:=yq (x-y)
 let u:Bool:=if x-y=0 then (s&&!t) else v
 have hu:x-y=sg u (x-y).natAbs:=by
  show _=sg (if x-y=0 then (s&&!t) else v) _
  by_cases c:x-y=0
  ·rw[c];unfold sg;simp
  ·rw[if_neg c];exact hv
 have e:double.sub (W s r) (W t q)=some (W u p):=by
  refine wo hr hq hpf ?_ λh0=>?_
  ·rw[hm,hn,hp,kR,kR,kR,<-hu,<-hx,<-hy,Int.sub_mul]
  ·have:x-y=0:=by
    rw[h0,kQ] at hp
    rcases Nat.mul_eq_zero.1 hp.symm with c|c
    ·omega
    ·have:=mH 1074;omega
   show(if x-y=0 then (s&&!t) else v)=_
   rw[if_pos this]
 refine⟨u,p,(x-y).natAbs,hpf,?_,hu,hp⟩
 show((double.sub (W s r) (W t q)).getD _)=_
 rw[e];rfl
theorem B8 (s t:Bool)(m n:Nat):sg s m*sg t n=sg (s ^^ t) (m*n):=by
 unfold sg
 cases s<;>cases t<;>simp[Int.neg_mul,Int.mul_neg]
theorem sU {a:Nat}{x:Int}(ha:FZ a x)(hb:FZ b y)(h:(x*y).natAbs<9007199254740992):FZ (cop .mul a b) (x*y):=by
 obtain⟨s,r,m,hr,rfl,hx,hm⟩:=ha
 obtain⟨t,q,n,hq,rfl,hy,hn⟩:=hb
 have e0:x*y=sg (s ^^ t) (m*n):=by rw[hx,hy,B8]
 rw[e0,oV] at h
 obtain⟨p,hp⟩:=AT (m*n) h
 have hpf:=pM hp h
 refine⟨s ^^ t,p,m*n,hpf,?_,e0,hp⟩
 have e:double.mul (W s r) (W t q)=some (W (s ^^ t) p):=by
  refine ro hr hq hpf ?_
  rw[hm,hn,hp]
  generalize p2 1074=z
  ac_rfl
 show((double.mul (W s r) (W t q)).getD _)=_
 rw[e];rfl
theorem qt {a:Nat}{x:Int}(ha:FZ a x)(hb:FZ b y):f64.order a b=some (compare x y):=by
 obtain⟨s,r,m,hr,rfl,hx,hm⟩:=ha
 obtain⟨t,q,n,hq,rfl,hy,hn⟩:=hb
 show double.order _ _=_
 rw[nF hr hq,hm,hn,kR,kR,mh _ _ _ (mH _),hx,hy]
theorem lk (z:Int)(h:z.natAbs<9007199254740992):FZ (floatOfInt .f64 z) z:=by
 obtain⟨p,hp⟩:=AT z.natAbs h
 have hpf:=pM hp h
 refine⟨decide (z<0),p,z.natAbs,hpf,?_,?_,hp⟩
 ·show double.nearest (decide (z<0)) z.natAbs 0=_
  exact kH _ _ _ p 1074 0 hpf (by rw[hp,show p2 0=1 from rfl,Nat.mul_one]) (by omega)
 ·unfold sg
  by_cases c:z<0
  ·rw[decide_eq_true c,if_pos rfl];omega
  ·rw[decide_eq_false c,if_neg (by simp)];omega
def zf (a:Nat):Int:=((double.read a).toInt .zero).getD 0
theorem rI {a:Nat}{x:Int}(h:FZ a x):zf a=x:=by
 obtain⟨s,r,m,hr,rfl,hx,hm⟩:=h
 unfold zf
 rw[tF hr hm,hx];rfl
def okW (m a:Nat):Bool:=!(f64.order a a !=some .eq)&&(!(f64.order a m==some .gt)&&!(f64.order a (Op.negFloat .f64 m)==some .lt))
theorem yu {a:Nat}{M x:Int}(hm:FZ m M)(h:FZ a x):okW m a=decide (-M<=x/\x<=M):=by
 unfold okW
 rw[qt h h,qt h hm,qt h (vh hm),Int.compare_eq_eq.2 rfl,Bool.eq_iff_iff]
 simp only[bne_self_eq_false,Bool.not_false,Bool.true_and,Bool.and_eq_true,Bool.not_eq_true',beq_eq_false_iff_ne,ne_eq,Option.some.injEq,Int.compare_eq_gt,Int.compare_eq_lt,decide_eq_true_eq]
 omega
theorem uj (neg:Bool)(n drop:Nat):n/(1<<<min drop (n.log2+2))<=Ieee.Toward.cut .even neg n drop:=by
 unfold Ieee.Toward.cut
 simp only
 exact Nat.le_add_right _ _
theorem yv (s:Bool)(mag:Nat)(place:Int)(h0:mag≠0)(h:53<=place+(mag.log2:Int)):∃r,double.nearest s mag place=W s r/\4845873199050653696<=r/\r<=9218868437227405312:=by
 unfold Ieee.Format.nearest
 rw[if_neg h0]
 simp only[rY,rW,nD,on,rX]
 have hm:2 ^ mag.log2<=mag:=Nat.log2_self_le h0
 generalize hL:mag.log2=L at*
 have hl:max (place+(L:Int)-((52:Nat):Int)) (-1074)=place+L-52:=by omega
 rw[hl]
 have hk:=uj s (mag<<<(place-(place+L-52)).toNat) (place+(L:Int)-52-place).toNat
 have hb:4503599627370496<=Ieee.Toward.cut .even s (mag<<<(place-(place+L-52)).toNat) (place+(L:Int)-52-place).toNat:=by
  refine Nat.le_trans ?_ hk
  rw[Nat.shiftLeft_eq,Nat.shiftLeft_eq,Nat.one_mul]
  rcases Nat.le_total L 52 with c|c
  ·rw[show(place-(place+(L:Int)-52)).toNat=52-L by omega,show(place+(L:Int)-52-place).toNat=0 by omega,Nat.zero_min,Nat.pow_zero,Nat.div_one]
   have:2 ^ L*2 ^ (52-L)<=mag*2 ^ (52-L):=Nat.mul_le_mul_right _ hm
   rw[<-Nat.pow_add,show L+(52-L)=52 by omega] at this
   exact this
  ·rw[show(place-(place+(L:Int)-52)).toNat=0 by omega,show(place+(L:Int)-52-place).toNat=L-52 by omega,Nat.pow_zero,Nat.mul_one,hL,Nat.min_eq_left (by omega)]
   refine(Nat.le_div_iff_mul_le (Nat.two_pow_pos _)).2 ?_
   rw[show 4503599627370496=2 ^ 52 by decide,<-Nat.pow_add,show 52+(L-52)=L by omega]
   exact hm
 generalize Ieee.Toward.cut .even s (mag<<<(place-(place+L-52)).toNat) (place+(L:Int)-52-place).toNat=K at*
 refine⟨_,rfl,?_,Nat.min_le_right _ _⟩
 have:1075<=(place+(L:Int)-52- -1074).toNat:=by omega
 omega
theorem vR (hm:0<m):(m*p2 k).log2=m.log2+k:=kS hm
theorem vi {a:Nat}{x:Int}(ha:FZ a x)(hb:FZ b y)(h:9007199254740992<=(x*y).natAbs):∃u r,cop .mul a b=W u r/\4845873199050653696<=r/\r<=9218868437227405312:=by
 obtain⟨s,r,m,hr,rfl,hx,hm⟩:=ha
 obtain⟨t,q,n,hq,rfl,hy,hn⟩:=hb
 have e0:x*y=sg (s ^^ t) (m*n):=by rw[hx,hy,B8]
 rw[e0,oV] at h
 have hv:val r*val q=m*n*p2 2148:=by
  rw[hm,hn,show 2148=1074+1074 from rfl,kg]
  generalize p2 1074=z
  ac_rfl
 have hMM:M r*M q*p2 (E r+E q)=m*n*p2 2148:=by
  rw[<-hv,mg,mg,kg]
  ac_rfl
 have hpos:0<m*n:=by omega
 have h0:M r*M q≠0:=λc=>by
  rw[c,Nat.zero_mul] at hMM
  have:=Nat.mul_pos hpos (mH 2148)
  omega
 have hlog:(M r*M q).log2+(E r+E q)=(m*n).log2+2148:=by
  have:=congrArg Nat.log2 hMM
  rw[vR (Nat.pos_of_ne_zero h0),vR hpos] at this
  exact this
 have h53:53<=(m*n).log2:=(Nat.le_log2 (by omega)).2 h
 obtain⟨z,e,h1,h2⟩:=yv (s ^^ t) (M r*M q) ((-1074+(E r:Nat))+(-1074+(E q:Nat))) h0 (by omega)
 refine⟨s ^^ t,z,?_,h1,h2⟩
 show((double.mul (W s r) (W t q)).getD _)=_
 unfold Format.mul
 rw[jH hr,jH hq]
 exact e
theorem AU (hm:FZ m B)(h0:0<=B)(hB:B<9007199254740992){u:Bool}{r:Nat}(h1:4845873199050653696<=r)(h2:r<=9218868437227405312):okW m (W u r)=false:=by
 have key:∀(t:Bool) (q n:Nat),q<9218868437227405312->val q=n*p2 1074->n<9007199254740992->double.order (W u r) (W t q)=some (if u then .lt else .gt):=λt q n hq hn hn'=>by
  rcases Nat.lt_or_eq_of_le h2 with c|c
  ·have hv:p2 53*p2 1074<=val r:=by
    refine Nat.le_trans (Nat.le_of_eq ?_) (xA h1)
    rw[mg,show M 4845873199050653696=p2 52 by decide,show E 4845873199050653696=1075 by decide,<-kg,<-kg]
   have hlt:val q<val r:=by
    refine Nat.lt_of_lt_of_le ?_ hv
    rw[hn]
    exact Nat.mul_lt_mul_of_pos_right hn' (mH _)
   rw[nF c hq]
   congr 1
   unfold sg
   cases u
   ·simp only[Bool.false_eq_true,if_false]
    exact Int.compare_eq_gt.2 (by split<;>omega)
   ·simp only[if_true]
    exact Int.compare_eq_lt.2 (by split<;>omega)
  ·subst c
   unfold Format.order
   rw[xz,jH hq]
   rfl
 obtain⟨t,q,n,hq,rfl,hx,hn⟩:=hm
 have hn':n<9007199254740992:=by
  rw[hx] at h0 hB
  unfold sg at h0 hB
  split at hB
  ·rename_i c;rw[if_pos c] at h0;omega
  ·omega
 unfold okW
 rw[rn t (by omega),show f64.order (W u r) (W t q)=_ from key t q n hq hn hn',show f64.order (W u r) (W (!t) q)=_ from key (!t) q n hq hn hn']
 cases u<;>simp
theorem wQ {a:Nat}{x:Int}(ha:FZ a x)(hb:FZ b y)(hm:FZ m B)(h0:0<=B)(hB:B<9007199254740992)(h:okW m (cop .mul a b)=true):FZ (cop .mul a b) (x*y):=by
 rcases Nat.lt_or_ge (x*y).natAbs 9007199254740992 with c|c
 ·exact sU ha hb c
 ·obtain⟨u,r,e,h1,h2⟩:=vi ha hb c
  rw[e,AU hm h0 hB h1 h2] at h
  cases h
def iX (z:Nat->Int):Nat->Int
 |0=>0
 |n+1=>iX z n+z n
theorem pN {z:Nat->Int}{B:Int}(h0:0<=B):∀n,(∀k,k<n->-B<=z k/\z k<=B)->-(n*B)<=iX z n/\iX z n<=n*B
 |0,_=>by simp[iX]
 |n+1,h=>by
  have ih:=pN h0 n λk hk=>h k (by omega)
  have:=h n (by omega)
  have e:((n+1:Nat):Int)*B=n*B+B:=by rw[Int.natCast_add,Int.add_mul];simp
  rw[e,iX]
  omega
theorem iQ {z z':Nat->Int}:∀n,(∀k,k<n->z k=z' k)->iX z n=iX z' n
 |0,_=>rfl
 |n+1,h=>by rw[iX,iX,iQ n λk hk=>h k (by omega),h n (by omega)]
theorem B9 (h0:0<=B)(h:k<=n):(k:Int)*B<=n*B:=Int.mul_le_mul_of_nonneg_right (by omega) h0
theorem Dh {xs:List Nat}{z:Nat->Int}(h0:0<=B)(hn:0<xs.length)(hB:xs.length*B<9007199254740992)(h:∀k,k<xs.length->FZ (xs.getD k 0) (z k)/\-B<=z k/\z k<=B):FZ (kP xs) (iX z xs.length):=by
 have key:∀k,0<k->k<=xs.length->FZ (kP (xs.take k)) (iX z k):=λk=>by
  induction k with
  |zero=>intro c;omega
  |succ k ih=>
   intro _ hk
   rcases Nat.eq_zero_or_pos k with c|c
   ·subst c
    rw[mZ xs hn]
    have:=(h 0 hn).1
    simpa[iX] using this
   ·rw[mt xs k c (by omega),iX]
    refine pj (ih c (by omega)) (h k (by omega)).1 ?_
    have b1:=pN h0 (k+1) (z:=z) λj hj=>(h j (by omega)).2
    have b2:=B9 h0 hk
    rw[iX] at b1
    omega
 have:=key xs.length hn (Nat.le_refl _)
 rwa [List.take_of_length_le (Nat.le_refl _)] at this
abbrev vd (vs:List Vl)(i:Nat):Vl:=vs.getD i Vl.zero
abbrev ln (vs:List Vl)(i:Nat):Nat:=(vs.getD i Vl.zero).len.toNat
def whO (op:Int):Prop:=op=0\/op=1\/op=2\/op=3\/op=4\/op=6\/op=9\/op=10\/op=11\/op=12
structure Shp (vs:List Vl)(i:Nat):Prop where
 len:1<=(vd vs i).len/\(vd vs i).len<=1000
 a:(vd vs i).op≠0->(vd vs i).op≠1->0<=(vd vs i).a/\(vd vs i).a.toNat<i
 two:(vd vs i).op=2\/(vd vs i).op=3\/(vd vs i).op=4->0<=(vd vs i).b/\(vd vs i).b.toNat<i/\ln vs (vd vs i).a.toNat=ln vs i/\ln vs (vd vs i).b.toNat=ln vs i
 neg:(vd vs i).op=6->ln vs (vd vs i).a.toNat=ln vs i
 sum:(vd vs i).op=9->ln vs i=1
 fill:(vd vs i).op=10->ln vs (vd vs i).a.toNat=1
 pick:(vd vs i).op=11->ln vs i=1/\(vd vs i).c.toNat<ln vs (vd vs i).a.toNat
 put:(vd vs i).op=12->ln vs (vd vs i).a.toNat=1/\(vd vs i).c.toNat<ln vs i
theorem Di (ho:okV ins vs i=true)(hw:whO (vd vs i).op):Shp vs i:=by
 have hl:=ja ho
 unfold okV at ho
 rw[Bool.and_eq_true] at ho
 have h3:=ho.2
 clear ho
 have key1:cnt (vd vs i).op=1->(0<=(vd vs i).a/\(vd vs i).a<i)/\im (vd vs i).op (vd vs i).len (vd vs i).c [(vd vs (vd vs i).a.toNat).len]=true:=λc=>by
  rw[if_neg (λe=>by rw[show(vd vs i).op=0 from e] at c;revert c;decide),Bool.and_eq_true] at h3
  unfold iV at h3
  rw[show cnt (vs.getD i Vl.zero).op=1 from c] at h3
  simp only[List.take_succ_cons,List.take_zero,List.all_cons,List.all_nil,Bool.and_true,List.map_cons,List.map_nil] at h3
  exact⟨of_decide_eq_true h3.1,h3.2⟩
 have key2:cnt (vd vs i).op=2->(0<=(vd vs i).a/\(vd vs i).a<i)/\(0<=(vd vs i).b/\(vd vs i).b<i)/\im (vd vs i).op (vd vs i).len (vd vs i).c [(vd vs (vd vs i).a.toNat).len,(vd vs (vd vs i).b.toNat).len]=true:=λc=>by
  rw[if_neg (λe=>by rw[show(vd vs i).op=0 from e] at c;revert c;decide),Bool.and_eq_true] at h3
  unfold iV at h3
  rw[show cnt (vs.getD i Vl.zero).op=2 from c] at h3
  simp only[List.take_succ_cons,List.take_zero,List.all_cons,List.all_nil,Bool.and_true,List.map_cons,List.map_nil,Bool.and_eq_true] at h3
  exact⟨of_decide_eq_true h3.1.1,of_decide_eq_true h3.1.2,h3.2⟩
 clear h3
 have two:∀o:Int,o=2\/o=3\/o=4->∀{n C p q:Int},im o n C [p,q]=true->p=n/\q=n:=λo h n C p q e=>by
  rcases h with rfl|rfl|rfl<;>(simp[im] at e;exact e)
 have o6:∀{n C p:Int},im 6 n C [p]=true->p=n:=λe=>by simp[im] at e;exact e
 have o9:∀{n C p:Int},im 9 n C [p]=true->n=1:=λe=>by simp[im] at e;exact e.1
 have o10:∀{n C p:Int},im 10 n C [p]=true->p=1:=λe=>by simp[im] at e;exact e
 have o11:∀{n C p:Int},im 11 n C [p]=true->n=1/\0<=C/\C<p:=λe=>by simp[im,iL] at e;omega
 have o12:∀{n C p:Int},im 12 n C [p]=true->p=1/\0<=C/\C<n:=λe=>by simp[im,iL] at e;omega
 refine⟨hl,λh0 h1=>?_,λc=>?_,λc=>?_,λc=>?_,λc=>?_,λc=>?_,λc=>?_⟩
 ·unfold whO at hw
  rcases hw with e|e|e|e|e|e|e|e|e|e
  ·exact absurd e h0
  ·exact absurd e h1
  all_goals first
   |(have:=(key1 (by rw[e];decide)).1;omega)
   |(have:=(key2 (by rw[e];decide)).1;omega)
 ·obtain⟨k1,k2,k3⟩:=key2 (by rcases c with e|e|e<;>(rw[e];decide))
  obtain⟨e1,e2⟩:=two _ c k3
  unfold ln
  unfold vd at*
  omega
 ·obtain⟨k1,k2⟩:=key1 (by rw[c];decide)
  rw[c] at k2
  have:=o6 k2
  unfold ln
  unfold vd at*
  omega
 ·obtain⟨k1,k2⟩:=key1 (by rw[c];decide)
  rw[c] at k2
  have:=o9 k2
  unfold ln
  unfold vd at*
  omega
 ·obtain⟨k1,k2⟩:=key1 (by rw[c];decide)
  rw[c] at k2
  have:=o10 k2
  unfold ln
  unfold vd at*
  omega
 ·obtain⟨k1,k2⟩:=key1 (by rw[c];decide)
  rw[c] at k2
  have:=o11 k2
  unfold ln
  unfold vd at*
  omega
 ·obtain⟨k1,k2⟩:=key1 (by rw[c];decide)
  rw[c] at k2
  have:=o12 k2
  unfold ln
  unfold vd at*
  omega
theorem Dk (hin:inB ins xss=true)(hok:(List.range vs.length).all (okV ins vs)=true)(hi:i<vs.length)(h0:(vd vs i).op≠0)(hk:k<ln vs i):
  ((io xss vs vs.length).getD i []).getD k 0=iF (vd vs i).op (vd vs i).c (vd vs i).k (if 0<cnt (vd vs i).op then (io xss vs vs.length).getD (vd vs i).a.toNat [] else[]) (if 1<cnt (vd vs i).op then (io xss vs vs.length).getD (vd vs i).b.toNat [] else[]) (if 2<cnt (vd vs i).op then (io xss vs vs.length).getD (vd vs i).c.toNat [] else[]) k:=by
 have hl:=jU hin vs.length hok i hi
 obtain⟨m,hm⟩:∃m,vs.length=(i+1)+m:=⟨vs.length-(i+1),by omega⟩
 have e1:(io xss vs vs.length).getD i []=one xss (vd vs i) (io xss vs i):=by rw[hm,mA _ _ m (by omega),lI]
 have hq:∀o:Int,iL o i=true->(io xss vs i).getD o.toNat []=(io xss vs vs.length).getD o.toNat []:=λo ho=>by
  have:=of_decide_eq_true ho
  rw[show vs.length=i+(m+1) by omega,mA _ _ _ (by omega)]
 have ho:okV ins vs i=true:=List.all_eq_true.1 hok i (List.mem_range.2 hi)
 unfold okV at ho
 rw[Bool.and_eq_true] at ho
 have hops:=ho.2
 rw[if_neg h0,Bool.and_eq_true] at hops
 replace hops:=hops.1
 rw[e1] at hl ⊢
 unfold one at hl ⊢
 rw[if_neg h0] at hl ⊢
 have e2:(if 0<cnt (vd vs i).op then (io xss vs i).getD (vd vs i).a.toNat [] else[])=(if 0<cnt (vd vs i).op then (io xss vs vs.length).getD (vd vs i).a.toNat [] else[])/\(if 1<cnt (vd vs i).op then (io xss vs i).getD (vd vs i).b.toNat [] else[])=(if 1<cnt (vd vs i).op then (io xss vs vs.length).getD (vd vs i).b.toNat [] else[])/\(if 2<cnt (vd vs i).op then (io xss vs i).getD (vd vs i).c.toNat [] else[])=(if 2<cnt (vd vs i).op then (io xss vs vs.length).getD (vd vs i).c.toNat [] else[]):=by
  have hc:=jo (vd vs i).op
  unfold iV at hops
  rcases (by omega:cnt (vd vs i).op=0\/cnt (vd vs i).op=1\/cnt (vd vs i).op=2\/cnt (vd vs i).op=3) with e|e|e|e
  all_goals
   rw[e] at hops ⊢
   simp only[List.take_succ_cons,List.take_zero,List.all_cons,List.all_nil,Bool.and_true,Bool.and_eq_true] at hops
   refine⟨?_,?_,?_⟩
  all_goals first|rfl|(rw[if_neg (by decide),if_neg (by decide)];done)|(rw[if_pos (by decide),if_pos (by decide)];first|exact hq _ hops|exact hq _ hops.1|exact hq _ hops.2|exact hq _ hops.2.1|exact hq _ hops.2.2)
 rw[e2.1,e2.2.1,e2.2.2] at hl ⊢
 generalize (if 0<cnt (vd vs i).op then (io xss vs vs.length).getD (vd vs i).a.toNat [] else[])=xa at hl ⊢
 generalize (if 1<cnt (vd vs i).op then (io xss vs vs.length).getD (vd vs i).b.toNat [] else[])=xb at hl ⊢
 generalize (if 2<cnt (vd vs i).op then (io xss vs vs.length).getD (vd vs i).c.toNat [] else[])=xc at hl ⊢
 unfold lB at hl ⊢
 unfold ln at hk
 unfold vd at*
 split at hl
 ·rename_i hf
  rw[if_pos hf,List.getD_eq_getElem?_getD,List.getElem?_map,List.getElem?_range hk]
  rfl
 ·have:(0:Int)=(vs.getD i Vl.zero).len:=hl
  omega
def jm (vs:List Vl)(Z:Nat->Nat->Int)(i k:Nat):Int:=
 if (vd vs i).op=1 then zf (vd vs i).k else if (vd vs i).op=2 then Z (vd vs i).a.toNat k+Z (vd vs i).b.toNat k
 else if (vd vs i).op=3 then Z (vd vs i).a.toNat k-Z (vd vs i).b.toNat k else if (vd vs i).op=4 then Z (vd vs i).a.toNat k*Z (vd vs i).b.toNat k
 else if (vd vs i).op=6 then -Z (vd vs i).a.toNat k else if (vd vs i).op=9 then iX (Z (vd vs i).a.toNat) (ln vs (vd vs i).a.toNat)
 else if (vd vs i).op=10 then Z (vd vs i).a.toNat 0 else if (vd vs i).op=11 then Z (vd vs i).a.toNat (vd vs i).c.toNat
 else if k=(vd vs i).c.toNat then Z (vd vs i).a.toNat 0 else 0
def zV (xss:List (List Nat))(vs:List Vl)(i k:Nat):Int:=zf (((io xss vs vs.length).getD i []).getD k 0)
structure ZG (m:Nat)(B:Int)(ins:List Int)(vs:List Vl)(xss:List (List Nat)):Prop where
 fm:FZ m B
 b0:0<=B
 b1:B<=1000000000000
 inb:inB ins xss=true
 ok:(List.range vs.length).all (okV ins vs)=true
 wh:∀i,i<vs.length->whO (vd vs i).op
 cs:∀i,i<vs.length->(vd vs i).op=1->∃z,FZ (vd vs i).k z
 xs:∀j k,k<(xss.getD j []).length->∃z,FZ ((xss.getD j []).getD k 0) z
 sm:∀i,i<vs.length->∀k,k<ln vs i->okW m (((io xss vs vs.length).getD i []).getD k 0)=true
structure ZP (m:Nat)(B:Int)(ins:List Int)(vs:List Vl)(xss:List (List Nat)):Prop where
 fm:FZ m B
 b0:0<=B
 b1:B<=1000000000000
 inb:inB ins xss=true
 ok:(List.range vs.length).all (okV ins vs)=true
 wh:∀i,i<vs.length->whO (vd vs i).op
 cs:∀i,i<vs.length->(vd vs i).op=1->∃z,FZ (vd vs i).k z
 xs:∀j k,k<(xss.getD j []).length->∃z,FZ ((xss.getD j []).getD k 0) z
theorem ZG.zp (h:ZG m B ins vs xss):ZP m B ins vs xss:=⟨h.fm,h.b0,h.b1,h.inb,h.ok,h.wh,h.cs,h.xs⟩
theorem ZP.shp (h:ZP m B ins vs xss)(hi:i<vs.length):Shp vs i:=
 Di (List.all_eq_true.1 h.ok i (List.mem_range.2 hi)) (h.wh i hi)
theorem ZP.vals (h:ZP m B ins vs xss){M:Nat}(hM:M<=vs.length)(sm:∀i,i<M->∀k,k<ln vs i->okW m (((io xss vs vs.length).getD i []).getD k 0)=true):∀i,i<M->∀k,k<ln vs i->
  FZ (((io xss vs vs.length).getD i []).getD k 0) (zV xss vs i k)/\(-B<=zV xss vs i k/\zV xss vs i k<=B)/\((vd vs i).op≠0->zV xss vs i k=jm vs (zV xss vs) i k):=by
 intro i
 induction i using Nat.strongRecOn with
 |_ i ih=>
  intro hiM k hk
  have hi:i<vs.length:=Nat.lt_of_lt_of_le hiM hM
  have hb0:=h.b0
  have hb1:=h.b1
  have S:=h.shp hi
  have hsm:=sm i hiM k hk
  have fin:∀z,FZ (((io xss vs vs.length).getD i []).getD k 0) z->((vd vs i).op≠0->z=jm vs (zV xss vs) i k)->FZ (((io xss vs vs.length).getD i []).getD k 0) (zV xss vs i k)/\(-B<=zV xss vs i k/\zV xss vs i k<=B)/\((vd vs i).op≠0->zV xss vs i k=jm vs (zV xss vs) i k):=λz hz he=>by
   have e:zV xss vs i k=z:=rI hz
   rw[e]
   have:=yu h.fm hz
   rw[hsm] at this
   exact⟨hz,of_decide_eq_true this.symm,he⟩
  by_cases h0:(vd vs i).op=0
  ·obtain⟨t,ht⟩:∃t,vs.length=(i+1)+t:=⟨vs.length-(i+1),by omega⟩
   have e1:(io xss vs vs.length).getD i []=xss.getD (vd vs i).a.toNat []:=by
    rw[ht,mA _ _ t (by omega),lI]
    unfold one
    rw[if_pos h0]
   have hlen:=jU h.inb vs.length h.ok i hi
   rw[e1] at hlen
   obtain⟨z,hz⟩:=h.xs (vd vs i).a.toNat k (by unfold ln at hk;omega)
   exact fin z (by rw[e1];exact hz) λc=>absurd h0 c
  ·have hE:=Dk h.inb h.ok hi h0 hk
   have hlen:∀j,j<vs.length->((io xss vs vs.length).getD j []).length=ln vs j:=λj hj=>by
    have:=jU h.inb vs.length h.ok j hj
    unfold ln;omega
   have IH:∀j,j<i->∀q,q<ln vs j->FZ (((io xss vs vs.length).getD j []).getD q 0) (zV xss vs j q)/\-B<=zV xss vs j q/\zV xss vs j q<=B:=λj hj q hq=>
    ⟨(ih j hj (by omega) q hq).1,(ih j hj (by omega) q hq).2.1⟩
   have hw:=h.wh i hi
   have hcs:=h.cs i hi
   unfold whO at hw
   have hlA:∀j,j<vs.length->1<=ln vs j/\ln vs j<=1000:=λj hj=>by have:=(h.shp hj).len;unfold ln;unfold vd at this;omega
   by_cases c1:(vd vs i).op=1
   ·obtain⟨z,hz⟩:=hcs c1
    refine fin z ?_ λ_=>?_
    ·rw[hE];unfold iF;rw[if_pos c1];exact hz
    ·unfold jm;rw[if_pos c1,rI hz]
   ·have hA:=S.a h0 c1
    have hAl:=hlA _ (Nat.lt_trans hA.2 hi)
    rcases hw with c|c|c|c|c|c|c|c|c|c
    ·exact absurd c h0
    ·exact absurd c c1
    ·obtain⟨b0,b1,la,lb⟩:=S.two (.inl c)
     have ha:=IH _ hA.2 k (by omega)
     have hb:=IH _ b1 k (by omega)
     refine fin _ ?_ λ_=>by unfold jm;rw[c]
     rw[hE,c]
     exact pj ha.1 hb.1 (by omega)
    ·obtain⟨b0,b1,la,lb⟩:=S.two (.inr (.inl c))
     have ha:=IH _ hA.2 k (by omega)
     have hb:=IH _ b1 k (by omega)
     refine fin _ ?_ λ_=>by unfold jm;rw[c]
     rw[hE,c]
     exact yt ha.1 hb.1 (by omega)
    ·obtain⟨b0,b1,la,lb⟩:=S.two (.inr (.inr c))
     have ha:=IH _ hA.2 k (by omega)
     have hb:=IH _ b1 k (by omega)
     refine fin _ ?_ λ_=>by unfold jm;rw[c]
     rw[hE,c] at hsm
     rw[hE,c]
     exact wQ ha.1 hb.1 h.fm hb0 (by omega) hsm
    ·have la:=S.neg c
     have ha:=IH _ hA.2 k (by omega)
     refine fin _ ?_ λ_=>by unfold jm;rw[c]
     rw[hE,c]
     exact vh ha.1
    ·refine fin _ ?_ λ_=>by unfold jm;rw[c]
     rw[hE,c]
     have hx:=hlen _ (Nat.lt_trans hA.2 hi)
     have:=Dh (xs:=(io xss vs vs.length).getD (vd vs i).a.toNat []) (z:=zV xss vs (vd vs i).a.toNat) hb0 (by omega) (by
      have:=B9 (n:=1000) (k:=((io xss vs vs.length).getD (vd vs i).a.toNat []).length) hb0 (by omega)
      have e:((1000:Nat):Int)*B=1000*B:=rfl
      omega) λq hq=>IH _ hA.2 q (by omega)
     rw[hx] at this
     exact this
    ·have la:=S.fill c
     refine fin _ ?_ λ_=>by unfold jm;rw[c]
     rw[hE,c]
     exact(IH _ hA.2 0 (by omega)).1
    ·obtain⟨l1,la⟩:=S.pick c
     refine fin _ ?_ λ_=>by unfold jm;rw[c]
     rw[hE,c]
     exact(IH _ hA.2 _ la).1
    ·obtain⟨la,lc⟩:=S.put c
     refine fin _ ?_ λ_=>by unfold jm;rw[c]
     rw[hE,c]
     show FZ (if k=(vd vs i).c.toNat then _ else _) (if k=(vd vs i).c.toNat then _ else _)
     by_cases e:k=(vd vs i).c.toNat
     ·rw[if_pos e,if_pos e];exact(IH _ hA.2 0 (by omega)).1
     ·rw[if_neg e,if_neg e];exact lk 0 (by decide)
theorem ZG.shp (h:ZG m B ins vs xss)(hi:i<vs.length):Shp vs i:=h.zp.shp hi
theorem ZG.vals (h:ZG m B ins vs xss):∀i,i<vs.length->∀k,k<ln vs i->
  FZ (((io xss vs vs.length).getD i []).getD k 0) (zV xss vs i k)/\(-B<=zV xss vs i k/\zV xss vs i k<=B)/\((vd vs i).op≠0->zV xss vs i k=jm vs (zV xss vs) i k):=h.zp.vals (Nat.le_refl _) h.sm
def lC (vs:List Vl)(Z D:Nat->Nat->Int)(x:Nat)(T:Nat->Int)(i k:Nat):Int:=
 if i<x then 0 else if i=x then T k
 else if (vd vs i).op=2 then D (vd vs i).a.toNat k+D (vd vs i).b.toNat k
 else if (vd vs i).op=3 then D (vd vs i).a.toNat k-D (vd vs i).b.toNat k
 else if (vd vs i).op=4 then D (vd vs i).a.toNat k*Z (vd vs i).b.toNat k+Z (vd vs i).a.toNat k*D (vd vs i).b.toNat k
 else if (vd vs i).op=6 then -D (vd vs i).a.toNat k else if (vd vs i).op=10 then D (vd vs i).a.toNat 0
 else if (vd vs i).op=11 then D (vd vs i).a.toNat (vd vs i).c.toNat
 else if (vd vs i).op=12 then (if k=(vd vs i).c.toNat then D (vd vs i).a.toNat 0 else 0)
 else if (vd vs i).op=9 then iX (D (vd vs i).a.toNat) (ln vs (vd vs i).a.toNat) else 0
structure DV (vs fs:List Vl)(Z D:Nat->Nat->Int)(T:Nat->Int)(s x:Nat):Prop where
 sh:∀i,i<vs.length->Shp vs i
 wh:∀i,i<vs.length->whO (vd vs i).op
 z:∀i,i<fs.length->∀k,k<ln fs i->(vd fs i).op≠0->Z i k=jm fs Z i k
 d:∀i,i<=s->∀k,k<ln vs i->D i k=lC vs Z D x T i k
 s:s<vs.length
 x:x<vs.length
 pre:∀i,i<vs.length->vd fs i=vd vs i
def Mvd (vs fs:List Vl)(Z D:Nat->Nat->Int)(N:Nat)(i:Nat)(j:Int):Prop:=
 (j=-1/\∀k,k<ln vs i->D i k=0)\/(0<=j/\j.toNat<N/\ln fs j.toNat=ln vs i/\∀k,k<ln vs i->Z j.toNat k=D i k)
theorem Mvd.mono {j:Int}(h:Mvd vs fs Z D N i j)(hN:N<=N'):Mvd vs fs Z D N' i j:=by
 rcases h with h|⟨h1,h2,h3⟩
 ·exact .inl h
 ·exact .inr ⟨h1,by omega,h3⟩
structure Lay (fs:List Vl)(q:Nat)(u:Vl):Prop where
 lt:q<fs.length
 is:vd fs q=u
theorem mB:∀n,iX (λ_=>0) n=0
 |0=>rfl
 |n+1=>by rw[iX,mB n];rfl
theorem kZ {u:Vl}(hl:Lay fs N u)(hN:N<N')(hu:u.len=(vd vs i).len)(h:∀k,k<ln vs i->Z N k=D i k):Mvd vs fs Z D N' i (N:Int):=
 .inr ⟨by omega,by simpa using hN,by show(vd fs N).len.toNat=(vd vs i).len.toNat;rw[hl.is,hu],h⟩
theorem AV {s x:Nat}(h:DV vs fs Z D T s x)(hi:i<=s)(hx:x<i){ta tb tc:Int}
  (ha:0<cnt (vd vs i).op->Mvd vs fs Z D N (vd vs i).a.toNat ta) (hb:1<cnt (vd vs i).op->Mvd vs fs Z D N (vd vs i).b.toNat tb)
  (ha0:¬0<cnt (vd vs i).op->ta=-1) (hb0:¬1<cnt (vd vs i).op->tb=-1) (hc0:tc=-1)
  (hL:∀q,q<(mvM (i:Int) (vd vs i) ta tb tc N).1.length->Lay fs (N+q) ((mvM (i:Int) (vd vs i) ta tb tc N).1.getD q Vl.zero)):
  Mvd vs fs Z D (N+(mvM (i:Int) (vd vs i) ta tb tc N).1.length) i (mvM (i:Int) (vd vs i) ta tb tc N).2:=by
 have hi':i<vs.length:=Nat.lt_of_le_of_lt hi h.s
 have S:=h.sh i hi'
 have hD:=h.d i hi
 have hw:=h.wh i hi'
 have hz:∀{q:Nat} {u:Vl},Lay fs q u->u.op≠0->∀k,k<u.len.toNat->Z q k=jm fs Z q k:=λ{q u} hl h0 k hk=>h.z q hl.lt k (show k<(vd fs q).len.toNat by rw[hl.is];exact hk) (by rw[hl.is];exact h0)
 subst hc0
 unfold whO at hw
 generalize hv:vd vs i=v at*
 have hd:∀k,k<ln vs i->D i k=(if v.op=2 then D v.a.toNat k+D v.b.toNat k
   else if v.op=3 then D v.a.toNat k-D v.b.toNat k
   else if v.op=4 then D v.a.toNat k*Z v.b.toNat k+Z v.a.toNat k*D v.b.toNat k
   else if v.op=6 then -D v.a.toNat k else if v.op=10 then D v.a.toNat 0
   else if v.op=11 then D v.a.toNat v.c.toNat
   else if v.op=12 then (if k=v.c.toNat then D v.a.toNat 0 else 0)
   else if v.op=9 then iX (D v.a.toNat) (ln vs v.a.toNat) else 0):=λk hk=>by
  rw[hD k hk]
  unfold lC
  rw[if_neg (by omega),if_neg (by omega),hv]
 have hli:ln vs i=v.len.toNat:=by unfold ln;rw[<-hv]
 have Sa:=S.a
 have S2:=S.two
 have S6:=S.neg
 have S9:=S.sum
 have S10:=S.fill
 have S11:=S.pick
 have S12:=S.put
 have Sl:=S.len
 rw[hv] at Sa S2 S6 S9 S10 S11 S12 Sl
 clear S hD
 have pre:∀j,j<vs.length->ln fs j=ln vs j:=λj hj=>by show(vd fs j).len.toNat=_;rw[h.pre j hj]
 rcases hw with c|c|c|c|c|c|c|c|c|c
 ·left
  rw[ha0 (by rw[c];decide),hb0 (by rw[c];decide)]
  exact⟨by simp[mvM],λk hk=>by rw[hd k hk,c];rfl⟩
 ·left
  rw[ha0 (by rw[c];decide),hb0 (by rw[c];decide)]
  exact⟨by simp[mvM],λk hk=>by rw[hd k hk,c];rfl⟩
 ·have hA:=ha (by rw[c];decide)
  have hB:=hb (by rw[c];decide)
  obtain⟨b0,b1,la,lb⟩:=S2 (.inl c)
  have hd':∀k,k<ln vs i->D i k=D v.a.toNat k+D v.b.toNat k:=λk hk=>by rw[hd k hk,if_pos c]
  rcases hA with⟨rfl,hA⟩|⟨hA1,hA2,hA3,hA4⟩
  ·rcases hB with⟨rfl,hB⟩|⟨hB1,hB2,hB3,hB4⟩
   ·exact .inl ⟨by simp[mvM],λk hk=>by rw[hd' k hk,hA k (by omega),hB k (by omega)];rfl⟩
   ·have e:mvM (i:Int) v (-1) tb (-1) N=([],tb):=by unfold mvM;rw[if_neg (by omega),if_pos c];unfold mb;rw[if_pos rfl]
    rw[e]
    exact .inr ⟨hB1,by simpa using hB2,by rw[hB3,lb],λk hk=>by rw[hd' k hk,hA k (by omega),hB4 k (by omega)];omega⟩
  ·rcases hB with⟨rfl,hB⟩|⟨hB1,hB2,hB3,hB4⟩
   ·have e:mvM (i:Int) v ta (-1) (-1) N=([],ta):=by unfold mvM;rw[if_neg (by omega),if_pos c];unfold mb;rw[if_neg (by omega),if_pos rfl]
    rw[e]
    exact .inr ⟨hA1,by simpa using hA2,by rw[hA3,la],λk hk=>by rw[hd' k hk,hA4 k (by omega),hB k (by omega)];omega⟩
   ·have e:mvM (i:Int) v ta tb (-1) N=([ik 2 v.len ta tb 0],(N:Int)):=by unfold mvM;rw[if_neg (by omega),if_pos c];unfold mb;rw[if_neg (by omega),if_neg (by omega)]
    rw[e] at hL ⊢
    have hl:Lay fs N (ik 2 v.len ta tb 0):=hL 0 (Nat.zero_lt_succ _)
    refine kZ hl (Nat.lt_succ_self _) (by rw[hv]) λk hk=>?_
    have hzz:Z N k=jm fs Z N k:=hz hl (by simp) k (by show k<v.len.toNat;omega)
    rw[hzz,hd' k hk,<-hA4 k (by omega),<-hB4 k (by omega)]
    unfold jm
    rw[hl.is]
    rfl
 ·have hA:=ha (by rw[c];decide)
  have hB:=hb (by rw[c];decide)
  obtain⟨b0,b1,la,lb⟩:=S2 (.inr (.inl c))
  have hd':∀k,k<ln vs i->D i k=D v.a.toNat k-D v.b.toNat k:=λk hk=>by rw[hd k hk,c];rfl
  rcases hA with⟨rfl,hA⟩|⟨hA1,hA2,hA3,hA4⟩
  ·rcases hB with⟨rfl,hB⟩|⟨hB1,hB2,hB3,hB4⟩
   ·exact .inl ⟨by simp[mvM],λk hk=>by rw[hd' k hk,hA k (by omega),hB k (by omega)];rfl⟩
   ·have e:mvM (i:Int) v (-1) tb (-1) N=([ik 6 v.len tb 0 0],(N:Int)):=by unfold mvM;rw[if_neg (by omega),if_neg (by omega),if_pos c];unfold oG;rw[if_neg (by omega),if_pos rfl]
    rw[e] at hL ⊢
    have hl:Lay fs N (ik 6 v.len tb 0 0):=hL 0 (Nat.zero_lt_succ _)
    refine kZ hl (Nat.lt_succ_self _) (by rw[hv]) λk hk=>?_
    have hzz:Z N k=jm fs Z N k:=hz hl (by simp) k (by show k<v.len.toNat;omega)
    rw[hzz,hd' k hk,hA k (by omega),<-hB4 k (by omega),Int.zero_sub]
    unfold jm
    rw[hl.is]
    rfl
  ·rcases hB with⟨rfl,hB⟩|⟨hB1,hB2,hB3,hB4⟩
   ·have e:mvM (i:Int) v ta (-1) (-1) N=([],ta):=by unfold mvM;rw[if_neg (by omega),if_neg (by omega),if_pos c];unfold oG;rw[if_pos rfl]
    rw[e]
    exact .inr ⟨hA1,by simpa using hA2,by rw[hA3,la],λk hk=>by rw[hd' k hk,hA4 k (by omega),hB k (by omega)];omega⟩
   ·have e:mvM (i:Int) v ta tb (-1) N=([ik 3 v.len ta tb 0],(N:Int)):=by unfold mvM;rw[if_neg (by omega),if_neg (by omega),if_pos c];unfold oG;rw[if_neg (by omega),if_neg (by omega)]
    rw[e] at hL ⊢
    have hl:Lay fs N (ik 3 v.len ta tb 0):=hL 0 (Nat.zero_lt_succ _)
    refine kZ hl (Nat.lt_succ_self _) (by rw[hv]) λk hk=>?_
    have hzz:Z N k=jm fs Z N k:=hz hl (by simp) k (by show k<v.len.toNat;omega)
    rw[hzz,hd' k hk,<-hA4 k (by omega),<-hB4 k (by omega)]
    unfold jm
    rw[hl.is]
    rfl
 ·have hA:=ha (by rw[c];decide)
  have hB:=hb (by rw[c];decide)
  obtain⟨b0,b1,la,lb⟩:=S2 (.inr (.inr c))
  have hd':∀k,k<ln vs i->D i k=D v.a.toNat k*Z v.b.toNat k+Z v.a.toNat k*D v.b.toNat k:=λk hk=>by rw[hd k hk,c];rfl
  have em:∀ta tb:Int,¬(ta=-1/\tb=-1)->mvM (i:Int) v ta tb (-1) N=nX v ta tb N:=λta tb hn=>by unfold mvM;rw[if_neg (by omega),if_neg (by omega),if_neg (by omega),if_pos c]
  rcases hA with⟨rfl,hA⟩|⟨hA1,hA2,hA3,hA4⟩
  ·rcases hB with⟨rfl,hB⟩|⟨hB1,hB2,hB3,hB4⟩
   ·exact .inl ⟨by simp[mvM],λk hk=>by rw[hd' k hk,hA k (by omega),hB k (by omega)];simp⟩
   ·have e:mvM (i:Int) v (-1) tb (-1) N=([ik 4 v.len v.a tb 0],(N:Int)):=by rw[em _ _ (by omega)];unfold nX;rw[if_pos rfl,if_neg (by omega)]
    rw[e] at hL ⊢
    have hl:Lay fs N (ik 4 v.len v.a tb 0):=hL 0 (Nat.zero_lt_succ _)
    refine kZ hl (Nat.lt_succ_self _) (by rw[hv]) λk hk=>?_
    have hzz:Z N k=jm fs Z N k:=hz hl (by simp) k (by show k<v.len.toNat;omega)
    rw[hzz,hd' k hk,hA k (by omega),<-hB4 k (by omega),Int.zero_mul,Int.zero_add]
    unfold jm
    rw[hl.is]
    rfl
  ·rcases hB with⟨rfl,hB⟩|⟨hB1,hB2,hB3,hB4⟩
   ·have e:mvM (i:Int) v ta (-1) (-1) N=([ik 4 v.len ta v.b 0],(N:Int)):=by rw[em _ _ (by omega)];unfold nX;rw[if_neg (by omega),if_pos rfl]
    rw[e] at hL ⊢
    have hl:Lay fs N (ik 4 v.len ta v.b 0):=hL 0 (Nat.zero_lt_succ _)
    refine kZ hl (Nat.lt_succ_self _) (by rw[hv]) λk hk=>?_
    have hzz:Z N k=jm fs Z N k:=hz hl (by simp) k (by show k<v.len.toNat;omega)
    rw[hzz,hd' k hk,hB k (by omega),<-hA4 k (by omega),Int.mul_zero,Int.add_zero]
    unfold jm
    rw[hl.is]
    rfl
   ·have e:mvM (i:Int) v ta tb (-1) N=([ik 4 v.len ta v.b 0,ik 4 v.len v.a tb 0,ik 2 v.len N ((N+1:Nat):Int) 0],((N+2:Nat):Int)):=by rw[em _ _ (by omega)];unfold nX;rw[if_neg (by omega),if_neg (by omega)]
    rw[e] at hL ⊢
    have hl0:Lay fs N (ik 4 v.len ta v.b 0):=hL 0 (by simp)
    have hl1:Lay fs (N+1) (ik 4 v.len v.a tb 0):=hL 1 (by simp)
    have hl2:Lay fs (N+2) (ik 2 v.len N ((N+1:Nat):Int) 0):=hL 2 (by simp)
    refine kZ hl2 (Nat.lt_succ_self _) (by rw[hv]) λk hk=>?_
    have hk':k<v.len.toNat:=by omega
    have z0:Z N k=jm fs Z N k:=hz hl0 (by simp) k hk'
    have z1:Z (N+1) k=jm fs Z (N+1) k:=hz hl1 (by simp) k hk'
    have z2:Z (N+2) k=jm fs Z (N+2) k:=hz hl2 (by simp) k hk'
    have y0:jm fs Z N k=Z ta.toNat k*Z v.b.toNat k:=by unfold jm;rw[hl0.is];rfl
    have y1:jm fs Z (N+1) k=Z v.a.toNat k*Z tb.toNat k:=by unfold jm;rw[hl1.is];rfl
    have y2:jm fs Z (N+2) k=Z N k+Z (N+1) k:=by unfold jm;rw[hl2.is];rfl
    rw[z2,y2,z0,y0,z1,y1,hd' k hk,<-hA4 k (by omega),<-hB4 k (by omega)]
 all_goals
  have hA:=ha (by rw[c];decide)
  have e0:tb=-1:=hb0 (by rw[c];decide)
  subst e0
  have hAa:=Sa (by omega) (by omega)
  rcases hA with⟨rfl,hA⟩|⟨hA1,hA2,hA3,hA4⟩
 ·exact .inl ⟨by simp[mvM],λk hk=>by have:=S6 c;rw[hd k hk,c];show -_=_;rw[hA k (by omega)];rfl⟩
 ·have la:=S6 c
  have e:mvM (i:Int) v ta (-1) (-1) N=([ik v.op v.len ta 0 v.c],(N:Int)):=by unfold mvM;rw[if_neg (by omega),c];rfl
  rw[e,c] at hL ⊢
  have hl:Lay fs N (ik 6 v.len ta 0 v.c):=hL 0 (Nat.zero_lt_succ _)
  refine kZ hl (Nat.lt_succ_self _) (by rw[hv]) λk hk=>?_
  have hzz:Z N k=jm fs Z N k:=hz hl (by simp) k (by show k<v.len.toNat;omega)
  rw[hzz,hd k hk,c]
  unfold jm
  rw[hl.is]
  show -_=-_
  rw[hA4 k (by omega)]
 ·exact .inl ⟨by simp[mvM],λk hk=>by rw[hd k hk,c];show iX _ _=0;rw[iQ (z':=λ_=>0) _ λq hq=>hA q hq,mB]⟩
 ·have e:mvM (i:Int) v ta (-1) (-1) N=([ik v.op v.len ta 0 v.c],(N:Int)):=by unfold mvM;rw[if_neg (by omega),c];rfl
  rw[e,c] at hL ⊢
  have hl:Lay fs N (ik 9 v.len ta 0 v.c):=hL 0 (Nat.zero_lt_succ _)
  refine kZ hl (Nat.lt_succ_self _) (by rw[hv]) λk hk=>?_
  have hzz:Z N k=jm fs Z N k:=hz hl (by simp) k (by show k<v.len.toNat;omega)
  rw[hzz,hd k hk,c]
  unfold jm
  rw[hl.is]
  show iX (Z ta.toNat) (ln fs ta.toNat)=iX _ _
  rw[hA3]
  exact iQ _ λq hq=>hA4 q hq
 ·exact .inl ⟨by simp[mvM],λk hk=>by have:=S10 c;rw[hd k hk,c];exact hA 0 (by omega)⟩
 ·have la:=S10 c
  have e:mvM (i:Int) v ta (-1) (-1) N=([ik v.op v.len ta 0 v.c],(N:Int)):=by unfold mvM;rw[if_neg (by omega),c];rfl
  rw[e,c] at hL ⊢
  have hl:Lay fs N (ik 10 v.len ta 0 v.c):=hL 0 (Nat.zero_lt_succ _)
  refine kZ hl (Nat.lt_succ_self _) (by rw[hv]) λk hk=>?_
  have hzz:Z N k=jm fs Z N k:=hz hl (by simp) k (by show k<v.len.toNat;omega)
  rw[hzz,hd k hk,c]
  unfold jm
  rw[hl.is]
  exact hA4 0 (by omega)
 ·exact .inl ⟨by simp[mvM],λk hk=>by have:=S11 c;rw[hd k hk,c];exact hA _ this.2⟩
 ·have la:=S11 c
  have e:mvM (i:Int) v ta (-1) (-1) N=([ik v.op v.len ta 0 v.c],(N:Int)):=by unfold mvM;rw[if_neg (by omega),c];rfl
  rw[e,c] at hL ⊢
  have hl:Lay fs N (ik 11 v.len ta 0 v.c):=hL 0 (Nat.zero_lt_succ _)
  refine kZ hl (Nat.lt_succ_self _) (by rw[hv]) λk hk=>?_
  have hzz:Z N k=jm fs Z N k:=hz hl (by simp) k (by show k<v.len.toNat;omega)
  rw[hzz,hd k hk,c]
  unfold jm
  rw[hl.is]
  exact hA4 _ la.2
 ·exact .inl ⟨by simp[mvM],λk hk=>by have:=S12 c;rw[hd k hk,c];show(if k=v.c.toNat then _ else _)=_;rw[hA 0 (by omega)];split<;>rfl⟩
 ·have la:=S12 c
  have e:mvM (i:Int) v ta (-1) (-1) N=([ik v.op v.len ta 0 v.c],(N:Int)):=by unfold mvM;rw[if_neg (by omega),c];rfl
  rw[e,c] at hL ⊢
  have hl:Lay fs N (ik 12 v.len ta 0 v.c):=hL 0 (Nat.zero_lt_succ _)
  refine kZ hl (Nat.lt_succ_self _) (by rw[hv]) λk hk=>?_
  have hzz:Z N k=jm fs Z N k:=hz hl (by simp) k (by show k<v.len.toNat;omega)
  rw[hzz,hd k hk,c]
  unfold jm
  rw[hl.is]
  show(if k=v.c.toNat then _ else _)=(if k=v.c.toNat then _ else _)
  rw[hA4 0 (by omega)]
theorem vS (vs:List Vl)(x t m:Nat):∀p,∃r,(jst vs x t (m+p)).1=(jst vs x t m).1++r
 |0=>⟨[],by simp⟩
 |p+1=>by
  obtain⟨r,h⟩:=vS vs x t m p
  exact⟨r++(jmv vs (x+1+(m+p)) (jst vs x t (m+p))).1,by rw[<-Nat.add_assoc,jst,h,List.append_assoc]⟩
theorem yw (vs:List Vl)(s x t:Nat)(h:m<=s-x):∃r,(jf vs s x t).1=(jst vs x t m).1++r:=by
 obtain⟨r,e⟩:=vS vs x t m (s-x-m)
 rw[show m+(s-x-m)=s-x by omega] at e
 unfold jf
 split
 ·exact⟨r++[ik 1 (vs.getD s Vl.zero).len 0 0 0],by rw[e,List.append_assoc]⟩
 ·exact⟨r,e⟩
theorem sV (h:q<us.length):vd (us++r) q=vd us q:=by
 unfold vd
 rw[List.getD_eq_getElem?_getD,List.getElem?_append_left h,<-List.getD_eq_getElem?_getD]
theorem yx (q:Nat):vd (us++r) (us.length+q)=vd r q:=by
 unfold vd
 rw[List.getD_eq_getElem?_getD,List.getElem?_append_right (by omega),Nat.add_sub_cancel_left,<-List.getD_eq_getElem?_getD]
theorem pl {ns:List Vl}(h:fs=us++ns++r)(hq:q<ns.length):Lay fs (us.length+q) (ns.getD q Vl.zero):=
 ⟨by rw[h];simp;omega,by rw[h,List.append_assoc,yx,sV hq]⟩
theorem jh {α:Type}{xs:List α}{j:Nat}{y d:α}(h:i≠j):(xs.set i y).getD j d=xs.getD j d:=by
 rw[List.getD_eq_getElem?_getD,List.getElem?_set,if_neg h,<-List.getD_eq_getElem?_getD]
theorem jG {α:Type}{xs:List α}{y d:α}(h:i<xs.length):(xs.set i y).getD i d=y:=by
 rw[List.getD_eq_getElem?_getD,List.getElem?_set,if_pos rfl,if_pos h];rfl
theorem oN (h:i<n):(List.replicate n (-1:Int)).getD i 0=-1:=by
 rw[List.getD_eq_getElem?_getD,List.getElem?_replicate,if_pos h];rfl
theorem vj {op:Int}(h:whO op):cnt op<=2:=by
 unfold whO at h
 rcases h with rfl|rfl|rfl|rfl|rfl|rfl|rfl|rfl|rfl|rfl<;>decide
theorem sW {vs fs:List Vl}{Z D:Nat->Nat->Int}{T:Nat->Int}{s x t:Nat}(h:DV vs fs Z D T s x)(ht:t<vs.length)(hlt:ln vs t=ln vs x)(hT:∀k,k<ln vs x->Z t k=T k)(hfs:fs=(jf vs s x t).1):
  ∀m,x+m<=s->∀i,i<=x+m->Mvd vs fs Z D (jst vs x t m).1.length i ((jst vs x t m).2.getD i 0)
 |0,hm,i,hi=>by
  have hs:=h.s
  rw[jst]
  by_cases e:i=x
  ·subst e
   rw[jG (by simpa using h.x)]
   refine .inr ⟨by omega,by simpa using ht,?_,λk hk=>?_⟩
   ·show(vd fs t).len.toNat=_
    rw[h.pre t ht]
    exact hlt
   ·rw[h.d i (by omega) k hk]
    unfold lC
    rw[if_neg (by omega),if_pos rfl]
    exact hT k hk
  ·rw[jh (λc=>e c.symm),oN (by omega)]
   exact .inl ⟨rfl,λk hk=>by rw[h.d i (by omega) k hk];unfold lC;rw[if_pos (by omega)]⟩
 |m+1,hm,i,hi=>by
  have IH:=sW h ht hlt hT hfs m (by omega)
  have hs:=h.s
  have hjl:=mM vs x t m
  by_cases e:i=x+1+m
  ·subst e
   rw[jst,jG (by omega),List.length_append]
   have S:=h.sh (x+1+m) (by omega)
   have hw:=h.wh (x+1+m) (by omega)
   have hc:=vj hw
   have hop:∀c,0<cnt (vd vs (x+1+m)).op->(vd vs (x+1+m)).op≠0/\(vd vs (x+1+m)).op≠1\/c:=λc hc=>by
    left
    constructor<;>(intro e;rw[e] at hc;revert hc;decide)
   refine AV h (by omega) (by omega) (λc=>?_) (λc=>?_) (λc=>?_) (λc=>?_) ?_ λq hq=>?_
   ·unfold ovs
    rw[if_pos c]
    rcases hop False c with hh|hh
    ·exact IH _ (by have:=(S.a hh.1 hh.2).2;show(vd vs (x+1+m)).a.toNat<=_;omega)
    ·exact hh.elim
   ·unfold ovs
    rw[if_pos c]
    have hb:(vd vs (x+1+m)).op=2\/(vd vs (x+1+m)).op=3\/(vd vs (x+1+m)).op=4:=by
     unfold whO at hw
     rcases hw with e|e|e|e|e|e|e|e|e|e<;>first|exact .inl e|exact .inr (.inl e)|exact .inr (.inr e)|(exfalso;rw[e] at c;revert c;decide)
    exact IH _ (by have:=(S.two hb).2.1;show(vd vs (x+1+m)).b.toNat<=_;omega)
   ·unfold ovs;rw[if_neg c]
   ·unfold ovs;rw[if_neg c]
   ·unfold ovs;rw[if_neg (by show ¬2<cnt (vd vs (x+1+m)).op;omega)]
   ·obtain⟨r,er⟩:=yw vs s x t (m:=m+1) (by omega)
    rw[<-hfs,jst] at er
    exact pl er hq
  ·rw[jst,jh (λc=>e c.symm),List.length_append]
   exact(IH i (by omega)).mono (Nat.le_add_right _ _)
theorem E3 {s x t:Nat}(h:DV vs fs Z D T s x)(ht:t<vs.length)(hlt:ln vs t=ln vs x)(hT:∀k,k<ln vs x->Z t k=T k)(hfs:fs=(jf vs s x t).1)(h0:zf 0=0):
  0<=(jf vs s x t).2/\(jf vs s x t).2.toNat<fs.length/\ln fs (jf vs s x t).2.toNat=ln vs s/\∀k,k<ln vs s->Z (jf vs s x t).2.toNat k=if x<=s then D s k else 0:=by
 have hs:=h.s
 have zero:∀N,fs=(jst vs x t (s-x)).1++[ik 1 (vs.getD s Vl.zero).len 0 0 0]->N=(jst vs x t (s-x)).1.length->N<fs.length/\ln fs N=ln vs s/\∀k,k<ln vs s->Z N k=0:=λN e eN=>by
  have hl:Lay fs ((jst vs x t (s-x)).1.length+0) (ik 1 (vs.getD s Vl.zero).len 0 0 0):=pl (us:=(jst vs x t (s-x)).1) (ns:=[ik 1 (vs.getD s Vl.zero).len 0 0 0]) (r:=[]) (by rw[e];simp) (Nat.zero_lt_succ _)
  rw[Nat.add_zero,<-eN] at hl
  have el:ln fs N=ln vs s:=by show(vd fs N).len.toNat=_;rw[hl.is]
  refine⟨hl.lt,el,λk hk=>?_⟩
  rw[h.z N hl.lt k (by omega) (by rw[hl.is];simp:(vd fs N).op≠0)]
  unfold jm
  rw[hl.is]
  exact h0
 unfold jf at hfs ⊢
 by_cases c:(jst vs x t (s-x)).2.getD s 0=-1
 ·rw[if_pos c] at hfs ⊢
  obtain⟨z1,z2,z3⟩:=zero _ hfs rfl
  refine⟨by simp only;omega,z1,z2,λk hk=>?_⟩
  refine(z3 k hk).trans ?_
  split
  ·rename_i hx
   rcases sW h ht hlt hT (by rw[hfs];unfold jf;rw[if_pos c]) (s-x) (by omega) s (by omega) with k1|k1
   ·exact(k1.2 k hk).symm
   ·omega
  ·rfl
 ·rw[if_neg c] at hfs ⊢
  have hx:x<=s:=Nat.le_of_not_lt λhx=>by
   apply c
   rw[show s-x=0 by omega,jst,jh (by omega),oN hs]
  rcases sW h ht hlt hT (by rw[hfs];unfold jf;rw[if_neg c]) (s-x) (by omega) s (by omega) with k1|⟨k1,k2,k3,k4⟩
  ·exact absurd k1.1 c
  ·refine⟨k1,by rw[hfs];exact k2,k3,λk hk=>?_⟩
   rw[if_pos hx]
   exact k4 k hk
end
section
open Go.RowKit Flt
attribute [local go_sem] ic ib ia
theorem AW (w:World)(P:Nat)(u1 u3:Value)(vs:List Vl)(c:Int)(base:Nat)(R:Option Nat)(vv:Value)(i Mb n capM:Nat)(mv:List Int)(v:Vl)(h:BS w P u1 u3 vs c base R vv)(hi:i<vs.length)(hv':vs.getD i Vl.zero=v)(b:Bnd0 vs c v.len)(hM:IR w Mb mv)(hMl:mv.length=n)(hops:∀q,q<cnt v.op->0<=fld v q/\fld v q<n)(hw:whO v.op):
  Calls Tryz.prog 62 #[.pointer (some ⟨P,0,none⟩),.int .i64 (i:Int),.slice (some ⟨Mb,0,none⟩) n capM] w λe w'=>Bd w P u1 u3 vs c base R (mvM (i:Int) v (ovs v mv (cnt v.op) 0) (ovs v mv (cnt v.op) 1) (ovs v mv (cnt v.op) 2) vs.length) e w':=by
 have HWO:Hid _:=hw
 clear hw
 have k0:=hU 0 0 w (ij v.op v.len v.a v.b v.c v.k)
 have k1:=hU 0 0 (w.alloc (ij v.op v.len v.a v.b v.c v.k)) (.cells #[.int .i64 (-1),.int .i64 (-1),.int .i64 (-1)] 106)
 have HV:Hid _:=(lr w v).keep (by simp) k1 (.inr (.inr (Nat.le_refl _)))
 have HA:Hid _:=x7 (w.alloc (ij v.op v.len v.a v.b v.c v.k)) v mv 106
 obtain⟨g,cap,rfl,hg,hA⟩:=h.read (by omega)
 have z1:=h.c1
 have hat:=hA i hi
 rw[hv'] at hat
 have hc3:=jo v.op
 have HK:Hid _:=k0.trans k1
 have HB:Hid _:=h
 have HM:Hid _:=hM
 have HML:Hid (mv.length=n):=hMl
 have HO:Hid _:=hops
 have HBN:Hid _:=b
 have HVI:Hid (vs.getD i Vl.zero=v):=hv'
 have HZ:Hid (w.heap.size+1<((w.alloc (ij v.op v.len v.a v.b v.c v.k)).alloc (.cells #[.int .i64 (-1),.int .i64 (-1),.int .i64 (-1)] 106)).heap.size):=by show _<_;simp
 have HMB:Hid (Mb<w.heap.size):=hM.lt
 clear h hv' hA hg k0 k1 hM hops b hMl
 obtain⟨d0,d1,d2,d3,d4,d5⟩:=hat
 go_enter Tryz.func62,Tryz.ntmps62
 go_wp2_with fail
 clear d0 d1 d2 d3 d4 d5 z1
 generalize ((w.alloc (ij v.op v.len v.a v.b v.c v.k)).alloc (.cells #[.int .i64 (-1),.int .i64 (-1),.int .i64 (-1)] 106))=w1 at HV HA HK HZ ⊢
 refine(lh _ v).mono ?_
 rintro e w2 ⟨G,rfl,hI,hG,k3⟩
 have HI:Hid _:=hI
 have HA2:Hid (A3 w2 (w.heap.size+1) (ovs v mv 0)):=by
  have:=HA.out.keep k3
  rw[show(w.alloc (ij v.op v.len v.a v.b v.c v.k)).heap.size=w.heap.size+1 by simp] at this
  exact this
 have HV2:Hid _:=HV.out.keep (by have:=HZ.out;omega) k3 (.inr (.inr (Nat.le_refl _)))
 have HK2:Hid _:=HK.out.trans k3
 clear hI hG k3 HA HV HK
 go_wp2_with fail
 go_loopw [30] (λx W=>∃q:Nat,q<=cnt v.op/\x=.int .i64 q/\Hid (A3 W (w.heap.size+1) (ovs v mv q))/\Hid (At W w.heap.size 0 v)/\Hid (IS W w1.heap.size w2.heap.size (some ⟨G,0,none⟩) (cnt v.op) (iV v))/\Hid (Kept 0 0 w W)) (λx _=>cnt v.op-(intOf x).toNat)
 case atStart=>exact⟨0,Nat.zero_le _,rfl,HA2,HV2,HI,HK2⟩
 case round=>
  obtain⟨q,hq,rfl,hA,hV,hI,hK⟩:=hrel
  clear HA2 HV2 HI HK2
  by_cases hlt:q<cnt v.op
  ·rcases hI.out.at_ with z0|⟨ga,oa,ea,z1,z2,z3,z4⟩
   ·omega
   have c1:=z4 q hlt
   cases ea
   rw[Nat.zero_add,rD v hlt,<-vM v (by omega)] at c1
   have hf:=HO.out q hlt
   rcases (EJ (IR.keep HM.out hK.out (.inr (.inr (Nat.le_refl _)))) HML.out).at_ with z0|⟨gm,om,em,y1,y2,y3,y4⟩
   ·omega
   cases em
   obtain⟨o,ho⟩:∃o:Nat,fld v q=o:=⟨(fld v q).toNat,by omega⟩
   have c2:=y4 o (by omega)
   rw[Nat.zero_add] at c2
   have c5:=hA.out.at_ q (by omega)
   have fz:=hA.out.free q
   have hput:=hA.out.put (v:=v) (mv:=mv) (q:=q) (by omega)
   rw[ho,Int.toNat_natCast] at hput
   rw[ho] at c1 hf
   have R1:Hid _:=hput
   have kp:Kept (w.heap.size+1) (w.heap.size+2) wr (wr.setCell ⟨w.heap.size+1,q,none⟩ (.int .i64 (mv.getD o 0))):=it _ _ _ (.inl ⟨Nat.le_refl _,Nat.lt_succ_self _⟩)
   have R2:Hid _:=hV.out.keep (by have:=hA.out.lt;omega) kp (.inl (by omega))
   have R4:Hid _:=hI.out.keep kp (.inr (.inl (by have:=HZ.out;omega)))
   have R5:Hid _:=hK.out.new kp (by omega)
   have hq3:q<3:=by omega
   have hon:o<n:=by omega
   clear z1 z2 z3 z4 y1 y2 y3 y4 kp hA hV hI hK hf ho hput
   generalize mv.getD o 0=mo at c2 R1 R2 R4 R5
   generalize ovs v mv q q=mq at c5
   go_wp2
   go_roundw
   case rel=>exact⟨q+1,by omega,by go_num,R1,R2,R4,R5⟩
   case measure=>simp[intOf];omega
  ·obtain rfl:q=cnt v.op:=by omega
   have x0:=hA.out.at_ 0 (by omega)
   have x1:=hA.out.at_ 1 (by omega)
   have x2:=hA.out.at_ 2 (by omega)
   have hcn:(ovs v mv (cnt v.op) 0=-1/\ovs v mv (cnt v.op) 1=-1/\ovs v mv (cnt v.op) 2=-1)\/(v.op=2\/v.op=3\/v.op=4\/v.op=6\/v.op=9\/v.op=10\/v.op=11\/v.op=12):=by
    by_cases h0:cnt v.op=0
    ·left
     rw[h0]
     exact⟨rfl,rfl,rfl⟩
    ·right
     have hw2:=HWO.out
     unfold whO at hw2
     rcases hw2 with e|e|hw2
     ·rw[e] at h0
      exact absurd rfl h0
     ·rw[e] at h0
      exact absurd rfl h0
     ·exact hw2
   have HB1:Hid (Bnd vs c v.len):=⟨by have:=HBN.out.l;omega,by have:=HBN.out.c0;omega,by have:=HBN.out.c1;omega,HBN.out.n0,HBN.out.n1⟩
   have HKW:Hid _:=hK.out
   have HVW:Hid _:=hV.out
   have HWZ:Hid (w.heap.size<wr.heap.size):=by have:=hA.out.lt;show _<_;omega
   clear hA hV hI hK
   obtain⟨ta,hta⟩:∃ta,ta=ovs v mv (cnt v.op) 0:=⟨_,rfl⟩
   obtain⟨tb,htb⟩:∃tb,tb=ovs v mv (cnt v.op) 1:=⟨_,rfl⟩
   obtain⟨tc,htc⟩:∃tc,tc=ovs v mv (cnt v.op) 2:=⟨_,rfl⟩
   rw[<-hta] at x0
   rw[<-htb] at x1
   rw[<-htc] at x2
   rw[<-hta,<-htb,<-htc] at hcn
   have HTT:Hid (ta=ovs v mv (cnt v.op) 0/\tb=ovs v mv (cnt v.op) 1/\tc=ovs v mv (cnt v.op) 2):=⟨hta,htb,htc⟩
   clear hta htb htc
   go_wp2_with fail
   go_quiet (fail)
   have HK3:Hid _:=Kept.trans HKW.out (iq 0 0 wr nq)
   have hV3:=HVW.out.keep HWZ.out (iq 0 0 wr nq) (.inr (.inr (Nat.le_refl _)))
   clear x0 x1 x2 HVW HKW HWZ
   generalize wr.drewN nq=w3 at HK3 hV3 ⊢
   obtain⟨s0,s1,s2,s3,s4,s5⟩:=hV3
   have HBS:Hid (BS w3 P u1 u3 vs c base R (.slice (some ⟨g,0,none⟩) vs.length cap)):=HB.out.keep HK3.out
   have HFF:Hid (∀{w':World} {e:Ending} {M:List Vl×Int},Bd w3 P u1 u3 vs c base R M e w'->M=mvM (i:Int) v ta tb tc vs.length->∃r:Int,e=.returned (.int .i64 r)/\Hid (Bd w P u1 u3 vs c base R (mvM (i:Int) v (ovs v mv (cnt v.op) 0) (ovs v mv (cnt v.op) 1) (ovs v mv (cnt v.op) 2) vs.length) (.returned (.int .i64 r)) w')):=λ{w' e M} hb hm=>by
    have h:=Bd.kept HK3.out (Bd.cast (show M=mvM (i:Int) v (ovs v mv (cnt v.op) 0) (ovs v mv (cnt v.op) 1) (ovs v mv (cnt v.op) 2) vs.length by rw[hm,HTT.out.1,HTT.out.2.1,HTT.out.2.2]) hb)
    exact⟨_,h.1,⟨rfl,h.2⟩⟩
   have HFN:Hid (([],-1)=mvM (i:Int) v ta tb tc vs.length->Bd w P u1 u3 vs c base R (mvM (i:Int) v (ovs v mv (cnt v.op) 0) (ovs v mv (cnt v.op) 1) (ovs v mv (cnt v.op) 2) vs.length) (.returned (.int .i64 (-1))) w3):=λhm=>Bd.kept HK3.out (Bd.cast (by rw[hm,HTT.out.1,HTT.out.2.1,HTT.out.2.2]) (Bd.none HBS.out (-1)))
   clear HK3
   by_cases hall:ta=-1/\tb=-1/\tc=-1
   ·obtain⟨rfl,rfl,rfl⟩:=hall
    go_wp2
    go_ret
    exact HFN.out (by unfold mvM;rw[if_pos ⟨rfl,rfl,rfl⟩])
   ·have HALL:Hid _:=hall
    rcases ES hall with tA|⟨tA,tB⟩|⟨tA,tB,tC⟩
    all_goals
     rcases hcn with hcn|hcn
     ·exact absurd hcn HALL.out
     clear hall
     rcases hcn with hop|hop|hop|hop|hop|hop|hop|hop
     ·rw[hop] at s0
      have HOP:Hid (v.op=2):=hop
      clear hop
      go_wp2_with fail
      refine Calls.mono (xT w3 P u1 u3 vs c base R _ v.len ta tb HBS.out HB1.out) ?_
      rintro e w9 hb
      obtain⟨r,rfl,hR⟩:=HFF.out hb (by unfold mvM;rw[if_neg HALL.out,if_pos HOP.out])
      clear hb
      go_wp2
      go_ret
      exact hR.out
     ·rw[hop] at s0
      have HOP:Hid (v.op=3):=hop
      clear hop
      go_wp2_with fail
      refine Calls.mono (CD w3 P u1 u3 vs c base R _ v.len ta tb HBS.out HB1.out) ?_
      rintro e w9 hb
      obtain⟨r,rfl,hR⟩:=HFF.out hb (by unfold mvM;rw[if_neg HALL.out,if_neg (by have:=HOP.out;omega),if_pos HOP.out])
      clear hb
      go_wp2
      go_ret
      exact hR.out
     ·rw[hop] at s0
      have HOP:Hid (v.op=4):=hop
      clear hop
      go_wp2_with fail
      refine Calls.mono (product w3 P u1 u3 vs c base R _ ⟨4,v.len,v.a,v.b,v.c,v.k⟩ ta tb HBS.out HBN.out) ?_
      rintro e w9 hb
      obtain⟨r,rfl,hR⟩:=HFF.out hb (by unfold mvM;rw[if_neg HALL.out,if_neg (by have:=HOP.out;omega),if_neg (by have:=HOP.out;omega),if_pos HOP.out];unfold nX;rfl)
      clear hb
      go_wp2
      go_ret
      exact hR.out
     ·rw[hop] at s0
      have HOP:Hid (v.op=6):=hop
      clear hop
      go_wp2_with fail
      refine Calls.mono (kE w3 P u1 u3 vs c base R _ 6 v.len ta 0 v.c HBS.out (by have:=HBN.out.l;omega) (by have:=HBN.out.c0;omega) (by have:=HBN.out.c1;omega) (by have:=HBN.out.n0;omega) (by have:=HBN.out.n1;omega)) ?_
      rintro e w9 hb
      obtain⟨r,rfl,hR⟩:=HFF.out hb (by unfold mvM;rw[if_neg HALL.out,if_neg (by have:=HOP.out;omega),if_neg (by have:=HOP.out;omega),if_neg (by have:=HOP.out;omega),if_neg (by have:=HOP.out;omega),if_neg (by have:=HOP.out;omega),if_neg (by have:=HOP.out;omega),if_neg (by have:=HOP.out;omega),HOP.out])
      clear hb
      go_wp2
      go_ret
      exact hR.out
     ·rw[hop] at s0
      have HOP:Hid (v.op=9):=hop
      clear hop
      go_wp2_with fail
      refine Calls.mono (kE w3 P u1 u3 vs c base R _ 9 v.len ta 0 v.c HBS.out (by have:=HBN.out.l;omega) (by have:=HBN.out.c0;omega) (by have:=HBN.out.c1;omega) (by have:=HBN.out.n0;omega) (by have:=HBN.out.n1;omega)) ?_
      rintro e w9 hb
      obtain⟨r,rfl,hR⟩:=HFF.out hb (by unfold mvM;rw[if_neg HALL.out,if_neg (by have:=HOP.out;omega),if_neg (by have:=HOP.out;omega),if_neg (by have:=HOP.out;omega),if_neg (by have:=HOP.out;omega),if_neg (by have:=HOP.out;omega),if_neg (by have:=HOP.out;omega),if_neg (by have:=HOP.out;omega),HOP.out])
      clear hb
      go_wp2
      go_ret
      exact hR.out
     ·rw[hop] at s0
      have HOP:Hid (v.op=10):=hop
      clear hop
      go_wp2_with fail
      refine Calls.mono (kE w3 P u1 u3 vs c base R _ 10 v.len ta 0 v.c HBS.out (by have:=HBN.out.l;omega) (by have:=HBN.out.c0;omega) (by have:=HBN.out.c1;omega) (by have:=HBN.out.n0;omega) (by have:=HBN.out.n1;omega)) ?_
      rintro e w9 hb
      obtain⟨r,rfl,hR⟩:=HFF.out hb (by unfold mvM;rw[if_neg HALL.out,if_neg (by have:=HOP.out;omega),if_neg (by have:=HOP.out;omega),if_neg (by have:=HOP.out;omega),if_neg (by have:=HOP.out;omega),if_neg (by have:=HOP.out;omega),if_neg (by have:=HOP.out;omega),if_neg (by have:=HOP.out;omega),HOP.out])
      clear hb
      go_wp2
      go_ret
      exact hR.out
     ·rw[hop] at s0
      have HOP:Hid (v.op=11):=hop
      clear hop
      go_wp2_with fail
      refine Calls.mono (kE w3 P u1 u3 vs c base R _ 11 v.len ta 0 v.c HBS.out (by have:=HBN.out.l;omega) (by have:=HBN.out.c0;omega) (by have:=HBN.out.c1;omega) (by have:=HBN.out.n0;omega) (by have:=HBN.out.n1;omega)) ?_
      rintro e w9 hb
      obtain⟨r,rfl,hR⟩:=HFF.out hb (by unfold mvM;rw[if_neg HALL.out,if_neg (by have:=HOP.out;omega),if_neg (by have:=HOP.out;omega),if_neg (by have:=HOP.out;omega),if_neg (by have:=HOP.out;omega),if_neg (by have:=HOP.out;omega),if_neg (by have:=HOP.out;omega),if_neg (by have:=HOP.out;omega),HOP.out])
      clear hb
      go_wp2
      go_ret
      exact hR.out
     ·rw[hop] at s0
      have HOP:Hid (v.op=12):=hop
      clear hop
      go_wp2_with fail
      refine Calls.mono (kE w3 P u1 u3 vs c base R _ 12 v.len ta 0 v.c HBS.out (by have:=HBN.out.l;omega) (by have:=HBN.out.c0;omega) (by have:=HBN.out.c1;omega) (by have:=HBN.out.n0;omega) (by have:=HBN.out.n1;omega)) ?_
      rintro e w9 hb
      obtain⟨r,rfl,hR⟩:=HFF.out hb (by unfold mvM;rw[if_neg HALL.out,if_neg (by have:=HOP.out;omega),if_neg (by have:=HOP.out;omega),if_neg (by have:=HOP.out;omega),if_neg (by have:=HOP.out;omega),if_neg (by have:=HOP.out;omega),if_neg (by have:=HOP.out;omega),if_neg (by have:=HOP.out;omega),HOP.out])
      clear hb
      go_wp2
      go_ret
      exact hR.out
theorem vl {W wB:World}{P Mb G1 d1 n1 G3 d3 n3 base:Nat}{ins outs:List Int}{vs:List Vl}{x t k n2:Nat}{R:Option Nat}{vv:Value}(hJ:JS W wB P Mb G1 d1 n1 G3 d3 n3 base ins outs (jst vs x t k).1 (jst vs x t k).2 R vv)
  (hn:vs.length=n2) (l2:n2<=2000) (hk:x+1+k<n2) (hok:(List.range n2).all (okV ins vs)=true) (hc:ig vs<=50000) (hwh:∀k,whO (vs.getD k Vl.zero).op):
  Calls Tryz.prog 62 #[.pointer (some ⟨P,0,none⟩),.int .i64 ((x+1+k:Nat):Int),.slice (some ⟨Mb,0,none⟩) n2 n2] W λe w'=>∃r,e=.returned (.int .i64 r)/\Hid (∃R' vv',JS (w'.setCell ⟨Mb,x+1+k,none⟩ (.int .i64 r)) wB P Mb G1 d1 n1 G3 d3 n3 base ins outs (jst vs x t (k+1)).1 (jst vs x t (k+1)).2 R' vv')/\(∃u,w'.cell? ⟨Mb,x+1+k,none⟩=some u)/\w'.frozen? ⟨Mb,x+1+k,none⟩=false:=by
 have hl:∀j,j<vs.length->1<=(vs.getD j Vl.zero).len/\(vs.getD j Vl.zero).len<=1000:=λj hj=>ja (List.all_eq_true.1 hok j (List.mem_range.2 (by omega)))
 have hc0:0<=ig vs:=kM vs (λj hj=>by have:=hl j hj;omega)
 obtain⟨z1,z2,z3⟩:=nf vs x t hl hc0 hc k (by omega)
 have hlen:=mM vs x t k
 have hv:=hl (x+1+k) (by omega)
 have hlen1:vs.length<=(jst vs x t k).1.length:=by
  obtain⟨r,h⟩:=nO vs x t k
  rw[h,List.length_append]
  omega
 refine(AW W P _ _ (jst vs x t k).1 (ig (jst vs x t k).1) base R vv (x+1+k) Mb n2 n2 (jst vs x t k).2 (vs.getD (x+1+k) Vl.zero) hJ.b (by omega) (pH vs x t k (by omega)) ⟨by omega,by omega,by omega,by omega,by omega⟩ hJ.m (by omega) (λq hq=>by
  have:=mN (List.all_eq_true.1 hok (x+1+k) (List.mem_range.2 hk)) q hq
  omega) (hwh _)).mono ?_
 rintro e w' ⟨rfl,R',vv',hb,hs⟩
 have h2:=hJ.step hb hs
 exact⟨_,rfl,⟨R',vv',h2.put (x+1+k) _⟩,⟨_,h2.m.cell (x+1+k) (by omega)⟩,h2.m.free (x+1+k)⟩
theorem wR (w6 wB:World)(P G1 d1 n1 G3 d3 n3 base n2:Nat)(s x t:Nat)(ins:List Int)(vs:List Vl)(outs:List Int)(R:Option Nat)(vv:Value)(hb:BS w6 P (.slice (some ⟨G1,0,none⟩) n1 d1) (.slice (some ⟨G3,0,none⟩) n3 d3) vs (ig vs) base R vv)
  (hmk:∀w7,Kept 0 0 w6 w7->IR w7 w6.heap.size (List.replicate n2 (-1))->JS w7 wB P w6.heap.size G1 d1 n1 G3 d3 n3 base ins outs vs (List.replicate n2 (-1)) R vv)
  (hn:vs.length=n2) (l2:n2<=2000) (hok:(List.range n2).all (okV ins vs)=true) (hc5:ig vs<=50000) (hs:s<n2) (hx:x<n2) (hwh:∀k,whO (vs.getD k Vl.zero).op):
  Calls Tryz.prog 31 #[.pointer (some ⟨P,0,none⟩),.int .i64 (s:Int),.int .i64 (x:Int),.int .i64 (t:Int)] w6 λe w'=>PD wB P G1 d1 n1 G3 d3 n3 base ins outs (jf vs s x t) e w':=by
 have HWH:Hid _:=hwh
 clear hwh
 have HOK:Hid _:=hok
 have HC5:Hid _:=hc5
 have HLN:Hid (vs.length=n2):=hn
 have HMK:Hid _:=hmk
 obtain⟨gv0,cap0,rfl,_,_⟩:=hb.read (by omega)
 have z1:=hb.c1
 rw[hn] at z1
 have HND:Hid _:=B3 w6 n2 (by omega)
 clear hok hc5 hn hmk hb
 go_enter Tryz.func31,Tryz.ntmps31
 go_wp2_with fail
 clear z1
 refine Calls.mono HND.out ?_
 rintro e w7 ⟨rfl,hM,k7⟩
 have cM:=hM.cell x (by simp;omega)
 have fM:=hM.free x
 have HJ:Hid _:=HMK.out w7 k7 hM
 have HJ0:Hid (∃R vv,JS (w7.setCell ⟨w6.heap.size,x,none⟩ (.int .i64 (t:Int))) wB P w6.heap.size G1 d1 n1 G3 d3 n3 base ins outs (jst vs x t 0).1 (jst vs x t 0).2 R vv):=⟨R,_,by
  have:=HJ.out.put x (t:Int)
  unfold jst
  rw[HLN.out]
  exact this⟩
 clear hM k7 HJ HMK HND
 generalize (List.replicate n2 (-1:Int)).getD x 0=z at cM
 have j2:(0:Int)<=(x:Int):=by omega
 have j3:(x:Int)<(n2:Int):=by omega
 go_wp2_with fail
 clear cM fM
 go_loopw [10] (λv W=>∃k:Nat,k<=s-x/\v=.int .i64 ((x+1+k:Nat):Int)/\Hid (∃R vv,JS W wB P w6.heap.size G1 d1 n1 G3 d3 n3 base ins outs (jst vs x t k).1 (jst vs x t k).2 R vv)) (λv _=>s+1-(intOf v).toNat)
 case atStart=>exact⟨0,Nat.zero_le _,by simp,HJ0⟩
 case round=>
  obtain⟨k,hk,rfl,hJ⟩:=hrel
  clear HJ0
  by_cases hlt:k<s-x
  ·obtain⟨R,vv,hJ⟩:=hJ.out
   have HX:Hid _:=vl hJ HLN.out l2 (by omega) HOK.out HC5.out HWH.out
   have hle:((x+1+k:Nat):Int)<=(s:Int):=by omega
   have hin:x+1+k<n2:=by omega
   have hsx:x+1+k<=s:=by omega
   clear hJ
   generalize hi:x+1+k=i at HX hle hin hsx
   go_wp2_with fail
   refine Calls.mono HX.out ?_
   rintro e w9 ⟨r,rfl,R1,⟨u,hu⟩,fu⟩
   clear HX
   go_wp2
   go_roundw
   case rel=>exact⟨k+1,by omega,by rw[<-hi];go_num,R1⟩
   case measure=>simp[intOf];omega
  ·obtain rfl:k=s-x:=by omega
   obtain⟨R,vv,hJ⟩:=hJ.out
   have hlen:=mM vs x t (s-x)
   have cs:=hJ.m.cell s (by rw[hlen,HLN.out];exact hs)
   have hne:¬(((x+1+(s-x):Nat):Int)<=(s:Int)):=by omega
   have hpre:vs.length<=(jst vs x t (s-x)).1.length:=by
    obtain⟨r,h⟩:=nO vs x t (s-x)
    rw[h,List.length_append]
    omega
   have hpos:0<(jst vs x t (s-x)).1.length:=by have:=HLN.out;omega
   have hJF:Hid (jf vs s x t=if (jst vs x t (s-x)).2.getD s 0=-1 then ((jst vs x t (s-x)).1++[ik 1 (vs.getD s Vl.zero).len 0 0 0],(((jst vs x t (s-x)).1.length:Nat):Int)) else ((jst vs x t (s-x)).1,(jst vs x t (s-x)).2.getD s 0)):=rfl
   obtain⟨gv,cap,rfl,_,_⟩:=hJ.b.read hpos
   have HJ:Hid _:=hJ
   have HLE:Hid (∀w',Drawn wr w'->_):=λw' (d:Drawn wr w')=>Ao w' P _ _ (jst vs x t (s-x)).1 _ _ R _ s (hJ.b.keep (d.kept 0 0)) (by have:=HLN.out;omega)
   rw[pH vs x t (s-x) (by have:=HLN.out;omega)] at HLE
   clear hJ hlen hpos hpre
   generalize hm:(jst vs x t (s-x)).2.getD s 0=mm at cs hJF
   by_cases hmm:mm=-1
   ·subst hmm
    have hJ2:Hid (jf vs s x t=((jst vs x t (s-x)).1++[ik 1 (vs.getD s Vl.zero).len 0 0 0],(((jst vs x t (s-x)).1.length:Nat):Int))):=by
     show _=_
     rw[hJF.out,if_pos rfl]
    clear hJF hm
    have hl:∀j,j<vs.length->1<=(vs.getD j Vl.zero).len/\(vs.getD j Vl.zero).len<=1000:=λj hj=>ja (List.all_eq_true.1 HOK.out j (List.mem_range.2 (by rw[<-HLN.out];exact hj)))
    obtain⟨z1,z2,z3⟩:=nf vs x t hl (kM vs (λj hj=>by have:=hl j hj;omega)) HC5.out (s-x) (by rw[HLN.out];omega)
    have hls:=hl s (by rw[HLN.out];exact hs)
    have hsz:(jst vs x t (s-x)).1.length<=1000000/\ig (jst vs x t (s-x)).1<=1000000000:=by
     have:=HLN.out
     omega
    have HZ:Hid (∀w',Drawn wr w'->_):=λw' (d:Drawn wr w')=>nd w' P _ _ (jst vs x t (s-x)).1 (ig (jst vs x t (s-x)).1) _ R _ (vs.getD s Vl.zero).len (HJ.out.b.keep (d.kept 0 0)) hsz.1 (by omega) hsz.2 (by omega) (by omega)
    clear hl z1 z2 z3 hls hsz
    generalize (vs.getD s Vl.zero).len=ls at HZ HLE hJ2
    have HLE':=HLE.out wr (Drawn.refl _)
    go_wp2_with fail
    clear cs
    refine Calls.mono (HLE.out wr (Drawn.refl _)) ?_
    rintro e w10 ⟨rfl,hD⟩
    go_wp2_with fail
    refine Calls.mono (HZ.out w10 hD) ?_
    rintro e w11 ⟨rfl,R2,vv2,hb2,hs2⟩
    have hJ3:=(HJ.out.keepJ (hD.kept 0 0)).step hb2 hs2
    obtain⟨gv2,cap2,rfl,_,_⟩:=hJ3.b.read (by simp)
    have HJ3:Hid _:=hJ3
    clear hJ3 hb2 hs2 HZ HJ HLE HLE' hD
    go_wp2
    go_ret
    rw[hJ2.out]
    exact⟨rfl,_,_,_,_,_,HJ3.out⟩
   ·have tm:(mm==-1)=false:=beq_eq_false_iff_ne.2 hmm
    have hJ2:Hid (jf vs s x t=((jst vs x t (s-x)).1,mm)):=by
     show _=_
     rw[hJF.out,if_neg hmm]
    clear hJF hmm hm HLE
    go_wp2
    go_ret
    rw[hJ2.out]
    exact⟨rfl,_,_,_,_,_,HJ.out⟩
theorem sX (w:World)(_lo g1 g2 g3 n1 c1 n2 c2 n3 c3:Nat)(s x t:Nat)(ins:List Int)(vs:List Vl)(outs:List Int)(f:GN w g1 g2 g3 n2 ins vs outs)(e1:ins.length=n1)(e3:outs.length=n3)(hlt:∀v∈vs,v.k<18446744073709551616)(h:okG ins vs outs=true)(hs:s<n2)(hx:x<n2)(ht:t<n2)(h3:(vs.getD t Vl.zero).len=(vs.getD x Vl.zero).len)(hwh:∀k,whO (vs.getD k Vl.zero).op):
  Calls Tryz.prog 12 #[ip (some ⟨g1,0,none⟩) n1 c1 (some ⟨g2,0,none⟩) n2 c2 (some ⟨g3,0,none⟩) n3 c3,.int .i64 (s:Int),.int .i64 (x:Int),.int .i64 (t:Int)] w λe w'=>(jR (jf vs s x t).1=true->e=.returned (.tuple #[oF,.int .i64 0,.int .i64 5]))/\(jR (jf vs s x t).1=false->An w w' n1 n3 ins outs (jf vs s x t) e)/\Kept 0 0 w w':=by
 have HWH:Hid _:=hwh
 clear hwh
 have hgs:=f.gs hlt
 rw[e1,e3] at hgs
 have e2:vs.length=n2:=f.v.len
 have hok:=h
 unfold okG at hok
 simp only[Bool.and_eq_true,decide_eq_true_eq,e1,e2,e3] at hok
 obtain⟨⟨l1,l2,l3⟩,_,hv,_,hc5⟩:=hok
 have HOK:Hid _:=hv
 have HC5:Hid _:=hc5
 have HLN:Hid (vs.length=n2):=e2
 have hK:=(hU 0 0 w (iv (some ⟨g1,0,none⟩) n1 c1 (some ⟨g2,0,none⟩) n2 c2 (some ⟨g3,0,none⟩) n3 c3)).trans (hU 0 0 _ iw)
 have HX:Hid _:=mw _ (some ⟨g1,0,none⟩) (some ⟨g2,0,none⟩) (some ⟨g3,0,none⟩) n1 c1 n2 c2 n3 c3 ins vs outs (hgs.keep hK)
 rw[h] at HX
 have HK:Hid _:=hK
 have hN:=i9 (w.alloc (iv (some ⟨g1,0,none⟩) n1 c1 (some ⟨g2,0,none⟩) n2 c2 (some ⟨g3,0,none⟩) n3 c3))
 rw[show(w.alloc (iv (some ⟨g1,0,none⟩) n1 c1 (some ⟨g2,0,none⟩) n2 c2 (some ⟨g3,0,none⟩) n3 c3)).heap.size=w.heap.size+1 by simp] at hN
 have HN:Hid _:=hN
 have HB:Hid _:=(iO w (.slice (some ⟨g1,0,none⟩) n1 c1) (.slice (some ⟨g2,0,none⟩) n2 c2) (.slice (some ⟨g3,0,none⟩) n3 c3)).keep (hU 0 0 _ iw)
 have HI:Hid (∀w2:World,_):=λw2=>xR (w2.alloc (.cells #[.int .i64 (s:Int),.int .i64 (x:Int),.int .i64 (t:Int)] 3)) w2.heap.size 3 3 (n2:Int) [(s:Int),(x:Int),(t:Int)] rfl (by omega) (EU w2 s x t)
 rw[show([(s:Int),(x:Int),(t:Int)].all (iL · (n2:Int)))=true by simp[iL];omega] at HI
 have HF:Hid _:=GN.keepJ f hK
 have HL3:Hid _:=h3
 have HE:Hid (ins.length=n1/\outs.length=n3):=⟨e1,e3⟩
 clear hK h f hN h3 hv hc5 hgs hlt e2 e1 e3
 go_enter Tryz.func12,Tryz.ntmps12
 go_wp2_with fail
 generalize (w.alloc (iv (some ⟨g1,0,none⟩) n1 c1 (some ⟨g2,0,none⟩) n2 c2 (some ⟨g3,0,none⟩) n3 c3)).alloc iw=wB at HX HK HN HB HF ⊢
 refine Calls.mono HX.out ?_
 rintro e w2 ⟨rfl,k2⟩
 obtain⟨_,p0,p1,p2⟩:=G0.keep HB.out k2
 go_wp2_with fail
 clear p0 p1 p2
 refine Calls.mono (HI.out w2) ?_
 rintro e w3 ⟨rfl,rfl⟩
 have k3:=hU 0 0 w2 (.cells #[.int .i64 (s:Int),.int .i64 (x:Int),.int .i64 (t:Int)] 3)
 have HK4:Hid _:=k2.trans k3
 clear k2 k3 HX HI
 generalize w2.alloc (.cells #[.int .i64 (s:Int),.int .i64 (x:Int),.int .i64 (t:Int)] 3)=w4 at HK4 ⊢
 obtain⟨_,p0,p1,p2⟩:=G0.keep HB.out HK4.out
 have hVA:=(GN.keepJ HF.out HK4.out).v
 have ct:=(hVA.at_ t ht).c1
 have cx:=(hVA.at_ x hx).c1
 rw[HL3.out] at ct
 generalize (vs.getD x Vl.zero).len=lx at cx ct
 clear hVA
 have j0:(0:Int)<=(t:Int):=by omega
 have j1:(t:Int)<(n2:Int):=by omega
 have j2:(0:Int)<=(x:Int):=by omega
 have j3:(x:Int)<(n2:Int):=by omega
 have j4:(lx !=lx)=false:=by simp
 go_wp2_with fail
 go_quiet (fail)
 have HK5:Hid _:=Kept.trans HK4.out (iq 0 0 w4 nq)
 clear HK4 p0 p1 p2 ct cx j4
 generalize w4.drewN nq=w5 at HK5 ⊢
 obtain⟨_,p0,p1,p2⟩:=G0.keep HB.out HK5.out
 go_wp2_with fail
 clear p0 p1 p2
 refine Calls.mono (qh w5 _lo g1 g2 g3 n1 c1 n2 c2 n3 c3 ins vs outs (GN.keepJ HF.out HK5.out) HE.out.1 HE.out.2 (by omega) l2 (by omega) (λk hk=>ja (List.all_eq_true.1 HOK.out k (List.mem_range.2 hk)))) ?_
 rintro e w6 ⟨P,G1,d1,G3,d3,R,vv,rfl,hBS,hO1,hO3,⟨d1',d2',d3',d4',d5',d6',d7'⟩,k6⟩
 have HK6:Hid _:=Kept.trans HK5.out k6
 have hz5:=HK5.out.size
 have hz6:=k6.size
 have HB6:Hid _:=hBS
 have HO1:Hid _:=hO1
 have HO3:Hid _:=hO3
 have HDD:Hid ((w5.heap.size<=P/\G1≠P/\G3≠P/\G1≠G3/\R≠some G1/\R≠some G3)/\wB.heap.size<=w5.heap.size/\w5.heap.size<=w6.heap.size):=⟨⟨d1',d2',d3',d4',d5',d6'⟩,hz5,hz6⟩
 clear hBS hO1 hO3 d1' d2' d3' d4' d5' d6' d7' k6 hz5 hz6 HK5
 have HPD:Hid _:=wR w6 wB P G1 d1 n1 G3 d3 n3 w5.heap.size n2 s x t ins vs outs R vv HB6.out (λw7 k7 hM=>{
  b:=HB6.out.keep k7
  m:=hM
  i:=iC HO1.out k7
  o:=iC HO3.out k7
  k:=Kept.trans HK6.out k7
  dP:=by have:=HDD.out;omega
  dM:=by have:=HDD.out;omega
  dB:=HDD.out.2.1
  ne1:=by have:=HB6.out.lt;omega
  ne2:=HDD.out.1.2.1
  ne3:=HDD.out.1.2.2.1
  ne4:=by have:=(ii HO1.out (k:=G1) rfl).2;omega
  ne5:=by have:=(ii HO3.out (k:=G3) rfl).2;omega
  r1:=HB6.out.far.2
  r2:=HDD.out.1.2.2.2.2.1
  r3:=HDD.out.1.2.2.2.2.2}) HLN.out l2 HOK.out HC5.out hs hx HWH.out
 clear HB6 HO1 HO3
 go_wp2_with fail
 generalize hM0:jf vs s x t=M at HPD
 have HM0:Hid (jf vs s x t=M):=hM0
 clear hM0
 refine Calls.mono HPD.out ?_
 rintro e w10 ⟨rfl,Mb,mv,R2,gv2,cap2,hJ3⟩
 have HJ3:Hid _:=hJ3
 clear hJ3 HPD
 obtain⟨M1,mm⟩:=M
 simp only at HJ3
 cases hlim:jR M1
 ·have hl':=of_decide_eq_false hlim
  have HA:Hid _:=rE w10 P _ _ n1 d1 n3 d3 _ _ _ R2 gv2 cap2 mm HJ3.out.b (by omega) (by omega)
  clear hl'
  go_wp2_with fail
  refine Calls.mono HA.out ?_
  rintro e wA ⟨rfl,kA⟩
  have HKA:Hid _:=kA
  obtain⟨_,q0,q1,q2,f0,f1,f2⟩:=RB.keep HN.out (Kept.trans HJ3.out.k kA)
  obtain⟨y0,y1,y2⟩:=iy wA (w.heap.size+1) _ _ _ q0 q1 q2 (.slice (some ⟨G1,0,none⟩) n1 d1) (.slice (some ⟨gv2,0,none⟩) M1.length cap2) (.slice (some ⟨G3,0,none⟩) n3 d3)
  have kp:=iD wA (w.heap.size+1) (.slice (some ⟨G1,0,none⟩) n1 d1) (.slice (some ⟨gv2,0,none⟩) M1.length cap2) (.slice (some ⟨G3,0,none⟩) n3 d3)
  have R0:Hid (Kept 0 0 w _):=Kept.new (Kept.trans HK.out (Kept.trans HJ3.out.k kA)) kp (by omega)
  have R1:Hid _:=FH (w:=w) HJ3.out kA kp (by have h1:=HN.out.sz;have:=HDD.out;omega) (by have h1:=HK.out.size;have:=HDD.out;omega) HDD.out.1.2.2.2.1 mm
  clear kA HA kp
  go_wp2_with fail
  refine bodyPost_ret (v:=.tuple #[.agg #[.slice (some ⟨G1,0,none⟩) n1 d1,.slice (some ⟨gv2,0,none⟩) M1.length cap2,.slice (some ⟨G3,0,none⟩) n3 d3],.int .i64 mm,.int .i64 0]) (by simp[results,Tryz.results12,go_sem,y0,y1,y2]) rfl ⟨λhf=>?_,λ_=>?_,R0.out⟩
  ·rw[HM0.out,hlim] at hf
   cases hf
  ·rw[HM0.out]
   exact R1.out
 ·have HA:Hid _:=qj w10 P _ _ _ _ R2 gv2 cap2 mm HJ3.out.b hlim
  go_wp2_with fail
  refine Calls.mono HA.out ?_
  rintro e wA ⟨rfl,kA⟩
  have HKA:Hid _:=kA
  obtain⟨_,q0,q1,q2,f0,f1,f2⟩:=RB.keep HN.out (Kept.trans HJ3.out.k kA)
  obtain⟨y0,y1,y2⟩:=iy wA (w.heap.size+1) _ _ _ q0 q1 q2 (.slice none 0 0) (.slice none 0 0) (.slice none 0 0)
  have R0:Hid (Kept 0 0 w _):=Kept.new (Kept.trans HK.out (Kept.trans HJ3.out.k kA)) (iD wA (w.heap.size+1) (.slice none 0 0) (.slice none 0 0) (.slice none 0 0)) (by omega)
  clear kA HA
  go_wp2_with fail
  refine bodyPost_ret (v:=.tuple #[oF,.int .i64 0,.int .i64 5]) (by simp[results,Tryz.results12,go_sem,y0,y1,y2]) rfl ⟨λ_=>rfl,λhf=>?_,R0.out⟩
  rw[HM0.out,hlim] at hf
  cases hf
end
end Go.Proofs.YtnlffngpnoodkaaGreat
