import Derived.Test.YtkjahdegnkmejaaGreatP30
import Derived.Test.YtkjahdegnkmejaaGreatP13
import Derived.Test.YtkjahdegnkmejaaGreatP23
import Derived.Test.YtkjahdegnkmejaaGreatP20
namespace Go.Proofs.Z
variable{Zp:Prop}
open Tryz
set_option maxRecDepth 1000000
set_option maxHeartbeats 0
section
open Go.RowKit Flt
attribute[local go_sem] eE eC eB
def flE(env:List (List UInt8×Int)):List Value:=env.flatMap λx=>[.string ⟨x.1.toArray⟩,.int .i64 x.2]
def nmL:List (List UInt8):=[[97],[98,50],[99,95],[100],[101],[103],[104]]
theorem JZ(a b):flE (a++b)=flE a++flE b:=by simp[flE]
theorem AR(a):∀k,k<a.length->(flE a)[k*2]? =some (eL (a.getD k ([],0)).1)/\(flE a)[k*2+1]? =some (ih (a.getD k ([],0)).2):=by
 induction a with
 |nil=>intro k J;cases J
 |cons x r Z=>
  intro k J;cases k with
  |zero=>exact⟨rfl,rfl⟩
  |succ k=>
   have h:=Z k (Nat.lt_of_succ_lt_succ J);have e:flE (x::r)=[.string ⟨x.1.toArray⟩,ih x.2]++flE r:=rfl;rw[e,show(k+1)*2=2+k*2 by omega,yas xac,yas yag];simpa[show 2+k*2+1-2=k*2+1 by omega] using h
theorem Pg:(prog.info? 138).map (λi=>(i.zero,i.size,i.bytes))=some (some (.agg #[.string ⟨#[]⟩,ih 0]),2,24):=by kernel_rfl
theorem lU(w){bS rest o a Q}(am:o.guard=none)(s x)
  (aR:o.op=.call {callee:=.builtin .append,args:=#[s,x],argTypes:=#[136,136]})
  (I) (u) (env) (aw:a.eval s=u) (bi:w.ownsRow I 138 2 u env.length (flE env))
  (b) (v) (aH:a.eval x=ia b 1 1) (aj:w.cell? ⟨b,0,none⟩=some (.string ⟨v.1.toArray⟩)) (B:w.cell? ⟨b,1,none⟩=some (ih v.2))
  (f:env.length+1<=1000) (ae:I<=w.heap.size)
  (h:∀g cap n O,n=(env++[v]).length->O.ownsRow I 138 2 (ia g n cap) n (flE (env++[v]))->Chg (λb=>u.ownBlock=some b) w O->(u.ownBlock=some g\/g=w.heap.size)->wpList prog bS Q rest (a.put o.dst (ia g n cap)) O):wpList prog bS Q (o::rest) a w:=by
 obtain⟨bY,hi,cg,b8,cc⟩:=info_parts Pg;refine wpList_append_lies w am s x 136 aR I 138 bY _ 2 24 underlying136 hi cg b8 cc rfl xab u env.length _ aw bi ⟨b,0,none⟩ 1 1 [.string ⟨v.1.toArray⟩,ih v.2] aH rfl ?_ ?_ xab (by unfold maxLen;omega) xaa ae _ rfl ?_
 ·intro j u G;match j,G with
  |0,G=>cases G;exact aj
  |1,G=>cases G;exact B
 ·intro u G;simp at G;rcases G with rfl|rfl<;>rfl
 intro g cap O B N h3 _;have e:env.length+1=(env++[v]).length:=by rw[yal];rfl
 rw[e]at B⊢;refine h g cap _ O rfl ?_ (fA N) h3;rw[JZ];exact B
structure Sw(w:World)(P n cap T:Nat)(a:Option Addr)(bs:List Int)(i:Nat)(env:List (List UInt8×Int))(u:Value)(W:World):Prop where
 rd:RdF W P a n cap i bs
 own:W.ownsRow w.heap.size 138 2 u env.length (flE env)
 tb:∀m,m<7->W.cell? ⟨T,m,none⟩=some (.string ⟨(nmL.getD m []).toArray⟩)
 tl:T<W.heap.size
 wl:w.heap.size<=T
 p0:P<w.heap.size
 nt:u.ownBlock≠some T
 kp:Kept P (P+1) w W
variable{w W F:World}{P n cap T i j:Nat}{a:Option Addr}{bs:List Int}{env:List (List UInt8×Int)}{u:Value}
theorem Sw.step(h:Sw w P n cap T a bs i env u W)(r:RdF F P a n cap j bs)(k:Kept P (P+1) W F):Sw w P n cap T a bs j env u F:=
 have aA:=h.p0
 have S:=h.wl
 ⟨r,fJ h.own k λ_ e=>.inr (i4 ((eF h.own e).1)),λm aD=>(k.cell (p:=⟨T,m,none⟩) h.tl (by show ¬(P<=T/\T<P+1);omega)).trans (h.tb m aD),yak h.tl k.size,S,aA,h.nt,h.kp.trans k⟩
theorem Sw.keep0(h:Sw w P n cap T a bs i env u W)(k:Kept 0 0 W F):Sw w P n cap T a bs i env u F:=h.step (h.rd.keep0 k) (eZ k)
theorem Sw.next(h:V (Sw w P n cap T a bs i env u W)):Calls prog 11 #[ge P] W λe F=>e=.returned (ih (nv bs i:Int))/\Sw w P n cap T a bs (ni bs i) env u F:=
 (iD W P a n cap i bs h.o.rd).mono λ_ _ ⟨e,r,k,_⟩=>⟨e,h.o.step r k⟩
theorem Sw.form(h:Sw w P n cap T a bs i env u W):∃aE cE,u=.slice aE env.length cE:=by
 rcases h.own.2 with⟨e,bB⟩|⟨g,c,_,e,_⟩
 ·exact⟨none,0,by rw[e,bB]⟩
 exact⟨_,c,e⟩
theorem Sw.call{aE nE cE f m xs s}(h:V (Sw w P n cap T a bs i env (.slice aE nE cE) W))(ag:nE<=100)(aN:Dr env bs i f xs m s j):
  Calls prog f (xs ⟨W,P,n,cap,nE,cE,a,aE⟩) W λe F=>e=.returned (.string s)/\Sw w P n cap T a bs j env (.slice aE nE cE) F/\Kept P (P+1) W F:=by
 have hn:=f4 h.o.own;subst hn;refine(aN.2 ⟨W,P,n,cap,env.length,cE,a,aE⟩ W ⟨h.o.rd,⟨rfl,ag,λk J=>?_⟩,Kept.refl _ _ _⟩).mono λ_ _ ⟨e,aw⟩=>⟨e,h.o.step aw.rd aw.kp,aw.kp⟩
 replace J:k<env.length:=J;obtain⟨g,c,e,B,N⟩:=h.o.own.form xaa;injection e with ad;have q:=λm v z=>h.o.own.cells (g:=g) (jL ad) m v z;simp only[il,Nat.zero_add]at q;have aA:=h.o.p0;exact⟨g,ad,by show P<g;omega,N,q _ _ (AR env k J).1,q _ _ (AR env k J).2⟩
theorem Sw.last{es v}(h:Sw w P n cap T a bs i env u W)(y:env=es++[v]):∃g cE,u=ia g env.length cE/\W.cell? ⟨g,es.length*2,none⟩=some (.string ⟨v.1.toArray⟩)/\W.cell? ⟨g,es.length*2+1,none⟩=some (ih v.2):=by
 have ag:env.length=es.length+1:=by rw[y,yal];rfl
 obtain⟨g,c,e,_,_⟩:=h.own.form xaa;have q:=λm v z=>h.own.cells (g:=g) (jL e) m v z;simp only[il,Nat.zero_add]at q;have z:=AR env es.length xaa;have be:env.getD es.length ([],0)=v:=by simp[y,List.getD_eq_getElem?_getD]
 rw[be]at z;exact⟨g,c,e,q _ _ z.1,q _ _ z.2⟩
theorem Sw.app(h:Sw w P n cap T a bs i env u W)(v){g c m}(aD:m=(env++[v]).length)(o:F.ownsRow w.heap.size 138 2 (ia g m c) m (flE (env++[v])))(k:Chg (λb=>u.ownBlock=some b) W F)(az:u.ownBlock=some g\/g=W.heap.size):Sw w P n cap T a bs i (env++[v]) (ia g m c) F:=by
 have aA:=h.p0;subst aD;have al:Kept w.heap.size W.heap.size W F:=⟨k.os,k.tape,k.output,k.size,λb hb hn=>k.block b hb λe=>hn (eF h.own e)⟩
 refine⟨h.rd.keep al (.inl aA),o,λm aD=>(k.cell (p:=⟨T,m,none⟩) h.tl h.nt).trans (h.tb m aD),yak h.tl k.size,h.wl,aA,?_,h.kp.new al yad⟩;rcases az with e|e
 ·show some g≠some T;rw[<-e];exact h.nt
 have:=h.tl;simp only[Value.ownBlock];intro c;injection c;omega
end
section
open Go.RowKit Flt Ieee
variable{x:List UInt8}
theorem J0(s d e):∃r,double.nearest s d e=W s r/\r<=9218868437227405312:=by
 unfold Ieee.Format.nearest;by_cases h:d=0
 ·rw[iv h,mQ];grind
 rw[ip h];simp only[mQ,qI];exact⟨_,rfl,Nat.min_le_right _ _⟩
theorem yY(neg n b):Ieee.Toward.cut .even neg n b<=n+1:=by
 unfold Ieee.Toward.cut;simp only;exact Nat.add_le_add (Nat.div_le_self _ _) (Bool.toNat_le _)
theorem tJ(d)(h:d<=10000000000000000):∃r,double.nearest false d 0=W false r/\r<9218868437227405312/\(0<d->0<r):=by
 unfold Ieee.Format.nearest;by_cases aj:d=0
 ·rw[iv aj,mQ];grind
 rw[ip aj];simp only[mQ,qI,mB,nH,pP]
 have bI:d.log2<=53:=by
  have:=(Nat.log2_lt aj).2 (show d<2 ^ 54 by omega);omega
 have aD:d<2 ^ (d.log2+1):=Nat.lt_log2_self;generalize d.log2=L at*;have ag:max ((0:Int)+L-(52:Nat)) (-1074)=L-52:=xaa;rw[ag]
 have hn:d<<<(0-((L:Int)-52)).toNat<=10000000000000000:=by
  rw[Nat.shiftLeft_eq];by_cases c:L<=52
  ·have e:(0-((L:Int)-52)).toNat=52-L:=xaa;rw[e];have B:d*2 ^ (52-L)<=2 ^ (L+1)*2 ^ (52-L):=Nat.mul_le_mul_right _ (Nat.le_of_lt aD);rw[<-Nat.pow_add,show L+1+(52-L)=53 by omega]at B;omega
  grind
 have J:=yY false (d<<<(0-((L:Int)-52)).toNat) ((L:Int)-52-0).toNat;generalize Ieee.Toward.cut _ _ _ _=bA at*;have hi:((L:Int)-52- -1074).toNat=L+1022:=xaa;rw[hi];refine⟨_,rfl,?_,λ_=>?_⟩<;>omega
theorem F4{s r}(h:r<=9218868437227405312):(double.read (W s r)).isNaN=false:=by
 rcases Nat.lt_or_eq_of_le h with h|rfl
 ·rw[gU h];rfl
 rw[nJ];rfl
theorem J1{n d}(aj:0<=n)(B:n<=10000000000000000)(N:1<=d)(h3:d<=10000000000000000):(f64.read (cop .quo (floatOfInt .f64 n) (floatOfInt .f64 d))).isNaN=false:=by
 obtain⟨r,ad,au,_⟩:=tJ n.natAbs xaa;obtain⟨q,be,am,aU⟩:=tJ d.natAbs xaa
 have f1:floatOfInt .f64 n=W false r:=by
  rw[<-ad];show double.nearest (decide (n<0)) n.natAbs 0=_;grind
 have f2:floatOfInt .f64 d=W false q:=by
  rw[<-be];show double.nearest (decide (d<0)) d.natAbs 0=_;grind
 rw[f1,f2];have bE:=Ly (aU xaa);have e:floatBits .quo .f64 _ _=((double.read (W false r)).quotient (double.fractionBits+2) (double.read (W false q))).map double.write:=rfl;unfold cop;rw[e,gU au,gU am];simp only[Ieee.Datum.quotient,ip (show ¬M q=0 by omega),Option.map_some,Option.getD_some,Ieee.Format.write];obtain⟨z,ah,b5⟩:=J0 (false ^^ false) (2*((M r<<<(double.fractionBits+2+(M q).log2-(M r).log2))/M q)+((M r<<<(double.fractionBits+2+(M q).log2-(M r).log2))%M q !=0).toNat) (-1074+(E r:Nat)-(-1074+(E q:Nat))-(double.fractionBits+2+(M q).log2-(M r).log2:Nat)-1);rw[ah];exact F4 b5
theorem J2(h:kr x):(f64.read (oh x)).isNaN=false:=by
 obtain⟨⟨p,aA⟩,aN⟩:=h;obtain⟨B,N,h3,bp⟩:=uH _ aA.digit _ yad (aA.short aN);rw[yap yad]at B N h3 bp;exact J1 B N h3 bp
theorem qU(h:kr x){f c}(k:RN (gX x) f c):f=oh x/\c=0:=by
 rcases k with⟨B,_⟩|⟨_,N,_⟩|⟨_,_,_,bp,bU⟩
 ·exact absurd h.1 B
 ·have:=h.2;omega
 refine⟨?_,bU⟩;rcases Er bp with e|⟨_,e⟩<;>grind[J2,oh]
end
section
open Go.RowKit Flt
theorem mL(w e s):Kept 0 0 w (Lib.bytesWorld w e s):=
 ⟨rfl,rfl,rfl,jx Lib.bytesWorld_size,λk J _=>Lib.bytesWorld_at_old w e s k J⟩
theorem qr(w e t):YS (Lib.bytesWorld w e ⟨t.toArray⟩) (some ⟨w.heap.size,0,none⟩) t.length (gX t) where
 len:=by unfold gX;rw[List.length_map]
 lt:=λx aH=>by
  unfold gX at aH
  obtain⟨b,_,rfl⟩:=List.mem_map.1 aH
  have:=b.toNat_lt
  omega
 at_:=.inr ⟨w.heap.size,0,rfl,jx Lib.bytesWorld_size,λk J=>by
  rw[Nat.zero_add,Lib.bytesWorld_cell w e ⟨t.toArray⟩ k J,qP t k J]
  rfl⟩
theorem sf{x}(h:kr x):x.length<=16:=by
 obtain⟨⟨p,aA⟩,aN⟩:=h;have:=aA.short aN;unfold gX at this;rwa [List.length_map]at this
theorem BI(x):oh x<18446744073709551616:=FW _ _ _
structure TxA(w:World)(a:Option Addr)(n:Nat)(t:List UInt8):Prop where
 len:t.length=n
 at_:0<n->∃g off,a=some ⟨g,off,none⟩/\TxS w g off n t
theorem TxA.keep{w O a n t}(h:TxA w a n t)(k:Kept 0 0 w O):TxA O a n t:=
 ⟨h.len,λhn=>by obtain⟨g,an,e,B⟩:=h.at_ hn;exact⟨g,_,e,B.keep k⟩⟩
end
section
open Go.RowKit Flt
attribute[local go_sem] eE eC eB
variable{l:List (List UInt8)}{g:ByteArray}{L b8 P n cap:Nat}{w:World}{a:Option Addr}
variable{bs:List Int}
theorem NC{C:Type}{G:Nat->C->Prop}{H:Nat->C->C->Prop}(h:∀k a,G k a->∃b,G (k+1) b/\H k a b){bK}(aj:G 0 bK):∃f:Nat->C,f 0=bK/\∀k,G k (f k)/\H k (f k) (f (k+1)):=by
 let aB:(k:Nat)->{a//G k a}:=λk=>Nat.rec ⟨_,aj⟩ (λk x=>⟨_,(Classical.choose_spec (h k _ x.2)).1⟩) k
 exact⟨_,rfl,λk=>⟨(aB k).2,(Classical.choose_spec (h k _ (aB k).2)).2⟩⟩
structure Ss where
 e:List (List UInt8×Int)
 o:ByteArray
 i:Nat
def Gs(L Z:Nat)(s:Ss):Prop:=s.e.length=L/\(∀x∈s.e,x.1.length<=5)/\s.o.size<=Z
def nmB(k:Nat):List UInt8:=nmL.getD k []
theorem xr(k):(nmB k).length<=5:=by
 match k with
 |0|1|2|3|4|5|6=>decide
 |k+7=>exact yae
theorem nv3(i):1<=1+(nv bs i:Int)%3/\1+(nv bs i:Int)%3<=3:=xaa
theorem Gs.put{L b8 z s}(h:Gs L b8 s)(k q x j)(aH:x.size<=z):Gs (L+1) (b8+z) ⟨s.e++[(nmB k,q)],s.o++x,j⟩:=
 ⟨by rw[yal,h.1];rfl,λy bK=>by
  rcases List.mem_append.1 bK with c|c
  ·exact h.2.1 y c
  ·rw[List.mem_singleton.1 c];exact xr k,by have:=h.2.2;rw[yar];omega⟩
def ex3(q:Int)(d:Int):Xd->Array Value:=λX=>#[.slice X.aE X.nE X.cE,.int .i64 q,.int .i64 d,.pointer (some ⟨X.P,0,none⟩)]
def inX(bs:List Int)(gap:ByteArray)(k:Nat)(s:Ss):ByteArray:=⟨#[105,110,32]⟩++⟨(nmB k).toArray⟩++⟨#[32,58,32]⟩++⟨(gJ (1+nv bs s.i%3)).toArray⟩++⟨#[59]⟩++gap
def R1(bs:List Int)(gap:ByteArray)(k:Nat)(s s':Ss):Prop:=s'=⟨s.e++[(nmB k,1+(nv bs s.i:Int)%3)],s.o++inX bs gap k s,ni bs s.i⟩
def R2(bs:List Int)(gap:ByteArray)(n k:Nat)(s s':Ss):Prop:=∃x j,Dr s.e bs (ni bs s.i) 90 (ex3 (1+(nv bs s.i:Int)%3) 3) 64000 x j/\s'=⟨s.e++[(nmB (n+k),1+(nv bs s.i:Int)%3)],s.o++(⟨#[108,101,116,32]⟩++⟨(nmB (n+k)).toArray⟩++⟨#[32,61,32]⟩++x++⟨#[59]⟩++gap),j⟩
def R3(bs:List Int)(gap:ByteArray)(_:Nat)(s s':Ss):Prop:=∃x j,Dr s.e bs (ni bs s.i) 90 (ex3 (1+(nv bs s.i:Int)%3) 4) 256000 x j/\s'=⟨s.e,s.o++(⟨#[111,117,116,32]⟩++x++⟨#[59]⟩++gap),j⟩
theorem P8(az:g.size<=8){s}(h:Gs L b8 s):∃f:Nat->Ss,f 0=s/\∀k,Gs (L+k) (b8+k*100) (f k)/\R1 bs g k (f k) (f (k+1)):=
 NC (G:=λk=>Gs (L+k) (b8+k*100)) (λk a bR=>by
  have:=(bR.put k (1+(nv bs a.i:Int)%3) (inX bs g k a) (ni bs a.i) (z:=100) (by
   have:=xr k
   have:=jC (1+nv bs a.i%3)
   simp only[inX,yar,fX,yaq,List.length_nil]
   omega))
  rw[show L+k+1=L+(k+1) by omega,show b8+k*100+100=b8+(k+1)*100 by omega]at this
  exact⟨_,this,rfl⟩) h
theorem P9(hb:∀i,nv bs i<256)(az:g.size<=8){s}(n)(h:Gs L b8 s):∃f:Nat->Ss,f 0=s/\∀k,Gs (L+k) (b8+k*64100) (f k)/\R2 bs g n k (f k) (f (k+1)):=
 NC (G:=λk=>Gs (L+k) (b8+k*64100)) (λk a bR=>by
  obtain⟨x,j,aN⟩:=FV bR.2.1 hb 3 xab _ (nv3 (bs:=bs) a.i) (ni bs a.i)
  have aH:=aN.1
  have:=(bR.put (n+k) (1+(nv bs a.i:Int)%3) (⟨#[108,101,116,32]⟩++⟨(nmB (n+k)).toArray⟩++⟨#[32,61,32]⟩++x++⟨#[59]⟩++g) j (z:=64100) (by
   have:=xr (n+k)
   simp only[yar,fX,yaq,List.length_nil]
   omega))
  rw[show L+k+1=L+(k+1) by omega,show b8+k*64100+64100=b8+(k+1)*64100 by omega]at this
  exact⟨_,this,x,j,aN,rfl⟩) h
theorem Qb(hb:∀i,nv bs i<256)(az:g.size<=8){s}(h:Gs L b8 s):∃f:Nat->Ss,f 0=s/\∀k,Gs L (b8+k*256100) (f k)/\R3 bs g k (f k) (f (k+1)):=
 NC (G:=λk=>Gs L (b8+k*256100)) (λk a bR=>by
  obtain⟨x,j,aN⟩:=FV bR.2.1 hb 4 xab _ (nv3 (bs:=bs) a.i) (ni bs a.i)
  have aH:=aN.1
  exact⟨⟨_,_,j⟩,⟨bR.1,bR.2.1,by
   have:=bR.2.2
   simp only[yar,fX,yaq,List.length_nil]
   omega⟩,x,j,aN,rfl⟩) h
variable{bs:List Int}
def oZ(l:List (List UInt8)):Array Value:=(l.map λx=>Value.string ⟨x.toArray⟩).toArray
def gapL:List (List UInt8):=[[32],[10],[32,32,35,32,61,32,59,10]]
def bodL:List (List UInt8):=[[112,42,112,32,43,32,49],[101,120,112,40,45,112,41],[112,32,47,32,40,49,32,43,32,112,42,112,41],[109,97,120,40,112,44,32,45,112,41],[103,114,97,100,40,115,117,109,40,112,42,112,42,112,41,44,32,112,41]]
theorem qV{W r}(k:Kept P (P+1) (w.alloc (.cells (oZ l) r)) W)(aA:P<w.heap.size){m}(aD:m<l.length):W.cell? ⟨w.heap.size,m,none⟩=some (.string ⟨(l.getD m []).toArray⟩):=by
 rw[k.cell (p:=⟨w.heap.size,m,none⟩) xac (by show ¬(P<=w.heap.size/\w.heap.size<P+1);omega),yav];simp[oZ,List.getD_eq_getElem?_getD,List.getElem?_eq_getElem aD]
theorem F5{z}(h:∀x∈l,x.length<=z)(m):(⟨(l.getD m []).toArray⟩:ByteArray).size<=z:=by
 rw[fX,yai];cases e:l[m]? with
 |none=>exact yae
 |some x=>exact h x (List.mem_of_getElem? e)
def SrO(w:World)(P n cap:Nat)(a:Option Addr)(bs:List Int)(j:Nat)(t:List UInt8)(e:Ending)(w':World):Prop:=∃g c,e=.returned (.slice (some ⟨g,0,none⟩) t.length c)/\t.length<=c/\YS w' (some ⟨g,0,none⟩) t.length (gX t)/\RdF w' P a n cap j bs/\Kept P (P+1) w w'
theorem Sw.start{W i env u}(F:RdF W P a n cap i bs)(own:W.ownsRow w.heap.size 138 2 u env.length (flE env))(aS:Kept P (P+1) w W)(bG:P<w.heap.size):V (Sw w P n cap W.heap.size a bs i env u (W.alloc (.cells (oZ nmL) 9))):=
 have k:=eA 0 0 W (.cells (oZ nmL) 9)
 ⟨F.keep0 k,eN own k,λ_ aD=>qV (l:=nmL) (Kept.refl P _ _) (yak bG aS.size) aD,by simp,aS.size,bG,λe=>i4 ((eF own e).2),aS.trans (eZ k)⟩
def rpX(gap:ByteArray)(c:Nat)(nl:List UInt8)(x:ByteArray):ByteArray:=⟨#[114,101,112,101,97,116,32]⟩++⟨(gJ (c/5%4)).toArray⟩++⟨#[32]⟩++⟨nl.toArray⟩++⟨#[32,61,32]⟩++x++⟨#[59]⟩++gap
def hd0(body gap:ByteArray):ByteArray:=⟨#[]⟩++(⟨#[100,101,102,32,102,40,112,41,32,61,32]⟩++body++⟨#[59]⟩++gap)
theorem C3(W)(br:List UInt8):(convert 9 22 (.string ⟨br.toArray⟩)).run prog W=.ok (ia W.heap.size br.length (grownCap W br.length 0 5)) (Lib.bytesWorld W 5 ⟨br.toArray⟩):=
 Lib.run_convert_string_bytes (P:=prog) W 9 22 5 ⟨br.toArray⟩ underlying9 underlying22 underlying5
theorem WkM{P:Prop}(h:P:=by
  try dsimp only at e4
  go_upto_region 31 with (go_at_call 11;refine yaj (Sw.next aG) ?_;rintro e ch ⟨rfl,a5⟩;clear aG;have aG:V _:=a5;clear a5);go_wp2_with fail;go_loopw [6,19] (λo t W=>∃k:Nat,k<=m3/\t=ih k/\o=.string (f3 k).o/\V (Sw w P n cap T a bs (f3 k).i (f3 k).e (.slice aE (f2 mm).e.length cE) W)) (λ_ t _=>m3-(intOf t).toNat)
  case atStart=>
   have ad:=H3.o.1;exact⟨0,yae,rfl,by rw[ad],jn ad aG.o⟩
  case round=>
   obtain⟨k,J,rfl,rfl,a5⟩:=hrel;clear aG;by_cases aY:k<m3
   ·have bR:=(H3.o.2 k).1;have d:=(H3.o.2 (k+1)).1;obtain⟨x,r,bI,au⟩:=(H3.o.2 k).2
    have z:((f3 k).o++(⟨#[111,117,116,32]⟩++x++⟨#[59]⟩++g)).size<=1000000:=by
     exact xgx
    have aV:(⟨#[111,117,116,32]⟩++x++⟨#[59]⟩++g:ByteArray).size<=1000000:=by rw[yar]at z;omega
    have bQ:V _:=au;have b:V _:=a5.o;clear bR d au a5;generalize f3 k=s at*;have aH:=hb s.i;repeat (rw[yar]at z;refine sz2 z ?_;clear z;intro _ z)
    repeat (rw[yar]at aV;refine sz2 aV ?_;clear aV;intro _ aV)
    go_wp2_with (first
     |(go_at_call 11;refine yaj (Sw.next b) ?_;rintro e bb ⟨rfl,a5⟩;clear b;have b:V _:=a5;clear a5)
     |(go_at_call 90;have bn:=Sw.call b HL.o bI;simp only[ex3]at bn;(with_reducible refine yaj bn ?_);clear bn;rintro e an ⟨rfl,a5,-⟩;clear b;have b:V _:=a5;clear a5))
    go_roundw
    case rel=>
     refine⟨k+1,by omega,by go_num,?_,?_⟩
     ·rw[bQ.o]
     rw[bQ.o];exact b.o
    case measure=>simp[intOf];omega
   have bO:k=m3:=xaa;have aG:V _:=a5.o;clear a5 J aY;rw[bO]at aG⊢;clear bO k;subst hj;have aa:¬((m3:Int)<m3):=xaa;have O:=C3 wr t;have bv:V _:=qr wr 5 t;have u:V _:=mL wr 5 ⟨t.toArray⟩;generalize Lib.bytesWorld wr 5 ⟨t.toArray⟩=bz at O bv u;have j:V _:=grownCap_ge wr t.length 0 5;generalize grownCap wr t.length 0 5=az at O j;rcases ht.o with⟨bp,f⟩|⟨bp,f⟩
   ·rw[f]at O;have cD:¬(4000<((f3 m3).o.size:Int)):=xaa;clear f;go_wp2;go_ret;exact⟨_,az,rfl,j.o,bv.o,aG.o.rd.keep0 u.o,aG.o.kp.trans (eZ u.o)⟩
   rw[f]at O;have cD:4000<((f3 m3).o.size:Int):=xaa;clear f;go_wp2;go_ret;exact⟨_,az,rfl,j.o,bv.o,aG.o.rd.keep0 u.o,aG.o.kp.trans (eZ u.o)⟩):P:=h
theorem WkL{P:Prop}(h:P:=by
  have bu:V _:=iD _ _ _ _ _ _ _ HR.o;go_upto_region 11 with (go_at_call 11;refine yaj bu.o ?_;rintro e ch ⟨rfl,X,b6,-⟩;have aG:V _:=Sw.start X (fJ HO.o b6 λ_ e=>.inr (i4 ((eF HO.o e).1))) (HK.o.trans b6) hP;clear X b6);clear bu HO HR HK;go_upto_region 12 with fail;change Code.wp _ _ _ _ (ch.alloc (.cells (oZ nmL) 9));generalize ch.alloc (.cells (oZ nmL) 9)=aj at*;generalize ch.heap.size=T at*;go_wp2_with fail;go_loopw [5,6,11] (λu o t W=>∃k:Nat,k<=nn/\t=ih k/\o=.string (f1 k).o/\V (Sw w P n cap T a bs (f1 k).i (f1 k).e u W)) (λ_ _ t _=>nn-(intOf t).toNat)
  case atStart=>
   have e:=HE.o;have ad:=H1.o.1;subst e;exact⟨0,yae,rfl,by rw[ad],jn ad aG.o⟩
  case round=>
   obtain⟨k,J,rfl,rfl,a5⟩:=hrel;clear aG HE;by_cases aY:k<nn
   ·have bR:=(H1.o.2 k).1;have d:=(H1.o.2 (k+1)).1;have au:=(H1.o.2 k).2
    have z:((f1 k).o++inX bs g k (f1 k)).size<=1000000:=by
     exact xgx
    have aV:(inX bs g k (f1 k)).size<=1000000:=by rw[yar]at z;omega
    have bD:V _:=bR;have bQ:V _:=au;have b:V _:=a5.o;clear bR d au a5;unfold R1 inX at bQ;unfold inX at z aV;generalize f1 k=s at*;have aH:=hb s.i
    have HD:V (∀W:World,Calls prog 89 #[ih (1+(nv bs s.i:Int)%3)] W λe O=>e=.returned (eL (gJ (1+nv bs s.i%3)))/\O=W):=λW=>by
     rw[show(1:Int)+(nv bs s.i:Int)%3=((1+nv bs s.i%3:Nat):Int) by omega]
     exact yB _ _ yad xaa W
    unfold eL at HD;generalize (⟨(gJ (1+nv bs s.i%3)).toArray⟩:ByteArray)=I at HD bQ z aV;go_upto_region 16 with (go_at_call 11;refine yaj (Sw.next b) ?_;rintro e bb ⟨rfl,a5⟩;clear b;have b:V _:=a5;have R:=a5.tb k xaa;clear a5);change bb.cell? ⟨T,k,none⟩=some (.string ⟨(nmB k).toArray⟩)at R;generalize v:(⟨(nmB k).toArray⟩:ByteArray)=nk at R bQ z aV;repeat (rw[yar]at z;refine sz2 z ?_;clear z;intro _ z)
    repeat (rw[yar]at aV;refine sz2 aV ?_;clear aV;intro _ aV)
    have al:(k:Int)<7:=xaa;go_quiet ((go_at_call 89;exact Calls.quiet_of_same (HD.o _)))
    have bF:V (∀(m:Nat) (o:Obj),Sw w P n cap T a bs (ni bs s.i) s.e u5 ((bb.alloc o).drewN m)):=λm o=>(b.o.keep0 (eA 0 0 _ o)).keep0 (eJ 0 0 _ m);have bi:V (∀m,((bb.alloc (.cells #[.string nk,ih (1+(nv bs s.i:Int)%3)] 138)).drewN m).cell? ⟨bb.heap.size,0,none⟩=some (.string ⟨(nmB k).toArray⟩)/\((bb.alloc (.cells #[.string nk,ih (1+(nv bs s.i:Int)%3)] 138)).drewN m).cell? ⟨bb.heap.size,1,none⟩=some (ih (1+(nv bs s.i:Int)%3))):=λm=>by rw[v];exact⟨by simp,by simp⟩
    have HL:V (s.e.length+1<=1000):=by have:=bD.o.1;show _<=_;omega
    go_wp2_with (at_builtin;refine lU _ rfl _ _ rfl w.heap.size u5 s.e rfl (bF.o _ _).own bb.heap.size (nmB k,1+(nv bs s.i:Int)%3) rfl (bi.o _).1 (bi.o _).2 HL.o (yao b.o.wl (Nat.le_of_lt (bF.o _ _).tl)) ?_;intro g9 aX n9 a7 a2 H ab br;have aW:V _:=(bF.o _ _).app _ a2 H ab br;clear a2 H ab br);exact xgl
   have bO:k=nn:=xaa;have aG:V _:=a5.o;clear a5 J aY;rw[bO]at aG⊢;clear bO k;go_upto_region 19 with (go_at_call 11;refine yaj (Sw.next aG) ?_;rintro e ch ⟨rfl,a5⟩;clear aG;have aG:V _:=a5;clear a5);rw[em];go_wp2_with fail;go_loopw [5,6,14] (λu o t W=>∃k:Nat,k<=mm/\t=ih k/\o=.string (f2 k).o/\V (Sw w P n cap T a bs (f2 k).i (f2 k).e u W)) (λ_ _ t _=>mm-(intOf t).toNat)
   case atStart=>
    have ad:=H2.o.1;exact⟨0,yae,rfl,by rw[ad],jn ad aG.o⟩
   case round=>
    obtain⟨k,J,rfl,rfl,a5⟩:=hrel;clear aG;by_cases aY:k<mm
    ·have bR:=(H2.o.2 k).1;have d:=(H2.o.2 (k+1)).1;obtain⟨x,r,bI,au⟩:=(H2.o.2 k).2
     have z:((f2 k).o++(⟨#[108,101,116,32]⟩++⟨(nmB (nn+k)).toArray⟩++⟨#[32,61,32]⟩++x++⟨#[59]⟩++g)).size<=1000000:=by
      exact xgx
     have aV:(⟨#[108,101,116,32]⟩++⟨(nmB (nn+k)).toArray⟩++⟨#[32,61,32]⟩++x++⟨#[59]⟩++g:ByteArray).size<=1000000:=by rw[yar]at z;omega
     have bD:V _:=bR;have bQ:V _:=au;have b:V _:=a5.o;obtain⟨aE,cE,G⟩:=a5.o.form;subst G;clear bR d au a5;generalize f2 k=s at*;have aH:=hb s.i;have dd:(nn:Int)+k<7:=xaa;have aa:(k:Int)<mm:=xaa;have HL:V (s.e.length<=100):=by have:=bD.o.1;show _<=_;omega
     go_upto_region 24 with (first
      |(go_at_call 11;refine yaj (Sw.next b) ?_;rintro e bb ⟨rfl,a5⟩;clear b;have b:V _:=a5;clear a5)
      |(go_at_call 90;have bn:=Sw.call b HL.o bI;simp only[ex3]at bn;(with_reducible refine yaj bn ?_);clear bn;rintro e an ⟨rfl,a5,-⟩;clear b;have b:V _:=a5;have R:=a5.tb (nn+k) xaa;clear a5))
     change an.cell? ⟨T,nn+k,none⟩=some (.string ⟨(nmB (nn+k)).toArray⟩)at R;generalize v:(⟨(nmB (nn+k)).toArray⟩:ByteArray)=nk at R bQ z aV;repeat (rw[yar]at z;refine sz2 z ?_;clear z;intro _ z)
     repeat (rw[yar]at aV;refine sz2 aV ?_;clear aV;intro _ aV)
     have bF:V (∀(o:Obj),Sw w P n cap T a bs r s.e _ (an.alloc o)):=λo=>b.o.keep0 (eA 0 0 _ o);have bi:V ((an.alloc (.cells #[.string nk,ih (1+(nv bs s.i:Int)%3)] 138)).cell? ⟨an.heap.size,0,none⟩=some (.string ⟨(nmB (nn+k)).toArray⟩)/\(an.alloc (.cells #[.string nk,ih (1+(nv bs s.i:Int)%3)] 138)).cell? ⟨an.heap.size,1,none⟩=some (ih (1+(nv bs s.i:Int)%3))):=by rw[v];exact⟨by simp,by simp⟩
     have j:V (s.e.length+1<=1000):=by have:=bD.o.1;show _<=_;omega
     go_wp2_with (at_builtin;refine lU _ rfl _ _ rfl w.heap.size (.slice aE s.e.length cE) s.e rfl (bF.o _).own an.heap.size (nmB (nn+k),1+(nv bs s.i:Int)%3) rfl bi.o.1 bi.o.2 j.o (yao b.o.wl (Nat.le_of_lt (bF.o _).tl)) ?_;intro g9 aX n9 a7 a2 H ab br;have aW:V _:=(bF.o _).app _ a2 H ab br;clear a2 H ab br);exact xgl
    have bO:k=mm:=xaa;have aG:V _:=a5.o;clear a5 J aY;rw[bO]at aG⊢;clear bO k;have aa:¬((mm:Int)<mm):=xaa;have K:V ((f2 mm).o.size<=200000):=yao (H2.o.2 mm).1.2.2 xaa;have HL:V ((f2 mm).e.length<=100):=by have:=(H2.o.2 mm).1.1;show _<=_;omega
    rcases h3.o with⟨c7,ah⟩|⟨ae,c7,es,f,q,x,r,y,bI,Z,ah⟩
    ·rcases (by omega:mm=0\/(0<mm/\¬(c:Int)%5=1)) with ae|⟨ae,Q⟩
     ·have bq:¬(0<(mm:Int)):=xaa;clear ae c7;exact xik
     have bq:0<(mm:Int):=xaa;exact xik
    have bq:0<(mm:Int):=xaa;obtain⟨N,cE,G,a8,aJ⟩:=aG.o.last y;subst G;have Y:((f2 mm).e.length:Int)-1=(es.length:Int):=by rw[y,yal];simp
    have U:(es.length:Int)<((f2 mm).e.length:Int):=xaa;clear y;have S:=HL.o;go_upto_region 28 with fail;have bY:V _:=aG.o.keep0 (eA 0 0 wr (.cells #[.string ⟨f.toArray⟩,ih q] 138))
    have bL:V (∀F,Kept P (P+1) (wr.alloc (.cells #[.string ⟨f.toArray⟩,ih q] 138)) F->F.cell? ⟨wr.heap.size,0,none⟩=some (.string ⟨f.toArray⟩)):=λF k=>by
     have B:=aG.o.rd.lt
     rw[k.cell (p:=⟨wr.heap.size,0,none⟩) xac (by show ¬(P<=wr.heap.size/\wr.heap.size<P+1);omega)]
     simp
    have z:((f2 mm).o++rpX g c f x).size<=1000000:=by have:=K.o;rw[yar];omega
    have aV:(rpX g c f x).size<=1000000:=xaa
    have HD:V (∀W:World,Calls prog 89 #[ih ((c:Int)/5%4)] W λe O=>e=.returned (eL (gJ (c/5%4)))/\O=W):=λW=>by
     rw[show(c:Int)/5%4=((c/5%4:Nat):Int) by omega]
     exact yB _ _ yad xaa W
    unfold rpX at z aV ah;unfold eL at HD;generalize (⟨(gJ (c/5%4)).toArray⟩:ByteArray)=I at HD ah z aV;generalize (⟨f.toArray⟩:ByteArray)=nk at bL bY ah z aV⊢;go_upto_region 29 with (go_at_call 90;have bn:=Sw.call bY HL.o bI;simp only[ex3]at bn;(with_reducible refine yaj bn ?_);clear bn;rintro e an ⟨rfl,a5,C⟩;have aP:=bL.o an C;clear aG bY;have aG:V _:=a5;clear a5 C);repeat (rw[yar]at z;refine sz2 z ?_;clear z;intro _ z)
    repeat (rw[yar]at aV;refine sz2 aV ?_;clear aV;intro _ aV)
    go_quiet ((go_at_call 89;exact Calls.quiet_of_same (HD.o _)))
    go_upto_region 30 with fail;subst ah;replace aG:V _:=aG.o.keep0 (eJ 0 0 an nq);(try unfold ia at aG);(try unfold ia);generalize some (⟨N,0,none⟩:Addr)=aE at aG⊢;exact WkM):P:=h
theorem Qc(hb:∀i,nv bs i<256){i u c:Nat}(ai:nv bs (ni bs i)=c)(J:u<3)(aL:(nv bs i:Int)%3=(u:Int))(y:g.size<=8)(F:⟨(gapL.getD u []).toArray⟩=g)
  {ad}{bb:Nat} (bv:(c:Int)/2%5=(bb:Int)) (B:bb<5) (I:⟨(bodL.getD bb []).toArray⟩=ad) (K:ad.size<=30)
  {a0:Ss} (aj:((c:Int)%2=1/\V (a0=⟨[([102],0)],hd0 ad g,ni bs (ni bs i)⟩))\/((c:Int)%2=0/\V (a0=⟨[],⟨#[]⟩,ni bs (ni bs i)⟩)))
  {f1:Nat->Ss}{h N} (H1:V (f1 0=⟨a0.e,a0.o,ni bs a0.i⟩/\∀k,Gs (h+k) (N+k*100) (f1 k)/\R1 bs g k (f1 k) (f1 (k+1)))) (ao:h<=1) (U:N<=1000)
  {nn:Nat} (ay:1+(nv bs (ni bs (ni bs i)):Int)%3=(nn:Int)) (_hn3:nn<=3)
  {f2:Nat->Ss}{L2 O} (H2:V (f2 0=⟨(f1 nn).e,(f1 nn).o,ni bs (f1 nn).i⟩/\∀k,Gs (L2+k) (O+k*64100) (f2 k)/\R2 bs g nn k (f2 k) (f2 (k+1)))) (v:L2<=4) (Y:O<=2000)
  {mm:Nat} (em:(nv bs (f1 nn).i:Int)%4=(mm:Int)) (_hm3:mm<=3)
  {G} (h3:V (((mm=0\/¬(c:Int)%5=1)/\G=f2 mm)\/(0<mm/\(c:Int)%5=1/\∃es f q x r,(f2 mm).e=es++[(f,q)]/\Dr (f2 mm).e bs (f2 mm).i 90 (ex3 q 2) 16000 x r/\(rpX g c f x).size<=100000/\G=⟨(f2 mm).e,(f2 mm).o++rpX g c f x,r⟩)))
  {f3:Nat->Ss}{m Q} (H3:V (f3 0=⟨G.e,G.o,ni bs G.i⟩/\∀k,Gs m (Q+k*256100) (f3 k)/\R3 bs g k (f3 k) (f3 (k+1)))) (_hL3:m<=10) (Z:Q<=220000)
  {m3:Nat} (e4:1+(nv bs G.i:Int)%3=(m3:Int)) (S:m3<=3)
  {t}{j} (hj:j=(f3 m3).i) (ht:V (((f3 m3).o.size<=4000/\⟨t.toArray⟩=(f3 m3).o)\/(4000<(f3 m3).o.size/\⟨t.toArray⟩=(f3 m3).o.extract 0 4000))) (X:RdF w P a n cap i bs):Calls prog 65 #[ge P] w (SrO w P n cap a bs j t):=by
 have hP:=X.lt;have R:(c:Int)<256:=i4 (hb (ni bs i))
 have aG:V _:=X;clear X;go_enter func65,ntmps65;go_upto_region 2 with fail;change Code.wp _ _ _ _ (w.alloc (.cells (oZ gapL) 9));have cg:V _:=aG.o.keep0 (eA 0 0 w (.cells (oZ gapL) 9));have bu:V _:=iD _ _ _ _ _ _ _ cg.o;have bL:V (∀W,Kept P (P+1) (w.alloc (.cells (oZ gapL) 9)) W->_):=λW k=>qV (l:=gapL) (m:=u) k hP J;have HK:V _:=eA P (P+1) w (.cells (oZ gapL) 9);clear aG cg;generalize w.alloc (.cells (oZ gapL) 9)=aq at*;rw[F]at bL;clear F;go_upto_region 5 with (go_at_call 11;refine yaj bu.o ?_;rintro e bU ⟨rfl,X,aC,-⟩;have az:=bL.o bU aC;have bN:V _:=HK.o.trans aC;have br:V _:=iD _ _ _ _ _ _ _ X;clear X aC);clear az bL bu HK;rw[ai]at br;rcases aj with⟨c2,HE⟩|⟨c2,HE⟩
 ·go_upto_region 7 with (go_at_call 11;refine yaj br.o ?_;rintro e aM ⟨rfl,(cn:V _),a9,-⟩;have bZ:V _:=bN.o.trans a9;have ds:=cn.o.lt;clear a9);clear br bN;go_upto_region 8 with fail;change Code.wp _ _ _ _ (aM.alloc (.cells (oZ bodL) 9));have bj:=qV (l:=bodL) (m:=bb) (Kept.refl P (P+1) (aM.alloc (.cells (oZ bodL) 9))) ds B;rw[I]at bj;have aU:V _:=cn.o.keep0 (eA 0 0 aM (.cells (oZ bodL) 9));have b0:V _:=bZ.o.trans (eA _ _ aM (.cells (oZ bodL) 9));clear cn bZ;generalize aM.alloc (.cells (oZ bodL) 9)=cd at*
  have z:(hd0 ad g).size<=1000:=by
   simp only[hd0,yar,fX,yaq,List.length_nil];omega
  unfold hd0 at z HE;have aV:(⟨#[100,101,102,32,102,40,112,41,32,61,32]⟩++ad++⟨#[59]⟩++g:ByteArray).size<=1000000:=by rw[yar]at z;omega
  replace z:=yao z (by decide:1000<=1000000);repeat (rw[yar]at z;refine sz2 z ?_;clear z;intro _ z)
  repeat (rw[yar]at aV;refine sz2 aV ?_;clear aV;intro _ aV)
  have a5:=eA 0 0 cd (.cells #[.string ⟨#[102]⟩,ih 0] 138);have d3:V _:=aU.o.keep0 a5;have bm:V _:=b0.o.trans (eZ a5);clear aU b0;have d:=bm.o.size;go_upto_region 10 with (at_builtin;refine lU _ rfl _ _ rfl w.heap.size iM [] rfl (yaw _ _ _ _) cd.heap.size ([102],0) rfl xac xac xab d ?_;intro g9 aX n9 bP a2 H ab _;subst a2;have C:Kept 0 0 _ bP:=⟨ab.os,ab.tape,ab.output,ab.size,λb hb _=>ab.block b hb (λe=>by cases e)⟩;have HO:V (bP.ownsRow w.heap.size 138 2 (ia g9 1 aX) ([([102],0)]:List (List UInt8×Int)).length (flE [([102],0)])):=H;have HR:V _:=d3.o.keep0 C;have HK:V _:=bm.o.trans (eZ C);clear ab C H);clear d3 bm d z aV;exact WkL
 go_upto_region 10 with (go_at_call 11;refine yaj br.o ?_;rintro e aM ⟨rfl,(HR:V _),a9,-⟩;have HK:V _:=bN.o.trans a9;clear a9);have HO:V (aM.ownsRow w.heap.size 138 2 (.slice none 0 0) ([]:List (List UInt8×Int)).length (flE [])):=yaw aM w.heap.size 138 2;clear br bN;exact WkL
end
section
open Go.RowKit Flt
variable{bs:List Int}
theorem Qd(hb:∀i,nv bs i<256)(i):∃(t:List UInt8) (j:Nat),t.length<=4000/\∀{w:World}{P n cap:Nat}{a:Option Addr},RdF w P a n cap i bs->Calls prog 65 #[ge P] w (SrO w P n cap a bs j t):=by
 obtain⟨u,J,aL⟩:∃k:Nat,k<3/\(nv bs i:Int)%3=k:=⟨nv bs i%3,by omega,by omega⟩
 obtain⟨c,ai⟩:∃c,nv bs (ni bs i)=c:=⟨_,rfl⟩
 have bQ:=hb (ni bs i);rw[ai]at bQ;obtain⟨bb,B,bv⟩:∃k:Nat,k<5/\c/2%5=(k:Int):=⟨c/2%5,by omega,by omega⟩
 have y:=F5 (l:=gapL) (z:=8) xab u;have K:=F5 (l:=bodL) (z:=30) xab bb;generalize F:(⟨_⟩:ByteArray)=g at y;generalize I:(⟨_⟩:ByteArray)=ad at K
 obtain⟨a0,hl,aj,aR,b⟩:∃a0 L,(((c:Int)%2=1/\V (a0=⟨[([102],0)],hd0 ad g,ni bs (ni bs i)⟩))\/((c:Int)%2=0/\V (a0=⟨[],⟨#[]⟩,ni bs (ni bs i)⟩)))/\Gs L 1000 a0/\L<=1:=by
  rcases (by omega:(c:Int)%2=1\/(c:Int)%2=0) with h|h
  ·exact⟨_,1,.inl ⟨h,rfl⟩,⟨rfl,by show ∀x∈[(([102]:List UInt8),(0:Int))],x.1.length<=5;decide,by simp only[hd0,yar,fX,yaq,List.length_nil];omega⟩,by decide⟩
  exact⟨_,0,.inr ⟨h,rfl⟩,⟨rfl,(λ_ h=>by cases h),yae⟩,by decide⟩
 obtain⟨f1,cu⟩:=P8 (bs:=bs) y (s:=⟨a0.e,a0.o,ni bs a0.i⟩) aR;have d:a0.i=ni bs (ni bs i):=by rcases aj with h|h<;>rw[h.2.o]
 obtain⟨nn,c8,ay⟩:∃n:Nat,n<=3/\1+(nv bs (ni bs (ni bs i)):Int)%3=n:=⟨1+nv bs (ni bs (ni bs i))%3,by omega,by omega⟩
 obtain⟨f2,bV⟩:=P9 hb y (s:=⟨(f1 _).e,(f1 nn).o,ni bs (f1 nn).i⟩) nn (cu.2 _).1;obtain⟨mm,Y,em⟩:∃n:Nat,n<=3/\(nv bs (f1 nn).i:Int)%4=n:=⟨nv bs (f1 nn).i%4,by omega,by omega⟩
 have a2:=(bV.2 mm).1
 obtain⟨G,h3,aB⟩:∃G:Ss,(((mm=0\/¬(c:Int)%5=1)/\G=f2 _)\/(0<mm/\(c:Int)%5=1/\∃es f q x r,(f2 mm).e=es++[(f,q)]/\Dr (f2 mm).e bs (f2 mm).i 90 (ex3 q 2) 16000 x r/\(rpX g c f x).size<=100000/\G=⟨(f2 mm).e,(f2 mm).o++rpX g c f x,r⟩))/\Gs _ 220000 G:=by
  by_cases h:mm=0\/¬(c:Int)%5=1
  ·exact⟨_,.inl ⟨h,rfl⟩,a2.1,a2.2.1,yao a2.2.2 xaa⟩
  obtain⟨m,rfl⟩:∃m,mm=m+1:=⟨mm-1,by omega⟩
  obtain⟨bC,cd,_,bB⟩:=(bV.2 m).2;obtain⟨x,r,aN⟩:=FV a2.2.1 hb 2 xab _ (nv3 (bs:=bs) (f2 m).i) (f2 (m+1)).i
  have z:(rpX g c (nmB (nn+m)) x).size<=17000:=by
   have:=aN.1;have:=xr (nn+m);have:=jC (c/5%4);simp only[rpX,yar,fX,yaq,List.length_nil];omega
  exact⟨_,.inr ⟨by omega,by omega,_,_,_,x,_,by rw[bB],aN,by omega,rfl⟩,a2.1,a2.2.1,by have:=a2.2.2;rw[yar];omega⟩
 obtain⟨f3,cX⟩:=Qb hb y (s:=⟨G.e,G.o,ni bs G.i⟩) aB;obtain⟨m3,S,e4⟩:∃n:Nat,n<=3/\1+(nv bs G.i:Int)%3=n:=⟨1+nv bs G.i%3,by omega,by omega⟩
 obtain⟨t,bp,ht⟩:∃t:List _,t.length<=4000/\(((f3 _).o.size<=4000/\⟨t.toArray⟩=(f3 _).o)\/(4000<(f3 m3).o.size/\⟨t.toArray⟩=(f3 _).o.extract 0 _)):=by
  by_cases h:(f3 m3).o.size<=4000
  ·exact⟨_,h,.inl ⟨h,rfl⟩⟩
  exact⟨((f3 m3).o.extract 0 4000).data.toList,by show ByteArray.size _<=_;rw[ByteArray.size_extract];omega,.inr ⟨by omega,rfl⟩⟩
 exact⟨t,_,bp,λX=>Qc hb ai J aL y F bv B I K aj cu b yad ay c8 bV xaa xaa em Y h3 cX xaa yad e4 S rfl ht X⟩
end
section
open Go.RowKit Flt
attribute[local go_sem] eE eC eB
theorem dA.qga(h:Zp:=by
 clear N ct;go_wp2_with fail;go_region_held3 (λW:World=>W.cell? ⟨w.heap.size,0,none⟩=some (.slice R Y aX)/\W.cell? ⟨w.heap.size,1,none⟩=some (ia b5 us.length cap)/\W.cell? ⟨w.heap.size,2,none⟩=some (.slice U aa ab)/\W.cell? ⟨ay,s,none⟩=some (ih mm)) (first|go_keep|(exact⟨(da.o _ _ _ _).trans a0,(da.o _ _ _ _).trans av,(da.o _ _ _ _).trans aT,cc.o _ _ _⟩)) (fail)
 all_goals
  go_wp2_with fail
  refine yaz (v:=.tuple #[eX R Y aX (some ⟨b5,0,none⟩) us.length cap U aa ab,ih mm]) (by simp[results,results126,go_sem,a8,aJ,aP]) rfl ⟨?_,R1.o.2⟩
  rw[bE.o]
  exact⟨_,_,_,_,_,_,rfl,R1.o.1.1,R1.o.1.2.1,R1.o.1.2.2,ea.o⟩):Zp:=h
open dA in
theorem ND(w F P a2 Y c1 ae c2 aa c3)(s x t:Nat)(ins vs outs)(f:GS w F Y (some ⟨a2,0,none⟩) ae P aa ins vs outs)(dc:VA w a2 ae vs)(cj:Y<=1000000)(cw:ae<=2000)(cK:aa<=1000000)(af:(List.range ae).all (okV ins vs)=true)(c7:eY vs<=50000)(aw:s<ae)(aH:x<ae):
  Calls prog 126 #[eX F Y c1 (some ⟨a2,0,none⟩) ae c2 P aa c3,ih s,ih x,ih t] w λe O=>uW w O Y aa ins outs (jK vs s x t) e/\Kept 0 0 w O:=by
 have cU:Kept 0 0 w ((w.alloc (fB F Y c1 (some ⟨a2,0,none⟩) ae c2 P aa c3)).alloc fO):=(eA 0 0 w _).trans (eA 0 0 _ _);have ao:V _:=(ib w (.slice F Y c1) (ia a2 ae c2) (.slice P aa c3)).keep (eA 0 0 _ fO);have cD:V (∀o,((w.alloc (fB F Y c1 (some ⟨a2,0,none⟩) ae c2 P aa c3)).alloc fO).frozen? ⟨w.heap.size,o,none⟩=false):=λo=>by simp
 have bL:=iU (w.alloc (fB F Y c1 (some ⟨a2,0,none⟩) ae c2 P aa c3));rw[show(w.alloc _).heap.size=w.heap.size+1 by simp]at bL;have HR:V _:=bL;have bA:V _:=xi _ _ _ _ _ c1 _ c2 _ c3 _ _ _ (f.keep cU) cj xaa cK;have bb:V _:=f.v.len;have cV:V _:=af;have co:V _:=c7;clear bL cU f af c7;go_enter func126,ntmps126;go_wp2_with fail;refine yaj bA.o ?_;rintro e aK ⟨R,aX,K,bk,U,ab,rfl,cy,ck,Z,⟨ax,aF,bv⟩,a9⟩;have bO:V _:=LJ.start bb.o ao.o cD.o HR.o a9 cy ck Z ax aF bv;obtain⟨_,bG,bn,p2⟩:=ao.o.keep a9;have bT:=(a9.frozen ao.o.sz xaa).trans (cD.o 0);have f1:=(a9.frozen ao.o.sz xaa).trans (cD.o 1);have f2:=(a9.frozen ao.o.sz xaa).trans (cD.o 2);obtain⟨a8,aJ,aP⟩:=fd _ _ _ _ _ bG bn p2 (.slice R Y aX) (.slice K ae bk) (.slice U aa ab);obtain⟨bu,ga,aG,b2,cg,_,bl⟩:=mV ck xaa bb.o;injection aG with ef ep er;subst ef;have aL:(fk _ w.heap.size (.slice R Y aX) (ia bu ae bk) (.slice U aa ab)).cell? _=some _:=(lN _ _ _ _ _ _ _ (by simp at b2;omega)).trans (bl.at_ s aw).c1;clear cy ck Z ax aF bv bA ao cD HR bl ep er cg a9;go_upto_region 2 with fail;clear bG bn p2 bT f1 f2;unfold fk at bO aL;generalize ((aK.setCell _ _).setCell ⟨_,1,_⟩ _).setCell _ _=ds at bO aL a8 aJ aP⊢;have aD:=EN ae ds xaa;have c6:V _:=bO.o _ (IR.made _ _) (eA 0 0 _ _);generalize bQ:(vs.getD s _).len=Q at aL;have bM:V _:=bQ;generalize cN:((w.alloc (fB F _ _ _ _ _ _ _ _)).alloc _).heap.size=base at c6;clear bQ cN bO b2;generalize ds.alloc _=ak at aD c6;have cd:(0:Int)<=s:=xaa;have bh:(s:Int)<ae:=xaa;go_wp2_with fail;clear aD aL a8 aJ aP;generalize ds.heap.size=ay at c6⊢;go_loopw [12] (λv W=>∃k:Nat,k<=ae/\v=ih k/\V (LJ w W ay R Y aX U aa ab ins outs vs (lh k ae) base (ia bu ae bk).ownBlock (some ⟨bu,0,none⟩) bk)) (λv _=>ae-(intOf v).toNat)
 case atStart=>exact⟨0,yae,rfl,by unfold lh;exact c6⟩
 case round=>
  obtain⟨k,J,rfl,m⟩:=hrel;clear c6;by_cases aY:k<ae
  ·have c1:=m.o.m.cell k (by rw[uO k _ J];exact aY);have c2:=m.o.m.free k
   have R1:V (LJ w (wr.setCell ⟨ay,k,none⟩ (ih (-1))) ay R Y aX U aa ab ins outs vs (lh (k+1) ae) base (ia bu ae bk).ownBlock (some ⟨bu,0,none⟩) bk):=by
    have:=m.o.set k (-1);rw[uQ aY]at this;exact this
   clear m;generalize (lh k _).getD k 0=z at c1;exact xhz
  obtain rfl:k=ae:=xaa;have dp:=m.o;rw[uP]at dp;have d2:=dp.m.cell x yag;have et:=dp.m.free x
  have eg:V (∃H K cap,LJ w _ _ _ _ _ _ _ _ _ _ (jst _ x t 0).1 (jst _ x t 0).2 _ H K cap):=⟨_,_,_,by
   have:=dp.set x (t:Int)
   unfold jst
   rw[bb.o]
   exact this⟩
  clear m dp;generalize (List.replicate k (-1:Int)).getD x 0=z at d2;have a5:(0:Int)<=x:=xaa;have bD:(x:Int)<k:=xaa;go_wp2_with fail;clear d2 et;go_loopw [13] (λv W=>∃j:Nat,j<=s-x/\v=ih (x+1+j:Nat)/\V (∃H K cap,LJ w W ay R Y aX U aa ab ins outs (jst vs x t j).1 (jst vs x t j).2 base H K cap)) (λv _=>s+1-(intOf v).toNat)
  case atStart=>exact⟨0,yae,by simp,eg⟩
  case round=>
   obtain⟨j,hj,rfl,m⟩:=hrel;clear eg;obtain⟨H,K,cap,m⟩:=m.o
   have fm:vs.length<=(jst vs x t j).1.length:=by
    obtain⟨r,h⟩:=wu vs x t j;rw[h,yal];omega
   obtain⟨b5,rfl,rfl,cr,bl⟩:=m.read (i4 bb.o);by_cases aY:j<s-x
   ·have ah:x+1+j<k:=xaa;have bf:=bl (x+1+j) (i4 bb.o);rw[By _ x t j (i4 bb.o)]at bf;have cS:=List.all_eq_true.1 cV.o _ (List.mem_range.2 ah);have d6:=AM cS;have db:V _:=ml cS;have cM:V _:=λh=>FS _ x t j (i4 bb.o) (AL h (xh vs x t j));have c9:V _:=xh vs x t j;have cu:V (jst _ x t (j+1)=((jst _ x t j).1++(jmv vs _ _).1,(jst _ x t j).2.set (x+1+j) _)):=rfl;have a6:V (jmv vs (x+1+j) (jst vs x t j)=mvM _ _ _ _ _ _):=rfl;have ag:∀q,q<vs.length->_:=λq am=>fV (List.all_eq_true.1 cV.o q (List.mem_range.2 (i4 bb.o)));obtain⟨aV,_,_⟩:=sU _ x t ag (mI _ (λq am=>i4 (ag q am))) co.o j (i4 bb.o);have cR:V ((jst vs x t j).1.length<=800000/\k<=(jst vs x t j).1.length/\(jst _ x t j).2.length=k):=⟨i4 bb.o,i4 bb.o,by rw[wo];exact bb.o⟩
    have bP:V _:=m.keep (eA 0 0 _ (.cells #[ih (-1),ih (-1),ih (-1)] 3));have cI:V _:=m.oth yad;have aO:V (IR _ _ [ovs (vs.getD (x+1+j) i0) (jst vs x t j).2 0 0,ovs (vs.getD (x+1+j) i0) (jst vs x t j).2 0 1,ovs (vs.getD (x+1+j) i0) (jst vs x t j).2 0 2]):=ir3 wr (-1) (-1) (-1);have d:(x+1+j:Nat)<=(s:Int):=xaa;have gA:x+1+j<=s:=xaa;clear bl m fm ag aV cS bf cr;generalize ci:vs.getD _ _=v at d6 db cM a6 aO;have b7:V _:=ci;clear ci;generalize dl:(jst _ x t j).2=an at cM c9 cu a6 cR bP aO;generalize d5:(jst _ x t j).1=us at cu a6 cR bP;have cH:V ((jst _ x t j).1=us/\(jst _ x t j).2=an):=⟨d5,dl⟩
    clear dl d5;generalize hi:x+1+j=i at db b7 cM cu a6 d ah gA;have cn:V _:=hi;clear hi;go_wp2_with fail;generalize wr.alloc _=e3 at bP aO⊢;generalize wr.heap.size=aB at aO cI⊢
    have ev:us.getD i i0=v:=by
     rw[<-cH.o.1,<-cn.o,By _ x t j (jj cn.o bb.o),cn.o];exact b7.o
    have d7:V _:=ev;have d0:i<us.length:=i4 cR.o
    have ed:=io v.op;clear ev;go_loopw [15,16] (λsv bZ W=>∃q:Nat,q<=cnt v.op/\sv=.bool (rK v an q)/\bZ=ih q/\V (IR W aB [ovs v an q 0,ovs v an q 1,ovs v an q 2])/\V (LJ w W ay R Y aX U aa ab ins outs us an base (some b5) (some ⟨b5,0,none⟩) cap)) (λ_ bZ _=>3-(intOf bZ).toNat)
    case atStart=>exact⟨0,yae,rfl,rfl,aO,bP⟩
    case round=>
     obtain⟨q,am,rfl,rfl,b1,bI⟩:=hrel;clear bP aO;obtain⟨aR,bB,_,cr,bl⟩:=bI.o.read xaa;cases bB;have bf:=bl i d0;rw[d7.o]at bf;obtain⟨a8,aJ,aP,bw,b3,cf⟩:=bf;have av:=bI.o.g.c1;have bY:(0:Int)<=i:=xaa;have ca:(i:Int)<us.length:=xaa;have HO:V _:=jR _ wr d6.1 d6.2;rw[OW d6.1 d6.2]at HO;clear bl cr;by_cases cJ:q<cnt v.op
     ·obtain⟨aN,eu⟩:=db.o q cJ;obtain⟨B,cF⟩:=Int.eq_ofNat_of_zero_le aN;have cG:V _:=mW wr v q xaa;rw[cF]at cG;have eS:B<k:=xaa
      have bF:V (rK v an (q+1)=(rK v an q||decide (0<=an.getD B 0))):=by
       have:=CP v an q;rw[cF,Int.toNat_natCast]at this;exact this
      have dd:V (([ovs v an q 0,ovs v an q 1,ovs v an q 2]:List _).set q (an.getD B 0)=[ovs v an (q+1) 0,ovs v an (q+1) 1,ovs v an (q+1) 2]):=by
       have:=FT v an q xaa;rw[cF,Int.toNat_natCast]at this;exact this
      have ez:q<(cnt v.op:Int):=xaa;clear aN eu cF;go_wp2_with fail;refine yaj HO.o ?_;rintro e O ⟨rfl,rfl⟩;clear HO;go_wp2_with fail;refine yaj cG.o ?_;rintro e bx ⟨rfl,bS⟩;have a7:=bI.o.keep bS;have cA:=IR.keep b1.o bS yaa;have cm:=a7.m.cell B (i4 cR.o);have cx:=cA.cell q yag;have dg:=cA.free q
      have R1:V (IR (bx.setCell ⟨aB,q,none⟩ (ih (an.getD B 0))) aB [ovs v an (q+1) 0,ovs v an (q+1) 1,ovs v an (q+1) 2]):=by
       have:=cA.set q (an.getD B 0);rw[dd.o]at this;exact this
      have R2:V _:=a7.other cI.o q (ih (an.getD B 0));clear a7 cA bI b1 cG bS a8 aJ aP bw b3 cf av dd;generalize an.getD _ 0=y at cm R1 R2 bF;generalize ([ovs v _ q 0,ovs v _ q 1,ovs v _ q 2]:List _).getD q 0=z at cx;have bT:(0:Int)<=B:=xaa;have f1:B<(k:Int):=xaa;have aU:(0:Int)<=q:=xaa;have bv:(q:Int)<3:=xaa;cases ce:rK v an q
      ·exact xgt
      exact xgt
     obtain rfl:q=cnt v.op:=xaa;have ez:¬((cnt v.op:Int)<(cnt v.op:Int)):=xaa;cases ce:rK v an (cnt v.op)
     ·have R1:V (∃H K cap,LJ w _ _ _ _ _ _ _ _ _ _ (jst _ x t _).1 (jst _ x t _).2 _ H K cap):=⟨_,_,_,by
       rw[cM.o ce,cH.o.1,cH.o.2]
       exact bI.o⟩
      go_wp2_with fail;refine yaj HO.o ?_;rintro e O ⟨rfl,rfl⟩;clear HO;exact xhp
     have a0:=bI.o.g.c0;have aT:=bI.o.g.c2;have c0:=b1.o.cell 0 xac;have c1:=b1.o.cell 1 xac;have c2:=b1.o.cell 2 xac;rw[show([ovs v _ _ 0,ovs v _ _ 1,ovs v _ _ 2]:List _).getD 0 0=ovs v _ _ 0 from rfl]at c0;rw[show([ovs v _ _ 0,ovs v _ _ 1,ovs v _ _ 2]:List _).getD 1 0=ovs v _ _ 1 from rfl]at c1;rw[show([ovs v _ _ 0,ovs v _ _ 1,ovs v _ _ 2]:List _).getD 2 0=ovs v _ _ 2 from rfl]at c2;have d1:=CQ ce;have aR:∀n,-1<=ovs v _ (cnt v.op) n:=λn=>FQ c9.o;have bf:At _ _ _ v:=⟨a8,aJ,aP,bw,b3,cf⟩
     have dv:V (∀aq,Kept 0 0 wr aq->Calls prog 130 #[eX R Y aX (some ⟨b5,0,none⟩) us.length cap U aa ab,ih i,ih (ovs v an (cnt v.op) 0),ih (ovs v an (cnt v.op) 1),ih (ovs v an (cnt v.op) 2)] aq λe bz=>∃(C:List Vl) (r:Int) (ba:Option Addr) (bi:Nat) (cB:Option Nat),e=.returned (.tuple #[eX R Y aX ba C.length bi U aa ab,ih r])/\(∀I o,I<aq.heap.size->I≠b5->bz.cell? ⟨I,o,none⟩=aq.cell? ⟨I,o,none⟩)/\(∀I o,I<aq.heap.size->I≠b5->bz.frozen? ⟨I,o,none⟩=aq.frozen? ⟨I,o,none⟩)/\aq.heap.size<=bz.heap.size/\V (C=us++(jmv vs i (jst vs x t j)).1/\r=(jmv vs i (jst vs x t j)).2)/\
       V (∀(l h':Nat) (ch:World),Kept l h' bz ch->wr.heap.size<=l->(h'<=aq.heap.size\/bz.heap.size<=l)->(b5<l\/h'<=b5)->LJ w (fk ch w.heap.size (.slice R Y aX) (.slice ba C.length bi) (.slice U aa ab)) ay R Y aX U aa ab ins outs C an base cB ba bi)):=λaq al=>by
      refine(Nb aq R U Y aX cap aa ab base b5 i us v _ _ _ (bI.o.keep al).g.own (bI.o.keep al).g.sz cR.o.1 d0 (bf.keep (eF bI.o.g.own (k:=b5) rfl).2 al yaa) (aR 0) (aR 1) (aR 2) d1 (λai=>by unfold ovs;rw[ip xaa]) (λai=>by unfold ovs;rw[ip xaa])).mono ?_
      rintro e bz ⟨ba,bi,cB,rfl,e0,e1,d4⟩
      rw[<-a6.o]at e0 e1⊢
      have hn:∀I,I≠b5->¬((λ_=>False) I\/some b5=some I):=λI aZ=>by rintro (c|c);exact c;cases c;exact aZ rfl
      refine⟨_,_,_,_,cB,rfl,λI o aZ az=>d4.chg.cell aZ (hn I az),λI o aZ az=>d4.chg.frozen aZ (hn I az),d4.chg.size,⟨rfl,rfl⟩,λl h' ch b6 ag bN cr=>?_⟩
      refine bI.o.step al e0 e1 d4 b6 ag (λg az=>?_)
      rcases d4.row with c|⟨r,c,au⟩
      ·rw[c]at az;cases az;exact cr
      ·rw[c]at az;cases az
       have:=(eF e0 (e1.trans c)).2
       omega
     have b:V (w.heap.size<wr.heap.size/\aB<wr.heap.size/\w.heap.size≠b5/\aB≠b5/\b5<wr.heap.size):=⟨bI.o.g.lt,b1.o.lt,λc=>bI.o.g.ne (by rw[c]),λc=>cI.o.r (by rw[c]),(eF bI.o.g.own rfl).2⟩
     have eq:=bI.o.g.free;clear d1 aR bf aJ aP bw b3 cf a6;generalize ovs v _ _ 0=aA at c0 dv b1;generalize ovs v _ _ 1=S at c1 dv b1;generalize ovs v _ _ 2=aC at c2 dv b1;generalize ew:jmv _ i _=M at dv cu;clear ew;obtain⟨ec,d9⟩:=M;go_wp2_with fail;refine yaj HO.o ?_;rintro e O ⟨rfl,rfl⟩;clear HO a8;go_upto_region 20 with fail;go_cut [17,18] (λex gR cq=>∃(X:Nat) (C:List Vl) (r:Int) (ba:Option Addr) (bi:Nat) (cB:Option Nat),ex=ge X/\gR=ih r/\V (C=us++ec/\r=d9)/\V (RB cq X (.slice R Y aX) (.slice ba C.length bi) (.slice U aa ab)/\((∃u,cq.cell? ⟨w.heap.size,0,none⟩=some u)/\(∃u,cq.cell? ⟨w.heap.size,1,none⟩=some u)/\(∃u,cq.cell? ⟨w.heap.size,2,none⟩=some u))/\(∀o,cq.frozen? ⟨w.heap.size,o,none⟩=false))/\V (LJ w (fk cq w.heap.size (.slice R Y aX) (.slice ba C.length bi) (.slice U aa ab)) ay R Y aX U aa ab ins outs C an base cB ba bi))
     case first=>
      have c8:w.heap.size≠O.heap.size:=i4 b.o
      have gs:aB≠O.heap.size:=i4 b.o
      have b4:V (∀I o,I<O.heap.size->(O.alloc _).drew.cell? ⟨I,o,none⟩=O.cell? _):=λI o aZ=>(eA 0 0 _ fO).cell aZ xaa
      go_region_held3 (λW:World=>W.cell? ⟨w.heap.size,0,none⟩=some (.slice R Y aX)/\W.cell? ⟨w.heap.size,1,none⟩=some (ia b5 us.length cap)/\W.cell? ⟨w.heap.size,2,none⟩=some (.slice U aa ab)/\W.cell? ⟨aB,0,none⟩=some (ih aA)/\W.cell? ⟨aB,1,none⟩=some (ih S)/\W.cell? ⟨aB,2,none⟩=some (ih aC)) (first|go_keep|(simp only[lN _ _ _ _ _ _ _ c8,lN _ _ _ _ _ _ _ gs];exact⟨bK,a1,K,a3,a4,cb⟩)) (first
       |(go_at_call 130;refine yaj (dv.o _ ((eA 0 0 _ _).trans (eD _))) ?_;rintro e bz ⟨C,r,ba,bi,cB,rfl,cl,cQ,cW,cT,ad⟩;have bK:=(cl _ 0 (by have:=b.o;simp;omega) b.o.2.2.1).trans ((b4.o _ 0 b.o.1).trans a0);have a1:=(cl _ 1 (by have:=b.o;simp;omega) b.o.2.2.1).trans ((b4.o _ 1 b.o.1).trans av);have K:=(cl _ 2 (by have:=b.o;simp;omega) b.o.2.2.1).trans ((b4.o _ 2 b.o.1).trans aT);have a3:=(cl aB 0 (by have:=b.o;simp;omega) b.o.2.2.2.1).trans ((b4.o aB 0 b.o.2.1).trans c0);have a4:=(cl aB 1 (by have:=b.o;simp;omega) b.o.2.2.2.1).trans ((b4.o aB 1 b.o.2.1).trans c1);have cb:=(cl aB 2 (by have:=b.o;simp;omega) b.o.2.2.2.1).trans ((b4.o aB 2 b.o.2.1).trans c2);have cP:V _:=cQ;have bX:=cl O.heap.size 0 xac (i4 b.o);have aV:=cl O.heap.size 1 xac (i4 b.o);have bg:=cl O.heap.size 2 xac (i4 b.o);have ek:=cQ O.heap.size 0 xac (i4 b.o);have el:=cQ O.heap.size 1 xac (i4 b.o);have en:=cQ O.heap.size 2 xac (i4 b.o);have eb:V _:=cW;clear cl cQ cW)
       |(go_at_call 130;refine yaj (dv.o _ (eD _)) ?_;rintro e bz ⟨C,r,ba,bi,cB,rfl,cl,cQ,cW,cT,ad⟩;have bK:=(cl _ 0 b.o.1 b.o.2.2.1).trans a0;have a1:=(cl _ 1 b.o.1 b.o.2.2.1).trans av;have K:=(cl _ 2 b.o.1 b.o.2.2.1).trans aT;have a3:=(cl aB 0 b.o.2.1 b.o.2.2.2.1).trans c0;have a4:=(cl aB 1 b.o.2.1 b.o.2.2.2.1).trans c1;have cb:=(cl aB 2 b.o.2.1 b.o.2.2.2.1).trans c2;have cP:V _:=cQ;have cf:w.heap.size≠bz.heap.size:=(by have:=b.o;have:O.heap.size<=bz.heap.size:=cW;omega);have cz:aB≠bz.heap.size:=(by have:=b.o;have:O.heap.size<=bz.heap.size:=cW;omega);have eb:V _:=cW;clear cl cQ cW))
      ·have d3:O.heap.size<=bz.heap.size:=eb.o;have bj:=eA 0 0 bz (.cells #[.slice R Y aX,.slice ba C.length bi,.slice U aa ab] 73);have cX:w.heap.size<bz.heap.size:=by have:=b.o;omega
       have R2:V (RB (bz.alloc (.cells #[.slice R Y aX,.slice ba C.length bi,.slice U aa ab] 73)) bz.heap.size (.slice R Y aX) (.slice ba C.length bi) (.slice U aa ab)/\((∃u,(bz.alloc _).cell? _=some u)/\(∃u,(bz.alloc _).cell? _=some u)/\(∃u,(bz.alloc _).cell? _=some u))/\(∀o,(bz.alloc _).frozen? _=false)):=
        ⟨⟨by simp,by simp,by simp,by simp,by simp,by simp,by simp⟩,⟨⟨_,(bj.cell cX xaa).trans bK⟩,⟨_,(bj.cell cX xaa).trans a1⟩,⟨_,(bj.cell cX xaa).trans K⟩⟩,λo=>(bj.frozen cX xaa).trans ((cP.o _ o b.o.1 b.o.2.2.1).trans (eq o))⟩
       have R3:V _:=ad.o _ bz.heap.size _ (eA _ _ _ (.cells #[.slice R Y aX,.slice ba C.length bi,.slice U aa ab] 73)) d3 yab (.inl (i4 b.o));exact xjs
      have d3:=yao (eA 0 0 _ _).size eb.o;have aS:=fy bz O.heap.size (.slice R Y aX) (.slice ba C.length bi) (.slice U aa ab);have cX:w.heap.size<bz.heap.size:=i4 b.o
      have eR:O.heap.size<bz.heap.size:=yak xac eb.o;have fq:bz.cell? _=some (.slice none 0 0):=bX.trans xac;have fs:bz.cell? _=some (.slice none 0 0):=aV.trans xac;have ej:bz.cell? _=some (.slice none 0 0):=bg.trans xac;obtain⟨a8,aJ,aP⟩:=fd _ _ _ _ _ fq fs ej (.slice R Y aX) (.slice ba C.length bi) (.slice U aa ab);have ee:∀o,bz.frozen? _=false:=λo=>(cP.o O.heap.size o xac (i4 b.o)).trans xac;have bp:∀o,_:=λo=>(cP.o _ o (by have:=b.o;simp;omega) b.o.2.2.1).trans (((eA 0 0 _ _).frozen b.o.1 xaa).trans (eq o))
      have R2:V (RB _ _ _ _ _/\((∃u,(((bz.setCell _ (.slice R Y aX)).setCell _ (.slice ba C.length bi)).setCell _ (.slice U aa ab)).cell? _=some u)/\(∃u,(((bz.setCell _ (.slice R Y aX)).setCell _ (.slice ba C.length bi)).setCell _ (.slice U aa ab)).cell? _=some u)/\(∃u,(((bz.setCell _ (.slice R Y aX)).setCell _ (.slice ba C.length bi)).setCell _ (.slice U aa ab)).cell? _=some u))/\(∀o,(((bz.setCell ⟨O.heap.size,0,none⟩ (.slice R Y aX)).setCell ⟨O.heap.size,1,none⟩ (.slice ba C.length bi)).setCell ⟨O.heap.size,2,none⟩ (.slice U aa ab)).frozen? ⟨w.heap.size,o,none⟩=false)):=
       ⟨⟨yak eR aS.size,a8,aJ,aP,by simp[ee 0],by simp[ee 1],by simp[ee 2]⟩,⟨⟨_,(lN _ _ _ _ _ _ _ c8).trans bK⟩,⟨_,(lN _ _ _ _ _ _ _ c8).trans a1⟩,⟨_,(lN _ _ _ _ _ _ _ c8).trans K⟩⟩,λo=>by simp[bp o]⟩
      have R3:V _:=ad.o _ _ _ aS yad (.inl xac) (.inl b.o.2.2.2.2);clear aS fq fs ej ee bp a8 aJ aP bX aV bg ek el en;exact xjs
     case rest=>
      clear a0 av aT c0 c1 c2 dv bI b1 eq;obtain⟨X,C,r,ba,bi,cB,rfl,rfl,cT,bU,ad⟩:=hcut;obtain⟨⟨_,bm,aW,bd,bC,bH,bJ⟩,⟨⟨_,bG⟩,⟨_,bn⟩,⟨_,p2⟩⟩,bp⟩:=bU.o;have gC:=bp 0;have gE:=bp 1;have gP:=bp 2;clear bp bU;go_upto_region 22 with fail;clear bm aW bd bC bH bJ bG bn p2 gC gE gP;unfold fk at ad;generalize ((wc.setCell _ _).setCell ⟨_,1,_⟩ _).setCell _ _=di at ad⊢;have cm:=ad.o.m.cell i (i4 cR.o);have eP:=ad.o.m.free i
      have R1:V (∃H K cap,LJ w (di.setCell _ (.int _ r)) _ _ _ _ _ _ _ _ _ (jst _ x t _).1 (jst _ x t _).2 _ H K cap):=⟨_,_,_,by
       have:=ad.o.set i r
       rw[cu.o]
       rw[cT.o.2]at this⊢
       rw[cT.o.1]at this
       exact this⟩
      clear ad cT;generalize an.getD i 0=z at cm;exact xhp
   obtain rfl:j=s-x:=xaa;have bc:¬((x+1+(s-x):Nat)<=(s:Int)):=xaa;have d8:s<(jst vs x t (s-x)).2.length:=by rw[wo,bb.o];exact aw
   have cs:=m.m.cell s d8;have cO:=xh vs x t (s-x) s;have N:V (jK _ s x t=if (jst _ x t _).2.getD s 0=-1 then ((jst _ x t _).1++[eK 1 _ 0 0 0],(((jst _ x t _).1.length:Nat):Int))else ((jst _ x t _).1,(jst vs x t _).2.getD s 0)):=rfl;rw[bM.o]at N
   have ct:s<x->(jst _ x t (s-x)).2.getD s 0=-1:=λai=>by
    rw[show s-x=0 by omega]
    exact FU _ x t s xaa (jn bb.o aw)
   have ag:∀q,q<vs.length->_:=λq am=>fV (List.all_eq_true.1 cV.o q (List.mem_range.2 (i4 bb.o)));obtain⟨aV,_,_⟩:=sU _ x t ag (mI _ (λq am=>i4 (ag q am))) co.o (s-x) (i4 bb.o);have b9:(jst vs x t (s-x)).1.length<=800000:=i4 bb.o
   have HL:V _:=m;clear bl m fm ag aV d8 aY cr;generalize (jst _ x t _).1=us at HL N b9;generalize (jst _ x t _).2=an at HL N cs cO ct;generalize an.getD s 0=mm at cs cO N ct;have a0:=HL.o.g.c0;have av:=HL.o.g.c1;have aT:=HL.o.g.c2;obtain⟨_,bm,aW,bd,bC,bH,bJ⟩:=HL.o.b;have eT:(0:Int)<=s:=xaa;have e2:(s:Int)<k:=xaa;by_cases bl:x<=s/\0<=mm
   ·have bE:V (jK vs s x t=(us,mm)):=by
     show _=_;rw[N.o,ip xaa]
    have aA:((x:Int)<=s):=xaa;have S:=bl.2;obtain⟨a8,aJ,aP⟩:=fd _ _ _ _ _ bm aW bd (.slice R Y aX) (ia b5 us.length cap) (.slice U aa ab);have gu:w.heap.size≠w.heap.size+1:=xaa;have ff:ay≠w.heap.size+1:=jj HL.o.hb HL.o.dM
    have ho:=Ne.symm ff;have cc:V (∀X cC b8:Value,(((wr.setCell _ X).setCell _ cC).setCell _ b8).drew.cell? _=some _):=λX cC b8=>(lN _ _ _ _ X cC b8 ff).trans cs;exact qfz
   have bE:V (jK vs s x t=(us++[eK 1 Q 0 0 0],(us.length:Int))):=by
    show _=_
    rw[N.o,iv (by
     by_cases ai:s<x
     ·exact ct ai
     ·omega)]
   have ey:(¬(x<=(s:Int)))\/((x:Int)<=s/\¬(0<=mm)):=xaa;clear N ct bm aW bd bC bH bJ bl cO;rcases ey with br|⟨br,bq⟩
   all_goals
    go_upto_region 25 with fail
    clear cs
    go_cut [] (λcq=>∃aI cap',V (LJ w cq ay R Y aX U aa ab ins outs (us++[eK 1 Q 0 0 0]) an base (some aI) (some ⟨aI,0,none⟩) cap'))
    case first=>
     go_region_with (first
      |(go_at_call 59;refine yaj (LJ.call HL.o ((eD _).trans ap) _ xaa) ?_;rintro e ak ⟨aI,cap',rfl,⟨_,bo⟩,⟨_,ar⟩,⟨_,aQ⟩,aj,b0⟩;have bR:=aj 0;have bV:=aj 1;have bW:=aj 2;clear aj)
      |(go_at_call 83;refine yaj (oJ _ _) ?_;rintro e aK ⟨rfl,ap⟩;have bG:=(LJ.keep HL.o ((eD _).trans ap)).g.c0;have bn:=(LJ.keep HL.o ((eD _).trans ap)).g.c1;have p2:=(LJ.keep HL.o ((eD _).trans ap)).g.c2))
     all_goals (go_wp2_with fail;go_meet;exact⟨_,_,b0⟩)
    case rest=>
     obtain⟨aI,cap',b0⟩:=hcut
     have cp:(us++[eK 1 Q 0 0 0]).length=us.length+1:=by simp
     generalize G:us++[eK 1 _ 0 0 0]=C at b0 bE cp
     clear a0 av aT G HL
     have a0:=b0.o.g.c0
     have av:=b0.o.g.c1
     have aT:=b0.o.g.c2
     obtain⟨_,bm,aW,bd,bC,bH,bJ⟩:=b0.o.b
     have be:V _:=λW=>iV W R (some ⟨aI,0,none⟩) U Y aX C.length cap' aa ab xaa
     rw[show(C.length:Int)-1=(us.length:Nat) by omega]at be
     clear cp
     go_wp2_with fail
     go_region_with (first
      |(go_at_call 66;refine yaj (be.o _) ?_;rintro e aM ⟨rfl,a9⟩;clear bm aW bd bC bH bJ;have aU:=(b0.o.keep ((eD _).trans a9)).g.c0;have ax:=(b0.o.keep ((eD _).trans a9)).g.c1;have aF:=(b0.o.keep ((eD _).trans a9)).g.c2;obtain⟨_,bm,aW,bd,bC,bH,bJ⟩:=(b0.o.keep ((eD _).trans a9)).b))
     all_goals
      have ea:V _:=b0.o.a4
      have R1:V _:=b0.o.fin ((eD _).trans a9)
      obtain⟨a8,aJ,aP⟩:=fd _ _ _ _ _ bm aW bd (.slice R Y aX) (ia aI C.length cap') (.slice U aa ab)
      go_wp2_with fail
      refine yaz (v:=.tuple #[eX R Y aX (some ⟨aI,0,none⟩) C.length cap' U aa ab,ih us.length]) (by simp[results,results126,go_sem,a8,aJ,aP]) rfl ⟨?_,R1.o.2⟩
      rw[bE.o]
      exact⟨_,_,_,_,_,_,rfl,R1.o.1.1,R1.o.1.2.1,R1.o.1.2.2,ea.o⟩
