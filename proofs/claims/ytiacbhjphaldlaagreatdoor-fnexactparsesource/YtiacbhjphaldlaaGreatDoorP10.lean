import Derived.Test.YtiacbhjphaldlaaGreatDoorP09
import Derived.Test.YtiacbhjphaldlaaGreatDoorP08
namespace Go.Proofs.Z
variable{p}
variable{Zp:Prop}
open Tryz
set_option maxRecDepth 1000000
set_option maxHeartbeats 0
open Go.RowKit Flt
attribute[local go_sem] dI dG dF
variable{vs0 us vs a:List Vl}{lo hi g P N o base:Nat}{w aa D aA A:World}{T S:Nat->Prop}{q n c:Int}{G:List Bool}{u1 u3 Y:Value}{R' R bm:Option Nat}{e:Ending}
theorem Ok{ax}(aC:0<=ax)(z:ax<=13):Oj ax=cnt ax:=by
 obtain rfl|rfl|rfl|rfl|rfl|rfl|rfl|rfl|rfl|rfl|rfl|rfl|rfl|rfl:=(by omega:ax=0\/ax=1\/ax=2\/ax=3\/ax=4\/ax=5\/ax=6\/ax=7\/ax=8\/ax=9\/ax=10\/ax=11\/ax=12\/ax=13)<;>decide
theorem GZ{ins i}(h:okV ins vs i=true):0<=(vs.getD i h7).op/\(vs.getD i h7).op<=13:=by
 grind[okV,gO]
theorem tX(v){q}(an:q<cnt v.op):(fy v).getD q 0=fld v q:=by
 have:=kN v.op;unfold fy;rw[yah,List.getElem?_take_of_lt an];obtain rfl|rfl|rfl:=(by omega:q=0\/q=1\/q=2)<;>rfl
theorem KC(ax)(aC:0<=ax)(z:ax<=13)(w):Calls prog 111 #[h0 ax] w λe D=>e=.returned (h0 (cnt ax:Nat))/\w=D:=by
 have:=rO w aC z;rw[Ok aC z]at this;exact this.mono λ_ _ h=>⟨h.1,h.2.symm⟩
theorem aM.qbo(h:Zp:=by
 rw[k.block g aG (aT g (i0 K))];exact bi):Zp:=h
open aM in
theorem fR{e size n:Nat}{v G W}(o:W.ownsRow base e size v n G)(k:Chg S W A)(aT:∀g,v.ownBlock=some g->¬S g):A.ownsRow base e size v n G:=by
 refine⟨o.1,o.2.imp id ?_⟩;exact qbn
theorem eD{X}(h:w.grownBy D X):Chg (λb=>X=some b) w D:=
 ⟨h.os,h.tape,h.output,h.size,λk H V=>h.block k H (λc=>V c.symm)⟩
theorem Bd.none(h:BS w P u1 u3 vs c base R Y)(r):Bd w P u1 u3 vs c base R ([],r) (.returned (h0 r)) w:=
 ⟨rfl,R,Y,by simpa[dK] using h,StQ.refl _ _ _⟩
theorem Bd.after{Maa}(ai:Stp P R w R' D)(h:Bd D P u1 u3 (vs++a) (c+dK a) base R' Maa e aA):Bd w P u1 u3 vs c base R (a++Maa.1,Maa.2) e aA:=by
 obtain⟨z,f,b,J,al⟩:=h;refine⟨z,_,b,?_,ai.trans al⟩;grind[iq]
theorem Bd.kept{Maa}(k:Kept 0 0 w D)(h:Bd D P u1 u3 vs c base R Maa e aA):Bd w P u1 u3 vs c base R Maa e aA:=by
 obtain⟨z,f,b,J,al⟩:=h;exact⟨z,_,_,J,StQ.trans ⟨k.chg,.inl rfl⟩ al⟩
def mK(n p q:Int)(N:Nat):List Vl×Int:=if p=-1 then ([],q)else if q=-1 then ([],p)else ([dL 2 n p q 0],N)
def mL(n p q:Int)(N:Nat):List Vl×Int:=if q=-1 then ([],p)else if p=-1 then ([dL 6 n q 0 0],N)else ([dL 3 n p q 0],N)
def chM(n d p q:Int)(N:Nat):List Vl×Int:=
 if p=-1 then (if q=-1 then ([dL 1 n 0 0 0,dL 1 n 0 0 0,dL 8 n d N ((N+1:Nat):Int)],((N+2:Nat):Int))else ([dL 1 n 0 0 0,dL 8 n d N q],((N+1:Nat):Int)))
 else (if q=-1 then ([dL 1 n 0 0 0,dL 8 n d p N],((N+1:Nat):Int))else ([dL 8 n d p q],(N:Int)))
theorem Dt(w P u1 u3 vs c base R Y n p q)(h:BS w P u1 u3 vs c base R Y)(b:Bnd vs c n):
  Calls prog 195 #[ge P,h0 n,h0 p,h0 q] w λe D=>Bd w P u1 u3 vs c base R (mK n p q vs.length) e D:=by
 have be:M _:=iW w P c R 2 n p q 0 h (ih b.l) (ih b.c0) (ih b.c1) (ih b.n0) (ih b.n1);have aw:=Q h;clear h b;unfold mK;by_cases aB:p=-1
 ·subst aB;rw[h3 rfl];have bi:M (∃R' a5,BS w P _ _ (vs++[]) (c+dK []) _ _ _/\Stp P R w _ w):=(Bd.none aw.o q).2;clear be aw;exact xhl
 rw[h2 aB];have ap:=yam aB;by_cases an:q=-1
 ·subst an;rw[h3 rfl];have bi:M (∃R' a5,BS w P _ _ (vs++[]) (c+dK []) _ _ _/\Stp P R w _ w):=(Bd.none aw.o p).2;clear be aw aB;exact xhl
 rw[h2 an];have bR:=yam an;clear aB an;go_enter func195,ntmps195;exact xas
theorem Du(w P u1 u3 vs c base R Y n p q)(h:BS w P u1 u3 vs c base R Y)(b:Bnd vs c n):
  Calls prog 196 #[ge P,h0 n,h0 p,h0 q] w λe D=>Bd w P u1 u3 vs c base R (mL n p q vs.length) e D:=by
 have be:M _:=λax x y aX=>iW w P c R ax n x y aX h (ih b.l) (ih b.c0) (ih b.c1) (ih b.n0) (ih b.n1);have aw:=Q h;clear h b;unfold mL;by_cases an:q=-1
 ·subst an;rw[h3 rfl];have bi:M (∃R' a5,BS w P _ _ (vs++[]) (c+dK []) _ _ _/\Stp P R w _ w):=(Bd.none aw.o p).2;clear be aw;go_enter func196,ntmps196;go_wp2;go_ret;exact⟨rfl,bi.o⟩
 rw[h2 an];have bR:=yam an;by_cases aB:p=-1
 ·subst aB;rw[h3 rfl];clear an;go_enter func196,ntmps196;go_wp2_with fail;refine yai (be.o 6 q 0 0) ?_;exact xba
 rw[h2 aB];have ap:=yam aB;clear aB an;go_enter func196,ntmps196;go_wp2_with fail;refine yai (be.o 3 p q 0) ?_;exact xba
theorem kI(h:BS aa P u1 u3 (vs++a) (c+dK a) base bm Y)(s:Stp P R w bm aa)(ab:vs.length+a.length<=1000000)(aC:-1000000000<=c+dK a)(z:c+dK a<=1000000000)(ax n p q r)(ay:-1000<=n)(a6:n<=1000):
  Calls prog 199 #[ge P,h0 ax,h0 n,h0 p,h0 q,h0 r] aa λe D=>Bd w P u1 u3 vs c base R (a++[dL ax n p q r],((vs.length+a.length:Nat):Int)) e D:=
 (iW aa P (u1:=u1) (u3:=u3) (vs:=vs++a) (c+dK a) (base:=base) bm (Y:=Y) ax n p q r h (by grind) aC z xaa xaa).mono λe D I=>by
  rw[yak]at I
  exact Bd.after s I
theorem j8(h:BS aa P u1 u3 (vs++a) (c+dK a) base bm Y)(s:Stp P R w bm aa)(ab:vs.length+a.length<=1000000)(aC:-1000000000<=c+dK a)(z:c+dK a<=1000000000)(n)(ay:-1000<=n)(a6:n<=1000):
  Calls prog 188 #[ge P,h0 n] aa λe D=>Bd w P u1 u3 vs c base R (a++[dL 1 n 0 0 0],((vs.length+a.length:Nat):Int)) e D:=
 (lM aa P u1 u3 (vs:=vs++a) (c:=c+dK a) base bm Y n h (by grind) aC z xaa xaa).mono λe D I=>by
  rw[yak]at I
  exact Bd.after s I
theorem tY(w P u1 u3 vs c base R Y n d p q)(h:BS w P u1 u3 vs c base R Y)(b:Bnd vs c n):
  Calls prog 200 #[ge P,h0 n,h0 d,h0 p,h0 q] w λe D=>Bd w P u1 u3 vs c base R (chM n d p q vs.length) e D:=by
 have be:M (∀{aa:World}{a:List _}{bm:Option _}{Y:Value},BS _ P u1 u3 (vs++a) (c+dK a) base _ Y->Stp P R w bm aa->a.length<=10->-100000<=dK a->dK a<=100000->∀ax p q r,_):=λh s ar b9 cl ax p q r=>kI h s (ih b.l) (ih b.c0) (ih b.c1) ax n p q r b.n0 b.n1;have u:M (∀{aa:World}{a:List _}{bm:Option _}{Y:Value},BS _ P u1 u3 (vs++a) (c+dK a) base _ Y->Stp P R w bm aa->a.length<=10->-100000<=dK a->dK a<=100000->_):=λh s ar b9 cl=>j8 h s (ih b.l) (ih b.c0) (ih b.c1) n b.n0 b.n1;have aw:M (BS w P u1 u3 (vs++[]) (c+dK []) base R Y):=by show BS _ _ _ _ _ _ _ _ _;simpa[dK] using h
 have bc:M (-1000<=n/\n<=1000):=⟨b.n0,b.n1⟩
 clear h b;unfold chM;by_cases aB:p=-1
 ·subst aB;rw[h3 rfl];by_cases an:q=-1
  ·subst an;rw[h3 rfl];go_enter func200,ntmps200;go_wp2_with fail;refine yai (u.o aw.o (StQ.refl _ _ _) xac (by simp[dK]) (by simp[dK])) ?_;rintro e aa ⟨rfl,bm,H,(aK:M _),(V:M _)⟩;go_wp2_with fail;refine yai (u.o aK.o V.o xac (by simp[dK];have:=bc.o;omega) (by simp[dK];have:=bc.o;omega)) ?_;rintro e Z ⟨rfl,bP,ae,(aT:M _),(K:M _)⟩;go_wp2_with fail;refine yai (be.o aT.o K.o xac (by simp[dK];have:=bc.o;omega) (by simp[dK];have:=bc.o;omega) 8 d _ _) ?_;exact xdu
  rw[h2 an];have bR:=yam an;clear an;exact xcf
 rw[h2 aB];have ap:=yam aB;clear aB;by_cases an:q=-1
 ·subst an;rw[h3 rfl];exact xcf
 rw[h2 an];have bR:=yam an;clear an;go_enter func200,ntmps200;go_wp2_with fail;refine yai (be.o aw.o (StQ.refl _ _ _) xac (by simp[dK]) (by simp[dK]) 8 d _ _) ?_;exact xdu
def rQ(v:Vl)(ta tb:Int)(N:Nat):List Vl×Int:=
 if ta=-1 then (if tb=-1 then ([],-1)else ([dL 4 v.len v.a tb 0],(N:Int)))
 else (if tb=-1 then ([dL 4 v.len ta v.b 0],(N:Int))else ([dL 4 v.len ta v.b 0,dL 4 v.len v.a tb 0,dL 2 v.len N ((N+1:Nat):Int) 0],((N+2:Nat):Int)))
def tK(i:Int)(v:Vl)(ta tb:Int)(N:Nat):List Vl×Int:=
 if ta=-1 then (if tb=-1 then ([],-1)else ([dL 4 v.len i tb 0,dL 5 v.len N v.b 0,dL 6 v.len ((N+1:Nat):Int) 0 0],((N+2:Nat):Int)))
 else (if tb=-1 then ([dL 5 v.len ta v.b 0],(N:Int))else ([dL 5 v.len ta v.b 0,dL 4 v.len i tb 0,dL 5 v.len ((N+1:Nat):Int) v.b 0,dL 3 v.len N ((N+2:Nat):Int) 0],((N+3:Nat):Int)))
theorem Dv(h:BS aa P u1 u3 (vs++a) (c+dK a) base bm Y)(s:Stp P R w bm aa)(b:Bnd (vs++a) (c+dK a) n)(p q):
  Calls prog 195 #[ge P,h0 n,h0 p,h0 q] aa λe D=>Bd w P u1 u3 vs c base R (a++(mK n p q (vs.length+a.length)).1,(mK n p q (vs.length+a.length)).2) e D:=
 (Dt aa P u1 u3 (vs++a) (c+dK a) base bm Y n p q h b).mono λe D I=>by
  grind[Bd.after]
theorem Dw(h:BS aa P u1 u3 (vs++a) (c+dK a) base bm Y)(s:Stp P R w bm aa)(b:Bnd (vs++a) (c+dK a) n)(p q):
  Calls prog 196 #[ge P,h0 n,h0 p,h0 q] aa λe D=>Bd w P u1 u3 vs c base R (a++(mL n p q (vs.length+a.length)).1,(mL n p q (vs.length+a.length)).2) e D:=
 (Du aa P u1 u3 (vs++a) (c+dK a) base bm Y n p q h b).mono λe D I=>by
  grind[Bd.after]
theorem BS.keep(h:BS w P u1 u3 vs c base R Y)(k:Kept 0 0 w D):BS D P u1 u3 vs c base R Y:=
 ⟨yaj h.lt k.size,λo=>by rw[k.frozen h.lt xaa];exact h.free o,dZ k h.lt h.c0,dZ k h.lt h.c1,dZ k h.lt h.c2,dZ k h.lt h.c3,dW h.own k,h.row,h.ne,yan h.sz k.size⟩
theorem BS.far(h:BS w P u1 u3 vs c base R Y):w.heap.size≠P/\R≠some w.heap.size:=
 ⟨ih h.lt,λe=>by have:=(dO h.own (h.row.trans e)).2;omega⟩
theorem At.step{B v}(a:At w B o v)(s:Stp P R w R' D)(ax:B<w.heap.size)(bi:B≠P/\R≠some B):At D B o v:=by
 have e:∀k,_:=λk=>s.chg.cell (p:=⟨B,k,none⟩) ax (by grind);exact⟨it e a.c0,it e a.c1,it e a.c2,it e a.c3,it e a.c4,it e a.c5⟩
structure Bnd0(vs:List Vl)(c:Int)(n:Int):Prop where
 l:vs.length<=800000
 c0:-800000000<=c
 c1:c<=800000000
 n0:-1000<=n
 n1:n<=1000
theorem Bd.cast{Maa M'}(K:Maa=M')(h:Bd w P u1 u3 vs c base R Maa e D):Bd w P u1 u3 vs c base R M' e D:=K ▸ h
theorem G3(aB:p≠-1)(an:q≠-1):mK n p q N=([dL 2 n p q 0],(N:Int)):=by unfold mK;grind
theorem Ll(aB:p≠-1):mK n p (-1) N=([],p):=by unfold mK;grind
theorem Dx:mK n (-1) q N=([],q):=by unfold mK;grind
theorem G4(aB:p≠-1)(an:q≠-1):mL n p q N=([dL 3 n p q 0],(N:Int)):=by unfold mL;grind
theorem Dy:mL n p (-1) N=([],p):=by unfold mL;grind
theorem Lm(an:q≠-1):mL n (-1) q N=([dL 6 n q 0 0],(N:Int)):=by unfold mL;grind
theorem aG.qbk(h:Zp:=by
 exact xfj):Zp:=h
theorem aG.qeh(h:Zp:=by
 have u:M (∀{aa:World}{a:List _}{bm:Option _}{Y:Value},BS _ P u1 u3 (vs++a) (c+dK a) base bm Y->Stp P R (w.alloc (ir v.op v.len v.a v.b v.c v.k)) _ aa->a.length<=10->-100000<=dK a->dK a<=100000->∀p q,_):=λ{aa a bm Y} h s ar b9 cl p q=>Dv h s ⟨by rw[yak];have:=b.l;omega,ih b.c0,ih b.c1,b.n0,b.n1⟩ p q;have aw:M (BS (w.alloc (ir v.op v.len v.a v.b v.c v.k)) P u1 u3 (vs++[]) (c+dK []) base R Y):=by show BS _ _ _ _ _ _ _ _ _;simpa[dK] using h'
 exact qhr):Zp:=h
theorem aG.qgm(h:Zp:=by
 obtain⟨rfl,au⟩:=Bd.cast (by rw[G3 xaa xaa]) (Bd.kept ay.o I);exact xch):Zp:=h
theorem aG.qhs(h:Zp:=by
 clear h h' b bx bi aD;obtain⟨bh,aH,aN,aM,aS,aC⟩:=cd.o (StQ.refl _ _ _);unfold rQ;by_cases aB:ad=-1
 ·subst aB;rw[h3 rfl];by_cases an:C=-1
  ·subst an;rw[h3 rfl];go_enter func197,ntmps197;go_wp2_with fail;refine yai (u.o aw.o (StQ.refl _ _ _) xac (by simp[dK]) (by simp[dK]) _ _) ?_;exact xfj
  rw[h2 an];have bR:(C !=-1)=true:=by grind
  go_enter func197,ntmps197;go_wp2_with fail;refine yai (be.o aw.o (StQ.refl _ _ _) xac (by simp[dK];try (have:=bc.o;omega)) (by simp[dK];try (have:=bc.o;omega)) 4 _ _ 0) ?_;exact qbj
 rw[h2 aB];have ap:(ad !=-1)=true:=by grind
 by_cases an:C=-1
 ·subst an;rw[h3 rfl];go_enter func197,ntmps197;go_wp2_with fail;refine yai (be.o aw.o (StQ.refl _ _ _) xac (by simp[dK];try (have:=bc.o;omega)) (by simp[dK];try (have:=bc.o;omega)) 4 _ _ 0) ?_;rintro e aa ⟨rfl,bm,H,(aK:M _),(V:M _)⟩;clear bh aH aN aM aS aC;obtain⟨bh,aH,aN,aM,aS,aC⟩:=cd.o V.o;go_wp2_with fail;refine yai (u.o aK.o V.o xac (by simp[dK];try (have:=bc.o;omega)) (by simp[dK];try (have:=bc.o;omega)) _ _) ?_;rintro e bn I;obtain⟨rfl,au⟩:=Bd.cast (by rw[Ll xaa]) (Bd.kept ay.o I);exact xch
 rw[h2 an];have bR:(C !=-1)=true:=by grind
 go_enter func197,ntmps197;go_wp2_with fail;refine yai (be.o aw.o (StQ.refl _ _ _) xac (by simp[dK];try (have:=bc.o;omega)) (by simp[dK];try (have:=bc.o;omega)) 4 _ _ 0) ?_;rintro e aa ⟨rfl,bm,H,(aK:M _),(V:M _)⟩;clear bh aH aN aM aS aC;obtain⟨bh,aH,aN,aM,aS,aC⟩:=cd.o V.o;go_wp2_with fail;refine yai (be.o aK.o V.o xac (by simp[dK];try (have:=bc.o;omega)) (by simp[dK];try (have:=bc.o;omega)) 4 _ _ 0) ?_;exact qgl):Zp:=h
open aG in
theorem G5{w}(P){u1 u3 vs}(c){base}(R){Y}(v){ad C}(h:BS w P u1 u3 vs c base R Y)(b:Bnd0 vs c v.len):
  Calls prog 197 #[ge P,v.agg,h0 ad,h0 C] w λe D=>Bd w P u1 u3 vs c base R (rQ v ad C vs.length) e D:=by
 have bx:=dE 0 0 w (ir v.op v.len v.a v.b v.c v.k);have aD:=iB w v;have bi:=h.far;have h':=h.keep bx;exact qeg
theorem BS.read(h:BS w P u1 u3 vs c base R Y)(V:0<vs.length):
  ∃g cap,Y=hZ g vs.length cap/\g<w.heap.size/\∀i,i<vs.length->At w g (i*6) (vs.getD i h7):=by
 obtain⟨g,cap,e,_,aG,_,bo⟩:=jX h.own V rfl;exact⟨g,_,e,aG,bo.at_⟩
theorem aH.qbk(h:Zp:=by
 exact xfk):Zp:=h
theorem aH.qeh(h:Zp:=by
 have u:M (∀{aa:World}{a:List _}{bm:Option _}{Y:Value},BS _ P u1 u3 (vs++a) (c+dK a) base bm Y->Stp P R (w.alloc (ir v.op v.len v.a v.b v.c v.k)) _ aa->a.length<=10->-100000<=dK a->dK a<=100000->∀p q,_):=λ{aa a bm Y} h s ar b9 cl p q=>Dw h s ⟨by rw[yak];have:=b.l;omega,ih b.c0,ih b.c1,b.n0,b.n1⟩ p q;have aw:M (BS (w.alloc (ir v.op v.len v.a v.b v.c v.k)) P u1 u3 (vs++[]) (c+dK []) base R (hZ g vs.length cap)):=by show BS _ _ _ _ _ _ _ _ _;simpa[dK] using h'
 exact qhr):Zp:=h
theorem aH.qgm(h:Zp:=by
 obtain⟨rfl,au⟩:=Bd.cast (by rw[Lm xaa]) (Bd.kept ay.o I);exact xch):Zp:=h
theorem aH.qhs(h:Zp:=by
 clear h h' b bx bi aD bo aG ah;obtain⟨cc,aW,bA,bs,aj,X⟩:=ce;obtain⟨bh,aH,aN,aM,aS,aC⟩:=cd.o (StQ.refl _ _ _);unfold tK;by_cases aB:ad=-1
 ·subst aB;rw[h3 rfl];by_cases an:C=-1
  ·subst an;rw[h3 rfl];go_enter func198,ntmps198;go_wp2_with fail;clear cc aW bA bs aj X a9;refine yai (u.o aw.o (StQ.refl _ _ _) xac (by simp[dK];try (have:=bc.o;omega)) (by simp[dK];try (have:=bc.o;omega)) _ _) ?_;exact xfk
  rw[h2 an];have bR:(C !=-1)=true:=by simpa using an
  go_enter func198,ntmps198;go_wp2_with fail;clear cc aW bA bs aj X a9;refine yai (be.o aw.o (StQ.refl _ _ _) xac (by simp[dK];try (have:=bc.o;omega)) (by simp[dK];try (have:=bc.o;omega)) 4 i _ 0) ?_;rintro e aa ⟨rfl,bm,H,(aK:M _),(V:M _)⟩;clear bh aH aN aM aS aC;obtain⟨bh,aH,aN,aM,aS,aC⟩:=cd.o V.o;go_wp2_with fail;refine yai (be.o aK.o V.o xac (by simp[dK];try (have:=bc.o;omega)) (by simp[dK];try (have:=bc.o;omega)) 5 _ _ 0) ?_;exact qgl
 rw[h2 aB];have ap:(ad !=-1)=true:=by simpa using aB
 by_cases an:C=-1
 ·subst an;rw[h3 rfl];go_enter func198,ntmps198;go_wp2_with fail;clear cc aW bA bs aj X a9;refine yai (be.o aw.o (StQ.refl _ _ _) xac (by simp[dK];try (have:=bc.o;omega)) (by simp[dK];try (have:=bc.o;omega)) 5 _ _ 0) ?_;exact qbj
 rw[h2 an];have bR:(C !=-1)=true:=by simpa using an
 go_enter func198,ntmps198;go_wp2_with fail;clear cc aW bA bs aj X a9;refine yai (be.o aw.o (StQ.refl _ _ _) xac (by simp[dK];try (have:=bc.o;omega)) (by simp[dK];try (have:=bc.o;omega)) 5 _ _ 0) ?_;rintro e aa ⟨rfl,bm,H,(aK:M _),(V:M _)⟩;clear bh aH aN aM aS aC;obtain⟨bh,aH,aN,aM,aS,aC⟩:=cd.o V.o;go_wp2_with fail;refine yai (be.o aK.o V.o xac (by simp[dK];try (have:=bc.o;omega)) (by simp[dK];try (have:=bc.o;omega)) 4 i _ 0) ?_;rintro e Z ⟨rfl,bP,ae,(aT:M _),(K:M _)⟩;clear bh aH aN aM aS aC;obtain⟨bh,aH,aN,aM,aS,aC⟩:=cd.o K.o;go_wp2_with fail;refine yai (be.o aT.o K.o xac (by simp[dK];try (have:=bc.o;omega)) (by simp[dK];try (have:=bc.o;omega)) 5 _ _ 0) ?_;rintro e ao ⟨rfl,R3,aF,(ab:M _),(f:M _)⟩;clear bh aH aN aM aS aC;obtain⟨bh,aH,aN,aM,aS,aC⟩:=cd.o f.o;go_wp2_with fail;refine yai (u.o ab.o f.o xac (by simp[dK];try (have:=bc.o;omega)) (by simp[dK];try (have:=bc.o;omega)) _ _) ?_;rintro e bn I;obtain⟨rfl,au⟩:=Bd.cast (by rw[G4 xaa xaa]) (Bd.kept ay.o I);exact xch):Zp:=h
open aH in
theorem BD{w}(P){u1 u3 vs}(c){base}(R){Y}(i v){ad C}(h:BS w P u1 u3 vs c base R Y)(hi:i<vs.length)(ah:vs.getD i h7=v)(b:Bnd0 vs c v.len):
  Calls prog 198 #[ge P,h0 i,h0 ad,h0 C] w λe D=>Bd w P u1 u3 vs c base R (tK (i:Int) v ad C vs.length) e D:=by
 have bx:=dE 0 0 w (ir v.op v.len v.a v.b v.c v.k);have aD:=iB w v;have bi:=h.far;have h':=h.keep bx;obtain⟨g,cap,rfl,aG,bo⟩:=h.read xaa;have a9:=h.c1;have ce:=bo i hi;rw[ah]at ce;exact qeg
def BR(w:World)(g:Nat)(xs:List Bool):Prop:=w.heap[g]? =some (.cells (xs.map Value.bool).toArray 4 (0,0))
theorem BR.lt(h:BR w g G):g<w.heap.size:=by
 grind[BR]
theorem BR.cell(h:BR w g G)(k)(H:k<G.length):w.cell? ⟨g,k,none⟩=some (.bool (G.getD k false)):=by
 rw[cell_of_row w g k _ _ _ h];grind
theorem BR.free(h:BR w g G)(k):w.frozen? ⟨g,k,none⟩=false:=frozen_of_row w g k _ _ h
theorem BR.keep{l h}(f:BR w g G)(k:Kept l h w D)(aT:g<l\/h<=g\/h<=l):BR D g G:=by
 unfold BR;rw[k.block g f.lt xaa];exact f
theorem BR.keepC(f:BR w g G)(k:Chg S w D)(aT:¬S g):BR D g G:=by
 unfold BR;rw[k.block g f.lt aT];exact f
theorem BR.set(h:BR w g G)(k x):BR (w.setCell ⟨g,k,none⟩ (.bool x)) g (G.set k x):=by
 unfold BR at h⊢;exact qdk
theorem BR.made(w:World)(n):BR (w.alloc (.cells (madeCells #[.bool false] n) 4)) w.heap.size (List.replicate n false):=by
 unfold BR;rw[heap_alloc_new]
 have:(madeCells #[.bool false] n)=(List.map Value.bool (List.replicate n false)).toArray:=by
  apply Array.toList_inj.1;rw[toList_madeCells_one];simp
 rw[this]
theorem Ol:(prog.info? 4).map (λi=>(i.zero,i.size,i.bytes))=some (some (.bool false),1,1):=by kernel_rfl
theorem yW(n:Nat)(w)(V:n<=1099511627776):
  (Instr.makeSlice 179 (h0 n) (h0 n)).run prog w=.ok (hZ w.heap.size n n) (w.alloc (.cells (madeCells #[.bool false] n) 4)):=by
 obtain⟨i,hi,ch,b6,ci⟩:=info_parts Ol;have:=run_make w 179 4 i _ underlying179 hi ch .i64 .i64 n n xaa xaa (by grind) xaa;exact qdj
theorem IR.keepC{G}(f:IR w g G)(k:Chg S w D)(aT:¬S g):IR D g G:=by
 unfold IR;rw[k.block g f.lt aT];exact f
theorem VA.keepC{n}(q:VA w g n vs)(k:Chg S w D)(aT:¬S g):VA D g n vs:=
 ⟨q.len,yaj q.lt k.size,λj aK=>by
  have e:∀o,_:=λo=>k.cell (p:=⟨g,o,none⟩) q.lt aT
  obtain⟨c0,c1,c2,c3,c4,c5⟩:=q.at_ j aK
  exact⟨by grind,by grind,by grind,by grind,by grind,by grind⟩,λo=>by rw[k.frozen q.lt aT];exact q.free o⟩
theorem Chg.mono(h:Chg S w D)(ai:∀b,b<w.heap.size->S b->T b):Chg T w D:=
 ⟨h.os,h.tape,h.output,h.size,λk H V=>h.block k H λc=>V (ai k H c)⟩
theorem Chg.new{a b c}(h:Chg S a b)(k:Chg T b c)(C:∀i,i<a.heap.size->T i->S i):Chg S a c:=
 ⟨k.os.trans h.os,k.tape.trans h.tape,k.output.trans h.output,yan h.size k.size,λi hi V=>(k.block i (yaj hi h.size) (λc=>V (C i hi c))).trans (h.block i hi V)⟩
theorem dV(w g o v)(h:S g):Chg S w (w.setCell ⟨g,o,none⟩ v):=
 (d9 (lo:=g) (hi:=g+1) w ⟨g,o,none⟩ v yab).chg1 h
def iR(i:Int)(v:Vl)(la:Int)(k:Nat)(d:Int)(N:Nat):List Vl×Int:=
 if v.op=2 then ([],d)
 else if v.op=3 then (if k=0 then ([],d)else ([dL 6 v.len d 0 0],N))
 else if v.op=4 then (if k=0 then ([dL 4 v.len d v.b 0],N)else ([dL 4 v.len d v.a 0],N))
 else if v.op=5 then (if k=0 then ([dL 5 v.len d v.b 0],N)else ([dL 4 v.len d i 0,dL 5 v.len N v.b 0,dL 6 v.len ((N+1:Nat):Int) 0 0],((N+2:Nat):Int)))
 else if v.op=6 then ([dL 6 v.len d 0 0],N)
 else if v.op=13 then ([dL 4 v.len d i 0],N)
 else if v.op=8 then (if k=1 then ([dL 1 v.len 0 0 0,dL 8 v.len v.a d N],((N+1:Nat):Int))else ([dL 1 v.len 0 0 0,dL 8 v.len v.a N d],((N+1:Nat):Int)))
 else if v.op=7 then (if k=0 then ([dL 3 v.len v.a v.b 0,dL 1 v.len 0 0 0,dL 8 v.len N d ((N+1:Nat):Int)],((N+2:Nat):Int))else ([dL 3 v.len v.a v.b 0,dL 1 v.len 0 0 0,dL 8 v.len N ((N+1:Nat):Int) d],((N+2:Nat):Int)))
 else if v.op=9 then ([dL 10 la d 0 0],N)
 else if v.op=10 then ([dL 9 1 d 0 0],N)
 else if v.op=11 then ([dL 12 la d 0 v.c],N)
 else ([dL 11 1 d 0 v.c],N)
def i8(v:Vl)(k:Nat):Bool:=!(v.op==8&&k==0)
structure Same(lo hi:Nat)(W0 W:World):Prop where
 le:hi<=W0.heap.size
 size:W0.heap.size<=W.heap.size
 blk:∀b,lo<=b->b<hi->W.heap[b]? =W0.heap[b]?
theorem Same.cell{W0 W}(s:Same lo hi W0 W){b}(z:lo<=b)(J:b<hi):W.cell? ⟨b,o,none⟩=W0.cell? ⟨b,o,none⟩:=World.cell?_of_block (s.blk b z J)
theorem Same.refl{W}(h:hi<=W.heap.size):Same lo hi W W:=⟨h,yac,λ_ _ _=>rfl⟩
theorem Same.chg{W0 W}(s:Same lo hi W0 W)(k:Chg S W A)(aT:∀b,lo<=b->b<hi->¬S b):Same lo hi W0 A:=
 ⟨s.le,yan s.size k.size,λb z J=>by rw[k.block b (yaj J (yan s.le s.size)) (aT b z J)];exact s.blk b z J⟩
structure InR(lo hi P:Nat)(R:Option Nat):Prop where
 p:P<lo
 r:∀b,R=some b->b<lo\/hi<=b
theorem InR.step{W}(f:InR lo hi P R)(s:Stp P R W R' A)(h:hi<=W.heap.size):InR lo hi P R':=
 ⟨f.p,λb I=>by
  obtain e|⟨r,e,ah⟩:=s.row
  ·exact f.r b (by grind)
  grind⟩
theorem Same.step{W0 W}(s:Same lo hi W0 W)(f:InR lo hi P R)(k:Stp P R W R' A):Same lo hi W0 A:=
 s.chg k.chg (λb z J c=>by
  obtain c|c:=c
  ·have:=f.p;omega
  ·have:=f.r b c;omega)
def Pre(vs0 us:List Vl):Prop:=∃r,us=vs0++r
theorem Pre.at_(h:Pre vs0 us){j}(aK:j<vs0.length):us.getD j h7=vs0.getD j h7/\j<us.length:=by
 obtain⟨r,rfl⟩:=h;grind
theorem Pre.app(h:Pre vs0 us):Pre vs0 (us++a):=by
 obtain⟨r,rfl⟩:=h;exact⟨r++a,by rw[List.append_assoc]⟩
def PC(W0:World)(lo hi P:Nat)(vs0:List Vl)(fv:Value)(f:Int->Nat->List Vl×Int):Prop:=
 ∃(N:FuncId) (caps:Array Value),fv=.func (.func N) #[] caps/\(∀args w,(callFunc N args).run prog w=.ok (.enter N args) w)/\∀(W:World) (u1 u3:Value) (us:List Vl) (c:Int) (base:Nat) (R:Option Nat) (vv:Value) (d:Int),Same lo hi W0 W->InR lo hi P R->BS W P u1 u3 us c base R vv->Pre vs0 us->Bnd us c 0->Calls prog N (#[.int .i64 d]++caps) W λe w'=>Bd W P u1 u3 us c base R (f d us.length) e w'
theorem rS{w}(P){u1 u3 us}(c){base}(R){Y}(h:BS w P u1 u3 us c base R Y)(j)(aK:j<us.length)(ab:us.length<=900000):
  Calls prog 168 #[ge P,h0 j] w λe D=>e=.returned (h0 (us.getD j h7).len)/\D=w:=by
 obtain⟨g,cap,rfl,_,_,_,C⟩:=jX h.own xaa rfl;have aQ:=h.c1;have aU:=(C.at_ j aK).c1;obtain⟨n,V⟩:∃n,n=us.length:=⟨_,rfl⟩
 rw[<-V]at aK aQ;have b:(0:Int)<=j:=xaa;have r:(j:Int)<n:=xaa;generalize (us.getD j _).len=aO at aU;clear h C V;go_enter func168,ntmps168;go_wp2;go_ret;exact⟨rfl,rfl⟩
