import Derived.Test.YtbhmhdllnfkjhaaGreatP05
import Derived.Test.YtbhmhdllnfkjhaaGreatP06
namespace Go.Proofs.Z
open Tryz
set_option maxRecDepth 1000000
set_option maxHeartbeats 0
open Go.RowKit Flt
attribute[local go_sem] eG eE eD
variable{aO W':World}{k n z:Nat}{q:Nat->Nat}{v:Value}
theorem FC(op w)(ae:0<=op)(B:op<=13):Calls prog 80 #[hD op] w λe I=>e=.returned (.bool (uZ op))/\w=I:=
 (Fd op w ae B).mono λ_ _ h=>⟨h.1,h.2.symm⟩
theorem qI(op w)(ae:0<=op)(B:op<=13):Calls prog 48 #[hD op] w λe I=>e=.returned (hD (tv op:Nat))/\w=I:=
 (kX op w ae B).mono λ_ _ h=>⟨h.1,h.2.symm⟩
def Grow(w1:World)(k:Nat)(q:Nat->Nat)(v:Value)(W:World):Prop:=
 ∃zs:List Nat,W.ownsRow w1.heap.size 50 1 v k (zs.map (Value.float .f64))/\zs.length=k/\(∀z∈zs,z<18446744073709551616)/\(∀j,j<k->fb (zs.getD j 0)=fb (q j))/\Kept 0 0 w1 W
theorem AK(aO q):Grow aO 0 q (.slice none 0 0) aO:=
 ⟨[],yaw _ _ _ _,rfl,by simp,λj hj=>by omega,Kept.refl _ _ _⟩
theorem Grow.kept{W}(h:Grow aO k q v W):Kept 0 0 aO W:=by
 obtain⟨_,_,_,_,_,h⟩:=h;exact h
theorem Dg{base e size:Nat}{xs W}(h:W.ownsRow base e size v n xs)(d:Drawn W W'):W'.ownsRow base e size v n xs:=by
 obtain⟨m,rfl⟩:=d;exact h
theorem Grow.step{W}{zs:List Nat}
  (aZ:W.ownsRow aO.heap.size 50 1 v k (zs.map (Value.float .f64))) (ab:zs.length=k) (aC:∀z∈zs,z<18446744073709551616) (am:∀j,j<k->fb (zs.getD j 0)=fb (q j)) (aw:Kept 0 0 aO W)
  (bi:z<18446744073709551616) (f:fb z=fb (q k)) {v'}{I}{o}
  (e:I.ownsRow aO.heap.size 50 1 v' (k+1) (zs.map (Value.float .f64)++[Value.float .f64 z])) (aR:(W.alloc o).grownBy I v.ownBlock):Grow aO (k+1) q v' I:=by
 refine⟨zs++[z],by rw[List.map_append];exact e,by simp[ab],?_,?_,?_⟩
 ·intro x ak;rcases List.mem_append.1 ak with c|c
  ·exact aC x c
  simp at c;rw[c];exact bi
 ·intro j hj;rw[yai,List.getElem?_append];by_cases c:j<zs.length
  ·rw[hG c,<-yai];exact am j xaa
  rw[hF c,show j-zs.length=0 by omega];have:j=k:=xaa;subst this;exact f
 refine⟨aR.os.trans aw.os,aR.tape.trans aw.tape,aR.output.trans aw.output,?_,λi hi _=>?_⟩
 ·have:=aR.size;have J:=aw.size;simp at this;omega
 have J:=aw.size;rw[aR.block i yag (λc=>hM (aZ.lt i c.symm)),Below.heap_alloc W o i xaa];exact aw.block i hi xaa
def KS(n:Nat)(q:Nat->Nat)(w:World)(e:Ending)(w':World):Prop:=
 ∃(a:Option Addr) (cap:Nat) (zs:List Nat),e=.returned (.slice a n cap)/\FS w' w.heap.size w'.heap.size a n zs/\(∀k,k<n->fb (zs.getD k 0)=fb (q k))/\Kept 0 0 w w'/\n<=cap
theorem Grow.done{w W}(h:Grow aO n q v W)(B:1<=n)(N:Kept 0 0 w aO):KS n q w (.returned v) W:=by
 obtain⟨zs,⟨_,al⟩,J,h3,a0,bz⟩:=h;rcases al with⟨_,c⟩|⟨g,cap,H,rfl,O,ax,Z,_,cj,bG⟩
 ·omega
 have ar:w.heap.size<=g:=hM N.size
 have aR:g<W.heap.size:=by
  exact xcr
 refine⟨_,_,_,rfl,⟨J,h3,.inr ⟨g,0,rfl,ar,aR,aR,λk av=>?_⟩⟩,a0,N.trans bz,Z⟩;rw[cell_of_row W g _ _ _ _ ax,Nat.zero_add,<-Array.getElem?_toList];have:(H.toList.take (n*1))[k]? =(zs.map (Value.float .f64))[k]?:=by rw[bG]
 rw[List.getElem?_take_of_lt xaa]at this;rw[this,List.getElem?_map,yam (by omega:k<zs.length)];simp[List.getD_eq_getElem?_getD,List.getElem?_eq_getElem (by omega:k<zs.length)]
theorem tL(w op len A R C K a b c l X f bd cb bK)(ar:jm op len C l X f=false):
  Calls prog 50 #[kT op len A R C K,.slice a l bd,.slice b X cb,.slice c f bK] w λe I=>e=.returned (.slice none 0 0)/\Kept 0 0 w I:=by
 go_enter func50,ntmps50;go_wp2_with fail;refine(AC _ _ _ A R C K _ _ _).mono ?_;rintro e I ⟨rfl,rfl⟩;rw[ar];go_wp2;go_ret;exact⟨rfl,(ez 0 0 w _).trans (ez 0 0 _ _)⟩
theorem Grow.drawn{W}(h:Grow aO k q v W)(d:Drawn W W'):Grow aO k q v W':=by
 obtain⟨zs,B,J,h3,a0,bz⟩:=h;exact⟨_,Dg B d,J,h3,a0,bz.trans (d.kept 0 0)⟩
theorem gG{W}(bv:Grow aO k q v W)(N:k<1000)(bi:z<18446744073709551616/\fb z=fb (q k)){br rest o a Q}(X:o.guard=none)(s x)
  (al:o.op=.call {callee:=.builtin .append,args:=#[s,x],argTypes:=#[48,48]}) (ar:a.eval s=v) (ak:a.eval x=hC W.heap.size 1 1)
  (h:∀v' I,Grow aO (k+1) q v' I->wpList prog br Q rest (a.put o.dst v') I):wpList prog br Q (o::rest) a (W.alloc (.cells #[.float .f64 z] 50)):=by
 obtain⟨b3,hi,a6,b8,b5⟩:=info_parts yq;obtain⟨zs,B,J,h3,a0,bz⟩:=bv;have:=bz.size;exact wpList_append_own _ X s x _ al _ _ _ _ 1 8 underlying48 hi a6 b8 b5 rfl xab _ _ _ ar (B.alloc _) _ 1 1 _ ak rfl (cell_one_new _ _ _) (by intro u aH;simp at aH;subst aH;rfl) (by unfold maxLen;omega) xaa yag λv' I bP aS _=>h _ _ (Grow.step B J h3 a0 bz bi.1 bi.2 bP aS)
theorem uN(w op A R C)(n K:Nat)(bD:1<=op/\op<=13)(B:1<=n)(hn:n<=1000)(aw:K<18446744073709551616){aJ ai b1 bM ce b3 a b c l X f bd cb bK P az aB}
  (Q:FS w aJ ai a l P) (bk:FS w b1 bM b X az) (s:FS w ce b3 c f aB) (y:l<=bd) (ar:jm op (n:Int) C l X f=true):
  Calls prog 50 #[kT op (n:Int) A R C K,.slice a l bd,.slice b X cb,.slice c f bK] w λe I=>KS n (gU op C K P az aB) w e I:=by
 have aI:V _:=hE Q (hE bk s);have bf:V _:=(ez 0 0 w (fB op (n:Int) A R C K)).trans (ez 0 0 _ (fB op (n:Int) A R C K))
 have aA:V (∀W,Kept 0 0 ((w.alloc (fB op (n:Int) A R C K)).alloc (fB op (n:Int) A R C K)) W->W.cell? ⟨w.heap.size,0,none⟩=some (hD op)/\W.cell? ⟨w.heap.size,1,none⟩=some (hD n)/\W.cell? ⟨w.heap.size,4,none⟩=some (hD C)/\W.cell? ⟨w.heap.size,5,none⟩=some (.float .f64 K)):=λW q=>by
  have bs:w.heap.size<((w.alloc (fB op (n:Int) A R C K)).alloc (fB op (n:Int) A R C K)).heap.size:=by simp;omega
  exact⟨kB q bs xac,kB q bs xac,kB q bs xac,kB q bs xac⟩
 obtain⟨_,d1,_,_⟩:=aA.o _ hL;have j:V _:=λw=>FC op w xaa xaa;have cC:V _:=λw=>qI op w xaa xaa;have HL:V _:=AC (w.alloc (fB op (n:Int) A R C K)) op (n:Int) A R C K l X f;have au:V _:=ar;rw[ar]at HL;clear Q bk s ar;go_enter func50,ntmps50;go_wp2_with fail;refine yaj HL.o ?_;rintro e I ⟨rfl,rfl⟩;clear HL;go_wp2_with fail;have ab:V _:=AK ((w.alloc (fB op (n:Int) A R C K)).alloc (fB op (n:Int) A R C K)) (gU op C K P az aB);clear d1;generalize (w.alloc (fB op (n:Int) A R C K)).alloc (fB op (n:Int) A R C K)=aO at aA bf ab⊢;go_loopw [9,10,11,12,13,14] (λv i _ _ _ _ W=>∃k:Nat,k<=n/\i=hD k/\V (Grow aO k (gU op C K P az aB) v W)) (λ_ i _ _ _ _ _=>n-(intOf i).toNat)
 case atStart=>exact⟨0,yae,rfl,ab⟩
 case round=>
  obtain⟨k,N,rfl,bv⟩:=hrel;clear ab;obtain⟨bu,d1,H,aj⟩:=aA.o _ (Grow.kept bv.o);have HK:V _:=bf.o.trans (Grow.kept bv.o);by_cases aC:k<n
  ·have ch:k<1000:=xaa;have g:=fR aI.o.1.lt;cases Z:uZ op
   ·rw[Z]at j;have ad:op=1\/op=9\/op=10\/op=11\/op=12:=by have:=of_decide_eq_false Z;omega
    clear Z cC;rcases ad with rfl|rfl|rfl|rfl|rfl
    ·have b7:V (K<18446744073709551616/\fb K=fb (gU 1 C K P az aB k)):=⟨aw,by simp[gU]⟩
     exact xbz
    ·have a9:n<=1/\1<=l/\l<=1000:=by have:=au.o;simp[jm,eY,cnt,lenB]at this;omega
     go_wp2_with (go_at_call 80;refine yaj (j.o _) ?_;rintro e ag ⟨rfl,rfl⟩);refine yaj (OT _ l a9.2.1 a9.2.2 (aI.o.1.keep HK.o yaa) y) ?_;rintro e ag ⟨u,rfl,aH,m,a5⟩;have b7:V (u<18446744073709551616/\fb u=fb (gU 9 C K P az aB k)):=⟨aH,by rw[m];simp[gU]⟩
     replace bv:V _:=Grow.drawn bv.o a5;clear aH m g a5;exact xaj
    ·have a9:0<l:=by have:=au.o;simp[jm,eY,cnt,lenB]at this;omega
     obtain⟨bw,bh,rfl,bI⟩:=aI.o.1.el a9 HK.o;rw[Nat.add_zero]at bI;have b7:V (_/\fb (P.getD 0 0)=fb (gU 10 C K P az aB k)):=⟨g 0,by simp[gU]⟩
     generalize P.getD 0 0=u0 at bI b7;exact xbz
    ·obtain⟨p,rfl,a9⟩:∃p:Nat,C=p/\p<l:=⟨C.toNat,by have:=au.o;simp[jm,eY,cnt,lenB,fJ]at this;omega⟩
     obtain⟨bw,bh,rfl,bI⟩:=aI.o.1.el a9 HK.o;have b7:V (_/\fb (P.getD p 0)=fb (gU 11 p K P az aB k)):=⟨g p,by simp[gU]⟩
     generalize P.getD p 0=u0 at bI b7;exact xbz
    obtain⟨p,rfl,a9⟩:∃p:Nat,C=p/\0<l:=⟨C.toNat,by have:=au.o;simp[jm,eY,cnt,lenB,fJ]at this;omega⟩
    obtain⟨bw,bh,rfl,bI⟩:=aI.o.1.el a9 HK.o;rw[Nat.add_zero]at bI;by_cases r:k=p
    ·have b7:V (_/\fb (P.getD 0 0)=fb (gU 12 p K P az aB k)):=⟨g 0,by simp[gU,r]⟩
     have ay:((k:Int)==p)=true:=beq_iff_eq.2 xaa;generalize P.getD 0 0=u0 at bI b7;clear g r;exact xaj
    have b7:V (0<18446744073709551616/\fb 0=fb (gU 12 p K P az aB k)):=⟨by decide,by simp[gU,r]⟩
    have ay:((k:Int)==p)=false:=yan xaa;clear g r bI;exact xaj
   rw[Z]at j;have ad:op=2\/op=3\/op=4\/op=5\/op=6\/op=7\/op=8\/op=13:=hM (of_decide_eq_true Z)
   have t:=fR aI.o.2.1.lt;have G:=fR aI.o.2.2.lt;rcases (by omega:(op=2\/op=3\/op=4\/op=5\/op=7)\/(op=6\/op=13)\/op=8) with J|J|J
   ·have a9:k<l/\k<X:=by have:=au.o;rcases J with rfl|rfl|rfl|rfl|rfl<;>simp[jm,eY,cnt,lenB]at this<;>omega
    have aq:tv op=2:=by rcases J with rfl|rfl|rfl|rfl|rfl<;>rfl
    rw[aq]at cC;have HO:V _:=λW=>Fe op (P.getD k 0) (az.getD k 0) 0 W (g k) (t k) xab ad;have HE:V (wN op (P.getD k 0) (az.getD k 0) 0=gU op C K P az aB k):=by show _=_;rcases J with rfl|rfl|rfl|rfl|rfl<;>simp[wN,gU]
    obtain⟨bw,bh,rfl,h⟩:=aI.o.1.el (k:=k) a9.1 HK.o;obtain⟨aY,aP,rfl,x⟩:=aI.o.2.1.el (k:=k) a9.2 HK.o;generalize P.getD k 0=F at h HO HE;generalize az.getD k 0=Y at x HO HE;exact xar
   ·have a9:k<l:=by have:=au.o;rcases J with rfl|rfl<;>simp[jm,eY,cnt,lenB]at this<;>omega
    have aq:tv op=1:=by rcases J with rfl|rfl<;>rfl
    rw[aq]at cC;have HO:V _:=λW=>Fe op (P.getD k 0) 0 0 W (g k) xab xab ad;have HE:V (wN op (P.getD k 0) 0 0=gU op C K P az aB k):=by show _=_;rcases J with rfl|rfl<;>simp[wN,gU]
    obtain⟨bw,bh,rfl,h⟩:=aI.o.1.el (k:=k) a9 HK.o;generalize P.getD k 0=F at h HO HE;exact xar
   have a9:k<l/\k<X/\k<f:=by have:=au.o;subst J;simp[jm,eY,cnt,lenB]at this;omega
   have aq:tv op=3:=by subst J;rfl
   rw[aq]at cC;have HO:V _:=λW=>Fe op (P.getD k 0) (az.getD k 0) (aB.getD k 0) W (g k) (t k) (G k) ad;have HE:V (wN op (P.getD k 0) (az.getD k 0) (aB.getD k 0)=gU op C K P az aB k):=by show _=_;subst J;simp[wN,gU]
   obtain⟨bw,bh,rfl,h⟩:=aI.o.1.el (k:=k) a9.1 HK.o;obtain⟨aY,aP,rfl,x⟩:=aI.o.2.1.el (k:=k) a9.2.1 HK.o;obtain⟨cg,bz,rfl,O⟩:=aI.o.2.2.el (k:=k) a9.2.2 HK.o;generalize P.getD k 0=F at h HO HE;generalize az.getD k 0=Y at x HO HE;generalize aB.getD k 0=S at O HO HE;exact xar
  obtain rfl:k=n:=xaa;have U:V _:=Grow.done bv.o B bf.o;clear bv;go_wp2;go_ret;exact U.o
def fld(v:Vl)(k:Nat):Int:=if k=0 then v.a else if k=1 then v.b else v.c
theorem lW(w v)(k:Nat)(N:k<3):
  Calls prog 49 #[v.agg,hD k] w λe I=>e=.returned (hD (fld v k))/\Kept 0 0 w I:=by
 rcases (by omega:k=0\/k=1\/k=2) with rfl|rfl|rfl
 all_goals
  go_enter func49,ntmps49
  go_wp2
  go_ret
  exact⟨rfl,ez _ _ _ _⟩
theorem AL(w lo hi a n cap xs)(f:IS w lo hi a n xs)(hn:n<=20):
  Calls prog 43 #[.slice a n cap] w λe I=>e=.returned (.bool (xs.all lenB))/\Kept 0 0 w I:=by
 have aI:V _:=f;have HL:V (xs.length=n):=f.len;clear f;go_enter func43,ntmps43;go_wp2_with fail;go_loop [3] (λi=>∃k:Nat,k<=n/\i=hD k/\V ((xs.take k).all lenB=true)) (λi=>n-(intOf i).toNat)
 case atStart=>exact⟨0,yae,rfl,rfl⟩
 case round=>
  obtain⟨k,N,rfl,aU⟩:=hrel;by_cases aC:k<n
  ·rcases aI.o.at_ with bC|⟨bw,bh,b4,aN,a2,bk,bq⟩
   ·omega
   have c:=bq k aC;subst b4;clear aN a2 bk bq;cases ak:lenB (xs.getD k 0)
   ·have U:V (xs.all lenB=false):=oB (hO HL.o aC) ak;have ah:¬(1<=xs.getD k 0/\xs.getD k 0<=1000):=of_decide_eq_false ak;generalize xs.getD k 0=y at c ah;clear ak aU;by_cases bX:y<1
    ·exact xjj
    have d5:1000<y:=xaa;exact xjj
   have U:V _:=mU (p:=lenB) (hO HL.o aC) aU.o ak;have ah:1<=xs.getD k 0/\xs.getD k 0<=1000:=of_decide_eq_true ak;generalize xs.getD k 0=y at c ah;obtain⟨cr,cb⟩:=ah;exact xhe
  have U:V (xs.all lenB=true):=by
   exact xfj
  clear aU;go_wp2;go_ret;exact⟨hS U.o,Kept.refl _ _ _⟩
theorem uO(w a n cap)(hn:20<n):
  Calls prog 43 #[.slice a n cap] w λe I=>e=.returned (.bool false)/\Kept 0 0 w I:=by
 go_enter func43,ntmps43;go_wp2;go_ret;exact⟨rfl,Kept.refl _ _ _⟩
theorem BV(w lo hi a n cap xs)(f:IS w lo hi a n xs):
  Calls prog 43 #[.slice a n cap] w λe I=>e=.returned (.bool (decide (n<=20)&&xs.all lenB))/\Kept 0 0 w I:=by
 by_cases h:n<=20
 ·rw[decide_eq_true h,Bool.true_and];exact AL w lo hi a n cap xs f h
 rw[yay h,Bool.false_and];exact uO w a n cap xaa
theorem BW(w a1 Y a3 n1 c1 T c2 n3 c3 ins vs outs)(f:GS w a1 n1 Y T a3 n3 ins vs outs)(J:T<=2000)(ab:∀k,k<T->1<=(vs.getD k hI).len/\(vs.getD k hI).len<=1000):
  Calls prog 45 #[eV a1 n1 c1 Y T c2 a3 n3 c3] w λe I=>e=.returned (hD (fd vs))/\Kept 0 0 w I:=by
 have aw:=ez 0 0 w (eW a1 n1 c1 Y T c2 a3 n3 c3);have aS:=ft w (.slice a1 n1 c1) (.slice Y T c2) (.slice a3 n3 c3);have aI:V _:=f.keep aw;have HL:V _:=f.v.len;have bL:V _:=ab;clear f ab aw;go_enter func45,ntmps45;go_wp2_with fail;go_loop [3,4] (λc i=>∃k:Nat,k<=T/\i=hD k/\c=hD (fd (vs.take k))/\V (0<=fd (vs.take k)/\fd (vs.take k)<=1000*k)) (λ_ i=>T-(intOf i).toNat)
 case atStart=>exact⟨0,yae,rfl,rfl,by constructor<;>simp[fd]⟩
 case round=>
  obtain⟨k,N,rfl,rfl,hb⟩:=hrel;by_cases aC:k<T
  ·rcases aI.o.v.at_ with bC|⟨bw,bh,b4,aN,a2,bk,bq⟩
   ·omega
   have c:=(bq k aC).c1;have co:V _:=mF (hO HL.o aC);have Z:V _:=bL.o k aC;subst b4;clear aN a2 bk bq;generalize vs.getD k _=v at c co Z;have c9:-1000000000<=fd (vs.take k)+v.len:=hN hb.o Z.o
   have cg:fd (vs.take k)+v.len<=1000000000:=hN hb.o Z.o
   have u:V (0<=fd (vs.take (k+1))/\fd (vs.take (k+1))<=1000*(k+1:Nat)):=by
    exact xji
   generalize Q:fd _=bK at c9 cg co;clear hb Q;go_wp2;go_round
   case rel=>exact⟨k+1,by omega,by go_num,by rw[co.o],u⟩
   case measure=>simp[intOf];omega
  have U:V (fd (vs.take k)=fd vs):=by
   show fd (vs.take k)=fd vs;rw[yap (hR HL.o)]
  clear hb;go_wp2;go_ret;exact⟨by rw[<-U.o];rfl,ez _ _ _ _⟩
