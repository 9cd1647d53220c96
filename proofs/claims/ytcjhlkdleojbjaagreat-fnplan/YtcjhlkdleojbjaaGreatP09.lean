import Derived.Test.YtcjhlkdleojbjaaGreatP06
import Derived.Test.YtcjhlkdleojbjaaGreatP07
namespace Go.Proofs.Z
open Tryz
set_option maxRecDepth 1000000
set_option maxHeartbeats 0
open Go.RowKit Flt
attribute[local go_sem] eF eE eD
variable{aA I:World}{k n z:Nat}{q:Nat->Nat}{v:Value}
theorem Gp(op w)(al:0<=op)(F:op<=13):Calls prog 82 #[hA op] w λe B=>e=.returned (.bool (uV op))/\w=B:=
 (FE op w al F).mono λ_ _ h=>⟨h.1,h.2.symm⟩
theorem qp(op w)(al:0<=op)(F:op<=13):Calls prog 51 #[hA op] w λe B=>e=.returned (hA (sQ op:Nat))/\w=B:=
 (lO op w al F).mono λ_ _ h=>⟨h.1,h.2.symm⟩
def Grow(w1:World)(k:Nat)(q:Nat->Nat)(v:Value)(W:World):Prop:=
 ∃zs:List Nat,W.ownsRow w1.heap.size 57 1 v k (zs.map (Value.float .f64))/\zs.length=k/\(∀z∈zs,z<18446744073709551616)/\(∀j,j<k->fb (zs.getD j 0)=fb (q j))/\Kept 0 0 w1 W
theorem A7(aA q):Grow aA 0 q (.slice none 0 0) aA:=
 ⟨[],yaw _ _ _ _,rfl,by simp,λj hj=>by omega,Kept.refl _ _ _⟩
theorem Grow.kept{W}(h:Grow aA k q v W):Kept 0 0 aA W:=by
 obtain⟨_,_,_,_,_,h⟩:=h;exact h
theorem DC{base e size:Nat}{xs W}(h:W.ownsRow base e size v n xs)(d:Drawn W I):I.ownsRow base e size v n xs:=by
 obtain⟨m,rfl⟩:=d;exact h
theorem Grow.step{W}{zs:List Nat}
  (a6:W.ownsRow aA.heap.size 57 1 v k (zs.map (Value.float .f64))) (af:zs.length=k) (aG:∀z∈zs,z<18446744073709551616) (ap:∀j,j<k->fb (zs.getD j 0)=fb (q j)) (aI:Kept 0 0 aA W)
  (bv:z<18446744073709551616) (f:fb z=fb (q k)) {v'}{B}{o}
  (e:B.ownsRow aA.heap.size 57 1 v' (k+1) (zs.map (Value.float .f64)++[Value.float .f64 z])) (aJ:(W.alloc o).grownBy B v.ownBlock):Grow aA (k+1) q v' B:=by
 refine⟨zs++[z],by rw[List.map_append];exact e,by simp[af],?_,?_,?_⟩
 ·intro x an;rcases List.mem_append.1 an with c|c
  ·exact aG x c
  simp at c;rw[c];exact bv
 ·intro j hj;rw[yai,List.getElem?_append];by_cases c:j<zs.length
  ·rw[hD c,<-yai];exact ap j xaa
  rw[hC c,show j-zs.length=0 by omega];have:j=k:=xaa;subst this;exact f
 refine⟨aJ.os.trans aI.os,aJ.tape.trans aI.tape,aJ.output.trans aI.output,?_,λi hi _=>?_⟩
 ·have:=aJ.size;have N:=aI.size;simp at this;omega
 have N:=aI.size;rw[aJ.block i yag (λc=>hJ (a6.lt i c.symm)),Below.heap_alloc W o i xaa];exact aI.block i hi xaa
def KS(n:Nat)(q:Nat->Nat)(w:World)(e:Ending)(w':World):Prop:=
 ∃(a:Option Addr) (cap:Nat) (zs:List Nat),e=.returned (.slice a n cap)/\FS w' w.heap.size w'.heap.size a n zs/\(∀k,k<n->fb (zs.getD k 0)=fb (q k))/\Kept 0 0 w w'/\n<=cap
theorem Grow.done{w W}(h:Grow aA n q v W)(F:1<=n)(O:Kept 0 0 w aA):KS n q w (.returned v) W:=by
 obtain⟨zs,⟨_,ho⟩,N,h3,a6,bF⟩:=h;rcases ho with⟨_,c⟩|⟨g,cap,av,rfl,R,aS,aa,_,b7,ba⟩
 ·omega
 have au:w.heap.size<=g:=hJ O.size
 have aJ:g<W.heap.size:=by
  exact xgw
 refine⟨_,_,_,rfl,⟨N,h3,.inr ⟨g,0,rfl,au,aJ,aJ,λk u=>?_⟩⟩,a6,O.trans bF,aa⟩;rw[cell_of_row W g _ _ _ _ aS,Nat.zero_add,<-Array.getElem?_toList];have:(av.toList.take (n*1))[k]? =(zs.map (Value.float .f64))[k]?:=by rw[ba]
 rw[List.getElem?_take_of_lt xaa]at this;rw[this,List.getElem?_map,yam (by omega:k<zs.length)];simp[List.getD_eq_getElem?_getD,List.getElem?_eq_getElem (by omega:k<zs.length)]
theorem tF(w op len A J C K a b c l bf Y bh cb bV)(au:i8 op len C l bf Y=false):
  Calls prog 54 #[lN op len A J C K,.slice a l bh,.slice b bf cb,.slice c Y bV] w λe B=>e=.returned (.slice none 0 0)/\Kept 0 0 w B:=by
 go_enter func54,ntmps54;go_wp2_with fail;refine(AQ _ _ _ A J C K _ _ _).mono ?_;rintro e B ⟨rfl,rfl⟩;rw[au];go_wp2;go_ret;exact⟨rfl,(ez 0 0 w _).trans (ez 0 0 _ _)⟩
theorem Grow.drawn{W}(h:Grow aA k q v W)(d:Drawn W I):Grow aA k q v I:=by
 obtain⟨zs,F,N,h3,a6,bF⟩:=h;exact⟨_,DC F d,N,h3,a6,bF.trans (d.kept 0 0)⟩
theorem gF{W}(bg:Grow aA k q v W)(O:k<1000)(bv:z<18446744073709551616/\fb z=fb (q k)){bz rest o a Q}(aG:o.guard=none)(s x)
  (ho:o.op=.call {callee:=.builtin .append,args:=#[s,x],argTypes:=#[55,55]}) (au:a.eval s=v) (an:a.eval x=hz W.heap.size 1 1)
  (h:∀v' B,Grow aA (k+1) q v' B->wpList prog bz Q rest (a.put o.dst v') B):wpList prog bz Q (o::rest) a (W.alloc (.cells #[.float .f64 z] 57)):=by
 obtain⟨bW,hi,b4,b3,b0⟩:=info_parts yx;obtain⟨zs,F,N,h3,a6,bF⟩:=bg;have:=bF.size;exact wpList_append_own _ aG s x _ ho _ _ _ _ 1 8 underlying55 hi b4 b3 b0 rfl xab _ _ _ au (F.alloc _) _ 1 1 _ an rfl (cell_one_new _ _ _) (by intro u aB;simp at aB;subst aB;rfl) (by unfold maxLen;omega) xaa yag λv' B bp aj _=>h _ _ (Grow.step F N h3 a6 bF bv.1 bv.2 bp aj)
theorem uK(w op A J C)(n K:Nat)(b9:1<=op/\op<=13)(F:1<=n)(ad:n<=1000)(aI:K<18446744073709551616){bB aO b8 bb cg cA a b c l bf Y bh cb bV P Q X}
  (aK:FS w bB aO a l P) (bd:FS w b8 bb b bf Q) (j:FS w cg cA c Y X) (s:l<=bh) (au:i8 op (n:Int) C l bf Y=true):
  Calls prog 54 #[lN op (n:Int) A J C K,.slice a l bh,.slice b bf cb,.slice c Y bV] w λe B=>KS n (gD op C K P Q X) w e B:=by
 have HF:E _:=hB aK (hB bd j);have ai:E _:=(ez 0 0 w (fH op (n:Int) A J C K)).trans (ez 0 0 _ (fH op (n:Int) A J C K))
 have av:E (∀W,Kept 0 0 ((w.alloc (fH op (n:Int) A J C K)).alloc (fH op (n:Int) A J C K)) W->W.cell? ⟨w.heap.size,0,none⟩=some (hA op)/\W.cell? ⟨w.heap.size,1,none⟩=some (hA n)/\W.cell? ⟨w.heap.size,4,none⟩=some (hA C)/\W.cell? ⟨w.heap.size,5,none⟩=some (.float .f64 K)):=λW q=>by
  have bs:w.heap.size<((w.alloc (fH op (n:Int) A J C K)).alloc (fH op (n:Int) A J C K)).heap.size:=by simp;omega
  exact⟨iD q bs xac,iD q bs xac,iD q bs xac,iD q bs xac⟩
 obtain⟨_,aH,_,_⟩:=av.o _ hI;have g:E _:=λw=>Gp op w xaa xaa;have ct:E _:=λw=>qp op w xaa xaa;have HL:E _:=AQ (w.alloc (fH op (n:Int) A J C K)) op (n:Int) A J C K l bf Y;have ao:E _:=au;rw[au]at HL;clear aK bd j au;go_enter func54,ntmps54;go_wp2_with fail;refine yaj HL.o ?_;rintro e B ⟨rfl,rfl⟩;clear HL;go_wp2_with fail;have aa:E _:=A7 ((w.alloc (fH op (n:Int) A J C K)).alloc (fH op (n:Int) A J C K)) (gD op C K P Q X);clear aH;generalize (w.alloc (fH op (n:Int) A J C K)).alloc (fH op (n:Int) A J C K)=aA at av ai aa⊢;go_loopw [9,10,11,12,13,14] (λv i _ _ _ _ W=>∃k:Nat,k<=n/\i=hA k/\E (Grow aA k (gD op C K P Q X) v W)) (λ_ i _ _ _ _ _=>n-(intOf i).toNat)
 case atStart=>exact⟨0,yae,rfl,aa⟩
 case round=>
  obtain⟨k,O,rfl,bg⟩:=hrel;clear aa;obtain⟨bS,aH,bC,bZ⟩:=av.o _ (Grow.kept bg.o);have HK:E _:=ai.o.trans (Grow.kept bg.o);by_cases aG:k<n
  ·have ca:k<1000:=xaa;have f:=gI HF.o.1.lt;cases aZ:uV op
   ·rw[aZ]at g;have ah:op=1\/op=9\/op=10\/op=11\/op=12:=by have:=of_decide_eq_false aZ;omega
    clear aZ ct;rcases ah with rfl|rfl|rfl|rfl|rfl
    ·have b2:E (K<18446744073709551616/\fb K=fb (gD 1 C K P Q X k)):=⟨aI,by simp[gD]⟩
     exact xbu
    ·have a5:n<=1/\1<=l/\l<=1000:=by have:=ao.o;simp[i8,eV,cnt,lenB]at this;omega
     go_wp2_with (go_at_call 82;refine yaj (g.o _) ?_;rintro e ag ⟨rfl,rfl⟩);refine yaj (Pm _ l a5.2.1 a5.2.2 (HF.o.1.keep HK.o yaa) s) ?_;rintro e ag ⟨u,rfl,aB,h,bl⟩;have b2:E (u<18446744073709551616/\fb u=fb (gD 9 C K P Q X k)):=⟨aB,by rw[h];simp[gD]⟩
     replace bg:E _:=Grow.drawn bg.o bl;clear aB h f bl;exact xah
    ·have a5:0<l:=by have:=ao.o;simp[i8,eV,cnt,lenB]at this;omega
     obtain⟨az,bv,rfl,bz⟩:=HF.o.1.el a5 HK.o;rw[Nat.add_zero]at bz;have b2:E (_/\fb (P.getD 0 0)=fb (gD 10 C K P Q X k)):=⟨f 0,by simp[gD]⟩
     generalize P.getD 0 0=u0 at bz b2;exact xbu
    ·obtain⟨p,rfl,a5⟩:∃p:Nat,C=p/\p<l:=⟨C.toNat,by have:=ao.o;simp[i8,eV,cnt,lenB,fR]at this;omega⟩
     obtain⟨az,bv,rfl,bz⟩:=HF.o.1.el a5 HK.o;have b2:E (_/\fb (P.getD p 0)=fb (gD 11 p K P Q X k)):=⟨f p,by simp[gD]⟩
     generalize P.getD p 0=u0 at bz b2;exact xbu
    obtain⟨p,rfl,a5⟩:∃p:Nat,C=p/\0<l:=⟨C.toNat,by have:=ao.o;simp[i8,eV,cnt,lenB,fR]at this;omega⟩
    obtain⟨az,bv,rfl,bz⟩:=HF.o.1.el a5 HK.o;rw[Nat.add_zero]at bz;by_cases r:k=p
    ·have b2:E (_/\fb (P.getD 0 0)=fb (gD 12 p K P Q X k)):=⟨f 0,by simp[gD,r]⟩
     have b5:((k:Int)==p)=true:=beq_iff_eq.2 xaa;generalize P.getD 0 0=u0 at bz b2;clear f r;exact xah
    have b2:E (0<18446744073709551616/\fb 0=fb (gD 12 p K P Q X k)):=⟨by decide,by simp[gD,r]⟩
    have b5:((k:Int)==p)=false:=yan xaa;clear f r bz;exact xah
   rw[aZ]at g;have ah:op=2\/op=3\/op=4\/op=5\/op=6\/op=7\/op=8\/op=13:=hJ (of_decide_eq_true aZ)
   have m:=gI HF.o.2.1.lt;have S:=gI HF.o.2.2.lt;rcases (by omega:(op=2\/op=3\/op=4\/op=5\/op=7)\/(op=6\/op=13)\/op=8) with N|N|N
   ·have a5:k<l/\k<bf:=by have:=ao.o;rcases N with rfl|rfl|rfl|rfl|rfl<;>simp[i8,eV,cnt,lenB]at this<;>omega
    have am:sQ op=2:=by rcases N with rfl|rfl|rfl|rfl|rfl<;>rfl
    rw[am]at ct;have HO:E _:=λW=>FF op (P.getD k 0) (Q.getD k 0) 0 W (f k) (m k) xab ah;have HE:E (wC op (P.getD k 0) (Q.getD k 0) 0=gD op C K P Q X k):=by show _=_;rcases N with rfl|rfl|rfl|rfl|rfl<;>simp[wC,gD]
    obtain⟨az,bv,rfl,o⟩:=HF.o.1.el (k:=k) a5.1 HK.o;obtain⟨bX,bU,rfl,x⟩:=HF.o.2.1.el (k:=k) a5.2 HK.o;generalize P.getD k 0=ak at o HO HE;generalize Q.getD k 0=aq at x HO HE;exact xap
   ·have a5:k<l:=by have:=ao.o;rcases N with rfl|rfl<;>simp[i8,eV,cnt,lenB]at this<;>omega
    have am:sQ op=1:=by rcases N with rfl|rfl<;>rfl
    rw[am]at ct;have HO:E _:=λW=>FF op (P.getD k 0) 0 0 W (f k) xab xab ah;have HE:E (wC op (P.getD k 0) 0 0=gD op C K P Q X k):=by show _=_;rcases N with rfl|rfl<;>simp[wC,gD]
    obtain⟨az,bv,rfl,o⟩:=HF.o.1.el (k:=k) a5 HK.o;generalize P.getD k 0=ak at o HO HE;exact xap
   have a5:k<l/\k<bf/\k<Y:=by have:=ao.o;subst N;simp[i8,eV,cnt,lenB]at this;omega
   have am:sQ op=3:=by subst N;rfl
   rw[am]at ct;have HO:E _:=λW=>FF op (P.getD k 0) (Q.getD k 0) (X.getD k 0) W (f k) (m k) (S k) ah;have HE:E (wC op (P.getD k 0) (Q.getD k 0) (X.getD k 0)=gD op C K P Q X k):=by show _=_;subst N;simp[wC,gD]
   obtain⟨az,bv,rfl,o⟩:=HF.o.1.el (k:=k) a5.1 HK.o;obtain⟨bX,bU,rfl,x⟩:=HF.o.2.1.el (k:=k) a5.2.1 HK.o;obtain⟨aS,br,rfl,y⟩:=HF.o.2.2.el (k:=k) a5.2.2 HK.o;generalize P.getD k 0=ak at o HO HE;generalize Q.getD k 0=aq at x HO HE;generalize X.getD k 0=aR at y HO HE;exact xap
  obtain rfl:k=n:=xaa;have H:E _:=Grow.done bg.o F ai.o;clear bg;go_wp2;go_ret;exact H.o
def fld(v:Vl)(k:Nat):Int:=if k=0 then v.a else if k=1 then v.b else v.c
theorem mj(w v)(k:Nat)(O:k<3):
  Calls prog 52 #[v.agg,hA k] w λe B=>e=.returned (hA (fld v k))/\Kept 0 0 w B:=by
 rcases (by omega:k=0\/k=1\/k=2) with rfl|rfl|rfl
 all_goals
  go_enter func52,ntmps52
  go_wp2
  go_ret
  exact⟨rfl,ez _ _ _ _⟩
theorem A8(w lo hi a n cap xs)(f:IS w lo hi a n xs)(ad:n<=20):
  Calls prog 18 #[.slice a n cap] w λe B=>e=.returned (.bool (xs.all lenB))/\Kept 0 0 w B:=by
 have HF:E _:=f;have HL:E (xs.length=n):=f.len;clear f;go_enter func18,ntmps18;go_wp2_with fail;go_loop [3] (λi=>∃k:Nat,k<=n/\i=hA k/\E ((xs.take k).all lenB=true)) (λi=>n-(intOf i).toNat)
 case atStart=>exact⟨0,yae,rfl,rfl⟩
 case round=>
  obtain⟨k,O,rfl,a2⟩:=hrel;by_cases aG:k<n
  ·rcases HF.o.at_ with bD|⟨az,bv,b5,aQ,a8,bi,bk⟩
   ·omega
   have c:=bk k aG;subst b5;clear aQ a8 bi bk;cases an:lenB (xs.getD k 0)
   ·have H:E (xs.all lenB=false):=mF (hL HL.o aG) an;have aj:¬(1<=xs.getD k 0/\xs.getD k 0<=1000):=of_decide_eq_false an;generalize xs.getD k 0=y at c aj;clear an a2;by_cases bN:y<1
    ·exact xio
    have bP:1000<y:=xaa;exact xio
   have H:E _:=lG (p:=lenB) (hL HL.o aG) a2.o an;have aj:1<=xs.getD k 0/\xs.getD k 0<=1000:=of_decide_eq_true an;generalize xs.getD k 0=y at c aj;obtain⟨cA,b4⟩:=aj;exact xgr
  have H:E (xs.all lenB=true):=by
   exact xey
  clear a2;go_wp2;go_ret;exact⟨hO H.o,Kept.refl _ _ _⟩
theorem uL(w a n cap)(ad:20<n):
  Calls prog 18 #[.slice a n cap] w λe B=>e=.returned (.bool false)/\Kept 0 0 w B:=by
 go_enter func18,ntmps18;go_wp2;go_ret;exact⟨rfl,Kept.refl _ _ _⟩
theorem Ca(w lo hi a n cap xs)(f:IS w lo hi a n xs):
  Calls prog 18 #[.slice a n cap] w λe B=>e=.returned (.bool (decide (n<=20)&&xs.all lenB))/\Kept 0 0 w B:=by
 by_cases h:n<=20
 ·rw[decide_eq_true h,Bool.true_and];exact A8 w lo hi a n cap xs f h
 rw[yay h,Bool.false_and];exact uL w a n cap xaa
theorem Cb(w a1 U a3 Z c1 n2 c2 ab c3 ins vs outs)(f:GS w a1 Z U n2 a3 ab ins vs outs)(N:n2<=2000)(af:∀k,k<n2->1<=(vs.getD k hF).len/\(vs.getD k hF).len<=1000):
  Calls prog 20 #[eZ a1 Z c1 U n2 c2 a3 ab c3] w λe B=>e=.returned (hA (eU vs))/\Kept 0 0 w B:=by
 have aI:=ez 0 0 w (e9 a1 Z c1 U n2 c2 a3 ab c3);have aT:=fB w (.slice a1 Z c1) (.slice U n2 c2) (.slice a3 ab c3);have HF:E _:=f.keep aI;have HL:E _:=f.v.len;have bH:E _:=af;clear f af aI;go_enter func20,ntmps20;go_wp2_with fail;go_loop [3,4] (λc i=>∃k:Nat,k<=n2/\i=hA k/\c=hA (eU (vs.take k))/\E (0<=eU (vs.take k)/\eU (vs.take k)<=1000*k)) (λ_ i=>n2-(intOf i).toNat)
 case atStart=>exact⟨0,yae,rfl,rfl,by constructor<;>simp[eU]⟩
 case round=>
  obtain⟨k,O,rfl,rfl,hb⟩:=hrel;by_cases aG:k<n2
  ·rcases HF.o.v.at_ with bD|⟨az,bv,b5,aQ,a8,bi,bk⟩
   ·omega
   have c:=(bk k aG).c1;have b2:E _:=me (hL HL.o aG);have bg:E _:=bH.o k aG;subst b5;clear aQ a8 bi bk;generalize vs.getD k _=v at c b2 bg;have cI:-1000000000<=eU (vs.take k)+v.len:=hK hb.o bg.o
   have ch:eU (vs.take k)+v.len<=1000000000:=hK hb.o bg.o
   have aU:E (0<=eU (vs.take (k+1))/\eU (vs.take (k+1))<=1000*(k+1:Nat)):=by
    exact xil
   generalize G:eU _=bV at cI ch b2;clear hb G;go_wp2;go_round
   case rel=>exact⟨k+1,by omega,by go_num,by rw[b2.o],aU⟩
   case measure=>simp[intOf];omega
  have H:E (eU (vs.take k)=eU vs):=by
   show eU (vs.take k)=eU vs;rw[yap (hN HL.o)]
  clear hb;go_wp2;go_ret;exact⟨by rw[<-H.o];rfl,ez _ _ _ _⟩
