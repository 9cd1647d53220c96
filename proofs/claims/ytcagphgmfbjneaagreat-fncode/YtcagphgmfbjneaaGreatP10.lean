import Derived.Test.YtcagphgmfbjneaaGreatP08
import Derived.Test.YtcagphgmfbjneaaGreatP09
namespace Go.Proofs.Z
open Tryz
set_option maxRecDepth 1000000
set_option maxHeartbeats 0
open Go.RowKit Flt
attribute[local go_sem] eE eD eC
variable{aH H:World}{k n z:Nat}{q:Nat->Nat}{v:Value}
theorem F3(op w)(ak:0<=op)(F:op<=13):Calls prog 68 #[h1 op] w λe B=>e=.returned (.bool (ud op))/\w=B:=
 (Br op w ak F).mono λ_ _ h=>⟨h.1,h.2.symm⟩
theorem qH(op w)(ak:0<=op)(F:op<=13):Calls prog 19 #[h1 op] w λe B=>e=.returned (h1 (sI op:Nat))/\w=B:=
 (jr op w ak F).mono λ_ _ h=>⟨h.1,h.2.symm⟩
def Grow(w1:World)(k:Nat)(q:Nat->Nat)(v:Value)(W:World):Prop:=
 ∃zs:List Nat,W.ownsRow w1.heap.size 45 1 v k (zs.map (Value.float .f64))/\zs.length=k/\(∀z∈zs,z<18446744073709551616)/\(∀j,j<k->fb (zs.getD j 0)=fb (q j))/\Kept 0 0 w1 W
theorem uj(aH q):Grow aH 0 q (.slice none 0 0) aH:=
 ⟨[],yaw _ _ _ _,rfl,by simp,λj hj=>by omega,Kept.refl _ _ _⟩
theorem Grow.kept{W}(h:Grow aH k q v W):Kept 0 0 aH W:=by
 obtain⟨_,_,_,_,_,h⟩:=h;exact h
theorem DF{base e size:Nat}{xs W}(h:W.ownsRow base e size v n xs)(d:Drawn W H):H.ownsRow base e size v n xs:=by
 obtain⟨m,rfl⟩:=d;exact h
theorem Grow.step{W}{zs:List Nat}
  (bq:W.ownsRow aH.heap.size 45 1 v k (zs.map (Value.float .f64))) (ai:zs.length=k) (hlt:∀z∈zs,z<18446744073709551616) (aA:∀j,j<k->fb (zs.getD j 0)=fb (q j)) (aG:Kept 0 0 aH W)
  (a5:z<18446744073709551616) (d:fb z=fb (q k)) {v'}{B}{o}
  (a:B.ownsRow aH.heap.size 45 1 v' (k+1) (zs.map (Value.float .f64)++[Value.float .f64 z])) (aK:(W.alloc o).grownBy B v.ownBlock):Grow aH (k+1) q v' B:=by
 refine⟨zs++[z],by rw[List.map_append];exact a,by simp[ai],?_,?_,?_⟩
 ·intro x ap;rcases List.mem_append.1 ap with c|c
  ·exact hlt x c
  simp at c;rw[c];exact a5
 ·intro j hj;rw[yai,List.getElem?_append];by_cases c:j<zs.length
  ·rw[h7 c,<-yai];exact aA j xaa
  rw[h6 c,show j-zs.length=0 by omega];have:j=k:=xaa;subst this;exact d
 refine⟨aK.os.trans aG.os,aK.tape.trans aG.tape,aK.output.trans aG.output,?_,λi hi _=>?_⟩
 ·have:=aK.size;have h2:=aG.size;simp at this;omega
 have h2:=aG.size;rw[aK.block i yag (λc=>ix (bq.lt i c.symm)),Below.heap_alloc W o i xaa];exact aG.block i hi xaa
def KS(n:Nat)(q:Nat->Nat)(w:World)(e:Ending)(w':World):Prop:=
 ∃(a:Option Addr) (cap:Nat) (zs:List Nat),e=.returned (.slice a n cap)/\FS w' w.heap.size w'.heap.size a n zs/\(∀k,k<n->fb (zs.getD k 0)=fb (q k))/\Kept 0 0 w w'/\n<=cap
theorem Grow.done{w W}(h:Grow aH n q v W)(F:1<=n)(O:Kept 0 0 w aH):KS n q w (.returned v) W:=by
 obtain⟨zs,⟨_,ho⟩,h2,h3,h4,bK⟩:=h;rcases ho with⟨_,c⟩|⟨g,cap,ad,rfl,U,aV,aa,_,ct,bX⟩
 ·omega
 have aw:w.heap.size<=g:=ix O.size
 have aK:g<W.heap.size:=by
  exact xev
 refine⟨_,_,_,rfl,⟨h2,h3,.inr ⟨g,0,rfl,aw,aK,aK,λk G=>?_⟩⟩,h4,O.trans bK,aa⟩;rw[cell_of_row W g _ _ _ _ aV,Nat.zero_add,<-Array.getElem?_toList];have:(ad.toList.take (n*1))[k]? =(zs.map (Value.float .f64))[k]?:=by rw[bX]
 rw[List.getElem?_take_of_lt xaa]at this;rw[this,List.getElem?_map,yam (by omega:k<zs.length)];simp[List.getD_eq_getElem?_getD,List.getElem?_eq_getElem (by omega:k<zs.length)]
theorem uk(w op len A I C K a b c S X f bc cb aK)(aw:jQ op len C S X f=false):
  Calls prog 51 #[lK op len A I C K,.slice a S bc,.slice b X cb,.slice c f aK] w λe B=>e=.returned (.slice none 0 0)/\Kept 0 0 w B:=by
 go_enter func51,ntmps51;go_wp2_with fail;refine(xF _ _ _ A I C K _ _ _).mono ?_;rintro e B ⟨rfl,rfl⟩;rw[aw];go_wp2;go_ret;exact⟨rfl,(eA 0 0 w _).trans (eA 0 0 _ _)⟩
theorem Grow.drawn{W}(h:Grow aH k q v W)(d:Drawn W H):Grow aH k q v H:=by
 obtain⟨zs,F,h2,h3,h4,bK⟩:=h;exact⟨_,DF F d,h2,h3,h4,bK.trans (d.kept 0 0)⟩
theorem gj{W}(br:Grow aH k q v W)(O:k<1000)(a5:z<18446744073709551616/\fb z=fb (q k)){bW rest o a Q}(au:o.guard=none)(s x)
  (ho:o.op=.call {callee:=.builtin .append,args:=#[s,x],argTypes:=#[56,56]}) (aw:a.eval s=v) (ap:a.eval x=h0 W.heap.size 1 1)
  (h:∀v' B,Grow aH (k+1) q v' B->wpList prog bW Q rest (a.put o.dst v') B):wpList prog bW Q (o::rest) a (W.alloc (.cells #[.float .f64 z] 45)):=by
 obtain⟨b1,hi,hz0,hz1,hz2⟩:=info_parts vH;obtain⟨zs,F,h2,h3,h4,bK⟩:=br;have:=bK.size;exact wpList_append_own _ au s x _ ho _ _ _ _ 1 8 underlying56 hi hz0 hz1 hz2 rfl xab _ _ _ aw (F.alloc _) _ 1 1 _ ap rfl (cell_one_new _ _ _) (by intro u a6;simp at a6;subst a6;rfl) (by unfold maxLen;omega) xaa yag λv' B b3 bZ _=>h _ _ (Grow.step F h2 h3 h4 bK a5.1 a5.2 b3 bZ)
theorem vx(w op A I C)(n K:Nat)(b4:1<=op/\op<=13)(F:1<=n)(ag:n<=1000)(aG:K<18446744073709551616){bQ t b6 ak cf cC a b c S X f bc cb aK l N P}
  (aN:FS w bQ t a S l) (aO:FS w b6 ak b X N) (y:FS w cf cC c f P) (Z:S<=bc) (aw:jQ op (n:Int) C S X f=true):
  Calls prog 51 #[lK op (n:Int) A I C K,.slice a S bc,.slice b X cb,.slice c f aK] w λe B=>KS n (gS op C K l N P) w e B:=by
 have aD:V _:=h5 aN (h5 aO y);have G:V _:=(eA 0 0 w (fW op (n:Int) A I C K)).trans (eA 0 0 _ (fW op (n:Int) A I C K))
 have T:V (∀W,Kept 0 0 ((w.alloc (fW op (n:Int) A I C K)).alloc (fW op (n:Int) A I C K)) W->W.cell? ⟨w.heap.size,0,none⟩=some (h1 op)/\W.cell? ⟨w.heap.size,1,none⟩=some (h1 n)/\W.cell? ⟨w.heap.size,4,none⟩=some (h1 C)/\W.cell? ⟨w.heap.size,5,none⟩=some (.float .f64 K)):=λW q=>by
  have bs:w.heap.size<((w.alloc (fW op (n:Int) A I C K)).alloc (fW op (n:Int) A I C K)).heap.size:=by simp;omega
  exact⟨iI q bs xac,iI q bs xac,iI q bs xac,iI q bs xac⟩
 obtain⟨_,aM,_,_⟩:=T.o _ iv;have j:V _:=λw=>F3 op w xaa xaa;have ca:V _:=λw=>qH op w xaa xaa;have HL:V _:=xF (w.alloc (fW op (n:Int) A I C K)) op (n:Int) A I C K S X f;have au:V _:=aw;rw[aw]at HL;clear aN aO y aw;go_enter func51,ntmps51;go_wp2_with fail;refine yaj HL.o ?_;rintro e B ⟨rfl,rfl⟩;clear HL;go_wp2_with fail;have ad:V _:=uj ((w.alloc (fW op (n:Int) A I C K)).alloc (fW op (n:Int) A I C K)) (gS op C K l N P);clear aM;generalize (w.alloc (fW op (n:Int) A I C K)).alloc (fW op (n:Int) A I C K)=aH at T G ad⊢;go_loopw [9,10,11,12,13,14] (λv i _ _ _ _ W=>∃k:Nat,k<=n/\i=h1 k/\V (Grow aH k (gS op C K l N P) v W)) (λ_ i _ _ _ _ _=>n-(intOf i).toNat)
 case atStart=>exact⟨0,yae,rfl,ad⟩
 case round=>
  obtain⟨k,O,rfl,br⟩:=hrel;clear ad;obtain⟨bR,aM,r,aC⟩:=T.o _ (Grow.kept br.o);have HK:V _:=G.o.trans (Grow.kept br.o);by_cases hlt:k<n
  ·have bU:k<1000:=xaa;have g:=gh aD.o.1.lt;cases Y:ud op
   ·rw[Y]at j;have al:op=1\/op=9\/op=10\/op=11\/op=12:=by have:=of_decide_eq_false Y;omega
    clear Y ca;rcases al with rfl|rfl|rfl|rfl|rfl
    ·have HZ:V (K<18446744073709551616/\fb K=fb (gS 1 C K l N P k)):=⟨aG,by simp[gS]⟩
     exact xcb
    ·have ba:n<=1/\1<=S/\S<=1000:=by have:=au.o;simp[jQ,eQ,cnt,lenB]at this;omega
     go_wp2_with (go_at_call 68;refine yaj (j.o _) ?_;rintro e am ⟨rfl,rfl⟩);refine yaj (PT _ S ba.2.1 ba.2.2 (aD.o.1.keep HK.o yaa) Z) ?_;rintro e am ⟨u,rfl,a6,h,bx⟩;have HZ:V (u<18446744073709551616/\fb u=fb (gS 9 C K l N P k)):=⟨a6,by rw[h];simp[gS]⟩
     replace br:V _:=Grow.drawn br.o bx;clear a6 h g bx;exact xaj
    ·have ba:0<S:=by have:=au.o;simp[jQ,eQ,cnt,lenB]at this;omega
     obtain⟨d,bL,rfl,bF⟩:=aD.o.1.el ba HK.o;rw[Nat.add_zero]at bF;have HZ:V (_/\fb (l.getD 0 0)=fb (gS 10 C K l N P k)):=⟨g 0,by simp[gS]⟩
     generalize l.getD 0 0=u0 at bF HZ;exact xcb
    ·obtain⟨p,rfl,ba⟩:∃p:Nat,C=p/\p<S:=⟨C.toNat,by have:=au.o;simp[jQ,eQ,cnt,lenB,gm]at this;omega⟩
     obtain⟨d,bL,rfl,bF⟩:=aD.o.1.el ba HK.o;have HZ:V (_/\fb (l.getD p 0)=fb (gS 11 p K l N P k)):=⟨g p,by simp[gS]⟩
     generalize l.getD p 0=u0 at bF HZ;exact xcb
    obtain⟨p,rfl,ba⟩:∃p:Nat,C=p/\0<S:=⟨C.toNat,by have:=au.o;simp[jQ,eQ,cnt,lenB,gm]at this;omega⟩
    obtain⟨d,bL,rfl,bF⟩:=aD.o.1.el ba HK.o;rw[Nat.add_zero]at bF;by_cases U:k=p
    ·have HZ:V (_/\fb (l.getD 0 0)=fb (gS 12 p K l N P k)):=⟨g 0,by simp[gS,U]⟩
     have b5:((k:Int)==p)=true:=beq_iff_eq.2 xaa;generalize l.getD 0 0=u0 at bF HZ;clear g U;exact xaj
    have HZ:V (0<18446744073709551616/\fb 0=fb (gS 12 p K l N P k)):=⟨by decide,by simp[gS,U]⟩
    have b5:((k:Int)==p)=false:=yan xaa;clear g U bF;exact xaj
   rw[Y]at j;have al:op=2\/op=3\/op=4\/op=5\/op=6\/op=7\/op=8\/op=13:=ix (of_decide_eq_true Y)
   have m:=gh aD.o.2.1.lt;have J:=gh aD.o.2.2.lt;rcases (by omega:(op=2\/op=3\/op=4\/op=5\/op=7)\/(op=6\/op=13)\/op=8) with h2|h2|h2
   ·have ba:k<S/\k<X:=by have:=au.o;rcases h2 with rfl|rfl|rfl|rfl|rfl<;>simp[jQ,eQ,cnt,lenB]at this<;>omega
    have ao:sI op=2:=by rcases h2 with rfl|rfl|rfl|rfl|rfl<;>rfl
    rw[ao]at ca;have HO:V _:=λW=>FV op (l.getD k 0) (N.getD k 0) 0 W (g k) (m k) xab al;have HE:V (xE op (l.getD k 0) (N.getD k 0) 0=gS op C K l N P k):=by show _=_;rcases h2 with rfl|rfl|rfl|rfl|rfl<;>simp[xE,gS]
    obtain⟨d,bL,rfl,x⟩:=aD.o.1.el (k:=k) ba.1 HK.o;obtain⟨aa,aZ,rfl,ab⟩:=aD.o.2.1.el (k:=k) ba.2 HK.o;generalize l.getD k 0=af at x HO HE;generalize N.getD k 0=ah at ab HO HE;exact xas
   ·have ba:k<S:=by have:=au.o;rcases h2 with rfl|rfl<;>simp[jQ,eQ,cnt,lenB]at this<;>omega
    have ao:sI op=1:=by rcases h2 with rfl|rfl<;>rfl
    rw[ao]at ca;have HO:V _:=λW=>FV op (l.getD k 0) 0 0 W (g k) xab xab al;have HE:V (xE op (l.getD k 0) 0 0=gS op C K l N P k):=by show _=_;rcases h2 with rfl|rfl<;>simp[xE,gS]
    obtain⟨d,bL,rfl,x⟩:=aD.o.1.el (k:=k) ba HK.o;generalize l.getD k 0=af at x HO HE;exact xas
   have ba:k<S/\k<X/\k<f:=by have:=au.o;subst h2;simp[jQ,eQ,cnt,lenB]at this;omega
   have ao:sI op=3:=by subst h2;rfl
   rw[ao]at ca;have HO:V _:=λW=>FV op (l.getD k 0) (N.getD k 0) (P.getD k 0) W (g k) (m k) (J k) al;have HE:V (xE op (l.getD k 0) (N.getD k 0) (P.getD k 0)=gS op C K l N P k):=by show _=_;subst h2;simp[xE,gS]
   obtain⟨d,bL,rfl,x⟩:=aD.o.1.el (k:=k) ba.1 HK.o;obtain⟨aa,aZ,rfl,ab⟩:=aD.o.2.1.el (k:=k) ba.2.1 HK.o;obtain⟨Q,cV,rfl,ai⟩:=aD.o.2.2.el (k:=k) ba.2.2 HK.o;generalize l.getD k 0=af at x HO HE;generalize N.getD k 0=ah at ab HO HE;generalize P.getD k 0=aj at ai HO HE;exact xas
  obtain rfl:k=n:=xaa;have R:V _:=Grow.done br.o F G.o;clear br;go_wp2;go_ret;exact R.o
def fld(v:Vl)(k:Nat):Int:=if k=0 then v.a else if k=1 then v.b else v.c
theorem nz(w v)(k:Nat)(O:k<3):
  Calls prog 102 #[v.agg,h1 k] w λe B=>e=.returned (h1 (fld v k))/\Kept 0 0 w B:=by
 rcases (by omega:k=0\/k=1\/k=2) with rfl|rfl|rfl
 all_goals
  go_enter func102,ntmps102
  go_wp2
  go_ret
  exact⟨rfl,eA _ _ _ _⟩
theorem Bu(w lo hi a n cap xs)(f:IS w lo hi a n xs)(ag:n<=20):
  Calls prog 17 #[.slice a n cap] w λe B=>e=.returned (.bool (xs.all lenB))/\Kept 0 0 w B:=by
 have aD:V _:=f;have HL:V (xs.length=n):=f.len;clear f;go_enter func17,ntmps17;go_wp2_with fail;go_loop [3] (λi=>∃k:Nat,k<=n/\i=h1 k/\V ((xs.take k).all lenB=true)) (λi=>n-(intOf i).toNat)
 case atStart=>exact⟨0,yae,rfl,rfl⟩
 case round=>
  obtain⟨k,O,rfl,be⟩:=hrel;by_cases hlt:k<n
  ·rcases aD.o.at_ with bP|⟨d,bL,bS,aR,bd,bu,bC⟩
   ·omega
   have c:=bC k hlt;subst bS;clear aR bd bu bC;cases ap:lenB (xs.getD k 0)
   ·have R:V (xs.all lenB=false):=ue (i1 HL.o hlt) ap;have aj:¬(1<=xs.getD k 0/\xs.getD k 0<=1000):=of_decide_eq_false ap;generalize xs.getD k 0=y at c aj;clear ap be;by_cases bp:y<1
    ·exact xiw
    have bo:1000<y:=xaa;exact xiw
   have R:V _:=rD (p:=lenB) (i1 HL.o hlt) be.o ap;have aj:1<=xs.getD k 0/\xs.getD k 0<=1000:=of_decide_eq_true ap;generalize xs.getD k 0=y at c aj;obtain⟨cw,cj⟩:=aj;exact xhg
  have R:V (xs.all lenB=true):=by
   exact xib
  clear be;go_wp2;go_ret;exact⟨i4 R.o,Kept.refl _ _ _⟩
theorem vy(w a n cap)(ag:20<n):
  Calls prog 17 #[.slice a n cap] w λe B=>e=.returned (.bool false)/\Kept 0 0 w B:=by
 go_enter func17,ntmps17;go_wp2;go_ret;exact⟨rfl,Kept.refl _ _ _⟩
theorem sY(w lo hi a n cap xs)(f:IS w lo hi a n xs):
  Calls prog 17 #[.slice a n cap] w λe B=>e=.returned (.bool (decide (n<=20)&&xs.all lenB))/\Kept 0 0 w B:=by
 by_cases h:n<=20
 ·rw[decide_eq_true h,Bool.true_and];exact Bu w lo hi a n cap xs f h
 rw[yay h,Bool.false_and];exact vy w a n cap xaa
theorem Cw(w a1 J a3 Z c1 ae c2 ab c3 ins vs outs)(f:GS w a1 Z J ae a3 ab ins vs outs)(h2:ae<=2000)(ai:∀k,k<ae->1<=(vs.getD k h9).len/\(vs.getD k h9).len<=1000):
  Calls prog 87 #[eX a1 Z c1 J ae c2 a3 ab c3] w λe B=>e=.returned (h1 (eZ vs))/\Kept 0 0 w B:=by
 have aG:=eA 0 0 w (fx a1 Z c1 J ae c2 a3 ab c3);have a7:=hH w (.slice a1 Z c1) (.slice J ae c2) (.slice a3 ab c3);have aD:V _:=f.keep aG;have HL:V _:=f.v.len;have bX:V _:=ai;clear f ai aG;go_enter func87,ntmps87;go_wp2_with fail;go_loop [3,4] (λc i=>∃k:Nat,k<=ae/\i=h1 k/\c=h1 (eZ (vs.take k))/\V (0<=eZ (vs.take k)/\eZ (vs.take k)<=1000*k)) (λ_ i=>ae-(intOf i).toNat)
 case atStart=>exact⟨0,yae,rfl,rfl,by constructor<;>simp[eZ]⟩
 case round=>
  obtain⟨k,O,rfl,rfl,hb⟩:=hrel;by_cases hlt:k<ae
  ·rcases aD.o.v.at_ with bP|⟨d,bL,bS,aR,bd,bu,bC⟩
   ·omega
   have c:=(bC k hlt).c1;have cw:V _:=oD (i1 HL.o hlt);have br:V _:=bX.o k hlt;subst bS;clear aR bd bu bC;generalize vs.getD k _=v at c cw br;have cW:-1000000000<=eZ (vs.take k)+v.len:=i0 hb.o br.o
   have bJ:eZ (vs.take k)+v.len<=1000000000:=i0 hb.o br.o
   have aW:V (0<=eZ (vs.take (k+1))/\eZ (vs.take (k+1))<=1000*(k+1:Nat)):=by
    have b5:=hb.o;have a0:=br.o;have b9:=cw.o;constructor<;>omega
   generalize l:eZ _=aK at cW bJ cw;clear hb l;go_wp2;go_round
   case rel=>exact⟨k+1,by omega,by go_num,by rw[cw.o],aW⟩
   case measure=>simp[intOf];omega
  have R:V (eZ (vs.take k)=eZ vs):=by
   show eZ (vs.take k)=eZ vs;rw[yap (i3 HL.o)]
  clear hb;go_wp2;go_ret;exact⟨by rw[<-R.o];rfl,eA _ _ _ _⟩
