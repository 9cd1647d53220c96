import Derived.Test.YtkjahdegnkmejaaGreatP02
import Derived.Test.YtkjahdegnkmejaaGreatP08
import Derived.Test.YtkjahdegnkmejaaGreatP07
namespace Go.Proofs.Z
variable{Zp:Prop}
open Tryz Go.RowKit Flt
set_option maxRecDepth 1000000
set_option maxHeartbeats 0
section
attribute[local go_sem] eE eC eB
variable{w F:World}{vs0 us:List Vl}{p g an j I o i:Nat}{s x:List UInt8}{v:Value}{ts:List Tok}
theorem E4{t k}(J:k<j-i):bt (kJ t i j) k=bt t (i+k):=by
 simp_all[bt,kJ]
def gX(t:List UInt8):List Int:=t.map λb=>(b.toNat:Int)
theorem qP(t k)(h:k<t.length):(gX t).getD k 0=bt t k:=by
 simp_all[gX,bt]
theorem E5(t):strOfNums (gX t)=⟨t.toArray⟩:=by
 simp_all[strOfNums,gX,List.map_congr_left]
theorem j8{n t}(f:TxS w g an n t)(c):(convert 22 9 (.slice (some ⟨g,an,none⟩) n c)).run prog w=.ok (eL t) w:=by
 have hb:prog.underlying 5=some (.int .u8):=by kernel_rfl
 have aw:prog.underlying 9=some .string:=by kernel_rfl
 have h:=run_convert_bytes_arg w 22 5 underlying22 hb g _ n c (gX t) (by unfold gX;rw[List.length_map];exact f.len) (λk J=>by rw[qP t k (jn f.len J)];exact f.at_ k J) 9 aw;rw[E5]at h;exact h
theorem TxS.cut{n t}(f:TxS w g an n t)(hj:j<=n):TxS w g (an+i) (j-i) (kJ t i j):=
 ⟨yh (jn f.len hj),f.lt,λk J=>by
  rw[E4 J,Nat.add_assoc]
  exact f.at_ _ xaa⟩
def nY:Array Value:=(keysL.map λl=>eL l).toArray
theorem E6(w):Calls prog 110 #[] w λe O=>e=.returned (ia w.heap.size 15 15)/\w.alloc (.cells nY 9)=O:=by
 go_enter func110,ntmps110;go_wp2;go_ret;exact⟨rfl,rfl⟩
def iS(k:Tok):Value:=.agg #[eL k.sym,.int .i64 (k.pos:Int),eL k.text]
def NxO(w:World)(k:Tok)(j:Nat)(e:Ending)(w':World):Prop:=e=.returned (.tuple #[iS k,.int .i64 (j:Int)])/\Kept 0 0 w w'
structure TB(W:World)(p:Nat)(s:List UInt8)(k:Nat)(x:List UInt8):Prop where
 lt:p<W.heap.size
 c0:W.cell? ⟨p,0,none⟩=some (eL s)
 c1:W.cell? ⟨p,1,none⟩=some (.int .i64 (k:Int))
 c2:W.cell? ⟨p,2,none⟩=some (eL x)
 fr:∀o,W.frozen? ⟨p,o,none⟩=false
theorem TB.keep{W k}(h:TB W p s k x)(q:Kept 0 0 W F):TB F p s k x:=
 ⟨yak h.lt q.size,(q.cell (p:=⟨p,0,none⟩) h.lt xaa).trans h.c0,(q.cell (p:=⟨p,1,none⟩) h.lt xaa).trans h.c1,(q.cell (p:=⟨p,2,none⟩) h.lt xaa).trans h.c2,λo=>(q.frozen (p:=⟨p,o,none⟩) h.lt xaa).trans (h.fr o)⟩
theorem TB.sym{W k}(h:TB W p s k x)(z):TB (W.setCell ⟨p,0,none⟩ (eL z)) p z k x:=
 ⟨by simpa using h.lt,fc _ _ _ _ _ h.c0,(eG _ _ _ _ _ _ (.inr xaa)).trans h.c1,(eG _ _ _ _ _ _ (.inr xaa)).trans h.c2,λo=>by simp[h.fr o]⟩
theorem TB.text{W k}(h:TB W p s k x)(z):TB (W.setCell ⟨p,2,none⟩ (eL z)) p s k z:=
 ⟨by simpa using h.lt,(eG _ _ _ _ _ _ (.inr xaa)).trans h.c0,(eG _ _ _ _ _ _ (.inr xaa)).trans h.c1,fc _ _ _ _ _ h.c2,λo=>by simp[h.fr o]⟩
theorem TB.posn{W k}(h:TB W p s k x)(z:Nat):TB (W.setCell ⟨p,1,none⟩ (ih z)) p s z x:=
 ⟨by simpa using h.lt,(eG _ _ _ _ _ _ (.inr xaa)).trans h.c0,fc _ _ _ _ _ h.c1,(eG _ _ _ _ _ _ (.inr xaa)).trans h.c2,λo=>by simp[h.fr o]⟩
theorem TB.other{W q k}(h:TB W p s k x)(am:q≠p):TB (W.setCell ⟨q,o,none⟩ v) p s k x:=
 ⟨by simpa using h.lt,(eG _ _ _ _ _ _ (.inl am)).trans h.c0,(eG _ _ _ _ _ _ (.inl am)).trans h.c1,(eG _ _ _ _ _ _ (.inl am)).trans h.c2,λo=>by simp[h.fr o]⟩
theorem gY(w:World)(s)(k:Nat)(x):TB (w.alloc (.cells #[eL s,ih k,eL x] 127)) w.heap.size s k x:=
 ⟨by simp,by rw[yav];rfl,by rw[yav];rfl,by rw[yav];rfl,λo=>World.frozen?_alloc_at _ _ w.heap.size o rfl⟩
theorem nZ{W}(k:Kept 0 0 w W)(h:w.heap.size<=p):Kept 0 0 w (W.setCell ⟨p,o,none⟩ v):=
 Chg.kept (S:=λi=>i=p) k ((eU (lo:=p) (hi:=p+1) W ⟨p,o,none⟩ v yac).chg1 rfl) (λi hi=>by omega)
structure NI(w W:World)(s:List UInt8)(k:Nat)(x:List UInt8):Prop where
 r:TB W w.heap.size [] 0 []
 t:TB W (w.heap.size+1) s k x
 k:Kept 0 0 w W
theorem NI.keep{W k}(h:NI w W s k x)(q:Kept 0 0 W F):NI w F s k x:=⟨h.r.keep q,h.t.keep q,h.k.trans q⟩
theorem NI.sym{W k}(h:NI w W s k x)(z):NI w (W.setCell ⟨w.heap.size+1,0,none⟩ (eL z)) z k x:=⟨h.r.other xaa,h.t.sym z,nZ h.k xaa⟩
theorem NI.text{W k}(h:NI w W s k x)(z):NI w (W.setCell ⟨w.heap.size+1,2,none⟩ (eL z)) s k z:=⟨h.r.other xaa,h.t.text z,nZ h.k xaa⟩
theorem AF(w)(i:Nat):NI w ((w.alloc (.cells #[eL [],ih (0:Nat),eL []] 127)).alloc (.cells #[eL [],ih i,eL []] 127)) [] i []:=by
 refine⟨(gY w _ 0 _).keep (eA 0 0 _ _),?_,(eA 0 0 w _).trans (eA 0 0 _ _)⟩;have h:=gY (w.alloc (.cells #[eL [],ih (0:Nat),eL []] 127)) [] i [];simp_all
theorem NI.fin{W k}(h:NI w W s k x):TB (((W.setCell ⟨w.heap.size,0,none⟩ (eL s)).setCell ⟨w.heap.size,1,none⟩ (ih k)).setCell ⟨w.heap.size,2,none⟩ (eL x)) w.heap.size s k x/\Kept 0 0 w (((W.setCell ⟨w.heap.size,0,none⟩ (eL s)).setCell ⟨w.heap.size,1,none⟩ (ih k)).setCell ⟨w.heap.size,2,none⟩ (eL x)):=
 ⟨((h.r.sym s).posn k).text x,nZ (nZ (nZ h.k yad) yad) yad⟩
def rn(s:List UInt8)(k:Nat):List UInt8:=if s∈keysL.take k then s else gz
theorem E7(W aK:World)(k)(J:k<15)(h:Kept 0 0 (aK.alloc (.cells nY 9)) W):W.cell? ⟨aK.heap.size,k,none⟩=some (eL (keysL.getD k [])):=by
 rw[h.cell xac xaa,yav];have ag:k<keysL.length:=J;show nY[k]? =_;unfold nY;simp_all
theorem CI{k}(J:k<15)(h:keysL.getD k []=s):rn s (k+1)=s:=by
 unfold rn;rw[iv];have ag:k<keysL.length:=J;exact xjr
theorem AG{k}(J:k<15)(h:keysL.getD k []≠s):rn s (k+1)=rn s k:=by
 unfold rn;have ag:k<keysL.length:=J;exact xgj
theorem E8{t}(B:j<t.length):gG pW t j=if nC (bt t j)=true\/dig (bt t j)=true then gG pW t (j+1)else j:=by
 grind[v8,pW,oG]
structure KI(w W:World)(B:Nat)(x:List UInt8)(i k:Nat):Prop where
 n:NI w W (rn x k) i x
 lt:B<W.heap.size
 ne:w.heap.size+1<B
 c:∀q,q<15->W.cell? ⟨B,q,none⟩=some (eL (keysL.getD q []))
theorem E9{W}(h:NI w W gz i x):KI w (W.alloc (.cells nY 9)) W.heap.size x i 0:=
 ⟨h.keep (eA 0 0 W _),by simp,h.t.lt,λq am=>E7 _ W q am i3⟩
theorem KI.keep{W k}(h:KI w W I x i k)(q:Kept 0 0 W F):KI w F I x i k:=
 ⟨h.n.keep q,yak h.lt q.size,h.ne,λj hj=>(q.cell (p:=⟨I,j,none⟩) h.lt xaa).trans (h.c j hj)⟩
theorem KI.hit{W k}(h:KI w W I x i k)(J:k<15)(e:keysL.getD k []=x):KI w (W.setCell ⟨w.heap.size+1,0,none⟩ (eL x)) I x i (k+1):=by
 refine⟨?_,by simpa using h.lt,h.ne,λj hj=>(eG _ _ _ _ _ _ (.inl (i4 h.ne))).trans (h.c j hj)⟩;rw[CI J e];exact h.n.sym x
theorem KI.miss{W k}(h:KI w W I x i k)(J:k<15)(e:keysL.getD k []≠x):KI w W I x i (k+1):=by
 refine⟨?_,h.lt,h.ne,h.c⟩;rw[AG J e];exact h.n
theorem bF.qbu(h:Zp:=by
 go_wp2_with (go_at_call 109;refine yaj (cx.o _) ?_;rintro e aK ⟨rfl,rfl⟩);clear c0;rename World=>W0
 go_loopw [7] (λG W=>W=W0/\∃j:Nat,j<=n/\G=ih j/\V (gG pW t j=E)) (λG _=>n-(intOf G).toNat)
 case atStart=>grind
 case round=>
  obtain⟨rfl,j,hj,rfl,m⟩:=hrel;by_cases bS:j=E
  ·subst bS;by_cases aY:j<n
   ·have c1:=(aO.o _ bu.o.k).at_ j aY;have bF:V _:=m.o;rw[E8 (jn bb.o aY)]at bF;have HD:V _:=kU (bt t j) wr;have b:V _:=nQ (bt t j) wr
    have z:¬(nC _=true\/dig _=true):=λh=>by
     have B:=bF.o
     rw[iv h]at B
     have:=mT pW t (j+1)
     omega
    have ah:nC (bt t j)=false:=by grind
    have y:dig (bt t j)=false:=by grind
    rw[ah]at b;rw[y]at HD;clear z ah y bF;generalize bt t j=x at c1 HD b
    go_upto_region 6 with (first
     |(go_at_call 109;refine yaj b.o ?_;rintro e aK ⟨rfl,S⟩;obtain rfl:=S.symm)
     |(go_at_call 100;refine yaj HD.o ?_;rintro e aK ⟨rfl,S⟩;obtain rfl:=S.symm))
    clear c1 HD b;have bi:V _:=j8 ((aO.o _ bu.o.k).cut (i:=i) ao.o.1) (cap-i);have aD:=ao.o.2;have bX:(0:Int)<=i:=xaa;have aV:(i:Int)<=j:=xaa;have bg:(j:Int)<=cap:=xaa;have ad:((j:Int)-i).toNat=j-i:=xaa;have aP:=bu.o.t.c2;have bw:=bu.o.t.fr 2;have ai:=bi.o;go_upto_region 7 with fail;change Code.wp _ _ _ _ (wr.setCell _ (eL _));have d:V _:=bu.o.text (kJ t i j);clear bi ai aP bw aD bX aV bg ad;generalize wr.setCell _ _=aq at d⊢;generalize aH:kJ t i j=x at d⊢;have bA:V _:=aH;clear aH;have aP:=d.o.t.c0;have bw:=d.o.t.fr 0;go_upto_region 8 with fail;change Code.wp _ _ _ _ (aq.setCell _ (eL gz));have br:V _:=d.o.sym gz;clear aP bw d;generalize aq.setCell _ _=bU at br⊢;go_upto_region 9 with (go_at_call 110;refine yaj (E6 _) ?_;rintro e aM ⟨rfl,rfl⟩);have bZ:V _:=E9 br.o;generalize bU.alloc _=aM at bZ⊢;generalize bU.heap.size=I at bZ⊢;clear br;go_wp2_with fail;go_loopw [9] (λG W=>∃k:Nat,k<=15/\G=ih k/\V (KI w W I x i k)) (λG _=>15-(intOf G).toNat)
    case atStart=>exact⟨0,by omega,rfl,bZ⟩
    case round=>
     exact xar
   go_upto_region 6 with fail;have bi:V _:=j8 ((aO.o _ bu.o.k).cut (i:=i) ao.o.1) (cap-i);have aD:=ao.o.2;have bX:(0:Int)<=i:=xaa;have aV:(i:Int)<=j:=xaa;have bg:(j:Int)<=cap:=xaa;have ad:((j:Int)-i).toNat=j-i:=xaa;have aP:=bu.o.t.c2;have bw:=bu.o.t.fr 2;have ai:=bi.o;go_upto_region 7 with fail;change Code.wp _ _ _ _ (wr.setCell _ (eL _));have d:V _:=bu.o.text (kJ t i j);clear bi ai aP bw aD bX aV bg ad;generalize wr.setCell _ _=aq at d⊢;generalize aH:kJ t i j=x at d⊢;have bA:V _:=aH;clear aH;have aP:=d.o.t.c0;have bw:=d.o.t.fr 0;go_upto_region 8 with fail;change Code.wp _ _ _ _ (aq.setCell _ (eL gz));have br:V _:=d.o.sym gz;clear aP bw d;generalize aq.setCell _ _=bU at br⊢;go_upto_region 9 with (go_at_call 110;refine yaj (E6 _) ?_;rintro e aM ⟨rfl,rfl⟩);have bZ:V _:=E9 br.o;generalize bU.alloc _=aM at bZ⊢;generalize bU.heap.size=I at bZ⊢;clear br;go_wp2_with fail;go_loopw [9] (λG W=>∃k:Nat,k<=15/\G=ih k/\V (KI w W I x i k)) (λG _=>15-(intOf G).toNat)
   case atStart=>grind
   case round=>
    exact xar
  have aY:j<n:=by
   rcases Nat.lt_or_ge j n with c|c
   ·exact c
   exact absurd ((oG (λh=>i4 bb.o)).symm.trans m.o) bS
  have c1:=(aO.o _ bu.o.k).at_ j aY;have bF:V _:=m.o;rw[E8 (jn bb.o aY)]at bF;have HD:V _:=kU (bt t j) wr;have b:V _:=nQ (bt t j) wr;generalize bt t j=x at c1 HD b bF;cases ah:nC x
  ·rw[ah]at b bF;cases y:dig x
   ·rw[y]at bF;exact absurd (by simpa using bF.o) bS
   rw[y]at HD bF;have H:V (gG pW t (j+1)=E):=by grind
   go_wp2_with (first
    |(go_at_call 109;refine yaj b.o ?_;rintro e aK ⟨rfl,rfl⟩)
    |(go_at_call 100;refine yaj HD.o ?_;rintro e aK ⟨rfl,rfl⟩))
   grind[intOf]
  rw[ah]at b bF;have H:V (gG pW t (j+1)=E):=by grind
  go_wp2_with (first
   |(go_at_call 109;refine yaj b.o ?_;rintro e aK ⟨rfl,rfl⟩))
  grind[intOf]):Zp:=h
open bF in
theorem CJ(w g an n cap t)(f:TxS w g an n t)(i)(hi:i<n)(hn:n<=1000000)(aI:n<=cap)(bI:nC (bt t i)=true):
  Calls prog 98 #[.slice (some ⟨g,an,none⟩) n cap,ih i] w (NxO w (nxT t i) (nxE t i)):=by
 have aO:V (∀W,Kept 0 0 w W->_):=λW k=>f.keep k;have bL:V (nxT t i=⟨_,i,_⟩):=iv bI;have HE:V (nxE t i=gG _ t i):=iv bI;have ao:V (gG pW t i<=n/\i<=gG pW t i):=⟨by rw[<-f.len];exact lE _ _ _ (jx f.len),mT _ _ _⟩
 have bb:V _:=f.len;have az:=f.lt;have cx:V (∀W,Calls _ _ _ W λe O=>e=.returned (.bool true)/\O=W):=λW=>by rw[<-bI];exact nQ _ W
 unfold NxO;rw[bL.o,HE.o];obtain⟨E,bY⟩:∃E,E=gG pW t i:=⟨_,rfl⟩
 rw[<-bY]at ao⊢;have HR:V _:=bY.symm;clear bY bL HE f bI;exact qbt
theorem yH{t E}(h:gG dig t j=E)(hj:j<t.length)(ay:j=E):dig (bt t j)=false:=by
 subst ay;cases c:dig (bt t j)
 ·rfl
 have:=oH hj c;omega
theorem Fa{t E}(h:gG dig t j=E)(ay:j≠E):j<t.length/\dig (bt t j)=true/\gG dig t (j+1)=E:=by
 have B:=h;rw[gG]at B;split at B
 ·rename_i c;exact⟨c.1,c.2,B⟩
 exact absurd B ay
theorem Fb(w g an n cap t)(f:TxS w g an n t)(i)(hi:i<n)(hn:n<=1000000)(aI:n<=cap)(bI:nC (bt t i)=false)(aN:dig (bt t i)=true):
  Calls prog 98 #[.slice (some ⟨g,an,none⟩) n cap,ih i] w (NxO w (nxT t i) (nxE t i)):=by
 have aO:V (∀W,Kept 0 0 w W->_):=λW k=>f.keep k;have bL:V (nxT t i=⟨sH t i,i,kJ t i (rI t i)⟩):=by show _=_;unfold nxT;rw[bI,ip xac,iv aN]
 have HE:V (nxE t i=rI t i):=by show _=_;unfold nxE;rw[bI,ip xac,iv aN]
 have ao:V (gG dig t i<=n/\i<=gG dig t i):=⟨by rw[<-f.len];exact lE _ _ _ (jx f.len),mT _ _ _⟩
 have bb:V _:=f.len;have az:=f.lt;have cx:V (∀W,Calls _ _ _ W λe O=>e=.returned (.bool false)/\O=W):=λW=>by rw[<-bI];exact nQ _ W
 have a6:V (∀W,Calls _ _ _ W λe O=>e=.returned (.bool true)/\O=W):=λW=>by rw[<-aN];exact kU _ W
 have r:V (rI t i=if gG _ t i+1<t.length/\bt t _=46/\dig _=true then gG _ t _ else gG _ t i):=rfl;have u:V (sH t i=if gG _ t i+1<t.length/\bt t _=46/\dig _=true then kK else ik):=rfl;unfold NxO;rw[bL.o,HE.o];obtain⟨E,bY⟩:∃E,E=gG dig t i:=⟨_,rfl⟩
 rw[<-bY]at ao r u;have HR:V _:=bY.symm;clear bY bL HE f bI aN;generalize rI t i=K at r⊢;generalize sH t i=Q at u⊢;go_enter func98,ntmps98;go_upto_region 3 with fail;have bu:V _:=AF w i;change Code.wp _ _ _ _ ((w.alloc (.cells #[eL _,.int _ _,eL _] 127)).alloc (.cells #[eL _,ih _,eL _] 127));generalize (w.alloc _).alloc _=W0 at bu⊢;have c0:=(aO.o _ bu.o.k).at_ i hi;generalize bt t i=bC at c0 cx a6
 go_upto_region 16 with (first
  |(go_at_call 109;refine yaj (cx.o _) ?_;rintro e aK ⟨rfl,S⟩;obtain rfl:=S.symm)
  |(go_at_call 100;refine yaj (a6.o _) ?_;rintro e aK ⟨rfl,S⟩;obtain rfl:=S.symm))
 have aP:=bu.o.t.c0;have bw:=bu.o.t.fr 0;go_upto_region 17 with fail;change Code.wp _ _ _ _ (W0.setCell _ (eL ik));have br:V _:=bu.o.sym ik;clear aP bw bu c0;generalize W0.setCell _ _=bU at br⊢;go_loopw [7] (λG W=>W=bU/\∃j:Nat,j<=n/\G=ih j/\V (gG dig t j=E)) (λG _=>n-(intOf G).toNat)
 case atStart=>exact⟨rfl,i,by omega,rfl,HR⟩
 case round=>
  obtain⟨rfl,j,hj,rfl,m⟩:=hrel;by_cases bS:j=E
  ·by_cases aY:j<n
   ·have c1:=(aO.o _ br.o.k).at_ j aY;have HD:V _:=kU (bt t j) wr;rw[yH m.o (jn bb.o aY) bS]at HD;subst bS;generalize R:bt t j=U at c1 HD r u;go_upto_region 19 with (go_at_call 100;refine yaj HD.o ?_;rintro e aK ⟨rfl,S⟩;obtain rfl:=S.symm);by_cases cp:j+1<n
    ·by_cases l:U=46
     ·have X:V _:=kU (bt t (j+1)) wr;have c2:=(aO.o _ br.o.k).at_ _ cp;subst l;cases P:dig (bt t (j+1))
      ·have bM:V (Q=ik/\K=j):=⟨u.o.trans (ip (λh=>by rw[P]at h;exact absurd h.2.2 xac)),r.o.trans (ip (λh=>by rw[P]at h;exact absurd h.2.2 xac))⟩
       have b:V (i<=j/\j<=n):=⟨ao.o.2,ao.o.1⟩
       rw[P]at X;clear HD R P r u;generalize bt t _=ab at c2 X;go_upto_region 24 with (go_at_call 100;refine yaj X.o ?_;rintro e aK ⟨rfl,S⟩;obtain rfl:=S.symm);clear c1 c2 X;exact xah
      have Z:V (Q=kK/\K=gG _ t _):=⟨u.o.trans (iv ⟨jn bb.o cp,rfl,P⟩),r.o.trans (iv ⟨jn bb.o cp,rfl,P⟩)⟩
      rw[P]at X;clear HD R P r u;generalize bt t _=ab at c2 X;go_upto_region 20 with (go_at_call 100;refine yaj X.o ?_;rintro e aK ⟨rfl,S⟩;obtain rfl:=S.symm);clear c1 c2 X;have aP:=br.o.t.c0;have bw:=br.o.t.fr 0;go_upto_region 21 with fail;change Code.wp _ _ _ _ (wr.setCell _ (eL kK));have bF:V _:=br.o.sym kK;clear aP bw br;generalize wr.setCell _ _=aM at bF⊢;have y:V (gG dig t (j+1)<=n/\i<=gG dig t (j+1)):=⟨by rw[<-bb.o];exact lE _ _ _ (jx bb.o),jj (mT dig t (j+1)) ao.o.2⟩
      obtain⟨aB,bK⟩:∃aB,aB=gG dig t (j+1):=⟨_,rfl⟩
      rw[<-bK]at Z y;have aa:V _:=bK.symm;clear bK;go_wp2_with fail;go_loopw [7] (λG W=>W=aM/\∃j:Nat,j<=n/\G=ih j/\V (gG dig t j=aB)) (λG _=>n-(intOf G).toNat)
      case atStart=>exact⟨rfl,j+1,by omega,by go_num,aa⟩
      case round=>
       obtain⟨rfl,k,J,rfl,aS⟩:=hrel;by_cases d5:k=aB
       ·by_cases cf:k<n
        ·have c3:=(aO.o _ bF.o.k).at_ k cf;have z:V _:=kU (bt t k) wr;rw[yH aS.o (jn bb.o cf) d5]at z;subst d5;have bM:V _:=Z.o;have b:V (i<=k/\k<=n):=⟨y.o.2,y.o.1⟩
         generalize bt t k=Y at c3 z;go_upto_region 24 with (go_at_call 100;refine yaj z.o ?_;rintro e aK ⟨rfl,S⟩;obtain rfl:=S.symm);clear c3 z;exact xbb
        subst d5;have bM:V _:=Z.o;have b:V (i<=k/\k<=n):=⟨y.o.2,y.o.1⟩
        go_upto_region 24 with fail;exact xbb
       obtain⟨B,N,h3⟩:=Fa aS.o d5;have cf:k<n:=by rw[bb.o]at B;exact B
       have c3:=(aO.o _ bF.o.k).at_ k cf;have z:V _:=kU (bt t k) wr;rw[N]at z;have H:V _:=h3;clear B N h3;generalize bt t k=Y at c3 z;go_wp2_with (go_at_call 100;refine yaj z.o ?_;rintro e aK ⟨rfl,S⟩;obtain rfl:=S.symm);exact xcl
     have bM:V (Q=ik/\K=j):=⟨u.o.trans (ip (λh=>l h.2.1)),r.o.trans (ip (λh=>l h.2.1))⟩
     have b:V (i<=j/\j<=n):=⟨ao.o.2,ao.o.1⟩
     have ae:(U==46)=false:=by simpa using l
     clear HD R r u l;exact xaz
    have bM:V (Q=ik/\K=j):=⟨u.o.trans (ip (λh=>i4 bb.o)),r.o.trans (ip (λh=>i4 bb.o))⟩
    have b:V (i<=j/\j<=n):=⟨ao.o.2,ao.o.1⟩
    clear HD R r u;exact xaz
   subst bS;have bM:V (Q=ik/\K=j):=⟨u.o.trans (ip (λh=>i4 bb.o)),r.o.trans (ip (λh=>i4 bb.o))⟩
   have b:V (i<=j/\j<=n):=⟨ao.o.2,ao.o.1⟩
   clear r u;go_upto_region 19 with fail;go_upto_region 24 with fail;exact xah
  obtain⟨B,N,h3⟩:=Fa m.o bS;have aY:j<n:=by rw[bb.o]at B;exact B
  have c1:=(aO.o _ br.o.k).at_ j aY;have HD:V _:=kU (bt t j) wr;rw[N]at HD;have H:V _:=h3;clear B N h3;generalize bt t j=Y at c1 HD;go_wp2_with (go_at_call 100;refine yaj HD.o ?_;rintro e aK ⟨rfl,S⟩;obtain rfl:=S.symm);exact xhy
def wy(x:UInt8)(k:Nat):List UInt8:=if x∈onesL.take k then[x] else[]
theorem Fc{x k}(J:k<10)(h:onesL.getD k 0=x):wy x (k+1)=[x]:=by
 unfold wy;rw[iv];have ag:k<onesL.length:=J;exact xjr
theorem CK{x k}(J:k<10)(h:onesL.getD k 0≠x):wy x (k+1)=wy x k:=by
 unfold wy;have ag:k<onesL.length:=J;exact xgj
abbrev onesS:ByteArray:={data:=#[43,45,42,47,40,41,44,59,58,61]}
theorem Fd:∀k:Fin 10,onesS.extract k.1 (k.1+1)=⟨#[onesL.getD k.1 0]⟩:=by decide+kernel
theorem Fe:∀k:Fin 10,∀h,((onesS[k.1]'h).toNat:Int)=bt onesL k.1:=by decide+kernel
theorem I8(k)(J:k<10)(h):((onesS[k]'h).toNat:Int)=bt onesL k:=Fe ⟨k,J⟩ h
theorem bG.qbu(h:Zp:=by
 have d:V _:=λW k=>(aO.o W k).at_ i hi;generalize bt t i=bC at c0 cx a6 aa d
 go_upto_region 26 with (first
  |(go_at_call 109;refine yaj (cx.o _) ?_;rintro e aK ⟨rfl,S⟩;obtain rfl:=S.symm)
  |(go_at_call 100;refine yaj (a6.o _) ?_;rintro e aK ⟨rfl,S⟩;obtain rfl:=S.symm))
 clear c0 cx a6 aO;go_wp2_with fail;go_loopw [11] (λG W=>∃k:Nat,k<=10/\G=ih k/\V (NI w W (wy b k) i (wy b k))) (λG _=>10-(intOf G).toNat)
 case atStart=>exact⟨0,by omega,rfl,bu⟩
 case round=>
  obtain⟨k,J,rfl,b1⟩:=hrel;by_cases l:k<10
  ·have c1:=d.o _ b1.o.k
   have bv:V (onesL.getD k 0=b↔bt onesL k=bC):=by
    show _↔_;rw[aa.o];unfold bt;constructor
    ·grind
    intro h;exact UInt8.toNat_inj.1 xaa
   have bK:∀h,_:=λh=>I8 k l h;have aH:onesS.extract k (k+1)=⟨#[onesL.getD k 0]⟩:=Fd ⟨k,l⟩;generalize bt _ k=y at bv bK;go_upto_region 30 with fail;go_quiet (fail)
   have b0:V _:=b1.o.keep (eJ 0 0 _ nq);clear c1 b1;generalize wr.drewN _=cd at b0⊢;have a8:=b0.o.t.c0;have aJ:=b0.o.t.fr 0;have aP:=b0.o.t.c2;have bw:=b0.o.t.fr 2;cases am:(y==bC)
   ·have aD:onesL.getD k 0≠b:=λc=>by have:=bv.o.1 c;rw[this]at am;simp at am
    have H:V _:=b0.o;rw[<-CK l aD]at H;clear b0 aD aH a8 aJ aP bw;go_wp2_with fail;grind[intOf]
   have aD:=bv.o.2 (by simpa using am);have H:V _:=(b0.o.sym [b]).text [b];rw[aD]at aH;have bE:=Fc l aD;have Z:V _:=bE;have b9:V (eL [b]=.string _):=rfl;generalize wy _ k=a0 at a8 aP b0;clear b0 aD bE;have aV:IntKind.i64.wrap (k+1)=k+1:=by rw[IntKind.wrap_i64];omega
   have bg:(0:Int)<=k:=xaa;have bq:(k:Int)+1<=10:=xaa;go_wp2_with fail;go_roundw;exact⟨k+1,by omega,by go_num,jn Z.o H⟩;simp[intOf];omega
  obtain rfl:k=10:=xaa;have al:V _:=b1.o;rw[show wy _ _=kT _ from rfl]at al;generalize r:kT _=Y at al;have K:V _:=r;clear r;obtain⟨_,bo,ar,aQ,aj⟩:=al.o.r;obtain⟨_,bm,aW,bd,C⟩:=al.o.t;have bR:=aj 0;have bV:=aj 1;have bW:=aj 2;have H:V _:=al.o.fin;have aV:IntKind.i64.wrap (i+1)=i+1:=by rw[IntKind.wrap_i64];omega
  clear b1 aj C al;go_wp2_with fail;change bodyPost _ _ _ _ _ (((wr.setCell _ (eL _)).setCell _ _).setCell _ (eL _));generalize ((wr.setCell _ _).setCell _ _).setCell _ _=bP at H⊢;obtain⟨⟨_,bT,f1,f2,_⟩,q⟩:=H.o;refine yaz (v:=.tuple #[.agg #[eL Y,ih i,eL Y],ih ((i:Int)+1)]) (by simp[results,results98,go_sem,bT,f1,f2]) rfl ⟨?_,q⟩;rw[K.o,Int.natCast_add];rfl):Zp:=h
open bG in
theorem CL(w g an n cap t)(f:TxS w g an n t)(i)(hi:i<n)(hn:n<=1000000)(bI:nC (bt t i)=false)(aN:dig (bt t i)=false):
  Calls prog 98 #[.slice (some ⟨g,an,none⟩) n cap,ih i] w (NxO w (nxT t i) (nxE t i)):=by
 have aO:V (∀W,Kept 0 0 w W->_):=λW k=>f.keep k;have bL:V (nxT t i=⟨kT (t.getD i 0),i,kT (t.getD i 0)⟩):=by show _=_;unfold nxT;simp_all
 have HE:V (nxE t i=i+1):=by show _=_;unfold nxE;simp_all
 have az:=f.lt;have cx:V (∀W,Calls _ _ _ W λe O=>e=.returned (.bool false)/\O=W):=λW=>by rw[<-bI];exact nQ _ W
 have a6:V (∀W,Calls _ _ _ W λe O=>e=.returned (.bool false)/\O=W):=λW=>by rw[<-aN];exact kU _ W
 have aa:V (bt t i=((t.getD i 0).toNat:Int)):=rfl;unfold NxO;rw[bL.o,HE.o];clear bL HE f bI aN;generalize t.getD i 0=b at aa⊢;exact qbt
theorem MG(w g an n cap t)(f:TxS w g an n t)(i)(hi:i<n)(hn:n<=1000000)(aI:n<=cap):
  Calls prog 98 #[.slice (some ⟨g,an,none⟩) n cap,ih i] w (NxO w (nxT t i) (nxE t i)):=by
 cases bI:nC (bt t i)
 ·cases aN:dig (bt t i)
  ·exact CL w g _ n _ t f i hi hn bI aN
  exact Fb w g _ n _ t f i hi hn aI bI aN
 exact CJ w g _ n _ t f i hi hn aI bI
def tkc(k:Tok):List Value:=[eL k.sym,.int .i64 (k.pos:Int),eL k.text]
def tkF:List Tok->List Value
 |[]=>[]
 |k::r=>tkc k++tkF r
theorem Ja(a b):tkF (a++b)=tkF a++tkF b:=by
 induction a<;>grind[tkF]
theorem Jb(k):tkF [k]=tkc k:=by simp[tkF]
theorem Ff:∀(a:List Tok) (k j:Nat),k<a.length->j<3->(tkF a)[k*3+j]? =(tkc (a.getD k i1))[j]?
 |x::r,0,j,_,hj=>by
  grind[tkF,tkc]
 |x::r,k+1,j,J,hj=>by
  have aH:(tkc x).length=3:=rfl
  rw[tkF,yas xaa,aH,show(k+1)*3+j-3=k*3+j by omega]
  exact Ff r k j (by grind) hj
def TR(W:World)(B:Nat)(v:Value)(ts:List Tok):Prop:=W.ownsRow B 127 3 v ts.length (tkF ts)
theorem TR.keep{W}(f:TR W I v ts)(k:Kept 0 0 W F):TR F I v ts:=eN f k
theorem TR.nil(W I):TR W I (.slice none 0 0) []:=yaw _ _ _ _
theorem TR.blk{W}(f:TR W I v ts)(h:v.ownBlock=some g):I<=g/\g<W.heap.size:=eF f h
structure TkA(w:World)(g off n:Nat)(ts:List Tok):Prop where
 len:ts.length=n
 lt:g<w.heap.size
 c0:∀k,k<n->w.cell? ⟨g,off+k*3,none⟩=some (eL (ts.getD k i1).sym)
 c1:∀k,k<n->w.cell? ⟨g,off+k*3+1,none⟩=some (.int .i64 ((ts.getD k i1).pos:Int))
 c2:∀k,k<n->w.cell? ⟨g,off+k*3+2,none⟩=some (eL (ts.getD k i1).text)
theorem TR.at_{W}(f:TR W I v ts)(h:0<ts.length):∃g cap,v=ia g ts.length cap/\I<=g/\TkA W g 0 ts.length ts/\ts.length<=cap:=by
 rcases f.2 with⟨_,c⟩|⟨g,cap,ao,rfl,R,a6,U,_,ct,b2⟩
 ·omega
 have az:g<W.heap.size:=by grind
 have G:∀k j,k<ts.length->j<3->W.cell? _=(tkc _)[j]?:=λk j J hj=>by
  rw[cell_of_row W g _ _ _ _ a6,<-Array.getElem?_toList]
  have:(ao.toList.take (ts.length*3))[k*3+j]? =(tkF ts)[k*3+j]?:=by rw[b2]
  rw[List.getElem?_take_of_lt xaa]at this
  rw[this]
  exact Ff _ k j J hj
 refine⟨g,_,rfl,R,⟨rfl,az,λk J=>?_,λk J=>?_,λk J=>?_⟩,U⟩
 ·rw[Nat.zero_add];exact G k 0 J xaa
 ·rw[Nat.zero_add];exact G k 1 J xaa
 rw[Nat.zero_add];exact G k 2 J xaa
theorem MH:(prog.info? 127).map (λi=>(i.zero,i.size,i.bytes))=some (some (.agg #[.string ⟨#[]⟩,ih 0,.string ⟨#[]⟩]),3,40):=by kernel_rfl
theorem wz:∃bY,prog.info? 127=some bY/\bY.zero=some (.agg #[.string ⟨#[]⟩,ih 0,.string ⟨#[]⟩])/\bY.size=3/\bY.bytes=40:=by
 have h:=MH;simp_all
theorem yI(w:World)(k T):∀j u,(tkc k)[j]? =some u->(w.alloc (.cells #[eL k.sym,ih k.pos,eL k.text] T)).cell? ((⟨w.heap.size,0,none⟩:Addr).add j)=some u:=by
 intro j u h;rw[il,Nat.zero_add,yav];match j,h with
 |0,h=>exact h
 |1,h=>exact h
 |2,h=>exact h
theorem od(w){bS rest o a Q}(am:o.guard=none)(s x)
  (aR:o.op=.call {callee:=.builtin .append,args:=#[s,x],argTypes:=#[123,123]})
  (I) (v) (ts) (aw:a.eval s=v) (bi:TR w I v ts)
  (al) (k) (aH:a.eval x=.slice (some al) 1 1) (d:∀j u,(tkc k)[j]? =some u->w.cell? (al.add j)=some u)
  (f:ts.length+1<=1000000) (ae:I<=w.heap.size)
  (h:∀g cap n O,n=(ts++[k]).length->TR O I (ia g n cap) (ts++[k])->Chg (λb=>v.ownBlock=some b) w O->(v.ownBlock=some g\/g=w.heap.size)->wpList prog bS Q rest (a.put o.dst (ia g n cap)) O):wpList prog bS Q (o::rest) a w:=by
 obtain⟨bY,hi,cg,b8,cc⟩:=wz;refine wpList_append_lies w am s x _ aR I 127 _ _ 3 _ underlying123 hi cg b8 cc rfl xab v _ _ aw bi _ 1 1 _ aH rfl d ?_ xab (by unfold maxLen;omega) xaa ae _ rfl ?_
 ·intro u G;simp[tkc]at G;rcases G with rfl|rfl|rfl<;>rfl
 intro g cap O B N h3 _;have e:ts.length+1=(ts++[k]).length:=by grind
 rw[e]at B⊢;refine h g _ _ _ rfl ?_ (fA N) h3;unfold TR;rw[Ja,Jb];exact B
theorem Bz{W}(aZ:w.heap.size<=I)(k:Kept 0 0 w W)(f:TR W I v ts)(c:Chg (λb=>v.ownBlock=some b) W F):Kept 0 0 w F:=
 Chg.kept k c (λ_ hi=>yao aZ (f.blk hi).1)
theorem Fg(w g an n cap t)(f:TxS w g an n t)(hn:n<=100000)(aI:n<=cap):
  Calls prog 85 #[.slice (some ⟨g,an,none⟩) n cap] w λe O=>∃v,e=.returned v/\TR O w.heap.size v (jk t)/\Kept 0 0 w O:=by
 have aO:V (∀W,Kept 0 0 w W->_):=λW k=>f.keep k;have aG:V _:=EB w g _ n cap t f 0 xaa xaa;have bb:V _:=f.len;have bD:V (skM t 0<=n):=by show _<=_;rw[<-f.len];exact wa t 0 yae
 clear f;obtain⟨A,bl⟩:∃A,A=jk t:=⟨_,rfl⟩
 rw[<-bl];have bM:V ([]++kH t _=A):=bl.symm;clear bl;go_enter func85,ntmps85;go_wp2_with (go_at_call 97;refine yaj aG.o ?_;rintro e aK ⟨rfl,S⟩;obtain rfl:=S.symm);go_loopw [3,4] (λv G W=>∃(k:Nat) (l:List Tok),k<=n/\l.length<=k/\G=ih k/\V (TR W w.heap.size v l)/\V (Kept 0 0 w W)/\V (l++kH t k=A)) (λ_ G _=>n-(intOf G).toNat)
 case atStart=>exact⟨_,_,bD.o,yae,rfl,TR.nil _ _,Kept.refl 0 0 w,bM⟩
 case round=>
  obtain⟨k,l,J,r,rfl,X,aS,bh⟩:=hrel;by_cases aY:k<n
  ·have b:k<t.length:=by rw[bb.o];exact aY
   have bA:V _:=MG _ g _ n _ t (aO.o _ aS.o) k aY xaa aI;have ao:V (k<nxE t k/\nxE t k<=n/\nxE t k<=skM t _/\skM t _<=n):=⟨sI b,by rw[<-bb.o];exact Ez b,py _ _,by rw[<-bb.o];exact wa t _ (Ez b)⟩
   have q:V ((nxT t k).sym=[]->l++[nxT t k]=A):=λh=>by rw[<-bh.o,Cu b h]
   have m:V ((nxT t k).sym≠[]->(l++[nxT t k])++kH t (skM t (nxE t k))=A):=λh=>by rw[<-bh.o,EA b h];simp
   unfold NxO iS at bA;generalize nxT t k=aa at bA q m;have cu:V _:=λW al=>EB W g _ n cap t (aO.o W al) _ ao.o.2.1 xaa;generalize nxE t k=ne at bA ao m cu;generalize skM t _=y at ao m cu;have Z:V _:=λak:World=>yI ak aa 127;obtain⟨aW,ps,br⟩:=aa;simp only at bA q m Z;clear bh b
   go_wp2_with (first
    |(go_at_call 98;refine yaj bA.o ?_;rintro e ak ⟨rfl,aC⟩)
    |(at_builtin;refine od _ rfl _ _ rfl _ _ _ rfl ((X.o.keep aC).keep ((eA 0 0 _ _).trans (eA 0 0 _ _))) _ ⟨aW,ps,br⟩ rfl ?c1 ?c2 ?c3 ?_)
    |fail)
   case c1=>
    have bz:=Z.o (ak.alloc (.cells #[eL aW,ih ps,eL br] 127));rw[show(ak.alloc _).heap.size=ak.heap.size+1 by simp]at bz;exact bz
   case c2=>omega
   case c3=>have:=aS.o.size;have:=aC.size;simp;omega
   intro g9 cap9 n9 a7 a2 aQ ap bV;have R1:V _:=aQ;have d:=(aS.o.trans aC).trans ((eA 0 0 _ (.cells #[eL aW,ih ps,eL br] 127)).trans (eA 0 0 _ (.cells #[eL aW,ih ps,eL br] 127)));have R2:V _:=Bz yad d ((X.o.keep aC).keep ((eA 0 0 _ _).trans (eA 0 0 _ _))) ap
   have u:a7.cell? ⟨ak.heap.size,0,none⟩=some (eL aW):=by
    rw[ap.cell yag (λc=>by have:=(X.o.blk c).2;have:=aC.size;simp at*;omega),(eA 0 0 _ _).cell xac xaa,yav];rfl
   clear aQ ap bV a2 d;cases aw:(aW==[])
   ·have bc:aW≠[]:=by intro c;rw[c]at aw;simp at aw
    have R3:V _:=m.o bc;have Q:V _:=cu.o _ R2.o;have a6:(l++[(⟨aW,ps,br⟩:Tok)]).length=l.length+1:=by simp
    clear bc;go_wp2_with (go_at_call 97;refine yaj Q.o ?_;rintro e cA ⟨rfl,S⟩;obtain rfl:=S.symm);go_roundw
    case rel=>exact⟨_,_,ao.o.2.2.2,by rw[a6];have:=ao.o;omega,rfl,R1,R2,R3⟩
    case measure=>simp[intOf];have:=ao.o;omega
   have ay:aW=[]:=by simpa using aw
   have R3:V _:=q.o ay;rw[R3.o]at R1;clear ay;go_wp2_with fail;go_ret;exact⟨_,rfl,R1.o,R2.o⟩
  rw[Ct (jn bb.o aY),List.append_nil]at bh;obtain rfl:=bh.o;go_wp2_with fail;go_ret;exact⟨_,rfl,X.o,aS.o⟩
def mX(i:Int)(v:Vl)(la:Int)(k:Nat)(d:Int)(N:Nat):List Vl×Int:=
 if v.op=2 then ([],d)
 else if v.op=3 then (if k=0 then ([],d)else ([eK 6 v.len d 0 0],N))
 else if v.op=4 then (if k=0 then ([eK 4 v.len d v.b 0],N)else ([eK 4 v.len d v.a 0],N))
 else if v.op=5 then (if k=0 then ([eK 5 v.len d v.b 0],N)else ([eK 4 v.len d i 0,eK 5 v.len N v.b 0,eK 6 v.len ((N+1:Nat):Int) 0 0],((N+2:Nat):Int)))
 else if v.op=6 then ([eK 6 v.len d 0 0],N)
 else if v.op=13 then ([eK 4 v.len d i 0],N)
 else if v.op=8 then (if k=1 then ([eK 1 v.len 0 0 0,eK 8 v.len v.a d N],((N+1:Nat):Int))else ([eK 1 v.len 0 0 0,eK 8 v.len v.a N d],((N+1:Nat):Int)))
 else if v.op=7 then (if k=0 then ([eK 3 v.len v.a v.b 0,eK 1 v.len 0 0 0,eK 8 v.len N d ((N+1:Nat):Int)],((N+2:Nat):Int))else ([eK 3 v.len v.a v.b 0,eK 1 v.len 0 0 0,eK 8 v.len N ((N+1:Nat):Int) d],((N+2:Nat):Int)))
 else if v.op=9 then ([eK 10 la d 0 0],N)
 else if v.op=10 then ([eK 9 1 d 0 0],N)
 else if v.op=11 then ([eK 12 la d 0 v.c],N)
 else ([eK 11 1 d 0 v.c],N)
def oY(v:Vl)(k:Nat):Bool:=!(v.op==8&&k==0)
def Pre(vs0 us:List Vl):Prop:=∃r,us=vs0++r
theorem Pre.at_(h:Pre vs0 us)(hj:j<vs0.length):us.getD j i0=vs0.getD j i0/\j<us.length:=by
 obtain⟨r,rfl⟩:=h;grind
theorem Pre.app{a}(h:Pre vs0 us):Pre vs0 (us++a):=by
 obtain⟨r,rfl⟩:=h;exact⟨r++a,by rw[List.append_assoc]⟩
end
section
theorem jm{P w a m}(f r c):(store a (.func f r c) m).run P w=stored P w a (.func f r c) m:=run_store P w a _ m rfl
attribute[local go_sem] eE eC eB jm
end
section
attribute[local go_sem] eE eC eB jm
variable{vs0:List Vl}{act:List Bool}{st:List Vl×List Int}
def mn(vs0:List Vl)(o:Nat)(p:Int)(st:List Vl×List Int):List Vl×List Int:=
 if st.2.getD o 0=-1 then (st.1,st.2.set o p)else (st.1++[eK 2 (vs0.getD o i0).len (st.2.getD o 0) p 0],st.2.set o (st.1.length:Nat))
def laM(vs0:List Vl)(i:Nat):Int:=(vs0.getD (vs0.getD i i0).a.toNat i0).len
def gkM(vs0:List Vl)(act:List Bool)(i k:Nat)(st:List Vl×List Int):List Vl×List Int:=
 if act.getD (fld (vs0.getD i i0) k).toNat false=true/\oY (vs0.getD i i0) k=true then
  mn vs0 (fld (vs0.getD i i0) k).toNat (mX (i:Int) (vs0.getD i i0) (laM vs0 i) k (st.2.getD i 0) st.1.length).2 (st.1++(mX (i:Int) (vs0.getD i i0) (laM vs0 i) k (st.2.getD i 0) st.1.length).1,st.2)
 else st
def jM(vs0:List Vl)(act:List Bool)(i:Nat)(st:List Vl×List Int):Nat->List Vl×List Int
 |0=>st
 |k+1=>gkM vs0 act i k (jM vs0 act i st k)
def giM(vs0:List Vl)(act:List Bool)(i:Nat)(st:List Vl×List Int):List Vl×List Int:=
 if st.2.getD i 0=-1 then st else jM vs0 act i st (cnt (vs0.getD i i0).op)
def SzP(M:List Vl×Int):Prop:=M.1.length<=3/\0<=eY M.1/\eY M.1<=3000
theorem Jc{p}[Decidable p]{a b}(aB:SzP a)(hb:SzP b):SzP (if p then a else b):=by split<;>assumption
theorem yJ(i v y k d aZ)(aj:0<=v.len)(B:v.len<=1000)(N:0<=y)(h3:y<=1000):SzP (mX i v y k d aZ):=by
 unfold mX;repeat' (apply Jc)
 all_goals (unfold SzP;simp only[eY,yaq,List.length_nil];omega)
theorem Jd{i k}(h:Pre vs0 st.1):Pre vs0 (gkM vs0 act i k st).1:=by
 unfold gkM mn;split
 ·split
  ·exact h.app
  exact h.app.app
 exact h
theorem sW{vs0 act i st}(h:Pre vs0 st.1):∀k,Pre vs0 (jM vs0 act i st k).1
 |0=>h
 |k+1=>Jd (sW h k)
theorem Je{i k}:(gkM vs0 act i k st).2.length=st.2.length:=by
 unfold gkM mn;split
 ·split<;>simp
 rfl
theorem qg{vs0 act i st}:∀k,(jM vs0 act i st k).2.length=st.2.length
 |0=>rfl
 |k+1=>by rw[jM,Je,qg k]
def MI(act:List Bool)(v:Vl):Bool:=(List.range (cnt v.op)).any λk=>act.getD (fld v k).toNat false
def jg(vs0:List Vl)(x:Nat):Nat->List Bool
 |0=>(List.replicate vs0.length false).set x true
 |m+1=>(jg vs0 x m).set (x+1+m) (MI (jg vs0 x m) (vs0.getD (x+1+m) i0))
theorem oe(vs0 x):∀m,(jg vs0 x m).length=vs0.length
 |0=>by simp[jg]
 |m+1=>by rw[jg,List.length_set,oe vs0 x m]
end
section
variable{vs0 us:List Vl}{L' L i:Nat}{act:List Bool}{C C':Int}{st:List Vl×List Int}
def SzU(L:Nat)(C:Int)(us:List Vl):Prop:=us.length<=L/\0<=eY us/\eY us<=C
theorem SzU.app{a}(h:SzU L C us)(h':SzU L' C' a):SzU (L+L') (C+C') (us++a):=by
 obtain⟨a1,K,a3⟩:=h;obtain⟨R,a6,U⟩:=h';refine⟨by grind,?_,?_⟩<;>(rw[sT];omega)
theorem SzU.mono(h:SzU L C us)(B:L<=L')(N:C<=C'):SzU L' C' us:=⟨yao h.1 B,h.2.1,Int.le_trans h.2.2 N⟩
def LnB(vs0:List Vl):Prop:=∀j,0<=(vs0.getD j i0).len/\(vs0.getD j i0).len<=1000
theorem qQ(h:∀j,j<vs0.length->1<=(vs0.getD j i0).len/\(vs0.getD j i0).len<=1000):LnB vs0:=λj=>by
 by_cases hj:j<vs0.length
 ·grind
 ·rw[yai,List.getElem?_eq_none xaa]
  show 0<=(0:Int)/\(0:Int)<=1000
  omega
theorem Fh(bI:LnB vs0){o p}(h:SzU L C st.1):SzU (L+1) (C+1000) (mn vs0 o p st).1:=by
 unfold mn;split
 ·exact h.mono xaa xaa
 refine h.app ⟨by simp,?_,?_⟩<;>(simp only[eY];have:=bI o;omega)
theorem MJ(bI:LnB vs0){k}(h:SzU L C st.1):SzU (L+4) (C+4000) (gkM vs0 act i k st).1:=by
 unfold gkM;split
 ·have aA:=yJ i _ (laM _ i) k (st.2.getD i 0) st.1.length (bI i).1 (bI i).2 (bI _).1 (bI _).2;have:=Fh bI (o:=(fld (vs0.getD i i0) k).toNat) (p:=(mX (i:Int) (vs0.getD i i0) (laM vs0 i) k (st.2.getD i 0) st.1.length).2) (st:=(st.1++(mX (i:Int) (vs0.getD i i0) (laM vs0 i) k (st.2.getD i 0) st.1.length).1,st.2)) (SzU.app (L':=3) (C':=3000) h ⟨aA.1,aA.2.1,aA.2.2⟩);grind
 exact h.mono xaa xaa
theorem wA{vs0}(bI:LnB vs0){act i L C st}(h:SzU L C st.1):∀k:Nat,SzU (L+4*k) (C+4000*(k:Int)) (jM vs0 act i st k).1
 |0=>h.mono xaa xaa
 |k+1=>(MJ bI (wA bI h k)).mono xaa xaa
theorem MK(bI:LnB vs0)(h:SzU L C st.1):SzU (L+12) (C+12000) (giM vs0 act i st).1:=by
 have:=io (vs0.getD i i0).op;unfold giM;split
 ·exact h.mono xaa xaa
 exact(wA bI h _).mono xaa xaa
theorem Jf(h:Pre vs0 st.1):Pre vs0 (giM vs0 act i st).1:=by
 grind[giM,sW]
theorem Jg:(giM vs0 act i st).2.length=st.2.length:=by
 grind[giM,qg]
def yK(vs0:List Vl)(act:List Bool)(x:Nat)(st:List Vl×List Int)(js:List Nat):List Vl×List Int:=js.foldl (λst j=>giM vs0 act (x+1+j) st) st
theorem AH(vs0 act x st aU j):yK vs0 act x st (aU++[j])=giM vs0 act (x+1+j) (yK vs0 act x st aU):=by simp[yK]
def Fi(m:Nat):List Nat:=(List.range m).map (λi=>m-1-i)
def wC(vs0:List Vl)(s:Nat):List Vl×List Int:=(vs0++[⟨1,1,0,0,0,4607182418800017408⟩],(List.replicate vs0.length (-1)).set s (vs0.length:Nat))
def ML(vs0:List Vl)(x:Nat)(st:List Vl×List Int):List Vl×Int:=
 if st.2.getD x 0=-1 then (st.1++[eK 1 (vs0.getD x i0).len 0 0 0],(st.1.length:Nat))else (st.1,st.2.getD x 0)
def grM(vs0:List Vl)(s x:Nat):List Vl×Int:=
 if (jg vs0 x (s-x)).getD s false=true then ML vs0 x (yK vs0 (jg vs0 x (s-x)) x (wC vs0 s) (Fi (s-x)))
 else (vs0++[eK 1 (vs0.getD x i0).len 0 0 0],(vs0.length:Nat))
end
section
attribute[local go_sem] eE eC eB
theorem OZ{ins vs}(af:(List.range vs.length).all (okV ins vs)=true):∀i,i<vs.length->((vs.getD i i0).op=9\/(vs.getD i i0).op=11)->∃j:Nat,(vs.getD i i0).a=(j:Int)/\j<vs.length/\(vs.getD j i0).len=laM vs i/\1<=laM vs i/\laM vs i<=1000:=λi hi aR=>by
 have h:=ml (List.all_eq_true.1 af i (List.mem_range.2 hi)) 0 (by rcases aR with c|c<;>(rw[c];decide))
 have e:fld _ 0=(vs.getD i i0).a:=rfl
 rw[e]at h
 have hj:(vs.getD i i0).a.toNat<vs.length:=xaa
 have ag:=fV (List.all_eq_true.1 af _ (List.mem_range.2 hj))
 exact⟨_,by omega,hj,rfl,ag.1,ag.2⟩
end
section
variable{w F:World}{m1 ad m3 ah base cap a2:Nat}{R U K:Option Addr}{vs vs0:List Vl}{v:Vl}{H R':Option Nat}
noncomputable abbrev PZ (n:Nat):Code:=(Tryz.f129.body.bind (pq n)).getD .skip
def PtP(w:World)(b1:Option Addr)(m1 e1:Nat)(b3:Option Addr)(m3 e3:Nat)(vs:List Vl)(base:Nat)(R:Option Nat)(M:List Vl×Int)(bb:Bool)(e:Ending)(w':World):Prop:=
 ∃a2' cap' R',e=.returned (.tuple #[eX b1 m1 e1 a2' (vs++M.1).length cap' b3 m3 e3,.int .i64 M.2,.bool bb])/\w'.ownsRow base 79 6 (.slice a2' (vs++M.1).length cap') (vs++M.1).length (fU (vs++M.1))/\(Value.slice a2' (vs++M.1).length cap').ownBlock=R'/\StQ (λ_=>False) R w R' w'
theorem MS.finP{W M}(h:MS w W R m1 ad U m3 ah vs v base H R' K cap)(k:Kept 0 0 W F)(aL:vs=vs0++M.1)(O):
  PtP w R m1 ad U m3 ah vs0 base H M O (.returned (.tuple #[eX R m1 ad K vs.length cap U m3 ah,ih M.2,.bool O])) (fk F (w.heap.size+1) (.slice R m1 ad) (.slice K vs.length cap) (.slice U m3 ah)):=by
 exact xep
theorem wD(h:w.ownsRow base 79 6 (ia a2 vs.length cap) vs.length (fU vs))(k:Kept 0 0 w F)(r O):
  PtP w R m1 ad U m3 ah vs base (some a2) ([],r) O (.returned (.tuple #[eX R m1 ad (some ⟨a2,0,none⟩) vs.length cap U m3 ah,ih r,.bool O])) F:=by
 unfold PtP;exact xip
theorem MS.finPR{W M O}(h:MS w W R m1 ad U m3 ah vs v base H R' K cap)(X:∃aM,Kept 0 0 W aM/\F=fk aM (w.heap.size+1) (.slice R m1 ad) (.slice K vs.length cap) (.slice U m3 ah))(aL:vs=vs0++M.1):
  PtP w R m1 ad U m3 ah vs0 base H M O (.returned (.tuple #[eX R m1 ad K vs.length cap U m3 ah,ih M.2,.bool O])) F:=by
 grind[MS.finP]
def PtC(w:World)(b1 b3:Option Addr)(m1 e1 cap m3 e3 base g2 i:Nat)(vs:List Vl)(k d:Int)(M:List Vl×Int)(bb:Bool):Prop:=
 Calls prog 129 #[eX b1 m1 e1 (some ⟨g2,0,none⟩) vs.length cap b3 m3 e3,.int .i64 (i:Int),.int .i64 k,.int .i64 d] w λe w'=>PtP w b1 m1 e1 b3 m3 e3 vs base (some g2) M bb e w'
theorem MS.len1{W}(h:MS w W R m1 ad U m3 ah vs v base H R' (some ⟨a2,0,none⟩) cap){j y}(hj:j<vs.length)(ax:(vs.getD j i0).len=y):W.cell? ⟨a2,j*6+1,none⟩=some (ih y):=by
 obtain⟨g,c,e,_,_,_,b⟩:=mV h.g.own xaa rfl;cases e;have:=(b.at_ j hj).c1;grind
def PfK(R:World->Prop)(p0 p1 p2 p3 p4 p5 p6 p7 p8 p11 p12 p13 p14 p15 p16 p17 p18 p19 q9 q10:Value)(K:Act->World->Prop):Prop:=∀{a b c d e f g h i j k l m n o p q r s t u v w x y z A B C D E F G H I J L M N O P Q S T U Vaa W X Y Z aa ab ad ae af ag ah ai aj ak al am an ao ap aq ar au av aw ax ay az aA aB aC aD aE aF aG aH aI aJ aK aL aM aN aO aP aQ aR aS aT aU aV aW aX aY aZ a0 a1 a2 a3 a4 a5 a6 a7 a8 a9 ba bb bc bd be bf bg bh bi bj bk bl bm bn bo bp bq br bs bt bu bv bw bx bz bA bB bC bD bE bF bG bH bI bJ bK bL bM bN bO bP bQ bR bS bT bU bV bW bX bY bZ b0 b1 b2 b3 b4 b5 b6 b7 b8 b9 ca cb cc cd ce cf cg ch ci cj ck cl cm cn co:Value} (W':World),R W'->K ⟨#[p0,p1,p2,p3,p4,p5,p6,p7,p8,q9,q10,p11,p12,p13,p14,p15,p16,p17,p18,p19,a,b,c,d,e,f,g,h,i,j,k,l,m,n,o,p,q,r,s,t,u,v,w,x,y,z,A,B,C,D,E,F,G,H,I,J,L,M,N,O,P,Q,S,T,U,Vaa,W,X,Y,Z,aa,ab,ad,ae,af,ag,ah,ai,aj,ak,al,am,an,ao,ap,aq,ar,au,av,aw,ax,ay,az,aA,aB,aC,aD,aE,aF,aG,aH,aI,aJ,aK,aL,aM,aN,aO,aP,aQ,aR,aS,aT,aU,aV,aW,aX,aY,aZ,a0,a1,a2,a3,a4,a5,a6,a7,a8,a9,ba,bb,bc,bd,be,bf,bg,bh,bi,bj,bk,bl,bm,bn,bo,bp,bq,br,bs,bt,bu,bv,bw,bx,bz,bA,bB,bC,bD,bE,bF,bG,bH,bI,bJ,bK,bL,bM,bN,bO,bP,bQ,bR,bS,bT,bU,bV,bW,bX,bY,bZ,b0,b1,b2,b3,b4,b5,b6,b7,b8,b9,ca,cb,cc,cd,ce,cf,cg,ch,ci,cj,ck,cl,cm,cn,co],[]⟩ W'
def PfC(n:Nat)(W:World)(R:World->Prop)(a b c d e f g h i t u j k l m o p q r s v w:Value):Prop:=
 ∀{K:Act->World->Prop}{x y z A B C D E F G H I J L M N O P Q S T U Vaa X Y Z aa ab ad ae af ag ah ai aj ak al am an ao ap aq ar au av aw ax ay az aA aB aC aD aE aF aG aH aI aJ aK aL aM aN aO aP aQ aR aS aT aU aV aW aX aY aZ a0 a1 a2 a3 a4 a5 a6 a7 a8 a9 ba bb bc bd be bf bg bh bi bj bk bl bm bn bo bp bq br bs bt bu bv bw bx bz bA bB bC bD bE bF bG bH bI bJ bK bL bM bN bO bP bQ bR bS bT bU bV bW bX bY bZ b0 b1 b2 b3 b4 b5 b6 b7 b8 b9 ca cb cc cd ce cf cg ch ci cj ck cl cm cn co cp cq cr cs ct cu cv cw cx cy cz cA cB cC cD cE cF cG cH cI cJ cK cL cM:Value},PfK R a b c d e f g h i j k l m o p q r s v w K->Code.wp prog (PZ n) (Exit.then K λ_ _ _=>False) ⟨#[a,b,c,d,e,f,g,h,i,t,u,j,k,l,m,o,p,q,r,s,x,y,z,A,B,C,D,E,F,G,H,I,J,L,M,N,O,P,Q,S,T,U,Vaa,X,Y,Z,aa,ab,ad,ae,af,ag,ah,ai,aj,ak,al,am,an,ao,ap,aq,ar,au,av,aw,ax,ay,az,aA,aB,aC,aD,aE,aF,aG,aH,aI,aJ,aK,aL,aM,aN,aO,aP,aQ,aR,aS,aT,aU,aV,aW,aX,aY,aZ,a0,a1,a2,a3,a4,a5,a6,a7,a8,a9,ba,bb,bc,bd,be,bf,bg,bh,bi,bj,bk,bl,bm,bn,bo,bp,bq,br,bs,bt,bu,bv,bw,bx,bz,bA,bB,bC,bD,bE,bF,bG,bH,bI,bJ,bK,bL,bM,bN,bO,bP,bQ,bR,bS,bT,bU,bV,bW,bX,bY,bZ,b0,b1,b2,b3,b4,b5,b6,b7,b8,b9,ca,cb,cc,cd,ce,cf,cg,ch,ci,cj,ck,cl,cm,cn,co,cp,cq,cr,cs,ct,cu,cv,cw,cx,cy,cz,cA,cB,cC,cD,cE,cF,cG,cH,cI,cJ,cK,cL,cM],[]⟩ W
