import Derived.Test.YtiacbhjphaldlaaGreatDoorP28
import Derived.Test.YtiacbhjphaldlaaGreatDoorP10
namespace Go.Proofs.Z
variable{k n t r}
variable{Zp:Prop}
open Tryz Go.RowKit Flt
set_option maxRecDepth 1000000
set_option maxHeartbeats 0
section
attribute[local go_sem] dI dG dF
variable{w D A:World}{bE:Array Oper}{lo p B hi j aO g i:Nat}{rest:List Oper}{s x:List UInt8}{o:Oper}{v:Value}{aI:List (List UInt8)}{ts:List Tok}{a:Act}{b:Option Addr}{i1:Exit->Act->World->Prop}
theorem oB(H:k<j-i):bt (fJ t i j) k=bt t (i+k):=by
 simp_all[bt,fJ]
def fh(t:List UInt8):List Int:=t.map λb=>(b.toNat:Int)
theorem nC(t k)(h:k<t.length):(fh t).getD k 0=bt t k:=by
 simp_all[fh,bt]
theorem xG(t):strOfNums (fh t)=⟨t.toArray⟩:=by
 simp_all[strOfNums,fh,List.map_congr_left]
theorem iZ(f:TxS w g aO n t)(c):(convert 22 9 (.slice (some ⟨g,aO,none⟩) n c)).run prog w=.ok (dJ t) w:=by
 have I:prog.underlying 5=some (.int .u8):=by kernel_rfl
 have ai:prog.underlying 9=some .string:=by kernel_rfl
 have h:=run_convert_bytes_arg w 22 5 underlying22 I g _ n c (fh t) (by unfold fh;rw[List.length_map];exact f.len) (λk H=>by rw[nC t k (it f.len H)];exact f.at_ k H) 9 ai;rw[xG]at h;exact h
theorem TxS.cut(f:TxS w g aO n t)(aK:j<=n):TxS w g (aO+i) (j-i) (fJ t i j):=
 ⟨kJ (it f.len aK),f.lt,λk H=>by
  rw[oB H,Nat.add_assoc]
  exact f.at_ _ xaa⟩
def mW:Array Value:=(keysL.map λl=>dJ l).toArray
theorem D7{w}:Calls prog 56 #[] w λe D=>e=.returned (hZ w.heap.size 15 15)/\w.alloc (.cells mW 9)=D:=by
 go_enter func56,ntmps56;go_wp2;go_ret;exact⟨rfl,rfl⟩
def iU(k:Tok):Value:=.agg #[dJ k.sym,.int .i64 (k.pos:Int),dJ k.text]
def NxO(w:World)(k:Tok)(j:Nat)(e:Ending)(w':World):Prop:=e=.returned (.tuple #[iU k,.int .i64 (j:Int)])/\Kept 0 0 w w'
structure TB(W:World)(p:Nat)(s:List UInt8)(k:Nat)(x:List UInt8):Prop where
 lt:p<W.heap.size
 c0:W.cell? ⟨p,0,none⟩=some (dJ s)
 c1:W.cell? ⟨p,1,none⟩=some (.int .i64 (k:Int))
 c2:W.cell? ⟨p,2,none⟩=some (dJ x)
 fr:∀o,W.frozen? ⟨p,o,none⟩=false
theorem TB.keep{W}(h:TB W p s k x)(q:Kept 0 0 W A):TB A p s k x:=
 ⟨yaj h.lt q.size,(q.cell (p:=⟨p,0,none⟩) h.lt xaa).trans h.c0,(q.cell (p:=⟨p,1,none⟩) h.lt xaa).trans h.c1,(q.cell (p:=⟨p,2,none⟩) h.lt xaa).trans h.c2,λo=>(q.frozen (p:=⟨p,o,none⟩) h.lt xaa).trans (h.fr o)⟩
theorem TB.sym{W}(h:TB W p s k x)(aX):TB (W.setCell ⟨p,0,none⟩ (dJ aX)) p aX k x:=
 ⟨by simpa using h.lt,eR h.c0,(dR (.inr xaa)).trans h.c1,(dR (.inr xaa)).trans h.c2,λo=>by simp[h.fr o]⟩
theorem TB.text{W}(h:TB W p s k x)(aX):TB (W.setCell ⟨p,2,none⟩ (dJ aX)) p s k aX:=
 ⟨by simpa using h.lt,(dR (.inr xaa)).trans h.c0,(dR (.inr xaa)).trans h.c1,eR h.c2,λo=>by simp[h.fr o]⟩
theorem TB.posn{W}(h:TB W p s k x)(aX:Nat):TB (W.setCell ⟨p,1,none⟩ (h0 aX)) p s aX x:=
 ⟨by simpa using h.lt,(dR (.inr xaa)).trans h.c0,eR h.c1,(dR (.inr xaa)).trans h.c2,λo=>by simp[h.fr o]⟩
theorem TB.other{W q o}(h:TB W p s k x)(an:q≠p):TB (W.setCell ⟨q,o,none⟩ v) p s k x:=
 ⟨by simpa using h.lt,(dR (.inl an)).trans h.c0,(dR (.inl an)).trans h.c1,(dR (.inl an)).trans h.c2,λo=>by simp[h.fr o]⟩
theorem gK(w:World)(s)(k:Nat)(x):TB (w.alloc (.cells #[dJ s,h0 k,dJ x] 39)) w.heap.size s k x:=
 ⟨by simp,by rw[yat];rfl,by rw[yat];rfl,by rw[yat];rfl,λo=>World.frozen?_alloc_at _ _ w.heap.size o rfl⟩
theorem mX{W}(k:Kept 0 0 w W){o}(h:w.heap.size<=p):Kept 0 0 w (W.setCell ⟨p,o,none⟩ v):=
 Chg.kept (S:=λi=>i=p) k ((d9 (lo:=p) (hi:=p+1) W ⟨p,o,none⟩ v yab).chg1 rfl) (λi hi=>by omega)
structure NI(w W:World)(s:List UInt8)(k:Nat)(x:List UInt8):Prop where
 r:TB W w.heap.size [] 0 []
 t:TB W (w.heap.size+1) s k x
 k:Kept 0 0 w W
theorem NI.keep{W}(h:NI w W s k x)(q:Kept 0 0 W A):NI w A s k x:=⟨h.r.keep q,h.t.keep q,h.k.trans q⟩
theorem NI.sym{W}(h:NI w W s k x)(aX):NI w (W.setCell ⟨w.heap.size+1,0,none⟩ (dJ aX)) aX k x:=⟨h.r.other xaa,h.t.sym aX,mX h.k xaa⟩
theorem NI.text{W}(h:NI w W s k x)(aX):NI w (W.setCell ⟨w.heap.size+1,2,none⟩ (dJ aX)) s k aX:=⟨h.r.other xaa,h.t.text aX,mX h.k xaa⟩
theorem zv(w)(i:Nat):NI w ((w.alloc (.cells #[dJ [],h0 (0:Nat),dJ []] 39)).alloc (.cells #[dJ [],h0 i,dJ []] 39)) [] i []:=by
 refine⟨(gK w _ 0 _).keep (dE 0 0 _ _),?_,(dE 0 0 w _).trans (dE 0 0 _ _)⟩;have h:=gK (w.alloc (.cells #[dJ [],h0 (0:Nat),dJ []] 39)) [] i [];simp_all
theorem NI.fin{W}(h:NI w W s k x):TB (((W.setCell ⟨w.heap.size,0,none⟩ (dJ s)).setCell ⟨w.heap.size,1,none⟩ (h0 k)).setCell ⟨w.heap.size,2,none⟩ (dJ x)) w.heap.size s k x/\Kept 0 0 w (((W.setCell ⟨w.heap.size,0,none⟩ (dJ s)).setCell ⟨w.heap.size,1,none⟩ (h0 k)).setCell ⟨w.heap.size,2,none⟩ (dJ x)):=
 ⟨((h.r.sym s).posn k).text x,mX (mX (mX h.k yac) yac) yac⟩
def qB(s:List UInt8)(k:Nat):List UInt8:=if s∈keysL.take k then s else eu
theorem D8(W aa:World)(k)(H:k<15)(h:Kept 0 0 (aa.alloc (.cells mW 9)) W):W.cell? ⟨aa.heap.size,k,none⟩=some (dJ (keysL.getD k [])):=by
 rw[h.cell xac xaa,yat];have ab:k<keysL.length:=H;show mW[k]? =_;unfold mW;simp_all
theorem BW(H:k<15)(h:keysL.getD k []=s):qB s (k+1)=s:=by
 unfold qB;rw[h3];have ab:k<keysL.length:=H;exact xhr
theorem zw(H:k<15)(h:keysL.getD k []≠s):qB s (k+1)=qB s k:=by
 unfold qB;have ab:k<keysL.length:=H;exact xfb
theorem D9(z:j<t.length):eF jz t j=if jy (bt t j)=true\/dig (bt t j)=true then eF jz t (j+1)else j:=by
 grind[nz,jz,jq]
structure KI(w W:World)(B:Nat)(x:List UInt8)(i k:Nat):Prop where
 n:NI w W (qB x k) i x
 lt:B<W.heap.size
 ne:w.heap.size+1<B
 c:∀q,q<15->W.cell? ⟨B,q,none⟩=some (dJ (keysL.getD q []))
theorem Ea{W}(h:NI w W eu i x):KI w (W.alloc (.cells mW 9)) W.heap.size x i 0:=
 ⟨h.keep (dE 0 0 W _),by simp,h.t.lt,λq an=>D8 _ W q an ib⟩
theorem KI.keep{W}(h:KI w W B x i k)(q:Kept 0 0 W A):KI w A B x i k:=
 ⟨h.n.keep q,yaj h.lt q.size,h.ne,λj aK=>(q.cell (p:=⟨B,j,none⟩) h.lt xaa).trans (h.c j aK)⟩
theorem KI.hit{W}(h:KI w W B x i k)(H:k<15)(e:keysL.getD k []=x):KI w (W.setCell ⟨w.heap.size+1,0,none⟩ (dJ x)) B x i (k+1):=by
 refine⟨?_,by simpa using h.lt,h.ne,λj aK=>(dR (.inl (ih h.ne))).trans (h.c j aK)⟩;rw[BW H e];exact h.n.sym x
theorem KI.miss{W}(h:KI w W B x i k)(H:k<15)(e:keysL.getD k []≠x):KI w W B x i (k+1):=by
 refine⟨?_,h.lt,h.ne,h.c⟩;rw[zw H e];exact h.n
theorem bK.qcf(h:Zp:=by
 go_wp2_with (go_at_call 55;refine yai (bM.o _) ?_;rintro e aa ⟨rfl,rfl⟩);clear c0;rename World=>W0
 go_loopw [7] (λbF W=>W=W0/\∃j:Nat,j<=n/\bF=h0 j/\M (eF jz t j=E)) (λbF _=>n-(intOf bF).toNat)
 case atStart=>grind
 case round=>
  obtain⟨rfl,j,aK,rfl,m⟩:=hrel;by_cases c6:j=E
  ·subst c6;by_cases aV:j<n
   ·have c1:=(bk.o _ bc.o.k).at_ j aV;have bC:=Q m.o;rw[D9 (it O.o aV)]at bC;have aJ:M _:=kD (bt t j) wr;have C:M _:=mT (bt t j) wr
    have aA:¬(jy _=true\/dig _=true):=λh=>by
     have z:=bC.o
     rw[h3 h]at z
     have:=mz jz t (j+1)
     omega
    have J:jy (bt t j)=false:=by grind
    have U:dig (bt t j)=false:=by grind
    rw[J]at C;rw[U]at aJ;clear aA J U bC;generalize bt t j=x at c1 aJ C
    go_upto_region 6 with (first
     |(go_at_call 55;refine yai C.o ?_;rintro e aa ⟨rfl,X⟩;obtain rfl:=X.symm)
     |(go_at_call 31;refine yai aJ.o ?_;rintro e aa ⟨rfl,X⟩;obtain rfl:=X.symm))
    clear c1 aJ C;have aE:M _:=iZ ((bk.o _ bc.o.k).cut (i:=i) aw.o.1) (cap-i);have aW:=aw.o.2;have bK:(0:Int)<=i:=xaa;have a9:(i:Int)<=j:=xaa;have bj:(j:Int)<=cap:=xaa;have K:((j:Int)-i).toNat=j-i:=xaa;have aU:=bc.o.t.c2;have bN:=bc.o.t.fr 2;have aj:=aE.o;go_upto_region 7 with fail;change Code.wp _ _ _ _ (wr.setCell _ (dJ _));have q:M _:=bc.o.text (fJ t i j);clear aE aj aU bN aW bK a9 bj K;generalize wr.setCell _ _=aq at q⊢;generalize ar:fJ t i j=x at q⊢;have be:=Q ar;clear ar;have aU:=q.o.t.c0;have bN:=q.o.t.fr 0;go_upto_region 8 with fail;change Code.wp _ _ _ _ (aq.setCell _ (dJ eu));have S:M _:=q.o.sym eu;clear aU bN q;generalize aq.setCell _ _=aH at S⊢;go_upto_region 9 with (go_at_call 56;refine yai D7 ?_;rintro e y ⟨rfl,rfl⟩);have ai:M _:=Ea S.o;generalize aH.alloc _=y at ai⊢;generalize aH.heap.size=B at ai⊢;clear S;go_wp2_with fail;go_loopw [9] (λbF W=>∃k:Nat,k<=15/\bF=h0 k/\M (KI w W B x i k)) (λbF _=>15-(intOf bF).toNat)
    case atStart=>exact⟨0,by omega,rfl,ai⟩
    case round=>
     exact xao
   go_upto_region 6 with fail;have aE:M _:=iZ ((bk.o _ bc.o.k).cut (i:=i) aw.o.1) (cap-i);have aW:=aw.o.2;have bK:(0:Int)<=i:=xaa;have a9:(i:Int)<=j:=xaa;have bj:(j:Int)<=cap:=xaa;have K:((j:Int)-i).toNat=j-i:=xaa;have aU:=bc.o.t.c2;have bN:=bc.o.t.fr 2;have aj:=aE.o;go_upto_region 7 with fail;change Code.wp _ _ _ _ (wr.setCell _ (dJ _));have q:M _:=bc.o.text (fJ t i j);clear aE aj aU bN aW bK a9 bj K;generalize wr.setCell _ _=aq at q⊢;generalize ar:fJ t i j=x at q⊢;have be:=Q ar;clear ar;have aU:=q.o.t.c0;have bN:=q.o.t.fr 0;go_upto_region 8 with fail;change Code.wp _ _ _ _ (aq.setCell _ (dJ eu));have S:M _:=q.o.sym eu;clear aU bN q;generalize aq.setCell _ _=aH at S⊢;go_upto_region 9 with (go_at_call 56;refine yai D7 ?_;rintro e y ⟨rfl,rfl⟩);have ai:M _:=Ea S.o;generalize aH.alloc _=y at ai⊢;generalize aH.heap.size=B at ai⊢;clear S;go_wp2_with fail;go_loopw [9] (λbF W=>∃k:Nat,k<=15/\bF=h0 k/\M (KI w W B x i k)) (λbF _=>15-(intOf bF).toNat)
   case atStart=>grind
   case round=>
    exact xao
  have aV:j<n:=by
   obtain c|c:=Nat.lt_or_ge j n
   ·exact c
   exact absurd ((jq (λh=>ih O.o)).symm.trans m.o) c6
  have c1:=(bk.o _ bc.o.k).at_ j aV;have bC:=Q m.o;rw[D9 (it O.o aV)]at bC;have aJ:M _:=kD (bt t j) wr;have C:M _:=mT (bt t j) wr;generalize bt t j=x at c1 aJ C bC;cases J:jy x
  ·rw[J]at C bC;cases U:dig x
   ·rw[U]at bC;exact absurd (by simpa using bC.o) c6
   rw[U]at aJ bC;have R:M (eF jz t (j+1)=E):=by grind
   go_wp2_with (first
    |(go_at_call 55;refine yai C.o ?_;rintro e aa ⟨rfl,rfl⟩)
    |(go_at_call 31;refine yai aJ.o ?_;rintro e aa ⟨rfl,rfl⟩))
   grind[intOf]
  rw[J]at C bC;have R:M (eF jz t (j+1)=E):=by grind
  go_wp2_with (first
   |(go_at_call 55;refine yai C.o ?_;rintro e aa ⟨rfl,rfl⟩))
  grind[intOf]):Zp:=h
open bK in
theorem BY(w g){aO}(n){cap}(t)(f:TxS w g aO n t)(i)(hi:i<n)(V:n<=1000000)(aY:n<=cap)(I:jy (bt t i)=true):
  Calls prog 29 #[.slice (some ⟨g,aO,none⟩) n cap,h0 i] w (NxO w (nxT t i) (nxE t i)):=by
 have bk:M (∀W,Kept 0 0 w W->_):=λW k=>f.keep k;have bW:M (nxT t i=⟨_,i,_⟩):=h3 I;have bS:M (nxE t i=eF _ t i):=h3 I;have aw:M (eF jz t i<=n/\i<=eF jz t i):=⟨by rw[<-f.len];exact iC _ _ _ (ix f.len),mz _ _ _⟩
 have O:=Q f.len;have aG:=f.lt;have bM:M (∀W,Calls _ _ _ W λe D=>e=.returned (.bool true)/\D=W):=λW=>by rw[<-I];exact mT _ W
 unfold NxO;rw[bW.o,bS.o];obtain⟨E,l⟩:∃E,E=eF jz t i:=⟨_,rfl⟩
 rw[<-l]at aw⊢;have aF:=Q l.symm;clear l bW bS f I;exact qce
theorem xH{E}(h:eF dig t j=E)(aK:j<t.length)(bl:j=E):dig (bt t j)=false:=by
 subst bl;cases c:dig (bt t j)
 ·rfl
 have:=iV aK c;omega
theorem Eb{E}(h:eF dig t j=E)(bl:j≠E):j<t.length/\dig (bt t j)=true/\eF dig t (j+1)=E:=by
 have z:=h;rw[eF]at z;split at z
 ·rename_i c;exact⟨c.1,c.2,z⟩
 exact absurd z bl
theorem Ec(w g){aO}(n){cap}(t)(f:TxS w g aO n t)(i)(hi:i<n)(V:n<=1000000)(aY:n<=cap)(I:jy (bt t i)=false)(aT:dig (bt t i)=true):
  Calls prog 29 #[.slice (some ⟨g,aO,none⟩) n cap,h0 i] w (NxO w (nxT t i) (nxE t i)):=by
 have bk:M (∀W,Kept 0 0 w W->_):=λW k=>f.keep k;have bW:M (nxT t i=⟨mB t i,i,fJ t i (jl t i)⟩):=by show _=_;unfold nxT;rw[I,h2 xac,h3 aT]
 have bS:M (nxE t i=jl t i):=by show _=_;unfold nxE;rw[I,h2 xac,h3 aT]
 have aw:M (eF dig t i<=n/\i<=eF dig t i):=⟨by rw[<-f.len];exact iC _ _ _ (ix f.len),mz _ _ _⟩
 have O:=Q f.len;have aG:=f.lt;have bM:M (∀W,Calls _ _ _ W λe D=>e=.returned (.bool false)/\D=W):=λW=>by rw[<-I];exact mT _ W
 have af:M (∀W,Calls _ _ _ W λe D=>e=.returned (.bool true)/\D=W):=λW=>by rw[<-aT];exact kD _ W
 have P:M (jl t i=if eF _ t i+1<t.length/\bt t _=46/\dig _=true then eF _ t _ else eF _ t i):=rfl;have T:M (mB t i=if eF _ t i+1<t.length/\bt t _=46/\dig _=true then iS else fx):=rfl;unfold NxO;rw[bW.o,bS.o];obtain⟨E,l⟩:∃E,E=eF dig t i:=⟨_,rfl⟩
 rw[<-l]at aw P T;have aF:=Q l.symm;clear l bW bS f I aT;generalize jl t i=ab at P⊢;generalize mB t i=ad at T⊢;go_enter func29,ntmps29;go_upto_region 3 with fail;have bc:M _:=zv w i;change Code.wp _ _ _ _ ((w.alloc (.cells #[dJ _,.int _ _,dJ _] 39)).alloc (.cells #[dJ _,h0 _,dJ _] 39));generalize (w.alloc _).alloc _=W0 at bc⊢;have c0:=(bk.o _ bc.o.k).at_ i hi;generalize bt t i=bG at c0 bM af
 go_upto_region 16 with (first
  |(go_at_call 55;refine yai (bM.o _) ?_;rintro e aa ⟨rfl,X⟩;obtain rfl:=X.symm)
  |(go_at_call 31;refine yai (af.o _) ?_;rintro e aa ⟨rfl,X⟩;obtain rfl:=X.symm))
 have aU:=bc.o.t.c0;have bN:=bc.o.t.fr 0;go_upto_region 17 with fail;change Code.wp _ _ _ _ (W0.setCell _ (dJ fx));have S:M _:=bc.o.sym fx;clear aU bN bc c0;generalize W0.setCell _ _=aH at S⊢;go_loopw [7] (λbF W=>W=aH/\∃j:Nat,j<=n/\bF=h0 j/\M (eF dig t j=E)) (λbF _=>n-(intOf bF).toNat)
 case atStart=>exact⟨rfl,i,by omega,rfl,aF⟩
 case round=>
  obtain⟨rfl,j,aK,rfl,m⟩:=hrel;by_cases c6:j=E
  ·by_cases aV:j<n
   ·have c1:=(bk.o _ S.o.k).at_ j aV;have aJ:M _:=kD (bt t j) wr;rw[xH m.o (it O.o aV) c6]at aJ;subst c6;generalize ae:bt t j=ag at c1 aJ P T;go_upto_region 19 with (go_at_call 31;refine yai aJ.o ?_;rintro e aa ⟨rfl,X⟩;obtain rfl:=X.symm);by_cases co:j+1<n
    ·by_cases u:ag=46
     ·have r:M _:=kD (bt t (j+1)) wr;have c2:=(bk.o _ S.o.k).at_ _ co;subst u;cases Z:dig (bt t (j+1))
      ·have b0:M (ad=fx/\ab=j):=⟨T.o.trans (h2 (λh=>by rw[Z]at h;exact absurd h.2.2 xac)),P.o.trans (h2 (λh=>by rw[Z]at h;exact absurd h.2.2 xac))⟩
       have c:M (i<=j/\j<=n):=⟨aw.o.2,aw.o.1⟩
       rw[Z]at r;clear aJ ae Z P T;generalize bt t _=ai at c2 r;go_upto_region 24 with (go_at_call 31;refine yai r.o ?_;rintro e aa ⟨rfl,X⟩;obtain rfl:=X.symm);clear c1 c2 r;exact xag
      have an:M (ad=iS/\ab=eF _ t _):=⟨T.o.trans (h3 ⟨it O.o co,rfl,Z⟩),P.o.trans (h3 ⟨it O.o co,rfl,Z⟩)⟩
      rw[Z]at r;clear aJ ae Z P T;generalize bt t _=ai at c2 r;go_upto_region 20 with (go_at_call 31;refine yai r.o ?_;rintro e aa ⟨rfl,X⟩;obtain rfl:=X.symm);clear c1 c2 r;have aU:=S.o.t.c0;have bN:=S.o.t.fr 0;go_upto_region 21 with fail;change Code.wp _ _ _ _ (wr.setCell _ (dJ iS));have U:M _:=S.o.sym iS;clear aU bN S;generalize wr.setCell _ _=y at U⊢;have aX:M (eF dig t (j+1)<=n/\i<=eF dig t (j+1)):=⟨by rw[<-O.o];exact iC _ _ _ (ix O.o),ip (mz dig t (j+1)) aw.o.2⟩
      obtain⟨F,a0⟩:∃F,F=eF dig t (j+1):=⟨_,rfl⟩
      rw[<-a0]at an aX;have ak:=Q a0.symm;clear a0;go_wp2_with fail;go_loopw [7] (λbF W=>W=y/\∃j:Nat,j<=n/\bF=h0 j/\M (eF dig t j=F)) (λbF _=>n-(intOf bF).toNat)
      case atStart=>exact⟨rfl,j+1,by omega,by go_num,ak⟩
      case round=>
       obtain⟨rfl,k,H,rfl,bd⟩:=hrel;by_cases C:k=F
       ·by_cases cz:k<n
        ·have c3:=(bk.o _ U.o.k).at_ k cz;have Y:M _:=kD (bt t k) wr;rw[xH bd.o (it O.o cz) C]at Y;subst C;have b0:=Q an.o;have c:M (i<=k/\k<=n):=⟨aX.o.2,aX.o.1⟩
         generalize bt t k=ah at c3 Y;go_upto_region 24 with (go_at_call 31;refine yai Y.o ?_;rintro e aa ⟨rfl,X⟩;obtain rfl:=X.symm);clear c3 Y;exact xaz
        subst C;have b0:=Q an.o;have c:M (i<=k/\k<=n):=⟨aX.o.2,aX.o.1⟩
        go_upto_region 24 with fail;exact xaz
       obtain⟨z,J,al⟩:=Eb bd.o C;have cz:k<n:=by rw[O.o]at z;exact z
       have c3:=(bk.o _ U.o.k).at_ k cz;have Y:M _:=kD (bt t k) wr;rw[J]at Y;have R:=Q al;clear z J al;generalize bt t k=ah at c3 Y;go_wp2_with (go_at_call 31;refine yai Y.o ?_;rintro e aa ⟨rfl,X⟩;obtain rfl:=X.symm);exact xcc
     have b0:M (ad=fx/\ab=j):=⟨T.o.trans (h2 (λh=>u h.2.1)),P.o.trans (h2 (λh=>u h.2.1))⟩
     have c:M (i<=j/\j<=n):=⟨aw.o.2,aw.o.1⟩
     have am:(ag==46)=false:=by simpa using u
     clear aJ ae P T u;exact xaw
    have b0:M (ad=fx/\ab=j):=⟨T.o.trans (h2 (λh=>ih O.o)),P.o.trans (h2 (λh=>ih O.o))⟩
    have c:M (i<=j/\j<=n):=⟨aw.o.2,aw.o.1⟩
    clear aJ ae P T;exact xaw
   subst c6;have b0:M (ad=fx/\ab=j):=⟨T.o.trans (h2 (λh=>ih O.o)),P.o.trans (h2 (λh=>ih O.o))⟩
   have c:M (i<=j/\j<=n):=⟨aw.o.2,aw.o.1⟩
   clear P T;go_upto_region 19 with fail;go_upto_region 24 with fail;exact xag
  obtain⟨z,J,al⟩:=Eb m.o c6;have aV:j<n:=by rw[O.o]at z;exact z
  have c1:=(bk.o _ S.o.k).at_ j aV;have aJ:M _:=kD (bt t j) wr;rw[J]at aJ;have R:=Q al;clear z J al;generalize bt t j=ah at c1 aJ;go_wp2_with (go_at_call 31;refine yai aJ.o ?_;rintro e aa ⟨rfl,X⟩;obtain rfl:=X.symm);exact xgq
def vD(x:UInt8)(k:Nat):List UInt8:=if x∈onesL.take k then[x] else[]
theorem Ed{x}(H:k<10)(h:onesL.getD k 0=x):vD x (k+1)=[x]:=by
 unfold vD;rw[h3];have ab:k<onesL.length:=H;exact xhr
theorem BZ{x}(H:k<10)(h:onesL.getD k 0≠x):vD x (k+1)=vD x k:=by
 unfold vD;have ab:k<onesL.length:=H;exact xfb
abbrev onesS:ByteArray:={data:=#[43,45,42,47,40,41,44,59,58,61]}
theorem Ee:∀k:Fin 10,onesS.extract k.1 (k.1+1)=⟨#[onesL.getD k.1 0]⟩:=by decide+kernel
theorem Ef:∀k:Fin 10,∀h,((onesS[k.1]'h).toNat:Int)=bt onesL k.1:=by decide+kernel
theorem Iq(k)(H:k<10)(h):((onesS[k]'h).toNat:Int)=bt onesL k:=Ef ⟨k,H⟩ h
theorem bL.qcf(h:Zp:=by
 have bx:M _:=λW k=>(bk.o W k).at_ i hi;generalize bt t i=bG at c0 bM af F bx
 go_upto_region 26 with (first
  |(go_at_call 55;refine yai (bM.o _) ?_;rintro e aa ⟨rfl,X⟩;obtain rfl:=X.symm)
  |(go_at_call 31;refine yai (af.o _) ?_;rintro e aa ⟨rfl,X⟩;obtain rfl:=X.symm))
 clear c0 bM af bk;go_wp2_with fail;go_loopw [11] (λbF W=>∃k:Nat,k<=10/\bF=h0 k/\M (NI w W (vD m k) i (vD m k))) (λbF _=>10-(intOf bF).toNat)
 case atStart=>exact⟨0,by omega,rfl,bc⟩
 case round=>
  obtain⟨k,H,rfl,bh⟩:=hrel;by_cases l:k<10
  ·have c1:=bx.o _ bh.o.k
   have u:M (onesL.getD k 0=m↔bt onesL k=bG):=by
    show _↔_;rw[F.o];unfold bt;constructor
    ·grind
    intro h;exact UInt8.toNat_inj.1 xaa
   have aY:∀h,_:=λh=>Iq k l h;have ar:onesS.extract k (k+1)=⟨#[onesL.getD k 0]⟩:=Ee ⟨k,l⟩;generalize bt _ k=y at u aY;go_upto_region 30 with fail;go_quiet (fail)
   have aZ:M _:=bh.o.keep (ed 0 0 nq);clear c1 bh;generalize wr.drewN _=cI at aZ⊢;have aP:=aZ.o.t.c0;have aQ:=aZ.o.t.fr 0;have aU:=aZ.o.t.c2;have bN:=aZ.o.t.fr 2;cases an:(y==bG)
   ·have aR:onesL.getD k 0≠m:=λc=>by have:=u.o.1 c;rw[this]at an;simp at an
    have R:=Q aZ.o;rw[<-BZ l aR]at R;clear aZ aR ar aP aQ aU bN;go_wp2_with fail;grind[intOf]
   have aR:=u.o.2 (by simpa using an);have R:M _:=(aZ.o.sym [m]).text [m];rw[aR]at ar;have bH:=Ed l aR;have O:=Q bH;have cz:M (dJ [m]=.string _):=rfl;generalize vD _ k=bq at aP aU aZ;clear aZ aR bH;have a9:IntKind.i64.wrap (k+1)=k+1:=by rw[IntKind.wrap_i64];omega
   have bj:(0:Int)<=k:=xaa;have bI:(k:Int)+1<=10:=xaa;go_wp2_with fail;go_roundw
   case rel=>exact⟨k+1,by omega,by go_num,it O.o R⟩
   case measure=>simp[intOf];omega
  obtain rfl:k=10:=xaa;have r:=Q bh.o;rw[show vD _ _=iD _ from rfl]at r;generalize P:iD _=T at r;have az:=Q P;clear P;obtain⟨_,b2,r1,bp,au⟩:=r.o.r;obtain⟨_,bJ,ba,bu,L⟩:=r.o.t;have a6:=au 0;have bn:=au 1;have cc:=au 2;have R:=Q r.o.fin;have a9:IntKind.i64.wrap (i+1)=i+1:=by rw[IntKind.wrap_i64];omega
  clear bh au L r;go_wp2_with fail;change bodyPost _ _ _ _ _ (((wr.setCell _ (dJ _)).setCell _ _).setCell _ (dJ _));generalize ((wr.setCell _ _).setCell _ _).setCell _ _=bv at R⊢;obtain⟨⟨_,bZ,aS,bO,_⟩,G⟩:=R.o;refine yax (v:=.tuple #[.agg #[dJ T,h0 i,dJ T],h0 ((i:Int)+1)]) (by simp[results,results29,go_sem,bZ,aS,bO]) rfl ⟨?_,G⟩;rw[az.o,Int.natCast_add];rfl):Zp:=h
open bL in
theorem B0(w g){aO}(n){cap}(t)(f:TxS w g aO n t)(i)(hi:i<n)(V:n<=1000000)(I:jy (bt t i)=false)(aT:dig (bt t i)=false):
  Calls prog 29 #[.slice (some ⟨g,aO,none⟩) n cap,h0 i] w (NxO w (nxT t i) (nxE t i)):=by
 have bk:M (∀W,Kept 0 0 w W->_):=λW k=>f.keep k;have bW:M (nxT t i=⟨iD (t.getD i 0),i,iD (t.getD i 0)⟩):=by show _=_;unfold nxT;simp_all
 have bS:M (nxE t i=i+1):=by show _=_;unfold nxE;simp_all
 have aG:=f.lt;have bM:M (∀W,Calls _ _ _ W λe D=>e=.returned (.bool false)/\D=W):=λW=>by rw[<-I];exact mT _ W
 have af:M (∀W,Calls _ _ _ W λe D=>e=.returned (.bool false)/\D=W):=λW=>by rw[<-aT];exact kD _ W
 have F:M (bt t i=((t.getD i 0).toNat:Int)):=rfl;unfold NxO;rw[bW.o,bS.o];clear bW bS f I aT;generalize t.getD i 0=m at F⊢;exact qce
theorem Ms{w}(g){aO}(n){cap}(t)(f:TxS w g aO n t)(i)(hi:i<n)(V:n<=1000000)(aY:n<=cap):
  Calls prog 29 #[.slice (some ⟨g,aO,none⟩) n cap,h0 i] w (NxO w (nxT t i) (nxE t i)):=by
 cases I:jy (bt t i)
 ·cases aT:dig (bt t i)
  ·exact B0 w g n t f i hi V I aT
  exact Ec w g n t f i hi V aY I aT
 exact BY w g n t f i hi V aY I
theorem lQ{P}(w)(an:o.guard=none)(s x t)
  (av:o.op=.call {callee:=.builtin .append,args:=#[s,x],argTypes:=#[t,t]})
  (base) (e) (i) (aX) (size n) (az:P.underlying t=some (.slice e)) (hi:P.info? e=some i) (bR:i.zero=some aX)
  (r:i.size=size) (q:i.bytes=n) (C:aX.cells.size=size) (bY:0<size) (ai:a.eval s=.slice none 0 0)
  (b) (m c) (k) (ar:a.eval x=.slice b m c) (ab:k.length=m*size) (y:(b=none/\m=0)\/∃I,b=some I/\∀j u,k[j]? =some u->w.cell? (I.add j)=some u) (z:∀u∈k,u.oneCell'=true)
  (F:m<=maxLen) (G:m*n<=140737488355328) (l:base<=w.heap.size)
  (h:∀ae D,D.ownsRow base e size ae m k->w.grownBy D none->wpList P bE i1 rest (a.put o.dst ae) D):wpList P bE i1 (o::rest) a w:=by
 obtain⟨rfl,rfl⟩|⟨I,rfl,V⟩:=y
 ·have f:=List.length_eq_zero_iff.1 (ix ab);subst f
  have ah:(Builtin.append_ #[t,t] o.type #[.slice none 0 0,.slice none 0 c]).run P w=.ok (.slice none 0 0) w:=by
   simp[Builtin.append_,run_underlying az,sizeOf,typeInfo,hi,Builtin.lenOf,run_firstCells_none]
  refine wpList_plain an λ_ bd=>?_;unfold Oper.wp execOp;simp only[av,resolve,invoke,builtin,Sem.run_bind,Sem.run_pure,Result.andThen_ok,List.map_toArray,List.map_cons,List.map_nil,ai,ar,ah];exact bd _ _ (h _ _ (yau w e) ⟨rfl,rfl,rfl,yac,λ_ _ _=>rfl⟩)
 refine wpList_append_own w an s x t av _ e i aX _ _ az hi bR r q C bY _ 0 _ ai (yau w e) _ m c _ ar ab V z xaa (by grind) l ?_;intro ae D bg a8 _;rw[Nat.zero_add,List.nil_append]at bg;exact h _ _ bg a8
theorem fL(g aO j):(⟨g,aO,none⟩:Addr).add j=⟨g,aO+j,none⟩:=by
 simp[Addr.add_lit]
theorem PU{G}(h:IS w lo hi b n G):(b=none/\n=0)\/∃I,b=some I/\∀j u,(G.map (Value.int .i64))[j]? =some u->w.cell? (I.add j)=some u:=by
 have ab:=h.len;obtain aX|⟨g,aO,rfl,_,_,_,aj⟩:=h.at_
 ·subst aX;have:=List.length_eq_zero_iff.1 ab;subst this;cases b<;>grind
 refine .inr ⟨_,rfl,λj u bd=>?_⟩;have aK:j<n:=by grind
 rw[fL,aj j aK];simp_all
theorem PV{vs}(h:VS w lo hi b n vs):(b=none/\n=0)\/∃I,b=some I/\∀j u,(f9 vs)[j]? =some u->w.cell? (I.add j)=some u:=by
 have ab:=h.len;obtain aX|⟨g,aO,rfl,_,_,_,aj⟩:=h.at_
 ·subst aX;have:=List.length_eq_zero_iff.1 ab;subst this;cases b<;>grind[f9]
 refine .inr ⟨_,rfl,λj u bd=>?_⟩;have aK:j<n*6:=by grind[wV]
 have q:j=j/6*6+j%6:=xaa;have H:j/6<n:=xaa;rw[q,uZ _ _ _ xaa xaa]at bd;rw[fL];obtain⟨c0,c1,c2,c3,c4,c5⟩:=aj _ H;grind[Vl.cells]
theorem qC(w){lo T b n c G}(bw:n<=1000000)(h:IS w lo T b n G):
  Calls prog 119 #[.slice b n c] w λe D=>∃a cap,e=.returned (.slice a n cap)/\D.ownsRow w.heap.size 3 1 (.slice a n cap) n (G.map (Value.int .i64))/\Kept 0 0 w D:=by
 obtain⟨bS,hi,ch,b6,ci⟩:=info_parts qy;have bc:M _:=PU h;have be:=Q h.len;clear h;go_enter func119,ntmps119;go_wp2_with (first|(at_builtin;refine lQ _ rfl _ _ _ rfl w.heap.size 3 _ _ 1 8 underlying23 hi ch b6 ci rfl xab rfl b n c _ rfl ?c0 bc.o ?c2 ?c3 ?c4 ?c5 ?_))
 case c0=>rw[List.length_map,be.o,Nat.mul_one]
 case c2=>intro u bd;obtain⟨x,_,rfl⟩:=List.mem_map.1 bd;rfl
 case c3=>unfold maxLen;omega
 case c4=>omega
 case c5=>omega
 intro ae bn aB a0;obtain⟨a,cap,rfl⟩:=jM aB;have R:M _:=mP a0 (λk H=>by cases H) (Kept.refl 0 0 w) yac;have bP:=Q aB;clear aB a0;go_wp2;go_ret;exact⟨a,_,rfl,bP.o,R.o⟩
def tkc(k:Tok):List Value:=[dJ k.sym,.int .i64 (k.pos:Int),dJ k.text]
def tkF:List Tok->List Value
 |[]=>[]
 |k::r=>tkc k++tkF r
theorem Ir(a b):tkF (a++b)=tkF a++tkF b:=by
 induction a<;>grind[tkF]
theorem Is(k):tkF [k]=tkc k:=by simp[tkF]
theorem Eg:∀(a:List Tok) (k j:Nat),k<a.length->j<3->(tkF a)[k*3+j]? =(tkc (a.getD k h8))[j]?
 |x::r,0,j,_,aK=>by
  grind[tkF,tkc]
 |x::r,k+1,j,H,aK=>by
  have ar:(tkc x).length=3:=rfl
  rw[tkF,yaq xaa,ar,show(k+1)*3+j-3=k*3+j by omega]
  exact Eg r k j (by grind) aK
def TR(W:World)(B:Nat)(v:Value)(ts:List Tok):Prop:=W.ownsRow B 39 3 v ts.length (tkF ts)
theorem TR.keep{W}(f:TR W B v ts)(k:Kept 0 0 W A):TR A B v ts:=dW f k
theorem TR.nil(W B):TR W B (.slice none 0 0) []:=yau _ _
theorem TR.blk{W}(f:TR W B v ts)(h:v.ownBlock=some g):B<=g/\g<W.heap.size:=dO f h
structure TkA(w:World)(g off n:Nat)(ts:List Tok):Prop where
 len:ts.length=n
 lt:g<w.heap.size
 c0:∀k,k<n->w.cell? ⟨g,off+k*3,none⟩=some (dJ (ts.getD k h8).sym)
 c1:∀k,k<n->w.cell? ⟨g,off+k*3+1,none⟩=some (.int .i64 ((ts.getD k h8).pos:Int))
 c2:∀k,k<n->w.cell? ⟨g,off+k*3+2,none⟩=some (dJ (ts.getD k h8).text)
theorem TR.at_{W}(f:TR W B v ts)(h:0<ts.length):∃g cap,v=hZ g ts.length cap/\B<=g/\TkA W g 0 ts.length ts/\ts.length<=cap:=by
 obtain⟨_,c⟩|⟨g,cap,bp,rfl,L,bi,U,_,aF,ah⟩:=f.2
 ·omega
 have aG:g<W.heap.size:=by grind
 have key:∀k j,k<ts.length->j<3->W.cell? _=(tkc _)[j]?:=λk j H aK=>by
  rw[cell_of_row W g _ _ _ _ bi,<-Array.getElem?_toList]
  have:(bp.toList.take (ts.length*3))[k*3+j]? =(tkF ts)[k*3+j]?:=by rw[ah]
  rw[List.getElem?_take_of_lt xaa]at this
  rw[this]
  exact Eg _ k j H aK
 refine⟨g,_,rfl,L,⟨rfl,aG,λk H=>?_,λk H=>?_,λk H=>?_⟩,U⟩
 ·rw[Nat.zero_add];exact key k 0 H xaa
 ·rw[Nat.zero_add];exact key k 1 H xaa
 rw[Nat.zero_add];exact key k 2 H xaa
theorem Mt:(prog.info? 39).map (λi=>(i.zero,i.size,i.bytes))=some (some (.agg #[.string ⟨#[]⟩,h0 0,.string ⟨#[]⟩]),3,40):=by kernel_rfl
theorem vE:∃bS,prog.info? 39=some bS/\bS.zero=some (.agg #[.string ⟨#[]⟩,h0 0,.string ⟨#[]⟩])/\bS.size=3/\bS.bytes=40:=by
 have h:=Mt;simp_all
theorem xI(w:World)(k T):∀j u,(tkc k)[j]? =some u->(w.alloc (.cells #[dJ k.sym,h0 k.pos,dJ k.text] T)).cell? ((⟨w.heap.size,0,none⟩:Addr).add j)=some u:=by
 exact xgc
theorem mY(w)(an:o.guard=none)(s x)
  (av:o.op=.call {callee:=.builtin .append,args:=#[s,x],argTypes:=#[35,35]})
  (B) (v) (ts) (ai:a.eval s=v) (aW:TR w B v ts)
  (I) (k) (ar:a.eval x=.slice (some I) 1 1) (C:∀j u,(tkc k)[j]? =some u->w.cell? (I.add j)=some u)
  (F:ts.length+1<=1000000) (l:B<=w.heap.size)
  (h:∀g cap n D,n=(ts++[k]).length->TR D B (hZ g n cap) (ts++[k])->Chg (λb=>v.ownBlock=some b) w D->(v.ownBlock=some g\/g=w.heap.size)->wpList prog bE i1 rest (a.put o.dst (hZ g n cap)) D):wpList prog bE i1 (o::rest) a w:=by
 obtain⟨bS,hi,ch,b6,ci⟩:=vE;refine wpList_append_lies w an s x _ av B 39 _ _ 3 _ underlying35 hi ch b6 ci rfl xab v _ _ ai aW _ 1 1 _ ar rfl C ?_ xab (by unfold maxLen;omega) xaa l _ rfl ?_
 ·intro u bd;simp[tkc]at bd;obtain rfl|rfl|rfl:=bd<;>rfl
 intro g cap D z J al _;have e:ts.length+1=(ts++[k]).length:=by grind
 rw[e]at z⊢;refine h g _ _ _ rfl ?_ (eD J) al;unfold TR;rw[Ir,Is];exact z
theorem AC{W}(ax:w.heap.size<=B)(k:Kept 0 0 w W)(f:TR W B v ts)(c:Chg (λb=>v.ownBlock=some b) W A):Kept 0 0 w A:=
 Chg.kept k c (λ_ hi=>yan ax (f.blk hi).1)
theorem Eh(w g){aO}(n){cap}(t)(f:TxS w g aO n t)(V:n<=100000)(aY:n<=cap):
  Calls prog 12 #[.slice (some ⟨g,aO,none⟩) n cap] w λe D=>∃v,e=.returned v/\TR D w.heap.size v (eK t)/\Kept 0 0 w D:=by
 have bk:M (∀W,Kept 0 0 w W->_):=λW k=>f.keep k;have bY:M _:=D1 w g n cap t f 0 xaa xaa;have O:=Q f.len;have br:M (skM t 0<=n):=by show _<=_;rw[<-f.len];exact vu t 0 yad
 clear f;obtain⟨aH,bo⟩:∃aH,aH=eK t:=⟨_,rfl⟩
 rw[<-bo];have b0:M ([]++jx t _=aH):=bo.symm;clear bo;go_enter func12,ntmps12;go_wp2_with (go_at_call 28;refine yai bY.o ?_;rintro e aa ⟨rfl,X⟩;obtain rfl:=X.symm);go_loopw [3,4] (λv bF W=>∃(k:Nat) (l:List Tok),k<=n/\l.length<=k/\bF=h0 k/\M (TR W w.heap.size v l)/\M (Kept 0 0 w W)/\M (l++jx t k=aH)) (λ_ bF _=>n-(intOf bF).toNat)
 case atStart=>exact⟨_,_,br.o,yad,rfl,TR.nil _ _,Kept.refl 0 0 w,b0⟩
 case round=>
  obtain⟨k,l,H,z,rfl,au,bd,C⟩:=hrel;by_cases aV:k<n
  ·have q:k<t.length:=by rw[O.o];exact aV
   have be:M _:=Ms g n t (bk.o _ bd.o) k aV xaa aY;have aw:M (k<nxE t k/\nxE t k<=n/\nxE t k<=skM t _/\skM t _<=n):=⟨oz q,by rw[<-O.o];exact D0 q,mA _ _,by rw[<-O.o];exact vu t _ (D0 q)⟩
   have r:M ((nxT t k).sym=[]->l++[nxT t k]=aH):=λh=>by rw[<-C.o,ue q h]
   have F:M ((nxT t k).sym≠[]->(l++[nxT t k])++jx t (skM t (nxE t k))=aH):=λh=>by rw[<-C.o,xA q h];simp
   unfold NxO iU at be;generalize nxT t k=af at be r F;have en:M _:=λW ae=>D1 W g n cap t (bk.o W ae) _ aw.o.2.1 xaa;generalize nxE t k=ne at be aw F en;generalize skM t _=y at aw F en;have u:M _:=λZ:World=>xI Z af 39;obtain⟨ba,ps,bv⟩:=af;simp only at be r F u;clear C q
   go_wp2_with (first
    |(go_at_call 29;refine yai be.o ?_;rintro e Z ⟨rfl,ad⟩)
    |(at_builtin;refine mY _ rfl _ _ rfl _ _ _ rfl ((au.o.keep ad).keep ((dE 0 0 _ _).trans (dE 0 0 _ _))) _ ⟨ba,ps,bv⟩ rfl ?c1 ?c2 ?c3 ?_)
    |fail)
   case c1=>
    have bf:=u.o (Z.alloc (.cells #[dJ ba,h0 ps,dJ bv] 39));rw[show(Z.alloc _).heap.size=Z.heap.size+1 by simp]at bf;exact bf
   case c2=>omega
   case c3=>have:=bd.o.size;have:=ad.size;simp;omega
   intro g9 cap9 n9 bn b4 ca bO cn;have bm:=Q ca;have m:=(bd.o.trans ad).trans ((dE 0 0 _ (.cells #[dJ ba,h0 ps,dJ bv] 39)).trans (dE 0 0 _ (.cells #[dJ ba,h0 ps,dJ bv] 39)));have bP:M _:=AC yac m ((au.o.keep ad).keep ((dE 0 0 _ _).trans (dE 0 0 _ _))) bO
   have aP:bn.cell? ⟨Z.heap.size,0,none⟩=some (dJ ba):=by
    rw[bO.cell yaf (λc=>by have:=(au.o.blk c).2;have:=ad.size;simp at*;omega),(dE 0 0 _ _).cell xac xaa,yat];rfl
   clear ca bO cn b4 m;cases ai:(ba==[])
   ·have cd:ba≠[]:=by intro c;rw[c]at ai;simp at ai
    have R3:M _:=F.o cd;have T:M _:=en.o _ bP.o;have bD:(l++[(⟨ba,ps,bv⟩:Tok)]).length=l.length+1:=by simp
    clear cd;go_wp2_with (go_at_call 28;refine yai T.o ?_;rintro e L ⟨rfl,X⟩;obtain rfl:=X.symm);go_roundw
    case rel=>exact⟨_,_,aw.o.2.2.2,by rw[bD];have:=aw.o;omega,rfl,bm,bP,R3⟩
    case measure=>simp[intOf];have:=aw.o;omega
   have bl:ba=[]:=by simpa using ai
   have R3:M _:=r.o bl;rw[R3.o]at bm;clear bl;go_wp2_with fail;go_ret;exact⟨_,rfl,bm.o,bP.o⟩
  rw[ud (it O.o aV),List.append_nil]at C;obtain rfl:=C.o;go_wp2_with fail;go_ret;exact⟨_,rfl,au.o,bd.o⟩
def RlT(w:World)(ss:List (List UInt8))(e:Ending)(w':World):Prop:=(ss=[]/\e=.returned (.slice none 0 0)/\w'=w)\/(ss≠[]/\e=.returned (.slice (some ⟨w.heap.size,0,none⟩) ss.length ss.length)/\w'=w.alloc (.cells (ss.map λl=>dJ l).toArray 9))
theorem OD(l h):(((⟨l.toArray⟩:ByteArray)[0]'h).toNat:Int)=bt l 0:=by
 cases l with
 |nil=>simp[ByteArray.size]at h
 |cons a r=>rfl
theorem Ei(l w):Calls prog 57 #[dJ l] w λe D=>e=.returned (.bool (gC l))/\D=w:=by
 have ai:=mb l;have aY:=OD l;unfold gC;generalize bt l 0=x at aY⊢;cases ba:decide (1<l.length)
 ·have t:¬((1:Int)<l.length):=by simp at ba;omega
  go_enter func57,ntmps57;go_wp2;go_ret;exact⟨rfl,rfl⟩
 have aC:1<l.length:=by simpa using ba
 have z:0<l.length:=xaa;have t:(1:Int)<l.length:=xaa;cases bu:decide (65<=x)<;>(go_enter func57,ntmps57;go_wp2;go_ret;exact⟨rfl,rfl⟩)
theorem It(s w):Calls prog 86 #[dJ s] w (RlT w (jt s)):=by
 by_cases h:s∈UL
 ·simp only[UL,List.mem_cons,List.not_mem_nil,or_false]at h;obtain rfl|rfl|rfl|rfl|rfl|rfl|rfl|rfl|rfl|rfl|rfl|rfl|rfl|rfl:=h<;>(go_enter func86,ntmps86;go_wp2;go_ret;exact .inr ⟨by decide,rfl,rfl⟩)
 rw[vw h];simp only[UL,List.mem_cons,List.not_mem_nil,or_false,not_or,<-beq_eq_false_iff_ne]at h;obtain⟨_,_,_,_,_,_,_,_,_,_,_,_,_,_⟩:=h;go_enter func86,ntmps86;go_wp2;go_ret;exact .inr ⟨by decide,rfl,rfl⟩
theorem Mu(p s w):Calls prog 58 #[dJ p,dJ s] w (RlT w (fg p s)):=by
 by_cases h:p∈PQ
 ·have Y:=@D3 p s h;simp only[PQ,List.mem_cons,List.not_mem_nil,or_false]at h;by_cases ai:s∈RL
  ·clear Y;simp only[RL,List.mem_cons,List.not_mem_nil,or_false]at ai;obtain rfl|rfl|rfl|rfl|rfl|rfl|rfl|rfl|rfl|rfl:=h<;>obtain rfl|rfl|rfl|rfl|rfl|rfl|rfl|rfl|rfl|rfl|rfl|rfl|rfl:=ai<;>(go_enter func58,ntmps58;go_wp2;go_ret;first|exact .inl ⟨rfl,rfl,rfl⟩|exact .inr ⟨by decide,rfl,rfl⟩)
  rw[Y ai];clear Y;simp only[RL,List.mem_cons,List.not_mem_nil,or_false,not_or,<-beq_eq_false_iff_ne]at ai;obtain⟨_,_,_,_,_,_,_,_,_,_,_,_,_⟩:=ai;obtain rfl|rfl|rfl|rfl|rfl|rfl|rfl|rfl|rfl|rfl:=h<;>(go_enter func58,ntmps58;go_wp2;go_ret;first|exact .inl ⟨rfl,rfl,rfl⟩|exact .inr ⟨by decide,rfl,rfl⟩)
 rw[D2 s h];simp only[PQ,List.mem_cons,List.not_mem_nil,or_false,not_or,<-beq_eq_false_iff_ne,eE,ig,fi,d6,fd,ja,eW,ot,kR,gg]at h;obtain⟨_,_,_,_,_,_,_,_,_,_⟩:=h;have bc:M _:=It s w;generalize jt s=us at bc;go_enter func58,ntmps58;go_wp2_with fail;go_at_call 86
 refine yai bc.o ?_;rintro e aa (⟨rfl,rfl,rfl⟩|⟨z,rfl,rfl⟩)
 ·go_wp2;go_ret;exact .inl ⟨rfl,rfl,rfl⟩
 have G:M (us≠[]):=z;clear z;go_wp2;go_ret;exact .inr ⟨G.o,rfl,rfl⟩
def WB(W:World)(B:Nat)(v:Value)(ss:List (List UInt8)):Prop:=W.ownsRow B 9 1 v ss.length (ss.map λl=>dJ l)
theorem WB.keep{W}(f:WB W B v aI)(k:Kept 0 0 W A):WB A B v aI:=dW f k
theorem WB.blk{W}(f:WB W B v aI)(h:v.ownBlock=some g):B<=g/\g<W.heap.size:=dO f h
theorem Iu:(prog.info? 9).map (λi=>(i.zero,i.size,i.bytes))=some (some (.string ⟨#[]⟩),1,16):=by kernel_rfl
theorem tN:∃bS,prog.info? 9=some bS/\bS.zero=some (.string ⟨#[]⟩)/\bS.size=1/\bS.bytes=16:=by
 have h:=Iu;simp_all
def WC(w:World)(a:Addr)(ss:List (List UInt8)):Prop:=∀j x,ss[j]? =some x->w.cell? (a.add j)=some (dJ x)
theorem WC.news{a}(h:WC w a aI):∀j u,(aI.map λl=>dJ l)[j]? =some u->w.cell? (a.add j)=some u:=by
 intro j u bd;rw[List.getElem?_map]at bd;cases e:aI[j]? with
 |none=>grind
 |some x=>rw[e]at bd;cases bd;exact h j x e
theorem WB.at_{W}(f:WB W B v aI)(h:0<aI.length):∃g cap,v=hZ g aI.length cap/\B<=g/\g<W.heap.size/\WC W ⟨g,0,none⟩ aI/\aI.length<=cap:=by
 have aj:=f;obtain⟨_,c⟩|⟨g,cap,bp,e,L,bi,U,_,aF,ah⟩:=f.2
 ·omega
 have aG:g<W.heap.size:=by grind
 refine⟨g,_,e,L,aG,λj x ar=>?_,U⟩;subst e;exact World.ownsRow.cells aj rfl j _ (by grind)
theorem sj(w)(an:o.guard=none)(s x)
  (av:o.op=.call {callee:=.builtin .append,args:=#[s,x],argTypes:=#[63,63]})
  (B) (v) (aI) (ai:a.eval s=v) (aW:WB w B v aI)
  (I) (m c) (ys) (ar:a.eval x=.slice (some I) m c) (ab:ys.length=m) (C:WC w I ys)
  (aR:0<m) (F:aI.length+m<=1000000) (l:B<=w.heap.size)
  (h:∀g cap n D,n=(aI++ys).length->WB D B (hZ g n cap) (aI++ys)->Chg (λb=>v.ownBlock=some b) w D->(v.ownBlock=some g\/g=w.heap.size)->wpList prog bE i1 rest (a.put o.dst (hZ g n cap)) D):wpList prog bE i1 (o::rest) a w:=by
 obtain⟨bS,hi,ch,b6,ci⟩:=tN;refine wpList_append_lies w an s x _ av B 9 _ _ 1 _ underlying63 hi ch b6 ci rfl xab v _ _ ai aW _ m c _ ar (by grind) C.news ?_ aR (by unfold maxLen;omega) xaa l _ rfl ?_
 ·intro u bd;obtain⟨x,_,rfl⟩:=List.mem_map.1 bd;rfl
 intro g cap D z J al _;have e:aI.length+m=(aI++ys).length:=by grind
 rw[e]at z⊢;refine h g _ _ _ rfl ?_ (eD J) al;unfold WB;grind
theorem WB.pop{W a cap}(h:WB W B (.slice a n cap) (aI++[x])):WB W B (.slice a aI.length cap) aI:=by
 unfold WB at*;have ab:(aI++[x]).length=aI.length+1:=by simp
 rw[ab]at h;refine⟨by simp,?_⟩;obtain⟨_,c⟩|⟨g,c,bp,e,L,bi,U,ae,aF,ah⟩:=h.2
 ·omega
 cases e;refine .inr ⟨g,_,_,rfl,L,bi,by omega,ae,aF,?_⟩;have:bp.toList.take (aI.length*1)=(bp.toList.take ((aI.length+1)*1)).take aI.length:=by grind
 simp_all
theorem Mw(st):st.length<=wts st:=by
 induction st<;>grind[zg,wts]
theorem OE(s):wt s<=7:=by
 grind[wt]
theorem Mx(st):wts st<=7*st.length:=by
 induction st<;>grind[wts,OE]
theorem OF(st):mu st<=7*st.length+1:=by
 grind[Mx,mu]
theorem sq{st}(h:ze st=false):gM s st=st:=by
 cases st with
 |nil=>exact ke s
 |cons p r=>exact jA h
theorem oC(s):fg fo s=jt s:=rfl
theorem pW(s):fg ja s=[fo,eW]:=rfl
theorem pX(s):fg d6 s=[ja,fd]:=rfl
theorem vF(s){r}:gM s (fo::r)=jt s++r:=by
 rw[il xab,oC,sq (ui s r)]
theorem qD(s r):gM s (ja::r)=jt s++eW::r:=by
 rw[il xab,pW];exact vF s
theorem qE(s r):gM s (d6::r)=jt s++eW::fd::r:=by
 rw[il xab,pX];exact qD s _
theorem oD(s st):(gM s st).length<=st.length+10:=by
 match st with
 |[]=>rw[ke];simp
 |p::r=>
  cases h:gC p
  ·rw[jA h];omega
  have bd:=(uj s).2;obtain c|c|⟨e,c⟩|⟨e,c⟩|⟨e,c⟩:=sa p s r
  ·rw[il h,c,List.nil_append];have:=oD s r;rw[yap];omega
  ·rw[il h,sq c,yak,yap];have:=xC p s;omega
  ·rw[e,qE,yak];simp only[yap];omega
  ·rw[e,qD,yak];simp only[yap];omega
  rw[il h,c];show(gM s (d6::gg::r)).length<=_;rw[qE,yak];simp only[yap];omega
termination_by st.length
theorem My{w:World}(l):WC (w.alloc (.cells #[dJ l] 9)) ⟨w.heap.size,0,none⟩ [l]:=by
 intro j x e;grind[fL,yat]
theorem WB.form{W}(f:WB W B v aI):∃a cap,v=.slice a aI.length cap:=by
 obtain⟨e,c⟩|⟨g,cap,bp,e,_⟩:=f.2<;>grind
theorem RlT.uni{e}(h:RlT w aI e D):∃aS k m,e=.returned (.slice aS m m)/\aI.length=m/\(0<m->aS=some ⟨k,0,none⟩)/\k=w.heap.size/\(0<m->k<D.heap.size)/\(∀q,q<m->D.cell? ⟨k,q,none⟩=some (dJ (aI.getD q [])))/\Kept 0 0 w D:=by
 obtain⟨rfl,rfl,rfl⟩|⟨_,rfl,rfl⟩:=h
 ·grind[Kept.refl]
 refine⟨_,_,_,rfl,rfl,λ_=>rfl,rfl,λ_=>by simp,λq an=>?_,dE 0 0 w _⟩;simp_all
theorem Ek(w B v st s)(f:WB w B v st.reverse)(ax:B<=w.heap.size)(V:st.length<=60000):
  Calls prog 30 #[v,dJ s] w λe D=>∃ae,e=.returned ae/\WB D B ae (gM s st).reverse/\Chg (λb=>B<=b) w D:=by
 have bk:=Q f;have az:M _:=λp W=>Mu p s W;have bu:=Q Ei;have aw:=Q ax;have O:M (mu st<=420001):=by have:=OF st;show _<=_;omega
 obtain⟨E,l⟩:∃E,E=gM s st:=⟨_,rfl⟩
 rw[<-l];have bS:=Q l.symm;clear f ax l;go_enter func30,ntmps30;go_wp2_with fail;go_loopg [0] (mu st) (λm u W=>∃aG,mu aG=m/\M (m<=420001)/\aG.length<=420010/\M (WB W B u aG.reverse)/\M (Chg (λb=>B<=b) w W)/\M (gM s aG=E))
 case atStart=>exact⟨_,rfl,O,by omega,bk,(Kept.refl 0 0 w).chg,bS⟩
 case round=>
  obtain⟨aG,(L:M _),aR,ab,au,ak,aZ⟩:=hrel;cases aG with
  |nil=>
   obtain⟨a,cap,rfl⟩:=WB.form au.o;have R:M _:=(ke s).symm.trans aZ.o;rw[show(([]:List _).reverse).length=0 from rfl];go_wp2_with fail;go_ret;exact⟨_,rfl,iv R.o au.o,ak.o⟩
  |cons p r=>
   obtain⟨g,cap,bd,T,P,aj,a5⟩:=WB.at_ au.o xac;have bD:((p::r).reverse).length=r.length+1:=by simp
   rw[bD]at bd a5;subst bd
   have c1:wr.cell? ⟨g,r.length,none⟩=some (dJ p):=by
    have:=aj r.length p xac;rwa [fL,Nat.zero_add]at this
   have y:M _:=bu.o p wr;have C:r.length+1<=420010:=by simpa using ab
   clear aj bD ab;cases aB:gC p
   ·have R:M _:=(jA aB).symm.trans aZ.o;rw[aB]at y;clear aB;go_wp2_with (go_at_call 57;refine yai y.o ?_;rintro e aa ⟨rfl,X⟩;obtain rfl:=X.symm);go_ret;exact⟨_,rfl,iv R.o au.o,ak.o⟩
   have R:M _:=(il aB).symm.trans aZ.o;have S:M (mu (fg p s++r)<gk):=by rw[<-L.o];exact Ay p s r aB
   have H:M (r.length+(fg p s).length<=420010):=by
    have z:mu (p::r)=wt p+wts r+1:=by unfold mu ze;rw[h3 aB];rfl
    have J:=Mw r;have al:=xC p s;have bw:=L.o;have bL:=aR.o;have bf:=zg p;show _<=_;omega
   rw[aB]at y;have aE:M _:=az.o p wr;generalize fg p s=n at S H aE R
   have Y:M (WB wr B (hZ g r.length cap) r.reverse):=by
    have h:=WB.pop (by have:=au.o;rw[List.reverse_cons]at this;exact this);rw[List.length_reverse]at h;exact h
   clear aB au aZ L
   go_upto_region 3 with (first
    |(go_at_call 57;refine yai y.o ?_;rintro e aa ⟨rfl,X⟩;obtain rfl:=X.symm)
    |(go_at_call 58;refine yai aE.o ?_;intro e Z ar;obtain⟨aS,k,m,rfl,ai,af,aD,am,ag,ad⟩:=RlT.uni ar))
   have av:M _:=WB.keep Y.o ad;have bv:M _:=Chg.andThen ak.o ad.chg;have ah:M ((0<m->k<Z.heap.size)/\∀q,q<m->Z.cell? _=some _):=⟨am,ag⟩
   have t:=Q ai;have aH:g≠k:=xaa;have bY:=ad.size;have aq:M (B<=Z.heap.size):=by show _<=_;omega
   have ap:=Q af;rw[t.o]at H;have aF:=H.o;clear ar ai af aD am ag ad c1 ak Y y aE;go_upto_region 5 with fail;go_loopw [0,6] (λu ct W=>∃j:Nat,j<=m/\ct=h0 ((j:Int)-1)/\M (WB W B u (n.drop j++r).reverse)/\M (Chg (λb=>B<=b) w W)/\M ((0<m->k<W.heap.size)/\(∀q,q<m->W.cell? ⟨k,q,none⟩=some (dJ (n.getD q [])))/\(∀h,u.ownBlock=some h->h≠k)/\B<=W.heap.size)) (λ_ ct _=>(intOf ct+1).toNat)
   case atStart=>
    refine⟨m,yac,rfl,?_,bv,⟨ah.o.1,ah.o.2,λh aN=>?_,aq.o⟩⟩
    ·rw[List.drop_eq_nil_of_le (by rw[t.o];exact yac),List.nil_append];exact av
    simp[Value.ownBlock]at aN;omega
   case round=>
    obtain⟨j,aK,rfl,au,ak,bo⟩:=hrel;obtain⟨a,bZ,F⟩:=WB.form au.o;subst F;by_cases U:j=0
    ·subst U;rw[List.drop_zero]at au;go_wp2_with fail;go_roundg (mu (n++r))
     case measure=>exact S.o
     case rel=>exact⟨_,rfl,(by show _<=_;have:=S.o;have:=aR.o;omega),by rw[yak,t.o];omega,au,ak,R⟩
    obtain⟨q,rfl⟩:∃q,j=q+1:=⟨j-1,by omega⟩
    have an:q<m:=xaa;obtain rfl:=ap.o xaa;have c2:=bo.o.2.1 q an
    have aJ:M (n.drop q=n.getD q []::n.drop (q+1)):=by
     show _=_;rw[List.drop_eq_getElem_cons (it t.o an),yah,yal (it t.o an)];rfl
    have bD:(n.drop (q+1)++r).reverse.length<=420010:=by
     rw[List.length_reverse,yak,List.length_drop,t.o];omega
    have bg:=Q bD;generalize n.getD q _=x at c2 aJ;generalize K:(n.drop _++r).reverse=G at au bD bg bo;have aA:=Q K;generalize bq:G.length=cG at*;have aM:=Q bq;clear K bq;go_wp2_with (first|(at_builtin;refine sj _ rfl _ _ rfl B _ _ rfl (WB.keep au.o (dE 0 0 _ _)) _ 1 1 _ rfl rfl (My x) xab ?c2 ?c3 ?_)|fail)
    case c2=>have:=bg.o;have:=aM.o;omega
    case c3=>have:=bo.o.2.2.2;simp;omega
    intro g9 cap9 n9 bn b4 ca bO cn;have aL:=dE 0 0 wr (.cells #[dJ x] 9)
    have bm:M (WB bn B (hZ g9 n9 cap9) (n.drop q++r).reverse):=by
     show WB _ _ _ _;rw[aJ.o,List.cons_append,List.reverse_cons,aA.o];exact ca
    have br:∀b,(Value.slice a _ _).ownBlock=some b->_:=λb I=>(WB.blk au.o I).1;have bP:M _:=Chg.andThen (Chg.andThen ak.o aL.chg) ⟨bO.os,bO.tape,bO.output,bO.size,λi hi V=>bO.block i hi (λc=>V (br i c))⟩
    have R3:M ((0<m->k<bn.heap.size)/\(∀q,q<m->bn.cell? ⟨k,q,none⟩=some (dJ (n.getD q [])))/\(∀h,(hZ g9 n9 cap9).ownBlock=some h->h≠k)/\B<=bn.heap.size):=by
     obtain⟨a1,a2,a3,a4⟩:=bo.o;have aC:=a1 xaa;have ay:=bO.size;have cp:(wr.alloc (.cells #[dJ x] 9)).heap.size=wr.heap.size+1:=by simp
     refine⟨λ_=>by omega,λq an=>?_,λh aN=>?_,by omega⟩
     ·rw[bO.cell (by show k<_;omega) (λc=>a3 _ c rfl),aL.cell aC xaa];exact a2 q an
     simp[Value.ownBlock]at aN;subst aN;obtain c|c:=cn
     ·exact a3 _ c
     omega
    clear ca bO cn aL br b4;go_wp2_with fail;go_roundw
    case rel=>exact⟨q,by omega,by go_num,bm,bP,R3⟩
    case measure=>simp[intOf]
theorem TkA.keep(h:TkA w g aO n ts)(k:Kept 0 0 w D):TkA D g aO n ts:=
 ⟨h.len,yaj h.lt k.size,λj aK=>(k.cell (p:=⟨g,aO+j*3,none⟩) h.lt xaa).trans (h.c0 j aK),λj aK=>(k.cell (p:=⟨g,aO+j*3+1,none⟩) h.lt xaa).trans (h.c1 j aK),λj aK=>(k.cell (p:=⟨g,aO+j*3+2,none⟩) h.lt xaa).trans (h.c2 j aK)⟩
theorem WB.lit1(w:World)(l):WB (w.alloc (.cells #[dJ l] 9)) w.heap.size (hZ w.heap.size 1 1) [l]:=
 World.ownsRow_lit (base:=w.heap.size) (e:=9) (size:=1) w #[dJ l] 1 yac (by unfold maxLen;omega) rfl
theorem El(h:k<ts.length):ts.drop k=ts.getD k h8::ts.drop (k+1):=by
 simp_all
theorem uk{W}(k:Kept 0 0 w W)(c:Chg (λb=>w.heap.size<=b) W A):Kept 0 0 w A:=Chg.kept k c (λ_ h=>h)
theorem vG(w be)(m cap n:Nat)(ts)(ab:ts.length=m)(aR:m<=5000)(C:0<m->∃g aO,be=some ⟨g,aO,none⟩/\TkA w g aO m ts):
  Calls prog 13 #[.slice be m cap,h0 n] w λe D=>e=.returned (h0 (dT n ts [eE]))/\Kept 0 0 w D:=by
 have bY:=Q Ek;have bW:=Q C;have bf:=Q ab;have S:M (WB _ _ _ [eE].reverse):=WB.lit1 w _;obtain⟨E,l⟩:∃E,E=dT n ts [eE]:=⟨_,rfl⟩
 rw[<-l];have bS:M (dT n (ts.drop 0) _=E):=l.symm;clear l C ab;go_enter func13,ntmps13;go_wp2_with fail;change Code.wp _ _ _ _ (w.alloc (.cells #[dJ eE] 9));have bV:M _:=dE 0 0 w (.cells #[dJ eE] 9);generalize w.alloc _=aa at S bV⊢;go_loopw [5,6] (λv bF W=>∃(k:Nat) (st:List (List UInt8)),k<=m/\bF=h0 k/\st.length<=1+10*k/\M (WB W w.heap.size v st.reverse)/\M (Kept 0 0 w W)/\M (dT n (ts.drop k) st=E)) (λ_ bF _=>m-(intOf bF).toNat)
 case atStart=>grind
 case round=>
  obtain⟨k,st,H,rfl,cf,au,bd,l⟩:=hrel;by_cases aV:k<m
  ·obtain⟨g,aO,rfl,bo⟩:=bW.o xaa;have c0:=(bo.keep bd.o).c0 k aV;have z:=Q bo;have y:=l.o;rw[El (it bf.o aV)]at y;have bX:M _:=bY.o _ _ _ _ (ts.getD k h8).sym au.o bd.o.size xaa;have bP:M (∀W,Kept 0 0 w W->W.cell? _=some _/\W.cell? _=some _):=λW ae=>⟨(bo.keep ae).c0 k aV,(bo.keep ae).c1 k aV⟩
   generalize ts.getD k _=af at c0 y bX bP;have u:=Q y;obtain⟨a,bZ,F⟩:=WB.form au.o;generalize st.reverse.length=cG at F;have f:=oD af.sym st;generalize d4:gM _ _=st2 at bX f;have av:=Q d4;clear d4 y bo l z;subst F;go_upto_region 6 with (go_at_call 30;refine yai bX.o ?_;rintro e Z ⟨aN,rfl,q,t⟩);have bM:=Q q;have bJ:M _:=uk bd.o t;obtain⟨c1,c2⟩:=bP.o _ bJ.o;clear q t c0 bX au bd;cases st2 with
   |nil=>
    obtain⟨a2,b2,a6⟩:=WB.form bM.o;rw[show(([]:List _).reverse).length=0 from rfl]at a6;subst a6
    have R:M (af.pos=E):=by
     have h:=u.o;rw[dT,av.o]at h;exact h
    go_quiet (fail)
    have ai:M _:=Kept.trans bJ.o (ed 0 0 nq);obtain⟨aW,bA⟩:=bP.o _ ai.o;generalize Z.drewN _=ao at ai aW bA⊢;clear c1 c2;go_wp2_with fail;go_ret;exact⟨congrArg (λaX=>Ending.returned (.int _ aX)) R.o,ai.o⟩
   |cons p r=>
    obtain⟨aJ,b2,a6,T,P,aj,a5⟩:=WB.at_ bM.o xac;have bD:((p::r).reverse).length=r.length+1:=by simp
    rw[bD]at a6 a5;subst a6
    have c3:Z.cell? ⟨aJ,r.length,none⟩=some (dJ p):=by
     have:=aj r.length p xac;rwa [fL,Nat.zero_add]at this
    have L:r.length+1<=100000:=by simp at f;omega
    have G:r.length<=10*k+10:=by simp at f;omega
    have bK:((r.length:Int)+1==0)=false:=by simp;omega
    have a9:IntKind.i64.wrap ((r.length:Nat)+1-1)=(r.length:Nat):=by rw[IntKind.wrap_i64];omega
    have bj:(0:Int)<=(r.length:Nat):=xaa;have bI:(r.length:Int)<(r.length:Nat)+1:=xaa;cases an:(p==af.sym)
    ·have cd:p≠af.sym:=λc=>by rw[c]at an;simp at an
     have R:M (af.pos=E):=by
      have h:=u.o;rw[dT,av.o]at h;simp only[h2 cd]at h;exact h
     have bb:(p !=af.sym)=true:=by unfold bne;rw[an];rfl
     clear aj bD f cd;go_quiet (fail)
     have ai:M _:=Kept.trans bJ.o (ed 0 0 nq);obtain⟨aW,bA⟩:=bP.o _ ai.o;generalize Z.drewN _=ao at ai aW bA⊢;clear c1 c2 c3;go_wp2_with fail;go_ret;exact⟨congrArg (λaX=>Ending.returned (.int _ aX)) R.o,ai.o⟩
    have bl:p=af.sym:=by simpa using an
    have R:M (dT n (ts.drop (k+1)) r=E):=by
     have h:=u.o;rw[dT,av.o]at h;simp only[h3 bl]at h;exact h
    have Y:M (WB Z w.heap.size (hZ aJ r.length b2) r.reverse):=by
     have h:=WB.pop (by have:=bM.o;rw[List.reverse_cons]at this;exact this);rw[List.length_reverse]at h;exact h
    have bb:(p !=af.sym)=false:=by unfold bne;rw[an];rfl
    clear aj bD f bl bM;go_quiet (fail)
    have ai:M _:=Kept.trans bJ.o (ed 0 0 nq);have K:M _:=WB.keep Y.o (ed 0 0 nq);generalize Z.drewN _=ao at ai K⊢;clear c1 c2 c3;go_wp2_with fail;go_roundw
    case rel=>exact⟨k+1,r,by omega,by go_num,by omega,K,ai,R⟩
    case measure=>simp[intOf];omega
  obtain rfl:k=m:=xaa;have y:=l.o;rw[List.drop_eq_nil_of_le (by rw[bf.o];exact yac),dT]at y;have bX:M _:=bY.o _ _ _ _ pV au.o bd.o.size xaa;have u:=Q y;obtain⟨a,bZ,F⟩:=WB.form au.o;generalize st.reverse.length=cG at F;have f:=oD pV st;generalize gM _ _=st2 at bX f u;clear y l;subst F;go_upto_region 10 with (go_at_call 30;refine yai bX.o ?_;rintro e Z ⟨aN,rfl,q,t⟩);have bM:=Q q;have bJ:M _:=uk bd.o t;clear q t bX au bd;obtain⟨a2,b2,a6⟩:=WB.form bM.o;cases st2 with
  |nil=>
   rw[show(([]:List _).reverse).length=0 from rfl]at a6;subst a6;have R:M ((-1:Int)=E):=by have h:=u.o;rw[h3 rfl]at h;exact h
   go_wp2_with fail;go_ret;exact⟨congrArg (λaX=>Ending.returned (.int _ aX)) R.o,bJ.o⟩
  |cons p r=>
   rw[show((p::r).reverse).length=r.length+1 by simp]at a6;subst a6;have R:M (n=E):=by have h:=u.o;rw[h2 xac]at h;exact h
   have L:r.length+1<=100000:=by simp at f;omega
   have bI:(0:Int)<(r.length:Nat)+1:=xaa;clear f;go_wp2_with fail;go_ret;exact⟨congrArg (λaX=>Ending.returned (.int _ aX)) R.o,bJ.o⟩
end
section
variable{n k:Nat}{ts:List Tok}
def hdS:List Tok->List UInt8
 |[]=>pV
 |t::_=>t.sym
theorem fD{n p}(h:gC p=true):∀ts:List Tok,dT n ts (p::r)=dT n ts (fg p (hdS ts)++r)
 |[]=>by rw[dT,dT,il h];rfl
 |t::ts=>by rw[dT,dT,il h];rfl
theorem dU{n s}(h:gC s=false):∀{ts:List Tok},dT n ts (s::r)=-1->∃t us,ts=t::us/\t.sym=s/\dT n us r=-1
 |[],X=>by
  grind[dT,jA]
 |t::us,X=>by
  grind[dT,jA]
def B3(n:Nat)(p:List UInt8)(l:Nat)(ts:List Tok):Prop:=∀r,dT n ts (p::r)=-1->∃e us ws,ts=us++ws/\Pr l [e] us/\dT n ws r=-1
def TkM(n:Nat)(p:List UInt8)(l:Nat)(ts:List Tok):Prop:=∀r a ls,Pr l [a] ls->dT n ts (p::r)=-1->∃e us ws,ts=us++ws/\Pr l [e] (ls++us)/\dT n ws r=-1
def OH(n:Nat)(ts:List Tok):Prop:=∀r es ls,Pr 3 es ls->dT n ts (gg::r)=-1->∃es' us ws,ts=us++ws/\Pr 3 es' (ls++us)/\dT n ws r=-1
structure Gr(n k:Nat):Prop where
 u:∀ts,ts.length<k->B3 n fo 0 ts
 mu:∀ts,ts.length<k->TkM n eW 1 ts
 t:∀ts,ts.length<k->B3 n ja 1 ts
 mt:∀ts,ts.length<k->TkM n fd 2 ts
 e:∀ts,ts.length<k->B3 n d6 2 ts
 ma:∀ts,ts.length<k->OH n ts
theorem KN(g:Gr n k)(ts)(H:ts.length<k+1):TkM n eW 1 ts:=by
 intro r a B ab X;rw[fD xab]at X;by_cases c:hdS ts=[42]\/hdS ts=[47]
 ·have aH:fg eW (hdS ts)=[hdS ts,fo,eW]:=by
   obtain c|c:=c<;>rw[c]<;>rfl
  rw[aH]at X;obtain⟨o,us,rfl,av,X⟩:=dU (by obtain c|c:=c<;>rw[c]<;>decide) X;rw[<-av]at c;obtain⟨b,y,T,rfl,J,X⟩:=g.u us (by simp at H;omega) _ X;obtain⟨e,P,U,rfl,al,X⟩:=g.mu T (by simp at H;omega) r (.bin o a b) (B++o::y) (.mul ab c J) X;exact⟨e,o::(y++P),U,by simp,by simpa using al,X⟩
 have aH:fg eW (hdS ts)=[]:=by
  unfold fg;rw[h2 xab,h2 xab,h2 xab,h2 xab,h2 xab,h2 xab,h3 rfl,h2 c]
 rw[aH]at X;exact⟨a,[],ts,rfl,by simpa using ab,X⟩
theorem su(g:Gr n k)(H:ts.length<k+1){x R}(X:dT n ts (x::[40]::d6::R)=-1)(ar:gC x=false):∃B l e us T,ts=B::l::(us++T)/\B.sym=x/\l.sym=[40]/\Pr 2 [e] us/\dT n T R=-1/\T.length<k:=by
 obtain⟨B,us,rfl,V,X⟩:=dU ar X;obtain⟨l,us,rfl,ab,X⟩:=dU xab X;obtain⟨e,y,T,rfl,J,X⟩:=g.e _ (by grind) _ X;grind
theorem OI(g:Gr n k)(ts)(H:ts.length<k+1):B3 n fo 0 ts:=by
 intro r X;rw[fD xab,oC]at X;generalize hdS _=s at X;by_cases h:s∈UL
 ·simp only[UL,List.mem_cons,List.not_mem_nil,or_false]at h;obtain rfl|rfl|rfl|rfl|rfl|rfl|rfl|rfl|rfl|rfl|rfl|rfl|rfl|rfl:=h
  ·obtain⟨o,us,rfl,av,X⟩:=dU xab X;obtain⟨e,y,T,rfl,J,X⟩:=g.u _ (by grind) _ X;exact⟨_,_,_,rfl,.neg av J,X⟩
  ·obtain⟨t,us,rfl,az,X⟩:=dU xab X;have X:dT n _ (ot::r)=-1:=X;rw[fD xab]at X;by_cases c:hdS us=[40]
   ·rw[c]at X;obtain⟨l,y,rfl,ab,X⟩:=dU xab X;have X:dT n _ (kR::[41]::r)=-1:=X;rw[fD xab]at X;by_cases c2:hdS y=[41]
    ·rw[c2]at X;obtain⟨a,P,rfl,ah,X⟩:=dU xab X;exact⟨_,_,_,rfl,.call0 az ab ah,X⟩
    rw[show fg kR _=[d6,gg] by simp[fg,c2,eE,ig,fi,d6,fd,ja,eW,ot,kR]]at X;obtain⟨e,P,T,rfl,J,X⟩:=g.e _ (by grind) _ X;obtain⟨es,cM,U,rfl,al,X⟩:=g.ma _ (by grind) _ _ _ (.arg1 J) X;obtain⟨a,ay,rfl,ah,X⟩:=dU xab X;exact⟨_,_,_,by simp,.call az ab al ah,X⟩
   rw[show fg ot _=[] by simp[fg,c,eE,ig,fi,d6,fd,ja,eW,ot]]at X;exact⟨_,_,_,rfl,.name az,X⟩
  ·obtain⟨l,us,rfl,ab,X⟩:=dU xab X;obtain⟨e,y,T,rfl,J,X⟩:=g.e _ (by grind) _ X;obtain⟨a,P,rfl,ah,X⟩:=dU xab X;exact⟨_,_,_,by simp,.par ab J ah,X⟩
  iterate 2
   ·obtain⟨B,l,e,us,T,rfl,z,ab,J,X,bc⟩:=su g H X xab
    obtain⟨a,b,rfl,ah,X⟩:=dU xab X
    exact⟨_,B::l::(us++[a]),_,by simp,.key1 (by first|exact .inl z|exact .inr z) ab J ah,X⟩
  iterate 2
   ·obtain⟨B,l,e,us,T,rfl,z,ab,J,X,bc⟩:=su g H X xab
    obtain⟨c,f,rfl,aj,X⟩:=dU xab X
    obtain⟨a6,ap,Z,rfl,al,X⟩:=g.e _ (by grind) _ X
    obtain⟨a,b,rfl,ah,X⟩:=dU xab X
    exact⟨_,B::l::(us++c::(ap++[a])),_,by simp,.key2 (by first|exact .inl z|exact .inr z) ab J aj al ah,X⟩
  ·obtain⟨B,l,e,us,T,rfl,z,ab,J,X,bc⟩:=su g H X xab;obtain⟨c,f,rfl,aj,X⟩:=dU xab X;obtain⟨a6,ap,Z,rfl,al,X⟩:=g.e _ (by grind) _ X;obtain⟨c2,j,rfl,aD,X⟩:=dU xab X;obtain⟨ag,u3,ao,rfl,bw,X⟩:=g.e _ (by grind) _ X;obtain⟨a,b,rfl,ah,X⟩:=dU xab X;exact⟨_,_,_,by simp,.key3 z ab J aj al aD bw ah,X⟩
  iterate 2
   ·obtain⟨B,l,e,us,T,rfl,z,ab,J,X,bc⟩:=su g H X xab
    obtain⟨c,f,rfl,aj,X⟩:=dU xab X
    obtain⟨m,p,rfl,aR,X⟩:=dU xab X
    obtain⟨a,b,rfl,ah,X⟩:=dU xab X
    exact⟨_,B::l::(us++[c,m,a]),_,by simp,.keyN (by first|exact .inl z|exact .inr z) ab J aj aR ah,X⟩
  ·obtain⟨B,l,e,us,T,rfl,z,ab,J,X,bc⟩:=su g H X xab;obtain⟨c,f,rfl,aj,X⟩:=dU xab X;obtain⟨i,u,rfl,hi,X⟩:=dU xab X;obtain⟨c2,j,rfl,aD,X⟩:=dU xab X;obtain⟨m,p,rfl,aR,X⟩:=dU xab X;obtain⟨a,b,rfl,ah,X⟩:=dU xab X;exact⟨_,_,_,by simp,.put z ab J aj hi aD aR ah,X⟩
  ·obtain⟨B,l,e,us,T,rfl,z,ab,J,X,bc⟩:=su g H X xab;obtain⟨c,f,rfl,aj,X⟩:=dU xab X;obtain⟨x,q,rfl,ar,X⟩:=dU xab X;obtain⟨a,b,rfl,ah,X⟩:=dU xab X;exact⟨_,_,_,by simp,.grad z ab J aj ar ah,X⟩
  ·obtain⟨B,l,e,us,T,rfl,z,ab,J,X,bc⟩:=su g H X xab;obtain⟨c,f,rfl,aj,X⟩:=dU xab X;obtain⟨x,q,rfl,ar,X⟩:=dU xab X;obtain⟨c2,j,rfl,aD,X⟩:=dU xab X;obtain⟨ag,u3,ao,rfl,bw,X⟩:=g.e _ (by grind) _ X;obtain⟨a,b,rfl,ah,X⟩:=dU xab X;exact⟨_,_,_,by simp,.jvp z ab J aj ar aD bw ah,X⟩
  obtain⟨t,us,rfl,az,X⟩:=dU xab X;exact⟨_,_,_,rfl,.num (.inr az),X⟩
 rw[vw h]at X;obtain⟨t,us,rfl,az,X⟩:=dU xab X;exact⟨_,_,_,rfl,.num (.inl az),X⟩
theorem OJ(g:Gr n k)(ts)(H:ts.length<k+1):B3 n ja 1 ts:=by
 intro r X;rw[fD xab,pW]at X;obtain⟨a,us,T,rfl,z,X⟩:=OI g _ H _ X;obtain⟨e,P,U,rfl,J,X⟩:=KN g _ (by grind) r a _ (.up01 z) X;grind
theorem KO(g:Gr n k)(ts)(H:ts.length<k+1):TkM n fd 2 ts:=by
 intro r a B ab X;rw[fD xab]at X;by_cases c:hdS ts=[43]\/hdS ts=[45]
 ·have aH:fg fd (hdS ts)=[hdS ts,ja,fd]:=by
   obtain c|c:=c<;>rw[c]<;>rfl
  rw[aH]at X;obtain⟨o,us,rfl,av,X⟩:=dU (by obtain c|c:=c<;>rw[c]<;>decide) X;rw[<-av]at c;obtain⟨b,y,T,rfl,J,X⟩:=g.t us (by simp at H;omega) _ X;obtain⟨e,P,U,rfl,al,X⟩:=g.mt T (by simp at H;omega) r (.bin o a b) (B++o::y) (.add ab c J) X;exact⟨e,o::(y++P),U,by simp,by simpa using al,X⟩
 have aH:fg fd (hdS ts)=[]:=by
  unfold fg;rw[h2 xab,h2 xab,h2 xab,h2 xab,h3 rfl,h2 c]
 rw[aH]at X;exact⟨a,[],ts,rfl,by simpa using ab,X⟩
theorem PW(g:Gr n k)(ts)(H:ts.length<k+1):B3 n d6 2 ts:=by
 intro r X;rw[fD xab,pX]at X;obtain⟨a,us,T,rfl,z,X⟩:=OJ g _ H _ X;obtain⟨e,P,U,rfl,J,X⟩:=KO g _ (by grind) r a _ (.up12 z) X;grind
theorem OK(g:Gr n k)(ts)(H:ts.length<k+1):OH n ts:=by
 intro r es B ab X;rw[fD xab]at X;by_cases c:hdS ts=[44]
 ·have aH:fg gg (hdS ts)=[[44],d6,gg]:=by rw[c];rfl
  rw[aH]at X;obtain⟨o,us,rfl,av,X⟩:=dU xab X;obtain⟨b,y,T,rfl,J,X⟩:=g.e us (by simp at H;omega) _ X;obtain⟨e,P,U,rfl,al,X⟩:=g.ma T (by simp at H;omega) r _ (B++o::y) (.argM ab av J) X;exact⟨e,o::(y++P),U,by simp,by simpa using al,X⟩
 have aH:fg gg (hdS ts)=[]:=by
  unfold fg;rw[h2 xab,h2 xab,h2 xab,h2 xab,h2 xab,h2 xab,h2 xab,h2 xab,h2 xab,h3 rfl,h2 c]
 rw[aH]at X;exact⟨es,[],ts,rfl,by simpa using ab,X⟩
theorem oE(n):∀k,Gr n k
 |0=>⟨λ_ h=>by omega,λ_ h=>by omega,λ_ h=>by omega,λ_ h=>by omega,λ_ h=>by omega,λ_ h=>by omega⟩
 |k+1=>⟨OI (oE n k),KN (oE n k),OJ (oE n k),KO (oE n k),PW (oE n k),OK (oE n k)⟩
theorem pl(h:dT n ts (d6::r)=-1):∃e us T,ts=us++T/\Pr 2 [e] us/\dT n T r=-1:=(oE n (ts.length+1)).e ts yae r h
def kIn:List UInt8:=[105,110]
def tO:List UInt8:=[108,101,116]
def tP:List UInt8:=[111,117,116]
def sw:List UInt8:=[100,101,102]
def tQ:List UInt8:=[114,101,112,101,97,116]
theorem Iv{es}(h:Pr n es ts):∀t∈ts,t.sym≠[59]:=by
 induction h<;>(try simp only[List.forall_mem_append,List.forall_mem_cons])<;>grind[fx,iS,eu,oA,vx,l8,xD,qO,mU,lO,vy,sb,zh]
inductive Sm where
 |inS (n l:Tok)
 |letS (n:Tok) (e:Ex)
 |rep (i n:Tok) (e:Ex)
 |defS (n:Tok) (ps:List Tok) (e:Ex)
 |outS (k:Tok) (e:Ex)
inductive PPm:List Tok->List Tok->Prop
 |one {t:Tok}:t.sym=eu->PPm [t] [t]
 |more {ps ts:List Tok}{c t:Tok}:PPm ps ts->c.sym=[44]->t.sym=eu->PPm (ps++[t]) (ts++[c,t])
theorem Em{ps}(h:PPm ps ts):∀t∈ts,t.sym=eu\/t.sym=[44]:=by
 induction h<;>grind
inductive PSm:Sm->List Tok->Prop
 |inS {k n c l:Tok}:k.sym=kIn->n.sym=eu->c.sym=[58]->l.sym=fx->PSm (.inS n l) [k,n,c,l]
 |letS {k n q:Tok}{e:Ex}{ts:List Tok}:k.sym=tO->n.sym=eu->q.sym=[61]->Pr 2 [e] ts->PSm (.letS n e) (k::n::q::ts)
 |rep {k i n q:Tok}{e:Ex}{ts:List Tok}:k.sym=tQ->i.sym=fx->n.sym=eu->q.sym=[61]->Pr 2 [e] ts->PSm (.rep i n e) (k::i::n::q::ts)
 |def0 {k n l r q:Tok}{e:Ex}{ts:List Tok}:k.sym=sw->n.sym=eu->l.sym=[40]->r.sym=[41]->q.sym=[61]->Pr 2 [e] ts->PSm (.defS n [] e) (k::n::l::r::q::ts)
 |defS {k n l r q:Tok}{e:Ex}{ps us ts:List Tok}:k.sym=sw->n.sym=eu->l.sym=[40]->PPm ps us->r.sym=[41]->q.sym=[61]->Pr 2 [e] ts->PSm (.defS n ps e) (k::n::l::(us++r::q::ts))
 |outS {k:Tok}{e:Ex}{ts:List Tok}:k.sym=tP->Pr 2 [e] ts->PSm (.outS k e) (k::ts)
theorem Iw{s}(h:PSm s ts):∀t∈ts,t.sym≠[59]:=by
 cases h<;>grind[Iv,Em,kIn,tO,tQ,sw,tP,fx,eu]
inductive PGm:List Sm->List Tok->Prop
 |nil:PGm [] []
 |cons {s:Sm}{ss:List Sm}{ts us:List Tok}{c:Tok}:PSm s ts->c.sym=[59]->PGm ss us->PGm (s::ss) (ts++c::us)
theorem ul{n}:∀(k:Nat) (ts:List Tok),ts.length<=k->∀r ps B,PPm ps B->dT n ts (fi::r)=-1->∃R us T,ts=us++T/\PPm R (B++us)/\dT n T r=-1
 |k,ts,H,r,ps,B,aB,X=>by
  rw[fD xab]at X
  by_cases c:hdS ts=[44]
  ·rw[show fg fi (hdS ts)=[[44],[110,97,109,101],fi] by rw[c];rfl]at X
   obtain⟨o,us,rfl,av,X⟩:=dU xab X
   obtain⟨t,y,rfl,az,X⟩:=dU xab X
   match k,H with
   |0,H=>simp at H
   |k+1,H=>
    obtain⟨R,P,T,rfl,al,X⟩:=ul k y (by simp at H;omega) r (ps++[t]) (B++[o,t]) (.more aB av az) X
    exact⟨R,o::t::P,T,by simp,by simpa using al,X⟩
  ·rw[show fg fi (hdS ts)=[] by
    unfold fg
    rw[h2 xab,h2 xab,h3 rfl,h2 c]]at X
   exact⟨ps,[],ts,rfl,by simpa using aB,X⟩
theorem xJ{n}:∀(k:Nat) (ts:List Tok),ts.length<=k->dT n ts [eE]=-1->∃aI,PGm aI ts
 |k,ts,H,X=>by
  rw[fD xab]at X
  unfold fg at X
  rw[h3 rfl]at X
  generalize hdS ts=s at X
  have a:∀{us:List Tok},us.length<ts.length->dT n us [eE]=-1->∃aI,PGm aI us:=λ{us} ab h=>by
   match k,H with
   |0,H=>omega
   |k+1,H=>exact xJ k us xaa h
  by_cases aZ:s=[105,110]
  ·rw[h3 aZ]at X
   obtain⟨af,us,rfl,z,X⟩:=dU xab X
   obtain⟨ad,us,rfl,J,X⟩:=dU xab X
   obtain⟨a5,us,rfl,al,X⟩:=dU xab X
   obtain⟨b0,us,rfl,bw,X⟩:=dU xab X
   obtain⟨F,us,rfl,bL,X⟩:=dU xab X
   obtain⟨aI,aG⟩:=a yaf X
   exact⟨_,.cons (ts:=[af,ad,a5,b0]) (.inS z J al bw) bL aG⟩
  rw[h2 aZ]at X
  by_cases bz:s=[108,101,116]
  ·rw[h3 bz]at X
   obtain⟨af,us,rfl,z,X⟩:=dU xab X
   obtain⟨ad,us,rfl,J,X⟩:=dU xab X
   obtain⟨a5,us,rfl,al,X⟩:=dU xab X
   obtain⟨e,us,T,rfl,bw,X⟩:=pl X
   obtain⟨F,am,rfl,bL,X⟩:=dU xab X
   obtain⟨aI,aG⟩:=a yaf X
   exact⟨_,.cons (ts:=af::ad::a5::us) (.letS z J al bw) bL aG⟩
  rw[h2 bz]at X
  by_cases aJ:s=[114,101,112,101,97,116]
  ·rw[h3 aJ]at X
   obtain⟨af,us,rfl,z,X⟩:=dU xab X
   obtain⟨ad,us,rfl,J,X⟩:=dU xab X
   obtain⟨a5,us,rfl,al,X⟩:=dU xab X
   obtain⟨b0,us,rfl,bw,X⟩:=dU xab X
   obtain⟨e,us,T,rfl,bf,X⟩:=pl X
   obtain⟨F,am,rfl,bL,X⟩:=dU xab X
   obtain⟨aI,aG⟩:=a yaf X
   exact⟨_,.cons (ts:=af::ad::a5::b0::us) (.rep z J al bw bf) bL aG⟩
  rw[h2 aJ]at X
  by_cases au:s=[100,101,102]
  ·rw[h3 au]at X
   obtain⟨af,us,rfl,z,X⟩:=dU xab X
   obtain⟨ad,us,rfl,J,X⟩:=dU xab X
   obtain⟨a5,us,rfl,al,X⟩:=dU xab X
   have X:dT n us (ig::[41]::[61]::d6::[59]::[eE])=-1:=X
   rw[fD xab]at X
   by_cases c:hdS us=[110,97,109,101]
   ·rw[show fg ig (hdS us)=[[110,97,109,101],fi] by rw[c];rfl]at X
    obtain⟨t,y,rfl,az,X⟩:=dU xab X
    obtain⟨ps,P,T,rfl,aB,X⟩:=ul y.length y yac _ [t] [t] (.one az) X
    obtain⟨b3,us,rfl,bf,X⟩:=dU xab X
    obtain⟨ci,us,rfl,S,X⟩:=dU xab X
    obtain⟨e,us,T,rfl,m,X⟩:=pl X
    obtain⟨F,am,rfl,bL,X⟩:=dU xab X
    obtain⟨aI,aG⟩:=a yaf X
    have:=PGm.cons (ts:=af::ad::a5::(t::P++b3::ci::us)) (.defS z J al aB bf S m) bL aG
    exact⟨_,by simpa using this⟩
   ·rw[show fg ig (hdS us)=[] by
     unfold fg
     rw[h2 xab,h3 rfl,h2 c]]at X
    obtain⟨b3,us,rfl,bf,X⟩:=dU xab X
    obtain⟨ci,us,rfl,S,X⟩:=dU xab X
    obtain⟨e,us,T,rfl,m,X⟩:=pl X
    obtain⟨F,am,rfl,bL,X⟩:=dU xab X
    obtain⟨aI,aG⟩:=a yaf X
    exact⟨_,.cons (ts:=af::ad::a5::b3::ci::us) (.def0 z J al bf S m) bL aG⟩
  rw[h2 au]at X
  by_cases be:s=[111,117,116]
  ·rw[h3 be]at X
   obtain⟨af,us,rfl,z,X⟩:=dU xab X
   obtain⟨e,us,T,rfl,bw,X⟩:=pl X
   obtain⟨F,am,rfl,bL,X⟩:=dU xab X
   obtain⟨aI,aG⟩:=a yaf X
   exact⟨_,.cons (ts:=af::us) (.outS z bw) bL aG⟩
  rw[h2 be]at X
  cases ts with
  |nil=>exact⟨_,.nil⟩
  |cons t ts=>
   rw[List.nil_append,dT,ke]at X
   simp only at X
   omega
theorem Ix(h:dT n ts [eE]=-1):∃aI,PGm aI ts:=xJ ts.length ts yac h
