import Derived.Test.YtiacbhjphaldlaaGreatDoorP50
import Derived.Test.YtiacbhjphaldlaaGreatDoorP37
import Derived.Test.YtiacbhjphaldlaaGreatDoorP52
namespace Go.Proofs.Z
open Tryz
set_option maxRecDepth 1000000
set_option maxHeartbeats 0
variable{w P v}
section
open Go.RowKit Flt
open Go.ChangeMaps (setBlock)
attribute[local go_sem] dI dG dF gh gj gn mkF
variable{ρ:Nat->Nat}{e bM:Ex}{i cap f v:Nat}{st:LSt}{aO:List TkV}{T:List PTk}{G:List Nat}{ps:List Tok}
structure StG(st:LSt):Prop where
 g:Gd st
 m:NmOK st
 s:NmS st.names
 c:st.calls<=500
theorem StG.start(h:StG st)(bl:EOK e)(bR:szE e<=10000):CnG st [mkT [] e] []:=
 ⟨h.g,h.m,h.s,h.c,(λt az=>by
  rw[List.mem_singleton]at az
  subst az
  exact⟨bl,(λb I=>by cases I)⟩),(λy aY=>by cases aY),(by
  have:wtS [mkT [] e]=szE e:=by simp[wtS,wtK]
  grind)⟩
theorem tJ:∀(n:Nat) (st:LSt) (O:List Tsk) (G:List Nat),CnG st O G->∀aG ys,jw n st O G=some (.ok (aG,ys))->CnG aG [] ys
 |n,st,[],G,h,aG,ys,e=>by
  grind[jw]
 |0,st,t::S,G,h,aG,ys,e=>by cases e
 |n+1,st,t::S,G,h,aG,ys,e=>by
  rw[jw]at e
  split at e
  ·rename_i az
   split at e
   ·cases e
   ·rename_i ab
    split at e
    ·cases e
    ·rename_i c aj
     exact tJ n _ _ _ (sO h az xaa aj) _ _ e
  ·rename_i az
   split at e
   ·cases e
   ·rename_i c aj
    exact tJ n _ _ _ (sN h (by grind) aj) _ _ e
theorem StG.eval(h:StG st)(bl:EOK e)(bR:szE e<=10000){aG a}(aD:dQ f st [] e=some (.ok (aG,a))):StG aG/\aG.names=st.names/\aG.outs=st.outs/\a<aG.vs.length:=by
 obtain⟨w,F⟩:=fE f _ _ e h.g h.m (λb I=>by cases I) bl _ aD _ a rfl;obtain⟨n,V⟩:=mD h.g h.m bl aD;have k:=tJ n _ _ _ (h.start bl bR) _ _ V;exact⟨⟨k.g,k.m,k.s,k.c⟩,w.m,w.o,F⟩
theorem wJ:∀(ab:List Bdg) (s:List UInt8) (v:Nat),d8 ab s≠none->(∀s',d8 (ab.set (kP ab s) (.val s v)) s'=if s'=s then some (.val s v)else d8 ab s')/\kP (ab.set (kP ab s) (.val s v)) s=kP ab s
 |[],s,v,h=>absurd rfl h
 |b::r,s,v,h=>by
  by_cases c:b.nm=s
  ·have aC:kP (b::r) s=0:=by simp_all[kP,List.findIdx_cons]
   rw[aC]
   refine⟨λs'=>?_,?_⟩
   ·grind[d8,Bdg.nm]
   ·simp_all[kP,List.findIdx_cons,Bdg.nm]
  ·have l:(b.nm==s)=false:=by grind
   have z:kP (b::r) s=kP r s+1:=by unfold kP;rw[List.findIdx_cons,l];rfl
   have ah:d8 r s≠none:=by grind[d8]
   obtain⟨af,ad⟩:=wJ r s v ah
   rw[z]
   refine⟨λs'=>?_,?_⟩
   ·show d8 (b::r.set (kP r s) (.val s v)) s'=_
    by_cases d:b.nm=s'<;>simp_all[d8]<;>grind
   ·simp_all[kP,List.findIdx_cons]
theorem StG.setV(h:StG st){s}(aD:v<st.vs.length):StG (st.setV i s v):=
 ⟨⟨h.g.n,h.g.c,h.g.ok,h.g.k,h.g.i,h.g.o,by show(st.names.set i _).length<=5000;rw[List.length_set];exact h.g.m⟩,(λb I=>by
   obtain c|c:=List.mem_or_eq_of_mem_set (show b∈st.names.set i _ from I)
   ·exact h.m b c
   ·subst c;exact aD),(λbb ps body I=>by
   obtain c|c:=List.mem_or_eq_of_mem_set (show Bdg.fn bb _ _∈st.names.set i _ from I)
   ·exact h.s _ _ _ c
   ·cases c),h.c⟩
theorem Tq.rebind{E W}(h:Tq E ρ W st aO G){s bq bh}(V:d8 st.names s=some (.val bq bh)){o}(av:Mp (setBlock W E.V o) E.V (upF (mE st.names) s (h0 v))):Tq E ρ (setBlock W E.V o) (st.setV (kP st.names s) s v) aO G/\Sco ρ W ρ (setBlock W E.V o):=by
 obtain⟨u1,u3,Y,bm,am,ax,C⟩:=h;have c:=nG C.v o;have al:=C.rV;obtain⟨bv,bz,aJ⟩:=C.f;have bb:∀b,b=E.V->¬b<E.N:=λb q I=>by have:=C.r0 b I;grind
 have ad:=(wJ _ s v (by rw[V];simp)).1;have aZ:Sco _ W ρ _:=Sco.of c (λb _ q=>by grind) (λ_ _=>rfl);have l:=C;refine⟨⟨_,_,_,_,_,ax.chg c (λb _ q=>by grind) (λ_ _=>rfl),⟨C.toTcC.chg c (λq=>by have:=C.rT;grind),fH C.k c (λb e q=>by have:=C.rk b e;grind),fH C.x c (λb e q=>by have:=C.rx b e;grind),?_,⟨bv,bz.chg c (λq=>by have:=C.rF;grind),λs'=>?_⟩,λy aY=>?_,C.rT,C.rV,C.rF,C.rk,C.rx,C.r0,λb I=>C.rN b (yan c.size I),yan C.sz c.size⟩⟩,aZ⟩
 ·show Mp _ _ (mE (st.names.set (kP st.names s) (.val s v)))
  have:mE (st.names.set (kP st.names s) (.val s v))=upF (mE st.names) s (h0 v):=by
   funext s';unfold mE upF;rw[ad s'];by_cases d:s'=s
   ·rw[h3 d,h3 d]
   rw[h2 d,h2 d]
  grind
 ·show FnA _ _ (d8 (st.names.set (kP st.names s) (.val s v)) s') _;rw[ad _];by_cases d:s'=s
  ·rw[h3 d];have:=aJ s';rw[d,V]at this;rw[d];exact this
  rw[h2 d];exact(aJ _).chg c bb
 obtain⟨b9,cl,el⟩:=C.l y aY;exact⟨b9.chg c bb,cl.chg c (λb q=>by grind) (λ_ _=>rfl),el⟩
theorem yE{s k r}(h:kr f e i s (k+1) st=some r):∃r1,dQ f st [] e=some r1/\(∀q,r1=.error q->r=.error q)/\(∀ak v,r1=.ok (ak,v)->kr f e i s k (ak.setV i s v)=some r):=by
 grind[kr]
def RpI(E:Tqe)(ρ:Nat->Nat)(w:World)(f:Nat)(e0:Ex)(i:Nat)(s:List UInt8)(r:Rs LSt)(k:Nat)(W:World):Prop:=
 ∃stj ρj,Tq E ρj W stj [] []/\Sco ρ w ρj W/\StG stj/\(∃s0 v0,d8 stj.names s=some (.val s0 v0))/\kP stj.names s=i/\kr f e0 i s k stj=some r
theorem Ks(st n):(∃bq bh,d8 st.names n.text=some (.val bq bh)/\dX st [] n=.ok bh)\/((∀f i e r,fF f st (.rep i n e)=some r->r=.error (3,n.pos))/\dX st [] n=.error (3,n.pos)):=by
 unfold dX;simp only[kj,List.find?_nil,Option.map_none,fF];grind
theorem Kt{E}(h:Tq E ρ w st [] [])(g:StG st){i n}(fw:i.sym≠[])(bf:Dgs i.text)(bs:i.text≠[])(b9:n.sym≠[]){F aP}(ae:Nd w (λb=>b<E.N) (.iface F aP) bM)(H:ENk bM)(bl:EOK bM)(bR:szE bM<=10000){r}(ah:fF f st (.rep i n bM)=some r):
  Calls prog 263 #[.agg #[h0 (cvT i).kind,dJ (cvT i).text,h0 ((cvT i).at_:Int),h0 (cvT n).kind,dJ (cvT n).text,h0 ((cvT n).at_:Int),.iface F aP],ge E.T] w (StX E ρ w r):=by
 have bB:M (ρ w.heap.size=0/\∀b,b<E.N->ρ b=0):=by
  exact xhp
 have P:M (∀W,Kept 0 0 w W->_):=λW k=>nQ (h.keep k) (mp:=none) (loc:=[]) (.inl ⟨rfl,rfl⟩) b9;have i1:M (∀W,_):=λW=>zC bf fw bs W;have aW:=jU fw;have dp:=jU b9;rw[dp]at P⊢;rw[aW]at i1⊢;have bn:=Ks st n;have bd:∃N:Nat,ek i.text=(N:Int):=⟨(ek i.text).toNat,ih (vQ bf)⟩
 obtain⟨is,x,z⟩:=i;obtain⟨ab,bm,s⟩:=n;simp only at P i1 bn bd⊢;obtain⟨N,bb⟩:=bd;generalize eV z=J at*;generalize eV s=aB at*;unfold tkV at P i1;simp only at P i1;rw[bb]at i1;have aL:=dE 0 0 w (.cells #[h0 J,dJ z,h0 x,h0 aB,dJ s,h0 bm,.iface F aP] 170);obtain⟨L,_,U⟩:=eo w #[h0 J,dJ z,h0 x,h0 aB,dJ s,h0 bm,.iface F aP] 170 (ib).chg (S:=λ_=>False) (λc=>c)
 have aw:M (∀W,Chg (λb=>ρ b≠0) (w.alloc (.cells #[h0 J,dJ z,h0 x,h0 aB,dJ s,h0 bm,.iface F aP] 170)) W->W.cell? ⟨w.heap.size,0,none⟩=some (h0 J)/\W.cell? ⟨w.heap.size,1,none⟩=some (dJ z)/\W.cell? ⟨w.heap.size,2,none⟩=some (h0 x)/\W.cell? ⟨w.heap.size,3,none⟩=some (h0 aB)/\W.cell? ⟨w.heap.size,4,none⟩=some (dJ s)/\W.cell? ⟨w.heap.size,5,none⟩=some (h0 bm)/\W.cell? ⟨w.heap.size,6,none⟩=some (.iface F aP)):=λW c=>by
  have f:∀o v,(#[h0 J,dJ z,h0 x,h0 aB,dJ s,h0 bm,.iface F aP]:Array Value)[o]? =some v->_:=λo v aD=>(c.cell (p:=⟨w.heap.size,o,none⟩) U (λq=>q bB.o.1)).trans ((L o).trans aD)
  exact⟨f 0 _ rfl,f 1 _ rfl,f 2 _ rfl,f 3 _ rfl,f 4 _ rfl,f 5 _ rfl,f 6 _ rfl⟩
 have ay:=Q aL;have aa:M (∀W,Chg (λb=>ρ b≠0) (w.alloc (.cells #[h0 J,dJ z,h0 x,h0 aB,dJ s,h0 bm,.iface F aP] 170)) W->_):=λW c=>(ae.keep aL).chg c (λb q I=>q (bB.o.2 b I));obtain⟨bq,bh,bA,Y⟩|⟨u,Y⟩:=bn
 ·have y:(if 100<N then some (.error (5,x))else kr f bM (kP st.names s) s N st)=some r:=by
   simp only[fF]at ah;rw[bA]at ah;simp only at ah;rw[bb]at ah;by_cases c:100<N
   ·rw[h3 c];rw[h3 xaa]at ah;exact ah
   rw[h2 c];rw[h2 xaa,Int.toNat_natCast]at ah;exact ah
  have al:=Q Y;have bu:M (EOK bM/\ENk bM/\szE bM<=10000):=⟨bl,H,bR⟩
  by_cases c:100<N
  ·rw[h3 c]at y;cases y;clear h g ae H bl bR ah bA Y aa L U aL;go_enter func263,ntmps263
   go_wp2_with (first
    |(go_at_call 163;refine yai (P.o _ ay.o) ?_;rintro e Z ⟨ad,(⟨v,K,rfl⟩|⟨c,p,K,rfl⟩)⟩;rotate_left;(exfalso;rw[al.o]at K;cases K);have D:=Q ad;obtain⟨af,am,av,az,aC,aj,a6⟩:=aw.o Z ad.chg;clear ad K)
    |(go_at_call 182;refine yai (i1.o _) ?_;rintro e ao ⟨rfl,a5⟩;have aJ:M _:=D.o.trans a5;obtain⟨aM,aV,aX,aN,a8,aI,bc⟩:=aw.o ao (D.o.trans a5).chg;clear a5 af am av az aC aj a6)
    |(go_at_call 52;refine yai j4 ?_;rintro e a7 ⟨rfl,X⟩;obtain rfl:=X.symm;exact h1 rfl (.inr ⟨5,x,rfl,rfl,(ay.o.trans aJ.o).chg⟩)))
  rw[h2 c]at y;have cb:M (∀W,Kept 0 0 (w.alloc (.cells #[h0 J,dJ z,h0 x,h0 aB,dJ s,h0 bm,.iface F aP] 170)) W->RpI E ρ (w.alloc (.cells #[h0 J,dJ z,h0 x,h0 aB,dJ s,h0 bm,.iface F aP] 170)) f bM (kP st.names s) s r N W):=λW k=>⟨st,ρ,h.keep (aL.trans k),Sco.kept k,g,⟨bq,bh,bA⟩,rfl,y⟩
  clear h g ae H bl bR ah y bA Y L U aL;generalize kP st.names s=aT at*;go_enter func263,ntmps263
  go_wp2_with (first
   |(go_at_call 163;refine yai (P.o _ ay.o) ?_;rintro e Z ⟨ad,(⟨v,K,rfl⟩|⟨c,p,K,rfl⟩)⟩;rotate_left;(exfalso;rw[al.o]at K;cases K);have D:=Q ad;obtain⟨af,am,av,az,aC,aj,a6⟩:=aw.o Z ad.chg;clear ad K)
   |(go_at_call 182;refine yai (i1.o _) ?_;rintro e ao ⟨rfl,a5⟩;have aJ:M _:=D.o.trans a5;obtain⟨aM,aV,aX,aN,a8,aI,bc⟩:=aw.o ao (D.o.trans a5).chg;clear a5 af am av az aC aj a6))
  clear aM aV aX aN a8 aI bc;go_loopw [19] (λbF W=>∃j:Nat,j<=N/\bF=h0 j/\M (RpI E ρ (w.alloc (.cells #[h0 J,dJ z,h0 x,h0 aB,dJ s,h0 bm,.iface F aP] 170)) f bM aT s r (N-j) W)) (λbF _=>N-(intOf bF).toNat)
  case atStart=>exact⟨0,yad,rfl,cb.o _ aJ.o⟩
  case round=>
   obtain⟨j,aK,rfl,au⟩:=hrel;obtain⟨a,a9,an,ai,aG,⟨ak,aH,bi⟩,a0,S⟩:=au.o;clear au;by_cases bz:j<N
   ·obtain⟨B,V⟩:∃B,N-j=B+1:=⟨N-j-1,by omega⟩
    have ax:M (N-(j+1)=B):=by show _=_;omega
    rw[V]at S;obtain⟨r1,m,u,ap⟩:=yE S;obtain⟨q,ar⟩:=mD aG.g aG.m bu.o.1 m;have bW:M (∀W,Kept 0 0 wr W->_):=λW k=>zX (an.keep k) ((aa.o wr ai.chg).keep k) bu.o.2.1 (aG.start bu.o.1 bu.o.2.2) ar;have O:=Q u
    have cM:M (∀A bX,r1=.ok (A,bX)->StG A/\bX<A.vs.length/\d8 A.names s=some (.val ak aH)/\kP A.names s=aT/\kr f bM aT s B (A.setV aT s bX)=some r):=λA bX bU=>by
     rw[bU]at m
     obtain⟨b1,bp,_,aq⟩:=aG.eval bu.o.1 bu.o.2.2 m
     exact⟨b1,aq,it bp bi,it bp a0,ap A bX bU⟩
    obtain⟨aM,aV,aX,aN,a8,aI,bc⟩:=aw.o wr ai.chg;have bD:=an.mpV.1;have bY:=Q ai;clear an ai aG bi a0 S V m u ap ar aM aV aX aN aI;go_upto_region 7 with fail;go_region_with (go_at_call 156;refine yai (bW.o _ (by first|exact ib|exact ib.drew)) ?_;rintro e aA (⟨A,bX,R,bU,rfl,bL,bE⟩|⟨c,q,bU,rfl,c5⟩);rotate_left;exact h1 rfl (.inr ⟨c,q,O.o _ bU,rfl,((Sco.kept ay.o).trans (bY.o.trans (Sco.kept (by first|exact ib|exact ib.drew)))).bad c5⟩);have aZ:M (Sco ρ _ R aA):=bY.o.trans ((Sco.kept (by first|exact ib|exact ib.drew)).trans bE);obtain⟨ba,bw,be,bj,bx,bo,bv⟩:=aw.o aA aZ.o.chg;obtain⟨ag,cn⟩:=bL.mpV;obtain⟨t,bg,aE⟩:=sG (P:=prog) cn underlying98 underlying9 s (h0 bX);have aF:M _:=h1 bU (h1 bL aE);clear bU bL bE cn aE ba bw be bj bo bv)
    all_goals
     obtain⟨b1,aq,bS,l,br⟩:=cM.o A bX aF.o.1
     obtain⟨aS,bO⟩:=Tq.rebind aF.o.2.1 bS aF.o.2.2
     rw[l]at aS
     obtain⟨aQ,aU⟩:=wJ A.names s bX (by rw[bS];simp)
     rw[l]at aQ aU
     have cS:M (RpI E ρ (w.alloc (.cells #[h0 J,dJ z,h0 x,h0 aB,dJ s,h0 bm,.iface F aP] 170)) f bM aT s r (N-(j+1)) (setBlock aA E.V t)):=⟨_,R,aS,aZ.o.trans bO,b1.setV aq,⟨s,bX,by show d8 (A.names.set aT (.val s bX)) s=_;rw[aQ s,h3 rfl]⟩,aU,it ax.o br⟩
     clear aS bO aQ aU b1 aq bS l br aF cM bW O
     go_wp2
     go_roundw
     case rel=>exact⟨j+1,by omega,by go_num,cS⟩
     case measure=>simp[intOf];omega
   obtain rfl:j=N:=xaa
   have aR:r=.ok a:=by
    rw[Nat.sub_self]at S;rw[kr]at S;cases S;rfl
   have bk:M _:=h1 an ((Sco.kept ay.o).trans ai);have aY:=Q aR;clear an ai aG bi a0 S aR;go_wp2_with fail;go_end0
   exact .inl ⟨a,a9,E,⟨rfl,rfl,rfl,rfl,rfl⟩,aY.o,rfl,bk.o.1,bk.o.2⟩
 have aR:=u f _ bM r ah;subst aR;have al:=Q Y;clear h g ae H bl bR ah u Y aa L U aL;go_enter func263,ntmps263;go_wp2_with (go_at_call 163;refine yai (P.o _ ay.o) ?_;rintro e Z ⟨ad,(⟨v,K,rfl⟩|⟨c,p,K,rfl⟩)⟩;(first|(exfalso;rw[al.o]at K;cases K)|skip);(obtain⟨rfl,rfl⟩:3=c/\bm=p:=by(rw[al.o]at K;cases K;exact⟨rfl,rfl⟩));exact h1 rfl (.inr ⟨3,bm,rfl,rfl,(ay.o.trans ad).chg⟩))
theorem PE(i1 bv A u b w)(I:b<w.heap.size)(aj:w.cell? ⟨b,1,none⟩=some (dJ u)):
  Calls prog 265 #[.agg #[h0 i1,dJ bv,h0 A],ge b] w λe D=>e=.returned (.bool (bv==u))/\Kept 0 0 w D:=by
 have aL:=dE 0 0 w (.cells #[h0 i1,dJ bv,h0 A] 84);have n1:(w.alloc _).cell? _=some (dJ _):=(eo w #[h0 i1,dJ bv,h0 A] 84 (ib).chg (S:=λ_=>False) (λc=>c)).1 1;have c1:=dZ aL I aj;have ay:=Q aL;clear aL aj;cases a:(bv==u) with
 |true=>
  go_enter func265,ntmps265;go_wp2_with fail;go_ret;exact⟨rfl,ay.o⟩
 |false=>
  go_enter func265,ntmps265;go_wp2_with fail;go_ret;exact⟨rfl,ay.o⟩
theorem NS(w){g n m}(f:PkR w 0 (hZ g n cap) T)(aR:m<=T.length)(C:T.length<=1000000){u}(b)(I:b<w.heap.size)(aj:w.cell? ⟨b,1,none⟩=some (dJ u))(bZ):
  Calls prog 267 #[hZ g m bZ,.func (.func 265) #[] #[ge b]] w λe D=>Kept 0 0 w D/\∃k:Int,e=.returned (h0 k)/\decide (0<=k)=(T.take m).any (λq=>q.text==u):=by
 have bk:=Q f;have aE:=Q aj;clear f aj;go_enter func267,ntmps267;go_wp2_with fail;go_loopw [8] (λbF W=>∃j:Nat,j<=m/\bF=h0 j/\M (Kept 0 0 w W)/\M ((T.take j).any (λq=>q.text==u)=false)) (λbF _=>m-(intOf bF).toNat)
 case atStart=>exact⟨0,yad,rfl,Kept.refl _ _ _,by show _=_;simp⟩
 case round=>
  obtain⟨j,aK,rfl,bd,bo⟩:=hrel;by_cases P:j<m
  ·have o:j<T.length:=xaa;obtain⟨_,z,aD⟩:=pI (PkR.keep bk.o bd.o);obtain⟨aP,aQ,aU⟩:=aD j _ (yal o)
   have c:(T.take (j+1)).any (λq=>q.text==u)=(T[j].text==u):=by
    rw[List.take_add_one,yal o,List.any_append,bo.o];simp
   have l:(T.take (j+1)).any (λq=>q.text==u)=true->(T.take m).any _=true:=λh=>by
    rw[List.any_eq_true]at h⊢
    obtain⟨x,ar,cv⟩:=h
    exact⟨x,List.take_subset_take_left T xaa ar,cv⟩
   rw[c]at l;have be:M _:=PE T[j].kind T[j].text (T[j].at_:Int) _ b _ (yaj I bd.o.size) (dZ bd.o I aE.o);have bX:=Q c;have p:=Q l;clear aD c l;generalize T[j].kind=i1 at*;generalize T[j].text=bv at*;generalize T[j].at_=a8 at*;cases a:(bv==u) with
   |true=>
    rw[a]at be;have b5:=Q a;clear a;go_wp2_with fail;refine yai be.o ?_;rintro e Z ⟨rfl,ad⟩;have R:M _:=bd.o.trans ad;clear ad aP aQ aU;go_wp2_with fail;go_ret;exact⟨R.o,_,rfl,by rw[p.o b5.o];grind⟩
   |false=>
    rw[a]at be bX;clear a;go_wp2_with fail;refine yai be.o ?_;rintro e Z ⟨rfl,ad⟩;have R:M _:=bd.o.trans ad;clear ad aP aQ aU;go_wp2_with fail;grind[intOf]
  obtain rfl:j=m:=xaa;go_wp2_with fail;go_ret;exact⟨bd.o,_,rfl,i0 bo.o⟩
theorem C5{g n m}(f:PkR w 0 (hZ g n cap) T)(aR:m<=T.length)(C:T.length<=1000000)(u b)(I:b<w.heap.size)(aj:w.cell? ⟨b,1,none⟩=some (dJ u))(bZ):
  Calls prog 266 #[hZ g m bZ,.func (.func 265) #[] #[ge b]] w λe D=>Kept 0 0 w D/\e=.returned (.bool ((T.take m).any (λq=>q.text==u))):=by
 have cb:M _:=NS w f aR C b I aj bZ;clear f aj;go_enter func266,ntmps266;go_wp2_with (go_at_call 267;refine yai cb.o ?_;rintro e Z ⟨ad,k,rfl,(ay:M _)⟩);go_ret;exact⟨ad,by rw[<-ay.o];rfl⟩
theorem uR:∀(ps b:List Tok),oI b ps=none->(ps.map (·.text)).Nodup/\∀p∈ps,∀q∈b,q.text≠p.text
 |[],b,_=>⟨List.nodup_nil,λp aB=>by cases aB⟩
 |p::r,b,h=>by
  rw[oI]at h
  split at h
  ·cases h
  ·rename_i c
   obtain⟨z,J⟩:=uR r _ h
   grind
theorem Tq.mpF{E W}(h:Tq E ρ W st aO G):W.cell? ⟨E.T,2,none⟩=some (.map (some E.F))/\∃bv,Mp W E.F bv/\∀s,FnA W E.N (d8 st.names s) (bv s):=by
 obtain⟨_,_,_,_,_,_,C⟩:=h;exact⟨C.t2,C.f⟩
theorem Tq.bindF{E W}(h:Tq E ρ W st aO G){s ex bv}(V:d8 st.names s=none)(aJ:∀s,FnA W E.N (d8 st.names s) (bv s))(bi:FnA W E.N (some (.fn s ps bM)) (some ex)){o}(bz:Mp W E.F bv)(av:Mp (setBlock W E.F o) E.F (upF bv s ex)):Tq E ρ (setBlock W E.F o) {st with names:=st.names++[.fn s ps bM]} aO G/\Sco ρ W ρ (setBlock W E.F o):=by
 obtain⟨u1,u3,Y,bm,am,ax,C⟩:=h;have c:=nG bz o;have al:=C.rF;have bb:∀b,b=E.F->¬b<E.N:=λb q I=>by have:=C.r0 b I;grind
 refine⟨⟨_,_,_,_,_,ax.chg c (λb _ q=>by grind) (λ_ _=>rfl),⟨C.toTcC.chg c (λq=>by have:=C.rT;grind),fH C.k c (λb e q=>by have:=C.rk b e;grind),fH C.x c (λb e q=>by have:=C.rx b e;grind),?_,⟨_,av,λs'=>?_⟩,λy aY=>⟨(C.l y aY).1.chg c bb,(C.l y aY).2.1.chg c (λb q=>by grind) (λ_ _=>rfl),(C.l y aY).2.2⟩,C.rT,C.rV,C.rF,C.rk,C.rx,C.r0,λb I=>C.rN b (yan c.size I),yan C.sz c.size⟩⟩,Sco.of c (λb _ q=>by grind) (λ_ _=>rfl)⟩
 ·show Mp _ _ (mE (st.names++[.fn s ps bM]))
  have:mE (st.names++[.fn s ps bM])=mE st.names:=by
   funext s';unfold mE;rw[n6 V];by_cases d:s'=s
   ·grind
   rw[h2 (show ¬s'=(Bdg.fn s ps bM).nm from d)]
  rw[this];exact C.v.chg c (λq=>by have:=C.rV;grind)
 show FnA _ _ (d8 (st.names++[.fn s ps bM]) s') (upF bv s ex s');rw[n6 V];unfold upF;by_cases d:s'=s
 ·rw[h3 (show s'=(Bdg.fn s _ _).nm from d),h3 d];exact bi.chg c bb
 rw[h2 (show ¬s'=(Bdg.fn s _ _).nm from d),h2 d];exact(aJ _).chg c bb
def C6(st:LSt)(n:Tok)(ps:List Tok)(e:Ex):Rs LSt:=match d8 st.names n.text with
 |some _=>.error (3,n.pos)
 |none=>tR st n ps e
theorem NU{l:List Tok}(h:∀p∈l,p.sym≠[]){u}:(l.map cvT).any (λq=>q.text==u)=l.any (λq=>q.text==u):=by
 rw[List.any_map];induction l with
 |nil=>rfl
 |cons x r O=>
  rw[List.any_cons,List.any_cons,O (λp aB=>h p (by simp[aB]))];show((cvT x).text==u||_)=_;rw[jU (h x xac)]
theorem Ku{E}(h:Tq E ρ w st [] []){n}(ai:n.sym≠[])(gv:∀p∈ps,p.sym≠[]/\p.text≠[])(bD:ps.length<=1000000){sl F aP}(d2:PkR w 0 sl (ps.map cvT))(aW:∀b,sl.ownBlock=some b->b<E.N)(ae:Nd w (λb=>b<E.N) (.iface F aP) bM)(H:ENk bM):
  Calls prog 264 #[.agg #[h0 (cvT n).kind,dJ (cvT n).text,h0 ((cvT n).at_:Int),sl,.iface F aP],ge E.T] w (StX E ρ w (C6 st n ps bM)):=by
 obtain⟨al,ak,cf⟩:=d2.form;rw[List.length_map]at cf;subst cf;generalize au:ps.length=m at bD d2 aW⊢;have O:=Q au;clear au
 have bB:M (ρ w.heap.size=0/\∀b,b<E.N->ρ b=0):=by
  exact xhp
 have bc:M (∀W,Kept 0 0 w W->_):=λW k=>qp (h.keep k) ai;have an:=jU ai;rw[an]at bc⊢;obtain⟨ts,ap,J⟩:=n;simp only at bc⊢;generalize eV J=i1 at*;unfold tkV at bc;simp only at bc;have aL:=dE 0 0 w (.cells #[h0 i1,dJ J,h0 ap,.slice al m ak,.iface F aP] 175);obtain⟨L,_,U⟩:=eo w #[h0 i1,dJ J,h0 ap,.slice al m ak,.iface F aP] 175 (ib).chg (S:=λ_=>False) (λc=>c)
 have aw:M (∀W,Kept 0 0 (w.alloc (.cells #[h0 i1,dJ J,h0 ap,.slice al m ak,.iface F aP] 175)) W->W.cell? ⟨w.heap.size,0,none⟩=some (h0 i1)/\W.cell? ⟨w.heap.size,1,none⟩=some (dJ J)/\W.cell? ⟨w.heap.size,2,none⟩=some (h0 ap)/\W.cell? ⟨w.heap.size,3,none⟩=some (.slice al m ak)/\W.cell? ⟨w.heap.size,4,none⟩=some (.iface F aP)):=λW c=>
  ⟨dZ c U (L 0),dZ c U (L 1),dZ c U (L 2),dZ c U (L 3),dZ c U (L 4)⟩
 have ab:=Q U;have ay:=Q aL;have e0:=Q gv;have a:M (∀W,Kept 0 0 (w.alloc (.cells #[h0 i1,dJ J,h0 ap,.slice al m ak,.iface F aP] 175)) W->_):=λW k=>(d2.keep aL).keep k;have b5:M (∀W,Kept 0 0 (w.alloc (.cells #[h0 i1,dJ J,h0 ap,.slice al m ak,.iface F aP] 175)) W->_):=λW k=>h.keep (aL.trans k);have cA:M (∀W,Kept 0 0 (w.alloc (.cells #[h0 i1,dJ J,h0 ap,.slice al m ak,.iface F aP] 175)) W->(ps.map (·.text)).Nodup->FnA W E.N (some (.fn J ps bM)) (some (.agg #[.slice al m ak,.iface F aP]))):=λW k I=>⟨.slice al m ak,F,aP,rfl,(d2.keep aL).keep k,aW,(ae.keep aL).keep k,I,H,gv⟩
 generalize r:C6 st ⟨ts,ap,J⟩ ps bM=y;have A:=Q r;clear r h ai gv d2 aW ae H an L U aL;generalize bA:d8 st.names J=fb at bc;have S:=Q bA;clear bA;cases fb with
 |some aQ=>
  have r:y=.error (3,ap):=by rw[<-A.o];unfold C6;rw[show d8 st.names (Tok.mk ts ap J).text=some aQ from S.o]
  rw[r];clear r A;go_enter func264,ntmps264;exact qbp
 |none=>
  have R:M (tR st ⟨ts,ap,J⟩ ps bM=y):=by
   show _=_;rw[<-A.o];unfold C6;rw[show d8 st.names (Tok.mk ts ap J).text=none from S.o]
  clear A;go_enter func264,ntmps264;go_wp2_with (go_at_call 261;refine yai (bc.o _ ay.o) ?_;rintro e Z ⟨ad,(⟨_,rfl⟩|⟨c,_⟩)⟩;rotate_left;exact absurd rfl c;have D:=Q ad;obtain⟨af,am,av,az,aC⟩:=aw.o Z ad;clear ad);clear af am av az aC;go_loopw [15] (λbF W=>∃j:Nat,j<=m/\bF=h0 j/\M (Kept 0 0 (w.alloc (.cells #[h0 i1,dJ J,h0 ap,.slice al m ak,.iface F aP] 175)) W)/\M (oI (ps.take j) (ps.drop j)=oI [] ps)) (λbF _=>m-(intOf bF).toNat)
  case atStart=>exact⟨0,yad,rfl,D,rfl⟩
  case round=>
   obtain⟨j,aK,rfl,bd,bo⟩:=hrel;obtain⟨aM,aV,aX,aN,a8⟩:=aw.o wr bd.o;have br:=yaj ab.o bd.o.size;by_cases l:j<m
   ·have P:j<ps.length:=by have:=O.o;omega
    obtain⟨aq,rfl,a5⟩:∃aq,al=some ⟨aq,0,none⟩/\m<=ak:=by
     obtain⟨K,a6⟩|⟨aY,cap',bp,K,_,_,aj,_⟩:=(a.o wr bd.o).2
     ·rw[List.length_map]at a6;have:=O.o;omega
     injection K with ag b2 bU;exact⟨aY,ag,by rw[List.length_map,O.o]at aj;omega⟩
    have cS:j<=ak:=xaa;obtain⟨aa,z,aD⟩:=pI (a.o wr bd.o);clear aa;obtain⟨b1,bw,p2⟩:=aD j (cvT ps[j]) (by rw[List.getElem?_map,yal P];rfl);have aF:=jU (e0.o ps[j] (List.getElem_mem P)).1;rw[aF]at b1 bw p2;simp only at b1 bw p2
    have d4:oI (ps.take j) (ps.drop j)=if (ps.take j).any (λq=>q.text==ps[j].text)=true then some ps[j].pos else oI (ps.take (j+1)) (ps.drop (j+1)):=by
     rw[List.drop_eq_getElem_cons P,oI,List.take_add_one,yal P];rfl
    rw[bo.o]at d4;have bX:=Q d4
    have Y:((ps.map cvT).take j).any (λq=>q.text==ps[j].text)=(ps.take j).any (λq=>q.text==ps[j].text):=by
     rw[<-List.map_take];exact NU (λp aB=>(e0.o p (List.mem_of_mem_take aB)).1)
    have t:=dE 0 0 wr (.cells #[h0 (eV ps[j].text),dJ ps[j].text,h0 (ps[j].pos:Int)] 84);obtain⟨L,_,U⟩:=eo wr #[h0 (eV ps[j].text),dJ ps[j].text,h0 (ps[j].pos:Int)] 84 (ib).chg (S:=λ_=>False) (λc=>c);have aE:M _:=C5 ((a.o wr bd.o).keep t) (m:=j) (by rw[List.length_map];omega) (by rw[List.length_map,O.o];exact bD) ps[j].text wr.heap.size U (L 1) ak;rw[Y]at aE;have aI:(wr.alloc (.cells #[h0 (eV ps[j].text),dJ ps[j].text,h0 (ps[j].pos:Int)] 84)).cell? ⟨wr.heap.size,2,none⟩=some (h0 (ps[j].pos:Int)):=L 2;have c3:=dZ t br aN;have bJ:=Q t;have ce:=Q U;clear d4 Y aD aF L U aM aV aX a8 t bo;generalize (ps.take j).any (λq=>q.text==ps[j].text)=a9 at*;generalize ps[j].text=u at*;generalize eV u=bE at*;generalize ps[j].pos=aU at*;clear P;cases a9 with
    |true=>
     have r:y=.error (3,aU):=by
      rw[<-R.o];unfold tR;rw[show oI [] ps=some aU from by have:=bX.o;rw[h3 rfl]at this;exact this]
     rw[r];clear r R
     go_wp2_with (first
      |(go_at_call 266;refine yai aE.o ?_;rintro e a7 ⟨b0,rfl⟩;have ah:=dZ b0 ce.o aI;have x:M _:=(bd.o.trans bJ.o).trans b0;clear b0)
      |(go_at_call 52;refine yai j4 ?_;rintro e aA ⟨rfl,X⟩;obtain rfl:=X.symm;exact h1 rfl (.inr ⟨3,aU,rfl,rfl,(ay.o.trans x.o).chg⟩)))
    |false=>
     go_wp2_with (first
      |(go_at_call 266;refine yai aE.o ?_;rintro e a7 ⟨b0,rfl⟩;have x:M _:=(bd.o.trans bJ.o).trans b0;clear b0 aI c3 b1 bw p2))
     go_roundw
     case rel=>exact⟨j+1,by omega,by go_num,x,by have:=bX.o;rw[h2 xac]at this;exact this.symm⟩
     case measure=>simp[intOf];omega
   obtain rfl:m=j:=xaa
   have aT:oI [] ps=none:=by
    have:=bo.o;rw[List.drop_of_length_le (by rw[O.o];exact yac)]at this;rw[<-this,oI]
   have r:y=.ok {st with names:=st.names++[.fn J ps bM]}:=by
    rw[<-R.o];unfold tR;rw[aT]
   have V:=Q r;have ae:=(uR ps [] aT).1;obtain⟨ao,bv,bz,aJ⟩:=(b5.o wr bd.o).mpF;have g:Kept 0 0 wr wr.drew:=(ib).drew;have B:=bz.chg (g.chg (S:=λ_=>False)) (λc=>c);obtain⟨o,ar,a0⟩:=sG (P:=prog) (w:=wr.drew) B underlying99 underlying9 J (.agg #[.slice al m ak,.iface F aP]);obtain⟨aS,bO⟩:=Tq.bindF ((b5.o wr bd.o).keep g) S.o (λs=>(aJ s).chg (g.chg (S:=λ_=>False)) (λ_ q=>q.elim)) (cA.o _ (bd.o.trans g) ae) B a0;have bk:M _:=h1 aS ((Sco.kept (ay.o.trans (bd.o.trans g))).trans bO);clear aT r ae bz aJ g B a0 aS bO bo;go_upto_region 9 with fail;go_region
   all_goals go_wp2_with fail
   all_goals go_end0
   all_goals exact .inl ⟨_,ρ,E,⟨rfl,rfl,rfl,rfl,rfl⟩,V.o,rfl,bk.o.1,bk.o.2⟩
end
section
open Go.RowKit Flt
attribute[local go_sem] dI dG dF gh gj gn mkF
variable{u3 Y:Value}
theorem BS.set0{u1 vs c base R}(h:BS w P u1 u3 vs c base R Y)(v):BS (w.setCell ⟨P,0,none⟩ v) P v u3 vs c base R Y where
 lt:=by simpa[go_sem] using h.lt
 free:=λo=>by rw[World.frozen?_setCell];exact h.free o
 c0:=by rw[World.cell?_setCell_same (h:=h.c0)]
 c1:=by rw[fp xab];exact h.c1
 c2:=by rw[fp xab];exact h.c2
 c3:=by rw[fp xab];exact h.c3
 own:=dP h.own (it h.row h.ne)
 row:=h.row
 ne:=h.ne
 sz:=by simpa[go_sem] using h.sz
theorem Tq.inp{E ρ W aq}{st:LSt}{aO G bm am a g n cap}
  (ax:TqB E ρ W st.ins st.vs st.outs E.u1 u3 Y) (C:TqT E ρ W st.names st.calls aO G bm am) (c:Chg (λb=>E.u1.ownBlock=some b) W aq) (aG:E.u1.ownBlock=some g\/g=W.heap.size) (aV:g<aq.heap.size)
  (V:n=(st.ins++[a]).length) (aw:aq.ownsRow E.N 3 1 (hZ g n cap) n (kT (st.ins++[a]))):
  ∃ρ',Tq {E with u1:=hZ g n cap} ρ' (aq.setCell ⟨E.P,0,none⟩ (hZ g n cap)) {st with ins:=st.ins++[a]} aO G/\Sco ρ W ρ' (aq.setCell ⟨E.P,0,none⟩ (hZ g n cap)):=by
 have c2:=nR c E.P 0 (hZ g n cap);have f:∀b,(E.u1.ownBlock=some b\/b=E.P)->ρ b=1\/ρ b=6:=λb q=>q.elim (λq=>.inr (ax.ri b (by rw[<-ax.e1]at q;exact q))) (λq=>.inl (it q ax.rP))
 have cr:g≠E.P:=λe=>by
  obtain d|d:=aG
  ·have S:=ax.ri _ d;have:=ax.rP;rw[e]at S;omega
  ·have:=ax.b.lt;omega
 have aW:BS _ _ (hZ g n cap) _ _ _ _ _ _:=(ax.b.chg c (λq=>by have q:=q;have:=ax.ri _ q;have:=ax.rP;omega) (λb e q=>by have q:=q;have:=ax.ri _ q;have:=ax.rR _ e;omega)).set0 _;have aK:=fH ax.o c2 (λb e q=>ip (ax.ro b e) (f b q))
 have h:(aq.setCell ⟨E.P,0,none⟩ (hZ g n cap)).ownsRow E.N 3 1 (hZ g n cap) (st.ins++[a]).length (kT (st.ins++[a])):=by
  exact xht
 have bY:(aq.setCell ⟨E.P,0,none⟩ (hZ g n cap)).heap.size=aq.heap.size:=by simp[go_sem]
 have j:∀ρ':Nat->Nat,(∀b,b<W.heap.size->ρ' b=ρ b)->(∀b,aq.heap.size<=b->ρ' b=0)->ρ' g=6->Tq {E with u1:=.slice _ n _} _ _ {st with ins:=st.ins++[a]} aO _/\Sco _ W _ _:=λρ' e i F=>by
  have p:∀b,(hZ g n cap).ownBlock=some b->ρ' b=6:=λb q=>by
   have:g=b:=by simpa[Value.ownBlock] using q
   rw[<-this];exact F
  have l:=C.chg c2 (λb _ q=>ih (f b q)) e (λb I=>i b (by rw[bY]at I;exact I))
  exact⟨⟨_,_,_,_,_,⟨aW,h,aK,(e _ ax.b.lt).trans ax.rP,λb q=>(e b (dO ax.b.own q).2).trans (ax.rR b q),p,λb q=>(e b (dO ax.o q).2).trans (ax.ro b q),rfl,ax.e3⟩,⟨⟨l.lt,l.fz,l.t0,l.t1,l.t2,l.t3,l.t4,l.t5⟩,l.k,l.x,l.v,l.f,l.l,l.rT,l.rV,l.rF,l.rk,l.rx,l.r0,l.rN,l.sz⟩⟩,Sco.of c2 (λb _ q=>ih (f b q)) e⟩
 obtain d|d:=aG
 ·exact⟨_,j _ (λ_ _=>rfl) (λb I=>C.rN b (yan c.size I)) (ax.ri g d)⟩
 exact xdw
end
section
open Go.RowKit Flt
open Go.ChangeMaps (setBlock)
attribute[local go_sem] dI dG dF gh gj gn mkF
def inW(st:LSt)(n l:Tok):Rs LSt:=match d8 st.names n.text with
 |some _=>.error (3,n.pos)
 |none=>inR st n l
theorem NV{st aG p a}(h:eg st v p=.ok (aG,a)):aG.names=st.names:=by
 unfold eg at h;split at h
 ·cases h
 cases h;rfl
theorem NX{E ρ st}(h:Tq E ρ w st [] [])(g:Gd st){n l}(ai:n.sym≠[])(au:l.sym≠[])(aZ:Dgs l.text)(a9:l.text≠[]):
  Calls prog 260 #[.agg #[h0 (cvT n).kind,dJ (cvT n).text,h0 ((cvT n).at_:Int),h0 (cvT l).kind,dJ (cvT l).text,h0 ((cvT l).at_:Int)],ge E.T] w (StX E ρ w (inW st n l)):=by
 have bB:M (ρ w.heap.size=0):=by
  obtain⟨_,_,_,_,_,_,C⟩:=h;exact C.rN _ yac
 have bc:M (∀W,Kept 0 0 w W->_):=λW k=>qp (h.keep k) ai;have bg:M (∀W,_):=λW=>qk aZ au a9 W;have an:=jU ai;have aa:=jU au;rw[an]at bc⊢;rw[aa]at bg⊢;obtain⟨ts,ap,J⟩:=n;obtain⟨B,F,lt⟩:=l;simp only at bc bg⊢;generalize eV J=i1 at*;generalize eV lt=p at*;unfold tkV at bc bg;simp only at bc bg;have aL:=dE 0 0 w (.cells #[h0 i1,dJ J,h0 ap,h0 p,dJ lt,h0 F] 166);obtain⟨L,_,U⟩:=eo w #[h0 i1,dJ J,h0 ap,h0 p,dJ lt,h0 F] 166 (ib).chg (S:=λ_=>False) (λc=>c)
 have aw:M (∀W,Chg (λb=>ρ b≠0) (w.alloc (.cells #[h0 i1,dJ J,h0 ap,h0 p,dJ lt,h0 F] 166)) W->W.cell? ⟨w.heap.size,0,none⟩=some (h0 i1)/\W.cell? ⟨w.heap.size,1,none⟩=some (dJ J)/\W.cell? ⟨w.heap.size,2,none⟩=some (h0 ap)/\W.cell? ⟨w.heap.size,3,none⟩=some (h0 p)/\W.cell? ⟨w.heap.size,4,none⟩=some (dJ lt)/\W.cell? ⟨w.heap.size,5,none⟩=some (h0 F)):=λW c=>by
  have f:∀o v,(#[h0 i1,dJ J,h0 ap,h0 p,dJ lt,h0 F]:Array Value)[o]? =some v->_:=λo v aD=>(c.cell (p:=⟨w.heap.size,o,none⟩) U (λq=>q bB.o)).trans ((L o).trans aD)
  exact⟨f 0 _ rfl,f 1 _ rfl,f 2 _ rfl,f 3 _ rfl,f 4 _ rfl,f 5 _ rfl⟩
 have ay:=Q aL
 obtain⟨bf,Y,bh⟩:∃bf Y,E.u1=.slice bf st.ins.length Y:=by
  obtain⟨_,_,_,ax,_⟩:=h.open';obtain⟨K,a6⟩|⟨g,cap,bp,K,_⟩:=ax.i.2
  ·exact⟨none,0,by rw[K,a6]⟩
  exact⟨_,cap,K⟩
 have cb:=Q bh
 have ae:M (∀W,Kept 0 0 w W->W.cell? ⟨E.T,0,none⟩=some (ge E.P)/\W.cell? ⟨E.P,0,none⟩=some (.slice bf st.ins.length Y)):=λW k=>by
  obtain⟨_,_,_,ax,C⟩:=(h.keep k).open'
  have:=ax.b.c0
  rw[bh]at this
  exact⟨C.t0,this⟩
 have G:=Q h;have cd:=Q g;obtain⟨bS,hi,ch,b6,ci⟩:=info_parts qy;clear h ai au aZ a9 an aa L U aL bh g;generalize r:inW st ⟨ts,ap,J⟩ ⟨B,F,lt⟩=y;have A:=Q r;clear r;generalize bA:d8 st.names J=fb at bc;have S:=Q bA;clear bA;cases fb with
 |some aQ=>
  have r:y=.error (3,ap):=by rw[<-A.o];unfold inW;rw[show d8 st.names (Tok.mk ts ap J).text=some aQ from S.o]
  rw[r];clear r A;go_enter func260,ntmps260;exact qbp
 |none=>
  have R:M (inR st ⟨ts,ap,J⟩ ⟨B,F,lt⟩=y):=by
   show _=_;rw[<-A.o];unfold inW;rw[show d8 st.names (Tok.mk ts ap J).text=none from S.o]
  clear A;generalize aR:ek lt=m at*;have O:=Q aR;clear aR;cases ar:lenB m with
  |false=>
   have r:y=.error (4,F):=by
    rw[<-R.o];unfold inR;simp only;rw[O.o,h3 ((tu m).1 ar)]
   rw[r];clear r R;go_enter func260,ntmps260
   go_wp2_with (first
    |(go_at_call 261;refine yai (bc.o _ ay.o) ?_;rintro e Z ⟨ad,(⟨_,rfl⟩|⟨c,_⟩)⟩;rotate_left;exact absurd rfl c;have z:M _:=ay.o.trans ad;obtain⟨af,am,av,az,aC,aj⟩:=aw.o Z ad.chg;clear ad)
    |(go_at_call 171;refine yai (bg.o _) ?_;rintro e ao ⟨a5,(⟨c,_⟩|⟨_,rfl⟩)⟩;(first|(exfalso;rw[ar]at c;cases c)|skip);exact h1 rfl (.inr ⟨4,F,rfl,rfl,(z.o.trans a5).chg⟩)))
  |true=>
   have aY:=of_decide_eq_true ar;have aA:=Q aY;clear aY;by_cases c:20<=st.ins.length
   ·have r:y=.error (5,ap):=by
     rw[<-R.o];unfold inR;simp only;rw[O.o,h2 (ih aA.o),h3 c]
    have bm:st.ins.length=20:=ih cd.o.i
    rw[bm]at ae;rw[r];clear r R c cd;go_enter func260,ntmps260
    go_wp2_with (first
     |(go_at_call 261;refine yai (bc.o _ ay.o) ?_;rintro e Z ⟨ad,(⟨_,rfl⟩|⟨c,_⟩)⟩;rotate_left;exact absurd rfl c;have z:M _:=ay.o.trans ad;have D:=Q ad;obtain⟨af,am,av,az,aC,aj⟩:=aw.o Z ad.chg;clear ad)
     |(go_at_call 171;refine yai (bg.o _) ?_;rintro e ao ⟨a5,(⟨_,rfl⟩|⟨c,_⟩)⟩;rotate_left;(exfalso;rw[ar]at c;cases c);have i:M _:=z.o.trans a5;obtain⟨aM,aV,aX,aN,a8,aI⟩:=aw.o ao (D.o.trans a5).chg;obtain⟨aU,aT⟩:=ae.o ao i.o;clear a5 af am av az aC aj)
     |(go_at_call 52;refine yai j4 ?_;rintro e a7 ⟨rfl,X⟩;obtain rfl:=X.symm;exact h1 rfl (.inr ⟨5,ap,rfl,rfl,i.o.chg⟩)))
   have ag:M (st.ins.length<20):=by show _<_;omega
   have bF:((st.ins.length:Int)==20)=false:=yam xaa
   have aE:M (mI J (eg {st with ins:=st.ins++[m]} (dL 0 m (st.ins.length:Int) 0 0) ap)=y):=by
    show _=_;rw[<-R.o];unfold inR;simp only;rw[O.o,h2 (ih aA.o),h2 c]
   clear c R;go_enter func260,ntmps260
   go_upto_region 6 with (first
    |(go_at_call 261;refine yai (bc.o _ ay.o) ?_;rintro e Z ⟨ad,(⟨_,rfl⟩|⟨c,_⟩)⟩;rotate_left;exact absurd rfl c;have z:M _:=ay.o.trans ad;have D:=Q ad;obtain⟨af,am,av,az,aC,aj⟩:=aw.o Z ad.chg;clear ad)
    |(go_at_call 171;refine yai (bg.o _) ?_;rintro e ao ⟨a5,(⟨_,rfl⟩|⟨c,_⟩)⟩;rotate_left;(exfalso;rw[ar]at c;cases c);have i:M _:=z.o.trans a5;have aJ:M _:=D.o.trans a5;obtain⟨aU,aT⟩:=ae.o ao i.o;clear a5 af am av az aC aj))
   go_cut [] (λb4=>∃(a:Tqe) (P:Nat->Nat),M (Esm E a)/\M (Tq a P b4 {st with ins:=st.ins++[m]} [] []/\Sco ρ w P b4/\Sco ρ (w.alloc (.cells #[h0 i1,dJ J,h0 ap,h0 p,dJ lt,h0 F] 166)) P b4))
   case first=>
    obtain⟨aF,bG,bH,s,aq⟩:=(Tq.keep G.o i.o).open';have bd:∀b,(Value.slice bf st.ins.length Y).ownBlock=some b->ρ b=6:=iv cb.o s.ri
    have br:M (((Value.slice bf st.ins.length Y).ownBlock≠some E.T/\E.T<ao.heap.size/\ao.cell? ⟨E.T,0,none⟩=some (ge E.P))/\((Value.slice bf st.ins.length Y).ownBlock≠some E.P/\E.P<ao.heap.size/\ao.cell? ⟨E.P,0,none⟩=some (.slice bf st.ins.length Y)/\ao.frozen? ⟨E.P,0,none⟩=false)):=⟨⟨λq=>ip (bd _ q) aq.rT,aq.lt,aU⟩,λq=>ip (bd _ q) s.rP,s.b.lt,aT,s.b.free 0⟩
    have bq:=dZ (dE 0 0 ao (.cells #[h0 m] 3)).drew br.o.1.2.1 br.o.1.2.2;have bu:=dZ (dE 0 0 ao (.cells #[h0 m] 3)).drew br.o.2.2.1 br.o.2.2.2.1
    have aO:M (ao.ownsRow E.N 3 1 (.slice bf st.ins.length Y) st.ins.length (kT st.ins)):=by
     have:=s.i;rw[cb.o]at this;exact this
    have ab:M _:=h1 s aq;clear s aq bd;go_region_law (rw[h3 (by simp[Region.wanted])];refine wp_append_lies (ao.alloc (.cells #[h0 m] 3)).drew (.tmp 39) (.tmp 41) 23 rfl E.N 3 bS (h0 0) 1 8 underlying23 hi ch b6 ci rfl xab (.slice bf st.ins.length Y) st.ins.length (kT st.ins) ?_ (dW aO.o (dE 0 0 ao (.cells #[h0 m] 3)).drew) ⟨ao.heap.size,0,none⟩ 1 1 [h0 m] ?_ rfl (cell_one_new ao _ _) ?_ xab ?_ ?_ ?_ _ rfl ?_;(first|rfl|simp[Act.eval]);(first|rfl|simp[Act.eval]);(intro u bd;cases bd with|head=>rfl|tail _ h=>cases h);(have:=ag.o;unfold maxLen;omega);(have:=ag.o;omega);exact yan ab.o.2.sz (dE 0 0 ao (.cells #[h0 m] 3)).drew.size;intro g9 cap9 bn aB a0 bs cr;have aK:=Bj (W:=ao.drew) br.o.1.2.2 br.o.1.2.1 br.o.1.1 a0;have bv:=Bj (W:=ao.drew) br.o.2.2.2.1 br.o.2.2.1 br.o.2.1 a0;have m3:=K6 (W:=ao.drew) br.o.2.2.2.2 br.o.2.2.1 br.o.2.1 a0)
    all_goals
     obtain⟨t,x⟩:=ab.o
     have aL:=(dE 0 0 ao (.cells #[h0 m] 3)).drew
     obtain⟨P,aS,bO⟩:=Tq.inp (st:=st) (a:=m) (n:=st.ins.length+1) (t.chg (aL.chg (S:=λ_=>False)) (λ_ _ q=>q.elim) (λ_ _=>rfl)) (x.chg (aL.chg (S:=λ_=>False)) (λ_ _ q=>q.elim) (λ_ _=>rfl) (λb I=>x.rN b (yan aL.size I))) (by rw[cb.o];exact eD a0) (it cb.o bs) cr (by rw[yak];rfl) (by unfold kT at aB⊢;rw[List.map_append];exact aB)
     have j:M _:=h1 aS (h1 ((Sco.kept i.o).trans ((Sco.kept aL).trans bO)) ((Sco.kept (ρ:=ρ) aJ.o).trans ((Sco.kept aL).trans bO)))
     clear aS bO aL aB a0 bs cr t x
     go_wp2_with fail
     go_meet
     refine⟨{E with u1:=hZ g9 (st.ins.length+1) cap9},P,?_,j⟩
     exact⟨rfl,rfl,rfl,rfl,rfl⟩
   case rest=>
    obtain⟨a,P,H,j⟩:=hcut;clear aU aT;generalize wc=cf at*;have al:=H.o.2.1;rw[<-al];clear al;have bk:M (∀W,Kept 0 0 cf W->Calls prog 167 #[ge a.T,h0 ap,(dL 0 m (st.ins.length:Int) 0 0).agg] W (TqR a P W [] [] (eg {st with ins:=st.ins++[m]} (dL 0 m (st.ins.length:Int) 0 0) ap))):=λW k=>sP (j.o.1.keep k) (FB cd.o m ag.o) _ (by have:=aA.o;show _<=m;omega) (by have:=aA.o;show m<=_;omega) ap;obtain⟨aM,aV,aX,aN,a8,aI⟩:=aw.o cf j.o.2.2.chg;have bD:=j.o.1.mpV.1;clear aM aN a8 aI;go_upto_region 7 with fail;go_region_with (go_at_call 167;refine yai (bk.o _ (by first|exact ib|exact ib.drew)) ?_;rintro e cI (⟨bC,aW,bE,ak,rfl,T,V,_⟩|⟨c,q,ak,rfl,b5⟩);rotate_left;exact h1 rfl (.inr ⟨c,q,by rw[<-aE.o,ak];rfl,rfl,j.o.2.1.bad ((Sco.kept (by first|exact ib|exact ib.drew)).bad b5)⟩);have bl:M _:=j.o.2.1.trans ((Sco.kept (by first|exact ib|exact ib.drew)).trans V);obtain⟨ba,bw,be,bj,bx,bo⟩:=aw.o cI (j.o.2.2.trans ((Sco.kept (by first|exact ib|exact ib.drew)).trans V)).chg;obtain⟨aG,cn⟩:=T.mpV;obtain⟨aP,bz,bb⟩:=sG (P:=prog) cn underlying98 underlying9 J (h0 aW);have ah:M _:=h1 ak (h1 T bb);clear ak T V cn bb ba be bj bx bo)
    all_goals
     have bi:d8 bC.names J=none:=by rw[NV ah.o.1];exact S.o
     obtain⟨aS,bO⟩:=Tq.bind ah.o.2.1 bi ah.o.2.2
     have aH:M _:=h1 ah.o.1 (h1 aS (bl.o.trans bO))
     clear aS bO bi ah bz
     go_wp2
     go_end0
     refine .inl ⟨_,bE,a,H.o,?_,rfl,aH.o.2.1,aH.o.2.2⟩
     rw[<-aE.o,aH.o.1]
     rfl
end
section
open Go.RowKit Flt
attribute[local go_sem] dI dG dF gh gj gn mkF
theorem Bn(w):Calls prog 105 #[.slice none 0 0] w λe D=>e=.returned (.slice none 0 0)/\Kept 0 0 w D:=by
 have i:(binOp .eql 23 (.slice none 0 0) (.slice none 0 0)).run prog w=.ok (.bool true) w:=by
  exact xhh
 go_enter func105,ntmps105;go_wp2_with fail;go_ret;exact⟨rfl,ib⟩
theorem Kv:Calls prog 106 #[.slice none 0 0] w λe D=>e=.returned (.slice none 0 0)/\Kept 0 0 w D:=by
 have i:(binOp .eql 24 (.slice none 0 0) (.slice none 0 0)).run prog w=.ok (.bool true) w:=by
  simp only[binOp];simp[run_equal_slice_nil w 24 74 none 0 0 underlying24]
 go_enter func106,ntmps106;go_wp2_with fail;go_ret;exact⟨rfl,ib⟩
end
section
open Go.RowKit Flt
attribute[local go_sem] dI dG dF
theorem Ac(w):Calls prog 84 #[fj none 0 0 none 0 0 none 0 0] w λe D=>e=.returned (fj none 0 0 none 0 0 none 0 0)/\Kept 0 0 w D:=by
 have bx:=dE 0 0 w (eZ none 0 0 none 0 0 none 0 0);have c:=dE 0 0 (w.alloc (eZ none 0 0 none 0 0 none 0 0)) io;have aw:M _:=(gQ w _ _ _).keep c;have bR:(w.alloc (eZ none 0 0 none 0 0 none 0 0)).heap.size=w.heap.size+1:=by simp
 have au:=jY (w.alloc (eZ none 0 0 none 0 0 none 0 0));rw[bR]at au;have aF:=Q au;have ay:M _:=bx.trans c;clear bx c bR au;obtain⟨_,bT,bg,a8⟩:=aw.o;go_enter func84,ntmps84;go_wp2_with fail;generalize (w.alloc _).alloc _=aa at aw aF ay bT bg a8⊢;have bd:w.heap.size≠w.heap.size+1:=xaa
 go_region_held3 (λD=>D.cell? ⟨w.heap.size,0,none⟩=some (.slice none 0 0)/\D.cell? ⟨w.heap.size,1,none⟩=some (.slice none 0 0)/\D.cell? ⟨w.heap.size,2,none⟩=some (.slice none 0 0)) (first|go_keep|(simp only[Dr bd];exact⟨b2,r1,bp⟩))
  (first
   |(go_at_call 105;refine yai (Bn _) ?_;rintro e a7 ⟨rfl,f⟩;have b:=m.trans f;obtain⟨_,b2,r1,bp⟩:=G0.keep aw.o b;obtain⟨_,J,aD,aT,bZ,aS,bO⟩:=RB.keep aF.o b)
   |(go_at_call 106;refine yai Kv ?_;rintro e ao ⟨rfl,L⟩;have m:=a.trans L;obtain⟨_,bJ,ba,bu⟩:=G0.keep aw.o m)
   |(go_at_call 105;refine yai (Bn (aa.drewN 1)) ?_;rintro e Z ⟨rfl,aL⟩;have a:=Kept.trans (ed 0 0 1) aL;obtain⟨_,bq,ak,az⟩:=G0.keep aw.o a))
 have aZ:M _:=ay.o.trans b;clear bT bg a8 bq ak az bJ ba bu b2 r1 bp aL L f a m b aw;go_wp2_with fail;obtain⟨aP,aQ,aU⟩:=fQ _ _ J aD aT (.slice none 0 0) (.slice none 0 0) (.slice none 0 0);have a0:=fN a7 (w.heap.size+1) (.slice none 0 0) (.slice none 0 0) (.slice none 0 0);refine yax (v:=fj none 0 0 none 0 0 none 0 0) (by simp[results,results84,go_sem,aP,aQ,aU]) rfl ⟨rfl,?_⟩;exact aZ.o.new a0 xaa
theorem yG(w):Calls prog 53 #[fj none 0 0 none 0 0 none 0 0] w λe D=>∃P,e=.returned (ge P)/\BS D P (.slice none 0 0) (.slice none 0 0) [] 0 w.heap.size none (.slice none 0 0)/\w.heap.size<=P/\Kept 0 0 w D:=by
 have bx:=dE 0 0 w (eZ none 0 0 none 0 0 none 0 0);have aw:M _:=gQ w (.slice none 0 0) (.slice none 0 0) (.slice none 0 0);have ay:=Q bx;have aE:=Q Ac;clear bx;obtain⟨_,bT,bg,a8⟩:=aw.o;go_enter func53,ntmps53;go_wp2_with fail;clear bT bg a8;generalize w.alloc _=aa at aw ay⊢;refine yai (aE.o _) ?_;rintro e a7 ⟨rfl,b⟩;have F:=dE 0 0 a7 (.cells #[.slice none 0 0,.slice none 0 0,.slice none 0 0,h0 0] 105);have b6:=ay.o.size
 have t:M (BS (a7.alloc (.cells #[.slice none 0 0,.slice none 0 0,.slice none 0 0,h0 0] 105)) a7.heap.size (.slice none 0 0) (.slice none 0 0) [] 0 w.heap.size none _):=
  ⟨by simp,λo=>by simp,by simp,by simp,by simp,by simp,yau _ _,rfl,(λe=>by cases e),(by have:=b.size;simp;omega)⟩
 have al:M _:=Kept.trans b F;have a:M _:=G0.keep aw.o al.o;have c:M (w.heap.size<=a7.heap.size):=by have:=b.size;show _<=_;omega
 obtain⟨_,b1,bw,p2⟩:=a.o;clear F b b6 aw;go_wp2_with fail;clear b1 bw p2;generalize a7.alloc _=aA at t al a⊢;go_loopw [13] (λx W=>x=h0 0/\W=aA) (λx _=>0)
 case atStart=>exact⟨rfl,rfl⟩
 case round=>
  obtain⟨rfl,O⟩:=hrel;obtain rfl:=O;go_wp2_with fail;go_ret;exact⟨_,rfl,t.o,c.o,ay.o.trans al.o⟩
end
section
open Go.RowKit Flt
abbrev trW(W:World)(P:Nat):World:=((W.alloc (.map #[] 0)).alloc (.map #[] 0)).alloc (.cells #[.pointer (some ⟨P,0,none⟩),.map (some W.heap.size),.map (some (W.heap.size+1)),.int .i64 0,.slice none 0 0,.slice none 0 0] 102)
abbrev trE(W:World)(P N:Nat):Tqe:=⟨P,W.heap.size+2,W.heap.size,W.heap.size+1,N,.slice none 0 0,.slice none 0 0⟩
def trR(W:World)(P:Nat):Nat->Nat:=λb=>if b=P then 1 else if b=W.heap.size then 3 else if b=W.heap.size+1 then 4 else if b=W.heap.size+2 then 2 else 0
theorem Tq.start{W N}(h:BS W P (.slice none 0 0) (.slice none 0 0) [] 0 N none (.slice none 0 0))(F:N<=P):Tq (trE W P N) (trR W P) (trW W P) LSt.zero [] []:=by
 have af:=dE 0 0 W (.map #[] 0);have ad:=dE 0 0 (W.alloc (.map #[] 0)) (.map #[] 0);have a5:=dE 0 0 ((W.alloc (.map #[] 0)).alloc (.map #[] 0)) (.cells #[ge P,.map (some W.heap.size),.map (some (W.heap.size+1)),h0 0,.slice none 0 0,.slice none 0 0] 102);have a9:(W.alloc (.map #[] 0)).heap.size=W.heap.size+1:=by simp
 have bj:((W.alloc (.map #[] 0)).alloc (.map #[] 0)).heap.size=W.heap.size+2:=by simp
 have bI:(trW W P).heap.size=W.heap.size+3:=by simp
 have aV:=h.lt;have bY:=h.sz;obtain⟨L,bi,U⟩:=eo ((W.alloc (.map #[] 0)).alloc (.map #[] 0)) #[ge P,.map (some W.heap.size),.map (some (W.heap.size+1)),h0 0,.slice none 0 0,.slice none 0 0] 102 (ib).chg (S:=λ_=>False) (λc=>c);rw[bj]at L bi U;have m1:Mp (trW W P) _ _:=((Mp.new W).chg (ad.chg (S:=λ_=>False)) (λc=>c)).chg (a5.chg (S:=λ_=>False)) (λc=>c)
 have bv:Mp (trW W P) (W.heap.size+1) (λ_=>none):=by
  have:=(Mp.new _).chg (a5.chg (S:=λ_=>False)) (λc=>c);rw[a9]at this;exact this
 have I:BS (trW W P) P _ _ _ 0 N _ _:=h.chg (((af.trans ad).trans a5).chg) (λc=>c) (λ_ _ c=>c);have aj:dK []=0:=by simp[dK]
 refine⟨_,_,.slice none 0 0,_,_,⟨?_,yau _ _,yau _ _,?_,(λb e=>by cases e),(λb e=>by cases e),(λb e=>by cases e),rfl,rfl⟩,⟨⟨U,bi,L 0,L 1,L 2,L 3,L 4,L 5⟩,yau _ _,yau _ _,?_,⟨_,bv,λs=>rfl⟩,(λy aY=>by cases aY),?_,?_,?_,(λb e=>by cases e),(λb e=>by cases e),?_,?_,?_⟩⟩
 ·show BS _ _ _ _ [] (dK []) _ _ _;rw[aj];exact I
 ·grind[trR]
 ·have:mE []=λ_=>none:=by funext s;rfl
  show Mp _ _ (mE []);grind
 ·grind[trR]
 ·grind[trR]
 ·grind[trR]
 ·grind[trR]
 ·grind[trR]
 grind
theorem Kw{W N b}(F:N<=P)(bb:N<=W.heap.size)(h:trR W P b≠0):N<=b:=by
 grind[trR]
theorem GD:StG LSt.zero:=by
 refine⟨⟨yad,by decide,rfl,(λv aD=>by cases aD),yad,yad,yad⟩,(λb I=>by cases I),(λ_ _ _ I=>by cases I),yad⟩
end
section
open Go.RowKit Flt
attribute[local go_sem] dI dG dF gh gj gn mkF run_makeMap
variable{T n b:Nat}{G:List Value}
def GoO(w:World)(r:Rs LSt)(e:Ending)(w':World):Prop:=
 (∃st u1 vv u3,r=.ok st/\e=.returned (.agg #[u1,vv,u3])/\w'.ownsRow w.heap.size 3 1 u1 st.ins.length (kT st.ins)/\w'.ownsRow w.heap.size 74 6 vv st.vs.length (f9 st.vs)/\w'.ownsRow w.heap.size 3 1 u3 st.outs.length (kT st.outs)/\(∃c:Nat->Nat,(∀b,u1.ownBlock=some b->c b=6)/\(∀b,vv.ownBlock=some b->c b=5)/\(∀b,u3.ownBlock=some b->c b=7))/\StG st/\Kept 0 0 w w')\/(∃c p,r=.error (c,p)/\e=Thr c (p:Nat)/\Kept 0 0 w w')
def GoI(E0:Tqe)(ρ0:Nat->Nat)(W0:World)(f:Nat)(ss:List Sm)(r:Rs LSt)(j:Nat)(W:World):Prop:=
 ∃stj ρj Ej,Esm E0 Ej/\Tq Ej ρj W stj [] []/\Sco ρ0 W0 ρj W/\StG stj/\stj.names.length<=j/\kM f stj (ss.drop j)=some r
theorem n7{W:World}{size}(h:W.ownsRow b T size v n G):∃a c,v=.slice a n c:=by
 obtain⟨K,a6⟩|⟨g,cap,bp,K,_⟩:=h.2
 ·exact⟨none,0,by rw[K,a6]⟩
 exact⟨_,cap,K⟩
theorem wK{W:World}{size j}(h:W.ownsRow b T size v n G)(I:j<=b):W.ownsRow j T size v n G:=⟨h.1,h.2.imp id (λ⟨g,cap,bp,z,J,al⟩=>⟨g,cap,bp,z,yan I J,al⟩)⟩
theorem NZ{aL bu vs aI}(V:vs.length=n)(aw:w.ownsRow 0 90 1 (.slice aL n bu) n vs)(ae:SdL w (λb=>b<w.heap.size) vs aI)(ab:n<=4500){P:Sm->Prop}(ar:∀s∈aI,P s){f r}(ah:kM f LSt.zero aI=some r)(d4:∀(E:Tqe) (ρ:Nat->Nat) (W:World) (st:LSt) (v:Value) (s:Sm) (r1:Rs LSt),Tq E ρ W st [] []->StG st->Sd W (λb=>b<E.N) v s->P s->fF f st s=some r1->∃T x fn,v=.iface T x/\(fn=260\/fn=262\/fn=263\/fn=264\/fn=155)/\(∀W,Sem.run prog (method 433 T x "loop.example/s08086/impl.carryOut") W=.ok (fn,x) W)/\Calls prog fn #[x,ge E.T] W (StX E ρ W r1))(ba:∀(st s':LSt) (s:Sm),StG st->st.names.length<5000->P s->fF f st s=some (.ok s')->StG s'/\s'.names.length<=st.names.length+1):
  Calls prog 21 #[.slice aL n bu] w (GoO w r):=by
 have aj:M _:=jY w;have bx:=dE 0 0 w io;have bK:(w.alloc io).heap.size=w.heap.size+1:=by simp
 have av:M _:=yG (w.alloc io);have bS:=Q aw;have aH:=Q ae;have be:=Q ar;have bX:=Q d4;have au:=Q ba;have aF:=Q ah;have bc:=Q V;have az:=Q bx;have bi:=Q bK;clear aw ae ar d4 ba ah V bx bK;go_enter func21,ntmps21;go_upto_region 2 with (go_at_call 53;refine yai av.o ?_;rintro e a7 ⟨B,rfl,k,F,b0⟩;have aO:M _:=h1 k (h1 F b0);clear k F b0);change Code.wp _ _ _ _ (trW a7 B);obtain⟨k,F,b0⟩:=aO.o;rw[bi.o]at k F;have i:=Tq.start k F;have a5:Kept 0 0 a7 (trW a7 B):=((dE 0 0 a7 _).trans (dE 0 0 _ _)).trans (dE 0 0 _ _);have o:M _:=(az.o.trans b0).trans a5;have aX:M _:=(RB.keep aj.o b0).keep a5;have bQ:M (GoI (trE a7 B (w.heap.size+1)) (trR a7 B) (trW a7 B) f aI r 0 (trW a7 B)):=⟨LSt.zero,_,_,⟨rfl,rfl,rfl,rfl,rfl⟩,i,Sco.refl _ _,GD,yad,aF.o⟩
 have aE:M (∀b,trR a7 B b≠0->_):=λb h=>Kw F k.sz h;clear k F b0 i a5 aO;have t:(trE a7 B (w.heap.size+1)).T=a7.heap.size+2:=rfl;generalize ef:trE a7 B (w.heap.size+1)=aa at bQ t;have m:M (aa.N=w.heap.size+1):=by rw[<-ef];rfl
 generalize trR a7 B=S at*;generalize trW a7 B=W0 at*;rw[<-t];clear t ef
 have ao:M (∀W,Chg (λb=>S b≠0) W0 W->Kept 0 0 w W):=λW c=>by
  have c1:=o.o.chg.andThen c
  exact⟨c1.os,c1.tape,c1.output,c1.size,λb I _=>c1.block b I (λh=>ih (aE.o b h))⟩
 go_wp2_with fail;go_loopw [14] (λbF W=>∃j:Nat,j<=n/\bF=h0 j/\M (GoI aa S W0 f aI r j W)) (λbF _=>n-(intOf bF).toNat)
 case atStart=>exact⟨0,yad,rfl,bQ⟩
 case round=>
  obtain⟨j,aK,rfl,bh⟩:=hrel;obtain⟨a,a9,ad,l,an,ai,aG,aq,aB⟩:=bh.o;clear bh;have al:=l.2.1;by_cases aZ:j<n
  ·have bl:j<aI.length:=by have:=aH.o.1;have:=bc.o;omega
   have aN:j<vs.length:=ih bc.o
   rw[List.drop_eq_getElem_cons bl]at aB;obtain⟨r1,ay,u,ap⟩:=uL aB;have L:=o.o.chg.andThen ai.chg;have br:∀b,S b≠0->¬b<w.heap.size:=λb h I=>ih (aE.o b h)
   have bb:=l.2.2.2.2.trans m.o;have a8:Sd wr (λb=>b<ad.N) vs[j] aI[j]:=((aH.o.2 j _ _ (yal aN) (yal bl)).chg L br).mono (λb I=>by have I:=I;omega);obtain⟨bj,bB,bn,bf,aC,af,bG⟩:=bX.o ad a9 wr a vs[j] aI[j] r1 an aG a8 (be.o _ (List.getElem_mem bl)) ay
   obtain⟨Z,rfl,aJ,X⟩:∃Z,aL=some ⟨Z,0,none⟩/\Z<wr.heap.size/\wr.cell? ⟨Z,j,none⟩=some (.iface bj bB):=by
    have p:=fH bS.o L (λb e q=>br b q (dO bS.o e).2);obtain⟨K,a6⟩|⟨aY,cap',bp,K,_⟩:=p.2
    ·omega
    injection K with ag b2 bU;subst ag;exact⟨aY,rfl,(dO p (k:=aY) rfl).2,(by have:=p.cells (g:=aY) rfl j _ (by rw[yal aN]);rw[bf]at this;by_cases U:j=0<;>simpa[Addr.add,U] using this)⟩
   rw[al]at bG;have bP:=Q bG;have bY:=Q ai;have H:=Q l;have O:=Q u
   have aM:M (∀ak,r1=.ok ak->StG ak/\ak.names.length<=j+1/\kM f ak (aI.drop (j+1))=some r):=λak K=>by
    obtain⟨bz,b9⟩:=au.o a ak aI[j] aG xaa (be.o _ (List.getElem_mem bl)) (by rw[ay,K])
    exact⟨bz,by omega,ap ak K⟩
   clear bG ai l u ap aB an aG aq L br bb a8 bf al ay bl aN;obtain rfl|rfl|rfl|rfl|rfl:=aC
   all_goals
    go_wp2_with fail
    refine yai bP.o ?_
    rintro e aA (⟨A,R,bg,i1,bU,rfl,bL,bE⟩|⟨c,q,bU,rfl,c5⟩)
    rotate_left
    ·exact h1 rfl (.inr ⟨c,q,O.o _ bU,rfl,ao.o _ (bY.o.bad c5)⟩)
    obtain⟨b1,aV,p5⟩:=aM.o A bU
    have D:M (GoI aa S W0 f aI r (j+1) aA):=⟨A,R,bg,⟨i1.1.trans H.o.1,i1.2.1.trans H.o.2.1,i1.2.2.1.trans H.o.2.2.1,i1.2.2.2.1.trans H.o.2.2.2.1,i1.2.2.2.2.trans H.o.2.2.2.2⟩,bL,bY.o.trans bE,b1,aV,p5⟩
    clear i1 bL bE b1 aV p5 af X aJ
    go_wp2_with fail
    go_roundw
    case rel=>exact⟨j+1,by omega,by go_num,D⟩
    case measure=>simp[intOf];omega
  obtain rfl:n=j:=xaa
  have y:r=.ok a:=by
   rw[List.drop_of_length_le (ip aH.o.1 bc.o),kM]at aB;exact(h4 aB).symm
  obtain⟨u1,u3,Y,bm,am,ax,C⟩:=an;obtain⟨a1,aW,rfl⟩:=n7 ax.i;obtain⟨a2,bA,rfl⟩:=n7 ax.b.own;obtain⟨a3,bs,rfl⟩:=n7 ax.o;have bJ:=C.t0;have c0:=ax.b.c0;have c1:=ax.b.c1;have c2:=ax.b.c2;rw[al]at bJ
  have aR:S w.heap.size=0:=by
   obtain e|e:=Nat.eq_zero_or_pos (S w.heap.size)
   ·exact e
   have:=aE.o w.heap.size xaa;omega
  obtain⟨bq,J,aD,aT,bZ,aS,bO⟩:=RB.keepC aX.o ai.chg (λq=>q aR);have bk:M _:=h1 ax (h1 C (h1 ai (h1 aG y)));have H:=Q l
  have bd:ad.P≠w.heap.size:=λe=>by
   have z:=ax.rP
   rw[e,ai.ext _ (yaj yae (ih aX.o.sz)),aR]at z
   omega
  clear ax C ai aG y l aB al aR aq;go_wp2_with fail;obtain⟨ax,C,ai,aG,y⟩:=bk.o;have bb:=H.o.2.2.2.2.trans m.o;obtain⟨aP,aQ,aU⟩:=fQ wr w.heap.size J aD aT (.slice a1 a.ins.length aW) (.slice a2 a.vs.length bA) (.slice a3 a.outs.length bs);have a0:=fN wr w.heap.size (.slice a1 a.ins.length aW) (.slice a2 a.vs.length bA) (.slice a3 a.outs.length bs);refine yax (v:=.agg #[.slice a1 a.ins.length aW,.slice a2 a.vs.length bA,.slice a3 a.outs.length bs]) (by simp[results,results21,go_sem,aP,aQ,aU]) rfl (.inl ⟨a,_,_,_,y,rfl,?_,?_,?_,⟨a9,ax.ri,ax.rR,ax.ro⟩,aG,?_⟩)
  ·exact jG (wK ax.i xaa) a0 (λg e=>.inr (ih ((dO ax.i e).1)))
  ·exact jG (wK ax.b.own xaa) a0 (λg e=>.inr (ih ((dO ax.b.own e).1)))
  ·exact jG (wK ax.o xaa) a0 (λg e=>.inr (ih ((dO ax.o e).1)))
  exact(ao.o wr ai.chg).new a0 yac
end
section
open Go.RowKit Flt
theorem N0{r e D}(h:GoO w r e D):GoP w r e D:=by
 obtain⟨st,u1,Y,u3,ah,rfl,ca,b6,aO,aj,g,k⟩|⟨c,p,ah,rfl,k⟩:=h
 ·obtain⟨a1,c1,a2,c2,a3,c3,rfl,rfl,rfl,I,av,ab⟩:=Pv ah ca b6 aO aj g.g (Kept.refl 0 0 w) k;subst ah;exact .inl ⟨⟨_,_,_,_,_,_,rfl,I,av⟩,⟨rfl,rfl,ab⟩,k⟩
 exact .inr ⟨c,p,ah,rfl,k⟩
