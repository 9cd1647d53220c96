import Derived.Test.YtkjahdegnkmejaaGreatP52
import Derived.Test.YtkjahdegnkmejaaGreatP31
import Derived.Test.YtkjahdegnkmejaaGreatP47
namespace Go.Proofs.Z
variable{Zp:Prop}
open Tryz
set_option maxRecDepth 1000000
set_option maxHeartbeats 0
open Go.RowKit Flt
attribute[local go_sem] eE eC eB
variable{w:World}{f:Option Nat->Option Nat}{p P n c k q cap:Nat}{xs bs:List Int}{s:Option Nat}{a:Option Addr}
abbrev GT:Type:=List Int×List Vl×List Int×Nat
def pkG(k:Nat)(T0 T1:GT):GT:=if k=1 then (if (okG T1.1 T1.2.1 T1.2.2.1&&decide (T1.2.1.length<100))=true then T1 else (T0.1,T0.2.1,T0.2.2.1,T1.2.2.2))else T0
def cdM(k:Nat)(G:GT):List Int×List Ste×List Spn×Int×Nat:=
 (G.1,gj G.2.1 (plD (k==0) G.2.1 G.2.2.1) G.2.1.length,G.2.2.1.map (jJ G.2.1 (plD (k==0) G.2.1 G.2.2.1)),pkD (k==0) G.2.1 G.2.2.1,G.2.2.2)
def CdT(w:World)(P:Nat)(a:Option Addr)(n cap:Nat)(bs:List Int)(T:List Int×List Ste×List Spn×Int×Nat)(e:Ending)(w':World):Prop:=
 ∃a1 n1 c1 a2 n2 c2 a3 n3 c3,∃ss:List Ste,e=.returned (jh a1 n1 c1 a2 n2 c2 a3 n3 c3 T.2.2.2.1)/\ss.map nk=T.2.1.map nk/\OCd w' w.heap.size (.slice a1 n1 c1) (.slice a2 n2 c2) (.slice a3 n3 c3) T.1 ss T.2.2.1/\RdF w' P a n cap T.2.2.2.2 bs/\Kept P (P+1) w w'
theorem Cc(w:World)(x y z):RB (w.alloc (.cells #[x,y,z] 73)) w.heap.size x y z:=by
 exact xjb
structure Gx(W w:World)(P:Nat)(a:Option Addr)(n cap:Nat)(bs:List Int)(G:Nat)(T:GT)(a1:Option Addr)(c1:Nat)(a2:Option Addr)(c2:Nat)(a3:Option Addr)(c3:Nat)(vs:List Vl):Prop where
 sv:vs.map sv=T.2.1
 d:DG W (w.heap.size+1) (.slice a1 T.1.length c1) (.slice a2 vs.length c2) (.slice a3 T.2.2.1.length c3) T.1 vs T.2.2.1
 g:RB W G (.slice a1 T.1.length c1) (.slice a2 vs.length c2) (.slice a3 T.2.2.1.length c3)
 rd:RdF W P a n cap T.2.2.2 bs
 rs:KB W w.heap.size (.slice none 0 0) (.slice none 0 0) (.slice none 0 0) (.int .i64 0)
 kp:Kept P (P+1) w W
section
variable{W F w:World}{P n cap G c1 c2 c3:Nat}{a a1 K a3:Option Addr}{bs:List Int}{T:GT}{vs:List Vl}
theorem Gx.next(f:Gx W w P a n cap bs G T a1 c1 K c2 a3 c3 vs)(k:Kept P (P+1) W F){j}(r:RdF F P a n cap j bs)(hP:P<w.heap.size)(bR:w.heap.size<G):Gx F w P a n cap bs G (T.1,T.2.1,T.2.2.1,j) a1 c1 K c2 a3 c3 vs:=
 ⟨f.sv,f.d.kept k xaa,f.g.kept k xaa,r,mA f.rs k xaa,f.kp.trans k⟩
theorem Gx.keep(f:Gx W w P a n cap bs G T a1 c1 K c2 a3 c3 vs)(k:Kept 0 0 W F):Gx F w P a n cap bs G T a1 c1 K c2 a3 c3 vs:=
 ⟨f.sv,f.d.kept k yae,f.g.keep k,f.rd.keep k yab,f.rs.keep k,f.kp.trans (k.mono λ_ _ h=>by omega)⟩
end
theorem In(vs:List Vl):(vs.map sv).map sv=vs.map sv:=by
 rw[List.map_map]
 exact List.map_congr_left λv _=>by
  show(⟨v.op,v.len,v.a,v.b,v.c,fbz (fbz v.k)⟩:Vl)=⟨v.op,v.len,v.a,v.b,v.c,fbz v.k⟩
  rw[tA,tA,AA]
theorem Gx.lk{W G c1 c2 c3 a1 K a3 T vs}(f:Gx W w P a n cap bs G T a1 c1 K c2 a3 c3 vs):Lk vs T.2.1:=Mc (by rw[<-f.sv,In])
theorem Io{g T1}(h:okG g.1 g.2.1 g.2.2.1=true):okG (pkG k g T1).1 (pkG k g T1).2.1 (pkG k g T1).2.2.1=true:=by
 unfold pkG;split
 ·split
  ·rename_i c;exact(Bool.and_eq_true _ _ ▸ c).1
  exact h
 exact h
theorem Bl{i g T1}(X:RdF w P a n cap i bs)
  (aj:∀W,RdF W P a n cap (ni bs i) bs->Calls prog 34 #[ge P] W (DgF W P a n cap bs g.1 g.2.1 g.2.2.1 g.2.2.2))
  (B:∀W,RdF W P a n cap g.2.2.2 bs->Calls prog 35 #[ge P] W (DgF W P a n cap bs T1.1 T1.2.1 T1.2.2.1 T1.2.2.2))
  (af:okG g.1 g.2.1 g.2.2.1=true):
  Calls prog 12 #[ge P] w (CdT w P a n cap bs (cdM (nv bs i%8) (pkG (nv bs i%8) g T1))):=by
 have hP:=X.lt;have bF:=eA P (P+1) w gK;have aK:V _:=X.keep (eA 0 0 w gK) yab;have az:V _:=kz w;have x:V _:=bF;have b9:V _:=hP;have bu:V _:=λW i f=>iD W P a n cap i bs f;have u:V _:=aj;have H1:V _:=B;have cV:V _:=af;have bz:(nv bs i:Int)%8=((nv bs i%8:Nat):Int):=xaa;have cP:nv bs i%8<8:=Nat.mod_lt _ xaa;generalize nv bs i%8=k at bz cP⊢;clear X aj B af bF hP;go_enter func12,ntmps12;go_wp2_with fail;generalize w.alloc gK=W0 at aK az x⊢;refine yaj (bu.o _ _ aK.o) ?_;rintro e aq ⟨rfl,(cg:V _),ap,aV⟩;have aA:V _:=x.o.trans ap;have bY:V _:=mA az.o ap (.inr b9.o);clear ap aV aK x az bu;go_wp2_with fail;rw[bz];refine yaj (u.o _ cg.o) ?_;rintro e bU ⟨a1,c1,K,c2,a3,c3,us,rfl,bc,d,F,aC⟩;have b8:=bY.o.sz;have bA:V (Gx (bU.alloc (fB a1 g.1.length c1 K us.length c2 a3 g.2.2.1.length c3)) w P a n cap bs bU.heap.size g a1 c1 K c2 a3 c3 us):=⟨bc,(d.mono xaa).kept (eA 0 0 _ _) yae,Cc bU _ _ _,F.keep (eA 0 0 _ _) yab,(mA bY.o aC (.inr b9.o)).keep (eA 0 0 _ _),(aA.o.trans aC).trans (eA _ _ _ _)⟩
 have bD:V _:=yak b8 aC.size;clear bc d F aC b8 cg aA bY u;go_upto_if 17 with fail
 generalize bU.alloc (fB a1 g.1.length c1 K us.length c2 a3 g.2.2.1.length c3)=aM at bA⊢;generalize bU.heap.size=G at bA bD⊢;go_cut [5] from 16 to 27 (λcF cq=>∃a1 c1 K c2 a3 c3 vs,V (Gx cq w P a n cap bs G (pkG k g T1) a1 c1 K c2 a3 c3 vs))
 case first=>
  obtain⟨_,aU,ax,aF,bT,f1,f2⟩:=bA.o.g;by_cases c7:k=1
  ·have ad:((k:Int)==1)=true:=by rw[beq_iff_eq];omega
   have bL:V (pkG k g T1=if (okG T1.1 T1.2.1 T1.2.2.1&&decide (T1.2.1.length<100))=true then T1 else (g.1,g.2.1,g.2.2.1,T1.2.2.2)):=by show _=_;unfold pkG;rw[iv c7]
   clear c7 bz;go_wp2_with fail;refine yaj (H1.o _ bA.o.rd) ?_;rintro e cd ⟨R,aX,a6,bk,U,ab,Y,rfl,(bG:V _),d,F,bS⟩;have br:V _:=(bA.o.next bS F b9.o bD.o).keep (eA 0 0 cd (fB R T1.1.length aX a6 Y.length bk U T1.2.2.1.length ab));have aT:V _:=Cc cd (.slice R T1.1.length aX) (.slice a6 Y.length bk) (.slice U T1.2.2.1.length ab);have HD:V _:=d.kept (eA 0 0 cd (fB R T1.1.length aX a6 Y.length bk U T1.2.2.1.length ab)) yae;have b2:V _:=CE _ R a6 U _ aX _ bk _ ab T1.1 Y T1.2.2.1 ⟨nV HD.o.r1 rfl,AC HD.o.r2 rfl HD.o.k,nV HD.o.r3 rfl⟩;have HL:V (Lk Y T1.2.1):=Mc (by rw[<-bG.o,In]);have cR:V (G<aM.heap.size/\aM.heap.size<=cd.heap.size):=⟨bA.o.g.sz,bS.size⟩
   clear d F bS bA aU ax aF bT f1 f2;go_wp2_with fail;generalize cd.alloc (fB R T1.1.length aX a6 Y.length bk U T1.2.2.1.length ab)=bP at br aT HD b2⊢;refine yaj b2.o ?_;rintro e ch ⟨rfl,b6⟩;have ai:V _:=br.o.keep b6;have cU:V _:=aT.o.keep b6;have aS:V _:=HD.o.kept b6 yae;clear b6 br aT HD b2;obtain⟨_,a8,aJ,aP,_,_,_⟩:=cU.o;obtain⟨_,aU,ax,aF,bT,f1,f2⟩:=ai.o.g;rw[HL.o.okG];have cQ:=HL.o.len;obtain⟨O,ao⟩:∃b,okG T1.1 T1.2.1 T1.2.2.1=b:=⟨_,rfl⟩
   rw[ao]at bL⊢;clear ao HL;rcases O with _|_
   ·have e:pkG k g T1=(g.1,g.2.1,g.2.2.1,T1.2.2.2):=bL.o;clear bL cQ bG aS;exact xjf
   rw[Bool.true_and]at bL;by_cases ag:Y.length<100
   ·have e:pkG k g T1=T1:=by rw[bL.o,iv (decide_eq_true xaa)]
    have bZ:(Y.length:Int)<100:=xaa
    have bv:V (Gx (fk ch G (.slice R T1.1.length aX) (.slice a6 Y.length bk) (.slice U T1.2.2.1.length ab)) w P a n cap bs G T1 R aX a6 bk U ab Y):=by
     have al:=fy ch G (.slice R T1.1.length aX) (.slice a6 Y.length bk) (.slice U T1.2.2.1.length ab);have:=cR.o;have:=bD.o;have:=b9.o;exact⟨bG.o,(aS.o.kept al xaa).mono xaa,oN ai.o.g _ _ _,ai.o.rd.keep al (.inl xaa),mA ai.o.rs al xaa,ai.o.kp.newC (al.chg1 (S:=λb=>b=G) rfl) (λb hb=>by omega)⟩
    clear bL cQ bG aS ai ag;go_wp2_with fail;go_meet;exact⟨R,aX,a6,bk,U,ab,Y,jn e bv⟩
   have e:pkG k g T1=(g.1,g.2.1,g.2.2.1,T1.2.2.2):=by rw[bL.o,ip (by rw[decide_eq_true_eq];omega)]
   have bZ:¬(Y.length:Int)<100:=xaa;have cw:=yay bZ;clear bL cQ bG aS ag;exact xjf
  have ad:((k:Int)==1)=false:=by rw[beq_eq_false_iff_ne];omega
  have e:pkG k g T1=g:=by unfold pkG;rw[ip c7]
  clear c7 bz;go_wp2_with fail;go_meet;exact⟨a1,c1,K,c2,a3,c3,us,jn e bA⟩
 case rest=>
  obtain⟨bH,aJ,bJ,aP,cb,bw,vs,l⟩:=hcut;have b3:=Io (k:=k) (T1:=T1) cV.o;obtain⟨T,bh⟩:∃T,pkG k g T1=T:=⟨_,rfl⟩
  rw[bh]at l b3;have c6:V _:=bh;clear bh;have HO:V (okG T.1 vs T.2.2.1=true):=by show _=_;rw[l.o.lk.okG];exact b3
  have dl:V _:=l.o.lk;have cl:V _:=OG wc bH bJ cb _ aJ _ aP _ bw T.1 vs T.2.2.1 ⟨nV l.o.d.r1 rfl,AC l.o.d.r2 rfl l.o.d.k,nV l.o.d.r3 rfl⟩ HO.o;obtain⟨_,aU,ax,aF,_,_,_⟩:=l.o.g;clear b3 bA H1 cV bz cP;go_wp2_with fail;refine yaj cl.o ?_;rintro e bP ⟨bn,ad,p2,be,bb,ah,rfl,cB,a5⟩;have eq:=a5.size
  have Z:V (Mx (bP.alloc (im bn T.1.length ad p2 vs.length be bb T.2.2.1.length ah (pkD false vs T.2.2.1))) w P a n cap T.2.2.2 bs G wc.heap.size bP.heap.size (.slice bn T.1.length ad) (.slice p2 vs.length be) (.slice bb T.2.2.1.length ah) (.slice bH T.1.length aJ) bJ vs.length aP cb T.2.2.1.length bw T.1 vs T.2.2.1 (gj vs (plD false vs T.2.2.1) vs.length) (T.2.2.1.map (jJ vs (plD false vs T.2.2.1))) (pkD false vs T.2.2.1)):=by
   have a9:=(l.o.keep a5).keep (eA 0 0 bP (im bn T.1.length ad p2 vs.length be bb T.2.2.1.length ah (pkD false vs T.2.2.1)));have aL:=((AC l.o.d.r2 rfl l.o.d.k).keep a5 yaa).keep (eA 0 0 bP (im bn T.1.length ad p2 vs.length be bb T.2.2.1.length ah (pkD false vs T.2.2.1))) (.inr (.inr yae));have aR:=((nV l.o.d.r3 rfl).keep a5 yaa).keep (eA 0 0 bP (im bn T.1.length ad p2 vs.length be bb T.2.2.1.length ah (pkD false vs T.2.2.1))) (.inr (.inr yae));obtain⟨f1,f2⟩:=Hd vs T.2.2.1;rw[f1,f2];rw[f2]at a9 aL aR;refine⟨a9.rd,cB.keep (eA 0 0 _ _),?_,a9.rs,a9.g,aL,aR,⟨b9.o,bD.o,l.o.g.sz,eq⟩,λb hb=>?_,a9.kp⟩
   ·refine⟨?_,?_,?_,?_,?_,?_,?_,?_,?_⟩<;>simp
   rcases hb with h|h|h
   ·exact(eF cB.r1 h).2
   ·exact(eF cB.r2 h).2
   exact(eF cB.r3 h).2
  clear cB a5 eq l cl aU ax aF;rw[<-(Hd vs T.2.2.1).2];go_upto_if 32 with fail
  generalize bP.alloc (im bn T.1.length ad p2 vs.length be bb T.2.2.1.length ah (pkD false vs T.2.2.1))=ch at Z⊢;generalize wc.heap.size=I at Z;generalize bP.heap.size=C at Z⊢;go_cut [7,8,9,10] from 31 to 138 (λbI bN ck cN cq=>V (Mx cq w P a n cap T.2.2.2 bs G I C (.slice bn T.1.length ad) (.slice p2 vs.length be) (.slice bb T.2.2.1.length ah) (.slice bH T.1.length aJ) bJ vs.length aP cb T.2.2.1.length bw T.1 vs T.2.2.1 (gj vs (plD (k==0) vs T.2.2.1) vs.length) (T.2.2.1.map (jJ vs (plD (k==0) vs T.2.2.1))) (pkD (k==0) vs T.2.2.1)))
  case first=>
   by_cases cy:k=0
   ·have bB:((k:Int)==0)=true:=by rw[beq_iff_eq];omega
    have E:V ((k==0)=true):=by show _=_;rw[beq_iff_eq];exact cy
    obtain⟨Q,bC⟩:=KN vs T.2.2.1;have aI:V _:=bC;generalize cz:plD true vs T.2.2.1=qs at Q;have cT:V _:=cz;have cO:V _:=Q;generalize plD false vs T.2.2.1=ps at Z;obtain⟨⟨_,cw,cJ⟩,_,aL,aR,cM⟩:=jZ HO.o;have b2:V _:=aL;have cX:V _:=aR
    have bK:V (∀j,j<=vs.length->0<=iE vs j/\iE vs j<=50000):=λj hj=>by
     have B:=ig (vs:=vs) (n:=vs.length) (λq am=>(fV (b2.o q am)).1) hj yad
     have aj:=ig (vs:=vs) (n:=vs.length) (λq am=>(fV (b2.o q am)).1) (Nat.zero_le j) hj
     rw[kQ vs vs.length yad,List.take_length]at B
     have da:iE vs 0=0:=rfl
     omega
    obtain⟨ba,dd⟩:∃ba,T.2.2.1.map (jJ vs ps)=ba:=⟨_,rfl⟩
    rw[dd]at Z;have er:V _:=dd;obtain⟨ay,cS⟩:∃z,pkD false vs T.2.2.1=z:=⟨_,rfl⟩
    rw[cS]at Z;clear cy Q bC aL aR cM cz HO dd cS;go_wp2_with fail;rw[bB];clear bB;go_loopw [7,8,9] (λbI bN ck W=>∃q:Nat,q<=vs.length/\bI=ih (iE vs q)/\bN=ih q/\V (Mx W w P a n cap T.2.2.2 bs G I C (.slice bn T.1.length ad) (.slice p2 vs.length be) (.slice bb T.2.2.1.length ah) (.slice bH T.1.length aJ) bJ vs.length aP cb T.2.2.1.length bw T.1 vs T.2.2.1 (l9 vs ps qs q) ba ay)) (λbI bN ck _=>vs.length-(intOf bN).toNat)
    case atStart=>exact⟨0,yae,rfl,rfl,by rw[PB];exact Z⟩
    case round=>
     obtain⟨q,am,rfl,rfl,bE⟩:=hrel;clear Z;obtain⟨_,bX,aV,bg,bq,_,_,_,ak⟩:=bE.o.bx;obtain⟨_,_,ca,a2,_,_,_⟩:=bE.o.gb;by_cases aY:q<vs.length
     ·have aa:q<(l9 vs ps qs q).length:=by rw[qD];exact aY
      have aQ:=bE.o.cd.r2;rw[qD]at aQ;obtain⟨b4,cs,es,_,_,_⟩:=ng aQ (qD vs ps qs q) aY;cases es;obtain⟨b5,an,aG,cr,_,_,bf⟩:=bE.o.gv.at_idx aY;cases aG;have co:=rW (b2.o q aY);have S:=rT (b2.o q aY);have bM:=fV (b2.o q aY);have cx:V _:=yy (vs.getD q i0).op co.1 co.2;have aH:V (Mx wr w P a n cap T.2.2.2 bs G I C (.slice bn T.1.length ad) (ia b4 vs.length be) (.slice bb T.2.2.1.length ah) (.slice bH T.1.length aJ) (some ⟨b5,an,none⟩) vs.length aP cb T.2.2.1.length bw T.1 vs T.2.2.1 ((l9 vs ps qs q).set q (stA vs ps qs q 0)) ba ay):=by show Mx _ _ _ _ _ _ _ _ _ _ _ _ _ _ _ _ _ _ _ _ _ _ _ _ _ _ _;rw[Og aY];exact bE.o
      have c9:V _:=aY;obtain⟨v,ci⟩:∃v,vs.getD q i0=v:=⟨_,rfl⟩
      rw[ci]at bf co S bM cx;have b7:V _:=ci;obtain⟨aj,_,N,h3,bp,_⟩:=bf;clear bE aQ;go_upto_if 48 with (first|(go_at_call 38;refine yaj (cx.o _) ?_;rintro e a7 ⟨rfl,rfl⟩)|fail)
      go_cut [] from 47 to 64 (λcq=>V (Mx cq w P a n cap T.2.2.2 bs G I C (.slice bn T.1.length ad) (ia b4 vs.length be) (.slice bb T.2.2.1.length ah) (.slice bH T.1.length aJ) (some ⟨b5,an,none⟩) vs.length aP cb T.2.2.1.length bw T.1 vs T.2.2.1 ((l9 vs ps qs q).set q (stA vs ps qs q 1)) ba ay))
      case first=>
       by_cases c:0<cnt v.op
       ·obtain⟨m,em,aD⟩:∃m:Nat,v.a=(m:Int)/\m<q:=by
         have:=S v.a (rU c);exact⟨v.a.toNat,by omega,by omega⟩
        have bq:=aH.o.dst aY aD;have H:V _:=aH.o.setT aa xab ((Md b7.o).2 m c em) rfl;have cD:=l7 aH.o.cd.r2;have t:((0:Nat):Int)<(cnt v.op:Int):=xaa;rw[em]at N;have cI:=(aH.o.at_ aa).c4;have ae:(0:Int)<=m:=xaa;have cH:(m:Int)<vs.length:=xaa;generalize qs.getD m 0=D at bq H;clear aH c em S;exact xfm
       have e:=(Md (ps:=ps) (qs:=qs) b7.o).1 c;have t:¬((0:Nat):Int)<(cnt v.op:Int):=xaa;clear c;go_wp2_with fail;go_meet;rw[e];exact aH
      case rest=>
      have ce:V _:=hcut;clear hcut aH bX aV bg ca a2 aj N h3 bp;obtain⟨_,bX,aV,bg,bq,_,_,_,ak⟩:=ce.o.bx;obtain⟨_,_,ca,a2,_,_,_⟩:=ce.o.gb;obtain⟨_,_,aG,_,_,_,aj,_,N,h3,bp,_⟩:=ci ▸ ce.o.gv.at_idx aY;cases aG;go_upto_if 66 with fail
      go_cut [] from 65 to 82 (λcq=>V (Mx cq w P a n cap T.2.2.2 bs G I C (.slice bn T.1.length ad) (ia b4 vs.length be) (.slice bb T.2.2.1.length ah) (.slice bH T.1.length aJ) (some ⟨b5,an,none⟩) vs.length aP cb T.2.2.1.length bw T.1 vs T.2.2.1 ((l9 vs ps qs q).set q (stA vs ps qs q 2)) ba ay))
      case first=>
       by_cases c:1<cnt v.op
       ·obtain⟨m,em,aD⟩:∃m:Nat,v.b=(m:Int)/\m<q:=by
         have:=S v.b (wk c);exact⟨v.b.toNat,by omega,by omega⟩
        have bq:=ce.o.dst aY aD;have H:V _:=ce.o.setT aa xab ((Me b7.o).2 m c em) rfl;have cD:=l7 ce.o.cd.r2;have t:((1:Nat):Int)<(cnt v.op:Int):=xaa;rw[em]at h3;have cI:=(ce.o.at_ aa).c5;have ae:(0:Int)<=m:=xaa;have cH:(m:Int)<vs.length:=xaa;generalize qs.getD m 0=D at bq H;clear ce c em S;exact xfm
       have e:=(Me (ps:=ps) (qs:=qs) b7.o).1 c;have t:¬((1:Nat):Int)<(cnt v.op:Int):=xaa;clear c;go_wp2_with fail;go_meet;rw[e];exact ce
      case rest=>
      have aO:V _:=hcut;clear hcut ce bX aV bg ca a2 aj N h3 bp;obtain⟨_,bX,aV,bg,bq,_,_,_,ak⟩:=aO.o.bx;obtain⟨_,_,ca,a2,_,_,_⟩:=aO.o.gb;obtain⟨_,_,aG,_,_,_,aj,_,N,h3,bp,_⟩:=ci ▸ aO.o.gv.at_idx aY;cases aG;go_upto_if 84 with fail
      go_cut [] from 83 to 100 (λcq=>V (Mx cq w P a n cap T.2.2.2 bs G I C (.slice bn T.1.length ad) (ia b4 vs.length be) (.slice bb T.2.2.1.length ah) (.slice bH T.1.length aJ) (some ⟨b5,an,none⟩) vs.length aP cb T.2.2.1.length bw T.1 vs T.2.2.1 ((l9 vs ps qs q).set q (stA vs ps qs q 3)) ba ay))
      case first=>
       by_cases c:2<cnt v.op
       ·obtain⟨m,em,aD⟩:∃m:Nat,v.c=(m:Int)/\m<q:=by
         have:=S v.c (wm c);exact⟨v.c.toNat,by omega,by omega⟩
        have bq:=aO.o.dst aY aD;have H:V _:=aO.o.setT aa xab ((Mf b7.o).2 m c em) rfl;have cD:=l7 aO.o.cd.r2;have t:((2:Nat):Int)<(cnt v.op:Int):=xaa;rw[em]at bp;have cI:=(aO.o.at_ aa).c6;have ae:(0:Int)<=m:=xaa;have cH:(m:Int)<vs.length:=xaa;generalize qs.getD m 0=D at bq H;clear aO c em S;exact xfm
       have e:=(Mf (ps:=ps) (qs:=qs) b7.o).1 c;have t:¬((2:Nat):Int)<(cnt v.op:Int):=xaa;clear c;go_wp2_with fail;go_meet;rw[e];exact aO
      case rest=>
      have cA:V _:=hcut;clear hcut aO bX aV bg ca a2 aj N h3 bp;obtain⟨_,bX,aV,bg,bq,_,_,_,ak⟩:=cA.o.bx;obtain⟨_,_,ca,a2,_,_,_⟩:=cA.o.gb;obtain⟨_,_,aG,_,_,_,aj,_,N,h3,bp,_⟩:=ci ▸ cA.o.gv.at_idx aY;cases aG;have H:V _:=cA.o.setT aa xab (PD (cO.o q aY)) rfl;rw[Oh aY]at H;have cj:wc.cell? ⟨b4,q*8+1,none⟩=some (ih v.len):=by rw[<-b7.o];exact(cA.o.at_ aa).c1
      have cK:=(cA.o.at_ aa).c3;have cD:=l7 cA.o.cd.r2;have a0:=bK.o q am;have av:=bK.o (q+1) aY;have bY:V (iE vs (q+1)=iE vs q+v.len):=by show _=_;rw[iE,b7.o]
      rw[bY.o]at av;generalize iE vs q=J at H a0 av bY;clear cA co S aj N h3 bp ca a2;go_wp2_with fail;go_roundw;exact⟨q+1,by omega,by rw[bY.o],by go_num,H⟩;simp[intOf];omega
     obtain rfl:q=vs.length:=xaa;rw[PC]at bE;go_wp2_with fail;have cf:V _:=bE;clear bE bX aV bg bq ak ca a2;go_loopw [10] (λcN W=>∃r:Nat,r<=T.2.2.1.length/\cN=ih r/\V (Mx W w P a n cap T.2.2.2 bs G I C (.slice bn T.1.length ad) (.slice p2 vs.length be) (.slice bb T.2.2.1.length ah) (.slice bH T.1.length aJ) bJ vs.length aP cb T.2.2.1.length bw T.1 vs T.2.2.1 (gj vs qs vs.length) (uc vs T.2.2.1 ps qs r) ay)) (λcN _=>T.2.2.1.length-(intOf cN).toNat)
     case atStart=>exact⟨0,yae,rfl,by have e:=zP (vs:=vs) (outs:=T.2.2.1) (rs:=ps) (f:=λj=>if j<0 then qs else ps) (λj _=>ip (Nat.not_lt_zero j));unfold uc;rw[e,er.o];exact cf⟩
     case round=>
      obtain⟨r,au,rfl,bE⟩:=hrel;clear cf;obtain⟨_,bX,aV,bg,bq,_,_,_,ak⟩:=bE.o.bx;obtain⟨_,_,ca,a2,_,_,_⟩:=bE.o.gb;by_cases bx:r<T.2.2.1.length
      ·obtain⟨m,em,aD⟩:∃m:Nat,T.2.2.1.getD r 0=(m:Int)/\m<vs.length:=by
        have:=cX.o (T.2.2.1.getD r 0) (by rw[yai,yam bx];exact List.getElem_mem _);exact⟨(T.2.2.1.getD r 0).toNat,by omega,by omega⟩
       obtain⟨db,eg,al,aG,cG,_,_,cW⟩:=bE.o.go.at_idx (o:=(r:Int)) xaa xaa;cases aG;obtain rfl:r=al:=xaa;rw[Int.toNat_natCast,em]at cW;have aQ:=bE.o.cd.r2;rw[jT]at aQ;obtain⟨b4,cs,es,_,_,bf⟩:=ng aQ (jT vs qs _) aD;cases es;have b0:=bf.c3;rw[Hb aD]at b0;obtain⟨b1,cn⟩:=Oi (vs:=vs) (ps:=ps) (qs:=qs) bx;have y:r<(uc vs T.2.2.1 ps qs r).length:=by rw[zO];exact bx
       obtain⟨aB,bO,cp,bj⟩:=bE.o.atP y b1;rw[zO]at cp;cases cp;have H:V _:=bE.o.setP (y:=qs.getD m 0) y b1;have ct:(⟨qs.getD m 0,(jJ vs ps (T.2.2.1.getD r 0)).len⟩:Spn)=jJ vs qs (T.2.2.1.getD r 0):=by unfold jJ;rw[em];rfl
       rw[ct,cn]at H;have cD:=l7 bE.o.cd.r3;have ae:(0:Int)<=m:=xaa;have cH:(m:Int)<vs.length:=xaa;have c8:wr.cell? ⟨b4,m*8+3,none⟩=some (ih (qs.getD m 0)):=b0;generalize qs.getD m 0=D at c8 H;clear bE em aQ b1 cn ct y bf b0;go_wp2_with fail;go_region
       all_goals
        go_wp2
        go_roundw;exact⟨r+1,by omega,by go_num,H.o.keep (eD _)⟩;simp[intOf];omega
      obtain rfl:r=T.2.2.1.length:=xaa;have H:V _:=bE.o.peak (iE vs vs.length);clear bE;go_wp2_with fail;go_meet;rw[E.o,cT.o,aI.o];have e:=zP (vs:=vs) (outs:=T.2.2.1) (rs:=qs) (f:=λj=>if j<T.2.2.1.length then qs else ps) (λj hj=>iv hj);unfold uc at H;rw[e]at H;exact H
   have bB:((k:Int)==0)=false:=by rw[beq_eq_false_iff_ne];omega
   have e:(k==0)=false:=by rw[beq_eq_false_iff_ne];omega
   have E:V _:=e;clear cy e;go_wp2_with fail;go_meet;rw[E.o];exact Z
  case rest=>
   clear Z;have bi:=Lk.code dl.o (k==0) T.2.2.1;generalize plD (k==0) vs T.2.2.1=ps at hcut bi;generalize cS:pkD (k==0) vs T.2.2.1=ay at hcut bi;obtain⟨(aw:V _),(cC:V _),(cc:V _)⟩:=bi;have aT:V _:=hcut;clear hcut cS;obtain⟨_,bX,aV,bg,bq,_,_,_,_⟩:=aT.o.bx;obtain⟨_,bo,ar,aQ,aN,bR,bV,bW,dg⟩:=aT.o.rs;go_wp2_with fail;obtain⟨bm,aW,bd,cu⟩:=iN wc w.heap.size _ _ _ _ bo ar aQ aN (.slice bn T.1.length ad) (.slice p2 vs.length be) (.slice bb T.2.2.1.length ah) (ih ay);have bS:=fR wc w.heap.size (.slice bn T.1.length ad) (.slice p2 vs.length be) (.slice bb T.2.2.1.length ah) (ih ay);have ag:=aT.o.lo;rw[c6.o];refine yaz (v:=jh bn T.1.length ad p2 vs.length be bb T.2.2.1.length ah ay) (by simp[results,results12,go_sem,bm,aW,bd,cu]) rfl ⟨_,_,_,_,_,_,_,_,_,_,jL cc.o,aw.o,?_,aT.o.rd.keep bS (.inl xaa),aT.o.kp.newC (bS.chg1 (S:=λb=>b=w.heap.size) rfl) λb hb=>by omega⟩;show OCd _ _ _ _ _ T.1 _ (T.2.2.1.map (jJ T.2.1 (plD (k==0) T.2.1 T.2.2.1)));rw[<-cC.o];exact(aT.o.cd.keepO (bS.chg1 (S:=λb=>b=w.heap.size) rfl) λb hb c=>by have:=aT.o.nr b hb;subst c;rcases hb with h|h|h;have:=eF aT.o.cd.r1 h;omega;have:=eF aT.o.cd.r2 h;omega;have:=eF aT.o.cd.r3 h;omega).mono xaa
def itS(f:Option Nat->Option Nat):Nat->Option Nat->Option Nat
 |0,s=>s
 |k+1,s=>f (itS f k s)
theorem kG{f}(br:f none=none):∀k,itS f k none=none
 |0=>rfl
 |k+1=>by rw[itS,kG br k,br]
theorem Ad{f}(br:f none=none){k s}(h:itS f k s=none):∀j,itS f (k+j) s=none
 |0=>h
 |j+1=>by rw[<-Nat.add_assoc,itS,Ad br h j,br]
def lC(bs:List Int)(f:Option Nat->Option Nat):Option Nat->Option Nat
 |none=>none
 |some p=>if p+2<=bs.length then itS f (fe bs p 2).toNat (some (p+2))else none
theorem Bm(br:f none=none){x X}(a9:X=x.toNat)(aH:∀p,s=some p->p+2<=bs.length->x=fe bs p 2)(J:k<=X)(h:k=X\/itS f k (adv bs.length 2 s)=none):itS f k (adv bs.length 2 s)=lC bs f s:=by
 cases s with
 |none=>rw[show adv bs.length 2 none=none from rfl,kG br];rfl
 |some p=>
  unfold lC;simp only[adv]at h⊢;by_cases aA:p+2<=bs.length
  ·rw[iv aA]at h⊢;rw[iv aA,<-aH p rfl aA,<-a9];rcases h with h|h
   ·rw[h]
   have:=Ad br h (X-k);rw[show k+(X-k)=X by omega]at this;rw[h,this]
  rw[ip aA];rw[ip aA,kG br]
theorem xW(n c p):∀k,itS (adv n c) k (some p)=if k=0\/p+c*k<=n then some (p+c*k)else none
 |0=>by simp[itS]
 |k+1=>by
  rw[itS,xW n c p k]
  have e:c*(k+1)=c*k+c:=Nat.mul_succ c k
  by_cases h:k=0\/p+c*k<=n
  ·rw[iv h]
   simp only[adv]
   by_cases N:p+c*k+c<=n
   ·rw[iv N,iv (.inr xaa),e,Nat.add_assoc]
   ·rw[ip N,ip xaa]
  ·rw[ip h,ip xaa];rfl
theorem xX(bs p):∀k,itS (ju bs) k (some p)=if k=0\/gF bs p k<=bs.length then some (gF bs p k)else none
 |0=>by simp[itS,gF]
 |k+1=>by
  rw[itS,xX bs p k]
  by_cases h:k=0\/gF bs p k<=bs.length
  ·rw[iv h]
   show adv bs.length (iY bs (gF bs p k)) (some (gF bs p k))=_
   simp only[adv]
   rw[show gF bs p (k+1)=gF bs p k+iY bs (gF bs p k) from rfl]
   by_cases N:gF bs p k+iY bs (gF bs p k)<=bs.length
   ·rw[iv N,iv (.inr N)]
   ·rw[ip N,ip xaa]
  ·rw[ip h]
   rw[show gF bs p (k+1)=gF bs p k+iY bs (gF bs p k) from rfl,ip xaa];rfl
theorem xY(h:itS (adv n c) k (some p)=some q):q=p+c*k:=by
 rw[xW]at h;split at h
 ·injection h with h;exact h.symm
 cases h
theorem Cd(h:itS (ju bs) k (some p)=some q):q=gF bs p k:=by
 rw[xX]at h;split at h
 ·injection h with h;exact h.symm
 cases h
theorem Ip(h:ju bs (some p)=some q):p+iY bs p<=bs.length:=by
 obtain⟨u,e,_,N⟩:=qG (s:=some p) (n:=bs.length) (k:=iY bs p) h;cases e;exact N
theorem Ce(h:adv n c (some p)=some q):p+c<=n:=by
 obtain⟨u,e,_,N⟩:=qG h;cases e;exact N
theorem Iq(w:World)(x):∀j u,([x].map (Value.int .i64))[j]? =some u->(w.alloc (.cells #[ih x] 3)).cell? ((⟨w.heap.size,0,none⟩:Addr).add j)=some u:=
 World.news_of_block (w:=w.alloc (.cells #[ih x] 3)) (t:=3) (fr:=(0,0)) (cs:=#[ih x]) (nU w _)
theorem Mh(x):∀u∈[x].map (Value.int .i64),u.oneCell'=true:=by
 intro u G;simp at G;subst G;rfl
theorem aP.qbi(h:Zp:=by
 go_wp2_with (first|(at_builtin;(refine wpList_append_lies _ rfl _ _ 24 rfl W.heap.size 3 bY (ih 0) 1 8 underlying24 cU cg b8 cc rfl xab _ _ (List.map (Value.int .i64) xs) rfl (eN ag.o (eA 0 0 bz _)) ⟨bz.heap.size,0,none⟩ 1 1 ([y].map (Value.int .i64)) rfl rfl (Iq bz y) (Mh y) xab (by unfold maxLen;omega) xaa (by have:=K.o;simp;omega) _ rfl ?_))|fail);intro g9 cap9 a7 Z bp _ _;have aX:=fA bp;have bj:=eA 0 0 bz (.cells #[ih y] 3)
 have R1:V (RdS a7 hi H bs (itS (adv bs.length 2) (k+1) (adv bs.length 2 s))):=by
  exact qfj
 have R2:V (∀n9,n9=xs.length+1->∃xs:List Int,xs.length<=k+1/\a7.ownsRow W.heap.size 3 1 (ia g9 n9 cap9) xs.length (List.map (Value.int .i64) xs)/\(∀p q,s=some p->itS (adv bs.length 2) (k+1) (adv bs.length 2 s)=some q->xs=iP bs (p+2) (k+1))):=by
  intro n9 a2;refine⟨xs++[y],by simp;omega,?_,λp Y aA h=>?_⟩
  ·rw[List.map_append,yal,a2];exact Z
  exact qgp
 exact qdx):Zp:=h
theorem aP.qdy(h:Zp:=by
 go_roundw;exact⟨k+1,by omega,by go_num,R1,R2.o n9 al.o,R3⟩;simp[intOf];omega):Zp:=h
theorem aP.qea(h:Zp:=by
 have HE:V (∀k,k<=X->(k=X\/itS (adv bs.length 2) k (adv bs.length 2 s)=none)->_):=λk B N=>Bm d.o bA.o m.o B N;have eR:X<65536:=xaa;clear bu a6;subst a9;go_wp2_with fail;go_loopw [5,8] (λu i F=>∃k:Nat,k<=X/\i=ih k/\V (RdS F hi H bs (itS (adv bs.length 2) k (adv bs.length 2 s)))/\V (∃xs:List Int,xs.length<=k/\F.ownsRow W.heap.size 3 1 u xs.length (List.map (Value.int .i64) xs)/\(∀p q,s=some p->itS (adv bs.length 2) k (adv bs.length 2 s)=some q->xs=iP bs (p+2) k))/\V (Chg (λb=>b=H) W F)) (λ_ i _=>X-(intOf i).toNat)
 case atStart=>exact⟨0,yae,rfl,cu,⟨[],yad,yaw _ _ _ _,λ_ _ _ _=>rfl⟩,bN⟩
 case round=>
  obtain⟨k,J,rfl,a5,bh,bn⟩:=hrel;by_cases aY:k<X
  ·have z:=a5.o.short;cases bE:itS (adv bs.length 2) k (adv bs.length 2 s) with
   |none=>
    rw[bE]at z;have j:(none:Option Nat).isNone=true:=rfl;rw[j]at z;have ay:=HE.o k xaa (.inr bE);rw[bE]at a5;obtain⟨xs,_,bi,_⟩:=bh.o
    have R1:V (∃xs:List Int,wr.ownsRow W.heap.size 3 1 u5 xs.length (List.map (Value.int .i64) xs)/\RdS wr hi H bs (lC bs (adv bs.length 2) s)/\(∀p q,s=some p->lC bs (adv bs.length 2) s=some q->xs=iP bs (p+2) (fe bs p 2).toNat)):=by
     exact qhf
    clear bi ay bE j a5 bh;go_wp2_with fail;go_ret;obtain⟨xs,ar,aQ⟩:=R1.o;exact⟨_,xs,rfl,ar,aQ.1,aQ.2,bn.o⟩
   |some q=>
    exact qgb
  obtain rfl:k=X:=xaa;have ay:=HE.o k yad (.inl rfl);obtain⟨xs,_,bi,ab⟩:=bh.o
  have R1:V (∃xs:List Int,wr.ownsRow W.heap.size 3 1 u5 xs.length (List.map (Value.int .i64) xs)/\RdS wr hi H bs (lC bs (adv bs.length 2) s)/\(∀p q,s=some p->lC bs (adv bs.length 2) s=some q->xs=iP bs (p+2) (fe bs p 2).toNat)):=by
   exact xeg
  exact xhl):Zp:=h
theorem aP.qgc(h:Zp:=by
 refine yaj (mx wr hi H bs _ a5.o ao.o) ?_;rintro e bz ⟨y,rfl,_,(aj:V _),(I:V _),l⟩;obtain⟨xs,bG,bi,(t:V _)⟩:=bh.o;exact qbh):Zp:=h
theorem aP.qgq(h:Zp:=by
 have S:q=p+2+2*k:=by
  subst aA;simp only[adv]at am;rw[iv R]at am;exact xY am
 rw[rE,bZ,I.o q rfl (Ce h),S]):Zp:=h
open aP in
theorem Ee(W hi H bs s)(f:RdS W hi H bs s)(aZ:Bts bs):
  Calls prog 19 #[ge H,.func (.func 20) #[ge H] #[]] W λe O=>∃v,∃xs:List Int,e=.returned v/\O.ownsRow W.heap.size 3 1 v xs.length (List.map (Value.int .i64) xs)/\RdS O hi H bs (lC bs (adv bs.length 2) s)/\(∀p q,s=some p->lC bs (adv bs.length 2) s=some q->xs=iP bs (p+2) (fe bs p 2).toNat)/\Chg (λb=>b=H) W O:=by
 obtain⟨bY,cU,cg,b8,cc⟩:=info_parts qd;have ao:V _:=aZ;have b9:V _:=f.lt;have bu:V _:=mx W hi H bs s f aZ;have Q:((adv bs.length 2):Option Nat->Option Nat) none=none:=rfl;have d:V _:=Q;clear f aZ Q;go_enter func19,ntmps19;exact qdz
theorem aQ.qbi(h:Zp:=by
 go_wp2_with (first|(at_builtin;(refine wpList_append_lies _ rfl _ _ 25 rfl W.heap.size 43 bY Ste.zero.agg 8 64 underlying25 cU cg b8 cc rfl xab _ _ (gL xs) rfl (eN ag.o (eA 0 0 bz _)) ⟨bz.heap.size,0,none⟩ 1 1 (y.cells) rfl rfl (rz bz y 0) (zL y) xab (by unfold maxLen;omega) xaa (by have:=K.o;simp;omega) _ rfl ?_))|fail);intro g9 cap9 a7 Z bp _ _;have aX:=fA bp;have bj:=eA 0 0 bz (y.box)
 have R1:V (RdS a7 hi H bs (itS (ju bs) (k+1) (adv bs.length 2 s))):=by
  exact qfj
 have R2:V (∀n9,n9=xs.length+1->∃xs:List Ste,xs.length<=k+1/\a7.ownsRow W.heap.size 43 8 (ia g9 n9 cap9) xs.length (gL xs)/\(∀v∈xs,v.k<18446744073709551616)/\(∀p q,s=some p->itS (ju bs) (k+1) (adv bs.length 2 s)=some q->xs=jV bs (p+2) (k+1))):=by
  intro n9 a2;refine⟨xs++[y],by simp;omega,?_,(λv aL=>by rcases List.mem_append.1 aL with h|h;exact ad.o v h;simp at h;subst h;exact U.o),λp Y aA h=>?_⟩
  ·rw[mZ,q7,yal,a2];exact Z
  exact qgp
 exact qdx):Zp:=h
theorem aQ.qdy(h:Zp:=by
 go_roundw;exact⟨k+1,by omega,by go_num,R1,R2.o n9 al.o,R3⟩;simp[intOf];omega):Zp:=h
theorem aQ.qea(h:Zp:=by
 have HE:V (∀k,k<=X->(k=X\/itS (ju bs) k (adv bs.length 2 s)=none)->_):=λk B N=>Bm d.o bA.o m.o B N;have eR:X<65536:=xaa;clear bu a6;subst a9;go_wp2_with fail;go_loopw [5,8] (λu i F=>∃k:Nat,k<=X/\i=ih k/\V (RdS F hi H bs (itS (ju bs) k (adv bs.length 2 s)))/\V (∃xs:List Ste,xs.length<=k/\F.ownsRow W.heap.size 43 8 u xs.length (gL xs)/\(∀v∈xs,v.k<18446744073709551616)/\(∀p q,s=some p->itS (ju bs) k (adv bs.length 2 s)=some q->xs=jV bs (p+2) k))/\V (Chg (λb=>b=H) W F)) (λ_ i _=>X-(intOf i).toNat)
 case atStart=>exact⟨0,yae,rfl,cu,⟨[],yad,yaw _ _ _ _,xac,λ_ _ _ _=>rfl⟩,bN⟩
 case round=>
  obtain⟨k,J,rfl,a5,bh,bn⟩:=hrel;by_cases aY:k<X
  ·have z:=a5.o.short;cases bE:itS (ju bs) k (adv bs.length 2 s) with
   |none=>
    rw[bE]at z;have j:(none:Option Nat).isNone=true:=rfl;rw[j]at z;have ay:=HE.o k xaa (.inr bE);rw[bE]at a5;obtain⟨xs,_,bi,C,_⟩:=bh.o
    have R1:V (∃xs:List Ste,wr.ownsRow W.heap.size 43 8 u5 xs.length (gL xs)/\(∀v∈xs,v.k<18446744073709551616)/\RdS wr hi H bs (lC bs (ju bs) s)/\(∀p q,s=some p->lC bs (ju bs) s=some q->xs=jV bs (p+2) (fe bs p 2).toNat)):=by
     refine⟨xs,bi,C,by rw[<-ay,bE];exact a5.o,λp q _ h=>?_⟩;rw[<-ay,bE]at h;cases h
    clear bi ay bE j a5 bh;go_wp2_with fail;go_ret;obtain⟨xs,ar,aQ⟩:=R1.o;exact⟨_,xs,rfl,ar,aQ.1,aQ.2.1,aQ.2.2,bn.o⟩
   |some q=>
    exact qgb
  obtain rfl:k=X:=xaa;have ay:=HE.o k yad (.inl rfl);obtain⟨xs,_,bi,C,ab⟩:=bh.o
  have R1:V (∃xs:List Ste,wr.ownsRow W.heap.size 43 8 u5 xs.length (gL xs)/\(∀v∈xs,v.k<18446744073709551616)/\RdS wr hi H bs (lC bs (ju bs) s)/\(∀p q,s=some p->lC bs (ju bs) s=some q->xs=jV bs (p+2) (fe bs p 2).toNat)):=by
   refine⟨xs,bi,C,jv ay a5.o,λp q aA h=>?_⟩;exact xdc
  clear bi ay a5 bh ab;go_wp2_with fail;go_ret;obtain⟨xs,ar,aQ⟩:=R1.o;exact⟨_,xs,rfl,ar,aQ.1,aQ.2.1,aQ.2.2,bn.o⟩):Zp:=h
theorem aQ.qgc(h:Zp:=by
 refine yaj (Ov wr hi H bs _ a5.o ao.o) ?_;rintro e bz ⟨y,rfl,(U:V _),(aj:V _),(I:V _),l⟩;obtain⟨xs,bG,bi,(ad:V _),(t:V _)⟩:=bh.o;exact qbh):Zp:=h
theorem aQ.qgq(h:Zp:=by
 have S:q=gF bs (p+2) k:=by
  subst aA;simp only[adv]at am;rw[iv R]at am;exact Cd am
 rw[oC,bZ,I.o q rfl (Ip h),S]):Zp:=h
open aQ in
theorem Ef(W hi H bs s)(f:RdS W hi H bs s)(aZ:Bts bs):
  Calls prog 21 #[ge H,.func (.func 22) #[ge H] #[]] W λe O=>∃v,∃xs:List Ste,e=.returned v/\O.ownsRow W.heap.size 43 8 v xs.length (gL xs)/\(∀v∈xs,v.k<18446744073709551616)/\RdS O hi H bs (lC bs (ju bs) s)/\(∀p q,s=some p->lC bs (ju bs) s=some q->xs=jV bs (p+2) (fe bs p 2).toNat)/\Chg (λb=>b=H) W O:=by
 obtain⟨bY,cU,cg,b8,cc⟩:=info_parts xI;have ao:V _:=aZ;have b9:V _:=f.lt;have bu:V _:=mx W hi H bs s f aZ;have Q:((ju bs):Option Nat->Option Nat) none=none:=rfl;have d:V _:=Q;clear f aZ Q;go_enter func21,ntmps21;exact qdz
theorem aR.qbi(h:Zp:=by
 go_wp2_with (first|(at_builtin;(refine wpList_append_lies _ rfl _ _ 26 rfl W.heap.size 56 bY Spn.zero.agg 2 16 underlying26 cU cg b8 cc rfl xab _ _ (gZ xs) rfl (eN ag.o (eA 0 0 bz _)) ⟨bz.heap.size,0,none⟩ 1 1 (y.cells) rfl rfl (BZ bz y 0) (Kz y) xab (by unfold maxLen;omega) xaa (by have:=K.o;simp;omega) _ rfl ?_))|fail);intro g9 cap9 a7 Z bp _ _;have aX:=fA bp;have bj:=eA 0 0 bz (y.box)
 have R1:V (RdS a7 hi H bs (itS (adv bs.length 4) (k+1) (adv bs.length 2 s))):=by
  exact qfj
 have R2:V (∀n9,n9=xs.length+1->∃xs:List Spn,xs.length<=k+1/\a7.ownsRow W.heap.size 56 2 (ia g9 n9 cap9) xs.length (gZ xs)/\(∀p q,s=some p->itS (adv bs.length 4) (k+1) (adv bs.length 2 s)=some q->xs=i7 bs (p+2) (k+1))):=by
  intro n9 a2;refine⟨xs++[y],by simp;omega,?_,λp Y aA h=>?_⟩
  ·rw[lG,oR,yal,a2];exact Z
  exact qgp
 exact qdx):Zp:=h
theorem aR.qdy(h:Zp:=by
 go_roundw;exact⟨k+1,by omega,by go_num,R1,R2.o n9 al.o,R3⟩;simp[intOf];omega):Zp:=h
theorem aR.qea(h:Zp:=by
 have HE:V (∀k,k<=X->(k=X\/itS (adv bs.length 4) k (adv bs.length 2 s)=none)->_):=λk B N=>Bm d.o bA.o m.o B N;have eR:X<65536:=xaa;clear bu a6;subst a9;go_wp2_with fail;go_loopw [5,8] (λu i F=>∃k:Nat,k<=X/\i=ih k/\V (RdS F hi H bs (itS (adv bs.length 4) k (adv bs.length 2 s)))/\V (∃xs:List Spn,xs.length<=k/\F.ownsRow W.heap.size 56 2 u xs.length (gZ xs)/\(∀p q,s=some p->itS (adv bs.length 4) k (adv bs.length 2 s)=some q->xs=i7 bs (p+2) k))/\V (Chg (λb=>b=H) W F)) (λ_ i _=>X-(intOf i).toNat)
 case atStart=>exact⟨0,yae,rfl,cu,⟨[],yad,yaw _ _ _ _,λ_ _ _ _=>rfl⟩,bN⟩
 case round=>
  obtain⟨k,J,rfl,a5,bh,bn⟩:=hrel;by_cases aY:k<X
  ·have z:=a5.o.short;cases bE:itS (adv bs.length 4) k (adv bs.length 2 s) with
   |none=>
    rw[bE]at z;have j:(none:Option Nat).isNone=true:=rfl;rw[j]at z;have ay:=HE.o k xaa (.inr bE);rw[bE]at a5;obtain⟨xs,_,bi,_⟩:=bh.o
    have R1:V (∃xs:List Spn,wr.ownsRow W.heap.size 56 2 u5 xs.length (gZ xs)/\RdS wr hi H bs (lC bs (adv bs.length 4) s)/\(∀p q,s=some p->lC bs (adv bs.length 4) s=some q->xs=i7 bs (p+2) (fe bs p 2).toNat)):=by
     exact qhf
    clear bi ay bE j a5 bh;go_wp2_with fail;go_ret;obtain⟨xs,ar,aQ⟩:=R1.o;exact⟨_,xs,rfl,ar,aQ.1,aQ.2,bn.o⟩
   |some q=>
    exact qgb
  obtain rfl:k=X:=xaa;have ay:=HE.o k yad (.inl rfl);obtain⟨xs,_,bi,ab⟩:=bh.o
  have R1:V (∃xs:List Spn,wr.ownsRow W.heap.size 56 2 u5 xs.length (gZ xs)/\RdS wr hi H bs (lC bs (adv bs.length 4) s)/\(∀p q,s=some p->lC bs (adv bs.length 4) s=some q->xs=i7 bs (p+2) (fe bs p 2).toNat)):=by
   exact xeg
  exact xhl):Zp:=h
theorem aR.qgc(h:Zp:=by
 refine yaj (Ou wr hi H bs _ a5.o ao.o) ?_;rintro e bz ⟨y,rfl,(aj:V _),(I:V _),l⟩;obtain⟨xs,bG,bi,(t:V _)⟩:=bh.o;exact qbh):Zp:=h
theorem aR.qgq(h:Zp:=by
 have S:q=p+2+4*k:=by
  subst aA;simp only[adv]at am;rw[iv R]at am;exact xY am
 rw[rD,bZ,I.o q rfl (Ce h),S]):Zp:=h
open aR in
theorem Eg(W hi H bs s)(f:RdS W hi H bs s)(aZ:Bts bs):
  Calls prog 23 #[ge H,.func (.func 24) #[ge H] #[]] W λe O=>∃v,∃xs:List Spn,e=.returned v/\O.ownsRow W.heap.size 56 2 v xs.length (gZ xs)/\RdS O hi H bs (lC bs (adv bs.length 4) s)/\(∀p q,s=some p->lC bs (adv bs.length 4) s=some q->xs=i7 bs (p+2) (fe bs p 2).toNat)/\Chg (λb=>b=H) W O:=by
 obtain⟨bY,cU,cg,b8,cc⟩:=info_parts sj;have ao:V _:=aZ;have b9:V _:=f.lt;have bu:V _:=mx W hi H bs s f aZ;have Q:((adv bs.length 4):Option Nat->Option Nat) none=none:=rfl;have d:V _:=Q;clear f aZ Q;go_enter func23,ntmps23;exact qdz
def s1L(bs:List Int):Option Nat:=adv bs.length 2 (some 0)
def s2L(bs:List Int):Option Nat:=lC bs (adv bs.length 2) (s1L bs)
def s3L(bs:List Int):Option Nat:=lC bs (ju bs) (s2L bs)
def s4L(bs:List Int):Option Nat:=lC bs (adv bs.length 4) (s3L bs)
def s5L(bs:List Int):Option Nat:=adv bs.length 2 (s4L bs)
theorem uo(h:lC bs f s=some q):∃p,s=some p/\p+2<=bs.length/\itS f (fe bs p 2).toNat (some (p+2))=some q:=by
 cases s with
 |none=>cases h
 |some p=>
  unfold lC at h;simp only at h;by_cases c:p+2<=bs.length
  ·rw[iv c]at h;exact⟨p,rfl,c,h⟩
  rw[ip c]at h;cases h
theorem Cf(h:s5L bs=some q):lw bs=true/\s1L bs=some 2/\s2L bs=some (p1L bs)/\s3L bs=some (p3L bs)/\s4L bs=some (p4L bs)/\s5L bs=some (p4L bs+2):=by
 have bU:=h;obtain⟨j,e4,am,bm⟩:=qG h;obtain⟨bb,ah,cK,ew⟩:=uo e4;obtain⟨bn,ad,cj,ca⟩:=uo ah;obtain⟨bG,bB,a5,bY⟩:=uo ad;obtain⟨z,b,b5,g⟩:=qG bB;cases b;have aa:bG=2:=xaa;subst aa;have u:bn=p1L bs:=by rw[xY bY];rfl
 subst u;have e:bb=p3L bs:=by rw[Cd ca];rfl
 subst e;have d:j=p4L bs:=by rw[xY ew];rfl
 subst d;refine⟨?_,bB,ad,ah,e4,?_⟩
 ·unfold lw;exact decide_eq_true bm
 rw[bU,am]
theorem OH(h:lw bs=true):s5L bs=some (p4L bs+2):=by
 have bp:=of_decide_eq_true h;have h3:p3L bs+2<=bs.length:=by unfold p4L at bp;omega
 have N:=uh bs;have B:4+2*n1L bs=p1L bs:=rfl;have ad:s1L bs=some 2:=by unfold s1L;simp only[adv];rw[iv xaa]
 have be:s2L bs=some (p1L bs):=by
  unfold s2L;rw[ad];show(if 2+2<=bs.length then itS (adv bs.length 2) (fe bs 2 2).toNat (some (2+2))else none)=_;rw[iv xaa,xW,iv (.inr (by unfold n1L at B;omega))];rfl
 have ah:s3L bs=some (p3L bs):=by
  unfold s3L;rw[be];show(if p1L bs+2<=bs.length then itS (ju bs) (n2L bs) (some (p1L bs+2))else none)=_;rw[iv xaa,xX];rw[iv (.inr (show p3L bs<=bs.length by omega))];rfl
 have e4:s4L bs=some (p4L bs):=by
  unfold s4L;rw[ah];show(if p3L bs+2<=bs.length then itS (adv bs.length 4) (n3L bs) (some (p3L bs+2))else none)=_;rw[iv h3,xW,iv (.inr (by unfold p4L at bp;omega))];rfl
 unfold s5L;rw[e4];simp only[adv];rw[iv bp]
theorem Ll(h:lw bs=false):s5L bs=none:=by
 cases e:s5L bs with
 |none=>rfl
 |some q=>rw[(Cf e).1]at h;cases h
theorem Cg{ys}(aH:Bts xs)(bK:Bts ys):((strOfNums xs).toList==(strOfNums ys).toList)=(xs==ys):=by
 rw[Lib.strOfNums_toList,Lib.strOfNums_toList];rw[Bool.eq_iff_iff];simp only[beq_iff_eq];constructor
 ·intro h
  have G:∀(zs:List Int),Bts zs->(zs.map λn=>UInt8.ofNat n.toNat).map (λb=>(b.toNat:Int))=zs:=λzs b5=>by
   rw[List.map_map]
   conv=>rhs;rw[<-List.map_id zs]
   apply List.map_congr_left
   intro z d
   have:=b5 z d
   simp only[Function.comp,id]
   rw[UInt8.toNat_ofNat']
   omega
  have h':(xs.map λn=>UInt8.ofNat n.toNat)=(ys.map λn=>UInt8.ofNat n.toNat):=h;rw[<-G xs aH,<-G ys bK,h']
 intro h;rw[h]
theorem Ch(f:YS w a n xs):(convert 22 9 (.slice a n c)).run prog w=.ok (.string (strOfNums xs)) w:=by
 have hb:prog.underlying 5=some (.int .u8):=by kernel_rfl
 have aw:prog.underlying 9=some .string:=by kernel_rfl
 rcases f.at_ with rfl|⟨g,an,rfl,_,bp⟩
 ·have:=List.length_eq_zero_iff.1 f.len;subst this;exact run_convert_bytes_zero w 22 5 underlying22 hb a c 9 aw
 exact run_convert_bytes_arg w 22 5 underlying22 hb g an n c xs f.len bp 9 aw
theorem Lm(w a b n c m d xs ys)(f:YS w a n xs)(g:YS w b m ys):
  Calls prog 25 #[.slice a n c,.slice b m d] w λe O=>e=.returned (.bool (xs==ys))/\w=O:=by
 have B:=Ch (c:=c) f;have N:=Ch (c:=d) g;have h3:=Cg (xs:=xs) (ys:=ys) f.lt g.lt;have H3:V _:=h3;clear f g h3;go_enter func25,ntmps25;go_wp2;go_ret;exact⟨by rw[<-H3.o];rfl,rfl⟩
theorem KB.put0{W bE R a6 U}(t:KB W p bE R a6 U)(v):KB (W.setCell ⟨p,0,none⟩ v) p v R a6 U:=
 ⟨by simpa using t.sz,fc _ _ _ _ _ t.q0,by rw[eG _ _ _ _ _ _ (.inr xaa)];exact t.q1,by rw[eG _ _ _ _ _ _ (.inr xaa)];exact t.q2,by rw[eG _ _ _ _ _ _ (.inr xaa)];exact t.q3,by simp[t.f0],by simp[t.f1],by simp[t.f2],by simp[t.f3]⟩
theorem oV{base e size:Nat}{v xs}{W:World}(h:W.ownsRow base e size v n xs):∃a m d,v=.slice a m d/\m=n:=by
 obtain⟨a,cap,rfl⟩:=iH h;exact⟨a,n,cap,rfl,rfl⟩
abbrev cnl:Value:=jh none 0 0 none 0 0 none 0 0 0
def LDo(w:World)(bs:List Int)(e:Ending)(w':World):Prop:=
 (kI bs=false->e=.returned (.tuple #[cnl,.int .i64 1]))/\
 (kI bs=true->∃a1 d1 a2 d2 a3 d3,∃ss:List Ste,e=.returned (.tuple #[jh a1 (n1L bs) d1 a2 (n2L bs) d2 a3 (n3L bs) d3 (pkL bs),.int .i64 0])/\ss.map nk=(ssL bs).map nk/\OCd w' w.heap.size (.slice a1 (n1L bs) d1) (.slice a2 (n2L bs) d2) (.slice a3 (n3L bs) d3) (jW bs) ss (osL bs))/\Kept 0 0 w w'
abbrev Ir(a:Option Addr)(n c:Nat):Obj:=.cells #[.slice a n c,.bool false] 48
theorem Lo(w hi a n c bs)(f:YL w hi a n bs)(ai:n<=c)(bQ:c<=9223372036854775807)(bN:hi<=w.heap.size):RdS (w.alloc (Ir a n c)) hi w.heap.size bs (some 0):=by
 refine RdS.of ⟨⟨a,c,?_,?_,?_,bQ⟩,by go_simp,by simp,by simp,by simp,bN,yae⟩
 ·rw[Nat.sub_zero,f.len];go_simp
 ·rw[Nat.sub_zero,f.len,List.drop_zero];exact f.keepC ((eA 0 0 w (Ir a n c)).chg (S:=λ_=>False)) (λ_ _ h=>h)
 rw[Nat.sub_zero,f.len];exact ai
theorem Ae(w a n c bs)(f:YS w a n bs)(ai:n<=c)(bQ:c<=9223372036854775807):
  Calls prog 6 #[.slice a n c] w λe O=>LDo w bs e O:=by
 have ao:V (Bts bs):=f.lt;have bg:V _:=f
 have fu:YL (w.alloc gK) w.heap.size a n bs:=⟨f.len,by
  rcases f.at_ with h|⟨g,an,e,B,N⟩
  ·exact .inl h
  ·exact .inr ⟨g,an,e,B,by simp;omega,λk J=>by rw[(eA 0 0 w gK).cell (p:=⟨g,an+k,none⟩) B xaa];exact N k J⟩⟩
 have b8:(w.alloc gK).heap.size=w.heap.size+1:=by simp
 have HR:V _:=Lo (w.alloc gK) w.heap.size a n c bs fu ai bQ xaa;have bj:=eA 0 0 w gK;have bb:=eA 0 0 (w.alloc gK) (Ir a n c);have HK:V _:=bj.trans bb;have bM:V _:=(kz w).keep bb;rw[b8]at HR;have b9:V (((w.alloc gK).alloc (Ir a n c)).heap.size=w.heap.size+1+1):=by show _=_;simp
 clear f fu b8 bj bb;go_enter func6,ntmps6;go_upto_region 2 with fail;generalize (w.alloc gK).alloc (Ir a n c)=aK at HR HK bM b9⊢;go_wp2_with fail;refine yaj (qH aK _ _ bs (some 0) 2 HR.o ao.o xab xab) ?_;rintro e ak ⟨x,rfl,_,aT,_,bk⟩;have cu:V (RdS ak w.heap.size (w.heap.size+1) bs (s1L bs)):=aT;have bA:V _:=bM.o.keepC bk xaa;have bN:V _:=Chg.kept HK.o bk (λi hi=>by omega);have bP:V (w.heap.size+2<=ak.heap.size):=by show _<=_;have:=bk.size;have:=b9.o;omega
 clear aT bk HR HK bM b9;go_upto_region 4 with fail;have y:=eA 0 0 ak gK;have Q:V _:=cu.o.keepC (y.chg (S:=λ_=>False)) (λ_ _ h=>h) (λh=>h);have G:V _:=bA.o.keep y;have cc:V _:=kz ak;have bZ:V _:=bN.o.trans y;have cQ:V ((ak.alloc gK).heap.size=ak.heap.size+1):=by show _=_;simp
 clear y cu bA bN;generalize ak.alloc gK=aM at Q G cc bZ cQ⊢;generalize bn:ak.heap.size=C at cc bP cQ⊢;clear bn;have cp:w.heap.size+1<C:=i4 bP.o
 go_wp2_with fail;refine yaj (Ee aM _ _ bs _ Q.o ao.o) ?_;rintro e bx ⟨cf,bF,rfl,cy,cB,bH,r⟩;obtain⟨a1,m1,m,di,cH⟩:=oV cy;subst di;have aH:V _:=cH;clear cH;have aw:V (RdS bx w.heap.size (w.heap.size+1) bs (s2L bs)):=cB;have c6:V _:=bH;have b1:=cc.o.keepC r xaa;obtain⟨_,aU,ax,aF,bv,bT,f1,f2,f3⟩:=b1;have d:∀o v,_:=λo v=>fh (S:=λb=>b=C) bx C o v rfl;have aj:V _:=aw.o.keepC (d 0 (.slice a1 m1 m)) (λg az e=>by omega) xaa;have ae:V _:=(G.o.keepC r xaa).keepC (d 0 (.slice a1 m1 m)) xaa;have co:V _:=(cc.o.keepC r xaa).put0 (.slice a1 m1 m);have bm:V _:=Chg.kept (Chg.kept bZ.o r (λi hi=>by omega)) (d 0 (.slice a1 m1 m)) (λi hi=>by omega);have ag:V _:=eQ cy (d 0 (.slice a1 m1 m)) (λg az e=>jj ((eF cy az).1) cQ.o);have aA:V (C<aM.heap.size/\aM.heap.size<=(bx.setCell ⟨C,0,none⟩ (.slice a1 m1 m)).heap.size):=⟨i4 cQ.o,yao r.size (d 0 (.slice a1 m1 m)).size⟩
 clear cy cB bH r d Q aw G cc bZ;go_upto_region 5 with fail;clear aU ax aF bv bT f1 f2 f3;generalize bx.setCell ⟨C,0,none⟩ (.slice a1 m1 m)=bz at aj ae co bm ag aA⊢;go_wp2_with fail;refine yaj (Ef bz _ _ bs _ aj.o ao.o) ?_;rintro e ch ⟨cg,bG,rfl,ck,bC,aq,bJ,bV⟩;obtain⟨K,b6,l,b7,bq⟩:=oV ck;subst b7;have ce:V _:=bq;clear bq;have bp:V (RdS ch w.heap.size (w.heap.size+1) bs (s3L bs)):=aq;have cJ:V _:=bJ;have bL:V _:=bC;have b2:=co.o.keepC bV xaa;obtain⟨_,aU,ax,aF,bv,bT,f1,f2,f3⟩:=b2;have d:∀o v,_:=λo v=>fh (S:=λb=>b=C) ch C o v rfl;have t:V _:=bp.o.keepC (d 1 (.slice K b6 l)) (λg az e=>by omega) xaa;have bd:V _:=(ae.o.keepC bV xaa).keepC (d 1 (.slice K b6 l)) xaa;have ef:V _:=(co.o.keepC bV xaa).put1 (.slice K b6 l);have aI:V _:=Chg.kept (Chg.kept bm.o bV (λi hi=>by omega)) (d 1 (.slice K b6 l)) (λi hi=>by omega);have aL:V _:=eQ (eQ ag.o bV (λg az e=>jj ((eF ag.o az).1) aA.o)) (d 1 (.slice K b6 l)) (λg az e=>jj ((eF ag.o az).1) aA.o);have ab:V _:=eQ ck (d 1 (.slice K b6 l)) (λg az e=>jj ((eF ck az).1) aA.o);have I:V (∀g,(Value.slice a1 m1 m).ownBlock=some g->_):=λg az=>(eF ag.o az).2;have d5:V (aM.heap.size<=bz.heap.size/\bz.heap.size<=(ch.setCell ⟨C,1,none⟩ (.slice K b6 l)).heap.size):=⟨aA.o.2,yao bV.size (d 1 (.slice K b6 l)).size⟩
 clear ck aq bJ bV d aj bp ae co bm ag bC;go_upto_region 6 with fail;clear aU ax aF bv bT f1 f2 f3;generalize ch.setCell ⟨C,1,none⟩ (.slice K b6 l)=ci at t bd ef aI aL ab d5⊢;go_wp2_with fail;refine yaj (Eg ci _ _ bs _ t.o ao.o) ?_;rintro e bW ⟨cl,bI,rfl,Z,bE,cb,aG⟩;obtain⟨a3,m3,u,cd,Y⟩:=oV Z;subst cd;have aO:V _:=Y;clear Y;have af:V (RdS bW w.heap.size (w.heap.size+1) bs (s4L bs)):=bE;have bc:V _:=cb;have b3:=ef.o.keepC aG xaa;obtain⟨_,aU,ax,aF,bv,bT,f1,f2,f3⟩:=b3;have d:∀o v,_:=λo v=>fh (S:=λb=>b=C) bW C o v rfl;have aW:V _:=af.o.keepC (d 2 (.slice a3 m3 u)) (λg az e=>by omega) xaa;have a5:V _:=(bd.o.keepC aG xaa).keepC (d 2 (.slice a3 m3 u)) xaa;have cx:V _:=(ef.o.keepC aG xaa).put2 (.slice a3 m3 u);have av:V _:=Chg.kept (Chg.kept aI.o aG (λi hi=>by omega)) (d 2 (.slice a3 m3 u)) (λi hi=>by omega);have a0:V _:=aA.o.1
 have cj:V (OCd (bW.setCell ⟨C,2,none⟩ (.slice a3 m3 u)) aM.heap.size (.slice a1 m1 m) (.slice K b6 l) (.slice a3 m3 u) bF bG bI):=by
  have al:=d5.o;have cn:=a0.o;refine⟨eQ (eQ aL.o aG (λg az e=>i4 ((eF aL.o az).1))) (d 2 (.slice a3 m3 u)) (λg az e=>i4 ((eF aL.o az).1)),gi (eQ (eQ ab.o aG (λg az e=>i4 ((eF ab.o az).1))) (d 2 (.slice a3 m3 u)) (λg az e=>i4 ((eF ab.o az).1))) al.1,gi (eQ Z (d 2 (.slice a3 m3 u)) (λg az e=>i4 ((eF Z az).1))) xaa,λg B N=>?_,λg B N=>?_,λg B N=>?_,bL.o⟩
  ·have:=I.o g B;have:=(eF ab.o N).1;omega
  ·have:=I.o g B;have:=(eF Z N).1;omega
  have:=(eF ab.o B).2;have:=(eF Z N).1;omega
 clear Z bE cb aG d t af bd ef aI aL ab;go_upto_region 7 with fail;clear aU ax aF bv bT f1 f2 f3;generalize bW.setCell ⟨C,2,none⟩ (.slice a3 m3 u)=a7 at aW a5 cx av cj⊢;go_wp2_with fail;refine yaj (mx a7 _ _ bs _ aW.o ao.o) ?_;rintro e cA ⟨ay,rfl,_,bD,(br:V _),ap⟩;have ba:V (RdS cA w.heap.size (w.heap.size+1) bs (s5L bs)):=bD;have bY:=cx.o.keepC ap xaa;obtain⟨_,aU,ax,aF,bv,bT,f1,f2,f3⟩:=bY;have d:∀o v,_:=λo v=>fh (S:=λb=>b=C) cA C o v rfl;have a9:V _:=ba.o.keepC (d 3 (ih ay)) (λg az e=>by omega) xaa;have aV:V _:=(a5.o.keepC ap xaa).keepC (d 3 (ih ay)) xaa;have d3:V _:=(cx.o.keepC ap xaa).put3 (ih ay);have aC:V _:=Chg.kept (Chg.kept av.o ap (λi hi=>by omega)) (d 3 (ih ay)) (λi hi=>by omega);have aX:V _:=(cj.o.keepC ap (λg az _ e=>i4 a0.o)).keepC (d 3 (ih ay)) (λg az _ e=>i4 a0.o);clear bD ap d aW ba a5 cx av cj;go_upto_region 8 with fail;clear aU ax aF bv bT f1 f2 f3;generalize cA.setCell ⟨C,3,none⟩ (ih ay)=cP at a9 aV d3 aC aX⊢;have z:=a9.o.short;obtain⟨_,bo,ar,aQ,aN,aR,ca,a2,aB⟩:=aV.o;cases S:lw bs
 ·have F:kI bs=false:=by unfold kI;rw[S];rfl
  rw[Ll S]at z;have j:(none:Option Nat).isNone=true:=rfl;rw[j]at z;have H:V _:=F;clear S F j;go_wp2_with fail;obtain⟨a8,aJ,aP,bw⟩:=iN cP w.heap.size _ _ _ _ bo ar aQ aN (.slice none 0 0) (.slice none 0 0) (.slice none 0 0) (ih 0);have aS:=fR cP w.heap.size (.slice none 0 0) (.slice none 0 0) (.slice none 0 0) (ih 0);refine yaz (v:=.tuple #[cnl,ih 1]) (by simp[results,results6,go_sem,a8,aJ,aP,bw]) rfl ⟨λ_=>rfl,λh=>?_,aC.o.new aS xaa⟩;rw[H.o]at h;cases h
 have bU:=OH S;obtain⟨_,ad,be,ah,e4,_⟩:=Cf bU;rw[bU]at z;have j:(some (p4L bs+2):Option Nat).isNone=false:=rfl;rw[j]at z;have bf:=c6.o 2 _ ad be;have bl:=cJ.o _ _ be ah;have bu:=bc.o _ _ ah e4;have bB:=br.o _ e4 (of_decide_eq_true S);have bR:bF=jW bs:=bf;have bS:bG=ssL bs:=bl;have aD:bI=osL bs:=bu;have bh:V (ay=pkL bs):=bB;subst bR bS aD;have cH:m1=n1L bs:=by rw[aH.o];exact pK _ _ _
 have bq:b6=n2L bs:=by rw[ce.o];exact uf _ _ _
 have Y:m3=n3L bs:=by rw[aO.o];exact pJ _ _ _
 have X:V (m1=n1L bs/\b6=n2L bs/\m3=n3L bs):=⟨cH,bq,Y⟩
 have au:V _:=aX.o.cs aH.o.symm ce.o.symm aO.o.symm;have HSV:V _:=zW cP a1 K a3 m1 m b6 l m3 u ay (jW bs) (ssL bs) (osL bs) au.o
 have U:V (kI bs=(ph (jW bs) (ssL bs) (osL bs) ay==bs)):=by
  show _=_;unfold kI;rw[S,bh.o,Bool.true_and]
 have R:V _:=Ot (jW bs) (ssL bs) (osL bs) ay;generalize b5:ph (jW bs) (ssL bs) (osL bs) ay=sb at HSV U R;clear b5 bf bl bu bB bU ad be ah e4 j S cH bq Y c6 cJ bc br;obtain⟨_,aU,ax,aF,bv,_⟩:=d3.o;go_wp2_with fail;refine yaj HSV.o ?_;rintro e b0 ⟨b4,bX,cs,rfl,ys,_,aa⟩;have bi:V _:=ys.ys R.o;have aY:V _:=bg.o.keep (aC.o.trans aa);have bK:V _:=aV.o.keep aa;have gy:V _:=d3.o.keep aa;have a6:V _:=aC.o.trans aa;have bO:V _:=aX.o.keep aa;have cq:=a0.o;have cr:=a6.o.size;clear ys aa HSV au aV d3 aC aX aU ax aF bv bo ar aQ aN aR ca a2 aB z a9;generalize sb.length=aZ at bi⊢;obtain⟨_,bo,ar,aQ,aN,aR,ca,a2,aB⟩:=bK.o;obtain⟨_,aU,ax,aF,bv,_⟩:=gy.o;go_wp2_with fail;refine yaj (Lm b0 bX a aZ cs n c sb bs bi.o aY.o) ?_;rintro e gw ⟨rfl,rfl⟩;cases am:(sb==bs)
 ·have H:V (kI bs=false):=by show _=_;rw[U.o,am]
  clear am;go_wp2_with fail;obtain⟨a8,aJ,aP,bw⟩:=iN b0 w.heap.size _ _ _ _ bo ar aQ aN (.slice none 0 0) (.slice none 0 0) (.slice none 0 0) (ih 0);have aS:=fR b0 w.heap.size (.slice none 0 0) (.slice none 0 0) (.slice none 0 0) (ih 0);refine yaz (v:=.tuple #[cnl,ih 1]) (by simp[results,results6,go_sem,a8,aJ,aP,bw]) rfl ⟨λ_=>rfl,λh=>?_,a6.o.new aS xaa⟩;rw[H.o]at h;cases h
 have H:V (kI bs=true):=by show _=_;rw[U.o,am]
 clear am;go_wp2_with fail;obtain⟨a8,aJ,aP,bw⟩:=iN b0 w.heap.size _ _ _ _ bo ar aQ aN (.slice a1 m1 m) (.slice K b6 l) (.slice a3 m3 u) (ih ay);have aS:=fR b0 w.heap.size (.slice a1 m1 m) (.slice K b6 l) (.slice a3 m3 u) (ih ay);refine yaz (v:=.tuple #[jh a1 m1 m K b6 l a3 m3 u ay,ih 0]) (by simp[results,results6,go_sem,a8,aJ,aP,bw]) rfl ⟨λh=>?_,λ_=>⟨a1,m,K,l,a3,u,ssL bs,?_,rfl,?_⟩,a6.o.new aS xaa⟩
 ·rw[H.o]at h;cases h
 ·rw[<-X.o.1,<-X.o.2.1,<-X.o.2.2,<-bh.o]
 rw[<-X.o.1,<-X.o.2.1,<-X.o.2.2];exact(bO.o.keepC (aS.chg1 (S:=λb=>b=w.heap.size) rfl) (λg az _ e=>by omega)).mono xaa
theorem jw(w a n c l k)(h:¬l+2*k<=n)(B:l<=10000000)(N:k<=100000):
  Calls prog 41 #[.slice a n c,ih (l:Nat),ih (k:Nat)] w λe O=>e=.returned (.tuple #[.slice none 0 0,.bool false])/\O=w:=by
 have az:(n:Int)<l+2*(k:Int):=xaa;clear h;go_enter func41,ntmps41;go_wp2_with fail;refine yaz (v:=.tuple #[.slice none 0 0,.bool false]) (by simp[results,results41,go_sem]) rfl ⟨rfl,rfl⟩
theorem jy(w a n c l k bs)(f:YS w a n bs)(h:l+2*k<=n)(h3:n<=1048576):
  Calls prog 41 #[.slice a n c,ih (l:Nat),ih (k:Nat)] w λe O=>∃b d,e=.returned (.tuple #[.slice b k d,.bool true])/\O.ownsRow w.heap.size 3 1 (.slice b k d) k ((iP bs l k).map (Value.int .i64))/\Kept 0 0 w O:=by
 obtain⟨bY,cU,cg,b8,cc⟩:=info_parts qd;have aO:V _:=f;have ao:V (Bts bs):=f.lt;have az:¬((n:Int)<l+2*(k:Int)):=xaa;clear f;go_enter func41,ntmps41;go_wp2_with fail;go_loopw [8,9] (λu i W=>∃j:Nat,j<=k/\i=ih j/\V (W.ownsRow w.heap.size 3 1 u j ((iP bs l j).map (Value.int .i64)))/\V (Kept 0 0 w W)) (λ_ i _=>k-(intOf i).toNat)
 case atStart=>exact⟨0,yae,rfl,yaw _ _ _ _,Kept.refl _ _ _⟩
 case round=>
  obtain⟨j,hj,rfl,X,aS⟩:=hrel;by_cases aY:j<k
  ·rcases aO.o.at_ with z|⟨g,an,rfl,aV,ej⟩
   ·omega
   have bg:∀k,k<n->wr.cell? ⟨g,an+k,none⟩=some (.int .u8 (bs.getD k 0)):=λk J=>by rw[aS.o.cell (p:=⟨g,an+k,none⟩) aV xaa];exact ej k J
   obtain⟨q,am⟩:∃q,q=l+2*j:=⟨_,rfl⟩
   have c0:=bg q xaa;have c1:=bg (q+1) xaa;have bE:=mf ao.o q;have R:=mf ao.o (q+1)
   have aG:V (iP bs l (j+1)=iP bs l j++[bs.getD q 0+256*bs.getD (q+1) 0]):=by
    show _=_;rw[rE,K2,<-am]
   generalize bs.getD q 0=x at c0 bE aG;generalize bs.getD (q+1) 0=y at c1 R aG;have b3:IntKind.i64.wrap (2*(j:Int))=2*(j:Int):=by rw[IntKind.wrap_i64];omega
   have cB:IntKind.i64.wrap ((l:Int)+2*(j:Int))=(q:Int):=by rw[IntKind.wrap_i64];omega
   have v:IntKind.i64.wrap ((q:Int)+1)=(q:Int)+1:=by rw[IntKind.wrap_i64];omega
   have ey:0<=(q:Int):=xaa;have eg:(q:Int)<n:=xaa;have B:0<=(q:Int)+1:=xaa;have t:(q:Int)+1<(n:Int):=xaa;have C:IntKind.i64.wrap x=x:=by rw[IntKind.wrap_i64];omega
   have F:IntKind.i64.wrap y=y:=by rw[IntKind.wrap_i64];omega
   have G:IntKind.i64.wrap (256*y)=256*y:=by rw[IntKind.wrap_i64];omega
   have H:IntKind.i64.wrap (x+256*y)=x+256*y:=by rw[IntKind.wrap_i64];omega
   have fG:q+1<n:=xaa;have b9:V _:=aS.o.size;have HO:V _:=X;have bQ:V _:=am;have r:V _:=aV;clear bg ej am aV;go_wp2_with fail
   go_region_held3 (λO=>O.cell? ⟨g,an+q,none⟩=some (.int .u8 x)/\O.cell? ⟨g,an+(q+1),none⟩=some (.int .u8 y)) (go_keep)
    (first
     |(refine step_append_lies _ rfl (.tmp 22) (.tmp 42) 24 rfl w.heap.size 3 bY (ih 0) 1 8 underlying24 cU cg b8 cc rfl xab _ _ ((iP bs l j).map (Value.int .i64)) (by simp[Act.eval]) (eN X.o ((eA 0 0 wr _).trans (eD _))) ⟨wr.heap.size,0,none⟩ 1 1 ([x+256*y].map (Value.int .i64)) (by simp[Act.eval]) rfl (Iq wr (x+256*y)) (Mh (x+256*y)) xab (by unfold maxLen;omega) xaa (by have:=b9.o;simp;omega) _ rfl ?_;intro g9 cap9 a7 aZ cV _ _;have R1:V (a7.ownsRow w.heap.size 3 1 (ia g9 (j+1) cap9) (j+1) ((iP bs l (j+1)).map (Value.int .i64))):=(by rw[aG.o,List.map_append];exact aZ);have R2:V _:=lg (base:=w.heap.size) cV (λb hb=>(eF X.o hb).1) (aS.o.trans ((eA 0 0 wr _).trans (eD _))) yad;have bm:a7.cell? ⟨g,an+q,none⟩=some (.int .u8 x):=(by rw[R2.o.cell (p:=⟨g,an+q,none⟩) r.o xaa,<-aS.o.cell (p:=⟨g,an+q,none⟩) r.o xaa];exact c0);have aW:a7.cell? ⟨g,an+(q+1),none⟩=some (.int .u8 y):=(by rw[R2.o.cell (p:=⟨g,an+(q+1),none⟩) r.o xaa,<-aS.o.cell (p:=⟨g,an+(q+1),none⟩) r.o xaa];exact c1);clear aZ cV))
   all_goals
    clear bm aW c0 c1 X aS HO ey eg B t b3 cB v C F G H
    go_wp2_with fail
    go_roundw;exact⟨j+1,by omega,by go_num,R1,R2⟩;simp[intOf];omega
  obtain rfl:j=k:=xaa;obtain⟨b,m,d,aL,aD⟩:=oV X.o;subst aL;subst aD;have R1:V _:=X;clear X;go_wp2_with fail;refine yaz (v:=.tuple #[.slice b m d,.bool true]) (by simp[results,results41,go_sem]) rfl ⟨b,d,rfl,R1.o,aS.o⟩
