import Derived.Test.YtbhmhdllnfkjhaaGreatP44
namespace Go.Proofs.Z
variable{Zp:Prop}
open Tryz Go.RowKit Flt
set_option maxRecDepth 1000000
set_option maxHeartbeats 0
section
attribute[local go_sem] eG eE eD
variable{f j P R g off m cap:Nat}{us X:List Tok}{u1 u2 u3 u4:Value}{bs:List Bc}
theorem cY.qdz(h:Zp:=by
 clear bT n1 T;cases Z:i8 st.names Q with
 |some d=>
  exact qam
 |none=>
  exact qfw):Zp:=h
theorem cY.qfv(h:Zp:=by
 rw[show([k,n,c,l]).getD 0 _=k from rfl]at c0;rw[show([k,n,c,l]).getD 1 _=n from rfl]at bT n1 T;rw[N,show kIn=[105,110] from rfl]at c0;exact qhc):Zp:=h
theorem cY.qfx(h:Zp:=by
 obtain⟨aJ,b1,ce⟩:=aO.o _ HK.o
 have bz:V (r=inR st ⟨bv,Y,Q⟩ ⟨bp,w,bq⟩):=by
  have h:=HR.o;rw[uG HFn.o]at h;exact(hH h).symm
 clear HR HFn;go_upto_region 43 with (go_at_call 120;refine yaj (bW.o _) ?_;rintro e a7 ⟨rfl,aF⟩);have bR:V _:=HK.o.trans aF;have b7:V _:=aA.o.keep aF;have ad:V _:=bH.o.keep aF;obtain⟨_,b1,_⟩:=aO.o _ bR.o;have O:=b7.o.c1;have av:V _:=aM.o;clear aF bW bH HK aJ ce ax c0
 have p:V (r=if K<1\/1000<K then .error (4,w)else if 20<=st.ins.length then .error (5,Y)else q8 Q (fV {st with ins:=st.ins++[K]} (eL 0 K (st.ins.length:Int) 0 0) Y)):=by
  show _=_;rw[bz.o];unfold inR;simp only;rw[ay.o]
 clear bz ay;have au:V _:=λbK ar=>jG ad.o.c5 ad.o.c6 ad.o.fr bK ar (Mst P u1 u2 u3 u4) (.inl rfl);by_cases B:K<1
 ·have bm:V (r=.error (4,w)):=by show _=_;rw[p.o,hG (.inl B)]
  have z:V _:=au.o 4 w;clear p au ad;go_wp2_with (go_at_call 117;refine yaj z.o ?_;rintro e bj ⟨rfl,S⟩);refine yaz (v:=.tuple #[]) (by simp[results,results70,go_sem]) rfl ?_;rw[bm.o];exact⟨rfl,S.c5,S.c6,(Mv.of bR.o).bad S.chg⟩
 by_cases J:1000<K
 ·have bm:V (r=.error (4,w)):=by show _=_;rw[p.o,hG (.inr J)]
  have z:V _:=au.o 4 w;clear p au ad;go_wp2_with (go_at_call 117;refine yaj z.o ?_;rintro e bj ⟨rfl,S⟩);refine yaz (v:=.tuple #[]) (by simp[results,results70,go_sem]) rfl ?_;rw[bm.o];exact⟨rfl,S.c5,S.c6,(Mv.of bR.o).bad S.chg⟩
 obtain⟨a1,bB,e1⟩:=jt ad.o.r1;have a8:=ad.o.c0;by_cases h3:20<=st.ins.length
 ·have bm:V (r=.error (5,Y)):=by show _=_;rw[p.o,hF xaa,hG h3]
  have z:V _:=au.o 5 Y;have bP:(20:Int)<=st.ins.length:=xaa;rw[e1]at a8;clear p au ad b1;generalize st.ins.length=ni at*;go_wp2_with (go_at_call 117;refine yaj z.o ?_;rintro e bj ⟨rfl,S⟩);refine yaz (v:=.tuple #[]) (by simp[results,results70,go_sem]) rfl ?_;rw[bm.o];exact⟨rfl,S.c5,S.c6,(Mv.of bR.o).bad S.chg⟩
 have am:V (r=q8 Q (fV {st with ins:=st.ins++[K]} (eL 0 K (st.ins.length:Int) 0 0) Y)):=by show _=_;rw[p.o,hF xaa,hF h3]
 have aw:1<=K/\K<=1000:=xaa;have ak:V _:=Mf u.o.gd K xaa;have ca:V _:=λcf v (e:fV _ _ Y=.ok (cf,v))=>oU ak.o (Mg u.o.gd aw) e;have bN:(a7.alloc (.cells #[hD K] 3)).cell? ⟨a7.heap.size,0,none⟩=some (hD K):=by rw[yav];rfl
 have bx:=ez 0 0 a7 (.cells #[hD K] 3);have i:V _:=ad.o.keep bx;have F:V _:=bR.o.trans bx;have ck:V _:=b7.o.keep bx;have aW:V (R<=a7.heap.size):=by show _<=_;have:=ad.o.sz;have:=ad.o.lt;omega
 have bP:¬(20:Int)<=st.ins.length:=xaa;have bl:V (st.ins.length<20):=by show _<_;omega
 clear p au ad b1 b7 bx O;subst e1;go_upto_region 47 with fail;go_wp2_with (first|(at_builtin;refine fk _ rfl _ _ rfl R _ _ (by rfl) i.o.r1 _ K (by rfl) bN ?c2 ?c3 ?_)|fail)
 case c2=>have:=bl.o;omega
 case c3=>have:=aW.o;simp;omega
 intro g9 cap9 n9 bg bJ bM bI bL;obtain⟨aS,aa⟩:=i.o.ins_ (n9:=n9) (zs:=st.ins++[K]) bI (by rw[bJ];simp) (by rw[List.map_append];exact bM) (bL.imp id (λe=>by rw[e];simp));have aC:=i.o.lt;have bb:=(bI.cell aC i.o.np.1).trans i.o.c0;have bk:=(bI.frozen aC i.o.np.1).trans (i.o.fr 0);have aQ:n9=st.ins.length+1:=by rw[bJ]
 subst aQ;have U:V _:=aS;have aj:V _:=(Mv.of F.o).trans aa;have q:V _:=ck.o.keepC aa.chg av.o;have cU:V (¬Mst P _ _ _ _ _):=λc=>(aa.new _ c).elim av.o (λc=>hM ck.o.lt);clear aS aa bI bM bL bJ bN i F;go_upto_region 48 with fail;clear bb bk aC;generalize bg.setCell ⟨P,0,_⟩ _=br at U aj q⊢;clear ck aO ap u aA a8
 have bC:V (∀W' (cN:Int),cN=(st.ins.length:Int)->Kept 0 0 br W'->Calls prog 121 #[hB P,(eL 0 K cN 0 0).agg,hD Y] W' λe aB=>V (TrO br P R (hC g9 (st.ins.length+1) cap9) u2 u3 u4 bs (fV {st with ins:=st.ins++[K]} (eL 0 K (st.ins.length:Int) 0 0) Y) e aB)/\(∃x:Int,e=.returned (hD x))/\aB.cell? ⟨aR,1,none⟩=some (hD Y)/\aB.cell? ⟨P,0,none⟩=some (hC g9 (st.ins.length+1) cap9)):=λW' cN bo ai=>by
  subst bo
  exact yaj (NH (U.o.keep ai) ak.o (eL 0 K (st.ins.length:Int) 0 0) aw yah Y) (λe aB t=>⟨TrO.back ai t.1,t.1.ret,(t.1.chg.cell (p:=⟨aR,1,none⟩) (q.o.keep ai).lt cU.o).trans (q.o.keep ai).c1,t.2⟩)
 have ae:V (∀W',Kept 0 0 _ W'->W'.cell? _=some _/\W'.cell? _=some _):=λW' ai=>⟨(q.o.keep ai).c1,(U.o.keep ai).c0⟩
 generalize fV _ _ _=ee at bC ca am;obtain⟨aP,bf⟩:=ae.o _ hL;have bF:V _:=U.o.nl;clear U ak;generalize st.ins.length=ni at*;rcases ee with⟨bK,ar⟩|⟨s,v⟩
 ·have bm:V (r=.error _):=am.o
  go_region_held3 (λI=>I.cell? ⟨aR,1,none⟩=some (hD Y)/\I.cell? ⟨P,0,none⟩=some (hC g9 (ni+1) cap9)) (go_keep)
   (first
    |(go_at_call 40;refine yaj (gO _ _ _ _ _ _) ?_;rintro e cq ⟨rfl,cc⟩;obtain⟨aL,bd⟩:=ae.o _ ((eF _).trans cc))
    |(go_at_call 121;refine yaj (bC.o _ _ (by rw[IntKind.wrap_i64];omega) ((eF _).trans cc)) ?_;rintro e ci ⟨bh,⟨_,_⟩,bA,cy⟩;obtain rfl:=bh.o.1))
  all_goals (
   go_wp2_with fail
   refine yaz (v:=.tuple #[]) (by simp[results,results70,go_sem]) rfl ?_
   rw[bm.o]
   exact⟨rfl,bh.o.2.1,bh.o.2.2.1,aj.o.bad bh.o.2.2.2⟩)
 obtain⟨bj,aD,_⟩:=ca.o s v rfl;have cG:(0:Int)<=v:=xaa;have bD:=bj.g;have co:V (r=.ok _):=am.o;clear ca am bj
 go_region_held3 (λI=>I.cell? ⟨aR,1,none⟩=some (hD Y)/\I.cell? ⟨P,0,none⟩=some (hC g9 (ni+1) cap9)) (go_keep)
  (first
   |(go_at_call 40;refine yaj (gO _ _ _ _ _ _) ?_;rintro e cq ⟨rfl,cc⟩;obtain⟨aL,bd⟩:=ae.o _ ((eF _).trans cc))
   |(go_at_call 121;refine yaj (bC.o _ _ (by rw[IntKind.wrap_i64];omega) ((eF _).trans cc)) ?_;rintro e y ⟨bh,⟨_,_⟩,bA,cy⟩;obtain rfl:=bh.o.1))
 all_goals (
  obtain⟨_,a9,ba,be,bi,C,G⟩:=bh.o
  have cn:V _:=aj.o.trans G
  have cl:V _:=q.o.keepC G.chg cU.o
  have cj:¬Mst P _ _ _ _ _:=λc=>(G.new _ c).elim cU.o (λc=>hM q.o.lt)
  clear bh G bC ae aj q cU bf aP bd aL cc bA cy
  go_upto_region 50 with fail
  obtain⟨b3,a2,a6,b8,b5⟩:=nN
  have bS:=C.c3
  have cF:=C.fr 3
  have aN:=C.lt
  have cr:R<=y.heap.size:=hM C.sz
  obtain⟨a4,bV,e4⟩:=jH C.r4
  have af:V (bi.ownBlock≠some P/\bi.ownBlock≠some _):=⟨C.np.2.2.2,λc=>cj (.inr (.inr (.inr (.inr c))))⟩
  have ch:=cl.o.lt
  have aY:=cl.o.c2
  have aZ:V _:=C.r4
  have bn:V _:=C
  have cM:bs.length<=5000:=hO C.nl bD.m
  clear C
  subst e4
  generalize bw:bs.length=aH at*
  have bu:V _:=bw
  clear bw
  go_region_law
   ((refine step_append_lies _ rfl _ _ _ rfl R 147 _ _ 5 _ underlying96 a2 a6 b8 b5 rfl xab _ _ _ (by simp[Act.eval]) (me aZ.o 1 _) _ 1 1 (Bc.cells ⟨_,_,_,_,0,0,_,0,0⟩) (by simp[Act.eval]) rfl (IC _ _ _) (Oh _) xab (by unfold maxLen;omega) xaa yag _ rfl ?_;intro g9 cap9 bg bQ a0 cd bO;have aT:=lJ a0 aN af.o.1 bS;have bG:=far2 a0 aN af.o.1 cF;have ao:=lJ a0 ch af.o.2 aY))
  all_goals
   have al:=cd.imp id (λe=>Nat.le_of_eq e.symm)
   have aK:=(ez 0 0 y (.cells #[eN Q,.bool false,hD v,.slice none 0 0,.slice none 0 0] 147)).trans (eK 0 0 _ 1)
   obtain⟨(U:V _),aa⟩:=(bn.o.keep aK).nms_ (d:=.val Q v) (n9:=aH+1) (ii a0) (by rw[yal,bu.o];rfl) (by rw[xO,xP];exact bQ) al (λ_=>⟨rfl,rfl,rfl⟩)
   have aU:V _:=(cn.o.keep aK).trans aa
   clear aa al aK bQ a0 cd bO aT bG ao
   go_wp2_with fail
   refine yaz (v:=.tuple #[]) (by simp[results,results70,go_sem]) rfl ?_
   rw[co.o]
   exact⟨rfl,_,_,_,_,_,U.o,aU.o⟩)):Zp:=h
theorem cY.qhd(h:Zp:=by
 have aJ:=H.tk.c0 3 xaa;have b1:=H.tk.c1 3 xaa;have ce:=H.tk.c2 3 xaa;rw[show([k,⟨_,_,_⟩,c,l]:List _).getD 3 _=l from rfl]at aJ b1 ce;have bW:V _:=λW'=>zL l a5 W';have ap:=H.tk.lt;have bc:=qj a5 yad;rw[yap yad]at bc;obtain⟨bp,w,bq⟩:=l;unfold jc at bW;simp only at*;have c7:4<=m:=xaa;clear h H N ab a5 aq;generalize aI:iD _=K at*;have ay:V _:=aI;clear aI;have aO:V (∀W',Kept 0 0 W W'->W'.cell? _=some _/\W'.cell? _=some _/\W'.cell? _=some _):=λW' ai=>⟨(ai.cell ap xaa).trans aJ,(ai.cell ap xaa).trans b1,(ai.cell ap xaa).trans ce⟩
 clear aJ b1 ce;exact qhs):Zp:=h
open cY in
theorem Lg{W st k n c l}(H:TrIn W P R u1 u2 u3 u4 bs st none 0 [] g off m cap [k,n,c,l])(N:k.sym=kIn)(ab:l.sym=iG){r}(h:iQ f st (.inS n l)=some r):
  Calls prog 70 #[hB P,.slice (some ⟨g,off,none⟩) m cap] W (StO W P R u1 u2 u3 u4 r):=by
 have a5:=H.ti l xac ab;have aq:=H.tk.len;simp only[yaq,List.length_nil]at aq;exact qfu
def PPz(ps us:List Tok):Prop:=(ps=[]/\us=[])\/PPm ps us
def noC(us:List Tok):List Tok:=us.filter λt=>!(t.sym==[44])
theorem yg(a b):noC (a++b)=noC a++noC b:=by unfold noC;grind
theorem Lh(h:PPm X us):noC us=X:=by
 induction h with
 |one h=>
  unfold noC;rw[List.filter_cons_of_pos (by rw[h];decide)];rfl
 |more _ ad ht aa=>
  rename_i X ts c t _;rw[yg,aa];unfold noC;rw[List.filter_cons_of_neg (by grind),List.filter_cons_of_pos (by rw[ht];decide)];rfl
theorem Li(h:PPz X us):noC us=X:=by
 rcases h with⟨rfl,rfl⟩|h
 ·rfl
 exact Lh h
theorem Lj(h:PPz X us):∀t∈us,(t.sym==[41])=false:=by
 rcases h with⟨rfl,rfl⟩|h
 ·grind
 intro t ht;rcases GU h t ht with c|c<;>(rw[c];decide)
theorem IF(w p r):Hl w (p::r)=if w.any (λq=>q.text==p.text)=true then some p.pos else Hl (w++[p]) r:=rfl
def oX(us:List Tok)(j:Nat):Option Nat:=Hl (noC (us.take j)) (noC (us.drop j))
theorem IG(h:j<us.length):us.take (j+1)=us.take j++[us.getD j hJ]/\us.drop j=us.getD j hJ::us.drop (j+1):=by
 simp_all
theorem we{t}(h:(t.sym==[44])=true):noC [t]=[]:=by grind[noC]
theorem Bw(h:j<us.length)(c:((us.getD j hJ).sym==[44])=true):noC (us.take (j+1))=noC (us.take j)/\oX us (j+1)=oX us j:=by
 obtain⟨e1,e2⟩:=IG h
 have af:noC (us.drop j)=noC (us.drop (j+1)):=by
  rw[e2,<-List.singleton_append,yg,we c,List.nil_append]
 have e4:noC (us.take (j+1))=noC (us.take j):=by rw[e1,yg,we c,List.append_nil]
 refine⟨e4,?_⟩;unfold oX;rw[e4,af]
theorem II(h:j<us.length)(c:((us.getD j hJ).sym==[44])=false):noC (us.take (j+1))=noC (us.take j)++[us.getD j hJ]/\((noC (us.take j)).any (λq=>q.text==(us.getD j hJ).text)=true->oX us j=some (us.getD j hJ).pos)/\((noC (us.take j)).any (λq=>q.text==(us.getD j hJ).text)=false->oX us (j+1)=oX us j):=by
 grind[IG,noC,oX,IF]
theorem cZ.qdz(h:Zp:=by
 clear bT n1 T;cases Z:i8 st.names Q with
 |some d=>
  exact qam
 |none=>
  exact qfw):Zp:=h
theorem cZ.qfv(h:Zp:=by
 rw[show(k::n::l::(us++a8::q::ts)).getD 0 _=k from rfl]at c0;rw[show(k::n::l::(us++a8::q::ts)).getD 1 _=n from rfl]at bT n1 T;rw[N,show GT=[100,101,102] from rfl]at c0;exact qhc):Zp:=h
theorem cZ.qfx(h:Zp:=by
 have bz:V (r=Hm st ⟨bv,Y,Q⟩ X e):=by
  have h:=HR.o;rw[uG HFn.o]at h;exact(hH h).symm
 have bA:V (r=match oX us 0 with|some p=>.error (3,p)|none=>.ok {st with names:=st.names++[.fn Q X e]}):=by
  show _=_;rw[bz.o];unfold Hm oX;rw[List.take_zero,List.drop_zero,ce.o];rfl
 clear HR HFn bz;go_upto_region 24 with fail;go_wp2_with fail;go_loopw [11] (λI W'=>W'=az/\∃j:Nat,j<=bx/\I=hD (3+(j:Int))) (λI _=>3+bx-(intOf I).toNat)
 case atStart=>exact⟨rfl,0,yae,rfl⟩
 case round=>
  obtain⟨rfl,j,hj,rfl⟩:=hrel;by_cases aC:j<bx
  ·obtain⟨bd,_,_⟩:=ci.o _ HK.o j aC;have ar:=b2.o j aC;generalize (us.getD j _).sym=aW at bd ar;have cg:(aW !=[41])=true:=by unfold bne;rw[ar];rfl
   go_wp2_with fail;go_roundw;exact⟨trivial,j+1,by omega,by go_num⟩;simp[intOf];omega
  obtain rfl:j=bx:=xaa;have bd:=bp.o _ HK.o;obtain⟨lo,(aj:V _)⟩:∃lo,lo=wr.heap.size:=⟨_,rfl⟩
  have b4:V (TR wr lo _ (noC (us.take 0))):=TR.nil _ _;have ca:V _:=Nat.le_of_eq aj.o.symm;have cD:V (∀c6,lo<=c6->_):=λc6 cu=>u.o.ws.far2 (yao HK.o.size (yao ca.o cu));have cG:V (∀(az W2:World) (v:Value) (ay:List _),Kept 0 0 _ _->TR _ _ v ay->Chg _ az W2->_):=λaz W2 v ay ai d0 bK=>B6 ca.o ai d0 bK;go_upto_region 27 with fail;clear bd;go_wp2_with fail;go_loopw [12,13] (λen aD W'=>∃i:Nat,i<=j/\aD=hD (3+(i:Int))/\V (Kept 0 0 wr W')/\V (TR W' lo en (noC (us.take i)))/\V (oX us i=oX us 0)) (λ_ aD _=>3+j-(intOf aD).toNat)
  case atStart=>exact⟨0,yae,rfl,(show V _ from hL),b4,(show V _ from rfl)⟩
  case round=>
   obtain⟨i,hi,rfl,aw,bh,bC⟩:=hrel;clear b4;have bl:V _:=HK.o.trans aw.o;by_cases aB:i<j
   ·have bZ:V _:=λW' ai=>ci.o W' ai i aB;have bb:V _:=λc=>Bw (hO J.o aB) c;have aI:V _:=λc=>II (hO J.o aB) c;have cW:=aj.o;generalize us.getD i _=K at bZ bb aI;obtain⟨aP,s,a5⟩:=K;simp only at bZ bb aI;obtain⟨bd,_,_⟩:=bZ.o _ bl.o;have cS:V (lo<=wr.heap.size):=by show _<=_;rw[aj.o];exact aw.o.size
    clear cW;cases ad:(aP==[44])
    ·obtain⟨e4,cI,bB⟩:=aI.o ad;have bk:V _:=e4;have bF:V _:=cI;have b9:V _:=bB;obtain⟨cA,cP,b7⟩:=pG bh.o;subst b7
     have cH:V ((noC (us.take i)).length<=i):=by
      show _<=_;unfold noC;exact yao (List.length_filter_le _ _) (by rw[List.length_take];omega)
     clear e4 cI bB bb aI;generalize bW:noC _=w at bh bk bF b9 cH⊢;clear bW;have dv:=cH.o;go_upto_region 32 with fail;clear bd;go_wp2_with fail;go_loopw [14] (λcz W'=>∃x:Nat,x<=w.length/\cz=hD x/\V (Kept 0 0 wr W')/\V (∀y,y<x->((w.getD y hJ).text==a5)=false)) (λcz _=>w.length-(intOf cz).toNat)
     case atStart=>exact⟨0,yae,rfl,(show V _ from hL),(show V _ from λy bX=>by omega)⟩
     case round=>
      obtain⟨x,ak,rfl,aO,cq⟩:=hrel;have ap:V _:=bl.o.trans aO.o;have bY:V _:=aw.o.trans aO.o;obtain⟨bd,aL,aJ⟩:=bZ.o _ ap.o;have b1:V _:=bh.o.keep aO.o;have cy:V _:=yao cS.o aO.o.size;by_cases cx:x<w.length
      ·obtain⟨c6,b6,aF,_,bP,_⟩:=TR.at_ b1.o xaa;cases aF;have ck:=bP.c2 x cx;rw[Nat.zero_add]at ck;generalize cO:(w.getD x _).text=cX at ck;have bq:V _:=cO;clear cO bP;have cB:V _:=cq.o;have cK:V _:=aO.o;go_upto_region 35 with fail;go_quiet (fail)
       have b0:V _:=ap.o.trans (eK 0 0 _ nq);have cC:V _:=cK.o.trans (eK 0 0 _ nq);clear bd aL aJ ck ap aO bY b1 cy cK;generalize wr.drewN _=bj at b0 cC⊢;cases am:(cX==a5)
       ·have cQ:V (∀y,y<x+1->((w.getD y _).text==a5)=false):=λy bX=>by
         by_cases c:y=x
         ·subst c;rw[bq.o];exact am
         ·exact cB.o y xaa
        go_wp2_with fail;go_roundw;exact⟨x+1,by omega,by go_num,cC,cQ⟩;simp[intOf];omega
       have bm:V (r=.error (3,s)):=by
        have F:w.any (λq=>q.text==a5)=true:=by
         rw[List.any_eq_true];refine⟨_,?_,hO bq.o am⟩;rw[yai,yam cx];exact List.getElem_mem _
        show _=_;rw[bA.o,<-bC.o,bF.o F]
       have bE:V _:=jG (u.o.ws.keep b0.o).c5 (u.o.ws.keep b0.o).c6 (u.o.ws.keep b0.o).fr 3 s (Mst P u1 u2 u3 u4) (.inl rfl);obtain⟨_,aL,_⟩:=bZ.o _ b0.o;clear cB bF b9 bk;go_wp2_with (go_at_call 117;refine yaj bE.o ?_;rintro e br ⟨rfl,S⟩);refine yaz (v:=.tuple #[]) (by simp[results,results70,go_sem]) rfl ?_;rw[bm.o];exact⟨rfl,S.c5,S.c6,(Mv.of b0.o).bad S.chg⟩
      obtain rfl:x=w.length:=xaa
      have be:V (oX us (i+1)=oX us 0):=by
       show _=_;rw[b9.o ?_]
       ·exact bC.o
       rw[List.any_eq_false];intro y bX;obtain⟨z,bi,rfl⟩:=List.getElem_of_mem bX;have:=cq.o z bi;rw[yai,yam bi]at this;simpa using this
      have bN:=ze wr ⟨aP,s,a5⟩ 92;have bc:=ez 0 0 wr (.cells #[eN aP,hD s,eN a5] 92);have cf:V _:=TR.keep b1.o bc;have cw:V _:=bY.o.trans bc;clear b1 cq bF b9 bh aO ap bY;simp only at bN;go_wp2_with (first|(at_builtin;refine oL _ rfl _ _ rfl _ _ _ (by rfl) cf.o _ _ (by rfl) bN ?c2 ?c3 ?_)|fail)
      case c2=>omega
      case c3=>have:=cy.o;simp;omega
      intro g9 cap9 n9 bg bJ bM bI bL;have a9:V _:=cG.o _ _ _ _ cw.o cf.o bI;have ba:V _:=bM;rw[<-bk.o]at ba;clear bM bI bL bJ bc bN cf cw bd aL aJ;go_wp2_with fail;go_roundw;exact⟨i+1,by omega,by go_num,a9,ba,be⟩;simp[intOf];omega
    obtain⟨e4,bo⟩:=bb.o ad;have B:V _:=bh.o;rw[<-e4]at B;have be:V (oX us (i+1)=oX us 0):=by show _=_;rw[bo];exact bC.o
    clear e4 bo bb aI;go_wp2_with fail;go_roundw;exact⟨i+1,by omega,by go_num,aw,B,be⟩;simp[intOf];omega
   obtain rfl:i=j:=xaa;have B:V _:=bh.o;rw[yap (by rw[J.o];exact yad),ce.o]at B
   have co:V (r=.ok {st with names:=st.names++[.fn Q X e]}):=by
    have G:oX us i=none:=by
     unfold oX;rw[List.drop_eq_nil_of_le (by rw[J.o];exact yad)];rfl
    show _=_;rw[bA.o,<-bC.o,G]
   clear bh bC bA ci bp b2 ce cG;obtain⟨cA,cP,b7⟩:=pG B.o
   have cU:V (TkR _ _ cA _ _):=⟨rfl,λae=>by
    obtain⟨c6,b6,aF,cu,bP,_⟩:=TR.at_ B.o ae
    rw[b7]at aF
    cases aF
    exact⟨_,0,rfl,cD.o _ cu,bP⟩⟩
   have cR:V _:=bf.o _ bl.o;subst b7;have cl:V _:=aA.o.keep aw.o;have cn:V (Mv _ W (Mst P u1 u2 u3 u4) _):=Mv.of bl.o;have C:=u.o.ws.keep bl.o;have cj:=aM.o;have bD:=u.o.gd;have cT:V _:=aG;clear B cD bf aA u bH O ax aw J aj ca;obtain⟨b3,a2,a6,b8,b5⟩:=nN;have bS:=C.c3;have cF:=C.fr 3;have aN:=C.lt;have cr:R<=wr.heap.size:=hM C.sz
   obtain⟨a4,bV,e4⟩:=jH C.r4;have af:V (u4.ownBlock≠some P/\u4.ownBlock≠some _):=⟨C.np.2.2.2,λc=>cj (.inr (.inr (.inr (.inr c))))⟩
   exact qhi):Zp:=h
theorem cZ.qhd(h:Zp:=by
 have c7:us.length+5<m:=xaa
 have ct:∀j,(k::⟨bv,Y,Q⟩::l::(us++a8::q::ts)).getD (3+j) _=(us++a8::q::ts).getD j hJ:=λj=>by
  rw[Nat.add_comm];rfl
 have ci:V (∀W',Kept 0 0 W W'->∀j,j<us.length->W'.cell? _=some _/\W'.cell? _=some _/\W'.cell? _=some _):=λW' ai j hj=>by
  have t:=H.tk.keep ai
  have bd:=t.c0 (3+j) xaa
  have aL:=t.c1 (3+j) xaa
  have aJ:=t.c2 (3+j) xaa
  rw[ct,pH _ _ _ _ hj]at bd aL aJ
  exact⟨bd,aL,aJ⟩
 have bp:V (∀W',Kept 0 0 W W'->W'.cell? _=some (eN [41])):=λW' ai=>by
  have bd:=(H.tk.keep ai).c0 (3+us.length) xaa
  rw[ct,yai,yas yad,Nat.sub_self]at bd
  rw[<-av]
  exact bd
 have b2:V (∀j,j<us.length->((us.getD j hJ).sym==[41])=false):=λj hj=>Lj aQ _ (by
  rw[yai,yam hj]
  exact List.getElem_mem _)
 have ce:V _:=Li aQ
 have bf:V (∀W',Kept 0 0 W _->TkR _ W' _ _ _):=λW' ai=>by
  have t:=(H.tk.keep ai).in_ (3+us.length+2) m ts (by
   rw[show 3+us.length+2=(us.length+2)+3 by omega,List.drop_succ_cons,List.drop_succ_cons,List.drop_succ_cons,List.drop_append,List.drop_eq_nil_of_le xaa,show us.length+2-us.length=2 by omega]
   simp only[List.nil_append,List.drop_succ_cons,List.drop_zero]
   rw[yap xaa]) yad
  exact⟨t.len,λ_=>⟨g,_,rfl,H.tg,t⟩⟩
 have cV:V (TsOK ts):=⟨hM H.m5,λt ht=>H.ti t (by simp[ht]),λt ht=>H.tn t (by simp[ht])⟩
 have bU:V _:=F;have au:us.length<=5000:=xaa;clear h H N aQ av F ct;generalize cN:us.length=bx at*;have J:V _:=cN;clear cN aq;go_enter func70,ntmps70;go_upto_region 20 with fail;go_upto_region 21 with fail;change Code.wp _ _ _ _ (W.alloc (.cells #[eN _,.int _ _,eN _] 92));exact qdy):Zp:=h
theorem cZ.qhj(h:Zp:=by
 generalize bR:X.length=c8 at*;clear bR;have cc:IntKind.i64.wrap (3+i+2)=3+i+2:=by rw[IntKind.wrap_i64];omega
 have dd:(3+(i:Int)+2).toNat=3+i+2:=xaa;have dg:(0:Int)<=3+i+2:=xaa;have di:3+(i:Int)+2<=m:=xaa;have c9:¬(cap=3+i+2):=xaa;go_upto_region 38 with fail
 go_region_law
  ((refine step_append_lies _ rfl _ _ _ rfl R 147 _ _ 5 _ underlying96 a2 a6 b8 b5 rfl xab _ _ _ (by simp[Act.eval]) (me aZ.o 1 _) _ 1 1 (Bc.cells ⟨_,_,0,_,_,_,_,_,_⟩) (by simp[Act.eval]) rfl (IC _ _ _) (Oh _) xab (by unfold maxLen;omega) xaa yag _ rfl ?_;intro g9 cap9 bg bQ a0 cd bO;have aT:=lJ a0 aN af.o.1 bS;have bG:=far2 a0 aN af.o.1 cF;have ao:=lJ a0 ch af.o.2 aY))
 all_goals
  have al:=cd.imp id (λe=>Nat.le_of_eq e.symm)
  have aK:=(ez 0 0 wr (.cells #[eN Q,.bool true,hD 0,.slice cA c8 cP,.slice (some ⟨g,off+(3+i+2)*3,none⟩) (m-(3+i+2)) (cap-(3+i+2))] 147)).trans (eK 0 0 _ 1)
  obtain⟨(U:V _),aa⟩:=(bn.o.keep aK).nms_ (d:=.fn Q _ e) (n9:=aH+1) (ii a0) (by rw[yal,bu.o];rfl) (by rw[xO,xP];exact bQ) al (λmm=>⟨rfl,rfl,cU.o.mv ((Mv.of aK).trans mm),_,bU.o,⟨cV.o,by show m-(3+i+2)<=cap-(3+i+2);have:=cT.o;omega⟩,cR.o.mv ((Mv.of aK).trans mm)⟩)
  have aU:V _:=(cn.o.keep aK).trans aa
  clear aa al aK bQ a0 cd bO aT bG ao
  go_wp2_with fail
  refine yaz (v:=.tuple #[]) (by simp[results,results70,go_sem]) rfl ?_
  rw[co.o]
  exact⟨rfl,_,_,_,_,_,U.o,aU.o⟩):Zp:=h
open cZ in
theorem Af{W st k n l a8 q e ts}(H:TrIn W P R u1 u2 u3 u4 bs st none 0 [] g off m cap (k::n::l::(us++a8::q::ts)))(N:k.sym=GT)(aQ:PPz X us)(av:a8.sym=[41])(F:Pr 2 [e] ts){r}(h:iQ f st (.defS n X e)=some r):
  Calls prog 70 #[hB P,.slice (some ⟨g,off,none⟩) m cap] W (StO W P R u1 u2 u3 u4 r):=by
 have ab:=jk F;have aq:=H.tk.len;simp only[yaq,yal]at aq;exact qfu
end
section
variable{s:Sm}{ts:List Tok}
theorem IJ{f W P R u1 u2 u3 u4 bs st g off m cap}(H:TrIn W P R u1 u2 u3 u4 bs st none 0 [] g off m cap ts)(aK:PSm s ts){r}(h:iQ f st s=some r):
  Calls prog 70 #[hB P,.slice (some ⟨g,off,none⟩) m cap] W (StO W P R u1 u2 u3 u4 r):=by
 cases aK with
 |inS N _ _ ab=>exact Lg H N ab h
 |letS N _ _ F=>exact ID H N F h
 |rep N hi _ _ F=>exact IB H N hi F h
 |def0 N _ _ av _ F=>exact Af H N (.inl ⟨rfl,rfl⟩) av F h
 |defS N _ _ aQ av _ F=>exact Af H N (.inr aQ) av F h
 |outS N F=>exact Iz H N F h
theorem Pz(aK:PSm s ts)(hi:∀t∈ts,t.sym=iG->Dgs t.text):Pu s:=by
 cases aK with
 |inS N _ _ ab=>exact hi _ xac ab
 |letS N _ _ F=>exact jz F (λt ht=>hi t (by simp[ht])) _ xac
 |rep N B _ _ F=>exact⟨hi _ xac B,jz F (λt ht=>hi t (by simp[ht])) _ xac⟩
 |def0 N _ _ av _ F=>exact jz F (λt ht=>hi t (by simp[ht])) _ xac
 |defS N _ _ aQ av _ F=>exact jz F (λt ht=>hi t (by simp[ht])) _ xac
 |outS N F=>exact jz F (λt ht=>hi t (by simp[ht])) _ xac
theorem PA(aK:PSm s ts):0<ts.length:=by cases aK<;>simp
end
section
attribute[local go_sem] eG eE eD
variable{w:World}{a:Option Addr}{n b cap:Nat}{t:List UInt8}
theorem sw(n):∀(ts:List Tok) (st:List (List UInt8)),fE n ts st=-1\/∃p:Nat,fE n ts st=(p:Int)
 |[],st=>by
  grind[fE]
 |t::ts,st=>by
  rw[fE]
  split
  ·grind
  ·split
   ·exact sw n _ _
   grind
abbrev wg:Value:=eV none 0 0 none 0 0 none 0 0
def PaE(w:World)(c:Int)(p:Nat)(e:Ending)(w':World):Prop:=e=.returned (.tuple #[wg,.int .i64 c,.int .i64 (p:Int)])/\Kept 0 0 w w'
theorem IK(w a cap):Calls prog 113 #[.slice a 0 cap,hD 0] w λe I=>e=.returned (hD 0)/\I=w:=by
 go_enter func113,ntmps113;go_wp2_with fail;go_loopw [1] (λaD W'=>W'=w/\aD=hD 0) (λ_ _=>0)
 case atStart=>grind
 case round=>
  obtain⟨rfl,rfl⟩:=hrel;go_wp2_with fail;go_ret;exact⟨rfl,rfl⟩
theorem Bx(w a cap):Calls prog 67 #[.slice a 0 cap] w λe I=>e=.returned (.slice none 0 0)/\I=w:=by
 have au:V _:=IK w a cap;go_enter func67,ntmps67;go_wp2_with (go_at_call 113;refine yaj au.o ?_;rintro e ag ⟨rfl,an⟩;obtain rfl:=an.symm);go_loopw [3,4] (λX aD W'=>W'=w/\aD=hD 0/\X=.slice none 0 0) (λ_ _ _=>0)
 case atStart=>grind
 case round=>
  obtain⟨rfl,rfl,rfl⟩:=hrel;go_wp2_with fail;go_ret;exact⟨rfl,rfl⟩
theorem qp(f:TxA w a n t)(hn:n<=100000)(aG:n<=cap):Calls prog 67 #[.slice a n cap] w λe I=>∃v,e=.returned v/\TR I w.heap.size v (jC t)/\Kept 0 0 w I:=by
 rcases Nat.eq_zero_or_pos n with ae|ae
 ·subst ae;have ht:=List.length_eq_zero_iff.1 f.len;subst ht;refine yaj (Bx w a _) (λe I h=>?_);grind[List.length_eq_zero_iff,qM,TR.nil,Kept.refl]
 obtain⟨g,off,rfl,B⟩:=f.at_ ae;exact Gh w g _ n _ t B hn aG
theorem rY{W o v}(k:Kept 0 0 w W)(hb:w.heap.size<=b):Kept 0 0 w (W.setCell ⟨b,o,none⟩ v):=
 ⟨k.os,k.tape,k.output,by simpa using k.size,λj hj hn=>(Below.heap_setCell W ⟨b,o,none⟩ v j (λe=>by grind)).trans (k.block j hj hn)⟩
theorem Ag{W}(k:Kept 0 0 w W)(hb:w.heap.size<=b)(a9 ba be):Kept 0 0 w (((W.setCell ⟨b,0,none⟩ a9).setCell ⟨b,1,none⟩ ba).setCell ⟨b,2,none⟩ be):=rY (rY (rY k hb) hb) hb
theorem CC(w W':World)(ai:Kept 0 0 (w.alloc (eW none 0 0 none 0 0 none 0 0)) W'):W'.cell? ⟨w.heap.size,0,none⟩=some (.slice none 0 0)/\W'.cell? ⟨w.heap.size,1,none⟩=some (.slice none 0 0)/\W'.cell? ⟨w.heap.size,2,none⟩=some (.slice none 0 0)/\∀o,W'.frozen? ⟨w.heap.size,o,none⟩=false:=by
 have aC:w.heap.size<(w.alloc (eW none 0 0 none 0 0 none 0 0)).heap.size:=by simp
 refine⟨(ai.cell aC xaa).trans ?_,(ai.cell aC xaa).trans ?_,(ai.cell aC xaa).trans ?_,λo=>(ai.frozen aC xaa).trans ?_⟩
 ·rw[yav];rfl
 ·rw[yav];rfl
 ·rw[yav];rfl
 simp_all
theorem TR.slice{W R v ts}(f:TR W R v ts):∃bn cr,v=.slice bn ts.length cr/\(0<ts.length->∃g,bn=some ⟨g,0,none⟩/\R<=g/\TkA W g 0 ts.length ts/\ts.length<=cr):=by
 obtain⟨bn,cr,e⟩:=pG f;refine⟨_,_,e,λae=>?_⟩;obtain⟨g,cap,e2,B,J,h3⟩:=f.at_ ae;grind
theorem bQ.qby(h:Zp:=by
 have x:V _:=xz ag bn (jC t).length cr n (jC t) rfl HL.o (λae=>by obtain⟨g,e,_,J,_⟩:=ak ae;exact⟨g,0,e,J⟩);rw[bV.o]at x;have bD:V _:=ah;clear ak aU b1 ah;generalize (jC t).length=m at*;go_upto_region 6 with (go_at_call 68;refine yaj x.o ?_;rintro e a7 ⟨rfl,aF⟩);obtain⟨c0,c1,c2,fr⟩:=aX.o a7 (bD.o.trans aF);have bG:=fr 0;have f1:=fr 1;have f2:=fr 2;obtain⟨bb,aM,aQ⟩:=eZ a7 aR _ _ _ c0 c1 c2 (.slice none 0 0) (.slice none 0 0) (.slice none 0 0);have U:V (Kept 0 0 w (((a7.setCell ⟨aR,0,none⟩ (.slice none 0 0)).setCell ⟨aR,1,none⟩ (.slice none 0 0)).setCell ⟨aR,2,none⟩ (.slice none 0 0))):=Ag ((HK.o.trans bD.o).trans aF) (Nat.le_of_eq aT.o) _ _ _;clear fr aX x HK bD aF bV;go_wp2_with fail;refine yaz (v:=.tuple #[wg,hD 2,hD p]) (by simp[results,results35,go_sem,bb,aM,aQ]) rfl ?_;exact⟨rfl,U.o⟩):Zp:=h
open bQ in
theorem Ah(f:TxA w a n t)(hn:n<=4000)(aG:n<=cap){p:Nat}(aK:fE n (jC t) [iI]=(p:Int)):Calls prog 35 #[.slice a n cap] w (PaE w 2 p):=by
 have bI:¬(4000:Int)<(n:Int):=xaa;have bc:=ez 0 0 w (eW none 0 0 none 0 0 none 0 0);have b1:V _:=qp (f.keep bc) xaa aG;have HL:V ((jC t).length<=5000):=by show _<=_;have:=qM t;have:=f.len;omega
 have aX:V (∀W',Kept 0 0 (w.alloc (eW none 0 0 none 0 0 none 0 0)) W'->W'.cell? ⟨w.heap.size,0,none⟩=some (.slice none 0 0)/\W'.cell? ⟨w.heap.size,1,none⟩=some (.slice none 0 0)/\W'.cell? ⟨w.heap.size,2,none⟩=some (.slice none 0 0)/\∀o,W'.frozen? ⟨w.heap.size,o,none⟩=false):=λW' ai=>by
  have aC:w.heap.size<(w.alloc (eW none 0 0 none 0 0 none 0 0)).heap.size:=by simp
  refine⟨(ai.cell (p:=⟨w.heap.size,0,none⟩) aC xaa).trans ?_,(ai.cell (p:=⟨w.heap.size,1,none⟩) aC xaa).trans ?_,(ai.cell (p:=⟨w.heap.size,2,none⟩) aC xaa).trans ?_,λo=>(ai.frozen (p:=⟨w.heap.size,o,none⟩) aC xaa).trans ?_⟩
  ·rw[yav];rfl
  ·rw[yav];rfl
  ·rw[yav];rfl
  ·simp[World.frozen?,World.alloc,-World.alloc_eq]
 have HK:V _:=bc;have bV:V _:=aK;have ab:0<=(p:Int):=xaa;clear bc f aK;go_enter func35,ntmps35;go_upto_region 1 with fail;change Code.wp _ _ _ _ (w.alloc (eW none 0 0 none 0 0 none 0 0));generalize w.alloc (eW none 0 0 none 0 0 none 0 0)=aO at b1 aX HK⊢;generalize ch:w.heap.size=aR at aX⊢;exact qbx
end
section
variable{S:List Sm}{r:Rs (LSt×Nat)}{ts:List Tok}
theorem Ll(h:PGm S ts){k}(N:(ts.getD k hJ).sym=[59])(hb:∀j,j<k->(ts.getD j hJ).sym≠[59]):∃s aY,S=s::aY/\PSm s (ts.take k)/\PGm aY (ts.drop (k+1)):=by
 cases h with
 |nil=>simp_all[hJ]
 |cons ar ad aR=>
  rename_i s aY ts us c;rcases Nat.lt_trichotomy k ts.length with aC|rfl|aC
  ·exfalso;rw[pH _ _ _ _ aC]at N;exact Ke ar _ (by simp_all) N
  ·refine⟨s,_,rfl,?_,?_⟩
   ·simp_all
   simp_all
  grind
theorem Lm(h:PGm S ts)(hb:∀j,j<ts.length->(ts.getD j hJ).sym≠[59]):S=[]/\ts=[]:=by
 cases h with
 |nil=>grind
 |cons ar ad aR=>
  rename_i s aY ts us c;exfalso;refine hb ts.length xac ?_;simp_all
def EC{α:Type}(r:Rs α):Prop:=∀c p,r=.error (c,p)->c≠0
theorem EC.ok{Y x}:EC (.ok x:Rs Y):=λc p h=>by cases h
theorem EC.err{Y c p}(h:c≠0):EC (.error (c,p):Rs Y):=λaH f e=>by grind
theorem kR(st v p):EC (fV st v p):=by
 unfold fV;split
 ·exact .err xab
 exact .ok
theorem yh(n p):∀(xs:List Nat) (st:LSt),EC (iM n p st xs)
 |[],st=>by rw[iM];exact .ok
 |i::r,st=>by
  rw[iM]
  split
  ·cases aK:fV st (eL 10 n (i:Int) 0 0) p with
   |error q=>obtain⟨c,f⟩:=q;exact .err (kR _ _ _ c _ aK)
   |ok y=>
    obtain⟨ao,j⟩:=y
    simp only
    cases a9:iM n p ao r with
    |error q=>obtain⟨c,f⟩:=q;exact .err (yh n p r _ c _ a9)
    |ok y=>exact .ok
  ·cases a9:iM n p st r with
   |error q=>obtain⟨c,f⟩:=q;exact .err (yh n p r _ c _ a9)
   |ok y=>exact .ok
theorem By(st xs p):EC (jZ st xs p):=by
 unfold jZ;split
 ·exact yh _ _ _ _
 exact .err xab
theorem rZ(st m p):EC (iR st m p):=by
 unfold iR;split
 ·exact .err xab
 exact .ok
theorem Oi(st o a b):EC (qX st o a b):=by
 unfold qX;cases a9:jZ st [a,b] o.pos with
 |error q=>obtain⟨c,f⟩:=q;exact .err (By _ _ _ c _ a9)
 |ok y=>exact kR _ _ _
theorem Lo(st k a b):EC (qY st k a b):=by
 unfold qY;cases a9:jZ st [a,b] k.pos with
 |error q=>obtain⟨c,f⟩:=q;exact .err (By _ _ _ c _ a9)
 |ok y=>
  simp only;split
  ·exact kR _ _ _
  cases aK:fV y.1 (eL 4 (fe y.1 (y.2.getD 0 0)) (y.2.getD 0 0:Nat) (y.2.getD 1 0:Nat) 0) k.pos with
  |error q=>grind[kR]
  |ok z=>exact kR _ _ _
theorem Oj(st k a b c):EC (xN st k a b c):=by
 unfold xN;cases a9:jZ st [a,b,c] k.pos with
 |error q=>obtain⟨c,f⟩:=q;exact .err (By _ _ _ c _ a9)
 |ok y=>exact kR _ _ _
theorem EP(st k a n):EC (my st k a n):=by
 unfold my;split
 ·split
  ·exact .err xab
  exact kR _ _ _
 exact xii
theorem EQ(st k a i n):EC (mz st k a i n):=by
 unfold mz;split
 ·exact .err xab
 exact xii
theorem Lp(st k a x):EC (pS st k a x):=by
 unfold pS;split
 ·exact .err xab
 exact rZ _ _ _
theorem Ok(st k a x d):EC (qh st k a x d):=by
 unfold qh;split
 ·cases aK:fV st (eL 10 (fe st x) (d:Int) 0 0) k.pos with
  |error q=>grind[kR]
  |ok y=>exact rZ _ _ _
 split
 ·exact .err xab
 exact rZ _ _ _
theorem uH(st)(u:Loc)(t):EC (fC st u t):=by
 unfold fC;split
 ·exact .ok
 split
 ·exact .ok
 exact .err xab
theorem lZ{a p}(B:∀r,a=some r->EC r)(J:∀s x,∀r,p s x=some r->EC r):∀r,jF a p=some r->EC r:=λr h=>by
 cases F:a with
 |none=>rw[F]at h;cases h
 |some ay=>
  rw[F]at h
  rcases ay with q|⟨s,x⟩
  ·cases h<;>grind
  ·exact J s x r h
theorem CD{p}(aK:∀s e r,p s e=some r->EC r):∀(es:List Ex) (st:LSt) (r:Rs (LSt×List Nat)),gj p st es=some r->EC r
 |[],st,r,h=>by rw[gj]at h;cases h;exact .ok
 |e::es,st,r,h=>by
  rw[gj]at h
  cases B:p st e with
  |none=>grind
  |some ay=>
   rw[B]at h
   rcases ay with aL|⟨ao,x⟩
   ·cases h;exact λc p z=>aK _ _ _ B c p (by cases z;rfl)
   ·simp only at h
    cases J:gj p ao es with
    |none=>grind
    |some aW=>
     rw[J]at h
     rcases aW with aJ|⟨aG,bT⟩
     ·cases h;exact λc p z=>CD aK _ _ _ J c p (by cases z;rfl)
     ·cases h;exact .ok
theorem sW:∀(f:Nat) (st:LSt) (u:Loc) (e:Ex) (r:Rs (LSt×Nat)),eO f st u e=some r->EC r
 |0,st,u,e,r,h=>by rw[eO]at h;cases h
 |f+1,st,u,e,r,h=>by
  have aa:∀st u e r,eO f st u e=some r->_:=λst u e r h=>sW f _ _ e r h
  have g:∀{a r:Rs (LSt×Nat)},EC a->some a=some r->_:=λh e=>by cases e;exact h
  cases e with
  |num t=>rw[eO]at h;exact g (kR _ _ _) h
  |name t=>
   rw[eO]at h
   cases aD:fC st u t with
   |error q=>rw[aD]at h;obtain⟨c,p⟩:=q;exact g (.err (uH _ _ _ c p aD)) h
   |ok v=>rw[aD]at h;exact g .ok h
  |neg o a=>grind[eO,lZ,kR]
  |bin o a b=>grind[eO,lZ,Oi]
  |call t es=>
   rw[eO]at h
   split at h
   ·split at h
    ·split at h
     ·cases h
     ·rename_i q F
      exact λc p z=>CD (λs e r h=>aa s _ e r h) _ _ _ F c p (by cases h;cases z;rfl)
     ·split at h
      ·exact g (.err xab) h
      ·exact aa _ _ _ r h
    ·exact g (.err xab) h
   ·exact g (.err xab) h
  |key1 k a=>
   grind[eO,lZ,kR]
  |key2 k a b=>grind[eO,lZ,Lo]
  |key3 k a b c=>grind[eO,lZ,Oj]
  |keyN k a n=>grind[eO,lZ,EP]
  |put k a i n=>rw[eO]at h;exact lZ (λr h=>aa _ _ _ r h) (λs x r h=>g (EQ _ _ _ _ _) h) r h
  |grad k a x=>
   rw[eO]at h
   cases aD:fC st u x with
   |error q=>rw[aD]at h;obtain⟨c,p⟩:=q;exact g (.err (uH _ _ _ c p aD)) h
   |ok v=>rw[aD]at h;exact lZ (λr h=>aa _ _ _ r h) (λs x r h=>g (Lp _ _ _ _) h) r h
  |jvp k a x d=>
   rw[eO]at h
   cases aD:fC st u x with
   |error q=>rw[aD]at h;obtain⟨c,p⟩:=q;exact g (.err (uH _ _ _ c p aD)) h
   |ok v=>grind[lZ,Ok]
theorem IL{f e i s}:∀(k:Nat) (st:LSt) (r:Rs LSt),nZ f e i s k st=some r->EC r
 |0,st,r,h=>by rw[nZ]at h;cases h;exact .ok
 |k+1,st,r,h=>by
  rw[nZ]at h
  split at h
  ·cases h
  ·rename_i q Z
   cases h
   exact λc p z=>sW _ _ _ _ _ Z c p (by cases z;rfl)
  ·exact IL k _ r h
theorem CE{s}(h:EC r):EC (q8 s r):=by
 exact xjv
theorem Lq(h:EC r):EC (Nz r):=by
 exact xjv
theorem Lr{f st s r}(h:iQ f st s=some r):EC r:=by
 have g:∀{a r:Rs LSt},EC a->some a=some r->_:=λh e=>by cases e;exact h
 cases s with
 |outS k e=>
  simp only[iQ]at h;split at h
  ·exact g (.err xab) h
  cases Z:eO f st [] e with
  |none=>rw[Z]at h;cases h
  |some ay=>rw[Z]at h;exact g (Lq (sW _ _ _ _ _ Z)) h
 |rep i n e=>
  simp only[iQ]at h;split at h
  ·split at h
   ·exact g (.err xab) h
   exact IL _ _ r h
  exact g (.err xab) h
 |defS n X e=>
  simp only[iQ,pK]at h;split at h
  ·exact g (.err xab) h
  refine g ?_ h;unfold Hm;split
  ·exact .err xab
  exact .ok
 |letS n e=>
  simp only[iQ,pK]at h;split at h
  ·exact g (.err xab) h
  cases Z:eO f st [] e with
  |none=>rw[Z]at h;cases h
  |some ay=>rw[Z]at h;exact g (CE (sW _ _ _ _ _ Z)) h
 |inS n l=>
  simp only[iQ,pK]at h;split at h
  ·exact g (.err xab) h
  refine g ?_ h;unfold inR;split
  ·exact .err xab
  split
  ·exact .err xab
  exact CE (kR _ _ _)
