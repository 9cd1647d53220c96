import Derived.Test.YtcagphgmfbjneaaGreatP49
namespace Go.Proofs.Z
variable{Zp:Prop}
open Tryz Go.RowKit Flt
set_option maxRecDepth 1000000
set_option maxHeartbeats 0
section
attribute[local go_sem] eE eD eC
def Rm(p:Nat)(r:Rs (LSt×Nat)):Rs (LSt×Nat):=match r with
 |.error f=>.error f
 |.ok (s3,j)=>fI s3 (eJ 9 1 (j:Int) 0 0) p
theorem aX.qbo(h:Zp:=by
 have ca:V _:=T.o.keepC aL.chg aD.o;obtain⟨b0,cv,bg,ck,a6⟩:=aO.lenc az;have bR:=ca.o.c0;have bk:=aO.c1;rw[bg]at bk;have bw:V _:=FtI.lit aO aL a;have aZ:V (fQ _ _ (es.take 1)=some (.ok (ar,[a]))):=HO.o _ a rfl;have aI:V _:=w;have da:V (∀i∈[a],i<ar.vs.length):=by intro i hi;simp at hi;subst hi;exact az
 have bI:=w.g.n;clear bv b2 HE HO aL aO bg ck w bL aY;generalize eW _ a=l at a6;generalize h2:ar.vs.length=N at a6 bk az bI;clear h2;go_upto_region 34 with fail;clear a6 bk bR ca;go_wp2_with fail;go_loopw [18,19] (λcT bX H=>∃(k:Nat) (s:LSt) (xs:List Nat),1<=k/\k<=2/\bX=h1 k/\xs.length=k/\V (fQ (λs e=>eM f s u e) st (es.take k)=some (.ok (s,xs)))/\V (FtI ax H P I u1 u2 u3 u4 bs s cT xs)/\V (Gw st s)/\V (∀i∈xs,i<s.vs.length)) (λ_ bX _=>2-(intOf bX).toNat)
 case atStart=>exact⟨1,_,_,yad,by decide,rfl,rfl,aZ,bw,aI,da⟩
 case round=>
  obtain⟨k,s,xs,bU,cc,rfl,(ao:V _),bz,bf,j,O⟩:=hrel;clear aZ bw aI da;by_cases hlt:k<2
  ·obtain⟨aR,bd,bu,bC,aq,ae,bh⟩:=bf.o.ex;have bS:Mv _ _ _ _:=⟨ae.chg,λb hb=>ae.new b (.inl hb)⟩
   obtain⟨c7,cP,cR,cS⟩:=mJ _ _ _ R ap.o k (i1 aV.o hlt) s _ bz.o;obtain⟨o,Z,c1,y,cD⟩:=m.o.call k (i1 aV.o hlt);obtain⟨b1,cQ⟩:=cD s _ _ _ _ _ _ j.o cP aq ((Mv.of HK.o).trans bS);rw[<-m.o.cell ((Mv.of HK.o).trans bS).chg k]at y;have cH:V _:=cR;have cO:V _:=cS;have cI:V _:=b1;have bW:V _:=cQ;have aB:V _:=ae;have bP:V _:=bh;have cM:V _:=(Mv.of HK.o).trans bS;clear cP cR cS b1 cQ cD aq ae bh bS;rcases c7 with⟨c,p⟩|⟨aW,J⟩
   ·exact xca
   exact qgz
  obtain rfl:k=2:=xaa
  have bZ:V (R=.ok (s,xs)):=by
   exact xet
  obtain⟨cF,d1,aR,bd,bu,bC,rfl,aq,(aB:V _),bH⟩:=bf.o.xs;have v:V _:=Aj aq j.o.g _ _ d1 _ bH (by rw[ao.o];decide) O.o aX;have cw:V _:=T.o.keepC aB.o.chg aD.o;have aC:V (r=mK [100,111,116] ⟨[100,111,116],aX,C⟩ s xs):=by show _=_;rw[HR.o,bZ.o];rfl
  have bj:V _:=λbJ Y (aa:jT s _ aX=.ok (bJ,Y))=>lF j.o.g _ _ O.o aa;exact qfw):Zp:=h
theorem aX.qdv(h:Zp:=by
 have bi:¬Mst P _ _ _ _ _:=λc=>(S.o.new _ c).elim aD.o (λc=>ix T.o.lt);have cB:V _:=(Mv.of HK.o).trans S.o;have aw:V (∀H,Kept 0 0 _ H->H.cell? _=some _/\H.cell? _=some _/\H.cell? _=some _/\H.cell? _=some _/\H.cell? ⟨_,of,_⟩=some (.int _ d)/\H.cell? _=some (.int _ n)):=λH aj=>⟨(ag.o.keep aj).c0,(ag.o.keep aj).c1,(ab.keep aj).c1,(aj.cell ck xaa).trans a6,(aj.cell ai xaa).trans (co 0 xac),(aj.cell ai xaa).trans (co 1 xac)⟩
 exact qfo):Zp:=h
theorem aX.qfp(h:Zp:=by
 obtain⟨cg,a1,J,a3,a4,bp⟩:=aw.o _ iv;exact qgt):Zp:=h
theorem aX.qfx(h:Zp:=by
 rcases q with⟨c,p⟩|⟨bJ,Y⟩
 ·exact xcj
 obtain⟨G,b8,nn,au⟩:=bj.o _ _ rfl;rw[ao.o]at b8
 obtain⟨d,n,rfl⟩:∃d n,Y=[d,n]:=by
  match Y,b8 with
  |[a,b],_=>exact⟨a,b,rfl⟩
 have ak:=(au d xac).1;have d5:=au n xac;have bQ:=jJ ak;have b6:=jJ d5.1;rw[d5.2,<-(au d xac).2]at b6;have ed:V _:=G.g.v.two (.inr (.inr (.inl rfl))) bQ b6;clear d5 bQ b6
 have aG:V (r=Rm aX (fI bJ (eJ 4 (eW bJ d) d n 0) aX)):=by
  show _=_;rw[aC.o];unfold mK;rw[<-HQ.o];rfl
 exact qdu):Zp:=h
theorem aX.qgi(h:Zp:=by
 change Code.wp _ _ _ _ (W.alloc (.cells _ 137));generalize W.alloc _=ax at T HK⊢;generalize W.heap.size=a7 at T aD⊢;obtain⟨bq,cK,dd,di⟩:=mJ _ _ _ R ap.o 0 (by rw[aV.o];decide) _ _ rfl;obtain⟨o,ci,c0,aY,av⟩:=m.o.call 0 (by rw[aV.o];decide);obtain⟨dg,cx⟩:=av _ _ _ _ _ _ _ (Gw.refl cp.o) cK (bE.o.keep HK.o) (Mv.of HK.o);rw[<-m.o.cell (Mv.of HK.o).chg 0]at aY;have HE:V _:=dd;have HO:V _:=di;have bv:V _:=dg;have b2:V _:=cx;have bL:=T.o.c0;clear cK dd di dg cx av;rcases bq with⟨c,p⟩|⟨ar,a⟩
 ·exact xcr
 obtain⟨w,az⟩:=bv.o _ a rfl;exact qbn):Zp:=h
theorem aX.qgu(h:Zp:=by
 have bM:V _:=λcy d7 (aQ:fI _ _ aX=.ok (cy,d7))=>oO cV.o ed.o aQ;have al:V (∀H,Kept 0 0 _ _->Calls _ _ _ _ λe z=>(∃x:Int,e=.returned _)/\V (TrO _ P I _ _ _ _ _ _ e _)/\z.cell? _=some _/\z.cell? _=some _/\z.cell? _=some _):=λH aj=>yaj (mn (c9.o.keep aj) cV.o (eJ 4 (eW bJ _) d n 0) ds yah aX) (λe z t=>⟨t.ret,TrO.back aj t,c8.o H _ aj t.chg⟩);clear c8 cV c9 ds G HK bE aD cg a1 J a3 a4 bp;generalize fI bJ _ _=bT at aG bM al;generalize eW bJ _=l at aw al aT⊢;generalize bJ.vs.length=N at*;generalize bA.drewN _=bD at am aT⊢;obtain⟨cg,a1,J,a3,a4,bp⟩:=aT.o;go_upto_region 50 with fail;rcases bT with⟨c,p⟩|⟨cy,d7⟩
 ·have dT:V (r=.error _):=aG.o
  go_region_held3 (λB=>B.cell? ⟨a7,1,none⟩=some (h1 aX)/\B.cell? ⟨be,of,none⟩=some (h1 (d:Nat))/\B.cell? ⟨be,of+1,none⟩=some (h1 (n:Nat))) (go_keep)
   (first
    |(go_at_call 79;refine yaj (gG _ _ _ _ _ _) ?_;rintro e cn ⟨rfl,bY⟩;obtain⟨bl,aS,a9,bV,cj,cC⟩:=aw.o _ (am.o.trans ((eF _).trans bY)))
    |(go_at_call 115;refine yaj (al.o _ (am.o.trans ((eF _).trans bY))) ?_;rintro e cd ⟨⟨_,_⟩,bm,b5,bN,cz⟩;obtain rfl:=bm.o.1))
  all_goals (
   go_wp2_with fail
   go_ret
   rw[dT.o]
   exact TrO.after cB.o ⟨rfl,bm.o.2⟩)
 obtain⟨d9,ek,_⟩:=bM.o _ _ rfl;have dT:V (r=fI _ _ _):=aG.o;have el:¬((d7:Int)<0):=xaa;have ej:=d9.g.n;have ea:V _:=d9.g;clear bM aG d9
 go_region_held3 (λB=>B.cell? ⟨a7,1,none⟩=some (h1 aX)/\B.cell? ⟨be,of,none⟩=some (h1 (d:Nat))/\B.cell? ⟨be,of+1,none⟩=some (h1 (n:Nat))) (go_keep)
  (first
   |(go_at_call 79;refine yaj (gG _ _ _ _ _ _) ?_;rintro e cn ⟨rfl,bY⟩;obtain⟨bl,aS,a9,bV,cj,cC⟩:=aw.o _ (am.o.trans ((eF _).trans bY)))
   |(go_at_call 115;refine yaj (al.o _ (am.o.trans ((eF _).trans bY))) ?_;rintro e cd ⟨⟨_,_⟩,bm,b5,bN,cz⟩;obtain rfl:=bm.o.1))
 all_goals (
  obtain⟨_,bB,bG,b3,cu,d4,d3⟩:=bm.o
  have d2:V _:=ag.o.keepC d3.chg dv.o
  have ec:¬Mst P _ _ _ _ _:=λc=>(d3.new _ c).elim dv.o (λc=>ix ag.o.lt)
  have eb:V _:=cB.o.trans d3
  have ct:V (∀H,Kept 0 0 _ _->Calls _ _ _ H λe z=>(∃x:Int,e=.returned _)/\V (TrO W P I _ _ _ _ _ r e _)/\z.cell? _=some _):=λH aj=>yaj (mn (d4.keep aj) ea.o (eJ 9 1 _ 0 0) ⟨Int.le_refl _,by show(1:Int)<=1000;decide⟩ yah _) (λe z t=>⟨t.ret,(by
   show TrO W P I u1 u2 u3 u4 bs r e z
   rw[dT.o]
   exact TrO.after (eb.o.keep aj) t),(t.chg.cell (d2.o.keep aj).lt ec).trans (d2.o.keep aj).c1⟩)
  have U:=d2.o.c1
  clear bm d4 d3 ec al aw aT am dv ag cB eb ea dT
  generalize cy.vs.length=ef at*
  go_upto_region 53 with fail
  go_region_held3 (λB=>B.cell? ⟨a7,1,none⟩=some (h1 aX)) (go_keep)
   (first
    |(go_at_call 79;refine yaj (gG _ _ _ _ _ _) ?_;rintro e cq ⟨rfl,cl⟩;have en:=(d2.o.keep ((eF _).trans cl)).c1)
    |(go_at_call 115;refine yaj (ct.o _ ((eF _).trans cl)) ?_;rintro e bn ⟨⟨cU,rfl⟩,ee,eg⟩))
  all_goals (go_wp2_with fail;go_ret;exact ee.o))):Zp:=h
theorem aX.qha(h:Zp:=by
 go_upto_region 41 with (go_at_call 112;refine yaj bW.o ?_;rintro e bA ⟨rfl,aJ,y2,y3,y4,ab,bK⟩);have HFn:V _:=FtI.step aB.o bP.o bf.o.row ab bK;have cG:V (ax.heap.size<=bA.heap.size):=by show _<=_;have:=aB.o.chg.size;have:=bK.chg.size;omega
 have cN:V _:=cJ.o.m;have aH:(bA.alloc (.cells #[h1 J] 3)).cell? ⟨bA.heap.size,0,none⟩=some (h1 J):=by rw[yav];rfl
 have aN:=eA 0 0 bA (.cells #[h1 J] 3);have br:V _:=HFn.o.keep aN;clear HFn bf aB bP cM cI bW cH cO y ab bK j O bz bx;go_wp2_with (first|(at_builtin;refine jz _ rfl _ _ rfl _ _ _ rfl br.o.row _ _ rfl aH ?c2 ?c3 ?_)|fail)
 case c2=>have:=ao.o;omega
 case c3=>have:=cG.o;simp;omega
 intro g9 cap9 n9 bn an b9 bF ch;have R1:V _:=FtI.app (bE.o.keep HK.o) cN.o br.o b9 bF (ch.imp id (λe=>by rw[e];simp));exact xct):Zp:=h
theorem aX.qhe(h:Zp:=by
 obtain⟨r,aF⟩:∃r,r=sC [100,111,116] ⟨[100,111,116],aX,C⟩ R:=⟨_,rfl⟩
 exact qgh):Zp:=h
open aX in
theorem Fh{f W P I u1 u2 u3 u4 bs st a5 Q cL u g b4 b7}(h:WS W P I u1 u2 u3 u4 bs st)(ad:Gd st)(aX C){es}(cA:es.length=2)(bO:ArgS f W P I u1 u2 u3 u4 bs st a5 Q cL u g b4 es)(R)(K:fQ (λs e=>eM f s u e) st es=some R):
  Calls prog 129 #[hZ P,.slice a5 Q cL,iT ⟨[100,111,116],aX,C⟩,h0 b4 2 b7] W (TrO W P I u1 u2 u3 u4 bs (sC [100,111,116] ⟨[100,111,116],aX,C⟩ R)):=by
 have T:V _:=gV W [100,111,116] aX C;have HK:V _:=eA 0 0 W (.cells #[eK [100,111,116],h1 aX,eK C] 137);exact qhd
end
section
variable{H:World}{P I:Nat}{u1 u2 u3 u4 o:Value}{st:LSt}{bs:List Bc}{bw:Loc}
section
variable{f:Nat}{W:World}{P I:Nat}{u1 u2 u3 u4:Value}{bs:List Bc}{st:LSt}{a5:Option Addr}{Q cL:Nat}{u:Loc}{g off m cap:Nat}{ts us au:List Tok}{a b d:Ex}{r:Rs (LSt×Nat)}
theorem cP.qcx(h:Zp:=by
 have S:=Bj y al B
 have a6:ts++c::us=((k::l::(ts++c::(us++[q]))).drop 2).take (m-1-2):=by
  rw[List.drop_succ_cons,List.drop_succ_cons,List.drop_zero,show ts++c::(us++[q])=(ts++c::us)++[q] by simp,List.take_append_of_le_length yag,yap yag]
 have aS:∀x:List UInt8,x≠Bf->x≠JQ->(k.sym==x)=false:=λx F h2=>by
  rw[beq_eq_false_iff_ne]
  rintro rfl
  exact O.elim F h2
 refine lj ad (Pr.key2 O ai az al hb aA) (aS _ xab xab) (aS _ xab xab) (aS _ xab xab) (aS _ xab xab) (aS _ xab xab) xaa (ts++c::us) a6 (by rw[pE (X:=[ts]) (y:=us) xac S _ yag];exact bc) _ (λH bi bj aj a2=>?_);rw[S]at a2⊢;obtain⟨b4,rfl,aD,cc,bU⟩:=a2.at_ xac
 have bO:ArgS f H P I u1 u2 u3 u4 bs st a5 Q cL u g b4 [a,b]:=ArgS.of N cL ad aj aD cc bU rfl (λi hi=>by
   match i,hi with
   |0,_=>exact az
   |1,_=>exact hb) (λi hi=>by
   match i,hi with
   |0,_=>show ts.length<=m;omega
   |1,_=>show us.length<=m;omega) (λi hi=>by
   match i,hi with
   |0,_=>intro t ht;have j:t∈ts:=ht;simp[j]
   |1,_=>intro t ht;have j:t∈us:=ht;simp[j])
 obtain⟨a9,aX,C⟩:=k;rcases O with O|O
 ·simp only at O;subst O;exact Ff (ad.ws.keep aj) ad.gd aX C rfl bO R K
 simp only at O;subst O;exact Fh (ad.ws.keep aj) ad.gd aX C rfl bO R K):Zp:=h
open cP in
theorem Fi{k l c q}(N:TrC f)(ad:TrIn W P I u1 u2 u3 u4 bs st a5 Q u g off m cap (k::l::(ts++c::(us++[q]))))(O:k.sym=Bf\/k.sym=JQ)(ai:l.sym=[40])(az:Pr 2 [a] ts)(al:c.sym=[44])(hb:Pr 2 [b] us)(aA:q.sym=[41])(h:eM (f+1) st u (.key2 k a b)=some r):
  Calls prog 112 #[hZ P,.slice a5 Q cL,.slice (some ⟨g,off,none⟩) m cap] W (TrO W P I u1 u2 u3 u4 bs r):=by
 have bS:k.sym≠zj:=by rcases O with e|e<;>(rw[e];decide)
 obtain⟨R,K,rfl⟩:=Fd bS h;exact qcw
theorem Fj{k l c c2 q}(N:TrC f)(ad:TrIn W P I u1 u2 u3 u4 bs st a5 Q u g off m cap (k::l::(ts++c::(us++c2::(au++[q])))))(O:k.sym=zj)(ai:l.sym=[40])(az:Pr 2 [a] ts)(al:c.sym=[44])(hb:Pr 2 [b] us)(aC:c2.sym=[44])(aO:Pr 2 [d] au)(aA:q.sym=[41])(h:eM (f+1) st u (.key3 k a b d)=some r):
  Calls prog 112 #[hZ P,.slice a5 Q cL,.slice (some ⟨g,off,none⟩) m cap] W (TrO W P I u1 u2 u3 u4 bs r):=by
 obtain⟨R,K,rfl⟩:=Fe O h;have ao:=ad.tk.len;simp only[yaq,yal,List.length_nil]at ao;have aQ:=iZ az;have T:=iZ hb;have e:=iZ aO;have bc:au≠[]:=λc=>by rw[c]at e;simp at e
 have y:=jF az yad;have B:=jF hb yad;have n:=jF aO yad;have bX:=ad.mc;have S:=Bk y al B aC n
 have a6:ts++c::(us++c2::au)=((k::l::(ts++c::(us++c2::(au++[q])))).drop 2).take (m-1-2):=by
  rw[List.drop_succ_cons,List.drop_succ_cons,List.drop_zero,show ts++c::(us++c2::(au++[q]))=(ts++c::(us++c2::au))++[q] by simp,List.take_append_of_le_length yag,yap yag]
 have aS:∀x:List UInt8,x≠zj->(k.sym==x)=false:=λx F=>by
  rw[beq_eq_false_iff_ne]
  rintro rfl
  exact F O
 refine lj ad (Pr.key3 O ai az al hb aC aO aA) (aS _ xab) (aS _ xab) (aS _ xab) (aS _ xab) (aS _ xab) xaa (ts++c::(us++c2::au)) a6 (by rw[pE (X:=[ts,us]) (y:=au) xac S _ yag];exact bc) _ (λH bi bj aj a2=>?_);rw[S]at a2⊢;obtain⟨b4,rfl,aD,cc,bU⟩:=a2.at_ xac
 have bO:ArgS f H P I u1 u2 u3 u4 bs st a5 Q cL u g b4 [a,b,d]:=ArgS.of N cL ad aj aD cc bU rfl (λi hi=>by
   match i,hi with
   |0,_=>exact az
   |1,_=>exact hb
   |2,_=>exact aO) (λi hi=>by
   match i,hi with
   |0,_=>show ts.length<=m;omega
   |1,_=>show us.length<=m;omega
   |2,_=>show au.length<=m;omega) (λi hi=>by
   match i,hi with
   |0,_=>intro t ht;have j:t∈ts:=ht;simp[j]
   |1,_=>intro t ht;have j:t∈us:=ht;simp[j]
   |2,_=>intro t ht;have j:t∈au:=ht;simp[j])
 obtain⟨a9,aX,C⟩:=k;simp only at O;subst O;exact Fg (ad.ws.keep aj) ad.gd aX C rfl bO R K
end
def lcc(b:List UInt8×Nat):List Value:=[eK b.1,.int .i64 (b.2:Int)]
def lcF:Loc->List Value
 |[]=>[]
 |b::r=>lcc b++lcF r
theorem Mq(a b):lcF (a++b)=lcF a++lcF b:=by
 induction a<;>grind[lcF]
theorem Mr(b):lcF [b]=lcc b:=by simp[lcF]
theorem Jh:∀(a:Loc) (k j:Nat),k<a.length->j<2->(lcF a)[k*2+j]? =(lcc (a.getD k ([],0)))[j]?
 |x::r,0,j,_,hj=>by
  grind[lcF,lcc]
 |x::r,k+1,j,O,hj=>by
  have ap:(lcc x).length=2:=rfl
  rw[lcF,yas xaa,ap,show(k+1)*2+j-2=k*2+j by omega]
  exact Jh r k j (by grind) hj
theorem PA:(prog.info? 180).map (λi=>(i.zero,i.size,i.bytes))=some (some (.agg #[.string ⟨#[]⟩,h1 0]),2,24):=by kernel_rfl
theorem yL:∃b1,prog.info? 180=some b1/\b1.zero=some (.agg #[.string ⟨#[]⟩,h1 0])/\b1.size=2/\b1.bytes=24:=by
 have h:=PA;simp_all
theorem Ms(w:World)(x v T):∀j u,(lcc (x,v))[j]? =some u->(w.alloc (.cells #[eK x,h1 v] T)).cell? ((⟨w.heap.size,0,none⟩:Addr).add j)=some u:=by
 intro j u h;rw[iM,Nat.zero_add,yav];match j,h with
 |0,h=>exact h
 |1,h=>exact h
theorem vo(w){bW rest o a Q}(au:o.guard=none)(s x)
  (ho:o.op=.call {callee:=.builtin .append,args:=#[s,x],argTypes:=#[169,169]})
  (I) (v) (bw:Loc) (aw:a.eval s=v) (bq:w.ownsRow I 180 2 v bw.length (lcF bw))
  (av) (k) (ap:a.eval x=.slice (some av) 1 1) (d:∀j u,(lcc k)[j]? =some u->w.cell? (av.add j)=some u)
  (f:bw.length+1<=1000000) (ae:I<=w.heap.size)
  (h:∀g cap n B,n=(bw++[k]).length->B.ownsRow I 180 2 (h0 g n cap) (bw.length+1) (lcF bw++lcc k)->Chg (λb=>v.ownBlock=some b) w B->(v.ownBlock=some g\/g=w.heap.size)->wpList prog bW Q rest (a.put o.dst (h0 g n cap)) B):wpList prog bW Q (o::rest) a w:=by
 obtain⟨b1,hi,hz0,hz1,hz2⟩:=yL;refine wpList_append_lies w au s x _ ho I 180 _ _ 2 _ underlying169 hi hz0 hz1 hz2 rfl xab v _ _ aw bq _ 1 1 _ ap rfl d ?_ xab (by unfold maxLen;omega) xaa ae _ rfl ?_
 ·intro u a6;simp[lcc]at a6;rcases a6 with rfl|rfl<;>rfl
 intro g cap B F h2 h3 _;have e:bw.length+1=(bw++[k]).length:=by grind
 rw[e]at F⊢;refine h g _ _ _ rfl ?_ (fT h2) h3;grind
structure LvI(W W':World)(P B:Nat)(u1 u2 u3 u4:Value)(bs:List Bc)(st:LSt)(o:Value)(js:Loc):Prop where
 ex:∃v1 v2 v3 v4,WS W' P B v1 v2 v3 v4 bs st/\Mv (Mst P u1 u2 u3 u4) W (λb=>Mst P v1 v2 v3 v4 b\/o.ownBlock=some b) W'/\(∀b,o.ownBlock=some b->¬Mst P v1 v2 v3 v4 b)
 row:W'.ownsRow W.heap.size 180 2 o js.length (lcF js)
theorem LvI.keep{W z}(h:LvI W H P I u1 u2 u3 u4 bs st o bw)(k:Kept 0 0 H z):LvI W z P I u1 u2 u3 u4 bs st o bw:=by
 exact xhj
theorem LvI.step{W ax aU ba bb bc bo aR bd bu bC u}(bJ:Mv (Mst P u1 u2 u3 u4) W (λb=>Mst P ba bb bc bo b\/o.ownBlock=some b) ax)(l:∀b,o.ownBlock=some b->¬Mst P ba bb bc bo b)(a8:ax.ownsRow W.heap.size 180 2 o bw.length (lcF bw))(aO:WS aU P I aR bd bu bC bs u)(aL:Mv (Mst P ba bb bc bo) ax (Mst P aR bd bu bC) aU):LvI W aU P I u1 u2 u3 u4 bs u o bw:=by
 exact xcs
theorem aN.qbg(h:Zp:=by
 refine⟨⟨ba,bb,bc,bo,F.side aj (λb hb c=>h3 b c hb) (λi hi=>?_),au,λb hb c=>?_⟩,?_⟩
 ·exact xhq
 ·rw[aZ]at hb;subst hb;exact f c
 rw[yal,Mq,Mr];exact K):Zp:=h
open aN in
theorem LvI.app{W bn d}(ak:WS W P I u1 u2 u3 u4 bs d)(al:st.names=d.names)(h:LvI W H P I u1 u2 u3 u4 bs st o bw){g9 n9 cap9 x}(K:bn.ownsRow W.heap.size 180 2 (h0 g9 n9 cap9) (bw.length+1) (lcF bw++lcc x))(aj:Chg (λb=>o.ownBlock=some b) H bn)(br:o.ownBlock=some g9\/g9=H.heap.size):LvI W bn P I u1 u2 u3 u4 bs st (h0 g9 n9 cap9) (bw++[x]):=by
 exact qbf
theorem LvI.nil{W}(h:WS H P I u1 u2 u3 u4 bs st)(k:Mv (Mst P u1 u2 u3 u4) W (Mst P u1 u2 u3 u4) H):LvI W H P I u1 u2 u3 u4 bs st (.slice none 0 0) []:=
 ⟨⟨u1,u2,u3,u4,h,⟨k.chg,λb hb=>.inl (hb.elim id (λc=>by simp[Value.ownBlock]at c))⟩,λb hb=>by simp[Value.ownBlock]at hb⟩,yaw _ _ _ _⟩
theorem pF{w:World}{n}{e s:Nat}{v xs}(f:w.ownsRow I e s v n xs):∃a c,v=.slice a n c:=by
 rcases f.2 with⟨e,c⟩|⟨g,cap,ad,e,_⟩<;>grind
theorem LvI.lc{W s}(h:LvI W H P I u1 u2 u3 u4 bs s o bw):∃a c ba bb bc bo,o=.slice a bw.length c/\WS H P I ba bb bc bo bs s/\Mv (Mst P u1 u2 u3 u4) W (Mst P ba bb bc bo) H/\LcR (Mst P ba bb bc bo) H a bw.length bw:=by
 obtain⟨ba,bb,bc,bo,aq,ae,bh⟩:=h.ex;obtain⟨bA,cy,ho⟩:=pF h.row;refine⟨_,_,_,_,_,_,ho,aq,⟨ae.chg,λb hb=>ae.new b (.inl hb)⟩,⟨rfl,λbN=>?_⟩⟩;have a8:=h.row;rcases a8.2 with⟨_,c⟩|⟨g,c,ad,e,U,aV,aa,_,ct,bX⟩
 ·omega
 rw[ho]at e;cases e;have aK:g<H.heap.size:=by grind
 have Y:∀k j,k<bw.length->j<2->H.cell? _=(lcc _)[j]?:=λk j O hj=>by
  rw[cell_of_row _ g _ _ _ _ aV,<-Array.getElem?_toList]
  have:(ad.toList.take (bw.length*2))[k*2+j]? =(lcF bw)[k*2+j]?:=by rw[bX]
  rw[List.getElem?_take_of_lt xaa]at this
  rw[this]
  exact Jh _ k j O hj
 refine⟨g,0,rfl,bh g (by rw[ho];simp[Value.ownBlock]),aK,λk O=>⟨?_,?_⟩⟩
 ·rw[Nat.zero_add];exact Y k 0 O xaa
 rw[Nat.zero_add];exact Y k 1 O xaa
theorem WS.more{W}(h:WS W P I u1 u2 u3 u4 bs st):WS (W.setCell ⟨P,4,none⟩ (h1 ((st.calls:Int)+1))) P I u1 u2 u3 u4 bs {st with calls:=st.calls+1}/\Mv (Mst P u1 u2 u3 u4) W (Mst P u1 u2 u3 u4) (W.setCell ⟨P,4,none⟩ (h1 ((st.calls:Int)+1))):=by
 have aX:=eU (lo:=P) (hi:=P+1) W ⟨P,4,none⟩ (h1 (st.calls+1)) yac;have au:Mv _ W (Mst P u1 u2 u3 u4) _:=⟨aX.chg1 (.inl rfl),λb hb=>.inl hb⟩
 have es:∀o,o≠4->(W.setCell ⟨P,4,_⟩ (h1 (st.calls+1))).cell? ⟨P,o,_⟩=W.cell? _:=λo ak=>eV _ _ _ _ _ _ (.inr (λe=>ak e.symm));obtain⟨Z,ae,ab,u⟩:=h.np;exact⟨⟨by simpa using h.lt,λo=>by simp[h.fr o],(es 0 xab).trans h.c0,(es 1 xab).trans h.c1,(es 2 xab).trans h.c2,(es 3 xab).trans h.c3,fy _ _ _ _ _ h.c4,(es 5 xab).trans h.c5,(es 6 xab).trans h.c6,eI h.r1 Z,eI h.r2 ae,eI h.r3 ab,eI h.r4 u,h.np,h.ap,h.nl,λi hi=>(h.nb i hi).mv au,h.sz⟩,au⟩
def Ji(p:Nat)(R:Rs (LSt×List Nat))(rb:Rs (LSt×Nat)):Rs (LSt×Nat):=match R with
 |.error f=>.error f
 |.ok (s1,_)=>if 500<=s1.calls then .error (5,p)else rb
theorem Ca{f u t es r}(h:eM (f+1) st u (.call t es)=some r):
  (((∀aS ps b,iN st.names t.text≠some (.fn aS ps b))\/∃aS ps b,iN st.names t.text=some (.fn aS ps b)/\ps.length≠es.length)/\r=.error (3,t.pos))\/
  ∃aS ps b R aj,iN st.names t.text=some (.fn aS ps b)/\ps.length=es.length/\fQ (λs e=>eM f s u e) st es=some R/\r=Ji t.pos R aj/\∀ar xs,R=.ok (ar,xs)->¬500<=ar.calls->eM f {ar with calls:=ar.calls+1} ((ps.map (·.text)).zip xs) b=some aj:=by
 rw[eM]at h;cases ba:iN st.names t.text with
 |none=>simp_all
 |some d=>
  rw[ba]at h;cases d with
  |val _ _=>simp_all
  |fn aS ps ay=>
   simp only at h;by_cases c:ps.length=es.length
   ·rw[h7 c]at h;refine .inr ⟨aS,ps,ay,?_⟩;cases az:fQ (λs e=>eM f s u e) st es with
    |none=>grind
    |some q=>
     rw[az]at h;rcases q with q|⟨ar,xs⟩
     ·exact⟨_,.error q,rfl,c,rfl,(h8 h).symm,λ_ _ e=>by cases e⟩
     simp only at h;by_cases d:500<=ar.calls
     ·rw[h7 d]at h;refine⟨_,.error (5,t.pos),rfl,c,rfl,?_,λaW ys e aO=>?_⟩
      ·show r=if 500<=ar.calls then _ else _;simp_all
      grind
     rw[h6 d]at h;refine⟨_,r,rfl,c,rfl,?_,λaW ys e aO=>?_⟩
     ·show r=if 500<=ar.calls then _ else _;grind
     grind
   grind
end
section
attribute[local go_sem] eE eD eC
variable{P I Q cL g n off m bj cap:Nat}{u1 u2 u3 u4:Value}{bs:List Bc}{st:LSt}{a5 bi:Option Addr}{u:Loc}{aS:List UInt8}{ps ts:List Tok}{e:Ex}
theorem Jj(l:List (List UInt8))(xs)(a:Nat)(h:xs.length<l.length):l.zip (xs++[a])=l.zip xs++[(l.getD xs.length [],a)]:=by
 induction xs generalizing l with
 |nil=>
  cases l with
  |nil=>simp at h
  |cons x r=>simp
 |cons y ys G=>
  cases l with
  |nil=>simp at h
  |cons x r=>
   simp only[List.cons_append,List.zip_cons_cons,yaq,List.getD_cons_succ];rw[G r (by simpa using h)]
theorem Dg(l:List (List UInt8))(xs:List Nat)(h:xs.length<=l.length):(l.zip xs).length=xs.length:=by
 rw[List.length_zip];omega
theorem cX.qdg(h:Zp:=by
 generalize W.heap.size=a7 at T⊢;have bL:V _:=bE.o.keep HK.o;have c1:=T.o.c1;have c2:=T.o.c2;have c3:=bL.o.c3;have cg:V _:=rI bL.o.c3 bL.o.r4 ah a8;have bT:V _:=jw bL.o.c5 bL.o.c6 bL.o.fr 3 ps (Mst P u1 u2 u3 u4) (.inl rfl);have z:V _:=ml bL.o.r4;exact qfg):Zp:=h
theorem cX.qfh(h:Zp:=by
 rcases b0 with⟨av,bM,rfl,bk,bv⟩|⟨rfl,ag⟩
 ·have br:V _:=oN bL.o bM bk bv;have w:V _:=bL.o.nb _ bM;obtain⟨bN,b7,e4,_,_,_,b3⟩:=z.o xaa;cases e4;obtain⟨_,aM,_,aI,_⟩:=b3 _ bM;generalize bH:bs.length=nn at*;generalize bs.getD av _=b at aM aI w;generalize st.names.getD av _=au at br w;have a9:¬((av:Int)<0):=xaa;cases au with
  |val aS v=>
   have B:=w.o.2.1;rw[B]at aM;clear B bk bv b3 bH w z bl;go_wp2_with (go_at_call 111;refine yaj bT.o ?_;rintro e aU ⟨rfl,G⟩);go_ret;rw[HR.o];exact⟨rfl,G.c5,G.c6,(Mv.of HK.o).bad G.chg⟩
  |fn aS qs e=>
   have B:=w.o.2.1;have bm:=w.o.2.2.1.len
   have bc:qs.length≠n:=by
    rcases bl.o with c|⟨f,a,S,af,c⟩
    ·exact absurd br.o (c _ _ _)
    rw[br.o]at af;cases af;exact c
   have d:(b.pn==(n:Int))=false:=yax xaa;rw[B]at aM;clear B bk bv b3 bH w z bl bc bm;generalize b.pn=j at aI d;go_wp2_with (go_at_call 111;refine yaj bT.o ?_;rintro e aU ⟨rfl,G⟩);go_ret;rw[HR.o];exact⟨rfl,G.c5,G.c6,(Mv.of HK.o).bad G.chg⟩
 clear ag z bl c3;go_wp2_with (go_at_call 111;refine yaj bT.o ?_;rintro e aU ⟨rfl,G⟩);exact xes):Zp:=h
open cX in
theorem Jk{W}(h:WS W P I u1 u2 u3 u4 bs st)(ad:Gd st)(t)(hb:(∀aS ps b,iN st.names t.text≠some (.fn aS ps b))\/∃aS ps b,iN st.names t.text=some (.fn aS ps b)/\ps.length≠n):
  Calls prog 128 #[hZ P,.slice a5 Q cL,iT t,.slice bi n bj] W (TrO W P I u1 u2 u3 u4 bs (.error (3,t.pos))):=by
 obtain⟨aT,ps,a8⟩:=t;have T:V _:=gV W aT ps a8;have HK:V _:=eA 0 0 W (.cells #[eK aT,h1 ps,eK a8] 137);have bE:V _:=h;have ah:bs.length<=100000:=by rw[h.nl];have:=ad.m;omega
 have bl:V _:=hb;obtain⟨r,aF⟩:∃r:Rs (LSt×Nat),r=.error (3,ps):=⟨_,rfl⟩
 simp only at bl⊢;rw[<-aF];have HR:V _:=aF;clear aF h ad hb;exact qdf
theorem WS.fnc{W}(h:WS W P I u1 u2 u3 u4 bs st){k}(O:k<bs.length)(aO:st.names.getD k (.val [] 0)=.fn aS ps e):∃bN b7,u4=h0 bN bs.length b7/\W.cell? ⟨P,3,none⟩=some (h0 bN bs.length b7)/\W.cell? ⟨bN,k*5+1,none⟩=some (.bool true)/\W.cell? ⟨bN,k*5+3,none⟩=some (.slice (bs.getD k ip).pa ps.length (bs.getD k ip).pc)/\W.cell? ⟨bN,k*5+4,none⟩=some (.slice (bs.getD k ip).ba (bs.getD k ip).bn (bs.getD k ip).bc)/\TkR (Mst P u1 u2 u3 u4) W (bs.getD k ip).pa ps.length ps/\∃ts,Pr 2 [e] ts/\TsOK ts/\(bs.getD k ip).bn<=(bs.getD k ip).bc/\TkR (Mst P u1 u2 u3 u4) W (bs.getD k ip).ba (bs.getD k ip).bn ts:=by
 obtain⟨bN,b7,e4,_,_,_,b3⟩:=ml h.r4 xaa;have hb:=h.nb k O;rw[aO]at hb;obtain⟨_,aV,aa,ts,b1,⟨ct,bX⟩,cR⟩:=hb;obtain⟨_,aM,_,aI,r⟩:=b3 k O;rw[aV]at aM;rw[<-aa.len]at aI aa;have c3:=h.c3;grind
theorem cY.qdg(h:Zp:=by
 generalize W.heap.size=a7 at T aD⊢;have bL:V _:=bE.o.keep HK.o;have c2:=T.o.c2;have cg:V _:=rI bL.o.c3 bL.o.r4 ah a8;have c3:=bL.o.c3;exact qfg):Zp:=h
theorem cY.qfh(h:Zp:=by
 clear cg c2;rcases b0 with⟨av,bM,rfl,bk,bv⟩|⟨rfl,ag⟩
 ·have HD:V (st.names.getD av (.val [] 0)=.fn aS ps ay):=by
   have:=oN bL.o bM bk bv;rw[br.o]at this;exact(h8 this).symm
  have HFn:V (∀H ba bb bc bo s,WS H P I ba bb bc bo _ s->s.names=st.names->_):=λH ba bb bc bo s X aw=>X.fnc bM (i1 aw HD.o);clear bk bv br;obtain⟨bN,b7,e4,_,aM,aI,_,_⟩:=HFn.o _ _ _ _ _ _ bL.o rfl;cases e4;rw[B.o]at aI;have a9:¬((av:Int)<0):=xaa;have cT:=bM;generalize bH:bs.length=nn at c3 bM ah;have bq:V _:=LvI.nil bL.o (Mv.refl _ _);go_upto_region 4 with fail;clear aM aI c3;go_wp2_with fail;go_loopw [10,11] (λS bX H=>∃(k:Nat) (s:LSt) (xs:List Nat),k<=n/\bX=h1 k/\xs.length=k/\V (fQ (λs e=>eM f s u e) st (es.take k)=some (.ok (s,xs)))/\V (LvI ax H P I u1 u2 u3 (h0 bN bs.length cK) bs s S ((ps.map (·.text)).zip xs))/\V (Gw st s)/\V (∀i∈xs,i<s.vs.length)) (λ_ bX _=>n-(intOf bX).toNat)
  case atStart=>exact⟨0,_,_,yae,rfl,rfl,(show V _ by show _=_;rw[List.take_zero];rfl),(show V _ from(by rw[List.zip_nil_right];exact bq.o)),(show V _ from Gw.refl cp.o),(show V _ from λi hi=>by cases hi)⟩
  case round=>
   obtain⟨k,s,xs,cc,rfl,(ao:V _),bz,bf,j,O⟩:=hrel;clear bq;by_cases hlt:k<n
   ·obtain⟨aR,bd,bu,bC,aq,ae,bh⟩:=bf.o.ex;have bS:Mv _ _ _ _:=⟨ae.chg,λb hb=>ae.new b (.inl hb)⟩
    obtain⟨b4,cf,be⟩:=au.o xaa;obtain⟨c7,cP,cR,cS⟩:=mJ _ _ _ R ap.o k (i1 aV.o hlt) s _ bz.o;obtain⟨o,Z,c1,y,cD⟩:=be.call k (i1 aV.o hlt);obtain⟨b1,cQ⟩:=cD s _ _ _ _ _ _ j.o cP aq ((Mv.of HK.o).trans bS);rw[<-be.cell ((Mv.of HK.o).trans bS).chg k]at y;subst cf;have cH:V _:=cR;have cO:V _:=cS;have cI:V _:=b1;have bW:V _:=cQ;have aB:V _:=ae;have bP:V _:=bh;have cM:V _:=(Mv.of HK.o).trans bS;clear cP cR cS b1 cQ cD aq ae bh bS be;rcases c7 with⟨c,p⟩|⟨aW,J⟩
    ·exact xca
    exact qgz
   obtain rfl:k=n:=xaa
   have bZ:V (R=.ok (s,xs)):=by
    have F:=bz.o;rw[yap (by rw[aV.o];exact yad),ap.o]at F;exact h8 F
   obtain⟨aQ,ed,aR,bd,bu,bC,rfl,aq,ae,a⟩:=bf.o.lc
   have bR:((ps.map (·.text)).zip xs).length=k:=by
    rw[Dg _ _ (by rw[ao.o,List.length_map,B.o];exact yad),ao.o]
   rw[bR]at a⊢;have aB:V _:=ae;have cB:V _:=(Mv.of HK.o).trans ae;have cw:V _:=T.o.keepC ae.chg aD.o;have l:=aq.c4;by_cases al:500<=s.calls
   ·have aC:V (r=.error (5,pos)):=by show _=_;rw[HR.o,bZ.o];show(if 500<=s.calls then _ else _)=_;rw[h7 al]
    have bT:V _:=jw aq.c5 aq.c6 aq.fr 5 pos (Mst P aR bd bu bC) (.inl rfl);have U:=cw.o.c1;have aY:(500:Int)<=s.calls:=xaa;clear aq ae a bf HR bZ bz j O ap cp au;generalize s.calls=aO at l al aY;go_wp2_with (go_at_call 111;refine yaj bT.o ?_;rintro e bA ⟨rfl,G⟩);go_ret;rw[aC.o];exact⟨rfl,G.c5,G.c6,cB.o.bad G.chg⟩
   have aC:V (r=aj):=by show _=_;rw[HR.o,bZ.o];show(if 500<=s.calls then _ else _)=_;rw[h6 al]
   have aY:¬(500:Int)<=s.calls:=xaa;obtain⟨bJ,bl⟩:=aq.more;have bB:=C.o s _ bZ.o al;have bD:Gw _ {s with calls:=s.calls+1}:=⟨⟨j.o.g.n,j.o.g.c,j.o.g.ok,j.o.g.k,j.o.g.i,j.o.g.o,j.o.g.m⟩,j.o.n,j.o.l,j.o.i,j.o.o,j.o.m⟩
   have bV:=aq.fr 4;obtain⟨cz,bp,_,f3,_,_,d,_,ts,aA,v,bU,aG⟩:=HFn.o _ _ _ _ _ _ bJ j.o.m;have ai:=iZ aA;have ct:=aG.len;obtain⟨aa,aZ,ck,bO,a6⟩:=aG.at_ xaa;have b2:=v.n5;have cd:V _:=N _ P I _ _ _ _ _ _ _ k ed _ _ _ _ _ _ ⟨bJ,bD.g,NmOK.gw cN.o bD,a.mv bl,dd,(λb hb=>O.o _ (List.of_mem_zip (show(b.1,b.2)∈_ from hb)).2),a6,bO,by omega,bU,v.ti,v.tn⟩ 2 _ aA yad _ bB;rw[ck]at d
   have bI:V (Calls _ _ _ _ λe z=>(∃x:Int,e=.returned _)/\V (TrO W P I _ _ _ _ _ r e _)):=yaj cd.o (λe z t=>⟨t.ret,by
    show TrO W P I u1 u2 u3 (h0 bN bs.length cK) bs r e z
    rw[aC.o]
    exact TrO.after (cB.o.trans bl) t⟩)
   clear aq ae a bf HR bZ bz j O ap cp au cd bJ bl bB bD a6 aG v aA bO C aB cB cw HFn aC HD cN;rw[bH]at f3;generalize s.calls=aO at*;generalize (bs.getD av _).bn=b5 at*;generalize (bs.getD av _).bc=bg at*;go_wp2_with (go_at_call 112;refine yaj bI.o ?_;rintro e cn ⟨⟨x,rfl⟩,bm⟩);go_ret;exact bm.o
 exfalso;have:=pw bL.o ag;rw[br.o]at this;cases this):Zp:=h
theorem cY.qha(h:Zp:=by
 go_upto_region 11 with (go_at_call 112;refine yaj bW.o ?_;rintro e bA ⟨rfl,aJ,y2,y3,y4,ab,bK⟩);have cx:V _:=LvI.step aB.o bP.o bf.o.row ab bK;have cG:V (ax.heap.size<=bA.heap.size):=by show _<=_;have:=aB.o.chg.size;have:=bK.chg.size;omega
 have aK:V _:=cJ.o.m;obtain⟨cz,bp,_,f3,_,d,_,Y,_⟩:=HFn.o _ _ _ _ _ _ ab aK.o;rw[B.o]at d Y;obtain⟨bY,op,bG,_,a6⟩:=Y.at_ xaa;have d9:=a6.c2 k hlt;rw[bG]at d
 have aP:V ((ps.map (·.text)).getD xs.length []=(ps.getD k ih).text):=by
  show _=_;rw[ao.o,yai,List.getElem?_map,yai,yam (i1 B.o hlt)];rfl
 have HZ:V ((ps.map (·.text)).zip (xs++[J])=(ps.map (·.text)).zip xs++[((ps.getD k ih).text,J)]):=by
  show _=_;rw[Jj _ _ _ (by rw[ao.o,List.length_map,B.o];exact hlt),aP.o]
 have aU:V (((ps.map (·.text)).zip xs).length=k):=by
  show _=_;rw[Dg _ _ (by rw[ao.o,List.length_map,B.o];omega),ao.o]
 generalize (ps.getD k _).text=aL at d9 HZ;have aH:=Ms bA aL J 180;have aN:=eA 0 0 bA (.cells #[eK aL,h1 J] 180);have az:V _:=cx.o.keep aN;clear cx bf aB bP cM cI bW cH cO y ab bK j O bz bx Y a6 bG aP;generalize (ps.map _).zip _=bw at az HZ aU;rw[bH]at f3;go_wp2_with (first|(at_builtin;refine vo _ rfl _ _ rfl _ _ _ (by rfl) az.o.row _ _ (by rfl) aH ?c2 ?c3 ?_)|fail)
 case c2=>have:=aU.o;omega
 case c3=>have:=cG.o;simp;omega
 intro g9 cap9 n9 bn an b9 bF ch;have R1:V _:=LvI.app bL.o aK.o az.o b9 bF (ch.imp id (λe=>by rw[e];simp));rw[<-HZ.o]at R1;clear b9 bF ch an aN aH f3 d d9;go_wp2_with fail;go_roundw;exact⟨k+1,aW,xs++[J],by omega,by go_num,by rw[yal,ao.o];rfl,af,R1,cJ,cW⟩;simp[intOf];omega):Zp:=h
open cY in
theorem Mt{f}(N:TrC f){W}(h:WS W P I u1 u2 u3 u4 bs st)(ad:Gd st)(w:NmOK st)(t){es}(cA:es.length=n)(dd:n<=5000)(a2:0<n->∃b4,bi=some ⟨b4,0,none⟩/\ArgS f W P I u1 u2 u3 u4 bs st a5 Q cL u g b4 es){ay}(aX:iN st.names t.text=some (.fn aS ps ay))(bQ:ps.length=n)(R)(K:fQ (λs e=>eM f s u e) st es=some R)(aj)(a0:∀ar xs,R=.ok (ar,xs)->¬500<=ar.calls->eM f {ar with calls:=ar.calls+1} ((ps.map (·.text)).zip xs) ay=some aj):
  Calls prog 128 #[hZ P,.slice a5 Q cL,iT t,.slice bi n bj] W (TrO W P I u1 u2 u3 u4 bs (Ji t.pos R aj)):=by
 obtain⟨aT,pos,a8⟩:=t;have T:V _:=gV W aT pos a8;have HK:V _:=eA 0 0 W (.cells #[eK aT,h1 pos,eK a8] 137);have bE:V _:=h;have aD:V _:=h.far;have cp:V _:=ad;have cN:V _:=w;have aV:V _:=cA;have au:V _:=a2;have br:V _:=aX;have B:V _:=bQ;have ap:V _:=K;have C:V _:=a0;have ah:bs.length<=100000:=by rw[h.nl];have:=ad.m;omega
 obtain⟨r,aF⟩:∃r,r=Ji pos R aj:=⟨_,rfl⟩
 simp only at br⊢;rw[<-aF];have HR:V _:=aF;clear aF h ad w cA a2 aX bQ K a0;exact qdf
theorem H.qam(h:Zp:=by
 exact qds):Zp:=h
theorem H.qdt(h:Zp:=by
 have b1:V _:=b.o ax HK.o;clear c0 c1 c2 j af b;generalize (fL us).length=d at b1 K⊢;go_upto_region 29 with (go_at_call 127;refine yaj b1.o ?_;rintro e am ⟨bi,bj,rfl,a,av⟩);have y:V _:=T.o.keep av
 have ab:V (SgR am g W.heap.size bi (fL us)):=⟨λbx=>by
  obtain⟨b4,ay,aB,bz⟩:=a.at_ bx
  exact⟨b4,ay,yao HZ.o aB,bz⟩⟩
 have b2:V _:=yaj (K.o am bi bj (HK.o.trans av) ab.o) (λe z t=>(⟨TrO.ret t,TrO.back (HK.o.trans av) t⟩:(∃x:Int,e=.returned (h1 x))/\V (TrO W P I u1 u2 u3 u4 bs r e z)));unfold iT at b2;simp only at b2;clear bL U aV T a K b1 ab;have bL:=y.o.c0;have U:=y.o.c1;have aV:=y.o.c2;clear y av;exact xhd):Zp:=h
theorem H.qem(h:Zp:=by
 have b:V (∀H,Kept 0 0 W H->_):=λH aj=>CN H g (off+6) (m-3) (cap-2) us (by
  have t:=(ad.tk.keep aj).in_ 2 (m-1) us a6 xaa
  rw[show m-1-2=m-3 by omega]at t
  exact t) xaa xaa xaa bc
 have K:V _:=bf;generalize ts.getD 0 ih=t at*;clear ad aQ bf bc a6;exact qgc):Zp:=h
open H in
theorem Cb{W}(ad:TrIn W P I u1 u2 u3 u4 bs st a5 Q u g off m cap ts)(aQ:Pr 0 [e] ts)(ak:(ts.getD 0 ih).sym=[110,97,109,101])(h2:4<=m)(us)(a6:us=(ts.drop 2).take (m-1-2))(bc:(spQ us (m-3)).cur≠[])(r)
  (bf:∀H bi bj,Kept 0 0 W H->SgR H g W.heap.size bi (fL us)->Calls prog 128 #[hZ P,.slice a5 Q cL,iT (ts.getD 0 ih),.slice bi (fL us).length bj] H (TrO H P I u1 u2 u3 u4 bs r)):
  Calls prog 112 #[hZ P,.slice a5 Q cL,.slice (some ⟨g,off,none⟩) m cap] W (TrO W P I u1 u2 u3 u4 bs r):=by
 exact qgj
theorem I.qam(h:Zp:=by
 exact qds):Zp:=h
theorem I.qdt(h:Zp:=by
 clear c0 c1 c2 j af;go_upto_region 29 with (go_at_call 127;refine yaj (b.o _ _ _ _ xaa) ?_;rintro e am ⟨rfl,X⟩;obtain rfl:=X.symm);have y:V _:=T.o;have b2:V _:=yaj (K.o ax HK.o) (λe z t=>(⟨TrO.ret t,TrO.back HK.o t⟩:(∃x:Int,e=.returned (h1 x))/\V (TrO W P I u1 u2 u3 u4 bs r e z)));unfold iT at b2;simp only at b2;clear bL U aV T K b;have bL:=y.o.c0;have U:=y.o.c1;have aV:=y.o.c2;clear y;exact xhd):Zp:=h
theorem I.qem(h:Zp:=by
 have b:V (∀(H:World) (a:Option Addr) (n b7:Nat),n=0->Calls prog 127 #[.slice a n b7] H λe bo=>e=.returned (.slice none 0 0)/\bo=H):=λH a n b7 e=>by subst e;exact Al H a b7
 have K:V _:=bf;have ew:m<=3:=xaa;have d:3<=m:=xaa;clear h2;generalize ts.getD 0 ih=t at*;clear ad aQ bf;exact qgc):Zp:=h
open I in
theorem AY{W}(ad:TrIn W P I u1 u2 u3 u4 bs st a5 Q u g off m cap ts)(aQ:Pr 0 [e] ts)(ak:(ts.getD 0 ih).sym=[110,97,109,101])(h2:m=3)(r)
  (bf:∀H,Kept 0 0 W H->Calls prog 128 #[hZ P,.slice a5 Q cL,iT (ts.getD 0 ih),.slice none 0 0] H (TrO H P I u1 u2 u3 u4 bs r)):
  Calls prog 112 #[hZ P,.slice a5 Q cL,.slice (some ⟨g,off,none⟩) m cap] W (TrO W P I u1 u2 u3 u4 bs r):=by
 exact qgj
section
variable{f:Nat}{W:World}{P I:Nat}{u1 u2 u3 u4:Value}{bs:List Bc}{st:LSt}{a5:Option Addr}{Q cL:Nat}{u:Loc}{g off m cap:Nat}{ts:List Tok}{es:List Ex}{r:Rs (LSt×Nat)}
theorem AZ(N:TrC f)(h:WS W P I u1 u2 u3 u4 bs st)(ad:Gd st)(w:NmOK st)(t)(dd:es.length<=5000){bi bj}(a2:0<es.length->∃b4,bi=some ⟨b4,0,none⟩/\ArgS f W P I u1 u2 u3 u4 bs st a5 Q cL u g b4 es)(Y:eM (f+1) st u (.call t es)=some r):
  Calls prog 128 #[hZ P,.slice a5 Q cL,iT t,.slice bi es.length bj] W (TrO W P I u1 u2 u3 u4 bs r):=by
 rcases Ca Y with⟨hb,rfl⟩|⟨aS,ps,b,R,aj,ba,aQ,K,rfl,a0⟩
 ·exact Jk h ad t hb
 exact Mt N h ad w t rfl dd a2 ba aQ R K _ a0
theorem Cc{t l q}(N:TrC f)(ad:TrIn W P I u1 u2 u3 u4 bs st a5 Q u g off m cap [t,l,q])(ht:t.sym=gH)(ai:l.sym=[40])(aA:q.sym=[41])(h:eM (f+1) st u (.call t [])=some r):
  Calls prog 112 #[hZ P,.slice a5 Q cL,.slice (some ⟨g,off,none⟩) m cap] W (TrO W P I u1 u2 u3 u4 bs r):=by
 refine AY ad (Pr.call0 ht ai aA) ht ad.tk.len.symm r (λH aj=>?_);exact AZ (es:=[]) (g:=g) N (ad.ws.keep aj) ad.gd ad.nm t xac (λc=>by simp at c) h
theorem Jl:∀(ts:List Tok) (q:SpS),(∀s∈(me q ts).ou,s∈q.ou\/s.Sublist (q.cur++ts))/\(me q ts).cur.Sublist (q.cur++ts)
 |[],q=>⟨λs aw=>.inl aw,by rw[List.append_nil];exact List.Sublist.refl _⟩
 |t::ts,q=>by
  rw[kQ]
  obtain⟨F,h2⟩:=Jl ts (iq q t)
  have Y:(iq q t).ou=q.ou/\(iq q t).cur=q.cur++[t]\/(iq q t).ou=q.ou++[q.cur]/\(iq q t).cur=[]:=by
   unfold iq;split
   ·exact .inl ⟨rfl,rfl⟩
   ·split
    ·exact .inl ⟨rfl,rfl⟩
    ·split
     ·exact .inr ⟨rfl,rfl⟩
     ·exact .inl ⟨rfl,rfl⟩
  rcases Y with⟨af,bg⟩|⟨af,bg⟩
  ·rw[af,bg,List.append_assoc]at F
   rw[bg,List.append_assoc]at h2
   exact⟨F,h2⟩
  ·rw[af,bg,List.nil_append]at F
   rw[bg,List.nil_append]at h2;have aw:=((List.sublist_cons_self t ts).trans (List.sublist_append_right q.cur (t::ts)))
   refine⟨λs bJ=>?_,h2.trans aw⟩;rcases F s bJ with c|c
   ·rcases List.mem_append.1 c with c|c
    ·exact .inl c
    simp at c;subst c;exact .inr (List.sublist_append_left _ _)
   exact .inr (c.trans aw)
theorem Fk{ts}(h:ts≠[]):∀i,i<(fL ts).length->((fL ts).getD i []).length<=ts.length/\∀t∈(fL ts).getD i [],t∈ts:=by
 intro i hi;have ao:(fL ts).getD i []∈fL ts:=by simp_all
 have aw:((fL ts).getD i []).Sublist ts:=by
  generalize (fL _).getD i _=s at ao⊢;unfold fL at ao;rw[h6 h]at ao;obtain⟨F,h2⟩:=Jl ts ⟨0,[],[]⟩;rcases List.mem_append.1 ao with c|c
  ·simp_all
  grind
 grind
theorem Jm{n es ts}(h:Pr n es ts):es.length<=ts.length:=by
 induction h<;>grind
theorem Fl{t l q}(N:TrC f)(ad:TrIn W P I u1 u2 u3 u4 bs st a5 Q u g off m cap (t::l::(ts++[q])))(ht:t.sym=gH)(ai:l.sym=[40])(az:Pr 3 es ts)(aA:q.sym=[41])(h:eM (f+1) st u (.call t es)=some r):
  Calls prog 112 #[hZ P,.slice a5 Q cL,.slice (some ⟨g,off,none⟩) m cap] W (TrO W P I u1 u2 u3 u4 bs r):=by
 have ao:=ad.tk.len;simp only[yaq,yal,List.length_nil]at ao;have aQ:=iZ az;have bX:=ad.mc;have bc:ts≠[]:=λc=>by grind
 obtain⟨cW,bJ⟩:=Bn az;have a6:ts=((t::l::(ts++[q])).drop 2).take (m-1-2):=by grind
 have b:0<es.length:=by grind[fL]
 have cA:=Jm az
 have a:(spQ ts (m-3)).cur≠[]:=by
  have ai:=bJ (es.length-1) xaa;have e:(fL ts).getD (es.length-1) []=(spQ ts (m-3)).cur:=by grind[spQ,fL]
  rw[e]at ai;exact MP ai
 refine Cb ad (Pr.call ht ai az aA) ht xaa _ a6 a r (λH bi bj aj a2=>?_);obtain⟨b4,rfl,aD,cc,bU⟩:=a2.at_ xaa;rw[cW];have bp:=Fk bc;have bO:=ArgS.of N cL ad aj aD cc bU cW bJ (λi hi=>yao (bp i hi).1 xaa) (λi hi t ht=>by grind);have d:=ad.m5;exact AZ N (ad.ws.keep aj) ad.gd ad.nm t xaa (λ_=>⟨_,rfl,bO⟩) h
