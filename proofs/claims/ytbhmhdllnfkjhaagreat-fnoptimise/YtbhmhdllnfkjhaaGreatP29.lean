import Derived.Test.YtbhmhdllnfkjhaaGreatP28
namespace Go.Proofs.Z
variable{Zp:Prop}
open Tryz Go.RowKit Flt
set_option maxRecDepth 1000000
set_option maxHeartbeats 0
section
attribute[local go_sem] eG eE eD
def Qb(p:Nat)(r:Rs (LSt×Nat)):Rs (LSt×Nat):=match r with
 |.error f=>.error f
 |.ok (s3,j)=>fV s3 (eL 9 1 (j:Int) 0 0) p
theorem aX.qbm(h:Zp:=by
 have b7:V _:=aA.o.keepC G.chg aI.o;obtain⟨bp,cv,e2,bQ,bb⟩:=aF.lenc F;have bu:=b7.o.c0;have aV:=aF.c1;rw[e2]at aV;have bP:V _:=FtI.lit aF G a;have bF:V (gj _ _ (es.take 1)=some (.ok (ao,[a]))):=HO.o _ a rfl;have b8:V _:=w;have di:V (∀i∈[a],i<ao.vs.length):=by intro i hi;simp at hi;subst hi;exact F
 have bw:=w.g.n;clear aX aj HE HO G aF e2 bQ w bH aT;generalize fe _ a=l at bb;generalize J:ao.vs.length=aH at bb aV F bw;clear J;go_upto_region 34 with fail;clear bb aV bu b7;go_wp2_with fail;go_loopw [18,19] (λcw b4 W'=>∃(k:Nat) (s:LSt) (xs:List Nat),1<=k/\k<=2/\b4=hD k/\xs.length=k/\V (gj (λs e=>eO f s u e) st (es.take k)=some (.ok (s,xs)))/\V (FtI az W' P R u1 u2 u3 u4 bs s cw xs)/\V (Gw st s)/\V (∀i∈xs,i<s.vs.length)) (λ_ b4 _=>2-(intOf b4).toNat)
 case atStart=>exact⟨1,_,_,yad,by decide,rfl,rfl,bF,bP,b8,di⟩
 case round=>
  obtain⟨k,s,xs,ch,bG,rfl,(aq:V _),bD,bx,v,N⟩:=hrel;clear bF bP b8 di;by_cases aC:k<2
  ·obtain⟨aN,a2,bk,bq,ap,T,bS⟩:=bx.o.ex;have b0:Mv _ _ _ _:=⟨T.chg,λb hb=>T.new b (.inl hb)⟩
   obtain⟨c8,cQ,cS,cT⟩:=mO _ _ _ U bU.o k (hO ax.o aC) s _ bD.o;obtain⟨o,n1,c1,y,cV⟩:=m.o.call k (hO ax.o aC);obtain⟨cl,cR⟩:=cV s _ _ _ _ _ _ v.o cQ ap ((Mv.of HK.o).trans b0);rw[<-m.o.cell ((Mv.of HK.o).trans b0).chg k]at y;have cI:V _:=cS;have cP:V _:=cT;have cK:V _:=cl;have cn:V _:=cR;have ay:V _:=T;have ca:V _:=bS;have cN:V _:=(Mv.of HK.o).trans b0;clear cQ cS cT cl cR cV ap T bS b0;rcases c8 with⟨c,p⟩|⟨aG,Y⟩
   ·exact xby
   exact qhm
  obtain rfl:k=2:=xaa
  have cu:V (U=.ok (s,xs)):=by
   exact xev
  obtain⟨cF,eb,aN,a2,bk,bq,rfl,ap,(ay:V _),a5⟩:=bx.o.xs;have Z:V _:=zN ap v.o.g _ _ eb _ a5 (by rw[aq.o];decide) N.o K;have cy:V _:=aA.o.keepC ay.o.chg aI.o;have bz:V (r=mP [100,111,116] ⟨[100,111,116],K,z⟩ s xs):=by show _=_;rw[HR.o,cu.o];rfl
  have an:V _:=λQ S (aD:jZ s _ K=.ok (Q,S))=>lM v.o.g _ _ N.o aD;exact qfy):Zp:=h
theorem aX.qdr(h:Zp:=by
 have cj:¬Mst P _ _ _ _ _:=λc=>(ad.o.new _ c).elim aI.o (λc=>hM aA.o.lt);have cB:V _:=(Mv.of HK.o).trans ad.o;have aO:V (∀W',Kept 0 0 _ W'->W'.cell? _=some _/\W'.cell? _=some _/\W'.cell? _=some _/\W'.cell? _=some _/\W'.cell? ⟨_,of,_⟩=some (.int _ j)/\W'.cell? _=some (.int _ n)):=λW' ai=>⟨(aW.o.keep ai).c0,(aW.o.keep ai).c1,(al.keep ai).c1,(ai.cell bQ xaa).trans bb,(ai.cell ah xaa).trans (cx 0 xac),(ai.cell ah xaa).trans (cx 1 xac)⟩
 exact qfq):Zp:=h
theorem aX.qfr(h:Zp:=by
 obtain⟨bV,a1,Y,a3,a4,bR⟩:=aO.o _ hL;exact qhe):Zp:=h
theorem aX.qfz(h:Zp:=by
 rcases q with⟨c,p⟩|⟨Q,S⟩
 ·exact xcj
 obtain⟨ab,aZ,nn,aU⟩:=an.o _ _ rfl;rw[aq.o]at aZ
 obtain⟨j,n,rfl⟩:∃j n,S=[j,n]:=by
  match S,aZ with
  |[a,b],_=>exact⟨a,b,rfl⟩
 have ae:=(aU j xac).1;have ei:=aU n xac;have aJ:=jR ae;have b1:=jR ei.1;rw[ei.2,<-(aU j xac).2]at b1;have ep:V _:=ab.g.v.two (.inr (.inr (.inl rfl))) aJ b1;clear ei aJ b1
 have H:V (r=Qb K (fV Q (eL 4 (fe Q j) j n 0) K)):=by
  show _=_;rw[bz.o];unfold mP;rw[<-bZ.o];rfl
 exact qdq):Zp:=h
theorem aX.qgm(h:Zp:=by
 change Code.wp _ _ _ _ (W.alloc (.cells _ 92));generalize W.alloc _=az at aA HK⊢;generalize W.heap.size=aR at aA aI⊢;obtain⟨bm,cD,ds,d0⟩:=mO _ _ _ U bU.o 0 (by rw[ax.o];decide) _ _ rfl;obtain⟨o,bT,c0,aT,cb⟩:=m.o.call 0 (by rw[ax.o];decide);obtain⟨dv,cG⟩:=cb _ _ _ _ _ _ _ (Gw.refl co.o) cD (bo.o.keep HK.o) (Mv.of HK.o);rw[<-m.o.cell (Mv.of HK.o).chg 0]at aT;have HE:V _:=ds;have HO:V _:=d0;have aX:V _:=dv;have aj:V _:=cG;have bH:=aA.o.c0;clear cD ds d0 dv cG cb;rcases bm with⟨c,p⟩|⟨ao,a⟩
 ·exact xcq
 obtain⟨w,F⟩:=aX.o _ a rfl;exact qbl):Zp:=h
theorem aX.qhf(h:Zp:=by
 have cf:V _:=λbv ek (aK:fV _ _ K=.ok (bv,ek))=>oU c6.o ep.o aK;have bC:V (∀W',Kept 0 0 _ _->Calls _ _ _ _ λe aB=>(∃x:Int,e=.returned _)/\V (TrO _ P R _ _ _ _ _ _ e _)/\aB.cell? _=some _/\aB.cell? _=some _/\aB.cell? _=some _):=λW' ai=>yaj (mB (dg.o.keep ai) c6.o (eL 4 (fe Q _) j n 0) d4 yah K) (λe aB t=>⟨t.ret,TrO.back ai t,c9.o W' _ ai t.chg⟩);clear c9 c6 dg d4 ab HK bo aI bV a1 Y a3 a4 bR;generalize fV Q _ _=ee at H cf bC;generalize fe Q _=l at aO bC bX⊢;generalize Q.vs.length=aH at*;generalize bj.drewN _=br at ag bX⊢;obtain⟨bV,a1,Y,a3,a4,bR⟩:=bX.o;go_upto_region 50 with fail;rcases ee with⟨c,p⟩|⟨bv,ek⟩
 ·have ea:V (r=.error _):=H.o
  go_region_held3 (λI=>I.cell? ⟨aR,1,none⟩=some (hD K)/\I.cell? ⟨ar,of,none⟩=some (hD (j:Nat))/\I.cell? ⟨ar,of+1,none⟩=some (hD (n:Nat))) (go_keep)
   (first
    |(go_at_call 40;refine yaj (gO _ _ _ _ _ _) ?_;rintro e cq ⟨rfl,cc⟩;obtain⟨bf,aP,aY,bW,b3,b2⟩:=aO.o _ (ag.o.trans ((eF _).trans cc)))
    |(go_at_call 121;refine yaj (bC.o _ (ag.o.trans ((eF _).trans cc))) ?_;rintro e ci ⟨⟨_,_⟩,bh,bA,bO,ec⟩;obtain rfl:=bh.o.1))
  all_goals (
   go_wp2_with fail
   go_ret
   rw[ea.o]
   exact TrO.after cB.o ⟨rfl,bh.o.2⟩)
 obtain⟨el,ew,_⟩:=cf.o _ _ rfl;have ea:V (r=fV _ _ _):=H.o;have ex:¬((ek:Int)<0):=xaa;have ev:=el.g.n;have dd:V _:=el.g;clear cf H el
 go_region_held3 (λI=>I.cell? ⟨aR,1,none⟩=some (hD K)/\I.cell? ⟨ar,of,none⟩=some (hD (j:Nat))/\I.cell? ⟨ar,of+1,none⟩=some (hD (n:Nat))) (go_keep)
  (first
   |(go_at_call 40;refine yaj (gO _ _ _ _ _ _) ?_;rintro e cq ⟨rfl,cc⟩;obtain⟨bf,aP,aY,bW,b3,b2⟩:=aO.o _ (ag.o.trans ((eF _).trans cc)))
   |(go_at_call 121;refine yaj (bC.o _ (ag.o.trans ((eF _).trans cc))) ?_;rintro e ci ⟨⟨_,_⟩,bh,bA,bO,ec⟩;obtain rfl:=bh.o.1))
 all_goals (
  obtain⟨_,bB,bE,b6,ct,ef,eg⟩:=bh.o
  have cJ:V _:=aW.o.keepC eg.chg d5.o
  have eo:¬Mst P _ _ _ _ _:=λc=>(eg.new _ c).elim d5.o (λc=>hM aW.o.lt)
  have en:V _:=cB.o.trans eg
  have cC:V (∀W',Kept 0 0 _ _->Calls _ _ _ W' λe aB=>(∃x:Int,e=.returned _)/\V (TrO W P R _ _ _ _ _ r e _)/\aB.cell? _=some _):=λW' ai=>yaj (mB (ef.keep ai) dd.o (eL 9 1 _ 0 0) ⟨Int.le_refl _,by show(1:Int)<=1000;decide⟩ yah _) (λe aB t=>⟨t.ret,(by
   show TrO W P R u1 u2 u3 u4 bs r e aB
   rw[ea.o]
   exact TrO.after (en.o.keep ai) t),(t.chg.cell (cJ.o.keep ai).lt eo).trans (cJ.o.keep ai).c1⟩)
  have O:=cJ.o.c1
  clear bh ef eg eo bC aO bX ag d5 aW cB en dd ea
  generalize bv.vs.length=et at*
  go_upto_region 53 with fail
  go_region_held3 (λI=>I.cell? ⟨aR,1,none⟩=some (hD K)) (go_keep)
   (first
    |(go_at_call 40;refine yaj (gO _ _ _ _ _ _) ?_;rintro e b5 ⟨rfl,a0⟩;have ey:=(cJ.o.keep ((eF _).trans a0)).c1)
    |(go_at_call 121;refine yaj (cC.o _ ((eF _).trans a0)) ?_;rintro e bg ⟨⟨cX,rfl⟩,er,eu⟩))
  all_goals (go_wp2_with fail;go_ret;exact er.o))):Zp:=h
theorem aX.qhn(h:Zp:=by
 go_upto_region 41 with (go_at_call 118;refine yaj cn.o ?_;rintro e bj ⟨rfl,aM,aQ,bY,cg,al,bn⟩);have HFn:V _:=FtI.step ay.o ca.o bx.o.row al bn;have cH:V (az.heap.size<=bj.heap.size):=by show _<=_;have:=ay.o.chg.size;have:=bn.chg.size;omega
 have cO:V _:=cM.o.m;have bN:(bj.alloc (.cells #[hD Y] 3)).cell? ⟨bj.heap.size,0,none⟩=some (hD Y):=by rw[yav];rfl
 have bc:=ez 0 0 bj (.cells #[hD Y] 3);have a8:V _:=HFn.o.keep bc;clear HFn bx ay ca cN cK cn cI cP y al bn v N bD aw;go_wp2_with (first|(at_builtin;refine jI _ rfl _ _ rfl _ _ _ rfl a8.o.row _ _ rfl bN ?c2 ?c3 ?_)|fail)
 case c2=>have:=aq.o;omega
 case c3=>have:=cH.o;simp;omega
 intro g9 cap9 n9 bg bJ bM bI bL;have R1:V _:=FtI.app (bo.o.keep HK.o) cO.o a8.o bM bI (bL.imp id (λe=>by rw[e];simp));exact xcs):Zp:=h
theorem aX.qhr(h:Zp:=by
 obtain⟨r,av⟩:∃r,r=su [100,111,116] ⟨[100,111,116],K,z⟩ U:=⟨_,rfl⟩
 exact qgl):Zp:=h
open aX in
theorem ED{f W P R u1 u2 u3 u4 bs st a6 aS cL u g bl cp}(h:WS W P R u1 u2 u3 u4 bs st)(ak:Gd st)(K z){es}(cA:es.length=2)(aa:ArgS f W P R u1 u2 u3 u4 bs st a6 aS cL u g bl es)(U)(C:gj (λs e=>eO f s u e) st es=some U):
  Calls prog 148 #[hB P,.slice a6 aS cL,jc ⟨[100,111,116],K,z⟩,hC bl 2 cp] W (TrO W P R u1 u2 u3 u4 bs (su [100,111,116] ⟨[100,111,116],K,z⟩ U)):=by
 have aA:V _:=iq W [100,111,116] K z;have HK:V _:=ez 0 0 W (.cells #[eN [100,111,116],hD K,eN z] 92);exact qhq
end
section
variable{W':World}{P R:Nat}{u1 u2 u3 u4 o:Value}{st:LSt}{bs:List Bc}{aT:Loc}
section
variable{f:Nat}{W:World}{P R:Nat}{u1 u2 u3 u4:Value}{bs:List Bc}{st:LSt}{a6:Option Addr}{aS cL:Nat}{u:Loc}{g off m cap:Nat}{ts us au:List Tok}{a b d:Ex}{r:Rs (LSt×Nat)}
theorem cL.qcr(h:Zp:=by
 have al:=AV y ad X
 have aH:ts++c::us=((k::l::(ts++c::(us++[q]))).drop 2).take (m-1-2):=by
  rw[List.drop_succ_cons,List.drop_succ_cons,List.drop_zero,show ts++c::(us++[q])=(ts++c::us)++[q] by simp,List.take_append_of_le_length yag,yap yag]
 have aP:∀x:List UInt8,x≠AT->x≠Jw->(k.sym==x)=false:=λx B J=>by
  rw[beq_eq_false_iff_ne]
  rintro rfl
  exact N.elim B J
 refine lB H (Pr.key2 N ab F ad hb am) (aP _ xab xab) (aP _ xab xab) (aP _ xab xab) (aP _ xab xab) (aP _ xab xab) xaa (ts++c::us) aH (by rw[pF (X:=[ts]) (y:=us) xac al _ yag];exact cf) _ (λW' bu bX ai aZ=>?_);rw[al]at aZ⊢;obtain⟨bl,rfl,cb,b0,bP⟩:=aZ.at_ xac
 have aa:ArgS f W' P R u1 u2 u3 u4 bs st a6 aS cL u g bl [a,b]:=ArgS.of Q cL H ai cb b0 bP rfl (λi hi=>by
   match i,hi with
   |0,_=>exact F
   |1,_=>exact hb) (λi hi=>by
   match i,hi with
   |0,_=>show ts.length<=m;omega
   |1,_=>show us.length<=m;omega) (λi hi=>by
   match i,hi with
   |0,_=>intro t ht;have j:t∈ts:=ht;simp[j]
   |1,_=>intro t ht;have j:t∈us:=ht;simp[j])
 obtain⟨ar,K,z⟩:=k;rcases N with N|N
 ·simp only at N;subst N;exact EA (H.ws.keep ai) H.gd K z rfl aa U C
 simp only at N;subst N;exact ED (H.ws.keep ai) H.gd K z rfl aa U C):Zp:=h
open cL in
theorem EE{k l c q}(Q:TrC f)(H:TrIn W P R u1 u2 u3 u4 bs st a6 aS u g off m cap (k::l::(ts++c::(us++[q]))))(N:k.sym=AT\/k.sym=Jw)(ab:l.sym=[40])(F:Pr 2 [a] ts)(ad:c.sym=[44])(hb:Pr 2 [b] us)(am:q.sym=[41])(h:eO (f+1) st u (.key2 k a b)=some r):
  Calls prog 118 #[hB P,.slice a6 aS cL,.slice (some ⟨g,off,none⟩) m cap] W (TrO W P R u1 u2 u3 u4 bs r):=by
 have b4:k.sym≠yZ:=by rcases N with e|e<;>(rw[e];decide)
 obtain⟨U,C,rfl⟩:=Ey b4 h;exact qcq
theorem EF{k l c c2 q}(Q:TrC f)(H:TrIn W P R u1 u2 u3 u4 bs st a6 aS u g off m cap (k::l::(ts++c::(us++c2::(au++[q])))))(N:k.sym=yZ)(ab:l.sym=[40])(F:Pr 2 [a] ts)(ad:c.sym=[44])(hb:Pr 2 [b] us)(T:c2.sym=[44])(G:Pr 2 [d] au)(am:q.sym=[41])(h:eO (f+1) st u (.key3 k a b d)=some r):
  Calls prog 118 #[hB P,.slice a6 aS cL,.slice (some ⟨g,off,none⟩) m cap] W (TrO W P R u1 u2 u3 u4 bs r):=by
 obtain⟨U,C,rfl⟩:=Ez N h;have aq:=H.tk.len;simp only[yaq,yal,List.length_nil]at aq;have aK:=jk F;have O:=jk hb;have e:=jk G;have cf:au≠[]:=λc=>by rw[c]at e;simp at e
 have y:=jN F yad;have X:=jN hb yad;have n:=jN G yad;have aG:=H.mc;have al:=AX y ad X T n
 have aH:ts++c::(us++c2::au)=((k::l::(ts++c::(us++c2::(au++[q])))).drop 2).take (m-1-2):=by
  rw[List.drop_succ_cons,List.drop_succ_cons,List.drop_zero,show ts++c::(us++c2::(au++[q]))=(ts++c::(us++c2::au))++[q] by simp,List.take_append_of_le_length yag,yap yag]
 have aP:∀x:List UInt8,x≠yZ->(k.sym==x)=false:=λx B=>by
  rw[beq_eq_false_iff_ne]
  rintro rfl
  exact B N
 refine lB H (Pr.key3 N ab F ad hb T G am) (aP _ xab) (aP _ xab) (aP _ xab) (aP _ xab) (aP _ xab) xaa (ts++c::(us++c2::au)) aH (by rw[pF (X:=[ts,us]) (y:=au) xac al _ yag];exact cf) _ (λW' bu bX ai aZ=>?_);rw[al]at aZ⊢;obtain⟨bl,rfl,cb,b0,bP⟩:=aZ.at_ xac
 have aa:ArgS f W' P R u1 u2 u3 u4 bs st a6 aS cL u g bl [a,b,d]:=ArgS.of Q cL H ai cb b0 bP rfl (λi hi=>by
   match i,hi with
   |0,_=>exact F
   |1,_=>exact hb
   |2,_=>exact G) (λi hi=>by
   match i,hi with
   |0,_=>show ts.length<=m;omega
   |1,_=>show us.length<=m;omega
   |2,_=>show au.length<=m;omega) (λi hi=>by
   match i,hi with
   |0,_=>intro t ht;have j:t∈ts:=ht;simp[j]
   |1,_=>intro t ht;have j:t∈us:=ht;simp[j]
   |2,_=>intro t ht;have j:t∈au:=ht;simp[j])
 obtain⟨ar,K,z⟩:=k;simp only at N;subst N;exact EB (H.ws.keep ai) H.gd K z rfl aa U C
end
def lcc(b:List UInt8×Nat):List Value:=[eN b.1,.int .i64 (b.2:Int)]
def lcF:Loc->List Value
 |[]=>[]
 |b::r=>lcc b++lcF r
theorem KB(a b):lcF (a++b)=lcF a++lcF b:=by
 induction a<;>grind[lcF]
theorem KC(b):lcF [b]=lcc b:=by simp[lcF]
theorem H9:∀(a:Loc) (k j:Nat),k<a.length->j<2->(lcF a)[k*2+j]? =(lcc (a.getD k ([],0)))[j]?
 |x::r,0,j,_,hj=>by
  grind[lcF,lcc]
 |x::r,k+1,j,N,hj=>by
  have ak:(lcc x).length=2:=rfl
  rw[lcF,yas xaa,ak,show(k+1)*2+j-2=k*2+j by omega]
  exact H9 r k j (by grind) hj
theorem NK:(prog.info? 177).map (λi=>(i.zero,i.size,i.bytes))=some (some (.agg #[.string ⟨#[]⟩,hD 0]),2,24):=by kernel_rfl
theorem xZ:∃b3,prog.info? 177=some b3/\b3.zero=some (.agg #[.string ⟨#[]⟩,hD 0])/\b3.size=2/\b3.bytes=24:=by
 have h:=NK;simp_all
theorem KD(w:World)(x v bl):∀j u,(lcc (x,v))[j]? =some u->(w.alloc (.cells #[eN x,hD v] bl)).cell? ((⟨w.heap.size,0,none⟩:Addr).add j)=some u:=by
 intro j u h;rw[jX,Nat.zero_add,yav];match j,h with
 |0,h=>exact h
 |1,h=>exact h
theorem uB(w){br rest o a Q}(X:o.guard=none)(s x)
  (al:o.op=.call {callee:=.builtin .append,args:=#[s,x],argTypes:=#[164,164]})
  (R) (v) (aT:Loc) (ar:a.eval s=v) (aZ:w.ownsRow R 177 2 v aT.length (lcF aT))
  (ai) (k) (ak:a.eval x=.slice (some ai) 1 1) (f:∀j u,(lcc k)[j]? =some u->w.cell? (ai.add j)=some u)
  (C:aT.length+1<=1000000) (T:R<=w.heap.size)
  (h:∀g cap n I,n=(aT++[k]).length->I.ownsRow R 177 2 (hC g n cap) (aT.length+1) (lcF aT++lcc k)->Chg (λb=>v.ownBlock=some b) w I->(v.ownBlock=some g\/g=w.heap.size)->wpList prog br Q rest (a.put o.dst (hC g n cap)) I):wpList prog br Q (o::rest) a w:=by
 obtain⟨b3,hi,a6,b8,b5⟩:=xZ;refine wpList_append_lies w X s x _ al R 177 _ _ 2 _ underlying164 hi a6 b8 b5 rfl xab v _ _ ar aZ _ 1 1 _ ak rfl f ?_ xab (by unfold maxLen;omega) xaa T _ rfl ?_
 ·intro u aH;simp[lcc]at aH;rcases aH with rfl|rfl<;>rfl
 intro g cap I B J h3 _;have e:aT.length+1=(aT++[k]).length:=by grind
 rw[e]at B⊢;refine h g _ _ _ rfl ?_ (ii J) h3;grind
structure LvI(W W':World)(P B:Nat)(u1 u2 u3 u4:Value)(bs:List Bc)(st:LSt)(o:Value)(js:Loc):Prop where
 ex:∃v1 v2 v3 v4,WS W' P B v1 v2 v3 v4 bs st/\Mv (Mst P u1 u2 u3 u4) W (λb=>Mst P v1 v2 v3 v4 b\/o.ownBlock=some b) W'/\(∀b,o.ownBlock=some b->¬Mst P v1 v2 v3 v4 b)
 row:W'.ownsRow W.heap.size 177 2 o js.length (lcF js)
theorem LvI.keep{W aB}(h:LvI W W' P R u1 u2 u3 u4 bs st o aT)(k:Kept 0 0 W' aB):LvI W aB P R u1 u2 u3 u4 bs st o aT:=by
 exact xhl
theorem LvI.step{W az ab a9 ba be bi aN a2 bk bq s}(C:Mv (Mst P u1 u2 u3 u4) W (λb=>Mst P a9 ba be bi b\/o.ownBlock=some b) az)(al:∀b,o.ownBlock=some b->¬Mst P a9 ba be bi b)(ar:az.ownsRow W.heap.size 177 2 o aT.length (lcF aT))(aF:WS ab P R aN a2 bk bq bs s)(G:Mv (Mst P a9 ba be bi) az (Mst P aN a2 bk bq) ab):LvI W ab P R u1 u2 u3 u4 bs s o aT:=by
 exact xct
theorem aS.qbg(h:Zp:=by
 refine⟨⟨a9,ba,be,bi,B.side bT (λb hb c=>h3 b c hb) (λi hi=>?_),aw,λb hb c=>?_⟩,?_⟩
 ·exact xhr
 ·rw[aP]at hb;subst hb;exact f c
 rw[yal,KB,KC];exact C):Zp:=h
open aS in
theorem LvI.app{W bg g}(ae:WS W P R u1 u2 u3 u4 bs g)(am:st.names=g.names)(h:LvI W W' P R u1 u2 u3 u4 bs st o aT){g9 n9 cap9 x}(C:bg.ownsRow W.heap.size 177 2 (hC g9 n9 cap9) (aT.length+1) (lcF aT++lcc x))(bT:Chg (λb=>o.ownBlock=some b) W' bg)(bv:o.ownBlock=some g9\/g9=W'.heap.size):LvI W bg P R u1 u2 u3 u4 bs st (hC g9 n9 cap9) (aT++[x]):=by
 exact qbf
theorem LvI.nil{W}(h:WS W' P R u1 u2 u3 u4 bs st)(k:Mv (Mst P u1 u2 u3 u4) W (Mst P u1 u2 u3 u4) W'):LvI W W' P R u1 u2 u3 u4 bs st (.slice none 0 0) []:=
 ⟨⟨u1,u2,u3,u4,h,⟨k.chg,λb hb=>.inl (hb.elim id (λc=>by simp[Value.ownBlock]at c))⟩,λb hb=>by simp[Value.ownBlock]at hb⟩,yaw _ _ _ _⟩
theorem pG{w:World}{n}{e s:Nat}{v xs}(f:w.ownsRow R e s v n xs):∃a c,v=.slice a n c:=by
 rcases f.2 with⟨e,c⟩|⟨g,cap,H,e,_⟩<;>grind
theorem LvI.lc{W s}(h:LvI W W' P R u1 u2 u3 u4 bs s o aT):∃a c a9 ba be bi,o=.slice a aT.length c/\WS W' P R a9 ba be bi bs s/\Mv (Mst P u1 u2 u3 u4) W (Mst P a9 ba be bi) W'/\LcR (Mst P a9 ba be bi) W' a aT.length aT:=by
 obtain⟨a9,ba,be,bi,ap,T,bS⟩:=h.ex;obtain⟨aQ,aG,al⟩:=pG h.row;refine⟨_,_,_,_,_,_,al,ap,⟨T.chg,λb hb=>T.new b (.inl hb)⟩,⟨rfl,λaV=>?_⟩⟩;have ar:=h.row;rcases ar.2 with⟨_,c⟩|⟨g,c,H,e,O,ax,Z,_,cj,bG⟩
 ·omega
 rw[al]at e;cases e;have aR:g<W'.heap.size:=by grind
 have au:∀k j,k<aT.length->j<2->W'.cell? _=(lcc _)[j]?:=λk j N hj=>by
  rw[cell_of_row _ g _ _ _ _ ax,<-Array.getElem?_toList]
  have:(H.toList.take (aT.length*2))[k*2+j]? =(lcF aT)[k*2+j]?:=by rw[bG]
  rw[List.getElem?_take_of_lt xaa]at this
  rw[this]
  exact H9 _ k j N hj
 refine⟨g,0,rfl,bS g (by rw[al];simp[Value.ownBlock]),aR,λk N=>⟨?_,?_⟩⟩
 ·rw[Nat.zero_add];exact au k 0 N xaa
 rw[Nat.zero_add];exact au k 1 N xaa
theorem WS.more{W}(h:WS W P R u1 u2 u3 u4 bs st):WS (W.setCell ⟨P,4,none⟩ (hD ((st.calls:Int)+1))) P R u1 u2 u3 u4 bs {st with calls:=st.calls+1}/\Mv (Mst P u1 u2 u3 u4) W (Mst P u1 u2 u3 u4) (W.setCell ⟨P,4,none⟩ (hD ((st.calls:Int)+1))):=by
 have K:=eP (lo:=P) (hi:=P+1) W ⟨P,4,none⟩ (hD (st.calls+1)) yac;have aw:Mv _ W (Mst P u1 u2 u3 u4) _:=⟨K.chg1 (.inl rfl),λb hb=>.inl hb⟩
 have es:∀o,o≠4->(W.setCell ⟨P,4,_⟩ (hD (st.calls+1))).cell? ⟨P,o,_⟩=W.cell? _:=λo ae=>eM _ _ _ _ _ _ (.inr (λe=>ae e.symm));obtain⟨n1,T,n3,l⟩:=h.np;exact⟨⟨by simpa using h.lt,λo=>by simp[h.fr o],(es 0 xab).trans h.c0,(es 1 xab).trans h.c1,(es 2 xab).trans h.c2,(es 3 xab).trans h.c3,fD _ _ _ _ _ h.c4,(es 5 xab).trans h.c5,(es 6 xab).trans h.c6,eJ h.r1 n1,eJ h.r2 T,eJ h.r3 n3,eJ h.r4 l,h.np,h.ap,h.nl,λi hi=>(h.nb i hi).mv aw,h.sz⟩,aw⟩
def Ia(p:Nat)(R:Rs (LSt×List Nat))(rb:Rs (LSt×Nat)):Rs (LSt×Nat):=match R with
 |.error f=>.error f
 |.ok (s1,_)=>if 500<=s1.calls then .error (5,p)else rb
theorem Bq{f u t es r}(h:eO (f+1) st u (.call t es)=some r):
  (((∀af X b,i8 st.names t.text≠some (.fn af X b))\/∃af X b,i8 st.names t.text=some (.fn af X b)/\X.length≠es.length)/\r=.error (3,t.pos))\/
  ∃af X b U K,i8 st.names t.text=some (.fn af X b)/\X.length=es.length/\gj (λs e=>eO f s u e) st es=some U/\r=Ia t.pos U K/\∀ao xs,U=.ok (ao,xs)->¬500<=ao.calls->eO f {ao with calls:=ao.calls+1} ((X.map (·.text)).zip xs) b=some K:=by
 rw[eO]at h;cases a9:i8 st.names t.text with
 |none=>simp_all
 |some d=>
  rw[a9]at h;cases d with
  |val _ _=>simp_all
  |fn af X aJ=>
   simp only at h;by_cases c:X.length=es.length
   ·rw[hG c]at h;refine .inr ⟨af,X,aJ,?_⟩;cases F:gj (λs e=>eO f s u e) st es with
    |none=>grind
    |some q=>
     rw[F]at h;rcases q with q|⟨ao,xs⟩
     ·exact⟨_,.error q,rfl,c,rfl,(hH h).symm,λ_ _ e=>by cases e⟩
     simp only at h;by_cases d:500<=ao.calls
     ·rw[hG d]at h;refine⟨_,.error (5,t.pos),rfl,c,rfl,?_,λaG bT e G=>?_⟩
      ·show r=if 500<=ao.calls then _ else _;simp_all
      grind
     rw[hF d]at h;refine⟨_,r,rfl,c,rfl,?_,λaG bT e G=>?_⟩
     ·show r=if 500<=ao.calls then _ else _;grind
     grind
   grind
end
section
attribute[local go_sem] eG eE eD
variable{P R aS cL g n off m bX cap:Nat}{u1 u2 u3 u4:Value}{bs:List Bc}{st:LSt}{a6 bu:Option Addr}{u:Loc}{af:List UInt8}{X ts:List Tok}{e:Ex}
theorem Ib(l:List (List UInt8))(xs)(a:Nat)(h:xs.length<l.length):l.zip (xs++[a])=l.zip xs++[(l.getD xs.length [],a)]:=by
 induction xs generalizing l with
 |nil=>
  cases l with
  |nil=>simp at h
  |cons x r=>simp
 |cons y bT aa=>
  cases l with
  |nil=>simp at h
  |cons x r=>
   simp only[List.cons_append,List.zip_cons_cons,yaq,List.getD_cons_succ];rw[aa r (by simpa using h)]
theorem Cy(l:List (List UInt8))(xs:List Nat)(h:xs.length<=l.length):(l.zip xs).length=xs.length:=by
 rw[List.length_zip];omega
theorem cV.qdc(h:Zp:=by
 generalize W.heap.size=aR at aA⊢;have bH:V _:=bo.o.keep HK.o;have c1:=aA.o.c1;have c2:=aA.o.c2;have c3:=bH.o.c3;have aV:V _:=rS bH.o.c3 bH.o.r4 aX bF;have bm:V _:=jG bH.o.c5 bH.o.c6 bH.o.fr 3 X (Mst P u1 u2 u3 u4) (.inl rfl);have B:V _:=mA bH.o.r4;exact qfk):Zp:=h
theorem cV.qfl(h:Zp:=by
 rcases bp with⟨ah,b2,rfl,cc,ce⟩|⟨rfl,hn⟩
 ·have a8:V _:=oS bH.o b2 cc ce;have l:V _:=bH.o.nb _ b2;obtain⟨bO,cp,e4,_,_,_,bP⟩:=B.o xaa;cases e4;obtain⟨_,d1,_,d3,_⟩:=bP _ b2;generalize bb:bs.length=nn at*;generalize bs.getD ah _=b at d1 d3 l;generalize st.names.getD ah _=aK at a8 l;have bd:¬((ah:Int)<0):=xaa;cases aK with
  |val af v=>
   have w:=l.o.2.1;rw[w]at d1;clear w cc ce bP bb l B bf;go_wp2_with (go_at_call 117;refine yaj bm.o ?_;rintro e a7 ⟨rfl,S⟩);go_ret;rw[HR.o];exact⟨rfl,S.c5,S.c6,(Mv.of HK.o).bad S.chg⟩
  |fn af k e=>
   have w:=l.o.2.1;have a9:=l.o.2.2.1.len
   have cf:k.length≠n:=by
    rcases bf.o with c|⟨p,j,aI,e1,c⟩
    ·exact absurd a8.o (c _ _ _)
    rw[a8.o]at e1;cases e1;exact c
   have f:(b.pn==(n:Int))=false:=yax xaa;rw[w]at d1;clear w cc ce bP bb l B bf cf a9;generalize b.pn=q at d3 f;go_wp2_with (go_at_call 117;refine yaj bm.o ?_;rintro e a7 ⟨rfl,S⟩);go_ret;rw[HR.o];exact⟨rfl,S.c5,S.c6,(Mv.of HK.o).bad S.chg⟩
 clear hn B bf c3;go_wp2_with (go_at_call 117;refine yaj bm.o ?_;rintro e a7 ⟨rfl,S⟩);exact xeu):Zp:=h
open cV in
theorem Ic{W}(h:WS W P R u1 u2 u3 u4 bs st)(ak:Gd st)(t)(hb:(∀af X b,i8 st.names t.text≠some (.fn af X b))\/∃af X b,i8 st.names t.text=some (.fn af X b)/\X.length≠n):
  Calls prog 147 #[hB P,.slice a6 aS cL,jc t,.slice bu n bX] W (TrO W P R u1 u2 u3 u4 bs (.error (3,t.pos))):=by
 obtain⟨aW,X,bF⟩:=t;have aA:V _:=iq W aW X bF;have HK:V _:=ez 0 0 W (.cells #[eN aW,hD X,eN bF] 92);have bo:V _:=h;have aX:bs.length<=100000:=by rw[h.nl];have:=ak.m;omega
 have bf:V _:=hb;obtain⟨r,av⟩:∃r:Rs (LSt×Nat),r=.error (3,X):=⟨_,rfl⟩
 simp only at bf⊢;rw[<-av];have HR:V _:=av;clear av h ak hb;exact qdb
theorem WS.fnc{W}(h:WS W P R u1 u2 u3 u4 bs st){k}(N:k<bs.length)(G:st.names.getD k (.val [] 0)=.fn af X e):∃bO cp,u4=hC bO bs.length cp/\W.cell? ⟨P,3,none⟩=some (hC bO bs.length cp)/\W.cell? ⟨bO,k*5+1,none⟩=some (.bool true)/\W.cell? ⟨bO,k*5+3,none⟩=some (.slice (bs.getD k hK).pa X.length (bs.getD k hK).pc)/\W.cell? ⟨bO,k*5+4,none⟩=some (.slice (bs.getD k hK).ba (bs.getD k hK).bn (bs.getD k hK).bc)/\TkR (Mst P u1 u2 u3 u4) W (bs.getD k hK).pa X.length X/\∃ts,Pr 2 [e] ts/\TsOK ts/\(bs.getD k hK).bn<=(bs.getD k hK).bc/\TkR (Mst P u1 u2 u3 u4) W (bs.getD k hK).ba (bs.getD k hK).bn ts:=by
 obtain⟨bO,cp,e4,_,_,_,bP⟩:=mA h.r4 xaa;have hb:=h.nb k N;rw[G]at hb;obtain⟨_,ax,Z,ts,av,⟨cj,bG⟩,cl⟩:=hb;obtain⟨_,d1,_,d3,H⟩:=bP k N;rw[ax]at d1;rw[<-Z.len]at d3 Z;have c3:=h.c3;grind
theorem cW.qdc(h:Zp:=by
 generalize W.heap.size=aR at aA aI⊢;have bH:V _:=bo.o.keep HK.o;have c2:=aA.o.c2;have aV:V _:=rS bH.o.c3 bH.o.r4 aX bF;have c3:=bH.o.c3;exact qfk):Zp:=h
theorem cW.qfl(h:Zp:=by
 clear aV c2;rcases bp with⟨ah,b2,rfl,cc,ce⟩|⟨rfl,hn⟩
 ·have HD:V (st.names.getD ah (.val [] 0)=.fn af X aJ):=by
   have:=oS bH.o b2 cc ce;rw[a8.o]at this;exact(hH this).symm
  have HFn:V (∀W' a9 ba be bi s,WS W' P R a9 ba be bi _ s->s.names=st.names->_):=λW' a9 ba be bi s an ar=>an.fnc b2 (hO ar HD.o);clear cc ce a8;obtain⟨bO,cp,e4,_,d1,d3,_,_⟩:=HFn.o _ _ _ _ _ _ bH.o rfl;cases e4;rw[j.o]at d3;have bd:¬((ah:Int)<0):=xaa;have cW:=b2;generalize bb:bs.length=nn at c3 b2 aX;have cG:V _:=LvI.nil bH.o (Mv.refl _ _);go_upto_region 4 with fail;clear d1 d3 c3;go_wp2_with fail;go_loopw [10,11] (λaD b4 W'=>∃(k:Nat) (s:LSt) (xs:List Nat),k<=n/\b4=hD k/\xs.length=k/\V (gj (λs e=>eO f s u e) st (es.take k)=some (.ok (s,xs)))/\V (LvI az W' P R u1 u2 u3 (hC bO bs.length bV) bs s aD ((X.map (·.text)).zip xs))/\V (Gw st s)/\V (∀i∈xs,i<s.vs.length)) (λ_ b4 _=>n-(intOf b4).toNat)
  case atStart=>exact⟨0,_,_,yae,rfl,rfl,(show V _ by show _=_;rw[List.take_zero];rfl),(show V _ from(by rw[List.zip_nil_right];exact cG.o)),(show V _ from Gw.refl co.o),(show V _ from λi hi=>by cases hi)⟩
  case round=>
   obtain⟨k,s,xs,bG,rfl,(aq:V _),bD,bx,v,N⟩:=hrel;clear cG;by_cases aC:k<n
   ·obtain⟨aN,a2,bk,bq,ap,T,bS⟩:=bx.o.ex;have b0:Mv _ _ _ _:=⟨T.chg,λb hb=>T.new b (.inl hb)⟩
    obtain⟨bl,bf,aU⟩:=au.o xaa;obtain⟨c8,cQ,cS,cT⟩:=mO _ _ _ U bU.o k (hO ax.o aC) s _ bD.o;obtain⟨o,n1,c1,y,cV⟩:=aU.call k (hO ax.o aC);obtain⟨cl,cR⟩:=cV s _ _ _ _ _ _ v.o cQ ap ((Mv.of HK.o).trans b0);rw[<-aU.cell ((Mv.of HK.o).trans b0).chg k]at y;subst bf;have cI:V _:=cS;have cP:V _:=cT;have cK:V _:=cl;have cn:V _:=cR;have ay:V _:=T;have ca:V _:=bS;have cN:V _:=(Mv.of HK.o).trans b0;clear cQ cS cT cl cR cV ap T bS b0 aU;rcases c8 with⟨c,p⟩|⟨aG,Y⟩
    ·exact xby
    exact qhm
   obtain rfl:k=n:=xaa
   have cu:V (U=.ok (s,xs)):=by
    have B:=bD.o;rw[yap (by rw[ax.o];exact yad),bU.o]at B;exact hH B
   obtain⟨b6,cf,aN,a2,bk,bq,rfl,ap,T,w⟩:=bx.o.lc
   have bv:((X.map (·.text)).zip xs).length=k:=by
    rw[Cy _ _ (by rw[aq.o,List.length_map,j.o];exact yad),aq.o]
   rw[bv]at w⊢;have ay:V _:=T;have cB:V _:=(Mv.of HK.o).trans T;have cy:V _:=aA.o.keepC T.chg aI.o;have l:=ap.c4;by_cases ad:500<=s.calls
   ·have bz:V (r=.error (5,pos)):=by show _=_;rw[HR.o,cu.o];show(if 500<=s.calls then _ else _)=_;rw[hG ad]
    have bm:V _:=jG ap.c5 ap.c6 ap.fr 5 pos (Mst P aN a2 bk bq) (.inl rfl);have O:=cy.o.c1;have z:(500:Int)<=s.calls:=xaa;clear ap T w bx HR cu bD v N bU co au;generalize s.calls=am at l ad z;go_wp2_with (go_at_call 117;refine yaj bm.o ?_;rintro e bj ⟨rfl,S⟩);go_ret;rw[bz.o];exact⟨rfl,S.c5,S.c6,cB.o.bad S.chg⟩
   have bz:V (r=K):=by show _=_;rw[HR.o,cu.o];show(if 500<=s.calls then _ else _)=_;rw[hF ad]
   have z:¬(500:Int)<=s.calls:=xaa;obtain⟨bQ,a0⟩:=ap.more;have a5:=J.o s _ cu.o ad;have br:Gw _ {s with calls:=s.calls+1}:=⟨⟨v.o.g.n,v.o.g.c,v.o.g.ok,v.o.g.k,v.o.g.i,v.o.g.o,v.o.g.m⟩,v.o.n,v.o.l,v.o.i,v.o.o,v.o.m⟩
   have bB:=ap.fr 4;obtain⟨ec,bw,_,f3,_,_,G,_,ts,ai,H,bA,aj⟩:=HFn.o _ _ _ _ _ _ bQ v.o.m;have ab:=jk ai;have ct:=aj.len;obtain⟨aY,aP,ch,cD,bP⟩:=aj.at_ xaa;have bC:=H.n5;have bZ:V _:=Q _ P R _ _ _ _ _ _ _ k cf _ _ _ _ _ _ ⟨bQ,br.g,NmOK.gw cO.o br,w.mv a0,cz,(λb hb=>N.o _ (List.of_mem_zip (show(b.1,b.2)∈_ from hb)).2),bP,cD,by omega,bA,H.ti,H.tn⟩ 2 _ ai yad _ a5;rw[ch]at G
   have a7:V (Calls _ _ _ _ λe aB=>(∃x:Int,e=.returned _)/\V (TrO W P R _ _ _ _ _ r e _)):=yaj bZ.o (λe aB t=>⟨t.ret,by
    show TrO W P R u1 u2 u3 (hC bO bs.length bV) bs r e aB
    rw[bz.o]
    exact TrO.after (cB.o.trans a0) t⟩)
   clear ap T w bx HR cu bD v N bU co au bZ bQ a0 a5 br bP aj H ai cD J ay cB cy HFn bz HD cO;rw[bb]at f3;generalize s.calls=am at*;generalize (bs.getD ah _).bn=c7 at*;generalize (bs.getD ah _).bc=cX at*;go_wp2_with (go_at_call 118;refine yaj a7.o ?_;rintro e cq ⟨⟨x,rfl⟩,bh⟩);go_ret;exact bh.o
 exfalso;have:=pE bH.o hn;rw[a8.o]at this;cases this):Zp:=h
theorem cW.qhn(h:Zp:=by
 go_upto_region 11 with (go_at_call 118;refine yaj cn.o ?_;rintro e bj ⟨rfl,aM,aQ,bY,cg,al,bn⟩);have b3:V _:=LvI.step ay.o ca.o bx.o.row al bn;have cH:V (az.heap.size<=bj.heap.size):=by show _<=_;have:=ay.o.chg.size;have:=bn.chg.size;omega
 have aH:V _:=cM.o.m;obtain⟨ec,bw,_,f3,_,G,_,q,_⟩:=HFn.o _ _ _ _ _ _ al aH.o;rw[j.o]at G q;obtain⟨c6,op,aF,_,bP⟩:=q.at_ xaa;have ck:=bP.c2 k aC;rw[aF]at G
 have aK:V ((X.map (·.text)).getD xs.length []=(X.getD k hJ).text):=by
  show _=_;rw[aq.o,yai,List.getElem?_map,yai,yam (hO j.o aC)];rfl
 have b7:V ((X.map (·.text)).zip (xs++[Y])=(X.map (·.text)).zip xs++[((X.getD k hJ).text,Y)]):=by
  show _=_;rw[Ib _ _ _ (by rw[aq.o,List.length_map,j.o];exact aC),aK.o]
 have aL:V (((X.map (·.text)).zip xs).length=k):=by
  show _=_;rw[Cy _ _ (by rw[aq.o,List.length_map,j.o];omega),aq.o]
 generalize (X.getD k _).text=F at ck b7;have bN:=KD bj F Y 177;have bc:=ez 0 0 bj (.cells #[eN F,hD Y] 177);have ae:V _:=b3.o.keep bc;clear b3 bx ay ca cN cK cn cI cP y al bn v N bD aw q bP aF aK;generalize (X.map _).zip _=aT at ae b7 aL;rw[bb]at f3;go_wp2_with (first|(at_builtin;refine uB _ rfl _ _ rfl _ _ _ (by rfl) ae.o.row _ _ (by rfl) bN ?c2 ?c3 ?_)|fail)
 case c2=>have:=aL.o;omega
 case c3=>have:=cH.o;simp;omega
 intro g9 cap9 n9 bg bJ bM bI bL;have R1:V _:=LvI.app bH.o aH.o ae.o bM bI (bL.imp id (λe=>by rw[e];simp));rw[<-b7.o]at R1;clear bM bI bL bJ bc bN f3 G ck;go_wp2_with fail;go_roundw;exact⟨k+1,aG,xs++[Y],by omega,by go_num,by rw[yal,aq.o];rfl,b9,R1,cM,cd⟩;simp[intOf];omega):Zp:=h
open cW in
theorem KE{f}(Q:TrC f){W}(h:WS W P R u1 u2 u3 u4 bs st)(ak:Gd st)(aa:NmOK st)(t){es}(cA:es.length=n)(cz:n<=5000)(aZ:0<n->∃bl,bu=some ⟨bl,0,none⟩/\ArgS f W P R u1 u2 u3 u4 bs st a6 aS cL u g bl es){aJ}(Z:i8 st.names t.text=some (.fn af X aJ))(bR:X.length=n)(U)(C:gj (λs e=>eO f s u e) st es=some U)(K)(aO:∀ao xs,U=.ok (ao,xs)->¬500<=ao.calls->eO f {ao with calls:=ao.calls+1} ((X.map (·.text)).zip xs) aJ=some K):
  Calls prog 147 #[hB P,.slice a6 aS cL,jc t,.slice bu n bX] W (TrO W P R u1 u2 u3 u4 bs (Ia t.pos U K)):=by
 obtain⟨aW,pos,bF⟩:=t;have aA:V _:=iq W aW pos bF;have HK:V _:=ez 0 0 W (.cells #[eN aW,hD pos,eN bF] 92);have bo:V _:=h;have aI:V _:=h.far;have co:V _:=ak;have cO:V _:=aa;have ax:V _:=cA;have au:V _:=aZ;have a8:V _:=Z;have j:V _:=bR;have bU:V _:=C;have J:V _:=aO;have aX:bs.length<=100000:=by rw[h.nl];have:=ak.m;omega
 obtain⟨r,av⟩:∃r,r=Ia pos U K:=⟨_,rfl⟩
 simp only at a8⊢;rw[<-av];have HR:V _:=av;clear av h ak aa cA aZ Z bR C aO;exact qdb
theorem F.qal(h:Zp:=by
 exact qdo):Zp:=h
theorem F.qdp(h:Zp:=by
 have aU:V _:=c.o az HK.o;clear c0 c1 c2 z ad c;generalize (fZ us).length=h at aU i⊢;go_upto_region 29 with (go_at_call 146;refine yaj aU.o ?_;rintro e ag ⟨bu,bX,rfl,f,ah⟩);have y:V _:=aA.o.keep ah
 have am:V (SgR ag g W.heap.size bu (fZ us)):=⟨λcG=>by
  obtain⟨bl,aL,aJ,bS⟩:=f.at_ cG
  exact⟨bl,aL,yao b7.o aJ,bS⟩⟩
 have aj:V _:=yaj (i.o ag bu bX (HK.o.trans ah) am.o) (λe aB t=>(⟨TrO.ret t,TrO.back (HK.o.trans ah) t⟩:(∃x:Int,e=.returned (hD x))/\V (TrO W P R u1 u2 u3 u4 bs r e aB)));unfold jc at aj;simp only at aj;clear bH O ax aA f i aU am;have bH:=y.o.c0;have O:=y.o.c1;have ax:=y.o.c2;clear y ah;exact xhb):Zp:=h
theorem F.qek(h:Zp:=by
 have c:V (∀W',Kept 0 0 W W'->_):=λW' ai=>Ck W' g (off+6) (m-3) (cap-2) us (by
  have t:=(H.tk.keep ai).in_ 2 (m-1) us aH xaa
  rw[show m-1-2=m-3 by omega]at t
  exact t) xaa xaa xaa cf
 have i:V _:=bc;generalize ts.getD 0 hJ=t at*;clear H aK bc cf aH;exact qgg):Zp:=h
open F in
theorem Br{W}(H:TrIn W P R u1 u2 u3 u4 bs st a6 aS u g off m cap ts)(aK:Pr 0 [e] ts)(ae:(ts.getD 0 hJ).sym=[110,97,109,101])(J:4<=m)(us)(aH:us=(ts.drop 2).take (m-1-2))(cf:(spQ us (m-3)).cur≠[])(r)
  (bc:∀W' bu bX,Kept 0 0 W W'->SgR W' g W.heap.size bu (fZ us)->Calls prog 147 #[hB P,.slice a6 aS cL,jc (ts.getD 0 hJ),.slice bu (fZ us).length bX] W' (TrO W' P R u1 u2 u3 u4 bs r)):
  Calls prog 118 #[hB P,.slice a6 aS cL,.slice (some ⟨g,off,none⟩) m cap] W (TrO W P R u1 u2 u3 u4 bs r):=by
 exact qgp
theorem G.qal(h:Zp:=by
 exact qdo):Zp:=h
theorem G.qdp(h:Zp:=by
 clear c0 c1 c2 z ad;go_upto_region 29 with (go_at_call 146;refine yaj (c.o _ _ _ _ xaa) ?_;rintro e ag ⟨rfl,an⟩;obtain rfl:=an.symm);have y:V _:=aA.o;have aj:V _:=yaj (i.o az HK.o) (λe aB t=>(⟨TrO.ret t,TrO.back HK.o t⟩:(∃x:Int,e=.returned (hD x))/\V (TrO W P R u1 u2 u3 u4 bs r e aB)));unfold jc at aj;simp only at aj;clear bH O ax aA i c;have bH:=y.o.c0;have O:=y.o.c1;have ax:=y.o.c2;clear y;exact xhb):Zp:=h
theorem G.qek(h:Zp:=by
 have c:V (∀(W':World) (a:Option Addr) (n cp:Nat),n=0->Calls prog 146 #[.slice a n cp] W' λe W2=>e=.returned (.slice none 0 0)/\W2=W'):=λW' a n cp e=>by subst e;exact zP W' a cp
 have i:V _:=bc;have f:m<=3:=xaa;have h:3<=m:=xaa;clear J;generalize ts.getD 0 hJ=t at*;clear H aK bc;exact qgg):Zp:=h
open G in
theorem Ab{W}(H:TrIn W P R u1 u2 u3 u4 bs st a6 aS u g off m cap ts)(aK:Pr 0 [e] ts)(ae:(ts.getD 0 hJ).sym=[110,97,109,101])(J:m=3)(r)
  (bc:∀W',Kept 0 0 W W'->Calls prog 147 #[hB P,.slice a6 aS cL,jc (ts.getD 0 hJ),.slice none 0 0] W' (TrO W' P R u1 u2 u3 u4 bs r)):
  Calls prog 118 #[hB P,.slice a6 aS cL,.slice (some ⟨g,off,none⟩) m cap] W (TrO W P R u1 u2 u3 u4 bs r):=by
 exact qgp
section
variable{f:Nat}{W:World}{P R:Nat}{u1 u2 u3 u4:Value}{bs:List Bc}{st:LSt}{a6:Option Addr}{aS cL:Nat}{u:Loc}{g off m cap:Nat}{ts:List Tok}{es:List Ex}{r:Rs (LSt×Nat)}
theorem Ac(Q:TrC f)(h:WS W P R u1 u2 u3 u4 bs st)(ak:Gd st)(aa:NmOK st)(t)(cz:es.length<=5000){bu bX}(aZ:0<es.length->∃bl,bu=some ⟨bl,0,none⟩/\ArgS f W P R u1 u2 u3 u4 bs st a6 aS cL u g bl es)(Z:eO (f+1) st u (.call t es)=some r):
  Calls prog 147 #[hB P,.slice a6 aS cL,jc t,.slice bu es.length bX] W (TrO W P R u1 u2 u3 u4 bs r):=by
 rcases Bq Z with⟨hb,rfl⟩|⟨af,X,b,U,K,a9,aK,C,rfl,aO⟩
 ·exact Ic h ak t hb
 exact KE Q h ak aa t rfl cz aZ a9 aK U C _ aO
theorem Bs{t l q}(Q:TrC f)(H:TrIn W P R u1 u2 u3 u4 bs st a6 aS u g off m cap [t,l,q])(ht:t.sym=gQ)(ab:l.sym=[40])(am:q.sym=[41])(h:eO (f+1) st u (.call t [])=some r):
  Calls prog 118 #[hB P,.slice a6 aS cL,.slice (some ⟨g,off,none⟩) m cap] W (TrO W P R u1 u2 u3 u4 bs r):=by
 refine Ab H (Pr.call0 ht ab am) ht H.tk.len.symm r (λW' ai=>?_);exact Ac (es:=[]) (g:=g) Q (H.ws.keep ai) H.gd H.nm t xac (λc=>by simp at c) h
theorem Id:∀(ts:List Tok) (q:SpS),(∀s∈(ml q ts).ou,s∈q.ou\/s.Sublist (q.cur++ts))/\(ml q ts).cur.Sublist (q.cur++ts)
 |[],q=>⟨λs ar=>.inl ar,by rw[List.append_nil];exact List.Sublist.refl _⟩
 |t::ts,q=>by
  rw[ll]
  obtain⟨B,J⟩:=Id ts (iL q t)
  have au:(iL q t).ou=q.ou/\(iL q t).cur=q.cur++[t]\/(iL q t).ou=q.ou++[q.cur]/\(iL q t).cur=[]:=by
   unfold iL;split
   ·exact .inl ⟨rfl,rfl⟩
   ·split
    ·exact .inl ⟨rfl,rfl⟩
    ·split
     ·exact .inr ⟨rfl,rfl⟩
     ·exact .inl ⟨rfl,rfl⟩
  rcases au with⟨e1,e2⟩|⟨e1,e2⟩
  ·rw[e1,e2,List.append_assoc]at B
   rw[e2,List.append_assoc]at J
   exact⟨B,J⟩
  ·rw[e1,e2,List.nil_append]at B
   rw[e2,List.nil_append]at J;have ar:=((List.sublist_cons_self t ts).trans (List.sublist_append_right q.cur (t::ts)))
   refine⟨λs cg=>?_,J.trans ar⟩;rcases B s cg with c|c
   ·rcases List.mem_append.1 c with c|c
    ·exact .inl c
    simp at c;subst c;exact .inr (List.sublist_append_left _ _)
   exact .inr (c.trans ar)
theorem EG{ts}(h:ts≠[]):∀i,i<(fZ ts).length->((fZ ts).getD i []).length<=ts.length/\∀t∈(fZ ts).getD i [],t∈ts:=by
 intro i hi;have aq:(fZ ts).getD i []∈fZ ts:=by simp_all
 have ar:((fZ ts).getD i []).Sublist ts:=by
  generalize (fZ _).getD i _=s at aq⊢;unfold fZ at aq;rw[hF h]at aq;obtain⟨B,J⟩:=Id ts ⟨0,[],[]⟩;rcases List.mem_append.1 aq with c|c
  ·simp_all
  grind
 grind
theorem Ie{n es ts}(h:Pr n es ts):es.length<=ts.length:=by
 induction h<;>grind
theorem EH{t l q}(Q:TrC f)(H:TrIn W P R u1 u2 u3 u4 bs st a6 aS u g off m cap (t::l::(ts++[q])))(ht:t.sym=gQ)(ab:l.sym=[40])(F:Pr 3 es ts)(am:q.sym=[41])(h:eO (f+1) st u (.call t es)=some r):
  Calls prog 118 #[hB P,.slice a6 aS cL,.slice (some ⟨g,off,none⟩) m cap] W (TrO W P R u1 u2 u3 u4 bs r):=by
 have aq:=H.tk.len;simp only[yaq,yal,List.length_nil]at aq;have aK:=jk F;have aG:=H.mc;have cf:ts≠[]:=λc=>by grind
 obtain⟨c9,cg⟩:=AZ F;have aH:ts=((t::l::(ts++[q])).drop 2).take (m-1-2):=by grind
 have k:0<es.length:=by grind[fZ]
 have cA:=Ie F
 have j:(spQ ts (m-3)).cur≠[]:=by
  have ab:=cg (es.length-1) xaa;have e:(fZ ts).getD (es.length-1) []=(spQ ts (m-3)).cur:=by grind[spQ,fZ]
  rw[e]at ab;exact L5 ab
 refine Br H (Pr.call ht ab F am) ht xaa _ aH j r (λW' bu bX ai aZ=>?_);obtain⟨bl,rfl,cb,b0,bP⟩:=aZ.at_ xaa;rw[c9];have aP:=EG cf;have aa:=ArgS.of Q cL H ai cb b0 bP c9 cg (λi hi=>yao (aP i hi).1 xaa) (λi hi t ht=>by grind);have b8:=H.m5;exact Ac Q (H.ws.keep ai) H.gd H.nm t xaa (λ_=>⟨_,rfl,aa⟩) h
