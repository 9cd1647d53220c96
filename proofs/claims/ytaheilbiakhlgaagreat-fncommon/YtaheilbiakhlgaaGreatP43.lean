import Derived.Test.YtaheilbiakhlgaaGreatP35
import Derived.Test.YtaheilbiakhlgaaGreatP42
namespace Go.Proofs.Z
variable{Zp:Prop}
open Tryz Go.RowKit Flt
set_option maxRecDepth 1000000
set_option maxHeartbeats 0
section
attribute[local go_sem] eF eE eD
def PV(p:Nat)(r:Rs (LSt×Nat)):Rs (LSt×Nat):=match r with
 |.error f=>.error f
 |.ok (s3,j)=>gh s3 (eK 9 1 (j:Int) 0 0) p
theorem bG.qbu(h:Zp:=by
 have ch:V _:=aH.o.keepC G.chg aL.o;obtain⟨bx,cv,a0,b9,bd⟩:=aJ.lenc F;have bw:=ch.o.c0;have a5:=aJ.c1;rw[a0]at a5;have bZ:V _:=FtI.lit aJ G a;have b5:V (gz _ _ (es.take 1)=some (.ok (aq,[a]))):=HO.o _ a rfl;have aU:V _:=w;have dv:V (∀i∈[a],i<aq.vs.length):=by intro i hi;simp at hi;subst hi;exact F
 have bB:=w.g.n;clear bk am HE HO G aJ a0 b9 w a9 aW;generalize fe _ a=l at bd;generalize U:aq.vs.length=bK at bd a5 F bB;clear U;go_upto_region 34 with fail;clear bd a5 bw ch;go_wp2_with fail;go_loopw [18,19] (λb3 bX W'=>∃(k:Nat) (s:LSt) (xs:List Nat),1<=k/\k<=2/\bX=hF k/\xs.length=k/\V (gz (λs e=>eP f s u e) st (es.take k)=some (.ok (s,xs)))/\V (FtI ay W' P I u1 u2 u3 u4 bs s b3 xs)/\V (Gw st s)/\V (∀i∈xs,i<s.vs.length)) (λ_ bX _=>2-(intOf bX).toNat)
 case atStart=>exact⟨1,_,_,yad,by decide,rfl,rfl,b5,bZ,aU,dv⟩
 case round=>
  obtain⟨k,s,xs,ek,bE,rfl,(aG:V _),ar,bl,v,O⟩:=hrel;clear b5 bZ aU dv;by_cases aB:k<2
  ·obtain⟨aS,bb,bq,bD,az,aw,bQ⟩:=bl.o.ex;have bU:Mv _ _ _ _:=⟨aw.chg,λb hb=>aw.new b (.inl hb)⟩
   obtain⟨c6,cS,cU,cV⟩:=mL _ _ _ R aD.o k (hR af.o aB) s _ ar.o;obtain⟨o,Y,c1,y,cX⟩:=ag.o.call k (hR af.o aB);obtain⟨cr,cT⟩:=cX s _ _ _ _ _ _ v.o cS az ((Mv.of HK.o).trans bU);rw[<-ag.o.cell ((Mv.of HK.o).trans bU).chg k]at y;have cM:V _:=cU;have cR:V _:=cV;have cN:V _:=cr;have ct:V _:=cT;have aP:V _:=aw;have cl:V _:=bQ;have cP:V _:=(Mv.of HK.o).trans bU;clear cS cU cV cr cT cX az aw bQ bU;rcases c6 with⟨c,p⟩|⟨aN,Z⟩
   ·exact xcr
   exact qid
  obtain rfl:k=2:=xaa
  have cA:V (R=.ok (s,xs)):=by
   exact xga
  obtain⟨cF,ee,aS,bb,bq,bD,rfl,az,(aP:V _),co⟩:=bl.o.xs;have Q:V _:=yU az v.o.g _ _ ee _ co (by rw[aG.o];decide) O.o K;have cz:V _:=aH.o.keepC aP.o.chg aL.o;have bP:V (r=mM [100,111,116] ⟨[100,111,116],K,S⟩ s xs):=by show _=_;rw[HR.o,cA.o];rfl
  have cn:V _:=λbA ab (au:kj s _ K=.ok (bA,ab))=>lI v.o.g _ _ O.o au;exact qgs):Zp:=h
theorem bG.qeh(h:Zp:=by
 have ca:¬Mst P _ _ _ _ _:=λc=>(bu.o.new _ c).elim aL.o (λc=>hO aH.o.lt);have cw:V _:=(Mv.of HK.o).trans bu.o;have ae:V (∀W',Kept 0 0 _ W'->W'.cell? _=some _/\W'.cell? _=some _/\W'.cell? _=some _/\W'.cell? _=some _/\W'.cell? ⟨_,of,_⟩=some (.int _ j)/\W'.cell? _=some (.int _ n)):=λW' al=>⟨(aQ.o.keep al).c0,(aQ.o.keep al).c1,(ax.keep al).c1,(al.cell b9 xaa).trans bd,(al.cell an xaa).trans (ck 0 xac),(al.cell an xaa).trans (ck 1 xac)⟩
 exact qgk):Zp:=h
theorem bG.qgl(h:Zp:=by
 obtain⟨br,a1,Z,a3,a4,bS⟩:=ae.o _ hN;exact qhv):Zp:=h
theorem bG.qgt(h:Zp:=by
 rcases q with⟨c,p⟩|⟨bA,ab⟩
 ·exact xdc
 obtain⟨ad,aI,nn,aM⟩:=cn.o _ _ rfl;rw[aG.o]at aI
 obtain⟨j,n,rfl⟩:∃j n,ab=[j,n]:=by
  match ab,aI with
  |[a,b],_=>exact⟨a,b,rfl⟩
 have ai:=(aM j xac).1;have en:=aM n xac;have bN:=jV ai;have bJ:=jV en.1;rw[en.2,<-(aM j xac).2]at bJ;have ex:V _:=ad.g.v.two (.inr (.inr (.inl rfl))) bN bJ;clear en bN bJ
 have bR:V (r=PV K (gh bA (eK 4 (fe bA j) j n 0) K)):=by
  show _=_;rw[bP.o];unfold mM;rw[<-cd.o];rfl
 exact qeg):Zp:=h
theorem bG.qhi(h:Zp:=by
 change Code.wp _ _ _ _ (W.alloc (.cells _ 89));generalize W.alloc _=ay at aH HK⊢;generalize W.heap.size=bI at aH aL⊢;obtain⟨bo,cI,d0,eb⟩:=mL _ _ _ R aD.o 0 (by rw[af.o];decide) _ _ rfl;obtain⟨o,b2,c0,aW,bW⟩:=ag.o.call 0 (by rw[af.o];decide);obtain⟨ea,c7⟩:=bW _ _ _ _ _ _ _ (Gw.refl cy.o) cI (bp.o.keep HK.o) (Mv.of HK.o);rw[<-ag.o.cell (Mv.of HK.o).chg 0]at aW;have HE:V _:=d0;have HO:V _:=eb;have bk:V _:=ea;have am:V _:=c7;have a9:=aH.o.c0;clear cI d0 eb ea c7 bW;rcases bo with⟨c,p⟩|⟨aq,a⟩
 ·exact xdk
 obtain⟨w,F⟩:=bk.o _ a rfl;exact qbt):Zp:=h
theorem bG.qhw(h:Zp:=by
 have b8:V _:=λcC er (aF:gh _ _ K=.ok (cC,er))=>oE c8.o ex.o aF;have ak:V (∀W',Kept 0 0 _ _->Calls _ _ _ _ λe aA=>(∃x:Int,e=.returned _)/\V (TrO _ P I _ _ _ _ _ _ e _)/\aA.cell? _=some _/\aA.cell? _=some _/\aA.cell? _=some _):=λW' al=>yai (ms (ds.o.keep al) c8.o (eK 4 (fe bA _) j n 0) ec yag K) (λe aA t=>⟨t.ret,TrO.back al t,di.o W' _ al t.chg⟩);clear di c8 ds ec ad HK bp aL br a1 Z a3 a4 bS;generalize gh bA _ _=ej at bR b8 ak;generalize fe bA _=l at ae ak cJ⊢;generalize bA.vs.length=bK at*;generalize bj.drewN _=bF at bv cJ⊢;obtain⟨br,a1,Z,a3,a4,bS⟩:=cJ.o;go_upto_region 50 with fail;rcases ej with⟨c,p⟩|⟨cC,er⟩
 ·have m:V (r=.error _):=bR.o
  go_region_held3 (λJ=>J.cell? ⟨bI,1,none⟩=some (hF K)/\J.cell? ⟨aT,of,none⟩=some (hF (j:Nat))/\J.cell? ⟨aT,of+1,none⟩=some (hF (n:Nat))) (go_keep)
   (first
    |(go_at_call 39;refine yai (gS _ _ _ _ _ _) ?_;rintro e cg ⟨rfl,cb⟩;obtain⟨bf,aO,aX,ah,bg,a2⟩:=ae.o _ (bv.o.trans ((eG _).trans cb)))
    |(go_at_call 106;refine yai (ak.o _ (bv.o.trans ((eG _).trans cb))) ?_;rintro e cf ⟨⟨_,_⟩,bh,bG,bi,ei⟩;obtain rfl:=bh.o.1))
  all_goals (
   go_wp2_with fail
   go_ret
   rw[m.o]
   exact TrO.after cw.o ⟨rfl,bh.o.2⟩)
 obtain⟨et,eS,_⟩:=b8.o _ _ rfl;have m:V (r=gh _ _ _):=bR.o;have eT:¬((er:Int)<0):=xaa;have eC:=et.g.n;have dp:V _:=et.g;clear b8 bR et
 go_region_held3 (λJ=>J.cell? ⟨bI,1,none⟩=some (hF K)/\J.cell? ⟨aT,of,none⟩=some (hF (j:Nat))/\J.cell? ⟨aT,of+1,none⟩=some (hF (n:Nat))) (go_keep)
  (first
   |(go_at_call 39;refine yai (gS _ _ _ _ _ _) ?_;rintro e cg ⟨rfl,cb⟩;obtain⟨bf,aO,aX,ah,bg,a2⟩:=ae.o _ (bv.o.trans ((eG _).trans cb)))
   |(go_at_call 106;refine yai (ak.o _ (bv.o.trans ((eG _).trans cb))) ?_;rintro e cf ⟨⟨_,_⟩,bh,bG,bi,ei⟩;obtain rfl:=bh.o.1))
 all_goals (
  obtain⟨_,bL,bM,cj,cx,ev,el⟩:=bh.o
  have cH:V _:=aQ.o.keepC el.chg ed.o
  have ew:¬Mst P _ _ _ _ _:=λc=>(el.new _ c).elim ed.o (λc=>hO aQ.o.lt)
  have eu:V _:=cw.o.trans el
  have cq:V (∀W',Kept 0 0 _ _->Calls _ _ _ W' λe aA=>(∃x:Int,e=.returned _)/\V (TrO W P I _ _ _ _ _ r e _)/\aA.cell? _=some _):=λW' al=>yai (ms (ev.keep al) dp.o (eK 9 1 _ 0 0) ⟨Int.le_refl _,by show(1:Int)<=1000;decide⟩ yag _) (λe aA t=>⟨t.ret,(by
   show TrO W P I u1 u2 u3 u4 bs r e aA
   rw[m.o]
   exact TrO.after (eu.o.keep al) t),(t.chg.cell (cH.o.keep al).lt ew).trans (cH.o.keep al).c1⟩)
  have N:=cH.o.c1
  clear bh ev el ew ak ae cJ bv ed aQ cw eu dp m
  generalize cC.vs.length=eA at*
  go_upto_region 53 with fail
  go_region_held3 (λJ=>J.cell? ⟨bI,1,none⟩=some (hF K)) (go_keep)
   (first
    |(go_at_call 39;refine yai (gS _ _ _ _ _ _) ?_;rintro e b4 ⟨rfl,cG⟩;have e0:=(cH.o.keep ((eG _).trans cG)).c1)
    |(go_at_call 106;refine yai (cq.o _ ((eG _).trans cG)) ?_;rintro e be ⟨⟨ci,rfl⟩,ey,eB⟩))
  all_goals (go_wp2_with fail;go_ret;exact ey.o))):Zp:=h
theorem bG.qie(h:Zp:=by
 go_upto_region 41 with (go_at_call 103;refine yai ct.o ?_;rintro e bj ⟨rfl,aR,aV,bY,ce,ax,a6⟩);have HFn:V _:=FtI.step aP.o cl.o bl.o.row ax a6;have cK:V (ay.heap.size<=bj.heap.size):=by show _<=_;have:=aP.o.chg.size;have:=a6.chg.size;omega
 have cQ:V _:=cO.o.m;have b7:(bj.alloc (.cells #[hF Z] 3)).cell? ⟨bj.heap.size,0,none⟩=some (hF Z):=by rw[yau];rfl
 have aZ:=ez 0 0 bj (.cells #[hF Z] 3);have bH:V _:=HFn.o.keep aZ;clear HFn bl aP cl cP cN ct cM cR y ax a6 v O ar bm;go_wp2_with (first|(at_builtin;refine jK _ rfl _ _ rfl _ _ _ rfl bH.o.row _ _ rfl b7 ?c2 ?c3 ?_)|fail)
 case c2=>have:=aG.o;omega
 case c3=>have:=cK.o;simp;omega
 intro g9 cap9 n9 be bO b1 bV b6;have R1:V _:=FtI.app (bp.o.keep HK.o) cQ.o bH.o b1 bV (b6.imp id (λe=>by rw[e];simp));exact xdm):Zp:=h
theorem bG.qii(h:Zp:=by
 obtain⟨r,av⟩:∃r,r=rT [100,111,116] ⟨[100,111,116],K,S⟩ R:=⟨_,rfl⟩
 exact qhh):Zp:=h
open bG in
theorem Ea{f W P I u1 u2 u3 u4 bs st bC bn cL u g bz b0}(h:WS W P I u1 u2 u3 u4 bs st)(H:Gd st)(K S){es}(cD:es.length=2)(aY:ArgS f W P I u1 u2 u3 u4 bs st bC bn cL u g bz es)(R)(C:gz (λs e=>eP f s u e) st es=some R):
  Calls prog 143 #[hD P,.slice bC bn cL,i7 ⟨[100,111,116],K,S⟩,hE bz 2 b0] W (TrO W P I u1 u2 u3 u4 bs (rT [100,111,116] ⟨[100,111,116],K,S⟩ R)):=by
 have aH:V _:=im W [100,111,116] K S;have HK:V _:=ez 0 0 W (.cells #[eO [100,111,116],hF K,eO S] 89);exact qih
end
section
variable{W':World}{P I:Nat}{u1 u2 u3 u4 o:Value}{st:LSt}{bs:List Bc}{aW:Loc}
section
variable{f:Nat}{W:World}{P I:Nat}{u1 u2 u3 u4:Value}{bs:List Bc}{st:LSt}{bC:Option Addr}{bn cL:Nat}{u:Loc}{g off m cap:Nat}{ts us Y:List Tok}{a b d:Ex}{r:Rs (LSt×Nat)}
theorem cX.qdb(h:Zp:=by
 have ag:=Aw y ak J
 have aI:ts++c::us=((k::l::(ts++c::(us++[q]))).drop 2).take (m-1-2):=by
  rw[List.drop_succ_cons,List.drop_succ_cons,List.drop_zero,show ts++c::(us++[q])=(ts++c::us)++[q] by simp,List.take_append_of_le_length yaf,yao yaf]
 have aO:∀x:List UInt8,x≠Au->x≠Jl->(k.sym==x)=false:=λx B U=>by
  rw[beq_eq_false_iff_ne]
  rintro rfl
  exact O.elim B U
 refine lj H (Pr.key2 O ah F ak hb ao) (aO _ xab xab) (aO _ xab xab) (aO _ xab xab) (aO _ xab xab) (aO _ xab xab) xaa (ts++c::us) aI (by rw[pe (X:=[ts]) (y:=us) xac ag _ yaf];exact ca) _ (λW' aQ bA al aU=>?_);rw[ag]at aU⊢;obtain⟨bz,rfl,ax,au,aD⟩:=aU.at_ xac
 have aY:ArgS f W' P I u1 u2 u3 u4 bs st bC bn cL u g bz [a,b]:=ArgS.of Q cL H al ax au aD rfl (λi hi=>by
   match i,hi with
   |0,_=>exact F
   |1,_=>exact hb) (λi hi=>by
   match i,hi with
   |0,_=>show ts.length<=m;omega
   |1,_=>show us.length<=m;omega) (λi hi=>by
   match i,hi with
   |0,_=>intro t ht;have j:t∈ts:=ht;simp[j]
   |1,_=>intro t ht;have j:t∈us:=ht;simp[j])
 obtain⟨ae,K,S⟩:=k;rcases O with O|O
 ·simp only at O;subst O;exact DH (H.ws.keep al) H.gd K S rfl aY R C
 simp only at O;subst O;exact Ea (H.ws.keep al) H.gd K S rfl aY R C):Zp:=h
open cX in
theorem Eb{k l c q}(Q:TrC f)(H:TrIn W P I u1 u2 u3 u4 bs st bC bn u g off m cap (k::l::(ts++c::(us++[q]))))(O:k.sym=Au\/k.sym=Jl)(ah:l.sym=[40])(F:Pr 2 [a] ts)(ak:c.sym=[44])(hb:Pr 2 [b] us)(ao:q.sym=[41])(h:eP (f+1) st u (.key2 k a b)=some r):
  Calls prog 103 #[hD P,.slice bC bn cL,.slice (some ⟨g,off,none⟩) m cap] W (TrO W P I u1 u2 u3 u4 bs r):=by
 have cx:k.sym≠yy:=by rcases O with e|e<;>(rw[e];decide)
 obtain⟨R,C,rfl⟩:=DE cx h;exact qda
theorem Ec{k l c c2 q}(Q:TrC f)(H:TrIn W P I u1 u2 u3 u4 bs st bC bn u g off m cap (k::l::(ts++c::(us++c2::(Y++[q])))))(O:k.sym=yy)(ah:l.sym=[40])(F:Pr 2 [a] ts)(ak:c.sym=[44])(hb:Pr 2 [b] us)(ab:c2.sym=[44])(G:Pr 2 [d] Y)(ao:q.sym=[41])(h:eP (f+1) st u (.key3 k a b d)=some r):
  Calls prog 103 #[hD P,.slice bC bn cL,.slice (some ⟨g,off,none⟩) m cap] W (TrO W P I u1 u2 u3 u4 bs r):=by
 obtain⟨R,C,rfl⟩:=DF O h;have aw:=H.tk.len;simp only[yap,yak,List.length_nil]at aw;have aF:=jl F;have z:=jl hb;have e:=jl G;have ca:Y≠[]:=λc=>by rw[c]at e;simp at e
 have y:=jQ F yad;have J:=jQ hb yad;have n:=jQ G yad;have bM:=H.mc;have ag:=Ax y ak J ab n
 have aI:ts++c::(us++c2::Y)=((k::l::(ts++c::(us++c2::(Y++[q])))).drop 2).take (m-1-2):=by
  rw[List.drop_succ_cons,List.drop_succ_cons,List.drop_zero,show ts++c::(us++c2::(Y++[q]))=(ts++c::(us++c2::Y))++[q] by simp,List.take_append_of_le_length yaf,yao yaf]
 have aO:∀x:List UInt8,x≠yy->(k.sym==x)=false:=λx B=>by
  rw[beq_eq_false_iff_ne]
  rintro rfl
  exact B O
 refine lj H (Pr.key3 O ah F ak hb ab G ao) (aO _ xab) (aO _ xab) (aO _ xab) (aO _ xab) (aO _ xab) xaa (ts++c::(us++c2::Y)) aI (by rw[pe (X:=[ts,us]) (y:=Y) xac ag _ yaf];exact ca) _ (λW' aQ bA al aU=>?_);rw[ag]at aU⊢;obtain⟨bz,rfl,ax,au,aD⟩:=aU.at_ xac
 have aY:ArgS f W' P I u1 u2 u3 u4 bs st bC bn cL u g bz [a,b,d]:=ArgS.of Q cL H al ax au aD rfl (λi hi=>by
   match i,hi with
   |0,_=>exact F
   |1,_=>exact hb
   |2,_=>exact G) (λi hi=>by
   match i,hi with
   |0,_=>show ts.length<=m;omega
   |1,_=>show us.length<=m;omega
   |2,_=>show Y.length<=m;omega) (λi hi=>by
   match i,hi with
   |0,_=>intro t ht;have j:t∈ts:=ht;simp[j]
   |1,_=>intro t ht;have j:t∈us:=ht;simp[j]
   |2,_=>intro t ht;have j:t∈Y:=ht;simp[j])
 obtain⟨ae,K,S⟩:=k;simp only at O;subst O;exact DJ (H.ws.keep al) H.gd K S rfl aY R C
end
def lcc(b:List UInt8×Nat):List Value:=[eO b.1,.int .i64 (b.2:Int)]
def lcF:Loc->List Value
 |[]=>[]
 |b::r=>lcc b++lcF r
theorem KG(a b):lcF (a++b)=lcF a++lcF b:=by
 induction a<;>grind[lcF]
theorem KH(b):lcF [b]=lcc b:=by simp[lcF]
theorem Hl:∀(a:Loc) (k j:Nat),k<a.length->j<2->(lcF a)[k*2+j]? =(lcc (a.getD k ([],0)))[j]?
 |x::r,0,j,_,hj=>by
  grind[lcF,lcc]
 |x::r,k+1,j,O,hj=>by
  have ap:(lcc x).length=2:=rfl
  rw[lcF,yar xaa,ap,show(k+1)*2+j-2=k*2+j by omega]
  exact Hl r k j (by grind) hj
theorem N8:(prog.info? 175).map (λi=>(i.zero,i.size,i.bytes))=some (some (.agg #[.string ⟨#[]⟩,hF 0]),2,24):=by kernel_rfl
theorem xO:∃bC,prog.info? 175=some bC/\bC.zero=some (.agg #[.string ⟨#[]⟩,hF 0])/\bC.size=2/\bC.bytes=24:=by
 have h:=N8;simp_all
theorem KJ(w:World)(x v T):∀j u,(lcc (x,v))[j]? =some u->(w.alloc (.cells #[eO x,hF v] T)).cell? ((⟨w.heap.size,0,none⟩:Addr).add j)=some u:=by
 intro j u h;rw[j9,Nat.zero_add,yau];match j,h with
 |0,h=>exact h
 |1,h=>exact h
theorem tW(w){bA rest o a Q}(H:o.guard=none)(s x)
  (ax:o.op=.call {callee:=.builtin .append,args:=#[s,x],argTypes:=#[158,158]})
  (I) (v) (aW:Loc) (ae:a.eval s=v) (aU:w.ownsRow I 175 2 v aW.length (lcF aW))
  (aM) (k) (ap:a.eval x=.slice (some aM) 1 1) (f:∀j u,(lcc k)[j]? =some u->w.cell? (aM.add j)=some u)
  (l:aW.length+1<=1000000) (af:I<=w.heap.size)
  (h:∀g cap n J,n=(aW++[k]).length->J.ownsRow I 175 2 (hE g n cap) (aW.length+1) (lcF aW++lcc k)->Chg (λb=>v.ownBlock=some b) w J->(v.ownBlock=some g\/g=w.heap.size)->wpList prog bA Q rest (a.put o.dst (hE g n cap)) J):wpList prog bA Q (o::rest) a w:=by
 obtain⟨bC,hi,bn,bQ,br⟩:=xO;refine wpList_append_lies w H s x _ ax I 175 _ _ 2 _ underlying158 hi bn bQ br rfl xab v _ _ ae aU _ 1 1 _ ap rfl f ?_ xab (by unfold maxLen;omega) xaa af _ rfl ?_
 ·intro u aI;simp[lcc]at aI;rcases aI with rfl|rfl<;>rfl
 intro g cap J B U h3 _;have e:aW.length+1=(aW++[k]).length:=by grind
 rw[e]at B⊢;refine h g _ _ _ rfl ?_ (gX U) h3;grind
structure LvI(W W':World)(P B:Nat)(u1 u2 u3 u4:Value)(bs:List Bc)(st:LSt)(o:Value)(js:Loc):Prop where
 ex:∃v1 v2 v3 v4,WS W' P B v1 v2 v3 v4 bs st/\Mv (Mst P u1 u2 u3 u4) W (λb=>Mst P v1 v2 v3 v4 b\/o.ownBlock=some b) W'/\(∀b,o.ownBlock=some b->¬Mst P v1 v2 v3 v4 b)
 row:W'.ownsRow W.heap.size 175 2 o js.length (lcF js)
theorem LvI.keep{W aA}(h:LvI W W' P I u1 u2 u3 u4 bs st o aW)(k:Kept 0 0 W' aA):LvI W aA P I u1 u2 u3 u4 bs st o aW:=by
 exact xir
theorem LvI.step{W ay aF ba bc z aa aS bb bq bD s}(C:Mv (Mst P u1 u2 u3 u4) W (λb=>Mst P ba bc z aa b\/o.ownBlock=some b) ay)(y:∀b,o.ownBlock=some b->¬Mst P ba bc z aa b)(ae:ay.ownsRow W.heap.size 175 2 o aW.length (lcF aW))(aJ:WS aF P I aS bb bq bD bs s)(G:Mv (Mst P ba bc z aa) ay (Mst P aS bb bq bD) aF):LvI W aF P I u1 u2 u3 u4 bs s o aW:=by
 exact xdn
theorem bB.qbo(h:Zp:=by
 refine⟨⟨ba,bc,z,aa,B.side al (λb hb c=>h3 b c hb) (λi hi=>?_),aL,λb hb c=>?_⟩,?_⟩
 ·exact xiz
 ·rw[bB]at hb;subst hb;exact f c
 rw[yak,KG,KH];exact C):Zp:=h
open bB in
theorem LvI.app{W be g}(ai:WS W P I u1 u2 u3 u4 bs g)(ae:st.names=g.names)(h:LvI W W' P I u1 u2 u3 u4 bs st o aW){g9 n9 cap9 x}(C:be.ownsRow W.heap.size 175 2 (hE g9 n9 cap9) (aW.length+1) (lcF aW++lcc x))(al:Chg (λb=>o.ownBlock=some b) W' be)(bl:o.ownBlock=some g9\/g9=W'.heap.size):LvI W be P I u1 u2 u3 u4 bs st (hE g9 n9 cap9) (aW++[x]):=by
 exact qbn
theorem LvI.nil{W}(h:WS W' P I u1 u2 u3 u4 bs st)(k:Mv (Mst P u1 u2 u3 u4) W (Mst P u1 u2 u3 u4) W'):LvI W W' P I u1 u2 u3 u4 bs st (.slice none 0 0) []:=
 ⟨⟨u1,u2,u3,u4,h,⟨k.chg,λb hb=>.inl (hb.elim id (λc=>by simp[Value.ownBlock]at c))⟩,λb hb=>by simp[Value.ownBlock]at hb⟩,yav _ _ _ _⟩
theorem pl{w:World}{n}{e s:Nat}{v xs}(f:w.ownsRow I e s v n xs):∃a c,v=.slice a n c:=by
 rcases f.2 with⟨e,c⟩|⟨g,cap,H,e,_⟩<;>grind
theorem LvI.lc{W s}(h:LvI W W' P I u1 u2 u3 u4 bs s o aW):∃a c ba bc z aa,o=.slice a aW.length c/\WS W' P I ba bc z aa bs s/\Mv (Mst P u1 u2 u3 u4) W (Mst P ba bc z aa) W'/\LcR (Mst P ba bc z aa) W' a aW.length aW:=by
 obtain⟨ba,bc,z,aa,az,aw,bQ⟩:=h.ex;obtain⟨aV,b5,ax⟩:=pl h.row;refine⟨_,_,_,_,_,_,ax,az,⟨aw.chg,λb hb=>aw.new b (.inl hb)⟩,⟨rfl,λbo=>?_⟩⟩;have ae:=h.row;rcases ae.2 with⟨_,c⟩|⟨g,c,H,e,N,aD,ad,_,bE,bY⟩
 ·omega
 rw[ax]at e;cases e;have aQ:g<W'.heap.size:=by grind
 have au:∀k j,k<aW.length->j<2->W'.cell? _=(lcc _)[j]?:=λk j O hj=>by
  rw[cell_of_row _ g _ _ _ _ aD,<-Array.getElem?_toList]
  have:(H.toList.take (aW.length*2))[k*2+j]? =(lcF aW)[k*2+j]?:=by rw[bY]
  rw[List.getElem?_take_of_lt xaa]at this
  rw[this]
  exact Hl _ k j O hj
 refine⟨g,0,rfl,bQ g (by rw[ax];simp[Value.ownBlock]),aQ,λk O=>⟨?_,?_⟩⟩
 ·rw[Nat.zero_add];exact au k 0 O xaa
 rw[Nat.zero_add];exact au k 1 O xaa
theorem WS.more{W}(h:WS W P I u1 u2 u3 u4 bs st):WS (W.setCell ⟨P,4,none⟩ (hF ((st.calls:Int)+1))) P I u1 u2 u3 u4 bs {st with calls:=st.calls+1}/\Mv (Mst P u1 u2 u3 u4) W (Mst P u1 u2 u3 u4) (W.setCell ⟨P,4,none⟩ (hF ((st.calls:Int)+1))):=by
 have K:=eU (lo:=P) (hi:=P+1) W ⟨P,4,none⟩ (hF (st.calls+1)) yac;have aL:Mv _ W (Mst P u1 u2 u3 u4) _:=⟨K.chg1 (.inl rfl),λb hb=>.inl hb⟩
 have es:∀o,o≠4->(W.setCell ⟨P,4,_⟩ (hF (st.calls+1))).cell? ⟨P,o,_⟩=W.cell? _:=λo ai=>eN _ _ _ _ _ _ (.inr (λe=>ai e.symm));obtain⟨Y,ab,aa,l⟩:=h.np;exact⟨⟨by simpa using h.lt,λo=>by simp[h.fr o],(es 0 xab).trans h.c0,(es 1 xab).trans h.c1,(es 2 xab).trans h.c2,(es 3 xab).trans h.c3,fR _ _ _ _ _ h.c4,(es 5 xab).trans h.c5,(es 6 xab).trans h.c6,eJ h.r1 Y,eJ h.r2 ab,eJ h.r3 aa,eJ h.r4 l,h.np,h.ap,h.nl,λi hi=>(h.nb i hi).mv aL,h.sz⟩,aL⟩
def Hm(p:Nat)(R:Rs (LSt×List Nat))(rb:Rs (LSt×Nat)):Rs (LSt×Nat):=match R with
 |.error f=>.error f
 |.ok (s1,_)=>if 500<=s1.calls then .error (5,p)else rb
theorem A2{f u t es r}(h:eP (f+1) st u (.call t es)=some r):
  (((∀bJ aT b,iX st.names t.text≠some (.fn bJ aT b))\/∃bJ aT b,iX st.names t.text=some (.fn bJ aT b)/\aT.length≠es.length)/\r=.error (3,t.pos))\/
  ∃bJ aT b R K,iX st.names t.text=some (.fn bJ aT b)/\aT.length=es.length/\gz (λs e=>eP f s u e) st es=some R/\r=Hm t.pos R K/\∀aq xs,R=.ok (aq,xs)->¬500<=aq.calls->eP f {aq with calls:=aq.calls+1} ((aT.map (·.text)).zip xs) b=some K:=by
 rw[eP]at h;cases a9:iX st.names t.text with
 |none=>simp_all
 |some d=>
  rw[a9]at h;cases d with
  |val _ _=>simp_all
  |fn bJ aT aj=>
   simp only at h;by_cases c:aT.length=es.length
   ·rw[hI c]at h;refine .inr ⟨bJ,aT,aj,?_⟩;cases F:gz (λs e=>eP f s u e) st es with
    |none=>grind
    |some q=>
     rw[F]at h;rcases q with q|⟨aq,xs⟩
     ·exact⟨_,.error q,rfl,c,rfl,(hJ h).symm,λ_ _ e=>by cases e⟩
     simp only at h;by_cases d:500<=aq.calls
     ·rw[hI d]at h;refine⟨_,.error (5,t.pos),rfl,c,rfl,?_,λaN bc e G=>?_⟩
      ·show r=if 500<=aq.calls then _ else _;simp_all
      grind
     rw[hG d]at h;refine⟨_,r,rfl,c,rfl,?_,λaN bc e G=>?_⟩
     ·show r=if 500<=aq.calls then _ else _;grind
     grind
   grind
end
section
attribute[local go_sem] eF eE eD
variable{aC w ay W2:World}{P I i n cap bn c1 cL c2 c3 g off m bA:Nat}{a a1 Z bC a3 aQ:Option Addr}{u1 u2 u3 u4:Value}{bs ins outs:List Int}{st:LSt}{u:Loc}{bJ:List UInt8}{vs S:List Vl}{aT ts:List Tok}{e:Ex}
theorem Hn(l:List (List UInt8))(xs)(a:Nat)(h:xs.length<l.length):l.zip (xs++[a])=l.zip xs++[(l.getD xs.length [],a)]:=by
 induction xs generalizing l with
 |nil=>
  cases l with
  |nil=>simp at h
  |cons x r=>simp
 |cons y bc al=>
  cases l with
  |nil=>simp at h
  |cons x r=>
   simp only[List.cons_append,List.zip_cons_cons,yap,List.getD_cons_succ];rw[al r (by simpa using h)]
theorem Ca(l:List (List UInt8))(xs:List Nat)(h:xs.length<=l.length):(l.zip xs).length=xs.length:=by
 rw[List.length_zip];omega
theorem dJ.qdo(h:Zp:=by
 generalize W.heap.size=bI at aH⊢;have a9:V _:=bp.o.keep HK.o;have c1:=aH.o.c1;have c2:=aH.o.c2;have c3:=a9.o.c3;have aF:V _:=ro a9.o.c3 a9.o.r4 a0 bv;have bT:V _:=jI a9.o.c5 a9.o.c6 a9.o.fr 3 aT (Mst P u1 u2 u3 u4) (.inl rfl);have B:V _:=mr a9.o.r4;exact qgc):Zp:=h
theorem dJ.qgd(h:Zp:=by
 rcases bx with⟨an,bZ,rfl,G,b5⟩|⟨rfl,hn⟩
 ·have bH:V _:=oB a9.o bZ G b5;have l:V _:=a9.o.nb _ bZ;obtain⟨bi,b0,e4,_,_,_,bm⟩:=B.o xaa;cases e4;obtain⟨_,d1,_,d3,_⟩:=bm _ bZ;generalize bd:bs.length=nn at*;generalize bs.getD an _=b at d1 d3 l;generalize st.names.getD an _=aD at bH l;have aK:¬((an:Int)<0):=xaa;cases aD with
  |val bJ v=>
   have U:=l.o.2.1;rw[U]at d1;clear U G b5 bm bd l B cc;go_wp2_with (go_at_call 102;refine yai bT.o ?_;rintro e a8 ⟨rfl,aI⟩);go_ret;rw[HR.o];exact⟨rfl,aI.c5,aI.c6,(Mv.of HK.o).bad aI.chg⟩
  |fn bJ p e=>
   have U:=l.o.2.1;have bj:=l.o.2.2.1.len
   have ca:p.length≠n:=by
    rcases cc.o with c|⟨q,j,Q,af,c⟩
    ·exact absurd bH.o (c _ _ _)
    rw[bH.o]at af;cases af;exact c
   have f:(b.pn==(n:Int))=false:=yaw xaa;rw[U]at d1;clear U G b5 bm bd l B cc ca bj;generalize b.pn=o at d3 f;go_wp2_with (go_at_call 102;refine yai bT.o ?_;rintro e a8 ⟨rfl,aI⟩);go_ret;rw[HR.o];exact⟨rfl,aI.c5,aI.c6,(Mv.of HK.o).bad aI.chg⟩
 clear hn B cc c3;go_wp2_with (go_at_call 102;refine yai bT.o ?_;rintro e a8 ⟨rfl,aI⟩);exact xft):Zp:=h
open dJ in
theorem Ho{W bs}(h:WS W P I u1 u2 u3 u4 bs st)(H:Gd st)(t)(hb:(∀bJ aT b,iX st.names t.text≠some (.fn bJ aT b))\/∃bJ aT b,iX st.names t.text=some (.fn bJ aT b)/\aT.length≠n):
  Calls prog 142 #[hD P,.slice bC bn cL,i7 t,.slice aQ n bA] W (TrO W P I u1 u2 u3 u4 bs (.error (3,t.pos))):=by
 obtain⟨aO,aT,bv⟩:=t;have aH:V _:=im W aO aT bv;have HK:V _:=ez 0 0 W (.cells #[eO aO,hF aT,eO bv] 89);have bp:V _:=h;have a0:bs.length<=100000:=by rw[h.nl];have:=H.m;omega
 have cc:V _:=hb;obtain⟨r,av⟩:∃r:Rs (LSt×Nat),r=.error (3,aT):=⟨_,rfl⟩
 simp only at cc⊢;rw[<-av];have HR:V _:=av;clear av h H hb;exact qdn
theorem WS.fnc{W bs}(h:WS W P I u1 u2 u3 u4 bs st){k}(O:k<bs.length)(G:st.names.getD k (.val [] 0)=.fn bJ aT e):∃bi b0,u4=hE bi bs.length b0/\W.cell? ⟨P,3,none⟩=some (hE bi bs.length b0)/\W.cell? ⟨bi,k*5+1,none⟩=some (.bool true)/\W.cell? ⟨bi,k*5+3,none⟩=some (.slice (bs.getD k hM).pa aT.length (bs.getD k hM).pc)/\W.cell? ⟨bi,k*5+4,none⟩=some (.slice (bs.getD k hM).ba (bs.getD k hM).bn (bs.getD k hM).bc)/\TkR (Mst P u1 u2 u3 u4) W (bs.getD k hM).pa aT.length aT/\∃ts,Pr 2 [e] ts/\TsOK ts/\(bs.getD k hM).bn<=(bs.getD k hM).bc/\TkR (Mst P u1 u2 u3 u4) W (bs.getD k hM).ba (bs.getD k hM).bn ts:=by
 obtain⟨bi,b0,e4,_,_,_,bm⟩:=mr h.r4 xaa;have hb:=h.nb k O;rw[G]at hb;obtain⟨_,aD,ad,ts,an,⟨bE,bY⟩,ce⟩:=hb;obtain⟨_,d1,_,d3,d4⟩:=bm k O;rw[aD]at d1;rw[<-ad.len]at d3 ad;have c3:=h.c3;grind
theorem dK.qdo(h:Zp:=by
 generalize W.heap.size=bI at aH aL⊢;have a9:V _:=bp.o.keep HK.o;have c2:=aH.o.c2;have aF:V _:=ro a9.o.c3 a9.o.r4 a0 bv;have c3:=a9.o.c3;exact qgc):Zp:=h
theorem dK.qgd(h:Zp:=by
 clear aF c2;rcases bx with⟨an,bZ,rfl,G,b5⟩|⟨rfl,hn⟩
 ·have HD:V (st.names.getD an (.val [] 0)=.fn bJ aT aj):=by
   have:=oB a9.o bZ G b5;rw[bH.o]at this;exact(hJ this).symm
  have HFn:V (∀W' ba bc z aa s,WS W' P I ba bc z aa _ s->s.names=st.names->_):=λW' ba bc z aa s X ae=>X.fnc bZ (hR ae HD.o);clear G b5 bH;obtain⟨bi,b0,e4,_,d1,d3,_,_⟩:=HFn.o _ _ _ _ _ _ a9.o rfl;cases e4;rw[j.o]at d3;have aK:¬((an:Int)<0):=xaa;have dd:=bZ;generalize bd:bs.length=nn at c3 bZ a0;have cG:V _:=LvI.nil a9.o (Mv.refl _ _);go_upto_region 4 with fail;clear d1 d3 c3;go_wp2_with fail;go_loopw [10,11] (λaM bX W'=>∃(k:Nat) (s:LSt) (xs:List Nat),k<=n/\bX=hF k/\xs.length=k/\V (gz (λs e=>eP f s u e) st (es.take k)=some (.ok (s,xs)))/\V (LvI ay W' P I u1 u2 u3 (hE bi bs.length cj) bs s aM ((aT.map (·.text)).zip xs))/\V (Gw st s)/\V (∀i∈xs,i<s.vs.length)) (λ_ bX _=>n-(intOf bX).toNat)
  case atStart=>exact⟨0,_,_,Nat.zero_le _,rfl,rfl,(show V _ by show _=_;rw[List.take_zero];rfl),(show V _ from(by rw[List.zip_nil_right];exact cG.o)),(show V _ from Gw.refl cy.o),(show V _ from λi hi=>by cases hi)⟩
  case round=>
   obtain⟨k,s,xs,bE,rfl,(aG:V _),ar,bl,v,O⟩:=hrel;clear cG;by_cases aB:k<n
   ·obtain⟨aS,bb,bq,bD,az,aw,bQ⟩:=bl.o.ex;have bU:Mv _ _ _ _:=⟨aw.chg,λb hb=>aw.new b (.inl hb)⟩
    obtain⟨bz,bG,a2⟩:=au.o xaa;obtain⟨c6,cS,cU,cV⟩:=mL _ _ _ R aD.o k (hR af.o aB) s _ ar.o;obtain⟨o,Y,c1,y,cX⟩:=a2.call k (hR af.o aB);obtain⟨cr,cT⟩:=cX s _ _ _ _ _ _ v.o cS az ((Mv.of HK.o).trans bU);rw[<-a2.cell ((Mv.of HK.o).trans bU).chg k]at y;subst bG;have cM:V _:=cU;have cR:V _:=cV;have cN:V _:=cr;have ct:V _:=cT;have aP:V _:=aw;have cl:V _:=bQ;have cP:V _:=(Mv.of HK.o).trans bU;clear cS cU cV cr cT cX az aw bQ bU a2;rcases c6 with⟨c,p⟩|⟨aN,Z⟩
    ·exact xcr
    exact qid
   obtain rfl:k=n:=xaa
   have cA:V (R=.ok (s,xs)):=by
    have B:=ar.o;rw[yao (by rw[af.o];exact yad),aD.o]at B;exact hJ B
   obtain⟨cc,fP,aS,bb,bq,bD,rfl,az,aw,ab⟩:=bl.o.lc
   have bL:((aT.map (·.text)).zip xs).length=k:=by
    rw[Ca _ _ (by rw[aG.o,List.length_map,j.o];exact yad),aG.o]
   rw[bL]at ab⊢;have aP:V _:=aw;have cw:V _:=(Mv.of HK.o).trans aw;have cz:V _:=aH.o.keepC aw.chg aL.o;have l:=az.c4;by_cases ak:500<=s.calls
   ·have bP:V (r=.error (5,pos)):=by show _=_;rw[HR.o,cA.o];show(if 500<=s.calls then _ else _)=_;rw[hI ak]
    have bT:V _:=jI az.c5 az.c6 az.fr 5 pos (Mst P aS bb bq bD) (.inl rfl);have N:=cz.o.c1;have ai:(500:Int)<=s.calls:=xaa;clear az aw ab bl HR cA ar v O aD cy au;generalize s.calls=a7 at l ak ai;go_wp2_with (go_at_call 102;refine yai bT.o ?_;rintro e bj ⟨rfl,aI⟩);go_ret;rw[bP.o];exact⟨rfl,aI.c5,aI.c6,cw.o.bad aI.chg⟩
   have bP:V (r=K):=by show _=_;rw[HR.o,cA.o];show(if 500<=s.calls then _ else _)=_;rw[hG ak]
   have ai:¬(500:Int)<=s.calls:=xaa;obtain⟨b2,bK⟩:=az.more;have bo:=J.o s _ cA.o ak;have bF:Gw _ {s with calls:=s.calls+1}:=⟨⟨v.o.g.n,v.o.g.c,v.o.g.ok,v.o.g.k,v.o.g.i,v.o.g.o,v.o.g.m⟩,v.o.n,v.o.l,v.o.i,v.o.o,v.o.m⟩
   have bN:=az.fr 4;obtain⟨ei,br,_,f3,_,_,q,_,ts,aY,al,bM,a5⟩:=HFn.o _ _ _ _ _ _ b2 v.o.m;have ah:=jl aY;have cq:=a5.len;obtain⟨ca,bB,cp,cI,bu⟩:=a5.at_ xaa;have bR:=al.n5;have cf:V _:=Q _ P I _ _ _ _ _ _ _ k fP _ _ _ _ _ _ ⟨b2,bF.g,NmOK.gw cQ.o bF,ab.mv bK,cF,(λb hb=>O.o _ (List.of_mem_zip (show(b.1,b.2)∈_ from hb)).2),bu,cI,by omega,bM,al.ti,al.tn⟩ 2 _ aY yad _ bo;rw[cp]at q
   have bw:V (Calls _ _ _ _ λe aA=>(∃x:Int,e=.returned _)/\V (TrO W P I _ _ _ _ _ r e _)):=yai cf.o (λe aA t=>⟨t.ret,by
    show TrO W P I u1 u2 u3 (hE bi bs.length cj) bs r e aA
    rw[bP.o]
    exact TrO.after (cw.o.trans bK) t⟩)
   clear az aw ab bl HR cA ar v O aD cy au cf b2 bK bo bF bu a5 al aY cI J aP cw cz HFn bP HD cQ;rw[bd]at f3;generalize s.calls=a7 at*;generalize (bs.getD an _).bn=di at*;generalize (bs.getD an _).bc=c8 at*;go_wp2_with (go_at_call 103;refine yai bw.o ?_;rintro e cg ⟨⟨x,rfl⟩,bh⟩);go_ret;exact bh.o
 exfalso;have:=pd a9.o hn;rw[bH.o]at this;cases this):Zp:=h
theorem dK.qie(h:Zp:=by
 go_upto_region 11 with (go_at_call 103;refine yai ct.o ?_;rintro e bj ⟨rfl,aR,aV,bY,ce,ax,a6⟩);have cn:V _:=LvI.step aP.o cl.o bl.o.row ax a6;have cK:V (ay.heap.size<=bj.heap.size):=by show _<=_;have:=aP.o.chg.size;have:=a6.chg.size;omega
 have bf:V _:=cO.o.m;obtain⟨ei,br,_,f3,_,q,_,F,_⟩:=HFn.o _ _ _ _ _ _ ax bf.o;rw[j.o]at q F;obtain⟨cJ,op,aJ,_,bu⟩:=F.at_ xaa;have ap:=bu.c2 k aB;rw[aJ]at q
 have bg:V ((aT.map (·.text)).getD xs.length []=(aT.getD k hL).text):=by
  show _=_;rw[aG.o,yah,List.getElem?_map,yah,yal (hR j.o aB)];rfl
 have ch:V ((aT.map (·.text)).zip (xs++[Z])=(aT.map (·.text)).zip xs++[((aT.getD k hL).text,Z)]):=by
  show _=_;rw[Hn _ _ _ (by rw[aG.o,List.length_map,j.o];exact aB),bg.o]
 have bk:V (((aT.map (·.text)).zip xs).length=k):=by
  show _=_;rw[Ca _ _ (by rw[aG.o,List.length_map,j.o];omega),aG.o]
 generalize (aT.getD k _).text=U at ap ch;have b7:=KJ bj U Z 175;have aZ:=ez 0 0 bj (.cells #[eO U,hF Z] 175);have ao:V _:=cn.o.keep aZ;clear cn bl aP cl cP cN ct cM cR y ax a6 v O ar bm F bu aJ bg;generalize (aT.map _).zip _=aW at ao ch bk;rw[bd]at f3;go_wp2_with (first|(at_builtin;refine tW _ rfl _ _ rfl _ _ _ (by rfl) ao.o.row _ _ (by rfl) b7 ?c2 ?c3 ?_)|fail)
 case c2=>have:=bk.o;omega
 case c3=>have:=cK.o;simp;omega
 intro g9 cap9 n9 be bO b1 bV b6;have R1:V _:=LvI.app a9.o bf.o ao.o b1 bV (b6.imp id (λe=>by rw[e];simp));rw[<-ch.o]at R1;clear b1 bV b6 bO aZ b7 f3 q ap;go_wp2_with fail;go_roundw;exact⟨k+1,aN,xs++[Z],by omega,by go_num,by rw[yak,aG.o];rfl,cB,R1,cO,c9⟩;simp[intOf];omega):Zp:=h
open dK in
theorem KK{f}(Q:TrC f){W bs}(h:WS W P I u1 u2 u3 u4 bs st)(H:Gd st)(am:NmOK st)(t){es}(cD:es.length=n)(cF:n<=5000)(aU:0<n->∃bz,aQ=some ⟨bz,0,none⟩/\ArgS f W P I u1 u2 u3 u4 bs st bC bn cL u g bz es){aj}(ad:iX st.names t.text=some (.fn bJ aT aj))(c7:aT.length=n)(R)(C:gz (λs e=>eP f s u e) st es=some R)(K)(a8:∀aq xs,R=.ok (aq,xs)->¬500<=aq.calls->eP f {aq with calls:=aq.calls+1} ((aT.map (·.text)).zip xs) aj=some K):
  Calls prog 142 #[hD P,.slice bC bn cL,i7 t,.slice aQ n bA] W (TrO W P I u1 u2 u3 u4 bs (Hm t.pos R K)):=by
 obtain⟨aO,pos,bv⟩:=t;have aH:V _:=im W aO pos bv;have HK:V _:=ez 0 0 W (.cells #[eO aO,hF pos,eO bv] 89);have bp:V _:=h;have aL:V _:=h.far;have cy:V _:=H;have cQ:V _:=am;have af:V _:=cD;have au:V _:=aU;have bH:V _:=ad;have j:V _:=c7;have aD:V _:=C;have J:V _:=a8;have a0:bs.length<=100000:=by rw[h.nl];have:=H.m;omega
 obtain⟨r,av⟩:∃r,r=Hm pos R K:=⟨_,rfl⟩
 simp only at bH⊢;rw[<-av];have HR:V _:=av;clear av h H am cD aU ad c7 C a8;exact qdn
theorem Q.qaq(h:Zp:=by
 exact qee):Zp:=h
theorem Q.qef(h:Zp:=by
 have a2:V _:=f.o ay HK.o;clear c0 c1 c2 C af f;generalize (gj us).length=j at a2 Q⊢;go_upto_region 29 with (go_at_call 141;refine yai a2.o ?_;rintro e ag ⟨aQ,bA,rfl,h,an⟩);have y:V _:=aH.o.keep an
 have ao:V (SgR ag g W.heap.size aQ (gj us)):=⟨λba=>by
  obtain⟨bz,aK,aP,b3⟩:=h.at_ ba
  exact⟨bz,aK,yan ch.o aP,b3⟩⟩
 have am:V _:=yai (Q.o ag aQ bA (HK.o.trans an) ao.o) (λe aA t=>(⟨TrO.ret t,TrO.back (HK.o.trans an) t⟩:(∃x:Int,e=.returned (hF x))/\V (TrO W P I u1 u2 u3 u4 bs r e aA)));unfold i7 at am;simp only at am;clear a9 N aD aH h Q a2 ao;have a9:=y.o.c0;have N:=y.o.c1;have aD:=y.o.c2;clear y an;exact xig):Zp:=h
theorem Q.qfc(h:Zp:=by
 have f:V (∀W',Kept 0 0 W W'->_):=λW' al=>BH W' g (off+6) (m-3) (cap-2) us (by
  have t:=(H.tk.keep al).in_ 2 (m-1) us aI xaa
  rw[show m-1-2=m-3 by omega]at t
  exact t) xaa xaa xaa ca
 have Q:V _:=bg;generalize ts.getD 0 hL=t at*;clear H aF bg ca aI;exact qhc):Zp:=h
open Q in
theorem A3{W bs}(H:TrIn W P I u1 u2 u3 u4 bs st bC bn u g off m cap ts)(aF:Pr 0 [e] ts)(ai:(ts.getD 0 hL).sym=[110,97,109,101])(U:4<=m)(us)(aI:us=(ts.drop 2).take (m-1-2))(ca:(spQ us (m-3)).cur≠[])(r)
  (bg:∀W' aQ bA,Kept 0 0 W W'->SgR W' g W.heap.size aQ (gj us)->Calls prog 142 #[hD P,.slice bC bn cL,i7 (ts.getD 0 hL),.slice aQ (gj us).length bA] W' (TrO W' P I u1 u2 u3 u4 bs r)):
  Calls prog 103 #[hD P,.slice bC bn cL,.slice (some ⟨g,off,none⟩) m cap] W (TrO W P I u1 u2 u3 u4 bs r):=by
 exact qhj
theorem R.qaq(h:Zp:=by
 exact qee):Zp:=h
theorem R.qef(h:Zp:=by
 clear c0 c1 c2 C af;go_upto_region 29 with (go_at_call 141;refine yai (f.o _ _ _ _ xaa) ?_;rintro e ag ⟨rfl,X⟩;obtain rfl:=X.symm);have y:V _:=aH.o;have am:V _:=yai (Q.o ay HK.o) (λe aA t=>(⟨TrO.ret t,TrO.back HK.o t⟩:(∃x:Int,e=.returned (hF x))/\V (TrO W P I u1 u2 u3 u4 bs r e aA)));unfold i7 at am;simp only at am;clear a9 N aD aH Q f;have a9:=y.o.c0;have N:=y.o.c1;have aD:=y.o.c2;clear y;exact xig):Zp:=h
theorem R.qfc(h:Zp:=by
 have f:V (∀(W':World) (a:Option Addr) (n b0:Nat),n=0->Calls prog 141 #[.slice a n b0] W' λe W2=>e=.returned (.slice none 0 0)/\W2=W'):=λW' a n b0 e=>by subst e;exact yW W' a b0
 have Q:V _:=bg;have h:m<=3:=xaa;have j:3<=m:=xaa;clear U;generalize ts.getD 0 hL=t at*;clear H aF bg;exact qhc):Zp:=h
open R in
theorem zH{W bs}(H:TrIn W P I u1 u2 u3 u4 bs st bC bn u g off m cap ts)(aF:Pr 0 [e] ts)(ai:(ts.getD 0 hL).sym=[110,97,109,101])(U:m=3)(r)
  (bg:∀W',Kept 0 0 W W'->Calls prog 142 #[hD P,.slice bC bn cL,i7 (ts.getD 0 hL),.slice none 0 0] W' (TrO W' P I u1 u2 u3 u4 bs r)):
  Calls prog 103 #[hD P,.slice bC bn cL,.slice (some ⟨g,off,none⟩) m cap] W (TrO W P I u1 u2 u3 u4 bs r):=by
 exact qhj
section
variable{f:Nat}{W:World}{P I:Nat}{u1 u2 u3 u4:Value}{bs:List Bc}{st:LSt}{bC:Option Addr}{bn cL:Nat}{u:Loc}{g off m cap:Nat}{ts:List Tok}{es:List Ex}{r:Rs (LSt×Nat)}
theorem zJ(Q:TrC f)(h:WS W P I u1 u2 u3 u4 bs st)(H:Gd st)(am:NmOK st)(t)(cF:es.length<=5000){aQ bA}(aU:0<es.length->∃bz,aQ=some ⟨bz,0,none⟩/\ArgS f W P I u1 u2 u3 u4 bs st bC bn cL u g bz es)(ad:eP (f+1) st u (.call t es)=some r):
  Calls prog 142 #[hD P,.slice bC bn cL,i7 t,.slice aQ es.length bA] W (TrO W P I u1 u2 u3 u4 bs r):=by
 rcases A2 ad with⟨hb,rfl⟩|⟨bJ,aT,b,R,K,a9,aF,C,rfl,a8⟩
 ·exact Ho h H t hb
 exact KK Q h H am t rfl cF aU a9 aF R C _ a8
theorem A5{t l q}(Q:TrC f)(H:TrIn W P I u1 u2 u3 u4 bs st bC bn u g off m cap [t,l,q])(ht:t.sym=gU)(ah:l.sym=[40])(ao:q.sym=[41])(h:eP (f+1) st u (.call t [])=some r):
  Calls prog 103 #[hD P,.slice bC bn cL,.slice (some ⟨g,off,none⟩) m cap] W (TrO W P I u1 u2 u3 u4 bs r):=by
 refine zH H (Pr.call0 ht ah ao) ht H.tk.len.symm r (λW' al=>?_);exact zJ (es:=[]) (g:=g) Q (H.ws.keep al) H.gd H.nm t xac (λc=>by simp at c) h
theorem Hp:∀(ts:List Tok) (q:SpS),(∀s∈(ml q ts).ou,s∈q.ou\/s.Sublist (q.cur++ts))/\(ml q ts).cur.Sublist (q.cur++ts)
 |[],q=>⟨λs ae=>.inl ae,by rw[List.append_nil];exact List.Sublist.refl _⟩
 |t::ts,q=>by
  rw[lh]
  obtain⟨B,U⟩:=Hp ts (iK q t)
  have au:(iK q t).ou=q.ou/\(iK q t).cur=q.cur++[t]\/(iK q t).ou=q.ou++[q.cur]/\(iK q t).cur=[]:=by
   unfold iK;split
   ·exact .inl ⟨rfl,rfl⟩
   ·split
    ·exact .inl ⟨rfl,rfl⟩
    ·split
     ·exact .inr ⟨rfl,rfl⟩
     ·exact .inl ⟨rfl,rfl⟩
  rcases au with⟨af,a0⟩|⟨af,a0⟩
  ·rw[af,a0,List.append_assoc]at B
   rw[a0,List.append_assoc]at U
   exact⟨B,U⟩
  ·rw[af,a0,List.nil_append]at B
   rw[a0,List.nil_append]at U;have ae:=((List.sublist_cons_self t ts).trans (List.sublist_append_right q.cur (t::ts)))
   refine⟨λs bY=>?_,U.trans ae⟩;rcases B s bY with c|c
   ·rcases List.mem_append.1 c with c|c
    ·exact .inl c
    simp at c;subst c;exact .inr (List.sublist_append_left _ _)
   exact .inr (c.trans ae)
theorem Ed{ts}(h:ts≠[]):∀i,i<(gj ts).length->((gj ts).getD i []).length<=ts.length/\∀t∈(gj ts).getD i [],t∈ts:=by
 intro i hi;have aw:(gj ts).getD i []∈gj ts:=by simp_all
 have ae:((gj ts).getD i []).Sublist ts:=by
  generalize (gj _).getD i _=s at aw⊢;unfold gj at aw;rw[hG h]at aw;obtain⟨B,U⟩:=Hp ts ⟨0,[],[]⟩;rcases List.mem_append.1 aw with c|c
  ·simp_all
  grind
 grind
theorem Hq{n es ts}(h:Pr n es ts):es.length<=ts.length:=by
 induction h<;>grind
theorem Ee{t l q}(Q:TrC f)(H:TrIn W P I u1 u2 u3 u4 bs st bC bn u g off m cap (t::l::(ts++[q])))(ht:t.sym=gU)(ah:l.sym=[40])(F:Pr 3 es ts)(ao:q.sym=[41])(h:eP (f+1) st u (.call t es)=some r):
  Calls prog 103 #[hD P,.slice bC bn cL,.slice (some ⟨g,off,none⟩) m cap] W (TrO W P I u1 u2 u3 u4 bs r):=by
 have aw:=H.tk.len;simp only[yap,yak,List.length_nil]at aw;have aF:=jl F;have bM:=H.mc;have ca:ts≠[]:=λc=>by grind
 obtain⟨bQ,bY⟩:=Az F;have aI:ts=((t::l::(ts++[q])).drop 2).take (m-1-2):=by grind
 have o:0<es.length:=by grind[gj]
 have cD:=Hq F
 have j:(spQ ts (m-3)).cur≠[]:=by
  have ah:=bY (es.length-1) xaa;have e:(gj ts).getD (es.length-1) []=(spQ ts (m-3)).cur:=by grind[spQ,gj]
  rw[e]at ah;exact Lt ah
 refine A3 H (Pr.call ht ah F ao) ht xaa _ aI j r (λW' aQ bA al aU=>?_);obtain⟨bz,rfl,ax,au,aD⟩:=aU.at_ xaa;rw[bQ];have a6:=Ed ca;have aY:=ArgS.of Q cL H al ax au aD bQ bY (λi hi=>yan (a6 i hi).1 xaa) (λi hi t ht=>by grind);have p:=H.m5;exact zJ Q (H.ws.keep al) H.gd H.nm t xaa (λ_=>⟨_,rfl,aY⟩) h
end
theorem j.qab(h:Zp:=by
 obtain⟨g,b0,aU,_,bj,bm⟩:=hH HD.o.dg.r2 rfl h;cases aU;exact qdp):Zp:=h
theorem j.qdq(h:Zp:=by
 have af:(nv bs i:Int)%12=1:=hO aj.o
 clear aj;obtain⟨z,y⟩:∃z,(vd vs j).b=z:=⟨_,rfl⟩
 rw[show(vs.getD j _).b=z from y]at bY;have ch:V _:=y;clear y;have ag:V _:=HD.o.setV (q:=3) (x:=.int _ (IntKind.i64.wrap (z-1))) (v':=⟨(vd _ j).op,(vd _ j).len,(vd _ j).a,IntKind.i64.wrap (z-1),(vd _ j).c,(vd _ j).k⟩) h xab (by rw[<-ch.o];rfl) HK.o;replace ag:V _:=ag.o.keep (eG _);have ar:V _:=ag.o.finS (S':=S.set (nv bs _%S.length) ({vd S (nv bs _%S.length) with b:=IntKind.i64.wrap ((vd S (nv bs _%S.length)).b-1)})) (List.length_set ..) (by rw[List.map_set,HSV.o,<-t.o];exact congrArg _ (by rw[<-HSV.o,svd,<-ch.o];rfl));have bz:=r (j*6+3);go_upto_region 9 with fail;exact xbo):Zp:=h
open j in
theorem N9(f:DG w aC.heap.size (.slice a1 ins.length c1) (.slice Z vs.length c2) (.slice a3 outs.length c3) ins vs outs)(C:RdF w P a n cap i bs)(hP:P<aC.heap.size)(H:Kept P (P+1) aC w)(ae:vs.map sv=S)(hn:vs.length<=100000)(B:0<S.length)(O:nv bs i%12=1):
  Calls prog 58 #[eX a1 ins.length c1 Z vs.length c2 a3 outs.length c3,hD P] w (DgF aC P a n cap bs ins (S.set (nv bs (ni bs i)%S.length) ({vd S (nv bs (ni bs i)%S.length) with b:=IntKind.i64.wrap ((vd S (nv bs (ni bs i)%S.length)).b-1)})) outs (ni bs (ni bs i))):=by
 exact qaa
theorem k.qab(h:Zp:=by
 obtain⟨g,b0,aU,_,bj,bm⟩:=hH HD.o.dg.r2 rfl h;cases aU;exact qdp):Zp:=h
theorem k.qdq(h:Zp:=by
 have af:(nv bs i:Int)%12=2:=hO aj.o
 clear aj;obtain⟨z,y⟩:∃z,(vd vs j).c=z:=⟨_,rfl⟩
 rw[show(vs.getD j _).c=z from y]at ce;have ch:V _:=y;clear y;have ag:V _:=HD.o.setV (q:=4) (x:=.int _ (IntKind.i64.wrap (z+1))) (v':=⟨(vd _ j).op,(vd _ j).len,(vd _ j).a,(vd _ j).b,IntKind.i64.wrap (z+1),(vd _ j).k⟩) h xab (by rw[<-ch.o];rfl) HK.o;replace ag:V _:=ag.o.keep (eG _);have ar:V _:=ag.o.finS (S':=S.set (nv bs _%S.length) ({vd S (nv bs _%S.length) with c:=IntKind.i64.wrap ((vd S (nv bs _%S.length)).c+1)})) (List.length_set ..) (by rw[List.map_set,HSV.o,<-t.o];exact congrArg _ (by rw[<-HSV.o,svd,<-ch.o];rfl));have bz:=r (j*6+4);go_upto_region 11 with fail;exact xbo):Zp:=h
open k in
theorem Oa(f:DG w aC.heap.size (.slice a1 ins.length c1) (.slice Z vs.length c2) (.slice a3 outs.length c3) ins vs outs)(C:RdF w P a n cap i bs)(hP:P<aC.heap.size)(H:Kept P (P+1) aC w)(ae:vs.map sv=S)(hn:vs.length<=100000)(B:0<S.length)(O:nv bs i%12=2):
  Calls prog 58 #[eX a1 ins.length c1 Z vs.length c2 a3 outs.length c3,hD P] w (DgF aC P a n cap bs ins (S.set (nv bs (ni bs i)%S.length) ({vd S (nv bs (ni bs i)%S.length) with c:=IntKind.i64.wrap ((vd S (nv bs (ni bs i)%S.length)).c+1)})) outs (ni bs (ni bs i))):=by
 exact qaa
theorem l.qab(h:Zp:=by
 obtain⟨g,b0,aU,_,bj,bm⟩:=hH HD.o.dg.r2 rfl h;cases aU;exact qdp):Zp:=h
theorem l.qdq(h:Zp:=by
 have af:(nv bs i:Int)%12=3:=hO aj.o
 clear aj;obtain⟨z,y⟩:∃z,(vd vs j).len=z:=⟨_,rfl⟩
 rw[show(vs.getD j _).len=z from y]at aR;have ch:V _:=y;clear y;have ag:V _:=HD.o.setV (q:=1) (x:=.int _ (IntKind.i64.wrap (z+1))) (v':=⟨(vd _ j).op,IntKind.i64.wrap (z+1),(vd _ j).a,(vd _ j).b,(vd _ j).c,(vd _ j).k⟩) h xab (by rw[<-ch.o];rfl) HK.o;replace ag:V _:=ag.o.keep (eG _);have ar:V _:=ag.o.finS (S':=S.set (nv bs _%S.length) ({vd S (nv bs _%S.length) with len:=IntKind.i64.wrap ((vd S (nv bs _%S.length)).len+1)})) (List.length_set ..) (by rw[List.map_set,HSV.o,<-t.o];exact congrArg _ (by rw[<-HSV.o,svd,<-ch.o];rfl));have bz:=r (j*6+1);go_upto_region 13 with fail;exact xbo):Zp:=h
open l in
theorem Ob(f:DG w aC.heap.size (.slice a1 ins.length c1) (.slice Z vs.length c2) (.slice a3 outs.length c3) ins vs outs)(C:RdF w P a n cap i bs)(hP:P<aC.heap.size)(H:Kept P (P+1) aC w)(ae:vs.map sv=S)(hn:vs.length<=100000)(B:0<S.length)(O:nv bs i%12=3):
  Calls prog 58 #[eX a1 ins.length c1 Z vs.length c2 a3 outs.length c3,hD P] w (DgF aC P a n cap bs ins (S.set (nv bs (ni bs i)%S.length) ({vd S (nv bs (ni bs i)%S.length) with len:=IntKind.i64.wrap ((vd S (nv bs (ni bs i)%S.length)).len+1)})) outs (ni bs (ni bs i))):=by
 exact qaa
def spM(ins:List Int)(S:List Vl)(outs:List Int)(bs:List Int)(i:Nat):List Int×List Vl×List Int:=
 if S.length=0 then (ins,S,outs)
 else if nv bs i%12=0 then (ins,S.set (nv bs (ni bs i)%S.length) {vd S (nv bs (ni bs i)%S.length) with a:=((nv bs (ni bs i)%S.length:Nat):Int)},outs)
 else if nv bs i%12=1 then (ins,S.set (nv bs (ni bs i)%S.length) {vd S (nv bs (ni bs i)%S.length) with b:=IntKind.i64.wrap ((vd S (nv bs (ni bs i)%S.length)).b-1)},outs)
 else if nv bs i%12=2 then (ins,S.set (nv bs (ni bs i)%S.length) {vd S (nv bs (ni bs i)%S.length) with c:=IntKind.i64.wrap ((vd S (nv bs (ni bs i)%S.length)).c+1)},outs)
 else if nv bs i%12=3 then (ins,S.set (nv bs (ni bs i)%S.length) {vd S (nv bs (ni bs i)%S.length) with len:=IntKind.i64.wrap ((vd S (nv bs (ni bs i)%S.length)).len+1)},outs)
 else if nv bs i%12=4 then (ins,S.set (nv bs (ni bs i)%S.length) {vd S (nv bs (ni bs i)%S.length) with op:=(nv bs (ni bs i):Int)%17},outs)
 else if nv bs i%12=5 then (ins,S,outs++[(S.length:Int)-(nv bs (ni bs i):Int)%2])
 else if nv bs i%12=6 then (ins++[(nv bs (ni bs i):Int)%3*500],S,outs)
 else if nv bs i%12=7 then (ins,S,outs++[-1])
 else if nv bs i%12=8 then (ins,S.set (nv bs (ni bs i)%S.length) {vd S (nv bs (ni bs i)%S.length) with k:=fbz 4619567317775286272},outs)
 else if nv bs i%12=9 then (ins,S.set (nv bs (ni bs i)%S.length) {vd S (nv bs (ni bs i)%S.length) with op:=-1},outs)
 else if nv bs i%12=10 then (ins,S,outs++List.replicate (50+nv bs (ni bs i)%2-outs.length) (((nv bs (ni bs i)%S.length:Nat)):Int))
 else (ins++List.replicate (20+nv bs (ni bs i)%2-ins.length) 2,S,outs)
theorem Oc(f:DG w aC.heap.size (.slice a1 ins.length c1) (.slice Z vs.length c2) (.slice a3 outs.length c3) ins vs outs)(C:RdF w P a n cap i bs)(hP:P<aC.heap.size)(H:Kept P (P+1) aC w)(ae:vs.map sv=S)(hn:vs.length<=100000)(hi:ins.length<=1000)(ax:outs.length<=1000):
  Calls prog 58 #[eX a1 ins.length c1 Z vs.length c2 a3 outs.length c3,hD P] w (DgF aC P a n cap bs (spM ins S outs bs i).1 (spM ins S outs bs i).2.1 (spM ins S outs bs i).2.2 (ni bs (ni bs i))):=by
 unfold spM;by_cases ai:S.length=0
 ·rw[hI ai];exact N7 f C hP H ae hn ai
 have B:0<S.length:=xaa;have ap:nv bs i%12<12:=Nat.mod_lt _ xaa;rw[hG ai];by_cases c:nv bs i%12=0
 ·rw[hI c];exact NZ f C hP H ae hn B c
 rw[hG c];by_cases c:nv bs i%12=1
 ·rw[hI c];exact N9 f C hP H ae hn B c
 rw[hG c];by_cases c:nv bs i%12=2
 ·rw[hI c];exact Oa f C hP H ae hn B c
 rw[hG c];by_cases c:nv bs i%12=3
 ·rw[hI c];exact Ob f C hP H ae hn B c
 rw[hG c];by_cases c:nv bs i%12=4
 ·rw[hI c];exact N0 f C hP H ae hn B c
 rw[hG c];by_cases c:nv bs i%12=5
 ·rw[hI c];exact N3 f C hP H ae hn B ax c
 rw[hG c];by_cases c:nv bs i%12=6
 ·rw[hI c];exact N6 f C hP H ae hn B hi c
 rw[hG c];by_cases c:nv bs i%12=7
 ·rw[hI c];exact N4 f C hP H ae hn B ax c
 rw[hG c];by_cases c:nv bs i%12=8
 ·rw[hI c];exact N1 f C hP H ae hn B c
 rw[hG c];by_cases c:nv bs i%12=9
 ·rw[hI c];exact N2 f C hP H ae hn B c
 rw[hG c];by_cases c:nv bs i%12=10
 ·rw[hI c];exact KE f C hP H ae hn B ax c
 rw[hG c];exact KF f C hP H ae hn B hi xaa
theorem Dy.fresh(av:RB ay w.heap.size iR iR iR)(hP:P<w.heap.size)(am:Kept P (P+1) w ay)(d:DG W2 ay.heap.size u1 u2 u3 ins vs outs)(aa:RdF W2 P a n cap i bs)(an:Kept P (P+1) ay W2):
  Dy w (W2.alloc (.cells #[u1,u2,u3] 26)) P a n cap i bs w.heap.size W2.heap.size u1 u2 u3 ins vs outs:=by
 have bE:=ez 0 0 W2 (.cells #[u1,u2,u3] 26);have hb:=sh (S:=λ_=>False) W2 _ #[u1,u2,u3] 26 (hN).chg (λc=>c);have B:=av.sz;have U:=an.size;refine⟨aa.keep0 bE,(d.keep bE).mono xaa,⟨hb.2.2,hb.1 0,hb.1 1,hb.1 2,hb.2.1 0,hb.2.1 1,hb.2.1 2⟩,(av.kept an xaa).keep bE,hP,⟨yad,by omega,by omega⟩,?_,(am.trans an).trans (ft bE)⟩;rintro b (h|h|h)
 ·have:=eI d.r1 h;omega
 ·have:=eI d.r2 h;omega
 have:=eI d.r3 h;omega
theorem DgF.up(av:RB ay w.heap.size iR iR iR)(hP:P<w.heap.size)(am:Kept P (P+1) w ay)(ae:vs.map sv=S)(d:DG W2 ay.heap.size (.slice a1 ins.length c1) (.slice Z vs.length c2) (.slice a3 outs.length c3) ins vs outs)(aa:RdF W2 P a n cap i bs)(an:Kept P (P+1) ay W2):
  RB W2 w.heap.size iR iR iR/\DgF w P a n cap bs ins S outs i (.returned (eX a1 ins.length c1 Z vs.length c2 a3 outs.length c3)) (fF W2 w.heap.size (.slice a1 ins.length c1) (.slice Z vs.length c2) (.slice a3 outs.length c3)):=by
 have al:=fh W2 w.heap.size (.slice a1 ins.length c1) (.slice Z vs.length c2) (.slice a3 outs.length c3);have B:=av.sz;have U:=am.size;have h3:=an.size;refine⟨av.kept an xaa,_,_,_,_,_,_,_,rfl,ae,(d.kept al xaa).mono xaa,aa.keep al (.inl xaa),⟨al.os.trans (an.os.trans am.os),al.tape.trans (an.tape.trans am.tape),al.output.trans (an.output.trans am.output),yan U (yan h3 al.size),λb hb hn=>?_⟩⟩;refine(al.block b xaa xaa).trans ?_;exact(am.trans an).block b hb hn
theorem Cb(bs ins m):∀f k S p,(gwL bs ins m f k S p).1.length<=S.length+f
 |0,_,S,_=>by rw[gwL];exact yad
 |f+1,k,S,p=>by
  rw[gwL]
  split
  ·have:=Cb bs ins m f (k+1) (S++[(gwM ins S bs p).1]) (gwM ins S bs p).2
   rw[yak]at this
   simp at this
   omega
  ·simp only;omega
theorem zK(bs i):(dgI bs i).1.length<=3/\(dgG bs i).1.length<=28/\(dgO bs i).1.length<=4:=by
 have B:=qP bs (ni bs i) (nv bs i%4);have U:=Cb bs (dgI bs i).1 (2+nv bs (dgI bs i).2.2%24) (2+nv bs (dgI bs i).2.2%24) 0 (dgI bs i).2.1 (ni bs (dgI bs i).2.2);have h3:=tU bs (dgG bs i).1.length (ni bs (dgG bs i).2) (nv bs (dgG bs i).2%5);have af:(dgI _ i).1.length=nv _ i%4:=B.1;have a0:(dgI _ i).2.1.length=nv _ i%4:=B.2;have aj:(dgO _ i).1.length=nv bs _%5:=h3;have e4:(dgG _ i).1.length<=(dgI _ i).2.1.length+(2+nv bs _%24):=U;omega
def qQ(bs:List Int)(i:Nat):List Int×List Vl×List Int×Nat:=
 if nv bs i%40=0 then ([],ng 1 (1999+nv bs (ni bs i)%3),[0],ni bs (ni bs i))
 else if nv bs i%40=1 then (if nv bs (ni bs i)%2=1 then ([],ng 1000 50++[⟨1,1,0,0,0,0⟩],[0],ni bs (ni bs i))else ([],ng 1000 50,[0],ni bs (ni bs i)))
 else if nv bs i%40<8 then ((spM (dgI bs (ni bs i)).1 (dgG bs (ni bs i)).1 (dgO bs (ni bs i)).1 bs (dgO bs (ni bs i)).2).1,(spM (dgI bs (ni bs i)).1 (dgG bs (ni bs i)).1 (dgO bs (ni bs i)).1 bs (dgO bs (ni bs i)).2).2.1,(spM (dgI bs (ni bs i)).1 (dgG bs (ni bs i)).1 (dgO bs (ni bs i)).1 bs (dgO bs (ni bs i)).2).2.2,ni bs (ni bs (dgO bs (ni bs i)).2))
 else ((dgI bs (ni bs i)).1,(dgG bs (ni bs i)).1,(dgO bs (ni bs i)).1,(dgO bs (ni bs i)).2)
abbrev DgT(w:World)(P:Nat)(a:Option Addr)(n cap:Nat)(bs:List Int)(T:List Int×List Vl×List Int×Nat):Ending->World->Prop:=DgF w P a n cap bs T.1 T.2.1 T.2.2.1 T.2.2.2
theorem PW(C:RdF w P a n cap i bs):
  Calls prog 33 #[hD P] w (DgT w P a n cap bs (qQ bs i)):=by
 have ap:=fU C.ys i;have bX:=fU C.ys (ni bs i);have hP:=C.lt;have bE:=ez 0 0 w fE;have bw:V _:=jg _ P a n _ i _ (C.keep0 bE);have aY:V (∀T,qQ _ i=T->∀e J,DgT w P a n cap bs T e _->DgT w P a n _ _ (qQ bs i) e J):=λT h e J d=>hR h d
 have s:V _:=bE;clear C bE;go_enter func33,ntmps33;go_wp2_with fail;refine yai bw.o ?_;rintro e ay ⟨rfl,(a6:V _),am,bQ⟩;have b4:V _:=(ft s.o).trans am;have aI:V (RB _ _ iR iR iR):=(gg w).kept am xaa;clear am bQ s bw;by_cases c0:nv bs i%40=0
 ·have HE:V (qQ bs i=([],ng 1 (1999+nv bs (ni bs i)%3),[0],ni bs (ni bs i))):=by show _=_;unfold qQ;rw[hI c0]
  have R:(nv bs i:Int)%40=0:=xaa;have G:1999+(nv bs (ni bs i):Int)%3=(1999+nv bs (ni bs i)%3:Nat):=xaa;have r:1999+nv bs (ni bs i)%3<=3000:=xaa;clear c0;go_wp2_with fail;refine yai (jg _ _ _ _ _ _ _ a6.o) ?_;rintro e W2 ⟨rfl,R2,an,bY⟩;have bN:V _:=b4.o.trans an;have y:V _:=aI.o.kept an xaa;have bp:V _:=LN R2 _ 1 r;clear R2 an bY;generalize 1999+nv bs _%3=m at G bp HE r;go_wp2_with fail;refine yai bp.o ?_;rintro e aF ⟨a1,c1,Z,c2,a3,c3,vs,rfl,ai,d,aa,aJ⟩;obtain⟨hb,(aL:V _)⟩:=DgF.up y.o hP bN.o ai d aa aJ;obtain⟨_,bo,az,aZ,bl,bG,bP⟩:=hb;clear ai d aa aJ;rw[show([]:List _).length=0 from rfl,show([0]:List Int).length=1 from rfl]at aL⊢;go_wp2_with fail;obtain⟨bi,a5,p2⟩:=fg _ _ _ _ _ bo az aZ (.slice a1 0 c1) (.slice Z vs.length c2) (.slice a3 1 c3);exact yay (v:=eX a1 0 c1 Z vs.length c2 a3 1 c3) (by simp[results,results33,go_sem,bi,a5,p2]) rfl (aY.o _ HE.o _ _ aL.o)
 by_cases c1:nv bs i%40=1
 ·have br:(nv bs i:Int)%40=1:=xaa;have bp:V _:=LN a6.o 50 1000 xaa;have j:V (nv bs _%2=1->qQ _ i=([],ng _ _++[⟨1,1,0,0,0,0⟩],[0],ni bs _)):=λh=>by unfold qQ;rw[hG c0,hI c1,hI h]
  have o:V (¬nv bs _%2=1->qQ _ i=([],ng _ _,[0],ni bs _)):=λh=>by unfold qQ;rw[hG c0,hI c1,hG h]
  clear c0 c1;go_wp2_with fail;refine yai bp.o ?_;rintro e aF ⟨a1,c1,Z,c2,a3,c3,vs,rfl,(HSV:V _),d,aa,aJ⟩;have HD:V _:=Dy.fresh aI.o hP b4.o d aa aJ;have cp:vs.length<=100000:=by have ab:=congrArg List.length HSV.o;rw[List.length_map,rD]at ab;omega
  clear d aa aJ;rw[show([]:List _).length=0 from rfl,show([0]:List Int).length=1 from rfl]at HD⊢;go_wp2_with fail;generalize aF.alloc _=b8 at HD⊢;generalize aF.heap.size=Q at HD⊢;refine yai HD.o.next ?_;rintro e cf ⟨rfl,aj⟩;replace HD:V _:=aj;clear aj;by_cases U:nv bs (ni bs i)%2=1
  ·have b6:(nv bs (ni bs i):Int)%2=1:=xaa;have aL:V (∀bv,Kept 0 0 _ bv->_):=λbv cb=>HD.o.put cb (eK 1 1 0 0 0) (Nat.zero_lt_succ _) cp;obtain⟨_,bR,aS,bb,bH,f1,f2⟩:=HD.o.bx;go_upto_region 8 with fail
   go_region_with (first
    |(go_at_call 37;refine yai (aL.o _ ((eG _).trans bW)) ?_;rintro e aG ⟨aA,cap',rfl,a8,aH⟩;obtain⟨_,bo,az,aZ,bl,bG,bP⟩:=a8)
    |(go_at_call 57;refine yai (oW _ _) ?_;rintro e bv ⟨rfl,bW⟩;obtain⟨_,aW,aq,aN,_,_,_⟩:=(HD.o.keep ((eG _).trans bW)).bx))
   all_goals
    have l:V _:=aH
    have ar:V _:=aH.finS (S':=ng _ _++[⟨1,1,0,0,0,0⟩]) (by rw[yak];rfl) (by rw[List.map_append,HSV.o];rfl)
    clear aH
    go_upto_region 9 with fail
    rw[show((aG.setCell _ _).setCell ⟨Q,1,_⟩ _).setCell _ _=fF _ Q _ _ _ from rfl]
    generalize fF _ Q _ _ _=O at l ar⊢
    obtain⟨_,bf,aO,aX,_,_,_⟩:=l.o.bx
    obtain⟨_,u0,u1,u2,q,t,v⟩:=l.o.rs
    go_wp2_with fail
    obtain⟨bi,a5,p2⟩:=fg _ _ _ _ _ u0 u1 u2 (.slice a1 0 c1) (hE aA (vs.length+1) cap') (.slice a3 1 c3)
    exact yay (v:=eX a1 0 c1 (some ⟨aA,0,none⟩) (vs.length+1) cap' a3 1 c3) (by simp[results,results33,go_sem,bi,a5,p2]) rfl (aY.o _ (j.o U) _ _ ar.o)
  have b6:¬(nv bs (ni bs i):Int)%2=1:=xaa;have ar:V _:=HD.o.fin HSV.o;obtain⟨_,bf,aO,aX,_,_,_⟩:=HD.o.bx;obtain⟨_,u0,u1,u2,q,t,v⟩:=HD.o.rs;go_wp2_with fail;obtain⟨bi,a5,p2⟩:=fg _ _ _ _ _ u0 u1 u2 (.slice a1 0 c1) (.slice Z vs.length c2) (.slice a3 1 c3);exact yay (v:=eX a1 0 c1 Z vs.length c2 a3 1 c3) (by simp[results,results33,go_sem,bi,a5,p2]) rfl (aY.o _ (o.o U) _ _ ar.o)
 have R:¬(nv bs i:Int)%40=0:=xaa;have br:¬(nv bs i:Int)%40=1:=xaa;have bk:V _:=Hk a6.o;have B:V _:=zK bs (ni bs i);have j:V (nv _ i%40<8->qQ _ i=((spM _ _ _ _ _).1,(spM _ _ _ _ _).2.1,(spM _ _ _ _ _).2.2,ni bs _)):=λh=>by unfold qQ;rw[hG c0,hG c1,hI h]
 have o:V (¬nv _ i%40<8->qQ _ i=((dgI bs _).1,(dgG bs _).1,(dgO bs _).1,(dgO bs _).2)):=λh=>by unfold qQ;rw[hG c0,hG c1,hG h]
 clear c0 c1;generalize (dgI bs _).1=af at bk B j o;generalize (dgG bs _).1=ao at bk B j o;generalize dgO bs _=ae at bk B j o;go_wp2_with fail;refine yai bk.o ?_;rintro e aF ⟨a1,c1,Z,c2,a3,c3,vs,rfl,(HSV:V _),d,aa,aJ⟩;have HD:V _:=Dy.fresh aI.o hP b4.o d aa aJ;have cp:vs.length<=100000:=by have ab:=congrArg List.length HSV.o;have:=B.o;rw[List.length_map]at ab;omega
 have cd:=ez 0 0 aF (.cells #[.slice a1 af.length c1,.slice Z vs.length c2,.slice a3 ae.1.length c3] 26);have f:V _:=Oc (d.keep cd) (aa.keep0 cd) (yaj hP b4.o.size) (aJ.trans (ft cd)) HSV.o cp (hO B.o) (hO B.o);clear d aa aJ cd bk;by_cases Y:nv bs i%40<8
 ·have x:(nv bs i:Int)%40<8:=xaa;obtain⟨_,bf,aO,aX,_,_,_⟩:=HD.o.bx;generalize bh:spM _ _ _ _ _=T at f j;clear bh;go_wp2_with fail;refine yai f.o ?_;rintro e bv ⟨N,d1,aD,d2,ad,d3,us,rfl,p,d,aa,cb⟩;obtain⟨hb,(aL:V _)⟩:=DgF.up aI.o hP b4.o p d aa cb;obtain⟨_,bo,az,aZ,bl,bG,bP⟩:=hb;clear p d aa cb bf aO aX;go_wp2_with fail;obtain⟨bi,a5,p2⟩:=fg _ _ _ _ _ bo az aZ (.slice N T.1.length d1) (.slice aD us.length d2) (.slice ad T.2.2.length d3);exact yay (v:=eX N T.1.length d1 aD us.length d2 ad T.2.2.length d3) (by simp[results,results33,go_sem,bi,a5,p2]) rfl (aY.o _ (j.o Y) _ _ aL.o)
 have x:¬(nv bs i:Int)%40<8:=xaa;have ar:V _:=HD.o.fin HSV.o;obtain⟨_,bf,aO,aX,_,_,_⟩:=HD.o.bx;obtain⟨_,u0,u1,u2,q,t,v⟩:=HD.o.rs;clear f;go_wp2_with fail;obtain⟨bi,a5,p2⟩:=fg _ _ _ _ _ u0 u1 u2 (.slice a1 af.length c1) (.slice Z vs.length c2) (.slice a3 ae.1.length c3);exact yay (v:=eX a1 af.length c1 Z vs.length c2 a3 ae.1.length c3) (by simp[results,results33,go_sem,bi,a5,p2]) rfl (aY.o _ (o.o Y) _ _ ar.o)
end
section
def Hr(ins:List Int):Prop:=∀k,k<ins.length->1<=ins.getD k 0/\ins.getD k 0<=1000
theorem zL{bs ins}(hi:Hr ins)(m):∀f k S p,LenS S->LenS (gwL bs ins m f k S p).1
 |0,_,S,_,h=>by rw[gwL];exact h
 |f+1,k,S,p,h=>by
  rw[gwL]
  split
  ·exact zL hi m f _ _ _ (h.snoc (xL hi h))
  ·exact h
theorem Hs(bs i):LenS (dgG bs i).1/\Hr (dgI bs i).1:=
 have h:=rC bs (ni bs i) (nv bs i%4)
 ⟨zL h.2 _ _ _ _ _ h.1,h.2⟩
def stM(ins:List Int)(base:Nat)(bs:List Int)(s:List Vl×Nat):List Vl×Nat:=
 let c:=nv bs s.2
 let d:=nv bs (ni bs s.2)
 let j:=ni bs (ni bs s.2)
 let x:=d%s.1.length
 let m:=(vd s.1 x).len
 if c%8=0 then (s.1++[eK 6 m x 0 0],j)
 else if c%8=1 then (s.1++[eK 6 m x 0 0]++[eK 6 m s.1.length 0 0],j)
 else if c%8=2 then (s.1++[vd s.1 x],j)
 else if m=1/\c%8<6 then (s.1++[if c%2=1 then eK ([2,3,4,5,7].getD (c/8%5) 0) 1 x ((base+d/8%6:Nat):Int) 0 else eK ([2,3,4,5,7].getD (c/8%5) 0) 1 ((base+d/8%6:Nat):Int) x 0],j)
 else if c%8=6 then (s.1++[eK 10 2 ((base+d/8%6:Nat):Int) 0 0]++[eK 12 2 ((base+d/4%6:Nat):Int) 0 ((d%2:Nat):Int)],j)
 else (s.1++[(gwM ins s.1 bs j).1],(gwM ins s.1 bs j).2)
def lpM(ins:List Int)(base:Nat)(bs:List Int)(s:List Vl×Nat):Nat->List Vl×Nat
 |0=>s
 |k+1=>if (lpM ins base bs s k).2<bs.length then stM ins base bs (lpM ins base bs s k)else lpM ins base bs s k
def ksM(k:Nat):Nat:=fb (([4607182418800017408,0,9223372036854775808,4611686018427387904,cop .quo 0 0,cop .quo 4607182418800017408 0]:List Nat).getD k 0)
def csM(S:List Vl)(k:Nat):List Vl:=S++(List.range k).map λj=>⟨1,1,0,0,0,ksM j⟩
def rsL(bs:List Int)(i:Nat):List Vl×Nat:=lpM (dgI bs i).1 (dgG bs i).1.length bs (csM (dgG bs i).1 6,(dgO bs i).2) 14
def rsT(bs:List Int)(i:Nat):List Int×List Vl×List Int×Nat:=((dgI bs i).1,(rsL bs i).1,(dgO bs i).1++[((rsL bs i).1.length:Int)-1]++[((rsL bs i).1.length:Int)-2],(rsL bs i).2)
theorem KL(ins base bs s):(stM ins base bs s).1.length<=s.1.length+2/\s.1.length<=(stM ins base bs s).1.length:=by
 unfold stM;simp only;(repeat' split)<;>simp
theorem A6(ins base bs s):∀k,(lpM ins base bs s k).1.length<=s.1.length+2*k/\s.1.length<=(lpM ins base bs s k).1.length
 |0=>⟨yad,yad⟩
 |k+1=>by
  have h:=A6 ins base bs s k
  have g:=KL ins base bs (lpM ins base bs s k)
  rw[lpM]
  split<;>omega
theorem KM(ins base bs s){k}(O:k<=14)(h:k=14\/¬(lpM ins base bs s k).2<bs.length):lpM ins base bs s 14=lpM ins base bs s k:=by
 rcases h with rfl|h
 ·rfl
 have:∀m,lpM ins base bs s (k+m)=lpM ins base bs s k:=by
  intro m;induction m with
  |zero=>rfl
  |succ m al=>rw[<-Nat.add_assoc,lpM,al,hG h]
 have e:=this (14-k);rwa [Nat.add_sub_cancel' O]at e
theorem zM(S k):csM S (k+1)=csM S k++[⟨1,1,0,0,0,ksM k⟩]:=by rw[csM,csM,List.range_succ,List.map_append,List.append_assoc];rfl
theorem Cc{S}(h:LenS S):∀k,LenS (csM S k)
 |0=>by rw[csM];simpa using h
 |k+1=>by rw[zM];exact(Cc h k).snoc ⟨show 1<=1 by decide,show 1<=1000 by decide⟩
theorem KN{ins bs base s}(hi:Hr ins)(h:LenS s.1)(ai:0<s.1.length):LenS (stM ins base bs s).1:=by
 have ap:=h (nv bs (ni bs s.2)%s.1.length) (Nat.mod_lt _ ai);have B:1<=(1:Int)/\(1:Int)<=1000:=xab;have U:1<=(2:Int)/\(2:Int)<=1000:=xab;unfold stM;simp only;(repeat' split)<;>simp only
 ·exact h.snoc ap
 ·exact(h.snoc (v:=eK 6 _ _ 0 0) ap).snoc ap
 ·exact h.snoc ap
 ·exact h.snoc B
 ·exact h.snoc B
 ·exact(h.snoc U).snoc U
 exact h.snoc (xL hi h)
theorem xP{ins bs base s}(hi:Hr ins)(h:LenS s.1)(ai:0<s.1.length):∀k,LenS (lpM ins base bs s k).1
 |0=>h
 |k+1=>by
  rw[lpM]
  split
  ·exact KN hi (xP hi h ai k) (yaj ai (A6 _ _ _ s k).2)
  ·exact xP hi h ai k
