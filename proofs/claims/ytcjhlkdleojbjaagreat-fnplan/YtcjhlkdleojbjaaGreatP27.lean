import Derived.Test.YtcjhlkdleojbjaaGreatP26
namespace Go.Proofs.Z
variable{Zp:Prop}
open Tryz Go.RowKit Flt
set_option maxRecDepth 1000000
set_option maxHeartbeats 0
section
attribute[local go_sem] eF eE eD
def QB(p:Nat)(r:Rs (LSt×Nat)):Rs (LSt×Nat):=match r with
 |.error f=>.error f
 |.ok (s3,j)=>fN s3 (eK 9 1 (j:Int) 0 0) p
theorem aI.qbm(h:Zp:=by
 have cj:E _:=av.o.keepC bv.chg HF.o;obtain⟨bJ,cv,a9,b3,b2⟩:=aK.lenc ar;have bS:=cj.o.c0;have bu:=aK.c1;rw[a9]at bu;have b7:E _:=FtI.lit aK bv a;have cd:E (fY _ _ (es.take 1)=some (.ok (ax,[a]))):=HO.o _ a rfl;have aW:E _:=w;have cH:E (∀i∈[a],i<ax.vs.length):=by intro i hi;simp at hi;subst hi;exact ar
 have bC:=w.g.n;clear be bZ HE HO bv aK a9 b3 w bE aZ;generalize eX _ a=l at b2;generalize N:ax.vs.length=aV at b2 bu ar bC;clear N;go_upto_region 34 with fail;clear b2 bu bS cj;go_wp2_with fail;go_loopw [18,19] (λcW cp I=>∃(k:Nat) (s:LSt) (xs:List Nat),1<=k/\k<=2/\cp=hA k/\xs.length=k/\E (fY (λs e=>eM f s u e) st (es.take k)=some (.ok (s,xs)))/\E (FtI az I P J u1 u2 u3 u4 bs s cW xs)/\E (Gw st s)/\E (∀i∈xs,i<s.vs.length)) (λ_ cp _=>2-(intOf cp).toNat)
 case atStart=>exact⟨1,_,_,yad,by decide,rfl,rfl,cd,b7,aW,cH⟩
 case round=>
  obtain⟨k,s,xs,ca,bK,rfl,(ay:E _),aI,bh,v,O⟩:=hrel;clear cd b7 aW cH;by_cases aG:k<2
  ·obtain⟨aQ,a8,bi,bk,aL,am,bG⟩:=bh.o.ex;have bT:Mv _ _ _ _:=⟨am.chg,λb hb=>am.new b (.inl hb)⟩
   obtain⟨dd,cR,cT,cU⟩:=mw _ _ _ H aS.o k (hL ae.o aG) s _ aI.o;obtain⟨o,Z,c1,y,cV⟩:=m.o.call k (hL ae.o aG);obtain⟨bW,cS⟩:=cV s _ _ _ _ _ _ v.o cR aL ((Mv.of HK.o).trans bT);rw[<-m.o.cell ((Mv.of HK.o).trans bT).chg k]at y;have cK:E _:=cT;have cQ:E _:=cU;have cM:E _:=bW;have b1:E _:=cS;have aR:E _:=am;have b5:E _:=bG;have cO:E _:=(Mv.of HK.o).trans bT;clear cR cT cU bW cS cV aL am bG bT;rcases dd with⟨c,p⟩|⟨aU,U⟩
   ·exact xbt
   exact qgl
  obtain rfl:k=2:=xaa
  have cu:E (H=.ok (s,xs)):=by
   exact xel
  obtain⟨cB,d4,aQ,a8,bi,bk,rfl,aL,(aR:E _),bL⟩:=bh.o.xs;have ad:E _:=zS aL v.o.g _ _ d4 _ bL (by rw[ay.o];decide) O.o S;have ck:E _:=av.o.keepC aR.o.chg HF.o;have bI:E (r=mx [100,111,116] ⟨[100,111,116],S,C⟩ s xs):=by show _=_;rw[HR.o,cu.o];rfl
  have ct:E _:=λbx aa (aA:jJ s _ S=.ok (bx,aa))=>lj v.o.g _ _ O.o aA;exact qfm):Zp:=h
theorem aI.qdn(h:Zp:=by
 have cq:¬Mst P _ _ _ _ _:=λc=>(cr.o.new _ c).elim HF.o (λc=>hJ av.o.lt);have cy:E _:=(Mv.of HK.o).trans cr.o;have bA:E (∀I,Kept 0 0 _ I->I.cell? _=some _/\I.cell? _=some _/\I.cell? _=some _/\I.cell? _=some _/\I.cell? ⟨_,of,_⟩=some (.int _ j)/\I.cell? _=some (.int _ n)):=λI aj=>⟨(bO.o.keep aj).c0,(bO.o.keep aj).c1,(a6.keep aj).c1,(aj.cell b3 xaa).trans b2,(aj.cell ak xaa).trans (bH 0 xac),(aj.cell ak xaa).trans (bH 1 xac)⟩
 exact qfe):Zp:=h
theorem aI.qff(h:Zp:=by
 obtain⟨b0,a1,U,a3,a4,bN⟩:=bA.o _ hI;exact qgf):Zp:=h
theorem aI.qfn(h:Zp:=by
 rcases q with⟨c,p⟩|⟨bx,aa⟩
 ·exact xcc
 obtain⟨ao,aB,nn,aO⟩:=ct.o _ _ rfl;rw[ay.o]at aB
 obtain⟨j,n,rfl⟩:∃j n,aa=[j,n]:=by
  match aa,aB with
  |[a,b],_=>exact⟨a,b,rfl⟩
 have al:=(aO j xac).1;have ec:=aO n xac;have bB:=jB al;have b8:=jB ec.1;rw[ec.2,<-(aO j xac).2]at b8;have ek:E _:=ao.g.v.two (.inr (.inr (.inl rfl))) bB b8;clear ec bB b8
 have X:E (r=QB S (fN bx (eK 4 (eX bx j) j n 0) S)):=by
  show _=_;rw[bI.o];unfold mx;rw[<-bY.o];rfl
 exact qdm):Zp:=h
theorem aI.qfu(h:Zp:=by
 change Code.wp _ _ _ _ (W.alloc (.cells _ 119));generalize W.alloc _=az at av HK⊢;generalize W.heap.size=aJ at av HF⊢;obtain⟨br,cI,ds,dT⟩:=mw _ _ _ H aS.o 0 (by rw[ae.o];decide) _ _ rfl;obtain⟨o,cf,c0,aZ,bP⟩:=m.o.call 0 (by rw[ae.o];decide);obtain⟨dv,di⟩:=bP _ _ _ _ _ _ _ (Gw.refl ch.o) cI (bq.o.keep HK.o) (Mv.of HK.o);rw[<-m.o.cell (Mv.of HK.o).chg 0]at aZ;have HE:E _:=ds;have HO:E _:=dT;have be:E _:=dv;have bZ:E _:=di;have bE:=av.o.c0;clear cI ds dT dv di bP;rcases br with⟨c,p⟩|⟨ax,a⟩
 ·exact xck
 obtain⟨w,ar⟩:=be.o _ a rfl;exact qbl):Zp:=h
theorem aI.qgg(h:Zp:=by
 have a2:E _:=λcJ ee (aM:fN _ _ S=.ok (cJ,ee))=>oF c6.o ek.o aM;have ah:E (∀I,Kept 0 0 _ _->Calls _ _ _ _ λe ab=>(∃x:Int,e=.returned _)/\E (TrO _ P J _ _ _ _ _ _ e _)/\ab.cell? _=some _/\ab.cell? _=some _/\ab.cell? _=some _):=λI aj=>yaj (lY (dg.o.keep aj) c6.o (eK 4 (eX bx _) j n 0) d0 yah S) (λe ab t=>⟨t.ret,TrO.back aj t,df.o I _ aj t.chg⟩);clear df c6 dg d0 ao HK bq HF b0 a1 U a3 a4 bN;generalize fN bx _ _=dc at X a2 ah;generalize eX bx _=l at bA ah cF⊢;generalize bx.vs.length=aV at*;generalize bc.drewN _=bp at Y cF⊢;obtain⟨b0,a1,U,a3,a4,bN⟩:=cF.o;go_upto_region 50 with fail;rcases dc with⟨c,p⟩|⟨cJ,ee⟩
 ·have d2:E (r=.error _):=X.o
  go_region_held3 (λB=>B.cell? ⟨aJ,1,none⟩=some (hA S)/\B.cell? ⟨au,of,none⟩=some (hA (j:Nat))/\B.cell? ⟨au,of+1,none⟩=some (hA (n:Nat))) (go_keep)
   (first
    |(go_at_call 46;refine yaj (ij _ _ _ _ _ _) ?_;rintro e cl ⟨rfl,bU⟩;obtain⟨bn,aX,bb,co,cg,ag⟩:=bA.o _ (Y.o.trans ((eG _).trans bU)))
    |(go_at_call 104;refine yaj (ah.o _ (Y.o.trans ((eG _).trans bU))) ?_;rintro e ci ⟨⟨_,_⟩,bd,aq,bz,cD⟩;obtain rfl:=bd.o.1))
  all_goals (
   go_wp2_with fail
   go_ret
   rw[d2.o]
   exact TrO.after cy.o ⟨rfl,bd.o.2⟩)
 obtain⟨ef,eb,_⟩:=a2.o _ _ rfl;have d2:E (r=fN _ _ _):=X.o;have et:¬((ee:Int)<0):=xaa;have er:=ef.g.n;have d7:E _:=ef.g;clear a2 X ef
 go_region_held3 (λB=>B.cell? ⟨aJ,1,none⟩=some (hA S)/\B.cell? ⟨au,of,none⟩=some (hA (j:Nat))/\B.cell? ⟨au,of+1,none⟩=some (hA (n:Nat))) (go_keep)
  (first
   |(go_at_call 46;refine yaj (ij _ _ _ _ _ _) ?_;rintro e cl ⟨rfl,bU⟩;obtain⟨bn,aX,bb,co,cg,ag⟩:=bA.o _ (Y.o.trans ((eG _).trans bU)))
   |(go_at_call 104;refine yaj (ah.o _ (Y.o.trans ((eG _).trans bU))) ?_;rintro e ci ⟨⟨_,_⟩,bd,aq,bz,cD⟩;obtain rfl:=bd.o.1))
 all_goals (
  obtain⟨_,bo,bw,bR,cz,ei,ea⟩:=bd.o
  have d6:E _:=bO.o.keepC ea.chg d1.o
  have ej:¬Mst P _ _ _ _ _:=λc=>(ea.new _ c).elim d1.o (λc=>hJ bO.o.lt)
  have eg:E _:=cy.o.trans ea
  have cA:E (∀I,Kept 0 0 _ _->Calls _ _ _ I λe ab=>(∃x:Int,e=.returned _)/\E (TrO W P J _ _ _ _ _ r e _)/\ab.cell? _=some _):=λI aj=>yaj (lY (ei.keep aj) d7.o (eK 9 1 _ 0 0) ⟨Int.le_refl _,by show(1:Int)<=1000;decide⟩ yah _) (λe ab t=>⟨t.ret,(by
   show TrO W P J u1 u2 u3 u4 bs r e ab
   rw[d2.o]
   exact TrO.after (eg.o.keep aj) t),(t.chg.cell (d6.o.keep aj).lt ej).trans (d6.o.keep aj).c1⟩)
  have R:=d6.o.c1
  clear bd ei ea ej ah bA cF Y d1 bO cy eg d7 d2
  generalize cJ.vs.length=en at*
  go_upto_region 53 with fail
  go_region_held3 (λB=>B.cell? ⟨aJ,1,none⟩=some (hA S)) (go_keep)
   (first
    |(go_at_call 46;refine yaj (ij _ _ _ _ _ _) ?_;rintro e af ⟨rfl,bF⟩;have eu:=(d6.o.keep ((eG _).trans bF)).c1)
    |(go_at_call 104;refine yaj (cA.o _ ((eG _).trans bF)) ?_;rintro e bj ⟨⟨cX,rfl⟩,el,ep⟩))
  all_goals (go_wp2_with fail;go_ret;exact el.o))):Zp:=h
theorem aI.qgm(h:Zp:=by
 go_upto_region 41 with (go_at_call 101;refine yaj b1.o ?_;rintro e bc ⟨rfl,aP,y2,y3,y4,a6,bm⟩);have HFn:E _:=FtI.step aR.o b5.o bh.o.row a6 bm;have cG:E (az.heap.size<=bc.heap.size):=by show _<=_;have:=aR.o.chg.size;have:=bm.chg.size;omega
 have cP:E _:=cN.o.m;have b9:(bc.alloc (.cells #[hA U] 3)).cell? ⟨bc.heap.size,0,none⟩=some (hA U):=by rw[yav];rfl
 have a0:=ez 0 0 bc (.cells #[hA U] 3);have bg:E _:=HFn.o.keep a0;clear HFn bh aR b5 cO cM b1 cK cQ y a6 bm v O aI bD;go_wp2_with (first|(at_builtin;refine jt _ rfl _ _ rfl _ _ _ rfl bg.o.row _ _ rfl b9 ?c2 ?c3 ?_)|fail)
 case c2=>have:=ay.o;omega
 case c3=>have:=cG.o;simp;omega
 intro g9 cap9 n9 bj aw bM aN b6;have R1:E _:=FtI.app (bq.o.keep HK.o) cP.o bg.o bM aN (b6.imp id (λe=>by rw[e];simp));exact xcn):Zp:=h
theorem aI.qgq(h:Zp:=by
 obtain⟨r,aD⟩:∃r,r=rR [100,111,116] ⟨[100,111,116],S,C⟩ H:=⟨_,rfl⟩
 exact qft):Zp:=h
open aI in
theorem ER{f W P J u1 u2 u3 u4 bs st aT Q cL u g bQ ce}(h:WS W P J u1 u2 u3 u4 bs st)(an:Gd st)(S C){es}(cx:es.length=2)(bl:ArgS f W P J u1 u2 u3 u4 bs st aT Q cL u g bQ es)(H)(K:fY (λs e=>eM f s u e) st es=some H):
  Calls prog 125 #[hy P,.slice aT Q cL,iR ⟨[100,111,116],S,C⟩,hz bQ 2 ce] W (TrO W P J u1 u2 u3 u4 bs (rR [100,111,116] ⟨[100,111,116],S,C⟩ H)):=by
 have av:E _:=gW W [100,111,116] S C;have HK:E _:=ez 0 0 W (.cells #[eN [100,111,116],hA S,eN C] 119);exact qgp
end
section
variable{I:World}{P J:Nat}{u1 u2 u3 u4 o:Value}{st:LSt}{bs:List Bc}{aY:Loc}
section
variable{f:Nat}{W:World}{P J:Nat}{u1 u2 u3 u4:Value}{bs:List Bc}{st:LSt}{aT:Option Addr}{Q cL:Nat}{u:Loc}{g off m cap:Nat}{ts us v:List Tok}{a b d:Ex}{r:Rs (LSt×Nat)}
theorem bW.qcr(h:Zp:=by
 have y:=A2 R ah B
 have aB:ts++c::us=((k::l::(ts++c::(us++[q]))).drop 2).take (m-1-2):=by
  rw[List.drop_succ_cons,List.drop_succ_cons,List.drop_zero,show ts++c::(us++[q])=(ts++c::us)++[q] by simp,List.take_append_of_le_length yag,yap yag]
 have aX:∀x:List UInt8,x≠AY->x≠JZ->(k.sym==x)=false:=λx F N=>by
  rw[beq_eq_false_iff_ne]
  rintro rfl
  exact O.elim F N
 refine kO Y (Pr.key2 O af ar ah hb ap) (aX _ xab xab) (aX _ xab xab) (aX _ xab xab) (aX _ xab xab) (aX _ xab xab) xaa (ts++c::us) aB (by rw[oY (X:=[ts]) (y:=us) xac y _ yag];exact bL) _ (λI bf bB aj aW=>?_);rw[y]at aW⊢;obtain⟨bQ,rfl,aq,bO,aS⟩:=aW.at_ xac
 have bl:ArgS f I P J u1 u2 u3 u4 bs st aT Q cL u g bQ [a,b]:=ArgS.of al cL Y aj aq bO aS rfl (λi hi=>by
   match i,hi with
   |0,_=>exact ar
   |1,_=>exact hb) (λi hi=>by
   match i,hi with
   |0,_=>show ts.length<=m;omega
   |1,_=>show us.length<=m;omega) (λi hi=>by
   match i,hi with
   |0,_=>intro t ht;have j:t∈ts:=ht;simp[j]
   |1,_=>intro t ht;have j:t∈us:=ht;simp[j])
 obtain⟨aa,S,C⟩:=k;rcases O with O|O
 ·simp only at O;subst O;exact EO (Y.ws.keep aj) Y.gd S C rfl bl H K
 simp only at O;subst O;exact ER (Y.ws.keep aj) Y.gd S C rfl bl H K):Zp:=h
open bW in
theorem ES{k l c q}(al:TrC f)(Y:TrIn W P J u1 u2 u3 u4 bs st aT Q u g off m cap (k::l::(ts++c::(us++[q]))))(O:k.sym=AY\/k.sym=JZ)(af:l.sym=[40])(ar:Pr 2 [a] ts)(ah:c.sym=[44])(hb:Pr 2 [b] us)(ap:q.sym=[41])(h:eM (f+1) st u (.key2 k a b)=some r):
  Calls prog 101 #[hy P,.slice aT Q cL,.slice (some ⟨g,off,none⟩) m cap] W (TrO W P J u1 u2 u3 u4 bs r):=by
 have cq:k.sym≠yY:=by rcases O with e|e<;>(rw[e];decide)
 obtain⟨H,K,rfl⟩:=EM cq h;exact qcq
theorem ET{k l c c2 q}(al:TrC f)(Y:TrIn W P J u1 u2 u3 u4 bs st aT Q u g off m cap (k::l::(ts++c::(us++c2::(v++[q])))))(O:k.sym=yY)(af:l.sym=[40])(ar:Pr 2 [a] ts)(ah:c.sym=[44])(hb:Pr 2 [b] us)(Z:c2.sym=[44])(aK:Pr 2 [d] v)(ap:q.sym=[41])(h:eM (f+1) st u (.key3 k a b d)=some r):
  Calls prog 101 #[hy P,.slice aT Q cL,.slice (some ⟨g,off,none⟩) m cap] W (TrO W P J u1 u2 u3 u4 bs r):=by
 obtain⟨H,K,rfl⟩:=EN O h;have am:=Y.tk.len;simp only[yaq,yal,List.length_nil]at am;have aM:=iS ar;have z:=iS hb;have e:=iS aK;have bL:v≠[]:=λc=>by rw[c]at e;simp at e
 have R:=jw ar yad;have B:=jw hb yad;have n:=jw aK yad;have bu:=Y.mc;have y:=A3 R ah B Z n
 have aB:ts++c::(us++c2::v)=((k::l::(ts++c::(us++c2::(v++[q])))).drop 2).take (m-1-2):=by
  rw[List.drop_succ_cons,List.drop_succ_cons,List.drop_zero,show ts++c::(us++c2::(v++[q]))=(ts++c::(us++c2::v))++[q] by simp,List.take_append_of_le_length yag,yap yag]
 have aX:∀x:List UInt8,x≠yY->(k.sym==x)=false:=λx F=>by
  rw[beq_eq_false_iff_ne]
  rintro rfl
  exact F O
 refine kO Y (Pr.key3 O af ar ah hb Z aK ap) (aX _ xab) (aX _ xab) (aX _ xab) (aX _ xab) (aX _ xab) xaa (ts++c::(us++c2::v)) aB (by rw[oY (X:=[ts,us]) (y:=v) xac y _ yag];exact bL) _ (λI bf bB aj aW=>?_);rw[y]at aW⊢;obtain⟨bQ,rfl,aq,bO,aS⟩:=aW.at_ xac
 have bl:ArgS f I P J u1 u2 u3 u4 bs st aT Q cL u g bQ [a,b,d]:=ArgS.of al cL Y aj aq bO aS rfl (λi hi=>by
   match i,hi with
   |0,_=>exact ar
   |1,_=>exact hb
   |2,_=>exact aK) (λi hi=>by
   match i,hi with
   |0,_=>show ts.length<=m;omega
   |1,_=>show us.length<=m;omega
   |2,_=>show v.length<=m;omega) (λi hi=>by
   match i,hi with
   |0,_=>intro t ht;have j:t∈ts:=ht;simp[j]
   |1,_=>intro t ht;have j:t∈us:=ht;simp[j]
   |2,_=>intro t ht;have j:t∈v:=ht;simp[j])
 obtain⟨aa,S,C⟩:=k;simp only at O;subst O;exact EP (Y.ws.keep aj) Y.gd S C rfl bl H K
end
def lcc(b:List UInt8×Nat):List Value:=[eN b.1,.int .i64 (b.2:Int)]
def lcF:Loc->List Value
 |[]=>[]
 |b::r=>lcc b++lcF r
theorem K8(a b):lcF (a++b)=lcF a++lcF b:=by
 induction a<;>grind[lcF]
theorem K9(b):lcF [b]=lcc b:=by simp[lcF]
theorem In:∀(a:Loc) (k j:Nat),k<a.length->j<2->(lcF a)[k*2+j]? =(lcc (a.getD k ([],0)))[j]?
 |x::r,0,j,_,hj=>by
  grind[lcF,lcc]
 |x::r,k+1,j,O,hj=>by
  have an:(lcc x).length=2:=rfl
  rw[lcF,yas xaa,an,show(k+1)*2+j-2=k*2+j by omega]
  exact In r k j (by grind) hj
theorem Ol:(prog.info? 189).map (λi=>(i.zero,i.size,i.bytes))=some (some (.agg #[.string ⟨#[]⟩,hA 0]),2,24):=by kernel_rfl
theorem yg:∃bW,prog.info? 189=some bW/\bW.zero=some (.agg #[.string ⟨#[]⟩,hA 0])/\bW.size=2/\bW.bytes=24:=by
 have h:=Ol;simp_all
theorem La(w:World)(x v T):∀j u,(lcc (x,v))[j]? =some u->(w.alloc (.cells #[eN x,hA v] T)).cell? ((⟨w.heap.size,0,none⟩:Addr).add j)=some u:=by
 intro j u h;rw[jG,Nat.zero_add,yav];match j,h with
 |0,h=>exact h
 |1,h=>exact h
theorem uv(w){bz rest o a Q}(aG:o.guard=none)(s x)
  (ho:o.op=.call {callee:=.builtin .append,args:=#[s,x],argTypes:=#[174,174]})
  (J) (v) (aY:Loc) (au:a.eval s=v) (a6:w.ownsRow J 189 2 v aY.length (lcF aY))
  (ak) (k) (an:a.eval x=.slice (some ak) 1 1) (z:∀j u,(lcc k)[j]? =some u->w.cell? (ak.add j)=some u)
  (f:aY.length+1<=1000000) (ae:J<=w.heap.size)
  (h:∀g cap n B,n=(aY++[k]).length->B.ownsRow J 189 2 (hz g n cap) (aY.length+1) (lcF aY++lcc k)->Chg (λb=>v.ownBlock=some b) w B->(v.ownBlock=some g\/g=w.heap.size)->wpList prog bz Q rest (a.put o.dst (hz g n cap)) B):wpList prog bz Q (o::rest) a w:=by
 obtain⟨bW,hi,b4,b3,b0⟩:=yg;refine wpList_append_lies w aG s x _ ho J 189 _ _ 2 _ underlying174 hi b4 b3 b0 rfl xab v _ _ au a6 _ 1 1 _ an rfl z ?_ xab (by unfold maxLen;omega) xaa ae _ rfl ?_
 ·intro u aB;simp[lcc]at aB;rcases aB with rfl|rfl<;>rfl
 intro g cap B F N h3 _;have e:aY.length+1=(aY++[k]).length:=by grind
 rw[e]at F⊢;refine h g _ _ _ rfl ?_ (gh N) h3;grind
structure LvI(W W':World)(P B:Nat)(u1 u2 u3 u4:Value)(bs:List Bc)(st:LSt)(o:Value)(js:Loc):Prop where
 ex:∃v1 v2 v3 v4,WS W' P B v1 v2 v3 v4 bs st/\Mv (Mst P u1 u2 u3 u4) W (λb=>Mst P v1 v2 v3 v4 b\/o.ownBlock=some b) W'/\(∀b,o.ownBlock=some b->¬Mst P v1 v2 v3 v4 b)
 row:W'.ownsRow W.heap.size 189 2 o js.length (lcF js)
theorem LvI.keep{W ab}(h:LvI W I P J u1 u2 u3 u4 bs st o aY)(k:Kept 0 0 I ab):LvI W ab P J u1 u2 u3 u4 bs st o aY:=by
 exact xhb
theorem LvI.step{W az aB a5 a7 z G aQ a8 bi bk s}(bx:Mv (Mst P u1 u2 u3 u4) W (λb=>Mst P a5 a7 z G b\/o.ownBlock=some b) az)(aZ:∀b,o.ownBlock=some b->¬Mst P a5 a7 z G b)(X:az.ownsRow W.heap.size 189 2 o aY.length (lcF aY))(aK:WS aB P J aQ a8 bi bk bs s)(bv:Mv (Mst P a5 a7 z G) az (Mst P aQ a8 bi bk) aB):LvI W aB P J u1 u2 u3 u4 bs s o aY:=by
 exact xcm
theorem aB.qbe(h:Zp:=by
 refine⟨⟨a5,a7,z,G,F.side bu (λb hb c=>h3 b c hb) (λi hi=>?_),ao,λb hb c=>?_⟩,?_⟩
 ·exact xhh
 ·rw[bU]at hb;subst hb;exact f c
 rw[yal,K8,K9];exact K):Zp:=h
open aB in
theorem LvI.app{W bj g}(al:WS W P J u1 u2 u3 u4 bs g)(R:st.names=g.names)(h:LvI W I P J u1 u2 u3 u4 bs st o aY){g9 n9 cap9 x}(K:bj.ownsRow W.heap.size 189 2 (hz g9 n9 cap9) (aY.length+1) (lcF aY++lcc x))(bu:Chg (λb=>o.ownBlock=some b) I bj)(bg:o.ownBlock=some g9\/g9=I.heap.size):LvI W bj P J u1 u2 u3 u4 bs st (hz g9 n9 cap9) (aY++[x]):=by
 exact qbd
theorem LvI.nil{W}(h:WS I P J u1 u2 u3 u4 bs st)(k:Mv (Mst P u1 u2 u3 u4) W (Mst P u1 u2 u3 u4) I):LvI W I P J u1 u2 u3 u4 bs st (.slice none 0 0) []:=
 ⟨⟨u1,u2,u3,u4,h,⟨k.chg,λb hb=>.inl (hb.elim id (λc=>by simp[Value.ownBlock]at c))⟩,λb hb=>by simp[Value.ownBlock]at hb⟩,yaw _ _ _ _⟩
theorem oZ{w:World}{n}{e s:Nat}{v xs}(f:w.ownsRow J e s v n xs):∃a c,v=.slice a n c:=by
 rcases f.2 with⟨e,c⟩|⟨g,cap,av,e,_⟩<;>grind
theorem LvI.lc{W s}(h:LvI W I P J u1 u2 u3 u4 bs s o aY):∃a c a5 a7 z G,o=.slice a aY.length c/\WS I P J a5 a7 z G bs s/\Mv (Mst P u1 u2 u3 u4) W (Mst P a5 a7 z G) I/\LcR (Mst P a5 a7 z G) I a aY.length aY:=by
 obtain⟨a5,a7,z,G,aL,am,bG⟩:=h.ex;obtain⟨b1,cl,ho⟩:=oZ h.row;refine⟨_,_,_,_,_,_,ho,aL,⟨am.chg,λb hb=>am.new b (.inl hb)⟩,⟨rfl,λab=>?_⟩⟩;have X:=h.row;rcases X.2 with⟨_,c⟩|⟨g,c,av,e,R,aS,aa,_,b7,ba⟩
 ·omega
 rw[ho]at e;cases e;have aJ:g<I.heap.size:=by grind
 have aB:∀k j,k<aY.length->j<2->I.cell? _=(lcc _)[j]?:=λk j O hj=>by
  rw[cell_of_row _ g _ _ _ _ aS,<-Array.getElem?_toList]
  have:(av.toList.take (aY.length*2))[k*2+j]? =(lcF aY)[k*2+j]?:=by rw[ba]
  rw[List.getElem?_take_of_lt xaa]at this
  rw[this]
  exact In _ k j O hj
 refine⟨g,0,rfl,bG g (by rw[ho];simp[Value.ownBlock]),aJ,λk O=>⟨?_,?_⟩⟩
 ·rw[Nat.zero_add];exact aB k 0 O xaa
 rw[Nat.zero_add];exact aB k 1 O xaa
theorem WS.more{W}(h:WS W P J u1 u2 u3 u4 bs st):WS (W.setCell ⟨P,4,none⟩ (hA ((st.calls:Int)+1))) P J u1 u2 u3 u4 bs {st with calls:=st.calls+1}/\Mv (Mst P u1 u2 u3 u4) W (Mst P u1 u2 u3 u4) (W.setCell ⟨P,4,none⟩ (hA ((st.calls:Int)+1))):=by
 have S:=eR (lo:=P) (hi:=P+1) W ⟨P,4,none⟩ (hA (st.calls+1)) yac;have ao:Mv _ W (Mst P u1 u2 u3 u4) _:=⟨S.chg1 (.inl rfl),λb hb=>.inl hb⟩
 have es:∀o,o≠4->(W.setCell ⟨P,4,_⟩ (hA (st.calls+1))).cell? ⟨P,o,_⟩=W.cell? _:=λo al=>eQ _ _ _ _ _ _ (.inr (λe=>al e.symm));obtain⟨Z,n2,ab,u⟩:=h.np;exact⟨⟨by simpa using h.lt,λo=>by simp[h.fr o],(es 0 xab).trans h.c0,(es 1 xab).trans h.c1,(es 2 xab).trans h.c2,(es 3 xab).trans h.c3,fy _ _ _ _ _ h.c4,(es 5 xab).trans h.c5,(es 6 xab).trans h.c6,eI h.r1 Z,eI h.r2 n2,eI h.r3 ab,eI h.r4 u,h.np,h.ap,h.nl,λi hi=>(h.nb i hi).mv ao,h.sz⟩,ao⟩
def Io(p:Nat)(R:Rs (LSt×List Nat))(rb:Rs (LSt×Nat)):Rs (LSt×Nat):=match R with
 |.error f=>.error f
 |.ok (s1,_)=>if 500<=s1.calls then .error (5,p)else rb
theorem By{f u t es r}(h:eM (f+1) st u (.call t es)=some r):
  (((∀bb ps b,iQ st.names t.text≠some (.fn bb ps b))\/∃bb ps b,iQ st.names t.text=some (.fn bb ps b)/\ps.length≠es.length)/\r=.error (3,t.pos))\/
  ∃bb ps b H aj,iQ st.names t.text=some (.fn bb ps b)/\ps.length=es.length/\fY (λs e=>eM f s u e) st es=some H/\r=Io t.pos H aj/\∀ax xs,H=.ok (ax,xs)->¬500<=ax.calls->eM f {ax with calls:=ax.calls+1} ((ps.map (·.text)).zip xs) b=some aj:=by
 rw[eM]at h;cases a5:iQ st.names t.text with
 |none=>simp_all
 |some d=>
  rw[a5]at h;cases d with
  |val _ _=>simp_all
  |fn bb ps C=>
   simp only at h;by_cases c:ps.length=es.length
   ·rw[hD c]at h;refine .inr ⟨bb,ps,C,?_⟩;cases ar:fY (λs e=>eM f s u e) st es with
    |none=>grind
    |some q=>
     rw[ar]at h;rcases q with q|⟨ax,xs⟩
     ·exact⟨_,.error q,rfl,c,rfl,(hE h).symm,λ_ _ e=>by cases e⟩
     simp only at h;by_cases d:500<=ax.calls
     ·rw[hD d]at h;refine⟨_,.error (5,t.pos),rfl,c,rfl,?_,λaU bJ e aK=>?_⟩
      ·show r=if 500<=ax.calls then _ else _;simp_all
      grind
     rw[hC d]at h;refine⟨_,r,rfl,c,rfl,?_,λaU bJ e aK=>?_⟩
     ·show r=if 500<=ax.calls then _ else _;grind
     grind
   grind
end
section
attribute[local go_sem] eF eE eD
variable{P J Q cL g n off m bB cap:Nat}{u1 u2 u3 u4:Value}{bs:List Bc}{st:LSt}{aT bf:Option Addr}{u:Loc}{bb:List UInt8}{ps ts:List Tok}{e:Ex}
theorem Ip(l:List (List UInt8))(xs)(a:Nat)(h:xs.length<l.length):l.zip (xs++[a])=l.zip xs++[(l.getD xs.length [],a)]:=by
 induction xs generalizing l with
 |nil=>
  cases l with
  |nil=>simp at h
  |cons x r=>simp
 |cons y bJ G=>
  cases l with
  |nil=>simp at h
  |cons x r=>
   simp only[List.cons_append,List.zip_cons_cons,yaq,List.getD_cons_succ];rw[G r (by simpa using h)]
theorem CI(l:List (List UInt8))(xs:List Nat)(h:xs.length<=l.length):(l.zip xs).length=xs.length:=by
 rw[List.length_zip];omega
theorem cE.qda(h:Zp:=by
 generalize W.heap.size=aJ at av⊢;have bE:E _:=bq.o.keep HK.o;have c1:=av.o.c1;have c2:=av.o.c2;have c3:=bE.o.c3;have aa:E _:=rx bE.o.c3 bE.o.r4 a9 bv;have br:E _:=jq bE.o.c5 bE.o.c6 bE.o.fr 3 ps (Mst P u1 u2 u3 u4) (.inl rfl);have F:E _:=lX bE.o.r4;exact qey):Zp:=h
theorem cE.qez(h:Zp:=by
 rcases aX with⟨ak,bP,rfl,l,be⟩|⟨rfl,ad⟩
 ·have bg:E _:=oD bE.o bP l be;have w:E _:=bE.o.nb _ bP;obtain⟨bz,ce,e4,_,_,_,bp⟩:=F.o xaa;cases e4;obtain⟨_,aH,_,Y,_⟩:=bp _ bP;generalize bC:bs.length=nn at*;generalize bs.getD ak _=b at aH Y w;generalize st.names.getD ak _=ai at bg w;have bo:¬((ak:Int)<0):=xaa;cases ai with
  |val bb v=>
   have N:=w.o.2.1;rw[N]at aH;clear N l be bp bC w F bn;go_wp2_with (go_at_call 100;refine yaj br.o ?_;rintro e aF ⟨rfl,aB⟩);go_ret;rw[HR.o];exact⟨rfl,aB.c5,aB.c6,(Mv.of HK.o).bad aB.chg⟩
  |fn bb o e=>
   have N:=w.o.2.1;have ca:=w.o.2.2.1.len
   have bL:o.length≠n:=by
    rcases bn.o with c|⟨p,j,G,ae,c⟩
    ·exact absurd bg.o (c _ _ _)
    rw[bg.o]at ae;cases ae;exact c
   have f:(b.pn==(n:Int))=false:=yax xaa;rw[N]at aH;clear N l be bp bC w F bn bL ca;generalize b.pn=bd at Y f;go_wp2_with (go_at_call 100;refine yaj br.o ?_;rintro e aF ⟨rfl,aB⟩);go_ret;rw[HR.o];exact⟨rfl,aB.c5,aB.c6,(Mv.of HK.o).bad aB.chg⟩
 clear ad F bn c3;go_wp2_with (go_at_call 100;refine yaj br.o ?_;rintro e aF ⟨rfl,aB⟩);exact xec):Zp:=h
open cE in
theorem Iq{W}(h:WS W P J u1 u2 u3 u4 bs st)(an:Gd st)(t)(hb:(∀bb ps b,iQ st.names t.text≠some (.fn bb ps b))\/∃bb ps b,iQ st.names t.text=some (.fn bb ps b)/\ps.length≠n):
  Calls prog 124 #[hy P,.slice aT Q cL,iR t,.slice bf n bB] W (TrO W P J u1 u2 u3 u4 bs (.error (3,t.pos))):=by
 obtain⟨aO,ps,bv⟩:=t;have av:E _:=gW W aO ps bv;have HK:E _:=ez 0 0 W (.cells #[eN aO,hA ps,eN bv] 119);have bq:E _:=h;have a9:bs.length<=100000:=by rw[h.nl];have:=an.m;omega
 have bn:E _:=hb;obtain⟨r,aD⟩:∃r:Rs (LSt×Nat),r=.error (3,ps):=⟨_,rfl⟩
 simp only at bn⊢;rw[<-aD];have HR:E _:=aD;clear aD h an hb;exact qcz
theorem WS.fnc{W}(h:WS W P J u1 u2 u3 u4 bs st){k}(O:k<bs.length)(aK:st.names.getD k (.val [] 0)=.fn bb ps e):∃bz ce,u4=hz bz bs.length ce/\W.cell? ⟨P,3,none⟩=some (hz bz bs.length ce)/\W.cell? ⟨bz,k*5+1,none⟩=some (.bool true)/\W.cell? ⟨bz,k*5+3,none⟩=some (.slice (bs.getD k hH).pa ps.length (bs.getD k hH).pc)/\W.cell? ⟨bz,k*5+4,none⟩=some (.slice (bs.getD k hH).ba (bs.getD k hH).bn (bs.getD k hH).bc)/\TkR (Mst P u1 u2 u3 u4) W (bs.getD k hH).pa ps.length ps/\∃ts,Pr 2 [e] ts/\TsOK ts/\(bs.getD k hH).bn<=(bs.getD k hH).bc/\TkR (Mst P u1 u2 u3 u4) W (bs.getD k hH).ba (bs.getD k hH).bn ts:=by
 obtain⟨bz,ce,e4,_,_,_,bp⟩:=lX h.r4 xaa;have hb:=h.nb k O;rw[aK]at hb;obtain⟨_,aS,aa,ts,bi,⟨b7,ba⟩,ck⟩:=hb;obtain⟨_,aH,_,Y,bC⟩:=bp k O;rw[aS]at aH;rw[<-aa.len]at Y aa;have c3:=h.c3;grind
theorem cF.qda(h:Zp:=by
 generalize W.heap.size=aJ at av HF⊢;have bE:E _:=bq.o.keep HK.o;have c2:=av.o.c2;have aa:E _:=rx bE.o.c3 bE.o.r4 a9 bv;have c3:=bE.o.c3;exact qey):Zp:=h
theorem cF.qez(h:Zp:=by
 clear aa c2;rcases aX with⟨ak,bP,rfl,l,be⟩|⟨rfl,ad⟩
 ·have HD:E (st.names.getD ak (.val [] 0)=.fn bb ps C):=by
   have:=oD bE.o bP l be;rw[bg.o]at this;exact(hE this).symm
  have HFn:E (∀I a5 a7 z G s,WS I P J a5 a7 z G _ s->s.names=st.names->_):=λI a5 a7 z G s X au=>X.fnc bP (hL au HD.o);clear l be bg;obtain⟨bz,ce,e4,_,aH,Y,_,_⟩:=HFn.o _ _ _ _ _ _ bE.o rfl;cases e4;rw[j.o]at Y;have bo:¬((ak:Int)<0):=xaa;have cW:=bP;generalize bC:bs.length=nn at c3 bP a9;have aZ:E _:=LvI.nil bE.o (Mv.refl _ _);go_upto_region 4 with fail;clear aH Y c3;go_wp2_with fail;go_loopw [10,11] (λS cp I=>∃(k:Nat) (s:LSt) (xs:List Nat),k<=n/\cp=hA k/\xs.length=k/\E (fY (λs e=>eM f s u e) st (es.take k)=some (.ok (s,xs)))/\E (LvI az I P J u1 u2 u3 (hz bz bs.length cI) bs s S ((ps.map (·.text)).zip xs))/\E (Gw st s)/\E (∀i∈xs,i<s.vs.length)) (λ_ cp _=>n-(intOf cp).toNat)
  case atStart=>exact⟨0,_,_,yae,rfl,rfl,(show E _ by show _=_;rw[List.take_zero];rfl),(show E _ from(by rw[List.zip_nil_right];exact aZ.o)),(show E _ from Gw.refl ch.o),(show E _ from λi hi=>by cases hi)⟩
  case round=>
   obtain⟨k,s,xs,bK,rfl,(ay:E _),aI,bh,v,O⟩:=hrel;clear aZ;by_cases aG:k<n
   ·obtain⟨aQ,a8,bi,bk,aL,am,bG⟩:=bh.o.ex;have bT:Mv _ _ _ _:=⟨am.chg,λb hb=>am.new b (.inl hb)⟩
    obtain⟨bQ,bZ,a2⟩:=ao.o xaa;obtain⟨dd,cR,cT,cU⟩:=mw _ _ _ H aS.o k (hL ae.o aG) s _ aI.o;obtain⟨o,Z,c1,y,cV⟩:=a2.call k (hL ae.o aG);obtain⟨bW,cS⟩:=cV s _ _ _ _ _ _ v.o cR aL ((Mv.of HK.o).trans bT);rw[<-a2.cell ((Mv.of HK.o).trans bT).chg k]at y;subst bZ;have cK:E _:=cT;have cQ:E _:=cU;have cM:E _:=bW;have b1:E _:=cS;have aR:E _:=am;have b5:E _:=bG;have cO:E _:=(Mv.of HK.o).trans bT;clear cR cT cU bW cS cV aL am bG bT a2;rcases dd with⟨c,p⟩|⟨aU,U⟩
    ·exact xbt
    exact qgl
   obtain rfl:k=n:=xaa
   have cu:E (H=.ok (s,xs)):=by
    have F:=aI.o;rw[yap (by rw[ae.o];exact yad),aS.o]at F;exact hE F
   obtain⟨cw,cJ,aQ,a8,bi,bk,rfl,aL,am,w⟩:=bh.o.lc
   have b0:((ps.map (·.text)).zip xs).length=k:=by
    rw[CI _ _ (by rw[ay.o,List.length_map,j.o];exact yad),ay.o]
   rw[b0]at w⊢;have aR:E _:=am;have cy:E _:=(Mv.of HK.o).trans am;have ck:E _:=av.o.keepC am.chg HF.o;have q:=aL.c4;by_cases ah:500<=s.calls
   ·have bI:E (r=.error (5,pos)):=by show _=_;rw[HR.o,cu.o];show(if 500<=s.calls then _ else _)=_;rw[hD ah]
    have br:E _:=jq aL.c5 aL.c6 aL.fr 5 pos (Mst P aQ a8 bi bk) (.inl rfl);have R:=ck.o.c1;have aV:(500:Int)<=s.calls:=xaa;clear aL am w bh HR cu aI v O aS ch ao;generalize s.calls=bu at q ah aV;go_wp2_with (go_at_call 100;refine yaj br.o ?_;rintro e bc ⟨rfl,aB⟩);go_ret;rw[bI.o];exact⟨rfl,aB.c5,aB.c6,cy.o.bad aB.chg⟩
   have bI:E (r=aj):=by show _=_;rw[HR.o,cu.o];show(if 500<=s.calls then _ else _)=_;rw[hC ah]
   have aV:¬(500:Int)<=s.calls:=xaa;obtain⟨bN,bF⟩:=aL.more;have bO:=aq.o s _ cu.o ah;have bp:Gw _ {s with calls:=s.calls+1}:=⟨⟨v.o.g.n,v.o.g.c,v.o.g.ok,v.o.g.k,v.o.g.i,v.o.g.o,v.o.g.m⟩,v.o.n,v.o.l,v.o.i,v.o.o,v.o.m⟩
   have b7:=aL.fr 4;obtain⟨cD,bS,_,f3,_,_,ap,_,ts,ba,aF,b3,bn⟩:=HFn.o _ _ _ _ _ _ bN v.o.m;have af:=iS ba;have bl:=bn.len;obtain⟨bX,bU,bY,ci,bH⟩:=bn.at_ xaa;have b8:=aF.n5;have N:E _:=al _ P J _ _ _ _ _ _ _ k cJ _ _ _ _ _ _ ⟨bN,bp.g,NmOK.gw cP.o bp,w.mv bF,cn,(λb hb=>O.o _ (List.of_mem_zip (show(b.1,b.2)∈_ from hb)).2),bH,ci,by omega,b3,aF.ti,aF.tn⟩ 2 _ ba yad _ bO;rw[bY]at ap
   have bV:E (Calls _ _ _ _ λe ab=>(∃x:Int,e=.returned _)/\E (TrO W P J _ _ _ _ _ r e _)):=yaj N.o (λe ab t=>⟨t.ret,by
    show TrO W P J u1 u2 u3 (hz bz bs.length cI) bs r e ab
    rw[bI.o]
    exact TrO.after (cy.o.trans bF) t⟩)
   clear aL am w bh HR cu aI v O aS ch ao N bN bF bO bp bH bn aF ba ci aq aR cy ck HFn bI HD cP;rw[bC]at f3;generalize s.calls=bu at*;generalize (bs.getD ak _).bn=cH at*;generalize (bs.getD ak _).bc=cA at*;go_wp2_with (go_at_call 101;refine yaj bV.o ?_;rintro e cl ⟨⟨x,rfl⟩,bd⟩);go_ret;exact bd.o
 exfalso;have:=oX bE.o ad;rw[bg.o]at this;cases this):Zp:=h
theorem cF.qgm(h:Zp:=by
 go_upto_region 11 with (go_at_call 101;refine yaj b1.o ?_;rintro e bc ⟨rfl,aP,y2,y3,y4,a6,bm⟩);have cd:E _:=LvI.step aR.o b5.o bh.o.row a6 bm;have cG:E (az.heap.size<=bc.heap.size):=by show _<=_;have:=aR.o.chg.size;have:=bm.chg.size;omega
 have bw:E _:=cN.o.m;obtain⟨cD,bS,_,f3,_,ap,_,ar,_⟩:=HFn.o _ _ _ _ _ _ a6 bw.o;rw[j.o]at ap ar;obtain⟨bR,op,B,_,bH⟩:=ar.at_ xaa;have cf:=bH.c2 k aG;rw[B]at ap
 have bx:E ((ps.map (·.text)).getD xs.length []=(ps.getD k hG).text):=by
  show _=_;rw[ay.o,yai,List.getElem?_map,yai,yam (hL j.o aG)];rfl
 have b2:E ((ps.map (·.text)).zip (xs++[U])=(ps.map (·.text)).zip xs++[((ps.getD k hG).text,U)]):=by
  show _=_;rw[Ip _ _ _ (by rw[ay.o,List.length_map,j.o];exact aG),bx.o]
 have bJ:E (((ps.map (·.text)).zip xs).length=k):=by
  show _=_;rw[CI _ _ (by rw[ay.o,List.length_map,j.o];omega),ay.o]
 generalize (ps.getD k _).text=bA at cf b2;have b9:=La bc bA U 189;have a0:=ez 0 0 bc (.cells #[eN bA,hA U] 189);have aM:E _:=cd.o.keep a0;clear cd bh aR b5 cO cM b1 cK cQ y a6 bm v O aI bD ar bH B bx;generalize (ps.map _).zip _=aY at aM b2 bJ;rw[bC]at f3;go_wp2_with (first|(at_builtin;refine uv _ rfl _ _ rfl _ _ _ (by rfl) aM.o.row _ _ (by rfl) b9 ?c2 ?c3 ?_)|fail)
 case c2=>have:=bJ.o;omega
 case c3=>have:=cG.o;simp;omega
 intro g9 cap9 n9 bj aw bM aN b6;have R1:E _:=LvI.app bE.o bw.o aM.o bM aN (b6.imp id (λe=>by rw[e];simp));rw[<-b2.o]at R1;clear bM aN b6 aw a0 b9 f3 ap cf;go_wp2_with fail;go_roundw;exact⟨k+1,aU,xs++[U],by omega,by go_num,by rw[yal,ay.o];rfl,cC,R1,cN,c7⟩;simp[intOf];omega):Zp:=h
open cF in
theorem Lb{f}(al:TrC f){W}(h:WS W P J u1 u2 u3 u4 bs st)(an:Gd st)(aK:NmOK st)(t){es}(cx:es.length=n)(cn:n<=5000)(aW:0<n->∃bQ,bf=some ⟨bQ,0,none⟩/\ArgS f W P J u1 u2 u3 u4 bs st aT Q cL u g bQ es){C}(ai:iQ st.names t.text=some (.fn bb ps C))(bL:ps.length=n)(H)(K:fY (λs e=>eM f s u e) st es=some H)(aj)(aA:∀ax xs,H=.ok (ax,xs)->¬500<=ax.calls->eM f {ax with calls:=ax.calls+1} ((ps.map (·.text)).zip xs) C=some aj):
  Calls prog 124 #[hy P,.slice aT Q cL,iR t,.slice bf n bB] W (TrO W P J u1 u2 u3 u4 bs (Io t.pos H aj)):=by
 obtain⟨aO,pos,bv⟩:=t;have av:E _:=gW W aO pos bv;have HK:E _:=ez 0 0 W (.cells #[eN aO,hA pos,eN bv] 119);have bq:E _:=h;have HF:E _:=h.far;have ch:E _:=an;have cP:E _:=aK;have ae:E _:=cx;have ao:E _:=aW;have bg:E _:=ai;have j:E _:=bL;have aS:E _:=K;have aq:E _:=aA;have a9:bs.length<=100000:=by rw[h.nl];have:=an.m;omega
 obtain⟨r,aD⟩:∃r,r=Io pos H aj:=⟨_,rfl⟩
 simp only at bg⊢;rw[<-aD];have HR:E _:=aD;clear aD h an aK cx aW ai bL K aA;exact qcz
theorem m.qai(h:Zp:=by
 exact qdk):Zp:=h
theorem m.qdl(h:Zp:=by
 have au:E _:=f.o az HK.o;clear c0 c1 c2 K ae f;generalize (fQ us).length=j at au i⊢;go_upto_region 29 with (go_at_call 123;refine yaj au.o ?_;rintro e ag ⟨bf,bB,rfl,h,ak⟩);have y:E _:=av.o.keep ak
 have O:E (SgR ag g W.heap.size bf (fQ us)):=⟨λcj=>by
  obtain⟨bQ,aC,aL,b1⟩:=h.at_ cj
  exact⟨bQ,aC,yao b2.o aL,b1⟩⟩
 have bZ:E _:=yaj (i.o ag bf bB (HK.o.trans ak) O.o) (λe ab t=>(⟨TrO.ret t,TrO.back (HK.o.trans ak) t⟩:(∃x:Int,e=.returned (hA x))/\E (TrO W P J u1 u2 u3 u4 bs r e ab)));unfold iR at bZ;simp only at bZ;clear bE R aS av h i au O;have bE:=y.o.c0;have R:=y.o.c1;have aS:=y.o.c2;clear y ak;exact xgp):Zp:=h
theorem m.qee(h:Zp:=by
 have f:E (∀I,Kept 0 0 W I->_):=λI aj=>Cw I g (off+6) (m-3) (cap-2) us (by
  have t:=(Y.tk.keep aj).in_ 2 (m-1) us aB xaa
  rw[show m-1-2=m-3 by omega]at t
  exact t) xaa xaa xaa bL
 have i:E _:=HC;generalize ts.getD 0 hG=t at*;clear Y aM HC bL aB;exact qfq):Zp:=h
open m in
theorem Bz{W}(Y:TrIn W P J u1 u2 u3 u4 bs st aT Q u g off m cap ts)(aM:Pr 0 [e] ts)(al:(ts.getD 0 hG).sym=[110,97,109,101])(N:4<=m)(us)(aB:us=(ts.drop 2).take (m-1-2))(bL:(spQ us (m-3)).cur≠[])(r)
  (HC:∀I bf bB,Kept 0 0 W I->SgR I g W.heap.size bf (fQ us)->Calls prog 124 #[hy P,.slice aT Q cL,iR (ts.getD 0 hG),.slice bf (fQ us).length bB] I (TrO I P J u1 u2 u3 u4 bs r)):
  Calls prog 101 #[hy P,.slice aT Q cL,.slice (some ⟨g,off,none⟩) m cap] W (TrO W P J u1 u2 u3 u4 bs r):=by
 exact qfv
theorem n.qai(h:Zp:=by
 exact qdk):Zp:=h
theorem n.qdl(h:Zp:=by
 clear c0 c1 c2 K ae;go_upto_region 29 with (go_at_call 123;refine yaj (f.o _ _ _ _ xaa) ?_;rintro e ag ⟨rfl,X⟩;obtain rfl:=X.symm);have y:E _:=av.o;have bZ:E _:=yaj (i.o az HK.o) (λe ab t=>(⟨TrO.ret t,TrO.back HK.o t⟩:(∃x:Int,e=.returned (hA x))/\E (TrO W P J u1 u2 u3 u4 bs r e ab)));unfold iR at bZ;simp only at bZ;clear bE R aS av i f;have bE:=y.o.c0;have R:=y.o.c1;have aS:=y.o.c2;clear y;exact xgp):Zp:=h
theorem n.qee(h:Zp:=by
 have f:E (∀(I:World) (a:Option Addr) (n ce:Nat),n=0->Calls prog 123 #[.slice a n ce] I λe bS=>e=.returned (.slice none 0 0)/\bS=I):=λI a n ce e=>by subst e;exact zU I a ce
 have i:E _:=HC;have h:m<=3:=xaa;have j:3<=m:=xaa;clear N;generalize ts.getD 0 hG=t at*;clear Y aM HC;exact qfq):Zp:=h
open n in
theorem Ag{W}(Y:TrIn W P J u1 u2 u3 u4 bs st aT Q u g off m cap ts)(aM:Pr 0 [e] ts)(al:(ts.getD 0 hG).sym=[110,97,109,101])(N:m=3)(r)
  (HC:∀I,Kept 0 0 W I->Calls prog 124 #[hy P,.slice aT Q cL,iR (ts.getD 0 hG),.slice none 0 0] I (TrO I P J u1 u2 u3 u4 bs r)):
  Calls prog 101 #[hy P,.slice aT Q cL,.slice (some ⟨g,off,none⟩) m cap] W (TrO W P J u1 u2 u3 u4 bs r):=by
 exact qfv
section
variable{f:Nat}{W:World}{P J:Nat}{u1 u2 u3 u4:Value}{bs:List Bc}{st:LSt}{aT:Option Addr}{Q cL:Nat}{u:Loc}{g off m cap:Nat}{ts:List Tok}{es:List Ex}{r:Rs (LSt×Nat)}
theorem Ah(al:TrC f)(h:WS W P J u1 u2 u3 u4 bs st)(an:Gd st)(aK:NmOK st)(t)(cn:es.length<=5000){bf bB}(aW:0<es.length->∃bQ,bf=some ⟨bQ,0,none⟩/\ArgS f W P J u1 u2 u3 u4 bs st aT Q cL u g bQ es)(aZ:eM (f+1) st u (.call t es)=some r):
  Calls prog 124 #[hy P,.slice aT Q cL,iR t,.slice bf es.length bB] W (TrO W P J u1 u2 u3 u4 bs r):=by
 rcases By aZ with⟨hb,rfl⟩|⟨bb,ps,b,H,aj,a5,aM,K,rfl,aA⟩
 ·exact Iq h an t hb
 exact Lb al h an aK t rfl cn aW a5 aM H K _ aA
theorem BA{t l q}(al:TrC f)(Y:TrIn W P J u1 u2 u3 u4 bs st aT Q u g off m cap [t,l,q])(ht:t.sym=gK)(af:l.sym=[40])(ap:q.sym=[41])(h:eM (f+1) st u (.call t [])=some r):
  Calls prog 101 #[hy P,.slice aT Q cL,.slice (some ⟨g,off,none⟩) m cap] W (TrO W P J u1 u2 u3 u4 bs r):=by
 refine Ag Y (Pr.call0 ht af ap) ht Y.tk.len.symm r (λI aj=>?_);exact Ah (es:=[]) (g:=g) al (Y.ws.keep aj) Y.gd Y.nm t xac (λc=>by simp at c) h
theorem Ir:∀(ts:List Tok) (q:SpS),(∀s∈(lQ q ts).ou,s∈q.ou\/s.Sublist (q.cur++ts))/\(lQ q ts).cur.Sublist (q.cur++ts)
 |[],q=>⟨λs au=>.inl au,by rw[List.append_nil];exact List.Sublist.refl _⟩
 |t::ts,q=>by
  rw[kJ]
  obtain⟨F,N⟩:=Ir ts (it q t)
  have aB:(it q t).ou=q.ou/\(it q t).cur=q.cur++[t]\/(it q t).ou=q.ou++[q.cur]/\(it q t).cur=[]:=by
   unfold it;split
   ·exact .inl ⟨rfl,rfl⟩
   ·split
    ·exact .inl ⟨rfl,rfl⟩
    ·split
     ·exact .inr ⟨rfl,rfl⟩
     ·exact .inl ⟨rfl,rfl⟩
  rcases aB with⟨ae,a9⟩|⟨ae,a9⟩
  ·rw[ae,a9,List.append_assoc]at F
   rw[a9,List.append_assoc]at N
   exact⟨F,N⟩
  ·rw[ae,a9,List.nil_append]at F
   rw[a9,List.nil_append]at N;have au:=((List.sublist_cons_self t ts).trans (List.sublist_append_right q.cur (t::ts)))
   refine⟨λs ch=>?_,N.trans au⟩;rcases F s ch with c|c
   ·rcases List.mem_append.1 c with c|c
    ·exact .inl c
    simp at c;subst c;exact .inr (List.sublist_append_left _ _)
   exact .inr (c.trans au)
theorem EU{ts}(h:ts≠[]):∀i,i<(fQ ts).length->((fQ ts).getD i []).length<=ts.length/\∀t∈(fQ ts).getD i [],t∈ts:=by
 intro i hi;have am:(fQ ts).getD i []∈fQ ts:=by simp_all
 have au:((fQ ts).getD i []).Sublist ts:=by
  generalize (fQ _).getD i _=s at am⊢;unfold fQ at am;rw[hC h]at am;obtain⟨F,N⟩:=Ir ts ⟨0,[],[]⟩;rcases List.mem_append.1 am with c|c
  ·simp_all
  grind
 grind
theorem Is{n es ts}(h:Pr n es ts):es.length<=ts.length:=by
 induction h<;>grind
theorem EV{t l q}(al:TrC f)(Y:TrIn W P J u1 u2 u3 u4 bs st aT Q u g off m cap (t::l::(ts++[q])))(ht:t.sym=gK)(af:l.sym=[40])(ar:Pr 3 es ts)(ap:q.sym=[41])(h:eM (f+1) st u (.call t es)=some r):
  Calls prog 101 #[hy P,.slice aT Q cL,.slice (some ⟨g,off,none⟩) m cap] W (TrO W P J u1 u2 u3 u4 bs r):=by
 have am:=Y.tk.len;simp only[yaq,yal,List.length_nil]at am;have aM:=iS ar;have bu:=Y.mc;have bL:ts≠[]:=λc=>by grind
 obtain⟨cI,ch⟩:=A6 ar;have aB:ts=((t::l::(ts++[q])).drop 2).take (m-1-2):=by grind
 have o:0<es.length:=by grind[fQ]
 have cx:=Is ar
 have j:(spQ ts (m-3)).cur≠[]:=by
  have af:=ch (es.length-1) xaa;have e:(fQ ts).getD (es.length-1) []=(spQ ts (m-3)).cur:=by grind[spQ,fQ]
  rw[e]at af;exact MP af
 refine Bz Y (Pr.call ht af ar ap) ht xaa _ aB j r (λI bf bB aj aW=>?_);obtain⟨bQ,rfl,aq,bO,aS⟩:=aW.at_ xaa;rw[cI];have aU:=EU bL;have bl:=ArgS.of al cL Y aj aq bO aS cI ch (λi hi=>yao (aU i hi).1 xaa) (λi hi t ht=>by grind);have p:=Y.m5;exact Ah al (Y.ws.keep aj) Y.gd Y.nm t xaa (λ_=>⟨_,rfl,bl⟩) h
