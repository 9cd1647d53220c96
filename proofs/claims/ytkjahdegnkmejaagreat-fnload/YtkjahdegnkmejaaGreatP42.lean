import Derived.Test.YtkjahdegnkmejaaGreatP41
namespace Go.Proofs.Z
variable{Zp:Prop}
open Tryz Go.RowKit Flt
set_option maxRecDepth 1000000
set_option maxHeartbeats 0
section
attribute[local go_sem] eE eC eB
def Qi(p:Nat)(r:Rs (LSt×Nat)):Rs (LSt×Nat):=match r with
 |.error f=>.error f
 |.ok (s3,j)=>fQ s3 (eK 9 1 (j:Int) 0 0) p
theorem aW.qbo(h:Zp:=by
 have b7:V _:=ao.o.keepC bC.chg aO.o;obtain⟨b5,cv,be,cr,b4⟩:=a8.lenc aB;have bT:=b7.o.c0;have bn:=a8.c1;rw[be]at bn;have cH:V _:=FtI.lit a8 bC a;have bR:V (fY _ _ (es.take 1)=some (.ok (av,[a]))):=HO.o _ a rfl;have b8:V _:=w;have c6:V (∀i∈[a],i<av.vs.length):=by intro i hi;simp at hi;subst hi;exact aB
 have bL:=w.g.n;clear bD aw HE HO bC a8 be cr w bE a0;generalize eW _ a=l at b4;generalize N:av.vs.length=aZ at b4 bn aB bL;clear N;go_upto_region 34 with fail;clear b4 bn bT b7;go_wp2_with fail;go_loopw [18,19] (λd2 bZ F=>∃(k:Nat) (s:LSt) (xs:List Nat),1<=k/\k<=2/\bZ=ih k/\xs.length=k/\V (fY (λs e=>eM f s u e) st (es.take k)=some (.ok (s,xs)))/\V (FtI aq F P I u1 u2 u3 u4 bs s d2 xs)/\V (Gw st s)/\V (∀i∈xs,i<s.vs.length)) (λ_ bZ _=>2-(intOf bZ).toNat)
 case atStart=>exact⟨1,_,_,yad,by decide,rfl,rfl,bR,cH,b8,c6⟩
 case round=>
  obtain⟨k,s,xs,c7,ct,rfl,(aD:V _),bp,bi,v,J⟩:=hrel;clear bR cH b8 c6;by_cases aY:k<2
  ·obtain⟨aV,bg,bq,bB,ar,ae,bI⟩:=bi.o.ex;have b0:Mv _ _ _ _:=⟨ae.chg,λb hb=>ae.new b (.inl hb)⟩
   obtain⟨dd,cU,cW,cX⟩:=mq _ _ _ H bY.o k (jn a6.o aY) s _ bp.o;obtain⟨o,Y,c1,y,cG⟩:=m.o.call k (jn a6.o aY);obtain⟨cl,cV⟩:=cG s _ _ _ _ _ _ v.o cU ar ((Mv.of HK.o).trans b0);rw[<-m.o.cell ((Mv.of HK.o).trans b0).chg k]at y;have cM:V _:=cW;have cT:V _:=cX;have cN:V _:=cl;have cf:V _:=cV;have aF:V _:=ae;have cq:V _:=bI;have cQ:V _:=(Mv.of HK.o).trans b0;clear cU cW cX cl cV cG ar ae bI b0;rcases dd with⟨c,p⟩|⟨aT,K⟩
   ·exact xca
   exact qgz
  obtain rfl:k=2:=xaa
  have cy:V (H=.ok (s,xs)):=by
   exact xfc
  obtain⟨co,d4,aV,bg,bq,bB,rfl,ar,(aF:V _),a9⟩:=bi.o.xs;have ad:V _:=zw ar v.o.g _ _ d4 _ a9 (by rw[aD.o];decide) J.o aS;have cw:V _:=ao.o.keepC aF.o.chg aO.o;have aI:V (r=mr [100,111,116] ⟨[100,111,116],aS,aa⟩ s xs):=by show _=_;rw[HR.o,cy.o];rfl
  have ak:V _:=λG Z (aG:jN s _ aS=.ok (G,Z))=>ll v.o.g _ _ J.o aG;exact qfq):Zp:=h
theorem aW.qdo(h:Zp:=by
 have bO:¬Mst P _ _ _ _ _:=λc=>(cA.o.new _ c).elim aO.o (λc=>i4 ao.o.lt);have cB:V _:=(Mv.of HK.o).trans cA.o;have bk:V (∀F,Kept 0 0 _ F->F.cell? _=some _/\F.cell? _=some _/\F.cell? _=some _/\F.cell? _=some _/\F.cell? ⟨_,of,_⟩=some (.int _ d)/\F.cell? _=some (.int _ U)):=λF al=>⟨(bN.o.keep al).c0,(bN.o.keep al).c1,(aR.keep al).c1,(al.cell cr xaa).trans b4,(al.cell aK xaa).trans (cx 0 xac),(al.cell aK xaa).trans (cx 1 xac)⟩
 exact qfm):Zp:=h
theorem aW.qfn(h:Zp:=by
 obtain⟨bK,a1,K,a3,a4,ba⟩:=bk.o _ i3;exact qgt):Zp:=h
theorem aW.qfr(h:Zp:=by
 rcases q with⟨c,p⟩|⟨G,Z⟩
 ·exact xcj
 obtain⟨aC,b2,nn,br⟩:=ak.o _ _ rfl;rw[aD.o]at b2
 obtain⟨d,U,rfl⟩:∃d U,Z=[d,U]:=by
  match Z,b2 with
  |[a,b],_=>exact⟨a,b,rfl⟩
 have aj:=(br d xac).1;have d9:=br U xac;have a5:=jE aj;have cj:=jE d9.1;rw[d9.2,<-(br d xac).2]at cj;have eg:V _:=aC.g.v.two (.inr (.inr (.inl rfl))) a5 cj;clear d9 a5 cj
 have cn:V (r=Qi aS (fQ G (eK 4 (eW G d) d U 0) aS)):=by
  show _=_;rw[aI.o];unfold mr;rw[<-bQ.o];rfl
 exact qdn):Zp:=h
theorem aW.qgg(h:Zp:=by
 change Code.wp _ _ _ _ (W.alloc (.cells _ 127));generalize W.alloc _=aq at ao HK⊢;generalize W.heap.size=bP at ao aO⊢;obtain⟨bo,bl,dp,dv⟩:=mq _ _ _ H bY.o 0 (by rw[a6.o];decide) _ _ rfl;obtain⟨o,ay,c0,a0,bv⟩:=m.o.call 0 (by rw[a6.o];decide);obtain⟨ds,c8⟩:=bv _ _ _ _ _ _ _ (Gw.refl cp.o) bl (bF.o.keep HK.o) (Mv.of HK.o);rw[<-m.o.cell (Mv.of HK.o).chg 0]at a0;have HE:V _:=dp;have HO:V _:=dv;have bD:V _:=ds;have aw:V _:=c8;have bE:=ao.o.c0;clear bl dp dv ds c8 bv;rcases bo with⟨c,p⟩|⟨av,a⟩
 ·exact xct
 obtain⟨w,aB⟩:=bD.o _ a rfl;exact qbn):Zp:=h
theorem aW.qgu(h:Zp:=by
 have cS:V _:=λck eb (aA:fQ _ _ aS=.ok (ck,eb))=>ot da.o eg.o aA;have ai:V (∀F,Kept 0 0 _ _->Calls _ _ _ _ λe z=>(∃x:Int,e=.returned _)/\V (TrO _ P I _ _ _ _ _ _ e _)/\z.cell? _=some _/\z.cell? _=some _/\z.cell? _=some _):=λF al=>yaj (lV (di.o.keep al) da.o (eK 4 (eW G _) d U 0) d0 yah aS) (λe z t=>⟨t.ret,TrO.back al t,dg.o F _ al t.chg⟩);clear dg da di d0 aC HK bF aO bK a1 K a3 a4 ba;generalize fQ G _ _=d7 at cn cS ai;generalize eW G _=l at bk ai bj⊢;generalize G.vs.length=aZ at*;generalize bx.drewN _=bz at ab bj⊢;obtain⟨bK,a1,K,a3,a4,ba⟩:=bj.o;go_upto_region 50 with fail;rcases d7 with⟨c,p⟩|⟨ck,eb⟩
 ·have d3:V (r=.error _):=cn.o
  go_region_held3 (λO=>O.cell? ⟨bP,1,none⟩=some (ih aS)/\O.cell? ⟨j,of,none⟩=some (ih (d:Nat))/\O.cell? ⟨j,of+1,none⟩=some (ih (U:Nat))) (go_keep)
   (first
    |(go_at_call 60;refine yaj (gq _ _ _ _ _ _) ?_;rintro e ch ⟨rfl,b6⟩;obtain⟨bm,aW,bd,cu,cD,cC⟩:=bk.o _ (ab.o.trans ((eD _).trans b6)))
    |(go_at_call 105;refine yaj (ai.o _ (ab.o.trans ((eD _).trans b6))) ?_;rintro e ci ⟨⟨_,_⟩,bh,ca,cc,bS⟩;obtain rfl:=bh.o.1))
  all_goals (
   go_wp2_with fail
   go_ret
   rw[d3.o]
   exact TrO.after cB.o ⟨rfl,bh.o.2⟩)
 obtain⟨ec,ep,_⟩:=cS.o _ _ rfl;have d3:V (r=fQ _ _ _):=cn.o;have eq:¬((eb:Int)<0):=xaa;have en:=ec.g.n;have fm:V _:=ec.g;clear cS cn ec
 go_region_held3 (λO=>O.cell? ⟨bP,1,none⟩=some (ih aS)/\O.cell? ⟨j,of,none⟩=some (ih (d:Nat))/\O.cell? ⟨j,of+1,none⟩=some (ih (U:Nat))) (go_keep)
  (first
   |(go_at_call 60;refine yaj (gq _ _ _ _ _ _) ?_;rintro e ch ⟨rfl,b6⟩;obtain⟨bm,aW,bd,cu,cD,cC⟩:=bk.o _ (ab.o.trans ((eD _).trans b6)))
   |(go_at_call 105;refine yaj (ai.o _ (ab.o.trans ((eD _).trans b6))) ?_;rintro e ci ⟨⟨_,_⟩,bh,ca,cc,bS⟩;obtain rfl:=bh.o.1))
 all_goals (
  obtain⟨_,bH,bJ,cb,cO,ee,d8⟩:=bh.o
  have d6:V _:=bN.o.keepC d8.chg d1.o
  have ef:¬Mst P _ _ _ _ _:=λc=>(d8.new _ c).elim d1.o (λc=>i4 bN.o.lt)
  have ed:V _:=cB.o.trans d8
  have an:V (∀F,Kept 0 0 _ _->Calls _ _ _ F λe z=>(∃x:Int,e=.returned _)/\V (TrO W P I _ _ _ _ _ r e _)/\z.cell? _=some _):=λF al=>yaj (lV (ee.keep al) fm.o (eK 9 1 _ 0 0) ⟨Int.le_refl _,by show(1:Int)<=1000;decide⟩ yah _) (λe z t=>⟨t.ret,(by
   show TrO W P I u1 u2 u3 u4 bs r e z
   rw[d3.o]
   exact TrO.after (ed.o.keep al) t),(t.chg.cell (d6.o.keep al).lt ef).trans (d6.o.keep al).c1⟩)
  have R:=d6.o.c1
  clear bh ee d8 ef ai bk bj ab d1 bN cB ed fm d3
  generalize ck.vs.length=ek at*
  go_upto_region 53 with fail
  go_region_held3 (λO=>O.cell? ⟨bP,1,none⟩=some (ih aS)) (go_keep)
   (first
    |(go_at_call 60;refine yaj (gq _ _ _ _ _ _) ?_;rintro e bW ⟨rfl,ag⟩;have er:=(d6.o.keep ((eD _).trans ag)).c1)
    |(go_at_call 105;refine yaj (an.o _ ((eD _).trans ag)) ?_;rintro e a7 ⟨⟨c9,rfl⟩,ej,el⟩))
  all_goals (go_wp2_with fail;go_ret;exact ej.o))):Zp:=h
theorem aW.qha(h:Zp:=by
 go_upto_region 41 with (go_at_call 102;refine yaj cf.o ?_;rintro e bx ⟨rfl,aJ,aP,bw,b3,aR,bX⟩);have HFn:V _:=FtI.step aF.o cq.o bi.o.row aR bX;have cI:V (aq.heap.size<=bx.heap.size):=by show _<=_;have:=aF.o.chg.size;have:=bX.chg.size;omega
 have cR:V _:=cP.o.m;have b1:(bx.alloc (.cells #[ih K] 3)).cell? ⟨bx.heap.size,0,none⟩=some (ih K):=by rw[yav];rfl
 have aL:=eA 0 0 bx (.cells #[ih K] 3);have aN:V _:=HFn.o.keep aL;clear HFn bi aF cq cQ cN cf cM cT y aR bX v J bp bU;go_wp2_with (first|(at_builtin;refine jr _ rfl _ _ rfl _ _ _ rfl aN.o.row _ _ rfl b1 ?c2 ?c3 ?_)|fail)
 case c2=>have:=aD.o;omega
 case c3=>have:=cI.o;simp;omega
 intro g9 cap9 n9 a7 a2 aQ ap bV;have R1:V _:=FtI.app (bF.o.keep HK.o) cR.o aN.o aQ ap (bV.imp id (λe=>by rw[e];simp));exact xcv):Zp:=h
theorem aW.qhe(h:Zp:=by
 obtain⟨r,au⟩:∃r,r=ry [100,111,116] ⟨[100,111,116],aS,aa⟩ H:=⟨_,rfl⟩
 exact qgf):Zp:=h
open aW in
theorem Dz{f W P I u1 u2 u3 u4 bs st af Q cL u g bu ce}(h:WS W P I u1 u2 u3 u4 bs st)(aH:Gd st)(aS aa){es}(cz:es.length=2)(bM:ArgS f W P I u1 u2 u3 u4 bs st af Q cL u g bu es)(H)(X:fY (λs e=>eM f s u e) st es=some H):
  Calls prog 119 #[ge P,.slice af Q cL,iS ⟨[100,111,116],aS,aa⟩,ia bu 2 ce] W (TrO W P I u1 u2 u3 u4 bs (ry [100,111,116] ⟨[100,111,116],aS,aa⟩ H)):=by
 have ao:V _:=gY W [100,111,116] aS aa;have HK:V _:=eA 0 0 W (.cells #[eL [100,111,116],ih aS,eL aa] 127);exact qhd
end
section
variable{F:World}{P I:Nat}{u1 u2 u3 u4 o:Value}{st:LSt}{bs:List Bc}{aU:Loc}
section
variable{f:Nat}{W:World}{P I:Nat}{u1 u2 u3 u4:Value}{bs:List Bc}{st:LSt}{af:Option Addr}{Q cL:Nat}{u:Loc}{g an m cap:Nat}{ts us Y:List Tok}{a b d:Ex}{r:Rs (LSt×Nat)}
theorem cK.qcq(h:Zp:=by
 have K:=Av y ai ae
 have G:ts++c::us=((k::l::(ts++c::(us++[q]))).drop 2).take (m-1-2):=by
  rw[List.drop_succ_cons,List.drop_succ_cons,List.drop_zero,show ts++c::(us++[q])=(ts++c::us)++[q] by simp,List.take_append_of_le_length yag,yap yag]
 have aW:∀x:List UInt8,x≠As->x≠IT->(k.sym==x)=false:=λx B N=>by
  rw[beq_eq_false_iff_ne]
  rintro rfl
  exact J.elim B N
 refine kP ab (Pr.key2 J ag aB ai hb am) (aW _ xab xab) (aW _ xab xab) (aW _ xab xab) (aW _ xab xab) (aW _ xab xab) xaa (ts++c::us) G (by rw[oP (X:=[ts]) (y:=us) xac K _ yag];exact bc) _ (λF a8 bj al a5=>?_);rw[K]at a5⊢;obtain⟨bu,rfl,aO,cg,b0⟩:=a5.at_ xac
 have bM:ArgS f F P I u1 u2 u3 u4 bs st af Q cL u g bu [a,b]:=ArgS.of O cL ab al aO cg b0 rfl (λi hi=>by
   match i,hi with
   |0,_=>exact aB
   |1,_=>exact hb) (λi hi=>by
   match i,hi with
   |0,_=>show ts.length<=m;omega
   |1,_=>show us.length<=m;omega) (λi hi=>by
   match i,hi with
   |0,_=>intro t ht;have j:t∈ts:=ht;simp[j]
   |1,_=>intro t ht;have j:t∈us:=ht;simp[j])
 obtain⟨U,aS,aa⟩:=k;rcases J with J|J
 ·simp only at J;subst J;exact Du (ab.ws.keep al) ab.gd aS aa rfl bM H X
 simp only at J;subst J;exact Dz (ab.ws.keep al) ab.gd aS aa rfl bM H X):Zp:=h
open cK in
theorem DA{k l c q}(O:TrC f)(ab:TrIn W P I u1 u2 u3 u4 bs st af Q u g an m cap (k::l::(ts++c::(us++[q]))))(J:k.sym=As\/k.sym=IT)(ag:l.sym=[40])(aB:Pr 2 [a] ts)(ai:c.sym=[44])(hb:Pr 2 [b] us)(am:q.sym=[41])(h:eM (f+1) st u (.key2 k a b)=some r):
  Calls prog 102 #[ge P,.slice af Q cL,.slice (some ⟨g,an,none⟩) m cap] W (TrO W P I u1 u2 u3 u4 bs r):=by
 have cj:k.sym≠ym:=by rcases J with e|e<;>(rw[e];decide)
 obtain⟨H,X,rfl⟩:=Ds cj h;exact qcp
theorem DB{k l c c2 q}(O:TrC f)(ab:TrIn W P I u1 u2 u3 u4 bs st af Q u g an m cap (k::l::(ts++c::(us++c2::(Y++[q])))))(J:k.sym=ym)(ag:l.sym=[40])(aB:Pr 2 [a] ts)(ai:c.sym=[44])(hb:Pr 2 [b] us)(bQ:c2.sym=[44])(aN:Pr 2 [d] Y)(am:q.sym=[41])(h:eM (f+1) st u (.key3 k a b d)=some r):
  Calls prog 102 #[ge P,.slice af Q cL,.slice (some ⟨g,an,none⟩) m cap] W (TrO W P I u1 u2 u3 u4 bs r):=by
 obtain⟨H,X,rfl⟩:=Dt J h;have aD:=ab.tk.len;simp only[yaq,yal,List.length_nil]at aD;have aA:=iW aB;have R:=iW hb;have e:=iW aN;have bc:Y≠[]:=λc=>by rw[c]at e;simp at e
 have y:=jB aB yad;have ae:=jB hb yad;have v:=jB aN yad;have bW:=ab.mc;have K:=Aw y ai ae bQ v
 have G:ts++c::(us++c2::Y)=((k::l::(ts++c::(us++c2::(Y++[q])))).drop 2).take (m-1-2):=by
  rw[List.drop_succ_cons,List.drop_succ_cons,List.drop_zero,show ts++c::(us++c2::(Y++[q]))=(ts++c::(us++c2::Y))++[q] by simp,List.take_append_of_le_length yag,yap yag]
 have aW:∀x:List UInt8,x≠ym->(k.sym==x)=false:=λx B=>by
  rw[beq_eq_false_iff_ne]
  rintro rfl
  exact B J
 refine kP ab (Pr.key3 J ag aB ai hb bQ aN am) (aW _ xab) (aW _ xab) (aW _ xab) (aW _ xab) (aW _ xab) xaa (ts++c::(us++c2::Y)) G (by rw[oP (X:=[ts,us]) (y:=Y) xac K _ yag];exact bc) _ (λF a8 bj al a5=>?_);rw[K]at a5⊢;obtain⟨bu,rfl,aO,cg,b0⟩:=a5.at_ xac
 have bM:ArgS f F P I u1 u2 u3 u4 bs st af Q cL u g bu [a,b,d]:=ArgS.of O cL ab al aO cg b0 rfl (λi hi=>by
   match i,hi with
   |0,_=>exact aB
   |1,_=>exact hb
   |2,_=>exact aN) (λi hi=>by
   match i,hi with
   |0,_=>show ts.length<=m;omega
   |1,_=>show us.length<=m;omega
   |2,_=>show Y.length<=m;omega) (λi hi=>by
   match i,hi with
   |0,_=>intro t ht;have j:t∈ts:=ht;simp[j]
   |1,_=>intro t ht;have j:t∈us:=ht;simp[j]
   |2,_=>intro t ht;have j:t∈Y:=ht;simp[j])
 obtain⟨U,aS,aa⟩:=k;simp only at J;subst J;exact Dv (ab.ws.keep al) ab.gd aS aa rfl bM H X
end
def lcc(b:List UInt8×Nat):List Value:=[eL b.1,.int .i64 (b.2:Int)]
def lcF:Loc->List Value
 |[]=>[]
 |b::r=>lcc b++lcF r
theorem Kr(a b):lcF (a++b)=lcF a++lcF b:=by
 induction a<;>grind[lcF]
theorem Ks(b):lcF [b]=lcc b:=by simp[lcF]
theorem GP:∀(a:Loc) (k j:Nat),k<a.length->j<2->(lcF a)[k*2+j]? =(lcc (a.getD k ([],0)))[j]?
 |x::r,0,j,_,hj=>by
  grind[lcF,lcc]
 |x::r,k+1,j,J,hj=>by
  have aH:(lcc x).length=2:=rfl
  rw[lcF,yas xaa,aH,show(k+1)*2+j-2=k*2+j by omega]
  exact GP r k j (by grind) hj
theorem N4:(prog.info? 170).map (λi=>(i.zero,i.size,i.bytes))=some (some (.agg #[.string ⟨#[]⟩,ih 0]),2,24):=by kernel_rfl
theorem xH:∃bY,prog.info? 170=some bY/\bY.zero=some (.agg #[.string ⟨#[]⟩,ih 0])/\bY.size=2/\bY.bytes=24:=by
 have h:=N4;simp_all
theorem Kt(w:World)(x v T):∀j u,(lcc (x,v))[j]? =some u->(w.alloc (.cells #[eL x,ih v] T)).cell? ((⟨w.heap.size,0,none⟩:Addr).add j)=some u:=by
 intro j u h;rw[il,Nat.zero_add,yav];match j,h with
 |0,h=>exact h
 |1,h=>exact h
theorem tU(w){bS rest o a Q}(am:o.guard=none)(s x)
  (aR:o.op=.call {callee:=.builtin .append,args:=#[s,x],argTypes:=#[159,159]})
  (I) (v) (aU:Loc) (aw:a.eval s=v) (bi:w.ownsRow I 170 2 v aU.length (lcF aU))
  (al) (k) (aH:a.eval x=.slice (some al) 1 1) (d:∀j u,(lcc k)[j]? =some u->w.cell? (al.add j)=some u)
  (f:aU.length+1<=1000000) (ae:I<=w.heap.size)
  (h:∀g cap n O,n=(aU++[k]).length->O.ownsRow I 170 2 (ia g n cap) (aU.length+1) (lcF aU++lcc k)->Chg (λb=>v.ownBlock=some b) w O->(v.ownBlock=some g\/g=w.heap.size)->wpList prog bS Q rest (a.put o.dst (ia g n cap)) O):wpList prog bS Q (o::rest) a w:=by
 obtain⟨bY,hi,cg,b8,cc⟩:=xH;refine wpList_append_lies w am s x _ aR I 170 _ _ 2 _ underlying159 hi cg b8 cc rfl xab v _ _ aw bi _ 1 1 _ aH rfl d ?_ xab (by unfold maxLen;omega) xaa ae _ rfl ?_
 ·intro u G;simp[lcc]at G;rcases G with rfl|rfl<;>rfl
 intro g cap O B N h3 _;have e:aU.length+1=(aU++[k]).length:=by grind
 rw[e]at B⊢;refine h g _ _ _ rfl ?_ (fA N) h3;grind
structure LvI(W W':World)(P B:Nat)(u1 u2 u3 u4:Value)(bs:List Bc)(st:LSt)(o:Value)(js:Loc):Prop where
 ex:∃v1 v2 v3 v4,WS W' P B v1 v2 v3 v4 bs st/\Mv (Mst P u1 u2 u3 u4) W (λb=>Mst P v1 v2 v3 v4 b\/o.ownBlock=some b) W'/\(∀b,o.ownBlock=some b->¬Mst P v1 v2 v3 v4 b)
 row:W'.ownsRow W.heap.size 170 2 o js.length (lcF js)
theorem LvI.keep{W z}(h:LvI W F P I u1 u2 u3 u4 bs st o aU)(k:Kept 0 0 F z):LvI W z P I u1 u2 u3 u4 bs st o aU:=by
 exact xia
theorem LvI.step{W aq aM bf bb bc C aV bg bq bB w}(bE:Mv (Mst P u1 u2 u3 u4) W (λb=>Mst P bf bb bc C b\/o.ownBlock=some b) aq)(b8:∀b,o.ownBlock=some b->¬Mst P bf bb bc C b)(bw:aq.ownsRow W.heap.size 170 2 o aU.length (lcF aU))(a8:WS aM P I aV bg bq bB bs w)(bC:Mv (Mst P bf bb bc C) aq (Mst P aV bg bq bB) aM):LvI W aM P I u1 u2 u3 u4 bs w o aU:=by
 exact xcu
theorem aO.qbg(h:Zp:=by
 refine⟨⟨bf,bb,bc,C,B.side bn (λb hb c=>h3 b c hb) (λi hi=>?_),an,λb hb c=>?_⟩,?_⟩
 ·exact xih
 ·rw[l]at hb;subst hb;exact f c
 rw[yal,Kr,Ks];exact X):Zp:=h
open aO in
theorem LvI.app{W a7 d}(aj:WS W P I u1 u2 u3 u4 bs d)(R:st.names=d.names)(h:LvI W F P I u1 u2 u3 u4 bs st o aU){g9 n9 cap9 x}(X:a7.ownsRow W.heap.size 170 2 (ia g9 n9 cap9) (aU.length+1) (lcF aU++lcc x))(bn:Chg (λb=>o.ownBlock=some b) F a7)(bR:o.ownBlock=some g9\/g9=F.heap.size):LvI W a7 P I u1 u2 u3 u4 bs st (ia g9 n9 cap9) (aU++[x]):=by
 exact qbf
theorem LvI.nil{W}(h:WS F P I u1 u2 u3 u4 bs st)(k:Mv (Mst P u1 u2 u3 u4) W (Mst P u1 u2 u3 u4) F):LvI W F P I u1 u2 u3 u4 bs st (.slice none 0 0) []:=
 ⟨⟨u1,u2,u3,u4,h,⟨k.chg,λb hb=>.inl (hb.elim id (λc=>by simp[Value.ownBlock]at c))⟩,λb hb=>by simp[Value.ownBlock]at hb⟩,yaw _ _ _ _⟩
theorem oQ{w:World}{n}{e s:Nat}{v xs}(f:w.ownsRow I e s v n xs):∃a c,v=.slice a n c:=by
 rcases f.2 with⟨e,c⟩|⟨g,cap,ao,e,_⟩<;>grind
theorem LvI.lc{W s}(h:LvI W F P I u1 u2 u3 u4 bs s o aU):∃a c bf bb bc C,o=.slice a aU.length c/\WS F P I bf bb bc C bs s/\Mv (Mst P u1 u2 u3 u4) W (Mst P bf bb bc C) F/\LcR (Mst P bf bb bc C) F a aU.length aU:=by
 obtain⟨bf,bb,bc,C,ar,ae,bI⟩:=h.ex;obtain⟨cc,ay,aR⟩:=oQ h.row;refine⟨_,_,_,_,_,_,aR,ar,⟨ae.chg,λb hb=>ae.new b (.inl hb)⟩,⟨rfl,λbH=>?_⟩⟩;have bw:=h.row;rcases bw.2 with⟨_,c⟩|⟨g,c,ao,e,R,a6,U,_,ct,b2⟩
 ·omega
 rw[aR]at e;cases e;have az:g<F.heap.size:=by grind
 have G:∀k j,k<aU.length->j<2->F.cell? _=(lcc _)[j]?:=λk j J hj=>by
  rw[cell_of_row _ g _ _ _ _ a6,<-Array.getElem?_toList]
  have:(ao.toList.take (aU.length*2))[k*2+j]? =(lcF aU)[k*2+j]?:=by rw[b2]
  rw[List.getElem?_take_of_lt xaa]at this
  rw[this]
  exact GP _ k j J hj
 refine⟨g,0,rfl,bI g (by rw[aR];simp[Value.ownBlock]),az,λk J=>⟨?_,?_⟩⟩
 ·rw[Nat.zero_add];exact G k 0 J xaa
 rw[Nat.zero_add];exact G k 1 J xaa
theorem WS.more{W}(h:WS W P I u1 u2 u3 u4 bs st):WS (W.setCell ⟨P,4,none⟩ (ih ((st.calls:Int)+1))) P I u1 u2 u3 u4 bs {st with calls:=st.calls+1}/\Mv (Mst P u1 u2 u3 u4) W (Mst P u1 u2 u3 u4) (W.setCell ⟨P,4,none⟩ (ih ((st.calls:Int)+1))):=by
 have aS:=eU (lo:=P) (hi:=P+1) W ⟨P,4,none⟩ (ih (st.calls+1)) yac;have an:Mv _ W (Mst P u1 u2 u3 u4) _:=⟨aS.chg1 (.inl rfl),λb hb=>.inl hb⟩
 have es:∀o,o≠4->(W.setCell ⟨P,4,_⟩ (ih (st.calls+1))).cell? ⟨P,o,_⟩=W.cell? _:=λo aj=>eG _ _ _ _ _ _ (.inr (λe=>aj e.symm));obtain⟨Y,ae,aa,U⟩:=h.np;exact⟨⟨by simpa using h.lt,λo=>by simp[h.fr o],(es 0 xab).trans h.c0,(es 1 xab).trans h.c1,(es 2 xab).trans h.c2,(es 3 xab).trans h.c3,fc _ _ _ _ _ h.c4,(es 5 xab).trans h.c5,(es 6 xab).trans h.c6,eH h.r1 Y,eH h.r2 ae,eH h.r3 aa,eH h.r4 U,h.np,h.ap,h.nl,λi hi=>(h.nb i hi).mv an,h.sz⟩,an⟩
def GQ(p:Nat)(R:Rs (LSt×List Nat))(rb:Rs (LSt×Nat)):Rs (LSt×Nat):=match R with
 |.error f=>.error f
 |.ok (s1,_)=>if 500<=s1.calls then .error (5,p)else rb
theorem AZ{f u t es r}(h:eM (f+1) st u (.call t es)=some r):
  (((∀aa ps b,iI st.names t.text≠some (.fn aa ps b))\/∃aa ps b,iI st.names t.text=some (.fn aa ps b)/\ps.length≠es.length)/\r=.error (3,t.pos))\/
  ∃aa ps b H aj,iI st.names t.text=some (.fn aa ps b)/\ps.length=es.length/\fY (λs e=>eM f s u e) st es=some H/\r=GQ t.pos H aj/\∀av xs,H=.ok (av,xs)->¬500<=av.calls->eM f {av with calls:=av.calls+1} ((ps.map (·.text)).zip xs) b=some aj:=by
 rw[eM]at h;cases br:iI st.names t.text with
 |none=>simp_all
 |some d=>
  rw[br]at h;cases d with
  |val _ _=>simp_all
  |fn aa ps ad=>
   simp only at h;by_cases c:ps.length=es.length
   ·rw[iv c]at h;refine .inr ⟨aa,ps,ad,?_⟩;cases aB:fY (λs e=>eM f s u e) st es with
    |none=>grind
    |some q=>
     rw[aB]at h;rcases q with q|⟨av,xs⟩
     ·exact⟨_,.error q,rfl,c,rfl,(ix h).symm,λ_ _ e=>by cases e⟩
     simp only at h;by_cases d:500<=av.calls
     ·rw[iv d]at h;refine⟨_,.error (5,t.pos),rfl,c,rfl,?_,λaT ys e aN=>?_⟩
      ·show r=if 500<=av.calls then _ else _;simp_all
      grind
     rw[ip d]at h;refine⟨_,r,rfl,c,rfl,?_,λaT ys e aN=>?_⟩
     ·show r=if 500<=av.calls then _ else _;grind
     grind
   grind
end
section
attribute[local go_sem] eE eC eB
variable{P I Q cL g n an m bj cap:Nat}{u1 u2 u3 u4:Value}{bs:List Bc}{st:LSt}{af a8:Option Addr}{u:Loc}{aa:List UInt8}{ps ts:List Tok}{e:Ex}
theorem GR(l:List (List UInt8))(xs)(a:Nat)(h:xs.length<l.length):l.zip (xs++[a])=l.zip xs++[(l.getD xs.length [],a)]:=by
 induction xs generalizing l with
 |nil=>
  cases l with
  |nil=>simp at h
  |cons x r=>simp
 |cons y ys Z=>
  cases l with
  |nil=>simp at h
  |cons x r=>
   simp only[List.cons_append,List.zip_cons_cons,yaq,List.getD_cons_succ];rw[Z r (by simpa using h)]
theorem BY(l:List (List UInt8))(xs:List Nat)(h:xs.length<=l.length):(l.zip xs).length=xs.length:=by
 rw[List.length_zip];omega
theorem cS.qcz(h:Zp:=by
 generalize W.heap.size=bP at ao⊢;have b4:V _:=bF.o.keep HK.o;have c1:=ao.o.c1;have c2:=ao.o.c2;have c3:=b4.o.c3;have be:V _:=qR b4.o.c3 b4.o.r4 bD br;have bo:V _:=jp b4.o.c5 b4.o.c6 b4.o.fr 3 ps (Mst P u1 u2 u3 u4) (.inl rfl);have z:V _:=lQ b4.o.r4;exact qfd):Zp:=h
theorem cS.qfe(h:Zp:=by
 rcases bK with⟨aC,bO,rfl,N,ah⟩|⟨rfl,hn⟩
 ·have aN:V _:=oq b4.o bO N ah;have l:V _:=b4.o.nb _ bO;obtain⟨cc,ce,e4,_,_,_,bz⟩:=z.o xaa;cases e4;obtain⟨_,aX,_,ab,_⟩:=bz _ bO;generalize b6:bs.length=nn at*;generalize bs.getD aC _=b at aX ab l;generalize st.names.getD aC _=cr at aN l;have Z:¬((aC:Int)<0):=xaa;cases cr with
  |val aa v=>
   have w:=l.o.2.1;rw[w]at aX;clear w N ah bz b6 l z b9;go_wp2_with (go_at_call 101;refine yaj bo.o ?_;rintro e aM ⟨rfl,ba⟩);go_ret;rw[HR.o];exact⟨rfl,ba.c5,ba.c6,(Mv.of HK.o).bad ba.chg⟩
  |fn aa qs e=>
   have w:=l.o.2.1;have bf:=l.o.2.2.1.len
   have bc:qs.length≠n:=by
    rcases b9.o with c|⟨k,f,B,ad,c⟩
    ·exact absurd aN.o (c _ _ _)
    rw[aN.o]at ad;cases ad;exact c
   have j:(b.pn==(n:Int))=false:=yax xaa;rw[w]at aX;clear w N ah bz b6 l z b9 bc bf;generalize b.pn=d at ab j;go_wp2_with (go_at_call 101;refine yaj bo.o ?_;rintro e aM ⟨rfl,ba⟩);go_ret;rw[HR.o];exact⟨rfl,ba.c5,ba.c6,(Mv.of HK.o).bad ba.chg⟩
 clear hn z b9 c3;go_wp2_with (go_at_call 101;refine yaj bo.o ?_;rintro e aM ⟨rfl,ba⟩);exact xes):Zp:=h
open cS in
theorem GU{W}(h:WS W P I u1 u2 u3 u4 bs st)(aH:Gd st)(t)(hb:(∀aa ps b,iI st.names t.text≠some (.fn aa ps b))\/∃aa ps b,iI st.names t.text=some (.fn aa ps b)/\ps.length≠n):
  Calls prog 118 #[ge P,.slice af Q cL,iS t,.slice a8 n bj] W (TrO W P I u1 u2 u3 u4 bs (.error (3,t.pos))):=by
 obtain⟨aW,ps,br⟩:=t;have ao:V _:=gY W aW ps br;have HK:V _:=eA 0 0 W (.cells #[eL aW,ih ps,eL br] 127);have bF:V _:=h;have bD:bs.length<=100000:=by rw[h.nl];have:=aH.m;omega
 have b9:V _:=hb;obtain⟨r,au⟩:∃r:Rs (LSt×Nat),r=.error (3,ps):=⟨_,rfl⟩
 simp only at b9⊢;rw[<-au];have HR:V _:=au;clear au h aH hb;exact qcy
theorem WS.fnc{W}(h:WS W P I u1 u2 u3 u4 bs st){k}(J:k<bs.length)(aN:st.names.getD k (.val [] 0)=.fn aa ps e):∃cc ce,u4=ia cc bs.length ce/\W.cell? ⟨P,3,none⟩=some (ia cc bs.length ce)/\W.cell? ⟨cc,k*5+1,none⟩=some (.bool true)/\W.cell? ⟨cc,k*5+3,none⟩=some (.slice (bs.getD k i2).pa ps.length (bs.getD k i2).pc)/\W.cell? ⟨cc,k*5+4,none⟩=some (.slice (bs.getD k i2).ba (bs.getD k i2).bn (bs.getD k i2).bc)/\TkR (Mst P u1 u2 u3 u4) W (bs.getD k i2).pa ps.length ps/\∃ts,Pr 2 [e] ts/\TsOK ts/\(bs.getD k i2).bn<=(bs.getD k i2).bc/\TkR (Mst P u1 u2 u3 u4) W (bs.getD k i2).ba (bs.getD k i2).bn ts:=by
 obtain⟨cc,ce,e4,_,_,_,bz⟩:=lQ h.r4 xaa;have hb:=h.nb k J;rw[aN]at hb;obtain⟨_,a6,U,ts,bZ,⟨ct,b2⟩,ci⟩:=hb;obtain⟨_,aX,_,ab,r⟩:=bz k J;rw[a6]at aX;rw[<-U.len]at ab U;have c3:=h.c3;grind
theorem cT.qcz(h:Zp:=by
 generalize W.heap.size=bP at ao aO⊢;have b4:V _:=bF.o.keep HK.o;have c2:=ao.o.c2;have be:V _:=qR b4.o.c3 b4.o.r4 bD br;have c3:=b4.o.c3;exact qfd):Zp:=h
theorem cT.qfe(h:Zp:=by
 clear be c2;rcases bK with⟨aC,bO,rfl,N,ah⟩|⟨rfl,hn⟩
 ·have HD:V (st.names.getD aC (.val [] 0)=.fn aa ps ad):=by
   have:=oq b4.o bO N ah;rw[aN.o]at this;exact(ix this).symm
  have HFn:V (∀F bf bb bc C s,WS F P I bf bb bc C _ s->s.names=st.names->_):=λF bf bb bc C s S aw=>S.fnc bO (jn aw HD.o);clear N ah aN;obtain⟨cc,ce,e4,_,aX,ab,_,_⟩:=HFn.o _ _ _ _ _ _ b4.o rfl;cases e4;rw[d.o]at ab;have Z:¬((aC:Int)<0):=xaa;have c7:=bO;generalize b6:bs.length=nn at c3 bO bD;have aB:V _:=LvI.nil b4.o (Mv.refl _ _);go_upto_region 4 with fail;clear aX ab c3;go_wp2_with fail;go_loopw [10,11] (λG bZ F=>∃(k:Nat) (s:LSt) (xs:List Nat),k<=n/\bZ=ih k/\xs.length=k/\V (fY (λs e=>eM f s u e) st (es.take k)=some (.ok (s,xs)))/\V (LvI aq F P I u1 u2 u3 (ia cc bs.length cA) bs s G ((ps.map (·.text)).zip xs))/\V (Gw st s)/\V (∀i∈xs,i<s.vs.length)) (λ_ bZ _=>n-(intOf bZ).toNat)
  case atStart=>exact⟨0,_,_,yae,rfl,rfl,(show V _ by show _=_;rw[List.take_zero];rfl),(show V _ from(by rw[List.zip_nil_right];exact aB.o)),(show V _ from Gw.refl cp.o),(show V _ from λi hi=>by cases hi)⟩
  case round=>
   obtain⟨k,s,xs,ct,rfl,(aD:V _),bp,bi,v,J⟩:=hrel;clear aB;by_cases aY:k<n
   ·obtain⟨aV,bg,bq,bB,ar,ae,bI⟩:=bi.o.ex;have b0:Mv _ _ _ _:=⟨ae.chg,λb hb=>ae.new b (.inl hb)⟩
    obtain⟨bu,cn,bl⟩:=aG.o xaa;obtain⟨dd,cU,cW,cX⟩:=mq _ _ _ H bY.o k (jn a6.o aY) s _ bp.o;obtain⟨o,Y,c1,y,cG⟩:=bl.call k (jn a6.o aY);obtain⟨cl,cV⟩:=cG s _ _ _ _ _ _ v.o cU ar ((Mv.of HK.o).trans b0);rw[<-bl.cell ((Mv.of HK.o).trans b0).chg k]at y;subst cn;have cM:V _:=cW;have cT:V _:=cX;have cN:V _:=cl;have cf:V _:=cV;have aF:V _:=ae;have cq:V _:=bI;have cQ:V _:=(Mv.of HK.o).trans b0;clear cU cW cX cl cV cG ar ae bI b0 bl;rcases dd with⟨c,p⟩|⟨aT,K⟩
    ·exact xca
    exact qgz
   obtain rfl:k=n:=xaa
   have cy:V (H=.ok (s,xs)):=by
    have B:=bp.o;rw[yap (by rw[a6.o];exact yad),bY.o]at B;exact ix B
   obtain⟨cj,f0,aV,bg,bq,bB,rfl,ar,ae,w⟩:=bi.o.lc
   have bM:((ps.map (·.text)).zip xs).length=k:=by
    rw[BY _ _ (by rw[aD.o,List.length_map,d.o];exact yad),aD.o]
   rw[bM]at w⊢;have aF:V _:=ae;have cB:V _:=(Mv.of HK.o).trans ae;have cw:V _:=ao.o.keepC ae.chg aO.o;have j:=ar.c4;by_cases ai:500<=s.calls
   ·have aI:V (r=.error (5,pos)):=by show _=_;rw[HR.o,cy.o];show(if 500<=s.calls then _ else _)=_;rw[iv ai]
    have bo:V _:=jp ar.c5 ar.c6 ar.fr 5 pos (Mst P aV bg bq bB) (.inl rfl);have R:=cw.o.c1;have a0:(500:Int)<=s.calls:=xaa;clear ar ae w bi HR cy bp v J bY cp aG;generalize s.calls=bW at j ai a0;go_wp2_with (go_at_call 101;refine yaj bo.o ?_;rintro e bx ⟨rfl,ba⟩);go_ret;rw[aI.o];exact⟨rfl,ba.c5,ba.c6,cB.o.bad ba.chg⟩
   have aI:V (r=aj):=by show _=_;rw[HR.o,cy.o];show(if 500<=s.calls then _ else _)=_;rw[ip ai]
   have a0:¬(500:Int)<=s.calls:=xaa;obtain⟨bm,bd⟩:=ar.more;have bJ:=al.o s _ cy.o ai;have bz:Gw _ {s with calls:=s.calls+1}:=⟨⟨v.o.g.n,v.o.g.c,v.o.g.ok,v.o.g.k,v.o.g.i,v.o.g.o,v.o.g.m⟩,v.o.n,v.o.l,v.o.i,v.o.o,v.o.m⟩
   have b5:=ar.fr 4;obtain⟨bS,bL,_,f3,_,_,q,_,ts,aS,az,bR,aZ⟩:=HFn.o _ _ _ _ _ _ bm v.o.m;have ag:=iW aS;have bQ:=aZ.len;obtain⟨b8,l,bv,b2,bC⟩:=aZ.at_ xaa;have ca:=az.n5;have co:V _:=O _ P I _ _ _ _ _ _ _ k f0 _ _ _ _ _ _ ⟨bm,bz.g,NmOK.gw cR.o bz,w.mv bd,bn,(λb hb=>J.o _ (List.of_mem_zip (show(b.1,b.2)∈_ from hb)).2),bC,b2,by omega,bR,az.ti,az.tn⟩ 2 _ aS yad _ bJ;rw[bv]at q
   have f6:V (Calls _ _ _ _ λe z=>(∃x:Int,e=.returned _)/\V (TrO W P I _ _ _ _ _ r e _)):=yaj co.o (λe z t=>⟨t.ret,by
    show TrO W P I u1 u2 u3 (ia cc bs.length cA) bs r e z
    rw[aI.o]
    exact TrO.after (cB.o.trans bd) t⟩)
   clear ar ae w bi HR cy bp v J bY cp aG co bm bd bJ bz bC aZ az aS b2 al aF cB cw HFn aI HD cR;rw[b6]at f3;generalize s.calls=bW at*;generalize (bs.getD aC _).bn=cr at*;generalize (bs.getD aC _).bc=bT at*;go_wp2_with (go_at_call 102;refine yaj f6.o ?_;rintro e ch ⟨⟨x,rfl⟩,bh⟩);go_ret;exact bh.o
 exfalso;have:=oO b4.o hn;rw[aN.o]at this;cases this):Zp:=h
theorem cT.qha(h:Zp:=by
 go_upto_region 11 with (go_at_call 102;refine yaj cf.o ?_;rintro e bx ⟨rfl,aJ,aP,bw,b3,aR,bX⟩);have cg:V _:=LvI.step aF.o cq.o bi.o.row aR bX;have cI:V (aq.heap.size<=bx.heap.size):=by show _<=_;have:=aF.o.chg.size;have:=bX.chg.size;omega
 have a9:V _:=cP.o.m;obtain⟨bS,bL,_,f3,_,q,_,am,_⟩:=HFn.o _ _ _ _ _ _ aR a9.o;rw[d.o]at q am;obtain⟨b7,op,bk,_,bC⟩:=am.at_ xaa;have gp:=bC.c2 k aY;rw[bk]at q
 have bE:V ((ps.map (·.text)).getD xs.length []=(ps.getD k i1).text):=by
  show _=_;rw[aD.o,yai,List.getElem?_map,yai,yam (jn d.o aY)];rfl
 have b9:V ((ps.map (·.text)).zip (xs++[K])=(ps.map (·.text)).zip xs++[((ps.getD k i1).text,K)]):=by
  show _=_;rw[GR _ _ _ (by rw[aD.o,List.length_map,d.o];exact aY),bE.o]
 have bH:V (((ps.map (·.text)).zip xs).length=k):=by
  show _=_;rw[BY _ _ (by rw[aD.o,List.length_map,d.o];omega),aD.o]
 generalize (ps.getD k _).text=ay at gp b9;have b1:=Kt bx ay K 170;have aL:=eA 0 0 bx (.cells #[eL ay,ih K] 170);have aA:V _:=cg.o.keep aL;clear cg bi aF cq cQ cN cf cM cT y aR bX v J bp bU am bC bk bE;generalize (ps.map _).zip _=aU at aA b9 bH;rw[b6]at f3;go_wp2_with (first|(at_builtin;refine tU _ rfl _ _ rfl _ _ _ (by rfl) aA.o.row _ _ (by rfl) b1 ?c2 ?c3 ?_)|fail)
 case c2=>have:=bH.o;omega
 case c3=>have:=cI.o;simp;omega
 intro g9 cap9 n9 a7 a2 aQ ap bV;have R1:V _:=LvI.app b4.o a9.o aA.o aQ ap (bV.imp id (λe=>by rw[e];simp));rw[<-b9.o]at R1;clear aQ ap bV a2 aL b1 f3 q gp;go_wp2_with fail;go_roundw;exact⟨k+1,aT,xs++[K],by omega,by go_num,by rw[yal,aD.o];rfl,bA,R1,cP,cJ⟩;simp[intOf];omega):Zp:=h
open cT in
theorem Ku{f}(O:TrC f){W}(h:WS W P I u1 u2 u3 u4 bs st)(aH:Gd st)(aM:NmOK st)(t){es}(cz:es.length=n)(bn:n<=5000)(a5:0<n->∃bu,a8=some ⟨bu,0,none⟩/\ArgS f W P I u1 u2 u3 u4 bs st af Q cL u g bu es){ad}(U:iI st.names t.text=some (.fn aa ps ad))(bN:ps.length=n)(H)(X:fY (λs e=>eM f s u e) st es=some H)(aj)(aK:∀av xs,H=.ok (av,xs)->¬500<=av.calls->eM f {av with calls:=av.calls+1} ((ps.map (·.text)).zip xs) ad=some aj):
  Calls prog 118 #[ge P,.slice af Q cL,iS t,.slice a8 n bj] W (TrO W P I u1 u2 u3 u4 bs (GQ t.pos H aj)):=by
 obtain⟨aW,pos,br⟩:=t;have ao:V _:=gY W aW pos br;have HK:V _:=eA 0 0 W (.cells #[eL aW,ih pos,eL br] 127);have bF:V _:=h;have aO:V _:=h.far;have cp:V _:=aH;have cR:V _:=aM;have a6:V _:=cz;have aG:V _:=a5;have aN:V _:=U;have d:V _:=bN;have bY:V _:=X;have al:V _:=aK;have bD:bs.length<=100000:=by rw[h.nl];have:=aH.m;omega
 obtain⟨r,au⟩:∃r,r=GQ pos H aj:=⟨_,rfl⟩
 simp only at aN⊢;rw[<-au];have HR:V _:=au;clear au h aH aM cz a5 U bN X aK;exact qcy
theorem z.qak(h:Zp:=by
 exact qdk):Zp:=h
theorem z.qdl(h:Zp:=by
 have bY:V _:=b.o aq HK.o;clear c0 c1 c2 K bl b;generalize (fT us).length=f at bY Y⊢;go_upto_region 29 with (go_at_call 117;refine yaj bY.o ?_;rintro e ak ⟨a8,bj,rfl,d,aC⟩);have y:V _:=ao.o.keep aC
 have X:V (SgR ak g W.heap.size a8 (fT us)):=⟨λbN=>by
  obtain⟨bu,ax,aF,bv⟩:=d.at_ bN
  exact⟨bu,ax,yao b9.o aF,bv⟩⟩
 have aw:V _:=yaj (Y.o ak a8 bj (HK.o.trans aC) X.o) (λe z t=>(⟨TrO.ret t,TrO.back (HK.o.trans aC) t⟩:(∃x:Int,e=.returned (ih x))/\V (TrO W P I u1 u2 u3 u4 bs r e z)));unfold iS at aw;simp only at aw;clear bE R a6 ao d Y bY X;have bE:=y.o.c0;have R:=y.o.c1;have a6:=y.o.c2;clear y aC;exact xhn):Zp:=h
theorem z.qeh(h:Zp:=by
 have b:V (∀F,Kept 0 0 W F->_):=λF al=>BV F g (an+6) (m-3) (cap-2) us (by
  have t:=(ab.tk.keep al).in_ 2 (m-1) us G xaa
  rw[show m-1-2=m-3 by omega]at t
  exact t) xaa xaa xaa bc
 have Y:V _:=bi;generalize ts.getD 0 i1=t at*;clear ab aA bi bc G;exact qfy):Zp:=h
open z in
theorem A0{W}(ab:TrIn W P I u1 u2 u3 u4 bs st af Q u g an m cap ts)(aA:Pr 0 [e] ts)(aj:(ts.getD 0 i1).sym=[110,97,109,101])(N:4<=m)(us)(G:us=(ts.drop 2).take (m-1-2))(bc:(spQ us (m-3)).cur≠[])(r)
  (bi:∀F a8 bj,Kept 0 0 W F->SgR F g W.heap.size a8 (fT us)->Calls prog 118 #[ge P,.slice af Q cL,iS (ts.getD 0 i1),.slice a8 (fT us).length bj] F (TrO F P I u1 u2 u3 u4 bs r)):
  Calls prog 102 #[ge P,.slice af Q cL,.slice (some ⟨g,an,none⟩) m cap] W (TrO W P I u1 u2 u3 u4 bs r):=by
 exact qgh
theorem A.qak(h:Zp:=by
 exact qdk):Zp:=h
theorem A.qdl(h:Zp:=by
 clear c0 c1 c2 K bl;go_upto_region 29 with (go_at_call 117;refine yaj (b.o _ _ _ _ xaa) ?_;rintro e ak ⟨rfl,S⟩;obtain rfl:=S.symm);have y:V _:=ao.o;have aw:V _:=yaj (Y.o aq HK.o) (λe z t=>(⟨TrO.ret t,TrO.back HK.o t⟩:(∃x:Int,e=.returned (ih x))/\V (TrO W P I u1 u2 u3 u4 bs r e z)));unfold iS at aw;simp only at aw;clear bE R a6 ao Y b;have bE:=y.o.c0;have R:=y.o.c1;have a6:=y.o.c2;clear y;exact xhn):Zp:=h
theorem A.qeh(h:Zp:=by
 have b:V (∀(F:World) (a:Option Addr) (n ce:Nat),n=0->Calls prog 117 #[.slice a n ce] F λe bU=>e=.returned (.slice none 0 0)/\bU=F):=λF a n ce e=>by subst e;exact zy F a ce
 have Y:V _:=bi;have d:m<=3:=xaa;have f:3<=m:=xaa;clear N;generalize ts.getD 0 i1=t at*;clear ab aA bi;exact qfy):Zp:=h
open A in
theorem zC{W}(ab:TrIn W P I u1 u2 u3 u4 bs st af Q u g an m cap ts)(aA:Pr 0 [e] ts)(aj:(ts.getD 0 i1).sym=[110,97,109,101])(N:m=3)(r)
  (bi:∀F,Kept 0 0 W F->Calls prog 118 #[ge P,.slice af Q cL,iS (ts.getD 0 i1),.slice none 0 0] F (TrO F P I u1 u2 u3 u4 bs r)):
  Calls prog 102 #[ge P,.slice af Q cL,.slice (some ⟨g,an,none⟩) m cap] W (TrO W P I u1 u2 u3 u4 bs r):=by
 exact qgh
section
variable{f:Nat}{W:World}{P I:Nat}{u1 u2 u3 u4:Value}{bs:List Bc}{st:LSt}{af:Option Addr}{Q cL:Nat}{u:Loc}{g an m cap:Nat}{ts:List Tok}{es:List Ex}{r:Rs (LSt×Nat)}
theorem zD(O:TrC f)(h:WS W P I u1 u2 u3 u4 bs st)(aH:Gd st)(aM:NmOK st)(t)(bn:es.length<=5000){a8 bj}(a5:0<es.length->∃bu,a8=some ⟨bu,0,none⟩/\ArgS f W P I u1 u2 u3 u4 bs st af Q cL u g bu es)(ay:eM (f+1) st u (.call t es)=some r):
  Calls prog 118 #[ge P,.slice af Q cL,iS t,.slice a8 es.length bj] W (TrO W P I u1 u2 u3 u4 bs r):=by
 rcases AZ ay with⟨hb,rfl⟩|⟨aa,ps,b,H,aj,br,aA,X,rfl,aK⟩
 ·exact GU h aH t hb
 exact Ku O h aH aM t rfl bn a5 br aA H X _ aK
theorem A1{t l q}(O:TrC f)(ab:TrIn W P I u1 u2 u3 u4 bs st af Q u g an m cap [t,l,q])(ht:t.sym=gz)(ag:l.sym=[40])(am:q.sym=[41])(h:eM (f+1) st u (.call t [])=some r):
  Calls prog 102 #[ge P,.slice af Q cL,.slice (some ⟨g,an,none⟩) m cap] W (TrO W P I u1 u2 u3 u4 bs r):=by
 refine zC ab (Pr.call0 ht ag am) ht ab.tk.len.symm r (λF al=>?_);exact zD (es:=[]) (g:=g) O (ab.ws.keep al) ab.gd ab.nm t xac (λc=>by simp at c) h
theorem GV:∀(ts:List Tok) (q:SpS),(∀s∈(lM q ts).ou,s∈q.ou\/s.Sublist (q.cur++ts))/\(lM q ts).cur.Sublist (q.cur++ts)
 |[],q=>⟨λs aw=>.inl aw,by rw[List.append_nil];exact List.Sublist.refl _⟩
 |t::ts,q=>by
  rw[kM]
  obtain⟨B,N⟩:=GV ts (iu q t)
  have G:(iu q t).ou=q.ou/\(iu q t).cur=q.cur++[t]\/(iu q t).ou=q.ou++[q.cur]/\(iu q t).cur=[]:=by
   unfold iu;split
   ·exact .inl ⟨rfl,rfl⟩
   ·split
    ·exact .inl ⟨rfl,rfl⟩
    ·split
     ·exact .inr ⟨rfl,rfl⟩
     ·exact .inl ⟨rfl,rfl⟩
  rcases G with⟨ad,be⟩|⟨ad,be⟩
  ·rw[ad,be,List.append_assoc]at B
   rw[be,List.append_assoc]at N
   exact⟨B,N⟩
  ·rw[ad,be,List.nil_append]at B
   rw[be,List.nil_append]at N;have aw:=((List.sublist_cons_self t ts).trans (List.sublist_append_right q.cur (t::ts)))
   refine⟨λs cb=>?_,N.trans aw⟩;rcases B s cb with c|c
   ·rcases List.mem_append.1 c with c|c
    ·exact .inl c
    simp at c;subst c;exact .inr (List.sublist_append_left _ _)
   exact .inr (c.trans aw)
theorem DC{ts}(h:ts≠[]):∀i,i<(fT ts).length->((fT ts).getD i []).length<=ts.length/\∀t∈(fT ts).getD i [],t∈ts:=by
 intro i hi;have aD:(fT ts).getD i []∈fT ts:=by simp_all
 have aw:((fT ts).getD i []).Sublist ts:=by
  generalize (fT _).getD i _=s at aD⊢;unfold fT at aD;rw[ip h]at aD;obtain⟨B,N⟩:=GV ts ⟨0,[],[]⟩;rcases List.mem_append.1 aD with c|c
  ·simp_all
  grind
 grind
theorem GW{n es ts}(h:Pr n es ts):es.length<=ts.length:=by
 induction h<;>grind
theorem DD{t l q}(O:TrC f)(ab:TrIn W P I u1 u2 u3 u4 bs st af Q u g an m cap (t::l::(ts++[q])))(ht:t.sym=gz)(ag:l.sym=[40])(aB:Pr 3 es ts)(am:q.sym=[41])(h:eM (f+1) st u (.call t es)=some r):
  Calls prog 102 #[ge P,.slice af Q cL,.slice (some ⟨g,an,none⟩) m cap] W (TrO W P I u1 u2 u3 u4 bs r):=by
 have aD:=ab.tk.len;simp only[yaq,yal,List.length_nil]at aD;have aA:=iW aB;have bW:=ab.mc;have bc:ts≠[]:=λc=>by grind
 obtain⟨cN,cb⟩:=Ay aB;have G:ts=((t::l::(ts++[q])).drop 2).take (m-1-2):=by grind
 have b:0<es.length:=by grind[fT]
 have cz:=GW aB
 have j:(spQ ts (m-3)).cur≠[]:=by
  have ag:=cb (es.length-1) xaa;have e:(fT ts).getD (es.length-1) []=(spQ ts (m-3)).cur:=by grind[spQ,fT]
  rw[e]at ag;exact LE ag
 refine A0 ab (Pr.call ht ag aB am) ht xaa _ G j r (λF a8 bj al a5=>?_);obtain⟨bu,rfl,aO,cg,b0⟩:=a5.at_ xaa;rw[cN];have aZ:=DC bc;have bM:=ArgS.of O cL ab al aO cg b0 cN cb (λi hi=>yao (aZ i hi).1 xaa) (λi hi t ht=>by grind);have d:=ab.m5;exact zD O (ab.ws.keep al) ab.gd ab.nm t xaa (λ_=>⟨_,rfl,bM⟩) h
