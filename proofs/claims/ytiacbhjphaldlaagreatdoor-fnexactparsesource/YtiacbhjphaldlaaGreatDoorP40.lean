import Derived.Test.YtiacbhjphaldlaaGreatDoorP39
namespace Go.Proofs.Z
variable{l q f t}
variable{Zp:Prop}
open Tryz Go.RowKit Flt
set_option maxRecDepth 1000000
set_option maxHeartbeats 0
section
attribute[local go_sem] dI dG dF
def P2(p:Nat)(r:Rs (LSt×Nat)):Rs (LSt×Nat):=match r with
 |.error f=>.error f
 |.ok (s3,j)=>eg s3 (dL 9 1 (j:Int) 0 0) p
theorem aV.qbt(h:Zp:=by
 have ce:M _:=aw.o.keepC aT.chg bk.o;obtain⟨bW,T,a6,cr,cb⟩:=aX.lenc F;have cc:=ce.o.c0;have bw:=aX.c1;rw[a6]at bw;have bv:M _:=FtI.lit aX aT a;have cl:M (eP _ _ (es.take 1)=some (.ok (ak,[a]))):=bl.o _ a rfl;have dd:=Q w;have aO:M (∀i∈[a],i<ak.vs.length):=by intro i hi;simp at hi;subst hi;exact F
 have bb:=w.g.n;clear br bP bS bl aT aX a6 cr w bK bq;generalize dS _ a=l at cb;generalize J:ak.vs.length=N at cb bw F bb;clear J;go_upto_region 34 with fail;clear cb bw cc ce;go_wp2_with fail;go_loopw [18,19] (λY ct A=>∃(k:Nat) (s:LSt) (G:List Nat),1<=k/\k<=2/\ct=h0 k/\G.length=k/\M (eP (λs e=>dQ f s loc e) st (es.take k)=some (.ok (s,G)))/\M (FtI aq A P B u1 ap u3 u4 am s Y G)/\M (Gw st s)/\M (∀i∈G,i<s.vs.length)) (λ_ ct _=>2-(intOf ct).toNat)
 case atStart=>exact⟨1,_,_,yac,by decide,rfl,rfl,cl,bv,dd,aO⟩
 case round=>
  obtain⟨k,s,G,ew,ff,rfl,(aI:M _),bp,aR,v,aK⟩:=hrel;clear cl bv dd aO;by_cases aV:k<2
  ·obtain⟨a9,bj,bI,bR,af,aa,aY⟩:=aR.o.ex;have ch:Mv _ _ _ _:=⟨aa.chg,λb I=>aa.new b (.inl I)⟩
   obtain⟨ds,ec,ej,el⟩:=lS _ _ _ R b6.o k (it H.o aV) s _ bp.o;obtain⟨o,n1,c1,y,en⟩:=m.o.call k (it H.o aV);obtain⟨c7,ee⟩:=en s _ _ _ _ _ _ v.o ec af ((Mv.of ay.o).trans ch);rw[<-m.o.cell ((Mv.of ay.o).trans ch).chg k]at y;have d1:=Q ej;have ea:=Q el;have d3:=Q c7;have ci:=Q ee;have aD:=Q aa;have cM:=Q aY;have d5:M _:=(Mv.of ay.o).trans ch;clear ec ej el c7 ee en af aa aY ch;obtain⟨c,p⟩|⟨az,a2⟩:=ds
   ·exact xbr
   exact qhn
  obtain rfl:k=2:=xaa
  have bU:M (R=.ok (s,G)):=by
   exact xem
  obtain⟨d2,e6,a9,bj,bI,bR,rfl,af,(aD:M _),ax⟩:=aR.o.xs;have K:M _:=ya af v.o.g _ _ e6 _ ax (by rw[aI.o];decide) aK.o a0;have c8:M _:=aw.o.keepC aD.o.chg bk.o;have bM:M (r=lT [100,111,116] ⟨[100,111,116],a0,i1⟩ s G):=by show _=_;rw[aF.o,bU.o];rfl
  have bA:M _:=λbF j (bf:im s _ a0=.ok (bF,j))=>jO v.o.g _ _ aK.o bf;exact qgf):Zp:=h
theorem aV.qdx(h:Zp:=by
 have cX:¬Mst P _ _ _ _ _:=λc=>(cF.o.new _ c).elim bk.o (λc=>ih aw.o.lt);have dp:M _:=(Mv.of ay.o).trans cF.o;have aG:M (∀A,Kept 0 0 _ A->A.cell? _=some _/\A.cell? _=some _/\A.cell? _=some _/\A.cell? _=some _/\A.cell? ⟨_,of,_⟩=some (.int _ n)/\A.cell? _=some (.int _ u)):=λA ae=>⟨(V.o.keep ae).c0,(V.o.keep ae).c1,(av.keep ae).c1,(ae.cell cr xaa).trans cb,(ae.cell aJ xaa).trans (bD 0 xac),(ae.cell aJ xaa).trans (bD 1 xac)⟩
 exact qfz):Zp:=h
theorem aV.qga(h:Zp:=by
 obtain⟨cg,a1,a2,a3,a4,bX⟩:=aG.o _ ib;exact qhh):Zp:=h
theorem aV.qgg(h:Zp:=by
 obtain⟨c,p⟩|⟨bF,j⟩:=q
 ·exact xcd
 obtain⟨ab,bo,cG,ad⟩:=bA.o _ _ rfl;rw[aI.o]at bo
 obtain⟨n,u,rfl⟩:∃n u,j=[n,u]:=by
  match j,bo with
  |[a,b],_=>exact⟨a,b,rfl⟩
 have aC:=(ad n xac).1;have e9:=ad u xac;have ar:=iP aC;have b9:=iP e9.1;rw[e9.2,<-(ad n xac).2]at b9;have fw:M _:=ab.g.v.two (.inr (.inr (.inl rfl))) ar b9;clear e9 ar b9
 have bY:M (r=P2 a0 (eg bF (dL 4 (dS bF n) n u 0) a0)):=by
  show _=_;rw[bM.o];unfold lT;rw[<-b5.o];rfl
 exact qdw):Zp:=h
theorem aV.qgr(h:Zp:=by
 change Code.wp _ _ _ _ (W.alloc (.cells _ 39));generalize W.alloc _=aq at aw ay⊢;generalize W.heap.size=bh at aw bk⊢;obtain⟨b2,ai,ef,e4⟩:=lS _ _ _ R b6.o 0 (by rw[H.o];decide) _ _ rfl;obtain⟨o,bH,c0,bq,bd⟩:=m.o.call 0 (by rw[H.o];decide);obtain⟨e3,e2⟩:=bd _ _ _ _ _ _ _ (Gw.refl cd.o) ai (bC.o.keep ay.o) (Mv.of ay.o);rw[<-m.o.cell (Mv.of ay.o).chg 0]at bq;have bS:=Q ef;have bl:=Q e4;have br:=Q e3;have bP:=Q e2;have bK:=aw.o.c0;clear ai ef e4 e3 e2 bd;obtain⟨c,p⟩|⟨ak,a⟩:=b2
 ·exact xcl
 obtain⟨w,F⟩:=br.o _ a rfl;exact qbs):Zp:=h
theorem aV.qhi(h:Zp:=by
 have aL:M _:=λbE fk (aB:eg _ _ a0=.ok (bE,fk))=>lZ ey.o fw.o aB;have aj:M (∀A,Kept 0 0 _ _->Calls _ _ _ _ λe bx=>(∃x:Int,e=.returned _)/\M (TrO _ P B _ _ _ _ _ _ e _)/\bx.cell? _=some _/\bx.cell? _=some _/\bx.cell? _=some _):=λA ae=>yai (lF (e1.o.keep ae) ey.o (dL 4 (dS bF _) n u 0) eS yag a0) (λe bx t=>⟨t.ret,TrO.back ae t,ep.o A _ ae t.chg⟩);clear ep ey e1 eS ab ay bC bk cg a1 a2 a3 a4 bX;generalize eg bF _ _=fl at bY aL aj;generalize dS bF _=l at aG aj Z⊢;generalize bF.vs.length=N at*;generalize a7.drewN _=aA at S Z⊢;obtain⟨cg,a1,a2,a3,a4,bX⟩:=Z.o;go_upto_region 50 with fail;obtain⟨c,p⟩|⟨bE,fk⟩:=fl
 ·have al:M (r=.error _):=bY.o
  go_region_held3 (λD=>D.cell? ⟨bh,1,none⟩=some (h0 a0)/\D.cell? ⟨gf,of,none⟩=some (h0 (n:Nat))/\D.cell? ⟨gf,of+1,none⟩=some (h0 (u:Nat))) (go_keep)
   (first
    |(go_at_call 37;refine yai iy ?_;rintro e b7 ⟨rfl,b3⟩;obtain⟨bJ,ba,bu,co,bs,aZ⟩:=aG.o _ (S.o.trans ((dH _).trans b3)))
    |(go_at_call 36;refine yai (aj.o _ (S.o.trans ((dH _).trans b3))) ?_;rintro e cf ⟨⟨_,_⟩,C,bz,be,b1⟩;obtain rfl:=C.o.1))
  all_goals (
   go_wp2_with fail
   go_ret
   rw[al.o]
   exact TrO.after dp.o ⟨rfl,C.o.2⟩)
 obtain⟨fm,fM,_⟩:=aL.o _ _ rfl;have al:M (r=eg _ _ _):=bY.o;have fO:¬((fk:Int)<0):=xaa;have fa:=fm.g.n;have c6:=Q fm.g;clear aL bY fm
 go_region_held3 (λD=>D.cell? ⟨bh,1,none⟩=some (h0 a0)/\D.cell? ⟨gf,of,none⟩=some (h0 (n:Nat))/\D.cell? ⟨gf,of+1,none⟩=some (h0 (u:Nat))) (go_keep)
  (first
   |(go_at_call 37;refine yai iy ?_;rintro e b7 ⟨rfl,b3⟩;obtain⟨bJ,ba,bu,co,bs,aZ⟩:=aG.o _ (S.o.trans ((dH _).trans b3)))
   |(go_at_call 36;refine yai (aj.o _ (S.o.trans ((dH _).trans b3))) ?_;rintro e cf ⟨⟨_,_⟩,C,bz,be,b1⟩;obtain rfl:=C.o.1))
 all_goals (
  obtain⟨_,bB,bQ,X,ei,fs,e8⟩:=C.o
  have bc:M _:=V.o.keepC e8.chg e5.o
  have fu:¬Mst P _ _ _ _ _:=λc=>(e8.new _ c).elim e5.o (λc=>ih V.o.lt)
  have fq:M _:=dp.o.trans e8
  have e0:M (∀A,Kept 0 0 _ _->Calls _ _ _ A λe bx=>(∃x:Int,e=.returned _)/\M (TrO W P B _ _ _ _ _ r e _)/\bx.cell? _=some _):=λA ae=>yai (lF (fs.keep ae) c6.o (dL 9 1 _ 0 0) ⟨Int.le_refl _,by show(1:Int)<=1000;decide⟩ yag _) (λe bx t=>⟨t.ret,(by
   show TrO W P B u1 ap u3 u4 am r e bx
   rw[al.o]
   exact TrO.after (fq.o.keep ae) t),(t.chg.cell (bc.o.keep ae).lt fu).trans (bc.o.keep ae).c1⟩)
  have L:=bc.o.c1
  clear C fs e8 fu aj aG Z S e5 V dp fq c6 al
  generalize bE.vs.length=fz at*
  go_upto_region 53 with fail
  go_region_held3 (λD=>D.cell? ⟨bh,1,none⟩=some (h0 a0)) (go_keep)
   (first
    |(go_at_call 37;refine yai iy ?_;rintro e cI ⟨rfl,cP⟩;have fv:=(bc.o.keep ((dH _).trans cP)).c1)
    |(go_at_call 36;refine yai (e0.o _ ((dH _).trans cP)) ?_;rintro e bn ⟨⟨ex,rfl⟩,e7,fG⟩))
  all_goals (go_wp2_with fail;go_ret;exact e7.o))):Zp:=h
theorem aV.qho(h:Zp:=by
 go_upto_region 41 with (go_at_call 33;refine yai ci.o ?_;rintro e a7 ⟨rfl,aQ,aU,bN,cp,av,bi⟩);have cA:M _:=FtI.step aD.o cM.o aR.o.row av bi;have dv:M (aq.heap.size<=a7.heap.size):=by show _<=_;have:=aD.o.chg.size;have:=bi.chg.size;omega
 have cT:=Q d4.o.m;have O:(a7.alloc (.cells #[h0 a2] 3)).cell? ⟨a7.heap.size,0,none⟩=some (h0 a2):=by rw[yat];rfl
 have aE:=dE 0 0 a7 (.cells #[h0 a2] 3);have a8:M _:=cA.o.keep aE;clear cA aR aD cM d5 d3 ci d1 ea y av bi v aK bp a5;go_wp2_with (first|(at_builtin;refine jF _ rfl _ _ rfl _ _ _ rfl a8.o.row _ _ rfl O ?c2 ?c3 ?_)|fail)
 case c2=>have:=aI.o;omega
 case c3=>have:=dv.o;simp;omega
 intro g9 cap9 n9 bn b4 ca bO cn;have bm:M _:=FtI.app (bC.o.keep ay.o) cT.o a8.o ca bO (cn.imp id (λe=>by rw[e];simp));exact xcn):Zp:=h
theorem aV.qhu(h:Zp:=by
 obtain⟨r,ah⟩:∃r,r=qG [100,111,116] ⟨[100,111,116],a0,i1⟩ R:=⟨_,rfl⟩
 exact qgq):Zp:=h
open aV in
theorem Cy{W P B u1 ap u3 u4 am st bG aP cL loc g bV bZ}(h:WS W P B u1 ap u3 u4 am st)(U:Gd st)(a0 i1){es}(cS:es.length=2)(b0:ArgS f W P B u1 ap u3 u4 am st bG aP cL loc g bV es)(R)(au:eP (λs e=>dQ f s loc e) st es=some R):
  Calls prog 65 #[ge P,.slice bG aP cL,iU ⟨[100,111,116],a0,i1⟩,hZ bV 2 bZ] W (TrO W P B u1 ap u3 u4 am (qG [100,111,116] ⟨[100,111,116],a0,i1⟩ R)):=by
 have aw:M _:=gK W [100,111,116] a0 i1;have ay:M _:=dE 0 0 W (.cells #[dJ [100,111,116],h0 a0,dJ i1] 39);exact qht
end
section
variable{A:World}{P B:Nat}{u1 ap u3 u4 o:Value}{st:LSt}{am:List Bc}{js:Loc}
section
variable{f:Nat}{W:World}{P B:Nat}{u1 ap u3 u4:Value}{am:List Bc}{st:LSt}{bG:Option Addr}{aP cL:Nat}{loc:Loc}{g aO m cap:Nat}{ts us T:List Tok}{a b d:Ex}{r:Rs (LSt×Nat)}
theorem cL.qdb(h:Zp:=by
 have af:=zj j aj C
 have bd:ts++c::us=((k::l::(ts++c::(us++[q]))).drop 2).take (m-1-2):=by
  rw[List.drop_succ_cons,List.drop_succ_cons,List.drop_zero,show ts++c::(us++[q])=(ts++c::us)++[q] by simp,List.take_append_of_le_length yaf,yao yaf]
 have ba:∀x:List UInt8,x≠l8->x≠xD->(k.sym==x)=false:=λx z J=>by
  rw[beq_eq_false_iff_ne]
  rintro rfl
  exact H.elim z J
 refine kx Y (Pr.key2 H ab F aj I an) (ba _ xab xab) (ba _ xab xab) (ba _ xab xab) (ba _ xab xab) (ba _ xab xab) xaa (ts++c::us) bd (by rw[nV (X:=[ts]) (y:=us) xac af yaf];exact cd) (λA aL bu ae aZ=>?_);rw[af]at aZ⊢;obtain⟨bV,rfl,a5,ch,aC⟩:=aZ.at_ xac
 have b0:ArgS f A P B u1 ap u3 u4 am st bG aP cL loc g bV [a,b]:=ArgS.of D cL Y ae a5 ch aC rfl (λi hi=>by
   match i,hi with
   |0,_=>exact F
   |1,_=>exact I) (λi hi=>by
   match i,hi with
   |0,_=>show ts.length<=m;omega
   |1,_=>show us.length<=m;omega) (λi hi=>by
   match i,hi with
   |0,_=>intro t az;have n:t∈ts:=az;simp[n]
   |1,_=>intro t az;have n:t∈us:=az;simp[n])
 obtain⟨O,a0,i1⟩:=k;obtain H|H:=H
 ·simp only at H;subst H;exact Cw (Y.ws.keep ae) Y.gd a0 i1 rfl b0 R au
 simp only at H;subst H;exact Cy (Y.ws.keep ae) Y.gd a0 i1 rfl b0 R au):Zp:=h
open cL in
theorem Cz{k c}(D:TrC f)(Y:TrIn W P B u1 ap u3 u4 am st bG aP loc g aO m cap (k::l::(ts++c::(us++[q]))))(H:k.sym=l8\/k.sym=xD)(ab:l.sym=[40])(F:Pr 2 [a] ts)(aj:c.sym=[44])(I:Pr 2 [b] us)(an:q.sym=[41])(h:dQ (f+1) st loc (.key2 k a b)=some r):
  Calls prog 33 #[ge P,.slice bG aP cL,.slice (some ⟨g,aO,none⟩) m cap] W (TrO W P B u1 ap u3 u4 am r):=by
 have b9:k.sym≠qO:=by obtain e|e:=H<;>(rw[e];decide)
 obtain⟨R,au,rfl⟩:=Cu b9 h;exact qda
theorem CA{k c c2}(D:TrC f)(Y:TrIn W P B u1 ap u3 u4 am st bG aP loc g aO m cap (k::l::(ts++c::(us++c2::(T++[q])))))(H:k.sym=qO)(ab:l.sym=[40])(F:Pr 2 [a] ts)(aj:c.sym=[44])(I:Pr 2 [b] us)(aD:c2.sym=[44])(aT:Pr 2 [d] T)(an:q.sym=[41])(h:dQ (f+1) st loc (.key3 k a b d)=some r):
  Calls prog 33 #[ge P,.slice bG aP cL,.slice (some ⟨g,aO,none⟩) m cap] W (TrO W P B u1 ap u3 u4 am r):=by
 obtain⟨R,au,rfl⟩:=Cv H h;have aR:=Y.tk.len;simp only[yap,yak,List.length_nil]at aR;have aB:=i7 F;have ah:=i7 I;have p:=i7 aT;have cd:T≠[]:=λc=>by rw[c]at p;simp at p
 have j:=jJ F yac;have C:=jJ I yac;have e:=jJ aT yac;have bK:=Y.mc;have af:=zk j aj C aD e
 have bd:ts++c::(us++c2::T)=((k::l::(ts++c::(us++c2::(T++[q])))).drop 2).take (m-1-2):=by
  rw[List.drop_succ_cons,List.drop_succ_cons,List.drop_zero,show ts++c::(us++c2::(T++[q]))=(ts++c::(us++c2::T))++[q] by simp,List.take_append_of_le_length yaf,yao yaf]
 have ba:∀x:List UInt8,x≠qO->(k.sym==x)=false:=λx z=>by
  rw[beq_eq_false_iff_ne]
  rintro rfl
  exact z H
 refine kx Y (Pr.key3 H ab F aj I aD aT an) (ba _ xab) (ba _ xab) (ba _ xab) (ba _ xab) (ba _ xab) xaa (ts++c::(us++c2::T)) bd (by rw[nV (X:=[ts,us]) (y:=T) xac af yaf];exact cd) (λA aL bu ae aZ=>?_);rw[af]at aZ⊢;obtain⟨bV,rfl,a5,ch,aC⟩:=aZ.at_ xac
 have b0:ArgS f A P B u1 ap u3 u4 am st bG aP cL loc g bV [a,b,d]:=ArgS.of D cL Y ae a5 ch aC rfl (λi hi=>by
   match i,hi with
   |0,_=>exact F
   |1,_=>exact I
   |2,_=>exact aT) (λi hi=>by
   match i,hi with
   |0,_=>show ts.length<=m;omega
   |1,_=>show us.length<=m;omega
   |2,_=>show T.length<=m;omega) (λi hi=>by
   match i,hi with
   |0,_=>intro t az;have n:t∈ts:=az;simp[n]
   |1,_=>intro t az;have n:t∈us:=az;simp[n]
   |2,_=>intro t az;have n:t∈T:=az;simp[n])
 obtain⟨O,a0,i1⟩:=k;simp only at H;subst H;exact Cx (Y.ws.keep ae) Y.gd a0 i1 rfl b0 R au
end
def lcc(b:List UInt8×Nat):List Value:=[dJ b.1,.int .i64 (b.2:Int)]
def lcF:Loc->List Value
 |[]=>[]
 |b::r=>lcc b++lcF r
theorem Jw(a b):lcF (a++b)=lcF a++lcF b:=by
 induction a<;>grind[lcF]
theorem Jy(b):lcF [b]=lcc b:=by simp[lcF]
theorem Fu:∀(a:Loc) (k j:Nat),k<a.length->j<2->(lcF a)[k*2+j]? =(lcc (a.getD k ([],0)))[j]?
 |x::r,0,j,_,aK=>by
  grind[lcF,lcc]
 |x::r,k+1,j,H,aK=>by
  have ar:(lcc x).length=2:=rfl
  rw[lcF,yaq xaa,ar,show(k+1)*2+j-2=k*2+j by omega]
  exact Fu r k j (by grind) aK
theorem MZ:(prog.info? 144).map (λi=>(i.zero,i.size,i.bytes))=some (some (.agg #[.string ⟨#[]⟩,h0 0]),2,24):=by kernel_rfl
theorem wi:∃bS,prog.info? 144=some bS/\bS.zero=some (.agg #[.string ⟨#[]⟩,h0 0])/\bS.size=2/\bS.bytes=24:=by
 have h:=MZ;simp_all
theorem Jz(w:World)(x v T):∀j u,(lcc (x,v))[j]? =some u->(w.alloc (.cells #[dJ x,h0 v] T)).cell? ((⟨w.heap.size,0,none⟩:Addr).add j)=some u:=by
 intro j u h;rw[fL,Nat.zero_add,yat];match j,h with
 |0,h=>exact h
 |1,h=>exact h
theorem sU(w){bE rest o a i1}(an:o.guard=none)(s x)
  (av:o.op=.call {callee:=.builtin .append,args:=#[s,x],argTypes:=#[110,110]})
  (B) (v) (js:Loc) (ai:a.eval s=v) (aW:w.ownsRow B 144 2 v js.length (lcF js))
  (I) (k) (ar:a.eval x=.slice (some I) 1 1) (C:∀j u,(lcc k)[j]? =some u->w.cell? (I.add j)=some u)
  (F:js.length+1<=1000000) (l:B<=w.heap.size)
  (h:∀g cap n D,n=(js++[k]).length->D.ownsRow B 144 2 (hZ g n cap) (js.length+1) (lcF js++lcc k)->Chg (λb=>v.ownBlock=some b) w D->(v.ownBlock=some g\/g=w.heap.size)->wpList prog bE i1 rest (a.put o.dst (hZ g n cap)) D):wpList prog bE i1 (o::rest) a w:=by
 obtain⟨bS,hi,ch,b6,ci⟩:=wi;refine wpList_append_lies w an s x _ av B 144 _ _ 2 _ underlying110 hi ch b6 ci rfl xab v _ _ ai aW _ 1 1 _ ar rfl C ?_ xab (by unfold maxLen;omega) xaa l _ rfl ?_
 ·intro u bd;simp[lcc]at bd;obtain rfl|rfl:=bd<;>rfl
 intro g cap D z J al _;have e:js.length+1=(js++[k]).length:=by grind
 rw[e]at z⊢;refine h g _ _ _ rfl ?_ (eD J) al;grind
structure LvI(W W':World)(P B:Nat)(u1 u2 u3 u4:Value)(bs:List Bc)(st:LSt)(o:Value)(js:Loc):Prop where
 ex:∃v1 v2 v3 v4,WS W' P B v1 v2 v3 v4 bs st/\Mv (Mst P u1 u2 u3 u4) W (λb=>Mst P v1 v2 v3 v4 b\/o.ownBlock=some b) W'/\(∀b,o.ownBlock=some b->¬Mst P v1 v2 v3 v4 b)
 row:W'.ownsRow W.heap.size 144 2 o js.length (lcF js)
theorem LvI.keep{W bx}(h:LvI W A P B u1 ap u3 u4 am st o js)(k:Kept 0 0 A bx):LvI W bx P B u1 ap u3 u4 am st o js:=by
 exact xgn
theorem LvI.step{W aq y aH aN aM aS a9 bj bI bR bq}(bH:Mv (Mst P u1 ap u3 u4) W (λb=>Mst P aH aN aM aS b\/o.ownBlock=some b) aq)(ar:∀b,o.ownBlock=some b->¬Mst P aH aN aM aS b)(aw:aq.ownsRow W.heap.size 144 2 o js.length (lcF js))(aX:WS y P B a9 bj bI bR am bq)(aT:Mv (Mst P aH aN aM aS) aq (Mst P a9 bj bI bR) y):LvI W y P B u1 ap u3 u4 am bq o js:=by
 exact xcm
theorem aJ.qbm(h:Zp:=by
 refine⟨⟨aH,aN,aM,aS,z.side ak (λb I c=>al b c I) (λi hi=>?_),bc,λb I c=>?_⟩,?_⟩
 ·exact xgw
 ·rw[l]at I;subst I;exact f c
 rw[yak,Jw,Jy];exact au):Zp:=h
open aJ in
theorem LvI.app{W bn g}(aC:WS W P B u1 ap u3 u4 am g)(aq:st.names=g.names)(h:LvI W A P B u1 ap u3 u4 am st o js){g9 n9 cap9 x}(au:bn.ownsRow W.heap.size 144 2 (hZ g9 n9 cap9) (js.length+1) (lcF js++lcc x))(ak:Chg (λb=>o.ownBlock=some b) A bn)(bL:o.ownBlock=some g9\/g9=A.heap.size):LvI W bn P B u1 ap u3 u4 am st (hZ g9 n9 cap9) (js++[x]):=by
 exact qbl
theorem LvI.nil{W}(h:WS A P B u1 ap u3 u4 am st)(k:Mv (Mst P u1 ap u3 u4) W (Mst P u1 ap u3 u4) A):LvI W A P B u1 ap u3 u4 am st (.slice none 0 0) []:=
 ⟨⟨u1,ap,u3,u4,h,⟨k.chg,λb I=>.inl (I.elim id (λc=>by simp[Value.ownBlock]at c))⟩,λb I=>by simp[Value.ownBlock]at I⟩,yau _ _⟩
theorem nW{w:World}{n}{e s:Nat}{v G}(f:w.ownsRow B e s v n G):∃a c,v=.slice a n c:=by
 obtain⟨e,c⟩|⟨g,cap,bp,e,_⟩:=f.2<;>grind
theorem LvI.lc{W s}(h:LvI W A P B u1 ap u3 u4 am s o js):∃a c aH aN aM aS,o=.slice a js.length c/\WS A P B aH aN aM aS am s/\Mv (Mst P u1 ap u3 u4) W (Mst P aH aN aM aS) A/\LcR (Mst P aH aN aM aS) A a js.length js:=by
 obtain⟨aH,aN,aM,aS,af,aa,aY⟩:=h.ex;obtain⟨aJ,bD,av⟩:=nW h.row;refine⟨_,_,_,_,_,_,av,af,⟨aa.chg,λb I=>aa.new b (.inl I)⟩,⟨rfl,λay=>?_⟩⟩;have aw:=h.row;obtain⟨_,c⟩|⟨g,c,bp,e,L,bi,U,_,aF,ah⟩:=aw.2
 ·omega
 rw[av]at e;cases e;have aG:g<A.heap.size:=by grind
 have key:∀k j,k<js.length->j<2->A.cell? _=(lcc _)[j]?:=λk j H aK=>by
  rw[cell_of_row _ g _ _ _ _ bi,<-Array.getElem?_toList]
  have:(bp.toList.take (js.length*2))[k*2+j]? =(lcF js)[k*2+j]?:=by rw[ah]
  rw[List.getElem?_take_of_lt xaa]at this
  rw[this]
  exact Fu _ k j H aK
 refine⟨g,0,rfl,aY g (by rw[av];simp[Value.ownBlock]),aG,λk H=>⟨?_,?_⟩⟩
 ·rw[Nat.zero_add];exact key k 0 H xaa
 rw[Nat.zero_add];exact key k 1 H xaa
theorem WS.more{W}(h:WS W P B u1 ap u3 u4 am st):WS (W.setCell ⟨P,4,none⟩ (h0 ((st.calls:Int)+1))) P B u1 ap u3 u4 am {st with calls:=st.calls+1}/\Mv (Mst P u1 ap u3 u4) W (Mst P u1 ap u3 u4) (W.setCell ⟨P,4,none⟩ (h0 ((st.calls:Int)+1))):=by
 have a0:=d9 (lo:=P) (hi:=P+1) W ⟨P,4,none⟩ (h0 (st.calls+1)) yab;have bc:Mv _ W (Mst P u1 ap u3 u4) _:=⟨a0.chg1 (.inl rfl),λb I=>.inl I⟩
 have es:∀o,o≠4->(W.setCell ⟨P,4,_⟩ (h0 (st.calls+1))).cell? ⟨P,o,_⟩=W.cell? _:=λo aC=>dR (.inr (λe=>aC e.symm));obtain⟨n1,aI,aE,S⟩:=h.np;exact⟨⟨by simpa using h.lt,λo=>by simp[h.fr o],(es 0 xab).trans h.c0,(es 1 xab).trans h.c1,(es 2 xab).trans h.c2,(es 3 xab).trans h.c3,eR h.c4,(es 5 xab).trans h.c5,(es 6 xab).trans h.c6,dP h.r1 n1,dP h.r2 aI,dP h.r3 aE,dP h.r4 S,h.np,h.ap,h.nl,λi hi=>(h.nb i hi).mv bc,h.sz⟩,bc⟩
def Fv(p:Nat)(R:Rs (LSt×List Nat))(rb:Rs (LSt×Nat)):Rs (LSt×Nat):=match R with
 |.error f=>.error f
 |.ok (s1,_)=>if 500<=s1.calls then .error (5,p)else rb
theorem zJ{loc es r}(h:dQ (f+1) st loc (.call t es)=some r):
  (((∀bb ps b,d8 st.names t.text≠some (.fn bb ps b))\/∃bb ps b,d8 st.names t.text=some (.fn bb ps b)/\ps.length≠es.length)/\r=.error (3,t.pos))\/
  ∃bb ps b R ae,d8 st.names t.text=some (.fn bb ps b)/\ps.length=es.length/\eP (λs e=>dQ f s loc e) st es=some R/\r=Fv t.pos R ae/\∀ak G,R=.ok (ak,G)->¬500<=ak.calls->dQ f {ak with calls:=ak.calls+1} ((ps.map (·.text)).zip G) b=some ae:=by
 rw[dQ]at h;cases bi:d8 st.names t.text with
 |none=>simp_all
 |some d=>
  rw[bi]at h;cases d with
  |val _ _=>simp_all
  |fn bb ps body=>
   simp only at h;by_cases c:ps.length=es.length
   ·rw[h3 c]at h;refine .inr ⟨bb,ps,body,?_⟩;cases F:eP (λs e=>dQ f s loc e) st es with
    |none=>grind
    |some q=>
     rw[F]at h;obtain q|⟨ak,G⟩:=q
     ·exact⟨_,.error q,rfl,c,rfl,(h4 h).symm,λ_ _ e=>by cases e⟩
     simp only at h;by_cases d:500<=ak.calls
     ·rw[h3 d]at h;refine⟨_,.error (5,t.pos),rfl,c,rfl,?_,λaz ys e aT=>?_⟩
      ·show r=if 500<=ak.calls then _ else _;simp_all
      grind
     rw[h2 d]at h;refine⟨_,r,rfl,c,rfl,?_,λaz ys e aT=>?_⟩
     ·show r=if 500<=ak.calls then _ else _;grind
     grind
   grind
end
section
attribute[local go_sem] dI dG dF
variable{P B aP cL g n aO m bu cap:Nat}{u1 ap u3 u4:Value}{am:List Bc}{st:LSt}{bG aL:Option Addr}{loc:Loc}{bb:List UInt8}{ps ts:List Tok}{e:Ex}
theorem Fw{l:List (List UInt8)}{G}{a:Nat}(h:G.length<l.length):l.zip (G++[a])=l.zip G++[(l.getD G.length [],a)]:=by
 induction G generalizing l with
 |nil=>
  cases l with
  |nil=>simp at h
  |cons x r=>simp
 |cons y ys O=>
  cases l with
  |nil=>simp at h
  |cons x r=>
   simp only[List.cons_append,List.zip_cons_cons,yap,List.getD_cons_succ];rw[O (by simpa using h)]
theorem AY{l:List (List UInt8)}{G:List Nat}(h:G.length<=l.length):(l.zip G).length=G.length:=by
 rw[List.length_zip];omega
theorem dF.qfa(h:Zp:=by
 have S:M _:=bC.o.keep ay.o;have c1:=aw.o.c1;have c2:=aw.o.c2;have c3:=S.o.c3;have bl:M _:=pY S.o.c3 S.o.r4 br bv;have bX:M _:=jC S.o.c5 S.o.c6 S.o.fr 3 ps (Mst P u1 ap u3 u4) (.inl rfl);have z:M _:=lB S.o.r4;exact qhy):Zp:=h
theorem dF.qhz(h:Zp:=by
 obtain⟨ad,bc,rfl,a6,bw⟩|⟨rfl,V⟩:=a0
 ·have a8:M _:=mZ S.o bc a6 bw;have l:M _:=S.o.nb _ bc;obtain⟨be,bZ,b2,_,_,_,bf⟩:=z.o xaa;cases b2;obtain⟨_,aW,_,bs,_⟩:=bf _ bc;generalize bq:am.length=cG at*;generalize am.getD ad _=b at aW bs l;generalize st.names.getD ad _=O at a8 l;have bT:¬((ad:Int)<0):=xaa;cases O with
  |val bb v=>
   have aC:=l.o.2.1;rw[aC]at aW;clear aC a6 bw bf bq l z cx;go_wp2_with (go_at_call 32;refine yai bX.o ?_;rintro e ao ⟨rfl,u⟩);go_ret;rw[aF.o];exact⟨rfl,u.c5,u.c6,(Mv.of ay.o).bad u.chg⟩
  |fn bb o e=>
   have aC:=l.o.2.1;have f:=l.o.2.2.1.len
   have cd:o.length≠n:=by
    obtain c|⟨k,R,j,K,c⟩:=cx.o
    ·exact absurd a8.o (c _ _ _)
    rw[a8.o]at K;cases K;exact c
   have a:(b.pn==(n:Int))=false:=yav xaa;rw[aC]at aW;clear aC a6 bw bf bq l z cx cd f;generalize b.pn=p at bs a;go_wp2_with (go_at_call 32;refine yai bX.o ?_;rintro e ao ⟨rfl,u⟩);go_ret;rw[aF.o];exact⟨rfl,u.c5,u.c6,(Mv.of ay.o).bad u.chg⟩
 clear V z cx c3;go_wp2_with (go_at_call 32;refine yai bX.o ?_;rintro e ao ⟨rfl,u⟩);exact xek):Zp:=h
open dF in
theorem Fx{W}(h:WS W P B u1 ap u3 u4 am st)(U:Gd st)(t)(I:(∀bb ps b,d8 st.names t.text≠some (.fn bb ps b))\/∃bb ps b,d8 st.names t.text=some (.fn bb ps b)/\ps.length≠n):
  Calls prog 64 #[ge P,.slice bG aP cL,iU t,.slice aL n bu] W (TrO W P B u1 ap u3 u4 am (.error (3,t.pos))):=by
 obtain⟨ba,ps,bv⟩:=t;have aw:M _:=gK W ba ps bv;have ay:M _:=dE 0 0 W (.cells #[dJ ba,h0 ps,dJ bv] 39);have bC:=Q h;have br:am.length<=100000:=by rw[h.nl];have:=U.m;omega
 have cx:=Q I;obtain⟨r,ah⟩:∃r:Rs (LSt×Nat),r=.error (3,ps):=⟨_,rfl⟩
 simp only at cx⊢;rw[<-ah];have aF:=Q ah;clear ah h U I;unfold iU;simp only;go_enter func64,ntmps64;exact qez
theorem WS.fnc{W}(h:WS W P B u1 ap u3 u4 am st){k}(H:k<am.length)(aT:st.names.getD k (.val [] 0)=.fn bb ps e):∃be bZ,u4=hZ be am.length bZ/\W.cell? ⟨P,3,none⟩=some (hZ be am.length bZ)/\W.cell? ⟨be,k*5+1,none⟩=some (.bool true)/\W.cell? ⟨be,k*5+3,none⟩=some (.slice (am.getD k h9).pa ps.length (am.getD k h9).pc)/\W.cell? ⟨be,k*5+4,none⟩=some (.slice (am.getD k h9).ba (am.getD k h9).bn (am.getD k h9).bc)/\TkR (Mst P u1 ap u3 u4) W (am.getD k h9).pa ps.length ps/\∃ts,Pr 2 [e] ts/\TsOK ts/\(am.getD k h9).bn<=(am.getD k h9).bc/\TkR (Mst P u1 ap u3 u4) W (am.getD k h9).ba (am.getD k h9).bn ts:=by
 obtain⟨be,bZ,b2,_,_,_,bf⟩:=lB h.r4 xaa;have I:=h.nb k H;rw[aT]at I;obtain⟨_,bi,U,ts,ae,⟨aF,ah⟩,ba⟩:=I;obtain⟨_,aW,_,bs,aj⟩:=bf k H;rw[bi]at aW;rw[<-U.len]at bs U;have c3:=h.c3;grind
theorem dJ.qho(h:Zp:=by
 go_upto_region 11 with (go_at_call 33;refine yai ci.o ?_;rintro e a7 ⟨rfl,aQ,aU,bN,cp,av,bi⟩);have bg:M _:=LvI.step aD.o cM.o aR.o.row av bi;have dv:M (aq.heap.size<=a7.heap.size):=by show _<=_;have:=aD.o.chg.size;have:=bi.chg.size;omega
 have bJ:=Q d4.o.m;obtain⟨b1,b9,_,bP,_,bS,_,bd,_⟩:=cA.o _ _ _ _ _ _ av bJ.o;rw[j.o]at bS bd;obtain⟨b3,ax,bz,_,b0⟩:=bd.at_ xaa;have bK:=b0.c2 k aV;rw[bz]at bS
 have a:M ((ps.map (·.text)).getD G.length []=(ps.getD k h8).text):=by
  show _=_;rw[aI.o,yah,List.getElem?_map,yah,yal (it j.o aV)];rfl
 have cz:M ((ps.map (·.text)).zip (G++[a2])=(ps.map (·.text)).zip G++[((ps.getD k h8).text,a2)]):=by
  show _=_;rw[Fw (by rw[aI.o,List.length_map,j.o];exact aV),a.o]
 have aG:M (((ps.map (·.text)).zip G).length=k):=by
  show _=_;rw[AY (by rw[aI.o,List.length_map,j.o];omega),aI.o]
 generalize (ps.getD k _).text=bE at bK cz;have O:=Jz a7 bE a2 144;have aE:=dE 0 0 a7 (.cells #[dJ bE,h0 a2] 144);have an:M _:=bg.o.keep aE;clear bg aR aD cM d5 d3 ci d1 ea y av bi v aK bp a5 bd b0 bz a;generalize (ps.map _).zip _=js at an cz aG;rw[bq]at bP;go_wp2_with (first|(at_builtin;refine sU _ rfl _ _ rfl _ _ _ (by rfl) an.o.row _ _ (by rfl) O ?c2 ?c3 ?_)|fail)
 case c2=>have:=aG.o;omega
 case c3=>have:=dv.o;simp;omega
 intro g9 cap9 n9 bn b4 ca bO cn;have bm:M _:=LvI.app S.o bJ.o an.o ca bO (cn.imp id (λe=>by rw[e];simp));rw[<-cz.o]at bm;clear ca bO cn b4 aE O bP bS bK;go_wp2_with fail;go_roundw
 case rel=>exact⟨k+1,az,G++[a2],by omega,by go_num,by rw[yak,aI.o];rfl,cO,bm,d4,eb⟩
 case measure=>simp[intOf];omega):Zp:=h
theorem dJ.qhz(h:Zp:=by
 clear bl c2;obtain⟨ad,bc,rfl,a6,bw⟩|⟨rfl,V⟩:=a0
 ·have aJ:M (st.names.getD ad (.val [] 0)=.fn bb ps body):=by
   have:=mZ S.o bc a6 bw;rw[a8.o]at this;exact(h4 this).symm
  have cA:M (∀A aH aN aM aS s,WS A P B aH aN aM aS _ s->s.names=st.names->_):=λA aH aN aM aS s X ai=>X.fnc bc (it ai aJ.o);clear a6 bw a8;obtain⟨be,bZ,b2,_,aW,bs,_,_⟩:=cA.o _ _ _ _ _ _ S.o rfl;cases b2;rw[j.o]at bs;have bT:¬((ad:Int)<0):=xaa;have er:=bc;generalize bq:am.length=cG at c3 bc br;have bQ:M _:=LvI.nil S.o (Mv.refl _ _);go_upto_region 4 with fail;clear aW bs c3;go_wp2_with fail;go_loopw [10,11] (λbF ct A=>∃(k:Nat) (s:LSt) (G:List Nat),k<=n/\ct=h0 k/\G.length=k/\M (eP (λs e=>dQ f s loc e) st (es.take k)=some (.ok (s,G)))/\M (LvI aq A P B u1 ap u3 (hZ be am.length bW) am s bF ((ps.map (·.text)).zip G))/\M (Gw st s)/\M (∀i∈G,i<s.vs.length)) (λ_ ct _=>n-(intOf ct).toNat)
  case atStart=>exact⟨0,_,_,yad,rfl,rfl,(show M _ by show _=_;rw[List.take_zero];rfl),(show M _ from(by rw[List.zip_nil_right];exact bQ.o)),(show M _ from Gw.refl cd.o),(show M _ from λi hi=>by cases hi)⟩
  case round=>
   obtain⟨k,s,G,ff,rfl,(aI:M _),bp,aR,v,aK⟩:=hrel;clear bQ;by_cases aV:k<n
   ·obtain⟨a9,bj,bI,bR,af,aa,aY⟩:=aR.o.ex;have ch:Mv _ _ _ _:=⟨aa.chg,λb I=>aa.new b (.inl I)⟩
    obtain⟨bV,cc,bo⟩:=bY.o xaa;obtain⟨ds,ec,ej,el⟩:=lS _ _ _ R b6.o k (it H.o aV) s _ bp.o;obtain⟨o,n1,c1,y,en⟩:=bo.call k (it H.o aV);obtain⟨c7,ee⟩:=en s _ _ _ _ _ _ v.o ec af ((Mv.of ay.o).trans ch);rw[<-bo.cell ((Mv.of ay.o).trans ch).chg k]at y;subst cc;have d1:=Q ej;have ea:=Q el;have d3:=Q c7;have ci:=Q ee;have aD:=Q aa;have cM:=Q aY;have d5:M _:=(Mv.of ay.o).trans ch;clear ec ej el c7 ee en af aa aY ch bo;obtain⟨c,p⟩|⟨az,a2⟩:=ds
    ·exact xbr
    exact qhn
   obtain rfl:k=n:=xaa
   have bU:M (R=.ok (s,G)):=by
    have z:=bp.o;rw[yao (by rw[H.o];exact yac),b6.o]at z;exact h4 z
   obtain⟨bf,Y,a9,bj,bI,bR,rfl,af,aa,q⟩:=aR.o.lc
   have cg:((ps.map (·.text)).zip G).length=k:=by
    rw[AY (by rw[aI.o,List.length_map,j.o];exact yac),aI.o]
   rw[cg]at q⊢;have aD:=Q aa;have dp:M _:=(Mv.of ay.o).trans aa;have c8:M _:=aw.o.keepC aa.chg bk.o;have ar:=af.c4;by_cases aj:500<=s.calls
   ·have bM:M (r=.error (5,pos)):=by show _=_;rw[aF.o,bU.o];show(if 500<=s.calls then _ else _)=_;rw[h3 aj]
    have bX:M _:=jC af.c5 af.c6 af.fr 5 pos (Mst P a9 bj bI bR) (.inl rfl);have L:=c8.o.c1;have bB:(500:Int)<=s.calls:=xaa;clear af aa q aR aF bU bp v aK b6 cd bY;generalize s.calls=aC at ar aj bB;go_wp2_with (go_at_call 32;refine yai bX.o ?_;rintro e a7 ⟨rfl,u⟩);go_ret;rw[bM.o];exact⟨rfl,u.c5,u.c6,dp.o.bad u.chg⟩
   have bM:M (r=ae):=by show _=_;rw[aF.o,bU.o];show(if 500<=s.calls then _ else _)=_;rw[h2 aj]
   have bB:¬(500:Int)<=s.calls:=xaa;obtain⟨ce,cb⟩:=af.more;have i1:=K.o s _ bU.o aj;have aA:Gw _ {s with calls:=s.calls+1}:=⟨⟨v.o.g.n,v.o.g.c,v.o.g.ok,v.o.g.k,v.o.g.i,v.o.g.o,v.o.g.m⟩,v.o.n,v.o.l,v.o.i,v.o.o,v.o.m⟩
   have cl:=af.fr 4;obtain⟨b1,b9,_,bP,_,_,bS,_,ts,aX,F,J,ao⟩:=cA.o _ _ _ _ _ _ ce v.o.m;have ab:=i7 aX;have d2:=ao.len;obtain⟨cf,l,T,b5,b0⟩:=ao.at_ xaa;have co:=F.n5;have cv:M _:=D _ P B _ _ _ _ _ _ _ k Y _ _ _ _ _ _ ⟨ce,aA.g,NmOK.gw cT.o aA,q.mv cb,aT,(λb I=>aK.o _ (List.of_mem_zip (show(b.1,b.2)∈_ from I)).2),b0,b5,by omega,J,F.ti,F.tn⟩ 2 _ aX yac _ i1;rw[T]at bS
   have bL:M (Calls _ _ _ _ λe bx=>(∃x:Int,e=.returned _)/\M (TrO W P B _ _ _ _ _ r e _)):=yai cv.o (λe bx t=>⟨t.ret,by
    show TrO W P B u1 ap u3 (hZ be am.length bW) am r e bx
    rw[bM.o]
    exact TrO.after (dp.o.trans cb) t⟩)
   clear af aa q aR aF bU bp v aK b6 cd bY cv ce cb i1 aA b0 ao F aX b5 K aD dp c8 cA bM aJ cT;rw[bq]at bP;generalize s.calls=aC at*;generalize (am.getD ad _).bn=bH at*;generalize (am.getD ad _).bc=aB at*;go_wp2_with (go_at_call 33;refine yai bL.o ?_;rintro e b7 ⟨⟨x,rfl⟩,C⟩);go_ret;exact C.o
 exfalso;have:=nU S.o V;rw[a8.o]at this;cases this):Zp:=h
open dJ in
theorem JA(D:TrC f){W}(h:WS W P B u1 ap u3 u4 am st)(U:Gd st)(ag:NmOK st)(t){es}(cS:es.length=n)(aT:n<=5000)(aZ:0<n->∃bV,aL=some ⟨bV,0,none⟩/\ArgS f W P B u1 ap u3 u4 am st bG aP cL loc g bV es){body}(bA:d8 st.names t.text=some (.fn bb ps body))(bD:ps.length=n)(R)(au:eP (λs e=>dQ f s loc e) st es=some R)(ae)(w:∀ak G,R=.ok (ak,G)->¬500<=ak.calls->dQ f {ak with calls:=ak.calls+1} ((ps.map (·.text)).zip G) body=some ae):
  Calls prog 64 #[ge P,.slice bG aP cL,iU t,.slice aL n bu] W (TrO W P B u1 ap u3 u4 am (Fv t.pos R ae)):=by
 obtain⟨ba,pos,bv⟩:=t;have aw:M _:=gK W ba pos bv;have ay:M _:=dE 0 0 W (.cells #[dJ ba,h0 pos,dJ bv] 39);have bC:=Q h;have bk:=Q h.far;have cd:=Q U;have cT:=Q ag;have H:=Q cS;have bY:=Q aZ;have a8:=Q bA;have j:=Q bD;have b6:=Q au;have K:=Q w;have br:am.length<=100000:=by rw[h.nl];have:=U.m;omega
 obtain⟨r,ah⟩:∃r,r=Fv pos R ae:=⟨_,rfl⟩
 simp only at a8⊢;rw[<-ah];have aF:=Q ah;clear ah h U ag cS aZ bA bD au w;unfold iU;simp only;go_enter func64,ntmps64;go_upto_region 1 with fail;change Code.wp _ _ _ _ (W.alloc (.cells _ 39));generalize W.alloc _=aq at aw ay⊢;generalize W.heap.size=bh at aw bk⊢;have S:M _:=bC.o.keep ay.o;have c2:=aw.o.c2;have bl:M _:=pY S.o.c3 S.o.r4 br bv;have c3:=S.o.c3;exact qhy
theorem w.qam(h:Zp:=by
 exact qdu):Zp:=h
theorem w.qdv(h:Zp:=by
 have aV:M _:=ab.o aq ay.o;clear c0 c1 c2 V S ab;generalize (fC us).length=b at aV ai⊢;go_upto_region 29 with (go_at_call 63;refine yai aV.o ?_;rintro e Z ⟨aL,bu,rfl,a,ad⟩);have aX:M _:=aw.o.keep ad
 have au:M (SgR Z g W.heap.size aL (fC us)):=⟨λaN=>by
  obtain⟨bV,bg,a8,bE⟩:=a.at_ aN
  exact⟨bV,bg,yan cz.o a8,bE⟩⟩
 have bP:M _:=yai (ai.o Z aL bu (ay.o.trans ad) au.o) (λe bx t=>(⟨TrO.ret t,TrO.back (ay.o.trans ad) t⟩:(∃x:Int,e=.returned (h0 x))/\M (TrO W P B u1 ap u3 u4 am r e bx)));unfold iU at bP;simp only at bP;clear bK L bi aw a ai aV au;have bK:=aX.o.c0;have L:=aX.o.c1;have bi:=aX.o.c2;clear aX ad;exact xgf):Zp:=h
theorem w.qey(h:Zp:=by
 have ab:M (∀A,Kept 0 0 W A->_):=λA ae=>AT A g (aO+6) (m-3) (cap-2) us (by
  have t:=(Y.tk.keep ae).in_ 2 (m-1) us bd xaa
  rw[show m-1-2=m-3 by omega]at t
  exact t) xaa xaa xaa cd
 have ai:=Q aE;generalize ts.getD 0 h8=t at*;clear Y aB aE cd bd;exact qgn):Zp:=h
open w in
theorem zK{W}(Y:TrIn W P B u1 ap u3 u4 am st bG aP loc g aO m cap ts)(aB:Pr 0 [e] ts)(aC:(ts.getD 0 h8).sym=[110,97,109,101])(J:4<=m){us}(bd:us=(ts.drop 2).take (m-1-2))(cd:(spQ us (m-3)).cur≠[])(r)(aE:∀A aL bu,Kept 0 0 W A->SgR A g W.heap.size aL (fC us)->Calls prog 64 #[ge P,.slice bG aP cL,iU (ts.getD 0 h8),.slice aL (fC us).length bu] A (TrO A P B u1 ap u3 u4 am r)):
  Calls prog 33 #[ge P,.slice bG aP cL,.slice (some ⟨g,aO,none⟩) m cap] W (TrO W P B u1 ap u3 u4 am r):=by
 exact qgs
theorem x.qam(h:Zp:=by
 exact qdu):Zp:=h
theorem x.qdv(h:Zp:=by
 clear c0 c1 c2 V S;go_upto_region 29 with (go_at_call 63;refine yai (ab.o _ _ _ _ xaa) ?_;rintro e Z ⟨rfl,X⟩;obtain rfl:=X.symm);have aX:=Q aw.o;have bP:M _:=yai (ai.o aq ay.o) (λe bx t=>(⟨TrO.ret t,TrO.back ay.o t⟩:(∃x:Int,e=.returned (h0 x))/\M (TrO W P B u1 ap u3 u4 am r e bx)));unfold iU at bP;simp only at bP;clear bK L bi aw ai ab;have bK:=aX.o.c0;have L:=aX.o.c1;have bi:=aX.o.c2;clear aX;exact xgf):Zp:=h
theorem x.qey(h:Zp:=by
 have ab:M (∀(A:World) (a:Option Addr) (n bZ:Nat),n=0->Calls prog 63 #[.slice a n bZ] A λe aH=>e=.returned (.slice none 0 0)/\aH=A):=λA a n bZ e=>by subst e;exact yc A a bZ
 have ai:=Q aE;have b:m<=3:=xaa;have c:3<=m:=xaa;clear J;generalize ts.getD 0 h8=t at*;clear Y aB aE;exact qgn):Zp:=h
open x in
theorem ye{W}(Y:TrIn W P B u1 ap u3 u4 am st bG aP loc g aO m cap ts)(aB:Pr 0 [e] ts)(aC:(ts.getD 0 h8).sym=[110,97,109,101])(J:m=3)(r)
  (aE:∀A,Kept 0 0 W A->Calls prog 64 #[ge P,.slice bG aP cL,iU (ts.getD 0 h8),.slice none 0 0] A (TrO A P B u1 ap u3 u4 am r)):
  Calls prog 33 #[ge P,.slice bG aP cL,.slice (some ⟨g,aO,none⟩) m cap] W (TrO W P B u1 ap u3 u4 am r):=by
 exact qgs
section
variable{f:Nat}{W:World}{P B:Nat}{u1 ap u3 u4:Value}{am:List Bc}{st:LSt}{bG:Option Addr}{aP cL:Nat}{loc:Loc}{g aO m cap:Nat}{ts:List Tok}{es:List Ex}{r:Rs (LSt×Nat)}
theorem yg(D:TrC f)(h:WS W P B u1 ap u3 u4 am st)(U:Gd st)(ag:NmOK st)(t)(aT:es.length<=5000){aL bu}(aZ:0<es.length->∃bV,aL=some ⟨bV,0,none⟩/\ArgS f W P B u1 ap u3 u4 am st bG aP cL loc g bV es)(bl:dQ (f+1) st loc (.call t es)=some r):
  Calls prog 64 #[ge P,.slice bG aP cL,iU t,.slice aL es.length bu] W (TrO W P B u1 ap u3 u4 am r):=by
 obtain⟨I,rfl⟩|⟨bb,ps,b,R,ae,bi,aB,au,rfl,w⟩:=zJ bl
 ·exact Fx h U t I
 exact JA D h U ag t rfl aT aZ bi aB R au _ w
theorem zL(D:TrC f)(Y:TrIn W P B u1 ap u3 u4 am st bG aP loc g aO m cap [t,l,q])(az:t.sym=eu)(ab:l.sym=[40])(an:q.sym=[41])(h:dQ (f+1) st loc (.call t [])=some r):
  Calls prog 33 #[ge P,.slice bG aP cL,.slice (some ⟨g,aO,none⟩) m cap] W (TrO W P B u1 ap u3 u4 am r):=by
 refine ye Y (Pr.call0 az ab an) az Y.tk.len.symm r (λA ae=>?_);exact yg (es:=[]) (g:=g) D (Y.ws.keep ae) Y.gd Y.nm t xac (λc=>by simp at c) h
theorem Fy:∀(ts:List Tok) (q:SpS),(∀s∈(lr q ts).ou,s∈q.ou\/s.Sublist (q.cur++ts))/\(lr q ts).cur.Sublist (q.cur++ts)
 |[],q=>⟨λs ai=>.inl ai,by rw[List.append_nil];exact List.Sublist.refl _⟩
 |t::ts,q=>by
  rw[kg]
  obtain⟨z,J⟩:=Fy ts (ik q t)
  have key:(ik q t).ou=q.ou/\(ik q t).cur=q.cur++[t]\/(ik q t).ou=q.ou++[q.cur]/\(ik q t).cur=[]:=by
   unfold ik;split
   ·exact .inl ⟨rfl,rfl⟩
   ·split
    ·exact .inl ⟨rfl,rfl⟩
    ·split
     ·exact .inr ⟨rfl,rfl⟩
     ·exact .inl ⟨rfl,rfl⟩
  obtain⟨K,a6⟩|⟨K,a6⟩:=key
  ·rw[K,a6,List.append_assoc]at z
   rw[a6,List.append_assoc]at J
   exact⟨z,J⟩
  ·rw[K,a6,List.nil_append]at z
   rw[a6,List.nil_append]at J;have ai:=((List.sublist_cons_self t ts).trans (List.sublist_append_right q.cur (t::ts)))
   refine⟨λs cp=>?_,J.trans ai⟩;obtain c|c:=z s cp
   ·obtain c|c:=List.mem_append.1 c
    ·exact .inl c
    simp at c;subst c;exact .inr (List.sublist_append_left _ _)
   exact .inr (c.trans ai)
theorem CB{ts}(h:ts≠[]):∀i,i<(fC ts).length->((fC ts).getD i []).length<=ts.length/\∀t∈(fC ts).getD i [],t∈ts:=by
 intro i hi;have aR:(fC ts).getD i []∈fC ts:=by simp_all
 have ai:((fC ts).getD i []).Sublist ts:=by
  generalize (fC _).getD i _=s at aR⊢;unfold fC at aR;rw[h2 h]at aR;obtain⟨z,J⟩:=Fy ts ⟨0,[],[]⟩;obtain c|c:=List.mem_append.1 aR
  ·simp_all
  grind
 grind
theorem Fz{n es ts}(h:Pr n es ts):es.length<=ts.length:=by
 induction h<;>grind
theorem CC(D:TrC f)(Y:TrIn W P B u1 ap u3 u4 am st bG aP loc g aO m cap (t::l::(ts++[q])))(az:t.sym=eu)(ab:l.sym=[40])(F:Pr 3 es ts)(an:q.sym=[41])(h:dQ (f+1) st loc (.call t es)=some r):
  Calls prog 33 #[ge P,.slice bG aP cL,.slice (some ⟨g,aO,none⟩) m cap] W (TrO W P B u1 ap u3 u4 am r):=by
 have aR:=Y.tk.len;simp only[yap,yak,List.length_nil]at aR;have aB:=i7 F;have bK:=Y.mc;have cd:ts≠[]:=λc=>by grind
 obtain⟨ay,cp⟩:=zp F;have bd:ts=((t::l::(ts++[q])).drop 2).take (m-1-2):=by grind
 have b:0<es.length:=by grind[fC]
 have cS:=Fz F
 have a:(spQ ts (m-3)).cur≠[]:=by
  have ab:=cp (es.length-1) xaa;have e:(fC ts).getD (es.length-1) []=(spQ ts (m-3)).cur:=by grind[spQ,fC]
  rw[e]at ab;exact KL ab
 refine zK Y (Pr.call az ab F an) az xaa bd a r (λA aL bu ae aZ=>?_);obtain⟨bV,rfl,a5,ch,aC⟩:=aZ.at_ xaa;rw[ay];have bp:=CB cd;have b0:=ArgS.of D cL Y ae a5 ch aC ay cp (λi hi=>yan (bp i hi).1 xaa) (λi hi t az=>by grind);have j:=Y.m5;exact yg D (Y.ws.keep ae) Y.gd Y.nm t xaa (λ_=>⟨_,rfl,b0⟩) h
