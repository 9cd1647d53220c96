import Derived.Test.YtkjahdegnkmejaaGreatP36
namespace Go.Proofs.Z
variable{Zp:Prop}
open Tryz
set_option maxRecDepth 1000000
set_option maxHeartbeats 0
open Go.RowKit Flt
attribute[local go_sem] eE eC eB
variable{w:World}{P n cap Q c1 c3 base j c d x c2:Nat}{a a1 a3 K:Option Addr}{ins outs:List Int}{T:List Int×List Vl×List Int×Nat}{b f g l p q r u v z A I C D aB G ab cu aw bA L aZ aP H S b3 Vaa X cC b8 au dg al di dp ds dv d0 d3 d4 d5 d6 aC cc bp d7 d8 d9 bU ea cN cf eb cz cA cD cG aE db cK cR cj cS cT af cU cV cX c6 c7 bM a8 aN c8 c9 da co dc dd bK a4 ba cb b9 cw e8 O bT e9 fa cl ff fj bN fl fm fq fs cr fu fv fz fG fM ec fP aL ed ee ef eg ej ep eq er et eu ev ew ex ey ez eP eR eS eT e0 e1 e2 e3 e5 e6 e7 bE R a6 U bZ ct b2 ci bu cq bS bw az cB f5 cx bv gA gB aT gC b4 gE ay gP ga cs gR gb gT cP f6 g0 gd gf gg b0 cE dl gp gr f0 gs gu cL d2 gv cW gw gx gy bj b5 cQ ck:Value}{vs:List Vl}
variable{bs:List Int}
theorem R.qaq(h:Zp:=by
 have a0:(c:Int)%8=1:=xaa;have aO:V (∀aj,Kept 0 0 W aj->_):=λaj b7=>HD.o.putU b7 (eK 6 m (x:Int) 0 0) (Nat.zero_lt_succ _) xaa;clear h;go_upto_region 26 with fail
 go_region_with (first
  |(go_at_call 59;refine yaj (aO.o _ ((eD _).trans b7)) ?_;rintro e an ⟨us,aI,cap',rfl,cH,aK,ak⟩;obtain⟨_,bo,ar,aQ,bR,bV,bW⟩:=aK)
  |(go_at_call 60;refine yaj (gq _ _ _ _ _ _) ?_;rintro e aj ⟨rfl,b7⟩;obtain⟨_,aU,ax,aF,_,_,_⟩:=(HD.o.keep ((eD _).trans b7)).bx))
 all_goals
  have a9:V _:=cH.o
  have d1:us.length<=1001:=i4 cH.o.2
  clear HD aO bm aW bd B ap av cH
  unfold fk at ak
  have HD:V _:=ak
  clear ak bo ar aQ bR bV bW
  go_wp2_with fail
  refine zv (P:=Code.wp _ _ _ _) ?_
  intro bb k
  rw[<-k]at HD
  clear k
  obtain⟨_,bm,aW,bd,B,ap,av⟩:=HD.o.bx
  have aO:V (∀aj,Kept 0 0 bb aj->_):=λaj b7=>HD.o.putU b7 (eK 6 m ((us.length:Int)-1) 0 0) (Nat.zero_lt_succ _) xaa
  have be:V (∀W:World,_):=λW=>iV W a1 (some ⟨aI,0,none⟩) a3 ins.length c1 us.length cap' outs.length c3 xaa
  have bi:V (us.map sv=S++[eK 6 m x 0 0]/\(S.length:Int)=us.length-1):=⟨by rw[a9.o.1,List.map_append,HSV.o];rfl,by have:=a9.o.2;have:=congrArg List.length HSV.o;rw[List.length_map]at this;omega⟩
  clear a9
  go_region_with (first
   |(go_at_call 59;refine yaj (aO.o _ ((eD _).trans (y.trans b7))) ?_;rintro e an ⟨us,aI,cap',rfl,cH,aK,ak⟩;obtain⟨_,bo,ar,aQ,bR,bV,bW⟩:=aK)
   |(go_at_call 66;refine yaj (be.o _) ?_;rintro e ch ⟨rfl,y⟩;obtain⟨_,bG,bn,p2,_,_,_⟩:=(HD.o.keep ((eD _).trans y)).bx)
   |(go_at_call 60;refine yaj (gq _ _ _ _ _ _) ?_;rintro e aj ⟨rfl,b7⟩;obtain⟨_,aU,ax,aF,_,_,_⟩:=(HD.o.keep ((eD _).trans (y.trans b7))).bx))
  all_goals
   rw[bi.o.2]at b1
   exact b1.o (L2.of bi.o.1 cH.o ak)):Zp:=h
open R in
theorem Pv{W S m}(h:DgH w P n cap Q a bs a1 c1 a3 c3 ins outs S j base c d x m K c2 vs W)(ai:c%8=1):pH w P n cap Q a bs a1 c1 a3 c3 ins outs (S++[eK 6 m x 0 0]++[eK 6 m S.length 0 0],j) base c d x m W:=by
 exact no_implicit_lambda% qap
variable{bs:List Int}
theorem Pw{W s m}(h:DgH w P n cap Q a bs a1 c1 a3 c3 ins outs s.1 j base c d x m K c2 vs W)(am:nv bs s.2=c)(e:nv bs (ni bs s.2)=d)(k:ni bs (ni bs s.2)=j)(cd:d%s.1.length=x)(em:(vd s.1 x).len=m):pH w P n cap Q a bs a1 c1 a3 c3 ins outs (stM ins base bs s) base c d x m W:=by
 unfold stM;simp only[am,e,k,cd,em];rcases (by omega:c%8=0\/c%8=1\/c%8=2\/(c%8=3\/c%8=4\/c%8=5)\/c%8=6\/c%8=7) with ai|ai|ai|ai|ai|ai
 ·rw[iv ai];exact Pp h ai
 ·rw[ip xaa,iv ai];exact Pv h ai
 ·rw[ip xaa,ip xaa,iv ai];exact Pq h ai
 ·by_cases aD:m=1
  ·rw[ip xaa,ip xaa,ip xaa,iv ⟨aD,by omega⟩];by_cases N:c%2=1
   ·rw[iv N];exact Ps h xaa aD
   rw[ip N];exact Pt h xaa aD
  rw[ip xaa,ip xaa,ip xaa,ip xaa,ip xaa];exact L8 h (.inr ⟨ai,aD⟩)
 ·rw[ip xaa,ip xaa,ip xaa,ip xaa,iv ai];exact Pu h ai
 rw[ip xaa,ip xaa,ip xaa,ip xaa,ip xaa];exact L8 h (.inl ai)
theorem WkO{P:Prop}(h:P:=by
  have bF:V _:=HD.o.ox;obtain⟨_,bX,aV,bg,ek,el,en⟩:=HD.o.bx;have d1:outs.length+1<=1000:=i4 HFn.o
  go_upto_region 42 with (at_builtin;refine fZ _ rfl _ _ rfl w.heap.size (.slice a3 outs.length c3) outs rfl (bF.o _).dg.r3 _ ((vs.length:Int)-1) rfl xac (yao d1 xab) (bF.o _).dg.sz ?_;intro g9 cap9 n9 a7 a2 Z bk br;obtain⟨aA,(ae:V _)⟩:=(bF.o _).outs_ bk Z a2 br;replace a2:V _:=a2;obtain⟨_,bC,bH,bJ,k,m,t⟩:=aA);generalize a7.setCell ⟨Q,2,none⟩ (ia g9 n9 cap9)=f7 at ae⊢;clear HD bF Z bk br bC bH bJ k m t bX aV bg ek el en a2;have bF:V _:=ae.o.ox;obtain⟨_,bX,aV,bg,ek,el,en⟩:=ae.o.bx;have ad:(outs++[(vs.length:Int)-1]).length+1<=1000000:=by rw[yal,List.length_singleton];omega
  go_upto_region 43 with (at_builtin;refine fZ _ rfl _ _ rfl w.heap.size (ia g9 n9 cap9) (outs++[(vs.length:Int)-1]) rfl (bF.o _).dg.r3 _ ((vs.length:Int)-2) rfl xac ad (bF.o _).dg.sz ?_;intro aS b6 cF bW e Y F y;obtain⟨hh,(N:V _)⟩:=(bF.o _).outs_ F Y e y;replace e:V _:=e;obtain⟨_,bC,bH,bJ,k,m,t⟩:=hh);generalize bW.setCell ⟨Q,2,none⟩ (ia aS cF b6)=aa at N⊢;clear ae bF Y F y bC bH bJ k m t bX aV bg ek el en e;have am:V _:=N.o.finS rfl HSV.o;obtain⟨_,bX,aV,bg,_,_,_⟩:=N.o.bx;obtain⟨_,B,bf,bb,ag,ai,aj⟩:=N.o.rs;go_wp2_with fail;obtain⟨bG,bn,p2⟩:=fd aa w.heap.size _ _ _ B bf bb (.slice a1 ins.length c1) (.slice K vs.length c2) (ia aS cF b6);exact yaz (v:=eX a1 ins.length c1 K vs.length c2 (some ⟨aS,0,none⟩) cF b6) (by simp[results,results35,go_sem,bG,bn,p2]) rfl (jn HE.o am.o)):P:=h
theorem Kp(hb:∀i,nv bs i<256){W a0 c d j o y E M bt cm cv}(h:L2 w P n cap Q a bs a1 c1 a3 c3 ins outs a0 K c2 vs W)(hi:AU ins)(b1:LenS a0.1)(aa:base+6<=a0.1.length/\a0.1.length<=100)(aR:outs.length<=4)(bY:T=(ins,(lpM ins base bs a0 14).1,outs++[((lpM ins base bs a0 14).1.length:Int)-1]++[((lpM ins base bs a0 14).1.length:Int)-2],(lpM ins base bs a0 14).2)):
  Code.wp prog (Gu 16) (bodyPost prog Tryz.f35 (DgT w P a n cap bs T)) ⟨#[ge P,b,ge w.heap.size,c,d,f,g,j,ge Q,l,ih base,o,p,q,r,u,v,y,z,A,I,C,D,E,aB,G,ab,cu,aw,bA,L,M,aZ,aP,H,S,b3,Vaa,X,cC,b8,au,dg,al,di,dp,ds,dv,d0,d3,d4,d5,d6,aC,cc,bp,d7,d8,d9,bU,ea,cN,cf,eb,cz,cA,cD,cG,aE,db,cK,cR,cj,cS,cT,af,cU,cV,cX,c6,c7,bM,a8,aN,c8,c9,da,co,dc,dd,bK,a4,ba,cb,b9,cw,e8,O,bT,e9,fa,cl,ff,fj,bN,fl,fm,fq,fs,cr,fu,fv,fz,fG,bt,fM,ec,fP,aL,ed,ee,ef,eg,ej,ep,eq,er,et,eu,ev,ew,ex,ey,ez,eP,eR,eS,eT,e0,e1,e2,e3,e5,e6,e7,bE,R,a6,U,bZ,ct,b2,ci,bu,cq,bS,bw,az,cB,f5,cx,bv,gA,gB,aT,gC,b4,cm,gE,ay,gP,ga,cs,gR,gb,cv,gT,cP,f6,g0,gd,gf,gg,b0,cE,dl,gp,gr,f0,gs,gu,cL,d2,gv,cW,gw,gx,gy,bj,b5,cQ,ck],[]⟩ W:=by
 have HL:V _:=h;have HE:V _:=bY;have cn:V _:=hi;have bc:V _:=b1;have aF:V _:=aa;have HFn:V _:=aR;clear h bY hi b1 aa aR;conv=>arg 2;whnf
 go_wp2_with fail;go_loopw [12] (λt W=>∃(k c2:Nat) (K:Option Addr) (vs:List Vl),k<=14/\t=ih k/\V (L2 w P n cap Q a bs a1 c1 a3 c3 ins outs (lpM ins base bs a0 k) K c2 vs W)) (λt _=>14-(intOf t).toNat)
 case atStart=>exact⟨0,_,_,_,yae,rfl,HL.o⟩
 case round=>
  clear HL;obtain⟨k,c2,K,vs,J,rfl,bI⟩:=hrel;have ar:(lpM ins base _ _ k).1.length<=a0.1.length+2*k/\a0.1.length<=(lpM _ _ bs _ k).1.length:=AV _ _ _ _ _;have cO:V ((lpM _ _ _ a0 k).2<bs.length->lpM _ base _ _ (k+1)=stM ins _ _ _):=λh=>by rw[lpM,iv h]
  have aI:V (k=14\/¬(lpM ins base _ a0 k).2<bs.length->_):=λh=>Kl _ _ _ _ J h;have aq:=aF.o;have cg:V (LenS (lpM _ base bs _ k).1):=xF cn.o bc.o xaa k;generalize lpM _ _ _ _ k=s at*;have ax:=hb s.2;have cp:=hb (ni bs s.2);have bh:V (vs.length=s.1.length):=by rw[<-bI.o.1,List.length_map];rfl
  have aD:6<=vs.length/\vs.length<=1000:=i4 bh.o
  have ae:base<=100:=xaa;clear ar aq;have HD:V _:=bI.o.2;have HSV:V _:=bI.o.1;clear bI;by_cases aA:k<14/\s.2<bs.length
  ·have bQ:V _:=cO.o aA.2;have aj:(k:Int)<14:=xaa;have ah:0<bs.length-(s.2:Int):=xaa;clear cO aI
   go_upto_region 21 with (first
    |(go_at_call 61;refine yaj (BE HD.o.rd) ?_;rintro e bP ⟨rfl,a5⟩;have ag:=HD.o.keep a5;clear HD;have HD:V _:=ag;clear ag a5)
    |(go_at_call 11;refine yaj HD.o.next ?_;rintro e ch ⟨rfl,ak⟩;clear HD;have HD:V _:=ak;clear ak))
   obtain⟨_,bm,aW,bd,B,ap,av⟩:=HD.o.bx;obtain⟨x,aH,cd,(cJ:V _)⟩:∃x,x<vs.length/\(nv bs (ni bs s.2):Int)%vs.length=x/\nv bs _%s.1.length=x:=⟨_,Nat.mod_lt _ xaa,by rw[Int.natCast_emod],by rw[bh.o]⟩
   obtain⟨ad,ce,aX,bB,bx,bf⟩:=gQ HD.o.dg.r2 rfl aH;have aJ:=bf.c1;have N:K=some ⟨ad,0,none⟩:=by injection aX
   subst N;have am:(x:Int)<vs.length:=xaa;have cM:(0:Int)<vs.length:=xaa;clear aX bB bx bf;obtain⟨m,cH,bq⟩:∃m,(vs.getD x _).len=m/\(vd s.1 x).len=m:=⟨_,rfl,by rw[<-HSV.o,BH,vd]⟩
   rw[cH]at aJ;have Z:V _:=And.intro cH bq;clear cH bq;go_upto_if 90 with fail
   rw[cd];refine Ko (Pw ⟨HD.o,HSV.o,aH,aD,⟨ax,cp,ae⟩,Z.o.1,cg.o⟩ rfl rfl rfl cJ.o Z.o.2 ?_ ?_)
   ·simp;omega
   intros;rename_i bb ai Y ao an;have F:V _:=an;clear an;rw[<-bQ.o]at F;clear bQ HD aJ bm aW bd B ap av cd;go_wp2_with fail;go_roundw
   case rel=>first|exact⟨k+1,Y,ai,ao,by omega,by go_num,F.o⟩|((repeat apply Exists.intro);exact⟨⟨k+1,Y,ai,ao,by omega,by go_num,F.o⟩,rfl⟩)
   case measure=>simp[intOf];omega
  have bQ:V _:=aI.o xaa;rw[bQ.o]at HE;clear bQ cO aI cg;rw[<-bh.o]at HE;rcases (by omega:(k:Int)=14\/((k:Int)<14/\¬0<bs.length-(s.2:Int))) with aj|⟨aj,ah⟩
  ·have aG:¬(k:Int)<14:=xaa;clear aj;go_upto_region 41 with fail;exact WkO
  go_upto_region 41 with (go_at_call 61;refine yaj (BE HD.o.rd) ?_;rintro e bP ⟨rfl,a5⟩;have ag:=HD.o.keep a5;clear HD;have HD:V _:=ag;clear ag a5);exact WkO
variable{bs:List Int}
theorem Gv(hb:∀i,nv bs i<256){aq ca c h j s E M ai bt cm ce cv aj}(ag:RdF aq P a n cap ca bs)(ad:Kept P (P+1) w aq)(bB:RB aq w.heap.size iM iM iM)(hP:P<w.heap.size)(bY:T=rsT bs ca):
  Code.wp prog (Gu 8) (bodyPost prog Tryz.f35 (DgT w P a n cap bs T)) ⟨#[ge P,b,ge w.heap.size,c,f,g,h,j,l,p,q,r,s,u,v,z,A,I,C,D,E,aB,G,ab,cu,aw,bA,L,M,aZ,aP,H,S,b3,Vaa,X,cC,b8,au,dg,al,di,dp,ds,dv,d0,d3,d4,d5,d6,aC,cc,bp,d7,d8,d9,bU,ea,cN,cf,eb,cz,cA,cD,cG,aE,db,cK,cR,cj,cS,cT,af,cU,cV,cX,c6,c7,bM,a8,aN,c8,c9,da,co,dc,dd,bK,a4,ba,cb,b9,ai,cw,e8,O,bT,e9,fa,cl,ff,fj,bN,fl,fm,fq,fs,cr,fu,fv,fz,fG,bt,fM,ec,fP,aL,ed,ee,ef,eg,ej,ep,eq,er,et,eu,ev,ew,ex,ey,ez,eP,eR,eS,eT,e0,e1,e2,e3,e5,e6,e7,bE,R,a6,U,bZ,ct,b2,ci,bu,cq,bS,bw,az,cB,f5,cx,bv,gA,gB,aT,gC,b4,cm,gE,ay,ce,gP,ga,cs,gR,gb,cv,gT,cP,f6,g0,gd,gf,gg,b0,cE,dl,gp,gr,f0,gs,gu,cL,d2,gv,cW,gw,gx,gy,bj,b5,cQ,ck,aj],[]⟩ aq:=by
 have cg:V _:=ag;have aA:V _:=ad;have ao:V _:=bB;have HE:V _:=bY;clear ag ad bB bY;conv=>arg 2;whnf
 have bD:V _:=AP cg.o;have B:V _:=zm bs ca;have cF:V _:=zo bs ca;unfold rsT rsL at HE;generalize (dgI bs _).1=bf at bD B HE cF;generalize (dgG bs _).1=bl at bD B HE cF;generalize dgO bs _=aD at bD B HE;go_upto_region 10 with (go_at_call 34;refine yaj bD.o ?_;rintro e aM ⟨a1,c1,K,c2,a3,c3,vs,rfl,(HSV:V _),d,F,a9⟩;have HD:V _:=Dy.fresh ao.o hP aA.o d F a9;clear d F a9);clear bD cg aA ao;have f1:=@pT prog;have f3:=yR;go_upto_region 11 with fail;clear f1 f3;have ae:V _:=λo m=>HD.o.keep ((eA 0 0 _ o).trans (eJ 0 0 _ m));refine zv ?_;intro cd aR;have N:V (Dy w cd P a n cap aD.2 bs w.heap.size aM.heap.size (.slice a1 bf.length c1) (.slice K vs.length c2) (.slice a3 aD.1.length c3) bf vs aD.1):=by rw[aR];exact ae.o _ _
 have Z:V (∀m:Nat,m<6->∃x,(x<18446744073709551616/\fb x=ksM m)/\cd.cell? ⟨aM.heap.size+1,m,none⟩=some (.float .f64 x)):=by rw[aR];exact Qh xac ⟨by decide,rfl⟩ ⟨by decide,rfl⟩ ⟨by decide,rfl⟩ ⟨by decide,rfl⟩ ⟨mR _ _ _ _,mz _ _ _ _⟩ ⟨mR _ _ _ _,mz _ _ _ _⟩
 have bm:V (aM.heap.size+1<cd.heap.size):=by rw[aR];show _<_;simp
 have Y:V ((Value.slice _ _ _).ownBlock≠some (aM.heap.size+1)):=λe=>by have:=(eF HD.o.dg.r2 e).2;simp at this
 clear aR ae HD;have aa:vs.length=bl.length:=by rw[<-HSV.o,List.length_map]
 have bi:V (C1 w P n _ _ _ a _ _ _ _ _ _ _ (csM bl 0) _ _ _ _):=⟨by rw[HSV.o,csM];simp,N.o,Y.o,bm.o,Z.o⟩
 obtain⟨_,bX,b,bg,_,_,_⟩:=N.o.bx;clear Y Z bm;generalize aM.heap.size=Q at*;go_upto_region 12 with fail;rw[aa];clear bX b bg aa;go_wp2_with fail;go_loopw [11] (λt W=>∃(k c2:Nat) (K:Option Addr) (vs:List Vl),k<=6/\t=ih k/\V (C1 w P n cap aD.2 Q a bs a1 c1 a3 c3 bf aD.1 (csM bl k) K c2 vs W)) (λt _=>6-(intOf t).toNat)
 case atStart=>exact⟨0,_,_,_,yae,rfl,bi.o⟩
 case round=>
  clear bi N HSV;obtain⟨k,c2,K,vs,J,rfl,bn⟩:=hrel;by_cases aY:k<6
  ·obtain⟨bc,bI,bL,aS,bh⟩:=bn.o;obtain⟨x,⟨aH,bC⟩,y⟩:=bh k aY;have ah:V (sv ⟨1,1,0,0,0,x⟩=⟨1,1,0,0,0,ksM k⟩):=by show _=_;rw[<-bC,<-tA];rfl
   clear bC;have cI:vs.length<=100000:=by have aG:=congrArg List.length bc;have:=B.o.2.1;simp[csM]at aG;omega
   have aO:V (∀ch,Kept 0 0 _ ch->_):=λch b6=>bI.putK b6 ⟨1,1,0,0,0,x⟩ aH cI ⟨aS,by omega,bL⟩;obtain⟨_,bX,b,bg,ek,el,en⟩:=bI.bx;have bz:(k:Int)<6:=xaa;clear bc bI bL bh aS;go_upto_region 15 with fail;go_region_with (go_at_call 59;refine yaj (aO.o _ (eD _)) ?_;rintro e an ⟨aI,cap',rfl,aK,ak⟩;obtain⟨_,bo,ar,aQ,bR,bV,bW⟩:=aK)
   all_goals
    have ap:=bn.o.next ah.o ak
    rw[<-zp]at ap
    have bi:V _:=ap
    clear ap
    clear ak
    go_wp2_with fail
    go_roundw;exact⟨k+1,cap',_,_,by omega,by go_num,bi.o⟩;simp[intOf];omega
  have bO:k=6:=xaa;obtain⟨bc,bI,_,_,_⟩:=bn.o;rw[bO]at bc⊢;rw[show((6:Nat):Int)=6 from rfl];clear bn bO J aY k
  have aF:V (bl.length+6<=(csM bl 6,aD.2).1.length/\(csM bl 6,aD.2).1.length<=100):=by
   have:=B.o.2.1;show _/\_;simp only[csM,yal,List.length_map,List.length_range];omega
  have bz:¬(6:Int)<6:=xab;go_upto_if 54 with fail
  refine wp_cond_false rfl (wp_exit ?_);exact(‹∀(a:Act) (w:World),Code.wp _ _ _ a w->_›) _ _ (Kp hb ⟨bc,bI⟩ cF.o.2 (BS cF.o.1 6) aF.o B.o.2.2 HE.o)
