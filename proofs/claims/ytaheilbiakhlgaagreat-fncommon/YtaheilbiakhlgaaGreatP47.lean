import Derived.Test.YtaheilbiakhlgaaGreatP46
import Derived.Test.YtaheilbiakhlgaaGreatP45
namespace Go.Proofs.Z
open Tryz
set_option maxRecDepth 1000000
set_option maxHeartbeats 0
open Go.RowKit Flt
attribute[local go_sem] eF eE eD
variable{w:World}{P n cap Q c1 c3 base c2:Nat}{a a1 a3 Z:Option Addr}{ins outs:List Int}{T:List Int×List Vl×List Int×Nat}{b c f g j l p q r u v z A I C D F G H b1 ah K L bK au R S bD Vaa X bw cj aT cT aM cU cV cW cX c6 c7 dp bF ds aP aV bJ dv d0 eb bq ec b7 ed ee co ch cq ct aE dd cu cw cc cz cB bC cD cG cI cJ cK a7 aQ bz cN cO cQ cF cR cS br a4 bS cx b6 ca fc aK c8 ff fi fj fk fl bN fm fo fq fs di fu fv fx fy fz e6 fG a0 ci cg ef ei ej ek el en ep er et eu ev ew eB eC eS eT e0 e1 e2 e3 e5 e7 e9 fa a9 N aD ad an bE bY ce fM bH bu b2 bT f0 f4 ck aC gr gs gv gw bd gx b5 gy f6 cs aN gA gB cM gE gP dg cl a2 f7 cE eg ga gb fP gc gd cL cy gf cP bX go fT bA cr gp gq:Value}{vs:List Vl}
variable{bs:List Int}
theorem Pv{W s j c d x m}(h:DgH w P n cap Q a bs a1 c1 a3 c3 ins outs s.1 j base c d x m Z c2 vs W)(am:nv bs s.2=c)(e:nv bs (ni bs s.2)=d)(B:ni bs (ni bs s.2)=j)(ea:d%s.1.length=x)(em:(vd s.1 x).len=m):pT w P n cap Q a bs a1 c1 a3 c3 ins outs (stM ins base bs s) base c d x m W:=by
 unfold stM;simp only[am,e,B,ea,em];rcases (by omega:c%8=0\/c%8=1\/c%8=2\/(c%8=3\/c%8=4\/c%8=5)\/c%8=6\/c%8=7) with ak|ak|ak|ak|ak|ak
 ·rw[hI ak];exact Po h ak
 ·rw[hG xaa,hI ak];exact Pu h ak
 ·rw[hG xaa,hG xaa,hI ak];exact Pp h ak
 ·by_cases aw:m=1
  ·rw[hG xaa,hG xaa,hG xaa,hI ⟨aw,by omega⟩];by_cases U:c%2=1
   ·rw[hI U];exact Pq h xaa aw
   rw[hG U];exact Ps h xaa aw
  rw[hG xaa,hG xaa,hG xaa,hG xaa,hG xaa];exact LO h (.inr ⟨ak,aw⟩)
 ·rw[hG xaa,hG xaa,hG xaa,hG xaa,hI ak];exact Pt h ak
 rw[hG xaa,hG xaa,hG xaa,hG xaa,hG xaa];exact LO h (.inl ak)
theorem WkO{P:Prop}(h:P:=by
  have bp:V _:=HD.o.ox;obtain⟨_,bR,aS,bb,ex,ey,eA⟩:=HD.o.bx;have cA:outs.length+1<=1000:=hO HFn.o
  go_upto_region 42 with (at_builtin;refine fQ _ rfl _ _ rfl w.heap.size (.slice a3 outs.length c3) outs rfl (bp.o _).dg.r3 _ ((vs.length:Int)-1) rfl xac (yan cA xab) (bp.o _).dg.sz ?_;intro g9 cap9 n9 be bO bv aF b9;obtain⟨ax,(ag:V _)⟩:=(bp.o _).outs_ aF bv bO b9;replace bO:V _:=bO;obtain⟨_,bI,bL,bM,s,aj,c9⟩:=ax);generalize be.setCell ⟨Q,2,none⟩ (hE g9 n9 cap9)=O at ag⊢;clear HD bp bv aF b9 bI bL bM s aj c9 bR aS bb ex ey eA bO;have bp:V _:=ag.o.ox;obtain⟨_,bR,aS,bb,ex,ey,eA⟩:=ag.o.bx;have Y:(outs++[(vs.length:Int)-1]).length+1<=1000000:=by rw[yak,List.length_singleton];omega
  go_upto_region 43 with (at_builtin;refine fQ _ rfl _ _ rfl w.heap.size (hE g9 n9 cap9) (outs++[(vs.length:Int)-1]) rfl (bp.o _).dg.r3 _ ((vs.length:Int)-2) rfl xac Y (bp.o _).dg.sz ?_;intro bm i m b4 e y t o;obtain⟨U,(J:V _)⟩:=(bp.o _).outs_ t y e o;replace e:V _:=e;obtain⟨_,bI,bL,bM,s,aj,c9⟩:=U);generalize b4.setCell ⟨Q,2,none⟩ (hE bm m i)=B at J⊢;clear ag bp y t o bI bL bM s aj c9 bR aS bb ex ey eA e;have ar:V _:=J.o.finS rfl HSV.o;obtain⟨_,bR,aS,bb,_,_,_⟩:=J.o.bx;obtain⟨_,av,ba,bc,aa,ab,ae⟩:=J.o.rs;go_wp2_with fail;obtain⟨bi,a5,p2⟩:=fg B w.heap.size _ _ _ av ba bc (.slice a1 ins.length c1) (.slice Z vs.length c2) (hE bm m i);exact yay (v:=eX a1 ins.length c1 Z vs.length c2 (some ⟨bm,0,none⟩) m i) (by simp[results,results15,go_sem,bi,a5,p2]) rfl (hR HE.o ar.o)):P:=h
theorem KP(hb:∀i,nv bs i<256){W aW d o y E M bt cm cv}(h:L2 w P n cap Q a bs a1 c1 a3 c3 ins outs aW Z c2 vs W)(hi:Hr ins)(bx:LenS aW.1)(aa:base+6<=aW.1.length/\aW.1.length<=100)(ax:outs.length<=4)(b3:T=(ins,(lpM ins base bs aW 14).1,outs++[((lpM ins base bs aW 14).1.length:Int)-1]++[((lpM ins base bs aW 14).1.length:Int)-2],(lpM ins base bs aW 14).2)):
  Code.wp prog (Ht 16) (bodyPost prog Tryz.f15 (DgT w P a n cap bs T)) ⟨#[hD P,b,hD w.heap.size,c,d,f,g,j,hD Q,l,hF base,o,p,q,r,u,v,y,z,A,I,C,D,E,F,G,H,b1,ah,K,L,M,bK,au,R,S,bD,Vaa,X,bw,cj,aT,cT,aM,cU,cV,cW,cX,c6,c7,dp,bF,ds,aP,aV,bJ,dv,d0,eb,bq,ec,b7,ed,ee,co,ch,cq,ct,aE,dd,cu,cw,cc,cz,cB,bC,cD,cG,cI,cJ,cK,a7,aQ,bz,cN,cO,cQ,cF,cR,cS,br,a4,bS,cx,b6,ca,fc,aK,c8,ff,fi,fj,fk,fl,bN,fm,fo,fq,fs,di,fu,fv,fx,fy,bt,fz,e6,fG,a0,ci,cg,ef,ei,ej,ek,el,en,ep,er,et,eu,ev,ew,eB,eC,eS,eT,e0,e1,e2,e3,e5,e7,e9,fa,a9,N,aD,ad,an,bE,bY,ce,fM,bH,bu,b2,bT,f0,f4,ck,aC,gr,gs,gv,gw,bd,cm,gx,b5,gy,f6,cs,aN,gA,cv,gB,cM,gE,gP,dg,cl,a2,f7,cE,eg,ga,gb,fP,gc,gd,cL,cy,gf,cP,bX,go,fT,bA,cr,gp,gq],[]⟩ W:=by
 have HL:V _:=h;have HE:V _:=b3;have bU:V _:=hi;have bp:V _:=bx;have aq:V _:=aa;have HFn:V _:=ax;clear h b3 hi bx aa ax;conv=>arg 2;whnf
 go_wp2_with fail;go_loopw [12] (λt W=>∃(k c2:Nat) (Z:Option Addr) (vs:List Vl),k<=14/\t=hF k/\V (L2 w P n cap Q a bs a1 c1 a3 c3 ins outs (lpM ins base bs aW k) Z c2 vs W)) (λt _=>14-(intOf t).toNat)
 case atStart=>exact⟨0,_,_,_,Nat.zero_le _,rfl,HL.o⟩
 case round=>
  clear HL;obtain⟨k,c2,Z,vs,O,rfl,bQ⟩:=hrel;have aF:(lpM ins base _ _ k).1.length<=aW.1.length+2*k/\aW.1.length<=(lpM _ _ bs _ k).1.length:=A6 _ _ _ _ _;have ak:V ((lpM _ _ _ aW k).2<bs.length->lpM _ base _ _ (k+1)=stM ins _ _ _):=λh=>by rw[lpM,hI h]
  have ai:V (k=14\/¬(lpM ins base _ aW k).2<bs.length->_):=λh=>KM _ _ _ _ O h;have aG:=aq.o;have cn:V (LenS (lpM _ base bs _ k).1):=xP bU.o bp.o xaa k;generalize lpM _ _ _ _ k=s at*;have ao:=hb s.2;have ay:=hb (ni bs s.2);have bc:V (vs.length=s.1.length):=by rw[<-bQ.o.1,List.length_map];rfl
  have aH:6<=vs.length/\vs.length<=1000:=hO bc.o
  have af:base<=100:=xaa;clear aF aG;have HD:V _:=bQ.o.2;have HSV:V _:=bQ.o.1;clear bQ;by_cases f5:k<14/\s.2<bs.length
  ·have cd:V _:=ak.o f5.2;have ar:(k:Int)<14:=xaa;have am:0<bs.length-(s.2:Int):=xaa;clear ak ai
   go_upto_region 21 with (first
    |(go_at_call 38;refine yai (BI HD.o.rd) ?_;rintro e cf ⟨rfl,bW⟩;have aj:=HD.o.keep bW;clear HD;have HD:V _:=aj;clear aj bW)
    |(go_at_call 32;refine yai HD.o.next ?_;rintro e bv ⟨rfl,aw⟩;clear HD;have HD:V _:=aw;clear aw))
   obtain⟨_,bf,aO,aX,B,J,ag⟩:=HD.o.bx;obtain⟨x,ap,ea,(c9:V _)⟩:∃x,x<vs.length/\(nv bs (ni bs s.2):Int)%vs.length=x/\nv bs _%s.1.length=x:=⟨_,Nat.mod_lt _ xaa,by rw[Int.natCast_emod],by rw[bc.o]⟩
   obtain⟨ab,b0,aU,aY,bj,bm⟩:=hH HD.o.dg.r2 rfl ap;have aR:=bm.c1;have al:Z=some ⟨ab,0,none⟩:=by injection aU
   subst al;have av:(x:Int)<vs.length:=xaa;have cH:(0:Int)<vs.length:=xaa;clear aU aY bj bm;obtain⟨m,a5,bI⟩:∃m,(vs.getD x _).len=m/\(vd s.1 x).len=m:=⟨_,rfl,by rw[<-HSV.o,B9,vd]⟩
   rw[a5]at aR;have ae:V _:=And.intro a5 bI;clear a5 bI;go_upto_if 90 with fail
   rw[ea];refine KO (Pv ⟨HD.o,HSV.o,ap,aH,⟨ao,ay,af⟩,ae.o.1,cn.o⟩ rfl rfl rfl c9.o ae.o.2 ?_ ?_)
   ·simp;omega
   intros;rename_i bn aS Y aB aA;have U:V _:=aA;clear aA;rw[<-cd.o]at U;clear cd HD aR bf aO aX B J ag ea;go_wp2_with fail;go_roundw
   case rel=>first|exact⟨k+1,Y,aS,aB,by omega,by go_num,U.o⟩|((repeat apply Exists.intro);exact⟨⟨k+1,Y,aS,aB,by omega,by go_num,U.o⟩,rfl⟩)
   case measure=>simp[intOf];omega
  have cd:V _:=ai.o xaa;rw[cd.o]at HE;clear cd ak ai cn;rw[<-bc.o]at HE;rcases (by omega:(k:Int)=14\/((k:Int)<14/\¬0<bs.length-(s.2:Int))) with ar|⟨ar,am⟩
  ·have aI:¬(k:Int)<14:=xaa;clear ar;go_upto_region 41 with fail;exact WkO
  go_upto_region 41 with (go_at_call 38;refine yai (BI HD.o.rd) ?_;rintro e cf ⟨rfl,bW⟩;have aj:=HD.o.keep bW;clear HD;have HD:V _:=aj;clear aj bW);exact WkO
variable{bs:List Int}
theorem Hu(hb:∀i,nv bs i<256){ay cA h s E M aS bt cm b0 cv aw}(am:RdF ay P a n cap cA bs)(Y:Kept P (P+1) w ay)(cd:RB ay w.heap.size iR iR iR)(hP:P<w.heap.size)(b3:T=rsT bs cA):
  Code.wp prog (Ht 8) (bodyPost prog Tryz.f15 (DgT w P a n cap bs T)) ⟨#[hD P,b,hD w.heap.size,c,f,g,h,j,l,p,q,r,s,u,v,z,A,I,C,D,E,F,G,H,b1,ah,K,L,M,bK,au,R,S,bD,Vaa,X,bw,cj,aT,cT,aM,cU,cV,cW,cX,c6,c7,dp,bF,ds,aP,aV,bJ,dv,d0,eb,bq,ec,b7,ed,ee,co,ch,cq,ct,aE,dd,cu,cw,cc,cz,cB,bC,cD,cG,cI,cJ,cK,a7,aQ,bz,cN,cO,cQ,cF,cR,cS,br,a4,bS,cx,b6,aS,ca,fc,aK,c8,ff,fi,fj,fk,fl,bN,fm,fo,fq,fs,di,fu,fv,fx,fy,bt,fz,e6,fG,a0,ci,cg,ef,ei,ej,ek,el,en,ep,er,et,eu,ev,ew,eB,eC,eS,eT,e0,e1,e2,e3,e5,e7,e9,fa,a9,N,aD,ad,an,bE,bY,ce,fM,bH,bu,b2,bT,f0,f4,ck,aC,gr,gs,gv,gw,bd,cm,gx,b5,b0,gy,f6,cs,aN,gA,cv,gB,cM,gE,gP,dg,cl,a2,f7,cE,eg,ga,gb,fP,gc,gd,cL,cy,gf,cP,bX,go,fT,bA,cr,gp,gq,aw],[]⟩ ay:=by
 have a6:V _:=am;have b4:V _:=Y;have aI:V _:=cd;have HE:V _:=b3;clear am Y cd b3;conv=>arg 2;whnf
 have bk:V _:=Hk a6.o;have B:V _:=zK bs cA;have cC:V _:=Hs bs cA;unfold rsT rsL at HE;generalize (dgI bs _).1=af at bk B HE cC;generalize (dgG bs _).1=ao at bk B HE cC;generalize dgO bs _=ae at bk B HE;go_upto_region 10 with (go_at_call 36;refine yai bk.o ?_;rintro e aF ⟨a1,c1,Z,c2,a3,c3,vs,rfl,(HSV:V _),d,aa,aJ⟩;have HD:V _:=Dy.fresh aI.o hP b4.o d aa aJ;clear d aa aJ);clear bk a6 b4 aI;have f1:=@kL prog;have f3:=s7;go_upto_region 11 with fail;clear f1 f3;have ag:V _:=λo m=>HD.o.keep ((ez 0 0 _ o).trans (eL 0 0 _ m));refine zO ?_;intro b8 ax;have J:V (Dy w b8 P a n cap ae.2 bs w.heap.size aF.heap.size (.slice a1 af.length c1) (.slice Z vs.length c2) (.slice a3 ae.1.length c3) af vs ae.1):=by rw[ax];exact ag.o _ _
 have U:V (∀m:Nat,m<6->∃x,(x<18446744073709551616/\fb x=ksM m)/\b8.cell? ⟨aF.heap.size+1,m,none⟩=some (.float .f64 x)):=by rw[ax];exact PY xac ⟨by decide,rfl⟩ ⟨by decide,rfl⟩ ⟨by decide,rfl⟩ ⟨by decide,rfl⟩ ⟨iB _ _ _ _,ie _ _ _ _⟩ ⟨iB _ _ _ _,ie _ _ _ _⟩
 have bf:V (aF.heap.size+1<b8.heap.size):=by rw[ax];show _<_;simp
 have ak:V ((Value.slice _ _ _).ownBlock≠some (aF.heap.size+1)):=λe=>by have:=(eI HD.o.dg.r2 e).2;simp at this
 clear ax ag HD;have aj:vs.length=ao.length:=by rw[<-HSV.o,List.length_map]
 have bg:V (C1 w P n _ _ _ a _ _ _ _ _ _ _ (csM ao 0) _ _ _ _):=⟨by rw[HSV.o,csM];simp,J.o,ak.o,bf.o,U.o⟩
 obtain⟨_,bR,b,bb,_,_,_⟩:=J.o.bx;clear ak U bf;generalize aF.heap.size=Q at*;go_upto_region 12 with fail;rw[aj];clear bR b bb aj;go_wp2_with fail;go_loopw [11] (λt W=>∃(k c2:Nat) (Z:Option Addr) (vs:List Vl),k<=6/\t=hF k/\V (C1 w P n cap ae.2 Q a bs a1 c1 a3 c3 af ae.1 (csM ao k) Z c2 vs W)) (λt _=>6-(intOf t).toNat)
 case atStart=>exact⟨0,_,_,_,Nat.zero_le _,rfl,bg.o⟩
 case round=>
  clear bg J HSV;obtain⟨k,c2,Z,vs,O,rfl,al⟩:=hrel;by_cases aB:k<6
  ·obtain⟨ai,aY,bB,ar,bh⟩:=al.o;obtain⟨x,⟨ap,bQ⟩,y⟩:=bh k aB;have av:V (sv ⟨1,1,0,0,0,x⟩=⟨1,1,0,0,0,ksM k⟩):=by show _=_;rw[<-bQ,<-AM];rfl
   clear bQ;have cp:vs.length<=100000:=by have ab:=congrArg List.length ai;have:=B.o.2.1;simp[csM]at ab;omega
   have aL:V (∀bv,Kept 0 0 _ bv->_):=λbv cb=>aY.putK cb ⟨1,1,0,0,0,x⟩ ap cp ⟨ar,by omega,bB⟩;obtain⟨_,bR,b,bb,ex,ey,eA⟩:=aY.bx;have bm:(k:Int)<6:=xaa;clear ai aY bB bh ar;go_upto_region 15 with fail;go_region_with (go_at_call 37;refine yai (aL.o _ (eG _)) ?_;rintro e aG ⟨aA,cap',rfl,a8,aH⟩;obtain⟨_,bo,az,aZ,bl,bG,bP⟩:=a8)
   all_goals
    have bV:=al.o.next av.o aH
    rw[<-zM]at bV
    have bg:V _:=bV
    clear bV
    clear aH
    go_wp2_with fail
    go_roundw;exact⟨k+1,cap',_,_,by omega,by go_num,bg.o⟩;simp[intOf];omega
  have bZ:k=6:=xaa;obtain⟨ai,aY,_,_,_⟩:=al.o;rw[bZ]at ai⊢;rw[show((6:Nat):Int)=6 from rfl];clear al bZ O aB k
  have aq:V (ao.length+6<=(csM ao 6,ae.2).1.length/\(csM ao 6,ae.2).1.length<=100):=by
   have:=B.o.2.1;show _/\_;simp only[csM,yak,List.length_map,List.length_range];omega
  have bm:¬(6:Int)<6:=xab;go_upto_if 54 with fail
  refine wp_cond_false rfl (wp_exit ?_);exact(‹∀(a:Act) (w:World),Code.wp _ _ _ a w->_›) _ _ (KP hb ⟨ai,aY⟩ cC.o.2 (Cc cC.o.1 6) aq.o B.o.2.2 HE.o)
