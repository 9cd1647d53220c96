import Derived.Test.YtbhmhdllnfkjhaaGreatP52
import Derived.Test.YtbhmhdllnfkjhaaGreatP53
namespace Go.Proofs.Z
open Tryz
set_option maxRecDepth 1000000
set_option maxHeartbeats 0
open Go.RowKit Flt
attribute[local go_sem] eG eE eD
variable{w:World}{P n cap Q c1 c3 base c2:Nat}{a a1 a3 Y:Option Addr}{ins outs:List Int}{bl:List Int×List Vl×List Int×Nat}{b c f g j l p q r u v z A R C D F G H ce ap K L aH b4 U S bx Vaa X cz cw bq ea ai eb ec ed ee ef eg ei b0 ej aL aQ bU ek el en cN eo bz ep er cn co cq ct aE cW cI cA b6 cK cM a6 cO cS cU cV c6 br bu bn c8 di ds cF d4 d5 bV a4 bR cJ cg ck fv aJ cX fz b9 fG fL fM bL fP fT b7 f0 c7 f4 f5 f6 f7 cR dv ga bk ca cQ et ey eA eB eC eS eT e0 e3 e5 e6 e7 e8 e9 fa fc ff fi fl fm fo fq fs fu bH O ax Z av cj bG cl gb bN bd cb bK gc cD cx bD gx gy gA gB bb gE aG gP go cs ao gR gT b1 g0 g1 bO cP aU aZ cE dp gf a0 cf gp gq cL eu gr cT b8 gs ch bX cr gv gw:Value}{vs:List Vl}
variable{bs:List Int}
theorem PW{W s j c d x m}(h:DgH w P n cap Q a bs a1 c1 a3 c3 ins outs s.1 j base c d x m Y c2 vs W)(ak:nv bs s.2=c)(e:nv bs (ni bs s.2)=d)(t:ni bs (ni bs s.2)=j)(d0:d%s.1.length=x)(em:(vd s.1 x).len=m):qq w P n cap Q a bs a1 c1 a3 c3 ins outs (stM ins base bs s) base c d x m W:=by
 unfold stM;simp only[ak,e,t,d0,em];rcases (by omega:c%8=0\/c%8=1\/c%8=2\/(c%8=3\/c%8=4\/c%8=5)\/c%8=6\/c%8=7) with ad|ad|ad|ad|ad|ad
 ·rw[hG ad];exact PL h ad
 ·rw[hF xaa,hG ad];exact PU h ad
 ·rw[hF xaa,hF xaa,hG ad];exact PM h ad
 ·by_cases aq:m=1
  ·rw[hF xaa,hF xaa,hF xaa,hG ⟨aq,by omega⟩];by_cases J:c%2=1
   ·rw[hG J];exact PN h xaa aq
   rw[hF J];exact PO h xaa aq
  rw[hF xaa,hF xaa,hF xaa,hF xaa,hF xaa];exact Mp h (.inr ⟨ad,aq⟩)
 ·rw[hF xaa,hF xaa,hF xaa,hF xaa,hG ad];exact PV h ad
 rw[hF xaa,hF xaa,hF xaa,hF xaa,hF xaa];exact Mp h (.inl ad)
theorem WkO{P:Prop}(h:P:=by
  have bo:V _:=HD.o.ox;obtain⟨_,bC,aN,a2,ev,ew,ex⟩:=HD.o.bx;have cH:outs.length+1<=1000:=hM HFn.o
  go_upto_region 42 with (at_builtin;refine fk _ rfl _ _ rfl w.heap.size (.slice a3 outs.length c3) outs rfl (bo.o _).dg.r3 _ ((vs.length:Int)-1) rfl xac (yao cH xab) (bo.o _).dg.sz ?_;intro g9 cap9 n9 bg bJ bQ aD cd;obtain⟨aa,(T:V _)⟩:=(bo.o _).outs_ aD bQ bJ cd;replace bJ:V _:=bJ;obtain⟨_,bI,bB,bE,c9,dd,dg⟩:=aa);generalize bg.setCell ⟨Q,2,none⟩ (hC g9 n9 cap9)=N at T⊢;clear HD bo bQ aD cd bI bB bE c9 dd dg bC aN a2 ev ew ex bJ;have bo:V _:=T.o.ox;obtain⟨_,bC,aN,a2,ev,ew,ex⟩:=T.o.bx;have J:(outs++[(vs.length:Int)-1]).length+1<=1000000:=by rw[yal,List.length_singleton];omega
  go_upto_region 43 with (at_builtin;refine fk _ rfl _ _ rfl w.heap.size (hC g9 n9 cap9) (outs++[(vs.length:Int)-1]) rfl (bo.o _).dg.r3 _ ((vs.length:Int)-2) rfl xac J (bo.o _).dg.sz ?_;intro be i k b5 e x s m;obtain⟨B,(I:V _)⟩:=(bo.o _).outs_ s x e m;replace e:V _:=e;obtain⟨_,bI,bB,bE,c9,dd,dg⟩:=B);generalize b5.setCell ⟨Q,2,none⟩ (hC be k i)=y at I⊢;clear T bo x s m bI bB bE c9 dd dg bC aN a2 ev ew ex e;have al:V _:=I.o.finS rfl HSV.o;obtain⟨_,bC,aN,a2,_,_,_⟩:=I.o.bx;obtain⟨_,bF,a9,ba,ab,ae,af⟩:=I.o.rs;go_wp2_with fail;obtain⟨a8,aV,p2⟩:=eZ y w.heap.size _ _ _ bF a9 ba (.slice a1 ins.length c1) (.slice Y vs.length c2) (hC be k i);exact yaz (v:=eV a1 ins.length c1 Y vs.length c2 (some ⟨be,0,none⟩) k i) (by simp[results,results15,go_sem,a8,aV,p2]) rfl (hO HE.o al.o)):P:=h
theorem LM(hb:∀i,nv bs i<256){W aT d o y E M bt cm cv}(h:L2 w P n cap Q a bs a1 c1 a3 c3 ins outs aT Y c2 vs W)(hi:I4 ins)(bY:LenS aT.1)(ab:base+6<=aT.1.length/\aT.1.length<=100)(al:outs.length<=4)(ar:bl=(ins,(lpM ins base bs aT 14).1,outs++[((lpM ins base bs aT 14).1.length:Int)-1]++[((lpM ins base bs aT 14).1.length:Int)-2],(lpM ins base bs aT 14).2)):
  Code.wp prog (I6 16) (bodyPost prog Tryz.f15 (DgT w P a n cap bs bl)) ⟨#[hB P,b,hB w.heap.size,c,d,f,g,j,hB Q,l,hD base,o,p,q,r,u,v,y,z,A,R,C,D,E,F,G,H,ce,ap,K,L,M,aH,b4,U,S,bx,Vaa,X,cz,cw,bq,ea,ai,eb,ec,ed,ee,ef,eg,ei,b0,ej,aL,aQ,bU,ek,el,en,cN,eo,bz,ep,er,cn,co,cq,ct,aE,cW,cI,cA,b6,cK,cM,a6,cO,cS,cU,cV,c6,br,bu,bn,c8,di,ds,cF,d4,d5,bV,a4,bR,cJ,cg,ck,fv,aJ,cX,fz,b9,fG,fL,fM,bL,fP,fT,b7,f0,c7,f4,f5,f6,f7,bt,cR,dv,ga,bk,ca,cQ,et,ey,eA,eB,eC,eS,eT,e0,e3,e5,e6,e7,e8,e9,fa,fc,ff,fi,fl,fm,fo,fq,fs,fu,bH,O,ax,Z,av,cj,bG,cl,gb,bN,bd,cb,bK,gc,cD,cx,bD,gx,gy,gA,gB,bb,cm,gE,aG,gP,go,cs,ao,gR,cv,gT,b1,g0,g1,bO,cP,aU,aZ,cE,dp,gf,a0,cf,gp,gq,cL,eu,gr,cT,b8,gs,ch,bX,cr,gv,gw],[]⟩ W:=by
 have HL:V _:=h;have HE:V _:=ar;have bW:V _:=hi;have bw:V _:=bY;have J:V _:=ab;have HFn:V _:=al;clear h ar hi bY ab al;conv=>arg 2;whnf
 go_wp2_with fail;go_loopw [12] (λt W=>∃(k c2:Nat) (Y:Option Addr) (vs:List Vl),k<=14/\t=hD k/\V (L2 w P n cap Q a bs a1 c1 a3 c3 ins outs (lpM ins base bs aT k) Y c2 vs W)) (λt _=>14-(intOf t).toNat)
 case atStart=>exact⟨0,_,_,_,yae,rfl,HL.o⟩
 case round=>
  clear HL;obtain⟨k,c2,Y,vs,N,rfl,bJ⟩:=hrel;have aF:(lpM ins base _ _ k).1.length<=aT.1.length+2*k/\aT.1.length<=(lpM _ _ bs _ k).1.length:=BE _ _ _ _ _;have am:V ((lpM _ _ _ aT k).2<bs.length->lpM _ base _ _ (k+1)=stM ins _ _ _):=λh=>by rw[lpM,hG h]
  have ae:V (k=14\/¬(lpM ins base _ aT k).2<bs.length->_):=λh=>LF _ _ _ _ N h;have aI:=J.o;have b3:V (LenS (lpM _ base bs _ k).1):=yl bW.o bw.o xaa k;generalize lpM _ _ _ _ k=s at*;have ay:=hb s.2;have au:=hb (ni bs s.2);have a8:V (vs.length=s.1.length):=by rw[<-bJ.o.1,List.length_map];rfl
  have aO:6<=vs.length/\vs.length<=1000:=hM a8.o
  have T:base<=100:=xaa;clear aF aI;have HD:V _:=bJ.o.2;have HSV:V _:=bJ.o.1;clear bJ;by_cases gd:k<14/\s.2<bs.length
  ·have bZ:V _:=am.o gd.2;have az:(k:Int)<14:=xaa;have ag:0<bs.length-(s.2:Int):=xaa;clear am ae
   go_upto_region 21 with (first
    |(go_at_call 39;refine yaj (Cz HD.o.rd) ?_;rintro e ci ⟨rfl,bS⟩;have aq:=HD.o.keep bS;clear HD;have HD:V _:=aq;clear aq bS)
    |(go_at_call 33;refine yaj HD.o.next ?_;rintro e a7 ⟨rfl,aA⟩;clear HD;have HD:V _:=aA;clear aA))
   obtain⟨_,bf,aP,aY,B,aj,an⟩:=HD.o.bx;obtain⟨x,ak,d0,(cd:V _)⟩:∃x,x<vs.length/\(nv bs (ni bs s.2):Int)%vs.length=x/\nv bs _%s.1.length=x:=⟨_,Nat.mod_lt _ xaa,by rw[Int.natCast_emod],by rw[a8.o]⟩
   obtain⟨af,cp,aK,bp,aR,be⟩:=ig HD.o.dg.r2 rfl ak;have aM:=be.c1;have aw:Y=some ⟨af,0,none⟩:=by injection aK
   subst aw;have ah:(x:Int)<vs.length:=xaa;have cG:(0:Int)<vs.length:=xaa;clear aK bp aR be;obtain⟨m,aX,bF⟩:∃m,(vs.getD x _).len=m/\(vd s.1 x).len=m:=⟨_,rfl,by rw[<-HSV.o,CA,vd]⟩
   rw[aX]at aM;have aa:V _:=hE aX bF;clear aX bF;go_upto_if 90 with fail
   rw[d0];refine LI (PW ⟨HD.o,HSV.o,ak,aO,⟨ay,au,T⟩,aa.o.1,b3.o⟩ rfl rfl rfl cd.o aa.o.2 ?_ ?_)
   ·simp;omega
   intros;rename_i bi aN ad aD aC;have I:V _:=aC;clear aC;rw[<-bZ.o]at I;clear bZ HD aM bf aP aY B aj an d0;go_wp2_with fail;go_roundw
   case rel=>first|exact⟨k+1,ad,aN,aD,by omega,by go_num,I.o⟩|((repeat apply Exists.intro);exact⟨⟨k+1,ad,aN,aD,by omega,by go_num,I.o⟩,rfl⟩)
   case measure=>simp[intOf];omega
  have bZ:V _:=ae.o xaa;rw[bZ.o]at HE;clear bZ am ae b3;rw[<-a8.o]at HE;rcases (by omega:(k:Int)=14\/((k:Int)<14/\¬0<bs.length-(s.2:Int))) with az|⟨az,ag⟩
  ·have aS:¬(k:Int)<14:=xaa;clear az;go_upto_region 41 with fail;exact WkO
  go_upto_region 41 with (go_at_call 39;refine yaj (Cz HD.o.rd) ?_;rintro e ci ⟨rfl,bS⟩;have aq:=HD.o.keep bS;clear HD;have HD:V _:=aq;clear aq bS);exact WkO
variable{bs:List Int}
theorem I9(hb:∀i,nv bs i<256){az cB h s E M aN bt cm cp cv au}(aj:RdF az P a n cap cB bs)(ah:Kept P (P+1) w az)(b5:RB az w.heap.size iS iS iS)(hP:P<w.heap.size)(ar:bl=rsT bs cB):
  Code.wp prog (I6 8) (bodyPost prog Tryz.f15 (DgT w P a n cap bs bl)) ⟨#[hB P,b,hB w.heap.size,c,f,g,h,j,l,p,q,r,s,u,v,z,A,R,C,D,E,F,G,H,ce,ap,K,L,M,aH,b4,U,S,bx,Vaa,X,cz,cw,bq,ea,ai,eb,ec,ed,ee,ef,eg,ei,b0,ej,aL,aQ,bU,ek,el,en,cN,eo,bz,ep,er,cn,co,cq,ct,aE,cW,cI,cA,b6,cK,cM,a6,cO,cS,cU,cV,c6,br,bu,bn,c8,di,ds,cF,d4,d5,bV,a4,bR,cJ,cg,aN,ck,fv,aJ,cX,fz,b9,fG,fL,fM,bL,fP,fT,b7,f0,c7,f4,f5,f6,f7,bt,cR,dv,ga,bk,ca,cQ,et,ey,eA,eB,eC,eS,eT,e0,e3,e5,e6,e7,e8,e9,fa,fc,ff,fi,fl,fm,fo,fq,fs,fu,bH,O,ax,Z,av,cj,bG,cl,gb,bN,bd,cb,bK,gc,cD,cx,bD,gx,gy,gA,gB,bb,cm,gE,aG,cp,gP,go,cs,ao,gR,cv,gT,b1,g0,g1,bO,cP,aU,aZ,cE,dp,gf,a0,cf,gp,gq,cL,eu,gr,cT,b8,gs,ch,bX,cr,gv,gw,au],[]⟩ az:=by
 have aK:V _:=aj;have bY:V _:=ah;have aS:V _:=b5;have HE:V _:=ar;clear aj ah b5 ar;conv=>arg 2;whnf
 have aX:V _:=I3 aK.o;have B:V _:=Ao bs cB;have cy:V _:=I5 bs cB;unfold rsT rsL at HE;generalize (dgI bs _).1=aM at aX B HE cy;generalize (dgG bs _).1=aD at aX B HE cy;generalize dgO bs _=am at aX B HE;go_upto_region 10 with (go_at_call 37;refine yaj aX.o ?_;rintro e ab ⟨a1,c1,Y,c2,a3,c3,vs,rfl,(HSV:V _),d,an,aF⟩;have HD:V _:=Dy.fresh aS.o hP bY.o d an aF;clear d an aF);clear aX aK bY aS;have f1:=@kK prog;have f3:=qQ;go_upto_region 11 with fail;clear f1 f3;have T:V _:=λo m=>HD.o.keep ((ez 0 0 _ o).trans (eK 0 0 _ m));refine uL ?_;intro bj al;have I:V (Dy w bj P a n cap am.2 bs w.heap.size ab.heap.size (.slice a1 aM.length c1) (.slice Y vs.length c2) (.slice a3 am.1.length c3) aM vs am.1):=by rw[al];exact T.o _ _
 have aa:V (∀m:Nat,m<6->∃x,(x<18446744073709551616/\fb x=ksM m)/\bj.cell? ⟨ab.heap.size+1,m,none⟩=some (.float .f64 x)):=by rw[al];exact Qk xac ⟨by decide,rfl⟩ ⟨by decide,rfl⟩ ⟨by decide,rfl⟩ ⟨by decide,rfl⟩ ⟨gN _ _ _ _,gu _ _ _ _⟩ ⟨gN _ _ _ _,gu _ _ _ _⟩
 have cC:V (ab.heap.size+1<bj.heap.size):=by rw[al];show _<_;simp
 have ad:V ((Value.slice _ _ _).ownBlock≠some (ab.heap.size+1)):=λe=>by have:=(eH HD.o.dg.r2 e).2;simp at this
 clear al T HD;have af:vs.length=aD.length:=by rw[<-HSV.o,List.length_map]
 have bc:V (C1 w P n _ _ _ a _ _ _ _ _ _ _ (csM aD 0) _ _ _ _):=⟨by rw[HSV.o,csM];simp,I.o,ad.o,cC.o,aa.o⟩
 obtain⟨_,bC,b,a2,_,_,_⟩:=I.o.bx;clear ad aa cC;generalize ab.heap.size=Q at*;go_upto_region 12 with fail;rw[af];clear bC b a2 af;go_wp2_with fail;go_loopw [11] (λt W=>∃(k c2:Nat) (Y:Option Addr) (vs:List Vl),k<=6/\t=hD k/\V (C1 w P n cap am.2 Q a bs a1 c1 a3 c3 aM am.1 (csM aD k) Y c2 vs W)) (λt _=>6-(intOf t).toNat)
 case atStart=>exact⟨0,_,_,_,yae,rfl,bc.o⟩
 case round=>
  clear bc I HSV;obtain⟨k,c2,Y,vs,N,rfl,bT⟩:=hrel;by_cases aC:k<6
  ·obtain⟨ae,a5,bw,aw,bh⟩:=bT.o;obtain⟨x,⟨ak,bZ⟩,y⟩:=bh k aC;have aq:V (sv ⟨1,1,0,0,0,x⟩=⟨1,1,0,0,0,ksM k⟩):=by show _=_;rw[<-bZ,<-Bt];rfl
   clear bZ;have cu:vs.length<=100000:=by have bp:=congrArg List.length ae;have:=B.o.2.1;simp[csM]at bp;omega
   have aI:V (∀a7,Kept 0 0 _ a7->_):=λa7 cc=>a5.putK cc ⟨1,1,0,0,0,x⟩ ak cu ⟨aw,by omega,bw⟩;obtain⟨_,bC,b,a2,ev,ew,ex⟩:=a5.bx;have bP:(k:Int)<6:=xaa;clear ae a5 bw bh aw;go_upto_region 15 with fail;go_region_with (go_at_call 38;refine yaj (aI.o _ (eF _)) ?_;rintro e ag ⟨aB,cap',rfl,aO,aA⟩;obtain⟨_,bm,ay,aW,bv,bA,bM⟩:=aO)
   all_goals
    have bI:=bT.o.next aq.o aA
    rw[<-Aq]at bI
    have bc:V _:=bI
    clear bI
    clear aA
    go_wp2_with fail
    go_roundw;exact⟨k+1,cap',_,_,by omega,by go_num,bc.o⟩;simp[intOf];omega
  have b2:k=6:=xaa;obtain⟨ae,a5,_,_,_⟩:=bT.o;rw[b2]at ae⊢;rw[show((6:Nat):Int)=6 from rfl];clear bT b2 N aC k
  have J:V (aD.length+6<=(csM aD 6,am.2).1.length/\(csM aD 6,am.2).1.length<=100):=by
   have:=B.o.2.1;show _/\_;simp only[csM,yal,List.length_map,List.length_range];omega
  have bP:¬(6:Int)<6:=xab;go_upto_if 54 with fail
  refine wp_cond_false rfl (wp_exit ?_);exact(‹∀(a:Act) (w:World),Code.wp _ _ _ a w->_›) _ _ (LM hb ⟨ae,a5⟩ cy.o.2 (CJ cy.o.1 6) J.o B.o.2.2 HE.o)
