import Derived.Test.YtcjhlkdleojbjaaGreatP45
import Derived.Test.YtcjhlkdleojbjaaGreatP44
namespace Go.Proofs.Z
open Tryz
set_option maxRecDepth 1000000
set_option maxHeartbeats 0
open Go.RowKit Flt
attribute[local go_sem] eF eE eD
variable{w:World}{P n cap Q c1 c3 base c2:Nat}{a a1 a3 U:Option Addr}{ins outs:List Int}{T:List Int×List Vl×List Int×Nat}{b c f g j l p q r u v z A J C D bg G Y cf ad K L aV bv H S cg V X bS a9 bI dd ak df di ds dv dT d0 d1 d2 d4 bL b1 aY d5 d6 cj bR ea cN eb ec ci cu cx cy aE c9 cC cD cw cG cI aT cM cQ cS cT cU bO bf bM cV cW cX cB c6 dc b0 a4 bN cz b3 cp e5 aC cA e6 e7 bx fa fc ff fj fl bm fm cH fo fq fs fu fv ek fz aO cr ca ed ee ef eg ei ej bW el et eu ev ew ex ey eA eB eC eL eS eT e0 e1 e2 e3 bE R aS aa bi b7 ba ck b4 fM bh cb bV fS fG bH aH gd bG b9 gf b2 gi cl fT f0 cs gp c8 gr cO gs gu cP ct f4 aU cE d3 f5 f6 cJ f7 f8 cL d7 I cR ga gb gc bB a2 fP ax:Value}{vs:List Vl}
variable{bs:List Int}
theorem Qf{W s j c d x m}(h:DgH w P n cap Q a bs a1 c1 a3 c3 ins outs s.1 j base c d x m U c2 vs W)(an:nv bs s.2=c)(e:nv bs (ni bs s.2)=d)(Z:ni bs (ni bs s.2)=j)(dg:d%s.1.length=x)(em:(vd s.1 x).len=m):pP w P n cap Q a bs a1 c1 a3 c3 ins outs (stM ins base bs s) base c d x m W:=by
 unfold stM;simp only[an,e,Z,dg,em];rcases (by omega:c%8=0\/c%8=1\/c%8=2\/(c%8=3\/c%8=4\/c%8=5)\/c%8=6\/c%8=7) with ah|ah|ah|ah|ah|ah
 ·rw[hD ah];exact P9 h ah
 ·rw[hC xaa,hD ah];exact Qe h ah
 ·rw[hC xaa,hC xaa,hD ah];exact Qa h ah
 ·by_cases am:m=1
  ·rw[hC xaa,hC xaa,hC xaa,hD ⟨am,by omega⟩];by_cases N:c%2=1
   ·rw[hD N];exact Qb h xaa am
   rw[hC N];exact Qc h xaa am
  rw[hC xaa,hC xaa,hC xaa,hC xaa,hC xaa];exact Nf h (.inr ⟨ah,am⟩)
 ·rw[hC xaa,hC xaa,hC xaa,hC xaa,hD ah];exact Qd h ah
 rw[hC xaa,hC xaa,hC xaa,hC xaa,hC xaa];exact Nf h (.inl ah)
theorem WkO{y:Prop}(h:y:=by
  have bq:E _:=HD.o.ox;obtain⟨_,bD,aQ,a8,en,ep,er⟩:=HD.o.bx;have cK:outs.length+1<=1000:=hJ HFn.o
  go_upto_region 42 with (at_builtin;refine fZ _ rfl _ _ rfl w.heap.size (.slice a3 outs.length c3) outs rfl (bq.o _).dg.r3 _ ((vs.length:Int)-1) rfl xac (yao cK xab) (bq.o _).dg.sz ?_;intro g9 cap9 n9 bj aw bF aF bT;obtain⟨o,(aJ:E _)⟩:=(bq.o _).outs_ aF bF aw bT;replace aw:E _:=aw;obtain⟨_,bz,bo,bw,s,cn,x⟩:=o);generalize bj.setCell ⟨Q,2,none⟩ (hz g9 n9 cap9)=ap at aJ⊢;clear HD bq bF aF bT bz bo bw s cn x bD aQ a8 en ep er aw;have bq:E _:=aJ.o.ox;obtain⟨_,bD,aQ,a8,en,ep,er⟩:=aJ.o.bx;have ah:(outs++[(vs.length:Int)-1]).length+1<=1000000:=by rw[yal,List.length_singleton];omega
  go_upto_region 43 with (at_builtin;refine fZ _ rfl _ _ rfl w.heap.size (hz g9 n9 cap9) (outs++[(vs.length:Int)-1]) rfl (bq.o _).dg.r3 _ ((vs.length:Int)-2) rfl xac ah (bq.o _).dg.sz ?_;intro bJ i m af e ab O F;obtain⟨ag,(N:E _)⟩:=(bq.o _).outs_ O ab e F;replace e:E _:=e;obtain⟨_,bz,bo,bw,s,cn,x⟩:=ag);generalize af.setCell ⟨Q,2,none⟩ (hz bJ m i)=ae at N⊢;clear aJ bq ab O F bz bo bw s cn x bD aQ a8 en ep er e;have aI:E _:=N.o.finS rfl HSV.o;obtain⟨_,bD,aQ,a8,_,_,_⟩:=N.o.bx;obtain⟨_,aD,a5,a7,ai,aj,al⟩:=N.o.rs;go_wp2_with fail;obtain⟨bK,bu,p2⟩:=fp ae w.heap.size _ _ _ aD a5 a7 (.slice a1 ins.length c1) (.slice U vs.length c2) (hz bJ m i);exact yaz (v:=eZ a1 ins.length c1 U vs.length c2 (some ⟨bJ,0,none⟩) m i) (by simp[results,results16,go_sem,bK,bu,p2]) rfl (hL HE.o aI.o)):y:=h
theorem Mg(hb:∀i,nv bs i<256){W aZ d o y Eaa M bt cm cv}(h:L2 w P n cap Q a bs a1 c1 a3 c3 ins outs aZ U c2 vs W)(hi:I5 ins)(co:LenS aZ.1)(av:base+6<=aZ.1.length/\aZ.1.length<=100)(ho:outs.length<=4)(au:T=(ins,(lpM ins base bs aZ 14).1,outs++[((lpM ins base bs aZ 14).1.length:Int)-1]++[((lpM ins base bs aZ 14).1.length:Int)-2],(lpM ins base bs aZ 14).2)):
  Code.wp prog (I7 16) (bodyPost prog Tryz.f16 (DgT w P a n cap bs T)) ⟨#[hy P,b,hy w.heap.size,c,d,f,g,j,hy Q,l,hA base,o,p,q,r,u,v,y,z,A,J,C,D,Eaa,bg,G,Y,cf,ad,K,L,M,aV,bv,H,S,cg,V,X,bS,a9,bI,dd,ak,df,di,ds,dv,dT,d0,d1,d2,d4,bL,b1,aY,d5,d6,cj,bR,ea,cN,eb,ec,ci,cu,cx,cy,aE,c9,cC,cD,cw,cG,cI,aT,cM,cQ,cS,cT,cU,bO,bf,bM,cV,cW,cX,cB,c6,dc,b0,a4,bN,cz,b3,cp,e5,aC,cA,e6,e7,bx,fa,fc,ff,fj,fl,bm,fm,cH,fo,fq,fs,fu,bt,fv,ek,fz,aO,cr,ca,ed,ee,ef,eg,ei,ej,bW,el,et,eu,ev,ew,ex,ey,eA,eB,eC,eL,eS,eT,e0,e1,e2,e3,bE,R,aS,aa,bi,b7,ba,ck,b4,fM,bh,cb,bV,fS,fG,bH,aH,gd,bG,b9,gf,b2,cm,gi,cl,fT,f0,cs,gp,c8,cv,gr,cO,gs,gu,cP,ct,f4,aU,cE,d3,f5,f6,cJ,f7,f8,cL,d7,I,cR,ga,gb,gc,bB,a2,fP,ax],[]⟩ W:=by
 have HL:E _:=h;have HE:E _:=au;have cc:E _:=hi;have bT:E _:=co;have aL:E _:=av;have HFn:E _:=ho;clear h au hi co av ho;conv=>arg 2;whnf
 go_wp2_with fail;go_loopw [12] (λt W=>∃(k c2:Nat) (U:Option Addr) (vs:List Vl),k<=14/\t=hA k/\E (L2 w P n cap Q a bs a1 c1 a3 c3 ins outs (lpM ins base bs aZ k) U c2 vs W)) (λt _=>14-(intOf t).toNat)
 case atStart=>exact⟨0,_,_,_,yae,rfl,HL.o⟩
 case round=>
  clear HL;obtain⟨k,c2,U,vs,O,rfl,bA⟩:=hrel;have ay:(lpM ins base _ _ k).1.length<=aZ.1.length+2*k/\aZ.1.length<=(lpM _ _ bs _ k).1.length:=BN _ _ _ _ _;have ab:E ((lpM _ _ _ aZ k).2<bs.length->lpM _ base _ _ (k+1)=stM ins _ _ _):=λh=>by rw[lpM,hD h]
  have Z:E (k=14\/¬(lpM ins base _ aZ k).2<bs.length->_):=λh=>Md _ _ _ _ O h;have az:=aL.o;have cd:E (LenS (lpM _ base bs _ k).1):=yl cc.o bT.o xaa k;generalize lpM _ _ _ _ k=s at*;have bc:=hb s.2;have ao:=hb (ni bs s.2);have bu:E (vs.length=s.1.length):=by rw[<-bA.o.1,List.length_map];rfl
  have aB:6<=vs.length/\vs.length<=1000:=hJ bu.o
  have ae:base<=100:=xaa;clear ay az;have HD:E _:=bA.o.2;have HSV:E _:=bA.o.1;clear bA;by_cases aA:k<14/\s.2<bs.length
  ·have bY:E _:=ab.o aA.2;have ag:(k:Int)<14:=xaa;have aq:0<bs.length-(s.2:Int):=xaa;clear ab Z
   go_upto_region 21 with (first
    |(go_at_call 45;refine yaj (CN HD.o.rd) ?_;rintro e aW ⟨rfl,bQ⟩;have af:=HD.o.keep bQ;clear HD;have HD:E _:=af;clear af bQ)
    |(go_at_call 15;refine yaj HD.o.next ?_;rintro e aF ⟨rfl,ah⟩;clear HD;have HD:E _:=ah;clear ah))
   obtain⟨_,bn,aX,bb,F,aD,al⟩:=HD.o.bx;obtain⟨x,an,dg,(c7:E _)⟩:∃x,x<vs.length/\(nv bs (ni bs s.2):Int)%vs.length=x/\nv bs _%s.1.length=x:=⟨_,Nat.mod_lt _ xaa,by rw[Int.natCast_emod],by rw[bu.o]⟩
   obtain⟨ar,ce,aK,ai,b8,a7⟩:=jN HD.o.dg.r2 rfl an;have aP:=a7.c1;have N:U=some ⟨ar,0,none⟩:=by injection aK
   subst N;have aj:(x:Int)<vs.length:=xaa;have cK:(0:Int)<vs.length:=xaa;clear aK ai b8 a7;obtain⟨m,a5,bX⟩:∃m,(vs.getD x _).len=m/\(vd s.1 x).len=m:=⟨_,rfl,by rw[<-HSV.o,CO,vd]⟩
   rw[a5]at aP;have HM:E _:=hB a5 bX;clear a5 bX;go_upto_if 90 with fail
   rw[dg];refine Mf (Qf ⟨HD.o,HSV.o,an,aB,⟨bc,ao,ae⟩,HM.o.1,cd.o⟩ rfl rfl rfl c7.o HM.o.2 ?_ ?_)
   ·simp;omega
   intros;rename_i bk aQ cn aw ap;have B:E _:=ap;clear ap;rw[<-bY.o]at B;clear bY HD aP bn aX bb F aD al dg;go_wp2_with fail;go_roundw
   case rel=>first|exact⟨k+1,cn,aQ,aw,by omega,by go_num,B.o⟩|((repeat apply Exists.intro);exact⟨⟨k+1,cn,aQ,aw,by omega,by go_num,B.o⟩,rfl⟩)
   case measure=>simp[intOf];omega
  have bY:E _:=Z.o xaa;rw[bY.o]at HE;clear bY ab Z cd;rw[<-bu.o]at HE;rcases (by omega:(k:Int)=14\/((k:Int)<14/\¬0<bs.length-(s.2:Int))) with ag|⟨ag,aq⟩
  ·have aG:¬(k:Int)<14:=xaa;clear ag;go_upto_region 41 with fail;exact WkO
  go_upto_region 41 with (go_at_call 45;refine yaj (CN HD.o.rd) ?_;rintro e aW ⟨rfl,bQ⟩;have af:=HD.o.keep bQ;clear HD;have HD:E _:=af;clear af bQ);exact WkO
variable{bs:List Int}
theorem I8(hb:∀i,nv bs i<256){az ch h s Eaa M aQ bt cm ce cv al}(af:RdF az P a n cap ch bs)(ab:Kept P (P+1) w az)(bq:RB az w.heap.size iz iz iz)(hP:P<w.heap.size)(au:T=rsT bs ch):
  Code.wp prog (I7 8) (bodyPost prog Tryz.f16 (DgT w P a n cap bs T)) ⟨#[hy P,b,hy w.heap.size,c,f,g,h,j,l,p,q,r,s,u,v,z,A,J,C,D,Eaa,bg,G,Y,cf,ad,K,L,M,aV,bv,H,S,cg,V,X,bS,a9,bI,dd,ak,df,di,ds,dv,dT,d0,d1,d2,d4,bL,b1,aY,d5,d6,cj,bR,ea,cN,eb,ec,ci,cu,cx,cy,aE,c9,cC,cD,cw,cG,cI,aT,cM,cQ,cS,cT,cU,bO,bf,bM,cV,cW,cX,cB,c6,dc,b0,a4,bN,cz,b3,aQ,cp,e5,aC,cA,e6,e7,bx,fa,fc,ff,fj,fl,bm,fm,cH,fo,fq,fs,fu,bt,fv,ek,fz,aO,cr,ca,ed,ee,ef,eg,ei,ej,bW,el,et,eu,ev,ew,ex,ey,eA,eB,eC,eL,eS,eT,e0,e1,e2,e3,bE,R,aS,aa,bi,b7,ba,ck,b4,fM,bh,cb,bV,fS,fG,bH,aH,gd,bG,b9,gf,b2,cm,gi,cl,ce,fT,f0,cs,gp,c8,cv,gr,cO,gs,gu,cP,ct,f4,aU,cE,d3,f5,f6,cJ,f7,f8,cL,d7,I,cR,ga,gb,gc,bB,a2,fP,ax,al],[]⟩ az:=by
 have aj:E _:=af;have bX:E _:=ab;have ar:E _:=bq;have HE:E _:=au;clear af ab bq au;conv=>arg 2;whnf
 have be:E _:=I4 aj.o;have F:E _:=Ap bs ch;have cF:E _:=I6 bs ch;unfold rsT rsL at HE;generalize (dgI bs _).1=ah at be F HE cF;generalize (dgG bs _).1=am at be F HE cF;generalize dgO bs _=ae at be F HE;go_upto_region 10 with (go_at_call 43;refine yaj be.o ?_;rintro e aB ⟨a1,c1,U,c2,a3,c3,vs,rfl,(HSV:E _),d,aM,aR⟩;have HD:E _:=Dy.fresh ar.o hP bX.o d aM aR;clear d aM aR);clear be aj bX ar;have f1:=@jX prog;have f3:=lF;go_upto_region 11 with fail;clear f1 f3;have aJ:E _:=λo m=>HD.o.keep ((ez 0 0 _ o).trans (eJ 0 0 _ m));refine Av ?_;intro bc a6;have N:E (Dy w bc P a n cap ae.2 bs w.heap.size aB.heap.size (.slice a1 ah.length c1) (.slice U vs.length c2) (.slice a3 ae.1.length c3) ah vs ae.1):=by rw[a6];exact aJ.o _ _
 have Z:E (∀m:Nat,m<6->∃x,(x<18446744073709551616/\fb x=ksM m)/\bc.cell? ⟨aB.heap.size+1,m,none⟩=some (.float .f64 x)):=by rw[a6];exact QE xac ⟨by decide,rfl⟩ ⟨by decide,rfl⟩ ⟨by decide,rfl⟩ ⟨by decide,rfl⟩ ⟨gJ _ _ _ _,gl _ _ _ _⟩ ⟨gJ _ _ _ _,gl _ _ _ _⟩
 have co:E (aB.heap.size+1<bc.heap.size):=by rw[a6];show _<_;simp
 have B:E ((Value.slice _ _ _).ownBlock≠some (aB.heap.size+1)):=λe=>by have:=(eH HD.o.dg.r2 e).2;simp at this
 clear a6 aJ HD;have aW:vs.length=am.length:=by rw[<-HSV.o,List.length_map]
 have HC:E (C1 w P n _ _ _ a _ _ _ _ _ _ _ (csM am 0) _ _ _ _):=⟨by rw[HSV.o,csM];simp,N.o,B.o,co.o,Z.o⟩
 obtain⟨_,bD,b,a8,_,_,_⟩:=N.o.bx;clear B Z co;generalize aB.heap.size=Q at*;go_upto_region 12 with fail;rw[aW];clear bD b a8 aW;go_wp2_with fail;go_loopw [11] (λt W=>∃(k c2:Nat) (U:Option Addr) (vs:List Vl),k<=6/\t=hA k/\E (C1 w P n cap ae.2 Q a bs a1 c1 a3 c3 ah ae.1 (csM am k) U c2 vs W)) (λt _=>6-(intOf t).toNat)
 case atStart=>exact⟨0,_,_,_,yae,rfl,HC.o⟩
 case round=>
  clear HC N HSV;obtain⟨k,c2,U,vs,O,rfl,bu⟩:=hrel;by_cases aG:k<6
  ·obtain⟨ao,bl,bC,aI,bd⟩:=bu.o;obtain⟨x,⟨an,bY⟩,y⟩:=bd k aG;have ai:E (sv ⟨1,1,0,0,0,x⟩=⟨1,1,0,0,0,ksM k⟩):=by show _=_;rw[<-bY,<-BG];rfl
   clear bY;have cq:vs.length<=100000:=by have aP:=congrArg List.length ao;have:=F.o.2.1;simp[csM]at aP;omega
   have HF:E (∀aF,Kept 0 0 _ aF->_):=λaF bU=>bl.putK bU ⟨1,1,0,0,0,x⟩ an cq ⟨aI,by omega,bC⟩;obtain⟨_,bD,b,a8,en,ep,er⟩:=bl.bx;have bp:(k:Int)<6:=xaa;clear ao bl bC bd aI;go_upto_region 15 with fail;go_region_with (go_at_call 44;refine yaj (HF.o _ (eG _)) ?_;rintro e ag ⟨aq,cap',rfl,aA,av⟩;obtain⟨_,br,ay,a0,bZ,b5,b6⟩:=aA)
   all_goals
    have aN:=bu.o.next ai.o av
    rw[<-As]at aN
    have HC:E _:=aN
    clear aN
    clear av
    go_wp2_with fail
    go_roundw;exact⟨k+1,cap',_,_,by omega,by go_num,HC.o⟩;simp[intOf];omega
  have bP:k=6:=xaa;obtain⟨ao,bl,_,_,_⟩:=bu.o;rw[bP]at ao⊢;rw[show((6:Nat):Int)=6 from rfl];clear bu bP O aG k
  have aL:E (am.length+6<=(csM am 6,ae.2).1.length/\(csM am 6,ae.2).1.length<=100):=by
   have:=F.o.2.1;show _/\_;simp only[csM,yal,List.length_map,List.length_range];omega
  have bp:¬(6:Int)<6:=xab;go_upto_if 54 with fail
  refine wp_cond_false rfl (wp_exit ?_);exact(‹∀(a:Act) (w:World),Code.wp _ _ _ a w->_›) _ _ (Mg hb ⟨ao,bl⟩ cF.o.2 (CQ cF.o.1 6) aL.o F.o.2.2 HE.o)
