import Derived.Test.YtcagphgmfbjneaaGreatP41
import Derived.Test.YtcagphgmfbjneaaGreatP40
namespace Go.Proofs.Z
open Tryz
set_option maxRecDepth 1000000
set_option maxHeartbeats 0
open Go.RowKit Flt
attribute[local go_sem] eE eD eC
variable{w:World}{P n cap Q c1 c3 base c2:Nat}{a a1 a3 J:Option Addr}{ins outs:List Int}{T:List Int×List Vl×List Int×Nat}{b c f g j l p q r u v z A I C D br G ad bW ag K L N bu R S bh Vaa X bo cl aX cS av cT cV c6 c7 c9 di ds dv dT ay bA aP d1 d2 d4 aF d5 bN d6 d7 ce cf ci cj aE cX ck cn aQ cw cA a5 cB cC cD cI cJ aI bi aL cK cM cN cF cO cP cg a4 bp cu a8 cd e1 bz bg e2 e3 b4 e5 e6 e7 e9 fa fc ff b5 fj fl fm fq fs eb fu aN d9 dg ea ec ej ek el en bD ep eq er et eu ev ew ex ey ez eB eL eP eR eS eT e0 bL U aV aa b1 ct bX cR bJ fv bc cb aK aO fz co aB ar gc aW gd a6 gf cy gg fG cs gp fM gr cQ gs gu b0 d3 fP bQ cE dc f0 f4 ed f5 f6 cL d0 f7 cU f8 ga gb bj aA ch b9:Value}{vs:List Vl}
variable{bs:List Int}
theorem Qx{W s j c d x m}(h:DgH w P n cap Q a bs a1 c1 a3 c3 ins outs s.1 j base c d x m J c2 vs W)(bv:nv bs s.2=c)(e:nv bs (ni bs s.2)=d)(k:ni bs (ni bs s.2)=j)(da:d%s.1.length=x)(em:(vd s.1 x).len=m):qh w P n cap Q a bs a1 c1 a3 c3 ins outs (stM ins base bs s) base c d x m W:=by
 unfold stM;simp only[bv,e,k,da,em];rcases (by omega:c%8=0\/c%8=1\/c%8=2\/(c%8=3\/c%8=4\/c%8=5)\/c%8=6\/c%8=7) with al|al|al|al|al|al
 ·rw[h7 al];exact Qr h al
 ·rw[h6 xaa,h7 al];exact Qw h al
 ·rw[h6 xaa,h6 xaa,h7 al];exact Qs h al
 ·by_cases ao:m=1
  ·rw[h6 xaa,h6 xaa,h6 xaa,h7 ⟨ao,by omega⟩];by_cases h2:c%2=1
   ·rw[h7 h2];exact Qt h xaa ao
   rw[h6 h2];exact Qu h xaa ao
  rw[h6 xaa,h6 xaa,h6 xaa,h6 xaa,h6 xaa];exact Nf h (.inr ⟨al,ao⟩)
 ·rw[h6 xaa,h6 xaa,h6 xaa,h6 xaa,h7 al];exact Qv h al
 rw[h6 xaa,h6 xaa,h6 xaa,h6 xaa,h6 xaa];exact Nf h (.inl al)
theorem WkO{P:Prop}(h:P:=by
  have bE:V _:=HD.o.ox;obtain⟨_,bP,aR,bd,ee,ef,eg⟩:=HD.o.bx;have dd:outs.length+1<=1000:=ix HFn.o
  go_upto_region 42 with (at_builtin;refine fR _ rfl _ _ rfl w.heap.size (.slice a3 outs.length c3) outs rfl (bE.o _).dg.r3 _ ((vs.length:Int)-1) rfl xac (yao dd xab) (bE.o _).dg.sz ?_;intro g9 cap9 n9 bn an bU aG bO;obtain⟨aM,(au:V _)⟩:=(bE.o _).outs_ aG bU an bO;replace an:V _:=an;obtain⟨_,bF,bB,bG,m,t,x⟩:=aM);generalize bn.setCell ⟨Q,2,none⟩ (h0 g9 n9 cap9)=b6 at au⊢;clear HD bE bU aG bO bF bB bG m t x bP aR bd ee ef eg an;have bE:V _:=au.o.ox;obtain⟨_,bP,aR,bd,ee,ef,eg⟩:=au.o.bx;have ab:(outs++[(vs.length:Int)-1]).length+1<=1000000:=by rw[yal,List.length_singleton];omega
  go_upto_region 43 with (at_builtin;refine fR _ rfl _ _ rfl w.heap.size (h0 g9 n9 cap9) (outs++[(vs.length:Int)-1]) rfl (bE.o _).dg.r3 _ ((vs.length:Int)-2) rfl xac ab (bE.o _).dg.sz ?_;intro bw e k cq d O F y;obtain⟨Z,(B:V _)⟩:=(bE.o _).outs_ F O d y;replace d:V _:=d;obtain⟨_,bF,bB,bG,m,t,x⟩:=Z);generalize cq.setCell ⟨Q,2,none⟩ (h0 bw k e)=cx at B⊢;clear au bE O F y bF bB bG m t x bP aR bd ee ef eg d;have Y:V _:=B.o.finS rfl HSV.o;obtain⟨_,bP,aR,bd,_,_,_⟩:=B.o.bx;obtain⟨_,aw,ba,bb,ae,af,ai⟩:=B.o.rs;go_wp2_with fail;obtain⟨bH,bk,p2⟩:=fd cx w.heap.size _ _ _ aw ba bb (.slice a1 ins.length c1) (.slice J vs.length c2) (h0 bw k e);exact yaz (v:=eX a1 ins.length c1 J vs.length c2 (some ⟨bw,0,none⟩) k e) (by simp[results,results65,go_sem,bH,bk,p2]) rfl (i1 HE.o Y.o)):P:=h
theorem LH(hb:∀i,nv bs i<256){W aY d o y E M bt cm cv}(h:L2 w P n cap Q a bs a1 c1 a3 c3 ins outs aY J c2 vs W)(hi:BP ins)(cq:LenS aY.1)(Z:base+6<=aY.1.length/\aY.1.length<=100)(ho:outs.length<=4)(bU:T=(ins,(lpM ins base bs aY 14).1,outs++[((lpM ins base bs aY 14).1.length:Int)-1]++[((lpM ins base bs aY 14).1.length:Int)-2],(lpM ins base bs aY 14).2)):
  Code.wp prog (Ir 16) (bodyPost prog Tryz.f65 (DgT w P a n cap bs T)) ⟨#[hZ P,b,hZ w.heap.size,c,d,f,g,j,hZ Q,l,h1 base,o,p,q,r,u,v,y,z,A,I,C,D,E,br,G,ad,bW,ag,K,L,M,N,bu,R,S,bh,Vaa,X,bo,cl,aX,cS,av,cT,cV,c6,c7,c9,di,ds,dv,dT,ay,bA,aP,d1,d2,d4,aF,d5,bN,d6,d7,ce,cf,ci,cj,aE,cX,ck,cn,aQ,cw,cA,a5,cB,cC,cD,cI,cJ,aI,bi,aL,cK,cM,cN,cF,cO,cP,cg,a4,bp,cu,a8,cd,e1,bz,bg,e2,e3,b4,e5,e6,e7,e9,fa,fc,ff,b5,fj,fl,fm,fq,bt,fs,eb,fu,aN,d9,dg,ea,ec,ej,ek,el,en,bD,ep,eq,er,et,eu,ev,ew,ex,ey,ez,eB,eL,eP,eR,eS,eT,e0,bL,U,aV,aa,b1,ct,bX,cR,bJ,fv,bc,cb,aK,aO,fz,co,aB,ar,gc,aW,gd,a6,cm,gf,cy,gg,fG,cs,gp,fM,cv,gr,cQ,gs,gu,b0,d3,fP,bQ,cE,dc,f0,f4,ed,f5,f6,cL,d0,f7,cU,f8,ga,gb,bj,aA,ch,b9],[]⟩ W:=by
 have HL:V _:=h;have HE:V _:=bU;have b8:V _:=hi;have bF:V _:=cq;have ai:V _:=Z;have HFn:V _:=ho;clear h bU hi cq Z ho;conv=>arg 2;whnf
 go_wp2_with fail;go_loopw [12] (λt W=>∃(k c2:Nat) (J:Option Addr) (vs:List Vl),k<=14/\t=h1 k/\V (L2 w P n cap Q a bs a1 c1 a3 c3 ins outs (lpM ins base bs aY k) J c2 vs W)) (λt _=>14-(intOf t).toNat)
 case atStart=>exact⟨0,_,_,_,yae,rfl,HL.o⟩
 case round=>
  clear HL;obtain⟨k,c2,J,vs,O,rfl,bV⟩:=hrel;have aH:(lpM ins base _ _ k).1.length<=aY.1.length+2*k/\aY.1.length<=(lpM _ _ bs _ k).1.length:=BQ _ _ _ _ _;have be:V ((lpM _ _ _ aY k).2<bs.length->lpM _ base _ _ (k+1)=stM ins _ _ _):=λh=>by rw[lpM,h7 h]
  have al:V (k=14\/¬(lpM ins base _ aY k).2<bs.length->_):=λh=>LC _ _ _ _ O h;have aq:=ai.o;have cx:V (LenS (lpM _ base bs _ k).1):=yE b8.o bF.o xaa k;generalize lpM _ _ _ _ k=s at*;have am:=hb s.2;have ax:=hb (ni bs s.2);have bI:V (vs.length=s.1.length):=by rw[<-bV.o.1,List.length_map];rfl
  have aT:6<=vs.length/\vs.length<=1000:=ix bI.o
  have ae:base<=100:=xaa;clear aH aq;have HD:V _:=bV.o.2;have HSV:V _:=bV.o.1;clear bV;by_cases aR:k<14/\s.2<bs.length
  ·have HQ:V _:=be.o aR.2;have ao:(k:Int)<14:=xaa;have ah:0<bs.length-(s.2:Int):=xaa;clear be al
   go_upto_region 21 with (first
    |(go_at_call 80;refine yaj (CU HD.o.rd) ?_;rintro e ca ⟨rfl,a2⟩;have ab:=HD.o.keep a2;clear HD;have HD:V _:=ab;clear ab a2)
    |(go_at_call 14;refine yaj HD.o.next ?_;rintro e a7 ⟨rfl,au⟩;clear HD;have HD:V _:=au;clear au))
   obtain⟨_,bl,aS,a9,B,F,ak⟩:=HD.o.bx;obtain⟨x,ap,da,(cW:V _)⟩:∃x,x<vs.length/\(nv bs (ni bs s.2):Int)%vs.length=x/\nv bs _%s.1.length=x:=⟨_,Nat.mod_lt _ xaa,by rw[Int.natCast_emod],by rw[bI.o]⟩
   obtain⟨af,b7,az,aw,bC,bw⟩:=gO HD.o.dg.r2 rfl ap;have aJ:=bw.c1;have an:J=some ⟨af,0,none⟩:=by injection az
   subst an;have aj:(x:Int)<vs.length:=xaa;have cH:(0:Int)<vs.length:=xaa;clear az aw bC bw;obtain⟨m,cG,c8⟩:∃m,(vs.getD x _).len=m/\(vd s.1 x).len=m:=⟨_,rfl,by rw[<-HSV.o,CV,vd]⟩
   rw[cG]at aJ;have Y:V _:=h5 cG c8;clear cG c8;go_upto_if 90 with fail
   rw[da];refine LF (Qx ⟨HD.o,HSV.o,ap,aT,⟨am,ax,ae⟩,Y.o.1,cx.o⟩ rfl rfl rfl cW.o Y.o.2 ?_ ?_)
   ·simp;omega
   intros;rename_i ba aM b2 aG aD;have H:V _:=aD;clear aD;rw[<-HQ.o]at H;clear HQ HD aJ bl aS a9 B F ak da;go_wp2_with fail;go_roundw
   case rel=>first|exact⟨k+1,b2,aM,aG,by omega,by go_num,H.o⟩|((repeat apply Exists.intro);exact⟨⟨k+1,b2,aM,aG,by omega,by go_num,H.o⟩,rfl⟩)
   case measure=>simp[intOf];omega
  have HQ:V _:=al.o xaa;rw[HQ.o]at HE;clear HQ be al cx;rw[<-bI.o]at HE;rcases (by omega:(k:Int)=14\/((k:Int)<14/\¬0<bs.length-(s.2:Int))) with ao|⟨ao,ah⟩
  ·have aU:¬(k:Int)<14:=xaa;clear ao;go_upto_region 41 with fail;exact WkO
  go_upto_region 41 with (go_at_call 80;refine yaj (CU HD.o.rd) ?_;rintro e ca ⟨rfl,a2⟩;have ab:=HD.o.keep a2;clear HD;have HD:V _:=ab;clear ab a2);exact WkO
variable{bs:List Int}
theorem Is(hb:∀i,nv bs i<256){ax cq h s E M aM bt cm b7 cv aS}(aJ:RdF ax P a n cap cq bs)(ao:Kept P (P+1) w ax)(ak:RB ax w.heap.size iR iR iR)(hP:P<w.heap.size)(bU:T=rsT bs cq):
  Code.wp prog (Ir 8) (bodyPost prog Tryz.f65 (DgT w P a n cap bs T)) ⟨#[hZ P,b,hZ w.heap.size,c,f,g,h,j,l,p,q,r,s,u,v,z,A,I,C,D,E,br,G,ad,bW,ag,K,L,M,N,bu,R,S,bh,Vaa,X,bo,cl,aX,cS,av,cT,cV,c6,c7,c9,di,ds,dv,dT,ay,bA,aP,d1,d2,d4,aF,d5,bN,d6,d7,ce,cf,ci,cj,aE,cX,ck,cn,aQ,cw,cA,a5,cB,cC,cD,cI,cJ,aI,bi,aL,cK,cM,cN,cF,cO,cP,cg,a4,bp,cu,a8,aM,cd,e1,bz,bg,e2,e3,b4,e5,e6,e7,e9,fa,fc,ff,b5,fj,fl,fm,fq,bt,fs,eb,fu,aN,d9,dg,ea,ec,ej,ek,el,en,bD,ep,eq,er,et,eu,ev,ew,ex,ey,ez,eB,eL,eP,eR,eS,eT,e0,bL,U,aV,aa,b1,ct,bX,cR,bJ,fv,bc,cb,aK,aO,fz,co,aB,ar,gc,aW,gd,a6,cm,gf,cy,b7,gg,fG,cs,gp,fM,cv,gr,cQ,gs,gu,b0,d3,fP,bQ,cE,dc,f0,f4,ed,f5,f6,cL,d0,f7,cU,f8,ga,gb,bj,aA,ch,b9,aS],[]⟩ ax:=by
 have bK:V _:=aJ;have bZ:V _:=ao;have Z:V _:=ak;have HE:V _:=bU;clear aJ ao ak bU;conv=>arg 2;whnf
 have bv:V _:=BN bK.o;have F:V _:=AD bs cq;have cz:V _:=AF bs cq;unfold rsT rsL at HE;generalize (dgI bs _).1=af at bv F HE cz;generalize (dgG bs _).1=ah at bv F HE cz;generalize dgO bs _=H at bv F HE;go_upto_region 10 with (go_at_call 64;refine yaj bv.o ?_;rintro e aU ⟨a1,c1,J,c2,a3,c3,vs,rfl,(HSV:V _),d,az,aZ⟩;have HD:V _:=Dy.fresh Z.o hP bZ.o d az aZ;clear d az aZ);clear bv bK bZ Z;have f1:=@kr prog;have f3:=lT;go_upto_region 11 with fail;clear f1 f3;have au:V _:=λo m=>HD.o.keep ((eA 0 0 _ o).trans (eH 0 0 _ m));refine AJ ?_;intro cc ab;have B:V (Dy w cc P a n cap H.2 bs w.heap.size aU.heap.size (.slice a1 af.length c1) (.slice J vs.length c2) (.slice a3 H.1.length c3) af vs H.1):=by rw[ab];exact au.o _ _
 have al:V (∀m:Nat,m<6->∃x,(x<18446744073709551616/\fb x=ksM m)/\cc.cell? ⟨aU.heap.size+1,m,none⟩=some (.float .f64 x)):=by rw[ab];exact Rg xac ⟨by decide,rfl⟩ ⟨by decide,rfl⟩ ⟨by decide,rfl⟩ ⟨by decide,rfl⟩ ⟨gF _ _ _ _,fV _ _ _ _⟩ ⟨gF _ _ _ _,fV _ _ _ _⟩
 have cp:V (aU.heap.size+1<cc.heap.size):=by rw[ab];show _<_;simp
 have Y:V ((Value.slice _ _ _).ownBlock≠some (aU.heap.size+1)):=λe=>by have:=(eG HD.o.dg.r2 e).2;simp at this
 clear ab au HD;have an:vs.length=ah.length:=by rw[<-HSV.o,List.length_map]
 have bf:V (C1 w P n _ _ _ a _ _ _ _ _ _ _ (csM ah 0) _ _ _ _):=⟨by rw[HSV.o,csM];simp,B.o,Y.o,cp.o,al.o⟩
 obtain⟨_,bP,b,bd,_,_,_⟩:=B.o.bx;clear Y al cp;generalize aU.heap.size=Q at*;go_upto_region 12 with fail;rw[an];clear bP b bd an;go_wp2_with fail;go_loopw [11] (λt W=>∃(k c2:Nat) (J:Option Addr) (vs:List Vl),k<=6/\t=h1 k/\V (C1 w P n cap H.2 Q a bs a1 c1 a3 c3 af H.1 (csM ah k) J c2 vs W)) (λt _=>6-(intOf t).toNat)
 case atStart=>exact⟨0,_,_,_,yae,rfl,bf.o⟩
 case round=>
  clear bf B HSV;obtain⟨k,c2,J,vs,O,rfl,aj⟩:=hrel;by_cases hlt:k<6
  ·obtain⟨aw,bx,bI,aG,bm⟩:=aj.o;obtain⟨x,⟨ap,bV⟩,y⟩:=bm k hlt;have aR:V (sv ⟨1,1,0,0,0,x⟩=⟨1,1,0,0,0,ksM k⟩):=by show _=_;rw[<-bV,<-uO];rfl
   clear bV;have cr:vs.length<=100000:=by have ae:=congrArg List.length aw;have:=F.o.2.1;simp[csM]at ae;omega
   have aD:V (∀a7,Kept 0 0 _ a7->_):=λa7 bY=>bx.putK bY ⟨1,1,0,0,0,x⟩ ap cr ⟨aG,by omega,bI⟩;obtain⟨_,bP,b,bd,ee,ef,eg⟩:=bx.bx;have b3:(k:Int)<6:=xaa;clear aw bx bI bm aG;go_upto_region 15 with fail;go_region_with (go_at_call 78;refine yaj (aD.o _ (eF _)) ?_;rintro e am ⟨aC,cap',rfl,a0,aH⟩;obtain⟨_,bq,aq,aT,bR,bS,bT⟩:=a0)
   all_goals
    have bF:=aj.o.next aR.o aH
    rw[<-AG]at bF
    have bf:V _:=bF
    clear bF
    clear aH
    go_wp2_with fail
    go_roundw;exact⟨k+1,cap',_,_,by omega,by go_num,bf.o⟩;simp[intOf];omega
  have bM:k=6:=xaa;obtain⟨aw,bx,_,_,_⟩:=aj.o;rw[bM]at aw⊢;rw[show((6:Nat):Int)=6 from rfl];clear aj bM O hlt k
  have ai:V (ah.length+6<=(csM ah 6,H.2).1.length/\(csM ah 6,H.2).1.length<=100):=by
   have:=F.o.2.1;show _/\_;simp only[csM,yal,List.length_map,List.length_range];omega
  have b3:¬(6:Int)<6:=xab;go_upto_if 54 with fail
  refine wp_cond_false rfl (wp_exit ?_);exact(‹∀(a:Act) (w:World),Code.wp _ _ _ a w->_›) _ _ (LH hb ⟨aw,bx⟩ cz.o.2 (CX cz.o.1 6) ai.o F.o.2.2 HE.o)
