import Derived.Test.YtamokkcfibdghaaGreatP51
import Derived.Test.YtamokkcfibdghaaGreatP50
namespace Go.Proofs.Z
open Tryz
set_option maxRecDepth 1000000
set_option maxHeartbeats 0
open Go.RowKit Flt
attribute [local go_sem] eG eE eD
variable {w:World}{P n cap Q c1 c3 base c2:Nat}{a a1 a3 a2:Option Addr}{T:List Int×List Vl×List Int×Nat}{ins outs:List Int}{b c f g j l p q r u v z A I C D F G H cH aL K L bQ aY aa S b8 Vaa X cy cb aS eb aw ec ed ee ef eg ei ej ek el bA cd bK ep er et bT eu ev eA eB cw cP cQ cS aE di cT cU cx cV cW bh cX c6 c8 c9 dd cf aW b0 dg dp ds cM d0 ea bw a4 bU ci cI cO fM bp cK fP cC fT f0 f4 cu f5 f6 f7 ga cN gb gc gd gf gp e2 gq bz cz ct eC eS eT e0 e1 e3 e5 e6 e7 e9 fa fc ff fi fl fm fo fq fs fu fv fz fG fL bb N aA ab aI b9 cn cj gv cg ca b5 b3 gx cr ch bE g4 g5 g6 g7 aV g8 cD ha gy cs a7 hc hd gs he hf c7 cA bu gA cE en gB gE gw gP gR cL gr gT g0 a9 g1 cB cc ck g2 g3:Value}{vs:List Vl}
variable {bs:List Int}
theorem PS{W s j c d x m}(h:DgH w P n cap Q a bs a1 c1 a3 c3 ins outs s.1 j base c d x m a2 c2 vs W)(aQ:nv bs s.2=c)(e:nv bs (ni bs s.2)=d)(t:ni bs (ni bs s.2)=j)(dv:d%s.1.length=x)(em:(vd s.1 x).len=m):pX w P n cap Q a bs a1 c1 a3 c3 ins outs (stM ins base bs s) base c d x m W:=by
 unfold stM;simp only[aQ,e,t,dv,em];rcases (by omega:c%8=0\/c%8=1\/c%8=2\/(c%8=3\/c%8=4\/c%8=5)\/c%8=6\/c%8=7) with ai|ai|ai|ai|ai|ai
 ·rw[hK ai];exact PL h ai
 ·rw[hJ xaa,hK ai];exact PR h ai
 ·rw[hJ xaa,hJ xaa,hK ai];exact PM h ai
 ·by_cases az:m=1
  ·rw[hJ xaa,hJ xaa,hJ xaa,hK ⟨az,by omega⟩];by_cases R:c%2=1
   ·rw[hK R];exact PN h xaa az
   rw[hJ R];exact PO h xaa az
  rw[hJ xaa,hJ xaa,hJ xaa,hJ xaa,hJ xaa];exact L7 h (.inr ⟨ai,az⟩)
 ·rw[hJ xaa,hJ xaa,hJ xaa,hJ xaa,hK ai];exact PP h ai
 rw[hJ xaa,hJ xaa,hJ xaa,hJ xaa,hJ xaa];exact L7 h (.inl ai)
theorem WkO{P:Prop}(h:P:=by
  have bx:V _:=HD.o.ox;obtain⟨_,bM,aZ,be,ew,ex,ey⟩:=HD.o.bx;have cF:outs.length+1<=1000:=hR HFn.o
  go_upto_region 42 with (at_builtin;refine gn _ rfl _ _ rfl w.heap.size (.slice a3 outs.length c3) outs rfl (bx.o _).dg.r3 _ ((vs.length:Int)-1) rfl xac (yan cF xab) (bx.o _).dg.sz ?_;intro g9 cap9 n9 bo bS bB aK b7;obtain⟨aT,(U:V _)⟩:=(bx.o _).outs_ aK bB bS b7;replace bS:V _:=bS;obtain⟨_,bL,bI,bJ,s,t,x⟩:=aT);generalize bo.setCell ⟨Q,2,none⟩ (hH g9 n9 cap9)=O at U⊢;clear HD bx bB aK b7 bL bI bJ s t x bM aZ be ew ex ey bS;have bx:V _:=U.o.ox;obtain⟨_,bM,aZ,be,ew,ex,ey⟩:=U.o.bx;have af:(outs++[(vs.length:Int)-1]).length+1<=1000000:=by rw[yak,List.length_singleton];omega
  go_upto_region 43 with (at_builtin;refine gn _ rfl _ _ rfl w.heap.size (hH g9 n9 cap9) (outs++[(vs.length:Int)-1]) rfl (bx.o _).dg.r3 _ ((vs.length:Int)-2) rfl xac af (bx.o _).dg.sz ?_;intro bH i o m e Z J y;obtain⟨ae,(B:V _)⟩:=(bx.o _).outs_ J Z e y;replace e:V _:=e;obtain⟨_,bL,bI,bJ,s,t,x⟩:=ae);generalize m.setCell ⟨Q,2,none⟩ (hH bH o i)=ad at B⊢;clear U bx Z J y bL bI bJ s t x bM aZ be ew ex ey e;have av:V _:=B.o.finS rfl HSV.o;obtain⟨_,bM,aZ,be,_,_,_⟩:=B.o.bx;obtain⟨_,ay,bc,bd,ag,ah,ai⟩:=B.o.rs;go_wp2_with fail;obtain⟨bk,a8,p2⟩:=fj ad w.heap.size _ _ _ ay bc bd (.slice a1 ins.length c1) (.slice a2 vs.length c2) (hH bH o i);exact yay (v:=eZ a1 ins.length c1 a2 vs.length c2 (some ⟨bH,0,none⟩) o i) (by simp[results,results14,go_sem,bk,a8,p2]) rfl (hU HE.o av.o)):P:=h
theorem Lu(hb:∀i,nv bs i<256){W s0 d o y E M bt cm cv}(h:L2 w P n cap Q a bs a1 c1 a3 c3 ins outs s0 a2 c2 vs W)(hi:IF ins)(bL:LenS s0.1)(Y:base+6<=s0.1.length/\s0.1.length<=100)(av:outs.length<=4)(b2:T=(ins,(lpM ins base bs s0 14).1,outs++[((lpM ins base bs s0 14).1.length:Int)-1]++[((lpM ins base bs s0 14).1.length:Int)-2],(lpM ins base bs s0 14).2)):
  Code.wp prog (II 16) (bodyPost prog Tryz.f14 (DgT w P a n cap bs T)) ⟨#[hG P,b,hG w.heap.size,c,d,f,g,j,hG Q,l,hI base,o,p,q,r,u,v,y,z,A,I,C,D,E,F,G,H,cH,aL,K,L,M,bQ,aY,aa,S,b8,Vaa,X,cy,cb,aS,eb,aw,ec,ed,ee,ef,eg,ei,ej,ek,el,bA,cd,bK,ep,er,et,bT,eu,ev,eA,eB,cw,cP,cQ,cS,aE,di,cT,cU,cx,cV,cW,bh,cX,c6,c8,c9,dd,cf,aW,b0,dg,dp,ds,cM,d0,ea,bw,a4,bU,ci,cI,cO,fM,bp,cK,fP,cC,fT,f0,f4,cu,f5,f6,f7,ga,cN,gb,gc,gd,gf,bt,gp,e2,gq,bz,cz,ct,eC,eS,eT,e0,e1,e3,e5,e6,e7,e9,fa,fc,ff,fi,fl,fm,fo,fq,fs,fu,fv,fz,fG,fL,bb,N,aA,ab,aI,b9,cn,cj,gv,cg,ca,b5,b3,gx,cr,ch,bE,g4,g5,g6,g7,aV,cm,g8,cD,ha,gy,cs,a7,hc,cv,hd,gs,he,hf,c7,cA,bu,gA,cE,en,gB,gE,gw,gP,gR,cL,gr,gT,g0,a9,g1,cB,cc,ck,g2,g3],[]⟩ W:=by
 have HL:V _:=h;have HE:V _:=b2;have bX:V _:=hi;have bF:V _:=bL;have R:V _:=Y;have HFn:V (outs.length<=4):=av;clear h b2 hi bL Y av;conv=>arg 2;whnf
 go_wp2_with fail;go_loopw [12] (λt W=>∃(k c2:Nat) (a2:Option Addr) (vs:List Vl),k<=14/\t=hI k/\V (L2 w P n cap Q a bs a1 c1 a3 c3 ins outs (lpM ins base bs s0 k) a2 c2 vs W)) (λt _=>14-(intOf t).toNat)
 case atStart=>exact⟨0,c2,a2,vs,Nat.zero_le _,rfl,HL.o⟩
 case round=>
  clear HL;obtain⟨k,c2,a2,vs,O,rfl,bO⟩:=hrel;have aD:(lpM ins base bs s0 k).1.length<=s0.1.length+2*k/\s0.1.length<=(lpM ins base bs s0 k).1.length:=BC _ _ _ _ _;have J:V ((lpM ins base bs s0 k).2<bs.length->lpM ins base bs s0 (k+1)=stM ins base bs (lpM ins base bs s0 k)):=λh=>by rw[lpM,hK h]
  have af:V (k=14\/¬(lpM ins base bs s0 k).2<bs.length->lpM ins base bs s0 14=lpM ins base bs s0 k):=λh=>Lr _ _ _ _ O h;have aF:=R.o;have co:V (LenS (lpM ins base bs s0 k).1):=yo bX.o bF.o xaa k;generalize lpM ins base bs s0 k=s at*;have aq:=hb s.2;have U:=hb (ni bs s.2);have bx:V (vs.length=s.1.length):=by rw[<-bO.o.1,List.length_map];rfl
  have aK:6<=vs.length/\vs.length<=1000:=hR bx.o
  have ae:base<=100:=xaa;clear aD aF;have HD:V _:=bO.o.2;have HSV:V _:=bO.o.1;clear bO;by_cases aG:k<14/\s.2<bs.length
  ·have ce:V _:=J.o aG.2;have ai:(k:Int)<14:=xaa;have Z:0<(bs.length:Int)-s.2:=xaa;clear J af
   go_upto_region 21 with (first
    |(go_at_call 33;refine yai (B4 HD.o.rd) ?_;rintro e b1 ⟨rfl,bc⟩;have ah:=HD.o.keep bc;clear HD;have HD:V _:=ah;clear ah bc)
    |(go_at_call 13;refine yai HD.o.next ?_;rintro e ar ⟨rfl,ax⟩;clear HD;have HD:V _:=ax;clear ax))
   obtain⟨_,bj,aQ,a6,an,ao,ap⟩:=HD.o.bx;obtain⟨x,au,dv,(cJ:V _)⟩:∃x,x<vs.length/\(nv bs (ni bs s.2):Int)%(vs.length:Int)=x/\nv bs (ni bs s.2)%s.1.length=x:=⟨nv bs (ni bs s.2)%vs.length,Nat.mod_lt _ xaa,by rw[Int.natCast_emod],by rw[bx.o]⟩
   obtain⟨al,bR,ag,ak,a5,bg⟩:=ie HD.o.dg.r2 rfl au;have aU:=bg.c1;have aj:a2=some ⟨al,0,none⟩:=by injection ag
   subst aj;have am:(x:Int)<vs.length:=xaa;have cR:0<(vs.length:Int):=xaa;clear ag ak a5 bg;obtain⟨m,ay,bW⟩:∃m,(vs.getD x hM).len=m/\(vd s.1 x).len=m:=⟨_,rfl,by rw[<-HSV.o,Cr,vd]⟩
   rw[ay]at aU;have ad:V _:=And.intro ay bW;clear ay bW;go_upto_if 90 with fail
   rw[dv];refine Lt (PS (s:=s) ⟨HD.o,HSV.o,au,aK,⟨aq,U,ae⟩,ad.o.1,co.o⟩ rfl rfl rfl cJ.o ad.o.2 ?_ ?_)
   ·simp;omega
   intros;rename_i aH aJ B aM aC;have az:V _:=aC;clear aC;rw[<-ce.o]at az;clear ce HD aU bj aQ a6 an ao ap dv;go_wp2_with fail;go_roundw
   case rel=>first|exact⟨k+1,B,aJ,aM,by omega,by go_num,az.o⟩|((repeat apply Exists.intro);exact⟨⟨k+1,B,aJ,aM,by omega,by go_num,az.o⟩,rfl⟩)
   case measure=>simp[intOf];omega
  have ce:V _:=af.o xaa;rw[ce.o]at HE;clear ce J af co;rw[<-bx.o]at HE;rcases (by omega:(k:Int)=14\/((k:Int)<14/\¬0<(bs.length:Int)-s.2)) with ai|⟨ai,Z⟩
  ·have aN:¬(k:Int)<14:=xaa;clear ai;go_upto_region 41 with fail;exact WkO
  go_upto_region 41 with (go_at_call 33;refine yai (B4 HD.o.rd) ?_;rintro e b1 ⟨rfl,bc⟩;have ah:=HD.o.keep bc;clear HD;have HD:V _:=ah;clear ah bc);exact WkO
variable {bs:List Int}
theorem IJ(hb:∀i,nv bs i<256){aD cq h s E M aJ bt cm bR cv am}(ak:RdF aD P a n cap cq bs)(ai:Kept P (P+1) w aD)(ce:RB aD w.heap.size iR iR iR)(hP:P<w.heap.size)(b2:T=rsT bs cq):
  Code.wp prog (II 8) (bodyPost prog Tryz.f14 (DgT w P a n cap bs T)) ⟨#[hG P,b,hG w.heap.size,c,f,g,h,j,l,p,q,r,s,u,v,z,A,I,C,D,E,F,G,H,cH,aL,K,L,M,bQ,aY,aa,S,b8,Vaa,X,cy,cb,aS,eb,aw,ec,ed,ee,ef,eg,ei,ej,ek,el,bA,cd,bK,ep,er,et,bT,eu,ev,eA,eB,cw,cP,cQ,cS,aE,di,cT,cU,cx,cV,cW,bh,cX,c6,c8,c9,dd,cf,aW,b0,dg,dp,ds,cM,d0,ea,bw,a4,bU,ci,cI,aJ,cO,fM,bp,cK,fP,cC,fT,f0,f4,cu,f5,f6,f7,ga,cN,gb,gc,gd,gf,bt,gp,e2,gq,bz,cz,ct,eC,eS,eT,e0,e1,e3,e5,e6,e7,e9,fa,fc,ff,fi,fl,fm,fo,fq,fs,fu,fv,fz,fG,fL,bb,N,aA,ab,aI,b9,cn,cj,gv,cg,ca,b5,b3,gx,cr,ch,bE,g4,g5,g6,g7,aV,cm,g8,cD,bR,ha,gy,cs,a7,hc,cv,hd,gs,he,hf,c7,cA,bu,gA,cE,en,gB,gE,gw,gP,gR,cL,gr,gT,g0,a9,g1,cB,cc,ck,g2,g3,am],[]⟩ aD:=by
 have aK:V _:=ak;have bW:V _:=ai;have aq:V _:=ce;have HE:V _:=b2;clear ak ai ce b2;conv=>arg 2;whnf
 have a5:V _:=ID aK.o;have ad:V _:=Ap bs cq;have cG:V _:=IG bs cq;unfold rsT rsL at HE;generalize (dgI bs cq).1=ay at a5 ad HE cG;generalize (dgG bs cq).1=aU at a5 ad HE cG;generalize dgO bs cq=Y at a5 ad HE;go_upto_region 10 with (go_at_call 31;refine yai a5.o ?_;rintro e aT ⟨a1,c1,a2,c2,a3,c3,vs,rfl,(HSV:V _),d,Z,aM⟩;have HD:V _:=Dy.fresh aq.o hP bW.o d Z aM;clear d Z aM);clear a5 aK bW aq;have f1:=@kK prog;have f3:=tP;go_upto_region 11 with fail;clear f1 f3;have U:V (∀o m,Dy w (((aT.alloc (.cells #[.slice a1 ay.length c1,.slice a2 vs.length c2,.slice a3 Y.1.length c3] 26)).alloc o).drewN m) P a n cap Y.2 bs w.heap.size aT.heap.size (.slice a1 ay.length c1) (.slice a2 vs.length c2) (.slice a3 Y.1.length c3) ay vs Y.1):=λo m=>HD.o.keep ((ez 0 0 _ o).trans (eM 0 0 _ m));refine Au (P:=Code.wp _ _ _ _) ?_;intro b4 bv;have B:V (Dy w b4 P a n cap Y.2 bs w.heap.size aT.heap.size (.slice a1 ay.length c1) (.slice a2 vs.length c2) (.slice a3 Y.1.length c3) ay vs Y.1):=by rw[bv];exact U.o _ _
 have J:V (∀m:Nat,m<6->∃x,(x<18446744073709551616/\fb x=ksM m)/\b4.cell? ⟨aT.heap.size+1,m,none⟩=some (.float .f64 x)):=by rw[bv];exact Qi xac ⟨by decide,rfl⟩ ⟨by decide,rfl⟩ ⟨by decide,rfl⟩ ⟨by decide,rfl⟩ ⟨iE _ _ _ _,ik _ _ _ _⟩ ⟨iE _ _ _ _,ik _ _ _ _⟩
 have cp:V (aT.heap.size+1<b4.heap.size):=by rw[bv];show _<_;simp
 have ah:V ((Value.slice a2 vs.length c2).ownBlock≠some (aT.heap.size+1)):=λe=>by have:=(eI HD.o.dg.r2 e).2;simp at this
 clear bv U HD;have ae:vs.length=aU.length:=by rw[<-HSV.o,List.length_map]
 have bl:V (C1 w P n cap Y.2 aT.heap.size a bs a1 c1 a3 c3 ay Y.1 (csM aU 0) a2 c2 vs b4):=⟨by rw[HSV.o,csM];simp,B.o,ah.o,cp.o,J.o⟩
 obtain⟨_,bM,b,be,_,_,_⟩:=B.o.bx;clear ah J cp;generalize aT.heap.size=Q at*;go_upto_region 12 with fail;rw[ae];clear bM b be ae;go_wp2_with fail;go_loopw [11] (λt W=>∃(k c2:Nat) (a2:Option Addr) (vs:List Vl),k<=6/\t=hI k/\V (C1 w P n cap Y.2 Q a bs a1 c1 a3 c3 ay Y.1 (csM aU k) a2 c2 vs W)) (λt _=>6-(intOf t).toNat)
 case atStart=>exact⟨0,c2,a2,vs,Nat.zero_le _,rfl,bl.o⟩
 case round=>
  clear bl B HSV;obtain⟨k,c2,a2,vs,O,rfl,ap⟩:=hrel;by_cases aF:k<6
  ·obtain⟨aj,bf,bF,aH,bi⟩:=ap.o;obtain⟨x,⟨au,bO⟩,y⟩:=bi k aF;have al:V (sv ⟨1,1,0,0,0,x⟩=⟨1,1,0,0,0,ksM k⟩):=by show _=_;rw[<-bO,<-Bn];rfl
   clear bO;have cl:vs.length<=100000:=by have bm:=congrArg List.length aj;have:=ad.o.2.1;simp[csM]at bm;omega
   have aP:V (∀ar,Kept 0 0 wr ar->_):=λar b6=>bf.putK b6 ⟨1,1,0,0,0,x⟩ au cl ⟨aH,by omega,bF⟩;obtain⟨_,bM,b,be,ew,ex,ey⟩:=bf.bx;have bV:(k:Int)<6:=xaa;clear aj bf bF bi aH;go_upto_region 15 with fail;go_region_with (go_at_call 32;refine yai (aP.o _ (eF _)) ?_;rintro e af ⟨aG,cap',rfl,aB,aX⟩;obtain⟨_,bn,aC,a0,bq,br,bC⟩:=aB)
   all_goals
    have ag:=ap.o.next al.o aX
    rw[<-Ar]at ag
    have bl:V _:=ag
    clear ag
    clear aX
    go_wp2_with fail
    go_roundw
    case rel=>exact⟨k+1,cap',_,_,by omega,by go_num,bl.o⟩
    case measure=>simp[intOf];omega
  have bY:k=6:=xaa;obtain⟨aj,bf,_,_,_⟩:=ap.o;rw[bY]at aj⊢;rw[show((6:Nat):Int)=6 from rfl];clear ap bY O aF k
  have R:V (aU.length+6<=(csM aU 6,Y.2).1.length/\(csM aU 6,Y.2).1.length<=100):=by
   have:=ad.o.2.1;show _/\_;simp only[csM,yak,List.length_map,List.length_range];omega
  have bV:¬(6:Int)<6:=xab;go_upto_if 54 with fail
  refine wp_cond_false rfl (wp_exit ?_);exact(‹∀(a:Act) (w:World),Code.wp prog _ (bodyPost _ _ _) a w->_›) _ _ (Lu hb (s0:=(csM aU 6,Y.2)) ⟨aj,bf⟩ cG.o.2 (CB cG.o.1 6) R.o ad.o.2.2 HE.o)
def prP (k:Nat):Int:=if k=250 then 5 else if k=251 then -1 else ((k%5:Nat):Int)
def DrP (w:World)(T:List Int×List Vl×List Int×Nat)(p:Int)(e:Ending)(w':World):Prop:=
 ∃a1 c1 a2 c2 a3 c3 vs,e=.returned (.tuple #[eZ a1 T.1.length c1 a2 vs.length c2 a3 T.2.2.1.length c3,.int .i64 p])/\vs.map sv=T.2.1/\DG w' w.heap.size (.slice a1 T.1.length c1) (.slice a2 vs.length c2) (.slice a3 T.2.2.1.length c3) T.1 vs T.2.2.1/\Kept 0 0 w w'
theorem IK{W W' l h}(k:Kept 0 0 w W)(y:Kept l h W W')(ah:w.heap.size<=l):Kept 0 0 w W':=
 ⟨y.os.trans k.os,y.tape.trans k.tape,y.output.trans k.output,yan k.size y.size,λb hb _=>by rw[y.block b (hR k.size) xaa];exact k.block b hb xaa⟩
theorem OD{xs}(bi:∀{w:World}{P n cap:Nat}{a:Option Addr},RdF w P a n cap (ni (xs.take 500) 0) (xs.take 500)->Calls prog 14 #[hG P] w (DgT w P a n cap (xs.take 500) T))
 (h:YS w a n xs) (ai:n<=cap):Calls prog 4 #[.slice a n cap] w (DrP w T (prP (nv (xs.take 500) 0))):=by
  have bH:=ez 0 0 w fp;have B:(w.alloc fp).heap.size=w.heap.size+1:=by simp
  have HO:V _:=No (w.alloc fp) a n cap xs (h.keep bH) ai;have bP:V _:=@bi;have o:V _:=fY w;have bo:V _:=bH;clear bi;generalize xs.take 500=bs at HO bP;rw[B]at HO;clear h ai bH B;go_enter func4,ntmps4;go_wp2_with fail;refine yai HO.o ?_;rintro e aD ⟨rfl,⟨m,R1⟩,an⟩;have au:=fK R1.ys 0;have bD:V _:=jp _ _ _ _ _ _ _ R1;have bW:V (Kept 0 0 w aD):=bo.o.trans an;have aq:V _:=o.o.keep an;clear R1 an bo o HO;go_wp2_with fail;refine yai bD.o ?_;rintro e W2 ⟨rfl,(aJ:V _),ao,-⟩;have bN:V (Kept 0 0 w W2):=IK bW.o ao xaa;have y:V (RB W2 w.heap.size iR iR iR):=aq.o.kept ao xaa;clear ao bW aq bD;go_wp2_with fail;refine yai (bP.o aJ.o) ?_;rintro e aT ⟨a1,c1,a2,c2,a3,c3,vs,rfl,aj,d,Z,aM⟩;have hP:=aJ.o.lt;have bZ:=ez 0 0 aT (eY a1 T.1.length c1 a2 vs.length c2 a3 T.2.2.1.length c3);have hb:=(y.o.kept aM xaa).keep bZ;obtain⟨_,ba,aO,aR,bG,f1,f2⟩:=hb;obtain⟨_,s0,ax,aN⟩:=fE aT (.slice a1 T.1.length c1) (.slice a2 vs.length c2) (.slice a3 T.2.2.1.length c3);obtain⟨bk,a8,p2⟩:=fj (aT.alloc (eY a1 T.1.length c1 a2 vs.length c2 a3 T.2.2.1.length c3)) w.heap.size _ _ _ ba aO aR (.slice a1 T.1.length c1) (.slice a2 vs.length c2) (.slice a3 T.2.2.1.length c3);have ap:=ft (aT.alloc (eY a1 T.1.length c1 a2 vs.length c2 a3 T.2.2.1.length c3)) w.heap.size (.slice a1 T.1.length c1) (.slice a2 vs.length c2) (.slice a3 T.2.2.1.length c3);have aa:V (∀p,DrP w T p (.returned (.tuple #[eZ a1 T.1.length c1 a2 vs.length c2 a3 T.2.2.1.length c3,hI p])) _):=λp=>⟨a1,c1,a2,c2,a3,c3,vs,rfl,aj,((d.keep bZ).kept ap xaa).mono xaa,IK ((IK bN.o aM xaa).trans bZ) ap yad⟩
  clear aj d Z aM ap bZ hP aJ bN y bP;rcases (by omega:nv bs 0=250\/nv bs 0=251\/(nv bs 0≠250/\nv bs 0≠251)) with c|c|c
  case' inl=>have t:prP (nv bs 0)=5:=by unfold prP;rw[hK c]
  case' inr.inl=>have t:prP (nv bs 0)=-1:=by unfold prP;rw[hJ xaa,hK c]
  case' inr.inr=>have t:prP (nv bs 0)=(nv bs 0:Int)%5:=by unfold prP;rw[hJ c.1,hJ c.2];rfl
  all_goals
  go_wp2_with fail;exact yay (v:=.tuple #[eZ a1 T.1.length c1 a2 vs.length c2 a3 T.2.2.1.length c3,hI _]) (by simp[results,results4,go_sem,bk,a8,p2,t]) rfl (aa.o _)
