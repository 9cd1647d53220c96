import Derived.Test.YtnlffngpnoodkaaGreatP22
import Derived.Test.YtnlffngpnoodkaaGreatP36
import Derived.Test.YtnlffngpnoodkaaGreatP32
namespace Go.Proofs.YtnlffngpnoodkaaGreat
set_option maxRecDepth 1000000
set_option maxHeartbeats 0
section
open Go.RowKit Flt
attribute [local go_sem] ic ib ia
theorem yV {w W:World}{b1 b3:Option Addr}{m1 e1 m3 e3 base cap:Nat}{vs:List Vl}{o ln va vb vc:Int}{vk:Nat}{R R':Option Nat}{a2:Option Addr}{tb:Int}{K:Act->World->Prop}{a b c d f h i j k l m n p q r s t u x y z A B C D E F G H I J L M N O P Q S T U V X Y Z aa ab ad ae af ag ah ai aj ak al am an ao ap aq ar au av aw ax ay az aA aB aC aD aE aF aG aH aI aJ aK aL aM aN aO aP aQ aR aS aT aU aV aW aX aY aZ a0 a1 a3 a4 dH dI dJ dK dL dM dN a5 a6 a7 a8 a9 ba bb bc bd be bf bg bh bi bj bk bl bm bn bo bp bq br bs bt bu bv bw bx bz bA bB bC bD bE bF bG bH bI bJ bK bL bM bN bO bP bQ bR bS bT bU bV bW bX bY bZ b0 b2 b4 b5 b6 b7 b8 b9 ca cb cc cd ce cf cg ch ci cj ck cl cm cn co cp cq cr cs ct cu cv cw cx cy cz cA cB cC cD cE cF cG cH cI cJ cK cL cM cN cO cP cQ cR cS cT cU cV cW cX cY cZ c3 c5 da db dc dd de df dg dh di dj dk dl dm dn dp dq dr ds dt du dv dw dx dy dz dA dB dC dD dE dF dG:Value}(HM:Hid (MS w W b1 m1 e1 b3 m3 e3 vs ⟨o,ln,va,vb,vc,vk⟩ base R R' a2 cap))(hbd:vs.length<=900000)
  (hk:∀(W':World) (g' cap':Nat) (u101 u102 u103 u104 u105 u106 u107:Value),Hid (MS w W' b1 m1 e1 b3 m3 e3 (vs++[(ik 4 ln va tb 0)]) ⟨o,ln,va,vb,vc,vk⟩ base R (some g') (some ⟨g',0,none⟩) cap')->K ⟨#[a,b,c,.int .i64 tb,d,.pointer (some ⟨w.heap.size,0,none⟩),f,h,i,j,k,l,.pointer (some ⟨w.heap.size+1+1,0,none⟩),.int .i64 ln,m,n,p,q,r,s,t,u,x,y,z,A,B,C,D,E,F,G,H,I,J,L,M,N,O,P,Q,S,T,U,V,X,Y,Z,aa,ab,ad,ae,af,ag,ah,ai,aj,ak,al,am,an,ao,ap,aq,ar,au,av,aw,ax,ay,az,aA,aB,aC,aD,aE,aF,aG,aH,aI,aJ,aK,aL,aM,aN,aO,aP,aQ,aR,aS,aT,aU,aV,aW,aX,aY,aZ,a0,a1,a3,a4,u101,u102,u103,u104,u105,u106,u107,a5,a6,a7,a8,a9,ba,bb,bc,bd,be,bf,bg,bh,bi,bj,bk,bl,bm,bn,bo,bp,bq,br,bs,bt,bu,bv,bw,bx,bz,bA,bB,bC,bD,bE,bF,bG,bH,bI,bJ,bK,bL,bM,bN,bO,bP,bQ,bR,bS,bT,bU,bV,bW,bX,bY,bZ,b0,b2,b4,b5,b6,b7,b8,b9,ca,cb,cc,cd,ce,cf,cg,ch,ci,cj,ck,cl,cm,cn,co,cp,cq,cr,cs,ct,cu,cv,cw,cx,cy,cz,cA,cB,cC,cD,cE,cF,cG,cH,cI,cJ,cK,cL,cM,cN,cO,cP,cQ,cR,cS,cT,cU,cV,cW,cX,cY,cZ,c3,c5,da,db,dc,dd,de,df,dg,dh,di,dj,dk,dl,dm,dn,dp,dq,dr,ds,dt,du,dv,dw,dx,dy,dz,dA,dB,dC,dD,dE,dF,dG],[]⟩ W'):
  Code.wp Tryz.prog (qT 20) (Exit.then K λ_ _ _=>False) ⟨#[a,b,c,.int .i64 tb,d,.pointer (some ⟨w.heap.size,0,none⟩),f,h,i,j,k,l,.pointer (some ⟨w.heap.size+1+1,0,none⟩),.int .i64 ln,m,n,p,q,r,s,t,u,x,y,z,A,B,C,D,E,F,G,H,I,J,L,M,N,O,P,Q,S,T,U,V,X,Y,Z,aa,ab,ad,ae,af,ag,ah,ai,aj,ak,al,am,an,ao,ap,aq,ar,au,av,aw,ax,ay,az,aA,aB,aC,aD,aE,aF,aG,aH,aI,aJ,aK,aL,aM,aN,aO,aP,aQ,aR,aS,aT,aU,aV,aW,aX,aY,aZ,a0,a1,a3,a4,dH,dI,dJ,dK,dL,dM,dN,a5,a6,a7,a8,a9,ba,bb,bc,bd,be,bf,bg,bh,bi,bj,bk,bl,bm,bn,bo,bp,bq,br,bs,bt,bu,bv,bw,bx,bz,bA,bB,bC,bD,bE,bF,bG,bH,bI,bJ,bK,bL,bM,bN,bO,bP,bQ,bR,bS,bT,bU,bV,bW,bX,bY,bZ,b0,b2,b4,b5,b6,b7,b8,b9,ca,cb,cc,cd,ce,cf,cg,ch,ci,cj,ck,cl,cm,cn,co,cp,cq,cr,cs,ct,cu,cv,cw,cx,cy,cz,cA,cB,cC,cD,cE,cF,cG,cH,cI,cJ,cK,cL,cM,cN,cO,cP,cQ,cR,cS,cT,cU,cV,cW,cX,cY,cZ,c3,c5,da,db,dc,dd,de,df,dg,dh,di,dj,dk,dl,dm,dn,dp,dq,dr,ds,dt,du,dv,dw,dx,dy,dz,dA,dB,dC,dD,dE,dF,dG],[]⟩ W:=by
 have HK:Hid _:=hk
 clear hk
 have s0:=HM.out.g.c0
 have s1:=HM.out.g.c1
 have s2:=HM.out.g.c2
 have v2:=HM.out.v.c2
 conv=>arg 2;whnf
 go_region_with (first
  |(go_at_call 50;refine Calls.mono (MS.call HM.out ((ie W).trans k1) (ik 4 ln va tb 0) (by omega)) ?_;rintro e w2 ⟨g',cap',rfl,⟨u0,r0⟩,⟨u1,r1⟩,⟨u2,r2⟩,rf,_,hM2⟩;have rf0:=rf 0;have rf1:=rf 1;have rf2:=rf 2;clear rf)
  |(go_at_call 55;refine Calls.mono (lz _ _ _ _ _ _) ?_;rintro e w1 ⟨rfl,k1⟩;have p0:=(MS.keep HM.out ((ie W).trans k1)).g.c0;have p1:=(MS.keep HM.out ((ie W).trans k1)).g.c1;have p2:=(MS.keep HM.out ((ie W).trans k1)).g.c2))
 all_goals exact HK.out _ _ _ _ _ _ _ _ _ _ hM2
end
section
open Go.RowKit Flt
theorem tg {w W':World}{m1 e1 m3 e3 base cap g2:Nat}{b1 b3:Option Addr}{vs:List Vl}(h:w.ownsRow base 31 6 (.slice (some ⟨g2,0,none⟩) vs.length cap) vs.length (iN vs))(k:Kept 0 0 w W')(r:Int):
  MvP w b1 m1 e1 b3 m3 e3 vs base (some g2) ([],r) (.returned (.tuple #[ip b1 m1 e1 (some ⟨g2,0,none⟩) vs.length cap b3 m3 e3,.int .i64 r])) W':=by
 unfold MvP
 simp only[List.append_nil]
 exact⟨_,_,_,rfl,iC h k,rfl,(StQ.refl _ _ w).keepQ k⟩
end
section
open Go.RowKit Flt
attribute [local go_sem] ic ib ia
variable {a b:List Vl×Int}
theorem Bc (w:World)(b1 b3:Option Addr)(m1 e1 cap m3 e3 base g2 i:Nat)(vs:List Vl)(ln va vb vc:Int)(vk:Nat)(ta tb tc:Int)(h:w.ownsRow base 31 6 (.slice (some ⟨g2,0,none⟩) vs.length cap) vs.length (iN vs))(hb:base<=w.heap.size)(hn:vs.length<=800000)(hi:i<vs.length)(hv:At w g2 (i*6) ⟨2,ln,va,vb,vc,vk⟩)(ha:0<=ta)(hb':0<=tb):
  Calls Tryz.prog 49 #[ip b1 m1 e1 (some ⟨g2,0,none⟩) vs.length cap b3 m3 e3,.int .i64 (i:Int),.int .i64 ta,.int .i64 tb,.int .i64 tc] w λe w'=>MvP w b1 m1 e1 b3 m3 e3 vs base (some g2) ([ik 2 ln ta tb 0],((vs.length:Nat):Int)) e w':=by
 obtain⟨v0,v1,v2,v3,v4,v5⟩:=hv
 have j0:(0:Int)<=(i:Int):=by omega
 have j1:(i:Int)<(vs.length:Int):=by omega
 have hM:MS w _ b1 m1 e1 b3 m3 e3 vs ⟨2,ln,va,vb,vc,vk⟩ base (some g2) (some g2) (some ⟨g2,0,none⟩) cap:=MS.start ⟨2,ln,va,vb,vc,vk⟩ h hb
 have HM:Hid _:=hM
 have hbd:vs.length<=900000:=by omega
 have hg2:g2<w.heap.size:=(ii h (k:=g2) rfl).2
 have HO:Hid _:=h
 clear h hM
 go_enter Tryz.func49,Tryz.ntmps49
 go_wp2_with fail
 generalize ((w.alloc (iv b1 m1 e1 (some ⟨g2,0,none⟩) vs.length cap b3 m3 e3)).alloc iw).alloc (ij 2 ln va vb vc vk)=wB at HM ⊢
 clear v0 v1 v2 v3 v4 v5
 refine jg (B5 HM hbd ?_)
 intro wc g' cap' _ _ _ _ _ _ _ _ HM1
 clear HM
 generalize hv1:vs++[(ik 2 ln ta tb 0)]=vs1 at HM1
 have HV1:Hid (vs1=vs++[(ik 2 ln ta tb 0)]):=hv1.symm
 have HL1:Hid (vs1.length=vs.length+1):=by show _=_;rw[HV1.out];simp
 have hL1:vs1.length<=vs.length+1:=by rw[HL1.out];omega
 have hbd:vs1.length<=900000:=by omega
 clear hv1
 have HM:Hid _:=HM1.out
 clear HM1
 go_wp2_with fail
 refine jg (B6 HM hbd (show(vs1.length:Int)-1=((vs.length:Nat):Int) by have:=HL1.out;omega) ?_)
 intro W3 _ _ _ y0 y1 y2 HR
 have R1:Hid (MvP w b1 m1 e1 b3 m3 e3 vs base (some g2) ([ik 2 ln ta tb 0],((vs.length:Nat):Int)) (.returned (.tuple #[ip b1 m1 e1 (some ⟨g',0,none⟩) vs1.length cap' b3 m3 e3,.int .i64 ((vs.length:Nat):Int)])) W3):=by
  obtain⟨w3,k3,e3⟩:=HR.out
  rw[e3]
  exact MS.fin (vs0:=vs) (M:=([ik 2 ln ta tb 0],((vs.length:Nat):Int))) HM.out k3 (by rw[HV1.out]<;>simp)
 go_wp2_with fail
 refine bodyPost_ret (v:=.tuple #[ip b1 m1 e1 (some ⟨g',0,none⟩) vs1.length cap' b3 m3 e3,.int .i64 ((vs.length:Nat):Int)]) (by simp[results,Tryz.results49,go_sem,y0,y1,y2]) rfl R1.out
theorem Be (w:World)(b1 b3:Option Addr)(m1 e1 cap m3 e3 base g2 i:Nat)(vs:List Vl)(ln va vb vc:Int)(vk:Nat)(ta tb tc:Int)(h:w.ownsRow base 31 6 (.slice (some ⟨g2,0,none⟩) vs.length cap) vs.length (iN vs))(hb:base<=w.heap.size)(hn:vs.length<=800000)(hi:i<vs.length)(hv:At w g2 (i*6) ⟨2,ln,va,vb,vc,vk⟩)(ha:0<=ta)(hb':tb<0):
  Calls Tryz.prog 49 #[ip b1 m1 e1 (some ⟨g2,0,none⟩) vs.length cap b3 m3 e3,.int .i64 (i:Int),.int .i64 ta,.int .i64 tb,.int .i64 tc] w λe w'=>MvP w b1 m1 e1 b3 m3 e3 vs base (some g2) ([],ta) e w':=by
 obtain⟨v0,v1,v2,v3,v4,v5⟩:=hv
 have j0:(0:Int)<=(i:Int):=by omega
 have j1:(i:Int)<(vs.length:Int):=by omega
 have hM:MS w _ b1 m1 e1 b3 m3 e3 vs ⟨2,ln,va,vb,vc,vk⟩ base (some g2) (some g2) (some ⟨g2,0,none⟩) cap:=MS.start ⟨2,ln,va,vb,vc,vk⟩ h hb
 have HM:Hid _:=hM
 have hbd:vs.length<=900000:=by omega
 have hg2:g2<w.heap.size:=(ii h (k:=g2) rfl).2
 have HO:Hid _:=h
 clear h hM
 go_enter Tryz.func49,Tryz.ntmps49
 go_wp2_with fail
 refine bodyPost_ret (v:=.tuple #[ip b1 m1 e1 (some ⟨g2,0,none⟩) vs.length cap b3 m3 e3,.int .i64 ta]) (by simp[results,Tryz.results49,go_sem]) rfl (tg HO.out (((hU 0 0 w _).trans (hU 0 0 _ _)).trans (hU 0 0 _ _)) _)
theorem Bf (w:World)(b1 b3:Option Addr)(m1 e1 cap m3 e3 base g2 i:Nat)(vs:List Vl)(ln va vb vc:Int)(vk:Nat)(ta tb tc:Int)(h:w.ownsRow base 31 6 (.slice (some ⟨g2,0,none⟩) vs.length cap) vs.length (iN vs))(hb:base<=w.heap.size)(hn:vs.length<=800000)(hi:i<vs.length)(hv:At w g2 (i*6) ⟨2,ln,va,vb,vc,vk⟩)(ha:ta<0)(hb':0<=tb):
  Calls Tryz.prog 49 #[ip b1 m1 e1 (some ⟨g2,0,none⟩) vs.length cap b3 m3 e3,.int .i64 (i:Int),.int .i64 ta,.int .i64 tb,.int .i64 tc] w λe w'=>MvP w b1 m1 e1 b3 m3 e3 vs base (some g2) ([],tb) e w':=by
 obtain⟨v0,v1,v2,v3,v4,v5⟩:=hv
 have j0:(0:Int)<=(i:Int):=by omega
 have j1:(i:Int)<(vs.length:Int):=by omega
 have hM:MS w _ b1 m1 e1 b3 m3 e3 vs ⟨2,ln,va,vb,vc,vk⟩ base (some g2) (some g2) (some ⟨g2,0,none⟩) cap:=MS.start ⟨2,ln,va,vb,vc,vk⟩ h hb
 have HM:Hid _:=hM
 have hbd:vs.length<=900000:=by omega
 have hg2:g2<w.heap.size:=(ii h (k:=g2) rfl).2
 have HO:Hid _:=h
 clear h hM
 go_enter Tryz.func49,Tryz.ntmps49
 go_wp2_with fail
 refine bodyPost_ret (v:=.tuple #[ip b1 m1 e1 (some ⟨g2,0,none⟩) vs.length cap b3 m3 e3,.int .i64 tb]) (by simp[results,Tryz.results49,go_sem]) rfl (tg HO.out (((hU 0 0 w _).trans (hU 0 0 _ _)).trans (hU 0 0 _ _)) _)
theorem Bg (w:World)(b1 b3:Option Addr)(m1 e1 cap m3 e3 base g2 i:Nat)(vs:List Vl)(ln va vb vc:Int)(vk:Nat)(ta tb tc:Int)(h:w.ownsRow base 31 6 (.slice (some ⟨g2,0,none⟩) vs.length cap) vs.length (iN vs))(hb:base<=w.heap.size)(hn:vs.length<=800000)(hi:i<vs.length)(hv:At w g2 (i*6) ⟨3,ln,va,vb,vc,vk⟩)(ha:0<=ta)(hb':0<=tb):
  Calls Tryz.prog 49 #[ip b1 m1 e1 (some ⟨g2,0,none⟩) vs.length cap b3 m3 e3,.int .i64 (i:Int),.int .i64 ta,.int .i64 tb,.int .i64 tc] w λe w'=>MvP w b1 m1 e1 b3 m3 e3 vs base (some g2) ([ik 3 ln ta tb 0],((vs.length:Nat):Int)) e w':=by
 obtain⟨v0,v1,v2,v3,v4,v5⟩:=hv
 have j0:(0:Int)<=(i:Int):=by omega
 have j1:(i:Int)<(vs.length:Int):=by omega
 have hM:MS w _ b1 m1 e1 b3 m3 e3 vs ⟨3,ln,va,vb,vc,vk⟩ base (some g2) (some g2) (some ⟨g2,0,none⟩) cap:=MS.start ⟨3,ln,va,vb,vc,vk⟩ h hb
 have HM:Hid _:=hM
 have hbd:vs.length<=900000:=by omega
 have hg2:g2<w.heap.size:=(ii h (k:=g2) rfl).2
 have HO:Hid _:=h
 clear h hM
 go_enter Tryz.func49,Tryz.ntmps49
 go_wp2_with fail
 generalize ((w.alloc (iv b1 m1 e1 (some ⟨g2,0,none⟩) vs.length cap b3 m3 e3)).alloc iw).alloc (ij 3 ln va vb vc vk)=wB at HM ⊢
 clear v0 v1 v2 v3 v4 v5
 refine jg (B5 HM hbd ?_)
 intro wc g' cap' _ _ _ _ _ _ _ _ HM1
 clear HM
 generalize hv1:vs++[(ik 3 ln ta tb 0)]=vs1 at HM1
 have HV1:Hid (vs1=vs++[(ik 3 ln ta tb 0)]):=hv1.symm
 have HL1:Hid (vs1.length=vs.length+1):=by show _=_;rw[HV1.out];simp
 have hL1:vs1.length<=vs.length+1:=by rw[HL1.out];omega
 have hbd:vs1.length<=900000:=by omega
 clear hv1
 have HM:Hid _:=HM1.out
 clear HM1
 go_wp2_with fail
 refine jg (B6 HM hbd (show(vs1.length:Int)-1=((vs.length:Nat):Int) by have:=HL1.out;omega) ?_)
 intro W3 _ _ _ y0 y1 y2 HR
 have R1:Hid (MvP w b1 m1 e1 b3 m3 e3 vs base (some g2) ([ik 3 ln ta tb 0],((vs.length:Nat):Int)) (.returned (.tuple #[ip b1 m1 e1 (some ⟨g',0,none⟩) vs1.length cap' b3 m3 e3,.int .i64 ((vs.length:Nat):Int)])) W3):=by
  obtain⟨w3,k3,e3⟩:=HR.out
  rw[e3]
  exact MS.fin (vs0:=vs) (M:=([ik 3 ln ta tb 0],((vs.length:Nat):Int))) HM.out k3 (by rw[HV1.out]<;>simp)
 go_wp2_with fail
 refine bodyPost_ret (v:=.tuple #[ip b1 m1 e1 (some ⟨g',0,none⟩) vs1.length cap' b3 m3 e3,.int .i64 ((vs.length:Nat):Int)]) (by simp[results,Tryz.results49,go_sem,y0,y1,y2]) rfl R1.out
theorem Bh (w:World)(b1 b3:Option Addr)(m1 e1 cap m3 e3 base g2 i:Nat)(vs:List Vl)(ln va vb vc:Int)(vk:Nat)(ta tb tc:Int)(h:w.ownsRow base 31 6 (.slice (some ⟨g2,0,none⟩) vs.length cap) vs.length (iN vs))(hb:base<=w.heap.size)(hn:vs.length<=800000)(hi:i<vs.length)(hv:At w g2 (i*6) ⟨3,ln,va,vb,vc,vk⟩)(ha:0<=ta)(hb':tb<0):
  Calls Tryz.prog 49 #[ip b1 m1 e1 (some ⟨g2,0,none⟩) vs.length cap b3 m3 e3,.int .i64 (i:Int),.int .i64 ta,.int .i64 tb,.int .i64 tc] w λe w'=>MvP w b1 m1 e1 b3 m3 e3 vs base (some g2) ([],ta) e w':=by
 obtain⟨v0,v1,v2,v3,v4,v5⟩:=hv
 have j0:(0:Int)<=(i:Int):=by omega
 have j1:(i:Int)<(vs.length:Int):=by omega
 have hM:MS w _ b1 m1 e1 b3 m3 e3 vs ⟨3,ln,va,vb,vc,vk⟩ base (some g2) (some g2) (some ⟨g2,0,none⟩) cap:=MS.start ⟨3,ln,va,vb,vc,vk⟩ h hb
 have HM:Hid _:=hM
 have hbd:vs.length<=900000:=by omega
 have hg2:g2<w.heap.size:=(ii h (k:=g2) rfl).2
 have HO:Hid _:=h
 clear h hM
 go_enter Tryz.func49,Tryz.ntmps49
 go_wp2_with fail
 refine bodyPost_ret (v:=.tuple #[ip b1 m1 e1 (some ⟨g2,0,none⟩) vs.length cap b3 m3 e3,.int .i64 ta]) (by simp[results,Tryz.results49,go_sem]) rfl (tg HO.out (((hU 0 0 w _).trans (hU 0 0 _ _)).trans (hU 0 0 _ _)) _)
theorem Bi (w:World)(b1 b3:Option Addr)(m1 e1 cap m3 e3 base g2 i:Nat)(vs:List Vl)(ln va vb vc:Int)(vk:Nat)(ta tb tc:Int)(h:w.ownsRow base 31 6 (.slice (some ⟨g2,0,none⟩) vs.length cap) vs.length (iN vs))(hb:base<=w.heap.size)(hn:vs.length<=800000)(hi:i<vs.length)(hv:At w g2 (i*6) ⟨3,ln,va,vb,vc,vk⟩)(ha:ta<0)(hb':0<=tb):
  Calls Tryz.prog 49 #[ip b1 m1 e1 (some ⟨g2,0,none⟩) vs.length cap b3 m3 e3,.int .i64 (i:Int),.int .i64 ta,.int .i64 tb,.int .i64 tc] w λe w'=>MvP w b1 m1 e1 b3 m3 e3 vs base (some g2) ([ik 6 ln tb 0 0],((vs.length:Nat):Int)) e w':=by
 obtain⟨v0,v1,v2,v3,v4,v5⟩:=hv
 have j0:(0:Int)<=(i:Int):=by omega
 have j1:(i:Int)<(vs.length:Int):=by omega
 have hM:MS w _ b1 m1 e1 b3 m3 e3 vs ⟨3,ln,va,vb,vc,vk⟩ base (some g2) (some g2) (some ⟨g2,0,none⟩) cap:=MS.start ⟨3,ln,va,vb,vc,vk⟩ h hb
 have HM:Hid _:=hM
 have hbd:vs.length<=900000:=by omega
 have hg2:g2<w.heap.size:=(ii h (k:=g2) rfl).2
 have HO:Hid _:=h
 clear h hM
 go_enter Tryz.func49,Tryz.ntmps49
 go_wp2_with fail
 generalize ((w.alloc (iv b1 m1 e1 (some ⟨g2,0,none⟩) vs.length cap b3 m3 e3)).alloc iw).alloc (ij 3 ln va vb vc vk)=wB at HM ⊢
 clear v0 v1 v2 v3 v4 v5
 refine jg (CO HM hbd ?_)
 intro wc g' cap' _ _ _ _ _ HM1
 clear HM
 generalize hv1:vs++[(ik 6 ln tb 0 0)]=vs1 at HM1
 have HV1:Hid (vs1=vs++[(ik 6 ln tb 0 0)]):=hv1.symm
 have HL1:Hid (vs1.length=vs.length+1):=by show _=_;rw[HV1.out];simp
 have hL1:vs1.length<=vs.length+1:=by rw[HL1.out];omega
 have hbd:vs1.length<=900000:=by omega
 clear hv1
 have HM:Hid _:=HM1.out
 clear HM1
 go_wp2_with fail
 refine jg (CQ HM hbd (show(vs1.length:Int)-1=((vs.length:Nat):Int) by have:=HL1.out;omega) ?_)
 intro W3 _ _ _ y0 y1 y2 HR
 have R1:Hid (MvP w b1 m1 e1 b3 m3 e3 vs base (some g2) ([ik 6 ln tb 0 0],((vs.length:Nat):Int)) (.returned (.tuple #[ip b1 m1 e1 (some ⟨g',0,none⟩) vs1.length cap' b3 m3 e3,.int .i64 ((vs.length:Nat):Int)])) W3):=by
  obtain⟨w3,k3,e3⟩:=HR.out
  rw[e3]
  exact MS.fin (vs0:=vs) (M:=([ik 6 ln tb 0 0],((vs.length:Nat):Int))) HM.out k3 (by rw[HV1.out]<;>simp)
 go_wp2_with fail
 refine bodyPost_ret (v:=.tuple #[ip b1 m1 e1 (some ⟨g',0,none⟩) vs1.length cap' b3 m3 e3,.int .i64 ((vs.length:Nat):Int)]) (by simp[results,Tryz.results49,go_sem,y0,y1,y2]) rfl R1.out
theorem DF (w:World)(b1 b3:Option Addr)(m1 e1 cap m3 e3 base g2 i:Nat)(vs:List Vl)(o:Int)(ln va vb vc:Int)(vk:Nat)(ta tb tc:Int)(h:w.ownsRow base 31 6 (.slice (some ⟨g2,0,none⟩) vs.length cap) vs.length (iN vs))(hb:base<=w.heap.size)(hn:vs.length<=800000)(hi:i<vs.length)(hv:At w g2 (i*6) ⟨o,ln,va,vb,vc,vk⟩)(ho:o≠2/\o≠3/\o≠4/\o≠5/\o≠7/\o≠8/\o≠13)(ha:0<=ta):
  Calls Tryz.prog 49 #[ip b1 m1 e1 (some ⟨g2,0,none⟩) vs.length cap b3 m3 e3,.int .i64 (i:Int),.int .i64 ta,.int .i64 tb,.int .i64 tc] w λe w'=>MvP w b1 m1 e1 b3 m3 e3 vs base (some g2) ([ik o ln ta 0 vc],((vs.length:Nat):Int)) e w':=by
 obtain⟨v0,v1,v2,v3,v4,v5⟩:=hv
 have j0:(0:Int)<=(i:Int):=by omega
 have j1:(i:Int)<(vs.length:Int):=by omega
 have t2:(o==2)=false:=beq_eq_false_iff_ne.2 ho.1
 have t3:(o==3)=false:=beq_eq_false_iff_ne.2 ho.2.1
 have t4:(o==4)=false:=beq_eq_false_iff_ne.2 ho.2.2.1
 have t5:(o==5)=false:=beq_eq_false_iff_ne.2 ho.2.2.2.1
 have t7:(o==7)=false:=beq_eq_false_iff_ne.2 ho.2.2.2.2.1
 have t8:(o==8)=false:=beq_eq_false_iff_ne.2 ho.2.2.2.2.2.1
 have t13:(o==13)=false:=beq_eq_false_iff_ne.2 ho.2.2.2.2.2.2
 clear ho
 have hM:MS w _ b1 m1 e1 b3 m3 e3 vs ⟨o,ln,va,vb,vc,vk⟩ base (some g2) (some g2) (some ⟨g2,0,none⟩) cap:=MS.start ⟨o,ln,va,vb,vc,vk⟩ h hb
 have HM:Hid _:=hM
 have hbd:vs.length<=900000:=by omega
 have hg2:g2<w.heap.size:=(ii h (k:=g2) rfl).2
 have HO:Hid _:=h
 clear h hM
 go_enter Tryz.func49,Tryz.ntmps49
 go_wp2_with fail
 generalize ((w.alloc (iv b1 m1 e1 (some ⟨g2,0,none⟩) vs.length cap b3 m3 e3)).alloc iw).alloc (ij o ln va vb vc vk)=wB at HM ⊢
 clear v0 v1 v2 v3 v4 v5
 refine jg (DD HM hbd ?_)
 intro wc g' cap' _ _ _ _ _ _ _ _ _ HM1
 clear HM
 generalize hv1:vs++[(ik o ln ta 0 vc)]=vs1 at HM1
 have HV1:Hid (vs1=vs++[(ik o ln ta 0 vc)]):=hv1.symm
 have HL1:Hid (vs1.length=vs.length+1):=by show _=_;rw[HV1.out];simp
 have hL1:vs1.length<=vs.length+1:=by rw[HL1.out];omega
 have hbd:vs1.length<=900000:=by omega
 clear hv1
 have HM:Hid _:=HM1.out
 clear HM1
 go_wp2_with fail
 refine jg (DE HM hbd (show(vs1.length:Int)-1=((vs.length:Nat):Int) by have:=HL1.out;omega) ?_)
 intro W3 _ _ _ y0 y1 y2 HR
 have R1:Hid (MvP w b1 m1 e1 b3 m3 e3 vs base (some g2) ([ik o ln ta 0 vc],((vs.length:Nat):Int)) (.returned (.tuple #[ip b1 m1 e1 (some ⟨g',0,none⟩) vs1.length cap' b3 m3 e3,.int .i64 ((vs.length:Nat):Int)])) W3):=by
  obtain⟨w3,k3,e3⟩:=HR.out
  rw[e3]
  exact MS.fin (vs0:=vs) (M:=([ik o ln ta 0 vc],((vs.length:Nat):Int))) HM.out k3 (by rw[HV1.out]<;>simp)
 go_wp2_with fail
 refine bodyPost_ret (v:=.tuple #[ip b1 m1 e1 (some ⟨g',0,none⟩) vs1.length cap' b3 m3 e3,.int .i64 ((vs.length:Nat):Int)]) (by simp[results,Tryz.results49,go_sem,y0,y1,y2]) rfl R1.out
theorem Bj (w:World)(b1 b3:Option Addr)(m1 e1 cap m3 e3 base g2 i:Nat)(vs:List Vl)(ln va vb vc:Int)(vk:Nat)(ta tb tc:Int)(h:w.ownsRow base 31 6 (.slice (some ⟨g2,0,none⟩) vs.length cap) vs.length (iN vs))(hb:base<=w.heap.size)(hn:vs.length<=800000)(hi:i<vs.length)(hv:At w g2 (i*6) ⟨4,ln,va,vb,vc,vk⟩)(ha:0<=ta)(hb':0<=tb):
  Calls Tryz.prog 49 #[ip b1 m1 e1 (some ⟨g2,0,none⟩) vs.length cap b3 m3 e3,.int .i64 (i:Int),.int .i64 ta,.int .i64 tb,.int .i64 tc] w λe w'=>MvP w b1 m1 e1 b3 m3 e3 vs base (some g2) ([ik 4 ln ta vb 0,ik 4 ln va tb 0,ik 2 ln ((vs.length:Nat):Int) (((vs.length:Nat):Int)+1) 0],(((vs.length:Nat):Int)+2)) e w':=by
 obtain⟨v0,v1,v2,v3,v4,v5⟩:=hv
 have j0:(0:Int)<=(i:Int):=by omega
 have j1:(i:Int)<(vs.length:Int):=by omega
 have hM:MS w _ b1 m1 e1 b3 m3 e3 vs ⟨4,ln,va,vb,vc,vk⟩ base (some g2) (some g2) (some ⟨g2,0,none⟩) cap:=MS.start ⟨4,ln,va,vb,vc,vk⟩ h hb
 have HM:Hid _:=hM
 have hbd:vs.length<=900000:=by omega
 have hg2:g2<w.heap.size:=(ii h (k:=g2) rfl).2
 have HO:Hid _:=h
 clear h hM
 go_enter Tryz.func49,Tryz.ntmps49
 go_wp2_with fail
 generalize ((w.alloc (iv b1 m1 e1 (some ⟨g2,0,none⟩) vs.length cap b3 m3 e3)).alloc iw).alloc (ij 4 ln va vb vc vk)=wB at HM ⊢
 clear v0 v1 v2 v3 v4 v5
 refine jg (yd HM hbd ?_)
 intro wc g' cap' _ _ _ _ _ _ _ _ _ HM1
 clear HM
 generalize hv1:vs++[(ik 4 ln ta vb 0)]=vs1 at HM1
 have HV1:Hid (vs1=vs++[(ik 4 ln ta vb 0)]):=hv1.symm
 have HL1:Hid (vs1.length=vs.length+1):=by show _=_;rw[HV1.out];simp
 have hL1:vs1.length<=vs.length+1:=by rw[HL1.out];omega
 have hbd:vs1.length<=900000:=by omega
 clear hv1
 have HM:Hid _:=HM1.out
 clear HM1
 have s0:=HM.out.g.c0
 have s1:=HM.out.g.c1
 have s2:=HM.out.g.c2
 have HLast:Hid (∀W:World,_):=λW=>kY W b1 (some ⟨g',0,none⟩) b3 m1 e1 vs1.length cap' m3 e3 (by omega)
 rw[show(vs1.length:Int)-1=((vs.length:Nat):Int) by have:=HL1.out;omega] at HLast
 go_wp2_with fail
 refine Calls.mono (HLast.out _) ?_
 rintro e wl ⟨rfl,kl⟩
 have HM2:Hid _:=MS.keep HM.out kl
 clear HM HLast kl s0 s1 s2
 have HM:Hid _:=HM2.out
 clear HM2
 have v0:=HM.out.v.c0
 go_wp2_with fail
 clear v0
 refine jg (yV HM hbd ?_)
 intro wc g' cap' _ _ _ _ _ _ _ HM1
 clear HM
 generalize hv2:vs1++[(ik 4 ln va tb 0)]=vs2 at HM1
 have HV2:Hid (vs2=vs1++[(ik 4 ln va tb 0)]):=hv2.symm
 have HL2:Hid (vs2.length=vs1.length+1):=by show _=_;rw[HV2.out];simp
 have hL2:vs2.length<=vs1.length+1:=by rw[HL2.out];omega
 have hbd:vs2.length<=900000:=by omega
 clear hv2
 have HM:Hid _:=HM1.out
 clear HM1
 have s0:=HM.out.g.c0
 have s1:=HM.out.g.c1
 have s2:=HM.out.g.c2
 have HLast:Hid (∀W:World,_):=λW=>kY W b1 (some ⟨g',0,none⟩) b3 m1 e1 vs2.length cap' m3 e3 (by omega)
 rw[show(vs2.length:Int)-1=(((vs.length:Nat):Int)+1) by have:=HL1.out;have:=HL2.out;omega] at HLast
 go_wp2_with fail
 refine Calls.mono (HLast.out _) ?_
 rintro e wl ⟨rfl,kl⟩
 have HM2:Hid _:=MS.keep HM.out kl
 clear HM HLast kl s0 s1 s2
 have HM:Hid _:=HM2.out
 clear HM2
 have v0:=HM.out.v.c0
 have tp0:(0:Int)<=((vs.length:Nat):Int):=by omega
 have tp1:(0:Int)<=(((vs.length:Nat):Int)+1):=by omega
 go_wp2_with fail
 clear v0
 refine jg (CP HM hbd ?_)
 intro wc g' cap' _ _ _ _ _ _ _ HM1
 clear HM
 generalize hv3:vs2++[(ik 2 ln ((vs.length:Nat):Int) (((vs.length:Nat):Int)+1) 0)]=vs3 at HM1
 have HV3:Hid (vs3=vs2++[(ik 2 ln ((vs.length:Nat):Int) (((vs.length:Nat):Int)+1) 0)]):=hv3.symm
 have HL3:Hid (vs3.length=vs2.length+1):=by show _=_;rw[HV3.out];simp
 have hL3:vs3.length<=vs2.length+1:=by rw[HL3.out];omega
 have hbd:vs3.length<=900000:=by omega
 clear hv3
 have HM:Hid _:=HM1.out
 clear HM1
 go_wp2_with fail
 refine jg (CR HM hbd (show(vs3.length:Int)-1=(((vs.length:Nat):Int)+2) by have:=HL1.out;have:=HL2.out;have:=HL3.out;omega) ?_)
 intro W3 _ _ _ y0 y1 y2 HR
 have R1:Hid (MvP w b1 m1 e1 b3 m3 e3 vs base (some g2) ([ik 4 ln ta vb 0,ik 4 ln va tb 0,ik 2 ln ((vs.length:Nat):Int) (((vs.length:Nat):Int)+1) 0],(((vs.length:Nat):Int)+2)) (.returned (.tuple #[ip b1 m1 e1 (some ⟨g',0,none⟩) vs3.length cap' b3 m3 e3,.int .i64 (((vs.length:Nat):Int)+2)])) W3):=by
  obtain⟨w3,k3,e3⟩:=HR.out
  rw[e3]
  exact MS.fin (vs0:=vs) (M:=([ik 4 ln ta vb 0,ik 4 ln va tb 0,ik 2 ln ((vs.length:Nat):Int) (((vs.length:Nat):Int)+1) 0],(((vs.length:Nat):Int)+2))) HM.out k3 (by rw[HV3.out,HV2.out,HV1.out]<;>simp)
 go_wp2_with fail
 refine bodyPost_ret (v:=.tuple #[ip b1 m1 e1 (some ⟨g',0,none⟩) vs3.length cap' b3 m3 e3,.int .i64 (((vs.length:Nat):Int)+2)]) (by simp[results,Tryz.results49,go_sem,y0,y1,y2]) rfl R1.out
theorem Bk (w:World)(b1 b3:Option Addr)(m1 e1 cap m3 e3 base g2 i:Nat)(vs:List Vl)(ln va vb vc:Int)(vk:Nat)(ta tb tc:Int)(h:w.ownsRow base 31 6 (.slice (some ⟨g2,0,none⟩) vs.length cap) vs.length (iN vs))(hb:base<=w.heap.size)(hn:vs.length<=800000)(hi:i<vs.length)(hv:At w g2 (i*6) ⟨4,ln,va,vb,vc,vk⟩)(ha:0<=ta)(hb':tb<0):
  Calls Tryz.prog 49 #[ip b1 m1 e1 (some ⟨g2,0,none⟩) vs.length cap b3 m3 e3,.int .i64 (i:Int),.int .i64 ta,.int .i64 tb,.int .i64 tc] w λe w'=>MvP w b1 m1 e1 b3 m3 e3 vs base (some g2) ([ik 4 ln ta vb 0],((vs.length:Nat):Int)) e w':=by
 obtain⟨v0,v1,v2,v3,v4,v5⟩:=hv
 have j0:(0:Int)<=(i:Int):=by omega
 have j1:(i:Int)<(vs.length:Int):=by omega
 have hM:MS w _ b1 m1 e1 b3 m3 e3 vs ⟨4,ln,va,vb,vc,vk⟩ base (some g2) (some g2) (some ⟨g2,0,none⟩) cap:=MS.start ⟨4,ln,va,vb,vc,vk⟩ h hb
 have HM:Hid _:=hM
 have hbd:vs.length<=900000:=by omega
 have hg2:g2<w.heap.size:=(ii h (k:=g2) rfl).2
 have HO:Hid _:=h
 clear h hM
 go_enter Tryz.func49,Tryz.ntmps49
 go_wp2_with fail
 generalize ((w.alloc (iv b1 m1 e1 (some ⟨g2,0,none⟩) vs.length cap b3 m3 e3)).alloc iw).alloc (ij 4 ln va vb vc vk)=wB at HM ⊢
 clear v0 v1 v2 v3 v4 v5
 refine jg (yd HM hbd ?_)
 intro wc g' cap' _ _ _ _ _ _ _ _ _ HM1
 clear HM
 generalize hv1:vs++[(ik 4 ln ta vb 0)]=vs1 at HM1
 have HV1:Hid (vs1=vs++[(ik 4 ln ta vb 0)]):=hv1.symm
 have HL1:Hid (vs1.length=vs.length+1):=by show _=_;rw[HV1.out];simp
 have hL1:vs1.length<=vs.length+1:=by rw[HL1.out];omega
 have hbd:vs1.length<=900000:=by omega
 clear hv1
 have HM:Hid _:=HM1.out
 clear HM1
 have s0:=HM.out.g.c0
 have s1:=HM.out.g.c1
 have s2:=HM.out.g.c2
 have HLast:Hid (∀W:World,_):=λW=>kY W b1 (some ⟨g',0,none⟩) b3 m1 e1 vs1.length cap' m3 e3 (by omega)
 rw[show(vs1.length:Int)-1=((vs.length:Nat):Int) by have:=HL1.out;omega] at HLast
 go_wp2_with fail
 refine Calls.mono (HLast.out _) ?_
 rintro e wl ⟨rfl,kl⟩
 have HM2:Hid _:=MS.keep HM.out kl
 clear HM HLast kl s0 s1 s2
 have HM:Hid _:=HM2.out
 clear HM2
 have v0:=HM.out.v.c0
 have tp0:(0:Int)<=((vs.length:Nat):Int):=by omega
 have s0:=HM.out.g.c0
 have s1:=HM.out.g.c1
 have s2:=HM.out.g.c2
 obtain⟨_,t0,t1,t2,x0,x1,x2⟩:=HM.out.b
 have R1:Hid _:=MS.fin (vs0:=vs) (M:=([ik 4 ln ta vb 0],((vs.length:Nat):Int))) HM.out (Kept.refl 0 0 _) (by rw[HV1.out]<;>simp)
 go_wp2_with fail
 obtain⟨y0,y1,y2⟩:=iy wl (w.heap.size+1) _ _ _ t0 t1 t2 (.slice b1 m1 e1) (.slice (some ⟨g',0,none⟩) vs1.length cap') (.slice b3 m3 e3)
 refine bodyPost_ret (v:=.tuple #[ip b1 m1 e1 (some ⟨g',0,none⟩) vs1.length cap' b3 m3 e3,.int .i64 ((vs.length:Nat):Int)]) (by simp[results,Tryz.results49,go_sem,y0,y1,y2]) rfl R1.out
theorem Bl (w:World)(b1 b3:Option Addr)(m1 e1 cap m3 e3 base g2 i:Nat)(vs:List Vl)(ln va vb vc:Int)(vk:Nat)(ta tb tc:Int)(h:w.ownsRow base 31 6 (.slice (some ⟨g2,0,none⟩) vs.length cap) vs.length (iN vs))(hb:base<=w.heap.size)(hn:vs.length<=800000)(hi:i<vs.length)(hv:At w g2 (i*6) ⟨4,ln,va,vb,vc,vk⟩)(ha:ta<0)(hb':0<=tb):
  Calls Tryz.prog 49 #[ip b1 m1 e1 (some ⟨g2,0,none⟩) vs.length cap b3 m3 e3,.int .i64 (i:Int),.int .i64 ta,.int .i64 tb,.int .i64 tc] w λe w'=>MvP w b1 m1 e1 b3 m3 e3 vs base (some g2) ([ik 4 ln va tb 0],((vs.length:Nat):Int)) e w':=by
 obtain⟨v0,v1,v2,v3,v4,v5⟩:=hv
 have j0:(0:Int)<=(i:Int):=by omega
 have j1:(i:Int)<(vs.length:Int):=by omega
 have hM:MS w _ b1 m1 e1 b3 m3 e3 vs ⟨4,ln,va,vb,vc,vk⟩ base (some g2) (some g2) (some ⟨g2,0,none⟩) cap:=MS.start ⟨4,ln,va,vb,vc,vk⟩ h hb
 have HM:Hid _:=hM
 have hbd:vs.length<=900000:=by omega
 have hg2:g2<w.heap.size:=(ii h (k:=g2) rfl).2
 have HO:Hid _:=h
 clear h hM
 go_enter Tryz.func49,Tryz.ntmps49
 go_wp2_with fail
 generalize ((w.alloc (iv b1 m1 e1 (some ⟨g2,0,none⟩) vs.length cap b3 m3 e3)).alloc iw).alloc (ij 4 ln va vb vc vk)=wB at HM ⊢
 clear v0 v1 v2 v3 v4 v5
 refine jg (yV HM hbd ?_)
 intro wc g' cap' _ _ _ _ _ _ _ HM1
 clear HM
 generalize hv1:vs++[(ik 4 ln va tb 0)]=vs1 at HM1
 have HV1:Hid (vs1=vs++[(ik 4 ln va tb 0)]):=hv1.symm
 have HL1:Hid (vs1.length=vs.length+1):=by show _=_;rw[HV1.out];simp
 have hL1:vs1.length<=vs.length+1:=by rw[HL1.out];omega
 have hbd:vs1.length<=900000:=by omega
 clear hv1
 have HM:Hid _:=HM1.out
 clear HM1
 have s0:=HM.out.g.c0
 have s1:=HM.out.g.c1
 have s2:=HM.out.g.c2
 have HLast:Hid (∀W:World,_):=λW=>kY W b1 (some ⟨g',0,none⟩) b3 m1 e1 vs1.length cap' m3 e3 (by omega)
 rw[show(vs1.length:Int)-1=((vs.length:Nat):Int) by have:=HL1.out;omega] at HLast
 go_wp2_with fail
 refine Calls.mono (HLast.out _) ?_
 rintro e wl ⟨rfl,kl⟩
 have HM2:Hid _:=MS.keep HM.out kl
 clear HM HLast kl s0 s1 s2
 have HM:Hid _:=HM2.out
 clear HM2
 have v0:=HM.out.v.c0
 have tp0:(0:Int)<=((vs.length:Nat):Int):=by omega
 have s0:=HM.out.g.c0
 have s1:=HM.out.g.c1
 have s2:=HM.out.g.c2
 obtain⟨_,t0,t1,t2,x0,x1,x2⟩:=HM.out.b
 have R1:Hid _:=MS.fin (vs0:=vs) (M:=([ik 4 ln va tb 0],((vs.length:Nat):Int))) HM.out (Kept.refl 0 0 _) (by rw[HV1.out]<;>simp)
 go_wp2_with fail
 obtain⟨y0,y1,y2⟩:=iy wl (w.heap.size+1) _ _ _ t0 t1 t2 (.slice b1 m1 e1) (.slice (some ⟨g',0,none⟩) vs1.length cap') (.slice b3 m3 e3)
 refine bodyPost_ret (v:=.tuple #[ip b1 m1 e1 (some ⟨g',0,none⟩) vs1.length cap' b3 m3 e3,.int .i64 ((vs.length:Nat):Int)]) (by simp[results,Tryz.results49,go_sem,y0,y1,y2]) rfl R1.out
def mj (n:Int)(M:List Vl×Int):Prop:=∀u∈M.1,u.len=n
theorem jM {n:Int}{p:Prop}[Decidable p](ha:mj n a)(hb:mj n b):mj n (if p then a else b):=by
 by_cases h:p
 ·rw[if_pos h];exact ha
 ·rw[if_neg h];exact hb
theorem yW (n d p q:Int)(N:Nat):mj n (chM n d p q N):=by
 unfold chM
 refine jM (jM ?_ ?_) (jM ?_ ?_)<;>(intro u hu;simp at hu)
 ·rcases hu with rfl|rfl<;>rfl
 ·rcases hu with rfl|rfl<;>rfl
 ·rcases hu with rfl|rfl<;>rfl
 ·subst hu;rfl
theorem Bm (i:Int)(v:Vl)(ta tb tc:Int)(N:Nat):mj v.len (mvM i v ta tb tc N):=by
 have z:∀{r:Int},mj v.len ([],r):=by intro r u hu;simp at hu
 have o1:∀{o p q r:Int} {m:Int},mj v.len ([ik o v.len p q r],m):=by intro o p q r m u hu;simp at hu;subst hu;rfl
 have o3:∀{o p q r o' p' q' r' o'' p'' q'' r'':Int} {m:Int},mj v.len ([ik o v.len p q r,ik o' v.len p' q' r',ik o'' v.len p'' q'' r''],m):=by
  intro o p q r o' p' q' r' o'' p'' q'' r'' m u hu
  simp at hu
  rcases hu with rfl|rfl|rfl<;>rfl
 have o4:∀{o p q r o' p' q' r' o'' p'' q'' r'' a b c d:Int} {m:Int},mj v.len ([ik o v.len p q r,ik o' v.len p' q' r',ik o'' v.len p'' q'' r'',ik a v.len b c d],m):=by
  intro o p q r o' p' q' r' o'' p'' q'' r'' a b c d m u hu
  simp at hu
  rcases hu with rfl|rfl|rfl|rfl<;>rfl
 have oc:mj v.len ([ik 3 v.len v.a v.b 0]++(chM v.len N ta tb (N+1)).1,(chM v.len N ta tb (N+1)).2):=by
  intro u hu
  simp only[List.mem_append] at hu
  rcases hu with h|h
  ·simp at h;subst h;rfl
  ·exact yW v.len N ta tb (N+1) u h
 unfold mvM mb oG nX xV
 exact jM z (jM (jM z (jM z o1)) (jM (jM z (jM o1 o1)) (jM (jM (jM z o1) (jM o1 o3)) (jM (jM (jM z o3) (jM o1 o4)) (jM oc (jM (jM z (yW _ _ _ _ _)) (jM o1 o1)))))))
theorem qF (vs:List Vl)(x t:Nat)(hl:∀j,j<vs.length->1<=(vs.getD j Vl.zero).len/\(vs.getD j Vl.zero).len<=1000):∀k,x+k<vs.length->∀u∈(jst vs x t k).1,1<=u.len/\u.len<=1000
 |0,_,u,hu=>by
  unfold jst at hu
  simp only at hu
  obtain⟨j,hj,rfl⟩:=List.getElem_of_mem hu
  have:=hl j hj
  rw[List.getD_eq_getElem?_getD,List.getElem?_eq_getElem hj] at this
  exact this
 |k+1,hk,u,hu=>by
  unfold jst at hu
  simp only[List.mem_append] at hu
  rcases hu with h|h
  ·exact qF vs x t hl k (by omega) u h
  ·unfold jmv at h
   rw[Bm _ _ _ _ _ _ u h]
   exact hl (x+1+k) (by omega)
theorem xk (vs:List Vl)(s x t:Nat)(hl:∀j,j<vs.length->1<=(vs.getD j Vl.zero).len/\(vs.getD j Vl.zero).len<=1000)(hs:s<vs.length)(hx:x<vs.length):∀k,k<(jf vs s x t).1.length->1<=((jf vs s x t).1.getD k Vl.zero).len/\((jf vs s x t).1.getD k Vl.zero).len<=1000:=by
 have key:∀u∈(jf vs s x t).1,1<=u.len/\u.len<=1000:=by
  intro u hu
  unfold jf at hu
  split at hu
  ·simp only[List.mem_append] at hu
   rcases hu with h|h
   ·exact qF vs x t hl (s-x) (by omega) u h
   ·simp at h;subst h;exact hl s hs
  ·exact qF vs x t hl (s-x) (by omega) u hu
 intro k hk
 rw[List.getD_eq_getElem?_getD,List.getElem?_eq_getElem hk]
 exact key _ (List.getElem_mem _)
theorem yX (w:World)(a1 a2 a3:Option Addr)(n1 c1 n2 c2 n3 c3:Nat)(ins:List Int)(vs:List Vl)(outs:List Int)(f:GS w a1 n1 a2 n2 a3 n3 ins vs outs)(hl:∀k,k<n2->1<=(vs.getD k Vl.zero).len/\(vs.getD k Vl.zero).len<=1000):
  Calls Tryz.prog 25 #[ip a1 n1 c1 a2 n2 c2 a3 n3 c3] w λe w'=>e=.returned (.bool (!jR vs))/\Kept 0 0 w w':=by
 have hn:vs.length=n2:=f.v.len
 have ka:=hU 0 0 w (iv a1 n1 c1 a2 n2 c2 a3 n3 c3)
 by_cases h2:n2<=2000
 ·have HX:Hid _:=vK _ a1 a2 a3 n1 c1 n2 c2 n3 c3 ins vs outs (f.keep ka) h2 hl
  have HK:Hid _:=ka
  have t1:((n2:Int)<=2000):=by omega
  by_cases hc:ig vs<=50000
  ·have e:jR vs=false:=by unfold jR;rw[decide_eq_false (by omega)]
   rw[e]
   have t2:decide (ig vs<=50000)=true:=decide_eq_true hc
   clear f hl hn ka e
   generalize ig vs=cv at HX t2 hc
   go_enter Tryz.func25,Tryz.ntmps25
   go_wp2_with fail
   refine Calls.mono HX.out ?_
   rintro e w2 ⟨rfl,k2⟩
   have R:Hid _:=Kept.trans HK.out k2
   clear k2 HX
   go_wp2
   go_ret
   exact⟨rfl,R.out⟩
  ·have e:jR vs=true:=by unfold jR;rw[decide_eq_true (by omega)]
   rw[e]
   have t2:decide (ig vs<=50000)=false:=decide_eq_false hc
   clear f hl hn ka e
   generalize ig vs=cv at HX t2 hc
   go_enter Tryz.func25,Tryz.ntmps25
   go_wp2_with fail
   refine Calls.mono HX.out ?_
   rintro e w2 ⟨rfl,k2⟩
   have R:Hid _:=Kept.trans HK.out k2
   clear k2 HX
   go_wp2
   go_ret
   exact⟨rfl,R.out⟩
 ·have e:jR vs=true:=by unfold jR;rw[decide_eq_true (by omega)]
  rw[e]
  have t1:¬((n2:Int)<=2000):=by omega
  clear f hl hn e
  go_enter Tryz.func25,Tryz.ntmps25
  go_wp2
  go_ret
  exact⟨rfl,ka⟩
theorem E9 (n d p q:Int)(N:Nat):∀u∈(chM n d p q N).1,u.k=0:=by
 intro u hu
 unfold chM at hu
 split at hu<;>split at hu<;>simp at hu
 ·rcases hu with rfl|rfl<;>rfl
 ·rcases hu with rfl|rfl<;>rfl
 ·rcases hu with rfl|rfl<;>rfl
 ·subst hu;rfl
def th (M:List Vl×Int):Prop:=∀u∈M.1,u.k=0
theorem jX {p:Prop}[Decidable p](ha:th a)(hb:th b):th (if p then a else b):=by
 by_cases h:p
 ·rw[if_pos h];exact ha
 ·rw[if_neg h];exact hb
theorem Fa (i:Int)(v:Vl)(ta tb tc:Int)(N:Nat):th (mvM i v ta tb tc N):=by
 have z:∀{r:Int},th ([],r):=by intro r u hu;simp at hu
 have o1:∀{o l p q r:Int} {m:Int},th ([ik o l p q r],m):=by intro o l p q r m u hu;simp at hu;subst hu;rfl
 have o3:∀{o l p q r o' l' p' q' r' o'' l'' p'' q'' r'':Int} {m:Int},th ([ik o l p q r,ik o' l' p' q' r',ik o'' l'' p'' q'' r''],m):=by
  intro o l p q r o' l' p' q' r' o'' l'' p'' q'' r'' m u hu
  simp at hu
  rcases hu with rfl|rfl|rfl<;>rfl
 have o4:∀{o l p q r o' l' p' q' r' o'' l'' p'' q'' r'' a l3 b c d:Int} {m:Int},th ([ik o l p q r,ik o' l' p' q' r',ik o'' l'' p'' q'' r'',ik a l3 b c d],m):=by
  intro o l p q r o' l' p' q' r' o'' l'' p'' q'' r'' a l3 b c d m u hu
  simp at hu
  rcases hu with rfl|rfl|rfl|rfl<;>rfl
 have oc:th ([ik 3 v.len v.a v.b 0]++(chM v.len N ta tb (N+1)).1,(chM v.len N ta tb (N+1)).2):=by
  intro u hu
  simp only[List.mem_append] at hu
  rcases hu with h|h
  ·simp at h;subst h;rfl
  ·exact E9 v.len N ta tb (N+1) u h
 unfold mvM mb oG nX xV
 exact jX z (jX (jX z (jX z o1)) (jX (jX z (jX o1 o1)) (jX (jX (jX z o1) (jX o1 o3)) (jX (jX (jX z o3) (jX o1 o4)) (jX oc (jX (jX z (E9 _ _ _ _ _)) (jX o1 o1)))))))
theorem yY (vs:List Vl)(x t:Nat)(hk:∀v∈vs,v.k<18446744073709551616):∀k,∀u∈(jst vs x t k).1,u.k<18446744073709551616
 |0,u,hu=>hk u hu
 |k+1,u,hu=>by
  unfold jst at hu
  simp only[List.mem_append] at hu
  rcases hu with h|h
  ·exact yY vs x t hk k u h
  ·unfold jmv at h
   rw[Fa _ _ _ _ _ _ u h]
   decide
theorem yZ (vs:List Vl)(s x t:Nat)(hk:∀v∈vs,v.k<18446744073709551616):∀u∈(jf vs s x t).1,u.k<18446744073709551616:=by
 intro u hu
 unfold jf at hu
 split at hu
 ·simp only[List.mem_append] at hu
  rcases hu with h|h
  ·exact yY vs x t hk (s-x) u h
  ·simp at h;subst h;exact(by decide:(0:Nat)<18446744073709551616)
 ·exact yY vs x t hk (s-x) u hu
def FL (w':World)(n1 n3:Nat)(ins outs:List Int)(M:List Vl×Int)(e:Ending):Prop:=
 ∃b1 d1 b3 d3 a2 cap,e=.returned (.tuple #[ip b1 n1 d1 a2 M.1.length cap b3 n3 d3,.int .i64 M.2,.int .i64 0])/\GS w' b1 n1 a2 M.1.length b3 n3 ins M.1 outs
end
section
open Go.RowKit Flt
theorem Bn (w:World)(b1 b3:Option Addr)(m1 e1 cap m3 e3 base g2 i:Nat)(vs:List Vl)(v:Vl)(ta tb tc:Int)(h:w.ownsRow base 31 6 (.slice (some ⟨g2,0,none⟩) vs.length cap) vs.length (iN vs))(hb:base<=w.heap.size)(hn:vs.length<=800000)(hi:i<vs.length)(hv:At w g2 (i*6) v)
  (ra:-1<=ta) (rb:-1<=tb) (_rc:-1<=tc) (hs:¬(ta=-1/\tb=-1/\tc=-1)) (h2:cnt v.op<=2->tc=-1) (h1:cnt v.op<=1->tb=-1) (hw:whO v.op):
  Calls Tryz.prog 49 #[ip b1 m1 e1 (some ⟨g2,0,none⟩) vs.length cap b3 m3 e3,.int .i64 (i:Int),.int .i64 ta,.int .i64 tb,.int .i64 tc] w λe w'=>MvP w b1 m1 e1 b3 m3 e3 vs base (some g2) (mvM (i:Int) v ta tb tc vs.length) e w':=by
 obtain⟨o,ln,va,vb,vc,vk⟩:=v
 simp only at h1 h2 hw
 unfold whO at hw
 have na:∀{x:Int},0<=x->¬x=-1:=λh=>by omega
 have nb:∀{x:Int},-1<=x->¬0<=x->x=-1:=λh k=>by omega
 by_cases o2:o=2
 ·subst o2
  have hc:=h2 (by decide)
  by_cases a:0<=ta
  ·by_cases b:0<=tb
   ·have e:mvM (i:Int) ⟨2,ln,va,vb,vc,vk⟩ ta tb tc vs.length=([ik 2 ln ta tb 0],((vs.length:Nat):Int)):=by simp[mvM,mb,na a,na b]
    rw[e]
    exact Bc w b1 b3 m1 e1 cap m3 e3 base g2 i vs ln va vb vc vk ta tb tc h hb hn hi hv a b
   ·have e:mvM (i:Int) ⟨2,ln,va,vb,vc,vk⟩ ta tb tc vs.length=([],ta):=by simp[mvM,mb,na a,nb rb b]
    rw[e]
    exact Be w b1 b3 m1 e1 cap m3 e3 base g2 i vs ln va vb vc vk ta tb tc h hb hn hi hv a (by omega)
  ·have b:0<=tb:=by omega
   have e:mvM (i:Int) ⟨2,ln,va,vb,vc,vk⟩ ta tb tc vs.length=([],tb):=by simp[mvM,mb,nb ra a,na b]
   rw[e]
   exact Bf w b1 b3 m1 e1 cap m3 e3 base g2 i vs ln va vb vc vk ta tb tc h hb hn hi hv (by omega) b
 by_cases o3:o=3
 ·subst o3
  have hc:=h2 (by decide)
  by_cases a:0<=ta
  ·by_cases b:0<=tb
   ·have e:mvM (i:Int) ⟨3,ln,va,vb,vc,vk⟩ ta tb tc vs.length=([ik 3 ln ta tb 0],((vs.length:Nat):Int)):=by simp[mvM,oG,na a,na b]
    rw[e]
    exact Bg w b1 b3 m1 e1 cap m3 e3 base g2 i vs ln va vb vc vk ta tb tc h hb hn hi hv a b
   ·have e:mvM (i:Int) ⟨3,ln,va,vb,vc,vk⟩ ta tb tc vs.length=([],ta):=by simp[mvM,oG,na a,nb rb b]
    rw[e]
    exact Bh w b1 b3 m1 e1 cap m3 e3 base g2 i vs ln va vb vc vk ta tb tc h hb hn hi hv a (by omega)
  ·have b:0<=tb:=by omega
   have e:mvM (i:Int) ⟨3,ln,va,vb,vc,vk⟩ ta tb tc vs.length=([ik 6 ln tb 0 0],((vs.length:Nat):Int)):=by simp[mvM,oG,nb ra a,na b]
   rw[e]
   exact Bi w b1 b3 m1 e1 cap m3 e3 base g2 i vs ln va vb vc vk ta tb tc h hb hn hi hv (by omega) b
 by_cases o4:o=4
 ·subst o4
  have hc:=h2 (by decide)
  by_cases a:0<=ta
  ·by_cases b:0<=tb
   ·have e:mvM (i:Int) ⟨4,ln,va,vb,vc,vk⟩ ta tb tc vs.length=([ik 4 ln ta vb 0,ik 4 ln va tb 0,ik 2 ln ((vs.length:Nat):Int) (((vs.length:Nat):Int)+1) 0],(((vs.length:Nat):Int)+2)):=by simp[mvM,nX,na a,na b]
    rw[e]
    exact Bj w b1 b3 m1 e1 cap m3 e3 base g2 i vs ln va vb vc vk ta tb tc h hb hn hi hv a b
   ·have e:mvM (i:Int) ⟨4,ln,va,vb,vc,vk⟩ ta tb tc vs.length=([ik 4 ln ta vb 0],((vs.length:Nat):Int)):=by simp[mvM,nX,na a,nb rb b]
    rw[e]
    exact Bk w b1 b3 m1 e1 cap m3 e3 base g2 i vs ln va vb vc vk ta tb tc h hb hn hi hv a (by omega)
  ·have b:0<=tb:=by omega
   have e:mvM (i:Int) ⟨4,ln,va,vb,vc,vk⟩ ta tb tc vs.length=([ik 4 ln va tb 0],((vs.length:Nat):Int)):=by simp[mvM,nX,nb ra a,na b]
   rw[e]
   exact Bl w b1 b3 m1 e1 cap m3 e3 base g2 i vs ln va vb vc vk ta tb tc h hb hn hi hv (by omega) b
 have o5:¬o=5:=by omega
 have o7:¬o=7:=by omega
 have o8:¬o=8:=by omega
 have o13:¬o=13:=by omega
 have hc1:cnt o<=1:=by unfold cnt;simp[o2,o3,o4,o5,o7,o8];split<;>omega
 have b:=h1 hc1
 have c:=h2 (by omega)
 have a:0<=ta:=by omega
 have e:mvM (i:Int) ⟨o,ln,va,vb,vc,vk⟩ ta tb tc vs.length=([ik o ln ta 0 vc],((vs.length:Nat):Int)):=by simp[mvM,na a,o2,o3,o4,o5,o7,o8,o13]
 rw[e]
 exact DF w b1 b3 m1 e1 cap m3 e3 base g2 i vs o ln va vb vc vk ta tb tc h hb hn hi hv ⟨o2,o3,o4,o5,o7,o8,o13⟩ a
end
section
open Go.RowKit Flt
attribute [local go_sem] ic ib ia
def Fb (w w':World)(n1 n3:Nat)(ins outs:List Int)(M:List Vl×Int)(e:Ending):Prop:=
 ∃b1 d1 b3 d3 a2 cap,e=.returned (.tuple #[ip b1 n1 d1 a2 M.1.length cap b3 n3 d3,.int .i64 M.2])/\w'.ownsRow w.heap.size 3 1 (.slice b1 n1 d1) n1 (ins.map (Value.int .i64))/\w'.ownsRow w.heap.size 31 6 (.slice a2 M.1.length cap) M.1.length (iN M.1)/\w'.ownsRow w.heap.size 3 1 (.slice b3 n3 d3) n3 (outs.map (Value.int .i64))
theorem DH (w:World)(_lo g1 g2 g3 n1 c1 n2 c2 n3 c3:Nat)(s x t:Nat)(ins:List Int)(vs:List Vl)(outs:List Int)(f:GN w g1 g2 g3 n2 ins vs outs)(e1:ins.length=n1)(e3:outs.length=n3)(l1:n1<=1000000)(l2:n2<=2000)(l3:n3<=1000000)(hok:(List.range n2).all (okV ins vs)=true)(hc5:ig vs<=50000)(hs:s<n2)(hx:x<n2)(hwh:∀k,whO (vs.getD k Vl.zero).op):
  Calls Tryz.prog 24 #[ip (some ⟨g1,0,none⟩) n1 c1 (some ⟨g2,0,none⟩) n2 c2 (some ⟨g3,0,none⟩) n3 c3,.int .i64 (s:Int),.int .i64 (x:Int),.int .i64 (t:Int)] w λe w'=>Fb w w' n1 n3 ins outs (jf vs s x t) e/\Kept 0 0 w w':=by
 have kn:Kept 0 0 w ((w.alloc (iv (some ⟨g1,0,none⟩) n1 c1 (some ⟨g2,0,none⟩) n2 c2 (some ⟨g3,0,none⟩) n3 c3)).alloc iw):=(hU 0 0 w _).trans (hU 0 0 _ _)
 have HB:Hid _:=(iO w (.slice (some ⟨g1,0,none⟩) n1 c1) (.slice (some ⟨g2,0,none⟩) n2 c2) (.slice (some ⟨g3,0,none⟩) n3 c3)).keep (hU 0 0 _ iw)
 have HFZ:Hid (∀o,((w.alloc (iv (some ⟨g1,0,none⟩) n1 c1 (some ⟨g2,0,none⟩) n2 c2 (some ⟨g3,0,none⟩) n3 c3)).alloc iw).frozen? ⟨w.heap.size,o,none⟩=false):=λo=>by simp
 have hN:=i9 (w.alloc (iv (some ⟨g1,0,none⟩) n1 c1 (some ⟨g2,0,none⟩) n2 c2 (some ⟨g3,0,none⟩) n3 c3))
 rw[show(w.alloc (iv (some ⟨g1,0,none⟩) n1 c1 (some ⟨g2,0,none⟩) n2 c2 (some ⟨g3,0,none⟩) n3 c3)).heap.size=w.heap.size+1 by simp] at hN
 have HR:Hid _:=hN
 have HX:Hid _:=uP _ _lo g1 g2 g3 n1 c1 n2 c2 n3 c3 ins vs outs (GN.keepJ f kn) e1 e3 l1 (by omega) l3
 have HLN:Hid (vs.length=n2):=f.v.len
 have HOK:Hid _:=hok
 have HWH:Hid _:=hwh
 clear hwh
 have HC5:Hid _:=hc5
 clear hN kn f hok hc5
 go_enter Tryz.func24,Tryz.ntmps24
 go_wp2_with fail
 refine Calls.mono HX.out ?_
 rintro e w1 ⟨b1,d1,a2,d2,b3,d3,rfl,o1,o2,o3,⟨q1,q2,q3⟩,k3⟩
 have HST:Hid _:=LJ.start HLN.out HB.out HFZ.out HR.out k3 o1 o2 o3 q1 q2 q3
 obtain⟨_,p0,p1,p2⟩:=HB.out.keep k3
 have f0:=(k3.frozen (p:=⟨w.heap.size,0,none⟩) HB.out.sz (by omega)).trans (HFZ.out 0)
 have f1:=(k3.frozen (p:=⟨w.heap.size,1,none⟩) HB.out.sz (by omega)).trans (HFZ.out 1)
 have f2:=(k3.frozen (p:=⟨w.heap.size,2,none⟩) HB.out.sz (by omega)).trans (HFZ.out 2)
 obtain⟨y0,y1,y2⟩:=iy w1 w.heap.size _ _ _ p0 p1 p2 (.slice b1 n1 d1) (.slice a2 n2 d2) (.slice b3 n3 d3)
 obtain⟨gr,cr,er,hgb,hgr,_,hA⟩:=kU o2 (by omega) HLN.out
 injection er with er1 er2 er3
 subst er1
 have hcs:(iM w1 w.heap.size (.slice b1 n1 d1) (.slice (some ⟨gr,0,none⟩) n2 d2) (.slice b3 n3 d3)).cell? ⟨gr,s*6+1,none⟩=some (.int .i64 (vs.getD s Vl.zero).len):=(lV _ _ _ _ _ _ _ (by simp at hgb;omega)).trans (hA.at_ s hs).c1
 clear o1 o2 o3 q1 q2 q3 HX HB HFZ HR hA er2 er3 hgr k3
 go_upto_region 2 with fail
 clear p0 p1 p2 f0 f1 f2
 unfold iM at HST hcs
 generalize ((w1.setCell ⟨w.heap.size,0,none⟩ (.slice b1 n1 d1)).setCell ⟨w.heap.size,1,none⟩ (.slice (some ⟨gr,0,none⟩) n2 d2)).setCell ⟨w.heap.size,2,none⟩ (.slice b3 n3 d3)=wP at HST hcs y0 y1 y2 ⊢
 have hm:=sD n2 wP (by omega)
 have HJ0:Hid _:=HST.out _ (IR.made wP n2) (hU 0 0 wP _)
 generalize hln:(vs.getD s Vl.zero).len=ln at hcs
 have HLS:Hid ((vs.getD s Vl.zero).len=ln):=hln
 generalize hbs:((w.alloc (iv (some ⟨g1,0,none⟩) n1 c1 (some ⟨g2,0,none⟩) n2 c2 (some ⟨g3,0,none⟩) n3 c3)).alloc iw).heap.size=base at HJ0
 clear hln hbs HST hgb
 generalize wP.alloc (.cells (madeCells #[.int .i64 0] n2) 3)=w2 at hm HJ0
 have j0:(0:Int)<=(s:Int):=by omega
 have j1:(s:Int)<(n2:Int):=by omega
 go_wp2_with fail
 clear hm hcs y0 y1 y2
 generalize wP.heap.size=Mb at HJ0 ⊢
 go_loopw [12] (λv W=>∃k:Nat,k<=n2/\v=.int .i64 (k:Int)/\Hid (LJ w W Mb b1 n1 d1 b3 n3 d3 ins outs vs (kL k n2) base (Value.slice (some ⟨gr,0,none⟩) n2 d2).ownBlock (some ⟨gr,0,none⟩) d2)) (λv _=>n2-(intOf v).toNat)
 case atStart=>exact⟨0,Nat.zero_le _,rfl,by unfold kL;exact HJ0⟩
 case round=>
  obtain⟨k,hk,rfl,hJ⟩:=hrel
  clear HJ0
  by_cases hlt:k<n2
  ·have c1:=hJ.out.m.cell k (by rw[oZ k n2 hk];exact hlt)
   have c2:=hJ.out.m.free k
   have R1:Hid (LJ w (wr.setCell ⟨Mb,k,none⟩ (.int .i64 (-1))) Mb b1 n1 d1 b3 n3 d3 ins outs vs (kL (k+1) n2) base (Value.slice (some ⟨gr,0,none⟩) n2 d2).ownBlock (some ⟨gr,0,none⟩) d2):=by
    have:=hJ.out.set k (-1)
    rw[pd hlt] at this
    exact this
   clear hJ
   generalize (kL k n2).getD k 0=z at c1
   go_wp2
   go_roundw
   case rel=>exact⟨k+1,by omega,by go_num,R1⟩
   case measure=>simp[intOf];omega
  ·obtain rfl:k=n2:=by omega
   have hJ2:=hJ.out
   rw[pa] at hJ2
   have cM:=hJ2.m.cell x (by simp;omega)
   have fM:=hJ2.m.free x
   have HJ1:Hid (∃R a2 cap,LJ w (wr.setCell ⟨Mb,x,none⟩ (.int .i64 (t:Int))) Mb b1 n1 d1 b3 n3 d3 ins outs (jst vs x t 0).1 (jst vs x t 0).2 base R a2 cap):=⟨_,_,_,by
    have:=hJ2.set x (t:Int)
    unfold jst
    rw[HLN.out]
    exact this⟩
   clear hJ hJ2
   generalize (List.replicate k (-1:Int)).getD x 0=z at cM
   have j2:(0:Int)<=(x:Int):=by omega
   have j3:(x:Int)<(k:Int):=by omega
   go_wp2_with fail
   clear cM fM
   go_loopw [13] (λv W=>∃j:Nat,j<=s-x/\v=.int .i64 ((x+1+j:Nat):Int)/\Hid (∃R a2 cap,LJ w W Mb b1 n1 d1 b3 n3 d3 ins outs (jst vs x t j).1 (jst vs x t j).2 base R a2 cap)) (λv _=>s+1-(intOf v).toNat)
   case atStart=>exact⟨0,Nat.zero_le _,by simp,HJ1⟩
   case round=>
    obtain⟨j,hj,rfl,hJ⟩:=hrel
    clear HJ1
    obtain⟨R,a2,cap,hJ⟩:=hJ.out
    have hpre:vs.length<=(jst vs x t j).1.length:=by
     obtain⟨r,h⟩:=nO vs x t j
     rw[h,List.length_append]
     omega
    obtain⟨gv,rfl,rfl,hgv,hA⟩:=hJ.read (by have:=HLN.out;omega)
    by_cases hlt:j<s-x
    ·have hin:x+1+j<k:=by omega
     have hat:=hA (x+1+j) (by have:=HLN.out;omega)
     rw[pH vs x t j (by have:=HLN.out;omega)] at hat
     have okv:=List.all_eq_true.1 HOK.out (x+1+j) (List.mem_range.2 hin)
     have hopr:=sZ okv
     have HOP:Hid _:=mN okv
     have HNX:Hid (pm (vs.getD (x+1+j) Vl.zero) (jst vs x t j).2 (cnt (vs.getD (x+1+j) Vl.zero).op)=false->jst vs x t (j+1)=jst vs x t j):=λh=>yC vs x t j (by have:=HLN.out;omega) (vn h (sY vs x t j))
     have HGE:Hid _:=sY vs x t j
     have HJS:Hid (jst vs x t (j+1)=((jst vs x t j).1++(jmv vs (x+1+j) (jst vs x t j)).1,(jst vs x t j).2.set (x+1+j) (jmv vs (x+1+j) (jst vs x t j)).2)):=rfl
     have HJM:Hid (jmv vs (x+1+j) (jst vs x t j)=mvM ((x+1+j:Nat):Int) (vs.getD (x+1+j) Vl.zero) (ovs (vs.getD (x+1+j) Vl.zero) (jst vs x t j).2 (cnt (vs.getD (x+1+j) Vl.zero).op) 0) (ovs (vs.getD (x+1+j) Vl.zero) (jst vs x t j).2 (cnt (vs.getD (x+1+j) Vl.zero).op) 1) (ovs (vs.getD (x+1+j) Vl.zero) (jst vs x t j).2 (cnt (vs.getD (x+1+j) Vl.zero).op) 2) (jst vs x t j).1.length):=rfl
     have hl:∀q,q<vs.length->1<=(vs.getD q Vl.zero).len/\(vs.getD q Vl.zero).len<=1000:=λq hq=>ja (List.all_eq_true.1 HOK.out q (List.mem_range.2 (by have:=HLN.out;omega)))
     obtain⟨z1,_,_⟩:=nf vs x t hl (kM vs (λq hq=>by have:=hl q hq;omega)) HC5.out j (by have:=HLN.out;omega)
     have HSZ:Hid ((jst vs x t j).1.length<=800000/\k<=(jst vs x t j).1.length/\(jst vs x t j).2.length=k):=⟨by have:=HLN.out;omega,by have:=HLN.out;omega,by rw[mM];exact HLN.out⟩
     have HJF:Hid _:=hJ.keep (hU 0 0 wr (.cells #[.int .i64 (-1),.int .i64 (-1),.int .i64 (-1)] 3))
     have HOT:Hid _:=hJ.oth (B:=wr.heap.size) (Nat.le_refl _)
     have HIF:Hid (IR (wr.alloc (.cells #[.int .i64 (-1),.int .i64 (-1),.int .i64 (-1)] 3)) wr.heap.size [ovs (vs.getD (x+1+j) Vl.zero) (jst vs x t j).2 0 0,ovs (vs.getD (x+1+j) Vl.zero) (jst vs x t j).2 0 1,ovs (vs.getD (x+1+j) Vl.zero) (jst vs x t j).2 0 2]):=ir3 wr (-1) (-1) (-1)
     have hle:((x+1+j:Nat):Int)<=(s:Int):=by omega
     have hsx:x+1+j<=s:=by omega
     clear hA hJ hpre hl z1 okv hat hgv
     generalize hvv:vs.getD (x+1+j) Vl.zero=v at hopr HOP HNX HJM HIF
     have HVV:Hid (vs.getD (x+1+j) Vl.zero=v):=hvv
     have HWO:Hid (whO v.op):=by show whO v.op;rw[<-hvv];exact HWH.out _
     clear hvv
     generalize hmv:(jst vs x t j).2=mv at HNX HGE HJS HJM HSZ HJF HIF
     generalize hvs:(jst vs x t j).1=us at HJS HJM HSZ HJF
     have HJV:Hid ((jst vs x t j).1=us/\(jst vs x t j).2=mv):=⟨hvs,hmv⟩
     clear hmv hvs
     generalize hi:x+1+j=i at HOP HVV HNX HJS HJM hle hin hsx
     have HI:Hid (x+1+j=i):=hi
     clear hi
     go_wp2_with fail
     generalize wr.alloc (.cells #[.int .i64 (-1),.int .i64 (-1),.int .i64 (-1)] 3)=wF at HJF HIF ⊢
     generalize wr.heap.size=F at HIF HOT ⊢
     have hud:us.getD i Vl.zero=v:=by
      rw[<-HJV.out.1,<-HI.out,pH vs x t j (by have:=HI.out;have:=HLN.out;omega),HI.out]
      exact HVV.out
     have HUD:Hid _:=hud
     have hil:i<us.length:=by have:=HSZ.out;omega
     have hcn:=jo v.op
     clear hud
     go_loopw [15,16] (λsv kv W=>∃q:Nat,q<=cnt v.op/\sv=.bool (pm v mv q)/\kv=.int .i64 (q:Int)/\Hid (IR W F [ovs v mv q 0,ovs v mv q 1,ovs v mv q 2])/\Hid (LJ w W Mb b1 n1 d1 b3 n3 d3 ins outs us mv base (some gv) (some ⟨gv,0,none⟩) cap)) (λ_ kv _=>3-(intOf kv).toNat)
     case atStart=>exact⟨0,Nat.zero_le _,rfl,rfl,HIF,HJF⟩
     case round=>
      obtain⟨q,hq,rfl,rfl,hI,hL⟩:=hrel
      clear HJF HIF
      obtain⟨g0,e0,_,hgv,hA⟩:=hL.out.read (by omega)
      cases e0
      have hat:=hA i hil
      rw[HUD.out] at hat
      obtain⟨y0,y1,y2,y3,y4,y5⟩:=hat
      have s1:=hL.out.g.c1
      have i0:(0:Int)<=(i:Int):=by omega
      have i1:(i:Int)<(us.length:Int):=by omega
      have HO:Hid _:=iu v.op wr hopr.1 hopr.2
      rw[EK hopr.1 hopr.2] at HO
      clear hA hgv
      by_cases hl3:q<cnt v.op
      ·obtain⟨fa,fb'⟩:=HOP.out q hl3
       obtain⟨fq,hfq⟩:=Int.eq_ofNat_of_zero_le fa
       have HFL:Hid _:=mL wr v q (by omega)
       rw[hfq] at HFL
       have hfk:fq<k:=by omega
       have HAM:Hid (pm v mv (q+1)=(pm v mv q||decide (0<=mv.getD fq 0))):=by
        have:=wU v mv q
        rw[hfq,Int.toNat_natCast] at this
        exact this
       have HSET:Hid (([ovs v mv q 0,ovs v mv q 1,ovs v mv q 2]:List Int).set q (mv.getD fq 0)=[ovs v mv (q+1) 0,ovs v mv (q+1) 1,ovs v mv (q+1) 2]):=by
        have:=yD v mv q (by omega)
        rw[hfq,Int.toNat_natCast] at this
        exact this
       have tq:(q:Int)<(cnt v.op:Int):=by omega
       clear fa fb' hfq
       go_wp2_with fail
       refine Calls.mono HO.out ?_
       rintro e w' ⟨rfl,rfl⟩
       clear HO
       go_wp2_with fail
       refine Calls.mono HFL.out ?_
       rintro e w4 ⟨rfl,k4⟩
       have hL4:=hL.out.keep k4
       have hI4:=IR.keep hI.out k4 (.inr (.inr (Nat.le_refl _)))
       have cm:=hL4.m.cell fq (by have:=HSZ.out;omega)
       have cf:=hI4.cell q (by simp;omega)
       have ff:=hI4.free q
       have R1:Hid (IR (w4.setCell ⟨F,q,none⟩ (.int .i64 (mv.getD fq 0))) F [ovs v mv (q+1) 0,ovs v mv (q+1) 1,ovs v mv (q+1) 2]):=by
        have:=hI4.set q (mv.getD fq 0)
        rw[HSET.out] at this
        exact this
       have R2:Hid _:=hL4.other HOT.out q (.int .i64 (mv.getD fq 0))
       clear hL4 hI4 hL hI HFL k4 y0 y1 y2 y3 y4 y5 s1 HSET
       generalize mv.getD fq 0=y at cm R1 R2 HAM
       generalize ([ovs v mv q 0,ovs v mv q 1,ovs v mv q 2]:List Int).getD q 0=z at cf
       have f0:(0:Int)<=(fq:Int):=by omega
       have f1:(fq:Int)<(k:Int):=by omega
       have q0:(0:Int)<=(q:Int):=by omega
       have q3:(q:Int)<3:=by omega
       cases ham:pm v mv q
       ·rw[ham] at HAM
        go_wp2
        go_roundw
        case rel=>exact⟨q+1,by omega,by rw[HAM.out];rfl,by go_num,R1,R2⟩
        case measure=>simp[intOf];omega
       ·rw[ham] at HAM
        go_wp2
        go_roundw
        case rel=>exact⟨q+1,by omega,by rw[HAM.out];rfl,by go_num,R1,R2⟩
        case measure=>simp[intOf];omega
      ·obtain rfl:q=cnt v.op:=by omega
       have tq:¬((cnt v.op:Int)<(cnt v.op:Int)):=by omega
       cases ham:pm v mv (cnt v.op)
       ·have R1:Hid (∃R a2 cap,LJ w wr Mb b1 n1 d1 b3 n3 d3 ins outs (jst vs x t (j+1)).1 (jst vs x t (j+1)).2 base R a2 cap):=⟨_,_,_,by
         rw[HNX.out ham,HJV.out.1,HJV.out.2]
         exact hL.out⟩
        go_wp2_with fail
        refine Calls.mono HO.out ?_
        rintro e w' ⟨rfl,rfl⟩
        clear HO
        go_wp2
        go_roundw
        case rel=>exact⟨j+1,by omega,by have:=HI.out;go_num,R1⟩
        case measure=>simp[intOf];omega
       ·have s0:=hL.out.g.c0
        have s2:=hL.out.g.c2
        have c0:=hI.out.cell 0 (by simp)
        have c1:=hI.out.cell 1 (by simp)
        have c2:=hI.out.cell 2 (by simp)
        rw[show([ovs v mv (cnt v.op) 0,ovs v mv (cnt v.op) 1,ovs v mv (cnt v.op) 2]:List Int).getD 0 0=ovs v mv (cnt v.op) 0 from rfl] at c0
        rw[show([ovs v mv (cnt v.op) 0,ovs v mv (cnt v.op) 1,ovs v mv (cnt v.op) 2]:List Int).getD 1 0=ovs v mv (cnt v.op) 1 from rfl] at c1
        rw[show([ovs v mv (cnt v.op) 0,ovs v mv (cnt v.op) 1,ovs v mv (cnt v.op) 2]:List Int).getD 2 0=ovs v mv (cnt v.op) 2 from rfl] at c2
        have hsome:=wV ham
        have g0:∀n,-1<=ovs v mv (cnt v.op) n:=λn=>vm HGE.out
        have hat:At wr gv (i*6) v:=⟨y0,y1,y2,y3,y4,y5⟩
        have HMV:Hid (∀W1,Kept 0 0 wr W1->Calls Tryz.prog 49 #[ip b1 n1 d1 (some ⟨gv,0,none⟩) us.length cap b3 n3 d3,.int .i64 (i:Int),.int .i64 (ovs v mv (cnt v.op) 0),.int .i64 (ovs v mv (cnt v.op) 1),.int .i64 (ovs v mv (cnt v.op) 2)] W1 λe w5=>∃(us2:List Vl) (r:Int) (a5:Option Addr) (cap5:Nat) (R5:Option Nat),e=.returned (.tuple #[ip b1 n1 d1 a5 us2.length cap5 b3 n3 d3,.int .i64 r])/\(∀B o,B<W1.heap.size->B≠gv->w5.cell? ⟨B,o,none⟩=W1.cell? ⟨B,o,none⟩)/\(∀B o,B<W1.heap.size->B≠gv->w5.frozen? ⟨B,o,none⟩=W1.frozen? ⟨B,o,none⟩)/\W1.heap.size<=w5.heap.size/\Hid (us2=us++(jmv vs i (jst vs x t j)).1/\r=(jmv vs i (jst vs x t j)).2)/\
          Hid (∀(l h':Nat) (w6:World),Kept l h' w5 w6->wr.heap.size<=l->(h'<=W1.heap.size\/w5.heap.size<=l)->(gv<l\/h'<=gv)->LJ w (iM w6 w.heap.size (.slice b1 n1 d1) (.slice a5 us2.length cap5) (.slice b3 n3 d3)) Mb b1 n1 d1 b3 n3 d3 ins outs us2 mv base R5 a5 cap5)):=λW1 kk=>by
         refine(Bn W1 b1 b3 n1 d1 cap n3 d3 base gv i us v _ _ _ (hL.out.keep kk).g.own (hL.out.keep kk).g.sz HSZ.out.1 hil (hat.keep (ii hL.out.g.own (k:=gv) rfl).2 kk (.inr (.inr (Nat.le_refl _)))) (g0 0) (g0 1) (g0 2) hsome (λhc=>by unfold ovs;rw[if_neg (by omega)]) (λhc=>by unfold ovs;rw[if_neg (by omega)]) HWO.out).mono ?_
         rintro e w5 ⟨a5,cap5,R5,rfl,own5,row5,st5⟩
         rw[<-HJM.out] at own5 row5 ⊢
         have hn:∀B,B≠gv->¬((λ_=>False) B\/some gv=some B):=λB hB=>by rintro (c|c);exact c;cases c;exact hB rfl
         refine⟨us++(jmv vs i (jst vs x t j)).1,(jmv vs i (jst vs x t j)).2,a5,cap5,R5,rfl,λB o hB hg=>st5.chg.cell (p:=⟨B,o,none⟩) hB (hn B hg),λB o hB hg=>st5.chg.frozen (p:=⟨B,o,none⟩) hB (hn B hg),st5.chg.size,⟨rfl,rfl⟩,λl h' w6 k6 hl hh hgv=>?_⟩
         refine hL.out.step kk own5 row5 st5 k6 hl (λg hg=>?_)
         rcases st5.row with c|⟨r,c,hr⟩
         ·rw[c] at hg;cases hg;exact hgv
         ·rw[c] at hg;cases hg
          have:=(ii own5 (row5.trans c)).2
          omega
        have HFR:Hid (w.heap.size<wr.heap.size/\F<wr.heap.size/\w.heap.size≠gv/\F≠gv/\gv<wr.heap.size):=⟨hL.out.g.lt,hI.out.lt,λc=>hL.out.g.ne (by rw[c]),λc=>HOT.out.r (by rw[c]),(ii hL.out.g.own (k:=gv) rfl).2⟩
        have hfP:=hL.out.g.free
        clear hsome g0 hat y1 y2 y3 y4 y5 HJM
        generalize ovs v mv (cnt v.op) 0=ta at c0 HMV hI
        generalize ovs v mv (cnt v.op) 1=tb at c1 HMV hI
        generalize ovs v mv (cnt v.op) 2=tc at c2 HMV hI
        generalize hMM:jmv vs i (jst vs x t j)=M at HMV HJS
        clear hMM
        obtain⟨Ml,Mi⟩:=M
        go_wp2_with fail
        refine Calls.mono HO.out ?_
        rintro e w' ⟨rfl,rfl⟩
        clear HO y0
        go_upto_region 20 with fail
        go_cut [17,18] (λpv rv wx=>∃(X:Nat) (us2:List Vl) (r:Int) (a5:Option Addr) (cap5:Nat) (R5:Option Nat),pv=.pointer (some ⟨X,0,none⟩)/\rv=.int .i64 r/\Hid (us2=us++Ml/\r=Mi)/\Hid (RB wx X (.slice b1 n1 d1) (.slice a5 us2.length cap5) (.slice b3 n3 d3)/\((∃u,wx.cell? ⟨w.heap.size,0,none⟩=some u)/\(∃u,wx.cell? ⟨w.heap.size,1,none⟩=some u)/\(∃u,wx.cell? ⟨w.heap.size,2,none⟩=some u))/\(∀o,wx.frozen? ⟨w.heap.size,o,none⟩=false))/\Hid (LJ w (iM wx w.heap.size (.slice b1 n1 d1) (.slice a5 us2.length cap5) (.slice b3 n3 d3)) Mb b1 n1 d1 b3 n3 d3 ins outs us2 mv base R5 a5 cap5))
        case first=>
         have hPn:w.heap.size≠w'.heap.size:=by have:=HFR.out;omega
         have hFn:F≠w'.heap.size:=by have:=HFR.out;omega
         have HW1:Hid (∀B o,B<w'.heap.size->(w'.alloc iw).drew.cell? ⟨B,o,none⟩=w'.cell? ⟨B,o,none⟩):=λB o hB=>(hU 0 0 w' iw).cell (p:=⟨B,o,none⟩) hB (by omega)
         go_region_held3 (λW:World=>W.cell? ⟨w.heap.size,0,none⟩=some (.slice b1 n1 d1)/\W.cell? ⟨w.heap.size,1,none⟩=some (.slice (some ⟨gv,0,none⟩) us.length cap)/\W.cell? ⟨w.heap.size,2,none⟩=some (.slice b3 n3 d3)/\W.cell? ⟨F,0,none⟩=some (.int .i64 ta)/\W.cell? ⟨F,1,none⟩=some (.int .i64 tb)/\W.cell? ⟨F,2,none⟩=some (.int .i64 tc)) (first|go_keep|(simp only[lV _ _ _ _ _ _ _ hPn,lV _ _ _ _ _ _ _ hFn];exact⟨a0,a1,a2,a3,a4,a6⟩)) (first
          |(go_at_call 49;refine Calls.mono (HMV.out _ ((hU 0 0 w' iw).trans (ie _))) ?_;rintro e w5 ⟨us2,r,a5,cap5,R5,rfl,e5,ef5,ez5,hq5,hL5⟩;have a0:=(e5 w.heap.size 0 (by have:=HFR.out;simp;omega) HFR.out.2.2.1).trans ((HW1.out w.heap.size 0 HFR.out.1).trans s0);have a1:=(e5 w.heap.size 1 (by have:=HFR.out;simp;omega) HFR.out.2.2.1).trans ((HW1.out w.heap.size 1 HFR.out.1).trans s1);have a2:=(e5 w.heap.size 2 (by have:=HFR.out;simp;omega) HFR.out.2.2.1).trans ((HW1.out w.heap.size 2 HFR.out.1).trans s2);have a3:=(e5 F 0 (by have:=HFR.out;simp;omega) HFR.out.2.2.2.1).trans ((HW1.out F 0 HFR.out.2.1).trans c0);have a4:=(e5 F 1 (by have:=HFR.out;simp;omega) HFR.out.2.2.2.1).trans ((HW1.out F 1 HFR.out.2.1).trans c1);have a6:=(e5 F 2 (by have:=HFR.out;simp;omega) HFR.out.2.2.2.1).trans ((HW1.out F 2 HFR.out.2.1).trans c2);have HF5:Hid _:=ef5;have z0:=e5 w'.heap.size 0 (by simp) (by have:=HFR.out;omega);have z1:=e5 w'.heap.size 1 (by simp) (by have:=HFR.out;omega);have z2:=e5 w'.heap.size 2 (by simp) (by have:=HFR.out;omega);have zf0:=ef5 w'.heap.size 0 (by simp) (by have:=HFR.out;omega);have zf1:=ef5 w'.heap.size 1 (by simp) (by have:=HFR.out;omega);have zf2:=ef5 w'.heap.size 2 (by simp) (by have:=HFR.out;omega);have EZ:Hid _:=ez5;clear e5 ef5 ez5)
          |(go_at_call 49;refine Calls.mono (HMV.out _ (ie w')) ?_;rintro e w5 ⟨us2,r,a5,cap5,R5,rfl,e5,ef5,ez5,hq5,hL5⟩;have a0:=(e5 w.heap.size 0 HFR.out.1 HFR.out.2.2.1).trans s0;have a1:=(e5 w.heap.size 1 HFR.out.1 HFR.out.2.2.1).trans s1;have a2:=(e5 w.heap.size 2 HFR.out.1 HFR.out.2.2.1).trans s2;have a3:=(e5 F 0 HFR.out.2.1 HFR.out.2.2.2.1).trans c0;have a4:=(e5 F 1 HFR.out.2.1 HFR.out.2.2.2.1).trans c1;have a6:=(e5 F 2 HFR.out.2.1 HFR.out.2.2.2.1).trans c2;have HF5:Hid _:=ef5;have y5:w.heap.size≠w5.heap.size:=(by have:=HFR.out;have:w'.heap.size<=w5.heap.size:=ez5;omega);have y6:F≠w5.heap.size:=(by have:=HFR.out;have:w'.heap.size<=w5.heap.size:=ez5;omega);have EZ:Hid _:=ez5;clear e5 ef5 ez5))
         ·have hwz:w'.heap.size<=w5.heap.size:=EZ.out
          have ka:=hU 0 0 w5 (.cells #[.slice b1 n1 d1,.slice a5 us2.length cap5,.slice b3 n3 d3] 26)
          have hPl:w.heap.size<w5.heap.size:=by have:=HFR.out;omega
          have R2:Hid (RB (w5.alloc (.cells #[.slice b1 n1 d1,.slice a5 us2.length cap5,.slice b3 n3 d3] 26)) w5.heap.size (.slice b1 n1 d1) (.slice a5 us2.length cap5) (.slice b3 n3 d3)/\((∃u,(w5.alloc (.cells #[.slice b1 n1 d1,.slice a5 us2.length cap5,.slice b3 n3 d3] 26)).cell? ⟨w.heap.size,0,none⟩=some u)/\(∃u,(w5.alloc (.cells #[.slice b1 n1 d1,.slice a5 us2.length cap5,.slice b3 n3 d3] 26)).cell? ⟨w.heap.size,1,none⟩=some u)/\(∃u,(w5.alloc (.cells #[.slice b1 n1 d1,.slice a5 us2.length cap5,.slice b3 n3 d3] 26)).cell? ⟨w.heap.size,2,none⟩=some u))/\(∀o,(w5.alloc (.cells #[.slice b1 n1 d1,.slice a5 us2.length cap5,.slice b3 n3 d3] 26)).frozen? ⟨w.heap.size,o,none⟩=false)):=
           ⟨⟨by simp,by simp,by simp,by simp,by simp,by simp,by simp⟩,⟨⟨_,(ka.cell (p:=⟨w.heap.size,0,none⟩) hPl (by omega)).trans a0⟩,⟨_,(ka.cell (p:=⟨w.heap.size,1,none⟩) hPl (by omega)).trans a1⟩,⟨_,(ka.cell (p:=⟨w.heap.size,2,none⟩) hPl (by omega)).trans a2⟩⟩,λo=>(ka.frozen (p:=⟨w.heap.size,o,none⟩) hPl (by omega)).trans ((HF5.out w.heap.size o HFR.out.1 HFR.out.2.2.1).trans (hfP o))⟩
          have R3:Hid _:=hL5.out w5.heap.size w5.heap.size _ (hU _ _ w5 (.cells #[.slice b1 n1 d1,.slice a5 us2.length cap5,.slice b3 n3 d3] 26)) hwz (.inr (Nat.le_refl _)) (.inl (by have:=HFR.out;omega))
          go_wp2_with fail
          go_meet
          exact⟨w5.heap.size,us2,r,a5,cap5,R5,rfl,rfl,hq5,R2,R3⟩
         ·have hwz:w'.heap.size<=w5.heap.size:=Nat.le_trans (hU 0 0 w' iw).size EZ.out
          have kp:=iD w5 w'.heap.size (.slice b1 n1 d1) (.slice a5 us2.length cap5) (.slice b3 n3 d3)
          have hPl:w.heap.size<w5.heap.size:=by have:=HFR.out;omega
          have hXl:w'.heap.size<w5.heap.size:=Nat.lt_of_lt_of_le (by simp) EZ.out
          have z0':w5.cell? ⟨w'.heap.size,0,none⟩=some (.slice none 0 0):=z0.trans (by simp)
          have z1':w5.cell? ⟨w'.heap.size,1,none⟩=some (.slice none 0 0):=z1.trans (by simp)
          have z2':w5.cell? ⟨w'.heap.size,2,none⟩=some (.slice none 0 0):=z2.trans (by simp)
          obtain⟨y0,y1,y2⟩:=iy w5 w'.heap.size _ _ _ z0' z1' z2' (.slice b1 n1 d1) (.slice a5 us2.length cap5) (.slice b3 n3 d3)
          have zf:∀o,w5.frozen? ⟨w'.heap.size,o,none⟩=false:=λo=>(HF5.out w'.heap.size o (by simp) (by have:=HFR.out;omega)).trans (by simp)
          have pf:∀o,w5.frozen? ⟨w.heap.size,o,none⟩=false:=λo=>(HF5.out w.heap.size o (by have:=HFR.out;simp;omega) HFR.out.2.2.1).trans (((hU 0 0 w' iw).frozen (p:=⟨w.heap.size,o,none⟩) HFR.out.1 (by omega)).trans (hfP o))
          have R2:Hid (RB (((w5.setCell ⟨w'.heap.size,0,none⟩ (.slice b1 n1 d1)).setCell ⟨w'.heap.size,1,none⟩ (.slice a5 us2.length cap5)).setCell ⟨w'.heap.size,2,none⟩ (.slice b3 n3 d3)) w'.heap.size (.slice b1 n1 d1) (.slice a5 us2.length cap5) (.slice b3 n3 d3)/\((∃u,(((w5.setCell ⟨w'.heap.size,0,none⟩ (.slice b1 n1 d1)).setCell ⟨w'.heap.size,1,none⟩ (.slice a5 us2.length cap5)).setCell ⟨w'.heap.size,2,none⟩ (.slice b3 n3 d3)).cell? ⟨w.heap.size,0,none⟩=some u)/\(∃u,(((w5.setCell ⟨w'.heap.size,0,none⟩ (.slice b1 n1 d1)).setCell ⟨w'.heap.size,1,none⟩ (.slice a5 us2.length cap5)).setCell ⟨w'.heap.size,2,none⟩ (.slice b3 n3 d3)).cell? ⟨w.heap.size,1,none⟩=some u)/\(∃u,(((w5.setCell ⟨w'.heap.size,0,none⟩ (.slice b1 n1 d1)).setCell ⟨w'.heap.size,1,none⟩ (.slice a5 us2.length cap5)).setCell ⟨w'.heap.size,2,none⟩ (.slice b3 n3 d3)).cell? ⟨w.heap.size,2,none⟩=some u))/\(∀o,(((w5.setCell ⟨w'.heap.size,0,none⟩ (.slice b1 n1 d1)).setCell ⟨w'.heap.size,1,none⟩ (.slice a5 us2.length cap5)).setCell ⟨w'.heap.size,2,none⟩ (.slice b3 n3 d3)).frozen? ⟨w.heap.size,o,none⟩=false)):=
           ⟨⟨Nat.lt_of_lt_of_le hXl kp.size,y0,y1,y2,by simp[zf 0],by simp[zf 1],by simp[zf 2]⟩,⟨⟨_,(lV _ _ _ _ _ _ _ hPn).trans a0⟩,⟨_,(lV _ _ _ _ _ _ _ hPn).trans a1⟩,⟨_,(lV _ _ _ _ _ _ _ hPn).trans a2⟩⟩,λo=>by simp[pf o]⟩
          have R3:Hid _:=hL5.out w'.heap.size (w'.heap.size+1) _ kp (Nat.le_refl _) (.inl (by simp)) (.inl HFR.out.2.2.2.2)
          clear kp z0' z1' z2' zf pf y0 y1 y2 z0 z1 z2 zf0 zf1 zf2
          go_wp2_with fail
          go_meet
          exact⟨w'.heap.size,us2,r,a5,cap5,R5,rfl,rfl,hq5,R2,R3⟩
        case rest=>
         clear s0 s1 s2 c0 c1 c2 HMV hL hI hfP
         obtain⟨X,us2,r,a5,cap5,R5,rfl,rfl,hq5,h5,hL5⟩:=hcut
         obtain⟨⟨_,t0,t1,t2,x0,x1,x2⟩,⟨⟨_,p0⟩,⟨_,p1⟩,⟨_,p2⟩⟩,pf⟩:=h5.out
         have pf0:=pf 0
         have pf1:=pf 1
         have pf2:=pf 2
         clear pf h5
         go_upto_region 22 with fail
         clear t0 t1 t2 x0 x1 x2 p0 p1 p2 pf0 pf1 pf2
         unfold iM at hL5
         generalize ((wc.setCell ⟨w.heap.size,0,none⟩ (.slice b1 n1 d1)).setCell ⟨w.heap.size,1,none⟩ (.slice a5 us2.length cap5)).setCell ⟨w.heap.size,2,none⟩ (.slice b3 n3 d3)=wd at hL5 ⊢
         have cm:=hL5.out.m.cell i (by have:=HSZ.out;omega)
         have fm:=hL5.out.m.free i
         have R1:Hid (∃R a2 cap,LJ w (wd.setCell ⟨Mb,i,none⟩ (.int .i64 r)) Mb b1 n1 d1 b3 n3 d3 ins outs (jst vs x t (j+1)).1 (jst vs x t (j+1)).2 base R a2 cap):=⟨_,_,_,by
          have:=hL5.out.set i r
          rw[HJS.out]
          rw[hq5.out.2] at this ⊢
          rw[hq5.out.1] at this
          exact this⟩
         clear hL5 hq5
         generalize mv.getD i 0=z at cm
         go_wp2
         go_roundw
         case rel=>exact⟨j+1,by omega,by have:=HI.out;go_num,R1⟩
         case measure=>simp[intOf];omega
    ·obtain rfl:j=s-x:=by omega
     have hne:¬(((x+1+(s-x):Nat):Int)<=(s:Int)):=by omega
     have hsl:s<(jst vs x t (s-x)).2.length:=by rw[mM,HLN.out];exact hs
     have cs:=hJ.m.cell s hsl
     have hge:=sY vs x t (s-x) s
     have hJF:Hid (jf vs s x t=if (jst vs x t (s-x)).2.getD s 0=-1 then ((jst vs x t (s-x)).1++[ik 1 (vs.getD s Vl.zero).len 0 0 0],(((jst vs x t (s-x)).1.length:Nat):Int)) else ((jst vs x t (s-x)).1,(jst vs x t (s-x)).2.getD s 0)):=rfl
     rw[HLS.out] at hJF
     have hlow:s<x->(jst vs x t (s-x)).2.getD s 0=-1:=λhc=>by
      rw[show s-x=0 by omega]
      exact yE vs x t s (by omega) (by rw[HLN.out];exact hs)
     have hl:∀q,q<vs.length->1<=(vs.getD q Vl.zero).len/\(vs.getD q Vl.zero).len<=1000:=λq hq=>ja (List.all_eq_true.1 HOK.out q (List.mem_range.2 (by have:=HLN.out;omega)))
     obtain⟨z1,_,_⟩:=nf vs x t hl (kM vs (λq hq=>by have:=hl q hq;omega)) HC5.out (s-x) (by have:=HLN.out;omega)
     have hsz:(jst vs x t (s-x)).1.length<=800000:=by have:=HLN.out;omega
     have HL:Hid _:=hJ
     clear hA hJ hpre hl z1 hsl hlt hgv
     generalize (jst vs x t (s-x)).1=us at HL hJF hsz
     generalize (jst vs x t (s-x)).2=mv at HL hJF cs hge hlow
     generalize mv.getD s 0=mm at cs hge hJF hlow
     have s0:=HL.out.g.c0
     have s1:=HL.out.g.c1
     have s2:=HL.out.g.c2
     obtain⟨_,t0,t1,t2,x0,x1,x2⟩:=HL.out.b
     have is0:(0:Int)<=(s:Int):=by omega
     have is1:(s:Int)<(k:Int):=by omega
     by_cases hA:x<=s/\0<=mm
     ·have hM:Hid (jf vs s x t=(us,mm)):=by
       show _=_
       rw[hJF.out,if_neg (by omega)]
      have ta:((x:Int)<=(s:Int)):=by omega
      have tb:=hA.2
      obtain⟨y0,y1,y2⟩:=iy wr (w.heap.size+1) _ _ _ t0 t1 t2 (.slice b1 n1 d1) (.slice (some ⟨gv,0,none⟩) us.length cap) (.slice b3 n3 d3)
      have hPQ:w.heap.size≠w.heap.size+1:=by omega
      have hMQ:Mb≠w.heap.size+1:=by have:=HL.out.hb;have:=HL.out.dM;omega
      have hMQ':w.heap.size+1≠Mb:=Ne.symm hMQ
      have HC3:Hid (∀X Y Z:Value,(((wr.setCell ⟨w.heap.size+1,0,none⟩ X).setCell ⟨w.heap.size+1,1,none⟩ Y).setCell ⟨w.heap.size+1,2,none⟩ Z).drew.cell? ⟨Mb,s,none⟩=some (.int .i64 mm)):=λX Y Z=>(lV wr _ _ _ X Y Z hMQ).trans cs
      have HC4:Hid (∀(X Y Z:Value) (o:Nat),(((wr.setCell ⟨w.heap.size+1,0,none⟩ X).setCell ⟨w.heap.size+1,1,none⟩ Y).setCell ⟨w.heap.size+1,2,none⟩ Z).drew.cell? ⟨w.heap.size,o,none⟩=wr.cell? ⟨w.heap.size,o,none⟩):=λX Y Z o=>lV wr _ _ _ X Y Z hPQ
      have R1:Hid _:=HL.out.fin (ie wr)
      clear hJF hlow
      go_wp2_with fail
      go_region_held3 (λW:World=>W.cell? ⟨w.heap.size,0,none⟩=some (.slice b1 n1 d1)/\W.cell? ⟨w.heap.size,1,none⟩=some (.slice (some ⟨gv,0,none⟩) us.length cap)/\W.cell? ⟨w.heap.size,2,none⟩=some (.slice b3 n3 d3)/\W.cell? ⟨Mb,s,none⟩=some (.int .i64 mm)) (first|go_keep|(exact⟨(HC4.out _ _ _ _).trans s0,(HC4.out _ _ _ _).trans s1,(HC4.out _ _ _ _).trans s2,HC3.out _ _ _⟩)) (fail)
      all_goals
       go_wp2_with fail
       refine bodyPost_ret (v:=.tuple #[ip b1 n1 d1 (some ⟨gv,0,none⟩) us.length cap b3 n3 d3,.int .i64 mm]) (by simp[results,Tryz.results24,go_sem,y0,y1,y2]) rfl ⟨?_,R1.out.2⟩
       rw[hM.out]
       exact⟨b1,d1,b3,d3,some ⟨gv,0,none⟩,cap,rfl,R1.out.1.1,R1.out.1.2.1,R1.out.1.2.2⟩
     ·have hM:Hid (jf vs s x t=(us++[ik 1 ln 0 0 0],((us.length:Nat):Int))):=by
       show _=_
       rw[hJF.out,if_pos (by
        by_cases hc:s<x
        ·exact hlow hc
        ·omega)]
      have hor:(¬((x:Int)<=(s:Int)))\/((x:Int)<=(s:Int)/\¬(0<=mm)):=by omega
      clear hJF hlow t0 t1 t2 x0 x1 x2 hA hge
      rcases hor with tx|⟨tx,tm⟩
      all_goals
       go_upto_region 25 with fail
       clear cs
       go_cut [] (λwx=>∃g' cap',Hid (LJ w wx Mb b1 n1 d1 b3 n3 d3 ins outs (us++[ik 1 ln 0 0 0]) mv base (some g') (some ⟨g',0,none⟩) cap'))
       case first=>
        go_region_with (first
         |(go_at_call 50;refine Calls.mono (LJ.call HL.out ((ie wr).trans k1) (ik 1 ln 0 0 0) (by omega)) ?_;rintro e w2 ⟨g',cap',rfl,⟨_,r0⟩,⟨_,r1⟩,⟨_,r2⟩,rf,hS2⟩;have rf0:=rf 0;have rf1:=rf 1;have rf2:=rf 2;clear rf)
         |(go_at_call 51;refine Calls.mono (pJ _ _) ?_;rintro e w1 ⟨rfl,k1⟩;have p0:=(LJ.keep HL.out ((ie wr).trans k1)).g.c0;have p1:=(LJ.keep HL.out ((ie wr).trans k1)).g.c1;have p2:=(LJ.keep HL.out ((ie wr).trans k1)).g.c2))
        all_goals (go_wp2_with fail;go_meet;exact⟨g',cap',hS2⟩)
       case rest=>
        obtain⟨g',cap',hS2⟩:=hcut
        have hl1:(us++[ik 1 ln 0 0 0]).length=us.length+1:=by simp
        generalize hu:us++[ik 1 ln 0 0 0]=us2 at hS2 hM hl1
        clear s0 s1 s2 hu HL
        have s0:=hS2.out.g.c0
        have s1:=hS2.out.g.c1
        have s2:=hS2.out.g.c2
        obtain⟨_,t0,t1,t2,x0,x1,x2⟩:=hS2.out.b
        have HLast:Hid (∀W:World,_):=λW=>kY W b1 (some ⟨g',0,none⟩) b3 n1 d1 us2.length cap' n3 d3 (by omega)
        rw[show(us2.length:Int)-1=((us.length:Nat):Int) by omega] at HLast
        clear hl1
        go_wp2_with fail
        go_region_with (first
         |(go_at_call 52;refine Calls.mono (HLast.out _) ?_;rintro e w3 ⟨rfl,k3⟩;clear t0 t1 t2 x0 x1 x2;have q0:=(hS2.out.keep ((ie wc).trans k3)).g.c0;have q1:=(hS2.out.keep ((ie wc).trans k3)).g.c1;have q2:=(hS2.out.keep ((ie wc).trans k3)).g.c2;obtain⟨_,t0,t1,t2,x0,x1,x2⟩:=(hS2.out.keep ((ie wc).trans k3)).b))
        all_goals
         have R1:Hid _:=hS2.out.fin ((ie wc).trans k3)
         obtain⟨y0,y1,y2⟩:=iy w3 (w.heap.size+1) _ _ _ t0 t1 t2 (.slice b1 n1 d1) (.slice (some ⟨g',0,none⟩) us2.length cap') (.slice b3 n3 d3)
         go_wp2_with fail
         refine bodyPost_ret (v:=.tuple #[ip b1 n1 d1 (some ⟨g',0,none⟩) us2.length cap' b3 n3 d3,.int .i64 ((us.length:Nat):Int)]) (by simp[results,Tryz.results24,go_sem,y0,y1,y2]) rfl ⟨?_,R1.out.2⟩
         rw[hM.out]
         exact⟨b1,d1,b3,d3,some ⟨g',0,none⟩,cap',rfl,R1.out.1.1,R1.out.1.2.1,R1.out.1.2.2⟩
theorem ti (w:World)(_lo g1 g2 g3 n1 c1 n2 c2 n3 c3:Nat)(s x t:Nat)(ins:List Int)(vs:List Vl)(outs:List Int)(f:GN w g1 g2 g3 n2 ins vs outs)(e1:ins.length=n1)(e3:outs.length=n3)(hlt:∀v∈vs,v.k<18446744073709551616)(h:okG ins vs outs=true)(hs:s<n2)(hx:x<n2)(ht:t<n2)(h3:(vs.getD t Vl.zero).len=(vs.getD x Vl.zero).len)(hwh:∀k,whO (vs.getD k Vl.zero).op):
  Calls Tryz.prog 9 #[ip (some ⟨g1,0,none⟩) n1 c1 (some ⟨g2,0,none⟩) n2 c2 (some ⟨g3,0,none⟩) n3 c3,.int .i64 (s:Int),.int .i64 (x:Int),.int .i64 (t:Int)] w λe w'=>(jR (jf vs s x t).1=true->e=.returned (.tuple #[oF,.int .i64 0,.int .i64 5]))/\(jR (jf vs s x t).1=false->FL w' n1 n3 ins outs (jf vs s x t) e)/\Kept 0 0 w w':=by
 have hgs:=f.gs hlt
 rw[e1,e3] at hgs
 have e2:vs.length=n2:=f.v.len
 have hok:=h
 unfold okG at hok
 simp only[Bool.and_eq_true,decide_eq_true_eq,e1,e2,e3] at hok
 obtain⟨⟨l1,l2,l3⟩,_,hv,_,hc5⟩:=hok
 have hK:=(hU 0 0 w (iv (some ⟨g1,0,none⟩) n1 c1 (some ⟨g2,0,none⟩) n2 c2 (some ⟨g3,0,none⟩) n3 c3)).trans (hU 0 0 _ iw)
 have HX:Hid _:=kN _ (some ⟨g1,0,none⟩) (some ⟨g2,0,none⟩) (some ⟨g3,0,none⟩) n1 c1 n2 c2 n3 c3 ins vs outs (hgs.keep hK)
 rw[h] at HX
 have HK:Hid _:=hK
 have hN:=i9 (w.alloc (iv (some ⟨g1,0,none⟩) n1 c1 (some ⟨g2,0,none⟩) n2 c2 (some ⟨g3,0,none⟩) n3 c3))
 rw[show(w.alloc (iv (some ⟨g1,0,none⟩) n1 c1 (some ⟨g2,0,none⟩) n2 c2 (some ⟨g3,0,none⟩) n3 c3)).heap.size=w.heap.size+1 by simp] at hN
 have HN:Hid _:=hN
 have HB:Hid _:=(iO w (.slice (some ⟨g1,0,none⟩) n1 c1) (.slice (some ⟨g2,0,none⟩) n2 c2) (.slice (some ⟨g3,0,none⟩) n3 c3)).keep (hU 0 0 _ iw)
 have HF:Hid _:=GN.keepJ f hK
 have HL3:Hid _:=h3
 have HE:Hid (ins.length=n1/\outs.length=n3/\vs.length=n2):=⟨e1,e3,e2⟩
 have hlen:∀j,j<vs.length->1<=(vs.getD j Vl.zero).len/\(vs.getD j Vl.zero).len<=1000:=λj hj=>ja (List.all_eq_true.1 hv j (List.mem_range.2 (by omega)))
 have HJL:Hid _:=xk vs s x t hlen (by omega) (by omega)
 have HJK:Hid _:=yZ vs s x t hlt
 have HLJ:Hid (∀W,GN W g1 g2 g3 n2 ins vs outs->_):=λW (fw:GN W g1 g2 g3 n2 ins vs outs)=>DH W _lo g1 g2 g3 n1 c1 n2 c2 n3 c3 s x t ins vs outs fw e1 e3 (by omega) l2 (by omega) hv hc5 hs hx hwh
 have i0:(0:Int)<=(s:Int):=by omega
 have i1:(s:Int)<(n2:Int):=by omega
 have i2:(0:Int)<=(x:Int):=by omega
 have i3:(x:Int)<(n2:Int):=by omega
 have i4:(0:Int)<=(t:Int):=by omega
 have i5:(t:Int)<(n2:Int):=by omega
 clear hK h f hN h3 hv hc5 hgs hlt e2 e1 e3 hlen
 go_enter Tryz.func9,Tryz.ntmps9
 go_wp2_with fail
 generalize (w.alloc (iv (some ⟨g1,0,none⟩) n1 c1 (some ⟨g2,0,none⟩) n2 c2 (some ⟨g3,0,none⟩) n3 c3)).alloc iw=wB at HX HK HN HB HF ⊢
 refine Calls.mono HX.out ?_
 rintro e w2 ⟨rfl,k2⟩
 have HK2:Hid _:=k2
 obtain⟨_,p0,p1,p2⟩:=G0.keep HB.out k2
 have hVA:=(GN.keepJ HF.out k2).v
 have ct:=(hVA.at_ t ht).c1
 have cx:=(hVA.at_ x hx).c1
 rw[HL3.out] at ct
 generalize (vs.getD x Vl.zero).len=lx at cx ct
 have j4:(lx !=lx)=false:=by simp
 clear hVA k2 HX
 go_wp2_with fail
 go_quiet (fail)
 have HK5:Hid _:=Kept.trans HK2.out (iq 0 0 w2 nq)
 clear HK2 p0 p1 p2 ct cx j4
 generalize w2.drewN nq=w5 at HK5 ⊢
 obtain⟨_,p0,p1,p2⟩:=G0.keep HB.out HK5.out
 go_wp2_with fail
 clear p0 p1 p2
 refine Calls.mono (HLJ.out w5 (GN.keepJ HF.out HK5.out)) ?_
 rintro e w6 ⟨⟨b1,d1,b3,d3,a2,cap,rfl,o1,o2,o3⟩,k6⟩
 have ka:=hU 0 0 w6 (.cells #[.slice b1 n1 d1,.slice a2 (jf vs s x t).1.length cap,.slice b3 n3 d3] 26)
 have HG:Hid (GL w6 w5.heap.size b1 n1 a2 (jf vs s x t).1.length b3 n3 ins (jf vs s x t).1 outs):=GL.of o1 o2 o3 HE.out.1 HE.out.2.1 HJK.out
 have HKZ:Hid (w.heap.size+1<w5.heap.size):=by have h1:=HN.out.sz;have h2:=HK5.out.size;exact Nat.lt_of_lt_of_le h1 h2
 have HK6:Hid _:=Kept.trans HK5.out k6
 have HK65:Hid (w5.heap.size<=w6.heap.size):=k6.size
 clear o1 o2 o3 k6 HLJ HK5 HB HF
 generalize hM:jf vs s x t=M at HG HJL
 have HM:Hid (jf vs s x t=M):=hM
 clear hM HJK
 obtain⟨Ml,Mi⟩:=M
 simp only at HG HJL
 have HFT:Hid _:=yX _ b1 a2 b3 n1 d1 Ml.length cap n3 d3 ins Ml outs (HG.out.keep (hU 0 0 w6 (.cells #[.slice b1 n1 d1,.slice a2 Ml.length cap,.slice b3 n3 d3] 26)) (.inr (Nat.le_refl _))).gs HJL.out
 have HBX:Hid _:=iO w6 (.slice b1 n1 d1) (.slice a2 Ml.length cap) (.slice b3 n3 d3)
 have HK7:Hid _:=Kept.trans HK6.out (hU 0 0 w6 (.cells #[.slice b1 n1 d1,.slice a2 Ml.length cap,.slice b3 n3 d3] 26))
 have HG7:Hid _:=HG.out.keep (hU 0 0 w6 (.cells #[.slice b1 n1 d1,.slice a2 Ml.length cap,.slice b3 n3 d3] 26)) (.inr (Nat.le_refl _))
 clear HG HK6 ka
 simp only
 go_wp2_with fail
 generalize w6.alloc (.cells #[.slice b1 n1 d1,.slice a2 Ml.length cap,.slice b3 n3 d3] 26)=w7 at HFT HBX HK7 HG7 ⊢
 refine Calls.mono HFT.out ?_
 rintro e w8 ⟨rfl,k8⟩
 obtain⟨_,r0,r1,r2⟩:=G0.keep HBX.out k8
 have HK8:Hid _:=Kept.trans HK7.out k8
 have HG8:Hid _:=HG7.out.keep k8 (.inr (Nat.le_refl _))
 have hXQ:w6.heap.size≠w.heap.size+1:=by have:=HKZ.out;have:=HK65.out;omega
 obtain⟨_,q0,q1,q2,f0,f1,f2⟩:=RB.keep HN.out HK8.out
 clear k8 HFT HBX HK7 HG7
 cases hlim:jR Ml
 ·obtain⟨y0,y1,y2⟩:=iy w8 (w.heap.size+1) _ _ _ q0 q1 q2 (.slice b1 n1 d1) (.slice a2 Ml.length cap) (.slice b3 n3 d3)
  have kp:=iD w8 (w.heap.size+1) (.slice b1 n1 d1) (.slice a2 Ml.length cap) (.slice b3 n3 d3)
  have R0:Hid (Kept 0 0 w _):=Kept.new (Kept.trans HK.out HK8.out) kp (by omega)
  have R1:Hid (GS (((w8.setCell ⟨w.heap.size+1,0,none⟩ (.slice b1 n1 d1)).setCell ⟨w.heap.size+1,1,none⟩ (.slice a2 Ml.length cap)).setCell ⟨w.heap.size+1,2,none⟩ (.slice b3 n3 d3)) b1 n1 a2 Ml.length b3 n3 ins Ml outs):=(HG8.out.keep kp (.inl (by have:=HKZ.out;omega))).gs
  clear kp
  go_wp2_with fail
  refine bodyPost_ret (v:=.tuple #[ip b1 n1 d1 a2 Ml.length cap b3 n3 d3,.int .i64 Mi,.int .i64 0]) (by simp[results,Tryz.results9,go_sem,y0,y1,y2]) rfl ⟨λhf=>?_,λ_=>?_,R0.out⟩
  ·rw[HM.out,hlim] at hf
   cases hf
  ·rw[HM.out]
   exact⟨b1,d1,b3,d3,a2,cap,rfl,R1.out⟩
 ·obtain⟨y0,y1,y2⟩:=iy w8 (w.heap.size+1) _ _ _ q0 q1 q2 (.slice none 0 0) (.slice none 0 0) (.slice none 0 0)
  have R0:Hid (Kept 0 0 w _):=Kept.new (Kept.trans HK.out HK8.out) (iD w8 (w.heap.size+1) (.slice none 0 0) (.slice none 0 0) (.slice none 0 0)) (by omega)
  go_wp2_with fail
  refine bodyPost_ret (v:=.tuple #[oF,.int .i64 0,.int .i64 5]) (by simp[results,Tryz.results9,go_sem,y0,y1,y2]) rfl ⟨λ_=>rfl,λhf=>?_,R0.out⟩
  rw[HM.out,hlim] at hf
  cases hf
end
section
open Go.RowKit Flt
structure JR where
 ins:List Int
 vs:List Vl
 outs:List Int
 at':Int
 code:Int
def JR.bad (c:Int):JR:=⟨[],[],[],0,c⟩
def JS1 (w:World)(J:JR)(e:Ending)(w':World):Prop:=
 (∃a1 c1 a2 c2 a3 c3,e=.returned (.tuple #[ip a1 J.ins.length c1 a2 J.vs.length c2 a3 J.outs.length c3,.int .i64 J.at',.int .i64 J.code])/\GS w' a1 J.ins.length a2 J.vs.length a3 J.outs.length J.ins J.vs J.outs)/\Kept 0 0 w w'
def JS2 (w:World)(J:JR)(e:Ending)(w':World):Prop:=
 (∃a1 c1 a2 c2 a3 c3,e=.returned (.tuple #[ip a1 J.ins.length c1 a2 J.vs.length c2 a3 J.outs.length c3,.int .i64 J.at',.int .i64 J.code])/\(∀v∈J.vs,v.k<18446744073709551616)/\
  ∀H,w'.heap.size<=H->∃g1 g2 g3,OG w' g1 g2 g3 a1 J.ins.length a2 J.vs.length a3 J.outs.length J.ins J.vs J.outs/\(w.heap.size<=g1/\w.heap.size<=g2/\w.heap.size<=g3)/\((g1<w'.heap.size\/H<g1)/\(g2<w'.heap.size\/H<g2)/\(g3<w'.heap.size\/H<g3)))/\Kept 0 0 w w'
theorem v7 {w w':World}(c:Int)(k:Kept 0 0 w w'):JS1 w (.bad c) (.returned (.tuple #[oF,.int .i64 0,.int .i64 c])) w':=⟨⟨none,0,none,0,none,0,rfl,CC w'⟩,k⟩
end
end Go.Proofs.YtnlffngpnoodkaaGreat
