import Derived.Test.YtnlffngpnoodkaaGreatP21
namespace Go.Proofs.YtnlffngpnoodkaaGreat
set_option maxRecDepth 1000000
set_option maxHeartbeats 0
open Go.RowKit Flt
attribute [local go_sem] ic ib ia
variable {w:World} {b1 b3 a2:Option Addr} {m1 e1 m3 e3 base cap vk:Nat} {vs:List Vl} {o va vb vc N:Int} {R R':Option Nat} {K:Act->World->Prop} {a c d f h i j k l m n p q r s t u v x y z A B C D F G dO H I J L O P Q S T U V X Y Z aa ab ad ae af ag ah ai aj ak al am an ao ap aq ar au av aw ax ay az aA aB aC aD aE aF aG aH aI aJ aK aL aM aN aO aP dP aQ dQ aR dR aS aT aU aV aW aX aY aZ a0 a1 a3 a4 a5 a6 a7 a8 a9 ba bb bc bd be bf bg bh bi bj bk bl bm bn bo bp bq br bs bt bu bv bw bx bz bA bB bC bD bE bF bG bH bI bJ bK bL bM bN bO bP bQ bR bS bT bU bV bW bX bY bZ b0 b2 b4 b5 b6 b7 b8 b9 ca cb cc cd ce cf cg ch ci cj ck cl cm cn co cp cq cr cs ct cu cv cw cx cy cz cA cB cC cD cE cF cG cH cI cJ cK cL cM cN cO dG cP dH cQ dI cR dJ cS dK cT dL cU dM cV dN cW cX cY cZ c5 da db dc dd de df dg dh di dj dk dl dm dp dq dr ds dt du dv dw dx dy dA dB dC dD dE dF:Value}
theorem yd {W:World}{ln:Int}{ta:Int}{b E M N dn dz:Value}(HM:Hid (MS w W b1 m1 e1 b3 m3 e3 vs ⟨o,ln,va,vb,vc,vk⟩ base R R' a2 cap))(hbd:vs.length<=900000)
  (hk:∀(W':World) (g' cap':Nat) (u83 u84 u85 u86 u87 u88 u89 u90 u91:Value),Hid (MS w W' b1 m1 e1 b3 m3 e3 (vs++[(ik o ln ta vb 0)]) ⟨o,ln,va,vb,vc,vk⟩ base R (some g') (some ⟨g',0,none⟩) cap')->K ⟨#[a,b,.int .i64 ta,c,d,.pointer (some ⟨w.heap.size,0,none⟩),f,h,i,j,k,l,.pointer (some ⟨w.heap.size+1+1,0,none⟩),.int .i64 ln,m,n,p,q,r,s,t,u,x,y,z,A,B,C,D,E,F,G,H,I,J,L,M,N,O,P,Q,S,T,U,V,X,Y,Z,aa,ab,ad,ae,af,ag,ah,ai,aj,ak,al,am,an,ao,ap,aq,ar,au,av,aw,ax,ay,az,aA,aB,aC,aD,aE,aF,aG,aH,aI,aJ,aK,aL,u83,u84,u85,u86,u87,u88,u89,u90,u91,aM,aN,aO,aP,aQ,aR,aS,aT,aU,aV,aW,aX,aY,aZ,a0,a1,a3,a4,a5,a6,a7,a8,a9,ba,bb,bc,bd,be,bf,bg,bh,bi,bj,bk,bl,bm,bn,bo,bp,bq,br,bs,bt,bu,bv,bw,bx,bz,bA,bB,bC,bD,bE,bF,bG,bH,bI,bJ,bK,bL,bM,bN,bO,bP,bQ,bR,bS,bT,bU,bV,bW,bX,bY,bZ,b0,b2,b4,b5,b6,b7,b8,b9,ca,cb,cc,cd,ce,cf,cg,ch,ci,cj,ck,cl,cm,cn,co,cp,cq,cr,cs,ct,cu,cv,cw,cx,cy,cz,cA,cB,cC,cD,cE,cF,cG,cH,cI,cJ,cK,cL,cM,cN,cO,cP,cQ,cR,cS,cT,cU,cV,cW,cX,cY,cZ,c5,da,db,dc,dd,de,df,dg,dh,di,dj,dk,dl,dm,dn,dp,dq,dr,ds,dt,du,dv,dw,dx,dy,dz,dA,dB,dC,dD,dE,dF],[]⟩ W'):
  Code.wp Tryz.prog (qT 17) (Exit.then K λ_ _ _=>False) ⟨#[a,b,.int .i64 ta,c,d,.pointer (some ⟨w.heap.size,0,none⟩),f,h,i,j,k,l,.pointer (some ⟨w.heap.size+1+1,0,none⟩),.int .i64 ln,m,n,p,q,r,s,t,u,x,y,z,A,B,C,D,E,F,G,H,I,J,L,M,N,O,P,Q,S,T,U,V,X,Y,Z,aa,ab,ad,ae,af,ag,ah,ai,aj,ak,al,am,an,ao,ap,aq,ar,au,av,aw,ax,ay,az,aA,aB,aC,aD,aE,aF,aG,aH,aI,aJ,aK,aL,dG,dH,dI,dJ,dK,dL,dM,dN,dO,aM,aN,aO,aP,aQ,aR,aS,aT,aU,aV,aW,aX,aY,aZ,a0,a1,a3,a4,a5,a6,a7,a8,a9,ba,bb,bc,bd,be,bf,bg,bh,bi,bj,bk,bl,bm,bn,bo,bp,bq,br,bs,bt,bu,bv,bw,bx,bz,bA,bB,bC,bD,bE,bF,bG,bH,bI,bJ,bK,bL,bM,bN,bO,bP,bQ,bR,bS,bT,bU,bV,bW,bX,bY,bZ,b0,b2,b4,b5,b6,b7,b8,b9,ca,cb,cc,cd,ce,cf,cg,ch,ci,cj,ck,cl,cm,cn,co,cp,cq,cr,cs,ct,cu,cv,cw,cx,cy,cz,cA,cB,cC,cD,cE,cF,cG,cH,cI,cJ,cK,cL,cM,cN,cO,cP,cQ,cR,cS,cT,cU,cV,cW,cX,cY,cZ,c5,da,db,dc,dd,de,df,dg,dh,di,dj,dk,dl,dm,dn,dp,dq,dr,ds,dt,du,dv,dw,dx,dy,dz,dA,dB,dC,dD,dE,dF],[]⟩ W:=by
 have HK:Hid _:=hk
 clear hk
 have s0:=HM.out.g.c0
 have s1:=HM.out.g.c1
 have s2:=HM.out.g.c2
 have v0:=HM.out.v.c0
 have v3:=HM.out.v.c3
 conv=>arg 2;whnf
 go_region_with (first
  |(go_at_call 50;refine Calls.mono (MS.call HM.out ((ie W).trans k1) (ik o ln ta vb 0) (by omega)) ?_;rintro e w2 ⟨g',cap',rfl,⟨u0,r0⟩,⟨u1,r1⟩,⟨u2,r2⟩,rf,_,hM2⟩;have rf0:=rf 0;have rf1:=rf 1;have rf2:=rf 2;clear rf)
  |(go_at_call 55;refine Calls.mono (lz _ _ _ _ _ _) ?_;rintro e w1 ⟨rfl,k1⟩;have p0:=(MS.keep HM.out ((ie W).trans k1)).g.c0;have p1:=(MS.keep HM.out ((ie W).trans k1)).g.c1;have p2:=(MS.keep HM.out ((ie W).trans k1)).g.c2))
 all_goals exact HK.out _ _ _ _ _ _ _ _ _ _ _ _ hM2
theorem B6 {W:World}{ln:Int}{E M dn dz:Value}(HM:Hid (MS w W b1 m1 e1 b3 m3 e3 vs ⟨o,ln,va,vb,vc,vk⟩ base R R' a2 cap))(hbd:vs.length<=900000)(hN:(vs.length:Int)-1=N)
  (hk:∀(W':World) (u49 u50 u51:Value),W'.cell? ⟨w.heap.size+1,0,none⟩=some (.slice b1 m1 e1)->W'.cell? ⟨w.heap.size+1,1,none⟩=some (.slice a2 vs.length cap)->W'.cell? ⟨w.heap.size+1,2,none⟩=some (.slice b3 m3 e3)->Hid (∃w3,Kept 0 0 W w3/\W'=iM w3 (w.heap.size+1) (.slice b1 m1 e1) (.slice a2 vs.length cap) (.slice b3 m3 e3))->K ⟨#[a,c,d,f,h,.pointer (some ⟨w.heap.size,0,none⟩),i,j,k,l,.pointer (some ⟨w.heap.size+1,0,none⟩),.int .i64 N,m,n,p,q,r,s,t,u,v,x,y,z,A,B,C,D,E,F,G,H,I,J,L,M,O,P,Q,S,T,U,V,X,Y,Z,aa,ab,ad,u49,u50,u51,ae,af,ag,ah,ai,aj,ak,al,am,an,ao,ap,aq,ar,au,av,aw,ax,ay,az,aA,aB,aC,aD,aE,aF,aG,aH,aI,aJ,aK,aL,aM,aN,aO,aP,aQ,aR,aS,aT,aU,aV,aW,aX,aY,aZ,a0,a1,a3,a4,a5,a6,a7,a8,a9,ba,bb,bc,bd,be,bf,bg,bh,bi,bj,bk,bl,bm,bn,bo,bp,bq,br,bs,bt,bu,bv,bw,bx,bz,bA,bB,bC,bD,bE,bF,bG,bH,bI,bJ,bK,bL,bM,bN,bO,bP,bQ,bR,bS,bT,bU,bV,bW,bX,bY,bZ,b0,b2,b4,b5,b6,b7,b8,b9,ca,cb,cc,cd,ce,cf,cg,ch,ci,cj,ck,cl,cm,cn,co,cp,cq,cr,cs,ct,cu,cv,cw,cx,cy,cz,cA,cB,cC,cD,cE,cF,cG,cH,cI,cJ,cK,cL,cM,cN,cO,cP,cQ,cR,cS,cT,cU,cV,cW,cX,cY,cZ,c5,da,db,dc,dd,de,df,dg,dh,di,dj,dk,dl,dm,dn,dp,dq,dr,ds,dt,du,dv,dw,dx,dy,dz,dA,dB,dC,dD,dE,dF,dG,dH,dI,dJ,dK,dL,dM,dN],[]⟩ W'):
  Code.wp Tryz.prog (qT 6) (Exit.then K λ_ _ _=>False) ⟨#[a,c,d,f,h,.pointer (some ⟨w.heap.size,0,none⟩),i,j,k,l,.pointer (some ⟨w.heap.size+1,0,none⟩),dO,m,n,p,q,r,s,t,u,v,x,y,z,A,B,C,D,E,F,G,H,I,J,L,M,O,P,Q,S,T,U,V,X,Y,Z,aa,ab,ad,dP,dQ,dR,ae,af,ag,ah,ai,aj,ak,al,am,an,ao,ap,aq,ar,au,av,aw,ax,ay,az,aA,aB,aC,aD,aE,aF,aG,aH,aI,aJ,aK,aL,aM,aN,aO,aP,aQ,aR,aS,aT,aU,aV,aW,aX,aY,aZ,a0,a1,a3,a4,a5,a6,a7,a8,a9,ba,bb,bc,bd,be,bf,bg,bh,bi,bj,bk,bl,bm,bn,bo,bp,bq,br,bs,bt,bu,bv,bw,bx,bz,bA,bB,bC,bD,bE,bF,bG,bH,bI,bJ,bK,bL,bM,bN,bO,bP,bQ,bR,bS,bT,bU,bV,bW,bX,bY,bZ,b0,b2,b4,b5,b6,b7,b8,b9,ca,cb,cc,cd,ce,cf,cg,ch,ci,cj,ck,cl,cm,cn,co,cp,cq,cr,cs,ct,cu,cv,cw,cx,cy,cz,cA,cB,cC,cD,cE,cF,cG,cH,cI,cJ,cK,cL,cM,cN,cO,cP,cQ,cR,cS,cT,cU,cV,cW,cX,cY,cZ,c5,da,db,dc,dd,de,df,dg,dh,di,dj,dk,dl,dm,dn,dp,dq,dr,ds,dt,du,dv,dw,dx,dy,dz,dA,dB,dC,dD,dE,dF,dG,dH,dI,dJ,dK,dL,dM,dN],[]⟩ W:=by
 have HK:Hid _:=hk
 clear hk
 have s0:=HM.out.g.c0
 have s1:=HM.out.g.c1
 have s2:=HM.out.g.c2
 obtain⟨_,t0,t1,t2,x0,x1,x2⟩:=HM.out.b
 have HLast:Hid (∀W:World,_):=λW=>kY W b1 a2 b3 m1 e1 vs.length cap m3 e3 (by omega)
 rw[hN] at HLast
 clear hN
 conv=>arg 2;whnf
 go_region_with (first
  |(go_at_call 52;refine Calls.mono (HLast.out _) ?_;rintro e w3 ⟨rfl,k3⟩;clear t0 t1 t2 x0 x1 x2;obtain⟨⟨_,_,q0,q1,q2,_,_,_,_⟩,⟨_,t0,t1,t2,x0,x1,x2⟩,_,_,_,_,_⟩:=MS.keep HM.out ((ie W).trans k3)))
 all_goals
  obtain⟨y0,y1,y2⟩:=iy w3 (w.heap.size+1) _ _ _ t0 t1 t2 (.slice b1 m1 e1) (.slice a2 vs.length cap) (.slice b3 m3 e3)
  exact HK.out _ _ _ _ y0 y1 y2 ⟨w3,(ie W).trans k3,rfl⟩
theorem CQ {W:World}{ln:Int}{E M dn dz:Value}(HM:Hid (MS w W b1 m1 e1 b3 m3 e3 vs ⟨o,ln,va,vb,vc,vk⟩ base R R' a2 cap))(hbd:vs.length<=900000)(hN:(vs.length:Int)-1=N)
  (hk:∀(W':World) (u68 u69 u70:Value),W'.cell? ⟨w.heap.size+1,0,none⟩=some (.slice b1 m1 e1)->W'.cell? ⟨w.heap.size+1,1,none⟩=some (.slice a2 vs.length cap)->W'.cell? ⟨w.heap.size+1,2,none⟩=some (.slice b3 m3 e3)->Hid (∃w3,Kept 0 0 W w3/\W'=iM w3 (w.heap.size+1) (.slice b1 m1 e1) (.slice a2 vs.length cap) (.slice b3 m3 e3))->K ⟨#[a,c,d,f,h,.pointer (some ⟨w.heap.size,0,none⟩),i,j,k,l,.pointer (some ⟨w.heap.size+1,0,none⟩),.int .i64 N,m,n,p,q,r,s,t,u,v,x,y,z,A,B,C,D,E,F,G,H,I,J,L,M,O,P,Q,S,T,U,V,X,Y,Z,aa,ab,ad,ae,af,ag,ah,ai,aj,ak,al,am,an,ao,ap,aq,ar,au,av,aw,ax,ay,u68,u69,u70,az,aA,aB,aC,aD,aE,aF,aG,aH,aI,aJ,aK,aL,aM,aN,aO,aP,aQ,aR,aS,aT,aU,aV,aW,aX,aY,aZ,a0,a1,a3,a4,a5,a6,a7,a8,a9,ba,bb,bc,bd,be,bf,bg,bh,bi,bj,bk,bl,bm,bn,bo,bp,bq,br,bs,bt,bu,bv,bw,bx,bz,bA,bB,bC,bD,bE,bF,bG,bH,bI,bJ,bK,bL,bM,bN,bO,bP,bQ,bR,bS,bT,bU,bV,bW,bX,bY,bZ,b0,b2,b4,b5,b6,b7,b8,b9,ca,cb,cc,cd,ce,cf,cg,ch,ci,cj,ck,cl,cm,cn,co,cp,cq,cr,cs,ct,cu,cv,cw,cx,cy,cz,cA,cB,cC,cD,cE,cF,cG,cH,cI,cJ,cK,cL,cM,cN,cO,cP,cQ,cR,cS,cT,cU,cV,cW,cX,cY,cZ,c5,da,db,dc,dd,de,df,dg,dh,di,dj,dk,dl,dm,dn,dp,dq,dr,ds,dt,du,dv,dw,dx,dy,dz,dA,dB,dC,dD,dE,dF,dG,dH,dI,dJ,dK,dL,dM,dN],[]⟩ W'):
  Code.wp Tryz.prog (qT 11) (Exit.then K λ_ _ _=>False) ⟨#[a,c,d,f,h,.pointer (some ⟨w.heap.size,0,none⟩),i,j,k,l,.pointer (some ⟨w.heap.size+1,0,none⟩),dO,m,n,p,q,r,s,t,u,v,x,y,z,A,B,C,D,E,F,G,H,I,J,L,M,O,P,Q,S,T,U,V,X,Y,Z,aa,ab,ad,ae,af,ag,ah,ai,aj,ak,al,am,an,ao,ap,aq,ar,au,av,aw,ax,ay,dP,dQ,dR,az,aA,aB,aC,aD,aE,aF,aG,aH,aI,aJ,aK,aL,aM,aN,aO,aP,aQ,aR,aS,aT,aU,aV,aW,aX,aY,aZ,a0,a1,a3,a4,a5,a6,a7,a8,a9,ba,bb,bc,bd,be,bf,bg,bh,bi,bj,bk,bl,bm,bn,bo,bp,bq,br,bs,bt,bu,bv,bw,bx,bz,bA,bB,bC,bD,bE,bF,bG,bH,bI,bJ,bK,bL,bM,bN,bO,bP,bQ,bR,bS,bT,bU,bV,bW,bX,bY,bZ,b0,b2,b4,b5,b6,b7,b8,b9,ca,cb,cc,cd,ce,cf,cg,ch,ci,cj,ck,cl,cm,cn,co,cp,cq,cr,cs,ct,cu,cv,cw,cx,cy,cz,cA,cB,cC,cD,cE,cF,cG,cH,cI,cJ,cK,cL,cM,cN,cO,cP,cQ,cR,cS,cT,cU,cV,cW,cX,cY,cZ,c5,da,db,dc,dd,de,df,dg,dh,di,dj,dk,dl,dm,dn,dp,dq,dr,ds,dt,du,dv,dw,dx,dy,dz,dA,dB,dC,dD,dE,dF,dG,dH,dI,dJ,dK,dL,dM,dN],[]⟩ W:=by
 have HK:Hid _:=hk
 clear hk
 have s0:=HM.out.g.c0
 have s1:=HM.out.g.c1
 have s2:=HM.out.g.c2
 obtain⟨_,t0,t1,t2,x0,x1,x2⟩:=HM.out.b
 have HLast:Hid (∀W:World,_):=λW=>kY W b1 a2 b3 m1 e1 vs.length cap m3 e3 (by omega)
 rw[hN] at HLast
 clear hN
 conv=>arg 2;whnf
 go_region_with (first
  |(go_at_call 52;refine Calls.mono (HLast.out _) ?_;rintro e w3 ⟨rfl,k3⟩;clear t0 t1 t2 x0 x1 x2;obtain⟨⟨_,_,q0,q1,q2,_,_,_,_⟩,⟨_,t0,t1,t2,x0,x1,x2⟩,_,_,_,_,_⟩:=MS.keep HM.out ((ie W).trans k3)))
 all_goals
  obtain⟨y0,y1,y2⟩:=iy w3 (w.heap.size+1) _ _ _ t0 t1 t2 (.slice b1 m1 e1) (.slice a2 vs.length cap) (.slice b3 m3 e3)
  exact HK.out _ _ _ _ y0 y1 y2 ⟨w3,(ie W).trans k3,rfl⟩
theorem CR {W:World}{ln:Int}{E M dn dz:Value}(HM:Hid (MS w W b1 m1 e1 b3 m3 e3 vs ⟨o,ln,va,vb,vc,vk⟩ base R R' a2 cap))(hbd:vs.length<=900000)(hN:(vs.length:Int)-1=N)
  (hk:∀(W':World) (u149 u150 u151:Value),W'.cell? ⟨w.heap.size+1,0,none⟩=some (.slice b1 m1 e1)->W'.cell? ⟨w.heap.size+1,1,none⟩=some (.slice a2 vs.length cap)->W'.cell? ⟨w.heap.size+1,2,none⟩=some (.slice b3 m3 e3)->Hid (∃w3,Kept 0 0 W w3/\W'=iM w3 (w.heap.size+1) (.slice b1 m1 e1) (.slice a2 vs.length cap) (.slice b3 m3 e3))->K ⟨#[a,c,d,f,h,.pointer (some ⟨w.heap.size,0,none⟩),i,j,k,l,.pointer (some ⟨w.heap.size+1,0,none⟩),.int .i64 N,m,n,p,q,r,s,t,u,v,x,y,z,A,B,C,D,E,F,G,H,I,J,L,M,O,P,Q,S,T,U,V,X,Y,Z,aa,ab,ad,ae,af,ag,ah,ai,aj,ak,al,am,an,ao,ap,aq,ar,au,av,aw,ax,ay,az,aA,aB,aC,aD,aE,aF,aG,aH,aI,aJ,aK,aL,aM,aN,aO,aP,aQ,aR,aS,aT,aU,aV,aW,aX,aY,aZ,a0,a1,a3,a4,a5,a6,a7,a8,a9,ba,bb,bc,bd,be,bf,bg,bh,bi,bj,bk,bl,bm,bn,bo,bp,bq,br,bs,bt,bu,bv,bw,bx,bz,bA,bB,bC,bD,bE,bF,bG,bH,bI,bJ,bK,bL,bM,bN,bO,bP,bQ,bR,bS,bT,u149,u150,u151,bU,bV,bW,bX,bY,bZ,b0,b2,b4,b5,b6,b7,b8,b9,ca,cb,cc,cd,ce,cf,cg,ch,ci,cj,ck,cl,cm,cn,co,cp,cq,cr,cs,ct,cu,cv,cw,cx,cy,cz,cA,cB,cC,cD,cE,cF,cG,cH,cI,cJ,cK,cL,cM,cN,cO,cP,cQ,cR,cS,cT,cU,cV,cW,cX,cY,cZ,c5,da,db,dc,dd,de,df,dg,dh,di,dj,dk,dl,dm,dn,dp,dq,dr,ds,dt,du,dv,dw,dx,dy,dz,dA,dB,dC,dD,dE,dF,dG,dH,dI,dJ,dK,dL,dM,dN],[]⟩ W'):
  Code.wp Tryz.prog (qT 31) (Exit.then K λ_ _ _=>False) ⟨#[a,c,d,f,h,.pointer (some ⟨w.heap.size,0,none⟩),i,j,k,l,.pointer (some ⟨w.heap.size+1,0,none⟩),dO,m,n,p,q,r,s,t,u,v,x,y,z,A,B,C,D,E,F,G,H,I,J,L,M,O,P,Q,S,T,U,V,X,Y,Z,aa,ab,ad,ae,af,ag,ah,ai,aj,ak,al,am,an,ao,ap,aq,ar,au,av,aw,ax,ay,az,aA,aB,aC,aD,aE,aF,aG,aH,aI,aJ,aK,aL,aM,aN,aO,aP,aQ,aR,aS,aT,aU,aV,aW,aX,aY,aZ,a0,a1,a3,a4,a5,a6,a7,a8,a9,ba,bb,bc,bd,be,bf,bg,bh,bi,bj,bk,bl,bm,bn,bo,bp,bq,br,bs,bt,bu,bv,bw,bx,bz,bA,bB,bC,bD,bE,bF,bG,bH,bI,bJ,bK,bL,bM,bN,bO,bP,bQ,bR,bS,bT,dP,dQ,dR,bU,bV,bW,bX,bY,bZ,b0,b2,b4,b5,b6,b7,b8,b9,ca,cb,cc,cd,ce,cf,cg,ch,ci,cj,ck,cl,cm,cn,co,cp,cq,cr,cs,ct,cu,cv,cw,cx,cy,cz,cA,cB,cC,cD,cE,cF,cG,cH,cI,cJ,cK,cL,cM,cN,cO,cP,cQ,cR,cS,cT,cU,cV,cW,cX,cY,cZ,c5,da,db,dc,dd,de,df,dg,dh,di,dj,dk,dl,dm,dn,dp,dq,dr,ds,dt,du,dv,dw,dx,dy,dz,dA,dB,dC,dD,dE,dF,dG,dH,dI,dJ,dK,dL,dM,dN],[]⟩ W:=by
 have HK:Hid _:=hk
 clear hk
 have s0:=HM.out.g.c0
 have s1:=HM.out.g.c1
 have s2:=HM.out.g.c2
 obtain⟨_,t0,t1,t2,x0,x1,x2⟩:=HM.out.b
 have HLast:Hid (∀W:World,_):=λW=>kY W b1 a2 b3 m1 e1 vs.length cap m3 e3 (by omega)
 rw[hN] at HLast
 clear hN
 conv=>arg 2;whnf
 go_region_with (first
  |(go_at_call 52;refine Calls.mono (HLast.out _) ?_;rintro e w3 ⟨rfl,k3⟩;clear t0 t1 t2 x0 x1 x2;obtain⟨⟨_,_,q0,q1,q2,_,_,_,_⟩,⟨_,t0,t1,t2,x0,x1,x2⟩,_,_,_,_,_⟩:=MS.keep HM.out ((ie W).trans k3)))
 all_goals
  obtain⟨y0,y1,y2⟩:=iy w3 (w.heap.size+1) _ _ _ t0 t1 t2 (.slice b1 m1 e1) (.slice a2 vs.length cap) (.slice b3 m3 e3)
  exact HK.out _ _ _ _ y0 y1 y2 ⟨w3,(ie W).trans k3,rfl⟩
end Go.Proofs.YtnlffngpnoodkaaGreat
