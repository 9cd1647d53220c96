import Derived.Test.YtnlffngpnoodkaaGreatP27
namespace Go.Proofs.YtnlffngpnoodkaaGreat
set_option maxRecDepth 1000000
set_option maxHeartbeats 0
section
open Go.RowKit Flt
attribute [local go_sem] ic ib ia
variable {w:World} {b1 b3 a2:Option Addr} {m1 e1 m3 e3 base cap vk:Nat} {vs:List Vl} {o va vb vc d:Int} {R R':Option Nat} {K:Act->World->Prop} {a b c f h i j k l m n p q r s t u v x y z A B C D F G H I J L N O P Q S T U V X Y Z aa ab ad ae af ag ah ai aj ak al am an ao ap aq ar au av aw ax ay az aA aB aC cM aD cN aE aF aG aH aI aJ aK aL aM aN aO aP aQ aR aS aT aU aV aW aX aY aZ a0 a1 a3 a4 a5 a6 a7 a8 a9 ba bb bc bd be bf bg bh bi bj bk bl bm bn bo bp bq br bs bt bu bv bw bx bz bA bB bC bD bE bF bG cL bH bI bJ bK bL bM bN bO bP bQ cJ bR cK bS bT bU bV bW bX bY bZ b0 b2 b4 b5 b6 b7 b8 b9 ca cb cc cd ce cf cg ch ci cj ck cl cm cn co cp cq cr cs ct cO cu cv cw cx cy cz cA cB cC cD cE cF cG cH cI:Value}
theorem B7 {W:World}{ln:Int}{E M:Value}(HM:Hid (MS w W b1 m1 e1 b3 m3 e3 vs ⟨o,ln,va,vb,vc,vk⟩ base R R' a2 cap))(hbd:vs.length<=900000)
  (hk:∀(W':World) (g' cap':Nat) (u45 u46 u47 u48 u49:Value),Hid (MS w W' b1 m1 e1 b3 m3 e3 (vs++[(ik 6 ln d 0 0)]) ⟨o,ln,va,vb,vc,vk⟩ base R (some g') (some ⟨g',0,none⟩) cap')->K ⟨#[a,b,c,.int .i64 d,.pointer (some ⟨w.heap.size,0,none⟩),f,h,i,j,k,l,.pointer (some ⟨w.heap.size+1+1,0,none⟩),.int .i64 ln,m,n,p,q,r,s,t,u,v,x,y,z,A,B,C,D,E,F,G,H,I,J,L,M,N,O,P,Q,S,T,U,V,u45,u46,u47,u48,u49,X,Y,Z,aa,ab,ad,ae,af,ag,ah,ai,aj,ak,al,am,an,ao,ap,aq,ar,au,av,aw,ax,ay,az,aA,aB,aC,aD,aE,aF,aG,aH,aI,aJ,aK,aL,aM,aN,aO,aP,aQ,aR,aS,aT,aU,aV,aW,aX,aY,aZ,a0,a1,a3,a4,a5,a6,a7,a8,a9,ba,bb,bc,bd,be,bf,bg,bh,bi,bj,bk,bl,bm,bn,bo,bp,bq,br,bs,bt,bu,bv,bw,bx,bz,bA,bB,bC,bD,bE,bF,bG,bH,bI,bJ,bK,bL,bM,bN,bO,bP,bQ,bR,bS,bT,bU,bV,bW,bX,bY,bZ,b0,b2,b4,b5,b6,b7,b8,b9,ca,cb,cc,cd,ce,cf,cg,ch,ci,cj,ck,cl,cm,cn,co,cp,cq,cr,cs,ct,cu,cv,cw,cx,cy,cz,cA,cB,cC,cD,cE,cF,cG,cH,cI],[]⟩ W'):
  Code.wp Tryz.prog (uX 6) (Exit.then K λ_ _ _=>False) ⟨#[a,b,c,.int .i64 d,.pointer (some ⟨w.heap.size,0,none⟩),f,h,i,j,k,l,.pointer (some ⟨w.heap.size+1+1,0,none⟩),.int .i64 ln,m,n,p,q,r,s,t,u,v,x,y,z,A,B,C,D,E,F,G,H,I,J,L,M,N,O,P,Q,S,T,U,V,cJ,cK,cL,cM,cN,X,Y,Z,aa,ab,ad,ae,af,ag,ah,ai,aj,ak,al,am,an,ao,ap,aq,ar,au,av,aw,ax,ay,az,aA,aB,aC,aD,aE,aF,aG,aH,aI,aJ,aK,aL,aM,aN,aO,aP,aQ,aR,aS,aT,aU,aV,aW,aX,aY,aZ,a0,a1,a3,a4,a5,a6,a7,a8,a9,ba,bb,bc,bd,be,bf,bg,bh,bi,bj,bk,bl,bm,bn,bo,bp,bq,br,bs,bt,bu,bv,bw,bx,bz,bA,bB,bC,bD,bE,bF,bG,bH,bI,bJ,bK,bL,bM,bN,bO,bP,bQ,bR,bS,bT,bU,bV,bW,bX,bY,bZ,b0,b2,b4,b5,b6,b7,b8,b9,ca,cb,cc,cd,ce,cf,cg,ch,ci,cj,ck,cl,cm,cn,co,cp,cq,cr,cs,ct,cu,cv,cw,cx,cy,cz,cA,cB,cC,cD,cE,cF,cG,cH,cI],[]⟩ W:=by
 have HK:Hid _:=hk
 clear hk
 have s0:=HM.out.g.c0
 have s1:=HM.out.g.c1
 have s2:=HM.out.g.c2
 conv=>arg 2;whnf
 go_region_with (first
  |(go_at_call 50;refine Calls.mono (MS.call HM.out ((ie W).trans k1) (ik 6 ln d 0 0) (by omega)) ?_;rintro e w2 ⟨g',cap',rfl,⟨u0,r0⟩,⟨u1,r1⟩,⟨u2,r2⟩,rf,_,hM2⟩;have rf0:=rf 0;have rf1:=rf 1;have rf2:=rf 2;clear rf)
  |(go_at_call 55;refine Calls.mono (lz _ _ _ _ _ _) ?_;rintro e w1 ⟨rfl,k1⟩;have p0:=(MS.keep HM.out ((ie W).trans k1)).g.c0;have p1:=(MS.keep HM.out ((ie W).trans k1)).g.c1;have p2:=(MS.keep HM.out ((ie W).trans k1)).g.c2))
 all_goals exact HK.out _ _ _ _ _ _ _ _ hM2
theorem C8 {W:World}{ln:Int}{E M:Value}(HM:Hid (MS w W b1 m1 e1 b3 m3 e3 vs ⟨o,ln,va,vb,vc,vk⟩ base R R' a2 cap))(hbd:vs.length<=900000)
  (hk:∀(W':World) (g' cap':Nat) (u167 u168 u169 u170:Value),Hid (MS w W' b1 m1 e1 b3 m3 e3 (vs++[(ik 9 1 d 0 0)]) ⟨o,ln,va,vb,vc,vk⟩ base R (some g') (some ⟨g',0,none⟩) cap')->K ⟨#[a,b,c,.int .i64 d,.pointer (some ⟨w.heap.size,0,none⟩),f,h,i,j,k,l,.pointer (some ⟨w.heap.size+1+1,0,none⟩),m,n,p,q,r,s,t,u,v,x,y,z,A,B,C,D,E,F,G,H,I,J,L,M,N,O,P,Q,S,T,U,V,X,Y,Z,aa,ab,ad,ae,af,ag,ah,ai,aj,ak,al,am,an,ao,ap,aq,ar,au,av,aw,ax,ay,az,aA,aB,aC,aD,aE,aF,aG,aH,aI,aJ,aK,aL,aM,aN,aO,aP,aQ,aR,aS,aT,aU,aV,aW,aX,aY,aZ,a0,a1,a3,a4,a5,a6,a7,a8,a9,ba,bb,bc,bd,be,bf,bg,bh,bi,bj,bk,bl,bm,bn,bo,bp,bq,br,bs,bt,bu,bv,bw,bx,bz,bA,bB,bC,bD,bE,bF,bG,bH,bI,bJ,bK,bL,bM,bN,bO,bP,bQ,bR,bS,bT,bU,bV,bW,bX,bY,bZ,b0,b2,b4,b5,b6,b7,b8,b9,ca,cb,cc,u167,u168,u169,u170,cd,ce,cf,cg,ch,ci,cj,ck,cl,cm,cn,co,cp,cq,cr,cs,ct,cu,cv,cw,cx,cy,cz,cA,cB,cC,cD,cE,cF,cG,cH,cI,cJ,cK],[]⟩ W'):
  Code.wp Tryz.prog (uX 32) (Exit.then K λ_ _ _=>False) ⟨#[a,b,c,.int .i64 d,.pointer (some ⟨w.heap.size,0,none⟩),f,h,i,j,k,l,.pointer (some ⟨w.heap.size+1+1,0,none⟩),m,n,p,q,r,s,t,u,v,x,y,z,A,B,C,D,E,F,G,H,I,J,L,M,N,O,P,Q,S,T,U,V,X,Y,Z,aa,ab,ad,ae,af,ag,ah,ai,aj,ak,al,am,an,ao,ap,aq,ar,au,av,aw,ax,ay,az,aA,aB,aC,aD,aE,aF,aG,aH,aI,aJ,aK,aL,aM,aN,aO,aP,aQ,aR,aS,aT,aU,aV,aW,aX,aY,aZ,a0,a1,a3,a4,a5,a6,a7,a8,a9,ba,bb,bc,bd,be,bf,bg,bh,bi,bj,bk,bl,bm,bn,bo,bp,bq,br,bs,bt,bu,bv,bw,bx,bz,bA,bB,bC,bD,bE,bF,bG,bH,bI,bJ,bK,bL,bM,bN,bO,bP,bQ,bR,bS,bT,bU,bV,bW,bX,bY,bZ,b0,b2,b4,b5,b6,b7,b8,b9,ca,cb,cc,cL,cM,cN,cO,cd,ce,cf,cg,ch,ci,cj,ck,cl,cm,cn,co,cp,cq,cr,cs,ct,cu,cv,cw,cx,cy,cz,cA,cB,cC,cD,cE,cF,cG,cH,cI,cJ,cK],[]⟩ W:=by
 have HK:Hid _:=hk
 clear hk
 have s0:=HM.out.g.c0
 have s1:=HM.out.g.c1
 have s2:=HM.out.g.c2
 conv=>arg 2;whnf
 go_region_with (first
  |(go_at_call 50;refine Calls.mono (MS.call HM.out ((ie W).trans k1) (ik 9 1 d 0 0) (by omega)) ?_;rintro e w2 ⟨g',cap',rfl,⟨u0,r0⟩,⟨u1,r1⟩,⟨u2,r2⟩,rf,_,hM2⟩;have rf0:=rf 0;have rf1:=rf 1;have rf2:=rf 2;clear rf)
  |(go_at_call 55;refine Calls.mono (lz _ _ _ _ _ _) ?_;rintro e w1 ⟨rfl,k1⟩;have p0:=(MS.keep HM.out ((ie W).trans k1)).g.c0;have p1:=(MS.keep HM.out ((ie W).trans k1)).g.c1;have p2:=(MS.keep HM.out ((ie W).trans k1)).g.c2))
 all_goals exact HK.out _ _ _ _ _ _ _ hM2
theorem od {W:World}{ln:Int}{N:Int}{d E M cP cQ:Value}(HM:Hid (MS w W b1 m1 e1 b3 m3 e3 vs ⟨o,ln,va,vb,vc,vk⟩ base R R' a2 cap))(hbd:vs.length<=900000)(hN:(vs.length:Int)-1=N)
  (hk:∀(W':World) (u202 u203 u204:Value),W'.cell? ⟨w.heap.size+1,0,none⟩=some (.slice b1 m1 e1)->W'.cell? ⟨w.heap.size+1,1,none⟩=some (.slice a2 vs.length cap)->W'.cell? ⟨w.heap.size+1,2,none⟩=some (.slice b3 m3 e3)->Hid (∃w3,Kept 0 0 W w3/\W'=iM w3 (w.heap.size+1) (.slice b1 m1 e1) (.slice a2 vs.length cap) (.slice b3 m3 e3))->K ⟨#[a,c,d,f,.pointer (some ⟨w.heap.size,0,none⟩),h,i,j,.pointer (some ⟨w.heap.size+1,0,none⟩),.int .i64 N,.bool true,k,l,m,n,p,q,r,s,t,u,v,x,y,z,A,B,C,D,E,F,G,H,I,J,L,M,O,P,Q,S,T,U,V,X,Y,Z,aa,ab,ad,ae,af,ag,ah,ai,aj,ak,al,am,an,ao,ap,aq,ar,au,av,aw,ax,ay,az,aA,aB,aC,aD,aE,aF,aG,aH,aI,aJ,aK,aL,aM,aN,aO,aP,aQ,aR,aS,aT,aU,aV,aW,aX,aY,aZ,a0,a1,a3,a4,a5,a6,a7,a8,a9,ba,bb,bc,bd,be,bf,bg,bh,bi,bj,bk,bl,bm,bn,bo,bp,bq,br,bs,bt,bu,bv,bw,bx,bz,bA,bB,bC,bD,bE,bF,bG,bH,bI,bJ,bK,bL,bM,bN,bO,bP,bQ,bR,bS,bT,bU,bV,bW,bX,bY,bZ,b0,b2,b4,b5,b6,b7,b8,b9,ca,cb,cc,cd,ce,cf,cg,ch,ci,cj,ck,cl,cm,cn,co,cp,cq,cr,cs,ct,cu,cv,cw,cx,cy,cz,cA,cB,cC,cD,cE,cF,cG,cH,cI,cJ,cK,cL,u202,u203,u204],[]⟩ W'):
  Code.wp Tryz.prog (uX 38) (Exit.then K λ_ _ _=>False) ⟨#[a,c,d,f,.pointer (some ⟨w.heap.size,0,none⟩),h,i,j,.pointer (some ⟨w.heap.size+1,0,none⟩),cM,cN,k,l,m,n,p,q,r,s,t,u,v,x,y,z,A,B,C,D,E,F,G,H,I,J,L,M,O,P,Q,S,T,U,V,X,Y,Z,aa,ab,ad,ae,af,ag,ah,ai,aj,ak,al,am,an,ao,ap,aq,ar,au,av,aw,ax,ay,az,aA,aB,aC,aD,aE,aF,aG,aH,aI,aJ,aK,aL,aM,aN,aO,aP,aQ,aR,aS,aT,aU,aV,aW,aX,aY,aZ,a0,a1,a3,a4,a5,a6,a7,a8,a9,ba,bb,bc,bd,be,bf,bg,bh,bi,bj,bk,bl,bm,bn,bo,bp,bq,br,bs,bt,bu,bv,bw,bx,bz,bA,bB,bC,bD,bE,bF,bG,bH,bI,bJ,bK,bL,bM,bN,bO,bP,bQ,bR,bS,bT,bU,bV,bW,bX,bY,bZ,b0,b2,b4,b5,b6,b7,b8,b9,ca,cb,cc,cd,ce,cf,cg,ch,ci,cj,ck,cl,cm,cn,co,cp,cq,cr,cs,ct,cu,cv,cw,cx,cy,cz,cA,cB,cC,cD,cE,cF,cG,cH,cI,cJ,cK,cL,cO,cP,cQ],[]⟩ W:=by
 have HK:Hid _:=hk
 clear hk
 have s0:=HM.out.g.c0
 have s1:=HM.out.g.c1
 have s2:=HM.out.g.c2
 obtain⟨_,t0,t1,t2,x0,x1,x2⟩:=HM.out.b
 have HLast:Hid (∀W:World,_):=λW=>kY W b1 a2 b3 m1 e1 vs.length cap m3 e3 (by omega)
 rw[hN] at HLast
 clear hN
 conv=>arg 2;whnf
 go_region_with (first
  |(go_at_call 52;refine Calls.mono (HLast.out _) ?_;rintro e w3 ⟨rfl,k3⟩;clear t0 t1 t2 x0 x1 x2;obtain⟨⟨_,_,q0,q1,q2,_,_,_,_⟩,⟨_,t0,t1,t2,x0,x1,x2⟩,_,_,_,_,_⟩:=MS.keep HM.out ((ie W).trans k3)))
 all_goals
  obtain⟨y0,y1,y2⟩:=iy w3 (w.heap.size+1) _ _ _ t0 t1 t2 (.slice b1 m1 e1) (.slice a2 vs.length cap) (.slice b3 m3 e3)
  exact HK.out _ _ _ _ y0 y1 y2 ⟨w3,(ie W).trans k3,rfl⟩
theorem C9 (w:World)(b1 b3:Option Addr)(m1 e1 cap m3 e3 base g2 i:Nat)(vs:List Vl)(ln va vb vc:Int)(vk:Nat)(d:Int)(kk:Nat)(h:w.ownsRow base 31 6 (.slice (some ⟨g2,0,none⟩) vs.length cap) vs.length (iN vs))(hb:base<=w.heap.size)(hn:vs.length<=800000)(hi:i<vs.length)(hv:At w g2 (i*6) ⟨2,ln,va,vb,vc,vk⟩):
  Calls Tryz.prog 54 #[ip b1 m1 e1 (some ⟨g2,0,none⟩) vs.length cap b3 m3 e3,.int .i64 (i:Int),.int .i64 (kk:Int),.int .i64 d] w λe w'=>PtP w b1 m1 e1 b3 m3 e3 vs base (some g2) ([],d) true e w':=by
 obtain⟨v0,v1,v2,v3,v4,v5⟩:=hv
 have j0:(0:Int)<=(i:Int):=by omega
 have j1:(i:Int)<(vs.length:Int):=by omega
 have hM:MS w _ b1 m1 e1 b3 m3 e3 vs ⟨2,ln,va,vb,vc,vk⟩ base (some g2) (some g2) (some ⟨g2,0,none⟩) cap:=MS.start ⟨2,ln,va,vb,vc,vk⟩ h hb
 have HM:Hid _:=hM
 have hbd:vs.length<=900000:=by omega
 have hg2:g2<w.heap.size:=(ii h (k:=g2) rfl).2
 have HO:Hid _:=h
 clear h hM
 go_enter Tryz.func54,Tryz.ntmps54
 go_wp2_with fail
 refine bodyPost_ret (v:=.tuple #[ip b1 m1 e1 (some ⟨g2,0,none⟩) vs.length cap b3 m3 e3,.int .i64 d,.bool true]) (by simp[results,Tryz.results54,go_sem]) rfl (vQ HO.out (((hU 0 0 w _).trans (hU 0 0 _ _)).trans (hU 0 0 _ _)) _ _)
theorem AM (w:World)(b1 b3:Option Addr)(m1 e1 cap m3 e3 base g2 i:Nat)(vs:List Vl)(ln va vb vc:Int)(vk:Nat)(d:Int)(h:w.ownsRow base 31 6 (.slice (some ⟨g2,0,none⟩) vs.length cap) vs.length (iN vs))(hb:base<=w.heap.size)(hn:vs.length<=800000)(hi:i<vs.length)(hv:At w g2 (i*6) ⟨3,ln,va,vb,vc,vk⟩):
  Calls Tryz.prog 54 #[ip b1 m1 e1 (some ⟨g2,0,none⟩) vs.length cap b3 m3 e3,.int .i64 (i:Int),.int .i64 0,.int .i64 d] w λe w'=>PtP w b1 m1 e1 b3 m3 e3 vs base (some g2) ([],d) true e w':=by
 obtain⟨v0,v1,v2,v3,v4,v5⟩:=hv
 have j0:(0:Int)<=(i:Int):=by omega
 have j1:(i:Int)<(vs.length:Int):=by omega
 have hM:MS w _ b1 m1 e1 b3 m3 e3 vs ⟨3,ln,va,vb,vc,vk⟩ base (some g2) (some g2) (some ⟨g2,0,none⟩) cap:=MS.start ⟨3,ln,va,vb,vc,vk⟩ h hb
 have HM:Hid _:=hM
 have hbd:vs.length<=900000:=by omega
 have hg2:g2<w.heap.size:=(ii h (k:=g2) rfl).2
 have HO:Hid _:=h
 clear h hM
 go_enter Tryz.func54,Tryz.ntmps54
 go_wp2_with fail
 refine bodyPost_ret (v:=.tuple #[ip b1 m1 e1 (some ⟨g2,0,none⟩) vs.length cap b3 m3 e3,.int .i64 d,.bool true]) (by simp[results,Tryz.results54,go_sem]) rfl (vQ HO.out (((hU 0 0 w _).trans (hU 0 0 _ _)).trans (hU 0 0 _ _)) _ _)
theorem AN (w:World)(b1 b3:Option Addr)(m1 e1 cap m3 e3 base g2 i:Nat)(vs:List Vl)(ln va vb vc:Int)(vk:Nat)(d:Int)(h:w.ownsRow base 31 6 (.slice (some ⟨g2,0,none⟩) vs.length cap) vs.length (iN vs))(hb:base<=w.heap.size)(hn:vs.length<=800000)(hi:i<vs.length)(hv:At w g2 (i*6) ⟨3,ln,va,vb,vc,vk⟩):
  Calls Tryz.prog 54 #[ip b1 m1 e1 (some ⟨g2,0,none⟩) vs.length cap b3 m3 e3,.int .i64 (i:Int),.int .i64 1,.int .i64 d] w λe w'=>PtP w b1 m1 e1 b3 m3 e3 vs base (some g2) ([ik 6 ln d 0 0],((vs.length:Nat):Int)) true e w':=by
 obtain⟨v0,v1,v2,v3,v4,v5⟩:=hv
 have j0:(0:Int)<=(i:Int):=by omega
 have j1:(i:Int)<(vs.length:Int):=by omega
 have hM:MS w _ b1 m1 e1 b3 m3 e3 vs ⟨3,ln,va,vb,vc,vk⟩ base (some g2) (some g2) (some ⟨g2,0,none⟩) cap:=MS.start ⟨3,ln,va,vb,vc,vk⟩ h hb
 have HM:Hid _:=hM
 have hbd:vs.length<=900000:=by omega
 have hg2:g2<w.heap.size:=(ii h (k:=g2) rfl).2
 have HO:Hid _:=h
 clear h hM
 go_enter Tryz.func54,Tryz.ntmps54
 go_wp2_with fail
 generalize ((w.alloc (iv b1 m1 e1 (some ⟨g2,0,none⟩) vs.length cap b3 m3 e3)).alloc iw).alloc (ij 3 ln va vb vc vk)=wB at HM ⊢
 clear v0 v1 v2 v3 v4 v5
 refine jg (B7 HM hbd ?_)
 intro wc g' cap' _ _ _ _ _ HM1
 clear HM
 generalize hv1:vs++[(ik 6 ln d 0 0)]=vs1 at HM1
 have HV1:Hid (vs1=vs++[(ik 6 ln d 0 0)]):=hv1.symm
 have HL1:Hid (vs1.length=vs.length+1):=by show _=_;rw[HV1.out];simp
 have hL1:vs1.length<=vs.length+1:=by rw[HL1.out];omega
 have hbd:vs1.length<=900000:=by omega
 clear hv1
 have HM:Hid _:=HM1.out
 clear HM1
 go_wp2_with fail
 refine jg (od HM hbd (show(vs1.length:Int)-1=((vs.length:Nat):Int) by have:=HL1.out;omega) ?_)
 intro W3 _ _ _ y0 y1 y2 HR
 have R1:Hid (PtP w b1 m1 e1 b3 m3 e3 vs base (some g2) ([ik 6 ln d 0 0],((vs.length:Nat):Int)) true (.returned (.tuple #[ip b1 m1 e1 (some ⟨g',0,none⟩) vs1.length cap' b3 m3 e3,.int .i64 ((vs.length:Nat):Int),.bool true])) W3):=by
  obtain⟨w3,k3,e3⟩:=HR.out
  rw[e3]
  exact MS.finP (vs0:=vs) (M:=([ik 6 ln d 0 0],((vs.length:Nat):Int))) HM.out k3 (by rw[HV1.out]<;>simp) true
 go_wp2_with fail
 refine bodyPost_ret (v:=.tuple #[ip b1 m1 e1 (some ⟨g',0,none⟩) vs1.length cap' b3 m3 e3,.int .i64 ((vs.length:Nat):Int),.bool true]) (by simp[results,Tryz.results54,go_sem,y0,y1,y2]) rfl R1.out
theorem Da (w:World)(b1 b3:Option Addr)(m1 e1 cap m3 e3 base g2 i:Nat)(vs:List Vl)(ln va vb vc:Int)(vk:Nat)(d:Int)(h:w.ownsRow base 31 6 (.slice (some ⟨g2,0,none⟩) vs.length cap) vs.length (iN vs))(hb:base<=w.heap.size)(hn:vs.length<=800000)(hi:i<vs.length)(hv:At w g2 (i*6) ⟨6,ln,va,vb,vc,vk⟩):
  Calls Tryz.prog 54 #[ip b1 m1 e1 (some ⟨g2,0,none⟩) vs.length cap b3 m3 e3,.int .i64 (i:Int),.int .i64 0,.int .i64 d] w λe w'=>PtP w b1 m1 e1 b3 m3 e3 vs base (some g2) ([ik 6 ln d 0 0],((vs.length:Nat):Int)) true e w':=by
 obtain⟨v0,v1,v2,v3,v4,v5⟩:=hv
 have j0:(0:Int)<=(i:Int):=by omega
 have j1:(i:Int)<(vs.length:Int):=by omega
 have hM:MS w _ b1 m1 e1 b3 m3 e3 vs ⟨6,ln,va,vb,vc,vk⟩ base (some g2) (some g2) (some ⟨g2,0,none⟩) cap:=MS.start ⟨6,ln,va,vb,vc,vk⟩ h hb
 have HM:Hid _:=hM
 have hbd:vs.length<=900000:=by omega
 have hg2:g2<w.heap.size:=(ii h (k:=g2) rfl).2
 have HO:Hid _:=h
 clear h hM
 go_enter Tryz.func54,Tryz.ntmps54
 go_wp2_with fail
 generalize ((w.alloc (iv b1 m1 e1 (some ⟨g2,0,none⟩) vs.length cap b3 m3 e3)).alloc iw).alloc (ij 6 ln va vb vc vk)=wB at HM ⊢
 clear v0 v1 v2 v3 v4 v5
 refine jg (B7 HM hbd ?_)
 intro wc g' cap' _ _ _ _ _ HM1
 clear HM
 generalize hv1:vs++[(ik 6 ln d 0 0)]=vs1 at HM1
 have HV1:Hid (vs1=vs++[(ik 6 ln d 0 0)]):=hv1.symm
 have HL1:Hid (vs1.length=vs.length+1):=by show _=_;rw[HV1.out];simp
 have hL1:vs1.length<=vs.length+1:=by rw[HL1.out];omega
 have hbd:vs1.length<=900000:=by omega
 clear hv1
 have HM:Hid _:=HM1.out
 clear HM1
 go_wp2_with fail
 refine jg (od HM hbd (show(vs1.length:Int)-1=((vs.length:Nat):Int) by have:=HL1.out;omega) ?_)
 intro W3 _ _ _ y0 y1 y2 HR
 have R1:Hid (PtP w b1 m1 e1 b3 m3 e3 vs base (some g2) ([ik 6 ln d 0 0],((vs.length:Nat):Int)) true (.returned (.tuple #[ip b1 m1 e1 (some ⟨g',0,none⟩) vs1.length cap' b3 m3 e3,.int .i64 ((vs.length:Nat):Int),.bool true])) W3):=by
  obtain⟨w3,k3,e3⟩:=HR.out
  rw[e3]
  exact MS.finP (vs0:=vs) (M:=([ik 6 ln d 0 0],((vs.length:Nat):Int))) HM.out k3 (by rw[HV1.out]<;>simp) true
 go_wp2_with fail
 refine bodyPost_ret (v:=.tuple #[ip b1 m1 e1 (some ⟨g',0,none⟩) vs1.length cap' b3 m3 e3,.int .i64 ((vs.length:Nat):Int),.bool true]) (by simp[results,Tryz.results54,go_sem,y0,y1,y2]) rfl R1.out
end
section
open Go.RowKit Flt
def ptM (i:Int)(v:Vl)(la:Int)(k:Nat)(d:Int)(N:Nat):List Vl×Int:=if ku v k=true then iW i v la k d N else ([],0)
end
section
open Go.RowKit Flt
attribute [local go_sem] ic ib ia
variable {b1 b3 a2:Option Addr} {m1 e1 m3 e3 base cap vk:Nat} {vs:List Vl} {o va vb vc d:Int} {R R':Option Nat} {K:Act->World->Prop} {a b c f h i j k l m n p q r s t u x y z A B C D G H I J L N O P Q S T U V X Y Z aa ab ad ae af ag ah ai aj ak al am an ao ap aq ar au av aw ax ay az aA aB aC aD aE aF aG aH aI aJ aK aL aM aN aO aP aQ aR aS aT aU aV aW aX aY aZ a0 a1 a3 a4 a5 a6 a7 a8 a9 ba bb bc bd be bf bg bh bi bj bk bl bm bn bo cK bp cL bq cM br cN cG bs cO cH bt cI bu cJ bv bw bx bz bA bB bC bD bE bF bG bH bI bJ bK bL bM bN bO bP bQ bR bS bT bU bV bW bX bY bZ b0 b2 b4 b5 b6 b7 b8 b9 ca cb cc cd ce cf cg ch ci cj ck cl cm cn co cp cq cr cs ct cu cv cw cx cy cz cA cB cC cD cE cF:Value}
theorem E2 {w W:World}{ln:Int}{F:Int}{kk:Nat}{E M:Value}(HM:Hid (MS w W b1 m1 e1 b3 m3 e3 vs ⟨o,ln,va,vb,vc,vk⟩ base R R' a2 cap))(hbd:vs.length<=900000)(hkk:kk<2)(hF:fld ⟨o,ln,va,vb,vc,vk⟩ (1-kk)=F)
  (hk:∀(W':World) (g' cap':Nat) (u53 u54 u55 u56 u57 u58 u59 u60 u61:Value),Hid (MS w W' b1 m1 e1 b3 m3 e3 (vs++[(ik 4 ln d F 0)]) ⟨o,ln,va,vb,vc,vk⟩ base R (some g') (some ⟨g',0,none⟩) cap')->K ⟨#[a,b,.int .i64 (kk:Int),.int .i64 d,.pointer (some ⟨w.heap.size,0,none⟩),c,f,h,i,j,k,.pointer (some ⟨w.heap.size+1+1,0,none⟩),.int .i64 ln,l,m,n,p,q,r,s,t,u,x,y,z,A,B,C,D,E,G,H,I,J,L,M,N,O,P,Q,S,T,U,V,X,Y,Z,aa,ab,ad,ae,af,ag,u53,u54,u55,u56,u57,u58,u59,u60,u61,ah,ai,aj,ak,al,am,an,ao,ap,aq,ar,au,av,aw,ax,ay,az,aA,aB,aC,aD,aE,aF,aG,aH,aI,aJ,aK,aL,aM,aN,aO,aP,aQ,aR,aS,aT,aU,aV,aW,aX,aY,aZ,a0,a1,a3,a4,a5,a6,a7,a8,a9,ba,bb,bc,bd,be,bf,bg,bh,bi,bj,bk,bl,bm,bn,bo,bp,bq,br,bs,bt,bu,bv,bw,bx,bz,bA,bB,bC,bD,bE,bF,bG,bH,bI,bJ,bK,bL,bM,bN,bO,bP,bQ,bR,bS,bT,bU,bV,bW,bX,bY,bZ,b0,b2,b4,b5,b6,b7,b8,b9,ca,cb,cc,cd,ce,cf,cg,ch,ci,cj,ck,cl,cm,cn,co,cp,cq,cr,cs,ct,cu,cv,cw,cx,cy,cz,cA,cB,cC,cD,cE,cF],[]⟩ W'):
  Code.wp Tryz.prog (uX 8) (Exit.then K λ_ _ _=>False) ⟨#[a,b,.int .i64 (kk:Int),.int .i64 d,.pointer (some ⟨w.heap.size,0,none⟩),c,f,h,i,j,k,.pointer (some ⟨w.heap.size+1+1,0,none⟩),.int .i64 ln,l,m,n,p,q,r,s,t,u,x,y,z,A,B,C,D,E,G,H,I,J,L,M,N,O,P,Q,S,T,U,V,X,Y,Z,aa,ab,ad,ae,af,ag,cG,cH,cI,cJ,cK,cL,cM,cN,cO,ah,ai,aj,ak,al,am,an,ao,ap,aq,ar,au,av,aw,ax,ay,az,aA,aB,aC,aD,aE,aF,aG,aH,aI,aJ,aK,aL,aM,aN,aO,aP,aQ,aR,aS,aT,aU,aV,aW,aX,aY,aZ,a0,a1,a3,a4,a5,a6,a7,a8,a9,ba,bb,bc,bd,be,bf,bg,bh,bi,bj,bk,bl,bm,bn,bo,bp,bq,br,bs,bt,bu,bv,bw,bx,bz,bA,bB,bC,bD,bE,bF,bG,bH,bI,bJ,bK,bL,bM,bN,bO,bP,bQ,bR,bS,bT,bU,bV,bW,bX,bY,bZ,b0,b2,b4,b5,b6,b7,b8,b9,ca,cb,cc,cd,ce,cf,cg,ch,ci,cj,ck,cl,cm,cn,co,cp,cq,cr,cs,ct,cu,cv,cw,cx,cy,cz,cA,cB,cC,cD,cE,cF],[]⟩ W:=by
 have HK:Hid _:=hk
 clear hk
 have s0:=HM.out.g.c0
 have s1:=HM.out.g.c1
 have s2:=HM.out.g.c2
 have v0:=HM.out.v.c0
 have v1:=HM.out.v.c1
 have v2:=HM.out.v.c2
 have v3:=HM.out.v.c3
 have v4:=HM.out.v.c4
 have v5:=HM.out.v.c5
 have HFD:Hid (∀W,Calls Tryz.prog 46 #[(Vl.mk o ln va vb vc vk).agg,.int .i64 ((1-kk:Nat):Int)] W λe w'=>e=.returned (.int .i64 F)/\Kept 0 0 W w'):=λW=>by rw[<-hF];exact mL W _ _ (by omega)
 have hkc:((1-kk:Nat):Int)=1-(kk:Int):=by omega
 rw[hkc] at HFD
 have hkw:IntKind.i64.wrap (1-(kk:Int))=1-(kk:Int):=by rw[IntKind.wrap_i64];omega
 clear hF hkc
 conv=>arg 2;whnf
 go_region_with (first
  |(go_at_call 50;refine Calls.mono (MS.call HM.out (((ie W).trans kf).trans k1) (ik 4 ln d F 0) (by omega)) ?_;rintro e w2 ⟨g',cap',rfl,⟨u0,r0⟩,⟨u1,r1⟩,⟨u2,r2⟩,rf,_,hM2⟩;have rf0:=rf 0;have rf1:=rf 1;have rf2:=rf 2;clear rf)
  |(go_at_call 46;refine Calls.mono (HFD.out _) ?_;rintro e wf ⟨rfl,kf⟩;have l0:=(MS.keep HM.out ((ie W).trans kf)).g.c0;have l1:=(MS.keep HM.out ((ie W).trans kf)).g.c1;have l2:=(MS.keep HM.out ((ie W).trans kf)).g.c2)
  |(go_at_call 55;refine Calls.mono (lz _ _ _ _ _ _) ?_;rintro e w1 ⟨rfl,k1⟩;have p0:=(MS.keep HM.out (((ie W).trans kf).trans k1)).g.c0;have p1:=(MS.keep HM.out (((ie W).trans kf).trans k1)).g.c1;have p2:=(MS.keep HM.out (((ie W).trans kf).trans k1)).g.c2))
 all_goals exact HK.out _ _ _ _ _ _ _ _ _ _ _ _ hM2
theorem Db (w:World)(b1 b3:Option Addr)(m1 e1 cap m3 e3 base g2 i:Nat)(vs:List Vl)(ln va vb vc:Int)(vk:Nat)(d:Int)(kk:Nat)(F:Int)(h:w.ownsRow base 31 6 (.slice (some ⟨g2,0,none⟩) vs.length cap) vs.length (iN vs))(hb:base<=w.heap.size)(hn:vs.length<=800000)(hi:i<vs.length)(hv:At w g2 (i*6) ⟨4,ln,va,vb,vc,vk⟩)(hkk:kk<2)(hF:fld ⟨4,ln,va,vb,vc,vk⟩ (1-kk)=F):
  Calls Tryz.prog 54 #[ip b1 m1 e1 (some ⟨g2,0,none⟩) vs.length cap b3 m3 e3,.int .i64 (i:Int),.int .i64 (kk:Int),.int .i64 d] w λe w'=>PtP w b1 m1 e1 b3 m3 e3 vs base (some g2) ([ik 4 ln d F 0],((vs.length:Nat):Int)) true e w':=by
 obtain⟨v0,v1,v2,v3,v4,v5⟩:=hv
 have j0:(0:Int)<=(i:Int):=by omega
 have j1:(i:Int)<(vs.length:Int):=by omega
 have HF:Hid _:=hF
 clear hF
 have hM:MS w _ b1 m1 e1 b3 m3 e3 vs ⟨4,ln,va,vb,vc,vk⟩ base (some g2) (some g2) (some ⟨g2,0,none⟩) cap:=MS.start ⟨4,ln,va,vb,vc,vk⟩ h hb
 have HM:Hid _:=hM
 have hbd:vs.length<=900000:=by omega
 have hg2:g2<w.heap.size:=(ii h (k:=g2) rfl).2
 have HO:Hid _:=h
 clear h hM
 go_enter Tryz.func54,Tryz.ntmps54
 go_wp2_with fail
 generalize ((w.alloc (iv b1 m1 e1 (some ⟨g2,0,none⟩) vs.length cap b3 m3 e3)).alloc iw).alloc (ij 4 ln va vb vc vk)=wB at HM ⊢
 clear v0 v1 v2 v3 v4 v5
 refine jg (E2 HM hbd hkk HF.out ?_)
 intro wc g' cap' _ _ _ _ _ _ _ _ _ HM1
 clear HM
 generalize hv1:vs++[(ik 4 ln d F 0)]=vs1 at HM1
 have HV1:Hid (vs1=vs++[(ik 4 ln d F 0)]):=hv1.symm
 have HL1:Hid (vs1.length=vs.length+1):=by show _=_;rw[HV1.out];simp
 have hL1:vs1.length<=vs.length+1:=by rw[HL1.out];omega
 have hbd:vs1.length<=900000:=by omega
 clear hv1
 have HM:Hid _:=HM1.out
 clear HM1
 go_wp2_with fail
 refine jg (od HM hbd (show(vs1.length:Int)-1=((vs.length:Nat):Int) by have:=HL1.out;omega) ?_)
 intro W3 _ _ _ y0 y1 y2 HR
 have R1:Hid (PtP w b1 m1 e1 b3 m3 e3 vs base (some g2) ([ik 4 ln d F 0],((vs.length:Nat):Int)) true (.returned (.tuple #[ip b1 m1 e1 (some ⟨g',0,none⟩) vs1.length cap' b3 m3 e3,.int .i64 ((vs.length:Nat):Int),.bool true])) W3):=by
  obtain⟨w3,k3,e3⟩:=HR.out
  rw[e3]
  exact MS.finP (vs0:=vs) (M:=([ik 4 ln d F 0],((vs.length:Nat):Int))) HM.out k3 (by rw[HV1.out]<;>simp) true
 go_wp2_with fail
 refine bodyPost_ret (v:=.tuple #[ip b1 m1 e1 (some ⟨g',0,none⟩) vs1.length cap' b3 m3 e3,.int .i64 ((vs.length:Nat):Int),.bool true]) (by simp[results,Tryz.results54,go_sem,y0,y1,y2]) rfl R1.out
theorem Dc {w W:World}{ln:Int}{E F M cP:Value}(HM:Hid (MS w W b1 m1 e1 b3 m3 e3 vs ⟨o,ln,va,vb,vc,vk⟩ base R R' a2 cap))(hbd:vs.length<=900000)
  (hk:∀(W':World) (g' cap':Nat) (u190 u191 u192 u193 u194 u195:Value),Hid (MS w W' b1 m1 e1 b3 m3 e3 (vs++[(ik 11 1 d 0 vc)]) ⟨o,ln,va,vb,vc,vk⟩ base R (some g') (some ⟨g',0,none⟩) cap')->K ⟨#[a,b,c,.int .i64 d,.pointer (some ⟨w.heap.size,0,none⟩),f,h,i,j,k,l,.pointer (some ⟨w.heap.size+1+1,0,none⟩),m,n,p,q,r,s,t,u,x,y,z,A,B,C,D,E,F,G,H,I,J,L,M,N,O,P,Q,S,T,U,V,X,Y,Z,aa,ab,ad,ae,af,ag,ah,ai,aj,ak,al,am,an,ao,ap,aq,ar,au,av,aw,ax,ay,az,aA,aB,aC,aD,aE,aF,aG,aH,aI,aJ,aK,aL,aM,aN,aO,aP,aQ,aR,aS,aT,aU,aV,aW,aX,aY,aZ,a0,a1,a3,a4,a5,a6,a7,a8,a9,ba,bb,bc,bd,be,bf,bg,bh,bi,bj,bk,bl,bm,bn,bo,bp,bq,br,bs,bt,bu,bv,bw,bx,bz,bA,bB,bC,bD,bE,bF,bG,bH,bI,bJ,bK,bL,bM,bN,bO,bP,bQ,bR,bS,bT,bU,bV,bW,bX,bY,bZ,b0,b2,b4,b5,b6,b7,b8,b9,ca,cb,cc,cd,ce,cf,cg,ch,ci,cj,ck,cl,cm,cn,co,cp,cq,cr,cs,ct,cu,cv,cw,cx,cy,cz,cA,u190,u191,u192,u193,u194,u195,cB,cC,cD,cE,cF,cG,cH,cI,cJ],[]⟩ W'):
  Code.wp Tryz.prog (uX 36) (Exit.then K λ_ _ _=>False) ⟨#[a,b,c,.int .i64 d,.pointer (some ⟨w.heap.size,0,none⟩),f,h,i,j,k,l,.pointer (some ⟨w.heap.size+1+1,0,none⟩),m,n,p,q,r,s,t,u,x,y,z,A,B,C,D,E,F,G,H,I,J,L,M,N,O,P,Q,S,T,U,V,X,Y,Z,aa,ab,ad,ae,af,ag,ah,ai,aj,ak,al,am,an,ao,ap,aq,ar,au,av,aw,ax,ay,az,aA,aB,aC,aD,aE,aF,aG,aH,aI,aJ,aK,aL,aM,aN,aO,aP,aQ,aR,aS,aT,aU,aV,aW,aX,aY,aZ,a0,a1,a3,a4,a5,a6,a7,a8,a9,ba,bb,bc,bd,be,bf,bg,bh,bi,bj,bk,bl,bm,bn,bo,bp,bq,br,bs,bt,bu,bv,bw,bx,bz,bA,bB,bC,bD,bE,bF,bG,bH,bI,bJ,bK,bL,bM,bN,bO,bP,bQ,bR,bS,bT,bU,bV,bW,bX,bY,bZ,b0,b2,b4,b5,b6,b7,b8,b9,ca,cb,cc,cd,ce,cf,cg,ch,ci,cj,ck,cl,cm,cn,co,cp,cq,cr,cs,ct,cu,cv,cw,cx,cy,cz,cA,cK,cL,cM,cN,cO,cP,cB,cC,cD,cE,cF,cG,cH,cI,cJ],[]⟩ W:=by
 have HK:Hid _:=hk
 clear hk
 have s0:=HM.out.g.c0
 have s1:=HM.out.g.c1
 have s2:=HM.out.g.c2
 have v4:=HM.out.v.c4
 conv=>arg 2;whnf
 go_region_with (first
  |(go_at_call 50;refine Calls.mono (MS.call HM.out ((ie W).trans k1) (ik 11 1 d 0 vc) (by omega)) ?_;rintro e w2 ⟨g',cap',rfl,⟨u0,r0⟩,⟨u1,r1⟩,⟨u2,r2⟩,rf,_,hM2⟩;have rf0:=rf 0;have rf1:=rf 1;have rf2:=rf 2;clear rf)
  |(go_at_call 55;refine Calls.mono (lz _ _ _ _ _ _) ?_;rintro e w1 ⟨rfl,k1⟩;have p0:=(MS.keep HM.out ((ie W).trans k1)).g.c0;have p1:=(MS.keep HM.out ((ie W).trans k1)).g.c1;have p2:=(MS.keep HM.out ((ie W).trans k1)).g.c2))
 all_goals exact HK.out _ _ _ _ _ _ _ _ _ hM2
theorem De (w:World)(b1 b3:Option Addr)(m1 e1 cap m3 e3 base g2 i:Nat)(vs:List Vl)(ln va vb vc:Int)(vk:Nat)(d:Int)(h:w.ownsRow base 31 6 (.slice (some ⟨g2,0,none⟩) vs.length cap) vs.length (iN vs))(hb:base<=w.heap.size)(hn:vs.length<=800000)(hi:i<vs.length)(hv:At w g2 (i*6) ⟨12,ln,va,vb,vc,vk⟩):
  Calls Tryz.prog 54 #[ip b1 m1 e1 (some ⟨g2,0,none⟩) vs.length cap b3 m3 e3,.int .i64 (i:Int),.int .i64 0,.int .i64 d] w λe w'=>PtP w b1 m1 e1 b3 m3 e3 vs base (some g2) ([ik 11 1 d 0 vc],((vs.length:Nat):Int)) true e w':=by
 obtain⟨v0,v1,v2,v3,v4,v5⟩:=hv
 have j0:(0:Int)<=(i:Int):=by omega
 have j1:(i:Int)<(vs.length:Int):=by omega
 have hM:MS w _ b1 m1 e1 b3 m3 e3 vs ⟨12,ln,va,vb,vc,vk⟩ base (some g2) (some g2) (some ⟨g2,0,none⟩) cap:=MS.start ⟨12,ln,va,vb,vc,vk⟩ h hb
 have HM:Hid _:=hM
 have hbd:vs.length<=900000:=by omega
 have hg2:g2<w.heap.size:=(ii h (k:=g2) rfl).2
 have HO:Hid _:=h
 clear h hM
 go_enter Tryz.func54,Tryz.ntmps54
 go_wp2_with fail
 generalize ((w.alloc (iv b1 m1 e1 (some ⟨g2,0,none⟩) vs.length cap b3 m3 e3)).alloc iw).alloc (ij 12 ln va vb vc vk)=wB at HM ⊢
 clear v0 v1 v2 v3 v4 v5
 refine jg (Dc HM hbd ?_)
 intro wc g' cap' _ _ _ _ _ _ HM1
 clear HM
 generalize hv1:vs++[(ik 11 1 d 0 vc)]=vs1 at HM1
 have HV1:Hid (vs1=vs++[(ik 11 1 d 0 vc)]):=hv1.symm
 have HL1:Hid (vs1.length=vs.length+1):=by show _=_;rw[HV1.out];simp
 have hL1:vs1.length<=vs.length+1:=by rw[HL1.out];omega
 have hbd:vs1.length<=900000:=by omega
 clear hv1
 have HM:Hid _:=HM1.out
 clear HM1
 go_wp2_with fail
 refine jg (od HM hbd (show(vs1.length:Int)-1=((vs.length:Nat):Int) by have:=HL1.out;omega) ?_)
 intro W3 _ _ _ y0 y1 y2 HR
 have R1:Hid (PtP w b1 m1 e1 b3 m3 e3 vs base (some g2) ([ik 11 1 d 0 vc],((vs.length:Nat):Int)) true (.returned (.tuple #[ip b1 m1 e1 (some ⟨g',0,none⟩) vs1.length cap' b3 m3 e3,.int .i64 ((vs.length:Nat):Int),.bool true])) W3):=by
  obtain⟨w3,k3,e3⟩:=HR.out
  rw[e3]
  exact MS.finP (vs0:=vs) (M:=([ik 11 1 d 0 vc],((vs.length:Nat):Int))) HM.out k3 (by rw[HV1.out]<;>simp) true
 go_wp2_with fail
 refine bodyPost_ret (v:=.tuple #[ip b1 m1 e1 (some ⟨g',0,none⟩) vs1.length cap' b3 m3 e3,.int .i64 ((vs.length:Nat):Int),.bool true]) (by simp[results,Tryz.results54,go_sem,y0,y1,y2]) rfl R1.out
end
end Go.Proofs.YtnlffngpnoodkaaGreat
