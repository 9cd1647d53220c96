import Derived.Test.YtnlffngpnoodkaaGreatP27
namespace Go.Proofs.YtnlffngpnoodkaaGreat
set_option maxRecDepth 1000000
set_option maxHeartbeats 0
open Go.RowKit Flt
attribute [local go_sem] ic ib ia
theorem C7 {w W:World}{b1 b3:Option Addr}{m1 e1 m3 e3 base cap:Nat}{vs:List Vl}{o ln vb vc:Int}{vk:Nat}{R R':Option Nat}{g2 j:Nat}{la:Int}{d:Int}{K:Act->World->Prop}{a b c f h i k l m n p q r s t u x y z A B C D E F G H I J L M N O P Q S T U V X Y Z aa ab ad ae af ag ah ai aj ak al am an ao ap aq ar au av aw ax ay az aA aB aC aD aE aF aG aH aI aJ aK aL aM aN aO aP aQ aR aS aT aU aV aW aX aY aZ a0 a1 a2 a3 a4 a5 a6 a7 a8 a9 ba bb bc bd be bf bg bh bi bj bk bl bm bn bo bp bq br bs bt bu bv bw bx bz bA bB bC bD bE bF bG bH bI bJ bK bL bM bN bO bP bQ bR bS bT bU bV bW bX bY bZ b0 b2 b4 b5 b6 b7 b8 b9 ca cb cc cd ce cf cg ch ci cj ck cD cE cF cG cH cI cJ cK cL cM cN cO cP cl cm cn co cp cq cr cs ct cu cv cw cx cy cz cA cB cC:Value}(HM:Hid (MS w W b1 m1 e1 b3 m3 e3 vs ⟨o,ln,(j:Int),vb,vc,vk⟩ base R R' (some ⟨g2,0,none⟩) cap))(hbd:vs.length<=900000)(hj:j<vs.length)(hla:(vs.getD j Vl.zero).len=la)
  (hk:∀(W':World) (g' cap':Nat) (u174 u175 u176 u177 u178 u179 u180 u181 u182 u183 u184 u185 u186:Value),Hid (MS w W' b1 m1 e1 b3 m3 e3 (vs++[(ik 12 la d 0 vc)]) ⟨o,ln,(j:Int),vb,vc,vk⟩ base R (some g') (some ⟨g',0,none⟩) cap')->K ⟨#[a,b,c,.int .i64 d,.pointer (some ⟨w.heap.size,0,none⟩),f,h,i,k,l,m,.pointer (some ⟨w.heap.size+1+1,0,none⟩),n,p,q,r,s,t,u,x,y,z,A,B,C,D,E,F,G,H,I,J,L,M,N,O,P,Q,S,T,U,V,X,Y,Z,aa,ab,ad,ae,af,ag,ah,ai,aj,ak,al,am,an,ao,ap,aq,ar,au,av,aw,ax,ay,az,aA,aB,aC,aD,aE,aF,aG,aH,aI,aJ,aK,aL,aM,aN,aO,aP,aQ,aR,aS,aT,aU,aV,aW,aX,aY,aZ,a0,a1,a2,a3,a4,a5,a6,a7,a8,a9,ba,bb,bc,bd,be,bf,bg,bh,bi,bj,bk,bl,bm,bn,bo,bp,bq,br,bs,bt,bu,bv,bw,bx,bz,bA,bB,bC,bD,bE,bF,bG,bH,bI,bJ,bK,bL,bM,bN,bO,bP,bQ,bR,bS,bT,bU,bV,bW,bX,bY,bZ,b0,b2,b4,b5,b6,b7,b8,b9,ca,cb,cc,cd,ce,cf,cg,ch,ci,cj,ck,u174,u175,u176,u177,u178,u179,u180,u181,u182,u183,u184,u185,u186,cl,cm,cn,co,cp,cq,cr,cs,ct,cu,cv,cw,cx,cy,cz,cA,cB,cC],[]⟩ W'):
  Code.wp Tryz.prog (uX 34) (Exit.then K λ_ _ _=>False) ⟨#[a,b,c,.int .i64 d,.pointer (some ⟨w.heap.size,0,none⟩),f,h,i,k,l,m,.pointer (some ⟨w.heap.size+1+1,0,none⟩),n,p,q,r,s,t,u,x,y,z,A,B,C,D,E,F,G,H,I,J,L,M,N,O,P,Q,S,T,U,V,X,Y,Z,aa,ab,ad,ae,af,ag,ah,ai,aj,ak,al,am,an,ao,ap,aq,ar,au,av,aw,ax,ay,az,aA,aB,aC,aD,aE,aF,aG,aH,aI,aJ,aK,aL,aM,aN,aO,aP,aQ,aR,aS,aT,aU,aV,aW,aX,aY,aZ,a0,a1,a2,a3,a4,a5,a6,a7,a8,a9,ba,bb,bc,bd,be,bf,bg,bh,bi,bj,bk,bl,bm,bn,bo,bp,bq,br,bs,bt,bu,bv,bw,bx,bz,bA,bB,bC,bD,bE,bF,bG,bH,bI,bJ,bK,bL,bM,bN,bO,bP,bQ,bR,bS,bT,bU,bV,bW,bX,bY,bZ,b0,b2,b4,b5,b6,b7,b8,b9,ca,cb,cc,cd,ce,cf,cg,ch,ci,cj,ck,cD,cE,cF,cG,cH,cI,cJ,cK,cL,cM,cN,cO,cP,cl,cm,cn,co,cp,cq,cr,cs,ct,cu,cv,cw,cx,cy,cz,cA,cB,cC],[]⟩ W:=by
 have HK:Hid _:=hk
 clear hk
 have s0:=HM.out.g.c0
 have s1:=HM.out.g.c1
 have s2:=HM.out.g.c2
 have v2:=HM.out.v.c2
 have v4:=HM.out.v.c4
 have hL1:=HM.out.len1 hj hla
 have j0:(0:Int)<=(j:Int):=by omega
 have j1:(j:Int)<(vs.length:Int):=by omega
 clear hla
 conv=>arg 2;whnf
 go_region_with (first
  |(go_at_call 50;refine Calls.mono (MS.call HM.out ((ie W).trans k1) (ik 12 la d 0 vc) (by omega)) ?_;rintro e w2 ⟨g',cap',rfl,⟨u0,r0⟩,⟨u1,r1⟩,⟨u2,r2⟩,rf,_,hM2⟩;have rf0:=rf 0;have rf1:=rf 1;have rf2:=rf 2;clear rf)
  |(go_at_call 55;refine Calls.mono (lz _ _ _ _ _ _) ?_;rintro e w1 ⟨rfl,k1⟩;have p0:=(MS.keep HM.out ((ie W).trans k1)).g.c0;have p1:=(MS.keep HM.out ((ie W).trans k1)).g.c1;have p2:=(MS.keep HM.out ((ie W).trans k1)).g.c2))
 all_goals exact HK.out _ _ _ _ _ _ _ _ _ _ _ _ _ _ _ _ hM2
end Go.Proofs.YtnlffngpnoodkaaGreat
