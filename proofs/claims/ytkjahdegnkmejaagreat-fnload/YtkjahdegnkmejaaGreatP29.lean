import Derived.Test.YtkjahdegnkmejaaGreatP28
namespace Go.Proofs.Z
open Tryz
set_option maxRecDepth 1000000
set_option maxHeartbeats 0
open Go.RowKit Flt
attribute[local go_sem] eE eC eB
noncomputable abbrev P7 (n:Nat):Code:=(Tryz.f124.body.bind (pq n)).getD .skip
theorem Nt{w W ay A Y ad aa ah base cap b5 N o R U ins outs an act us H p q g bA b a c d f h i j k n r s t u v x y z I C D E aB G ab cu aw L M aZ aP P Q S T b3 Vaa X cC b8 au dg al di dp ds dv d0 d3 d4 d5 d6 aC cc bp d7 d8 d9 bU ea cN cf eb cz cA cD cG aE db cK cR cj cS cT af cU cV cX c6 c7 bM a8 aN c8 c9 da co dc dd bK a1 K a3 a4 ba cb b9 ai cw e8 O bT e9 fa cl ff fj bN fl fm fq fs cr fu fv fz fG bs bt fM ec fP bP aL ed ee ef eg ej a6 bZ ct b2 ci bu cq bS bw az cB f5 cx bv ep eq er et eu ev ew ex ey ez eP eR eS eT e0 e1 e2 e3 e5 e6 e7 bE}(Z:V (LG w W ay A R Y ad U aa ah ins outs us an act base H (some ⟨b5,0,none⟩) cap))(bj:us.length<=900000)(aR:o<us.length)(a5:o<N)(aD:an.length=N)(d1:(us.getD o i0).len=g)(am:an.getD o 0=q)
  (J:∀(F:World) (aI cap':Nat) (l m B ae ag aq ax aA aF aG aH aJ aM aO:Value),V (LG w F ay A R Y ad U aa ah ins outs (us++[eK 2 g q p 0]) an act base (some aI) (some ⟨aI,0,none⟩) cap')->bA ⟨#[b,a,c,ge w.heap.size,d,f,h,i,j,k,ia ay N N,n,r,s,ih o,t,ih p,u,v,x,y,z,I,C,D,E,aB,G,ab,cu,aw,L,M,aZ,aP,P,Q,S,T,b3,Vaa,X,cC,b8,au,dg,al,di,dp,ds,dv,d0,d3,d4,d5,d6,aC,cc,bp,d7,d8,d9,bU,ea,cN,cf,eb,cz,cA,cD,cG,aE,db,cK,cR,cj,cS,cT,af,cU,cV,cX,c6,c7,bM,a8,aN,c8,c9,da,co,dc,dd,bK,a1,K,a3,a4,ba,cb,b9,ai,cw,e8,O,bT,e9,fa,cl,ff,fj,bN,fl,fm,fq,fs,cr,fu,fv,fz,fG,bs,bt,fM,ec,fP,bP,aL,ed,ee,ef,eg,ej,l,m,B,ae,ag,aq,ax,aA,aF,aG,aH,aJ,aM,aO,ep,eq,er,et,eu,ev,ew,ex,ey,ez,eP,eR,eS,eT,e0,e1,e2,e3,e5,e6,e7,bE],[]⟩ F):
  Code.wp prog (P7 27) (Exit.then bA λ_ _ _=>False) ⟨#[b,a,c,ge w.heap.size,d,f,h,i,j,k,ia ay N N,n,r,s,ih o,t,ih p,u,v,x,y,z,I,C,D,E,aB,G,ab,cu,aw,L,M,aZ,aP,P,Q,S,T,b3,Vaa,X,cC,b8,au,dg,al,di,dp,ds,dv,d0,d3,d4,d5,d6,aC,cc,bp,d7,d8,d9,bU,ea,cN,cf,eb,cz,cA,cD,cG,aE,db,cK,cR,cj,cS,cT,af,cU,cV,cX,c6,c7,bM,a8,aN,c8,c9,da,co,dc,dd,bK,a1,K,a3,a4,ba,cb,b9,ai,cw,e8,O,bT,e9,fa,cl,ff,fj,bN,fl,fm,fq,fs,cr,fu,fv,fz,fG,bs,bt,fM,ec,fP,bP,aL,ed,ee,ef,eg,ej,a6,bZ,ct,b2,ci,bu,cq,bS,bw,az,cB,f5,cx,bv,ep,eq,er,et,eu,ev,ew,ex,ey,ez,eP,eR,eS,eT,e0,e1,e2,e3,e5,e6,e7,bE],[]⟩ W:=by
 have HK:V _:=J;clear J;have a0:=Z.o.l.g.c0;have av:=Z.o.l.g.c1;have aT:=Z.o.l.g.c2;obtain⟨d2,cd,_,_,bl⟩:=Z.o.l.read xaa;cases cd;have ao:=(bl o aR).c1;rw[d1]at ao;have cQ:=IR.cell Z.o.m o xaa;rw[am]at cQ;have hs:0<=(o:Int):=xaa;have cy:(o:Int)<us.length:=xaa;have ck:(o:Int)<N:=xaa;clear d1 am bl aD aR a5;conv=>arg 2;whnf
 go_region_with (first
  |(go_at_call 59;refine yaj (LK.call Z.o.l ((eD W).trans ap) (eK 2 g q p 0) xaa) ?_;rintro e ak ⟨aI,cap',rfl,⟨u0,bo⟩,⟨u1,ar⟩,⟨u2,aQ⟩,aj,a7⟩;have bR:=aj 0;have bV:=aj 1;have bW:=aj 2;have ce:V _:=Z.o.stq a7.o.1 a7.o.2;clear aj a7)
  |(go_at_call 60;refine yaj (gq _ _ _ _ _ _) ?_;rintro e aK ⟨rfl,ap⟩;have bG:=(LG.keep Z.o ((eD W).trans ap)).l.g.c0;have bn:=(LG.keep Z.o ((eD W).trans ap)).l.g.c1;have p2:=(LG.keep Z.o ((eD W).trans ap)).l.g.c2))
 all_goals exact HK.o _ _ _ _ _ _ _ _ _ _ _ _ _ _ _ _ _ ce
