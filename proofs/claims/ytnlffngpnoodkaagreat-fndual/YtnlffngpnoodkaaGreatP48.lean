import Derived.Test.YtnlffngpnoodkaaGreatP41
import Derived.Test.YtnlffngpnoodkaaGreatP46
import Derived.Test.YtnlffngpnoodkaaGreatP37
namespace Go.Proofs.YtnlffngpnoodkaaGreat
set_option maxRecDepth 1000000
set_option maxHeartbeats 0
open Go.RowKit Flt
attribute [local go_sem] ic ib ia
variable {w0:World} {V gd gz oz i n m tn cb x:Nat} {vs:List Vl} {ts:List Nat} {ex T:Nat->Int} {dss zss:List (List Nat)} {Post:Act->World->Prop} {Z:Nat->Nat->Int} {b e j a f c g o l q h r s u w z D G H I J L N O P Q R S U X Y aa ab ad ae af ag ah ai aj ak aL aM aN aO aP aQ aR aS aT aU aV aW aX aY aZ a0 a1 a2 a3 a4 a5 a6 a7 a8 a9 ba bc bd be bf bb bg bh bi bj bk bl bm bn bo bp bq br bs bt bu bv bw bx bz aD bB al aE bC am aF bD an aG bE ao bF ap bG bA aq bH ar bI au bJ bK bL bM bN bO bP aH bQ aI bR aJ bS aK bT bU bV bW bX bY bZ b0 b1 b2 b3 b4 b5 b6 dr b7 b8 b9 ca cc cd ce ds cf dt cg du ct ch dv ci dw cj dx ck dy cl dA cm dB cn dC cp dD cq dE cr cs cu cv cw cx cy cz cB cC cD cE cF cG cA cH cI cJ cK cL av cM aw cN ax cO ay cP az cQ aA cR aB cS aC cT cU cV cW cX cY cZ c0 c2 c3 c4 c5 c6 c7 c8 c9 da db dc dd de df dg dh di dj dk dl dm dp dq dF dG dH dI dJ dK dL dM:Value}
theorem Fy {go k co:Nat}{A B C:Int}{K:Nat}{E M c1 dn dN dO dP dQ dR dS dT dU:Value}(F:MF vs Z T x dss zss i m n ⟨9,(n:Int),A,B,C,K⟩ ex)(hix:x<i)(H:MR w0 V gd go gz oz i m n k ⟨9,(n:Int),A,B,C,K⟩ dss zss ex)(hk:k<n)
  (hP:∀(dV dW dX dY dZ d0 d1 d2 d3 d4 d5 d6 d7 d8 d9 ea eb ec ed ee ef eg eh ei ej ek el em en eo ep eq er es et eu ev ew ey ez eA eB eC eD eE eF eG eH eI eJ eK eL eM eN eO eP eQ eR eS eT eU eV eW eX eY eZ e0 e1 e2 e3 e4 e5 e6 e7 e8 e9 fb fc fd fe ff fg fh fi fj fk fl fm fn fo fp fq fs ft fu fv fw fx fy fz fA fB fC fD fE fF fG fH fI fJ fK fL fM fN fO fP fQ fR fS fT fU fV fW fX fY fZ f0 f1 f2 f3 f4 f5 f6 f7 f8 f9 ga gb gc gf gg gh gi gj gk gl gm gn gp gq gr gs gu gv gw gx gy gA gB gC gD gE gF gG gH gI gJ gK gL gM gN gO gP gQ gR gS gT gU gV gW gX gY gZ g0 g1 g2 g3 g4 g5:Value) (W':World),DP W' gd n ex (k+1)->Kept gd (gd+1) w0 W'->Post ⟨#[a,.slice (some ⟨gz,oz,none⟩) m cb,b,c,e,f,g,h,l,s,u,w,.slice (some ⟨go,0,none⟩) i co,D,.pointer (some ⟨V,0,none⟩),.slice (some ⟨gd,0,none⟩) n n,E,.int .i64 ((k:Int)+1),dV,dW,dX,G,I,J,L,M,N,O,P,Q,R,S,U,X,Y,aa,ab,ad,ae,af,ag,ah,ai,aj,ak,al,am,an,ao,ap,aq,ar,au,dY,dZ,d0,d1,d2,d3,d4,d5,d6,d7,d8,d9,ea,eb,ec,ed,ee,ef,eg,eh,ei,ej,ek,el,em,en,eo,ep,eq,er,es,et,eu,ev,ew,ey,ez,eA,eB,eC,eD,eE,eF,eG,eH,eI,eJ,eK,eL,eM,eN,eO,eP,eQ,eR,eS,eT,eU,eV,eW,eX,eY,eZ,e0,e1,e2,e3,e4,e5,e6,e7,e8,e9,fb,fc,fd,fe,ff,fg,fh,fi,fj,fk,fl,fm,fn,fo,fp,fq,fs,ft,fu,fv,fw,fx,fy,fz,fA,fB,fC,fD,fE,fF,fG,fH,fI,fJ,fK,fL,fM,fN,fO,fP,fQ,fR,fS,fT,fU,fV,fW,fX,fY,fZ,f0,f1,f2,f3,f4,f5,f6,f7,f8,f9,ga,gb,gc,gf,gg,gh,gi,gj,gk,gl,gm,gn,gp,gq,gr,gs,gu,gv,gw,gx,gy,gA,gB,gC,gD,gE,gF,gG,gH,gI,gJ,gK,gL,gM,gN,gO,gP,gQ,gR,gS,gT,gU,gV,gW,gX,gY,gZ,g0,g1,g2,g3,g4,g5,av,aw,ax,ay,az,aA,aB,aC,aD,aE,aF,aG,aH,aI,aJ,aK],[]⟩ W'):
  Code.wp Tryz.prog ml (Exit.then Post λ_ _ _=>False) ⟨#[a,.slice (some ⟨gz,oz,none⟩) m cb,b,c,e,f,g,h,l,s,u,w,.slice (some ⟨go,0,none⟩) i co,D,.pointer (some ⟨V,0,none⟩),.slice (some ⟨gd,0,none⟩) n n,E,.int .i64 (k:Int),aL,aM,aN,G,I,J,L,M,N,O,P,Q,R,S,U,X,Y,aa,ab,ad,ae,af,ag,ah,ai,aj,ak,al,am,an,ao,ap,aq,ar,au,aO,aP,aQ,aR,aS,aT,aU,aV,aW,aX,aY,aZ,a0,a1,a2,a3,a4,a5,a6,a7,a8,a9,ba,bb,bc,bd,be,bf,bg,bh,bi,bj,bk,bl,bm,bn,bo,bp,bq,br,bs,bt,bu,bv,bw,bx,bz,bB,bC,bD,bE,bF,bG,bH,bI,bJ,bK,bL,bM,bN,bO,bP,bQ,bR,bS,bT,bU,bV,bW,bX,bY,bZ,b0,b1,b2,b3,b4,b5,b6,b7,b8,b9,ca,cc,cd,ce,cf,cg,ch,ci,cj,ck,cl,cm,cn,cp,cq,cr,cs,ct,cu,cv,cw,cx,cy,cz,cB,cC,cD,cE,cF,cG,cH,cI,cJ,cK,cL,cM,cN,cO,cP,cQ,cR,cS,cT,cU,cV,cW,cX,cY,cZ,c0,c1,c2,c3,c4,c5,c6,c7,c8,c9,da,db,dc,dd,de,df,dg,dh,di,dj,dk,dl,dm,dn,dp,dq,dr,ds,dt,du,dv,dw,dx,dy,dA,dB,dC,dD,dE,dF,dG,dH,dI,dJ,dK,dL,dM,dN,dO,dP,dQ,dR,dS,dT,dU,av,aw,ax,ay,az,aA,aB,aC,aD,aE,aF,aG,aH,aI,aJ,aK],[]⟩ w0:=by
 have HF:Hid _:=F
 have HR:Hid _:=H
 have HP:Hid _:=hP
 have hn2:=F.hn2
 have hm1:=F.hm1
 have him:=F.him
 obtain⟨y,hy,_⟩:=DQ.cell H.d hk
 have hfz:=DQ.free H.d k
 have hgo:¬go=gd:=by have:=H.o.lt;omega
 have hgz:¬gz=gd:=by have:=H.z.lt;omega
 have hgv:¬V=gd:=by have:=H.nv;omega
 obtain⟨y0,y1,y2,y3,y4,y5⟩:=H.v
 simp only at y0 y1 y2 y3 y4 y5
 clear F hP
 obtain⟨A',rfl,ha1⟩:=HF.out.opA (by decide) (by decide)
 obtain⟨mA1,mA2⟩:=HF.out.hM A' ha1
 obtain⟨bA,oA,cA,gA1,gA2,gA3⟩:=H.o.at_ A' ha1
 rw[Nat.zero_add] at gA1
 have nA:¬bA=gd:=by omega
 have hl1:=(HF.out.hSA A' ha1).2
 rw[mA1] at gA1
 have HA1:Hid (∀j,j<ln vs A'->FZ ((dss.getD A' []).getD j 0) (dz dss A' j)/\-1000000<=dz dss A' j/\dz dss A' j<=1000000):=λj hj=>⟨(mA2 j hj).1,(mA2 j hj).2.1⟩
 have HA3:Hid _:=λj (hj:j<ln vs A')=>gA3 j (by omega)
 have HEx:Hid (iX (dz dss A') (ln vs A')=ex k):=by show _=_;rw[HF.out.hex,ma HF.out.hv hix];rfl
 have HA4:Hid (bA<gd/\go<gd/\gd<w0.heap.size):=⟨gA2,H.o.lt,DQ.lt H.d⟩
 have HD0:Hid (DQ w0 gd n ex k (iX (dz dss A') 0)):=H.d
 have HV0:Hid (At w0 V 0 ⟨9,(n:Int),(A':Int),B,C,K⟩):=H.v
 have HVn:Hid (V<gd):=H.nv
 have HG1:Hid _:=gA1
 clear mA1 mA2 gA3 H
 generalize ln vs A'=lA at hl1 HA1 HA3 HEx gA1 HG1
 conv=>arg 2;whnf
 go_wp2_with fail
 clear y0 y1 y2 y3 y4 y5 gA1
 go_loopw [20] (λt W=>∃j:Nat,j<=lA/\t=.int .i64 (j:Int)/\Hid (DQ W gd n ex k (iX (dz dss A') j))/\Hid (Kept gd (gd+1) w0 W)) (λt _=>lA-(intOf t).toNat)
 case atStart=>exact⟨0,Nat.zero_le _,rfl,HD0,Kept.refl _ _ _⟩
 case round=>
  obtain⟨j,hj,rfl,hD,hK⟩:=hrel
  obtain⟨y0,y1,y2,y3,y4,y5⟩:=HV0.out.keep (w':=wr) (by have:=HVn.out;have:=HA4.out;omega) hK.out (.inl HVn.out)
  simp only at y0 y1 y2 y3 y4 y5
  have gA1:wr.cell? ⟨go,A',none⟩=some (.slice (some ⟨bA,oA,none⟩) lA cA):=by rw[hK.out.cell (p:=⟨go,A',none⟩) (by show go<_;have:=HA4.out;omega) (by show ¬(gd<=go/\go<gd+1);have:=HA4.out;omega)];exact HG1.out
  by_cases hlj:j<lA
  ·have gA4:wr.cell? ⟨bA,oA+j,none⟩=some (.float .f64 ((dss.getD A' []).getD j 0)):=by rw[hK.out.cell (p:=⟨bA,oA+j,none⟩) (by show bA<_;have:=HA4.out;omega) (by show ¬(gd<=bA/\bA<gd+1);have:=HA4.out;omega)];exact HA3.out j hlj
   obtain⟨yy,hyy,hyz⟩:=DQ.cell hD.out hk
   have hfz:=DQ.free hD.out k
   obtain⟨mA3,mA4⟩:=HA1.out j hlj
   have hsm:=pN (z:=dz dss A') (B:=1000000) (by decide) j λq hq=>(HA1.out q (by omega)).2
   obtain⟨r,hr,fr⟩:=nj (op:=.add) (pj hyz mA3 (by omega))
   have R1:Hid (DQ (wr.setCell ⟨gd,k,none⟩ (.float .f64 r)) gd n ex k (iX (dz dss A') (j+1))):=DQ.put hD.out hk hr
   have R2:Hid _:=hK.out.trans (mR wr gd k r)
   clear hyz mA3 mA4 hsm hr hD hK
   generalize (dss.getD A' []).getD j 0=fa at gA4 fr
   go_wp2_with fail
   go_region
   all_goals
    go_wp2
    go_roundw
    case rel=>exact⟨j+1,by omega,by go_num,DQ.drewN R1.out 1,Kept.drew R2.out⟩
    case measure=>simp[intOf];omega
  ·obtain rfl:j=lA:=by omega
   have R1:Hid _:=DQ.next hD.out HEx.out
   have R2:Hid _:=hK.out
   clear hD hK
   all_goals
    go_wp2_with fail
    apply HP.out<;>first|exact R1.out|exact R2.out
theorem Er {gt ot ct:Nat}{v:Vl}{d m A B C E F K M dz T Z cb co dn:Value}(hv:At w0 V 0 v)(hl:v.len=(n:Int))(hn2:n<=1000)(hV:V<gd)(hg:gt<gd)(hd:DP w0 gd n ex 0)(h0:i<x->∀k,k<n->ex k=0)(hT:i=x->∀k,k<n->(w0.cell? ⟨gt,ot+k,none⟩=some (.float .f64 (ts.getD k 0))/\FZ (ts.getD k 0) (ex k))/\k<tn)
  (hP:∀(dF dG dH dI dJ dK dL dM dN dO dP dQ dR dS dT:Value) (W':World),(x<i->DP W' gd n ex 0)->(i<=x->DP W' gd n ex n)->Kept gd (gd+1) w0 W'->Post ⟨#[a,b,d,e,.slice (some ⟨gt,ot,none⟩) tn ct,f,g,j,l,m,o,q,r,.int .i64 (i:Int),.pointer (some ⟨V,0,none⟩),.slice (some ⟨gd,0,none⟩) n n,dF,s,u,w,z,A,B,C,D,E,F,G,H,I,J,K,L,M,N,O,dG,dH,dI,dJ,dK,dL,dM,dN,dO,dP,dQ,dR,dS,dT,P,Q,R,S,T,U,X,Y,Z,aa,ab,ad,ae,af,ag,ah,ai,aj,ak,al,am,an,ao,ap,aq,ar,au,av,aw,ax,ay,az,aA,aB,aC,aD,aE,aF,aG,aH,aI,aJ,aK,aL,aM,aN,aO,aP,aQ,aR,aS,aT,aU,aV,aW,aX,aY,aZ,a0,a1,a2,a3,a4,a5,a6,a7,a8,a9,ba,bb,bc,bd,be,bf,bg,bh,bi,bj,bk,bl,bm,bn,bo,bp,bq,br,bs,bt,bu,bv,bw,bx,bz,bA,bB,bC,bD,bE,bF,bG,bH,bI,bJ,bK,bL,bM,bN,bO,bP,bQ,bR,bS,bT,bU,bV,bW,bX,bY,bZ,b0,b1,b2,b3,b4,b5,b6,b7,b8,b9,ca,cb,cc,cd,ce,cf,cg,ch,ci,cj,ck,cl,cm,cn,co,cp,cq,cr,cs,cu,cv,cw,cx,cy,cz,cA,cB,cC,cD,cE,cF,cG,cH,cI,cJ,cK,cL,cM,cN,cO,cP,cQ,cR,cS,cT,cU,cV,cW,cX,cY,cZ,c0,c2,c3,c4,c5,c6,c7,c8,c9,da,db,dc,dd,de,df,dg,dh,di,dj,dk,dl,dm,dn,dp,dq],[]⟩ W'):
  Code.wp Tryz.prog (Fg 36) (Exit.then Post λ_ _ _=>False) ⟨#[a,b,d,e,.slice (some ⟨gt,ot,none⟩) tn ct,f,g,j,l,m,o,q,r,.int .i64 (i:Int),.pointer (some ⟨V,0,none⟩),.slice (some ⟨gd,0,none⟩) n n,dr,s,u,w,z,A,B,C,D,E,F,G,H,I,J,K,L,M,N,O,.bool ((i:Int)==(x:Int)),ds,dt,du,dv,dw,dx,dy,dz,dA,dB,dC,dD,dE,P,Q,R,S,T,U,X,Y,Z,aa,ab,ad,ae,af,ag,ah,ai,aj,ak,al,am,an,ao,ap,aq,ar,au,av,aw,ax,ay,az,aA,aB,aC,aD,aE,aF,aG,aH,aI,aJ,aK,aL,aM,aN,aO,aP,aQ,aR,aS,aT,aU,aV,aW,aX,aY,aZ,a0,a1,a2,a3,a4,a5,a6,a7,a8,a9,ba,bb,bc,bd,be,bf,bg,bh,bi,bj,bk,bl,bm,bn,bo,bp,bq,br,bs,bt,bu,bv,bw,bx,bz,bA,bB,bC,bD,bE,bF,bG,bH,bI,bJ,bK,bL,bM,bN,bO,bP,bQ,bR,bS,bT,bU,bV,bW,bX,bY,bZ,b0,b1,b2,b3,b4,b5,b6,b7,b8,b9,ca,cb,cc,cd,ce,cf,cg,ch,ci,cj,ck,cl,cm,cn,co,cp,cq,cr,cs,cu,cv,cw,cx,cy,cz,cA,cB,cC,cD,cE,cF,cG,cH,cI,cJ,cK,cL,cM,cN,cO,cP,cQ,cR,cS,cT,cU,cV,cW,cX,cY,cZ,c0,c2,c3,c4,c5,c6,c7,c8,c9,da,db,dc,dd,de,df,dg,dh,di,dj,dk,dl,dm,dn,dp,dq],[]⟩ w0:=by
 have HP:Hid _:=hP
 have HV:Hid _:=hv
 have HD:Hid _:=hd
 have HT:Hid _:=hT
 have HLt:Hid (gd<w0.heap.size):=DQ.lt hd
 clear hP hT
 by_cases hix:i=x
 ·have hne:((i:Int)==(x:Int))=true:=by simp;omega
  replace HT:Hid _:=HT.out hix
  have HQ:Hid (∀W',DP W' gd n ex n->(x<i->DP W' gd n ex 0)/\(i<=x->DP W' gd n ex n)):=λW' h=>⟨λc=>by omega,λ_=>h⟩
  rw[hne]
  have y1:=HV.out.c1
  rw[hl] at y1
  have hgt:¬gt=gd:=by omega
  have hgV:¬V=gd:=by omega
  clear hv hd h0 hix hne
  conv=>arg 2;whnf
  go_wp2_with fail
  clear y1
  go_loopw [16] (λt W=>∃k:Nat,k<=n/\t=.int .i64 (k:Int)/\Hid (DP W gd n ex k)/\Hid (Kept gd (gd+1) w0 W)) (λt _=>n-(intOf t).toNat)
  case atStart=>exact⟨0,Nat.zero_le _,rfl,HD,Kept.refl _ _ _⟩
  case round=>
   obtain⟨k,hk,rfl,hD,hK3⟩:=hrel
   obtain⟨y0,y1,y2,y3,y4,y5⟩:=HV.out.keep (w':=wr) (by have:=HLt.out;omega) hK3.out (.inl hV)
   rw[hl] at y1
   by_cases hlk:k<n
   ·obtain⟨⟨t1,t2⟩,t3⟩:=HT.out k hlk
    have t4:wr.cell? ⟨gt,ot+k,none⟩=some (.float .f64 (ts.getD k 0)):=by rw[hK3.out.cell (p:=⟨gt,ot+k,none⟩) (by show gt<_;have:=HLt.out;omega) (by show ¬(gd<=gt/\gt<gd+1);omega)];exact t1
    obtain⟨y,hy,_⟩:=DQ.cell hD.out hlk
    have hfz:=DQ.free hD.out k
    have R1:Hid _:=DQ.next (DQ.put hD.out hlk t2) rfl
    have R2:Hid _:=hK3.out.trans (mR wr gd k (ts.getD k 0))
    generalize ts.getD k 0=tk at t4 R1 R2
    clear hD hK3 t1 t2
    go_wp2
    go_roundw
    case rel=>exact⟨k+1,by omega,by go_num,R1,R2⟩
    case measure=>simp[intOf];omega
   ·obtain rfl:k=n:=by omega
    have R1:Hid _:=HQ.out wr hD.out
    have R2:Hid _:=hK3.out
    clear hD hK3
    go_wp2_with fail
    apply HP.out<;>first|exact R1.out.1|exact R1.out.2|exact R2.out
 ·have hne:((i:Int)==(x:Int))=false:=by simp;omega
  have R1:Hid ((x<i->DP w0 gd n ex 0)/\(i<=x->DP w0 gd n ex n)):=⟨λ_=>HD.out,λc=>DP.zero HD.out (h0 (by omega)) n (Nat.le_refl _)⟩
  rw[hne]
  clear hv hd h0 hne HT
  conv=>arg 2;whnf
  go_wp2_with fail
  apply HP.out<;>first|exact R1.out.1|exact R1.out.2|exact Kept.refl _ _ _
theorem Es {bb:Bool}{v:Vl}{p y E M dn dz:Value}(hbb:bb=decide (x<i))(F:MF vs Z T x dss zss i m n v ex)(hv:At w0 V 0 v)(hz:LL w0 gd gz oz m zss)(hV:V<gd)(hO:x<i->∃go co,a=.slice (some ⟨go,0,none⟩) i co/\LL w0 gd go 0 i dss)(h0:x<i->DP w0 gd n ex 0)(h1:i<=x->DP w0 gd n ex n)
  (hP:∀(dN dO dP dQ dR dS dT dU dV dW dX dY dZ d0 d1 d2 d3 d4 d5 d6 d7 d8 d9 ea eb ec ed ee ef eg eh ei ej ek el em en eo ep eq er es et eu ev ew ey ez eA eB eC eD eE eF eG eH eI eJ eK eL eM eN eO eP eQ eR eS eT eU eV eW eX eY eZ e0 e1 e2 e3 e4 e5 e6 e7 e8 e9 fa fb fc fd fe ff fg fh fi fj fk fl fm fn fo fp fq fr fs ft fu fv fw fx fy fz fA fB fC fD fE fF fG fH fI fJ fK fL fM fN fO fP fQ fR fS fT fU fV fW fX fY fZ f0 f1 f2 f3 f4 f5 f6 f7 f8 f9 ga gb gc gf gg gh gi gj gk gl gm gn gp gq gr gs gu gv gw gx gy gA gB gC gD gE gF gG gH gI gJ gK gL gM gN gO gP gQ gR gS gT gU gV gW gX:Value) (W':World),DP W' gd n ex n->Kept gd (gd+1) w0 W'->Post ⟨#[b,.slice (some ⟨gz,oz,none⟩) m cb,c,e,f,g,h,j,l,o,p,q,a,r,.pointer (some ⟨V,0,none⟩),.slice (some ⟨gd,0,none⟩) n n,s,dN,dO,dP,dQ,u,w,y,z,D,E,G,H,I,J,L,M,N,O,P,Q,R,S,U,X,Y,aa,ab,ad,ae,af,ag,ah,ai,aj,ak,dR,dS,dT,dU,dV,dW,dX,dY,dZ,d0,d1,d2,d3,d4,d5,d6,d7,d8,d9,ea,eb,ec,ed,ee,ef,eg,eh,ei,ej,ek,el,em,en,eo,ep,eq,er,es,et,eu,ev,ew,ey,ez,eA,eB,eC,eD,eE,eF,eG,eH,eI,eJ,eK,eL,eM,eN,eO,eP,eQ,eR,eS,eT,eU,eV,eW,eX,eY,eZ,e0,e1,e2,e3,e4,e5,e6,e7,e8,e9,fa,fb,fc,fd,fe,ff,fg,fh,fi,fj,fk,fl,fm,fn,fo,fp,fq,fr,fs,ft,fu,fv,fw,fx,fy,fz,fA,fB,fC,fD,fE,fF,fG,fH,fI,fJ,fK,fL,fM,fN,fO,fP,fQ,fR,fS,fT,fU,fV,fW,fX,fY,fZ,f0,f1,f2,f3,f4,f5,f6,f7,f8,f9,ga,gb,gc,gf,gg,gh,gi,gj,gk,gl,gm,gn,gp,gq,gr,gs,gu,gv,gw,gx,gy,gA,gB,gC,gD,gE,gF,gG,gH,gI,gJ,gK,gL,gM,gN,gO,gP,gQ,gR,gS,gT,gU,gV,gW,gX,al,am,an,ao,ap,aq,ar,au,av,aw,ax,ay,az,aA,aB,aC],[]⟩ W'):
  Code.wp Tryz.prog (Fg 52) (Exit.then Post λ_ _ _=>False) ⟨#[b,.slice (some ⟨gz,oz,none⟩) m cb,c,e,f,g,h,j,l,o,p,q,a,r,.pointer (some ⟨V,0,none⟩),.slice (some ⟨gd,0,none⟩) n n,s,aD,aE,aF,aG,u,w,y,z,D,E,G,H,I,J,L,M,N,O,P,Q,R,S,U,X,Y,aa,ab,ad,ae,af,ag,ah,ai,aj,ak,.bool bb,aH,aI,aJ,aK,aL,aM,aN,aO,aP,aQ,aR,aS,aT,aU,aV,aW,aX,aY,aZ,a0,a1,a2,a3,a4,a5,a6,a7,a8,a9,ba,bc,bd,be,bf,bg,bh,bi,bj,bk,bl,bm,bn,bo,bp,bq,br,bs,bt,bu,bv,bw,bx,bz,bA,bB,bC,bD,bE,bF,bG,bH,bI,bJ,bK,bL,bM,bN,bO,bP,bQ,bR,bS,bT,bU,bV,bW,bX,bY,bZ,b0,b1,b2,b3,b4,b5,b6,b7,b8,b9,ca,cc,cd,ce,cf,cg,ch,ci,cj,ck,cl,cm,cn,cp,cq,cr,cs,ct,cu,cv,cw,cx,cy,cz,cA,cB,cC,cD,cE,cF,cG,cH,cI,cJ,cK,cL,cM,cN,cO,cP,cQ,cR,cS,cT,cU,cV,cW,cX,cY,cZ,c0,c2,c3,c4,c5,c6,c7,c8,c9,da,db,dc,dd,de,df,dg,dh,di,dj,dk,dl,dm,dn,dp,dq,dr,ds,dt,du,dv,dw,dx,dy,dz,dA,dB,dC,dD,dE,dF,dG,dH,dI,dJ,dK,dL,dM,al,am,an,ao,ap,aq,ar,au,av,aw,ax,ay,az,aA,aB,aC],[]⟩ w0:=by
 have HP:Hid _:=hP
 clear hP
 by_cases hix:x<i
 ·have hne:bb=true:=by rw[hbb];exact decide_eq_true hix
  obtain⟨go,co,rfl,hlo⟩:=hO hix
  obtain⟨op,len,A,B,C,K⟩:=v
  have hlen:=F.hlen
  simp only at hlen
  subst hlen
  have HM:Hid (MR w0 V gd go gz oz i m n 0 ⟨op,(n:Int),A,B,C,K⟩ dss zss ex):=⟨hv,hlo,hz,h0 hix,hV⟩
  have HF:Hid _:=F
  have y1:=hv.c1
  simp only at y1
  have hn2:=F.hn2
  subst hne
  clear hv hlo hz h0 h1 hO F hbb
  conv=>arg 2;whnf
  go_wp2_with fail
  clear y1
  go_loopw [17] (λt W=>∃k:Nat,k<=n/\t=.int .i64 (k:Int)/\Hid (MR W V gd go gz oz i m n k ⟨op,(n:Int),A,B,C,K⟩ dss zss ex)/\Hid (Kept gd (gd+1) w0 W)) (λt _=>n-(intOf t).toNat)
  case atStart=>exact⟨0,Nat.zero_le _,rfl,HM,Kept.refl _ _ _⟩
  case round=>
   obtain⟨k,hk,rfl,hM,hK3⟩:=hrel
   by_cases hlk:k<n
   ·have hwi:=HF.out.hwh
    unfold whO at hwi
    simp only at hwi
    rcases hwi with rfl|rfl|rfl|rfl|rfl|rfl|rfl|rfl|rfl|rfl
    ·refine jg (Fh HF.out hix hM.out hlk ?_)
     intros
     rename_i W' hd hk'
     have R1:Hid _:=hM.out.keep hk' hd
     have R2:Hid _:=hK3.out.trans hk'
     clear hd hk'
     go_roundw
     case rel=>(repeat apply Exists.intro);exact⟨⟨k+1,by omega,by go_num,R1,R2⟩,rfl⟩
     case measure=>simp[intOf];omega
    ·refine jg (Fi HF.out hix hM.out hlk ?_)
     intros
     rename_i W' hd hk'
     have R1:Hid _:=hM.out.keep hk' hd
     have R2:Hid _:=hK3.out.trans hk'
     clear hd hk'
     go_roundw
     case rel=>(repeat apply Exists.intro);exact⟨⟨k+1,by omega,by go_num,R1,R2⟩,rfl⟩
     case measure=>simp[intOf];omega
    ·refine jg (Fj HF.out hix hM.out hlk ?_)
     intros
     rename_i W' hd hk'
     have R1:Hid _:=hM.out.keep hk' hd
     have R2:Hid _:=hK3.out.trans hk'
     clear hd hk'
     go_roundw
     case rel=>(repeat apply Exists.intro);exact⟨⟨k+1,by omega,by go_num,R1,R2⟩,rfl⟩
     case measure=>simp[intOf];omega
    ·refine jg (Fk HF.out hix hM.out hlk ?_)
     intros
     rename_i W' hd hk'
     have R1:Hid _:=hM.out.keep hk' hd
     have R2:Hid _:=hK3.out.trans hk'
     clear hd hk'
     go_roundw
     case rel=>(repeat apply Exists.intro);exact⟨⟨k+1,by omega,by go_num,R1,R2⟩,rfl⟩
     case measure=>simp[intOf];omega
    ·refine jg (Fl HF.out hix hM.out hlk ?_)
     intros
     rename_i W' hd hk'
     have R1:Hid _:=hM.out.keep hk' hd
     have R2:Hid _:=hK3.out.trans hk'
     clear hd hk'
     go_roundw
     case rel=>(repeat apply Exists.intro);exact⟨⟨k+1,by omega,by go_num,R1,R2⟩,rfl⟩
     case measure=>simp[intOf];omega
    ·refine jg (Fm HF.out hix hM.out hlk ?_)
     intros
     rename_i W' hd hk'
     have R1:Hid _:=hM.out.keep hk' hd
     have R2:Hid _:=hK3.out.trans hk'
     clear hd hk'
     go_roundw
     case rel=>(repeat apply Exists.intro);exact⟨⟨k+1,by omega,by go_num,R1,R2⟩,rfl⟩
     case measure=>simp[intOf];omega
    ·refine jg (Fy HF.out hix hM.out hlk ?_)
     intros
     rename_i W' hd hk'
     have R1:Hid _:=hM.out.keep hk' hd
     have R2:Hid _:=hK3.out.trans hk'
     clear hd hk'
     go_roundw
     case rel=>(repeat apply Exists.intro);exact⟨⟨k+1,by omega,by go_num,R1,R2⟩,rfl⟩
     case measure=>simp[intOf];omega
    ·refine jg (D4 HF.out hix hM.out hlk ?_)
     intros
     rename_i W' hd hk'
     have R1:Hid _:=hM.out.keep hk' hd
     have R2:Hid _:=hK3.out.trans hk'
     clear hd hk'
     go_roundw
     case rel=>(repeat apply Exists.intro);exact⟨⟨k+1,by omega,by go_num,R1,R2⟩,rfl⟩
     case measure=>simp[intOf];omega
    ·refine jg (D6 HF.out hix hM.out hlk ?_)
     intros
     rename_i W' hd hk'
     have R1:Hid _:=hM.out.keep hk' hd
     have R2:Hid _:=hK3.out.trans hk'
     clear hd hk'
     go_roundw
     case rel=>(repeat apply Exists.intro);exact⟨⟨k+1,by omega,by go_num,R1,R2⟩,rfl⟩
     case measure=>simp[intOf];omega
    ·refine jg (Ea HF.out hix hM.out hlk ?_)
     intros
     rename_i W' hd hk'
     have R1:Hid _:=hM.out.keep hk' hd
     have R2:Hid _:=hK3.out.trans hk'
     clear hd hk'
     go_roundw
     case rel=>(repeat apply Exists.intro);exact⟨⟨k+1,by omega,by go_num,R1,R2⟩,rfl⟩
     case measure=>simp[intOf];omega
   ·obtain rfl:k=n:=by omega
    have R1:Hid _:=hM.out.d
    have R2:Hid _:=hK3.out
    have y1:=hM.out.v.c1
    simp only at y1
    clear hM hK3 HM
    go_wp2_with fail
    apply HP.out<;>first|exact R1.out|exact R2.out
 ·have hne:bb=false:=by rw[hbb];exact decide_eq_false hix
  have R1:Hid _:=h1 (by omega)
  subst hne
  clear hv hz h0 h1 hO hbb F
  conv=>arg 2;whnf
  go_wp2_with fail
  apply HP.out<;>first|exact R1.out|exact Kept.refl _ _ _
def MvO (w:World)(vs:List Vl)(Z:Nat->Nat->Int)(T:Nat->Int)(s x:Nat)(zss:List (List Nat))(e:Ending)(w':World):Prop:=
 (∃v,e=.returned (.tuple #[v,.bool false])/\Kept 0 0 w w')\/(∃a cap dss,e=.returned (.tuple #[.slice a (s+1) cap,.bool true])/\SS w' a (s+1) dss/\MvI vs Z T x dss (s+1)/\(∀j,j<s+1->(zss.getD j []).all (okW m6)=true)/\Kept 0 0 w w')
theorem LL.widen {W:World}{gd' g off:Nat}{L:List (List Nat)}(f:LL W gd g off n L)(h:gd<=gd'):LL W gd' g off n L:=
 ⟨Nat.lt_of_lt_of_le f.lt h,λj hj=>by
  obtain⟨b,o,c,h1,h2,h3⟩:=f.at_ j hj
  exact⟨b,o,c,h1,Nat.lt_of_lt_of_le h2 h,h3⟩⟩
theorem Et {w:World}{a1 a2 a3 b t:Option Addr}{n1 c1 n2 c2 n3 c3 ct lo hi:Nat}{ins:List Int}{outs:List Int}{s:Nat}
  (f:GS w a1 n1 a2 n2 a3 n3 ins vs outs) (hz:SS w b m zss) (hm:s<m) (hm2:m<=1000) (hs:s<n2) (hx:x<n2)
  (ht:FS w lo hi t tn ts) (htl:ln vs x<=tn) (hT:∀k,k<ln vs x->FZ (ts.getD k 0) (T k))
  (hS:∀i,i<n2->Shp vs i) (hw:∀i,i<n2->whO (vd vs i).op) (hcc:∀i,i<n2->(vd vs i).op=11\/(vd vs i).op=12->0<=(vd vs i).c) (hzl:∀i,i<m->(zss.getD i []).length=ln vs i) (hml:m<=n2)
  (hZ:∀i,i<=s->(∀j,j<i->(zss.getD j []).all (okW m6)=true)->∀j,j<i->∀k,k<ln vs j->FZ ((zss.getD j []).getD k 0) (Z j k)/\-1000000<=Z j k/\Z j k<=1000000):
  Calls Tryz.prog 7 #[ip a1 n1 c1 a2 n2 c2 a3 n3 c3,.slice b m cb,.int .i64 (s:Int),.int .i64 (x:Int),.slice t tn ct] w (MvO w vs Z T s x zss):=by
 have f3:=oJ
 obtain⟨i0,hi0,hz0,hz1,hz2⟩:=info_parts ui
 have hll:∀j,j<m->0<(zss.getD j []).length:=λj hj=>by
  have:=(hS j (by omega)).len
  rw[hzl j hj]
  show 0<(vd vs j).len.toNat
  omega
 obtain⟨gz,oz,rfl,hzz⟩:=hz.ll (by omega) hll (Nat.le_refl _)
 have hlx:=(hS x hx).len
 have hlx2:0<ln vs x:=by show 0<(vd vs x).len.toNat;omega
 obtain⟨gt,ot,rfl,gt1,gt2⟩:∃gt ot,t=some ⟨gt,ot,none⟩/\gt<w.heap.size/\∀k,k<tn->w.cell? ⟨gt,ot+k,none⟩=some (.float .f64 (ts.getD k 0)):=by
  rcases ht.at_ with h0|⟨g,off,e,_,_,h3,h4⟩
  ·omega
  ·exact⟨g,off,e,h3,h4⟩
 have k0:=hU 0 0 w (iv a1 n1 c1 a2 n2 c2 a3 n3 c3)
 have HB:Hid _:=iO w (.slice a1 n1 c1) (.slice a2 n2 c2) (.slice a3 n3 c3)
 have HK:Hid _:=k0
 have HF:Hid _:=f
 have HZS:Hid _:=hz
 have HZLL:Hid _:=hzz
 have HTC:Hid _:=gt2
 have HTT:Hid _:=hT
 have HS:Hid _:=hS
 have HW:Hid _:=hw
 have HZL:Hid _:=hzl
 have HZZ:Hid _:=hZ
 have HCC:Hid _:=hcc
 have HSZ:Hid (w.heap.size<=(w.alloc (iv a1 n1 c1 a2 n2 c2 a3 n3 c3)).heap.size):=by show _<=_;simp
 clear k0 f hz hzz gt2 hT hS hw hzl hZ hcc ht hll hlx hlx2
 go_enter Tryz.func7,Tryz.ntmps7
 go_wp2_with fail
 generalize w.alloc (iv a1 n1 c1 a2 n2 c2 a3 n3 c3)=w1 at HB HK HSZ ⊢
 go_loopw [12,13] (λu t W=>∃(i:Nat) (dss:List (List Nat)),i<=s+1/\t=.int .i64 (i:Int)/\Hid (AR W w1.heap.size u i dss)/\Hid (dss.length=i)/\Hid (MvI vs Z T x dss i)/\Hid (∀j,j<i->(zss.getD j []).all (okW m6)=true)/\Hid (Kept 0 0 w1 W)) (λ_ t _=>s+1-(intOf t).toNat)
 case atStart=>exact⟨0,[],Nat.zero_le _,rfl,AR.nil _ _ _,rfl,λj hj=>absurd hj (Nat.not_lt_zero _),λj hj=>absurd hj (Nat.not_lt_zero _),Kept.refl _ _ _⟩
 case round=>
  obtain⟨W1,hW1⟩:∃W1,W1=wr:=⟨_,rfl⟩
  subst hW1
  obtain⟨i,dss,hi,rfl,hA,hL,hM,hO,hK⟩:=hrel
  have HSS:Hid (∃a cap,u12=.slice a i cap/\SS W1 a i dss):=hA.out.ssz hL.out λj hj q hq=>⟨_,((hM.out j hj).2 q (by rw[<-(hM.out j hj).1];exact hq)).1⟩
  by_cases hlt:i<=s
  ·have HKw:Hid (Kept 0 0 w W1):=HK.out.trans hK.out
   have q1:=(G0.keep HB.out hK.out).q1
   rcases (HF.out.keep HKw.out).v.at_ with z0|⟨ga,oa,ea,z1,z2,z3,z4⟩
   ·omega
   have hat:At W1 ga (oa+i*6) (vd vs i):=z4 i (by omega)
   have hSi:=HS.out i (by omega)
   have hln:=hSi.len
   have hwi:=HW.out i (by omega)
   have hci:=HCC.out i (by omega)
   cases ea
   clear z1 z2 z3 z4 hSi
   generalize hv:vd vs i=v at hat hln hwi hci
   have HV:Hid (vd vs i=v):=hv
   clear hv
   obtain⟨op,len,A,B,C,K⟩:=v
   obtain⟨n,hn⟩:∃n:Nat,len=(n:Int):=⟨len.toNat,by have:1<=len/\len<=1000:=hln;omega⟩
   subst hn
   simp only at hat hln
   have hnl:ln vs i=n:=by show(vd vs i).len.toNat=n;rw[HV.out];rfl
   have HNL:Hid (ln vs i=n):=hnl
   have hn1:1<=n:=by omega
   have hn2:n<=1000:=by omega
   have HMF:Hid (∀ex,ex=lC vs Z (dz dss) x T i->MF vs Z T x dss zss i m n ⟨op,(n:Int),A,B,C,K⟩ ex):=λex hex=>⟨hex,HV.out,hnl,rfl,hn1,hn2,HS.out i (by omega),hwi,hM.out,HZZ.out i hlt hO.out,λj hj=>HZL.out j (by omega),by omega,hm2,hci,λj hj=>by
    have:=(HS.out j (by omega)).len
    constructor
    ·show 1<=(vd vs j).len.toNat
     omega
    ·show(vd vs j).len.toNat<=1000
     omega⟩
   clear hwi hci hln hnl
   have kb:=hU 0 0 W1 (ij op (n:Int) A B C K)
   have hmk:=lT n (W1.alloc (ij op (n:Int) A B C K)) (by omega)
   have ka:=hU 0 0 (W1.alloc (ij op (n:Int) A B C K)) (.cells (madeCells #[.float .f64 0] n) 29)
   obtain⟨ex,hex⟩:∃ex,ex=lC vs Z (dz dss) x T i:=⟨_,rfl⟩
   have HE:Hid _:=hex
   have HDP:Hid _:=ze (W1.alloc (ij op (n:Int) A B C K)) n ex
   have HVX:Hid _:=(s8 W1 ⟨op,(n:Int),A,B,C,K⟩).keep (by simp) ka (.inr (.inr (Nat.le_refl _)))
   have hgd:(W1.alloc (ij op (n:Int) A B C K)).heap.size=W1.heap.size+1:=by simp
   rw[hgd] at HDP hmk
   have HK3:Hid (Kept 0 0 W1 ((W1.alloc (ij op (n:Int) A B C K)).alloc (.cells (madeCells #[.float .f64 0] n) 29))):=kb.trans ka
   clear kb ka hex hgd
   obtain⟨d0,d1,d2,d3,d4,d5⟩:=hat
   generalize (W1.alloc (ij op (n:Int) A B C K)).alloc (.cells (madeCells #[.float .f64 0] n) 29)=W3 at hmk HDP HVX HK3
   have HZ3:Hid (LL W3 w.heap.size gz oz m zss):=HZLL.out.keep (HKw.out.trans HK3.out) (.inr (Nat.le_refl _)) (Nat.le_refl _)
   simp only at d0 d1 d2 d3 d4 d5
   go_upto_if 36 with fail
   clear hmk d0 d1 d2 d3 d4 d5 q1
   have HSz:Hid (w.heap.size<=W1.heap.size/\W1.heap.size+1<W3.heap.size):=⟨HKw.out.size,DQ.lt HDP.out⟩
   refine jg (Er (ts:=ts) (ex:=ex) HVX.out rfl hn2 (Nat.lt_succ_self _) (by have:=HSz.out;omega) HDP.out (λc k _=>by rw[HE.out];unfold lC;rw[if_pos c]) (λc k hk=>?_) ?_)
   ·have h1:=HNL.out
    rw[c] at h1
    refine⟨⟨?_,?_⟩,by omega⟩
    ·rw[(HKw.out.trans HK3.out).cell (p:=⟨gt,ot+k,none⟩) gt1 (by omega)];exact HTC.out k (by omega)
    ·rw[HE.out]
     unfold lC
     rw[if_neg (by omega),if_pos c]
     exact HTT.out k (by omega)
   intros
   rename_i W4 hd1 hd2 k4
   have HD1:Hid _:=hd1
   have HD2:Hid _:=hd2
   have HK4:Hid _:=k4
   clear hd1 hd2 k4 HDP
   go_upto_if 52 with fail
   have HSz4:Hid (W1.heap.size+1<W4.heap.size):=by show _<_;have:=HSz.out;have:=HK4.out.size;omega
   refine jg (Es ?hbb (HMF.out ex HE.out) (HVX.out.keep (by have:=HSz.out;omega) HK4.out (.inl (Nat.lt_succ_self _))) (gd:=W1.heap.size+1) (LL.widen (HZ3.out.keep HK4.out (.inl (by have:=HSz.out;omega)) (by have:=HSz.out;omega)) (by have:=HSz.out;omega)) (Nat.lt_succ_self _) (λc=>?_) HD1.out HD2.out ?_)
   case hbb=>first|rfl|(simp;done)|(apply decide_eq_decide.2;omega)
   ·obtain⟨ao,co,eo,hso⟩:=HSS.out
    obtain⟨go,oo,rfl,hlo⟩:∃go oo,ao=some ⟨go,oo,none⟩/\LL W1 W1.heap.size go oo i dss:=hso.ll (by omega) (λj hj=>by
     have h1:=(hM.out j hj).1
     have h2:=(HS.out j (by omega)).len
     rw[h1]
     show 0<(vd vs j).len.toNat
     omega) (Nat.le_refl _)
    have hoo:oo=0:=by
     obtain⟨g',c',e',_⟩:=hA.out.cell (by omega)
     rw[eo] at e'
     cases e'
     rfl
    subst hoo
    exact⟨go,co,eo,LL.widen ((hlo.keep HK3.out (.inr (Nat.le_refl _)) (Nat.le_refl _)).keep HK4.out (.inl (Nat.le_succ _)) (by have:=HSz.out;omega)) (Nat.le_succ _)⟩
   intros
   rename_i W5 hd5 k5
   have HDX:Hid (DP W5 (W1.heap.size+1) n ex n):=hd5
   have HKX:Hid (Kept 0 0 W1 W5):=(HK3.out.new HK4.out (by omega)).new k5 (by omega)
   clear hd5 k5 HD1 HD2 HK4 HSz4 HSz
   have kX:Kept 0 0 W1 W5:=HKX.out
   obtain⟨xs,x1,x2,_,_,x5⟩:=HDX.out
   have hwx:=zh x1 x2
   have HFR:Hid (FR W5 (W1.heap.size+1) xs):=x5
   have HW1:Hid _:=vq (cap:=n) (FR.fs (lo:=0) (hi:=W5.heap.size) x5 hwx (Nat.zero_le _) (FR.lt x5)) (by omega) m6
   rw[x1] at HW1
   rcases (HZS.out.keep (HKw.out.trans kX)).at_ with z0|⟨gb,ob,eb,y1,y2⟩
   ·omega
   cases eb
   obtain⟨bz,cz,g1,_,g3⟩:=y2 i (by omega)
   have HZl:Hid (∀X',Kept 0 0 W5 X'->X'.cell? ⟨gz,oz+i,none⟩=some (.slice bz (zss.getD i []).length cz)):=λX' k=>by rw[k.cell (p:=⟨gz,oz+i,none⟩) y1 (by omega)];exact g1
   have HW2:Hid (∀X',Kept 0 0 W5 X'->_):=λX' k=>vq (cap:=cz) (g3.keep0 k) (by have h1:=HZL.out i (by omega);have h2:=HNL.out;omega) m6
   have HAR:Hid (AR W5 w1.heap.size u12 i dss):=hA.out.keep kX
   have HX1:Hid (xs.length=ln vs i/\(∀k,k<ln vs i->FZ (xs.getD k 0) (lC vs Z (dz dss) x T i k))/\(∀y∈xs,y<18446744073709551616)/\xs.length=n):=⟨by rw[x1,HNL.out],λk hk=>by rw[<-HE.out];exact x2 k (by rw[<-HNL.out];exact hk),hwx,x1⟩
   have HKwX:Hid _:=HKw.out.trans kX
   have HK1X:Hid _:=hK.out.trans kX
   clear x1 x2 x5 y1 y2 g1 g3 hwx
   cases hb1:xs.all (okW m6)
   ·rw[hb1] at HW1
    go_wp2_with fail
    refine Calls.mono HW1.out ?_
    rintro e' X1 ⟨rfl,kx1⟩
    have R:Hid _:=HKwX.out.trans kx1
    clear kx1
    go_wp2
    go_ret2
    exact .inl ⟨_,rfl,R.out⟩
   ·rw[hb1] at HW1
    go_wp2_with fail
    refine Calls.mono HW1.out ?_
    rintro e' X1 ⟨rfl,kx1⟩
    have hc1:=HZl.out X1 kx1
    have HW3:Hid _:=HW2.out X1 kx1
    have HKx1:Hid _:=kx1
    clear kx1 HW2
    cases hb2:(zss.getD i []).all (okW m6)
    ·rw[hb2] at HW3
     generalize (zss.getD i []).length=zl at hc1 HW3
     go_wp2_with fail
     refine Calls.mono HW3.out ?_
     rintro e' X2 ⟨rfl,kx2⟩
     have R:Hid _:=HKwX.out.trans (HKx1.out.trans kx2)
     clear kx2
     go_wp2
     go_ret2
     exact .inl ⟨_,rfl,R.out⟩
    ·rw[hb2] at HW3
     generalize (zss.getD i []).length=zl at hc1 HW3
     go_wp2_with fail
     refine Calls.mono HW3.out ?_
     rintro e' X2 ⟨rfl,kx2⟩
     have HKx2:Hid _:=HKx1.out.trans kx2
     obtain⟨us,hown,hus⟩:=AR.keep HAR.out HKx2.out
     obtain⟨us',hown',_⟩:=hA.out
     have hsz:w1.heap.size<=X2.heap.size:=(HK1X.out.trans HKx2.out).size
     have hszW:W1.heap.size<=W5.heap.size:=kX.size
     have HUS:Hid _:=hus
     have HO1:Hid _:=hown'
     clear kx2 hc1 hus hown'
     go_wp2_with (first|(at_builtin;refine wpList_append_lies _ rfl _ _ 32 rfl w1.heap.size 36 i0 (.slice none 0 0) 1 24 Tryz.underlying32 hi0 hz0 hz1 hz2 rfl (by decide) _ _ us rfl (hown.alloc _) ⟨X2.heap.size,0,none⟩ 1 1 [.slice (some ⟨W1.heap.size+1,0,none⟩) n n] rfl rfl ?c1 ?c2 (by decide) ?c3 ?c4 ?c5 _ rfl ?_))
     case c1=>exact cell_one_new _ _ _
     case c2=>intro u hu;simp at hu;subst hu;rfl
     case c3=>unfold maxLen;omega
     case c4=>omega
     case c5=>simp;omega
     intro g9 cap9 w9 hown9 hg9 hat9 _
     have R1:Hid (AR w9 w1.heap.size (.slice (some ⟨g9,0,none⟩) (i+1) cap9) (i+1) (dss++[xs])):=by
      have hF2:=FR.keep HFR.out HKx2.out (.inr (.inr (Nat.le_refl _)))
      have hFS:=FR.fs (lo:=0) (hi:=X2.heap.size) hF2 HX1.out.2.2.1 (Nat.zero_le _) (FR.lt hF2)
      rw[HX1.out.2.2.2] at hFS
      exact AR.step (W:=X2) (Vs:=dss) hown HUS.out (x:=xs) ⟨_,_,_,xs,rfl,Nat.le_refl _,hFS,rfl⟩ (λ_ p hp c=>by
       cases hp
       have:=(jW HO1.out c).2
       have:W1.heap.size+1<W1.heap.size:=this
       omega) hown9 hg9 (by rcases hat9 with h|h;exact .inl h;exact .inr (by rw[h];simp)) (λj hj=>qH (by rw[hL.out];exact hj)) (nU hL.out)
     have R2:Hid (Kept 0 0 w1 w9):=jS (base:=w1.heap.size) hg9 (λi hi=>(jW hown hi).1) ((HK1X.out.trans HKx2.out).trans (hU 0 0 X2 _)) (Nat.le_refl _)
     have R3:Hid (MvI vs Z T x (dss++[xs]) (i+1)):=hM.out.snoc hL.out (λj hj=>HS.out j (by omega)) (λj hj=>HW.out j (by omega)) HX1.out.1 HX1.out.2.1 hb1
     have R4:Hid (∀j,j<i+1->(zss.getD j []).all (okW m6)=true):=λj hj=>by
      by_cases c:j<i
      ·exact hO.out j c
      ·rw[show j=i by omega];exact hb2
     clear hown9 hg9 hat9 hown HUS HO1 hA
     go_wp2
     go_roundw
     case rel=>exact⟨i+1,dss++[xs],by omega,by go_num,R1,by show(dss++[xs]).length=i+1;rw[List.length_append,hL.out];rfl,R3,R4,R2⟩
     case measure=>simp[intOf];omega
  ·obtain rfl:i=s+1:=by omega
   obtain⟨a',cap',rfl,hss⟩:=HSS.out
   have R:Hid _:=hss
   have RK:Hid (Kept 0 0 w W1):=HK.out.trans hK.out
   have es:((s+1:Nat):Int)=(s:Int)+1:=rfl
   clear hss hA
   go_wp2
   go_ret2
   exact .inr ⟨a',cap',dss,rfl,R.out,hM.out,hO.out,RK.out⟩
def Fz (w':World)(n1 n3:Nat)(ins outs:List Int)(M:List Vl×Int)(e:Ending):Prop:=
 ∃b1 d1 b3 d3 a2 cap,e=.returned (.tuple #[ip b1 n1 d1 a2 M.1.length cap b3 n3 d3,.int .i64 M.2,.int .i64 0])/\GS w' b1 n1 a2 M.1.length b3 n3 ins M.1 outs
end Go.Proofs.YtnlffngpnoodkaaGreat
