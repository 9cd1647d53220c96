import Derived.Test.YtnlffngpnoodkaaGreatP51
namespace Go.Proofs.YtnlffngpnoodkaaGreat
set_option maxRecDepth 1000000
set_option maxHeartbeats 0
open Go.RowKit Flt
attribute [local go_sem] ic ib ia
noncomputable def FE:Code:=(Tryz.f3.body.bind (rT 31)).getD .skip
theorem FS.at1 {w:World}{lo hi n:Nat}{a:Option Addr}{xs:List Nat}(f:FS w lo hi a n xs)(hn:0<n):∃g off,a=some ⟨g,off,none⟩/\∀k,k<n->w.cell? ⟨g,off+k,none⟩=some (.float .f64 (xs.getD k 0)):=by
 rcases f.at_ with h0|⟨g,off,e,_,_,_,h4⟩
 ·omega
 ·exact⟨g,off,e,h4⟩
theorem wm {a b:Int}(ha:-1000000000000<=a/\a<=1000000000000)(hb:-3<=b/\b<=3):-3000000000000<=a*b/\a*b<=3000000000000:=by
 have h1:a.natAbs<=1000000000000:=by omega
 have h2:b.natAbs<=3:=by omega
 have h3:(a*b).natAbs<=1000000000000*3:=by rw[Int.natAbs_mul];exact Nat.mul_le_mul h1 h2
 omega
theorem zO {w W:World}{aa ab bt:Option Addr}{ca cb ct l fw:Nat}{ts VJ VG:List Nat}{zsa zsb:List (List Nat)}{zg T:Nat->Int}{D:Int}{a b c d g h i m n o s v x y A C E F G H I J K L M N O P Q S U V X Y Z ad ae af ag ah ai aj ak al am an ao ap aq ar au av aw ax ay az aA aB aC aD aE aF aG aH aI aJ aK aL aM aN aO aP aQ aR aS aT aU aV aW aX aY aZ a0 a1 a2 a3 a4 a5 a6 a7 a8 a9 bc bd be bf bg bh bi bj bk bl bm bn bo bp bq br bs bu bv bw bx bz bA bB bC bD bE bF bG bH bI bJ bK bL bM bN bO bP bQ bR bS bT bU bV bW bX bY bZ b0 b1 b2 b3 b4 b5 b6 b7 b8 b9 cc cd ce cf cg ch ci cj ck cl cm cn co cp cq cr cs cu cv cw cx cz cA cB cC cD cE cF cG cH cI cJ cK cL cM cN cO cP cQ cR cS cT cU cV cW cX cY cZ c0 c1 c2 c3 c4 c5 c6 c7 c8 c9 da db dc dd de df dg dh di dj dk dl dm dn dp dq dr ds dt du dv dw dx dy dz dA dB dC dD dE dF dG dH dI dJ dK dL dM dN dO dP dQ dR dS dT dU dV dW dX dY dZ d0 d1 d2 d3 d4 d5 d6 d7 d8 d9:Value}(HK:Kept 0 0 w W)(hZa:SS W aa 1 zsa/\same (zsa.getD 0 []) VJ)(hZb:SS W ab 1 zsb/\same (zsb.getD 0 []) VG)(hVJ:VJ.length=1/\FZ (VJ.getD 0 0) D)(hVG:VG.length=l/\∀k,k<l->FZ (VG.getD k 0) (zg k)/\-1000000000000<=zg k/\zg k<=1000000000000)(hdot:ld zg T l=D)(hl1:1<=l)(hl2:l<=1000)(hw:FZ fw D)(ht:FS W 0 W.heap.size bt l ts)(hT:∀k,k<l->FZ (ts.getD k 0) (T k)/\-3<=T k/\T k<=3):
  Code.wp Tryz.prog FE (bodyPost Tryz.prog Tryz.f3 λe w'=>e=.returned (.bool true)/\Kept 0 0 w w') ⟨#[a,b,c,d,g,h,i,m,n,.int .i64 (l:Int),o,s,v,x,.slice bt l ct,y,A,.float .f64 fw,C,E,F,G,H,I,J,K,L,M,N,O,P,Q,S,U,V,X,Y,Z,.slice aa 1 ca,.int .i64 0,.slice ab 1 cb,.int .i64 0,ad,ae,af,ag,ah,ai,aj,ak,al,am,an,ao,ap,aq,ar,au,av,aw,ax,ay,az,aA,aB,aC,aD,aE,aF,aG,aH,aI,aJ,aK,aL,aM,aN,aO,aP,aQ,aR,aS,aT,aU,aV,aW,aX,aY,aZ,a0,a1,a2,a3,a4,a5,a6,a7,a8,a9,bc,bd,be,bf,bg,bh,bi,bj,bk,bl,bm,bn,bo,bp,bq,br,bs,bu,bv,bw,bx,bz,bA,bB,bC,bD,bE,bF,bG,bH,bI,bJ,bK,bL,bM,bN,bO,bP,bQ,bR,bS,bT,bU,bV,bW,bX,bY,bZ,b0,b1,b2,b3,b4,b5,b6,b7,b8,b9,cc,cd,ce,cf,cg,ch,ci,cj,ck,cl,cm,cn,co,cp,cq,cr,cs,cu,cv,cw,cx,cz,cA,cB,cC,cD,cE,cF,cG,cH,cI,cJ,cK,cL,cM,cN,cO,cP,cQ,cR,cS,cT,cU,cV,cW,cX,cY,cZ,c0,c1,c2,c3,c4,c5,c6,c7,c8,c9,da,db,dc,dd,de,df,dg,dh,di,dj,dk,dl,dm,dn,dp,dq,dr,ds,dt,du,dv,dw,dx,dy,dz,dA,dB,dC,dD,dE,dF,dG,dH,dI,dJ,dK,dL,dM,dN,dO,dP,dQ,dR,dS,dT,dU,dV,dW,dX,dY,dZ,d0,d1,d2,d3,d4,d5,d6,d7,d8,d9],[]⟩ W:=by
 have ea:zsa.getD 0 []=VJ:=pR hZa.2 λk hk=>by
  have:k=0:=by omega
  subst this
  exact⟨_,hVJ.2⟩
 have eb:zsb.getD 0 []=VG:=pR hZb.2 λk hk=>⟨_,(hVG.2 k (by omega)).1⟩
 obtain⟨ga,oa,rfl,_,ba,cca,ha1,ha3⟩:=hZa.1.at0 (j:=0) (by omega)
 obtain⟨gb,ob,rfl,_,bb,ccb,hb1,hb3⟩:=hZb.1.at0 (j:=0) (by omega)
 rw[ea,hVJ.1,Nat.add_zero] at ha1
 rw[ea,hVJ.1] at ha3
 rw[eb,hVG.1,Nat.add_zero] at hb1
 rw[eb,hVG.1] at hb3
 obtain⟨gx,ox,rfl,hx⟩:=ha3.at1 (by omega)
 obtain⟨gy,oy,rfl,hy⟩:=hb3.at1 (by omega)
 obtain⟨gt,ot,rfl,htc⟩:=ht.at1 (by omega)
 have hx0:=hx 0 (by omega)
 rw[Nat.add_zero] at hx0
 have HKw:Hid _:=HK
 have HY:Hid _:=hy
 have HTC:Hid _:=htc
 have HT:Hid _:=hT
 have HG:Hid _:=hVG.2
 have HD:Hid _:=hdot
 have HA1:Hid _:=ha1
 have HB1:Hid _:=hb1
 have HX0:Hid _:=hx0
 have HO1:Hid ((f64.order (VJ.getD 0 0) fw==some .eq)=true):=by
  show _=true
  rw[qt hVJ.2 hw,Int.compare_eq_eq.2 rfl]
  rfl
 have HW:Hid _:=hw
 generalize VJ.getD 0 0=fj at hx0 HX0 HO1
 clear HK hZa hZb hVJ hVG hdot ht hT hx hy htc ha3 hb3 ea eb hw hx0
 conv=>arg 2;whnf
 go_wp2_with fail
 clear ha1 hb1
 go_loopw [42,43] (λt u W'=>∃k f:Nat,k<=l/\t=.float .f64 f/\u=.int .i64 (k:Int)/\Hid (FZ f (iX (λq=>zg q*T q) k))/\Hid (Drawn W W')) (λ_ u _=>l-(intOf u).toNat)
 case atStart=>exact⟨0,0,Nat.zero_le _,rfl,rfl,lk 0 (by decide),Drawn.refl _⟩
 case round=>
  obtain⟨k,f,hk,rfl,rfl,hF,hD⟩:=hrel
  have cb1:=(hD.out.cell _).trans HB1.out
  have ca1:=(hD.out.cell _).trans HA1.out
  have cx0:=(hD.out.cell _).trans HX0.out
  by_cases hlt:k<l
  ·have cy:=(hD.out.cell _).trans (HY.out k hlt)
   have ctk:=(hD.out.cell _).trans (HTC.out k hlt)
   obtain⟨g1,g2⟩:=HG.out k hlt
   obtain⟨t1,t2⟩:=HT.out k hlt
   have hpb:=wm g2 t2
   have hsm:=pN (z:=λq=>zg q*T q) (B:=3000000000000) (by decide) k λq hq=>wm (HG.out q (by omega)).2 (HT.out q (by omega)).2
   obtain⟨p,hp,fp⟩:=nj (op:=.mul) (sU g1 t1 (by omega))
   obtain⟨r,hr,fr⟩:=nj (op:=.add) (pj hF.out hp (by omega))
   have R:Hid (FZ r (iX (λq=>zg q*T q) (k+1))):=hr
   have j0:(0:Int)<=(k:Int):=by omega
   have j1:(k:Int)<(l:Int):=by omega
   generalize VG.getD k 0=gv at cy fp
   generalize ts.getD k 0=tv at ctk fp
   clear g1 g2 t1 t2 hpb hsm hp hr hF ca1 cx0
   go_wp2_with fail
   go_quiet (fail)
   go_wp2
   go_roundw
   case rel=>exact⟨k+1,r,by omega,rfl,by go_num,R,Drawn.more hD.out _⟩
   case measure=>simp[intOf];omega
  ·obtain rfl:k=l:=by omega
   have o1:=HO1.out
   have o2:(f64.order f fw==some .eq)=true:=by
    have h1:FZ f (ld zg T k):=hF.out
    rw[HD.out] at h1
    rw[qt h1 HW.out,Int.compare_eq_eq.2 rfl]
    rfl
   have R:Hid _:=HKw.out.trans (Drawn.kept hD.out 0 0)
   clear hF hD
   go_wp2
   go_ret
   exact⟨rfl,R.out⟩
end Go.Proofs.YtnlffngpnoodkaaGreat
