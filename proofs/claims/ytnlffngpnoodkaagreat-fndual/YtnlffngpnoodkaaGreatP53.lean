import Derived.Test.YtnlffngpnoodkaaGreatP52
namespace Go.Proofs.YtnlffngpnoodkaaGreat
set_option maxRecDepth 1000000
set_option maxHeartbeats 0
open Go.RowKit Flt
attribute [local go_sem] ic ib ia
theorem xu {w W:World}{a b bt:Option Addr}{n cap nm cm Q g1 c1 s x l mv mi ct fw:Nat}{ys:List Int}{TT:List Int×List Vl×List Int×Nat}{vs fs gs:List Vl}{J G:Int}{dss:List (List Nat)}{d f g m o r t u v y z A B C D E F H I K L M N O P R S T U V Y Z ad ae af ag ah aj ak al am an ao ap aq ar au av aw ax ay az aA aB aC aD aE aF aG aH aI aJ aK aL aM aN aO aP aQ aR aS aT aU aV aW aX aY aZ a0 a1 a2 a3 a4 a5 a6 a7 a8 a9 ba bb bc bd be bf bg bh bi bj bk bl bm bn bo bp bq br bs bu bv bw bx bz bA bB bC bD bE bF bG bH bI bJ bK bL bM bN bO bP bQ bR bS bT bU bV bW bX bY bZ b0 b4 b5 b6 b7 b8 b9 cc cd ce cf cg ch cj ck cl cn co cp cq cr cs cu cv cw cx cy cz cA cB cC cD cE cF cG cH cI cJ cK cL cM cN cO cP cQ cR cS cT cU cV cW cX cY cZ c0 c2 c3 c4 c5 c6 c7 c8 c9 da db dd de df dh di dj dk dl dm dn dp dq dr ds dt du dv dw dx dy dA dB dC dD dE dF dG dH dI dJ dK dL dM dN dO dP dQ dR dS dU dV dW dX dY dZ d0 d4 d5 d6 d7 d8 d9 ea eb ec ed ee ef eg eh ei ej ek el:Value}(HY:YS w b nm ys)(hnm:nm<=1048576)(HK:Kept 0 0 w W)(HT:TkG ys TT s x vs)(hF:ty TT/\rg TT (s:Int) (x:Int))(hmi:mi=TT.1.length)(hmv:mv=vs.length)(hl:(vs.getD x Vl.zero).len=(l:Int))
  (HD:∀W',Kept 0 0 w W'->Calls Tryz.prog 4 #[.slice a n cap,.slice b nm cm] W' (DuA W' ys TT (s:Int) (x:Int)))
  (HQ:W.cell? ⟨Q,0,none⟩=some (.slice (some ⟨g1,0,none⟩) (mi+1) c1)/\Q<W.heap.size) (HI:IS W 0 W.heap.size (some ⟨g1,0,none⟩) (mi+1) (iP TT.1 vs x)) (Ht:FS W 0 W.heap.size bt l (dT ys TT.1 vs x))
  (HMI:MvI (duV ys TT.1 vs x) (zV (inM ys (iP TT.1 vs x)) (duV ys TT.1 vs x)) (λk=>zf ((dT ys TT.1 vs x).getD k 0)) x dss (s+1)) (HFw:FZ fw (if x<=s then dz dss s 0 else 0))
  (hf:jf (duV ys TT.1 vs x) s x vs.length=(fs,J)) (hg:grM (duV ys TT.1 vs x) s x=(gs,G)) (hl1:jR fs=false) (hl2:jR gs=false)
  (hs1:∀i,i<fs.length->SmO m12 (iP TT.1 vs x) fs (inM ys (iP TT.1 vs x)) fs.length i) (hs2:∀i,i<gs.length->SmO m12 (iP TT.1 vs x) gs (inM ys (iP TT.1 vs x)) gs.length i):
  Code.wp Tryz.prog Ez (bodyPost Tryz.prog Tryz.f3 λe w'=>e=.returned (.bool true)/\Kept 0 0 w w') ⟨#[.slice a n cap,.slice b nm cm,d,f,g,.pointer (some ⟨Q,0,none⟩),.int .i64 (s:Int),.int .i64 (x:Int),m,.int .i64 (l:Int),.int .i64 (mv:Int),o,r,t,.slice bt l ct,u,v,.float .f64 fw,y,z,A,B,C,D,E,F,H,I,K,L,M,N,O,P,R,S,T,U,V,Y,Z,ad,ae,af,ag,ah,aj,ak,al,am,an,ao,ap,aq,ar,au,av,aw,ax,ay,az,aA,aB,aC,aD,aE,aF,aG,aH,aI,aJ,aK,aL,aM,aN,aO,aP,aQ,aR,aS,aT,aU,aV,aW,aX,aY,aZ,a0,a1,a2,a3,a4,a5,a6,a7,a8,a9,ba,bb,bc,bd,be,bf,bg,bh,bi,bj,bk,bl,bm,bn,bo,bp,bq,br,bs,bu,bv,bw,bx,bz,bA,bB,bC,bD,bE,bF,bG,bH,bI,bJ,bK,bL,bM,bN,bO,bP,bQ,bR,bS,bT,bU,bV,bW,bX,bY,bZ,b0,b4,b5,b6,b7,b8,b9,cc,cd,ce,cf,cg,ch,cj,ck,cl,cn,co,cp,cq,cr,cs,cu,cv,cw,cx,cy,cz,cA,cB,cC,cD,cE,cF,cG,cH,cI,cJ,cK,cL,cM,cN,cO,cP,cQ,cR,cS,cT,cU,cV,cW,cX,cY,cZ,c0,c2,c3,c4,c5,c6,c7,c8,c9,da,db,dd,de,df,dh,di,dj,dk,dl,dm,dn,dp,dq,dr,ds,dt,du,dv,dw,dx,dy,dA,dB,dC,dD,dE,dF,dG,dH,dI,dJ,dK,dL,dM,dN,dO,dP,dQ,dR,dS,dU,dV,dW,dX,dY,dZ,d0,d4,d5,d6,d7,d8,d9,ea,eb,ec,ed,ee,ef,eg,eh,ei,ej,ek,el],[]⟩ W:=by
 have hs5:=HT.s5
 have h60:=HT.l60
 have h20:=HT.i20
 have hsl:=HT.dc.hs
 have hxl:=HT.dc.hx
 rw[<-hmi] at h20
 rw[<-hmv] at h60 hsl hxl
 have hHY:Hid _:=HY
 have hHK:Hid _:=HK
 have hHT:Hid _:=HT
 have hHF:Hid _:=hF
 have hHE:Hid (mi=TT.1.length/\mv=vs.length):=⟨hmi,hmv⟩
 have hHL:Hid _:=hl
 have hHD:Hid _:=HD
 have hHQ:Hid _:=HQ
 have hHI:Hid _:=HI
 have hHt:Hid _:=Ht
 have hHM:Hid _:=HMI
 have hHW:Hid _:=HFw
 have hHf:Hid _:=hf
 have hHg:Hid _:=hg
 have hHl1:Hid _:=hl1
 have hHl2:Hid _:=hl2
 have hHs1:Hid _:=hs1
 have hHs2:Hid _:=hs2
 clear HY HK HT hF hmi hmv hl HD HQ HI Ht HMI HFw hf hg hl1 hl2 hs1 hs2
 conv=>arg 2;whnf
 go_wp2_with fail
 refine Calls.mono (hHD.out W hHK.out) ?_
 rintro e W1 (⟨_,_,hq⟩|⟨hno,_⟩)
 case inr=>exact absurd hHF.out hno
 obtain⟨y1,e1,y2,e2,y3,e3,n1,n2,n3,vs2,rfl,hsv,⟨en1,en2,en3⟩,hdg,k1⟩:=hq
 simp only[Int.toNat_natCast] at en3 hdg
 have hT2:=zM (ys:=ys) hHF.out.1 hHF.out.2 hsv hHT.out.dc.hy
 obtain⟨t1,t2,_⟩:=hHT.out.two hT2
 obtain⟨fs2,hjr,hn2,hlm⟩:=hHT.out.jv hT2 hHf.out hHl1.out
 have HT2:Hid _:=hT2
 have HLM:Hid _:=hlm
 rw[<-hHE.out.1] at en1
 rw[t1,<-hHE.out.2] at en2
 subst en1 en2 en3
 have HB2:Hid _:=GBx.box hdg (by show(iP TT.1 vs2 x).length=_;rw[List.length_append,hHE.out.1];rfl) (by rw[jJ,t1,hHE.out.2]) (pU s)
 have HK2:Hid _:=hHK.out.trans (k1.trans (hU 0 0 W1 (iv (some ⟨y1,0,none⟩) (mi+1) e1 (some ⟨y2,0,none⟩) (mv+1) e2 (some ⟨y3,0,none⟩) (s+1) e3)))
 have HKW:Hid _:=k1.trans (hU 0 0 W1 (iv (some ⟨y1,0,none⟩) (mi+1) e1 (some ⟨y2,0,none⟩) (mv+1) e2 (some ⟨y3,0,none⟩) (s+1) e3))
 have HN2:Hid _:=hn2
 have HJR:Hid _:=hjr
 clear hdg k1 hn2 hjr t2 hT2 hsv hlm
 have HV2:Hid (vs2.length=vs.length):=t1
 clear t1
 go_upto_region 22 with fail
 generalize W1.alloc (iv (some ⟨y1,0,none⟩) (mi+1) e1 (some ⟨y2,0,none⟩) (mv+1) e2 (some ⟨y3,0,none⟩) (s+1) e3)=W2 at HB2 HK2 HKW ⊢
 generalize W1.heap.size=Q2 at HB2 ⊢
 obtain⟨jr,hjr⟩:∃jr:JR,jr=⟨iP TT.1 vs x,fs2,duO s,J,0⟩:=⟨_,rfl⟩
 have HJ:Hid (Calls Tryz.prog 12 #[ip (some ⟨y1,0,none⟩) (mi+1) e1 (some ⟨y2,0,none⟩) (mv+1) e2 (some ⟨y3,0,none⟩) (s+1) e3,.int .i64 (s:Int),.int .i64 (x:Int),.int .i64 (mv:Int)] W2 λe w'=>JS2 W2 jr e w'):=by
  have:=Ev W2 y1 y2 y3 (mi+1) e1 (mv+1) e2 (s+1) e3 s x mv (iP TT.1 vs2 x) (duV ys TT.1 vs2 x) (duO s) HB2.out.gn HB2.out.e1 HB2.out.e3 HB2.out.dg.k HT2.out.dc.ok (by omega) (by omega) (by omega) (by rw[hHE.out.2,<-HV2.out];exact HT2.out.at_.1)
  rw[show jf (duV ys TT.1 vs2 x) s x mv=(fs2,J) by rw[hHE.out.2];exact HJR.out,(hHT.out.two HT2.out).2.1] at this
  rw[hjr]
  exact this HLM.out HT2.out.at_.2.2
 have HJE:Hid (jr=⟨iP TT.1 vs x,fs2,duO s,J,0⟩):=hjr
 have hjc:jr.code=0:=by rw[hjr]
 clear hjr HT2 HV2 HLM
 obtain⟨_,q0,q1,q2,_,_,_⟩:=HB2.out.rb
 go_wp2_with fail
 refine Calls.mono HJ.out ?_
 rintro e W3 ⟨⟨b1,d1,b2,d2,b3,d3,rfl,hk3,hO3⟩,k3⟩
 obtain⟨o1,o2,o3,hog,⟨ho1,ho2,ho3⟩,_⟩:=hO3 W3.heap.size (Nat.le_refl _)
 have kb3:=hU 0 0 W3 (iv b1 jr.ins.length d1 b2 jr.vs.length d2 b3 jr.outs.length d3)
 have HGf:Hid (GH (W3.alloc (iv b1 jr.ins.length d1 b2 jr.vs.length d2 b3 jr.outs.length d3)) 0 W3.heap.size b1 jr.ins.length b2 jr.vs.length jr.ins jr.vs):=(GH.of hog (Nat.zero_le _) (Nat.zero_le _) rfl rfl hk3).keep kb3 (.inr (.inr (Nat.le_refl _)))
 have HRf:Hid _:=tE W3 (.slice b1 jr.ins.length d1) (.slice b2 jr.vs.length d2) (.slice b3 jr.outs.length d3)
 have HK4:Hid _:=HK2.out.trans (k3.trans kb3)
 have HKW4:Hid _:=HKW.out.trans (k3.trans kb3)
 have HSz:Hid (W.heap.size<=W3.heap.size/\W3.heap.size<(W3.alloc (iv b1 jr.ins.length d1 b2 jr.vs.length d2 b3 jr.outs.length d3)).heap.size):=⟨by have:=HKW.out.size;have:=k3.size;omega,by simp⟩
 clear k3 kb3 hk3 hO3 hog ho1 ho2 ho3 HJ HB2 HK2 HKW q0 q1 q2
 go_upto_region 23 with fail
 generalize W3.alloc (iv b1 jr.ins.length d1 b2 jr.vs.length d2 b3 jr.outs.length d3)=W4 at HGf HRf HK4 HKW4 HSz ⊢
 generalize W3.heap.size=Qf at HGf HRf HSz ⊢
 go_wp2_with fail
 refine Calls.mono (hHD.out W4 HK4.out) ?_
 rintro e W5 (⟨_,_,hq⟩|⟨hno,_⟩)
 case inr=>exact absurd hHF.out hno
 obtain⟨v1,f1,v2,f2,v3,f3,n1,n2,n3,vs3,rfl,hsv,⟨en1,en2,en3⟩,hdg,k5⟩:=hq
 simp only[Int.toNat_natCast] at en3 hdg
 have hT3:=zM (ys:=ys) hHF.out.1 hHF.out.2 hsv hHT.out.dc.hy
 obtain⟨t1,t2,_⟩:=hHT.out.two hT3
 obtain⟨gs3,hgr,hn3,hlm⟩:=hHT.out.gd hT3 hHg.out hHl2.out
 have HT3:Hid _:=hT3
 have HLM:Hid _:=hlm
 rw[<-hHE.out.1] at en1
 rw[t1,<-hHE.out.2] at en2
 subst en1 en2 en3
 have kb5:=hU 0 0 W5 (iv (some ⟨v1,0,none⟩) (mi+1) f1 (some ⟨v2,0,none⟩) (mv+1) f2 (some ⟨v3,0,none⟩) (s+1) f3)
 have HB6:Hid _:=GBx.box hdg (by show(iP TT.1 vs3 x).length=_;rw[List.length_append,hHE.out.1];rfl) (by rw[jJ,t1,hHE.out.2]) (pU s)
 have HK46:Hid _:=k5.trans kb5
 have HN3:Hid _:=hn3
 have HGR:Hid _:=hgr
 clear hdg k5 kb5 hn3 hgr t1 t2 hT3 hsv hlm
 go_upto_region 24 with fail
 generalize W5.alloc (iv (some ⟨v1,0,none⟩) (mi+1) f1 (some ⟨v2,0,none⟩) (mv+1) f2 (some ⟨v3,0,none⟩) (s+1) f3)=W6 at HB6 HK46 ⊢
 generalize W5.heap.size=Q6 at HB6 ⊢
 obtain⟨gr,hgr⟩:∃gr:JR,gr=⟨iP TT.1 vs x,gs3,duO s,G,0⟩:=⟨_,rfl⟩
 have HG:Hid (Calls Tryz.prog 13 #[ip (some ⟨v1,0,none⟩) (mi+1) f1 (some ⟨v2,0,none⟩) (mv+1) f2 (some ⟨v3,0,none⟩) (s+1) f3,.int .i64 (s:Int),.int .i64 (x:Int)] W6 λe w'=>JS2 W6 gr e w'):=by
  have:=Ex W6 v1 v2 v3 (mi+1) f1 (mv+1) f2 (s+1) f3 s x (iP TT.1 vs3 x) (duV ys TT.1 vs3 x) (duO s) HB6.out.gn HB6.out.e1 HB6.out.e3 HB6.out.dg.k HT3.out.dc.ok (by omega) (by omega) HT3.out.at_.2.1
  rw[HGR.out,(hHT.out.two HT3.out).2.1] at this
  rw[hgr]
  exact this HLM.out HT3.out.at_.2.2
 have HGE:Hid (gr=⟨iP TT.1 vs x,gs3,duO s,G,0⟩):=hgr
 have hgc:gr.code=0:=by rw[hgr]
 clear hgr HT3 HLM
 obtain⟨_,q0,q1,q2,_,_,_⟩:=HB6.out.rb
 go_wp2_with fail
 refine Calls.mono HG.out ?_
 rintro e W7 ⟨⟨p1,r1,p2,r2,p3,r3,rfl,hk7,hO7⟩,k7⟩
 obtain⟨o1,o2,o3,hog,⟨ho1,ho2,ho3⟩,_⟩:=hO7 W7.heap.size (Nat.le_refl _)
 have kb7:=hU 0 0 W7 (iv p1 gr.ins.length r1 p2 gr.vs.length r2 p3 gr.outs.length r3)
 have HGb:Hid (GH (W7.alloc (iv p1 gr.ins.length r1 p2 gr.vs.length r2 p3 gr.outs.length r3)) W6.heap.size W7.heap.size p1 gr.ins.length p2 gr.vs.length gr.ins gr.vs):=(GH.of hog ho1 ho2 rfl rfl hk7).keep kb7 (.inr (.inr (Nat.le_refl _)))
 have HRb:Hid _:=tE W7 (.slice p1 gr.ins.length r1) (.slice p2 gr.vs.length r2) (.slice p3 gr.outs.length r3)
 have HK48:Hid _:=HK46.out.trans (k7.trans kb7)
 have HSz2:Hid (Qf<W6.heap.size/\W6.heap.size<=W7.heap.size):=⟨by have:=HK46.out.size;have:=HSz.out;omega,k7.size⟩
 clear k7 kb7 hk7 hO7 hog ho1 ho2 ho3 HG HB6 HK46 q0 q1 q2
 go_upto_region 25 with fail
 generalize W7.alloc (iv p1 gr.ins.length r1 p2 gr.vs.length r2 p3 gr.outs.length r3)=W8 at HGb HRb HK48 ⊢
 generalize W6.heap.size=L6 at HGb HSz2
 generalize W7.heap.size=Qb at HGb HRb HSz2 ⊢
 have HRf8:Hid _:=HRf.out.keep HK48.out
 have hne1:¬Qf=Qb:=by have:=HSz2.out;omega
 have hne2:¬Qb=Qf:=λc=>hne1 c.symm
 obtain⟨_,q0,q1,q2,_,_,qf2⟩:=HRf8.out
 obtain⟨_,qb0,qb1,qb2,_,_,qbf2⟩:=HRb.out
 go_upto_region 29 with fail
 have hSt:=FP W8 Qf Qb jr.at' gr.at'
 have hRbs:=FC HRf8.out HRb.out (by have:=HSz2.out;omega) jr.at' gr.at'
 have hIss:=FD W8 Qf Qb jr.at' gr.at'
 have hlow:∀b,0<=b->b<W.heap.size->b≠Qf/\b≠Qb:=λb _ hb=>by have:=HSz.out;have:=HSz2.out;omega
 have kW8:=HKW4.out.trans HK48.out
 have hQ9:(stW W8 Qf Qb jr.at' gr.at').cell? ⟨Q,0,none⟩=some (.slice (some ⟨g1,0,none⟩) (mi+1) c1):=by
  rw[hSt.blk Q (by have:=kW8.size;have:=hHQ.out.2;omega) (hlow Q (Nat.zero_le _) hHQ.out.2).1 (hlow Q (Nat.zero_le _) hHQ.out.2).2,kW8.cell (p:=⟨Q,0,none⟩) hHQ.out.2 (by omega)]
  exact hHQ.out.1
 have HI9:Hid (IS (stW W8 Qf Qb jr.at' gr.at') 0 W.heap.size (some ⟨g1,0,none⟩) (mi+1) (iP TT.1 vs x)):=hSt.is (hHI.out.keep kW8 (.inr (.inr (Nat.le_refl _)))) hlow
 have Ht9:Hid (FS (stW W8 Qf Qb jr.at' gr.at') 0 W.heap.size bt l (dT ys TT.1 vs x)):=hSt.fs (hHt.out.keep kW8 (.inr (.inr (Nat.le_refl _)))) hlow
 have HGf9:Hid (GH (stW W8 Qf Qb jr.at' gr.at') 0 Qf b1 jr.ins.length b2 jr.vs.length jr.ins jr.vs):=hSt.gh (HGf.out.keep HK48.out (.inr (.inr (Nat.le_refl _)))) λb _ hb=>by have:=HSz2.out;omega
 have HGb9:Hid (GH (stW W8 Qf Qb jr.at' gr.at') L6 Qb p1 gr.ins.length p2 gr.vs.length gr.ins gr.vs):=hSt.gh HGb.out λb hb hb'=>by have:=HSz2.out;omega
 have HK9:Hid (Kept 0 0 w (stW W8 Qf Qb jr.at' gr.at')):=hSt.kp w (HK4.out.trans HK48.out) (by have:=hHK.out.size;have:=HSz.out;omega) (by have:=hHK.out.size;have:=HSz.out;have:=HSz2.out;omega)
 have HS9:Hid (W.heap.size<=(stW W8 Qf Qb jr.at' gr.at').heap.size/\Qf<=(stW W8 Qf Qb jr.at' gr.at').heap.size/\Qb<=(stW W8 Qf Qb jr.at' gr.at').heap.size):=⟨by have:=kW8.size;have:=hSt.sz;omega,by have:=hRbs.1.sz;omega,by have:=hRbs.2.sz;omega⟩
 have HRf9:Hid _:=hRbs.1
 have HRb9:Hid _:=hRbs.2
 have HIf9:Hid _:=hIss.1
 have HIb9:Hid _:=hIss.2
 clear hSt hRbs hIss hlow kW8 q0 q1 q2 qf2 qb0 qb1 qb2 qbf2 HRf8 HRb HGf HGb HK48 HSz2
 unfold stW at hQ9 HI9 Ht9 HGf9 HGb9 HK9 HS9 HRf9 HRb9 HIf9 HIb9
 generalize (((W8.setCell ⟨Qf,2,none⟩ (.slice (some ⟨W8.heap.size,0,none⟩) 1 1)).setCell ⟨Qb,2,none⟩ (.slice (some ⟨W8.heap.size+1,0,none⟩) 1 1)).alloc (.cells #[.int .i64 jr.at'] 3)).alloc (.cells #[.int .i64 gr.at'] 3)=W9 at hQ9 HI9 Ht9 HGf9 HGb9 HK9 HS9 HRf9 HRb9 HIf9 HIb9 ⊢
 obtain⟨j1,j2,j3,j4⟩:=hHT.out.dc.jvp hHM.out hHf.out hHs1.out
 obtain⟨k1,k2,k3,k4,k5⟩:=hHT.out.dc.grad hHM.out hHg.out hHs2.out
 have hev:=Cg HN2.out (hHs1.out J.toNat j2) j1
 have heg:=Cg HN3.out (hHs2.out G.toNat k2) k1
 obtain⟨VJ,hVJ⟩:∃VJ,VJ=(io (inM ys (iP TT.1 vs x)) fs fs.length).getD J.toNat []:=⟨_,rfl⟩
 obtain⟨VG,hVG⟩:∃VG,VG=(io (inM ys (iP TT.1 vs x)) gs gs.length).getD G.toNat []:=⟨_,rfl⟩
 rw[<-hVJ] at j3 j4 hev
 rw[<-hVG] at k3 k4 heg
 have HVJ:Hid (VJ.length=1/\FZ (VJ.getD 0 0) (if x<=s then dz dss s 0 else 0)):=⟨j3,j4⟩
 have HVG:Hid ((VG.length:Int)=(vs.getD x Vl.zero).len/\∃zg:Nat->Int,(∀k,k<(vs.getD x Vl.zero).len.toNat->FZ (VG.getD k 0) (zg k)/\-1000000000000<=zg k/\zg k<=1000000000000)/\ld zg (λk=>zf ((dT ys TT.1 vs x).getD k 0)) (vs.getD x Vl.zero).len.toNat=if x<=s then dz dss s 0 else 0):=⟨k3,_,k4,k5⟩
 have HIn:Hid (∀X,Kept 0 0 W9 X->Calls Tryz.prog 5 #[.slice (some ⟨g1,0,none⟩) (mi+1) c1,.slice b nm cm,.bool false] X λe w'=>∃a' cap,e=.returned (.slice a' (mi+1) cap)/\SS w' a' (mi+1) (inM ys (iP TT.1 vs x))/\Kept 0 0 X w'):=λX kk=>v9 (HI9.out.keep kk (.inr (.inr (Nat.le_refl _)))) (hHY.out.keep (HK9.out.trans kk)) hnm (by omega) λj hj=>(mn hHT.out.dc.ok).2.1 j (by rw[HI9.out.len];exact hj)
 have HEf:Hid (∀X ai ci,Kept 0 0 W9 X->SS X ai (mi+1) (inM ys (iP TT.1 vs x))->Calls Tryz.prog 14 #[ip b1 jr.ins.length d1 b2 jr.vs.length d2 (some ⟨W8.heap.size,0,none⟩) 1 1,.slice ai (mi+1) ci] X λe w'=>∃a' c' zss,e=.returned (.tuple #[.slice a' 1 c',.int .i64 0])/\SS w' a' 1 zss/\same (zss.getD 0 []) VJ/\Kept 0 0 X w'):=λX ai ci kk hss=>by
  have hG:GS X b1 jr.ins.length b2 jr.vs.length (some ⟨W8.heap.size,0,none⟩) 1 jr.ins jr.vs [jr.at']:=(HGf9.out.keep kk (.inr (.inr (Nat.le_refl _)))).gs (by have:=kk.size;have:=HS9.out;omega) ((HIf9.out.keep kk (.inr (.inr (Nat.le_refl _)))).mono (Nat.le_refl _) kk.size)
  have hE:EvS jr.ins jr.vs [jr.at'] (inM ys (iP TT.1 vs x)) jr.vs.length 1 1 0 (λj=>(io (inM ys (iP TT.1 vs x)) fs2 fs2.length).getD ([J].getD j 0).toNat []):=by
   rw[HJE.out]
   exact hev.1
  refine(uv X b1 b2 (some ⟨W8.heap.size,0,none⟩) ai jr.ins.length d1 jr.vs.length d2 1 1 (mi+1) ci jr.ins jr.vs [jr.at'] _ hG hss (lJ hHT.out.dc.hy) (by rw[HJE.out];show(iP TT.1 vs x).length<=_;rw[HI9.out.len];omega) 1 0 _ hE).mono λe w' h=>?_
  obtain⟨a',c',zss,h1,h2,h3,_,h5⟩:=h
  have h6:=h3 0 (by omega)
  rw[hev.2] at h6
  exact⟨a',c',zss,h1,h2.ss,h6,h5⟩
 have HEb:Hid (∀X ai ci,Kept 0 0 W9 X->SS X ai (mi+1) (inM ys (iP TT.1 vs x))->Calls Tryz.prog 14 #[ip p1 gr.ins.length r1 p2 gr.vs.length r2 (some ⟨W8.heap.size+1,0,none⟩) 1 1,.slice ai (mi+1) ci] X λe w'=>∃a' c' zss,e=.returned (.tuple #[.slice a' 1 c',.int .i64 0])/\SS w' a' 1 zss/\same (zss.getD 0 []) VG/\Kept 0 0 X w'):=λX ai ci kk hss=>by
  have hG:GS X p1 gr.ins.length p2 gr.vs.length (some ⟨W8.heap.size+1,0,none⟩) 1 gr.ins gr.vs [gr.at']:=(HGb9.out.keep kk (.inr (.inr (Nat.zero_le _)))).gs (by have:=kk.size;have:=HS9.out;omega) ((HIb9.out.keep kk (.inr (.inr (Nat.le_refl _)))).mono (Nat.le_refl _) kk.size)
  have hE:EvS gr.ins gr.vs [gr.at'] (inM ys (iP TT.1 vs x)) gr.vs.length 1 1 0 (λj=>(io (inM ys (iP TT.1 vs x)) gs3 gs3.length).getD ([G].getD j 0).toNat []):=by
   rw[HGE.out]
   exact heg.1
  refine(uv X p1 p2 (some ⟨W8.heap.size+1,0,none⟩) ai gr.ins.length r1 gr.vs.length r2 1 1 (mi+1) ci gr.ins gr.vs [gr.at'] _ hG hss (lJ hHT.out.dc.hy) (by rw[HGE.out];show(iP TT.1 vs x).length<=_;rw[HI9.out.len];omega) 1 0 _ hE).mono λe w' h=>?_
  obtain⟨a',c',zss,h1,h2,h3,_,h5⟩:=h
  have h6:=h3 0 (by omega)
  rw[heg.2] at h6
  exact⟨a',c',zss,h1,h2.ss,h6,h5⟩
 clear hev heg hVJ hVG j1 j2 j3 j4 k1 k2 k3 k4 k5 HI9 HGf9 HGb9 HIf9 HIb9
 generalize W8.heap.size=H8 at HRf9 HRb9 HEf HEb
 go_cut [38,39] (λp q wx=>∃a' c' zss,p=.slice a' 1 c'/\q=.int .i64 0/\Hid (SS wx a' 1 zss/\same (zss.getD 0 []) VJ)/\Hid (Kept 0 0 W9 wx))
 case first=>
  obtain⟨_,q0,q1,q2,_,_,_⟩:=HRf9.out
  go_region_with (first
   |(go_at_call 5;refine Calls.mono (HIn.out _ (ie _)) ?_;rintro e X1 ⟨ai,ci,rfl,hss,kx⟩;have HSS:Hid _:=hss;have HKX:Hid (Kept 0 0 W9 X1):=(ie _).trans kx;clear hss kx;obtain⟨_,m0,m1,m2,_,_,_⟩:=HRf9.out.keep HKX.out)
   |(go_at_call 14;refine Calls.mono (HEf.out X1 ai ci HKX.out HSS.out) ?_;rintro e X2 ⟨a',c',zss,rfl,ho,hsm,k2⟩;have HO:Hid (SS X2 a' 1 zss/\same (zss.getD 0 []) VJ):=⟨ho,hsm⟩;have HK2:Hid (Kept 0 0 W9 X2):=HKX.out.trans k2;clear ho hsm k2))
  all_goals
   go_wp2_with fail
   go_meet
   exact⟨a',c',zss,rfl,rfl,HO,HK2⟩
 case rest=>
  obtain⟨aa,ca,zsa,rfl,rfl,HZa,HKx⟩:=hcut
  obtain⟨Wx,hWx⟩:∃Wx,Wx=wc:=⟨_,rfl⟩
  subst hWx
  have HQx:Hid (Q<W9.heap.size):=by show Q<_;have:=hHQ.out.2;have:=HS9.out.1;omega
  have hQx:Wx.cell? ⟨Q,0,none⟩=some (.slice (some ⟨g1,0,none⟩) (mi+1) c1):=by rw[HKx.out.cell (p:=⟨Q,0,none⟩) HQx.out (by omega)];exact hQ9
  clear hQ9 HEf HRf9
  go_upto_region 30 with fail
  go_cut [40,41] (λp q wx=>∃a' c' zss,p=.slice a' 1 c'/\q=.int .i64 0/\Hid (SS wx a' 1 zss/\same (zss.getD 0 []) VG)/\Hid (Kept 0 0 Wx wx))
  case first=>
   obtain⟨_,q0,q1,q2,_,_,_⟩:=HRb9.out.keep HKx.out
   go_region_with (first
    |(go_at_call 5;refine Calls.mono (HIn.out _ (HKx.out.trans (ie _))) ?_;rintro e X1 ⟨ai,ci,rfl,hss,kx⟩;have HSS:Hid _:=hss;have HKX:Hid (Kept 0 0 Wx X1):=(ie _).trans kx;clear hss kx;obtain⟨_,m0,m1,m2,_,_,_⟩:=HRb9.out.keep (HKx.out.trans HKX.out))
    |(go_at_call 14;refine Calls.mono (HEb.out X1 ai ci (HKx.out.trans HKX.out) HSS.out) ?_;rintro e X2 ⟨a',c',zss,rfl,ho,hsm,k2⟩;have HO:Hid (SS X2 a' 1 zss/\same (zss.getD 0 []) VG):=⟨ho,hsm⟩;have HK2:Hid (Kept 0 0 Wx X2):=HKX.out.trans k2;clear ho hsm k2))
   all_goals
    go_wp2_with fail
    go_meet
    exact⟨a',c',zss,rfl,rfl,HO,HK2⟩
  case rest=>
   obtain⟨ab,cb,zsb,rfl,rfl,HZb,HKy⟩:=hcut
   obtain⟨hv1,zg,hv2,hv3⟩:=HVG.out
   rw[hHL.out] at hv1 hv2 hv3
   simp only[Int.toNat_natCast] at hv2 hv3
   have hlx:=(hHT.out.dc.zp.shp (i:=x) (by rw[jJ,<-hHE.out.2];omega)).len
   rw[nC ys TT.1 x hHT.out.dc.hx,hHL.out] at hlx
   have ht:=(Ht9.out.keep (HKx.out.trans HKy.out) (.inr (.inr (Nat.le_refl _)))).mono (Nat.le_refl _) (Nat.le_trans HS9.out.1 (HKx.out.trans HKy.out).size)
   refine(‹∀(a:Act) (w:World),Code.wp Tryz.prog _ _ a w->_›) _ _ (zO (HK9.out.trans (HKx.out.trans HKy.out)) ⟨SS.keep HZa.out.1 HKy.out,HZa.out.2⟩ HZb.out HVJ.out ⟨by omega,hv2⟩ hv3 (by omega) (by omega) hHW.out ht λk hk=>hHT.out.dc.tz (by rw[hHL.out];exact hk))
end Go.Proofs.YtnlffngpnoodkaaGreat
