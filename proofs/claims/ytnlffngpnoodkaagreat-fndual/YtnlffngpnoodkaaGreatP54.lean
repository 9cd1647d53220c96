import Derived.Test.YtnlffngpnoodkaaGreatP53
namespace Go.Proofs.YtnlffngpnoodkaaGreat
set_option maxRecDepth 1000000
set_option maxHeartbeats 0
open Go.RowKit Flt
attribute [local go_sem] ic ib ia
theorem xy {w:World}{a b:Option Addr}{n cap nm cm:Nat}{xs ys:List Int}(h:YS w a n xs)(hc:n<=cap)(hy:YS w b nm ys):
  Calls Tryz.prog 3 #[.slice a n cap,.slice b nm cm] w λe w'=>e=.returned (.bool true)/\Kept 0 0 w w':=by
 by_cases hn:1048576<n
 ·have hn':(1048576:Int)<(n:Int):=by omega
  go_enter Tryz.func3,Tryz.ntmps3
  go_wp2
  go_ret
  exact⟨rfl,Kept.refl _ _ _⟩
 by_cases hm:1048576<nm
 ·have hm':(1048576:Int)<(nm:Int):=by omega
  have hn':decide ((1048576:Int)<(n:Int))=false:=decide_eq_false (by omega)
  go_enter Tryz.func3,Tryz.ntmps3
  go_wp2
  go_ret
  exact⟨rfl,Kept.refl _ _ _⟩
 have hn':decide ((1048576:Int)<(n:Int))=false:=decide_eq_false (by omega)
 have hm':decide ((1048576:Int)<(nm:Int))=false:=decide_eq_false (by omega)
 have HD:Hid _:=Cf (cm:=cm) h hc hy (by omega)
 have HDD:Hid (∀W,Kept 0 0 w W->Calls Tryz.prog 4 #[.slice a n cap,.slice b nm cm] W (DuA W ys (gdT (xs.take 500)) (gdS (xs.take 500)) (gdX (xs.take 500)))):=λW k=>Cf (h.keep k) hc (hy.keep k) (by omega)
 have HX:Hid _:=h
 have HY:Hid _:=hy
 have HYt:Hid (∀p,kr ys p<256):=λp=>nh hy p
 generalize gdT (xs.take 500)=TT at HD HDD
 generalize gdS (xs.take 500)=S0 at HD HDD
 generalize gdX (xs.take 500)=X0 at HD HDD
 clear h hy
 go_enter Tryz.func3,Tryz.ntmps3
 go_wp2_with fail
 refine Calls.mono HD.out ?_
 rintro e W1 (⟨hA,hC,hq⟩|⟨_,a1,n1,c1,a2,n2,c2,a3,n3,c3,rfl,k1⟩)
 case inr=>
  have R:Hid _:=k1.trans (hU 0 0 W1 (iv a1 n1 c1 a2 n2 c2 a3 n3 c3))
  clear k1 HD
  go_wp2
  go_ret
  exact⟨rfl,R.out⟩
 obtain⟨s,rfl⟩:∃s:Nat,S0=(s:Int):=⟨S0.toNat,by have:=hC.1;omega⟩
 obtain⟨x,rfl⟩:∃x:Nat,X0=(x:Int):=⟨X0.toNat,by have:=hC.2.2.2.2.1;omega⟩
 obtain⟨g1,c1,g2,c2,g3,c3,n1,n2,n3,vs,rfl,hsv,⟨e1,e2,e3⟩,hdg,k1⟩:=hq
 simp only[Int.toNat_natCast] at e3 hdg
 have hT:=zM (ys:=ys) hA hC hsv HYt.out
 have HT:Hid _:=hT
 have HFit:Hid (ty TT/\rg TT (s:Int) (x:Int)):=⟨hA,hC⟩
 have hok:=mn hT.dc.ok
 have hdl:(iP TT.1 vs x).length=n1:=by rw[List.length_append,e1];rfl
 have HB:Hid _:=GBx.box hdg hdl (by rw[jJ,e2]) (by rw[pU,e3])
 have HK1:Hid _:=k1.trans (hU 0 0 W1 (iv (some ⟨g1,0,none⟩) n1 c1 (some ⟨g2,0,none⟩) n2 c2 (some ⟨g3,0,none⟩) n3 c3))
 have hs5:=hT.s5
 have h60:=hT.l60
 have h20:=hT.i20
 have hsl:=hT.dc.hs
 have hxl:=hT.dc.hx
 clear hA hC hsv hdg k1 HD hok hT
 obtain⟨mi,hmi⟩:∃mi,mi=TT.1.length:=⟨_,rfl⟩
 obtain⟨mv,hmv⟩:∃mv,mv=vs.length:=⟨_,rfl⟩
 rw[<-hmi] at e1 h20
 rw[<-hmv] at e2 h60 hsl hxl
 have HE:Hid (mi=TT.1.length/\mv=vs.length):=⟨hmi,hmv⟩
 subst e1 e2 e3
 clear hmi hmv hdl
 go_upto_region 4 with fail
 generalize W1.alloc (iv (some ⟨g1,0,none⟩) (mi+1) c1 (some ⟨g2,0,none⟩) (mv+1) c2 (some ⟨g3,0,none⟩) (s+1) c3)=W2 at HB HK1 ⊢
 have hxv:x<vs.length:=by rw[<-HE.out.2];exact hxl
 have hat:=HB.out.gn.v.at_ x (by omega)
 have hx1:=hat.c1
 rw[show((duV ys TT.1 vs x).getD x Vl.zero).len=(vs.getD x Vl.zero).len from nC ys TT.1 x hxv] at hx1
 have hlx:=(HT.out.dc.zp.shp (i:=x) (by rw[jJ];omega)).len
 rw[nC ys TT.1 x hxv] at hlx
 obtain⟨l,hl⟩:∃l:Nat,(vs.getD x Vl.zero).len=(l:Int):=⟨(vs.getD x Vl.zero).len.toNat,by omega⟩
 rw[hl] at hx1 hlx
 have HLx:Hid _:=hl
 have hl1:1<=l:=by omega
 have hl2:l<=1000:=by omega
 clear hat hlx hl hxv
 obtain⟨_,q0,q1,q2,_,_,_⟩:=HB.out.rb
 have HIn:Hid _:=v9 (ca:=c1) (cm:=cm) (ys:=ys) HB.out.gs.i (HY.out.keep HK1.out) (by omega) (by omega) (λj hj=>(mn HT.out.dc.ok).2.1 j (by rw[HB.out.e1];exact hj))
 generalize W1.heap.size=Q at HB q0 q1 q2 ⊢
 have HXI:Hid (∃I,I=iP TT.1 vs x):=⟨_,rfl⟩
 go_wp2_with fail
 refine Calls.mono HIn.out ?_
 rintro e W3 ⟨ai,ci,rfl,hss,k3⟩
 have HB3:Hid _:=HB.out.keep k3
 have HK3:Hid _:=HK1.out.trans k3
 have HEv:Hid _:=uw W3 _ _ _ ai (mi+1) c1 (mv+1) c2 (s+1) c3 (mi+1) ci (iP TT.1 vs x) (duV ys TT.1 vs x) (duO s) (inM ys (iP TT.1 vs x)) HB3.out.gs hss (lJ HYt.out) (by omega) (s+1) 0 (λj=>(io (inM ys (iP TT.1 vs x)) (duV ys TT.1 vs x) (mv+1)).getD ((duO s).getD j 0).toNat []) (.inr (.inr ⟨HT.out.dc.ok,HT.out.dc.inb,rfl,rfl,λ_=>rfl⟩))
 have HSS:Hid _:=hss
 clear k3 HIn q0 q1 q2 hx1 HB HK1 hss HXI
 obtain⟨_,q0,q1,q2,_,_,_⟩:=HB3.out.rb
 go_wp2_with fail
 refine Calls.mono HEv.out ?_
 rintro e W4 ⟨az,cz,zss,rfl,hzs,hzm,k4⟩
 have HB4:Hid _:=HB3.out.keep k4
 have HK4:Hid _:=HK3.out.trans k4
 have hs4:SS W4 ai (mi+1) (inM ys (iP TT.1 vs x)):=SS.keep HSS.out k4
 obtain⟨hz1,hz2⟩:=HT.out.vals (by rw[HE.out.2]) hzm
 have htn:((inM ys (iP TT.1 vs x)).getD mi []).length=l:=by
  rw[HE.out.1]
  show(dT ys TT.1 vs x).length=l
  rw[zL,HLx.out]
  rfl
 rcases hs4.at_ with z0|⟨gi,oi,ei,y1,y2⟩
 ·omega
 cases ei
 obtain⟨bt,ct,ht1,_,ht3⟩:=y2 mi (by omega)
 rw[htn] at ht1 ht3
 have hlu:ln (duV ys TT.1 vs x) x=l:=by
  show(vd (duV ys TT.1 vs x) x).len.toNat=l
  rw[nC ys TT.1 x HT.out.dc.hx,HLx.out]
  rfl
 have HTs:Hid (FS W4 0 W4.heap.size bt l (dT ys TT.1 vs x)):=by
  have:=ht3
  rw[HE.out.1] at this
  exact this
 have HMv:Hid _:=Et (c1:=c1) (c2:=c2) (c3:=c3) (cb:=cz) (ct:=ct) (s:=s) (x:=x) (Z:=zV (inM ys (iP TT.1 vs x)) (duV ys TT.1 vs x)) (T:=λk=>zf ((dT ys TT.1 vs x).getD k 0)) HB4.out.gs hzs (by omega) (by omega) (by omega) (by omega) HTs.out (by rw[hlu];exact Nat.le_refl _) (λk hk=>(HT.out.dc.tz (by rw[hlu] at hk;rw[HLx.out];exact hk)).1) (λi hi=>HT.out.dc.zp.shp (by rw[HB4.out.e2];exact hi)) (λi _=>(HT.out.dc.wh.get i).1) (λi hi=>FB (List.all_eq_true.1 (mn HT.out.dc.ok).2.2 i (List.mem_range.2 (by rw[HB4.out.e2];exact hi)))) hz2 (by omega) (HT.out.dc.hZ hz1)
 have HS4:Hid _:=hs4
 clear k4 HEv q0 q1 q2 hzs hzm HB3 HK3 HSS hs4 y1 y2 ht3 htn hz1 hz2 hlu
 obtain⟨_,q0,q1,q2,_,_,_⟩:=HB4.out.rb
 go_wp2_with fail
 refine Calls.mono HMv.out ?_
 rintro e W5 (⟨v,rfl,k5⟩|⟨ad,cd,dss,rfl,hds,hMI,_,k5⟩)
 ·have R:Hid _:=HK4.out.trans k5
  clear k5 q0 q1 q2
  go_wp2
  go_ret
  exact⟨rfl,R.out⟩
 have HB5:Hid _:=HB4.out.keep k5
 have HK5:Hid _:=HK4.out.trans k5
 have HS5:Hid _:=SS.keep HS4.out k5
 have HTs5:Hid _:=FS.keep0 HTs.out k5
 have HMI:Hid _:=hMI
 have HEx:Hid _:=DJ (a1:=some ⟨g1,0,none⟩) (n1:=mi+1) (c1:=c1) (a3:=some ⟨g3,0,none⟩) (n3:=s+1) (c3:=c3) (by have:=HB5.out.dg.r2;rw[HB5.out.e2] at this;exact this) HB5.out.e2 (by omega) (s:=s) (x:=x) (by omega) (by omega)
 have HDS:Hid _:=hds
 clear k5 HMv q0 q1 q2 HB4 HK4 HS4 HTs hds hMI
 obtain⟨_,q0,q1,q2,_,_,_⟩:=HB5.out.rb
 go_wp2_with fail
 refine Calls.mono HEx.out ?_
 rintro e W6 ⟨bx,rfl,k6⟩
 have HB6:Hid _:=HB5.out.keep k6
 have HK6:Hid _:=HK5.out.trans k6
 have HS6:Hid _:=SS.keep HS5.out k6
 have HTs6:Hid _:=FS.keep0 HTs5.out k6
 have HD6:Hid _:=SS.keep HDS.out k6
 clear k6 HEx q0 q1 q2 HB5 HK5 HS5 HTs5 HDS
 cases bx
 ·have R:Hid _:=HK6.out
  go_wp2
  go_ret
  exact⟨rfl,R.out⟩
 go_upto_if 109 with fail
 go_cut [17] (λu wx=>∃f,u=.float .f64 f/\Hid (FZ f (if x<=s then dz dss s 0 else 0))/\wx=W6)
 case first=>
  by_cases hxs:x<=s
  ·obtain⟨hd1,hd2⟩:=HMI.out s (Nat.lt_succ_self _)
   have hls:ln (duV ys TT.1 vs x) s=1:=by
    show(vd (duV ys TT.1 vs x) s).len.toNat=1
    rw[nC ys TT.1 x HT.out.dc.hs,HT.out.dc.ls]
    rfl
   rw[hls] at hd1
   rcases HD6.out.at_ with z0|⟨ge,oe,ee,y1,y2⟩
   ·omega
   cases ee
   obtain⟨be,ce,he1,_,he3⟩:=y2 s (Nat.lt_succ_self _)
   rw[hd1] at he1 he3
   rcases he3.at_ with z0|⟨gf,of,ef,_,_,z3,z4⟩
   ·omega
   cases ef
   have hc0:=z4 0 (by omega)
   rw[Nat.add_zero] at hc0
   have R:Hid (FZ ((dss.getD s []).getD 0 0) (if x<=s then dz dss s 0 else 0)):=by
    show FZ _ _
    rw[if_pos hxs]
    exact(hd2 0 (by omega)).1
   have hxs':decide ((x:Int)<=(s:Int))=true:=decide_eq_true (by omega)
   generalize (dss.getD s []).getD 0 0=ff at hc0 R
   clear z4 z3 y1 y2 he3 hd1 hd2 hls
   go_wp2_with fail
   go_meet
   exact⟨_,rfl,R,rfl⟩
  ·have R:Hid (FZ 0 (if x<=s then dz dss s 0 else 0)):=by
    show FZ _ _
    rw[if_neg hxs]
    exact lk 0 (by decide)
   have hxs':decide ((x:Int)<=(s:Int))=false:=decide_eq_false (by omega)
   have hxs2:s<x:=by omega
   go_wp2_with fail
   go_meet
   exact⟨_,rfl,R,rfl⟩
 case rest=>
  obtain⟨fw,rfl,HFw,rfl⟩:=hcut
  obtain⟨fs,J,hf⟩:∃fs J,jf (duV ys TT.1 vs x) s x vs.length=(fs,J):=⟨_,_,rfl⟩
  obtain⟨gs,G,hg⟩:∃gs G,grM (duV ys TT.1 vs x) s x=(gs,G):=⟨_,_,rfl⟩
  obtain⟨jr,hjr⟩:∃jr:JR,jr=if jR fs=true then .bad 5 else⟨iP TT.1 vs x,fs,duO s,J,0⟩:=⟨_,rfl⟩
  obtain⟨gr,hgr⟩:∃gr:JR,gr=if jR gs=true then .bad 5 else⟨iP TT.1 vs x,gs,duO s,G,0⟩:=⟨_,rfl⟩
  have HJR:Hid _:=hjr
  have HGR:Hid _:=hgr
  obtain⟨hA1,hA2,hA3⟩:=HT.out.at_
  have HFJ:Hid _:=hf
  have HGJ:Hid _:=hg
  have HJ:Hid (Calls Tryz.prog 9 #[ip (some ⟨g1,0,none⟩) (mi+1) c1 (some ⟨g2,0,none⟩) (mv+1) c2 (some ⟨g3,0,none⟩) (s+1) c3,.int .i64 (s:Int),.int .i64 (x:Int),.int .i64 (mv:Int)] wc λe w'=>JS1 wc jr e w'):=by
   have:=Eu wc g1 g2 g3 (mi+1) c1 (mv+1) c2 (s+1) c3 s x mv (iP TT.1 vs x) (duV ys TT.1 vs x) (duO s) HB6.out.gn HB6.out.e1 HB6.out.e3 HB6.out.dg.k HT.out.dc.ok (by omega) (by omega) (by omega) (by rw[HE.out.2];exact hA1) hA3
   rw[show jf (duV ys TT.1 vs x) s x mv=(fs,J) by rw[HE.out.2];exact hf] at this
   rw[hjr]
   exact this
  have HG0:Hid (∀W,Kept 0 0 wc W->Calls Tryz.prog 10 #[ip (some ⟨g1,0,none⟩) (mi+1) c1 (some ⟨g2,0,none⟩) (mv+1) c2 (some ⟨g3,0,none⟩) (s+1) c3,.int .i64 (s:Int),.int .i64 (x:Int)] W λe w'=>JS1 W gr e w'):=λW kk=>by
   have:=Ew W g1 g2 g3 (mi+1) c1 (mv+1) c2 (s+1) c3 s x (iP TT.1 vs x) (duV ys TT.1 vs x) (duO s) (HB6.out.keep kk).gn HB6.out.e1 HB6.out.e3 HB6.out.dg.k HT.out.dc.ok (by omega) (by omega) hA2 hA3
   rw[hg] at this
   rw[hgr]
   exact this
  clear hA1 hA2 hA3
  clear hf hg hjr hgr
  obtain⟨_,q0,q1,q2,_,_,_⟩:=HB6.out.rb
  go_wp2_with fail
  refine Calls.mono HJ.out ?_
  rintro e W7 ⟨⟨b1,d1,b2,d2,b3,d3,rfl,hgj⟩,k7⟩
  have kb7:=hU 0 0 W7 (iv b1 jr.ins.length d1 b2 jr.vs.length d2 b3 jr.outs.length d3)
  have HGj:Hid _:=GS.keep hgj kb7
  have HK7:Hid (Kept 0 0 wc (W7.alloc (iv b1 jr.ins.length d1 b2 jr.vs.length d2 b3 jr.outs.length d3))):=k7.trans kb7
  have HR7:Hid _:=tE W7 (.slice b1 jr.ins.length d1) (.slice b2 jr.vs.length d2) (.slice b3 jr.outs.length d3)
  clear k7 kb7 hgj HJ q0 q1 q2
  go_upto_region 18 with fail
  generalize W7.alloc (iv b1 jr.ins.length d1 b2 jr.vs.length d2 b3 jr.outs.length d3)=W8 at HGj HK7 HR7 ⊢
  generalize W7.heap.size=Q7 at HR7 ⊢
  obtain⟨_,q0,q1,q2,_,_,_⟩:=(HB6.out.keep HK7.out).rb
  go_wp2_with fail
  refine Calls.mono (HG0.out W8 HK7.out) ?_
  rintro e W9 ⟨⟨f1,r1,f2,r2,f3,r3,rfl,hgg⟩,k9⟩
  have kb9:=hU 0 0 W9 (iv f1 gr.ins.length r1 f2 gr.vs.length r2 f3 gr.outs.length r3)
  have HGg:Hid _:=GS.keep hgg kb9
  have HGj9:Hid _:=GS.keep HGj.out (k9.trans kb9)
  have HK9:Hid _:=HK7.out.trans (k9.trans kb9)
  have HR79:Hid _:=HR7.out.keep (k9.trans kb9)
  have HR9:Hid _:=tE W9 (.slice f1 gr.ins.length r1) (.slice f2 gr.vs.length r2) (.slice f3 gr.outs.length r3)
  clear k9 kb9 hgg HG0 q0 q1 q2 HGj HR7 HK7
  go_upto_region 19 with fail
  generalize W9.alloc (iv f1 gr.ins.length r1 f2 gr.vs.length r2 f3 gr.outs.length r3)=Wa at HGg HGj9 HK9 HR79 HR9 ⊢
  generalize W9.heap.size=Q9 at HR9 ⊢
  have HKa:Hid (Kept 0 0 w Wa):=HK6.out.trans HK9.out
  have HBa:Hid _:=HB6.out.keep HK9.out
  have HSa:Hid _:=SS.keep HS6.out HK9.out
  have HTa:Hid _:=FS.keep0 HTs6.out HK9.out
  clear HB6 HK6 HS6 HTs6 HD6 HK9
  by_cases hj0:jr.code≠0
  ·have hj1:(jr.code !=0)=true:=by simpa using hj0
   go_wp2
   go_ret
   exact⟨rfl,HKa.out⟩
  replace hj0:jr.code=0:=Decidable.not_not.1 hj0
  by_cases hg0:gr.code≠0
  ·have hg1:(gr.code !=0)=true:=by simpa using hg0
   go_wp2
   go_ret
   exact⟨rfl,HKa.out⟩
  replace hg0:gr.code=0:=Decidable.not_not.1 hg0
  have HJ1:Hid (jr=⟨iP TT.1 vs x,fs,duO s,J,0⟩/\jR fs=false):=by
   have:=HJR.out
   cases hl:jR fs
   ·rw[hl,if_neg (by simp)] at this
    exact⟨this,rfl⟩
   ·rw[hl,if_pos rfl] at this
    rw[this] at hj0
    exact absurd hj0 (by simp[JR.bad])
  have HG1:Hid (gr=⟨iP TT.1 vs x,gs,duO s,G,0⟩/\jR gs=false):=by
   have:=HGR.out
   cases hl:jR gs
   ·rw[hl,if_neg (by simp)] at this
    exact⟨this,rfl⟩
   ·rw[hl,if_pos rfl] at this
    rw[this] at hg0
    exact absurd hg0 (by simp[JR.bad])
  have HS1:Hid _:=zd (c1:=d1) (c2:=d2) (c3:=d3) (cb:=ci) HGj9.out HSa.out (lJ HYt.out) (by rw[HJ1.out.1];show(iP TT.1 vs x).length<=_;rw[HBa.out.e1];omega) (by rw[HJ1.out.1];exact zN HJ1.out.2)
  have HS2:Hid (∀W,Kept 0 0 Wa W->_):=λW kk=>zd (c1:=r1) (c2:=r2) (c3:=r3) (cb:=ci) (GS.keep HGg.out kk) (SS.keep HSa.out kk) (lJ HYt.out) (by rw[HG1.out.1];show(iP TT.1 vs x).length<=_;rw[HBa.out.e1];omega) (by rw[HG1.out.1];exact zN HG1.out.2)
  obtain⟨_,q0,q1,q2,_,_,_⟩:=HR79.out
  go_wp2_with fail
  refine Calls.mono HS1.out ?_
  rintro e Wb ⟨rb1,rfl,kb1,hb1⟩
  have HKb:Hid _:=HKa.out.trans kb1
  have HB1:Hid _:=hb1
  have HKb1:Hid _:=kb1
  clear HS1 hb1 kb1 q0 q1 q2
  cases rb1
  ·go_wp2
   go_ret
   exact⟨rfl,HKb.out⟩
  have HS2':Hid _:=HS2.out Wb HKb1.out
  obtain⟨_,q0,q1,q2,_,_,_⟩:=HR9.out.keep HKb1.out
  go_wp2_with fail
  refine Calls.mono HS2'.out ?_
  rintro e Wc ⟨rb2,rfl,kb2,hb2⟩
  have HKc:Hid _:=HKb.out.trans kb2
  have HB2:Hid _:=hb2
  have HKc1:Hid (Kept 0 0 Wa Wc):=HKb1.out.trans kb2
  clear HS2 HS2' hb2 kb2 q0 q1 q2 HKb HKb1
  cases rb2
  ·go_wp2
   go_ret
   exact⟨rfl,HKc.out⟩
  go_upto_if 150 with fail
  have HBc:Hid _:=HBa.out.keep HKc1.out
  have HIc:Hid _:=HBc.out.gs.i
  have HTc:Hid _:=FS.keep0 HTa.out HKc1.out
  have HB1':Hid (∀i,i<fs.length->SmO m12 (iP TT.1 vs x) fs (inM ys (iP TT.1 vs x)) fs.length i):=by
   have:=HB1.out (by first|exact trivial|rfl)
   rw[HJ1.out.1] at this
   exact this
  have HB2':Hid (∀i,i<gs.length->SmO m12 (iP TT.1 vs x) gs (inM ys (iP TT.1 vs x)) gs.length i):=by
   have:=HB2.out (by first|exact trivial|rfl)
   rw[HG1.out.1] at this
   exact this
  refine wp_cond_false rfl (wp_skip ?_)
  rename_i hK i1 i2 i3 i4 i5 i6 i7 i8
  refine hK _ _ (xu HY.out (by omega) HKc.out HT.out HFit.out HE.out.1 HE.out.2 HLx.out HDD.out ⟨HBc.out.rb.q0,HBc.out.rb.sz⟩ HIc.out HTc.out HMI.out HFw.out HFJ.out HGJ.out HJ1.out.2 HG1.out.2 HB1'.out HB2'.out)
end Go.Proofs.YtnlffngpnoodkaaGreat
