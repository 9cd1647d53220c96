import Derived.Test.YtnlffngpnoodkaaGreatP27
import Derived.Test.YtnlffngpnoodkaaGreatP31
namespace Go.Proofs.YtnlffngpnoodkaaGreat
set_option maxRecDepth 1000000
set_option maxHeartbeats 0
section
open Go.RowKit Flt
attribute [local go_sem] ic ib ia
theorem En {w W:World}{b1 b3:Option Addr}{m1 e1 m3 e3 base cap:Nat}{vs:List Vl}{o ln vb vc:Int}{vk:Nat}{R R':Option Nat}{g2 j:Nat}{la:Int}{d:Int}{K:Act->World->Prop}{a b c f h i k l m n p q r s t u x y z A B C D E F G H I J L M N O P Q S T U V X Y Z aa ab ad ae af ag ah ai aj ak al am an ao ap aq ar au av aw ax ay az aA aB aC aD aE aF aG aH aI aJ aK aL aM aN aO aP aQ aR aS aT aU aV aW aX aY aZ a0 a1 a2 a3 a4 a5 a6 a7 a8 a9 ba bb bc bd be bf bg bh bi bj bk bl bm bn bo bp bq br bs bt bu bv bw bx bz bA bB bC bD bE bF bG bH bI bJ bK bL bM bN bO bP bQ bR bS bT bU bV bW bX cF cG cH cI cJ cK cL cM cN cO cP bY bZ b0 b2 b4 b5 b6 b7 b8 b9 ca cb cc cd ce cf cg ch ci cj ck cl cm cn co cp cq cr cs ct cu cv cw cx cy cz cA cB cC cD cE:Value}(HM:Hid (MS w W b1 m1 e1 b3 m3 e3 vs ⟨o,ln,(j:Int),vb,vc,vk⟩ base R R' (some ⟨g2,0,none⟩) cap))(hbd:vs.length<=900000)(hj:j<vs.length)(hla:(vs.getD j Vl.zero).len=la)
  (hk:∀(W':World) (g' cap':Nat) (u153 u154 u155 u156 u157 u158 u159 u160 u161 u162 u163:Value),Hid (MS w W' b1 m1 e1 b3 m3 e3 (vs++[(ik 10 la d 0 0)]) ⟨o,ln,(j:Int),vb,vc,vk⟩ base R (some g') (some ⟨g',0,none⟩) cap')->K ⟨#[a,b,c,.int .i64 d,.pointer (some ⟨w.heap.size,0,none⟩),f,h,i,k,l,m,.pointer (some ⟨w.heap.size+1+1,0,none⟩),n,p,q,r,s,t,u,x,y,z,A,B,C,D,E,F,G,H,I,J,L,M,N,O,P,Q,S,T,U,V,X,Y,Z,aa,ab,ad,ae,af,ag,ah,ai,aj,ak,al,am,an,ao,ap,aq,ar,au,av,aw,ax,ay,az,aA,aB,aC,aD,aE,aF,aG,aH,aI,aJ,aK,aL,aM,aN,aO,aP,aQ,aR,aS,aT,aU,aV,aW,aX,aY,aZ,a0,a1,a2,a3,a4,a5,a6,a7,a8,a9,ba,bb,bc,bd,be,bf,bg,bh,bi,bj,bk,bl,bm,bn,bo,bp,bq,br,bs,bt,bu,bv,bw,bx,bz,bA,bB,bC,bD,bE,bF,bG,bH,bI,bJ,bK,bL,bM,bN,bO,bP,bQ,bR,bS,bT,bU,bV,bW,bX,u153,u154,u155,u156,u157,u158,u159,u160,u161,u162,u163,bY,bZ,b0,b2,b4,b5,b6,b7,b8,b9,ca,cb,cc,cd,ce,cf,cg,ch,ci,cj,ck,cl,cm,cn,co,cp,cq,cr,cs,ct,cu,cv,cw,cx,cy,cz,cA,cB,cC,cD,cE],[]⟩ W'):
  Code.wp Tryz.prog (uX 30) (Exit.then K λ_ _ _=>False) ⟨#[a,b,c,.int .i64 d,.pointer (some ⟨w.heap.size,0,none⟩),f,h,i,k,l,m,.pointer (some ⟨w.heap.size+1+1,0,none⟩),n,p,q,r,s,t,u,x,y,z,A,B,C,D,E,F,G,H,I,J,L,M,N,O,P,Q,S,T,U,V,X,Y,Z,aa,ab,ad,ae,af,ag,ah,ai,aj,ak,al,am,an,ao,ap,aq,ar,au,av,aw,ax,ay,az,aA,aB,aC,aD,aE,aF,aG,aH,aI,aJ,aK,aL,aM,aN,aO,aP,aQ,aR,aS,aT,aU,aV,aW,aX,aY,aZ,a0,a1,a2,a3,a4,a5,a6,a7,a8,a9,ba,bb,bc,bd,be,bf,bg,bh,bi,bj,bk,bl,bm,bn,bo,bp,bq,br,bs,bt,bu,bv,bw,bx,bz,bA,bB,bC,bD,bE,bF,bG,bH,bI,bJ,bK,bL,bM,bN,bO,bP,bQ,bR,bS,bT,bU,bV,bW,bX,cF,cG,cH,cI,cJ,cK,cL,cM,cN,cO,cP,bY,bZ,b0,b2,b4,b5,b6,b7,b8,b9,ca,cb,cc,cd,ce,cf,cg,ch,ci,cj,ck,cl,cm,cn,co,cp,cq,cr,cs,ct,cu,cv,cw,cx,cy,cz,cA,cB,cC,cD,cE],[]⟩ W:=by
 have HK:Hid _:=hk
 clear hk
 have s0:=HM.out.g.c0
 have s1:=HM.out.g.c1
 have s2:=HM.out.g.c2
 have v2:=HM.out.v.c2
 have hL1:=HM.out.len1 hj hla
 have j0:(0:Int)<=(j:Int):=by omega
 have j1:(j:Int)<(vs.length:Int):=by omega
 clear hla
 conv=>arg 2;whnf
 go_region_with (first
  |(go_at_call 50;refine Calls.mono (MS.call HM.out ((ie W).trans k1) (ik 10 la d 0 0) (by omega)) ?_;rintro e w2 ⟨g',cap',rfl,⟨u0,r0⟩,⟨u1,r1⟩,⟨u2,r2⟩,rf,_,hM2⟩;have rf0:=rf 0;have rf1:=rf 1;have rf2:=rf 2;clear rf)
  |(go_at_call 55;refine Calls.mono (lz _ _ _ _ _ _) ?_;rintro e w1 ⟨rfl,k1⟩;have p0:=(MS.keep HM.out ((ie W).trans k1)).g.c0;have p1:=(MS.keep HM.out ((ie W).trans k1)).g.c1;have p2:=(MS.keep HM.out ((ie W).trans k1)).g.c2))
 all_goals exact HK.out _ _ _ _ _ _ _ _ _ _ _ _ _ _ hM2
end
section
open Go.RowKit Flt
attribute [local go_sem] ic ib ia iU
theorem zG {o:Int}(h:whO o):0<=o/\o<=13:=by unfold whO at h;omega
theorem Eo {o:Int}(h:whO o):¬o=5/\¬o=13/\¬o=7/\¬o=8:=by unfold whO at h;omega
theorem zH (w:World)(P:Nat)(u1 u3:Value)(us:List Vl)(c:Int)(base:Nat)(R:Option Nat)(vv:Value)(h:BS w P u1 u3 us c base R vv)(hl:us.length<=900000)(vs0:List Vl)(i:Nat)(hi:i<us.length)(v:Vl)(hv:us.getD i Vl.zero=v)(la:Int)(n0:1<=v.len)(n1:v.len<=1000)(hopW:whO v.op)
  (hA:(v.op=9\/v.op=11)->∃j:Nat,v.a=(j:Int)/\j<vs0.length/\(vs0.getD j Vl.zero).len=la/\1<=la/\la<=1000):
  Calls Tryz.prog 113 #[.pointer (some ⟨P,0,none⟩),.int .i64 (i:Int)] w λe w'=>PtO w P vs0 (i:Int) v la e w':=by
 have hop:0<=v.op/\v.op<=13:=zG hopW
 have HWO:Hid (¬v.op=5/\¬v.op=13/\¬v.op=7/\¬v.op=8):=Eo hopW
 clear hopW
 obtain⟨g,cap,rfl,_,hgl,_,hva⟩:=kU h.own (by omega) rfl
 have hat:=hva.at_ i hi
 rw[hv] at hat
 have ka:=hU 0 0 w (.cells #[.pointer (some ⟨P,0,none⟩)] 58)
 have kb:=hU 0 0 (w.alloc (.cells #[.pointer (some ⟨P,0,none⟩)] 58)) (.cells #[.int .i64 (i:Int)] 3)
 have z1:(w.alloc (.cells #[.pointer (some ⟨P,0,none⟩)] 58)).heap.size=w.heap.size+1:=by simp
 have z2:((w.alloc (.cells #[.pointer (some ⟨P,0,none⟩)] 58)).alloc (.cells #[.int .i64 (i:Int)] 3)).heap.size=w.heap.size+2:=by simp
 have hb:(w.alloc (.cells #[.pointer (some ⟨P,0,none⟩)] 58)).cell? ⟨w.heap.size,0,none⟩=some (.pointer (some ⟨P,0,none⟩)):=by
  rw[World.cell?_alloc_at _ _ w.heap.size 0 rfl];rfl
 have hbi:((w.alloc (.cells #[.pointer (some ⟨P,0,none⟩)] 58)).alloc (.cells #[.int .i64 (i:Int)] 3)).cell? ⟨w.heap.size+1,0,none⟩=some (.int .i64 (i:Int)):=by
  rw[World.cell?_alloc_at _ _ (w.heap.size+1) 0 z1.symm];rfl
 have HB1:Hid (Bx ((w.alloc (.cells #[.pointer (some ⟨P,0,none⟩)] 58)).alloc (.cells #[.int .i64 (i:Int)] 3)) w.heap.size (w.heap.size+2) w.heap.size (.pointer (some ⟨P,0,none⟩))):=⟨Nat.le_refl _,by omega,by rw[kb.cell (p:=⟨w.heap.size,0,none⟩) (by rw[z1];exact Nat.lt_succ_self _) (by omega)];exact hb⟩
 have HI1:Hid (Bx ((w.alloc (.cells #[.pointer (some ⟨P,0,none⟩)] 58)).alloc (.cells #[.int .i64 (i:Int)] 3)) w.heap.size (w.heap.size+2) (w.heap.size+1) (.int .i64 (i:Int))):=⟨by omega,by omega,hbi⟩
 have HK1:Hid _:=ka.trans kb
 have HZ1:Hid _:=z2
 obtain⟨n,hn⟩:∃n,n=us.length:=⟨_,rfl⟩
 have HC1:Hid (((w.alloc (.cells #[.pointer (some ⟨P,0,none⟩)] 58)).alloc (.cells #[.int .i64 (i:Int)] 3)).cell? ⟨P,1,none⟩=some (.slice (some ⟨g,0,none⟩) n cap)):=by
  show _=_
  rw[(ka.trans kb).cell (p:=⟨P,1,none⟩) h.lt (by omega),hn];exact h.c1
 have HA1:Hid (At ((w.alloc (.cells #[.pointer (some ⟨P,0,none⟩)] 58)).alloc (.cells #[.int .i64 (i:Int)] 3)) g (i*6) v):=hat.keep hgl (ka.trans kb) (.inr (.inr (Nat.le_refl _)))
 have HGL:Hid (P<w.heap.size/\g<w.heap.size):=⟨h.lt,hgl⟩
 rw[<-hn] at hi hl
 have hi1:(0:Int)<=(i:Int):=by omega
 have hi2:(i:Int)<(n:Int):=by omega
 clear h hva hat ka kb z1 z2 hb hbi hn hgl hv
 go_enter Tryz.func113,Tryz.ntmps113
 go_upto_region 1 with fail
 generalize ((w.alloc (.cells #[.pointer (some ⟨P,0,none⟩)] 58)).alloc (.cells #[.int .i64 (i:Int)] 3))=w1 at HB1 HI1 HK1 HZ1 HC1 HA1 ⊢
 go_cut [5] (λp wx=>p=.pointer (some ⟨w.heap.size+2,0,none⟩)/\Hid (At wx (w.heap.size+2) 0 v)/\Hid (Kept 0 0 w1 wx)/\Hid (wx.heap.size=w.heap.size+3))
 case first=>
  have x0:=HB1.out.at_
  have x1:=HI1.out.at_
  have y1:=HC1.out
  obtain⟨a0,a1,a2,a3,a4,a5⟩:=HA1.out
  have hz:=HZ1.out
  have hg:=HGL.out
  have kz:=hU 0 0 w1 (ij 0 0 0 0 0 0)
  have zz:∀b o,b<w.heap.size+2->(w1.alloc (ij 0 0 0 0 0 0)).cell? ⟨b,o,none⟩=w1.cell? ⟨b,o,none⟩:=λb o hb=>kz.cell (p:=⟨b,o,none⟩) (by show b<_;omega) (by omega)
  have x0':=(zz w.heap.size 0 (by omega)).trans x0
  have x1':=(zz (w.heap.size+1) 0 (by omega)).trans x1
  have y1':=(zz P 1 (by omega)).trans y1
  have a0':=(zz g (i*6) (by omega)).trans a0
  have a1':=(zz g (i*6+1) (by omega)).trans a1
  have a2':=(zz g (i*6+2) (by omega)).trans a2
  have a3':=(zz g (i*6+3) (by omega)).trans a3
  have a4':=(zz g (i*6+4) (by omega)).trans a4
  have a5':=(zz g (i*6+5) (by omega)).trans a5
  clear hg kz zz
  go_region
  all_goals
   go_wp2_with fail
   go_meet
   have hv:=lr w1 v
   rw[HZ1.out] at hv
   exact⟨rfl,hv.keep (by have:=HZ1.out;simp;omega) (ie _) (.inr (.inr (Nat.le_refl _))),(hU 0 0 w1 _).trans (ie _),by have:=HZ1.out;show(w1.alloc _).heap.size=_;simp;omega⟩
 case rest=>
  obtain⟨rfl,hV,hK,hZ⟩:=hcut
  have kn:=hU 0 0 wc (.cells #[.int .i64 v.len] 3)
  have zn:(wc.alloc (.cells #[.int .i64 v.len] 3)).heap.size=w.heap.size+4:=by have:=hZ.out;simp;omega
  have ko:=hU 0 0 (wc.alloc (.cells #[.int .i64 v.len] 3)) (.cells #[.func (.func 124) #[] #[.pointer (some ⟨w.heap.size,0,none⟩),.pointer (some ⟨w.heap.size+3,0,none⟩)]] 72)
  have zo:((wc.alloc (.cells #[.int .i64 v.len] 3)).alloc (.cells #[.func (.func 124) #[] #[.pointer (some ⟨w.heap.size,0,none⟩),.pointer (some ⟨w.heap.size+3,0,none⟩)]] 72)).heap.size=w.heap.size+5:=by simp;have:=hZ.out;omega
  have HK5:Hid (Kept 0 0 w ((wc.alloc (.cells #[.int .i64 v.len] 3)).alloc (.cells #[.func (.func 124) #[] #[.pointer (some ⟨w.heap.size,0,none⟩),.pointer (some ⟨w.heap.size+3,0,none⟩)]] 72))):=HK1.out.trans (hK.out.trans (kn.trans ko))
  have HB5:Hid (Bx ((wc.alloc (.cells #[.int .i64 v.len] 3)).alloc (.cells #[.func (.func 124) #[] #[.pointer (some ⟨w.heap.size,0,none⟩),.pointer (some ⟨w.heap.size+3,0,none⟩)]] 72)) w.heap.size ((wc.alloc (.cells #[.int .i64 v.len] 3)).alloc (.cells #[.func (.func 124) #[] #[.pointer (some ⟨w.heap.size,0,none⟩),.pointer (some ⟨w.heap.size+3,0,none⟩)]] 72)).heap.size w.heap.size (.pointer (some ⟨P,0,none⟩))):=HB1.out.grow (hK.out.trans (kn.trans ko)) HZ1.out.symm rfl
  have HI5:Hid (Bx ((wc.alloc (.cells #[.int .i64 v.len] 3)).alloc (.cells #[.func (.func 124) #[] #[.pointer (some ⟨w.heap.size,0,none⟩),.pointer (some ⟨w.heap.size+3,0,none⟩)]] 72)) w.heap.size ((wc.alloc (.cells #[.int .i64 v.len] 3)).alloc (.cells #[.func (.func 124) #[] #[.pointer (some ⟨w.heap.size,0,none⟩),.pointer (some ⟨w.heap.size+3,0,none⟩)]] 72)).heap.size (w.heap.size+1) (.int .i64 (i:Int))):=HI1.out.grow (hK.out.trans (kn.trans ko)) HZ1.out.symm rfl
  have HV5:Hid (Vx ((wc.alloc (.cells #[.int .i64 v.len] 3)).alloc (.cells #[.func (.func 124) #[] #[.pointer (some ⟨w.heap.size,0,none⟩),.pointer (some ⟨w.heap.size+3,0,none⟩)]] 72)) w.heap.size ((wc.alloc (.cells #[.int .i64 v.len] 3)).alloc (.cells #[.func (.func 124) #[] #[.pointer (some ⟨w.heap.size,0,none⟩),.pointer (some ⟨w.heap.size+3,0,none⟩)]] 72)).heap.size (w.heap.size+2) v):=(⟨by omega,by omega,hV.out⟩:Vx wc w.heap.size (w.heap.size+3) (w.heap.size+2) v).grow (kn.trans ko) hZ.out.symm rfl
  have HN5:Hid (Bx ((wc.alloc (.cells #[.int .i64 v.len] 3)).alloc (.cells #[.func (.func 124) #[] #[.pointer (some ⟨w.heap.size,0,none⟩),.pointer (some ⟨w.heap.size+3,0,none⟩)]] 72)) w.heap.size ((wc.alloc (.cells #[.int .i64 v.len] 3)).alloc (.cells #[.func (.func 124) #[] #[.pointer (some ⟨w.heap.size,0,none⟩),.pointer (some ⟨w.heap.size+3,0,none⟩)]] 72)).heap.size (w.heap.size+3) (.int .i64 v.len)):=(⟨by omega,by omega,by rw[World.cell?_alloc_at _ _ (w.heap.size+3) 0 hZ.out.symm];rfl⟩:Bx (wc.alloc (.cells #[.int .i64 v.len] 3)) w.heap.size (w.heap.size+4) (w.heap.size+3) (.int .i64 v.len)).grow ko zn.symm rfl
  have HO5:Hid (Bx ((wc.alloc (.cells #[.int .i64 v.len] 3)).alloc (.cells #[.func (.func 124) #[] #[.pointer (some ⟨w.heap.size,0,none⟩),.pointer (some ⟨w.heap.size+3,0,none⟩)]] 72)) w.heap.size ((wc.alloc (.cells #[.int .i64 v.len] 3)).alloc (.cells #[.func (.func 124) #[] #[.pointer (some ⟨w.heap.size,0,none⟩),.pointer (some ⟨w.heap.size+3,0,none⟩)]] 72)).heap.size (w.heap.size+4) (.func (.func 124) #[] #[.pointer (some ⟨w.heap.size,0,none⟩),.pointer (some ⟨w.heap.size+3,0,none⟩)])):=⟨by omega,by omega,by rw[World.cell?_alloc_at _ _ (w.heap.size+4) 0 zn.symm];rfl⟩
  have HZ5:Hid _:=zo
  obtain⟨v0,v1,v2,v3,v4,v5⟩:=hV.out
  simp only[Nat.zero_add] at v1 v2 v3 v4 v5
  clear kn zn ko zo HB1 HI1 HK1 HZ1 HC1 HA1 HGL
  go_upto_region 5 with fail
  rw[hZ.out]
  generalize (wc.alloc (.cells #[.int .i64 v.len] 3)).alloc (.cells #[.func (.func 124) #[] #[.pointer (some ⟨w.heap.size,0,none⟩),.pointer (some ⟨w.heap.size+3,0,none⟩)]] 72)=w5 at HK5 HB5 HI5 HV5 HN5 HO5 HZ5 ⊢
  clear v0 v1 v2 v3 v4 v5 hV hK hZ
  obtain⟨v0,v1,v2,v3,v4,v5⟩:=HV5.out.at_
  simp only[Nat.zero_add] at v1 v2 v3 v4 v5
  have x0:=HB5.out.at_
  have x4:=HO5.out.at_
  have hz5:=HZ5.out
  by_cases ho2:v.op=2
  ·have R:Hid _:=AA (P:=P) (vs0:=vs0) (la:=la) n0 n1 ho2 HK5 HB5 HI5 HV5 HN5 HO5
   rw[ho2] at v0
   clear HK5 HB5 HI5 HV5 HN5 HO5 hA
   go_wp2_with fail
   go_ret
   exact R.out _ _ (by rw[HZ5.out])
  by_cases ho3:v.op=3
  ·have R:Hid _:=AB (P:=P) (vs0:=vs0) (la:=la) n0 n1 ho3 HK5 HB5 HI5 HV5 HN5 HO5
   rw[ho3] at v0
   clear HK5 HB5 HI5 HV5 HN5 HO5 hA
   go_wp2_with fail
   go_ret
   exact R.out _ _ (by rw[HZ5.out])
  by_cases ho4:v.op=4
  ·have R:Hid _:=AC (P:=P) (vs0:=vs0) (la:=la) n0 n1 ho4 HK5 HB5 HI5 HV5 HN5 HO5
   rw[ho4] at v0
   clear HK5 HB5 HI5 HV5 HN5 HO5 hA
   go_wp2_with fail
   go_ret
   exact R.out _ _ (by rw[HZ5.out])
  have ho5:=HWO.out.1
  by_cases ho6:v.op=6
  ·have R:Hid _:=AD (P:=P) (vs0:=vs0) (la:=la) n0 n1 ho6 HK5 HB5 HI5 HV5 HN5 HO5
   rw[ho6] at v0
   clear HK5 HB5 HI5 HV5 HN5 HO5 hA
   go_wp2_with fail
   go_ret
   exact R.out _ _ (by rw[HZ5.out])
  have ho13:=HWO.out.2.1
  have HSH:Hid (_->_):=λh=>sR w5 P vs0 (i:Int) v la h hA
  have ho7:=HWO.out.2.2.1
  have ho8:=HWO.out.2.2.2
  have HC:Hid _:=HSH.out (by omega)
  have t2:(v.op==2)=false:=by simp;exact ho2
  have t3:(v.op==3)=false:=by simp;exact ho3
  have t4:(v.op==4)=false:=by simp;exact ho4
  have t5:(v.op==5)=false:=by simp;exact ho5
  have t6:(v.op==6)=false:=by simp;exact ho6
  have t13:(v.op==13)=false:=by simp;exact ho13
  have t7:(v.op==7)=false:=by simp;exact ho7
  have t8:(v.op==8)=false:=by simp;exact ho8
  clear HB5 HI5 HV5 HN5 HO5 hA HSH
  go_wp2_with fail
  refine Calls.mono HC.out ?_
  rintro e w6 ⟨a6,m6,c6,fv6,rfl,h6⟩
  have R:Hid (PtO w P vs0 (i:Int) v la (.returned (.slice a6 m6 c6)) w6):=PtO.from HK5.out ⟨a6,m6,c6,fv6,rfl,h6⟩
  clear h6
  go_wp2_with fail
  go_ret
  exact R.out
theorem BN (w:World)(P K A S n:Nat)(u1 u3 rv vv:Value)(act:List Bool)(vs0:List Vl)(sl:List Int)(base:Nat)(R:Option Nat)(h:BS w P u1 u3 vs0 (ig vs0) base R vv)(b:BK w K P A S n rv act sl)(hn:vs0.length=n)(hl:n<=2000)(i:Nat)(hi:i<n)(n0:1<=(vs0.getD i Vl.zero).len)(n1:(vs0.getD i Vl.zero).len<=1000)(hop:whO (vs0.getD i Vl.zero).op)
  (hA:((vs0.getD i Vl.zero).op=9\/(vs0.getD i Vl.zero).op=11)->∃j:Nat,(vs0.getD i Vl.zero).a=(j:Int)/\j<vs0.length/\(vs0.getD j Vl.zero).len=laM vs0 i/\1<=laM vs0 i/\laM vs0 i<=1000):
  Calls Tryz.prog 90 #[.pointer (some ⟨K,0,none⟩),.int .i64 (i:Int)] w λe w'=>RuO w P K vs0 i e w':=by
 obtain⟨g,cap,rfl,_,hgl,_,hva⟩:=kU h.own (by omega) rfl
 have ka:=hU 0 0 w (lX 91 (.pointer (some ⟨K,0,none⟩)))
 have kb:=hU 0 0 (w.alloc (lX 91 (.pointer (some ⟨K,0,none⟩)))) (lX 3 (.int .i64 (i:Int)))
 have z1:(w.alloc (lX 91 (.pointer (some ⟨K,0,none⟩)))).heap.size=w.heap.size+1:=by simp
 have z2:((w.alloc (lX 91 (.pointer (some ⟨K,0,none⟩)))).alloc (lX 3 (.int .i64 (i:Int)))).heap.size=w.heap.size+2:=by simp
 have HBW:Hid _:=(pK w w.heap.size (Nat.le_refl _) 91 (.pointer (some ⟨K,0,none⟩))).chg (kb.chg (S:=λ_=>False)) (λh=>h)
 have hBI:=pK (w.alloc (lX 91 (.pointer (some ⟨K,0,none⟩)))) w.heap.size (by omega) 3 (.int .i64 (i:Int))
 rw[z1] at hBI
 have HBI:Hid _:=hBI
 have HK1:Hid _:=ka.trans kb
 have HZ1:Hid _:=z2
 have HBS:Hid _:=BS.keep h (ka.trans kb)
 have HBK:Hid _:=b.keep (ka.trans kb)
 have HA1:Hid (At ((w.alloc (lX 91 (.pointer (some ⟨K,0,none⟩)))).alloc (lX 3 (.int .i64 (i:Int)))) g (i*6) (vs0.getD i Vl.zero)):=(hva.at_ i (by omega)).keep hgl (ka.trans kb) (.inr (.inr (Nat.le_refl _)))
 have HGL:Hid (g<w.heap.size/\P<w.heap.size/\K<w.heap.size):=⟨hgl,h.lt,b.lt⟩
 have HK0:Hid _:=b.c0
 have HPO:Hid (∀W',Kept 0 0 w W'->_):=λW' (kW:Kept 0 0 w W')=>zH W' P u1 u3 vs0 (ig vs0) base R _ (BS.keep h kW) (by omega) vs0 i (by omega) _ rfl (laM vs0 i) n0 n1 hop hA
 have HNN:Hid (vs0.length=n):=hn
 have hi1:(0:Int)<=(i:Int):=by omega
 have hi2:(i:Int)<(n:Int):=by omega
 generalize hve:vs0.getD i Vl.zero=v at HA1 HPO n0 n1 hop hA
 have HVE:Hid _:=hve
 clear h b hva hgl ka kb z1 z2 hBI hA hve n0 n1 hop
 go_enter Tryz.func90,Tryz.ntmps90
 go_upto_region 1 with fail
 generalize (w.alloc (lX 91 (.pointer (some ⟨K,0,none⟩)))).alloc (lX 3 (.int .i64 (i:Int)))=w1 at HBW HBI HK1 HZ1 HBS HBK HA1 ⊢
 go_cut [5] (λp wx=>∃xo go:Nat,p=.pointer (some ⟨xo,0,none⟩)/\Hid (RO1 w wx K i v xo go))
 case first=>
  have x0:=HBW.out.at_
  have x1:=HBI.out.at_
  have y0:=HBK.out.c0
  have y1:=HBS.out.c1
  rw[HNN.out] at y1
  obtain⟨a0,a1,a2,a3,a4,a5⟩:=HA1.out
  have hz:=HZ1.out
  have hg:=HGL.out
  have kz':∀w',Kept 0 0 w1 w'->∀b o,b<w.heap.size+2->w'.cell? ⟨b,o,none⟩=w1.cell? ⟨b,o,none⟩:=λw' kw b o hb=>kw.cell (p:=⟨b,o,none⟩) (by show b<_;omega) (by omega)
  have HSS:Hid (∀w',Kept 0 0 w1 w'->w'.cell? ⟨w.heap.size,0,none⟩=some (.pointer (some ⟨K,0,none⟩))/\w'.cell? ⟨w.heap.size+1,0,none⟩=some (.int .i64 (i:Int))/\w'.cell? ⟨K,0,none⟩=some (.pointer (some ⟨P,0,none⟩))/\w'.cell? ⟨P,1,none⟩=some (.slice (some ⟨g,0,none⟩) n cap)/\w'.cell? ⟨g,i*6,none⟩=some (.int .i64 v.op)/\w'.cell? ⟨g,i*6+1,none⟩=some (.int .i64 v.len)/\w'.cell? ⟨g,i*6+2,none⟩=some (.int .i64 v.a)/\w'.cell? ⟨g,i*6+3,none⟩=some (.int .i64 v.b)/\w'.cell? ⟨g,i*6+4,none⟩=some (.int .i64 v.c)/\w'.cell? ⟨g,i*6+5,none⟩=some (.float .f64 v.k)):=λw' kw=>⟨(kz' w' kw w.heap.size 0 (by omega)).trans x0,(kz' w' kw (w.heap.size+1) 0 (by omega)).trans x1,(kz' w' kw K 0 (by omega)).trans y0,(kz' w' kw P 1 (by omega)).trans y1,(kz' w' kw g (i*6) (by omega)).trans a0,(kz' w' kw g (i*6+1) (by omega)).trans a1,(kz' w' kw g (i*6+2) (by omega)).trans a2,(kz' w' kw g (i*6+3) (by omega)).trans a3,(kz' w' kw g (i*6+4) (by omega)).trans a4,(kz' w' kw g (i*6+5) (by omega)).trans a5⟩
  have HX1:Hid (∀w2 g5,Kept 0 0 w1 w2->(∀k,k<cnt v.op->w.heap.size<=g5/\g5<w2.heap.size/\w2.cell? ⟨g5,k,none⟩=some (.int .i64 (fld v k)))->∀xo,Bx w2 w.heap.size w2.heap.size xo (.slice (some ⟨g5,0,none⟩) (cnt v.op) 3)->RO1 w w2 K i v xo g5):=λw2 g5 k hg xo hx=>
   ⟨HBW.out.chg (k.chg (S:=λ_=>False)) (λh=>h),HBI.out.chg (k.chg (S:=λ_=>False)) (λh=>h),hx,hg,HK1.out.trans k⟩
  have HB0:Hid (∀w2,Kept 0 0 (w1.alloc (lX 23 (.slice none 0 0))) w2->w2.cell? ⟨w1.heap.size,0,none⟩=some (.slice none 0 0)/\w2.frozen? ⟨w1.heap.size,0,none⟩=false):=λw2 k=>⟨by rw[k.cell (p:=⟨w1.heap.size,0,none⟩) (by simp) (by omega),World.cell?_alloc_at _ _ w1.heap.size 0 rfl];rfl,by rw[k.frozen (p:=⟨w1.heap.size,0,none⟩) (by simp) (by omega)];exact World.frozen?_alloc_at _ _ w1.heap.size 0 rfl⟩
  clear hg kz' hz
  go_region_held3 (λw'=>w'.cell? ⟨w.heap.size,0,none⟩=some (.pointer (some ⟨K,0,none⟩))/\w'.cell? ⟨w.heap.size+1,0,none⟩=some (.int .i64 (i:Int))/\w'.cell? ⟨K,0,none⟩=some (.pointer (some ⟨P,0,none⟩))/\w'.cell? ⟨P,1,none⟩=some (.slice (some ⟨g,0,none⟩) n cap)/\w'.cell? ⟨g,i*6,none⟩=some (.int .i64 v.op)/\w'.cell? ⟨g,i*6+1,none⟩=some (.int .i64 v.len)/\w'.cell? ⟨g,i*6+2,none⟩=some (.int .i64 v.a)/\w'.cell? ⟨g,i*6+3,none⟩=some (.int .i64 v.b)/\w'.cell? ⟨g,i*6+4,none⟩=some (.int .i64 v.c)/\w'.cell? ⟨g,i*6+5,none⟩=some (.float .f64 v.k)) (first|go_keep|exact HSS.out _ ((ie w1).trans (hU 0 0 _ _))|exact HSS.out _ ((hU 0 0 w1 _).trans (ie _))|exact HSS.out _ (((hU 0 0 w1 _).trans kk).new (it (lo:=w1.heap.size) (hi:=w1.heap.size+1) w2 ⟨w1.heap.size,0,none⟩ _ (.inl ⟨Nat.le_refl _,Nat.lt_succ_self _⟩)) (Nat.le_refl _))) (first
   |(go_at_call 67;first
    |(refine Calls.mono (lh w1.drew v) ?_;rintro e w2 ⟨g5,rfl,i5,hg5,k5⟩;have kk:Kept 0 0 w1 w2:=(ie w1).trans k5;have ho:=ue i5;obtain⟨q0,q1,q2,q3,q4,q5,q6,q7,q8,q9⟩:=HSS.out w2 kk)
    |(refine Calls.mono (lh (w1.alloc (lX 23 (.slice none 0 0))).drew v) ?_;rintro e w2 ⟨g5,rfl,i5,hg5,k5⟩;have kk:Kept 0 0 (w1.alloc (lX 23 (.slice none 0 0))) w2:=(ie _).trans k5;have ho:=ue i5;obtain⟨b0,bf⟩:=HB0.out w2 kk;obtain⟨q0,q1,q2,q3,q4,q5,q6,q7,q8,q9⟩:=HSS.out w2 ((hU 0 0 w1 _).trans kk))))
  all_goals
   first
   |(have R1:Hid (RO1 w (w2.alloc (lX 23 (.slice (some ⟨g5,0,none⟩) (cnt v.op) 3))) K i v w2.heap.size g5):=HX1.out _ g5 (kk.trans (hU 0 0 w2 _)) (λq hq=>by
      obtain⟨h1,h2,h3⟩:=ho q hq
      exact⟨by have:=HZ1.out;have h1':w1.heap.size<=g5:=h1;omega,by simp;omega,by rw[(hU 0 0 w2 _).cell (p:=⟨g5,q,none⟩) h2 (by omega)];exact h3⟩) _ (pK w2 w.heap.size (by have:=HK1.out.size;have:=kk.size;omega) _ _)
     clear HX1 HB0 HSS ho i5 hg5 k5 kk x0 x1 y0 y1 a0 a1 a2 a3 a4 a5
     go_wp2_with fail
     go_meet
     exact⟨_,_,rfl,R1⟩)
   |(have R1:Hid (RO1 w (w2.setCell ⟨w1.heap.size,0,none⟩ (.slice (some ⟨g5,0,none⟩) (cnt v.op) 3)) K i v w1.heap.size g5):=HX1.out _ g5 (((hU 0 0 w1 _).trans kk).new (it (lo:=w1.heap.size) (hi:=w1.heap.size+1) w2 ⟨w1.heap.size,0,none⟩ _ (.inl ⟨Nat.le_refl _,Nat.lt_succ_self _⟩)) (Nat.le_refl _)) (λq hq=>by
      obtain⟨h1,h2,h3⟩:=ho q hq
      have h1':(w1.alloc (lX 23 (.slice none 0 0))).heap.size<=g5:=h1
      simp at h1'
      exact⟨by have:=HZ1.out;omega,by simpa using h2,by rw[iB _ _ _ _ _ _ (.inl (by omega))];exact h3⟩) _ ⟨by have:=HK1.out.size;omega,by have h:=kk.size;simp at h ⊢;omega,jI _ _ _ _ _ b0⟩
     clear HX1 HB0 HSS ho i5 hg5 k5 kk x0 x1 y0 y1 a0 a1 a2 a3 a4 a5
     go_wp2_with fail
     go_meet
     exact⟨_,_,rfl,R1⟩)
 case rest=>
  obtain⟨xo,go,rfl,hR⟩:=hcut
  have HSS:Hid (∀w',Kept 0 0 wc w'->w'.cell? ⟨w.heap.size,0,none⟩=some (.pointer (some ⟨K,0,none⟩))/\w'.cell? ⟨w.heap.size+1,0,none⟩=some (.int .i64 (i:Int))/\w'.cell? ⟨K,0,none⟩=some (.pointer (some ⟨P,0,none⟩))):=λw' kw=>⟨by rw[kw.cell (p:=⟨w.heap.size,0,none⟩) hR.out.bw.hi_ (by omega)];exact hR.out.bw.at_,by rw[kw.cell (p:=⟨w.heap.size+1,0,none⟩) hR.out.bi.hi_ (by omega)];exact hR.out.bi.at_,by rw[(hR.out.kp.trans kw).cell (p:=⟨K,0,none⟩) HGL.out.2.2 (by omega)];exact HK0.out⟩
  obtain⟨x0,x1,y0⟩:=HSS.out wc (Kept.refl _ _ _)
  have HB0:Hid (∀w2,Kept 0 0 (wc.alloc (lX 129 (.slice none 0 0))) w2->w2.cell? ⟨wc.heap.size,0,none⟩=some (.slice none 0 0)/\w2.frozen? ⟨wc.heap.size,0,none⟩=false):=λw2 k=>⟨by rw[k.cell (p:=⟨wc.heap.size,0,none⟩) (by simp) (by omega),World.cell?_alloc_at _ _ wc.heap.size 0 rfl];rfl,by rw[k.frozen (p:=⟨wc.heap.size,0,none⟩) (by simp) (by omega)];exact World.frozen?_alloc_at _ _ wc.heap.size 0 rfl⟩
  have hbw:=hR.out.bw.hi_
  have hbi:=hR.out.bi.hi_
  have HRF:Hid (∀wy (Q:Nat->Prop),Chg Q wc wy->(∀b,Q b->wc.heap.size<=b)->∀xp a mp cp fv,Bx wy w.heap.size wy.heap.size xp (.slice a mp cp)->cnt v.op<=mp->Pts wy w.heap.size wy.heap.size P vs0 (i:Int) v (laM vs0 i) a fv->RuO w P K vs0 i (.returned (.func (.func 114) #[] #[.pointer (some ⟨w.heap.size,0,none⟩),.pointer (some ⟨w.heap.size+1,0,none⟩),.pointer (some ⟨xo,0,none⟩),.pointer (some ⟨xp,0,none⟩)])) wy):=λwy Q k hQ xp a mp cp fv hx hm hp=>by
   have r:=hR.out.chg k hQ
   refine⟨_,_,_,_,go,a,mp,cp,fv,rfl,⟨r.bw,r.bi,?_,?_,hx,?_,?_⟩,r.kp⟩
   ·rw[HVE.out];exact r.bo
   ·rw[HVE.out];exact r.go_
   ·rw[HVE.out];exact hm
   ·rw[HVE.out];exact hp
  have HKW:Hid (Kept 0 0 w wc):=hR.out.kp
  have hmf:∀(fn:Fn) (first cap:Array Value) (w:World),(Instr.makeFunc fn first cap).run Tryz.prog w=.ok (.func fn first cap) w:=λ_ _ _ _=>rfl
  clear hR HBW HBI HBS HBK HA1
  go_wp2_with fail
  go_region_held3 (λw'=>w'.cell? ⟨w.heap.size,0,none⟩=some (.pointer (some ⟨K,0,none⟩))/\w'.cell? ⟨w.heap.size+1,0,none⟩=some (.int .i64 (i:Int))/\w'.cell? ⟨K,0,none⟩=some (.pointer (some ⟨P,0,none⟩))) (first|go_keep|exact HSS.out _ ((ie wc).trans (hU 0 0 _ _))|exact HSS.out _ ((hU 0 0 wc _).trans (ie _))|exact HSS.out _ (((hU 0 0 wc _).trans kk).new (it (lo:=wc.heap.size) (hi:=wc.heap.size+1) w2 ⟨wc.heap.size,0,none⟩ _ (.inl ⟨Nat.le_refl _,Nat.lt_succ_self _⟩)) (Nat.le_refl _))) (first
   |(go_at_call 113;first
    |(refine Calls.mono (HPO.out wc.drew (HKW.out.trans (ie wc))) ?_;rintro e w2 ⟨a2,m2,c2,fv2,rfl,hc2,hp2,k5⟩;have kk:Kept 0 0 wc w2:=(ie wc).trans k5;obtain⟨q0,q1,q2⟩:=HSS.out w2 kk)
    |(refine Calls.mono (HPO.out (wc.alloc (lX 129 (.slice none 0 0))).drew (HKW.out.trans ((hU 0 0 wc _).trans (ie _)))) ?_;rintro e w2 ⟨a2,m2,c2,fv2,rfl,hc2,hp2,k5⟩;have kk:Kept 0 0 (wc.alloc (lX 129 (.slice none 0 0))) w2:=(ie _).trans k5;obtain⟨b0,bf⟩:=HB0.out w2 kk;obtain⟨q0,q1,q2⟩:=HSS.out w2 ((hU 0 0 wc _).trans kk))))
  all_goals
   first
   |(have R1:Hid _:=HRF.out (w2.alloc (lX 129 (.slice a2 m2 c2))) (λ_=>False) (kk.trans (hU 0 0 w2 _)).chg (λ_ h=>h.elim) w2.heap.size a2 m2 c2 fv2 (pK w2 w.heap.size (by have:=HKW.out.size;have:=kk.size;omega) _ _) hc2 (hp2.mono ((Same.refl (Nat.le_refl _)).chg ((hU 0 0 w2 _).chg (S:=λ_=>False)) (λ_ _ _ h=>h)) HKW.out.size (hU 0 0 w2 _).size)
     clear HRF HSS HB0 HPO hp2 kk k5 x0 x1 y0 hbw hbi
     go_wp2_with fail
     go_ret
     exact R1.out)
   |(have R1:Hid _:=HRF.out (w2.setCell ⟨wc.heap.size,0,none⟩ (.slice a2 m2 c2)) (λb=>b=wc.heap.size) (Chg.andThen ((hU 0 0 wc _).trans kk).chg (iH w2 wc.heap.size 0 _ rfl)) (λb h=>by omega) wc.heap.size a2 m2 c2 fv2 ⟨HKW.out.size,by have h:=kk.size;simp at h ⊢;omega,jI _ _ _ _ _ b0⟩ hc2 (hp2.mono (lo':=w.heap.size) (hi':=(w2.setCell ⟨wc.heap.size,0,none⟩ (.slice a2 m2 c2)).heap.size) ((Same.refl (Nat.le_refl _)).chg (iH (S:=λb=>b=wc.heap.size) w2 wc.heap.size 0 (.slice a2 m2 c2) rfl) (λb h1 _ e=>by have h1':(wc.alloc (lX 129 (.slice none 0 0))).heap.size<=b:=h1;simp at h1';omega)) (by have h1:=HKW.out.size;show w.heap.size<=(wc.alloc _).heap.size;simp;omega) (by simp))
     clear HRF HSS HB0 HPO hp2 kk k5 x0 x1 y0 hbw hbi
     go_wp2_with fail
     go_ret
     exact R1.out)
theorem tD (w:World)(P:Nat)(u1 u3 vv:Value)(vs0:List Vl)(base:Nat)(R:Option Nat)(n s x:Nat)(h:BS w P u1 u3 vs0 (ig vs0) base R vv)(hn:vs0.length=n)(hl:n<=2000)(hs:s<n)(hx:x<n)
  (hlen:∀j,j<n->1<=(vs0.getD j Vl.zero).len/\(vs0.getD j Vl.zero).len<=1000) (hopW:∀j,whO (vs0.getD j Vl.zero).op) (hops:∀j,j<n->∀k,k<cnt (vs0.getD j Vl.zero).op->0<=fld (vs0.getD j Vl.zero) k/\fld (vs0.getD j Vl.zero) k<j)
  (hA:∀i,i<n->((vs0.getD i Vl.zero).op=9\/(vs0.getD i Vl.zero).op=11)->∃j:Nat,(vs0.getD i Vl.zero).a=(j:Int)/\j<vs0.length/\(vs0.getD j Vl.zero).len=laM vs0 i/\1<=laM vs0 i/\laM vs0 i<=1000):
  Calls Tryz.prog 65 #[.pointer (some ⟨P,0,none⟩),.int .i64 (s:Int),.int .i64 (x:Int)] w λe w'=>NbO w P n u1 u3 vs0 x (s-x) base R vv e w':=by
 have HWH:Hid _:=hopW
 have hop:∀j,j<n->0<=(vs0.getD j Vl.zero).op/\(vs0.getD j Vl.zero).op<=13:=λj _=>zG (hopW j)
 clear hopW
 obtain⟨i0,hii,hz0,hz1,hz2⟩:=info_parts C3
 have y1:=h.c1
 obtain⟨g,cap,rfl,_,hgl,_,_⟩:=kU h.own (by omega) rfl
 rw[hn] at y1
 have HBS:Hid _:=h
 have HNN:Hid (vs0.length=n):=hn
 have HLE:Hid _:=hlen
 have HOP:Hid _:=hop
 have HOS:Hid _:=hops
 have HAA:Hid _:=hA
 have HRB:Hid (∀b,R=some b->b<w.heap.size):=λb hb=>(ii h.own (by rw[h.row];exact hb)).2
 have hm:=uS n w.drew (by omega)
 have HA0:Hid _:=BR.made w.drew n
 clear h hlen hop hops hA hgl hn
 go_enter Tryz.func65,Tryz.ntmps65
 go_upto_region 2 with fail
 go_cut [8] (λp wx=>∃K A S,p=.pointer (some ⟨K,0,none⟩)/\Hid (NB0 w wx P n K A S))
 case first=>
  have HND:Hid (∀W,_):=λW=>B3 W n (by omega)
  have hmm:∀W,Sem.run Tryz.prog (Instr.makeSlice 79 (.int .i64 (n:Int)) (.int .i64 (n:Int))) W=.ok (.slice (some ⟨W.heap.size,0,none⟩) n n) (W.alloc (.cells (madeCells #[.bool false] n) 4)):=λW=>uS n W (by omega)
  clear hm
  first|(go_region_with (go_at_call 61;first
   |(refine Calls.mono (HND.out w.drew) ?_;rintro e w2 ⟨rfl,i2,k2⟩)
   |(refine Calls.mono (HND.out (w.alloc (.cells (madeCells #[.bool false] n) 4)).drew) ?_;rintro e w2 ⟨rfl,i2,k2⟩)))|fail
  ·have R1:Hid (NB0 w (w2.alloc (.cells #[.pointer (some ⟨P,0,none⟩),.slice (some ⟨w.heap.size,0,none⟩) n n,.slice (some ⟨w.heap.size+1,0,none⟩) n n,.slice none 0 0] 113)) P n w2.heap.size w.heap.size (w.heap.size+1)):=by
    have kk:=(ie (w.alloc (.cells (madeCells #[.bool false] n) 4))).trans k2
    have e:(w.alloc (.cells (madeCells #[.bool false] n) 4)).drew.heap.size=w.heap.size+1:=by show(w.alloc _).heap.size=_;simp
    rw[e] at i2
    exact vN w w2 P n _ _ ((hU 0 0 w _).trans kk) (BR.keep (BR.made w n) kk (.inr (.inr (Nat.le_refl _)))) i2 (Nat.le_refl _) (by omega) (by omega)
   clear i2 k2 hmm
   go_wp2_with fail
   go_meet
   exact⟨_,_,_,rfl,R1⟩
  ·have R1:Hid (NB0 w ((w2.alloc (.cells (madeCells #[.bool false] n) 4)).alloc (.cells #[.pointer (some ⟨P,0,none⟩),.slice (some ⟨w2.heap.size,0,none⟩) n n,.slice (some ⟨w.heap.size,0,none⟩) n n,.slice none 0 0] 113)) P n (w2.heap.size+1) w2.heap.size w.heap.size):=by
    have kk:=(ie w).trans k2
    have ka:=hU 0 0 w2 (.cells (madeCells #[.bool false] n) 4)
    have hS:IR w2 w.heap.size (List.replicate n (-1)):=i2
    have hlt:=hS.lt
    have:=vN w (w2.alloc (.cells (madeCells #[.bool false] n) 4)) P n w2.heap.size w.heap.size (kk.trans ka) (BR.made w2 n) (IR.keep hS ka (.inr (.inr (Nat.le_refl _)))) kk.size (Nat.le_refl _) (by omega)
    have e:(w2.alloc (.cells (madeCells #[.bool false] n) 4)).heap.size=w2.heap.size+1:=by simp
    rw[e] at this
    exact this
   clear i2 k2 hmm
   go_wp2_with fail
   go_meet
   exact⟨_,_,_,rfl,R1⟩
 case rest=>
  obtain⟨K,A,S,rfl,hN⟩:=hcut
  clear hm HA0
  have hPl:=HBS.out.lt
  obtain⟨hk1,hk2,hk3⟩:=hN.out.lo_
  have HC:Hid (NbC wc.heap.size P K A S R):=⟨⟨by omega,by omega,by omega,hN.out.ne.1,hN.out.ne.2.1,hN.out.ne.2.2,λe=>by have:=HRB.out K e;omega,λe=>by have:=HRB.out A e;omega,λe=>by have:=HRB.out S e;omega⟩,by have:=hN.out.kp.size;omega,hN.out.bk.lt,hN.out.bk.ac.lt,hN.out.bk.sp.lt,λb hb=>by have:=HRB.out b hb;have:=hN.out.kp.size;omega⟩
  have HLO:Hid (w.heap.size<=K/\w.heap.size<=A/\w.heap.size<=S/\w.heap.size<=wc.heap.size):=⟨hk1,hk2,hk3,hN.out.kp.size⟩
  have HKW:Hid (Kept 0 0 w wc):=hN.out.kp
  have HNB:Hid (NB (wc.setCell ⟨A,x,none⟩ (.bool true)) (wc.setCell ⟨A,x,none⟩ (.bool true)) wc.heap.size P K A S n u1 u3 (.slice (some ⟨g,0,none⟩) vs0.length cap) (.slice none 0 0) vs0 x 0 base R []):=by
   refine⟨BS.setS (BS.keep HBS.out hN.out.kp) HC.out.dj.ap HC.out.dj.ra,?_,World.ownsRow_nil _ _ _ _,λj u hu=>by simp at hu,(Kept.refl 0 0 _).chg,by simp⟩
   have:=hN.out.bk.setA HC.out.dj x true
   rw[iS,HNN.out]
   exact this
  have HK5:Hid (Kept 0 0 w (wc.setCell ⟨A,x,none⟩ (.bool true))):=HKW.out.new (it (lo:=A) (hi:=A+1) wc ⟨A,x,none⟩ (.bool true) (.inl ⟨Nat.le_refl _,Nat.lt_succ_self _⟩)) hk2
  have z1:=hN.out.bk.c1
  have zA:=BR.cell hN.out.bk.ac x (by simp;omega)
  have zF:=BR.free hN.out.bk.ac x
  generalize (List.replicate n false).getD x false=zz at zA
  have hx1:(0:Int)<=(x:Int):=by omega
  have hx2:(x:Int)<(n:Int):=by omega
  have hxw:IntKind.i64.wrap ((x:Int)+1)=(x:Int)+1:=by rw[IntKind.wrap_i64];omega
  obtain⟨lo,hlo⟩:∃lo,lo=wc.heap.size:=⟨_,rfl⟩
  rw[<-hlo] at HC HNB HLO
  have HLOW:Hid _:=hlo
  clear hN hk1 hk2 hk3 hPl hlo
  go_wp2_with fail
  clear z1 zA zF
  generalize wc.setCell ⟨A,x,none⟩ (.bool true)=w5 at HNB HK5 ⊢
  go_loopw [9] (λv W=>∃(i m:Nat) (rv:Value) (rs:List Value),v=.int .i64 (i:Int)/\i=x+1+m/\m<=s-x/\Hid (NB W w5 lo P K A S n u1 u3 (.slice (some ⟨g,0,none⟩) vs0.length cap) rv vs0 x m base R rs)) (λv _=>s+1-(intOf v).toNat)
  case atStart=>exact⟨x+1,0,_,[],by go_num,rfl,Nat.zero_le _,HNB⟩
  case round=>
   obtain⟨i,m,rv,rs,rfl,him,hms,hN⟩:=hrel
   clear HNB
   by_cases his:i<=s
   ·have hi1:(0:Int)<=(i:Int):=by omega
    have hi2:(i:Int)<(n:Int):=by omega
    have hi3:(i:Int)<=(s:Int):=by omega
    have HRE:Hid (∀W,Kept 0 0 wr W->Calls Tryz.prog 89 #[.pointer (some ⟨K,0,none⟩),.int .i64 (i:Int)] W λe w'=>e=.returned (.bool (lW (iS vs0 x m) (vs0.getD i Vl.zero)))/\Kept 0 0 W w'):=λW kW=>AH W P K A S n u1 u3 rv _ (iS vs0 x m) vs0 (List.replicate n (-1)) (ig vs0) base R (BS.keep hN.out.bs kW) (hN.out.bk.keep kW) i (by have:=HNN.out;omega) HNN.out _ rfl (HOS.out i (by omega))
    obtain⟨bb,hbb⟩:∃bb,bb=lW (iS vs0 x m) (vs0.getD i Vl.zero):=⟨_,rfl⟩
    rw[<-hbb] at HRE
    have HMK:Hid (∀W,Kept 0 0 wr W->BS (W.setCell ⟨A,i,none⟩ (.bool bb)) P u1 u3 vs0 (ig vs0) base R (.slice (some ⟨g,0,none⟩) vs0.length cap)/\BK (W.setCell ⟨A,i,none⟩ (.bool bb)) K P A S n rv (iS vs0 x (m+1)) (List.replicate n (-1))/\(W.setCell ⟨A,i,none⟩ (.bool bb)).ownsRow lo 1 1 rv m rs/\RulesL (W.setCell ⟨A,i,none⟩ (.bool bb)) lo P K vs0 x rv rs/\Chg (λb=>b=K\/b=A\/lo<=b) w5 (W.setCell ⟨A,i,none⟩ (.bool bb))/\lo<=(W.setCell ⟨A,i,none⟩ (.bool bb)).heap.size):=λW kW=>by
     have h:=(hN.out.keep kW).mark HC.out bb (by rw[hbb,him])
     rw[<-him] at h
     exact⟨h.1,h.2.1,h.2.2.1,h.2.2.2.1,h.2.2.2.2,by have:=(hN.out.keep kW).sz;simpa using this⟩
    have HN1:Hid _:=hN.out
    have HIM:Hid (i=x+1+m/\m<=s-x):=⟨him,hms⟩
    clear hN hbb him hms
    go_wp2_with fail
    go_cut [] (λwx=>Hid (BS wx P u1 u3 vs0 (ig vs0) base R (.slice (some ⟨g,0,none⟩) vs0.length cap)/\BK wx K P A S n rv (iS vs0 x (m+1)) (List.replicate n (-1))/\wx.ownsRow lo 1 1 rv m rs/\RulesL wx lo P K vs0 x rv rs/\Chg (λb=>b=K\/b=A\/lo<=b) w5 wx/\lo<=wx.heap.size))
    case first=>
     have z1:=HN1.out.bk.c1
     go_region_held3 (λw'=>w'.cell? ⟨K,1,none⟩=some (.slice (some ⟨A,0,none⟩) n n)) (first|go_keep|(rw[iB _ _ _ _ _ _ (.inl (λe=>HC.out.dj.ka e.symm))];exact z2)) (first|(go_at_call 89;refine Calls.mono (HRE.out wr.drew (ie wr)) ?_;rintro e w2 ⟨rfl,k2⟩;have kk:Kept 0 0 wr w2:=(ie wr).trans k2;have hb2:=HN1.out.bk.keep kk;have z2:=hb2.c1;have zA:=BR.cell hb2.ac i (by rw[hb2.al];omega);have zF:=BR.free hb2.ac i;clear hb2))
     all_goals
      have R1:Hid _:=HMK.out w2 kk
      clear kk k2 HMK HRE
      go_wp2_with fail
      go_meet
      exact R1
    case rest=>
     have HR:Hid _:=hcut
     clear hcut HMK HRE HN1
     obtain⟨ar,cr,rfl⟩:=mx HR.out.2.2.1
     have HRU:Hid (∀W,Kept 0 0 wc W->Calls Tryz.prog 90 #[.pointer (some ⟨K,0,none⟩),.int .i64 (i:Int)] W λe w'=>RuO W P K vs0 i e w'):=λW kW=>BN W P K A S n u1 u3 _ _ (iS vs0 x (m+1)) vs0 (List.replicate n (-1)) base R (BS.keep HR.out.1 kW) (HR.out.2.1.keep kW) HNN.out (by omega) i (by omega) (HLE.out i (by omega)).1 (HLE.out i (by omega)).2 (HWH.out i) (HAA.out i (by omega))
     have z3:=HR.out.2.1.c3
     have hmb:m<=2000:=by have:=HIM.out;omega
     have hlw:lo<=wc.heap.size:=HR.out.2.2.2.2.2
     have HKF:Hid (∀W,Kept 0 0 wc W->W.cell? ⟨K,3,none⟩=some (.slice ar m cr)/\W.ownsRow lo 1 1 (.slice ar m cr) m rs):=λW kW=>⟨(HR.out.2.1.keep kW).c3,iC HR.out.2.2.1 kW⟩
     have HFR:Hid (∀W w9,Kept 0 0 wc W->W.grownBy w9 (Value.slice ar m cr).ownBlock->w9.cell? ⟨K,3,none⟩=some (.slice ar m cr)/\w9.frozen? ⟨K,3,none⟩=false):=λW w9 kW hg=>by
      have b:=HR.out.2.1.keep kW
      have hne:¬(Value.slice ar m cr).ownBlock=some K:=λe=>by have:=(ii HR.out.2.2.1 e).1;have:=HC.out.k;omega
      exact⟨((kV hg).cell (p:=⟨K,3,none⟩) b.lt hne).trans b.c3,((kV hg).frozen (p:=⟨K,3,none⟩) b.lt hne).trans (b.fr 3)⟩
     go_wp2_with fail
     go_region_law (first
      |((fail_if_success (exfalso;refine absurd kk6.size ?_));go_simp;go_wp2_with (first|(go_at_call 90;refine Calls.mono (HRU.out wc.drew (ie wc)) ?_;rintro e w6 ⟨xw,xi,xo,xp,go,a6,mp6,cp6,fv6,rfl,ri6,k6⟩;have kk6:Kept 0 0 wc w6:=(ie wc).trans k6;obtain⟨t3,h6⟩:=HKF.out w6 kk6;have t3a:=(HKF.out (w6.alloc (.cells #[.func (.func 114) #[] #[.pointer (some ⟨xw,0,none⟩),.pointer (some ⟨xi,0,none⟩),.pointer (some ⟨xo,0,none⟩),.pointer (some ⟨xp,0,none⟩)]] 1)) (kk6.trans (hU 0 0 w6 _))).1;have H6:Hid (w6.ownsRow lo 1 1 (.slice ar m cr) m rs):=h6;have H6a:Hid ((w6.alloc (.cells #[qn xw xi xo xp] 1)).ownsRow lo 1 1 (.slice ar m cr) m rs):=World.ownsRow.alloc h6 _;clear h6 HRU)|fail))
      |((first|rw[if_pos (by simp[Region.wanted])]|fail "rw");(first|refine wp_append_lies (w6.alloc (.cells #[qn xw xi xo xp] 1)) (.tmp 49) (.tmp 53) 111 rfl lo 1 i0 .nilFunc 1 8 Tryz.underlying111 hii hz0 hz1 hz2 rfl (by decide) (.slice ar m cr) m rs ?_ H6a.out ⟨w6.heap.size,0,none⟩ 1 1 [qn xw xi xo xp] ?_ rfl (cell_one_new _ _ _) ?_ (by decide) ?_ ?_ ?_ _ rfl ?_|fail "refine");(focus first|rfl|simp[Act.eval]|fail "e1");(focus first|rfl|simp[Act.eval]|fail "e2");(focus first|(intro u hu;cases hu with|head=>rfl|tail _ h=>cases h)|fail "e3");(focus first|exact Nat.le_trans (show m+1<=2001 by omega) (by decide)|fail "e4");(focus first|exact(show(m+1)*8<=140737488355328 by omega)|fail "e5");(focus first|exact Nat.le_trans (Nat.le_trans hlw kk6.size) (by simp)|fail "e6");(first|intro g9 cap9 w9 hown9 hg9 hat9 hlt9|fail "intro");(first|obtain⟨m3,mf3⟩:=HFR.out _ w9 (kk6.trans (hU 0 0 w6 _)) hg9|fail "obtain")))
     all_goals
      have R9:Hid (NB (w9.setCell ⟨K,3,none⟩ (.slice (some ⟨g9,0,none⟩) (m+1) cap9)) w5 lo P K A S n u1 u3 (.slice (some ⟨g,0,none⟩) vs0.length cap) (.slice (some ⟨g9,0,none⟩) (m+1) cap9) vs0 x (m+1) base R (rs++[qn xw xi xo xp])):=NB.push HR.out HC.out kk6 (by rw[<-HIM.out.1];exact ri6) hown9 hg9 (hat9.imp (λh=>h) (λe=>e.trans (by simp)))
      have hiw:IntKind.i64.wrap ((i:Int)+1)=(i:Int)+1:=by rw[IntKind.wrap_i64];omega
      have hd1:s+1-(i+1)<s+1-i:=by omega
      clear hown9 hg9 hat9 hlt9 m3 mf3 ri6 k6 kk6 H6 HKF HFR HR t3 t3a z3
      go_wp2_with fail
      go_roundw
      case rel=>exact⟨i+1,m+1,_,_,by go_num,by have:=HIM.out;omega,by have:=HIM.out;omega,R9⟩
      case measure=>simp[intOf];omega
   ·have hms2:m=s-x:=by omega
    have HN1:Hid _:=hN.out
    have hi3:¬((i:Int)<=(s:Int)):=by omega
    clear hN him
    go_wp2_with fail
    go_ret
    unfold NbO
    have hC:=HC.out
    refine⟨lo,K,A,S,rv,rs,rfl,⟨HN1.out.bs,?_,?_,HN1.out.rl,(Kept.refl 0 0 _).chg,HN1.out.sz⟩,HC.out,?_,Chg.kept HK5.out HN1.out.ch (λb hb=>?_)⟩
    ·rw[<-hms2];exact HN1.out.bk
    ·rw[<-hms2];exact HN1.out.row
    ·exact HLO.out
    ·have:=HLO.out;omega
end
section
open Go.RowKit Flt
attribute [local go_sem] ic ib ia
theorem zJ (w:World)(P:Nat)(u1 u3 vv:Value)(ins:List Int)(vs0:List Vl)(base:Nat)(R:Option Nat)(n s x:Nat)(h:BS w P u1 u3 vs0 (ig vs0) base R vv)(hn:vs0.length=n)(hl:n<=2000)(hs:s<n)(hx:x<n)(hok:(List.range n).all (okV ins vs0)=true)(hc5:ig vs0<=50000)(hwh:∀k,whO (vs0.getD k Vl.zero).op):
  Calls Tryz.prog 32 #[.pointer (some ⟨P,0,none⟩),.int .i64 (s:Int),.int .i64 (x:Int)] w λe w'=>PGo w P u1 u3 base R (grM vs0 s x) e w':=by
 have hlen:∀j,j<n->1<=(vs0.getD j Vl.zero).len/\(vs0.getD j Vl.zero).len<=1000:=λj hj=>ja (List.all_eq_true.1 hok j (List.mem_range.2 hj))
 have hops:∀j,j<n->∀k,k<cnt (vs0.getD j Vl.zero).op->0<=fld (vs0.getD j Vl.zero) k/\fld (vs0.getD j Vl.zero) k<j:=λj hj=>mN (List.all_eq_true.1 hok j (List.mem_range.2 hj))
 have hc0:0<=ig vs0:=kM vs0 (λj hj=>by have:=hlen j (by omega);omega)
 have hz:SzU 2000 50000 vs0:=⟨by omega,hc0,hc5⟩
 have HX:Hid _:=tD w P u1 u3 vv vs0 base R n s x h hn hl hs hx hlen hwh hops (by subst hn;exact yl hok)
 clear hwh
 have HG:Hid (∀w1 K,(∃lo A S rv rs,NB w1 w1 lo P K A S n u1 u3 vv rv vs0 x (s-x) base R rs/\NbC lo P K A S R/\(w.heap.size<=K/\w.heap.size<=A/\w.heap.size<=S/\w.heap.size<=lo)/\Kept 0 0 w w1)->Calls Tryz.prog 66 #[.pointer (some ⟨K,0,none⟩),.int .i64 (s:Int),.int .i64 (x:Int)] w1 λe w'=>PGo w P u1 u3 base R (grM vs0 s x) e w'):=by
  rintro w1 K ⟨lo,A,S,rv,rs,hN,hC,ho,hk⟩
  cases ha:(iS vs0 x (s-x)).getD s false
  ·exact(qU w1 lo P K A S n s x base u1 u3 vv rv vs0 R rs hN hC hn hl hs hx hlen hz ha).mono λe w' hh=>yk hk ho.2.2.1 hh
  ·exact(sS w1 lo P K A S n s x (s-x) base u1 u3 vv rv vs0 R rs rfl hN hC hn hl hs hx hlen hz hops ha).mono λe w' hh=>yk hk ho.2.2.1 hh
 clear h hlen hops hc0 hz hok hc5 hn
 go_enter Tryz.func32,Tryz.ntmps32
 go_wp2_with fail
 refine Calls.mono HX.out ?_
 rintro e w1 ⟨lo,K,A,S,rv,rs,rfl,hN,hC,ho,hk⟩
 have HP:Hid _:=HG.out w1 K ⟨lo,A,S,rv,rs,hN,hC,ho,hk⟩
 clear hN hC ho hk HX HG
 go_wp2_with fail
 refine Calls.mono HP.out ?_
 rintro e w2 ⟨rfl,R2,vv2,hb,hs2⟩
 have H2:Hid _:=hb
 have S2:Hid _:=hs2
 clear hb hs2 HP
 go_wp2_with fail
 go_ret
 exact⟨rfl,R2,vv2,H2.out,S2.out⟩
theorem rh (w:World)(_lo g1 g2 g3 n1 c1 n2 c2 n3 c3:Nat)(s x:Nat)(ins:List Int)(vs:List Vl)(outs:List Int)(f:GN w g1 g2 g3 n2 ins vs outs)(e1:ins.length=n1)(e3:outs.length=n3)(hlt:∀v∈vs,v.k<18446744073709551616)(h:okG ins vs outs=true)(hs:s<n2)(hx:x<n2)(h3:(vs.getD s Vl.zero).len=1)(hwh:∀k,whO (vs.getD k Vl.zero).op):
  Calls Tryz.prog 13 #[ip (some ⟨g1,0,none⟩) n1 c1 (some ⟨g2,0,none⟩) n2 c2 (some ⟨g3,0,none⟩) n3 c3,.int .i64 (s:Int),.int .i64 (x:Int)] w λe w'=>(jR (grM vs s x).1=true->e=.returned (.tuple #[oF,.int .i64 0,.int .i64 5]))/\(jR (grM vs s x).1=false->An w w' n1 n3 ins outs (grM vs s x) e)/\Kept 0 0 w w':=by
 have HWH:Hid _:=hwh
 clear hwh
 have hgs:=f.gs hlt
 rw[e1,e3] at hgs
 have e2:vs.length=n2:=f.v.len
 have hok:=h
 unfold okG at hok
 simp only[Bool.and_eq_true,decide_eq_true_eq,e1,e2,e3] at hok
 obtain⟨⟨l1,l2,l3⟩,_,hv,_,hc5⟩:=hok
 have HOK:Hid _:=hv
 have HC5:Hid _:=hc5
 have HLN:Hid (vs.length=n2):=e2
 have hK:=(hU 0 0 w (iv (some ⟨g1,0,none⟩) n1 c1 (some ⟨g2,0,none⟩) n2 c2 (some ⟨g3,0,none⟩) n3 c3)).trans (hU 0 0 _ iw)
 have HX:Hid _:=mw _ (some ⟨g1,0,none⟩) (some ⟨g2,0,none⟩) (some ⟨g3,0,none⟩) n1 c1 n2 c2 n3 c3 ins vs outs (hgs.keep hK)
 rw[h] at HX
 have HK:Hid _:=hK
 have hN:=i9 (w.alloc (iv (some ⟨g1,0,none⟩) n1 c1 (some ⟨g2,0,none⟩) n2 c2 (some ⟨g3,0,none⟩) n3 c3))
 rw[show(w.alloc (iv (some ⟨g1,0,none⟩) n1 c1 (some ⟨g2,0,none⟩) n2 c2 (some ⟨g3,0,none⟩) n3 c3)).heap.size=w.heap.size+1 by simp] at hN
 have HN:Hid _:=hN
 have HB:Hid _:=(iO w (.slice (some ⟨g1,0,none⟩) n1 c1) (.slice (some ⟨g2,0,none⟩) n2 c2) (.slice (some ⟨g3,0,none⟩) n3 c3)).keep (hU 0 0 _ iw)
 have HI:Hid (∀w2:World,_):=λw2=>xR (w2.alloc (.cells #[.int .i64 (s:Int),.int .i64 (x:Int)] 3)) w2.heap.size 2 2 (n2:Int) [(s:Int),(x:Int)] rfl (by omega) (C6 w2 s x)
 rw[show([(s:Int),(x:Int)].all (iL · (n2:Int)))=true by simp[iL];omega] at HI
 have HF:Hid _:=GN.keepJ f hK
 have HL3:Hid _:=h3
 have HE:Hid (ins.length=n1/\outs.length=n3):=⟨e1,e3⟩
 clear hK h f hN h3 hv hc5 hgs hlt e2 e1 e3
 go_enter Tryz.func13,Tryz.ntmps13
 go_wp2_with fail
 generalize (w.alloc (iv (some ⟨g1,0,none⟩) n1 c1 (some ⟨g2,0,none⟩) n2 c2 (some ⟨g3,0,none⟩) n3 c3)).alloc iw=wB at HX HK HN HB HF ⊢
 refine Calls.mono HX.out ?_
 rintro e w2 ⟨rfl,k2⟩
 obtain⟨_,p0,p1,p2⟩:=G0.keep HB.out k2
 go_wp2_with fail
 clear p0 p1 p2
 refine Calls.mono (HI.out w2) ?_
 rintro e w3 ⟨rfl,rfl⟩
 have k3:=hU 0 0 w2 (.cells #[.int .i64 (s:Int),.int .i64 (x:Int)] 3)
 have HK4:Hid _:=k2.trans k3
 clear k2 k3 HX HI
 generalize w2.alloc (.cells #[.int .i64 (s:Int),.int .i64 (x:Int)] 3)=w4 at HK4 ⊢
 obtain⟨_,p0,p1,p2⟩:=G0.keep HB.out HK4.out
 have hVA:=(GN.keepJ HF.out HK4.out).v
 have ct:=(hVA.at_ s hs).c1
 rw[HL3.out] at ct
 clear hVA
 have j0:(0:Int)<=(s:Int):=by omega
 have j1:(s:Int)<(n2:Int):=by omega
 go_wp2_with fail
 have HK5:Hid _:=HK4.out
 generalize w4=w5 at HK4 HK5 p0 p1 p2 ct ⊢
 clear ct HK4
 clear p0 p1 p2
 refine Calls.mono (qh w5 _lo g1 g2 g3 n1 c1 n2 c2 n3 c3 ins vs outs (GN.keepJ HF.out HK5.out) HE.out.1 HE.out.2 (by omega) l2 (by omega) (λk hk=>ja (List.all_eq_true.1 HOK.out k (List.mem_range.2 hk)))) ?_
 rintro e w6 ⟨P,G1,d1,G3,d3,R,vv,rfl,hBS,hO1,hO3,⟨d1',d2',d3',d4',d5',d6',d7'⟩,k6⟩
 have HK6:Hid _:=Kept.trans HK5.out k6
 have hz5:=HK5.out.size
 have hz6:=k6.size
 have HB6:Hid _:=hBS
 have HO1:Hid _:=hO1
 have HO3:Hid _:=hO3
 have HDD:Hid ((w5.heap.size<=P/\G1≠P/\G3≠P/\G1≠G3/\R≠some G1/\R≠some G3)/\wB.heap.size<=w5.heap.size/\w5.heap.size<=w6.heap.size):=⟨⟨d1',d2',d3',d4',d5',d6'⟩,hz5,hz6⟩
 clear hBS hO1 hO3 d1' d2' d3' d4' d5' d6' d7' k6 hz5 hz6 HK5
 have HJ0:Hid (GJ w6 wB P G1 d1 n1 G3 d3 n3 w5.heap.size ins outs vs R vv):={
  b:=HB6.out
  i:=HO1.out
  o:=HO3.out
  k:=HK6.out
  dP:=by have:=HDD.out;omega
  dB:=HDD.out.2.1
  ne2:=HDD.out.1.2.1
  ne3:=HDD.out.1.2.2.1
  r2:=HDD.out.1.2.2.2.2.1
  r3:=HDD.out.1.2.2.2.2.2}
 have HPD:Hid _:=zJ w6 P _ _ vv ins vs w5.heap.size R n2 s x HB6.out HLN.out l2 hs hx HOK.out HC5.out HWH.out
 have HPO:Hid (0<(grM vs s x).1.length):=AL vs s x
 clear HB6 HO1 HO3
 go_wp2_with fail
 generalize hM0:grM vs s x=M at HPD HPO
 have HM0:Hid (grM vs s x=M):=hM0
 clear hM0
 refine Calls.mono HPD.out ?_
 rintro e w10 ⟨rfl,R2,vv2,hb2,hs2⟩
 have hJ3:=HJ0.out.step hb2 hs2
 obtain⟨gv2,cap2,rfl,_,_⟩:=hJ3.b.read HPO.out
 have HJ3:Hid _:=hJ3
 clear hJ3 HPD hb2 hs2 HJ0 HPO
 obtain⟨M1,mm⟩:=M
 simp only at HJ3
 cases hlim:jR M1
 ·have hl':=of_decide_eq_false hlim
  have HA:Hid _:=rE w10 P _ _ n1 d1 n3 d3 _ _ _ R2 gv2 cap2 mm HJ3.out.b (by omega) (by omega)
  clear hl'
  go_wp2_with fail
  refine Calls.mono HA.out ?_
  rintro e wA ⟨rfl,kA⟩
  have HKA:Hid _:=kA
  obtain⟨_,q0,q1,q2,f0,f1,f2⟩:=RB.keep HN.out (Kept.trans HJ3.out.k kA)
  obtain⟨y0,y1,y2⟩:=iy wA (w.heap.size+1) _ _ _ q0 q1 q2 (.slice (some ⟨G1,0,none⟩) n1 d1) (.slice (some ⟨gv2,0,none⟩) M1.length cap2) (.slice (some ⟨G3,0,none⟩) n3 d3)
  have kp:=iD wA (w.heap.size+1) (.slice (some ⟨G1,0,none⟩) n1 d1) (.slice (some ⟨gv2,0,none⟩) M1.length cap2) (.slice (some ⟨G3,0,none⟩) n3 d3)
  have R0:Hid (Kept 0 0 w _):=Kept.new (Kept.trans HK.out (Kept.trans HJ3.out.k kA)) kp (by omega)
  have R1:Hid _:=FI (w:=w) HJ3.out kA kp (by have h1:=HN.out.sz;have:=HDD.out;omega) (by have h1:=HK.out.size;have:=HDD.out;omega) HDD.out.1.2.2.2.1 mm
  clear kA HA kp
  go_wp2_with fail
  refine bodyPost_ret (v:=.tuple #[.agg #[.slice (some ⟨G1,0,none⟩) n1 d1,.slice (some ⟨gv2,0,none⟩) M1.length cap2,.slice (some ⟨G3,0,none⟩) n3 d3],.int .i64 mm,.int .i64 0]) (by simp[results,Tryz.results13,go_sem,y0,y1,y2]) rfl ⟨λhf=>?_,λ_=>?_,R0.out⟩
  ·rw[HM0.out,hlim] at hf
   cases hf
  ·rw[HM0.out]
   exact R1.out
 ·have HA:Hid _:=qj w10 P _ _ _ _ R2 gv2 cap2 mm HJ3.out.b hlim
  go_wp2_with fail
  refine Calls.mono HA.out ?_
  rintro e wA ⟨rfl,kA⟩
  have HKA:Hid _:=kA
  obtain⟨_,q0,q1,q2,f0,f1,f2⟩:=RB.keep HN.out (Kept.trans HJ3.out.k kA)
  obtain⟨y0,y1,y2⟩:=iy wA (w.heap.size+1) _ _ _ q0 q1 q2 (.slice none 0 0) (.slice none 0 0) (.slice none 0 0)
  have R0:Hid (Kept 0 0 w _):=Kept.new (Kept.trans HK.out (Kept.trans HJ3.out.k kA)) (iD wA (w.heap.size+1) (.slice none 0 0) (.slice none 0 0) (.slice none 0 0)) (by omega)
  clear kA HA
  go_wp2_with fail
  refine bodyPost_ret (v:=.tuple #[oF,.int .i64 0,.int .i64 5]) (by simp[results,Tryz.results13,go_sem,y0,y1,y2]) rfl ⟨λ_=>rfl,λhf=>?_,R0.out⟩
  rw[HM0.out,hlim] at hf
  cases hf
end
end Go.Proofs.YtnlffngpnoodkaaGreat
