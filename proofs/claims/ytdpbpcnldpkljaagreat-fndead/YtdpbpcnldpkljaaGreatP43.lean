import Derived.Test.YtdpbpcnldpkljaaGreatP42
namespace Go.Proofs.Z
open Tryz Go.RowKit Flt
set_option maxRecDepth 1000000
set_option maxHeartbeats 0
section
attribute [local go_sem] eD eB eA
def Jh (p:Nat)(r:Rs (LSt×Nat)):Rs (LSt×Nat):=match r with
 |.error f=>.error f
 |.ok (s3,j)=>fI s3 (eI 9 1 (j:Int) 0 0) p
theorem yv {f:Nat}{W:World}{P B:Nat}{u1 u2 u3 u4:Value}{bs:List Bc}{st:LSt}{aL:Option Addr}{nL cL:Nat}{loc:Loc}{g gr cp:Nat}(h:WS W P B u1 u2 u3 u4 bs st)(gd:Gd st)(kp:Nat)(kt:List UInt8){es:List Ex}(hes:es.length=2)(HA:ArgS f W P B u1 u2 u3 u4 bs st aL nL cL loc g gr es)(R:Rs (LSt×List Nat))(hR:fF (λs e=>eJ f s loc e) st es=some R):
  Calls prog 113 #[.pointer (some ⟨P,0,none⟩),.slice aL nL cL,ik ⟨[100,111,116],kp,kt⟩,.slice (some ⟨gr,0,none⟩) 2 cp] W (TrO W P B u1 u2 u3 u4 bs (ou [100,111,116] ⟨[100,111,116],kp,kt⟩ R)):=by
 have HB:Hid (TB (W.alloc (.cells #[eE [100,111,116],.int .i64 (kp:Int),eE kt] 74)) W.heap.size [100,111,116] kp kt):=gH W [100,111,116] kp kt
 have HK:Hid _:=ez 0 0 W (.cells #[eE [100,111,116],.int .i64 (kp:Int),eE kt] 74)
 have HF:Hid _:=h.far
 have HW:Hid _:=h
 have HGd:Hid _:=gd
 have HA':Hid _:=HA
 have HAr:Hid _:=hR
 have HEs:Hid _:=hes
 obtain⟨r,hr⟩:∃r,r=ou [100,111,116] ⟨[100,111,116],kp,kt⟩ R:=⟨_,rfl⟩
 rw[<-hr]
 have HR:Hid _:=hr
 clear hr h gd HA hR hes
 unfold ik
 simp only
 go_enter func113,ntmps113
 go_upto_region 2 with fail
 change Code.wp _ _ _ _ (W.alloc (.cells #[eE [100,111,116],.int .i64 (kp:Int),eE kt] 74))
 generalize W.alloc (.cells #[eE [100,111,116],.int .i64 (kp:Int),eE kt] 74)=W1 at HB HK ⊢
 generalize W.heap.size=bx at HB HF ⊢
 obtain⟨r0,hr0,hE0,hO0⟩:=kj _ es st R HAr.out 0 (by rw[HEs.out];decide) st [] rfl
 obtain⟨o,n0,c0,s0,hc0⟩:=HA'.out.call 0 (by rw[HEs.out];decide)
 obtain⟨hG0,hC0⟩:=hc0 st r0 W1 u1 u2 u3 u4 (Gw.refl HGd.out) hr0 (HW.out.keep HK.out) (Mv.of HK.out)
 rw[<-HA'.out.cell (Mv.of HK.out).chg 0] at s0
 have HE:Hid _:=hE0
 have HO:Hid _:=hO0
 have HG:Hid _:=hG0
 have HC1:Hid _:=hC0
 have b0:=HB.out.c0
 clear hr0 hE0 hO0 hG0 hC0 hc0
 rcases r0 with⟨c,p⟩|⟨s1,a⟩
 ·exact xdg
 ·obtain⟨w,ha⟩:=HG.out s1 a rfl
  have ha0:¬((a:Int)<0):=xaa
  go_upto_region 7 with (go_at_call 75;refine yai HC1.out ?_;rintro e w3 ⟨rfl,v1,v2,v3,v4,hW3,hM3⟩)
  have HB3:Hid _:=HB.out.keepC hM3.chg HF.out
  obtain⟨gv,cv,e2,hgv,cl⟩:=hW3.lenc ha
  have d0:=HB3.out.c0
  have p1:=hW3.c1
  rw[e2] at p1
  have HI1:Hid _:=FtI.lit hW3 hM3 a
  have HA1:Hid (fF (λs e=>eJ f s loc e) st (es.take 1)=some (.ok (s1,[a]))):=HO.out s1 a rfl
  have HGw:Hid _:=w
  have HX1:Hid (∀i∈[a],i<s1.vs.length):=by intro i hi;simp at hi;subst hi;exact ha
  have hN:=w.g.n
  clear HG HC1 HE HO hM3 hW3 e2 hgv w b0 s0
  generalize eU s1 a=l at cl
  generalize h2:s1.vs.length=N at cl p1 ha hN
  clear h2
  go_upto_region 34 with fail
  clear cl p1 d0 HB3
  go_wp2_with fail
  go_loopw [18,19] (λvv kv W'=>∃(k:Nat) (s:LSt) (xs:List Nat),1<=k/\k<=2/\kv=.int .i64 k/\xs.length=k/\Hid (fF (λs e=>eJ f s loc e) st (es.take k)=some (.ok (s,xs)))/\Hid (FtI W1 W' P B u1 u2 u3 u4 bs s vv xs)/\Hid (Gw st s)/\Hid (∀i∈xs,i<s.vs.length)) (λ_ kv _=>2-(intOf kv).toNat)
  case atStart=>exact⟨1,s1,[a],yad,by decide,rfl,rfl,HA1,HI1,HGw,HX1⟩
  case round=>
   obtain⟨k,s,xs,hk1,hkn,rfl,hxl,hArg,hFI,hGw,hXs⟩:=hrel
   clear HA1 HI1 HGw HX1
   have HXL:Hid _:=hxl
   clear hxl
   by_cases hlt:k<2
   ·exact xai
   ·obtain rfl:k=2:=xaa
    have HRl:Hid (R=.ok (s,xs)):=by
     exact xfo
    obtain⟨aX,cX,z1,z2,z3,z4,rfl,hWk,hMk,hX⟩:=hFI.out.xs
    have HFt:Hid _:=tY hWk hGw.out.g aX xs.length cX xs hX (by rw[HXL.out];decide) hXs.out kp
    have HMk:Hid _:=hMk
    have HBk:Hid _:=HB.out.keepC hMk.chg HF.out
    have HR2:Hid (r=km [100,111,116] ⟨[100,111,116],kp,kt⟩ s xs):=by show _=_;rw[HR.out,HRl.out];rfl
    have HFG:Hid _:=λs3 fs (hft:iY s xs kp=.ok (s3,fs))=>jH hGw.out.g xs kp hXs.out hft
    have d1:=HBk.out.c1
    clear hWk hMk hX hFI HR HRl hArg hGw hXs HAr HA' HGd
    obtain⟨q,hq⟩:∃q,q=iY s xs kp:=⟨_,rfl⟩
    have HQ:Hid _:=hq
    rw[<-hq] at HFt HFG
    clear hq
    rw[HXL.out] at HFt ⊢
    rcases q with⟨c,p⟩|⟨s3,fs⟩
    ·exact xcx
    ·obtain⟨gw3,hfl,nn,hfs⟩:=HFG.out s3 fs rfl
     rw[HXL.out] at hfl
     obtain⟨fs0,fs1,rfl⟩:∃fs0 fs1,fs=[fs0,fs1]:=by
      match fs,hfl with
      |[a,b],_=>exact⟨a,b,rfl⟩
     have h0:=(hfs fs0 xac).1
     have f1':=hfs fs1 xac
     have l0:=i5 h0
     have l1:=i5 f1'.1
     rw[f1'.2,<-(hfs fs0 xac).2] at l1
     have HGv:Hid _:=gw3.g.v.two (.inr (.inr (.inl rfl))) l0 l1
     clear f1' l0 l1
     have HR3:Hid (r=Jh kp (fI s3 (eI 4 (eU s3 fs0) (fs0:Nat) (fs1:Nat) 0) kp)):=by
      show _=_
      rw[HR2.out]
      unfold km
      rw[<-HQ.out]
      rfl
     go_upto_region 45 with (go_at_call 108;refine yai HFt.out ?_;rintro e w4 ⟨aF,cF,rfl,y1,y2,y3,y4,hW4,hM4,hX4⟩)
     obtain⟨gv,cv,e2,hgv,cl⟩:=hW4.lenc h0
     obtain⟨gf,of,e3,hgf,hgl,cf⟩:=hX4.at_ xac
     subst e2 e3
     have HM4:Hid _:=HMk.out.trans hM4
     have HBz:Hid _:=HB.out.keepC HM4.out.chg HF.out
     have hbM:¬Mst P y1 (.slice (some ⟨gv,0,none⟩) s3.vs.length cv) y3 y4 bx:=λc=>(HM4.out.new bx c).elim HF.out (λc=>by have:=HB.out.lt;omega)
     have HMW:Hid _:=(Mv.of (M:=Mst P u1 u2 u3 u4) HK.out).trans HM4.out
     have HCl:Hid (∀W',Kept 0 0 w4 W'->W'.cell? ⟨bx,0,none⟩=some (eE [100,111,116])/\W'.cell? ⟨bx,1,none⟩=some (.int .i64 (kp:Int))/\W'.cell? ⟨P,1,none⟩=some (.slice (some ⟨gv,0,none⟩) s3.vs.length cv)/\W'.cell? ⟨gv,fs0*6+1,none⟩=some (.int .i64 (eU s3 fs0))/\W'.cell? ⟨gf,of,none⟩=some (.int .i64 (fs0:Nat))/\W'.cell? ⟨gf,of+1,none⟩=some (.int .i64 (fs1:Nat))):=λW' kk=>⟨(HBz.out.keep kk).c0,(HBz.out.keep kk).c1,(hW4.keep kk).c1,(kk.cell (p:=⟨gv,fs0*6+1,none⟩) hgv xaa).trans cl,(kk.cell (p:=⟨gf,of,none⟩) hgl xaa).trans (cf 0 xac),(kk.cell (p:=⟨gf,of+1,none⟩) hgl xaa).trans (cf 1 xac)⟩
     have HCh:Hid (∀W' W'',Kept 0 0 w4 W'->Chg (Mst P y1 (.slice (some ⟨gv,0,none⟩) s3.vs.length cv) y3 y4) W' W''->W''.cell? ⟨bx,1,none⟩=some (.int .i64 (kp:Int))/\W''.cell? ⟨gf,of,none⟩=some (.int .i64 (fs0:Nat))/\W''.cell? ⟨gf,of+1,none⟩=some (.int .i64 (fs1:Nat))):=λW' W'' kk cc=>by
      exact xen
     have hN:=gw3.g.n
     have hlB:=gw3.g.lenB h0
     have HGd3:Hid _:=gw3.g
     have HW4:Hid _:=hW4
     have HBM:Hid _:=hbM
     obtain⟨a0,a1,a2,a3,a4,a5⟩:=HCl.out w4 (Kept.refl 0 0 w4)
     clear cl cf hW4 hM4 hX4 hfs HFt HMk hfl hgf hgl hgv hbM d1 HBk HM4 HXL HFG HB HQ HR2
     go_quiet (fail)
     have HKq:Hid _:=eK 0 0 w4 nq
     have HCq:Hid _:=HCl.out _ HKq.out
     have HP4:Hid _:=λs5 pj (hp:fI s3 (eI 4 (eU s3 fs0) (fs0:Nat) (fs1:Nat) 0) kp=.ok (s5,pj))=>lN HGd3.out HGv.out hp
     have HPt:Hid (∀W',Kept 0 0 w4 W'->Calls prog 78 #[.pointer (some ⟨P,0,none⟩),(eI 4 (eU s3 fs0) (fs0:Nat) (fs1:Nat) 0).agg,.int .i64 (kp:Int)] W' λe W''=>(∃x:Int,e=.returned (.int .i64 x))/\Hid (TrO w4 P B y1 (.slice (some ⟨gv,0,none⟩) s3.vs.length cv) y3 y4 bs (fI s3 (eI 4 (eU s3 fs0) (fs0:Nat) (fs1:Nat) 0) kp) e W'')/\W''.cell? ⟨bx,1,none⟩=some (.int .i64 (kp:Int))/\W''.cell? ⟨gf,of,none⟩=some (.int .i64 (fs0:Nat))/\W''.cell? ⟨gf,of+1,none⟩=some (.int .i64 (fs1:Nat))):=λW' kk=>yai (jV (HW4.out.keep kk) HGd3.out (eI 4 (eU s3 fs0) (fs0:Nat) (fs1:Nat) 0) hlB yag kp) (λe W'' t=>⟨t.ret,TrO.back kk t,HCh.out W' W'' kk t.chg⟩)
     clear HCh HGd3 HW4 hlB gw3 HK HW HF a0 a1 a2 a3 a4 a5
     generalize fI s3 (eI 4 (eU s3 fs0) (fs0:Nat) (fs1:Nat) 0) kp=r4 at HR3 HP4 HPt
     generalize eU s3 fs0=l at HCl HPt HCq ⊢
     generalize s3.vs.length=N at*
     generalize w4.drewN nq=w5 at HKq HCq ⊢
     obtain⟨a0,a1,a2,a3,a4,a5⟩:=HCq.out
     go_upto_region 50 with fail
     rcases r4 with⟨c,p⟩|⟨s5,pj⟩
     ·have HR5:Hid (r=.error (c,p)):=HR3.out
      go_region_held3 (λw'=>w'.cell? ⟨bx,1,none⟩=some (.int .i64 (kp:Int))/\w'.cell? ⟨gf,of,none⟩=some (.int .i64 (fs0:Nat))/\w'.cell? ⟨gf,of+1,none⟩=some (.int .i64 (fs1:Nat))) (go_keep)
       (first
        |(go_at_call 26;refine yai (gj _ _ _ _ _ _) ?_;rintro e w6 ⟨rfl,k6⟩;obtain⟨t0,t1,t2,t3,t4,t5⟩:=HCl.out w6 (HKq.out.trans ((eC w5).trans k6)))
        |(go_at_call 78;refine yai (HPt.out _ (HKq.out.trans ((eC w5).trans k6))) ?_;rintro e w7 ⟨⟨_,_⟩,hT,g1,g4,g5⟩;obtain rfl:=hT.out.1))
      all_goals (
       go_wp2_with fail
       go_ret
       rw[HR5.out]
       exact TrO.after HMW.out ⟨rfl,hT.out.2⟩)
     ·obtain⟨w5g,hpj,_⟩:=HP4.out s5 pj rfl
      have HR5:Hid (r=fI s5 (eI 9 1 (pj:Int) 0 0) kp):=HR3.out
      have hpj0:¬((pj:Int)<0):=xaa
      have hN5:=w5g.g.n
      have HG5:Hid _:=w5g.g
      clear HP4 HR3 w5g
      go_region_held3 (λw'=>w'.cell? ⟨bx,1,none⟩=some (.int .i64 (kp:Int))/\w'.cell? ⟨gf,of,none⟩=some (.int .i64 (fs0:Nat))/\w'.cell? ⟨gf,of+1,none⟩=some (.int .i64 (fs1:Nat))) (go_keep)
       (first
        |(go_at_call 26;refine yai (gj _ _ _ _ _ _) ?_;rintro e w6 ⟨rfl,k6⟩;obtain⟨t0,t1,t2,t3,t4,t5⟩:=HCl.out w6 (HKq.out.trans ((eC w5).trans k6)))
        |(go_at_call 78;refine yai (HPt.out _ (HKq.out.trans ((eC w5).trans k6))) ?_;rintro e w7 ⟨⟨_,_⟩,hT,g1,g4,g5⟩;obtain rfl:=hT.out.1))
      all_goals (
       obtain⟨_,x1,x2,x3,x4,hW7,hM7⟩:=hT.out
       have HB7:Hid _:=HBz.out.keepC hM7.chg HBM.out
       have hbM7:¬Mst P x1 x2 x3 x4 bx:=λc=>(hM7.new bx c).elim HBM.out (λc=>by have:=HBz.out.lt;omega)
       have HM7:Hid _:=HMW.out.trans hM7
       have HPs:Hid (∀W',Kept 0 0 w7 W'->Calls prog 78 #[.pointer (some ⟨P,0,none⟩),(eI 9 1 (pj:Int) 0 0).agg,.int .i64 (kp:Int)] W' λe W''=>(∃x:Int,e=.returned (.int .i64 x))/\Hid (TrO W P B u1 u2 u3 u4 bs r e W'')/\W''.cell? ⟨bx,1,none⟩=some (.int .i64 (kp:Int))):=λW' kk=>yai (jV (hW7.keep kk) HG5.out (eI 9 1 (pj:Int) 0 0) ⟨Int.le_refl _,by show(1:Int)<=1000;decide⟩ yag kp) (λe W'' t=>⟨t.ret,(by
        show TrO W P B u1 u2 u3 u4 bs r e W''
        rw[HR5.out]
        exact TrO.after (HM7.out.keep kk) t),(t.chg.cell (p:=⟨bx,1,none⟩) (HB7.out.keep kk).lt hbM7).trans (HB7.out.keep kk).c1⟩)
       have b1:=HB7.out.c1
       clear hT hW7 hM7 hbM7 HPt HCl HCq HKq HBM HBz HMW HM7 HG5 HR5
       generalize s5.vs.length=N5 at*
       go_upto_region 53 with fail
       go_region_held3 (λw'=>w'.cell? ⟨bx,1,none⟩=some (.int .i64 (kp:Int))) (go_keep)
        (first
         |(go_at_call 26;refine yai (gj _ _ _ _ _ _) ?_;rintro e w8 ⟨rfl,k8⟩;have t1':=(HB7.out.keep ((eC w7).trans k8)).c1)
         |(go_at_call 78;refine yai (HPs.out _ ((eC w7).trans k8)) ?_;rintro e w9 ⟨⟨xx,rfl⟩,hT9,g19⟩))
       all_goals (go_wp2_with fail;go_ret;exact hT9.out))
end
section
variable {W':World}{P B:Nat}{u1 u2 u3 u4 o:Value}{st:LSt}{bs:List Bc}{js:Loc}
section
variable {f:Nat}{W:World}{P B:Nat}{u1 u2 u3 u4:Value}{bs:List Bc}{st:LSt}{aL:Option Addr}{nL cL:Nat}{loc:Loc}{g off m cap:Nat}{ts us ws:List Tok}{a b d:Ex}{r:Rs (LSt×Nat)}
theorem yw {k l c q:Tok}(IH:TrC f)(H:TrIn W P B u1 u2 u3 u4 bs st aL nL loc g off m cap (k::l::(ts++c::(us++[q]))))(hk:k.sym=uZ\/k.sym=Cw)(hl:l.sym=[40])(ha:Pr 2 [a] ts)(hc:c.sym=[44])(hb:Pr 2 [b] us)(hq:q.sym=[41])(h:eJ (f+1) st loc (.key2 k a b)=some r):
  Calls prog 75 #[.pointer (some ⟨P,0,none⟩),.slice aL nL cL,.slice (some ⟨g,off,none⟩) m cap] W (TrO W P B u1 u2 u3 u4 bs r):=by
 have hns:k.sym≠tH:=by rcases hk with e|e<;>(rw[e];decide)
 obtain⟨R,hR,rfl⟩:=yq hns h
 have hm:(k::l::(ts++c::(us++[q]))).length=m:=H.tk.len
 simp only[yap,yak,List.length_nil] at hm
 have hp:=ii ha
 have hp2:=ii hb
 have hne:us≠[]:=λc=>by rw[c] at hp2;simp at hp2
 have hcm:=iV ha yad
 have hcm2:=iV hb yad
 have hmc:=H.mc
 have hsp:fx (ts++c::us)=[ts,us]:=vf hcm hc hcm2
 have hu:ts++c::us=((k::l::(ts++c::(us++[q]))).drop 2).take (m-1-2):=by
  rw[List.drop_succ_cons,List.drop_succ_cons,List.drop_zero,show ts++c::(us++[q])=(ts++c::us)++[q] by simp,List.take_append_of_le_length yaf,yao yaf]
 have t1:∀x:List UInt8,x≠uZ->x≠Cw->(k.sym==x)=false:=λx h1 h2=>by
  rw[beq_eq_false_iff_ne]
  rintro rfl
  exact hk.elim h1 h2
 refine ju H (Pr.key2 hk hl ha hc hb hq) (t1 _ xab xab) (t1 _ xab xab) (t1 _ xab xab) (t1 _ xab xab) (t1 _ xab xab) xaa (ts++c::us) hu (by rw[l8 (X:=[ts]) (y:=us) xac hsp _ yaf];exact hne) _ (λW' aS cS kk hS=>?_)
 rw[hsp] at hS ⊢
 obtain⟨gr,rfl,hlo,hgr,hS2⟩:=hS.at_ xac
 have HA:ArgS f W' P B u1 u2 u3 u4 bs st aL nL cL loc g gr [a,b]:=ArgS.of IH cL H kk hlo hgr hS2 rfl (λi hi=>by
   match i,hi with
   |0,_=>exact ha
   |1,_=>exact hb) (λi hi=>by
   match i,hi with
   |0,_=>show ts.length<=m;omega
   |1,_=>show us.length<=m;omega) (λi hi=>by
   match i,hi with
   |0,_=>intro t ht;have ht':t∈ts:=ht;simp[ht']
   |1,_=>intro t ht;have ht':t∈us:=ht;simp[ht'])
 obtain⟨ks,kp,kt⟩:=k
 rcases hk with hk|hk
 ·simp only at hk
  subst hk
  exact yt (H.ws.keep kk) H.gd kp kt rfl HA R hR
 ·simp only at hk
  subst hk
  exact yv (H.ws.keep kk) H.gd kp kt rfl HA R hR
theorem yx {k l c c2 q:Tok}(IH:TrC f)(H:TrIn W P B u1 u2 u3 u4 bs st aL nL loc g off m cap (k::l::(ts++c::(us++c2::(ws++[q])))))(hk:k.sym=tH)(hl:l.sym=[40])(ha:Pr 2 [a] ts)(hc:c.sym=[44])(hb:Pr 2 [b] us)(hc2:c2.sym=[44])(hd:Pr 2 [d] ws)(hq:q.sym=[41])(h:eJ (f+1) st loc (.key3 k a b d)=some r):
  Calls prog 75 #[.pointer (some ⟨P,0,none⟩),.slice aL nL cL,.slice (some ⟨g,off,none⟩) m cap] W (TrO W P B u1 u2 u3 u4 bs r):=by
 obtain⟨R,hR,rfl⟩:=yr hk h
 have hm:(k::l::(ts++c::(us++c2::(ws++[q])))).length=m:=H.tk.len
 simp only[yap,yak,List.length_nil] at hm
 have hp:=ii ha
 have hp2:=ii hb
 have hp3:=ii hd
 have hne:ws≠[]:=λc=>by rw[c] at hp3;simp at hp3
 have hcm:=iV ha yad
 have hcm2:=iV hb yad
 have hcm3:=iV hd yad
 have hmc:=H.mc
 have hsp:fx (ts++c::(us++c2::ws))=[ts,us,ws]:=vg hcm hc hcm2 hc2 hcm3
 have hu:ts++c::(us++c2::ws)=((k::l::(ts++c::(us++c2::(ws++[q])))).drop 2).take (m-1-2):=by
  rw[List.drop_succ_cons,List.drop_succ_cons,List.drop_zero,show ts++c::(us++c2::(ws++[q]))=(ts++c::(us++c2::ws))++[q] by simp,List.take_append_of_le_length yaf,yao yaf]
 have t1:∀x:List UInt8,x≠tH->(k.sym==x)=false:=λx h1=>by
  rw[beq_eq_false_iff_ne]
  rintro rfl
  exact h1 hk
 refine ju H (Pr.key3 hk hl ha hc hb hc2 hd hq) (t1 _ xab) (t1 _ xab) (t1 _ xab) (t1 _ xab) (t1 _ xab) xaa (ts++c::(us++c2::ws)) hu (by rw[l8 (X:=[ts,us]) (y:=ws) xac hsp _ yaf];exact hne) _ (λW' aS cS kk hS=>?_)
 rw[hsp] at hS ⊢
 obtain⟨gr,rfl,hlo,hgr,hS2⟩:=hS.at_ xac
 have HA:ArgS f W' P B u1 u2 u3 u4 bs st aL nL cL loc g gr [a,b,d]:=ArgS.of IH cL H kk hlo hgr hS2 rfl (λi hi=>by
   match i,hi with
   |0,_=>exact ha
   |1,_=>exact hb
   |2,_=>exact hd) (λi hi=>by
   match i,hi with
   |0,_=>show ts.length<=m;omega
   |1,_=>show us.length<=m;omega
   |2,_=>show ws.length<=m;omega) (λi hi=>by
   match i,hi with
   |0,_=>intro t ht;have ht':t∈ts:=ht;simp[ht']
   |1,_=>intro t ht;have ht':t∈us:=ht;simp[ht']
   |2,_=>intro t ht;have ht':t∈ws:=ht;simp[ht'])
 obtain⟨ks,kp,kt⟩:=k
 simp only at hk
 subst hk
 exact yu (H.ws.keep kk) H.gd kp kt rfl HA R hR
end
def lcc (b:List UInt8×Nat):List Value:=[eE b.1,.int .i64 (b.2:Int)]
def lcF:Loc->List Value
 |[]=>[]
 |b::r=>lcc b++lcF r
theorem Ee (a b:Loc):lcF (a++b)=lcF a++lcF b:=by
 induction a with
 |nil=>rfl
 |cons x r ih=>simp[lcF,ih]
theorem Ef (b:List UInt8×Nat):lcF [b]=lcc b:=by simp[lcF]
theorem By:∀(a:Loc) (k j:Nat),k<a.length->j<2->(lcF a)[k*2+j]? =(lcc (a.getD k ([],0)))[j]?
 |x::r,0,j,_,hj=>by
  rw[lcF,Nat.zero_mul,Nat.zero_add,yas (by simp[lcc];omega)];rfl
 |x::r,k+1,j,hk,hj=>by
  have hx:(lcc x).length=2:=rfl
  rw[lcF,yar (by rw[hx];omega),hx,show(k+1)*2+j-2=k*2+j by omega]
  exact By r k j (by simpa using hk) hj
theorem GY:(prog.info? 157).map (λi=>(i.zero,i.size,i.bytes))=some (some (.agg #[.string ⟨#[]⟩,.int .i64 0]),2,24):=by kernel_rfl
theorem sP:∃i0,prog.info? 157=some i0/\i0.zero=some (.agg #[.string ⟨#[]⟩,.int .i64 0])/\i0.size=2/\i0.bytes=24:=by
 have h:=GY
 cases e:prog.info? 157 with
 |none=>rw[e] at h;cases h
 |some i0=>
  rw[e] at h
  simp only[Option.map_some,Option.some.injEq,Prod.mk.injEq] at h
  exact⟨i0,rfl,h.1,h.2.1,h.2.2⟩
theorem Eg (w:World)(x:List UInt8)(v:Nat)(T:TypeId):∀j u,(lcc (x,v))[j]? =some u->(w.alloc (.cells #[eE x,.int .i64 (v:Int)] T)).cell? ((⟨w.heap.size,0,none⟩:Addr).add j)=some u:=by
 intro j u h
 rw[i8,Nat.zero_add,yau]
 match j,h with
 |0,h=>exact h
 |1,h=>exact h
theorem pY (w:World){ops:Array Oper}{rest:List Oper}{o:Oper}{a:Act}{Q:Exit->Act->World->Prop}(hgd:o.guard=none)(s x:Operand)
  (ho:o.op=.call {callee:=.builtin .append,args:=#[s,x],argTypes:=#[138,138]})
  (B:Nat) (v:Value) (js:Loc) (hs:a.eval s=v) (hown:w.ownsRow B 157 2 v js.length (lcF js))
  (ad:Addr) (k:List UInt8×Nat) (hx:a.eval x=.slice (some ad) 1 1) (hnews:∀j u,(lcc k)[j]? =some u->w.cell? (ad.add j)=some u)
  (h63:js.length+1<=1000000) (hbase:B<=w.heap.size)
  (h:∀g cap n w',n=(js++[k]).length->w'.ownsRow B 157 2 (.slice (some ⟨g,0,none⟩) n cap) (js.length+1) (lcF js++lcc k)->Chg (λb=>v.ownBlock=some b) w w'->(v.ownBlock=some g\/g=w.heap.size)->wpList prog ops Q rest (a.put o.dst (.slice (some ⟨g,0,none⟩) n cap)) w'):wpList prog ops Q (o::rest) a w:=by
 obtain⟨i0,hi,hz0,hz1,hz2⟩:=sP
 refine wpList_append_lies w hgd s x 138 ho B 157 i0 (.agg #[.string ⟨#[]⟩,.int .i64 0]) 2 24 underlying138 hi hz0 hz1 hz2 rfl xab v js.length _ hs hown ad 1 1 (lcc k) hx rfl hnews ?_ xab (by unfold maxLen;omega) xaa hbase _ rfl ?_
 ·intro u hu
  simp[lcc] at hu
  rcases hu with rfl|rfl<;>rfl
 ·intro g cap w' h1 h2 h3 _
  have e:js.length+1=(js++[k]).length:=by rw[yak];rfl
  rw[e] at h1 ⊢
  refine h g cap _ w' rfl ?_ (gD h2) h3
  rw[e]
  exact h1
structure LvI (W W':World)(P B:Nat)(u1 u2 u3 u4:Value)(bs:List Bc)(st:LSt)(o:Value)(js:Loc):Prop where
 ex:∃v1 v2 v3 v4,WS W' P B v1 v2 v3 v4 bs st/\Mv (Mst P u1 u2 u3 u4) W (λb=>Mst P v1 v2 v3 v4 b\/o.ownBlock=some b) W'/\(∀b,o.ownBlock=some b->¬Mst P v1 v2 v3 v4 b)
 row:W'.ownsRow W.heap.size 157 2 o js.length (lcF js)
theorem LvI.keep {W W'':World}(h:LvI W W' P B u1 u2 u3 u4 bs st o js)(k:Kept 0 0 W' W''):LvI W W'' P B u1 u2 u3 u4 bs st o js:=by
 exact xhu
theorem LvI.step {W W1 W3:World}{v1 v2 v3 v4 z1 z2 z3 z4:Value}{st1:LSt}(hM:Mv (Mst P u1 u2 u3 u4) W (λb=>Mst P v1 v2 v3 v4 b\/o.ownBlock=some b) W1)(hO:∀b,o.ownBlock=some b->¬Mst P v1 v2 v3 v4 b)(hrow:W1.ownsRow W.heap.size 157 2 o js.length (lcF js))(hW3:WS W3 P B z1 z2 z3 z4 bs st1)(hM3:Mv (Mst P v1 v2 v3 v4) W1 (Mst P z1 z2 z3 z4) W3):LvI W W3 P B u1 u2 u3 u4 bs st1 o js:=by
 exact xde
theorem LvI.app {W w9:World}{st0:LSt}(h0:WS W P B u1 u2 u3 u4 bs st0)(hnm:st.names=st0.names)(h:LvI W W' P B u1 u2 u3 u4 bs st o js){g9 n9 cap9:Nat}{x:List UInt8×Nat}(hR:w9.ownsRow W.heap.size 157 2 (.slice (some ⟨g9,0,none⟩) n9 cap9) (js.length+1) (lcF js++lcc x))(hC:Chg (λb=>o.ownBlock=some b) W' w9)(hG:o.ownBlock=some g9\/g9=W'.heap.size):LvI W w9 P B u1 u2 u3 u4 bs st (.slice (some ⟨g9,0,none⟩) n9 cap9) (js++[x]):=by
 obtain⟨⟨v1,v2,v3,v4,h1,h2,h3⟩,h4⟩:=h
 have ob:∀b,(Value.slice (some ⟨g9,0,none⟩) n9 cap9).ownBlock=some b↔g9=b:=λb=>by simp[Value.ownBlock]
 have hd:∀b,Mst P v1 v2 v3 v4 b->b<W'.heap.size:=λb hb=>by
  exact xgu
 have hng:¬Mst P v1 v2 v3 v4 g9:=λc=>by
  rcases hG with e|e
  ·exact h3 g9 e c
  ·have:=hd g9 c;omega
 have mv:Mv (Mst P u1 u2 u3 u4) W (λb=>Mst P v1 v2 v3 v4 b\/(Value.slice (some ⟨g9,0,none⟩) n9 cap9).ownBlock=some b) w9:=by
  exact xew
 refine⟨⟨v1,v2,v3,v4,h1.side hC (λb hb c=>h3 b c hb) (λi hi=>?_),mv,λb hb c=>?_⟩,?_⟩
 ·exact xie
 ·rw[ob] at hb;subst hb;exact hng c
 ·rw[yak,Ee,Ef];exact hR
theorem LvI.nil {W:World}(h:WS W' P B u1 u2 u3 u4 bs st)(k:Mv (Mst P u1 u2 u3 u4) W (Mst P u1 u2 u3 u4) W'):LvI W W' P B u1 u2 u3 u4 bs st (.slice none 0 0) []:=
 ⟨⟨u1,u2,u3,u4,h,⟨k.chg,λb hb=>.inl (hb.elim id (λc=>by simp[Value.ownBlock] at c))⟩,λb hb=>by simp[Value.ownBlock] at hb⟩,yav _ _ _ _⟩
theorem l9 {w:World}{n:Nat}{e s:Nat}{v:Value}{xs:List Value}(f:w.ownsRow B e s v n xs):∃a c,v=.slice a n c:=by
 exact xep
theorem LvI.lc {W:World}{s:LSt}(h:LvI W W' P B u1 u2 u3 u4 bs s o js):∃a c v1 v2 v3 v4,o=.slice a js.length c/\WS W' P B v1 v2 v3 v4 bs s/\Mv (Mst P u1 u2 u3 u4) W (Mst P v1 v2 v3 v4) W'/\LcR (Mst P v1 v2 v3 v4) W' a js.length js:=by
 obtain⟨v1,v2,v3,v4,hWk,hMk,hOk⟩:=h.ex
 obtain⟨ao,co,ho⟩:=l9 h.row
 refine⟨ao,co,v1,v2,v3,v4,ho,hWk,⟨hMk.chg,λb hb=>hMk.new b (.inl hb)⟩,⟨rfl,λhn0=>?_⟩⟩
 have hrow:=h.row
 rcases hrow.2 with⟨_,c⟩|⟨g,c,cur,e,b1,b2,b3,_,b5,b6⟩
 ·omega
 ·rw[ho] at e
  cases e
  have hg:g<W'.heap.size:=by
   exact xhw
  have key:∀k j,k<js.length->j<2->W'.cell? ⟨g,k*2+j,none⟩=(lcc (js.getD k ([],0)))[j]?:=λk j hk hj=>by
   rw[cell_of_row W' g _ cur _ _ b2,<-Array.getElem?_toList]
   have:(cur.toList.take (js.length*2))[k*2+j]? =(lcF js)[k*2+j]?:=by rw[b6]
   rw[List.getElem?_take_of_lt xaa] at this
   rw[this]
   exact By js k j hk hj
  refine⟨g,0,rfl,hOk g (by rw[ho];simp[Value.ownBlock]),hg,λk hk=>⟨?_,?_⟩⟩
  ·rw[Nat.zero_add];exact key k 0 hk xaa
  ·rw[Nat.zero_add];exact key k 1 hk xaa
theorem WS.more {W:World}(h:WS W P B u1 u2 u3 u4 bs st):WS (W.setCell ⟨P,4,none⟩ (.int .i64 ((st.calls:Int)+1))) P B u1 u2 u3 u4 bs {st with calls:=st.calls+1}/\Mv (Mst P u1 u2 u3 u4) W (Mst P u1 u2 u3 u4) (W.setCell ⟨P,4,none⟩ (.int .i64 ((st.calls:Int)+1))):=by
 have kp:=eL (lo:=P) (hi:=P+1) W ⟨P,4,none⟩ (.int .i64 ((st.calls:Int)+1)) yac
 have mv:Mv (Mst P u1 u2 u3 u4) W (Mst P u1 u2 u3 u4) (W.setCell ⟨P,4,none⟩ (.int .i64 ((st.calls:Int)+1))):=⟨kp.chg1 (S:=Mst P u1 u2 u3 u4) (.inl rfl),λb hb=>.inl hb⟩
 have es:∀o,o≠4->(W.setCell ⟨P,4,none⟩ (.int .i64 ((st.calls:Int)+1))).cell? ⟨P,o,none⟩=W.cell? ⟨P,o,none⟩:=λo h0=>eW _ _ _ _ _ _ (.inr (λe=>h0 e.symm))
 obtain⟨n1,n2,n3,n4⟩:=h.np
 exact⟨⟨by simpa using h.lt,λo=>by simp[h.fr o],(es 0 xab).trans h.c0,(es 1 xab).trans h.c1,(es 2 xab).trans h.c2,(es 3 xab).trans h.c3,fR _ _ _ _ _ h.c4,(es 5 xab).trans h.c5,(es 6 xab).trans h.c6,eH h.r1 n1,eH h.r2 n2,eH h.r3 n3,eH h.r4 n4,h.np,h.ap,h.nl,λi hi=>(h.nb i hi).mv mv,h.sz⟩,mv⟩
def Bz (p:Nat)(R:Rs (LSt×List Nat))(rb:Rs (LSt×Nat)):Rs (LSt×Nat):=match R with
 |.error f=>.error f
 |.ok (s1,_)=>if 500<=s1.calls then .error (5,p) else rb
theorem vH {f:Nat}{loc:Loc}{t:Tok}{es:List Ex}{r:Rs (LSt×Nat)}(h:eJ (f+1) st loc (.call t es)=some r):
  (((∀nm ps b,ie st.names t.text≠some (.fn nm ps b))\/∃nm ps b,ie st.names t.text=some (.fn nm ps b)/\ps.length≠es.length)/\r=.error (3,t.pos))\/
  ∃nm ps b R rb,ie st.names t.text=some (.fn nm ps b)/\ps.length=es.length/\fF (λs e=>eJ f s loc e) st es=some R/\r=Bz t.pos R rb/\∀s1 xs,R=.ok (s1,xs)->¬500<=s1.calls->eJ f {s1 with calls:=s1.calls+1} ((ps.map (·.text)).zip xs) b=some rb:=by
 rw[eJ] at h
 cases hf:ie st.names t.text with
 |none=>rw[hf] at h;exact .inl ⟨.inl (λ_ _ _ e=>by cases e),(Option.some.inj h).symm⟩
 |some d=>
  rw[hf] at h
  cases d with
  |val _ _=>exact .inl ⟨.inl (λ_ _ _ e=>by cases e),(Option.some.inj h).symm⟩
  |fn nm ps body=>
   simp only at h
   by_cases c:ps.length=es.length
   ·rw[if_pos c] at h
    refine .inr ⟨nm,ps,body,?_⟩
    cases ha:fF (λs e=>eJ f s loc e) st es with
    |none=>rw[ha] at h;cases h
    |some q=>
     rw[ha] at h
     rcases q with q|⟨s1,xs⟩
     ·exact⟨.error q,.error q,rfl,c,rfl,(Option.some.inj h).symm,λ_ _ e=>by cases e⟩
     ·simp only at h
      by_cases d:500<=s1.calls
      ·rw[if_pos d] at h
       refine⟨.ok (s1,xs),.error (5,t.pos),rfl,c,rfl,?_,λs2 ys e hd=>?_⟩
       ·show r=if 500<=s1.calls then _ else _;rw[if_pos d];exact(Option.some.inj h).symm
       ·cases e;exact absurd d hd
      ·rw[if_neg d] at h
       refine⟨.ok (s1,xs),r,rfl,c,rfl,?_,λs2 ys e hd=>?_⟩
       ·show r=if 500<=s1.calls then _ else _;rw[if_neg d]
       ·cases e;exact h
   ·rw[if_neg c] at h
    exact .inl ⟨.inr ⟨nm,ps,body,rfl,c⟩,(Option.some.inj h).symm⟩
end
section
attribute [local go_sem] eD eB eA
variable {P B nL cL g n off m cS cap:Nat}{u1 u2 u3 u4:Value}{bs:List Bc}{st:LSt}{aL aS:Option Addr}{loc:Loc}{nm:List UInt8}{ps ts:List Tok}{e:Ex}
theorem BA (l:List (List UInt8))(xs:List Nat)(a:Nat)(h:xs.length<l.length):l.zip (xs++[a])=l.zip xs++[(l.getD xs.length [],a)]:=by
 induction xs generalizing l with
 |nil=>
  cases l with
  |nil=>simp at h
  |cons x r=>simp
 |cons y ys ih=>
  cases l with
  |nil=>simp at h
  |cons x r=>
   simp only[List.cons_append,List.zip_cons_cons,yap,List.getD_cons_succ]
   rw[ih r (by simpa using h)]
theorem wR (l:List (List UInt8))(xs:List Nat)(h:xs.length<=l.length):(l.zip xs).length=xs.length:=by
 rw[List.length_zip];omega
theorem BB {W:World}(h:WS W P B u1 u2 u3 u4 bs st)(gd:Gd st)(t:Tok)(hb:(∀nm ps b,ie st.names t.text≠some (.fn nm ps b))\/∃nm ps b,ie st.names t.text=some (.fn nm ps b)/\ps.length≠n):
  Calls prog 112 #[.pointer (some ⟨P,0,none⟩),.slice aL nL cL,ik t,.slice aS n cS] W (TrO W P B u1 u2 u3 u4 bs (.error (3,t.pos))):=by
 obtain⟨sy,ps,tx⟩:=t
 have HB:Hid (TB (W.alloc (.cells #[eE sy,.int .i64 (ps:Int),eE tx] 74)) W.heap.size sy ps tx):=gH W sy ps tx
 have HK:Hid _:=ez 0 0 W (.cells #[eE sy,.int .i64 (ps:Int),eE tx] 74)
 have HW:Hid _:=h
 have hbl:bs.length<=100000:=by rw[h.nl];have:=gd.m;omega
 have HBd:Hid _:=hb
 obtain⟨r,hr⟩:∃r:Rs (LSt×Nat),r=.error (3,ps):=⟨_,rfl⟩
 simp only at HBd ⊢
 rw[<-hr]
 have HR:Hid _:=hr
 clear hr h gd hb
 unfold ik
 simp only
 go_enter func112,ntmps112
 go_upto_region 1 with fail
 change Code.wp _ _ _ _ (W.alloc (.cells #[eE sy,.int .i64 (ps:Int),eE tx] 74))
 generalize W.alloc (.cells #[eE sy,.int .i64 (ps:Int),eE tx] 74)=W1 at HB HK ⊢
 generalize W.heap.size=bx at HB ⊢
 have HW1:Hid _:=HW.out.keep HK.out
 have c1:=HB.out.c1
 have c2:=HB.out.c2
 have c3:=HW1.out.c3
 have HFd:Hid _:=nQ HW1.out.c3 HW1.out.r4 hbl tx
 have HSt:Hid _:=iL HW1.out.c5 HW1.out.c6 HW1.out.fr 3 ps (Mst P u1 u2 u3 u4) (.inl rfl)
 have HNA:Hid (0<bs.length->_):=jU HW1.out.r4
 obtain⟨a4,cp4,hu4⟩:=iM HW1.out.r4
 subst hu4
 go_upto_region 2 with (go_at_call 76;refine yai HFd.out ?_;rintro e w2 ⟨i,rfl,hF,hw⟩;obtain rfl:=hw.symm)
 rcases hF with⟨k2,hk2,rfl,hn1,hn2⟩|⟨rfl,hn⟩
 ·have HFB:Hid _:=lK HW1.out hk2 hn1 hn2
  have HBO:Hid _:=HW1.out.nb k2 hk2
  obtain⟨g4,cp,e4,_,_,_,h6⟩:=HNA.out xaa
  cases e4
  obtain⟨_,d1,_,d3,_⟩:=h6 k2 hk2
  generalize hnn:bs.length=nn at*
  generalize bs.getD k2 Bc.zero=b at d1 d3 HBO
  generalize st.names.getD k2 (.val [] 0)=dd at HFB HBO
  have hneg:¬((k2:Int)<0):=xaa
  cases dd with
  |val nm v=>
   have hfn:b.fn=false:=HBO.out.2.1
   rw[hfn] at d1
   clear hfn hn1 hn2 h6 hnn HBO HNA HBd
   go_wp2_with (go_at_call 74;refine yai HSt.out ?_;rintro e w3 ⟨rfl,hbad⟩)
   go_ret
   rw[HR.out]
   exact⟨rfl,hbad.c5,hbad.c6,(Mv.of HK.out).bad hbad.chg⟩
  |fn nm qs e=>
   have hfn:b.fn=true:=HBO.out.2.1
   have hpn:qs.length=b.pn:=HBO.out.2.2.1.len
   have hne:qs.length≠n:=by
    rcases HBd.out with c|⟨nm',ps',b',e1,c⟩
    ·exact absurd HFB.out (c _ _ _)
    ·rw[HFB.out] at e1
     cases e1
     exact c
   have hne':((b.pn:Int)==(n:Int))=false:=yaw xaa
   rw[hfn] at d1
   clear hfn hn1 hn2 h6 hnn HBO HNA HBd hne hpn
   generalize b.pn=pn at d3 hne'
   go_wp2_with (go_at_call 74;refine yai HSt.out ?_;rintro e w3 ⟨rfl,hbad⟩)
   go_ret
   rw[HR.out]
   exact⟨rfl,hbad.c5,hbad.c6,(Mv.of HK.out).bad hbad.chg⟩
 ·clear hn HNA HBd c3
  go_wp2_with (go_at_call 74;refine yai HSt.out ?_;rintro e w3 ⟨rfl,hbad⟩)
  exact xfh
theorem WS.fnc {W:World}(h:WS W P B u1 u2 u3 u4 bs st){k:Nat}(hk:k<bs.length)(hd:st.names.getD k (.val [] 0)=.fn nm ps e):∃g4 cp,u4=.slice (some ⟨g4,0,none⟩) bs.length cp/\W.cell? ⟨P,3,none⟩=some (.slice (some ⟨g4,0,none⟩) bs.length cp)/\W.cell? ⟨g4,k*5+1,none⟩=some (.bool true)/\W.cell? ⟨g4,k*5+3,none⟩=some (.slice (bs.getD k Bc.zero).pa ps.length (bs.getD k Bc.zero).pc)/\W.cell? ⟨g4,k*5+4,none⟩=some (.slice (bs.getD k Bc.zero).ba (bs.getD k Bc.zero).bn (bs.getD k Bc.zero).bc)/\TkR (Mst P u1 u2 u3 u4) W (bs.getD k Bc.zero).pa ps.length ps/\∃ts,Pr 2 [e] ts/\TsOK ts/\(bs.getD k Bc.zero).bn<=(bs.getD k Bc.zero).bc/\TkR (Mst P u1 u2 u3 u4) W (bs.getD k Bc.zero).ba (bs.getD k Bc.zero).bn ts:=by
 obtain⟨g4,cp,e4,_,_,_,h6⟩:=jU h.r4 xaa
 have hb:=h.nb k hk
 rw[hd] at hb
 obtain⟨_,b2,b3,ts,b4,⟨b5,b6⟩,b7⟩:=hb
 obtain⟨_,d1,_,d3,d4⟩:=h6 k hk
 rw[b2] at d1
 rw[<-b3.len] at d3 b3
 have c3:=h.c3
 rw[e4] at c3
 exact⟨g4,cp,e4,c3,d1,d3,d4,b3,ts,b4,b5,b6,b7⟩
theorem Eh {f:Nat}(IH:TrC f){W:World}(h:WS W P B u1 u2 u3 u4 bs st)(gd:Gd st)(nmo:NmOK st)(t:Tok){es:List Ex}(hes:es.length=n)(hn5:n<=5000)(hS:0<n->∃gr,aS=some ⟨gr,0,none⟩/\ArgS f W P B u1 u2 u3 u4 bs st aL nL cL loc g gr es){body:Ex}(hfb:ie st.names t.text=some (.fn nm ps body))(hpl:ps.length=n)(R:Rs (LSt×List Nat))(hR:fF (λs e=>eJ f s loc e) st es=some R)(rb:Rs (LSt×Nat))(hrb:∀s1 xs,R=.ok (s1,xs)->¬500<=s1.calls->eJ f {s1 with calls:=s1.calls+1} ((ps.map (·.text)).zip xs) body=some rb):
  Calls prog 112 #[.pointer (some ⟨P,0,none⟩),.slice aL nL cL,ik t,.slice aS n cS] W (TrO W P B u1 u2 u3 u4 bs (Bz t.pos R rb)):=by
 obtain⟨sy,pos,tx⟩:=t
 have HB:Hid (TB (W.alloc (.cells #[eE sy,.int .i64 (pos:Int),eE tx] 74)) W.heap.size sy pos tx):=gH W sy pos tx
 have HK:Hid _:=ez 0 0 W (.cells #[eE sy,.int .i64 (pos:Int),eE tx] 74)
 have HW:Hid _:=h
 have HF:Hid _:=h.far
 have HGd:Hid _:=gd
 have HNm:Hid _:=nmo
 have HEs:Hid _:=hes
 have HS:Hid _:=hS
 have HFB:Hid _:=hfb
 have HPl:Hid _:=hpl
 have HAr:Hid _:=hR
 have HRb:Hid _:=hrb
 have hbl:bs.length<=100000:=by rw[h.nl];have:=gd.m;omega
 obtain⟨r,hr⟩:∃r,r=Bz pos R rb:=⟨_,rfl⟩
 simp only at HFB ⊢
 rw[<-hr]
 have HR:Hid _:=hr
 clear hr h gd nmo hes hS hfb hpl hR hrb
 unfold ik
 simp only
 go_enter func112,ntmps112
 go_upto_region 1 with fail
 change Code.wp _ _ _ _ (W.alloc (.cells #[eE sy,.int .i64 (pos:Int),eE tx] 74))
 generalize W.alloc (.cells #[eE sy,.int .i64 (pos:Int),eE tx] 74)=W1 at HB HK ⊢
 generalize W.heap.size=bx at HB HF ⊢
 have HW1:Hid _:=HW.out.keep HK.out
 have c2:=HB.out.c2
 have HFd:Hid _:=nQ HW1.out.c3 HW1.out.r4 hbl tx
 have c3:=HW1.out.c3
 obtain⟨a4,cp4,hu4⟩:=iM HW1.out.r4
 subst hu4
 go_upto_region 2 with (go_at_call 76;refine yai HFd.out ?_;rintro e w2 ⟨i,rfl,hF,hw⟩;obtain rfl:=hw.symm)
 clear HFd c2
 rcases hF with⟨k2,hk2,rfl,hn1,hn2⟩|⟨rfl,hn⟩
 ·have HD:Hid (st.names.getD k2 (.val [] 0)=.fn nm ps body):=by
   have:=lK HW1.out hk2 hn1 hn2
   rw[HFB.out] at this
   exact(Option.some.inj this).symm
  have HFn:Hid (∀W' v1 v2 v3 v4 s,WS W' P B v1 v2 v3 v4 bs s->s.names=st.names->_):=λW' v1 v2 v3 v4 s hw hs=>hw.fnc (nm:=nm) (ps:=ps) (e:=body) hk2 (by rw[hs];exact HD.out)
  clear hn1 hn2 HFB
  obtain⟨g4,cp,e4,_,d1,d3,_,_⟩:=HFn.out W1 _ _ _ _ st HW1.out rfl
  cases e4
  rw[HPl.out] at d3
  have hneg:¬((k2:Int)<0):=xaa
  have hNN:k2<bs.length:=hk2
  generalize hnn:bs.length=nn at c3 hk2 hbl
  have HI0:Hid _:=LvI.nil (W:=W1) HW1.out (Mv.refl _ _)
  go_upto_region 4 with fail
  clear d1 d3 c3
  go_wp2_with fail
  go_loopw [10,11] (λiv kv W'=>∃(k:Nat) (s:LSt) (xs:List Nat),k<=n/\kv=.int .i64 k/\xs.length=k/\Hid (fF (λs e=>eJ f s loc e) st (es.take k)=some (.ok (s,xs)))/\Hid (LvI W1 W' P B u1 u2 u3 (.slice (some ⟨g4,0,none⟩) bs.length cp4) bs s iv ((ps.map (·.text)).zip xs))/\Hid (Gw st s)/\Hid (∀i∈xs,i<s.vs.length)) (λ_ kv _=>n-(intOf kv).toNat)
  case atStart=>exact⟨0,st,[],Nat.zero_le _,rfl,rfl,(show Hid (_=_) by show _=_;rw[List.take_zero];rfl),(show Hid _ from(by rw[List.zip_nil_right];exact HI0.out)),(show Hid (Gw st st) from Gw.refl HGd.out),(show Hid (∀i∈([]:List Nat),i<st.vs.length) from λi hi=>by cases hi)⟩
  case round=>
   obtain⟨k,s,xs,hkn,rfl,hxl,hArg,hFI,hGw,hXs⟩:=hrel
   clear HI0
   have HXL:Hid _:=hxl
   clear hxl
   by_cases hlt:k<n
   ·obtain⟨z1,z2,z3,z4,hWk,hMk,hOk⟩:=hFI.out.ex
    have hMk1:Mv (Mst P u1 u2 u3 (.slice (some ⟨g4,0,none⟩) bs.length cp4)) W1 (Mst P z1 z2 z3 z4) wr:=⟨hMk.chg,λb hb=>hMk.new b (.inl hb)⟩
    obtain⟨gr,eS,hA⟩:=HS.out xaa
    obtain⟨rk,erk,hEk,hOk2⟩:=kj _ es st R HAr.out k (by rw[HEs.out];exact hlt) s xs hArg.out
    obtain⟨o,n1,c1,sk,hck⟩:=hA.call k (by rw[HEs.out];exact hlt)
    obtain⟨hGk,hCk⟩:=hck s rk wr z1 z2 z3 z4 hGw.out erk hWk ((Mv.of HK.out).trans hMk1)
    rw[<-hA.cell ((Mv.of HK.out).trans hMk1).chg k] at sk
    subst eS
    have HEk:Hid _:=hEk
    have HOk2:Hid _:=hOk2
    have HGk:Hid _:=hGk
    have HCk:Hid _:=hCk
    have HMk:Hid _:=hMk
    have HOk:Hid _:=hOk
    have HMk1:Hid _:=(Mv.of (M:=Mst P u1 u2 u3 (.slice (some ⟨g4,0,none⟩) bs.length cp4)) HK.out).trans hMk1
    clear erk hEk hOk2 hGk hCk hck hWk hMk hOk hMk1 hA
    rcases rk with⟨c,p⟩|⟨s2,a2⟩
    ·exact xcn
    ·obtain⟨gw2,ha2⟩:=HGk.out s2 a2 rfl
     have ha20:¬((a2:Int)<0):=xaa
     have HA2:Hid (fF (λs e=>eJ f s loc e) st (es.take (k+1))=some (.ok (s2,xs++[a2]))):=HOk2.out s2 a2 rfl
     have HGw2:Hid _:=hGw.out.trans gw2
     have HX2:Hid (∀i∈xs++[a2],i<s2.vs.length):=by
      exact xdj
     go_upto_region 11 with (go_at_call 75;refine yai HCk.out ?_;rintro e w4 ⟨rfl,y1,y2,y3,y4,hW4,hM4⟩)
     have HLn:Hid _:=LvI.step HMk.out HOk.out hFI.out.row hW4 hM4
     have HSn:Hid (W1.heap.size<=w4.heap.size):=by show _<=_;have:=HMk.out.chg.size;have:=hM4.chg.size;omega
     have HNs:Hid (s2.names=st.names):=HGw2.out.m
     obtain⟨g5,cp5,_,f3,_,f5,_,f6,_⟩:=HFn.out w4 y1 y2 y3 y4 s2 hW4 HNs.out
     rw[HPl.out] at f5 f6
     obtain⟨gp,op,ep,_,hTk⟩:=f6.at_ xaa
     have f7:=hTk.c2 k hlt
     rw[ep] at f5
     have HPk:Hid ((ps.map (·.text)).getD xs.length []=(ps.getD k Tok.zero).text):=by
      show _=_
      rw[HXL.out,yah,List.getElem?_map,yah,yal (by rw[HPl.out];exact hlt)]
      rfl
     have HZ:Hid ((ps.map (·.text)).zip (xs++[a2])=(ps.map (·.text)).zip xs++[((ps.getD k Tok.zero).text,a2)]):=by
      show _=_
      rw[BA _ _ _ (by rw[HXL.out,List.length_map,HPl.out];exact hlt),HPk.out]
     have HZl:Hid (((ps.map (·.text)).zip xs).length=k):=by
      show _=_
      rw[wR _ _ (by rw[HXL.out,List.length_map,HPl.out];omega),HXL.out]
     generalize (ps.getD k Tok.zero).text=pk at f7 HZ
     have hCn:=Eg w4 pk a2 157
     have kA:=ez 0 0 w4 (.cells #[eE pk,.int .i64 (a2:Int)] 157)
     have HFB2:Hid _:=HLn.out.keep kA
     clear HLn hFI HMk HOk HMk1 HGk HCk HEk HOk2 sk hW4 hM4 hGw hXs hArg gw2 f6 hTk ep HPk
     generalize (ps.map (·.text)).zip xs=js at HFB2 HZ HZl
     rw[hnn] at f3
     go_wp2_with (first|(at_builtin;refine pY _ rfl _ _ rfl W1.heap.size _ js (by rfl) HFB2.out.row ⟨w4.heap.size,0,none⟩ (pk,a2) (by rfl) hCn ?c2 ?c3 ?_)|fail)
     case c2=>have:=HZl.out;omega
     case c3=>have:=HSn.out;simp;omega
     intro g9 cap9 n9 w9 hn9 hR9 hC9 hG9
     have R1:Hid _:=LvI.app (st:=s2) HW1.out HNs.out HFB2.out hR9 hC9 (hG9.imp id (λe=>by rw[e];simp))
     rw[<-HZ.out] at R1
     clear hR9 hC9 hG9 hn9 kA hCn f3 f5 f7
     go_wp2_with fail
     go_roundw
     case rel=>exact⟨k+1,s2,xs++[a2],by omega,by go_num,by rw[yak,HXL.out];rfl,HA2,R1,HGw2,HX2⟩
     case measure=>simp[intOf];omega
   ·obtain rfl:k=n:=xaa
    have HRl:Hid (R=.ok (s,xs)):=by
     have h1:=hArg.out
     rw[yao (by rw[HEs.out];exact yad),HAr.out] at h1
     exact Option.some.inj h1
    obtain⟨aI,cI,z1,z2,z3,z4,rfl,hWk,hMk,hLc⟩:=hFI.out.lc
    have hZl:((ps.map (·.text)).zip xs).length=k:=by
     rw[wR _ _ (by rw[HXL.out,List.length_map,HPl.out];exact yad),HXL.out]
    rw[hZl] at hLc ⊢
    have HMk:Hid _:=hMk
    have HMW:Hid _:=(Mv.of (M:=Mst P u1 u2 u3 (.slice (some ⟨g4,0,none⟩) bs.length cp4)) HK.out).trans hMk
    have HBk:Hid _:=HB.out.keepC hMk.chg HF.out
    have p4:=hWk.c4
    by_cases hc:500<=s.calls
    ·have HR2:Hid (r=.error (5,pos)):=by show _=_;rw[HR.out,HRl.out];show(if 500<=s.calls then _ else _)=_;rw[if_pos hc]
     have HSt:Hid _:=iL hWk.c5 hWk.c6 hWk.fr 5 pos (Mst P z1 z2 z3 z4) (.inl rfl)
     have b1:=HBk.out.c1
     have hc':(500:Int)<=(s.calls:Int):=xaa
     clear hWk hMk hLc hFI HR HRl hArg hGw hXs HAr HGd HS
     generalize s.calls=nc at p4 hc hc'
     go_wp2_with (go_at_call 74;refine yai HSt.out ?_;rintro e w4 ⟨rfl,hbad⟩)
     go_ret
     rw[HR2.out]
     exact⟨rfl,hbad.c5,hbad.c6,HMW.out.bad hbad.chg⟩
    ·have HR2:Hid (r=rb):=by show _=_;rw[HR.out,HRl.out];show(if 500<=s.calls then _ else _)=_;rw[if_neg hc]
     have hc':¬(500:Int)<=(s.calls:Int):=xaa
     obtain⟨hW5,hM5⟩:=hWk.more
     have hE5:=HRb.out s xs HRl.out hc
     have w5:Gw st {s with calls:=s.calls+1}:=⟨⟨hGw.out.g.n,hGw.out.g.c,hGw.out.g.ok,hGw.out.g.k,hGw.out.g.i,hGw.out.g.o,hGw.out.g.m⟩,hGw.out.n,hGw.out.l,hGw.out.i,hGw.out.o,hGw.out.m⟩
     have fP:=hWk.fr 4
     obtain⟨g5,cp5,_,f3,_,_,f5,_,ts,hPr,hTs,hbc,hTr⟩:=HFn.out _ z1 z2 z3 z4 {s with calls:=s.calls+1} hW5 hGw.out.m
     have hl:=ii hPr
     have hln:=hTr.len
     obtain⟨gb,ob,eb,hgb,hTk⟩:=hTr.at_ xaa
     have hn5':=hTs.n5
     have HC5:Hid _:=IH _ P B z1 z2 z3 z4 bs {s with calls:=s.calls+1} aI k cI ((ps.map (·.text)).zip xs) gb ob _ _ ts ⟨hW5,w5.g,NmOK.gw HNm.out w5,hLc.mv hM5,hn5,(λb hb=>hXs.out b.2 (List.of_mem_zip (show(b.1,b.2)∈_ from hb)).2),hTk,hgb,by omega,hbc,hTs.ti,hTs.tn⟩ 2 body hPr yad rb hE5
     rw[eb] at f5
     have HC6:Hid (Calls prog 75 _ _ λe W''=>(∃x:Int,e=.returned (.int .i64 x))/\Hid (TrO W P B u1 u2 u3 (.slice (some ⟨g4,0,none⟩) bs.length cp4) bs r e W'')):=yai HC5.out (λe W'' t=>⟨t.ret,by
      show TrO W P B u1 u2 u3 (.slice (some ⟨g4,0,none⟩) bs.length cp4) bs r e W''
      rw[HR2.out]
      exact TrO.after (HMW.out.trans hM5) t⟩)
     clear hWk hMk hLc hFI HR HRl hArg hGw hXs HAr HGd HS HC5 hW5 hM5 hE5 w5 hTk hTr hTs hPr hgb HRb HMk HMW HBk HFn HR2 HD HNm
     rw[hnn] at f3
     generalize s.calls=nc at*
     generalize (bs.getD k2 Bc.zero).bn=bn at*
     generalize (bs.getD k2 Bc.zero).bc=bc at*
     go_wp2_with (go_at_call 75;refine yai HC6.out ?_;rintro e w6 ⟨⟨x,rfl⟩,hT⟩)
     go_ret
     exact hT.out
 ·exfalso
  have:=l6 HW1.out hn
  rw[HFB.out] at this
  cases this
theorem vI {W:World}(H:TrIn W P B u1 u2 u3 u4 bs st aL nL loc g off m cap ts)(hp:Pr 0 [e] ts)(h0:(ts.getD 0 Tok.zero).sym=[110,97,109,101])(h2:4<=m)(us:List Tok)(hu:us=(ts.drop 2).take (m-1-2))(hne:(spQ us (m-3)).cur≠[])(r:Rs (LSt×Nat))
  (HC:∀W' aS cS,Kept 0 0 W W'->SgR W' g W.heap.size aS (fx us)->Calls prog 112 #[.pointer (some ⟨P,0,none⟩),.slice aL nL cL,ik (ts.getD 0 Tok.zero),.slice aS (fx us).length cS] W' (TrO W' P B u1 u2 u3 u4 bs r)):
  Calls prog 75 #[.pointer (some ⟨P,0,none⟩),.slice aL nL cL,.slice (some ⟨g,off,none⟩) m cap] W (TrO W P B u1 u2 u3 u4 bs r):=by
 have HO1:Hid _:=fB W g off m cap ts H.tk H.m5 [43] [45]
 have HO2:Hid _:=fB W g off m cap ts H.tk H.m5 [42] [47]
 rw[j8 hp] at HO1 HO2
 have c0:=H.tk.c0 0 xaa
 have c1:=H.tk.c1 0 xaa
 have c2:=H.tk.c2 0 xaa
 have m5:=H.m5
 have mc:=H.mc
 have HSp:Hid (∀W',Kept 0 0 W W'->_):=λW' kk=>wv W' g (off+6) (m-3) (cap-2) us (by
  have t:=(H.tk.keep kk).in_ 2 (m-1) us hu xaa
  rw[show m-1-2=m-3 by omega] at t
  exact t) xaa xaa xaa hne
 have HC':Hid _:=HC
 generalize ts.getD 0 Tok.zero=t at*
 clear H hp HC hne hu
 obtain⟨sy,ps,tx⟩:=t
 simp only at h0
 subst h0
 have hm1:((m:Int)==1)=false:=yaw xaa
 simp only[Nat.zero_mul,Nat.add_zero] at c0 c1 c2
 go_enter func75,ntmps75
 go_upto_region 3 with (go_at_call 107;refine yai HO1.out ?_;rintro e w2 ⟨rfl,hw⟩;obtain rfl:=hw.symm)
 go_upto_region 15 with (go_at_call 107;refine yai HO2.out ?_;rintro e w2 ⟨rfl,hw⟩;obtain rfl:=hw.symm)
 go_upto_region 16 with fail
 change Code.wp _ _ _ _ (W.alloc (.cells #[eE [110,97,109,101],.int .i64 (ps:Int),eE tx] 74))
 have HB:Hid (TB (W.alloc (.cells #[eE [110,97,109,101],.int .i64 (ps:Int),eE tx] 74)) W.heap.size [110,97,109,101] ps tx):=gH W [110,97,109,101] ps tx
 have HK:Hid _:=ez 0 0 W (.cells #[eE [110,97,109,101],.int .i64 (ps:Int),eE tx] 74)
 generalize W.alloc (.cells #[eE [110,97,109,101],.int .i64 (ps:Int),eE tx] 74)=W1 at HB HK ⊢
 have HZ:Hid (W.heap.size<=W1.heap.size):=HK.out.size
 generalize hbx:W.heap.size=bx at HB ⊢
 have HX:Hid _:=hbx
 clear hbx
 obtain⟨b0,b1,b2⟩:W1.cell? ⟨bx,0,none⟩=some (eE [110,97,109,101])/\W1.cell? ⟨bx,1,none⟩=some (.int .i64 (ps:Int))/\W1.cell? ⟨bx,2,none⟩=some (eE tx):=⟨HB.out.c0,HB.out.c1,HB.out.c2⟩
 have HS1:Hid _:=HSp.out W1 HK.out
 clear c0 c1 c2 HO1 HO2 HSp
 generalize (fx us).length=nS at HS1 HC' ⊢
 go_upto_region 29 with (go_at_call 111;refine yai HS1.out ?_;rintro e w2 ⟨aS,cS,rfl,hSg,k2⟩)
 have HB2:Hid _:=HB.out.keep k2
 have HSg:Hid (SgR w2 g W.heap.size aS (fx us)):=⟨λhh=>by
  obtain⟨gr,q1,q2,q3⟩:=hSg.at_ hh
  exact⟨gr,q1,yan HZ.out q2,q3⟩⟩
 have HC1:Hid _:=yai (HC'.out w2 aS cS (HK.out.trans k2) HSg.out) (λe W'' t=>(⟨TrO.ret t,TrO.back (HK.out.trans k2) t⟩:(∃x:Int,e=.returned (.int .i64 x))/\Hid (TrO W P B u1 u2 u3 u4 bs r e W'')))
 unfold ik at HC1
 simp only at HC1
 clear b0 b1 b2 HB hSg HC' HS1 HSg
 have b0:=HB2.out.c0
 have b1:=HB2.out.c1
 have b2:=HB2.out.c2
 clear HB2 k2
 exact xho
theorem uy {W:World}(H:TrIn W P B u1 u2 u3 u4 bs st aL nL loc g off m cap ts)(hp:Pr 0 [e] ts)(h0:(ts.getD 0 Tok.zero).sym=[110,97,109,101])(h2:m=3)(r:Rs (LSt×Nat))
  (HC:∀W',Kept 0 0 W W'->Calls prog 112 #[.pointer (some ⟨P,0,none⟩),.slice aL nL cL,ik (ts.getD 0 Tok.zero),.slice none 0 0] W' (TrO W' P B u1 u2 u3 u4 bs r)):
  Calls prog 75 #[.pointer (some ⟨P,0,none⟩),.slice aL nL cL,.slice (some ⟨g,off,none⟩) m cap] W (TrO W P B u1 u2 u3 u4 bs r):=by
 have HO1:Hid _:=fB W g off m cap ts H.tk H.m5 [43] [45]
 have HO2:Hid _:=fB W g off m cap ts H.tk H.m5 [42] [47]
 rw[j8 hp] at HO1 HO2
 have c0:=H.tk.c0 0 xaa
 have c1:=H.tk.c1 0 xaa
 have c2:=H.tk.c2 0 xaa
 have m5:=H.m5
 have mc:=H.mc
 have HSp:Hid (∀(W':World) (a:Option Addr) (n cp:Nat),n=0->Calls prog 111 #[.slice a n cp] W' λe W2=>e=.returned (.slice none 0 0)/\W2=W'):=λW' a n cp e=>by subst e;exact ua W' a cp
 have HC':Hid _:=HC
 have h2a:m<=3:=xaa
 have h2b:3<=m:=xaa
 clear h2
 generalize ts.getD 0 Tok.zero=t at*
 clear H hp HC
 obtain⟨sy,ps,tx⟩:=t
 simp only at h0
 subst h0
 have hm1:((m:Int)==1)=false:=yaw xaa
 simp only[Nat.zero_mul,Nat.add_zero] at c0 c1 c2
 go_enter func75,ntmps75
 go_upto_region 3 with (go_at_call 107;refine yai HO1.out ?_;rintro e w2 ⟨rfl,hw⟩;obtain rfl:=hw.symm)
 go_upto_region 15 with (go_at_call 107;refine yai HO2.out ?_;rintro e w2 ⟨rfl,hw⟩;obtain rfl:=hw.symm)
 go_upto_region 16 with fail
 change Code.wp _ _ _ _ (W.alloc (.cells #[eE [110,97,109,101],.int .i64 (ps:Int),eE tx] 74))
 have HB:Hid (TB (W.alloc (.cells #[eE [110,97,109,101],.int .i64 (ps:Int),eE tx] 74)) W.heap.size [110,97,109,101] ps tx):=gH W [110,97,109,101] ps tx
 have HK:Hid _:=ez 0 0 W (.cells #[eE [110,97,109,101],.int .i64 (ps:Int),eE tx] 74)
 generalize W.alloc (.cells #[eE [110,97,109,101],.int .i64 (ps:Int),eE tx] 74)=W1 at HB HK ⊢
 have HZ:Hid (W.heap.size<=W1.heap.size):=HK.out.size
 generalize hbx:W.heap.size=bx at HB ⊢
 have HX:Hid _:=hbx
 clear hbx
 obtain⟨b0,b1,b2⟩:W1.cell? ⟨bx,0,none⟩=some (eE [110,97,109,101])/\W1.cell? ⟨bx,1,none⟩=some (.int .i64 (ps:Int))/\W1.cell? ⟨bx,2,none⟩=some (eE tx):=⟨HB.out.c0,HB.out.c1,HB.out.c2⟩
 clear c0 c1 c2 HO1 HO2
 go_upto_region 29 with (go_at_call 111;refine yai (HSp.out _ _ _ _ xaa) ?_;rintro e w2 ⟨rfl,hw⟩;obtain rfl:=hw.symm)
 have HB2:Hid _:=HB.out
 have HC1:Hid _:=yai (HC'.out W1 HK.out) (λe W'' t=>(⟨TrO.ret t,TrO.back HK.out t⟩:(∃x:Int,e=.returned (.int .i64 x))/\Hid (TrO W P B u1 u2 u3 u4 bs r e W'')))
 unfold ik at HC1
 simp only at HC1
 clear b0 b1 b2 HB HC' HSp
 have b0:=HB2.out.c0
 have b1:=HB2.out.c1
 have b2:=HB2.out.c2
 clear HB2
 exact xho
section
variable {f:Nat}{W:World}{P B:Nat}{u1 u2 u3 u4:Value}{bs:List Bc}{st:LSt}{aL:Option Addr}{nL cL:Nat}{loc:Loc}{g off m cap:Nat}{ts:List Tok}{es:List Ex}{r:Rs (LSt×Nat)}
theorem uz (IH:TrC f)(h:WS W P B u1 u2 u3 u4 bs st)(gd:Gd st)(nmo:NmOK st)(t:Tok)(hn5:es.length<=5000){aS:Option Addr}{cS:Nat}(hS:0<es.length->∃gr,aS=some ⟨gr,0,none⟩/\ArgS f W P B u1 u2 u3 u4 bs st aL nL cL loc g gr es)(he:eJ (f+1) st loc (.call t es)=some r):
  Calls prog 112 #[.pointer (some ⟨P,0,none⟩),.slice aL nL cL,ik t,.slice aS es.length cS] W (TrO W P B u1 u2 u3 u4 bs r):=by
 rcases vH he with⟨hb,rfl⟩|⟨nm,ps,b,R,rb,hf,hp,hR,rfl,hrb⟩
 ·exact BB h gd t hb
 ·exact Eh IH h gd nmo t rfl hn5 hS hf hp R hR rb hrb
theorem vJ {t l q:Tok}(IH:TrC f)(H:TrIn W P B u1 u2 u3 u4 bs st aL nL loc g off m cap [t,l,q])(ht:t.sym=f8)(hl:l.sym=[40])(hq:q.sym=[41])(h:eJ (f+1) st loc (.call t [])=some r):
  Calls prog 75 #[.pointer (some ⟨P,0,none⟩),.slice aL nL cL,.slice (some ⟨g,off,none⟩) m cap] W (TrO W P B u1 u2 u3 u4 bs r):=by
 refine uy H (Pr.call0 ht hl hq) ht H.tk.len.symm r (λW' kk=>?_)
 exact uz (es:=[]) (g:=g) IH (H.ws.keep kk) H.gd H.nm t xac (λc=>by simp at c) h
theorem BC:∀(ts:List Tok) (q:SpS),(∀s∈(jQ q ts).out,s∈q.out\/s.Sublist (q.cur++ts))/\(jQ q ts).cur.Sublist (q.cur++ts)
 |[],q=>⟨λs hs=>.inl hs,by rw[List.append_nil];exact List.Sublist.refl _⟩
 |t::ts,q=>by
  rw[jd]
  obtain⟨h1,h2⟩:=BC ts (gK q t)
  have key:(gK q t).out=q.out/\(gK q t).cur=q.cur++[t]\/(gK q t).out=q.out++[q.cur]/\(gK q t).cur=[]:=by
   unfold gK
   split
   ·exact .inl ⟨rfl,rfl⟩
   ·split
    ·exact .inl ⟨rfl,rfl⟩
    ·split
     ·exact .inr ⟨rfl,rfl⟩
     ·exact .inl ⟨rfl,rfl⟩
  rcases key with⟨e1,e2⟩|⟨e1,e2⟩
  ·rw[e1,e2,List.append_assoc] at h1
   rw[e2,List.append_assoc] at h2
   exact⟨h1,h2⟩
  ·rw[e1,e2,List.nil_append] at h1
   rw[e2,List.nil_append] at h2
   have hs:ts.Sublist (q.cur++t::ts):=((List.sublist_cons_self t ts).trans (List.sublist_append_right q.cur (t::ts)))
   refine⟨λs hs2=>?_,h2.trans hs⟩
   rcases h1 s hs2 with c|c
   ·rcases List.mem_append.1 c with c|c
    ·exact .inl c
    ·simp at c;subst c;exact .inr (List.sublist_append_left _ _)
   ·exact .inr (c.trans hs)
theorem yy {ts:List Tok}(h:ts≠[]):∀i,i<(fx ts).length->((fx ts).getD i []).length<=ts.length/\∀t∈(fx ts).getD i [],t∈ts:=by
 intro i hi
 have hm:(fx ts).getD i []∈fx ts:=by
  rw[yah,yal hi]
  exact List.getElem_mem _
 have hs:((fx ts).getD i []).Sublist ts:=by
  generalize (fx ts).getD i []=s at hm ⊢
  unfold fx at hm
  rw[if_neg h] at hm
  obtain⟨h1,h2⟩:=BC ts ⟨0,[],[]⟩
  rcases List.mem_append.1 hm with c|c
  ·rcases h1 s c with d|d
   ·cases d
   ·exact d
  ·simp at c;rw[c];exact h2
 exact⟨hs.length_le,λt ht=>hs.subset ht⟩
theorem BD {n:Nat}{es:List Ex}{ts:List Tok}(h:Pr n es ts):es.length<=ts.length:=by
 induction h with
 |argM _ _ hb ih _=>
  have:=ii hb
  simp only[yak,yap,List.length_nil]
  omega
 |up01 _ ih=>exact ih
 |up12 _ ih=>exact ih
 |arg1 _ ih=>exact ih
 |_=>(simp only[yak,yap,List.length_nil];omega)
theorem yz {t l q:Tok}(IH:TrC f)(H:TrIn W P B u1 u2 u3 u4 bs st aL nL loc g off m cap (t::l::(ts++[q])))(ht:t.sym=f8)(hl:l.sym=[40])(ha:Pr 3 es ts)(hq:q.sym=[41])(h:eJ (f+1) st loc (.call t es)=some r):
  Calls prog 75 #[.pointer (some ⟨P,0,none⟩),.slice aL nL cL,.slice (some ⟨g,off,none⟩) m cap] W (TrO W P B u1 u2 u3 u4 bs r):=by
 have hm:(t::l::(ts++[q])).length=m:=H.tk.len
 simp only[yap,yak,List.length_nil] at hm
 have hp:=ii ha
 have hmc:=H.mc
 have hne:ts≠[]:=λc=>by rw[c] at hp;simp at hp
 obtain⟨hs1,hs2⟩:=vi ha
 have hu:ts=((t::l::(ts++[q])).drop 2).take (m-1-2):=by
  exact xgv
 have hes0:0<es.length:=by
  rw[<-hs1]
  unfold fx
  rw[if_neg hne]
  simp
 have hes:es.length<=ts.length:=BD ha
 have hlast:(spQ ts (m-3)).cur≠[]:=by
  have hl:=hs2 (es.length-1) xaa
  have e:(fx ts).getD (es.length-1) []=(spQ ts (m-3)).cur:=by
   rw[<-hs1]
   unfold spQ fx
   rw[if_neg hne,yao xaa]
   simp
  rw[e] at hl
  exact EO hl
 refine vI H (Pr.call ht hl ha hq) ht xaa ts hu hlast r (λW' aS cS kk hS=>?_)
 obtain⟨gr,rfl,hlo,hgr,hS2⟩:=hS.at_ xaa
 rw[hs1]
 have hmm:=yy hne
 have HA:ArgS f W' P B u1 u2 u3 u4 bs st aL nL cL loc g gr es:=ArgS.of IH cL H kk hlo hgr hS2 hs1 hs2 (λi hi=>yan (hmm i hi).1 xaa) (λi hi t ht=>by have:=(hmm i hi).2 t ht;simp[this])
 have hm5:=H.m5
 exact uz IH (H.ws.keep kk) H.gd H.nm t xaa (λ_=>⟨gr,rfl,HA⟩) h
