import Derived.Test.YtgamjhpebmmjcaaGreatDoorP27
namespace Go.Proofs.YtgamjhpebmmjcaaGreatDoor
set_option maxRecDepth 100000
set_option maxHeartbeats 40000000
open Go.RowKit Flt
attribute [local go_sem] alloc_drewN setCell_drewN run_store_float max_i
theorem cloneNP (w:World):Calls Tryz.prog 41 #[.slice none 0 0] w fun e w'=>e=.returned (.slice none 0 0)∧Kept 0 0 w w':=by
 have heq:(binOp .eql 32 (.slice none 0 0) (.slice none 0 0)).run Tryz.prog w=.ok (.bool true) w:=by
  simp only[binOp]
  simp[run_equal_slice_nil w 32 3 none 0 0 Tryz.underlying32]
 go_enter Tryz.func41,Tryz.ntmps41
 go_wp2_with fail
 go_ret
 exact⟨rfl,Kept.refl 0 0 _⟩
theorem implPlanN (w:World)(b2 b3:Option Addr)(n2 c2 n3 c3:Nat)(bud:Int)(vs:List Vl)(outs:List Int)(f:GS w none 0 b2 n2 b3 n3 [] vs outs)(hok:okG [] vs outs=true):
  Calls Tryz.prog 25 #[gagg none 0 0 b2 n2 c2 b3 n3 c3,.int .i64 bud] w fun e w'=>PLi w 0 n2 n3 bud (peakTo vs (plTo vs outs n2) n2) [] (stesTo vs (plTo vs outs n2) n2) (outs.map (spnM vs (plTo vs outs n2))) e w':=by
 obtain⟨i0,hii,hz0,hz1,hz2⟩:=info_parts infoSte
 obtain⟨j0,hjj,hy0,hy1,hy2⟩:=info_parts infoSpn
 obtain⟨⟨hl1,hl2,hl3⟩,_,hv,ho,hcl⟩:=okG_parts hok
 have hvl:vs.length=n2:=f.v.len
 have hol:outs.length=n3:=f.o.len
 have hn2:n2≤2000:=by omega
 have hn3:n3≤1000:=by omega
 have HV:Hid (∀j,j<n2→1≤(vs.getD j Vl.zero).len):=fun j hj=>(okV_len (hv j (by omega))).1
 have HFD:Hid (∀i,i<n2→∀k,k<cnt (vs.getD i Vl.zero).op→0≤fld (vs.getD i Vl.zero) k∧fld (vs.getD i Vl.zero) k<i):=fun i hi=>fld_in (okV_ops (hv i (by omega)))
 have HS:Hid (sumL vs n2≤50000):=by
  show _≤_
  rw[sumL_cells vs n2 (by omega),List.take_of_length_le (by omega)];exact hcl
 have HSP:Hid (∀j,j<n2→InB (spanOf vs (plTo vs outs n2) j)):=fun j hj=>by
  have h1:=pl_bound (outs:=outs) HV.out HS.out n2 (Nat.le_refl _) j hj
  have h2:=sumL_mono HV.out (i:=j+1) (j:=n2) (by omega) (by omega)
  have h3:=HV.out j hj
  have h4:=HS.out
  refine⟨h1.1,?_,?_⟩
  ·show 0≤(vs.getD j Vl.zero).len;omega
  ·show(plTo vs outs n2).getD j 0+(vs.getD j Vl.zero).len≤50000;omega
 have HO:Hid (∀o∈outs,0≤o∧o<n2):=fun o h=>by have:=ho o h;omega
 have HLL:Hid (vs.length=n2∧outs.length=n3∧True):=⟨hvl,hol,trivial⟩
 have HVK:Hid (∀v∈vs,v.k<18446744073709551616):=f.v.lt
 have HOK:Hid _:=hok
 have k0:=kept_alloc 0 0 w (gbox none 0 0 b2 n2 c2 b3 n3 c3)
 have hB:=g0_start w (.slice none 0 0) (.slice b2 n2 c2) (.slice b3 n3 c3)
 have k1:=kept_alloc 0 0 (w.alloc (gbox none 0 0 b2 n2 c2 b3 n3 c3)) cbox0
 have HB:Hid _:=hB.keep k1
 have HF:Hid _:=(f.keep k0).keep k1
 have HVG:Hid _:=implValid _ none b2 b3 0 0 n2 c2 n3 c3 [] vs outs ((f.keep k0).keep k1)
 rw[hok] at HVG
 have HK:Hid _:=k0.trans k1
 have HR:Hid _:=kb_start (w.alloc (gbox none 0 0 b2 n2 c2 b3 n3 c3))
 have hz:(w.alloc (gbox none 0 0 b2 n2 c2 b3 n3 c3)).heap.size=w.heap.size+1:=by simp
 rw[hz] at HR
 clear f hok k0 k1 hz hl1 hl2 hl3 hv ho hcl hvl hol
 obtain⟨_,q0,q1,q2⟩:=HB.out
 go_enter Tryz.func25,Tryz.ntmps25
 go_wp2_with fail
 generalize (w.alloc (gbox none 0 0 b2 n2 c2 b3 n3 c3)).alloc cbox0=w1 at HB HF HVG HK HR q0 q1 q2 ⊢
 refine Calls.mono HVG.out ?_
 rintro e w2 ⟨rfl,k2⟩
 have HPO:Hid _:=placesOf w2 none b2 b3 0 0 n2 c2 n3 c3 [] vs outs (HF.out.keep k2) HOK.out
 have HK2:Hid _:=k2
 clear HVG q0 q1 q2 hB k2
 obtain⟨_,q0,q1,q2⟩:=HB.out.keep HK2.out
 go_wp2_with fail
 refine Calls.mono HPO.out ?_
 rintro e w3 ⟨G,rfl,pa3,hG3,k3⟩
 have HK3:Hid _:=HK2.out.trans k3
 have HPA3:Hid _:=pa3
 have HCI:Hid _:=cloneNP w3
 clear HPO q0 q1 q2 pa3 k3 hG3 HK2
 obtain⟨_,q0,q1,q2⟩:=HB.out.keep HK3.out
 go_wp2_with fail
 refine Calls.mono HCI.out ?_
 rintro e w4 ⟨rfl,k4⟩
 have HK4:Hid (Kept 0 0 w1 w4):=HK3.out.trans k4
 have HPA:Hid (PA w4 G n2 (plUp vs (plTo vs outs n2) n2 n2)):=HPA3.out.keep k4 (.inr (.inr (Nat.le_refl _)))
 have HZ4:Hid (w3.heap.size≤w4.heap.size∧w1.heap.size≤w3.heap.size∧G<w4.heap.size):=⟨k4.size,HK3.out.size,HPA.out.lt⟩
 have HLP:Hid _:=lp_start w4 (.slice none 0 0)
 have kc:=kept_alloc 0 0 w4 (.cells #[.slice none 0 0,.slice none 0 0,.slice none 0 0,.int .i64 0] 47)
 obtain⟨_,r0,r1,r2⟩:=HB.out.keep (HK4.out.trans kc)
 clear HCI q0 q1 q2 k4 HPA3 HK3 kc
 go_wp2_with fail
 clear r0 r1 r2
 generalize w4.alloc (.cells #[.slice none 0 0,.slice none 0 0,.slice none 0 0,.int .i64 0] 47)=w5 at HLP ⊢
 obtain⟨C,hC⟩:∃C,C=w4.heap.size:=⟨_,rfl⟩
 rw[←hC] at HLP ⊢
 have HCW:Hid _:=hC
 clear hC
 go_loopw [25] (fun x W=>∃(i:Nat) (u:Value),i≤n2∧x=.int .i64 i∧Hid (LP W w4 C (C+1) (.slice none 0 0) u (.slice none 0 0) i 0 (peakTo vs (plTo vs outs n2) i) (stesTo vs (plTo vs outs n2) i) [])) (fun x _=>n2-(intOf x).toNat)
 case atStart=>exact⟨0,_,Nat.zero_le _,rfl,HLP⟩
 case round=>
  obtain⟨i,u,hi,rfl,hP⟩:=hrel
  clear HLP
  have HKW:Hid (Kept 0 0 w4 wr):=Chg.kept (Kept.refl 0 0 w4) hP.out.ch (fun b hb=>by have:=HCW.out;omega)
  obtain⟨_,q0,q1,q2⟩:=HB.out.keep (HK4.out.trans HKW.out)
  by_cases hlt:i<n2
  ·obtain⟨ga,off,rfl,hga,_,_,hat⟩:=(HF.out.keep (HK4.out.trans HKW.out)).v.at_idx hlt
   have hsteq:=step_eq (vs:=vs) (ps:=plTo vs outs n2) hlt (HFD.out i hlt)
   have hfd:=HFD.out i hlt
   have hsp:=HSP.out i hlt
   have HPK:Hid (peakTo vs (plTo vs outs n2) (i+1)=if peakTo vs (plTo vs outs n2) i<(spanOf vs (plTo vs outs n2) i).off+(spanOf vs (plTo vs outs n2) i).len then (spanOf vs (plTo vs outs n2) i).off+(spanOf vs (plTo vs outs n2) i).len else peakTo vs (plTo vs outs n2) i):=rfl
   have HSS:Hid _:=stesTo_succ vs (plTo vs outs n2) i
   have hpa:=HPA.out.keep HKW.out (.inr (.inr (Nat.le_refl _)))
   obtain⟨e0,e1⟩:=hpa.at_ i hlt
   rw[plUp_at vs _ hlt,if_pos hlt] at e0 e1
   rw[show(plTo vs outs n2).getD i 0=(spanOf vs (plTo vs outs n2) i).off from rfl] at hsteq
   have HST:Hid (∀W,Kept 0 0 wr W→Calls Tryz.prog 42 #[(vs.getD i Vl.zero).agg,.int .i64 (spanOf vs (plTo vs outs n2) i).off,.slice (some ⟨G,0,none⟩) n2 n2] W fun e w'=>e=.returned (steM vs (plTo vs outs n2) i).agg∧Kept 0 0 W w'):=fun W kW=>by
    rw[←hsteq]
    exact stepOf W 0 W.heap.size (some ⟨G,0,none⟩) n2 n2 (plUp vs (plTo vs outs n2) n2 n2) _ _ (hpa.keep kW (.inr (.inr (Nat.le_refl _)))).ss (fun q hq=>by have:=hfd q hq;omega)
   have hpG:=hpa.lt
   obtain⟨pk,hpk⟩:∃pk,pk=peakTo vs (plTo vs outs n2) i:=⟨_,rfl⟩
   rw[←hpk] at hP HPK
   generalize steM vs (plTo vs outs n2) i=st at HST HSS
   generalize spanOf vs (plTo vs outs n2) i=s at e0 e1 HST hsp HPK
   generalize vs.getD i Vl.zero=v at hat HST
   obtain⟨y0,y1,y2,y3,y4,y5⟩:=hat
   obtain⟨au,cu,rfl⟩:=own_form hP.out.pu
   have kv:=kept_alloc 0 0 wr (vbox v.op v.len v.a v.b v.c v.k)
   have HP1:Hid _:=hP.out.keep kv
   obtain⟨z0,z1,z2,z3,z4,z5⟩:=vbox_atJ wr v
   simp only[Nat.zero_add] at z1 z2 z3 z4 z5
   have hbz:=hP.out.bz
   have d0:(wr.alloc (vbox v.op v.len v.a v.b v.c v.k)).cell? ⟨G,i*2,none⟩=some (.int .i64 s.off):=by rw[kv.cell (p:=⟨G,i*2,none⟩) hpG (by omega)];exact e0
   have HE:Hid (∀W,Kept 0 0 wr W→W.cell? ⟨G,i*2,none⟩=some (.int .i64 s.off)∧W.cell? ⟨G,i*2+1,none⟩=some (.int .i64 s.len)):=fun W kW=>⟨by rw[kW.cell (p:=⟨G,i*2,none⟩) hpG (by omega)];exact e0,by rw[kW.cell (p:=⟨G,i*2+1,none⟩) hpG (by omega)];exact e1⟩
   have HZZ:Hid (G<wr.heap.size∧wr.heap.size<(wr.alloc (vbox v.op v.len v.a v.b v.c v.k)).heap.size):=⟨hpG,by simp⟩
   clear hsteq hfd hpa hpG hpk hP e0 e1
   go_upto_region 8 with fail
   clear y0 y1 y2 y3 y4 y5 q0 q1 q2
   have HKV:Hid _:=kv
   generalize wr.alloc (vbox v.op v.len v.a v.b v.c v.k)=wB at HP1 z0 z1 z2 z3 z4 z5 d0 HKV HZZ ⊢
   clear kv
   obtain⟨_,x0,x1,x2,x3,_,xf1,_,_⟩:=HP1.out.bx
   have hi1:(0:Int)≤(i:Int):=by omega
   have hi2:(i:Int)<(n2:Int):=by omega
   go_cut [] (fun wx=>∃u9,Hid (LP wx w4 C (C+1) (.slice none 0 0) u9 (.slice none 0 0) (i+1) 0 pk (stesTo vs (plTo vs outs n2) (i+1)) [])∧Hid (Chg (fun b=>b=C∨C+1≤b) wB wx))
   case first=>
    go_region_law (first
     |(refine step_append_lies _ rfl (.tmp 31) (.tmp 40) 44 rfl (C+1) 89 i0 Ste.zero.agg 8 64 Tryz.underlying44 hii hz0 hz1 hz2 rfl (by decide) _ _ (flatT (stesTo vs (plTo vs outs n2) i)) (by simp[Act.eval]) (HP6.out.pu.alloc _) ⟨w6.heap.size,0,none⟩ 1 1 st.cells (by simp[Act.eval]) rfl (news8 w6 st 0) (one8 st) (by decide) (by unfold maxLen;omega) (by omega) (by have:=HP6.out.bz;simp;omega) _ rfl ?_;intro g9 cap9 w9 hown9 hg9 hat9 hlt9;obtain⟨_,m0,m1,m2,m3,_,mf1,_,mf3⟩:=LP.mid (z:=0) HP6.out (Nat.lt_succ_self _) hg9)
     |(go_simp;go_wp2_with (first|(go_at_call 42;refine Calls.mono (HST.out _ (HKV.out.trans (kept_drew wB))) ?_;rintro e w6 ⟨rfl,k6'⟩;have k6:=(kept_drew wB).trans k6';have HP6:Hid _:=HP1.out.keep k6;obtain⟨_,t0,t1,t2,t3,_,tf1,_,_⟩:=HP6.out.bx)|fail)))
    all_goals
     have hat':(Value.slice au i cu).ownBlock=some g9∨g9=w6.heap.size+1:=hat9.imp (fun h=>h) (fun e=>e.trans (by simp))
     have R:=LP.putU (z:=0) (s:=st) HP6.out (Nat.lt_succ_self _) hown9 hg9 hat'
     rw[←HSS.out] at R
     have R1:Hid _:=R
     have R2:Hid (Chg (fun b=>b=C∨C+1≤b) wB (w9.setCell ⟨C,1,none⟩ (.slice (some ⟨g9,0,none⟩) (i+1) cap9))):=Chg.andThen (k6.trans (kept_alloc 0 0 w6 st.box)).chg (Chg.andThen ((chg_grow hg9).mono fun b _ hb=>.inr (own_blkV HP6.out.pu hb).1) (chg_setCell w9 C 1 _ (.inl rfl)))
     clear R hat' hat9 hown9 hg9 m0 m1 m2 m3 mf1 mf3 hlt9
     go_wp2_with fail
     go_meet
     exact⟨_,R1,R2⟩
   case rest=>
    obtain⟨u9,hP9,hC9⟩:=hcut
    obtain⟨au9,cu9,rfl⟩:=own_form hP9.out.pu
    clear z0 z1 z2 z3 z4 z5 d0 x0 x1 x2 x3 xf1 HST HSS HP1
    have hGC:¬(G=C∨C+1≤G):=by have:=HZ4.out;have:=HCW.out;omega
    have d0:wc.cell? ⟨G,i*2,none⟩=some (.int .i64 s.off):=by
     rw[hC9.out.cell (p:=⟨G,i*2,none⟩) (by have:=HZZ.out;show G<_;omega) hGC];exact(HE.out wB HKV.out).1
    have d1:wc.cell? ⟨G,i*2+1,none⟩=some (.int .i64 s.len):=by
     rw[hC9.out.cell (p:=⟨G,i*2+1,none⟩) (by have:=HZZ.out;show G<_;omega) hGC];exact(HE.out wB HKV.out).2
    have HGL:Hid (G<wc.heap.size):=Nat.lt_of_lt_of_le (by have:=HZZ.out;omega) hC9.out.size
    have HSE:Hid (∀W,_):=fun W=>spanEnd W s (by have:=hsp.1;have:=hsp.2;omega)
    obtain⟨pn,hpn⟩:∃pn,pn=peakTo vs (plTo vs outs n2) (i+1):=⟨_,rfl⟩
    rw[←hpn] at HPK
    have HPN:Hid _:=hpn
    clear hpn hGC
    have HP9:Hid _:=hP9.out
    clear hP9 hC9 HE HZZ
    go_upto_region 9 with fail
    obtain⟨_,x0,x1,x2,x3,_,_,_,xf3⟩:=HP9.out.bx
    by_cases hx:pk<s.off+s.len
    ·have HPE:Hid (pn=s.off+s.len):=by show _=_;rw[HPK.out,if_pos hx]
     clear HPK
     go_region_with (first|(go_at_call 43;refine Calls.mono (HSE.out _) ?_;rintro e w6 ⟨rfl,k6'⟩;have k6:=(kept_drew wc).trans k6';have HP6:Hid _:=HP9.out.keep k6;obtain⟨_,t0,t1,t2,t3,_,_,_,tf3⟩:=HP6.out.bx)|fail)
     all_goals
      have R:=HP6.out.putP (Nat.lt_succ_self _) (s.off+s.len)
      have RR:Hid (LP (w6.setCell ⟨C,3,none⟩ (.int .i64 (s.off+s.len))) w4 C (C+1) (.slice none 0 0) (.slice au9 (i+1) cu9) (.slice none 0 0) (i+1) 0 (peakTo vs (plTo vs outs n2) (i+1)) (stesTo vs (plTo vs outs n2) (i+1)) []):=by
       show LP _ _ _ _ _ _ _ _ _ _ _ _
       rw[←HPN.out,HPE.out]
       exact R
      clear R
      go_wp2_with fail
      go_roundw
      case rel=>exact⟨i+1,_,by omega,by go_num,RR⟩
      case measure=>simp[intOf];omega
    ·have HPE:Hid (pn=pk):=by show _=_;rw[HPK.out,if_neg hx]
     clear HPK
     go_region_with (first|(go_at_call 43;refine Calls.mono (HSE.out _) ?_;rintro e w6 ⟨rfl,k6'⟩;have k6:=(kept_drew wc).trans k6';have HP6:Hid _:=HP9.out.keep k6;obtain⟨_,t0,t1,t2,t3,_,_,_,tf3⟩:=HP6.out.bx)|fail)
     all_goals
      have R:=HP6.out.putP (Nat.lt_succ_self _) (pk)
      have RR:Hid (LP (w6.setCell ⟨C,3,none⟩ (.int .i64 (pk))) w4 C (C+1) (.slice none 0 0) (.slice au9 (i+1) cu9) (.slice none 0 0) (i+1) 0 (peakTo vs (plTo vs outs n2) (i+1)) (stesTo vs (plTo vs outs n2) (i+1)) []):=by
       show LP _ _ _ _ _ _ _ _ _ _ _ _
       rw[←HPN.out,HPE.out]
       exact R
      clear R
      go_wp2_with fail
      go_roundw
      case rel=>exact⟨i+1,_,by omega,by go_num,RR⟩
      case measure=>simp[intOf];omega
  ·obtain rfl:i=n2:=by omega
   go_wp2_with fail
   clear q0 q1 q2
   go_loopw [56] (fun x W=>∃(k:Nat) (v':Value),k≤n3∧x=.int .i64 k∧Hid (LP W w4 C (C+1) (.slice none 0 0) u v' i k (peakTo vs (plTo vs outs i) i) (stesTo vs (plTo vs outs i) i) ((outs.take k).map (spnM vs (plTo vs outs i))))) (fun x _=>n3-(intOf x).toNat)
   case atStart=>exact⟨0,_,Nat.zero_le _,rfl,by rw[List.take_zero];exact hP⟩
   case round=>
    obtain⟨k,v',hk,rfl,hP2⟩:=hrel
    clear hP HKW
    have HKW:Hid (Kept 0 0 w4 wr):=Chg.kept (Kept.refl 0 0 w4) hP2.out.ch (fun b hb=>by have:=HCW.out;omega)
    obtain⟨_,q0,q1,q2⟩:=HB.out.keep (HK4.out.trans HKW.out)
    obtain⟨_,x0,x1,x2,x3,_,_,f2,_⟩:=hP2.out.bx
    by_cases hkn:k<n3
    ·have hom:=getD_memJ (xs:=outs) (q:=k) (by rw[HLL.out.2.1];exact hkn)
     have hob:=HO.out _ hom
     obtain⟨m,em,hm⟩:∃m:Nat,outs.getD k 0=m∧m<i:=⟨(outs.getD k 0).toNat,by omega,by omega⟩
     obtain⟨og,oo,kk,rfl,ek,_,hog,cO⟩:=(HF.out.keep (HK4.out.trans HKW.out)).o.at_idx (o:=k) (by omega) (by omega)
     obtain rfl:k=kk:=by omega
     rw[Int.toNat_natCast,em] at cO
     obtain⟨e0,e1⟩:=(HPA.out.keep HKW.out (.inr (.inr (Nat.le_refl _)))).at_ m hm
     rw[plUp_at vs _ hm,if_pos hm] at e0 e1
     have HX:Hid ((outs.take (k+1)).map (spnM vs (plTo vs outs i))=(outs.take k).map (spnM vs (plTo vs outs i))++[spanOf vs (plTo vs outs i) m]):=by
      show _=_
      rw[List.take_succ_eq_append_getElem (by rw[HLL.out.2.1];exact hkn),List.map_append]
      have e:outs[k]'(by rw[HLL.out.2.1];exact hkn)=(m:Int):=by
       rw[←em,List.getD_eq_getElem?_getD,List.getElem?_eq_getElem (by rw[HLL.out.2.1];exact hkn)];rfl
      rw[List.map_singleton,e]
      rfl
     generalize spanOf vs (plTo vs outs i) m=s at e0 e1 HX
     have hbz:=hP2.out.bz
     obtain⟨ax,cx,rfl⟩:=own_form hP2.out.pv
     have hm1:(0:Int)≤(m:Int):=by omega
     have hm2:(m:Int)<(i:Int):=by omega
     clear hom hob em
     go_wp2_with fail
     go_region_law ((refine step_append_lies _ rfl (.tmp 61) (.tmp 66) 45 rfl (C+1) 92 j0 Spn.zero.agg 2 16 Tryz.underlying45 hjj hy0 hy1 hy2 rfl (by decide) _ _ (flatP ((outs.take k).map (spnM vs (plTo vs outs i)))) (by simp[Act.eval]) (own_drewA hP2.out.pv 1 _) ⟨wr.heap.size,0,none⟩ 1 1 s.cells (by simp[Act.eval]) rfl (news2 wr s 1) (one2 _) (by decide) (by unfold maxLen;omega) (by omega) (by simp;omega) _ rfl ?_;intro g9 cap9 w9 hown9 hg9 hat9 hlt9;obtain⟨_,s0,s1,s2,s3,_,_,sf2,_⟩:=LP.midV hP2.out (Nat.lt_succ_self _) hg9))
     all_goals
      have hat':(Value.slice ax k cx).ownBlock=some g9∨g9=wr.heap.size+1:=hat9.imp (fun h=>h) (fun e=>by rw[e];show(wr.alloc _).heap.size=_;simp)
      have R:Hid _:=LP.putV (s:=s) hP2.out (Nat.lt_succ_self _) hown9 hg9 hat'
      rw[←HX.out] at R
      clear hown9 hg9 hat9 hat' hlt9
      go_wp2
      go_roundw
      case rel=>exact⟨k+1,_,by omega,by go_num,R⟩
      case measure=>simp[intOf];omega
    ·obtain rfl:k=n3:=by omega
     obtain⟨a2,d2,rfl⟩:=own_form hP2.out.pu
     obtain⟨a3,d3,rfl⟩:=own_form hP2.out.pv
     obtain⟨_,r0,r1,r2,r3,rf0,rf1,rf2,rf3⟩:=(HR.out.keep HK4.out).keep HKW.out
     have HKF:Hid (Kept 0 0 w wr):=HK.out.trans (HK4.out.trans HKW.out)
     have HOC:Hid (OCd wr w3.heap.size (.slice none 0 0) (.slice a2 i d2) (.slice a3 k d3) [] (stesTo vs (plTo vs outs i) i) (outs.map (spnM vs (plTo vs outs i)))):=by
      have hz:=HZ4.out
      have hc:=HCW.out
      have r3:=hP2.out.pv
      rw[List.take_of_length_le (by rw[HLL.out.2.1];exact Nat.le_refl _)] at r3
      refine⟨?_,?_,?_,?_,?_,hP2.out.ne,?_⟩
      ·exact World.ownsRow_nil _ _ _ _
      ·rw[stesTo_len];exact own_mono hP2.out.pu (by omega)
      ·rw[List.length_map,HLL.out.2.1];exact own_mono r3 (by omega)
      ·intro g hg hg2
       cases hg
      ·intro g hg hg2
       cases hg
      ·intro s hs
       unfold stesTo at hs
       obtain⟨q,_,rfl⟩:=List.mem_map.1 hs
       unfold steM
       dsimp only
       split
       ·exact getK_lt HVK.out q
       ·decide
     have HZW:Hid (w.heap.size+1<w3.heap.size∧w.heap.size+1<wr.heap.size):=⟨by have:=HR.out.sz;have:=HZ4.out;omega,by have:=HR.out.sz;have:=HK4.out.size;have:=HKW.out.size;omega⟩
     have hzz:w.heap.size+1<wr.heap.size:=HZW.out.2
     obtain⟨pkk,hpkk⟩:∃z,z=peakTo vs (plTo vs outs i) i:=⟨_,rfl⟩
     rw[←hpkk] at x3
     have HPQ:Hid _:=hpkk
     clear hpkk hP2
     by_cases hgt:bud<pkk
     ·have HGT:Hid _:=hgt
      go_wp2_with fail
      obtain⟨y0,y1,y2,y3⟩:=put4_0 wr (w.heap.size+1) _ _ _ _ r0 r1 r2 r3 (.slice none 0 0) (.slice none 0 0) (.slice none 0 0) (.int .i64 0)
      have kp:=put4_kept wr (w.heap.size+1) (.slice none 0 0) (.slice none 0 0) (.slice none 0 0) (.int .i64 0)
      refine bodyPost_ret (v:=.tuple #[cnl,.int .i64 7]) (by simp[results,Tryz.results25,go_sem,y0,y1,y2,y3]) rfl ?_
      unfold PLi
      rw[←HPQ.out]
      exact⟨fun _=>rfl,fun h=>absurd HGT.out h,HKF.out.new kp (by omega)⟩
     ·have HGT:Hid _:=hgt
      go_wp2_with fail
      obtain⟨y0,y1,y2,y3⟩:=put4_0 wr (w.heap.size+1) _ _ _ _ r0 r1 r2 r3 (.slice none 0 0) (.slice a2 i d2) (.slice a3 k d3) (.int .i64 pkk)
      have kp:=put4_kept wr (w.heap.size+1) (.slice none 0 0) (.slice a2 i d2) (.slice a3 k d3) (.int .i64 pkk)
      refine bodyPost_ret (v:=.tuple #[cagg none 0 0 a2 i d2 a3 k d3 pkk,.int .i64 0]) (by simp[results,Tryz.results25,go_sem,y0,y1,y2,y3]) rfl ?_
      unfold PLi
      rw[←HPQ.out]
      exact⟨fun h=>absurd h HGT.out,fun _=>⟨_,_,_,_,_,_,rfl,(HOC.out.keepC (kp.chg1 (S:=fun b=>b=w.heap.size+1) rfl) (fun g h1 _ e=>by have:=HZW.out;omega)).mono (by have:=HZW.out;omega)⟩,HKF.out.new kp (by omega)⟩
end Go.Proofs.YtgamjhpebmmjcaaGreatDoor
