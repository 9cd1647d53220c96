import Derived.Test.YtgamjhpebmmjcaaGreatDoorP24
import Derived.Test.YtgamjhpebmmjcaaGreatDoorP25
namespace Go.Proofs.YtgamjhpebmmjcaaGreatDoor
set_option maxRecDepth 100000
set_option maxHeartbeats 40000000
open Go.RowKit Flt
attribute [local go_sem] alloc_drewN setCell_drewN run_store_float
def POb (w:World)(b1:Option Addr)(g1 n1 c1 g2 g3 n3 c3:Nat)(ins:List Int)(M:List Vl×List Int)(e:Ending)(w':World):Prop:=
 ∃G2 n2 c2 us,e=.returned (gagg b1 n1 c1 (some ⟨G2,0,none⟩) n2 c2 (some ⟨g3,0,none⟩) n3 c3)∧PG w' g1 G2 g3 n1 n2 n3 ins us M.2∧Lk us M.1∧Kb us∧Chg (fun b=>b=g2∨b=g3) w w'∧(G2=g2∨w.heap.size≤G2)
theorem withoutDeadB (w:World)(b1:Option Addr)(g1 n1 c1 g2 n2 c2 g3 n3 c3:Nat)(ins:List Int)(vs:List Vl)(outs:List Int)(hP:PG w g1 g2 g3 n1 n2 n3 ins vs outs)(hok:okG ins vs outs=true)(hkb:Kb vs):
  Calls Tryz.prog 64 #[gagg b1 n1 c1 (some ⟨g2,0,none⟩) n2 c2 (some ⟨g3,0,none⟩) n3 c3] w fun e w'=>POb w b1 g1 n1 c1 g2 g3 n3 c3 ins (deadM vs outs) e w':=by
 obtain⟨i0,hii,hz0,hz1,hz2⟩:=info_parts infoV
 obtain⟨⟨hl1,hl2,hl3⟩,_,hv,ho,_⟩:=okG_parts hok
 have hvl:vs.length=n2:=hP.v.len
 have hol:outs.length=n3:=hP.o.len
 have hn2:n2≤2000:=by omega
 have hn3:n3≤50:=by omega
 have HV:Hid (∀j,j<n2→okV ins vs j=true):=fun j hj=>hv j (by omega)
 have HOUT:Hid (∀o∈outs,0≤o∧o<n2):=fun o h=>by have:=ho o h;omega
 have HL:Hid (vs.length=n2):=hvl
 have HKB:Hid _:=hkb
 have k0:=kept_alloc 0 0 w (gbox b1 n1 c1 (some ⟨g2,0,none⟩) n2 c2 (some ⟨g3,0,none⟩) n3 c3)
 have hB:=g0_start w (.slice b1 n1 c1) (.slice (some ⟨g2,0,none⟩) n2 c2) (.slice (some ⟨g3,0,none⟩) n3 c3)
 have hF:=rb_box w (.slice b1 n1 c1) (.slice (some ⟨g2,0,none⟩) n2 c2) (.slice (some ⟨g3,0,none⟩) n3 c3)
 have hz:(w.alloc (gbox b1 n1 c1 (some ⟨g2,0,none⟩) n2 c2 (some ⟨g3,0,none⟩) n3 c3)).heap.size=w.heap.size+1:=by simp
 have k1:=kept_alloc 0 0 (w.alloc (gbox b1 n1 c1 (some ⟨g2,0,none⟩) n2 c2 (some ⟨g3,0,none⟩) n3 c3)) nbox
 have hR:=rb_start (w.alloc (gbox b1 n1 c1 (some ⟨g2,0,none⟩) n2 c2 (some ⟨g3,0,none⟩) n3 c3))
 rw[hz] at hR
 have HB:Hid _:=hB.keep k1
 have HF:Hid _:=hF.keep k1
 have HR:Hid _:=hR
 have HP:Hid _:=hP.keep (k0.trans k1)
 have HK:Hid _:=k0.trans k1
 have HZ1:Hid (((w.alloc (gbox b1 n1 c1 (some ⟨g2,0,none⟩) n2 c2 (some ⟨g3,0,none⟩) n3 c3)).alloc nbox).heap.size=w.heap.size+1+1):=by show _=_;simp
 have HND:Hid _:=neededVals ((w.alloc (gbox b1 n1 c1 (some ⟨g2,0,none⟩) n2 c2 (some ⟨g3,0,none⟩) n3 c3)).alloc nbox) b1 n1 c1 g2 n2 c2 g3 n3 c3 vs outs (hP.v.keep (k0.trans k1) (.inr (.inr (Nat.le_refl _)))) (hP.o.keep (k0.trans k1) (.inr (.inr (Nat.le_refl _)))) (fun i hi=>okV_ops (hv i (by omega))) (fun o h=>by have:=ho o h;omega) hn2 (by omega)
 have HG:Hid (g1<w.heap.size∧g2<w.heap.size∧g3<w.heap.size∧g1≠g2∧g1≠g3∧g2≠g3):=⟨hP.i.lt,hP.v.lt,hP.o.lt,hP.d12,hP.d13,hP.d23⟩
 clear hP hok hl1 hl2 hl3 hv ho hvl hol hR hz k0 k1 hkb hB hF
 obtain⟨_,q0,q1,q2⟩:=HB.out
 go_enter Tryz.func64,Tryz.ntmps64
 go_wp2_with fail
 clear q0 q1 q2
 generalize (w.alloc (gbox b1 n1 c1 (some ⟨g2,0,none⟩) n2 c2 (some ⟨g3,0,none⟩) n3 c3)).alloc nbox=w1 at HB HF HR HP HK HZ1 HND ⊢
 refine Calls.mono HND.out ?_
 rintro e w2 ⟨G,rfl,hG,hBR,k2⟩
 have hm:=make_i n2 w2 (by omega)
 have hT:=IR.made w2 n2
 have k3:=kept_alloc 0 0 w2 (.cells (madeCells #[.int .i64 0] n2) 3)
 have hz3:(w2.alloc (.cells (madeCells #[.int .i64 0] n2) 3)).heap.size=w2.heap.size+1:=by simp
 have k4:=kept_alloc 0 0 (w2.alloc (.cells (madeCells #[.int .i64 0] n2) 3)) (.cells #[] 87)
 have hOR:=World.ownsRow_made (base:=w2.heap.size+1) (e:=87) (size:=6) (w2.alloc (.cells (madeCells #[.int .i64 0] n2) 3)) #[] 0 (by omega) (by unfold maxLen;omega) rfl
 rw[hz3] at hOR
 have HB4:Hid _:=HB.out.keep (k2.trans (k3.trans k4))
 have HR4:Hid _:=HR.out.keep (k2.trans (k3.trans k4))
 have HF4:Hid _:=HF.out.keep (k2.trans (k3.trans k4))
 have HP4:Hid _:=HP.out.keep (k2.trans (k3.trans k4))
 have HK4:Hid _:=HK.out.trans (k2.trans (k3.trans k4))
 have HBR:Hid _:=hBR.keep (k3.trans k4) (.inr (.inr (Nat.le_refl _)))
 have HZ4:Hid (w.heap.size+1+1≤w2.heap.size∧G<w2.heap.size∧((w2.alloc (.cells (madeCells #[.int .i64 0] n2) 3)).alloc (.cells #[] 87)).heap.size=w2.heap.size+1+1):=⟨by have:=HZ1.out;have:=k2.size;omega,hBR.lt,by simp⟩
 have HDI:Hid (DI ((w2.alloc (.cells (madeCells #[.int .i64 0] n2) 3)).alloc (.cells #[] 87)) ((w2.alloc (.cells (madeCells #[.int .i64 0] n2) 3)).alloc (.cells #[] 87)) w2.heap.size n2 (w2.heap.size+1) (w2.heap.size+1) 0 (dkSt (ndI vs outs n2) vs 0)):=
  ⟨by rw[dkSt,HL.out];exact hT.keep k4 (.inr (.inr (Nat.le_refl _))),by rw[dkSt,HL.out];simp,hOR,Chg.refl _ _,by simp⟩
 obtain⟨_,q0,q1,q2⟩:=HB.out.keep k2
 obtain⟨_,b0,b1,b2⟩:=HB4.out
 clear HND hBR k2 k3 k4 hOR hT hz3 HB HR HP HK
 go_wp2_with fail
 clear q0 q1 q2 b0 b1 b2 hm hG
 generalize (w2.alloc (.cells (madeCells #[.int .i64 0] n2) 3)).alloc (.cells #[] 87)=w4 at HB4 HF4 HR4 HP4 HK4 HBR HZ4 HDI ⊢
 go_loopw [5,18] (fun kv x W=>∃i gk cap:Nat,i≤n2∧kv=.slice (some ⟨gk,0,none⟩) (dkSt (ndI vs outs n2) vs i).1.length cap∧x=.int .i64 i∧Hid (DI W w4 w2.heap.size n2 (w2.heap.size+1) gk cap (dkSt (ndI vs outs n2) vs i))) (fun _ x _=>n2-(intOf x).toNat)
 case atStart=>exact⟨0,w2.heap.size+1,0,Nat.zero_le _,rfl,rfl,HDI⟩
 case round=>
  obtain⟨i,gk,cap,hi,rfl,rfl,hD⟩:=hrel
  clear HDI
  by_cases hlt:i<n2
  ·have hz8:w4.heap.size≤wr.heap.size:=hD.out.ch.size
   have hz9:=HZ4.out
   have hVA:VA wr g2 n2 vs:=HP4.out.v.keepC hD.out.ch (by have:=HG.out;omega)
   have hat:=hVA.at_ i hlt
   have hops:=okV_ops (HV.out i hlt)
   have HAT:Hid _:=hat
   have hbr:BR wr G (ndI vs outs n2):=BR.keepC HBR.out hD.out.ch (by omega)
   have hnl:(ndI vs outs n2).length=n2:=by rw[ndI_len];exact HL.out
   have cb:=hbr.cell i (by omega)
   have hbr2:=BR.keep hbr (kept_alloc 0 0 wr (vbox (vs.getD i Vl.zero).op (vs.getD i Vl.zero).len (vs.getD i Vl.zero).a (vs.getD i Vl.zero).b (vs.getD i Vl.zero).c (vs.getD i Vl.zero).k)) (.inr (.inr (Nat.le_refl _)))
   have cb2:=hbr2.cell i (by omega)
   have hdl:=dkSt_len (ndI vs outs n2) vs i
   cases hb:(ndI vs outs n2).getD i false
   ·have R:Hid (∀W,Kept 0 0 wr W→DI W w4 w2.heap.size n2 (w2.heap.size+1) gk cap (dkSt (ndI vs outs n2) vs (i+1))):=fun W kW=>by rw[dk_false hb];exact hD.out.stay kW
    have HE:Hid (dkSt (ndI vs outs n2) vs (i+1)=dkSt (ndI vs outs n2) vs i):=dk_false hb
    rw[hb] at cb cb2
    generalize vs.getD i Vl.zero=v at hat cb2
    obtain⟨y0,y1,y2,y3,y4,y5⟩:=hat
    clear hb hnl hdl hops hVA hbr hbr2 hD HAT
    go_wp2
    go_roundw
    case rel=>exact⟨i+1,gk,cap,by omega,by rw[HE.out],by go_num,R.out _ (kept_alloc 0 0 _ _)⟩
    case measure=>simp[intOf];omega
   ·rw[hb] at cb cb2
    have HE:Hid _:=dk_true (vs:=vs) hb
    generalize hv:vs.getD i Vl.zero=v at hat cb2 HAT HE hops
    generalize hS:dkSt (ndI vs outs n2) vs i=S at hD HE hdl
    have HDD:Hid _:=hD.out
    have hsl:S.1.length≤2000:=by omega
    have HTL:Hid (S.2.length=n2):=hD.out.tl
    have HRN:Hid (∀W,Kept 0 0 ((wr.alloc (vbox v.op v.len v.a v.b v.c v.k)).setCell ⟨w2.heap.size,i,none⟩ (.int .i64 (S.1.length:Nat))) W→Calls Tryz.prog 103 #[v.agg,.slice (some ⟨w2.heap.size,0,none⟩) n2 n2] W fun e w'=>e=.returned (rnm (S.2.set i (S.1.length:Nat)) v).agg∧Kept 0 0 W w'):=fun W kW=>
     renum W v _ _ (some ⟨w2.heap.size,0,none⟩) n2 n2 _ (IR.isAt (IR.keep (IR.set (IR.keep hD.out.tq (kept_alloc 0 0 wr (vbox v.op v.len v.a v.b v.c v.k)) (.inr (.inr (Nat.le_refl _)))) i (S.1.length:Nat)) kW (.inr (.inr (Nat.le_refl _)))) (by rw[List.length_set];exact hD.out.tl)) (fun o h=>by have:=hops o h;omega)
    have hIR:=IR.keep hD.out.tq (kept_alloc 0 0 wr (vbox v.op v.len v.a v.b v.c v.k)) (.inr (.inr (Nat.le_refl _)))
    have cT:=IR.cell hIR i (by rw[HTL.out];exact hlt)
    have fT:=IR.free hIR i
    generalize S.2.getD i 0=zz at cT
    have HX:Hid (At (wr.alloc (vbox v.op v.len v.a v.b v.c v.k)) wr.heap.size 0 v):=vbox_atJ wr v
    have hTV:w2.heap.size≠wr.heap.size:=by omega
    have hgb:=own_blkV hD.out.own (k:=gk) rfl
    have HBZ:Hid (w2.heap.size+1≤gk∧w2.heap.size+1≤wr.heap.size):=⟨hgb.1,hD.out.bz⟩
    generalize rnm (S.2.set i (S.1.length:Nat)) v=nv at HE HRN
    have hkq:=kept_setCell (lo:=w2.heap.size) (hi:=w2.heap.size+1) (wr.alloc (vbox v.op v.len v.a v.b v.c v.k)) ⟨w2.heap.size,i,none⟩ (.int .i64 (S.1.length:Nat)) (.inl ⟨Nat.le_refl _,Nat.lt_succ_self _⟩)
    obtain⟨x0,x1,x2,x3,x4,x5⟩:=At.keep HX.out (by simp) hkq (by omega)
    obtain⟨z0,z1,z2,z3,z4,z5⟩:=HX.out
    simp only[Nat.zero_add] at x1 x2 x3 x4 x5 z1 z2 z3 z4 z5
    obtain⟨y0,y1,y2,y3,y4,y5⟩:=hat
    have HOWN:Hid _:=(hD.out.own)
    clear hb hnl hdl hops hVA hbr hbr2 hIR hgb hv HAT hkq
    go_wp2_with fail
    refine Calls.mono (HRN.out _ (Kept.refl _ _ _)) ?_
    rintro e w7 ⟨rfl,k7⟩
    have HO7:Hid _:=(own_keepJ (own_setCell (o:=i) (u:=.int .i64 (S.1.length:Nat)) (HDD.out.own.alloc (vbox v.op v.len v.a v.b v.c v.k)) (P:=w2.heap.size) (fun c=>by have:=HBZ.out;simp[Value.ownBlock] at c;omega)) k7).alloc (.cells #[.int .i64 nv.op,.int .i64 nv.len,.int .i64 nv.a,.int .i64 nv.b,.int .i64 nv.c,.float .f64 nv.k] 87)
    have HN7:Hid _:=news6 w7 nv 0
    have hz7:w2.heap.size+1≤w7.heap.size:=by have h1:=k7.size;have h2:=HBZ.out;simp at h1;omega
    have HK7:Hid _:=k7
    clear x0 x1 x2 x3 x4 x5 y0 y1 y2 y3 y4 y5 z0 z1 z2 z3 z4 z5 cT fT cb cb2 k7
    go_wp2_with (first|(at_builtin;refine wpList_append_lies _ rfl _ _ 57 rfl (w2.heap.size+1) 87 i0 (vagg 0 0 0 0 0 0) 6 48 Tryz.underlying57 hii hz0 hz1 hz2 rfl (by decide) _ _ _ (by rfl) HO7.out ⟨w7.heap.size,0,none⟩ 1 1 nv.cells (by rfl) rfl HN7.out (one6 nv) (by decide) (by unfold maxLen;omega) (by omega) (by simp;omega) (w7.heap.size+1) (by simp) ?_;intro g9 cap9 w9 hown9 hg9 hat9 hlt9))
    have R:Hid _:=DI.next HDD.out (kept_alloc 0 0 wr (vbox v.op v.len v.a v.b v.c v.k)) HK7.out (Nat.lt_succ_self _) hown9 hg9 HBZ.out.1
    clear hown9 hg9 hat9 hlt9
    go_roundw
    case rel=>exact⟨i+1,g9,cap9,by omega,by rw[HE.out];simp,by go_num,by rw[HE.out];exact R⟩
    case measure=>simp[intOf];omega
  ·obtain rfl:i=n2:=by omega
   have hz8:w4.heap.size≤wr.heap.size:=hD.out.ch.size
   have hz9:=HZ4.out
   have hdl:=dkSt_len (ndI vs outs i) vs i
   obtain⟨hVA,hgk⟩:=own_va hD.out.own rfl
   have HA9:Hid _:=hVA
   have HQ9:Hid (IS wr w2.heap.size (w2.heap.size+1) (some ⟨w2.heap.size,0,none⟩) i (dkSt (ndI vs outs i) vs i).2):=IR.isAt hD.out.tq hD.out.tl
   have HB9:Hid _:=G0.keepC HB4.out hD.out.ch (by omega)
   have HR9:Hid _:=RB.keepC HR4.out hD.out.ch (by omega)
   have HF9:Hid _:=RB.keepC HF4.out hD.out.ch (by omega)
   have HI9:Hid _:=IBk.keepC HP4.out.i hD.out.ch (by have:=HG.out;omega)
   have HO9:Hid _:=IBk.keepC HP4.out.o hD.out.ch (by have:=HG.out;omega)
   have HRO:Hid _:=renumberOuts wr b1 (some ⟨g2,0,none⟩) n1 c1 i c2 g3 n3 c3 _ _ _ i i (dkSt (ndI vs outs i) vs i).2 outs HO9.out HQ9.out (by have:=HG.out;omega) HOUT.out (by omega)
   have HK9:Hid (Chg (fun b=>b=g2∨b=g3) w wr):=Chg.new HK4.out.chg hD.out.ch (fun b hb c=>by omega)
   have HGK:Hid (w2.heap.size+1≤gk):=hgk
   have HM:Hid (deadM vs outs=((dkSt (ndI vs outs i) vs i).1,mapO (dkSt (ndI vs outs i) vs i).2 outs)):=by show _=_;unfold deadM;rw[HL.out]
   have HKK:Hid _:=dkSt_kb HKB.out (ndI vs outs i) i
   clear hD hVA hgk
   obtain⟨_,p0,p1,p2⟩:=HB9.out
   go_wp2_with fail
   clear p0 p1 p2
   refine Calls.mono HRO.out ?_
   rintro e w5 ⟨rfl,hO2,k2⟩
   generalize hSS:dkSt (ndI vs outs i) vs i=S at HA9 HQ9 HM HKK hO2 hdl ⊢
   have HB2:Hid _:=G0.keepT HB9.out k2 (by have:=HG.out;omega)
   have HA2:Hid _:=HA9.out.keep k2 (by have:=HG.out;have:=HGK.out;omega)
   have HI2:Hid _:=HI9.out.keep k2 (by have:=HG.out;omega)
   have HO2:Hid _:=hO2
   have HK2:Hid (Chg (fun b=>b=g2∨b=g3) w w5):=Chg.trans HK9.out (k2.chg1 (.inr rfl))
   have HR2:Hid _:=RB.keepC HR9.out (k2.chg1 (S:=fun b=>b=g3) rfl) (by have:=HG.out;omega)
   have HF2:Hid _:=RB.keepC HF9.out (k2.chg1 (S:=fun b=>b=g3) rfl) (by have:=HG.out;omega)
   clear hO2 HRO HB9 HA9 HQ9 HI9 HO9 HK9 hSS
   obtain⟨_,p0,p1,p2,v0,v1,v2⟩:=HF2.out
   obtain⟨_,r0,r1,r2,f0,f1,f2⟩:=HR2.out
   have hPR:w.heap.size+1≠w.heap.size:=by omega
   go_wp2_with fail
   have kb:=kept_setCell (lo:=w.heap.size) (hi:=w.heap.size+1) w5 ⟨w.heap.size,1,none⟩ (.slice (some ⟨gk,0,none⟩) S.1.length cap) (.inl ⟨Nat.le_refl _,Nat.lt_succ_self _⟩)
   have HRQ:=RB.keepC HR2.out (kb.chg1 (S:=fun b=>b=w.heap.size) rfl) (by omega)
   obtain⟨y0,y1,y2⟩:=put3_0 (w5.setCell ⟨w.heap.size,1,none⟩ (.slice (some ⟨gk,0,none⟩) S.1.length cap)) (w.heap.size+1) _ _ _ HRQ.q0 HRQ.q1 HRQ.q2 (.slice b1 n1 c1) (.slice (some ⟨gk,0,none⟩) S.1.length cap) (.slice (some ⟨g3,0,none⟩) n3 c3)
   have kp:=put3_kept (w5.setCell ⟨w.heap.size,1,none⟩ (.slice (some ⟨gk,0,none⟩) S.1.length cap)) (w.heap.size+1) (.slice b1 n1 c1) (.slice (some ⟨gk,0,none⟩) S.1.length cap) (.slice (some ⟨g3,0,none⟩) n3 c3)
   refine bodyPost_ret (v:=gagg b1 n1 c1 (some ⟨gk,0,none⟩) S.1.length cap (some ⟨g3,0,none⟩) n3 c3) (by simp[results,Tryz.results64,go_sem,y0,y1,y2]) rfl ⟨gk,S.1.length,cap,S.1,rfl,⟨?_,?_,?_,?_,?_,?_⟩,?_,HKK.out,?_,.inr (by have:=HGK.out;omega)⟩
   ·exact(HI2.out.keep kb (by have:=HG.out;omega)).keep kp (by have:=HG.out;omega)
   ·exact(HA2.out.keep kb (by have:=HGK.out;omega)).keep kp (by have:=HGK.out;omega)
   ·rw[HM.out];exact(HO2.out.keep kb (by have:=HG.out;omega)).keep kp (by have:=HG.out;omega)
   ·have:=HG.out;have:=HGK.out;omega
   ·exact HG.out.2.2.2.2.1
   ·have:=HG.out;have:=HGK.out;omega
   ·rw[HM.out];exact Lk.refl _
   ·exact Chg.new (Chg.new HK2.out (kb.chg1 (S:=fun b=>b=w.heap.size) rfl) (fun b hb c=>by omega)) (kp.chg1 (S:=fun b=>b=w.heap.size+1) rfl) (fun b hb c=>by omega)
end Go.Proofs.YtgamjhpebmmjcaaGreatDoor
namespace Go.Proofs.YtgamjhpebmmjcaaGreatDoor
set_option maxRecDepth 100000
set_option maxHeartbeats 40000000
open Go.RowKit Flt
attribute [local go_sem] alloc_drewN setCell_drewN run_store_float
theorem withFoldedB (w:World)(b1:Option Addr)(g1 n1 c1 g2 n2 c2 g3 n3 c3:Nat)(ins:List Int)(vs:List Vl)(outs:List Int)(hP:PG w g1 g2 g3 n1 n2 n3 ins vs outs)(hok:okG ins vs outs=true)(hkb:Kb vs):
  Calls Tryz.prog 66 #[gagg b1 n1 c1 (some ⟨g2,0,none⟩) n2 c2 (some ⟨g3,0,none⟩) n3 c3] w fun e w'=>POb w b1 g1 n1 c1 g2 g3 n3 c3 ins (foldSt vs vs.length,outs) e w':=by
 obtain⟨⟨hl1,hl2,hl3⟩,_,hv,ho,_⟩:=okG_parts hok
 have hvl:vs.length=n2:=hP.v.len
 have hn2:n2≤2000:=by omega
 have HV:Hid (∀j,j<n2→okV ins vs j=true):=fun j hj=>hv j (by omega)
 have HL:Hid (vs.length=n2):=hvl
 have HKB:Hid _:=hkb
 have k0:=kept_alloc 0 0 w (gbox b1 n1 c1 (some ⟨g2,0,none⟩) n2 c2 (some ⟨g3,0,none⟩) n3 c3)
 have hB:=g0_start w (.slice b1 n1 c1) (.slice (some ⟨g2,0,none⟩) n2 c2) (.slice (some ⟨g3,0,none⟩) n3 c3)
 have hz:(w.alloc (gbox b1 n1 c1 (some ⟨g2,0,none⟩) n2 c2 (some ⟨g3,0,none⟩) n3 c3)).heap.size=w.heap.size+1:=by simp
 have k1:=kept_alloc 0 0 (w.alloc (gbox b1 n1 c1 (some ⟨g2,0,none⟩) n2 c2 (some ⟨g3,0,none⟩) n3 c3)) nbox
 have hR:=rb_start (w.alloc (gbox b1 n1 c1 (some ⟨g2,0,none⟩) n2 c2 (some ⟨g3,0,none⟩) n3 c3))
 have hz1:((w.alloc (gbox b1 n1 c1 (some ⟨g2,0,none⟩) n2 c2 (some ⟨g3,0,none⟩) n3 c3)).alloc nbox).heap.size=w.heap.size+1+1:=by simp
 have hm:=make_s n2 ((w.alloc (gbox b1 n1 c1 (some ⟨g2,0,none⟩) n2 c2 (some ⟨g3,0,none⟩) n3 c3)).alloc nbox) (by omega)
 have hz2:(((w.alloc (gbox b1 n1 c1 (some ⟨g2,0,none⟩) n2 c2 (some ⟨g3,0,none⟩) n3 c3)).alloc nbox).alloc (.cells (madeCells #[.slice none 0 0] n2) 33)).heap.size=w.heap.size+1+1+1:=by simp
 have hT:=LW.made ((w.alloc (gbox b1 n1 c1 (some ⟨g2,0,none⟩) n2 c2 (some ⟨g3,0,none⟩) n3 c3)).alloc nbox) n2 (((w.alloc (gbox b1 n1 c1 (some ⟨g2,0,none⟩) n2 c2 (some ⟨g3,0,none⟩) n3 c3)).alloc nbox).alloc (.cells (madeCells #[.slice none 0 0] n2) 33)).heap.size
 have k2:=kept_alloc 0 0 ((w.alloc (gbox b1 n1 c1 (some ⟨g2,0,none⟩) n2 c2 (some ⟨g3,0,none⟩) n3 c3)).alloc nbox) (.cells (madeCells #[.slice none 0 0] n2) 33)
 rw[hz1] at hm hT
 rw[hz] at hR
 have HB:Hid _:=(hB.keep k1).keep k2
 have HR:Hid _:=hR.keep k2
 have HP:Hid _:=hP.keep ((k0.trans k1).trans k2)
 have HK:Hid _:=(k0.trans k1).trans k2
 have HT:Hid _:=hT
 have HZ2:Hid _:=hz2
 have HG:Hid (g1<w.heap.size∧g2<w.heap.size∧g3<w.heap.size∧g1≠g2∧g1≠g3∧g2≠g3):=⟨hP.i.lt,hP.v.lt,hP.o.lt,hP.d12,hP.d13,hP.d23⟩
 clear hP hok hl1 hl2 hl3 hv ho hvl hT hR hz hz1 hz2 k0 k1 k2 hkb
 obtain⟨_,b0,b1,b2⟩:=hB
 obtain⟨_,q0,q1,q2⟩:=HB.out
 go_enter Tryz.func66,Tryz.ntmps66
 go_wp2_with fail
 clear q0 q1 q2 b0 b1 b2 hm
 generalize ((w.alloc (gbox b1 n1 c1 (some ⟨g2,0,none⟩) n2 c2 (some ⟨g3,0,none⟩) n3 c3)).alloc nbox).alloc (.cells (madeCells #[.slice none 0 0] n2) 33)=w1 at HB HR HP HK HT HZ2 ⊢
 go_loopw [14] (fun x W=>∃(i:Nat) (us:List Vl) (Vs:List (List Nat)),i≤n2∧x=.int .i64 i∧Hid (FI W w1 g2 (w.heap.size+1+1) n2 i vs us Vs)) (fun x _=>n2-(intOf x).toNat)
 case atStart=>exact⟨0,[],List.replicate n2 [],Nat.zero_le _,rfl,⟨by simpa using HP.out.v,rfl,rfl,fun v hv=>by simp at hv,HT.out,fun k x hx=>by
   rw[List.getD_eq_getElem?_getD,List.getElem?_replicate] at hx
   split at hx<;>simp at hx,fun j hj=>by omega,Chg.refl _ _⟩⟩
 case round=>
  obtain⟨i,us,Vs,hi,rfl,hF⟩:=hrel
  clear HT
  by_cases hlt:i<n2
  ·have hlt':i<vs.length:=by rw[HL.out];exact hlt
   have hz8:w1.heap.size≤wr.heap.size:=hF.out.ch.size
   have hz9:w1.heap.size=w.heap.size+1+1+1:=HZ2.out
   have hat:=hF.out.va.at_ i hlt
   rw[mid_at hF.out.len] at hat
   have HAT:Hid _:=hat
   have hok:=HV.out i hlt
   have hops:=okV_ops hok
   have hopr:=okV_opR hok
   have HB5:Hid _:=G0.keepC HB.out hF.out.ch (by rintro (c|c)<;>(have:=HG.out;omega))
   have HOC:Hid (∀W,Kept 0 0 wr W→Calls Tryz.prog 108 #[(vs.getD i Vl.zero).agg,.slice (some ⟨g2,0,none⟩) n2 c2] W fun e w'=>e=.returned (.bool (ofC us (vs.getD i Vl.zero)))∧Kept 0 0 W w'):=fun W kW=>by
    have:=isOfConstants W (vs.getD i Vl.zero) g2 n2 c2 _ (hF.out.va.keep kW (.inr (.inr (Nat.le_refl _)))) (fun o h=>by have:=hops o h;omega)
    rw[ofC_app (fun o h=>by rw[hF.out.len];exact hops o h)] at this
    exact this
   have HSTAY:Hid (ofC us (vs.getD i Vl.zero)=false→foldV (foldSt vs i) (vs.getD i Vl.zero)=vs.getD i Vl.zero∧(vs.getD i Vl.zero).op≠1):=fun h=>fold_A hF.out.lk h
   have hus:∀j,j<i→(us.getD j Vl.zero).len=(vs.getD j Vl.zero).len:=fun j hj=>by
    have e0:=congrArg Vl.len (hF.out.lk.at_ j)
    have e:(us.getD j Vl.zero).len=((foldSt vs i).getD j Vl.zero).len:=e0
    rw[e,foldSt_lenV vs i j hj]
   have HZZ:Hid (∀zs,ofC us (vs.getD i Vl.zero)=true→same zs (kop (vs.getD i Vl.zero) Vs)→_):=fun zs hc hz=>fold_Z (zs:=zs) hok hF.out.lk hF.out.hd hc hF.out.wd (foldSt_kb HKB.out i) hus (fun j hj=>by rw[hus j hj];have:=of_decide_eq_true (okV_lenB (HV.out j (by omega)));omega) hz
   have HEL:Hid (∀W,Kept 0 0 wr W→ofC us (vs.getD i Vl.zero)=true→Calls Tryz.prog 109 #[(vs.getD i Vl.zero).agg,.slice (some ⟨w.heap.size+1+1,0,none⟩) n2 n2,.slice none 0 0] W fun e w'=>∃b' n' c',e=.returned (.slice b' n' c')∧Cn w' W.heap.size (.slice b' n' c') (kop (vs.getD i Vl.zero) Vs)∧Kept 0 0 W w'):=fun W kW hc=>
    elementsOf_op W (vs.getD i Vl.zero) (fun c=>by unfold ofC at hc;rw[c] at hc;simp at hc) (w.heap.size+1+1) n2 n2 0 0 n2 none Vs (hF.out.lw.keepR kW (.inr (Nat.le_refl _)) (.inr (.inr (Nat.le_refl _)))).lv (Nat.le_refl _) (Kb.at_ HKB.out i) hF.out.wd (List.all_eq_true.2 fun o h=>decide_eq_true (by have:=hops o h;omega))
   have HKW:Hid (∀x∈kop (vs.getD i Vl.zero) Vs,x<18446744073709551616):=by
    show ∀x∈_,_
    rw[kop_eq]
    exact kern_lt (Kb.at_ HKB.out i) (ite_lt (hF.out.wd _)) (ite_lt (hF.out.wd _)) (ite_lt (hF.out.wd _))
   have HLEN:Hid ((vs.getD i Vl.zero).len.toNat≤1000):=by have:=of_decide_eq_true (okV_lenB hok);show _≤_;omega
   have HST:Hid (∀W,Kept 0 0 wr W→foldV (foldSt vs i) (vs.getD i Vl.zero)=vs.getD i Vl.zero→(vs.getD i Vl.zero).op≠1→FI W w1 g2 (w.heap.size+1+1) n2 (i+1) vs (us++[vs.getD i Vl.zero]) Vs):=fun W kW h1 h2=>hF.out.stay kW hlt' HKB.out h1 h2
   clear hok hops hopr hus
   have HVE:Hid (vs.getD i Vl.zero=vs.getD i Vl.zero):=rfl
   generalize hv:vs.getD i Vl.zero=v at hat HAT HOC HSTAY HZZ HEL HKW HLEN HST
   have HVV:Hid (vs.getD i Vl.zero=v):=hv
   clear hv HVE
   obtain⟨y0,y1,y2,y3,y4,y5⟩:=hat
   obtain⟨_,p0,p1,p2⟩:=HB5.out
   have ka:=kept_alloc 0 0 wr (vbox v.op v.len v.a v.b v.c v.k)
   have HKA:Hid _:=ka
   have HX:Hid (At (wr.alloc (vbox v.op v.len v.a v.b v.c v.k)) wr.heap.size 0 v):=vbox_atJ wr v
   have HB6:Hid _:=HB5.out.keep ka
   have HZ6:Hid (wr.heap.size<(wr.alloc (vbox v.op v.len v.a v.b v.c v.k)).heap.size):=by show _<_;simp
   obtain⟨_,p0',p1',p2'⟩:=HB6.out
   go_wp2_with fail
   clear y0 y1 y2 y3 y4 y5 p0 p1 p2 p0' p1' p2' ka
   generalize wr.alloc (vbox v.op v.len v.a v.b v.c v.k)=w2 at HKA HX HB6 HZ6 ⊢
   refine Calls.mono (HOC.out w2 HKA.out) ?_
   rintro e w3 ⟨rfl,k3⟩
   have HK3:Hid _:=HKA.out.trans k3
   have HX3:Hid _:=HX.out.keep HZ6.out k3 (.inr (.inr (Nat.le_refl _)))
   have HB3:Hid _:=HB6.out.keep k3
   have HZ3:Hid (wr.heap.size<w3.heap.size):=Nat.lt_of_lt_of_le HZ6.out k3.size
   clear k3 HX HB6 HZ6 HKA HOC
   cases hoc:ofC us v
   ·obtain⟨s1,s2⟩:=HSTAY.out hoc
    have R:Hid _:=HST.out w3 HK3.out s1 s2
    clear hoc s1 s2 HSTAY HZZ HEL HST
    go_wp2
    go_roundw
    case rel=>exact⟨i+1,_,Vs,by omega,by go_num,R⟩
    case measure=>simp[intOf];omega
   ·have HE4:Hid _:=HEL.out w3 HK3.out hoc
    have HZ4:Hid _:=fun zs=>HZZ.out zs hoc
    clear hoc HSTAY HEL HZZ
    obtain⟨x0,x1,x2,x3,x4,x5⟩:=HX3.out
    simp only[Nat.zero_add] at x1 x2 x3 x4 x5
    go_wp2_with fail
    clear x0 x1 x2 x3 x4 x5
    refine Calls.mono HE4.out ?_
    rintro e w4 ⟨b',n',c',rfl,hC4,k4⟩
    obtain⟨be,ne,ce,zs,ee,hle,hfs,hsm⟩:=hC4
    cases ee
    obtain⟨u1,u2,u3,u4⟩:=HZ4.out zs hsm
    have hnl:n'=zs.length:=hfs.len.symm
    have hn1:1≤n':=by omega
    have HAS:Hid _:=allSame w4 _ _ b' n' c' zs hfs hn1 (by have:=HLEN.out;omega)
    have HK4:Hid _:=HK3.out.trans k4
    have HX4:Hid _:=HX3.out.keep HZ3.out k4 (.inr (.inr (Nat.le_refl _)))
    have HB4:Hid _:=HB3.out.keep k4
    have HZ5:Hid (wr.heap.size<w4.heap.size∧w1.heap.size≤w3.heap.size):=⟨Nat.lt_of_lt_of_le HZ3.out k4.size,by have:=HZ3.out;omega⟩
    have HFS:Hid _:=hfs
    have HSM:Hid _:=hsm
    have HLE:Hid (n'≤c'):=hle
    have HU3:Hid _:=u3
    clear k4 HE4 HZ4 hfs hsm hle u1 u2 u3 hnl HK3 HX3 HB3 HZ3
    go_wp2_with fail
    refine Calls.mono HAS.out ?_
    rintro e w5 ⟨rfl,rfl⟩
    cases hun:uni zs
    ·obtain⟨s1,s2⟩:=u4 hun
     have R:Hid _:=HST.out w4 HK4.out s1 s2
     clear hun s1 s2 HST u4 HU3
     go_wp2
     go_roundw
     case rel=>exact⟨i+1,_,Vs,by omega,by go_num,R⟩
     case measure=>simp[intOf];omega
    ·obtain⟨s1,s2⟩:=HU3.out hun
     have hlo:w1.heap.size≤w3.heap.size:=HZ5.out.2
     have hcn:Cn w4 w1.heap.size (.slice b' n' c') (kop v Vs):=Cn.low ⟨b',n',c',zs,rfl,HLE.out,HFS.out,HSM.out⟩ hlo
     have hz0:zs.getD 0 0<18446744073709551616:=getD_lt HFS.out.lt 0
     rcases HFS.out.at_ with z|⟨ge,off,rfl,g5,g6,g7,hcl⟩
     ·omega
     have ce:=hcl 0 (by omega)
     rw[Nat.add_zero] at ce
     have HPUT:Hid (∀W'',Kept 0 0 (put6 w4 g2 (i*6) ⟨1,v.len,0,0,0,zs.getD 0 0⟩) W''→_):=fun W'' k'=>FI.put hF.out HK4.out k' hlt HL.out (by have:=HG.out;omega) (by have:=HG.out;omega) hcn (by rw[HVV.out];exact s1) hz0 HKW.out s2
     have hgP:g2≠w.heap.size:=by have:=HG.out;omega
     have hgV:g2≠wr.heap.size:=by have:=HG.out;omega
     have hgE:g2≠ge:=by have:=HG.out;omega
     obtain⟨x0,x1,x2,x3,x4,x5⟩:=HX4.out
     simp only[Nat.zero_add] at x1 x2 x3 x4 x5
     obtain⟨_,p0,p1,p2⟩:=HB4.out
     obtain⟨t0,t1,t2,t3,t4,t5⟩:=At.keep HAT.out hF.out.va.lt HK4.out (.inr (.inr (Nat.le_refl _)))
     have tfz:=(VA.keep hF.out.va HK4.out (.inr (.inr (Nat.le_refl _)))).free
     have hn1':0<n':=hn1
     generalize zs.getD 0 0=z0 at ce HPUT
     clear s1 s2 hcn hz0 hcl HU3 u4 HAS HST HFS HSM HLE hun
     go_wp2_with fail
     go_region_held3 (fun W:World=>W.cell? ⟨w.heap.size,1,none⟩=some (.slice (some ⟨g2,0,none⟩) n2 c2)∧W.cell? ⟨wr.heap.size,1,none⟩=some (.int .i64 v.len)∧W.cell? ⟨ge,off,none⟩=some (.float .f64 z0)) (first|go_keep|(exact⟨(put6_out w4 g2 (i*6) _ _ ⟨1,v.len,0,0,0,z0⟩ (.inl hgP)).trans p1,(put6_out w4 g2 (i*6) _ _ ⟨1,v.len,0,0,0,z0⟩ (.inl hgV)).trans x1,(put6_out w4 g2 (i*6) _ _ ⟨1,v.len,0,0,0,z0⟩ (.inl hgE)).trans ce⟩)) (fail)
     obtain⟨lw7,R⟩:=HPUT.out ((((((w4.setCell ⟨g2,i*6,none⟩ (.int .i64 1)).setCell ⟨g2,i*6+1,none⟩ (.int .i64 v.len)).setCell ⟨g2,i*6+2,none⟩ (.int .i64 0)).setCell ⟨g2,i*6+3,none⟩ (.int .i64 0)).setCell ⟨g2,i*6+4,none⟩ (.int .i64 0)).setCell ⟨g2,i*6+5,none⟩ (.float .f64 z0)).drew (kept_drew _)
     obtain⟨b0,m0,d0,cL,_⟩:=lw7.at_ i hlt
     have fL:=lw7.free i
     have R':Hid _:=R
     clear R HPUT
     generalize ((((((w4.setCell ⟨g2,i*6,none⟩ (.int .i64 1)).setCell ⟨g2,i*6+1,none⟩ (.int .i64 v.len)).setCell ⟨g2,i*6+2,none⟩ (.int .i64 0)).setCell ⟨g2,i*6+3,none⟩ (.int .i64 0)).setCell ⟨g2,i*6+4,none⟩ (.int .i64 0)).setCell ⟨g2,i*6+5,none⟩ (.float .f64 z0)).drew=w7 at lw7 R' cL fL ⊢
     clear lw7 x0 x1 x2 x3 x4 x5 p0 p1 p2 t0 t1 t2 t3 t4 t5 tfz ce
     go_wp2
     go_roundw
     case rel=>exact⟨i+1,_,_,by omega,by go_num,R'⟩
     case measure=>simp[intOf];omega
  ·obtain rfl:i=n2:=by omega
   have hz8:w1.heap.size≤wr.heap.size:=hF.out.ch.size
   have hz9:w1.heap.size=w.heap.size+1+1+1:=HZ2.out
   have HA9:Hid (VA wr g2 i us):=by
    have:=hF.out.va
    rw[List.drop_of_length_le (by rw[HL.out];omega),List.append_nil] at this
    exact this
   have HB9:Hid _:=G0.keepC HB.out hF.out.ch (by rintro (c|c)<;>(have:=HG.out;omega))
   have HR9:Hid _:=RB.keepC HR.out hF.out.ch (by rintro (c|c)<;>(have:=HG.out;omega))
   have HI9:Hid _:=IBk.keepC HP.out.i hF.out.ch (by rintro (c|c)<;>(have:=HG.out;omega))
   have HO9:Hid _:=IBk.keepC HP.out.o hF.out.ch (by rintro (c|c)<;>(have:=HG.out;omega))
   have HK9:Hid (Chg (fun b=>b=g2∨b=g3) w wr):=Chg.new HK.out.chg hF.out.ch (fun b hb c=>by rcases c with c|c<;>first|exact .inl c|omega)
   have HLK:Hid (Lk us (foldSt vs vs.length)):=by rw[HL.out];exact hF.out.lk
   have HKU:Hid _:=hF.out.kb
   clear hF
   obtain⟨_,p0,p1,p2⟩:=HB9.out
   obtain⟨_,r0,r1,r2,f0,f1,f2⟩:=HR9.out
   go_wp2_with fail
   obtain⟨y0,y1,y2⟩:=put3_0 wr (w.heap.size+1) _ _ _ r0 r1 r2 (.slice b1 n1 c1) (.slice (some ⟨g2,0,none⟩) i c2) (.slice (some ⟨g3,0,none⟩) n3 c3)
   have kp:=put3_kept wr (w.heap.size+1) (.slice b1 n1 c1) (.slice (some ⟨g2,0,none⟩) i c2) (.slice (some ⟨g3,0,none⟩) n3 c3)
   refine bodyPost_ret (v:=gagg b1 n1 c1 (some ⟨g2,0,none⟩) i c2 (some ⟨g3,0,none⟩) n3 c3) (by simp[results,Tryz.results66,go_sem,y0,y1,y2]) rfl ⟨g2,i,c2,us,rfl,⟨?_,?_,?_,?_,?_,?_⟩,HLK.out,HKU.out,?_,.inl rfl⟩
   ·exact HI9.out.keep kp (by have:=HG.out;omega)
   ·exact HA9.out.keep kp (by have:=HG.out;omega)
   ·exact HO9.out.keep kp (by have:=HG.out;omega)
   ·exact HG.out.2.2.2.1
   ·exact HG.out.2.2.2.2.1
   ·exact HG.out.2.2.2.2.2
   ·exact Chg.new HK9.out (kp.chg1 (S:=fun b=>b=w.heap.size+1) rfl) (fun b hb c=>by omega)
end Go.Proofs.YtgamjhpebmmjcaaGreatDoor
