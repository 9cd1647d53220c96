import Derived.Test.YtgamjhpebmmjcaaGreatDoorP10
namespace Go.Proofs.YtgamjhpebmmjcaaGreatDoor
set_option maxRecDepth 100000
set_option maxHeartbeats 40000000
open Go.RowKit Flt
attribute [local go_sem] alloc_drewN setCell_drewN run_store_float
theorem written (w:World)(p:Spn):
  Calls Tryz.prog 199 #[p.agg] w fun e w'=>e=.returned p.agg∧Kept 0 0 w w':=by
 go_enter Tryz.func199,Tryz.ntmps199
 go_wp2
 refine bodyPost_ret (v:=p.agg) (by simp[results,Tryz.results199,go_sem]) rfl ⟨rfl,?_⟩
 exact(kept_alloc 0 0 w _).trans (kept_alloc 0 0 _ _)
theorem taken_in (w:World)(s:Ste):
  Calls Tryz.prog 203 #[inAgg s] w fun e w'=>e=.returned (.slice none 0 0)∧Kept 0 0 w w':=by
 go_enter Tryz.func203,Tryz.ntmps203
 go_wp2
 go_ret
 exact⟨rfl,kept_alloc 0 0 w _⟩
theorem taken_k (w:World)(s:Ste)(G n:Nat):
  Calls Tryz.prog 205 #[kAgg s G n] w fun e w'=>e=.returned (.slice (some ⟨G,0,none⟩) n 3)∧Kept 0 0 w w':=by
 go_enter Tryz.func205,Tryz.ntmps205
 go_wp2
 go_ret
 exact⟨rfl,kept_alloc 0 0 w _⟩
def afterB (ss:List Ste)(i:Nat)(s:Ste)(x:Int)(k:Nat):Bool:=wroteB ss i (k:Nat)||decide (s.dst≤(k:Int)∧(k:Int)<x)
theorem after_start (ss:List Ste)(i:Nat)(s:Ste)(k:Nat):wroteB ss i (k:Nat)=afterB ss i s s.dst k:=by
 unfold afterB
 rw[decide_eq_false (by omega),Bool.or_false]
theorem after_step (ss:List Ste)(i:Nat)(s:Ste)(x k:Nat)(h:s.dst≤(x:Int)):(if k=x then true else afterB ss i s (x:Int) k)=afterB ss i s ((x:Int)+1) k:=by
 unfold afterB
 by_cases e:k=x
 ·rw[if_pos e,decide_eq_true (by omega),Bool.or_true]
 ·rw[if_neg e]
  congr 1
  rw[Bool.eq_iff_iff];simp only[decide_eq_true_eq];omega
def folB (ss:List Ste)(i:Nat)(n:Nat)(s:Ste):Bool:=withB s.dst s.len n&&(spansOf s).all (takeB ss i n s)
theorem hold_offP {ss:List Ste}{n:Nat}{pk off len:Int}(h:holdB ss n pk off len=true):0≤off∧off≤pk-len:=by
 unfold holdB withB at h
 rw[Bool.and_eq_true] at h
 exact of_decide_eq_true h.1
theorem fol_bad {ss:List Ste}{i n:Nat}{s:Ste}{q:Nat}(hq:q<cnt s.op)(h:takeB ss i n s ((spansOf s).getD q Spn.zero)=false):folB ss i n s=false:=by
 unfold folB
 have hq':q<(spansOf s).length:=by rw[spans_len];exact hq
 have:(spansOf s).all (takeB ss i n s)=false:=by
  rw[List.all_eq_false]
  rw[List.getD_eq_getElem?_getD,List.getElem?_eq_getElem hq'] at h
  exact⟨(spansOf s)[q],List.getElem_mem _,by simpa using h⟩
 rw[this,Bool.and_false]
theorem fol_snoc {ss:List Ste}{i n:Nat}{s:Ste}{q:Nat}(hq:q<cnt s.op)(hA:((spansOf s).take q).all (takeB ss i n s)=true)(h:takeB ss i n s ((spansOf s).getD q Spn.zero)=true):((spansOf s).take (q+1)).all (takeB ss i n s)=true:=by
 have hq':q<(spansOf s).length:=by rw[spans_len];exact hq
 rw[List.take_succ_eq_append_getElem hq',List.all_append,hA]
 rw[List.getD_eq_getElem?_getD,List.getElem?_eq_getElem hq'] at h
 simpa using h
theorem follow_in (w:World)(g n cap:Nat)(ss:List Ste)(i:Nat)(s:Ste)(hn:n≤50000)(_hcap:n≤cap)(f:BL w g n (fun k=>wroteB ss i (k:Nat)))(hl1:1≤s.len)(hl2:s.len≤1000)(hsp:∀q,q<cnt s.op→1≤((spansOf s).getD q Spn.zero).len∧((spansOf s).getD q Spn.zero).len≤1000)(h0:s.op=0):
  Calls Tryz.prog 78 #[.slice (some ⟨g,0,none⟩) n cap,.iface 147 (inAgg s)] w fun e w'=>e=.returned (.bool (folB ss i n s))∧Kept g (g+1) w w'∧(folB ss i n s=true→BL w' g n (afterB ss i s (s.dst+s.len))):=by
 have HM1:∀w:World,(method 489 147 (inAgg s) "loop.example/s08086/impl.written").run Tryz.prog w=.ok (199,(Spn.mk s.dst s.len).agg) w:=fun _=>by kernel_rfl
 have HM2:∀w:World,(method 489 147 (inAgg s) "loop.example/s08086/impl.taken").run Tryz.prog w=.ok (203,(inAgg s)) w:=fun _=>by kernel_rfl
 have HF:Hid _:=f
 have HSP:Hid _:=hsp
 have HG:Hid (g<w.heap.size):=f.lt
 clear f hsp
 go_enter Tryz.func78,Tryz.ntmps78
 go_wp2_with (first|(go_at_call 199;refine(written _ (Spn.mk s.dst s.len)).mono ?_;rintro e w1 ⟨rfl,k1⟩)|fail)
 have ka:=kept_alloc 0 0 w1 (Spn.mk s.dst s.len).box
 have HB:Hid _:=spn_box w1 (Spn.mk s.dst s.len)
 have hP:w1.heap.size<(w1.alloc (Spn.mk s.dst s.len).box).heap.size:=by simp
 have HK:Hid _:=Kept.trans k1 ka
 have HP0:Hid (w.heap.size≤w1.heap.size):=k1.size
 generalize hP9:w1.heap.size=P at HB hP HP0 ⊢
 generalize w1.alloc (Spn.mk s.dst s.len).box=w2 at HB hP HK ka ⊢
 clear hP9 ka k1
 refine(within w2 (Spn.mk s.dst s.len) (n:Int) hl1 hl2 (by omega) (by omega)).mono ?_
 rintro e w3 ⟨rfl,k3⟩
 replace HK:Hid _:=Kept.trans HK.out k3
 replace HB:Hid _:=AtP.keep HB.out hP k3 (.inr (.inr (Nat.le_refl _)))
 replace hP:P<w3.heap.size:=Nat.lt_of_lt_of_le hP k3.size
 clear k3
 simp only
 cases tw:withB s.dst s.len n
 ·have R:Hid (folB ss i n s=false):=by show _=_;unfold folB;rw[tw];rfl
  have R2:Hid _:=(HK.out.mono (lo':=g) (hi':=g+1) fun b _ c=>by omega)
  go_wp2
  go_ret
  exact⟨by rw[R.out];rfl,R2.out,fun h=>by rw[R.out] at h;cases h⟩
 have hw:=of_decide_eq_true tw
 obtain⟨q0,q1⟩:=HB.out
 rw[Nat.zero_add] at q1
 go_wp2_with (first|(go_at_call 203;refine(taken_in _ s).mono ?_;rintro e w4 ⟨rfl,k4⟩)|fail)
 replace HK:Hid _:=Kept.trans HK.out k4
 replace HB:Hid _:=AtP.keep HB.out hP k4 (.inr (.inr (Nat.le_refl _)))
 replace hP:P<w4.heap.size:=Nat.lt_of_lt_of_le hP k4.size
 clear k4 q0 q1
 refine wp_loop_rounds 1 ?_
 rw[rounds_succ]
 have R:Hid (folB ss i n s=true):=by
  show _=_
  unfold folB spansOf;rw[tw,h0];rfl
 have hPw:P<w4.heap.size:=hP
 obtain⟨q0,q1⟩:=HB.out
 rw[Nat.zero_add] at q1
 have HF9:Hid _:=BL.keep HF.out HK.out (.inr (.inr (Nat.le_refl _)))
 have HK9:Hid _:=HK
 have HB9:Hid _:=HB
 clear HK HB HF
 obtain⟨D,hD⟩:=Int.eq_ofNat_of_zero_le hw.1
 obtain⟨LL,hLL⟩:=Int.eq_ofNat_of_zero_le (show 0≤s.len by omega)
 have HD:Hid (s.dst+s.len=((D+LL:Nat):Int)):=by show _=_;omega
 have hDL:D+LL≤n:=by omega
 have HGP:Hid (g≠P):=by show _≠_;have:=HG.out;have:=HP0.out;omega
 have HE:Hid (∀w,Calls Tryz.prog 43 #[(Spn.mk (D:Int) (LL:Int)).agg] w fun e w'=>e=.returned (.int .i64 ((D:Int)+(LL:Int)))∧Kept 0 0 w w'):=fun w=>spanEnd w (Spn.mk (D:Int) (LL:Int)) (by show -1000000≤(D:Int)+(LL:Int)∧(D:Int)+(LL:Int)≤1000000;omega)
 have HB9':Hid (AtP _ P 0 (Spn.mk s.dst s.len)∧P<_):=⟨HB9.out,hPw⟩
 have HK9':Hid _:=(HK9.out.mono (lo':=g) (hi':=g+1) fun b _ c=>by omega)
 have HF9':Hid (BL _ g n (afterB ss i s (D:Int))):=BL.congr HF9.out (fun k _=>by rw[after_start ss i s k,hD])
 rw[hD] at q0
 go_wp2_with fail
 clear q0 q1 HB9 HK9 HF9
 go_loopw [8] (fun x W=>∃j:Nat,D≤j∧j≤D+LL∧x=.int .i64 j∧Hid (BL W g n (afterB ss i s (j:Int)))∧Hid (AtP W P 0 (Spn.mk s.dst s.len)∧P<W.heap.size)∧Hid (Kept g (g+1) w W)) (fun x _=>D+LL-(intOf x).toNat)
 case atStart=>exact⟨D,Nat.le_refl _,by omega,rfl,HF9',HB9',HK9'⟩
 case round=>
  obtain⟨j,hj1,hj2,rfl,hBL,hAP,hV⟩:=hrel
  obtain⟨q0,q1⟩:=hAP.out.1
  rw[Nat.zero_add] at q1
  go_wp2_with fail
  refine Calls.mono (HE.out _) ?_
  rintro e w8 ⟨rfl,k8⟩
  have hBL8:Hid _:=BL.keep hBL.out k8 (.inr (.inr (Nat.le_refl _)))
  have hV8:Hid _:=Kept.trans hV.out (k8.mono (lo':=g) (hi':=g+1) fun b _ c=>by omega)
  have hAP8:Hid (AtP w8 P 0 (Spn.mk s.dst s.len)∧P<w8.heap.size):=⟨AtP.keep hAP.out.1 hAP.out.2 k8 (.inr (.inr (Nat.le_refl _))),Nat.lt_of_lt_of_le hAP.out.2 k8.size⟩
  clear q0 q1 k8 hBL hV hAP
  simp only
  by_cases hjl:j<D+LL
  ·have cj:=hBL8.out.at_ j (by omega)
   have fj:=hBL8.out.free j
   have R1:Hid (BL (w8.setCell ⟨g,j,none⟩ (.bool true)) g n (afterB ss i s ((j+1:Nat):Int))):=BL.congr (BL.set hBL8.out j (by omega)) (fun k _=>after_step ss i s j k (by omega))
   have kp:=kept_setCell (lo:=g) (hi:=g+1) w8 ⟨g,j,none⟩ (.bool true) (.inl ⟨Nat.le_refl _,Nat.lt_succ_self _⟩)
   have R2:Hid _:=Kept.trans hV8.out kp
   have R3:Hid (AtP (w8.setCell ⟨g,j,none⟩ (.bool true)) P 0 (Spn.mk s.dst s.len)∧P<(w8.setCell ⟨g,j,none⟩ (.bool true)).heap.size):=⟨AtP.keep hAP8.out.1 hAP8.out.2 kp (by have:=HGP.out;omega),Nat.lt_of_lt_of_le hAP8.out.2 kp.size⟩
   have hjn:j<n:=by omega
   generalize afterB ss i s (j:Int) j=z at cj
   clear hBL8 hV8 hAP8 kp
   go_wp2
   go_roundw
   case rel=>exact⟨j+1,by omega,by omega,by go_num,R1,R3,R2⟩
   case measure=>simp[intOf];omega
  ·have R1:Hid (BL w8 g n (afterB ss i s (s.dst+s.len))):=by
    have:=hBL8.out
    rw[show j=D+LL by omega,←HD.out] at this
    exact this
   go_wp2
   go_ret
   exact⟨by rw[R.out];rfl,hV8.out,fun _=>R1.out⟩
theorem follow_k (w:World)(g n cap:Nat)(ss:List Ste)(i:Nat)(s:Ste)(hn:n≤50000)(hcap:n≤cap)(f:BL w g n (fun k=>wroteB ss i (k:Nat)))(hl1:1≤s.len)(hl2:s.len≤1000)(hsp:∀q,q<cnt s.op→1≤((spansOf s).getD q Spn.zero).len∧((spansOf s).getD q Spn.zero).len≤1000)(G:Nat)(hS:SB w G (cnt s.op) (spansOf s))(_hG:G≠g):
  Calls Tryz.prog 78 #[.slice (some ⟨g,0,none⟩) n cap,.iface 150 (kAgg s G (cnt s.op))] w fun e w'=>e=.returned (.bool (folB ss i n s))∧Kept g (g+1) w w'∧(folB ss i n s=true→BL w' g n (afterB ss i s (s.dst+s.len))):=by
 have HM1:∀w:World,(method 489 150 (kAgg s G (cnt s.op)) "loop.example/s08086/impl.written").run Tryz.prog w=.ok (199,(Spn.mk s.dst s.len).agg) w:=fun _=>by kernel_rfl
 have HM2:∀w:World,(method 489 150 (kAgg s G (cnt s.op)) "loop.example/s08086/impl.taken").run Tryz.prog w=.ok (205,(kAgg s G (cnt s.op))) w:=fun _=>by kernel_rfl
 have HF:Hid _:=f
 have HSP:Hid _:=hsp
 have HS:Hid _:=hS
 have HG:Hid (g<w.heap.size):=f.lt
 clear f hsp hS
 go_enter Tryz.func78,Tryz.ntmps78
 go_wp2_with (first|(go_at_call 199;refine(written _ (Spn.mk s.dst s.len)).mono ?_;rintro e w1 ⟨rfl,k1⟩)|fail)
 have ka:=kept_alloc 0 0 w1 (Spn.mk s.dst s.len).box
 have HB:Hid _:=spn_box w1 (Spn.mk s.dst s.len)
 have hP:w1.heap.size<(w1.alloc (Spn.mk s.dst s.len).box).heap.size:=by simp
 have HK:Hid _:=Kept.trans k1 ka
 have HP0:Hid (w.heap.size≤w1.heap.size):=k1.size
 generalize hP9:w1.heap.size=P at HB hP HP0 ⊢
 generalize w1.alloc (Spn.mk s.dst s.len).box=w2 at HB hP HK ka ⊢
 clear hP9 ka k1
 refine(within w2 (Spn.mk s.dst s.len) (n:Int) hl1 hl2 (by omega) (by omega)).mono ?_
 rintro e w3 ⟨rfl,k3⟩
 replace HK:Hid _:=Kept.trans HK.out k3
 replace HB:Hid _:=AtP.keep HB.out hP k3 (.inr (.inr (Nat.le_refl _)))
 replace hP:P<w3.heap.size:=Nat.lt_of_lt_of_le hP k3.size
 clear k3
 simp only
 cases tw:withB s.dst s.len n
 ·have R:Hid (folB ss i n s=false):=by show _=_;unfold folB;rw[tw];rfl
  have R2:Hid _:=(HK.out.mono (lo':=g) (hi':=g+1) fun b _ c=>by omega)
  go_wp2
  go_ret
  exact⟨by rw[R.out];rfl,R2.out,fun h=>by rw[R.out] at h;cases h⟩
 have hw:=of_decide_eq_true tw
 obtain⟨q0,q1⟩:=HB.out
 rw[Nat.zero_add] at q1
 go_wp2_with (first|(go_at_call 205;refine(taken_k _ s G (cnt s.op)).mono ?_;rintro e w4 ⟨rfl,k4⟩)|fail)
 replace HK:Hid _:=Kept.trans HK.out k4
 replace HB:Hid _:=AtP.keep HB.out hP k4 (.inr (.inr (Nat.le_refl _)))
 replace hP:P<w4.heap.size:=Nat.lt_of_lt_of_le hP k4.size
 clear k4 q0 q1
 go_loopw [19] (fun x W=>∃q:Nat,q≤cnt s.op∧x=.int .i64 q∧Hid (((spansOf s).take q).all (takeB ss i n s)=true)∧Hid (Kept 0 0 w4 W)) (fun x _=>cnt s.op-(intOf x).toNat)
 case atStart=>exact⟨0,Nat.zero_le _,rfl,rfl,Kept.refl _ _ _⟩
 case round=>
  obtain⟨q,hq,rfl,hQ,hV⟩:=hrel
  have HKV:Hid _:=Kept.trans HK.out hV.out
  have HBV:Hid _:=AtP.keep HB.out hP hV.out (.inr (.inr (Nat.le_refl _)))
  by_cases hqc:q<cnt s.op
  ·have hat:=(HS.out.keep HKV.out (.inr (.inr (Nat.le_refl _)))).at_ q hqc
   have hsl:=HSP.out q hqc
   have HBAD:Hid (takeB ss i n s ((spansOf s).getD q Spn.zero)=false→folB ss i n s=false):=fun h=>fol_bad hqc h
   have HSN:Hid (takeB ss i n s ((spansOf s).getD q Spn.zero)=true→((spansOf s).take (q+1)).all (takeB ss i n s)=true):=fun h=>fol_snoc hqc hQ.out h
   generalize (spansOf s).getD q Spn.zero=p at hat hsl HBAD HSN
   obtain⟨d0,d1⟩:=hat
   have ka:=kept_alloc 0 0 wr p.box
   have HBp:Hid _:=spn_box wr p
   have hPp:wr.heap.size<(wr.alloc p.box).heap.size:=by simp
   have hc3:=cnt_le s.op
   have hPw:P<wr.heap.size:=Nat.lt_of_lt_of_le hP hV.out.size
   go_wp2_with fail
   clear d0 d1
   have HKV':Hid _:=Kept.trans HKV.out ka
   have HB':Hid _:=AtP.keep HBV.out hPw ka (.inr (.inr (Nat.le_refl _)))
   have HV':Hid _:=Kept.trans hV.out ka
   generalize hP9:wr.heap.size=P2 at HBp hPp hPw ⊢
   generalize wr.alloc p.box=w5 at HBp hPp HKV' HB' HV' ka ⊢
   clear hP9 ka HKV HBV hV
   refine Calls.mono (hold w5 g n cap ss i hn hcap (BL.keep HF.out HKV'.out (.inr (.inr (Nat.le_refl _)))) p hsl.1 hsl.2) ?_
   rintro e w6 ⟨rfl,k6⟩
   have HKV6:Hid _:=Kept.trans HKV'.out k6
   have HB6:Hid _:=AtP.keep HB'.out (by omega) k6 (.inr (.inr (Nat.le_refl _)))
   have HBp6:Hid _:=AtP.keep HBp.out hPp k6 (.inr (.inr (Nat.le_refl _)))
   have HV6:Hid _:=Kept.trans HV'.out k6
   clear k6 HKV' HB' HBp HV'
   simp only
   cases th:holdB ss i n p.off p.len
   ·have R:Hid _:=HBAD.out (by unfold takeB;rw[th];rfl)
    have R2:Hid _:=(HKV6.out.mono (lo':=g) (hi':=g+1) fun b _ c=>by omega)
    go_wp2
    go_ret
    exact⟨by rw[R.out];rfl,R2.out,fun h=>by rw[R.out] at h;cases h⟩
   ·have hoo:=hold_offP th
    obtain⟨x0,x1⟩:=HB6.out
    obtain⟨y0,y1⟩:=HBp6.out
    rw[Nat.zero_add] at x1 y1
    have HMt:Hid _:=meets w6 (Spn.mk s.dst s.len) p (by show -1000000≤s.dst+s.len∧s.dst+s.len≤1000000;omega) (by omega)
    have hmt:takeB ss i n s p=!decide (s.dst<p.off+p.len∧p.off<s.dst+s.len):=by unfold takeB meetB;rw[th];rfl
    rw[hmt] at HBAD HSN
    simp only at HMt
    go_wp2_with fail
    refine Calls.mono HMt.out ?_
    rintro e w7 ⟨rfl,k7⟩
    have HKV7:Hid _:=Kept.trans HKV6.out k7
    have HV7:Hid _:=Kept.trans HV6.out k7
    clear k7 HKV6 HV6 HB6 HBp6 x0 x1 y0 y1 HMt hmt th
    simp only
    cases tm:decide (s.dst<p.off+p.len∧p.off<s.dst+s.len)
    ·have R:Hid _:=HSN.out (by rw[tm];rfl)
     go_wp2
     go_roundw
     case rel=>exact⟨q+1,by omega,by go_num,R,HV7⟩
     case measure=>simp[intOf];omega
    ·have R:Hid _:=HBAD.out (by rw[tm];rfl)
     have R2:Hid _:=(HKV7.out.mono (lo':=g) (hi':=g+1) fun b _ c=>by omega)
     go_wp2
     go_ret
     exact⟨by rw[R.out];rfl,R2.out,fun h=>by rw[R.out] at h;cases h⟩
  ·have R:Hid (folB ss i n s=true):=by
    show _=_
    have:=hQ.out
    rw[List.take_of_length_le (by rw[spans_len];omega)] at this
    unfold folB;rw[tw,this];rfl
   have hPw:P<wr.heap.size:=Nat.lt_of_lt_of_le hP hV.out.size
   obtain⟨q0,q1⟩:=HBV.out
   rw[Nat.zero_add] at q1
   have HF9:Hid _:=BL.keep HF.out HKV.out (.inr (.inr (Nat.le_refl _)))
   have HK9:Hid _:=HKV
   have HB9:Hid _:=HBV
   clear hQ hV HBV HKV HK HB HF
   obtain⟨D,hD⟩:=Int.eq_ofNat_of_zero_le hw.1
   obtain⟨LL,hLL⟩:=Int.eq_ofNat_of_zero_le (show 0≤s.len by omega)
   have HD:Hid (s.dst+s.len=((D+LL:Nat):Int)):=by show _=_;omega
   have hDL:D+LL≤n:=by omega
   have HGP:Hid (g≠P):=by show _≠_;have:=HG.out;have:=HP0.out;omega
   have HE:Hid (∀w,Calls Tryz.prog 43 #[(Spn.mk (D:Int) (LL:Int)).agg] w fun e w'=>e=.returned (.int .i64 ((D:Int)+(LL:Int)))∧Kept 0 0 w w'):=fun w=>spanEnd w (Spn.mk (D:Int) (LL:Int)) (by show -1000000≤(D:Int)+(LL:Int)∧(D:Int)+(LL:Int)≤1000000;omega)
   have HB9':Hid (AtP _ P 0 (Spn.mk s.dst s.len)∧P<_):=⟨HB9.out,hPw⟩
   have HK9':Hid _:=(HK9.out.mono (lo':=g) (hi':=g+1) fun b _ c=>by omega)
   have HF9':Hid (BL _ g n (afterB ss i s (D:Int))):=BL.congr HF9.out (fun k _=>by rw[after_start ss i s k,hD])
   rw[hD] at q0
   go_wp2_with fail
   clear q0 q1 HB9 HK9 HF9
   go_loopw [8] (fun x W=>∃j:Nat,D≤j∧j≤D+LL∧x=.int .i64 j∧Hid (BL W g n (afterB ss i s (j:Int)))∧Hid (AtP W P 0 (Spn.mk s.dst s.len)∧P<W.heap.size)∧Hid (Kept g (g+1) w W)) (fun x _=>D+LL-(intOf x).toNat)
   case atStart=>exact⟨D,Nat.le_refl _,by omega,rfl,HF9',HB9',HK9'⟩
   case round=>
    obtain⟨j,hj1,hj2,rfl,hBL,hAP,hV⟩:=hrel
    obtain⟨q0,q1⟩:=hAP.out.1
    rw[Nat.zero_add] at q1
    go_wp2_with fail
    refine Calls.mono (HE.out _) ?_
    rintro e w8 ⟨rfl,k8⟩
    have hBL8:Hid _:=BL.keep hBL.out k8 (.inr (.inr (Nat.le_refl _)))
    have hV8:Hid _:=Kept.trans hV.out (k8.mono (lo':=g) (hi':=g+1) fun b _ c=>by omega)
    have hAP8:Hid (AtP w8 P 0 (Spn.mk s.dst s.len)∧P<w8.heap.size):=⟨AtP.keep hAP.out.1 hAP.out.2 k8 (.inr (.inr (Nat.le_refl _))),Nat.lt_of_lt_of_le hAP.out.2 k8.size⟩
    clear q0 q1 k8 hBL hV hAP
    simp only
    by_cases hjl:j<D+LL
    ·have cj:=hBL8.out.at_ j (by omega)
     have fj:=hBL8.out.free j
     have R1:Hid (BL (w8.setCell ⟨g,j,none⟩ (.bool true)) g n (afterB ss i s ((j+1:Nat):Int))):=BL.congr (BL.set hBL8.out j (by omega)) (fun k _=>after_step ss i s j k (by omega))
     have kp:=kept_setCell (lo:=g) (hi:=g+1) w8 ⟨g,j,none⟩ (.bool true) (.inl ⟨Nat.le_refl _,Nat.lt_succ_self _⟩)
     have R2:Hid _:=Kept.trans hV8.out kp
     have R3:Hid (AtP (w8.setCell ⟨g,j,none⟩ (.bool true)) P 0 (Spn.mk s.dst s.len)∧P<(w8.setCell ⟨g,j,none⟩ (.bool true)).heap.size):=⟨AtP.keep hAP8.out.1 hAP8.out.2 kp (by have:=HGP.out;omega),Nat.lt_of_lt_of_le hAP8.out.2 kp.size⟩
     have hjn:j<n:=by omega
     generalize afterB ss i s (j:Int) j=z at cj
     clear hBL8 hV8 hAP8 kp
     go_wp2
     go_roundw
     case rel=>exact⟨j+1,by omega,by omega,by go_num,R1,R3,R2⟩
     case measure=>simp[intOf];omega
    ·have R1:Hid (BL w8 g n (afterB ss i s (s.dst+s.len))):=by
      have:=hBL8.out
      rw[show j=D+LL by omega,←HD.out] at this
      exact this
     go_wp2
     go_ret
     exact⟨by rw[R.out];rfl,hV8.out,fun _=>R1.out⟩
end Go.Proofs.YtgamjhpebmmjcaaGreatDoor
namespace Go.Proofs.YtgamjhpebmmjcaaGreatDoor
set_option maxRecDepth 100000
set_option maxHeartbeats 40000000
open Go.RowKit Flt
attribute [local go_sem] alloc_drewN setCell_drewN run_store_float
theorem keepLim (w:World)(lo hi:Nat)(a1 a2 a3:Option Addr)(n1 c1 n2 c2 n3 c3:Nat)(pk:Int)(ins:List Int)(f:IS w lo hi a1 n1 ins):
  Calls Tryz.prog 76 #[cagg a1 n1 c1 a2 n2 c2 a3 n3 c3 pk] w fun e w'=>e=.returned (.bool (limC ins n2 n3 pk))∧Kept 0 0 w w':=by
 have hK:=kept_alloc 0 0 w (cbox a1 n1 c1 a2 n2 c2 a3 n3 c3 pk)
 have HF:Hid _:=f.keep hK (.inr (.inr (Nat.le_refl _)))
 have HL:Hid (ins.length=n1):=f.len
 have HB:Hid _:=c0_start w (.slice a1 n1 c1) (.slice a2 n2 c2) (.slice a3 n3 c3) (.int .i64 pk)
 have HK:Hid _:=hK
 clear f hK
 by_cases g1:n1≤20
 ·have b1:decide ((20:Int)<(n1:Int))=false:=decide_eq_false (by omega)
  by_cases g2:n2≤2000
  ·have b2:decide ((2000:Int)<(n2:Int))=false:=decide_eq_false (by omega)
   by_cases g3:n3≤50
   ·have b3:decide ((50:Int)<(n3:Int))=false:=decide_eq_false (by omega)
    have HQ:Hid (limC ins n2 n3 pk=(ins.all lenB&&decide (0≤pk∧pk≤50000))):=by
     show _=_
     unfold limC
     rw[HL.out,decide_eq_true g1,decide_eq_true g2,decide_eq_true g3];rfl
    go_enter Tryz.func76,Tryz.ntmps76
    go_wp2_with fail
    generalize w.alloc (cbox a1 n1 c1 a2 n2 c2 a3 n3 c3 pk)=w1 at HF HB HK ⊢
    go_loop [24] (fun i=>∃k:Nat,k≤n1∧i=.int .i64 k∧Hid ((ins.take k).all lenB=true)) (fun i=>n1-(intOf i).toNat)
    case atStart=>exact⟨0,Nat.zero_le _,rfl,rfl⟩
    case round=>
     obtain⟨k,hk,rfl,hA⟩:=hrel
     by_cases hlt:k<n1
     ·rcases HF.out.at_ with z0|⟨ga,oa,ea,z1,z2,z3,z4⟩
      ·omega
      have c:=z4 k hlt
      subst ea
      clear z1 z2 z3 z4
      cases hx:lenB (ins.getD k 0)
      ·have R:Hid (limC ins n2 n3 pk=false):=by
        show _=_
        rw[HQ.out,allI_bad (by rw[HL.out];exact hlt) hx];rfl
       have HI:Hid _:=isLength_any (ins.getD k 0) w1
       rw[hx] at HI
       generalize ins.getD k 0=y at c HI
       clear hx hA
       go_wp2_with fail
       refine Calls.mono HI.out ?_
       rintro e w2 ⟨rfl,rfl⟩
       go_wp2
       go_ret
       exact⟨by rw[R.out];rfl,HK.out⟩
      ·have R:Hid _:=allI_snoc (p:=lenB) (by rw[HL.out];exact hlt) hA.out hx
       have HI:Hid _:=isLength_any (ins.getD k 0) w1
       rw[hx] at HI
       generalize ins.getD k 0=y at c HI
       clear hx hA
       go_wp2_with fail
       refine Calls.mono HI.out ?_
       rintro e w2 ⟨rfl,rfl⟩
       go_wp2
       go_round
       case rel=>exact⟨k+1,by omega,by go_num,R⟩
       case measure=>simp[intOf];omega
     ·have HA:Hid (limC ins n2 n3 pk=decide (0≤pk∧pk≤50000)):=by
       show _=_
       have:=hA.out
       rw[List.take_of_length_le (by rw[HL.out];omega)] at this
       rw[HQ.out,this];rfl
      obtain⟨_,q0,q1,q2,q3⟩:=HB.out
      clear hA
      by_cases u1:0≤pk
      ·have R:Hid (limC ins n2 n3 pk=decide (pk≤50000)):=by
        show _=_
        rw[HA.out,Bool.eq_iff_iff];simp[u1]
       have u1':decide (0≤pk)=true:=decide_eq_true u1
       go_wp2
       go_ret
       exact⟨by rw[R.out];rfl,HK.out⟩
      ·have R:Hid (limC ins n2 n3 pk=false):=by
        show _=_
        rw[HA.out];exact decide_eq_false (fun c=>u1 c.1)
       have u1':decide (0≤pk)=false:=decide_eq_false u1
       go_wp2
       go_ret
       exact⟨by rw[R.out];rfl,HK.out⟩
   ·have R:Hid (limC ins n2 n3 pk=false):=by
     show _=_
     unfold limC;rw[decide_eq_false g3];simp
    have b3:decide ((50:Int)<(n3:Int))=true:=decide_eq_true (by omega)
    go_enter Tryz.func76,Tryz.ntmps76
    go_wp2
    go_ret
    exact⟨by rw[R.out];rfl,HK.out⟩
  ·have R:Hid (limC ins n2 n3 pk=false):=by
    show _=_
    unfold limC;rw[decide_eq_false g2];simp
   have b2:decide ((2000:Int)<(n2:Int))=true:=decide_eq_true (by omega)
   go_enter Tryz.func76,Tryz.ntmps76
   go_wp2
   go_ret
   exact⟨by rw[R.out];rfl,HK.out⟩
 ·have R:Hid (limC ins n2 n3 pk=false):=by
   show _=_
   unfold limC;rw[HL.out,decide_eq_false g1];simp
  have b1:decide ((20:Int)<(n1:Int))=true:=decide_eq_true (by omega)
  go_enter Tryz.func76,Tryz.ntmps76
  go_wp2
  go_ret
  exact⟨by rw[R.out];rfl,HK.out⟩
end Go.Proofs.YtgamjhpebmmjcaaGreatDoor
namespace Go.Proofs.YtgamjhpebmmjcaaGreatDoor
set_option maxRecDepth 100000
set_option maxHeartbeats 40000000
open Go.RowKit Flt
attribute [local go_sem] alloc_drewN setCell_drewN run_store_float
theorem make_bV (n:Nat)(w:World)(hn:n≤1099511627776):
  (Instr.makeSlice 142 (.int .i64 (n:Int)) (.int .i64 (n:Int))).run Tryz.prog w=.ok (.slice (some ⟨w.heap.size,0,none⟩) n n) (w.alloc (.cells (madeCells #[.bool false] n) 4)):=by
 obtain⟨i,hi,hz0,hz1,hz2⟩:=info_parts infoB
 have:=run_make (P:=Tryz.prog) w 142 4 i (.bool false) Tryz.underlying142 hi hz0 .i64 .i64 n n (by omega) (by omega) (by rw[hz2];omega) (by omega)
 rw[hz1,Nat.mul_one,Int.toNat_natCast] at this
 exact this
theorem BL.made (w:World)(n:Nat):BL (w.alloc (.cells (madeCells #[.bool false] n) 4)) w.heap.size n (fun _=>false):=by
 refine⟨by simp,fun k hk=>?_,fun o=>by simp⟩
 rw[World.cell?_alloc_new]
 simp only[madeCells]
 rw[Array.getElem?_map,Array.getElem?_range,if_pos hk]
 simp[Nat.mod_one]
theorem after_all {ss:List Ste}{k:Nat}(h:k<ss.length)(j:Nat):afterB ss k (ss.getD k Ste.zero) ((ss.getD k Ste.zero).dst+(ss.getD k Ste.zero).len) j=wroteB ss (k+1) (j:Nat):=by
 rw[wrote_succ h];rfl
theorem step_fol {ins:List Int}{ss:List Ste}{n k:Nat}:stepB ins ss (n:Int) k=(formB ins (ss.getD k Ste.zero)&&folB ss k n (ss.getD k Ste.zero)):=rfl
theorem span_getD {ins:List Int}{s:Ste}(h:formB ins s=true):∀q,q<cnt s.op→1≤((spansOf s).getD q Spn.zero).len∧((spansOf s).getD q Spn.zero).len≤1000:=fun q hq=>by
 have hq':q<(spansOf s).length:=by rw[spans_len];exact hq
 rw[List.getD_eq_getElem?_getD,List.getElem?_eq_getElem hq']
 exact spans_lens h (List.getElem_mem _)
theorem ver_limP {ins:List Int}{ss:List Ste}{os:List Spn}{pk:Int}(h:limC ins ss.length os.length pk=false):verM ins ss os pk=false:=by
 unfold verM;rw[h];rfl
theorem ver_stepP {ins:List Int}{ss:List Ste}{os:List Spn}{pk:Int}{i:Nat}(hi:i<ss.length)(h:stepB ins ss pk i=false):verM ins ss os pk=false:=by
 unfold verM;rw[range_bad hi h];simp
theorem all_badP {os:List Spn}{q:Spn→Bool}{k:Nat}(hk:k<os.length)(t:q (os.getD k Spn.zero)=false):os.all q=false:=by
 rw[List.all_eq_false]
 rw[List.getD_eq_getElem?_getD,List.getElem?_eq_getElem hk] at t
 exact⟨os[k],List.getElem_mem _,by simpa using t⟩
theorem all_snocP {os:List Spn}{q:Spn→Bool}{k:Nat}(hk:k<os.length)(h:(os.take k).all q=true)(t:q (os.getD k Spn.zero)=true):(os.take (k+1)).all q=true:=by
 rw[List.take_succ_eq_append_getElem hk,List.all_append,h]
 rw[List.getD_eq_getElem?_getD,List.getElem?_eq_getElem hk] at t
 simpa using t
theorem ver_outP {ins:List Int}{ss:List Ste}{os:List Spn}{pk:Int}{i:Nat}(hi:i<os.length)(h:outB ss pk (os.getD i Spn.zero)=false):verM ins ss os pk=false:=by
 unfold verM;rw[all_badP hi h];simp
theorem followS (w:World)(g n cap:Nat)(ins:List Int)(ss:List Ste)(i:Nat)(s:Ste)(hn:n≤50000)(hcap:n≤cap)(f:BL w g n (fun k=>wroteB ss i (k:Nat)))(hf:formB ins s=true)(v:Value)
  (hv:(s.op=0∧v=.iface 147 (inAgg s))∨∃G,G≠g∧v=.iface 150 (kAgg s G (cnt s.op))∧SB w G (cnt s.op) (spansOf s)):
  Calls Tryz.prog 78 #[.slice (some ⟨g,0,none⟩) n cap,v] w fun e w'=>e=.returned (.bool (folB ss i n s))∧Kept g (g+1) w w'∧(folB ss i n s=true→BL w' g n (afterB ss i s (s.dst+s.len))):=by
 have hl:=form_len hf
 rcases hv with⟨h0,rfl⟩|⟨G,hG,rfl,hS⟩
 ·exact follow_in w g n cap ss i s hn hcap f hl.1 hl.2 (span_getD hf) h0
 ·exact follow_k w g n cap ss i s hn hcap f hl.1 hl.2 (span_getD hf) G hS hG
theorem opStepS (w:World)(s:Ste):
  Calls Tryz.prog 46 #[s.agg] w fun e w'=>∃v,e=.returned v∧((s.op=0∧v=.iface 147 (inAgg s))∨∃G,w.heap.size≤G∧v=.iface 150 (kAgg s G (cnt s.op))∧SB w' G (cnt s.op) (spansOf s))∧Kept 0 0 w w':=by
 by_cases h:s.op=0
 ·exact(opStep_in w s h).mono fun e w' hh=>⟨_,hh.1,.inl ⟨h,rfl⟩,hh.2⟩
 ·exact(opStep_k w s h).mono fun e w' ⟨G,h1,h2,h3,h4⟩=>⟨_,h1,.inr ⟨G,h3,rfl,h2⟩,h4⟩
theorem implVer (w:World)(a1 a2 a3:Option Addr)(n1 c1 n2 c2 n3 c3:Nat)(pk:Int)(ins:List Int)(ss:List Ste)(os:List Spn)(f:CS w a1 n1 a2 n2 a3 n3 ins ss os):
  Calls Tryz.prog 44 #[cagg a1 n1 c1 a2 n2 c2 a3 n3 c3 pk] w fun e w'=>e=.returned (.bool (verM ins ss os pk))∧Kept 0 0 w w':=by
 have hK:=kept_alloc 0 0 w (cbox a1 n1 c1 a2 n2 c2 a3 n3 c3 pk)
 have f':=f.keep hK
 have HX:Hid _:=keepLim (w.alloc (cbox a1 n1 c1 a2 n2 c2 a3 n3 c3 pk)) _ _ a1 a2 a3 n1 c1 n2 c2 n3 c3 pk ins f'.i
 have HN:Hid (ss.length=n2∧os.length=n3∧ins.length=n1):=⟨f.s.len,f.o.len,f.i.len⟩
 have HF:Hid _:=f'
 have HB:Hid _:=c0_start w (.slice a1 n1 c1) (.slice a2 n2 c2) (.slice a3 n3 c3) (.int .i64 pk)
 have HK:Hid _:=hK
 clear hK f f'
 cases h:limC ins n2 n3 pk
 ·have R:Hid (verM ins ss os pk=false):=ver_limP (by rw[HN.out.1,HN.out.2.1];exact h)
  rw[h] at HX
  go_enter Tryz.func44,Tryz.ntmps44
  go_wp2_with fail
  refine Calls.mono HX.out ?_
  rintro e w2 ⟨rfl,hk2⟩
  go_wp2
  go_ret
  exact⟨by rw[R.out];rfl,Kept.trans HK.out hk2⟩
 have HM:Hid (limC ins ss.length os.length pk=true):=by rw[HN.out.1,HN.out.2.1];exact h
 rw[h] at HX
 unfold limC at h
 rw[HN.out.2.2] at h
 simp only[Bool.and_eq_true,decide_eq_true_eq] at h
 obtain⟨⟨⟨⟨l1,l2⟩,l3⟩,_⟩,p0,p1⟩:=h
 obtain⟨N,rfl⟩:=Int.eq_ofNat_of_zero_le p0
 go_enter Tryz.func44,Tryz.ntmps44
 go_wp2_with fail
 refine Calls.mono HX.out ?_
 rintro e w2 ⟨rfl,hk2⟩
 replace HF:Hid _:=HF.out.keep hk2
 replace HB:Hid _:=HB.out.keep hk2
 replace HK:Hid _:=Kept.trans HK.out hk2
 have hm:=make_bV N w2 (by omega)
 have ka:=kept_alloc 0 0 w2 (.cells (madeCells #[.bool false] N) 4)
 have HW:Hid (BL (w2.alloc (.cells (madeCells #[.bool false] N) 4)) w2.heap.size N (fun k=>wroteB ss 0 (k:Nat))):=BL.congr (BL.made w2 N) (fun k _=>(wrote_zero ss _).symm)
 have HG:Hid (w.heap.size<w2.heap.size):=HB.out.sz
 have HI3:Hid (IS (w2.alloc (.cells (madeCells #[.bool false] N) 4)) 0 w2.heap.size a1 n1 ins):=HF.out.i.keep ka (.inr (.inr (Nat.le_refl _)))
 have HT3:Hid (TS (w2.alloc (.cells (madeCells #[.bool false] N) 4)) 0 w2.heap.size a2 n2 ss):=HF.out.s.keep ka (.inr (.inr (Nat.le_refl _)))
 have HO3:Hid (PS (w2.alloc (.cells (madeCells #[.bool false] N) 4)) 0 w2.heap.size a3 n3 os):=HF.out.o.keep ka (.inr (.inr (Nat.le_refl _)))
 clear hk2 HX HF
 obtain⟨_,q0,q1,q2,q3⟩:=HB.out
 replace HB:Hid _:=HB.out.keep ka
 obtain⟨_,r0,r1,r2,r3⟩:=HB.out
 replace HK:Hid _:=Kept.trans HK.out ka
 have HG2:Hid (w2.heap.size<(w2.alloc (.cells (madeCells #[.bool false] N) 4)).heap.size):=by show _<_;simp
 generalize hg9:w2.heap.size=g at hm HW HG HG2 HI3 HT3 HO3
 generalize w2.alloc (.cells (madeCells #[.bool false] N) 4)=w3 at hm HB HK HW HG2 HI3 HT3 HO3 r0 r1 r2 r3
 clear ka hg9
 go_wp2_with fail
 clear q0 q1 q2 q3 r0 r1 r2 r3 hm
 go_loopw [17] (fun x W=>∃k:Nat,k≤n2∧x=.int .i64 k∧Hid ((List.range k).all (stepB ins ss (N:Int))=true)∧Hid (BL W g N (fun j=>wroteB ss k (j:Nat)))∧Hid (Kept g (g+1) w3 W)) (fun x _=>n2-(intOf x).toNat)
 case atStart=>exact⟨0,Nat.zero_le _,rfl,rfl,HW,Kept.refl _ _ _⟩
 case round=>
  obtain⟨k,hk,rfl,hA,hBL,hV⟩:=hrel
  clear HW
  obtain⟨_,q0,q1,q2,q3⟩:=HB.out.keepR hV.out (.inl HG.out)
  by_cases hlt:k<n2
  ·rcases (HT3.out.keep hV.out (.inl (Nat.le_refl _))).at_ with z0|⟨ga,oa,ea,z1,z2,z3,z4⟩
   ·omega
   have hat:=z4 k hlt
   have HS0:Hid (stepB ins ss (N:Int) k=(formB ins (ss.getD k Ste.zero)&&folB ss k N (ss.getD k Ste.zero))):=step_fol
   have HAF:Hid (∀j,afterB ss k (ss.getD k Ste.zero) ((ss.getD k Ste.zero).dst+(ss.getD k Ste.zero).len) j=wroteB ss (k+1) (j:Nat)):=fun j=>after_all (by rw[HN.out.1];exact hlt) j
   have hgw:g<wr.heap.size:=Nat.lt_of_lt_of_le HG2.out hV.out.size
   generalize ss.getD k Ste.zero=s at hat HS0 HAF
   have ka:=kept_alloc 0 0 wr s.box
   have HP:Hid _:=ste_box wr s
   have hP:wr.heap.size<(wr.alloc s.box).heap.size:=by simp
   subst ea
   obtain⟨d0,d1,d2,d3,d4,d5,d6,d7⟩:=hat
   clear z1 z2 z3 z4
   have HI4:Hid _:=(HI3.out.keep hV.out (.inl (Nat.le_refl _))).keep ka (.inr (.inr (Nat.le_refl _)))
   have HBL4:Hid _:=BL.keep hBL.out ka (.inr (.inr (Nat.le_refl _)))
   have HB4:Hid _:=(HB.out.keepR hV.out (.inl HG.out)).keep ka
   obtain⟨_,t0,t1,t2,t3⟩:=HB4.out
   go_wp2_with fail
   clear d0 d1 d2 d3 d4 d5 d6 d7 q0 q1 q2 q3 t0 t1 t2 t3 HB4
   generalize hP9:wr.heap.size=P at HP hP hgw ⊢
   have HV4:Hid (Kept g (g+1) w3 (wr.alloc s.box)):=Kept.trans hV.out (ka.mono fun b _ c=>by omega)
   generalize wr.alloc s.box=w4 at HP hP HI4 HBL4 HV4 ka ⊢
   clear hP9 ka hBL hV
   refine Calls.mono (fieldsFit w4 _ _ s a1 n1 c1 ins HI4.out) ?_
   rintro e w5 ⟨rfl,k5⟩
   have HV5:Hid _:=Kept.trans HV4.out (k5.mono (lo':=g) (hi':=g+1) fun b _ c=>by omega)
   have HBL5:Hid _:=BL.keep HBL4.out k5 (.inr (.inr (Nat.le_refl _)))
   have HP5:Hid _:=AtT.keep HP.out hP k5 (.inr (.inr (Nat.le_refl _)))
   have hz5:P<w5.heap.size:=Nat.lt_of_lt_of_le hP k5.size
   clear k5 HI4 HBL4 HP HV4 hP
   simp only
   cases tf:formB ins s
   ·have R:Hid (verM ins ss os (N:Int)=false):=ver_stepP (by rw[HN.out.1];exact hlt) (by rw[HS0.out,tf];rfl)
    have R2:Hid _:=HK.out.new HV5.out (Nat.le_of_lt HG.out)
    go_wp2
    go_ret
    exact⟨by rw[R.out];rfl,R2.out⟩
   obtain⟨d0,d1,d2,d3,d4,d5,d6,d7⟩:=HP5.out
   simp only[Nat.zero_add] at d1 d2 d3 d4 d5 d6 d7
   go_wp2_with fail
   clear d0 d1 d2 d3 d4 d5 d6 d7
   refine Calls.mono (opStepS w5 s) ?_
   rintro e w6 ⟨v,rfl,hv,k6⟩
   have HV6:Hid _:=Kept.trans HV5.out (k6.mono (lo':=g) (hi':=g+1) fun b _ c=>by omega)
   have HBL6:Hid _:=BL.keep HBL5.out k6 (.inr (.inr (Nat.le_refl _)))
   have HFO:Hid _:=followS w6 g N N ins ss k s (by omega) (Nat.le_refl _) HBL6.out tf v (hv.imp id fun⟨G,h1,h2,h3⟩=>⟨G,by omega,h2,h3⟩)
   clear k6 HV5 HBL5 HP5 hv
   go_wp2_with fail
   refine Calls.mono HFO.out ?_
   rintro e w7 ⟨rfl,k7,hb7⟩
   have HV7:Hid _:=Kept.trans HV6.out k7
   have HB7:Hid _:=hb7
   clear k7 HV6 HBL6 HFO hb7
   simp only
   cases to7:folB ss k N s
   ·have R:Hid (verM ins ss os (N:Int)=false):=ver_stepP (by rw[HN.out.1];exact hlt) (by rw[HS0.out,to7,Bool.and_false])
    have R2:Hid _:=HK.out.new HV7.out (Nat.le_of_lt HG.out)
    go_wp2
    go_ret
    exact⟨by rw[R.out];rfl,R2.out⟩
   ·have R:Hid _:=range_snoc hA.out (show stepB ins ss (N:Int) k=true by rw[HS0.out,tf,to7];rfl)
    have R1:Hid (BL w7 g N (fun j=>wroteB ss (k+1) (j:Nat))):=BL.congr (HB7.out to7) (fun j _=>HAF.out j)
    go_wp2
    go_roundw
    case rel=>exact⟨k+1,by omega,by go_num,R,R1,HV7⟩
    case measure=>simp[intOf];omega
  ·have HA:Hid ((List.range n2).all (stepB ins ss (N:Int))=true):=by
    have:=hA.out
    rw[show k=n2 by omega] at this
    exact this
   have HBL1:Hid (BL wr g N (fun j=>wroteB ss ss.length (j:Nat))):=by
    have:=hBL.out
    rw[show k=n2 by omega,←HN.out.1] at this
    exact this
   clear hA hBL
   go_wp2_with fail
   clear q0 q1 q2 q3
   go_loopw [37] (fun x W=>∃k:Nat,k≤n3∧x=.int .i64 k∧Hid ((os.take k).all (outB ss (N:Int))=true)∧Hid (BL W g N (fun j=>wroteB ss ss.length (j:Nat)))∧Hid (Kept g (g+1) w3 W)) (fun x _=>n3-(intOf x).toNat)
   case atStart=>exact⟨0,Nat.zero_le _,rfl,rfl,HBL1,hV⟩
   case round=>
    clear HBL1 hV
    obtain⟨j,hj,rfl,hO,hBL,hV⟩:=hrel
    by_cases hlt2:j<n3
    ·rcases (HO3.out.keep hV.out (.inl (Nat.le_refl _))).at_ with z0|⟨ga,oa,ea,z1,z2,z3,z4⟩
     ·omega
     have hat:=z4 j hlt2
     have HBAD:Hid (outB ss (N:Int) (os.getD j Spn.zero)=false→verM ins ss os (N:Int)=false):=fun h=>ver_outP (by rw[HN.out.2.1];exact hlt2) h
     have HSN:Hid (outB ss (N:Int) (os.getD j Spn.zero)=true→(os.take (j+1)).all (outB ss (N:Int))=true):=fun h=>all_snocP (by rw[HN.out.2.1];exact hlt2) hO.out h
     have hgw:g<wr.heap.size:=Nat.lt_of_lt_of_le HG2.out hV.out.size
     generalize os.getD j Spn.zero=p at hat HBAD HSN
     have ka:=kept_alloc 0 0 wr p.box
     have HP:Hid _:=spn_box wr p
     have hP:wr.heap.size<(wr.alloc p.box).heap.size:=by simp
     subst ea
     obtain⟨d0,d1⟩:=hat
     clear z1 z2 z3 z4
     have HBL4:Hid _:=BL.keep hBL.out ka (.inr (.inr (Nat.le_refl _)))
     have HLn:Hid (∀w,Calls Tryz.prog 62 #[.int .i64 p.len] w fun e w'=>e=.returned (.bool (lenB p.len))∧w'=w):=fun w=>isLength_any p.len w
     have HV4:Hid (Kept g (g+1) w3 (wr.alloc p.box)):=Kept.trans hV.out (ka.mono fun b _ c=>by omega)
     go_wp2_with fail
     clear d0 d1
     generalize hP9:wr.heap.size=P at HP hP hgw ⊢
     generalize wr.alloc p.box=w4 at HP hP HBL4 HV4 ka ⊢
     clear hP9 ka hBL hV
     refine Calls.mono (HLn.out _) ?_
     rintro e w5 ⟨rfl,rfl⟩
     cases tl:lenB p.len
     ·have R:Hid _:=HBAD.out (by unfold outB;rw[tl];rfl)
      have R2:Hid _:=HK.out.new HV4.out (Nat.le_of_lt HG.out)
      go_wp2
      go_ret
      exact⟨by rw[R.out];rfl,R2.out⟩
     have hl:=of_decide_eq_true tl
     obtain⟨d0,d1⟩:=HP.out
     rw[Nat.zero_add] at d1
     have HH:Hid _:=hold w5 g N N ss ss.length (by omega) (Nat.le_refl _) HBL4.out p hl.1 hl.2
     go_wp2_with fail
     refine Calls.mono HH.out ?_
     rintro e w6 ⟨rfl,k6⟩
     have HV6:Hid _:=Kept.trans HV4.out (k6.mono (lo':=g) (hi':=g+1) fun b _ c=>by omega)
     have HBL6:Hid _:=BL.keep HBL4.out k6 (.inr (.inr (Nat.le_refl _)))
     clear d0 d1 k6 HH HV4 HBL4 HP
     simp only
     cases th:holdB ss ss.length (N:Int) p.off p.len
     ·have R:Hid _:=HBAD.out (by unfold outB;rw[th,Bool.and_false])
      have R2:Hid _:=HK.out.new HV6.out (Nat.le_of_lt HG.out)
      go_wp2
      go_ret
      exact⟨by rw[R.out];rfl,R2.out⟩
     ·have R:Hid _:=HSN.out (by unfold outB;rw[tl,th];rfl)
      go_wp2
      go_roundw
      case rel=>exact⟨j+1,by omega,by go_num,R,HBL6,HV6⟩
      case measure=>simp[intOf];omega
    ·have R:Hid (verM ins ss os (N:Int)=true):=by
      show _=_
      have:=hO.out
      rw[List.take_of_length_le (by rw[HN.out.2.1];omega)] at this
      unfold verM
      rw[HM.out,this,HN.out.1,HA.out];rfl
     have R2:Hid _:=HK.out.new hV.out (Nat.le_of_lt HG.out)
     go_wp2
     go_ret
     exact⟨by rw[R.out];rfl,R2.out⟩
end Go.Proofs.YtgamjhpebmmjcaaGreatDoor
