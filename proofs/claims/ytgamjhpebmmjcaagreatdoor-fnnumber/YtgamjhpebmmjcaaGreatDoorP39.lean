import Derived.Test.YtgamjhpebmmjcaaGreatDoorP23
import Derived.Test.YtgamjhpebmmjcaaGreatDoorP12
import Derived.WalkMore
namespace Go.Proofs.YtgamjhpebmmjcaaGreatDoor
set_option maxRecDepth 100000
set_option maxHeartbeats 40000000
open Go.RowKit Flt
attribute [local go_sem] alloc_drewN setCell_drewN run_store_float
theorem scanS {w:World}{a:Option Addr}{n cap:Nat}{t:List UInt8}(f:TxA w a n t)(hn:n≤100000)(hcp:n≤cap):Calls Tryz.prog 32 #[.slice a n cap] w fun e w'=>∃v,e=.returned v∧PkR w' w.heap.size v (scM t 0)∧Kept 0 0 w w':=by
 have HTx:Hid (∀W,Kept 0 0 w W→TxA W a n t):=fun W k=>f.keep k
 have HLn:Hid (t.length=n):=f.len
 obtain⟨A,hA⟩:∃A,A=scM t 0:=⟨_,rfl⟩
 rw[←hA]
 have HA0:Hid ([]++scM t 0=A):=hA.symm
 clear f hA
 have HP0:Hid (PkR w w.heap.size (.slice none 0 0) []):=PkR.nil _ _
 go_enter Tryz.func32,Tryz.ntmps32
 go_wp2_with fail
 go_step3
 go_wp2_with fail
 go_step3
 go_wp2_with fail
 go_loopw [3,4] (fun tv av W'=>∃(k:Nat) (acc:List PTk),k≤n∧acc.length≤k∧av=.int .i64 (k:Int)∧Hid (PkR W' w.heap.size tv acc)∧Hid (Kept 0 0 w W')∧Hid (acc++scM t k=A)) (fun _ av _=>n-(intOf av).toNat)
 case atStart=>exact⟨0,[],Nat.zero_le _,Nat.le_refl _,rfl,HP0,(show Hid (Kept 0 0 w w) from Kept.refl 0 0 w),HA0⟩
 case round=>
  obtain⟨k,acc,hk,hal,rfl,hP,hK,HA⟩:=hrel
  clear HA0 HP0
  by_cases hlt:k<n
  ·obtain⟨g,off,ea,hTxS⟩:=(HTx.out wr hK.out).at_ (by omega)
   subst ea
   have HF:Hid _:=hTxS
   have c:=hTxS.at_ k hlt
   have HIb:Hid _:=isBlkS (bt t k) wr
   have HId:Hid _:=isDig (bt t k) wr
   have HIl:Hid _:=isLetS (bt t k) wr
   have HIm:Hid _:=isMrkS (bt t k) wr
   cases hb:blkB (bt t k)
   ·rw[hb] at HIb
    cases hh:(bt t k==35)
    ·have HB1:Hid (blkB (bt t k)=false):=hb
     have HB2:Hid (bt t k≠35):=fun e=>by rw[e] at hh;simp at hh
     cases hd:dig (bt t k)
     ·rw[hd] at HId
      cases hl:letB (bt t k)
      ·rw[hl] at HIl
       cases hm:mrkB (bt t k)
       ·rw[hm] at HIm
        have HB3:Hid (begB (bt t k)=false):=by show _=_;unfold begB;rw[hd,hl,hm];rfl
        clear hb hd hl hm
        generalize hx:bt t k=x at c HIb HId HIl HIm hh
        clear hx
        have HSc:Hid (acc++[⟨1,[],k⟩]=A):=by show _=_;rw[←HA.out,scM_stray (by rw[HLn.out];exact hlt) HB1.out HB2.out HB3.out]
        have hCn:=pt_news wr ⟨1,[],k⟩ 106
        simp only at hCn
        have kA:=kept_alloc 0 0 wr (.cells #[.int .i64 1,strL [],.int .i64 (k:Int)] 106)
        have HPB:Hid _:=PkR.keep hP.out kA
        have HKB:Hid _:=hK.out.trans kA
        have HSz:Hid (w.heap.size≤wr.heap.size):=hK.out.size
        go_wp2_with (first
         |(go_at_call 51;refine Calls.mono HIb.out ?_;rintro e w2 ⟨rfl,hw⟩;obtain rfl:=hw.symm)
         |(go_at_call 13;refine Calls.mono HId.out ?_;rintro e w2 ⟨rfl,hw⟩;obtain rfl:=hw.symm)
         |(go_at_call 53;refine Calls.mono HIl.out ?_;rintro e w2 ⟨rfl,hw⟩;obtain rfl:=hw.symm)
         |(go_at_call 55;refine Calls.mono HIm.out ?_;rintro e w2 ⟨rfl,hw⟩;obtain rfl:=hw.symm)
         |(at_builtin;refine wpList_appendP _ rfl _ _ rfl w.heap.size _ acc (by rfl) HPB.out ⟨wr.heap.size,0,none⟩ ⟨1,[],k⟩ (by rfl) hCn ?c2 ?c3 ?_)
         |fail)
        case c2=>omega
        case c3=>have:=HSz.out;simp;omega
        intro g9 cap9 n9 w9 hn9 hR9 hC9 hG9
        have HKn:Hid _:=pr_kept (Nat.le_refl _) HKB.out HPB.out hC9
        have HRn:Hid _:=hR9
        rw[HSc.out] at HRn
        clear hR9 hC9 hG9 hn9 kA hCn HPB HKB
        go_wp2_with fail
        try rw[Exit.noGoto_ret]
        go_ret
        exact⟨_,rfl,HRn.out,HKn.out⟩
       ·rw[hm] at HIm
        have HB3:Hid (begB (bt t k)=true):=by show _=_;unfold begB;rw[hd,hl,hm];rfl
        have HE:Hid (wdE t k=k+1):=by show _=_;unfold wdE;rw[hd,if_neg (by decide),hl,if_neg (by decide)]
        have hen:k+1≤n:=by omega
        clear hb hd hl hm
        generalize hx:bt t k=x at c HIb HId HIl HIm hh
        clear hx
        go_upto_region 15 with (first
         |(go_at_call 51;refine Calls.mono HIb.out ?_;rintro e w2 ⟨rfl,hw⟩;obtain rfl:=hw.symm)
         |(go_at_call 13;refine Calls.mono HId.out ?_;rintro e w2 ⟨rfl,hw⟩;obtain rfl:=hw.symm)
         |(go_at_call 53;refine Calls.mono HIl.out ?_;rintro e w2 ⟨rfl,hw⟩;obtain rfl:=hw.symm)
         |(go_at_call 55;refine Calls.mono HIm.out ?_;rintro e w2 ⟨rfl,hw⟩;obtain rfl:=hw.symm))
        have HCv:Hid _:=conv_text (c:=cap-k) ((HF.out).cut (i:=k) (j:=(k+1)) hen)
        have hcv:=HCv.out
        rw[Nat.add_sub_cancel_left] at hcv
        have hlc:0<(cutT t k (k+1)).length:=by rw[cutT_len (by rw[HLn.out];exact hen)];omega
        have HKd:Hid _:=kindS (cutT t k (k+1)) hlc wr
        have HSc:Hid (acc++[⟨kindM (cutT t k (k+1)),cutT t k (k+1),k⟩]++scM t (k+1)=A):=by
         show _=_
         rw[←HA.out,scM_word (by rw[HLn.out];exact hlt) HB1.out HB2.out HB3.out,HE.out,List.append_assoc]
         rfl
        have hCn:=pt_news wr ⟨kindM (cutT t k (k+1)),cutT t k (k+1),k⟩ 106
        simp only at hCn
        generalize kindM (cutT t k (k+1))=kd at HKd HSc hCn
        generalize cutT t k (k+1)=wd at hcv HKd HSc hCn
        have kA:=kept_alloc 0 0 wr (.cells #[.int .i64 kd,strL wd,.int .i64 (k:Int)] 106)
        have HPB:Hid _:=PkR.keep hP.out kA
        have HKB:Hid _:=hK.out.trans kA
        have HSz:Hid (w.heap.size≤wr.heap.size):=hK.out.size
        clear HCv
        go_wp2_with (first
         |(go_at_call 56;refine Calls.mono HKd.out ?_;rintro e w2 ⟨rfl,hw⟩;obtain rfl:=hw.symm)
         |(at_builtin;refine wpList_appendP _ rfl _ _ rfl w.heap.size _ acc (by rfl) HPB.out ⟨wr.heap.size,0,none⟩ ⟨kd,wd,k⟩ (by rfl) hCn ?c2 ?c3 ?_)
         |fail)
        case c2=>omega
        case c3=>have:=HSz.out;simp;omega
        intro g9 cap9 n9 w9 hn9 hR9 hC9 hG9
        have HKn:Hid _:=pr_kept (Nat.le_refl _) HKB.out HPB.out hC9
        have HRn:Hid (PkR w9 w.heap.size (.slice (some ⟨g9,0,none⟩) n9 cap9) (acc++[(⟨kd,wd,k⟩:PTk)])):=hR9
        clear hR9 hC9 hG9 hn9 kA hCn HPB HKB hcv
        go_wp2_with fail
        go_roundw
        case rel=>exact⟨(k+1),acc++[(⟨kd,wd,k⟩:PTk)],hen,by rw[List.length_append];simp only[List.length_singleton];omega,by go_num,HRn,HKn,HSc⟩
        case measure=>simp[intOf];omega
      ·rw[hl] at HIl
       have HB3:Hid (begB (bt t k)=true):=by show _=_;unfold begB;rw[hd,hl];rfl
       have HE0:Hid (wdE t k=runE wrdB t k):=by show _=_;unfold wdE;rw[hd,if_neg (by decide),hl,if_pos rfl]
       have hke:=runE_gt (p:=wrdB) (t:=t) (j:=k) (by rw[HLn.out];exact hlt) (by unfold wrdB;rw[hl];rfl)
       have hen:=runE_le wrdB t k (by rw[HLn.out];omega)
       rw[HLn.out] at hen
       have HRw:Hid _:=runEW wr g off n cap t HF.out (by omega) k (by omega)
       generalize runE wrdB t k=ee at HE0 hke hen HRw
       have HE:Hid _:=HE0.out
       clear hb hd hl HE0
       generalize hx:bt t k=x at c HIb HId HIl hh
       clear hx
       go_upto_region 15 with (first
        |(go_at_call 51;refine Calls.mono HIb.out ?_;rintro e w2 ⟨rfl,hw⟩;obtain rfl:=hw.symm)
        |(go_at_call 13;refine Calls.mono HId.out ?_;rintro e w2 ⟨rfl,hw⟩;obtain rfl:=hw.symm)
        |(go_at_call 53;refine Calls.mono HIl.out ?_;rintro e w2 ⟨rfl,hw⟩;obtain rfl:=hw.symm)
        |(go_at_call 20;refine Calls.mono HRw.out ?_;rintro e w2 ⟨rfl,hw⟩;obtain rfl:=hw.symm))
       have HCv:Hid _:=conv_text (c:=cap-k) ((HF.out).cut (i:=k) (j:=ee) hen)
       have hcv:=HCv.out
       have hlc:0<(cutT t k ee).length:=by rw[cutT_len (by rw[HLn.out];exact hen)];omega
       have HKd:Hid _:=kindS (cutT t k ee) hlc wr
       have HSc:Hid (acc++[⟨kindM (cutT t k ee),cutT t k ee,k⟩]++scM t ee=A):=by
        show _=_
        rw[←HA.out,scM_word (by rw[HLn.out];exact hlt) HB1.out HB2.out HB3.out,HE.out,List.append_assoc]
        rfl
       have hCn:=pt_news wr ⟨kindM (cutT t k ee),cutT t k ee,k⟩ 106
       simp only at hCn
       generalize kindM (cutT t k ee)=kd at HKd HSc hCn
       generalize cutT t k ee=wd at hcv HKd HSc hCn
       have kA:=kept_alloc 0 0 wr (.cells #[.int .i64 kd,strL wd,.int .i64 (k:Int)] 106)
       have HPB:Hid _:=PkR.keep hP.out kA
       have HKB:Hid _:=hK.out.trans kA
       have HSz:Hid (w.heap.size≤wr.heap.size):=hK.out.size
       clear HCv
       go_wp2_with (first
        |(go_at_call 56;refine Calls.mono HKd.out ?_;rintro e w2 ⟨rfl,hw⟩;obtain rfl:=hw.symm)
        |(at_builtin;refine wpList_appendP _ rfl _ _ rfl w.heap.size _ acc (by rfl) HPB.out ⟨wr.heap.size,0,none⟩ ⟨kd,wd,k⟩ (by rfl) hCn ?c2 ?c3 ?_)
        |fail)
       case c2=>omega
       case c3=>have:=HSz.out;simp;omega
       intro g9 cap9 n9 w9 hn9 hR9 hC9 hG9
       have HKn:Hid _:=pr_kept (Nat.le_refl _) HKB.out HPB.out hC9
       have HRn:Hid (PkR w9 w.heap.size (.slice (some ⟨g9,0,none⟩) n9 cap9) (acc++[(⟨kd,wd,k⟩:PTk)])):=hR9
       clear hR9 hC9 hG9 hn9 kA hCn HPB HKB hcv
       go_wp2_with fail
       go_roundw
       case rel=>exact⟨ee,acc++[(⟨kd,wd,k⟩:PTk)],hen,by rw[List.length_append];simp only[List.length_singleton];omega,by go_num,HRn,HKn,HSc⟩
       case measure=>simp[intOf];omega
     ·rw[hd] at HId
      have HB3:Hid (begB (bt t k)=true):=by show _=_;unfold begB;rw[hd];rfl
      have HE0:Hid (wdE t k=numE t k):=by show _=_;unfold wdE;rw[hd,if_pos rfl]
      have hke:=numE_gt (t:=t) (i:=k) (by rw[HLn.out];exact hlt) hd
      have hen:=numE_le (t:=t) (i:=k) (by rw[HLn.out];exact hlt)
      rw[HLn.out] at hen
      have HRn:Hid _:=numEndS wr g off n cap t HF.out (by omega) k hlt
      generalize numE t k=ee at HE0 hke hen HRn
      have HE:Hid _:=HE0.out
      clear hb hd HE0
      generalize hx:bt t k=x at c HIb HId hh
      clear hx
      go_upto_region 15 with (first
       |(go_at_call 51;refine Calls.mono HIb.out ?_;rintro e w2 ⟨rfl,hw⟩;obtain rfl:=hw.symm)
       |(go_at_call 13;refine Calls.mono HId.out ?_;rintro e w2 ⟨rfl,hw⟩;obtain rfl:=hw.symm)
       |(go_at_call 14;refine Calls.mono HRn.out ?_;rintro e w2 ⟨rfl,hw⟩;obtain rfl:=hw.symm))
      have HCv:Hid _:=conv_text (c:=cap-k) ((HF.out).cut (i:=k) (j:=ee) hen)
      have hcv:=HCv.out
      have hlc:0<(cutT t k ee).length:=by rw[cutT_len (by rw[HLn.out];exact hen)];omega
      have HKd:Hid _:=kindS (cutT t k ee) hlc wr
      have HSc:Hid (acc++[⟨kindM (cutT t k ee),cutT t k ee,k⟩]++scM t ee=A):=by
       show _=_
       rw[←HA.out,scM_word (by rw[HLn.out];exact hlt) HB1.out HB2.out HB3.out,HE.out,List.append_assoc]
       rfl
      have hCn:=pt_news wr ⟨kindM (cutT t k ee),cutT t k ee,k⟩ 106
      simp only at hCn
      generalize kindM (cutT t k ee)=kd at HKd HSc hCn
      generalize cutT t k ee=wd at hcv HKd HSc hCn
      have kA:=kept_alloc 0 0 wr (.cells #[.int .i64 kd,strL wd,.int .i64 (k:Int)] 106)
      have HPB:Hid _:=PkR.keep hP.out kA
      have HKB:Hid _:=hK.out.trans kA
      have HSz:Hid (w.heap.size≤wr.heap.size):=hK.out.size
      clear HCv
      go_wp2_with (first
       |(go_at_call 56;refine Calls.mono HKd.out ?_;rintro e w2 ⟨rfl,hw⟩;obtain rfl:=hw.symm)
       |(at_builtin;refine wpList_appendP _ rfl _ _ rfl w.heap.size _ acc (by rfl) HPB.out ⟨wr.heap.size,0,none⟩ ⟨kd,wd,k⟩ (by rfl) hCn ?c2 ?c3 ?_)
       |fail)
      case c2=>omega
      case c3=>have:=HSz.out;simp;omega
      intro g9 cap9 n9 w9 hn9 hR9 hC9 hG9
      have HKn:Hid _:=pr_kept (Nat.le_refl _) HKB.out HPB.out hC9
      have HRn:Hid (PkR w9 w.heap.size (.slice (some ⟨g9,0,none⟩) n9 cap9) (acc++[(⟨kd,wd,k⟩:PTk)])):=hR9
      clear hR9 hC9 hG9 hn9 kA hCn HPB HKB hcv
      go_wp2_with fail
      go_roundw
      case rel=>exact⟨ee,acc++[(⟨kd,wd,k⟩:PTk)],hen,by rw[List.length_append];simp only[List.length_singleton];omega,by go_num,HRn,HKn,HSc⟩
      case measure=>simp[intOf];omega
    ·have HSc:Hid (acc++scM t (runE nnlB t k)=A):=by show _=_;rw[←HA.out,scM_hash (by rw[HLn.out];exact hlt) hb (eq_of_beq hh)]
     have hke:=runE_gt (p:=nnlB) (t:=t) (j:=k) (by rw[HLn.out];exact hlt) (by rw[eq_of_beq hh];decide)
     have hen:=runE_le nnlB t k (by rw[HLn.out];omega)
     rw[HLn.out] at hen
     have HRw:Hid _:=runEN wr g off n cap t HF.out (by omega) k (by omega)
     generalize runE nnlB t k=ee at HSc hke hen HRw
     clear hb
     generalize hx:bt t k=x at c HIb hh
     clear hx
     go_wp2_with (first
      |(go_at_call 51;refine Calls.mono HIb.out ?_;rintro e w2 ⟨rfl,hw⟩;obtain rfl:=hw.symm)
      |(go_at_call 20;refine Calls.mono HRw.out ?_;rintro e w2 ⟨rfl,hw⟩;obtain rfl:=hw.symm))
     go_roundw
     case rel=>exact⟨ee,acc,hen,by omega,rfl,hP,hK,HSc⟩
     case measure=>simp[intOf];omega
   ·rw[hb] at HIb
    have HSc:Hid (acc++scM t (k+1)=A):=by show _=_;rw[←HA.out,scM_blank (by rw[HLn.out];exact hlt) hb]
    clear hb
    generalize hx:bt t k=x at c HIb
    clear hx
    go_wp2_with (first
     |(go_at_call 51;refine Calls.mono HIb.out ?_;rintro e w2 ⟨rfl,hw⟩;obtain rfl:=hw.symm))
    go_roundw
    case rel=>exact⟨k+1,acc,by omega,by omega,by go_num,hP,hK,HSc⟩
    case measure=>simp[intOf];omega
  ·obtain rfl:k=n:=by omega
   have HSc:Hid (acc++[⟨0,[],k⟩]=A):=by show _=_;rw[←HA.out,scM_end (by rw[HLn.out];omega)]
   have hCn:=pt_news wr ⟨0,[],k⟩ 106
   simp only at hCn
   have kA:=kept_alloc 0 0 wr (.cells #[.int .i64 0,strL [],.int .i64 (k:Int)] 106)
   have HPB:Hid _:=PkR.keep hP.out kA
   have HKB:Hid _:=hK.out.trans kA
   have HSz:Hid (w.heap.size≤wr.heap.size):=hK.out.size
   go_wp2_with (first
    |(at_builtin;refine wpList_appendP _ rfl _ _ rfl w.heap.size _ acc (by rfl) HPB.out ⟨wr.heap.size,0,none⟩ ⟨0,[],k⟩ (by rfl) hCn ?c2 ?c3 ?_)
    |fail)
   case c2=>omega
   case c3=>have:=HSz.out;simp;omega
   intro g9 cap9 n9 w9 hn9 hR9 hC9 hG9
   have HKn:Hid _:=pr_kept (Nat.le_refl _) HKB.out HPB.out hC9
   have HRn:Hid _:=hR9
   rw[HSc.out] at HRn
   clear hR9 hC9 hG9 hn9 kA hCn HPB HKB
   go_wp2_with fail
   try rw[Exit.noGoto_ret]
   go_ret
   exact⟨_,rfl,HRn.out,HKn.out⟩
end Go.Proofs.YtgamjhpebmmjcaaGreatDoor
namespace Go.Proofs.YtgamjhpebmmjcaaGreatDoor
set_option maxRecDepth 100000
set_option maxHeartbeats 40000000
open Go.RowKit Flt
theorem bt_u8 (t:List UInt8)(i:Nat):(bt t i).toNat.toUInt8=t.getD i 0:=by
 unfold bt
 rw[Int.toNat_natCast]
 simp
theorem sc_toks (t:List UInt8)(i:Nat)(hi:i≤t.length):scM t i=(toksM t (skM t i)).map cvT++clT t (toksM t (skM t i)):=by
 by_cases h:i<t.length
 ·cases hb:blkB (bt t i)
  ·by_cases hh:bt t i=35
   ·have hg:=runE_gt (p:=nnlB) h (by rw[hh];decide)
    rw[scM_hash h hb hh,skM_hash h hh]
    exact sc_toks t (runE nnlB t i) (runE_le _ _ _ hi)
   ·rw[skM_stop h hb hh]
    cases hbeg:begB (bt t i)
    ·rw[scM_stray h hb hh hbeg]
     unfold begB at hbeg
     simp only[Bool.or_eq_false_iff] at hbeg
     obtain⟨⟨h1,h2⟩,h3⟩:=hbeg
     have e:nxT t i=⟨markSym (t.getD i 0),i,markSym (t.getD i 0)⟩:=by unfold nxT;rw[if_neg (by rw[h2];decide),if_neg (by rw[h1];decide)]
     have em:markSym (t.getD i 0)=[]:=by
      unfold mrkB at h3
      rw[bt_u8] at h3
      unfold markSym
      rw[if_neg (of_decide_eq_false h3)]
     rw[em] at e
     rw[toksM_bad h (by rw[e]),e]
     rfl
    ·have hge:=wdE_gt h
     rw[scM_word h hb hh hbeg]
     have key:(nxT t i).sym≠[]∧cvT (nxT t i)=⟨kindM (cutT t i (wdE t i)),cutT t i (wdE t i),i⟩∧nxE t i=wdE t i:=by
      cases hl:letB (bt t i)
      ·cases hd:dig (bt t i)
       ·unfold begB at hbeg
        rw[hl,hd] at hbeg
        simp only[Bool.false_or] at hbeg
        unfold mrkB at hbeg
        rw[bt_u8] at hbeg
        have hm:=of_decide_eq_true hbeg
        have em:markSym (t.getD i 0)=[t.getD i 0]:=by unfold markSym;rw[if_pos hm]
        have e:nxT t i=⟨[t.getD i 0],i,[t.getD i 0]⟩:=by unfold nxT;rw[if_neg (by rw[hl];decide),if_neg (by rw[hd];decide),em]
        have ew:wdE t i=i+1:=by unfold wdE;rw[if_neg (by rw[hd];decide),if_neg (by rw[hl];decide)]
        have ec:cutT t i (i+1)=[t.getD i 0]:=by
         unfold cutT
         rw[show i+1-i=1 by omega,List.drop_eq_getElem_cons h,List.getD_eq_getElem?_getD,List.getElem?_eq_getElem h]
         rfl
        refine⟨by rw[e];simp,?_,?_⟩
        ·rw[e,ew,ec];rfl
        ·unfold nxE;rw[if_neg (by rw[hl];decide),if_neg (by rw[hd];decide),ew]
       ·have e:nxT t i=⟨numSym t i,i,cutT t i (numE t i)⟩:=by unfold nxT;rw[if_neg (by rw[hl];decide),if_pos hd]
        have ew:wdE t i=numE t i:=by unfold wdE;rw[if_pos hd]
        have en:numSym t i≠[]:=by unfold numSym;split<;>decide
        refine⟨by rw[e];exact en,?_,?_⟩
        ·rw[e,ew];unfold cvT;rw[if_neg en]
        ·unfold nxE;rw[if_neg (by rw[hl];decide),if_pos hd,ew]
      ·have hd:dig (bt t i)=false:=by
        cases hd:dig (bt t i)
        ·rfl
        ·exfalso
         have:=dig_true hd
         unfold letB at hl
         simp at hl
         omega
       have e:nxT t i=⟨wordSym (cutT t i (runE wrdB t i)),i,cutT t i (runE wrdB t i)⟩:=by unfold nxT;rw[if_pos hl]
       have ew:wdE t i=runE wrdB t i:=by unfold wdE;rw[if_neg (by rw[hd];decide),if_pos hl]
       have en:wordSym (cutT t i (runE wrdB t i))≠[]:=by
        unfold wordSym
        split
        ·rename_i hm;intro c;rw[c] at hm;revert hm;decide
        ·decide
       refine⟨by rw[e];exact en,?_,?_⟩
       ·rw[e,ew];unfold cvT;rw[if_neg en]
       ·unfold nxE;rw[if_pos hl,ew]
     obtain⟨k1,k2,k3⟩:=key
     rw[toksM_go h k1,k3,List.map_cons,k2,clT_cons k1,sc_toks t (wdE t i) (wdE_le h)]
     rfl
  ·rw[scM_blank h hb,skM_blank h hb]
   exact sc_toks t (i+1) (by omega)
 ·have e:i=t.length:=by omega
  subst e
  rw[scM_end h,skM_end h,toksM_end h]
  rfl
termination_by t.length-i
decreasing_by
 all_goals omega
theorem scan_all (t:List UInt8):scM t 0=(allT t).map cvT++clT t (allT t):=sc_toks t 0 (Nat.zero_le _)
theorem nums_len (t:List UInt8):(numsOf t).length=t.length:=by unfold numsOf;rw[List.length_map]
end Go.Proofs.YtgamjhpebmmjcaaGreatDoor
