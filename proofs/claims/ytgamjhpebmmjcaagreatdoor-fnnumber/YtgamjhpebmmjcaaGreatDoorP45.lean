import Derived.Test.YtgamjhpebmmjcaaGreatDoorP12
import Derived.Test.YtgamjhpebmmjcaaGreatDoorP42
import Derived.Test.YtgamjhpebmmjcaaGreatDoorP44
import Derived.Test.YtgamjhpebmmjcaaGreatDoorP23
import Derived.Test.YtgamjhpebmmjcaaGreatDoorP03
import Derived.Deep.RegionWith
import Derived.Test.YtgamjhpebmmjcaaGreatDoorP43
import Derived.BigCall
import Derived.BigRegion
import Derived.Test.YtgamjhpebmmjcaaGreatDoorP41
namespace Go.Proofs.YtgamjhpebmmjcaaGreatDoor
set_option maxRecDepth 100000
set_option maxHeartbeats 40000000
open Go.RowKit Flt
theorem convStr (w:World)(g off n cap:Nat)(xs:List Int)(hx:xs.length=n)(hc:∀k,k<n→w.cell? ⟨g,off+k,none⟩=some (.int .u8 (xs.getD k 0))):
  (convert 22 9 (.slice (some ⟨g,off,none⟩) n cap)).run Tryz.prog w=.ok (.string (strOfNums xs)) w:=
 run_convert_bytes_arg w 22 5 Tryz.underlying22 Tryz.underlying5 g off n cap xs hx hc 9 Tryz.underlying9
theorem implRN_zero (w:World)(a:Option Addr)(cap:Nat):
  Calls Tryz.prog 6 #[.slice a 0 cap] w fun e w'=>e=.returned (.tuple #[.float .f64 0,.int .i64 2])∧Drawn w w':=by
 go_enter Tryz.func6,Tryz.ntmps6
 go_wp2
 go_ret2
 exact⟨rfl,Drawn.refl _⟩
theorem implRN_pos (w:World)(g off n cap:Nat)(xs:List Int)(hx:xs.length=n)(h0:0<n)(hn:n≤1048576)(hlt:∀x∈xs,0≤x∧x<256)
  (hc:∀k,k<n→w.cell? ⟨g,off+k,none⟩=some (.int .u8 (xs.getD k 0))):
  Calls Tryz.prog 6 #[.slice (some ⟨g,off,none⟩) n cap] w fun e w'=>∃f c,e=.returned (.tuple #[.float .f64 f,.int .i64 c])∧RN xs f c∧Drawn w w':=by
 have HC:Hid (∀k,k<n→w.cell? ⟨g,off+k,none⟩=some (.int .u8 (xs.getD k 0))):=hc
 have HX:Hid (xs.length=n):=hx
 have HL:Hid (∀x∈xs,0≤x∧x<256):=hlt
 have HD:Hid _:=isDig (xs.getD 0 0) w
 have HE:Hid _:=numberEnd0 w g off n cap xs hx hn hc
 have d0:=hc 0 h0
 rw[Nat.add_zero] at d0
 have t0:((n:Int)==0)=false:=beq_eq_false_iff_ne.2 (by omega)
 have hxp:0<xs.length:=by rw[hx];exact h0
 clear hc hx hlt
 go_enter Tryz.func6,Tryz.ntmps6
 cases t:dig (xs.getD 0 0)
 ·have R:Hid (RN xs 0 2):=.inl ⟨first_not hxp t,rfl,rfl⟩
  rw[t] at HD
  generalize xs.getD 0 0=x at d0 HD
  clear t hxp
  go_wp2_with fail
  refine Calls.mono HD.out ?_
  rintro e w' ⟨rfl,rfl⟩
  go_wp2
  go_ret2
  exact⟨0,2,rfl,R.out,Drawn.refl _⟩
 ·have HT:Hid _:=t
  rw[t] at HD
  generalize xs.getD 0 0=x at d0 HD
  clear t
  go_wp2_with fail
  refine Calls.mono HD.out ?_
  rintro e w' ⟨rfl,rfl⟩
  go_wp2_with fail
  refine Calls.mono HE.out ?_
  rintro e w' ⟨m,rfl,hN,hm,rfl⟩
  by_cases hmn:m=n
  ·obtain⟨p,hG⟩:Good xs:=NumE.good (by rw[HX.out,←hmn];exact hN) hxp HT.out
   subst hmn
   have HG:Hid _:=hG
   have tm:((m:Int) !=(m:Int))=false:=by simp
   have hconv:=convStr w' g off m cap xs HX.out HC.out
   have HDC:Hid _:=digitCount xs w' HL.out (by rw[HX.out];exact hn)
   have hcnt:(xs.length:Int)-(xs.countP (· ==46):Nat)=(xs.countP dig:Nat):=by
    have:=cnt_both xs hG.digit xs.length (Nat.le_refl _)
    rw[List.take_of_length_le (Nat.le_refl _)] at this
    omega
   rw[hcnt] at HDC
   have hshort:=hG.short
   have hle:xs.countP dig≤m:=by have:=List.countP_le_length (p:=dig) (l:=xs);rw[HX.out] at this;exact this
   clear hN hG hcnt HD HE d0
   by_cases h15:15<xs.countP dig
   ·have R:Hid (RN xs 0 5):=.inr (.inl ⟨⟨p,HG.out⟩,h15,rfl,rfl⟩)
    clear hshort
    generalize xs.countP dig=q at HDC h15 hle
    have tq:(15:Int)<(q:Int):=by omega
    go_wp2_with fail
    refine Calls.mono HDC.out ?_
    rintro e w2 ⟨rfl,rfl⟩
    go_wp2
    go_ret2
    exact⟨0,5,rfl,R.out,Drawn.refl _⟩
   ·have hk16:m≤16:=by have:=hshort (by omega);rw[HX.out] at this;exact this
    have HDG:Hid (xs.countP dig≤15):=Nat.le_of_not_lt h15
    clear hshort
    generalize hq:xs.countP dig=q at HDC h15 hle
    clear hq
    have tq:¬((15:Int)<(q:Int)):=by omega
    go_wp2_with fail
    refine Calls.mono HDC.out ?_
    rintro e w2 ⟨rfl,rfl⟩
    clear HDC hconv
    go_wp2_with fail
    go_loopw [4,5,6,32] (fun nv dv bv iv W=>∃(j:Nat) (N D:Int) (B:Bool),j≤m∧nv=.int .i64 N∧dv=.int .i64 D∧bv=.bool B∧iv=.int .i64 j∧Hid (N=(nds (xs.take j)).1∧D=(nds (xs.take j)).2.1∧B=(nds (xs.take j)).2.2)∧Drawn w2 W) (fun _ _ _ iv _=>m-(intOf iv).toNat)
    case atStart=>exact⟨0,0,1,false,Nat.zero_le _,rfl,rfl,rfl,rfl,⟨rfl,rfl,rfl⟩,Drawn.refl _⟩
    case round=>
     obtain⟨j,N,D,B,hj,rfl,rfl,rfl,rfl,hND,HW2⟩:=hrel
     obtain⟨b1,b2,b3,b4⟩:=nds_small xs HG.out.digit j (by rw[HX.out];exact hj) (by omega)
     rw[←hND.out.1] at b1 b2
     rw[←hND.out.2.1] at b3 b4
     by_cases hjl:j<m
     ·have c1:wr.cell? ⟨g,off+j,none⟩=some (.int .u8 (xs.getD j 0)):=by rw[HW2.cell];exact HC.out j hjl
      have hjx:j<xs.length:=by rw[HX.out];exact hjl
      by_cases h46:xs.getD j 0=46
      ·obtain⟨q1,q2,q3⟩:=nds_point hjx h46
       have R:Hid (N=(nds (xs.take (j+1))).1∧D=(nds (xs.take (j+1))).2.1∧true=(nds (xs.take (j+1))).2.2):=⟨hND.out.1.trans q1.symm,hND.out.2.1.trans q2.symm,q3.symm⟩
       rw[h46] at c1
       clear hND q1 q2 q3 h46
       go_wp2
       go_roundw
       case rel=>exact⟨j+1,N,D,true,by omega,rfl,rfl,rfl,by go_num,R,HW2⟩
       case measure=>simp[intOf];omega
      ·have hd:=dig_true (HG.out.digit j hjx h46)
       obtain⟨q1,q2,q3⟩:=nds_digit hjx h46
       rw[←hND.out.1] at q1
       rw[←hND.out.2.2,←hND.out.2.1] at q2
       rw[←hND.out.2.2] at q3
       have t46:(xs.getD j 0==46)=false:=beq_eq_false_iff_ne.2 h46
       cases B
       ·have R:Hid (N*10+(xs.getD j 0-48)=(nds (xs.take (j+1))).1∧D=(nds (xs.take (j+1))).2.1∧false=(nds (xs.take (j+1))).2.2):=⟨q1.symm,q2.symm,q3.symm⟩
        clear hND q1 q2 q3 h46
        generalize xs.getD j 0=x at c1 hd R t46
        go_wp2
        go_roundw
        case rel=>exact⟨j+1,_,_,_,by omega,by go_num,rfl,rfl,by go_num,R,HW2⟩
        case measure=>simp[intOf];omega
       ·have R:Hid (N*10+(xs.getD j 0-48)=(nds (xs.take (j+1))).1∧D*10=(nds (xs.take (j+1))).2.1∧true=(nds (xs.take (j+1))).2.2):=⟨q1.symm,q2.symm,q3.symm⟩
        clear hND q1 q2 q3 h46
        generalize xs.getD j 0=x at c1 hd R t46
        go_wp2
        go_roundw
        case rel=>exact⟨j+1,_,_,_,by omega,by go_num,by go_num,rfl,by go_num,R,HW2⟩
        case measure=>simp[intOf];omega
     ·obtain rfl:j=m:=by omega
      have e:xs.take j=xs:=List.take_of_length_le (by rw[HX.out];exact Nat.le_refl _)
      rw[e] at hND
      have R:Hid (∀W:World,RN xs (fop .quo (floatOfInt .f64 N) (floatOfInt .f64 D) W) 0):=fun W=>.inr (.inr ⟨⟨p,HG.out⟩,HDG.out,fop_lt _ _ _ _,by rw[fb_fop,hND.out.1,hND.out.2.1],rfl⟩)
      clear hND e
      go_wp2_with fail
      refine Calls.mono (over_any _ _ _) ?_
      rintro e w3 ⟨rfl,rfl⟩
      go_wp2
      go_ret2
      exact⟨_,0,rfl,R.out _,HW2.more _⟩
  ·have R:Hid (RN xs 0 2):=.inl ⟨hN.not (by rw[HX.out];exact hmn),rfl,rfl⟩
   have tm:((m:Int) !=(n:Int))=true:=by simp;omega
   clear hN hxp HT
   go_wp2
   go_ret2
   exact⟨0,2,rfl,R.out,Drawn.refl _⟩
theorem implRN (w:World)(a:Option Addr)(n cap:Nat)(xs:List Int)(f:YS w a n xs)(hn:n≤1048576):
  Calls Tryz.prog 6 #[.slice a n cap] w fun e w'=>∃f c,e=.returned (.tuple #[.float .f64 f,.int .i64 c])∧RN xs f c∧Drawn w w':=by
 rcases Nat.eq_zero_or_pos n with h0|h0
 ·subst h0
  have:xs=[]:=List.length_eq_zero_iff.1 f.len
  subst this
  exact(implRN_zero w a cap).mono fun _ _ h=>⟨0,2,h.1,.inl ⟨fun⟨_,g⟩=>by have:=g.pos;simp at this,rfl,rfl⟩,h.2⟩
 ·rcases f.at_ with h|⟨g,off,rfl,h3,h4⟩
  ·omega
  ·exact implRN_pos w g off n cap xs f.len h0 hn f.lt h4
end Go.Proofs.YtgamjhpebmmjcaaGreatDoor
namespace Go.Proofs.YtgamjhpebmmjcaaGreatDoor
set_option maxRecDepth 100000
set_option maxHeartbeats 40000000
open Go.RowKit Flt
attribute [local go_sem] alloc_drewN setCell_drewN run_store_float fld0 fld1 fld2 mkF me_numberNode_place me_numberNode_operands me_nameNode_place me_nameNode_operands me_sameNode_place me_sameNode_operands me_sumNode_place me_sumNode_operands me_fittedNode_place me_fittedNode_operands me_fillNode_place me_fillNode_operands me_pickNode_place me_pickNode_operands me_putNode_place me_putNode_operands me_gradNode_place me_gradNode_operands me_jvpNode_place me_jvpNode_operands me_callNode_place me_callNode_operands tay_numberNode tan_numberNode tay_nameNode tan_nameNode tay_sameNode tan_sameNode tay_sumNode tan_sumNode tay_fittedNode tan_fittedNode tay_fillNode tan_fillNode tay_pickNode tan_pickNode tay_putNode tan_putNode tay_gradNode tan_gradNode tay_jvpNode tan_jvpNode tay_callNode tan_callNode
theorem valNum {E:Tqe}{ρ:Nat→Nat}{w:World}{st:LSt}{L:List TkV}{xs:List Nat}(h:Tq E ρ w st L xs)(g:Gd st){mp:Option Nat}{b:Bool}{t:Tok}(ht:t.sym≠[])(hN:NumOK t.text)(ov:Value):
  Calls Tryz.prog 216 #[.pointer (some ⟨E.T,0,none⟩),.agg #[.iface 264 (.agg #[.int .i64 (t.pos:Int),nilS,.int .i64 (cvT t).kind,strL (cvT t).text,.int .i64 ((cvT t).at_:Int)]),.map mp,.bool b],ov] w (TqR E ρ w L xs (putM st ⟨1,1,0,0,0,numK t.text⟩ t.pos)):=by
 rw[cv_tok ht]
 obtain⟨ts,tp,tt⟩:=t
 simp only at hN ⊢
 generalize kindM tt=kd at*
 unfold nilS
 have HB:Hid _:=tkbox w (.iface 264 (.agg #[.int .i64 (tp:Int),.slice none 0 0,.int .i64 kd,strL tt,.int .i64 (tp:Int)])) (.map mp) (.bool b)
 have hb:Tryz.prog.underlying 5=some (.int .u8):=by kernel_rfl
 have hcv:=fun W=>Lib.run_convert_string_bytes W 9 22 5 ⟨tt.toArray⟩ Tryz.underlying9 Tryz.underlying22 hb
 have hs:(⟨tt.toArray⟩:ByteArray).size=tt.length:=str_size tt
 rw[hs] at hcv
 have HN:Hid (∀f c,RN (numsOf tt) f c→f=numK tt):=fun f c k=>(rn_num hN k).1
 have hlen:tt.length≤1048576:=by
  have:=num_len hN
  omega
 have HP:Hid (∀W,Kept 0 0 w W→_):=fun W k=>putS (h.keep k) g ⟨1,1,0,0,0,numK tt⟩ (by show(-1000000000:Int)≤1;decide) (by show(1:Int)≤1000000000;decide) tp
 clear h g hN
 go_enter Tryz.func216,Tryz.ntmps216
 go_upto_region 5 with (go_at_call 317;refine Calls.mono (placeS _ _ _ _ _) ?_;rintro e w1 ⟨rfl,k1⟩;obtain⟨K1,y0,y1,y2,y3⟩:=HB.out _ k1;have HK1:Hid _:=K1;clear k1 K1 y2)
 have HK5:Hid (Kept 0 0 w (w1.alloc (.cells #[.int .i64 (tp:Int),.slice none 0 0,.int .i64 kd,strL tt,.int .i64 (tp:Int)] 264))):=HK1.out.trans (kept_alloc 0 0 w1 _)
 have z3:(w1.alloc (.cells #[.int .i64 (tp:Int),.slice none 0 0,.int .i64 kd,strL tt,.int .i64 (tp:Int)] 264)).cell? ⟨w1.heap.size,3,none⟩=some (strL tt):=(box_at w1 _ #[.int .i64 (tp:Int),.slice none 0 0,.int .i64 kd,strL tt,.int .i64 (tp:Int)] 264 (Kept.refl 0 0 _).chg (S:=fun _=>False) (fun c=>c)).1 3
 clear y0 y1 y3
 change Code.wp _ _ _ _ (w1.alloc (.cells #[.int .i64 (tp:Int),.slice none 0 0,.int .i64 kd,strL tt,.int .i64 (tp:Int)] 264))
 generalize (w1.alloc (.cells #[.int .i64 (tp:Int),.slice none 0 0,.int .i64 kd,strL tt,.int .i64 (tp:Int)] 264))=w5 at*
 go_wp2_with (first
  |(go_at_call 6;(refine Calls.mono (implRN _ _ _ _ (numsOf tt) (ys_conv _ _ tt) hlen) ?_;rintro e w2 ⟨f,c,rfl,hrn,hd⟩;obtain rfl:=HN.out f c hrn;have HK2:Hid _:=HK5.out.trans ((kept_conv _ _ _).trans hd.kept0);clear hrn hd))
  |(go_at_call 220;refine Calls.mono (HP.out _ HK2.out) ?_;rintro e w3 hr;have HR3:Hid _:=hr;rcases hr with⟨st2,a,ρ2,e1,rfl,_⟩|⟨c,q,e1,rfl,_⟩;rotate_left;exact And.intro rfl (TqR.afterK HK2.out HR3.out);clear e1))
 go_ret
 exact TqR.afterK HK2.out HR3.out
end Go.Proofs.YtgamjhpebmmjcaaGreatDoor
namespace Go.Proofs.YtgamjhpebmmjcaaGreatDoor
set_option maxRecDepth 100000
set_option maxHeartbeats 40000000
open Go.RowKit Flt
attribute [local go_sem] alloc_drewN setCell_drewN run_store_float fld0 fld1 fld2 mkF me_numberNode_place me_numberNode_operands me_nameNode_place me_nameNode_operands me_sameNode_place me_sameNode_operands me_sumNode_place me_sumNode_operands me_fittedNode_place me_fittedNode_operands me_fillNode_place me_fillNode_operands me_pickNode_place me_pickNode_operands me_putNode_place me_putNode_operands me_gradNode_place me_gradNode_operands me_jvpNode_place me_jvpNode_operands me_callNode_place me_callNode_operands tay_numberNode tan_numberNode tay_nameNode tan_nameNode tay_sameNode tan_sameNode tay_sumNode tan_sumNode tay_fittedNode tan_fittedNode tay_fillNode tan_fillNode tay_pickNode tan_pickNode tay_putNode tan_putNode tay_gradNode tan_gradNode tay_jvpNode tan_jvpNode tay_callNode tan_callNode
theorem valSame {E:Tqe}{ρ:Nat→Nat}{w:World}{st:LSt}{L:List TkV}{xs:List Nat}(h:Tq E ρ w st L xs)(g:Gd st){mp:Option Nat}{b:Bool}{a1:Option Addr}{n1 c1:Nat}{G cap:Nat}{ys:List Nat}(hof:OfR w ρ (.slice (some ⟨G,0,none⟩) 1 cap) ys)(hy:∀i∈ys,i<st.vs.length)(p:Nat)(op:Int):
  Calls Tryz.prog 216 #[.pointer (some ⟨E.T,0,none⟩),.agg #[.iface 261 (.agg #[.int .i64 (p:Int),.slice a1 n1 c1,.int .i64 op]),.map mp,.bool b],.slice (some ⟨G,0,none⟩) 1 cap] w (TqR E ρ w L xs (putM st (vput op (lenA st (ys.getD 0 0)) (ys.getD 0 0:Nat) 0 0) p)):=by
 have HB:Hid _:=tkbox w (.iface 261 (.agg #[.int .i64 (p:Int),.slice a1 n1 c1,.int .i64 op])) (.map mp) (.bool b)
 have hyl:ys.length=1:=hof.cells.1
 have hx0:=getD_mem (i:=0) hy (by omega)
 have hb0:=g.lenB hx0
 have HG:Hid (G<w.heap.size):=(own_blkV hof.1 (k:=G) rfl).2
 have HT:Hid (∀W,Kept 0 0 w W→W.cell? ⟨E.T,0,none⟩=some (.pointer (some ⟨E.P,0,none⟩))∧E.T<W.heap.size):=fun W k=>(h.keep k).t0
 have HO:Hid (∀W,Kept 0 0 w W→W.cell? ⟨G,0,none⟩=some (.int .i64 (ys.getD 0 0:Nat))):=fun W k=>(hof.keep k).cells.2 0 (by decide)
 have HL:Hid (∀W,Kept 0 0 w W→Calls Tryz.prog 221 #[.pointer (some ⟨E.P,0,none⟩),.int .i64 (ys.getD 0 0:Nat)] W fun e w'=>e=.returned (.int .i64 (lenA st (ys.getD 0 0)))∧Kept 0 0 w w'∧Kept 0 0 W w'):=fun W kk=>Calls.mono (lenS (h.keep kk) hx0) (fun e w' ⟨a,b⟩=>⟨a,kk.trans b,b⟩)
 have HP:Hid (∀W,Kept 0 0 w W→_):=fun W k=>putS (h.keep k) g (vput op (lenA st (ys.getD 0 0)) (ys.getD 0 0:Nat) 0 0) (by show -1000000000≤lenA st _;omega) (by show lenA st _≤1000000000;omega) p
 clear h hof hy g hx0 hb0 hyl
 generalize putM st (vput op (lenA st (ys.getD 0 0)) (ys.getD 0 0:Nat) 0 0) p=r at*
 unfold vput at HP
 generalize ys.getD 0 0=x0 at*
 generalize lenA st x0=l0 at*
 go_enter Tryz.func216,Tryz.ntmps216
 go_upto_region 12 with (go_at_call 317;refine Calls.mono (placeS _ _ _ _ _) ?_;rintro e w1 ⟨rfl,k1⟩;obtain⟨K1,y0,y1,y2,y3⟩:=HB.out _ k1;have HK1:Hid _:=k1;clear k1 K1 y1 y2)
 have k5:=HK1.out.trans (kept_alloc 0 0 w1 (.cells #[.int .i64 (p:Int),.slice a1 n1 c1,.int .i64 op] 261))
 obtain⟨K5,m0,m1,_,m3⟩:=HB.out _ k5
 have HK5:Hid (Kept 0 0 w (w1.alloc (.cells #[.int .i64 (p:Int),.slice a1 n1 c1,.int .i64 op] 261))):=K5
 have hbx:=(box_at w1 _ #[.int .i64 (p:Int),.slice a1 n1 c1,.int .i64 op] 261 (Kept.refl 0 0 _).chg (S:=fun _=>False) (fun c=>c))
 have z2:(w1.alloc (.cells #[.int .i64 (p:Int),.slice a1 n1 c1,.int .i64 op] 261)).cell? ⟨w1.heap.size,2,none⟩=some (.int .i64 op):=hbx.1 2
 have zl:=hbx.2.2
 clear hbx y0 y3 k5 K5 m0
 change Code.wp _ _ _ _ (w1.alloc (.cells #[.int .i64 (p:Int),.slice a1 n1 c1,.int .i64 op] 261))
 generalize (w1.alloc (.cells #[.int .i64 (p:Int),.slice a1 n1 c1,.int .i64 op] 261))=w5 at*
 generalize w1.heap.size=bx at*
 have c0:=HO.out _ HK5.out
 obtain⟨t0,_⟩:=HT.out _ HK5.out
 go_region_with (first
  |(go_at_call 221;refine Calls.mono (HL.out _ (HK5.out.trans (by first|exact Kept.refl 0 0 _|exact(Kept.refl 0 0 _).drew))) ?_;rintro e w6 ⟨rfl,k6,k7⟩;have c06:=HO.out _ k6;obtain⟨t06,_⟩:=HT.out _ k6;have z26:=kcell (Kept.trans (by first|exact Kept.refl 0 0 _|exact(Kept.refl 0 0 _).drew) k7) zl z2;have HK6:Hid _:=k6;clear k6 k7)
  |(go_at_call 220;refine Calls.mono (HP.out _ HK6.out) ?_;rintro e w9 hr;have HR9:Hid _:=hr;rcases hr with⟨st2,a,ρ2,e1,rfl,_⟩|⟨c,q,e1,rfl,_⟩;rotate_left;exact And.intro rfl (TqR.afterK HK6.out HR9.out);clear e1))
 all_goals
  go_wp2
  go_ret
  exact TqR.afterK HK6.out HR9.out
end Go.Proofs.YtgamjhpebmmjcaaGreatDoor
namespace Go.Proofs.YtgamjhpebmmjcaaGreatDoor
set_option maxRecDepth 100000
set_option maxHeartbeats 40000000
open Go.RowKit Flt
theorem rw_slice {W:World}{M:Nat→Prop}{sl:Value}{vs:List Value}(f:Rw W M sl vs):∃a c,sl=.slice a vs.length c:=by
 rcases f.1.2 with⟨h,h0⟩|⟨g,cap,cur,h1,_⟩
 ·exact⟨none,0,by rw[h,h0]⟩
 ·exact⟨_,cap,h1⟩
end Go.Proofs.YtgamjhpebmmjcaaGreatDoor
