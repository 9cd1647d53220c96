import Derived.Test.YtgamjhpebmmjcaaGreatDoorP19
import Derived.Test.YtgamjhpebmmjcaaGreatDoorP13
import Derived.Deep.AppendLies
import Derived.Deep.DeepCutAuto
import Derived.Test.YtgamjhpebmmjcaaGreatDoorP25
import Derived.Test.YtgamjhpebmmjcaaGreatDoorP26
namespace Go.Proofs.YtgamjhpebmmjcaaGreatDoor
set_option maxRecDepth 100000
set_option maxHeartbeats 40000000
open Go.RowKit Flt
attribute [local go_sem] alloc_drewN setCell_drewN run_store_float
structure PW (W w4:World)(R g0 G g cap:Nat)(l:List Spn)(n:Nat)(pl:List Spn):Prop where
 fr:FrP W R g cap l
 pa:PA W G n pl
 ch:Chg (fun b=>b=R∨b=g0∨b=G∨w4.heap.size≤b) w4 W
 gg:g=g0∨w4.heap.size≤g
 cs:R≠G∧g0≠G∧G<w4.heap.size
theorem PW.keep {W W' w4:World}{R g0 G g cap n:Nat}{l pl:List Spn}(f:PW W w4 R g0 G g cap l n pl)(k:Kept 0 0 W W'):PW W' w4 R g0 G g cap l n pl:=
 ⟨f.fr.keepC (k.chg (S:=fun _=>False)) (fun h=>h) (fun h=>h),f.pa.keepC (k.chg (S:=fun _=>False)) (fun h=>h),Chg.andThen f.ch k.chg,f.gg,f.cs⟩
theorem PW.next {W W' w4:World}{R g0 G g cap g' cap' n:Nat}{l l' pl:List Spn}(f:PW W w4 R g0 G g cap l n pl)(F:FrP W' R g' cap' l')(k:Chg (fun b=>b=R∨b=g) W W')(hg:g'=g∨W.heap.size≤g'):PW W' w4 R g0 G g' cap' l' n pl:=by
 have h1:=f.gg
 have h2:=f.cs
 have h3:=f.ch.size
 refine⟨F,f.pa.keepC k (by omega),Chg.andThen f.ch (k.mono fun b _ h=>by omega),by omega,f.cs⟩
theorem PW.put {W w4:World}{R g0 G g cap n:Nat}{l pl:List Spn}(f:PW W w4 R g0 G g cap l n pl){i:Nat}(hi:i<n)(s:Spn):PW (put2p W G (i*2) s) w4 R g0 G g cap l n (pl.set i s):=by
 have h1:=f.gg
 have h2:=f.cs
 have k:=(put2p_kept W G (i*2) s).chg1 (S:=fun b=>b=G) rfl
 exact⟨f.fr.keepC k (by omega) (by omega),f.pa.step i hi s,Chg.andThen f.ch (k.mono fun b _ h=>by omega),f.gg,f.cs⟩
theorem placesOf (w:World)(b1 b2 b3:Option Addr)(n1 c1 n2 c2 n3 c3:Nat)(ins:List Int)(vs:List Vl)(outs:List Int)(f:GS w b1 n1 b2 n2 b3 n3 ins vs outs)(hok:okG ins vs outs=true):
  Calls Tryz.prog 40 #[gagg b1 n1 c1 b2 n2 c2 b3 n3 c3] w fun e w'=>PsO w n2 (plUp vs (plTo vs outs n2) n2 n2) e w':=by
 obtain⟨⟨hl1,hl2,hl3⟩,_,hv,_,hcl⟩:=okG_parts hok
 have hvl:vs.length=n2:=f.v.len
 have hn2:n2≤2000:=by omega
 have HV:Hid (∀j,j<n2→1≤(vs.getD j Vl.zero).len):=fun j hj=>(okV_len (hv j (by omega))).1
 have HS:Hid (sumL vs n2≤50000):=by
  show _≤_
  rw[sumL_cells vs n2 (by omega),List.take_of_length_le (by omega)];exact hcl
 have HSP:Hid (∀j,j<n2→InB (spanOf vs (plTo vs outs n2) j)∧1≤(spanOf vs (plTo vs outs n2) j).len):=fun j hj=>by
  have h1:=pl_bound (outs:=outs) HV.out HS.out n2 (Nat.le_refl _) j hj
  have h2:=sumL_mono HV.out (i:=j+1) (j:=n2) (by omega) (by omega)
  have h3:=HV.out j hj
  have h4:=HS.out
  refine⟨⟨h1.1,?_,?_⟩,h3⟩
  ·show 0≤(vs.getD j Vl.zero).len;omega
  ·show(plTo vs outs n2).getD j 0+(vs.getD j Vl.zero).len≤50000;omega
 have HLL:Hid (vs.length=n2):=hvl
 have HOK:Hid _:=hok
 have k0:=kept_alloc 0 0 w (gbox b1 n1 c1 b2 n2 c2 b3 n3 c3)
 have HB:Hid _:=g0_start w (.slice b1 n1 c1) (.slice b2 n2 c2) (.slice b3 n3 c3)
 have HF:Hid _:=f.keep k0
 have HK:Hid _:=k0
 have HZ:Hid ((w.alloc (gbox b1 n1 c1 b2 n2 c2 b3 n3 c3)).heap.size=w.heap.size+1):=by show _=_;simp
 clear f hok hl1 hl2 hl3 hv hvl hcl k0
 go_enter Tryz.func40,Tryz.ntmps40
 go_upto_region 1 with fail
 generalize w.alloc (gbox b1 n1 c1 b2 n2 c2 b3 n3 c3)=w1 at HB HF HK HZ ⊢
 go_wp2_with fail
 refine Calls.mono (allFreeS w1) ?_
 rintro e w2 ⟨R,g0,rfl,F2,k2,hR2,hg2⟩
 obtain⟨_,q0,q1,q2⟩:=HB.out.keep k2
 have HDW:Hid _:=doneWith w2 b1 b2 b3 n1 c1 n2 c2 n3 c3 ins vs outs (HF.out.keep k2) HOK.out
 have HF2:Hid _:=F2
 have HK2:Hid _:=k2
 clear F2 k2
 go_wp2_with fail
 refine Calls.mono HDW.out ?_
 rintro e w3 ⟨D,B,u,rfl,hD,hD1,hD2,hD3,k3⟩
 have HD3:Hid _:=hD.rd
 have HK3:Hid _:=HK2.out.trans k3
 have HF3:Hid _:=HF2.out.keepC (k3.chg (S:=fun _=>False)) (fun h=>h) (fun h=>h)
 have hm:=make_Spn n2 w3 (by omega)
 have k4:=kept_alloc 0 0 w3 (.cells (madeCells #[.int .i64 0,.int .i64 0] (n2*2)) 92)
 have HK4:Hid _:=HK3.out.trans k4
 have HD4:Hid (DRd (w3.alloc (.cells (madeCells #[.int .i64 0,.int .i64 0] (n2*2)) 92)) D B w3.heap.size n2 (doneL vs outs n2)):=hD.rd.keepC (k4.chg (S:=fun _=>False)) (fun h=>h) (fun _ _ _ h=>h)
 have HPW:Hid (PW (w3.alloc (.cells (madeCells #[.int .i64 0,.int .i64 0] (n2*2)) 92)) (w3.alloc (.cells (madeCells #[.int .i64 0,.int .i64 0] (n2*2)) 92)) R g0 w3.heap.size g0 1 [Spn.mk 0 50000] n2 (plUp vs (plTo vs outs n2) n2 0)):=
  ⟨HF3.out.keepC (k4.chg (S:=fun _=>False)) (fun h=>h) (fun h=>h),by rw[plUp_zero];exact PA.made w3 n2,(Kept.refl 0 0 _).chg,.inl rfl,by have:=HF3.out.lt;have:=HF3.out.row.lt;refine⟨by omega,by omega,by simp⟩⟩
 have HZ4:Hid ((w3.alloc (.cells (madeCells #[.int .i64 0,.int .i64 0] (n2*2)) 92)).heap.size=w3.heap.size+1∧w1.heap.size≤R∧w1.heap.size≤g0∧R<D∧g0<D∧D<B∧B≤w3.heap.size∧w1.heap.size≤w3.heap.size):=⟨by simp,hR2,hg2,by have:=HF2.out.lt;omega,by have:=HF2.out.row.lt;omega,hD2,hD3,HK3.out.size⟩
 obtain⟨_,p0,p1,p2⟩:=HB.out.keep HK3.out
 obtain⟨_,r0,r1,r2⟩:=HB.out.keep HK4.out
 clear HDW hD hD1 hD2 hD3 k3 k4 hR2 hg2 HF3 HD3 HF2 HK2 q0 q1 q2
 go_wp2_with fail
 clear p0 p1 p2 r0 r1 r2 hm
 generalize w3.alloc (.cells (madeCells #[.int .i64 0,.int .i64 0] (n2*2)) 92)=w4 at HK4 HD4 HPW HZ4 ⊢
 obtain⟨G,hG⟩:∃G,G=w3.heap.size:=⟨_,rfl⟩
 rw[←hG] at HD4 HPW HZ4 ⊢
 clear hG HK3
 go_loopw [20] (fun x W=>∃(i g cap:Nat) (l:List Spn),i≤n2∧x=.int .i64 i∧Hid (PW W w4 R g0 G g cap l n2 (plUp vs (plTo vs outs n2) n2 i))∧Hid (PlI vs (plTo vs outs n2) l (fun j=>j<i∧(i:Int)≤lastM vs outs j))) (fun x _=>n2-(intOf x).toNat)
 case atStart=>exact⟨0,g0,1,_,Nat.zero_le _,rfl,HPW,(pl_start vs (plTo vs outs n2)).congr (fun j=>⟨fun h=>h.elim,fun h=>by omega⟩)⟩
 case round=>
  obtain⟨i,g,cap,l,hi,rfl,hW,hP⟩:=hrel
  clear HPW
  have HKW:Hid (Kept 0 0 w1 wr):=Chg.kept HK4.out hW.out.ch (fun b e=>by have:=HZ4.out;omega)
  obtain⟨_,q0,q1,q2⟩:=HB.out.keep HKW.out
  by_cases hlt:i<n2
  ·obtain⟨ga,off,rfl,hga,_,_,hat⟩:=(HF.out.keep HKW.out).v.at_idx hlt
   obtain⟨k,hk,hsp,hP2⟩:=pl_take HV.out HS.out hlt hP.out
   have HP2:Hid _:=hP2
   have hlen:=HV.out i hlt
   have HSPI:Hid (∀s,s=spanOf vs (plTo vs outs n2) i→(plUp vs (plTo vs outs n2) n2 i).set i s=plUp vs (plTo vs outs n2) n2 (i+1)):=fun s hs=>by rw[hs];exact plUp_set _ _ _ _
   rw[←hsp] at HSPI
   generalize hve:vs.getD i Vl.zero=v at hat hk hsp HP2 hlen HSPI
   have HTK:Hid (∀W,Kept 0 0 wr W→Calls Tryz.prog 72 #[.pointer (some ⟨R,0,none⟩),.int .i64 v.len] W fun e w'=>TkO W R g k l v.len e w'):=fun W kW=>
    takeP W R g cap k l v.len (hW.out.keep kW).fr hP.out.fl.runs (by have:=hP.out.few;omega) hlen hP.out.fl.top hk
   obtain⟨y0,y1,y2,y3,y4,y5⟩:=hat
   obtain⟨z0,z1,z2,z3,z4,z5⟩:=vbox_atJ wr v
   simp only[Nat.zero_add] at z1 z2 z3 z4 z5
   have HW1:Hid _:=hW.out.keep (kept_alloc 0 0 wr (vbox v.op v.len v.a v.b v.c v.k))
   clear hP2 hsp hk hW hP hve hlen
   go_wp2_with fail
   clear y0 y1 y2 y3 y4 y5 z0 z1 z2 z3 z4 z5 hga q0 q1 q2
   refine Calls.mono (HTK.out _ (kept_alloc 0 0 wr _)) ?_
   rintro e w5 ⟨g',cap',rfl,F5,C5,e5⟩
   obtain⟨s,hs⟩:∃s,s=Spn.mk (l.getD k Spn.zero).off v.len:=⟨_,rfl⟩
   rw[←hs] at HSPI
   have hs1:s.off=(l.getD k Spn.zero).off:=by rw[hs]
   have hs2:s.len=v.len:=by rw[hs]
   rw[←hs1,←hs2]
   have HW5:Hid _:=HW1.out.next F5 C5 e5
   have HW6:Hid _:=HW5.out.put hlt s
   rw[HSPI.out s rfl] at HW6
   obtain⟨d0,d1⟩:=HW5.out.pa.at_ i hlt
   have df:=HW5.out.pa.free
   generalize hqq:(plUp vs (plTo vs outs n2) n2 i).getD i Spn.zero=qq at d0 d1
   have hi1:(0:Int)≤(i:Int):=by omega
   have hi2:(i:Int)<(n2:Int):=by omega
   have HP3:Hid (PlI vs (plTo vs outs n2) (takeL l k v.len) (heldQ vs outs n2 i 0)):=HP2.out.congr (heldQ_start vs outs n2 i)
   generalize takeL l k v.len=l2 at HW5 HW6 HP3
   clear HW1 HTK F5 C5 e5 HP2 HSPI HKW hqq hs hs1 hs2
   go_upto_region 8 with fail
   clear d0 d1 df
   obtain⟨a,c,cD4,hIS4⟩:=HD4.out.2 i hlt
   have HIS:Hid _:=hIS4
   have hD4:=HD4.out.1
   have cD:(put2p w5 G (i*2) s).cell? ⟨D,i,none⟩=some (.slice a (doneL vs outs n2 i).length c):=by
    rw[HW6.out.ch.cell (p:=⟨D,i,none⟩) hD4 (by have:=HZ4.out;show ¬(D=R∨D=g0∨D=G∨w4.heap.size≤D);omega)];exact cD4
   have hml:=doneL_len vs outs n2 i
   have HIT:Hid (∀q,q<(doneL vs outs n2 i).length→∃j0:Nat,(doneL vs outs n2 i).getD q 0=(j0:Int)∧j0≤i∧heldQ vs outs n2 i q j0):=fun q hq=>heldQ_it hq
   have HNX:Hid (∀q j0,q<(doneL vs outs n2 i).length→(doneL vs outs n2 i).getD q 0=((j0:Nat):Int)→∀j,(heldQ vs outs n2 i q j∧j≠j0)↔heldQ vs outs n2 i (q+1) j):=fun q j0 hq e j=>heldQ_next hq e j
   have HEN:Hid (∀j,heldQ vs outs n2 i (doneL vs outs n2 i).length j↔(j<i+1∧((i+1:Nat):Int)≤lastM vs outs j)):=fun j=>heldQ_end HLL.out hlt j
   obtain⟨m,hm⟩:∃m,m=(doneL vs outs n2 i).length:=⟨_,rfl⟩
   rw[←hm] at HIS cD hml HIT HNX HEN
   clear hm cD4 hIS4 hD4
   unfold put2p at HW6 cD
   generalize (w5.setCell ⟨G,i*2,none⟩ (.int .i64 s.off)).setCell ⟨G,i*2+1,none⟩ (.int .i64 s.len)=w6 at HW6 cD ⊢
   clear HW5
   go_wp2_with fail
   clear cD
   go_loopw [37] (fun x W=>∃(q g cap:Nat) (l:List Spn),q≤m∧x=.int .i64 q∧Hid (PW W w4 R g0 G g cap l n2 (plUp vs (plTo vs outs n2) n2 (i+1)))∧Hid (PlI vs (plTo vs outs n2) l (heldQ vs outs n2 i q))) (fun x _=>m-(intOf x).toNat)
   case atStart=>exact⟨0,g',cap',l2,Nat.zero_le _,rfl,HW6,HP3⟩
   case round=>
    obtain⟨q,g,cap,l,hq,rfl,hW,hP⟩:=hrel
    clear HW6 HP3
    by_cases hqm:q<m
    ·rcases (HIS.out.keepC hW.out.ch (fun b h1 h2=>by have:=HZ4.out;omega)).at_ with z|⟨gd,od,rfl,_,_,_,z4⟩
     ·omega
     have cq:=z4 q hqm
     obtain⟨j0,hj0,hji,hheld⟩:=HIT.out q hqm
     rw[hj0] at cq
     obtain⟨e0,e1⟩:=hW.out.pa.at_ j0 (by omega)
     rw[plUp_at vs _ (show j0<n2 by omega),if_pos (show j0<i+1 by omega)] at e0 e1
     have hin:=HSP.out j0 (by omega)
     have HRR:Hid (∀l' i',l'=relF (l.take i') (spanOf vs (plTo vs outs n2) j0) (l.drop i')→LbS l (spanOf vs (plTo vs outs n2) j0).off i'→PlI vs (plTo vs outs n2) l' (heldQ vs outs n2 i (q+1))):=fun l' i' el lb=>by
      rw[el]
      have hf:=hP.out
      rw[←List.take_append_drop i' l] at hf
      exact(pl_rel hf hheld rfl hin.2 hin.1.1 hin.1.2.2 (lbs_take lb) (lbs_drop lb)).congr (HNX.out q j0 hqm hj0)
     have HRL:Hid _:=releaseS wr R g cap l (spanOf vs (plTo vs outs n2) j0) hW.out.fr hP.out.fl.runs (by have:=hP.out.few;omega) hP.out.inb hin.1
     generalize spanOf vs (plTo vs outs n2) j0=x at e0 e1 HRR HRL
     have hj1:(0:Int)≤(j0:Int):=by omega
     have hj2:(j0:Int)<(n2:Int):=by omega
     have HWW:Hid _:=hW.out
     clear z4 hj0 hheld hin hW hP
     go_wp2_with fail
     refine Calls.mono HRL.out ?_
     rintro e w7 ⟨i',g',cap',rfl,lb,F7,C7,e7⟩
     have HR1:Hid _:=HWW.out.next F7 C7 e7
     have HR2:Hid _:=HRR.out _ i' rfl lb
     clear F7 C7 e7 lb HRL HRR HWW
     go_wp2_with fail
     go_roundw
     case rel=>exact⟨q+1,g',cap',_,by omega,by go_num,HR1,HR2⟩
     case measure=>simp[intOf];omega
    ·obtain rfl:q=m:=by omega
     have HR2:Hid (PlI vs (plTo vs outs n2) l (fun j=>j<i+1∧((i+1:Nat):Int)≤lastM vs outs j)):=hP.out.congr HEN.out
     clear hP
     go_wp2_with fail
     go_roundw
     case rel=>exact⟨i+1,g,cap,l,by omega,by go_num,hW,HR2⟩
     case measure=>simp[intOf];omega
  ·obtain rfl:i=n2:=by omega
   have HW9:Hid _:=hW.out
   clear hW hP
   go_wp2_with fail
   go_ret
   unfold PsO
   exact⟨G,rfl,HW9.out.pa,by have:=HZ4.out;have:=HZ.out;omega,HK.out.trans HKW.out⟩
end Go.Proofs.YtgamjhpebmmjcaaGreatDoor
namespace Go.Proofs.YtgamjhpebmmjcaaGreatDoor
set_option maxRecDepth 100000
set_option maxHeartbeats 40000000
open Go.RowKit Flt
attribute [local go_sem] alloc_drewN setCell_drewN run_store_float
theorem max_i (ats:Array TypeId)(ty:TypeId)(x y:Int):Builtin.max_ ats ty #[.int .i64 x,.int .i64 y]=pure (.int .i64 (if y>x then y else x)):=rfl
theorem step_eq {vs:List Vl}{ps:List Int}{n i:Nat}(hi:i<n)(h:∀k,k<cnt (vs.getD i Vl.zero).op→0≤fld (vs.getD i Vl.zero) k∧fld (vs.getD i Vl.zero) k<i):stepPl (plUp vs ps n n) (vs.getD i Vl.zero) (ps.getD i 0)=steM vs ps i:=by
 unfold stepPl steM
 generalize vs.getD i Vl.zero=v at h ⊢
 have hc:=cnt_le v.op
 have hp:∀k,k<cnt v.op→(plUp vs ps n n).getD (fld v k).toNat Spn.zero=spanOf vs ps (fld v k).toNat:=fun k hk=>by
  have:=h k hk
  rw[plUp_at vs ps (by omega),if_pos (by omega)]
 generalize hcc:cnt v.op=c at*
 rcases (by omega:c=0∨c=1∨c=2∨c=3) with rfl|rfl|rfl|rfl
 ·rfl
 ·have h0:=hp 0 (by omega)
  have e0:fld v 0=v.a:=rfl
  rw[e0] at h0
  simp only[opTo,e0,h0]
  rfl
 ·have h0:=hp 0 (by omega)
  have h1:=hp 1 (by omega)
  have e0:fld v 0=v.a:=rfl
  have e1:fld v 1=v.b:=rfl
  rw[e0] at h0
  rw[e1] at h1
  simp only[opTo,e0,e1,h0,h1]
  rfl
 ·have h0:=hp 0 (by omega)
  have h1:=hp 1 (by omega)
  have h2:=hp 2 (by omega)
  have e0:fld v 0=v.a:=rfl
  have e1:fld v 1=v.b:=rfl
  have e2:fld v 2=v.c:=rfl
  rw[e0] at h0
  rw[e1] at h1
  rw[e2] at h2
  simp only[opTo,e0,e1,e2,h0,h1,h2]
  rfl
end Go.Proofs.YtgamjhpebmmjcaaGreatDoor
namespace Go.Proofs.YtgamjhpebmmjcaaGreatDoor
set_option maxRecDepth 100000
set_option maxHeartbeats 40000000
open Go.RowKit Flt
attribute [local go_sem] alloc_drewN setCell_drewN run_store_float max_i
def PLi (w:World)(n1 n2 n3:Nat)(bud pk:Int)(ins:List Int)(ss:List Ste)(os:List Spn)(e:Ending)(w':World):Prop:=
 (bud<pk→e=.returned (.tuple #[cnl,.int .i64 7]))∧
 (¬bud<pk→∃a1 d1 a2 d2 a3 d3,e=.returned (.tuple #[cagg a1 n1 d1 a2 n2 d2 a3 n3 d3 pk,.int .i64 0])∧OCd w' w.heap.size (.slice a1 n1 d1) (.slice a2 n2 d2) (.slice a3 n3 d3) ins ss os)∧Kept 0 0 w w'
end Go.Proofs.YtgamjhpebmmjcaaGreatDoor
namespace Go.Proofs.YtgamjhpebmmjcaaGreatDoor
set_option maxRecDepth 100000
set_option maxHeartbeats 40000000
open Go.RowKit Flt
attribute [local go_sem] alloc_drewN setCell_drewN run_store_float run_store_func
def PRb (w:World)(o1:Option Addr)(d1 n1 n3:Nat)(ins:List Int)(M:List Vl×List Int)(e:Ending)(w':World):Prop:=
 ∃G1 G2 n2 d2 G3 d3 us,e=.returned (.tuple #[gagg o1 n1 d1 (some ⟨G2,0,none⟩) n2 d2 (some ⟨G3,0,none⟩) n3 d3,.int .i64 0])∧PG w' G1 G2 G3 n1 n2 n3 ins us M.2∧Lk us M.1∧Kb us∧(w.heap.size≤G1∧w.heap.size≤G2∧w.heap.size≤G3)∧Kept 0 0 w w'
structure PIb (W w:World)(o1:Option Addr)(A O R G1 n1 d1 G2 n2 d2 G3 n3 d3:Nat)(ins:List Int)(us:List Vl)(M:List Vl×List Int):Prop where
 pg:PG W G1 G2 G3 n1 n2 n3 ins us M.2
 lk:Lk us M.1
 kb:Kb us
 arr:AP W A
 out:RB W O (.slice o1 n1 d1) (.slice (some ⟨G2,0,none⟩) n2 d2) (.slice (some ⟨G3,0,none⟩) n3 d3)
 res:RB W R (.slice none 0 0) (.slice none 0 0) (.slice none 0 0)
 lo:(w.heap.size≤G1∧w.heap.size≤G2∧w.heap.size≤G3)∧(w.heap.size≤A∧w.heap.size≤O∧w.heap.size≤R)
 ne:(G2≠A∧G3≠A∧G1≠A)∧(G2≠O∧G3≠O∧G1≠O)∧(G2≠R∧G3≠R∧G1≠R)∧(O≠A∧O≠R∧A≠R)
 ke:Kept 0 0 w W
theorem PIb.next {W W' W2 w:World}{o1:Option Addr}{A O R G1 n1 d1 G2 n2 d2 G3 n3 d3 G2' n2' c2':Nat}{ins:List Int}{us us':List Vl}{M M':List Vl×List Int}(f:PIb W w o1 A O R G1 n1 d1 G2 n2 d2 G3 n3 d3 ins us M)(k:Kept 0 0 W W')
  (hp:PG W2 G1 G2' G3 n1 n2' n3 ins us' M'.2) (hl:Lk us' M'.1) (hk:Kb us') (hc:Chg (fun b=>b=G2∨b=G3) W' W2) (hg:G2'=G2∨W'.heap.size≤G2'):RB W2 O (.slice o1 n1 d1) (.slice (some ⟨G2,0,none⟩) n2 d2) (.slice (some ⟨G3,0,none⟩) n3 d3)∧PIb (Put3O W2 O (.slice o1 n1 d1) (.slice (some ⟨G2',0,none⟩) n2' c2') (.slice (some ⟨G3,0,none⟩) n3 d3)) w o1 A O R G1 n1 d1 G2' n2' c2' G3 n3 d3 ins us' M':=by
 obtain⟨⟨a1,a2,a3⟩,a4,a5,a6⟩:=f.lo
 obtain⟨⟨e1,e2,e3⟩,⟨e4,e5,e6⟩,⟨e7,e8,e9⟩,e10,e11,e12⟩:=f.ne
 have hA:=f.arr.lt
 have hO:=f.out.sz
 have hR:=f.res.sz
 have hz:=k.size
 have o2:=(f.out.keep k).keepC hc (by omega)
 have kp:=put3_kept W2 O (.slice o1 n1 d1) (.slice (some ⟨G2',0,none⟩) n2' c2') (.slice (some ⟨G3,0,none⟩) n3 d3)
 have cp:Chg (fun b=>b=O) W2 (Put3O W2 O (.slice o1 n1 d1) (.slice (some ⟨G2',0,none⟩) n2' c2') (.slice (some ⟨G3,0,none⟩) n3 d3)):=kp.chg1 rfl
 have g2lo:w.heap.size≤G2':=by have:=f.ke.size;rcases hg with c|c<;>omega
 have hGA:G2'≠A:=by rcases hg with c|c<;>omega
 have hGO:G2'≠O:=by rcases hg with c|c<;>omega
 have hGR:G2'≠R:=by rcases hg with c|c<;>omega
 obtain⟨y0,y1,y2⟩:=put3_0 W2 O _ _ _ o2.q0 o2.q1 o2.q2 (.slice o1 n1 d1) (.slice (some ⟨G2',0,none⟩) n2' c2') (.slice (some ⟨G3,0,none⟩) n3 d3)
 refine⟨o2,⟨⟨hp.i.keep kp (by omega),hp.v.keep kp (by omega),hp.o.keep kp (by omega),hp.d12,hp.d13,hp.d23⟩,hl,hk,((f.arr.keepC (S:=fun _=>False) k.chg id).keepC hc (by omega)).keepC cp (by omega),⟨Nat.lt_of_lt_of_le o2.sz kp.size,y0,y1,y2,?_,?_,?_⟩,((f.res.keep k).keepC hc (by omega)).keepC cp (by omega),⟨⟨a1,g2lo,a3⟩,a4,a5,a6⟩,⟨⟨hGA,e2,e3⟩,⟨hGO,e5,e6⟩,⟨hGR,e8,e9⟩,e10,e11,e12⟩,?_⟩⟩
 ·simp[o2.f0]
 ·simp[o2.f1]
 ·simp[o2.f2]
 ·refine(Chg.kept (S:=fun b=>b=G2∨b=G3) (f.ke.trans k) hc (fun i hi=>by omega)).new kp (by omega)
theorem po_nextB {w:World}{b1:Option Addr}{g1 n1 c1 g2 g3 n3 c3:Nat}{ins:List Int}{us:List Vl}{M:List Vl×List Int}{p:Int}{e:Ending}{w':World}(h:POb w b1 g1 n1 c1 g2 g3 n3 c3 ins (passM p us M.2) e w')(hl:Lk us M.1)(k1:Kb us)(k2:Kb M.1):POb w b1 g1 n1 c1 g2 g3 n3 c3 ins (passM p M.1 M.2) e w':=by
 obtain⟨G2,n2,c2,us',h1,h2,h3,h4,h5,h6⟩:=h
 have q:=passM_lk (outs:=M.2) p hl k1 k2
 exact⟨G2,n2,c2,us',h1,by rw[←q.2];exact h2,h3.trans q.1,h4,h5,h6⟩
theorem implOptB (w:World)(b1 b2 b3 o1:Option Addr)(d1 n1 c1 n2 c2 n3 c3 plo phi:Nat)(ap:Option Addr)(m cp:Nat)(ins:List Int)(vs:List Vl)(outs ps:List Int)(f:GS w b1 n1 b2 n2 b3 n3 ins vs outs)(hlt:Kb vs)(h:okG ins vs outs=true)(hp:IS w plo phi ap m ps)(hm:m≤50)(hi5:ps.all (idxB · 5)=true)(h02:∀k,k<m→ps.getD k 0=0∨ps.getD k 0=2)
  (hcp:∀W,Kept 0 0 w W→Calls Tryz.prog 39 #[gagg b1 n1 c1 b2 n2 c2 b3 n3 c3] W fun e w'=>∃G1 G2 d2 G3 d3,e=.returned (gagg o1 n1 d1 (some ⟨G2,0,none⟩) n2 d2 (some ⟨G3,0,none⟩) n3 d3)∧PG w' G1 G2 G3 n1 n2 n3 ins vs outs∧(W.heap.size≤G1∧W.heap.size≤G2∧W.heap.size≤G3)∧Kept 0 0 W w'):
  Calls Tryz.prog 24 #[gagg b1 n1 c1 b2 n2 c2 b3 n3 c3,.slice ap m cp] w fun e w'=>PRb w o1 d1 n1 n3 ins (optTo vs outs ps m) e w':=by
 have hm':¬(50:Int)<(m:Int):=by omega
 obtain⟨⟨hl1,hl2,hl3⟩,_,_,_,_⟩:=okG_parts h
 have hgs:=f
 have hvl:vs.length=n2:=f.v.len
 have k0:=kept_alloc 0 0 w (gbox b1 n1 c1 b2 n2 c2 b3 n3 c3)
 have k0':=kept_alloc 0 0 (w.alloc (gbox b1 n1 c1 b2 n2 c2 b3 n3 c3)) nbox
 have hK:=k0.trans k0'
 have HX:Hid _:=implValid _ _ _ _ n1 c1 n2 c2 n3 c3 ins vs outs (hgs.keep hK)
 rw[h] at HX
 have HI:Hid (∀W,Kept 0 0 w W→Calls Tryz.prog 37 #[.int .i64 5,.slice ap m cp] W fun e w'=>e=.returned (.bool true)∧W=w'):=fun W kW=>by
  have:=allIdxS W _ _ ap m cp 5 ps (hp.keep kW (.inr (.inr (Nat.le_refl _)))) (by omega)
  rw[hi5] at this
  exact this
 have HPS:Hid _:=hp
 have HP5:Hid (∀k,k<m→0≤ps.getD k 0∧ps.getD k 0<5):=fun k hk=>by
  have:=List.all_eq_true.1 hi5 _ (getD_memJ (xs:=ps) (q:=k) (by rw[hp.len];exact hk))
  exact of_decide_eq_true this
 have HCP:Hid _:=hcp
 have H02:Hid _:=h02
 have HOK:Hid (∀k,okG ins (optTo vs outs ps k).1 (optTo vs outs ps k).2=true):=fun k=>optTo_ok ps h k
 have HKB:Hid (∀k,Kb (optTo vs outs ps k).1):=fun k=>optTo_kb ps hlt k
 have HB:Hid _:=(g0_start w (.slice b1 n1 c1) (.slice b2 n2 c2) (.slice b3 n3 c3)).keep k0'
 have hN:=rb_start (w.alloc (gbox b1 n1 c1 b2 n2 c2 b3 n3 c3))
 rw[show(w.alloc (gbox b1 n1 c1 b2 n2 c2 b3 n3 c3)).heap.size=w.heap.size+1 by simp] at hN
 have HN:Hid _:=hN
 have HK:Hid _:=hK
 have HZ1:Hid (((w.alloc (gbox b1 n1 c1 b2 n2 c2 b3 n3 c3)).alloc nbox).heap.size=w.heap.size+1+1):=by show _=_;simp
 have HK0:Hid (Kb vs):=hlt
 clear hK h f hN hp hi5 hgs k0 k0' hlt hl1 hl2 hl3 hvl hcp h02
 obtain⟨_,p0,p1,p2⟩:=HB.out
 go_enter Tryz.func24,Tryz.ntmps24
 go_wp2_with fail
 clear p0 p1 p2
 generalize (w.alloc (gbox b1 n1 c1 b2 n2 c2 b3 n3 c3)).alloc nbox=w1 at HB HN HK HX HZ1 ⊢
 refine Calls.mono HX.out ?_
 rintro e w2 ⟨rfl,k2⟩
 have HK2:Hid _:=HK.out.trans k2
 have HB2:Hid _:=HB.out.keep k2
 have HN2:Hid _:=HN.out.keep k2
 have HZ2:Hid (w.heap.size+1+1≤w2.heap.size):=by have:=k2.size;rw[HZ1.out] at this;exact this
 clear k2 HX HK HB HN HZ1
 go_wp2_with fail
 refine Calls.mono (HI.out w2 HK2.out) ?_
 rintro e w3 ⟨rfl,rfl⟩
 go_wp2_with fail
 refine Calls.mono (allPasses _) ?_
 rintro e w4 ⟨rfl,k4⟩
 have ka:=kept_alloc 0 0 w4 apbox
 have HAP:Hid _:=ap_start w4
 have HK5:Hid _:=HK2.out.trans (k4.trans ka)
 have HB5:Hid _:=HB2.out.keep (k4.trans ka)
 have HN5:Hid _:=HN2.out.keep (k4.trans ka)
 have HZ5:Hid (w.heap.size+1+1≤w4.heap.size∧(w4.alloc apbox).heap.size=w4.heap.size+1):=⟨by have:=HZ2.out;have:=k4.size;omega,by simp⟩
 obtain⟨_,p0,p1,p2⟩:=HB5.out
 clear k4 ka HK2 HB2 HN2 HZ2
 go_wp2_with fail
 clear p0 p1 p2
 generalize w4.alloc apbox=w5 at HAP HK5 HB5 HN5 HZ5 ⊢
 refine Calls.mono (HCP.out w5 HK5.out) ?_
 rintro e w6 ⟨G1,G2,d2,G3,d3,rfl,hPG,hlo,k6⟩
 have kb:=kept_alloc 0 0 w6 (gbox o1 n1 d1 (some ⟨G2,0,none⟩) n2 d2 (some ⟨G3,0,none⟩) n3 d3)
 have HPI:Hid (PIb (w6.alloc (gbox o1 n1 d1 (some ⟨G2,0,none⟩) n2 d2 (some ⟨G3,0,none⟩) n3 d3)) w o1 w4.heap.size w6.heap.size (w.heap.size+1) G1 n1 d1 G2 n2 d2 G3 n3 d3 ins vs (optTo vs outs ps 0)):=by
  have h5:=HZ5.out
  have h6:=k6.size
  have q1:=hPG.i.lt
  have q2:=hPG.v.lt
  have q3:=hPG.o.lt
  refine⟨hPG.keep kb,Lk.refl _,HK0.out,HAP.out.keepC (S:=fun _=>False) (k6.trans kb).chg id,rb_box w6 _ _ _,HN5.out.keep (k6.trans kb),⟨⟨by omega,by omega,by omega⟩,by omega,by omega,by omega⟩,⟨⟨by omega,by omega,by omega⟩,⟨by omega,by omega,by omega⟩,⟨by omega,by omega,by omega⟩,by omega,by omega,by omega⟩,HK5.out.trans (k6.trans kb)⟩
 clear hPG hlo k6 kb HAP HK5 HB5 HN5 HCP HI
 go_wp2_with fail
 generalize w6.alloc (gbox o1 n1 d1 (some ⟨G2,0,none⟩) n2 d2 (some ⟨G3,0,none⟩) n3 d3)=w7 at HPI ⊢
 go_loopw [28] (fun x W=>∃(k G2 n2 d2:Nat) (us:List Vl),k≤m∧x=.int .i64 k∧Hid (PIb W w o1 w4.heap.size w6.heap.size (w.heap.size+1) G1 n1 d1 G2 n2 d2 G3 n3 d3 ins us (optTo vs outs ps k))) (fun x _=>m-(intOf x).toNat)
 case atStart=>exact⟨0,G2,n2,d2,vs,Nat.zero_le _,rfl,HPI⟩
 case round=>
  obtain⟨k,G2,n2,d2,us,hk,rfl,hI⟩:=hrel
  clear HPI
  by_cases hkm:k<m
  ·obtain⟨gp,op,kk,rfl,ek,_,_,cP⟩:=(IS.keep HPS.out hI.out.ke (.inr (.inr (Nat.le_refl _)))).at_idx (o:=k) (by omega) (by omega)
   obtain rfl:k=kk:=by omega
   rw[Int.toNat_natCast] at cP
   have h5:=HP5.out k hkm
   have HOKu:Hid (okG ins us (optTo vs outs ps k).2=true):=by show _=_;rw[hI.out.lk.okG];exact HOK.out k
   have HKBk:Hid _:=HKB.out k
   have HNX:Hid (optTo vs outs ps (k+1)=passM (ps.getD k 0) (optTo vs outs ps k).1 (optTo vs outs ps k).2):=rfl
   obtain⟨_,r0,r1,r2,f0,f1,f2⟩:=hI.out.out
   obtain⟨_,a0,a1,a2,a3,a4⟩:=hI.out.arr
   have HPN:Hid (∀W' W2 G2' n2' c2' us',Kept 0 0 wr W'→PG W2 G1 G2' G3 n1 n2' n3 ins us' (optTo vs outs ps (k+1)).2→Lk us' (optTo vs outs ps (k+1)).1→Kb us'→Chg (fun b=>b=G2∨b=G3) W' W2→(G2'=G2∨W'.heap.size≤G2')→_):=fun W' W2 G2' n2' c2' us' kW x1 x2 x3 x4 x5=>PIb.next (c2':=c2') hI.out kW x1 x2 x3 x4 x5
   have HPG:Hid (∀W',Kept 0 0 wr W'→PG W' G1 G2 G3 n1 n2 n3 ins us (optTo vs outs ps k).2):=fun W' kW=>hI.out.pg.keep kW
   have HLK:Hid (Lk us (optTo vs outs ps k).1∧Kb us):=⟨hI.out.lk,hI.out.kb⟩
   have hOA:w6.heap.size≠w4.heap.size:=hI.out.ne.2.2.2.1
   rcases H02.out k hkm with hpk|hpk
   ·rw[hpk] at HNX cP
    have HCL:Hid (∀W',Kept 0 0 wr W'→Calls Tryz.prog 64 #[gagg o1 n1 d1 (some ⟨G2,0,none⟩) n2 d2 (some ⟨G3,0,none⟩) n3 d3] W' fun e w'=>POb W' o1 G1 n1 d1 G2 G3 n3 d3 ins (optTo vs outs ps (k+1)) e w'):=fun W' kW=>(withoutDeadB W' o1 G1 n1 d1 G2 n2 d2 G3 n3 d3 ins us _ (HPG.out W' kW) HOKu.out HLK.out.2).mono fun e w' h=>by
     rw[passM_0] at h
     rw[HNX.out]
     exact po_nextB h HLK.out.1 HLK.out.2 HKBk.out
    clear hpk HNX h5 hI HOKu HKBk HPG HLK
    go_wp2_with fail
    go_region_with ((go_at_call 64;refine Calls.mono (HCL.out _ (kept_drew wr)) ?_;rintro e w8 ⟨G2',n2',c2',us',rfl,z1,z2,z3,z4,z5⟩;obtain⟨rb8,pi8⟩:=HPN.out _ w8 G2' n2' c2' us' (kept_drew wr) z1 z2 z3 z4 z5;obtain⟨_,j0,j1,j2,h0,h1,h2⟩:=rb8;have R:Hid _:=pi8;clear pi8 z1 z2 z3 z4 z5))
    all_goals
     go_wp2
     go_roundw
     case rel=>exact⟨k+1,G2',n2',c2',us',by omega,by go_num,R⟩
     case measure=>simp[intOf];omega
   ·rw[hpk] at HNX cP
    have HCL:Hid (∀W',Kept 0 0 wr W'→Calls Tryz.prog 66 #[gagg o1 n1 d1 (some ⟨G2,0,none⟩) n2 d2 (some ⟨G3,0,none⟩) n3 d3] W' fun e w'=>POb W' o1 G1 n1 d1 G2 G3 n3 d3 ins (optTo vs outs ps (k+1)) e w'):=fun W' kW=>(withFoldedB W' o1 G1 n1 d1 G2 n2 d2 G3 n3 d3 ins us _ (HPG.out W' kW) HOKu.out HLK.out.2).mono fun e w' h=>by
     rw[passM_2] at h
     rw[HNX.out]
     exact po_nextB h HLK.out.1 HLK.out.2 HKBk.out
    clear hpk HNX h5 hI HOKu HKBk HPG HLK
    go_wp2_with fail
    go_region_with ((go_at_call 66;refine Calls.mono (HCL.out _ (kept_drew wr)) ?_;rintro e w8 ⟨G2',n2',c2',us',rfl,z1,z2,z3,z4,z5⟩;obtain⟨rb8,pi8⟩:=HPN.out _ w8 G2' n2' c2' us' (kept_drew wr) z1 z2 z3 z4 z5;obtain⟨_,j0,j1,j2,h0,h1,h2⟩:=rb8;have R:Hid _:=pi8;clear pi8 z1 z2 z3 z4 z5))
    all_goals
     go_wp2
     go_roundw
     case rel=>exact⟨k+1,G2',n2',c2',us',by omega,by go_num,R⟩
     case measure=>simp[intOf];omega
  ·obtain rfl:k=m:=by omega
   obtain⟨_,r0,r1,r2,f0,f1,f2⟩:=hI.out.out
   obtain⟨_,s0,s1,s2,v0,v1,v2⟩:=hI.out.res
   have HI9:Hid _:=hI.out
   clear hI
   go_wp2_with fail
   obtain⟨y0,y1,y2⟩:=put3_0 wr (w.heap.size+1) _ _ _ s0 s1 s2 (.slice o1 n1 d1) (.slice (some ⟨G2,0,none⟩) n2 d2) (.slice (some ⟨G3,0,none⟩) n3 d3)
   have kp:=put3_kept wr (w.heap.size+1) (.slice o1 n1 d1) (.slice (some ⟨G2,0,none⟩) n2 d2) (.slice (some ⟨G3,0,none⟩) n3 d3)
   have hne:=HI9.out.ne
   refine bodyPost_ret (v:=.tuple #[gagg o1 n1 d1 (some ⟨G2,0,none⟩) n2 d2 (some ⟨G3,0,none⟩) n3 d3,.int .i64 0]) (by simp[results,Tryz.results24,go_sem,y0,y1,y2]) rfl ⟨G1,G2,n2,d2,G3,d3,us,rfl,⟨HI9.out.pg.i.keep kp (by omega),HI9.out.pg.v.keep kp (by omega),HI9.out.pg.o.keep kp (by omega),HI9.out.pg.d12,HI9.out.pg.d13,HI9.out.pg.d23⟩,HI9.out.lk,HI9.out.kb,HI9.out.lo.1,HI9.out.ke.new kp (by omega)⟩
end Go.Proofs.YtgamjhpebmmjcaaGreatDoor
