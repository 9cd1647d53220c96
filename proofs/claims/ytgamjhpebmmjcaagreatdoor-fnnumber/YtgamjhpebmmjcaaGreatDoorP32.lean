import Derived.Test.YtgamjhpebmmjcaaGreatDoorP29
import Derived.Deep.Cut
import Derived.Deep.RegionWith
import Derived.Test.YtgamjhpebmmjcaaGreatDoorP23
import Derived.Deep.RegionLaw
import Derived.Deep.LoopGhost
namespace Go.Proofs.YtgamjhpebmmjcaaGreatDoor
set_option maxRecDepth 100000
set_option maxHeartbeats 40000000
open Go.RowKit Flt
attribute [local go_sem] alloc_drewN setCell_drewN run_store_float fld0 fld1 fld2 mkF
theorem peekS {E:Pe}{w:World}{ts:List Tok}(f:Ps E w ts):Calls Tryz.prog 57 #[.pointer (some ⟨E.P,0,none⟩)] w fun e w'=>e=.returned (tkV (hdP E.t.length ts))∧Kept 0 0 w w':=by
 obtain⟨i,h⟩:=f
 exact peekI h
theorem takeS {E:Pe}{w:World}{k:Tok}{us:List Tok}(f:Ps E w (k::us))(hk:k.sym≠[]):Calls Tryz.prog 96 #[.pointer (some ⟨E.P,0,none⟩)] w fun e w'=>e=.returned (tkV (cvT k))∧Ps E w' us∧Ch E w w':=by
 obtain⟨i,h⟩:=f
 exact takeI h hk
theorem refuseS {E:Pe}{w:World}{ts:List Tok}(f:Ps E w ts):Calls Tryz.prog 98 #[.pointer (some ⟨E.P,0,none⟩)] w fun e w'=>e=Thr 2 (posM E.t.length ts:Nat)∧Kept 0 0 w w':=by
 have HP:Hid _:=peekS f
 have HE:Hid ((hdP E.t.length ts).at_=posM E.t.length ts):=hd_at _ _
 generalize hdP E.t.length ts=k at HP HE
 generalize posM E.t.length ts=q at HE ⊢
 clear f
 go_enter Tryz.func98,Tryz.ntmps98
 go_wp2_with (go_at_call 57;refine Calls.mono HP.out ?_;rintro e w2 ⟨rfl,k2⟩;unfold tkV)
 go_wp2_with (go_at_call 60;refine Calls.mono (stopS _ _ _) ?_;rintro e w3 ⟨rfl,hw⟩;obtain rfl:=hw.symm)
 rw[HE.out]
 exact⟨rfl,rfl,k2⟩
theorem tbox {E:Pe}{w w2 w3:World}{ts:List Tok}(f:Ps E w ts){T:TypeId}(k:Kept 0 0 (w.alloc (.cells #[.int .i64 0,.string ⟨#[]⟩,.int .i64 0] T)) w2)(c:Ch E w2 w3):w3.cell? ⟨w.heap.size,0,none⟩=some (.int .i64 0)∧w3.cell? ⟨w.heap.size,1,none⟩=some (.string ⟨#[]⟩)∧w3.cell? ⟨w.heap.size,2,none⟩=some (.int .i64 0)∧w3.frozen? ⟨w.heap.size,0,none⟩=false∧w3.frozen? ⟨w.heap.size,1,none⟩=false∧w3.frozen? ⟨w.heap.size,2,none⟩=false∧w.heap.size<w3.heap.size:=by
 have h:=f.nw.1
 obtain⟨bc,bf,bs⟩:=box_at w w3 _ _ (((k.chg).andThen c:Ch E _ _)) (fun e=>by omega)
 exact⟨bc 0,bc 1,bc 2,bf 0,bf 1,bf 2,bs⟩
theorem tend {E:Pe}{w w3:World}{us:List Tok}{bx:Nat}(hx:bx=w.heap.size)(hN:E.N≤bx)(f:Ps E w3 us)(c:Ch E w w3)(x y z:Value)(h0:(w3.cell? ⟨bx,0,none⟩).isSome=true)(h1:(w3.cell? ⟨bx,1,none⟩).isSome=true)(h2:(w3.cell? ⟨bx,2,none⟩).isSome=true)(hb:bx<w3.heap.size):
  ∃w4,((w3.setCell ⟨bx,0,none⟩ x).setCell ⟨bx,1,none⟩ y).setCell ⟨bx,2,none⟩ z=w4∧w4.cell? ⟨bx,0,none⟩=some x∧w4.cell? ⟨bx,1,none⟩=some y∧w4.cell? ⟨bx,2,none⟩=some z∧Ps E w4 us∧Ch E w w4:=by
 obtain⟨d0,d1,d2,hs4,hc⟩:=box3_set w3 bx x y z h0 h1 h2 hb
 exact⟨_,rfl,d0,d1,d2,f.far hc (fun b e=>by omega),c.new hc (fun b h e=>by omega)⟩
theorem takeKindS {E:Pe}{w:World}{ts:List Tok}(f:Ps E w ts){kd:Int}{s:List UInt8}(hs:(kd=2∧s=sName)∨(kd=4∧s=sInt)):Calls Tryz.prog 132 #[.pointer (some ⟨E.P,0,none⟩),.int .i64 kd] w (Ot E w ts [s] (GT s)):=by
 have hcl:∀k∈ts,TkC k:=by obtain⟨i,h⟩:=f;exact h.cl
 have hkd:(hdP E.t.length ts).kind=kd↔hdS ts=s:=by
  rcases hs with⟨rfl,rfl⟩|⟨rfl,rfl⟩
  ·exact(hd_kind hcl).1
  ·exact(hd_kind hcl).2.1
 have hp:isPartB s=false:=by rcases hs with⟨_,rfl⟩|⟨_,rfl⟩<;>decide
 have hne:s≠sEnd∧s≠[]:=by rcases hs with⟨_,rfl⟩|⟨_,rfl⟩<;>decide
 have HP:Hid (∀W,Kept 0 0 w W→_):=fun W kk=>peekS (f.keep kk)
 by_cases c:hdS ts=s
 ·obtain⟨k,us,rfl,hk⟩:=hd_cons c hne.1
  have HT:Hid (∀W,Kept 0 0 w W→_):=fun W kk=>takeS (f.keep kk) (by rw[hk];exact hne.2)
  have HW:Hid (∀r,wrongM E.t.length (k::us) ([s]++r)=wrongM E.t.length us r):=fun r=>wrong_yes hp hk r
  have hkk:(cvT k).kind=kd:=hkd.2 c
  have HF:Hid (Ps E w (k::us)):=f
  clear hkd f hcl hs
  subst hkk
  go_enter Tryz.func132,Tryz.ntmps132
  have HKa:Hid _:=kept_alloc 0 0 w
  go_upto_region 3 with (go_at_call 57;refine Calls.mono (HP.out _ (HKa.out _)) ?_;rintro e w2 ⟨rfl,k2⟩;unfold tkV hdP)
  have HK2:Hid _:=(HKa.out _).trans k2
  have HB:Hid (∀w3,Ch E w2 w3→_):=fun w3 c=>tbox HF.out k2 c
  have hN:=HF.out.nw.2
  clear k2
  generalize hbx:w.heap.size=bx at*
  go_wp2_with (go_at_call 96;refine Calls.mono (HT.out _ HK2.out) ?_;rintro e w3 ⟨rfl,hT,hC⟩;obtain⟨b0,b1,b2,f0,f1,f2,bs⟩:=HB.out w3 hC;unfold tkV)
  obtain⟨w4,e4,d0,d1,d2,hT4,hC4⟩:=tend hbx.symm hN hT ((HK2.out.chg).andThen hC) (.int .i64 (cvT k).kind) (strL (cvT k).text) (.int .i64 ((cvT k).at_:Int)) (by rw[b0];rfl) (by rw[b1];rfl) (by rw[b2];rfl) bs
  rw[e4]
  refine bodyPost_ret (v:=tkV (cvT k)) (by simp[results,Tryz.results132,go_sem,tkV,d0,d1,d2]) rfl ?_
  exact .inl ⟨[k],us,_,rfl,rfl,HW.out,hT4,hC4,⟨k,rfl,hk,rfl⟩⟩
 ·have HR:Hid (∀W,Kept 0 0 w W→_):=fun W kk=>refuseS (f.keep kk)
  have HW:Hid (∀r,wrongM E.t.length ts ([s]++r)=(posM E.t.length ts:Int)):=fun r=>wrong_no hp c r
  have hkk:¬(hdP E.t.length ts).kind=kd:=fun h=>c (hkd.1 h)
  clear hkd f hcl hs
  go_enter Tryz.func132,Tryz.ntmps132
  have HKa:Hid _:=kept_alloc 0 0 w
  go_wp2_with (first|(go_at_call 57;refine Calls.mono (HP.out _ (HKa.out _)) ?_;rintro e w2 ⟨rfl,k2⟩;unfold tkV)|(go_at_call 98;refine Calls.mono (HR.out _ ((HKa.out _).trans k2)) ?_;rintro e w3 ⟨rfl,k3⟩))
  exact⟨rfl,.inr ⟨_,rfl,HW.out,(((HKa.out _).trans k2).trans k3).chg⟩⟩
theorem takeMarkS {E:Pe}{w:World}{ts:List Tok}(f:Ps E w ts){s:List UInt8}(hs:s∈specL):Calls Tryz.prog 99 #[.pointer (some ⟨E.P,0,none⟩),strL s] w (Ot E w ts [s] (GT s)):=by
 have hcl:∀k∈ts,TkC k:=by obtain⟨i,h⟩:=f;exact h.cl
 have hkd:(hdP E.t.length ts).text=s↔hdS ts=s:=hd_text hcl hs
 have hp:isPartB s=false:=spec_part s hs
 have hne:s≠sEnd∧s≠[]:=⟨(spec_no s hs).2.2.2.2,(spec_no s hs).1⟩
 have HP:Hid (∀W,Kept 0 0 w W→_):=fun W kk=>peekS (f.keep kk)
 by_cases c:hdS ts=s
 ·obtain⟨k,us,rfl,hk⟩:=hd_cons c hne.1
  have HT:Hid (∀W,Kept 0 0 w W→_):=fun W kk=>takeS (f.keep kk) (by rw[hk];exact hne.2)
  have HW:Hid (∀r,wrongM E.t.length (k::us) ([s]++r)=wrongM E.t.length us r):=fun r=>wrong_yes hp hk r
  have hkk:(cvT k).text=s:=hkd.2 c
  have HF:Hid (Ps E w (k::us)):=f
  clear hkd f hcl hs
  subst hkk
  go_enter Tryz.func99,Tryz.ntmps99
  have HKa:Hid _:=kept_alloc 0 0 w
  go_upto_region 3 with (go_at_call 57;refine Calls.mono (HP.out _ (HKa.out _)) ?_;rintro e w2 ⟨rfl,k2⟩;unfold tkV hdP)
  have HK2:Hid _:=(HKa.out _).trans k2
  have HB:Hid (∀w3,Ch E w2 w3→_):=fun w3 c=>tbox HF.out k2 c
  have hN:=HF.out.nw.2
  clear k2
  generalize hbx:w.heap.size=bx at*
  go_wp2_with (go_at_call 96;refine Calls.mono (HT.out _ HK2.out) ?_;rintro e w3 ⟨rfl,hT,hC⟩;obtain⟨b0,b1,b2,f0,f1,f2,bs⟩:=HB.out w3 hC;unfold tkV)
  obtain⟨w4,e4,d0,d1,d2,hT4,hC4⟩:=tend hbx.symm hN hT ((HK2.out.chg).andThen hC) (.int .i64 (cvT k).kind) (strL (cvT k).text) (.int .i64 ((cvT k).at_:Int)) (by rw[b0];rfl) (by rw[b1];rfl) (by rw[b2];rfl) bs
  rw[e4]
  refine bodyPost_ret (v:=tkV (cvT k)) (by simp[results,Tryz.results99,go_sem,tkV,d0,d1,d2]) rfl ?_
  exact .inl ⟨[k],us,_,rfl,rfl,HW.out,hT4,hC4,⟨k,rfl,hk,rfl⟩⟩
 ·have HR:Hid (∀W,Kept 0 0 w W→_):=fun W kk=>refuseS (f.keep kk)
  have HW:Hid (∀r,wrongM E.t.length ts ([s]++r)=(posM E.t.length ts:Int)):=fun r=>wrong_no hp c r
  have hkk:((hdP E.t.length ts).text==s)=false:=beq_false_of_ne (fun h=>c (hkd.1 h))
  clear hkd f hcl hs
  go_enter Tryz.func99,Tryz.ntmps99
  have HKa:Hid _:=kept_alloc 0 0 w
  go_wp2_with (first|(go_at_call 57;refine Calls.mono (HP.out _ (HKa.out _)) ?_;rintro e w2 ⟨rfl,k2⟩;unfold tkV)|(go_at_call 98;refine Calls.mono (HR.out _ ((HKa.out _).trans k2)) ?_;rintro e w3 ⟨rfl,k3⟩))
  exact⟨rfl,.inr ⟨_,rfl,HW.out,(((HKa.out _).trans k2).trans k3).chg⟩⟩
end Go.Proofs.YtgamjhpebmmjcaaGreatDoor
namespace Go.Proofs.YtgamjhpebmmjcaaGreatDoor
set_option maxRecDepth 100000
set_option maxHeartbeats 40000000
open Go.RowKit Flt
attribute [local go_sem] alloc_drewN setCell_drewN run_store_float fld0 fld1 fld2 mkF
theorem Ot.bad {E:Pe}{w w1 w':World}{ts ws:List Tok}{st st2:List (List UInt8)}{G:List Tok→Value→World→Prop}{p:Nat}(h1:∀r,wrongM E.t.length ts (st++r)=wrongM E.t.length ws (st2++r))(c1:Ch E w w1)(h2:∀r,wrongM E.t.length ws (st2++r)=(p:Int))(c2:Ch E w1 w'):Ot E w ts st G (Thr 2 p) w':=.inr ⟨p,rfl,fun r=>(h1 r).trans (h2 r),c1.andThen c2⟩
theorem nameS {E:Pe}{w:World}{ts:List Tok}(f:Ps E w ts):Calls Tryz.prog 134 #[.pointer (some ⟨E.P,0,none⟩)] w (Ot E w ts [sName] (GT sName)):=by
 have HT:Hid (∀W,Kept 0 0 w W→_):=fun W kk=>takeKindS (f.keep kk) (.inl ⟨rfl,rfl⟩)
 have HF:Hid (Ps E w ts):=f
 have HKa:Hid _:=kept_alloc 0 0 w
 have HB:Hid (∀w3,Ch E _ w3→_):=fun w3 c=>tbox (T:=106) f (Kept.refl 0 0 _) c
 have hN:=f.nw.2
 clear f
 go_enter Tryz.func134,Tryz.ntmps134
 go_wp2_with (go_at_call 132;refine Calls.mono (HT.out _ (HKa.out _)) ?_;rintro e w3 (⟨us,ws,v,rfl,hsp,hw,hT,hC,k,rfl,hk,rfl⟩|⟨p,rfl,hw,hC⟩);rotate_left;exact And.intro rfl (Ot.bad (fun r=>rfl) (HKa.out _).chg hw.out hC);obtain⟨b0,b1,b2,f0,f1,f2,bs⟩:=HB.out w3 hC;unfold tkV)
 obtain⟨w4,e4,d0,d1,d2,hT4,hC4⟩:=tend rfl hN hT (((HKa.out _).chg).andThen hC) (.int .i64 (cvT k).kind) (strL (cvT k).text) (.int .i64 ((cvT k).at_:Int)) (by rw[b0];rfl) (by rw[b1];rfl) (by rw[b2];rfl) bs
 rw[e4]
 refine bodyPost_ret (v:=tkV (cvT k)) (by simp[results,Tryz.results134,go_sem,tkV,d0,d1,d2]) rfl ?_
 exact .inl ⟨[k],ws,_,rfl,hsp,hw,hT4,hC4,⟨k,rfl,hk,rfl⟩⟩
def GF (s:List UInt8)(us:List Tok)(v:Value)(_:World):Prop:=∃c k,us=[c,k]∧c.sym=[44]∧k.sym=s∧v=tkV (cvT k)
theorem furtherS {E:Pe}{w:World}{ts:List Tok}(f:Ps E w ts){kd:Int}{s:List UInt8}(hs:(kd=2∧s=sName)∨(kd=4∧s=sInt)):Calls Tryz.prog 178 #[.pointer (some ⟨E.P,0,none⟩),.int .i64 kd] w (Ot E w ts [[44],s] (GF s)):=by
 have HM:Hid (∀W,Kept 0 0 w W→_):=fun W kk=>takeMarkS (f.keep kk) (s:=[44]) (by decide)
 have HT:Hid (∀W us,Ps E W us→_):=fun W us g=>takeKindS (E:=E) (w:=W) (ts:=us) g hs
 have HKa:Hid _:=kept_alloc 0 0 w
 have HB:Hid (∀w3,Ch E _ w3→_):=fun w3 c=>tbox (T:=106) f (Kept.refl 0 0 _) c
 have hN:=f.nw.2
 clear f hs
 go_enter Tryz.func178,Tryz.ntmps178
 go_upto_region 2 with (go_at_call 99;refine Calls.mono (HM.out _ (HKa.out _)) ?_;rintro e w2 (⟨us,ws,v,rfl,hsp,hw,hT,hC,k,rfl,hk,rfl⟩|⟨p,rfl,hw,hC⟩);rotate_left;exact And.intro rfl (Ot.bad (fun r=>rfl) (HKa.out _).chg (fun r=>hw.out ([s]++r)) hC))
 have HC2:Hid (Ch E w w2):=((HKa.out _).chg).andThen hC
 have HCb:Hid _:=hC
 clear hC
 go_wp2_with (go_at_call 132;refine Calls.mono (HT.out w2 ws hT) ?_;rintro e w3 (⟨us2,ws2,v2,rfl,hsp2,hw2,hT2,hC2,k2,rfl,hk2,rfl⟩|⟨p,rfl,hw2,hC2⟩);rotate_left;exact And.intro rfl (Ot.bad (fun r=>hw.out ([s]++r)) HC2.out hw2.out hC2);obtain⟨b0,b1,b2,f0,f1,f2,bs⟩:=HB.out w3 (HCb.out.andThen hC2);unfold tkV)
 obtain⟨w4,e4,d0,d1,d2,hT4,hC4⟩:=tend rfl hN hT2 (HC2.out.andThen hC2) (.int .i64 (cvT k2).kind) (strL (cvT k2).text) (.int .i64 ((cvT k2).at_:Int)) (by rw[b0];rfl) (by rw[b1];rfl) (by rw[b2];rfl) bs
 rw[e4]
 refine bodyPost_ret (v:=tkV (cvT k2)) (by simp[results,Tryz.results178,go_sem,tkV,d0,d1,d2]) rfl ?_
 exact .inl ⟨[k,k2],ws2,_,rfl,by show _=_;rw[hsp.out,hsp2.out];rfl,fun r=>(hw.out ([s]++r)).trans (hw2.out r),hT4,hC4,⟨k,k2,rfl,hk,hk2,rfl⟩⟩
end Go.Proofs.YtgamjhpebmmjcaaGreatDoor
namespace Go.Proofs.YtgamjhpebmmjcaaGreatDoor
set_option maxRecDepth 100000
set_option maxHeartbeats 40000000
open Go.RowKit Flt
attribute [local go_sem] alloc_drewN setCell_drewN run_store_float fld0 fld1 fld2 mkF
def XC (E:Pe)(f:FuncId)(st:List (List UInt8))(l:Nat)(n:Nat):Prop:=∀W ts,Ps E W ts→ts.length<n→Calls Tryz.prog f #[.pointer (some ⟨E.P,0,none⟩)] W (Ot E W ts st (GN W l))
theorem rw_new (W:World)(n:Nat)(xs:List Value)(h:n≤W.heap.size)(hl:xs.length≤100):Rw (W.alloc (.cells xs.toArray 167)) (Fr n) (.slice (some ⟨W.heap.size,0,none⟩) xs.length xs.length) xs:=by
 refine⟨⟨by simp,.inr ⟨W.heap.size,xs.length,xs.toArray,rfl,Nat.zero_le _,?_,Nat.le_refl _,by unfold maxLen;omega,by simp,by simp⟩⟩,fun b e=>?_⟩
 ·simp[World.alloc,-World.alloc_eq]
 ·cases e;exact h
theorem ch_refl (E:Pe)(w:World):Ch E w w:=(Kept.refl 0 0 w).chg
theorem rule_un (s:List UInt8):ruleM pUNARY s=unaryM s:=rule_UNARY s
theorem wrong_un {n:Nat}{ts:List Tok}(r:List (List UInt8)):wrongM n ts (pUNARY::r)=wrongM n ts (unaryM (hdS ts)++r):=by rw[wrong_part (by decide),rule_un]
theorem unaryS {E:Pe}{n:Nat}(hP:∀W ts,Ps E W ts→ts.length<n+1→hdS ts≠[45]→Calls Tryz.prog 170 #[.pointer (some ⟨E.P,0,none⟩)] W (Ot E W ts [pUNARY] (GN W 0)))(hU:XC E 150 [pUNARY] 0 n):XC E 150 [pUNARY] 0 (n+1):=by
 intro w ts f hlen
 have hcl:∀k∈ts,TkC k:=by obtain⟨i,h⟩:=f;exact h.cl
 have hkd:(hdP E.t.length ts).text=[45]↔hdS ts=[45]:=hd_text hcl (by decide)
 have HP:Hid _:=peekS f
 by_cases c:hdS ts=[45]
 ·obtain⟨k,us,rfl,hk⟩:=hd_cons c (by decide)
  have hkt:(cvT k).text=[45]:=hkd.2 c
  replace HP:Hid (Calls Tryz.prog 57 #[.pointer (some ⟨E.P,0,none⟩)] w fun e w'=>e=.returned (.agg #[.int .i64 (cvT k).kind,strL (cvT k).text,.int .i64 ((cvT k).at_:Int)])∧Kept 0 0 w w'):=HP.out
  have HT:Hid (∀W,Kept 0 0 w W→_):=fun W kk=>takeS (f.keep kk) (by rw[hk];decide)
  have HW:Hid (∀r,wrongM E.t.length (k::us) ([pUNARY]++r)=wrongM E.t.length us ([pUNARY]++r)):=fun r=>by
   show wrongM _ _ (pUNARY::r)=_
   rw[wrong_un,c]
   exact wrong_yes (by decide) hk (pUNARY::r)
  have HU:Hid (∀W,Ps E W us→_):=fun W g=>hU W us g (by simp at hlen;omega)
  have hN:=f.nw
  have HK:Hid (k.sym=[45]):=hk
  have HA:Hid ((cvT k).at_=k.pos):=cv_at k
  clear hkd hcl hP hU f hk
  rw[hkt] at HP
  go_enter Tryz.func150,Tryz.ntmps150
  go_upto_region 3 with (go_at_call 57;refine Calls.mono HP.out ?_;rintro e w2 ⟨rfl,k2⟩)
  clear hkt
  go_upto_region 4 with (go_at_call 96;refine Calls.mono (HT.out _ k2) ?_;rintro e w3 ⟨rfl,hT,hC⟩;unfold tkV)
  have HC3:Hid (Ch E w w3):=(k2.chg).andThen hC
  have HT3:Hid (Ps E w3 us):=hT
  have hb2:∀w5,Ch E (w3.alloc (.cells #[.int .i64 (cvT k).kind,strL (cvT k).text,.int .i64 ((cvT k).at_:Int)] 106)) w5→w5.cell? ⟨w3.heap.size,2,none⟩=some (.int .i64 ((cvT k).at_:Int))∧w3.heap.size<w5.heap.size:=fun w5 c=>by have h:=box_at w3 w5 _ _ c (fun e=>by have:=hT.nw.1;omega);exact⟨h.1 2,h.2.2⟩
  have HB2:Hid _:=hb2
  have HKa:Hid _:=kept_alloc 0 0 w3
  clear hb2 hC k2 HT HP hT
  go_region_with (go_at_call 150;refine Calls.mono (HU.out _ ((HT3.out.keep (HKa.out _)).keep (kept_drew _))) ?_;rintro e w5 (⟨us5,ws5,v,rfl,hsp,hw,hT,hC,e5,hPr5,hNd5⟩|⟨p,rfl,hw,hC⟩);rotate_left;exact And.intro rfl (Ot.bad HW.out (HC3.out.andThen ((HKa.out _).trans (kept_drew _)).chg) hw.out hC);obtain⟨q2,q3⟩:=HB2.out w5 (((kept_drew _).chg).andThen hC);obtain⟨T5,x5,rfl⟩:=hNd5.iface)
  all_goals
   rw[HA.out]
   go_wp2
   refine bodyPost_ret (v:=.iface 261 (.agg #[.int .i64 (k.pos:Int),.slice (some ⟨w5.heap.size,0,none⟩) 1 1,.int .i64 6])) (by simp[results,Tryz.results150,go_sem]) rfl ?_
   have ka:=kept_alloc 0 0 w5 (.cells #[.iface T5 x5] 167)
   have HS:=(HC3.out.andThen (((HKa.out _).trans (kept_drew _)).chg)).andThen hC
   exact .inl ⟨k::us5,ws5,_,rfl,congrArg (k::·) hsp.out,fun r=>(HW.out r).trans (hw.out r),hT.keep ka,((HC3.out.andThen (((HKa.out _).trans (kept_drew _)).chg)).andThen hC).andThen ka.chg,.neg k e5,.neg HK.out hPr5,.neg (rw_new w5 w.heap.size [.iface T5 x5] HS.size (by simp)) ((hNd5.keep ka).fr (Nat.le_trans HC3.out.size ((HKa.out _).trans (kept_drew _)).size))⟩
 ·have hkk:((hdP E.t.length ts).text==[45])=false:=beq_false_of_ne (fun h=>c (hkd.1 h))
  have HQ:Hid (∀W,Kept 0 0 w W→_):=fun W kk=>hP W ts (f.keep kk) hlen c
  clear hkd hcl hP hU f
  generalize hdP E.t.length ts=kv at*
  go_enter Tryz.func150,Tryz.ntmps150
  go_wp2_with (first|(go_at_call 57;refine Calls.mono HP.out ?_;rintro e w2 ⟨rfl,k2⟩;unfold tkV)|(go_at_call 170;refine Calls.mono (HQ.out _ k2) ?_;rintro e w3 (⟨us,ws,v,rfl,hsp,hw,hT,hC,hG⟩|⟨p,rfl,hw,hC⟩);rotate_left;exact And.intro rfl (Ot.bad (fun r=>rfl) k2.chg hw.out hC)))
  go_ret
  obtain⟨e9,hp9,hn9⟩:=hG
  exact .inl ⟨us,ws,_,rfl,hsp,hw,hT,(k2.chg).andThen hC,e9,hp9,hn9.fr k2.size⟩
end Go.Proofs.YtgamjhpebmmjcaaGreatDoor
namespace Go.Proofs.YtgamjhpebmmjcaaGreatDoor
set_option maxRecDepth 100000
set_option maxHeartbeats 40000000
open Go.RowKit Flt
attribute [local go_sem] alloc_drewN setCell_drewN run_store_float fld0 fld1 fld2 mkF
theorem infoNd:(Tryz.prog.info? 167).map (fun i=>(i.zero,i.size,i.bytes))=some (some .nilIface,1,16):=by kernel_rfl
theorem infoNd_parts:∃i0,Tryz.prog.info? 167=some i0∧i0.zero=some .nilIface∧i0.size=1∧i0.bytes=16:=by
 have h:=infoNd
 cases e:Tryz.prog.info? 167 with
 |none=>rw[e] at h;cases h
 |some i0=>
  rw[e] at h
  simp only[Option.map_some,Option.some.injEq,Prod.mk.injEq] at h
  exact⟨i0,rfl,h.1,h.2.1,h.2.2⟩
theorem wpList_appendNd (w:World){ops:Array Oper}{rest:List Oper}{o:Oper}{a:Act}{Q:Exit→Act→World→Prop}(hgd:o.guard=none)(s x:Operand)
  (ho:o.op=.call {callee:=.builtin .append,args:=#[s,x],argTypes:=#[245,245]})
  (v:Value) (vs:List Value) (hs:a.eval s=v) (hown:w.ownsRow 0 167 1 v vs.length vs)
  (ab:Nat) (T:TypeId) (y:Value) (hx:a.eval x=.slice (some ⟨ab,0,none⟩) 1 1) (hnews:w.cell? ⟨ab,0,none⟩=some (.iface T y))
  (h63:vs.length+1≤1000000)
  (h:∀g cap n w',n=(vs++[Value.iface T y]).length→w'.ownsRow 0 167 1 (.slice (some ⟨g,0,none⟩) n cap) n (vs++[Value.iface T y])→Chg (fun b=>v.ownBlock=some b) w w'→(v.ownBlock=some g∨g=w.heap.size)→wpList Tryz.prog ops Q rest (a.put o.dst (.slice (some ⟨g,0,none⟩) n cap)) w'):wpList Tryz.prog ops Q (o::rest) a w:=by
 obtain⟨i0,hi,hz0,hz1,hz2⟩:=infoNd_parts
 refine wpList_append_lies w hgd s x 245 ho 0 167 i0 .nilIface 1 16 Tryz.underlying245 hi hz0 hz1 hz2 rfl (by decide) v vs.length _ hs hown ⟨ab,0,none⟩ 1 1 [.iface T y] hx rfl ?_ ?_ (by decide) (by unfold maxLen;omega) (by omega) (Nat.zero_le _) _ rfl ?_
 ·intro j u hj
  match j,hj with
  |0,hj=>cases hj;rw[add_addr,Nat.add_zero];exact hnews
 ·intro u hu
  simp at hu
  rcases hu with rfl;rfl
 ·intro g cap w' h1 h2 h3 _
  have e:vs.length+1=(vs++[Value.iface T y]).length:=by rw[List.length_append];rfl
  rw[e] at h1 ⊢
  exact h g cap _ w' rfl h1 (chg_grow h2) h3
def NdL (W:World)(M:Nat→Prop)(vs:List Value)(es:List Ex):Prop:=vs.length=es.length∧∀(j:Nat) (v:Value) (e:Ex),vs[j]? =some v→es[j]? =some e→Nd W M v e
theorem NdL.nil (W:World)(M:Nat→Prop):NdL W M [] []:=⟨rfl,fun j v e h=>by cases h⟩
theorem NdL.snoc {W:World}{M:Nat→Prop}{vs:List Value}{es:List Ex}{v:Value}{e:Ex}(f:NdL W M vs es)(h:Nd W M v e):NdL W M (vs++[v]) (es++[e]):=by
 refine⟨by simp[f.1],fun j u x hu hx=>?_⟩
 rcases Nat.lt_or_ge j vs.length with c|c
 ·rw[List.getElem?_append_left c] at hu
  rw[List.getElem?_append_left (by rw[←f.1];exact c)] at hx
  exact f.2 j u x hu hx
 ·rw[List.getElem?_append_right c] at hu
  rw[List.getElem?_append_right (by rw[←f.1];exact c),←f.1] at hx
  generalize j-vs.length=q at hu hx
  match q,hu,hx with
  |0,hu,hx=>cases hu;cases hx;exact h
theorem NdL.chg {W W':World}{M:Nat→Prop}{vs:List Value}{es:List Ex}{S:Nat→Prop}(f:NdL W M vs es)(c:Chg S W W')(hS:∀b,S b→¬M b):NdL W' M vs es:=⟨f.1,fun j v e h1 h2=>(f.2 j v e h1 h2).chg c hS⟩
theorem NdL.mono {W:World}{M M':Nat→Prop}{vs:List Value}{es:List Ex}(f:NdL W M vs es)(h:∀b,M b→M' b):NdL W M' vs es:=⟨f.1,fun j v e h1 h2=>(f.2 j v e h1 h2).mono h⟩
structure NdG (W:World)(n:Nat)(sl:Value)(vs:List Value)(es:List Ex):Prop where
 row:W.ownsRow 0 167 1 sl vs.length vs
 fr:∀b,sl.ownBlock=some b→n≤b
 nd:NdL W (fun b=>n≤b∧sl.ownBlock≠some b) vs es
theorem NdG.rw {W:World}{n:Nat}{sl:Value}{vs:List Value}{es:List Ex}(f:NdG W n sl vs es):Rw W (Fr n) sl vs:=⟨f.row,f.fr⟩
theorem NdG.ndl {W:World}{n:Nat}{sl:Value}{vs:List Value}{es:List Ex}(f:NdG W n sl vs es):NdL W (Fr n) vs es:=f.nd.mono (fun _ h=>h.1)
theorem NdG.lt {W:World}{n:Nat}{sl:Value}{vs:List Value}{es:List Ex}(f:NdG W n sl vs es):∀b,sl.ownBlock=some b→b<W.heap.size:=fun _ e=>(own_blkV f.row e).2
theorem NdG.chg {W W':World}{n:Nat}{sl:Value}{vs:List Value}{es:List Ex}{S:Nat→Prop}(f:NdG W n sl vs es)(c:Chg S W W')(hS:∀b,S b→b<n):NdG W' n sl vs es:=⟨((f.rw.chg c (fun b h q=>by have h:=hS b h;have q:n≤b:=q;omega)):Rw W' (Fr n) sl vs).1,f.fr,f.nd.chg c (fun b h q=>by have:=hS b h;omega)⟩
theorem NdG.le {W:World}{n n':Nat}{sl:Value}{vs:List Value}{es:List Ex}(f:NdG W n sl vs es)(h:n'≤n):NdG W n' sl vs es:=⟨f.row,fun b e=>Nat.le_trans h (f.fr b e),f.nd.mono (fun _ q=>⟨Nat.le_trans h q.1,q.2⟩)⟩
def NoRow (W:World)(b:Nat):Prop:=∀cur f,W.heap[b]?≠some (.cells cur 167 f)
theorem row_oth {W W':World}{size n:Nat}{sl:Value}{vs:List Value}{S:Nat→Prop}(f:W.ownsRow 0 167 size sl n vs)(c:Chg S W W')(hS:∀b,S b→NoRow W b):W'.ownsRow 0 167 size sl n vs:=by
 refine⟨f.1,f.2.imp id ?_⟩
 rintro⟨g,cap,cur,e1,b1,b2,b3⟩
 refine⟨g,cap,cur,e1,b1,?_,b3⟩
 have hg:g<W.heap.size:=by
  rcases Nat.lt_or_ge g W.heap.size with c|c
  ·exact c
  ·rw[Array.getElem?_eq_none c] at b2;cases b2
 rw[c.block g hg (fun h=>hS g h cur (0,0) b2)]
 exact b2
theorem Rw.oth {W W':World}{M:Nat→Prop}{sl:Value}{vs:List Value}{S:Nat→Prop}(f:Rw W M sl vs)(c:Chg S W W')(hS:∀b,S b→NoRow W b):Rw W' M sl vs:=⟨row_oth f.1 c hS,f.2⟩
theorem Nd.oth {W W':World}{M:Nat→Prop}{v:Value}{e:Ex}{S:Nat→Prop}(f:Nd W M v e)(c:Chg S W W')(hS:∀b,S b→NoRow W b):Nd W' M v e:=by
 induction f with
 |num=>exact .num
 |name=>exact .name
 |neg r _ ih=>exact .neg (r.oth c hS) ih
 |bin r _ _ i1 i2=>exact .bin (r.oth c hS) i1 i2
 |call r hl _ ih=>exact .call (r.oth c hS) hl ih
 |exp h r _ ih=>exact .exp h (r.oth c hS) ih
 |sum h r _ ih=>exact .sum h (r.oth c hS) ih
 |max h r _ _ i1 i2=>exact .max h (r.oth c hS) i1 i2
 |dot h r _ ih=>exact .dot h (r.oth c hS) ih
 |sel h r _ _ _ i1 i2 i3=>exact .sel h (r.oth c hS) i1 i2 i3
 |fill h r _ ih=>exact .fill h (r.oth c hS) ih
 |pick h r _ ih=>exact .pick h (r.oth c hS) ih
 |put r _ ih=>exact .put (r.oth c hS) ih
 |grad r _ ih=>exact .grad (r.oth c hS) ih
 |jvp r _ _ i1 i2=>exact .jvp (r.oth c hS) i1 i2
theorem NdG.oth {W W':World}{n:Nat}{sl:Value}{vs:List Value}{es:List Ex}{S:Nat→Prop}(f:NdG W n sl vs es)(c:Chg S W W')(hS:∀b,S b→NoRow W b):NdG W' n sl vs es:=⟨row_oth f.row c hS,f.fr,f.nd.1,fun j v e h1 h2=>(f.nd.2 j v e h1 h2).oth c hS⟩
theorem norow_new (W:World)(xs:Array Value)(T:TypeId)(hT:T≠167):NoRow (W.alloc (.cells xs T)) W.heap.size:=by
 intro cur f h
 simp[World.alloc,-World.alloc_eq] at h
 exact hT h.2.1
theorem NoRow.chg {W W':World}{b:Nat}{S:Nat→Prop}(f:NoRow W b)(c:Chg S W W')(hb:b<W.heap.size)(hS:¬S b):NoRow W' b:=by
 intro cur q h
 rw[c.block b hb hS] at h
 exact f cur q h
theorem NdG.nil (W:World)(n:Nat):NdG W n nilS [] []:=⟨World.ownsRow_nil _ _ _ _,fun b e=>(by cases e),NdL.nil _ _⟩
theorem Rw.lt {W:World}{M:Nat→Prop}{sl:Value}{vs:List Value}(f:Rw W M sl vs):Rw W (fun b=>M b∧b<W.heap.size) sl vs:=⟨f.1,fun b e=>⟨f.2 b e,(own_blkV f.1 e).2⟩⟩
theorem Nd.lt {W:World}{M:Nat→Prop}{v:Value}{e:Ex}(f:Nd W M v e):Nd W (fun b=>M b∧b<W.heap.size) v e:=by
 induction f with
 |num=>exact .num
 |name=>exact .name
 |neg r _ ih=>exact .neg r.lt ih
 |bin r _ _ i1 i2=>exact .bin r.lt i1 i2
 |call r hl _ ih=>exact .call r.lt hl ih
 |exp q r _ ih=>exact .exp q r.lt ih
 |sum q r _ ih=>exact .sum q r.lt ih
 |max q r _ _ i1 i2=>exact .max q r.lt i1 i2
 |dot q r _ ih=>exact .dot q r.lt ih
 |sel q r _ _ _ i1 i2 i3=>exact .sel q r.lt i1 i2 i3
 |fill q r _ ih=>exact .fill q r.lt ih
 |pick q r _ ih=>exact .pick q r.lt ih
 |put r _ ih=>exact .put r.lt ih
 |grad r _ ih=>exact .grad r.lt ih
 |jvp r _ _ i1 i2=>exact .jvp r.lt i1 i2
theorem NdG.more {W2 W2' W3:World}{n m g N cap:Nat}{sl:Value}{vs:List Value}{es:List Ex}{v:Value}{e:Ex}(f:NdG W2 n sl vs es)(h:Nd W2 (Fr m) v e)(hl:∀b,sl.ownBlock=some b→b<m)(hnm:n≤m)(hW:m≤W2.heap.size)(ka:Kept 0 0 W2 W2')(c:Chg (fun b=>sl.ownBlock=some b) W2' W3)(hN:N=(vs++[v]).length)(hrow:W3.ownsRow 0 167 1 (.slice (some ⟨g,0,none⟩) N cap) N (vs++[v]))(hat:sl.ownBlock=some g∨g=W2'.heap.size):NdG W3 n (.slice (some ⟨g,0,none⟩) N cap) (vs++[v]) (es++[e]):=by
 subst hN
 have hs:=ka.size
 refine⟨hrow,fun b e=>?_,?_⟩
 ·cases e
  rcases hat with q|q
  ·exact f.fr _ q
  ·simp only at q ⊢;omega
 ·refine NdL.snoc ?_ ?_
  ·refine⟨f.nd.1,fun j u x h1 h2=>?_⟩
   have q:=(f.nd.2 j u x h1 h2).lt
   refine((q.keep ka).chg c (fun b hb hM=>hM.1.2 hb)).mono (fun b hM=>⟨hM.1.1,fun e=>?_⟩)
   have e2:g=b:=by injection e
   subst e2
   rcases hat with z|z
   ·exact hM.1.2 z
   ·have:=hM.2;omega
  ·have q:=h.lt
   refine((q.keep ka).chg c (fun b hb hM=>by have:=hl b hb;have h1:m≤b:=hM.1;omega)).mono (fun b hM=>⟨by have h1:m≤b:=hM.1;omega,fun e=>?_⟩)
   have e2:g=b:=by injection e
   subst e2
   have h1:m≤g:=hM.1
   rcases hat with z|z
   ·have:=hl g z;omega
   ·have:=hM.2;omega
end Go.Proofs.YtgamjhpebmmjcaaGreatDoor
namespace Go.Proofs.YtgamjhpebmmjcaaGreatDoor
set_option maxRecDepth 100000
set_option maxHeartbeats 40000000
open Go.RowKit Flt
attribute [local go_sem] alloc_drewN setCell_drewN run_store_float fld0 fld1 fld2 mkF
theorem pr_lenE {n:Nat}{es:List Ex}{ts:List Tok}(h:Pr n es ts):es.length≤ts.length:=by
 induction h<;>simp_all<;>omega
theorem Ps.len {E:Pe}{W:World}{ts:List Tok}(f:Ps E W ts):ts.length≤4001:=by
 obtain⟨i,h⟩:=f
 have h1:=congrArg List.length h.dr
 have h2:=h.len
 unfold Tl at h1
 simp at h1
 omega
theorem args_shut {n:Nat}{ts:List Tok}(h:hdS ts=[41])(r:List (List UInt8)):wrongM n ts (pARGS::r)=wrongM n ts r:=by
 rw[wrong_part (by decide),h]
 rfl
theorem args_open {n:Nat}{ts:List Tok}(h:hdS ts≠[41])(r:List (List UInt8)):wrongM n ts (pARGS::r)=wrongM n ts (pEXPR::pMOREARGS::r):=by
 rw[wrong_part (by decide)]
 have er:ruleM pARGS (hdS ts)=[pEXPR,pMOREARGS]:=by
  unfold ruleM
  rw[if_neg (by decide),if_neg (by decide),if_neg (by decide),if_neg (by decide),if_neg (by decide),if_neg (by decide),if_neg (by decide),if_neg (by decide),if_pos rfl,if_neg h]
 rw[er]
 rfl
theorem more_yes {n:Nat}{k:Tok}{us:List Tok}(h:k.sym=[44])(r:List (List UInt8)):wrongM n (k::us) (pMOREARGS::r)=wrongM n us (pEXPR::pMOREARGS::r):=by
 rw[wrong_part (by decide)]
 have er:ruleM pMOREARGS (hdS (k::us))=[[44],pEXPR,pMOREARGS]:=by
  show ruleM pMOREARGS k.sym=_
  rw[h];rfl
 rw[er]
 exact wrong_yes (by decide) h (pEXPR::pMOREARGS::r)
theorem more_no {n:Nat}{ts:List Tok}(h:hdS ts≠[44])(r:List (List UInt8)):wrongM n ts (pMOREARGS::r)=wrongM n ts r:=by
 rw[wrong_part (by decide)]
 have er:ruleM pMOREARGS (hdS ts)=[]:=by
  unfold ruleM
  rw[if_neg (by decide),if_neg (by decide),if_neg (by decide),if_neg (by decide),if_neg (by decide),if_neg (by decide),if_neg (by decide),if_neg (by decide),if_neg (by decide),if_pos rfl,if_neg h]
 rw[er]
 rfl
def GLs (w:World)(us:List Tok)(v:Value)(w':World):Prop:=∃es vs,Rw w' (Fr w.heap.size) v vs∧NdL w' (Fr w.heap.size) vs es∧((es=[]∧∃l r,us=[l,r]∧l.sym=[40]∧r.sym=[41])∨∃l r t1,us=l::(t1++[r])∧l.sym=[40]∧Pr 3 es t1∧r.sym=[41])
theorem cell_new1 (W:World)(v:Value)(T:TypeId):(W.alloc (.cells #[v] T)).cell? ⟨W.heap.size,0,none⟩=some v:=by rw[World.cell?_alloc_new];rfl
theorem listedS {E:Pe}{n:Nat}(hX:XC E 97 [pEXPR] 2 n){w:World}{ts:List Tok}(f:Ps E w ts)(hlen:ts.length<n+1):Calls Tryz.prog 176 #[.pointer (some ⟨E.P,0,none⟩),.func (.func 97) #[.pointer (some ⟨E.P,0,none⟩)] #[]] w (Ot E w ts [[40],pARGS,[41]] (GLs w)):=by
 have HX:Hid _:=hX
 have HF:Hid (Ps E w ts):=f
 have HL:Hid (ts.length<n+1):=hlen
 have HPw:Hid (E.P<w.heap.size):=f.nw.1
 have HPwN:Hid (E.N≤w.heap.size):=f.nw.2
 have HM:Hid _:=takeMarkS f (s:=[40]) (by decide)
 clear hX f hlen
 go_enter Tryz.func176,Tryz.ntmps176
 go_upto_region 2 with (go_at_call 99;refine Calls.mono HM.out ?_;rintro e w1 (⟨us1,ws1,v1,rfl,hsp1,hw1,hT1,hC1,l,rfl,hl,rfl⟩|⟨p,rfl,hw1,hC1⟩);rotate_left;exact And.intro rfl (Ot.bad (ts:=ts) (st:=[[40],pARGS,[41]]) (st2:=[[40],pARGS,[41]]) (fun r=>rfl) (ch_refl E w) (fun r=>hw1.out (pARGS::[41]::r)) hC1))
 have HL1:Hid (ws1.length<n):=by have:=HL.out;rw[hsp1.out] at this;simp at this;exact this
 have HT1:Hid (Ps E w1 ws1):=hT1
 have HC1:Hid (Ch E w w1):=hC1
 have HPk:Hid _:=peekS hT1
 have hcl:∀k∈ws1,TkC k:=by obtain⟨i,h⟩:=hT1;exact h.cl
 have hX1:(hdP E.t.length ws1).text=[41]↔hdS ws1=[41]:=hd_text hcl (by decide)
 have HLs:Hid (l.sym=[40]):=hl
 clear hl hT1 hC1 hcl HM HF
 by_cases c:hdS ws1=[41]
 ·obtain⟨k,us3,rfl,hk⟩:=hd_cons c (by decide)
  have htx:(cvT k).text=[41]:=hX1.2 c
  have HT:Hid (∀W,Kept 0 0 w1 W→_):=fun W kk=>takeS (HT1.out.keep kk) (by rw[hk];decide)
  have HW:Hid (∀r,wrongM E.t.length ts ([[40],pARGS,[41]]++r)=wrongM E.t.length us3 r):=fun r=>(hw1.out (pARGS::[41]::r)).trans ((args_shut c ([41]::r)).trans (wrong_yes (by decide) hk r))
  replace HPk:Hid (Calls Tryz.prog 57 #[.pointer (some ⟨E.P,0,none⟩)] w1 fun e w'=>e=.returned (.agg #[.int .i64 (cvT k).kind,strL (cvT k).text,.int .i64 ((cvT k).at_:Int)])∧Kept 0 0 w1 w'):=HPk.out
  rw[htx] at HPk
  have HKs:Hid (k.sym=[41]):=hk
  clear hX1 c htx hk
  go_wp2_with (first|(go_at_call 57;refine Calls.mono HPk.out ?_;rintro e w2 ⟨rfl,k2⟩)|(go_at_call 96;refine Calls.mono (HT.out _ k2) ?_;rintro e w3 ⟨rfl,hT3,hC3⟩))
  go_ret
  exact .inl ⟨[l,k],us3,_,rfl,hsp1,HW,hT3,(HC1.out.andThen k2.chg).andThen hC3,[],[],⟨World.ownsRow_nil _ _ _ _,fun b e=>(by cases e)⟩,NdL.nil _ _,.inl ⟨rfl,l,k,rfl,HLs.out,HKs.out⟩⟩
 ·have hkk:((hdP E.t.length ws1).text==[41])=false:=beq_false_of_ne (fun h=>c (hX1.1 h))
  have HW:Hid (∀r,wrongM E.t.length ts ([[40],pARGS,[41]]++r)=wrongM E.t.length ws1 (pEXPR::pMOREARGS::[41]::r)):=fun r=>(hw1.out (pARGS::[41]::r)).trans (args_open c ([41]::r))
  clear hX1 c
  generalize hdP E.t.length ws1=kv at*
  go_wp2_with (first|(go_at_call 57;refine Calls.mono HPk.out ?_;rintro e w2 ⟨rfl,k2⟩;unfold tkV)|(go_at_call 97;refine Calls.mono (HX.out _ ws1 (HT1.out.keep k2) HL1.out) ?_;rintro e w3 (⟨us3,ws3,v3,rfl,hsp3,hw3,hT3,hC3,e3,hPr3,hNd3⟩|⟨p,rfl,hw3,hC3⟩);rotate_left;exact And.intro rfl (Ot.bad (ts:=ts) (st:=[[40],pARGS,[41]]) (st2:=[pEXPR,pMOREARGS,[41]]) HW.out (HC1.out.andThen k2.chg) (fun r=>hw3.out (pMOREARGS::[41]::r)) hC3);obtain⟨T3,x3,rfl⟩:=hNd3.iface))
  have ka3:=kept_alloc 0 0 w3 (.cells #[.iface T3 x3] 167)
  have hCa:Ch E w w3:=(HC1.out.andThen k2.chg).andThen hC3
  have hsz3:w.heap.size≤w2.heap.size:=(HC1.out.andThen k2.chg).size
  have HG0:Hid (NdG (w3.alloc (.cells #[.iface T3 x3] 167)) w.heap.size (.slice (some ⟨w3.heap.size,0,none⟩) 1 1) [.iface T3 x3] [e3]):=by
   have hr:=rw_new w3 w.heap.size [.iface T3 x3] hCa.size (by simp)
   refine⟨hr.1,hr.2,?_⟩
   have hn:=hNd3.lt.keep ka3
   refine NdL.snoc (NdL.nil _ _) (hn.mono (fun b hM=>⟨Nat.le_trans hsz3 hM.1,fun e=>?_⟩))
   have e2:w3.heap.size=b:=by injection e
   have:=hM.2
   omega
  have HC4:Hid (Ch E w (w3.alloc (.cells #[.iface T3 x3] 167))):=hCa.andThen ka3.chg
  have HT4:Hid (Ps E (w3.alloc (.cells #[.iface T3 x3] 167)) ws3):=hT3.keep ka3
  have HPr3:Hid (Pr 3 [e3] us3):=.arg1 hPr3
  clear hPr3 hT3 hNd3 hC3 k2 ka3 hCa hsz3 HPk
  go_loopg [5] ws3.length (fun m sl W=>∃(es:List Ex) (vs:List Value) (us ws:List Tok),ws.length=m∧Hid (ws1=us++ws)∧Hid (Pr 3 es us)∧Hid (NdG W w.heap.size sl vs es)∧Hid (Ps E W ws)∧Hid (Ch E w W)∧Hid (∀r,wrongM E.t.length ts ([[40],pARGS,[41]]++r)=wrongM E.t.length ws (pMOREARGS::[41]::r)))
  case atStart=>exact⟨[e3],[.iface T3 x3],us3,ws3,rfl,hsp3,HPr3,HG0,HT4,HC4,fun r=>(HW.out r).trans (hw3.out (pMOREARGS::[41]::r))⟩
  case round=>
   obtain⟨es,vs,us,ws,hm,hsp,hPr,hG,hPs,hCh,hWr⟩:=hrel
   have hcl:∀k∈ws,TkC k:=by obtain⟨i,h⟩:=hPs.out;exact h.cl
   have HPk:Hid _:=peekS hPs.out
   have hX1:(hdP E.t.length ws).text=[44]↔hdS ws=[44]:=hd_text hcl (by decide)
   clear HG0 HC4 HT4 HPr3 hsp3 hw3
   by_cases c:hdS ws=[44]
   ·obtain⟨k,us4,rfl,hk⟩:=hd_cons c (by decide)
    have htx:(cvT k).text=[44]:=hX1.2 c
    have HT:Hid (∀W,Kept 0 0 wr W→_):=fun W kk=>takeS (hPs.out.keep kk) (by rw[hk];decide)
    have HW4:Hid (∀r,wrongM E.t.length ts ([[40],pARGS,[41]]++r)=wrongM E.t.length us4 (pEXPR::pMOREARGS::[41]::r)):=fun r=>(hWr.out r).trans (more_yes hk ([41]::r))
    replace HPk:Hid (Calls Tryz.prog 57 #[.pointer (some ⟨E.P,0,none⟩)] wr fun e w'=>e=.returned (.agg #[.int .i64 (cvT k).kind,strL (cvT k).text,.int .i64 ((cvT k).at_:Int)])∧Kept 0 0 wr w'):=HPk.out
    rw[htx] at HPk
    have HKs:Hid (k.sym=[44]):=hk
    have hmm:us4.length<gk:=by simp at hm;omega
    have HL4:Hid (us4.length<n):=by have:=HL1.out;rw[hsp.out] at this;simp at this;show _<_;omega
    have HV:Hid (vs.length+1≤1000000):=by
     have h1:=pr_lenE hPr.out
     have h2:=HT1.out.len
     have h3:=hG.out.nd.1
     rw[hsp.out] at h2
     simp at h2
     show _≤_
     omega
    clear hX1 c htx hk hcl hm
    go_upto_region 8 with (first|(go_at_call 57;refine Calls.mono HPk.out ?_;rintro e w2 ⟨rfl,k2⟩)|(go_at_call 96;refine Calls.mono (HT.out _ k2) ?_;rintro e w3 ⟨rfl,hT3,hC3⟩))
    have HC3:Hid (Ch E wr w3):=(k2.chg).andThen hC3
    have HT3:Hid (Ps E w3 us4):=hT3
    clear hT3 hC3 k2 HPk HT
    go_wp2_with (first
     |(go_at_call 97;refine Calls.mono (HX.out _ us4 HT3.out HL4.out) ?_;rintro e w5 (⟨us5,ws5,v5,rfl,hsp5,hw5,hT5,hC5,e5,hPr5,hNd5⟩|⟨p,rfl,hw5,hC5⟩);rotate_left;exact And.intro rfl (Ot.bad (ts:=ts) (st:=[[40],pARGS,[41]]) (st2:=[pEXPR,pMOREARGS,[41]]) HW4.out (hCh.out.andThen HC3.out) (fun r=>hw5.out (pMOREARGS::[41]::r)) hC5);obtain⟨T5,x5,rfl⟩:=hNd5.iface;have hn5:=cell_new1 w5 (.iface T5 x5) 167;have HG5:Hid _:=hG.out.chg (HC3.out.andThen hC5) (fun b e=>by have:=HPw.out;omega);have HRw:Hid _:=own_keepJ HG5.out.row (kept_alloc 0 0 w5 (.cells #[.iface T5 x5] 167)))
     |(at_builtin;refine wpList_appendNd _ rfl _ _ rfl _ vs (by rfl) HRw.out w5.heap.size T5 x5 (by rfl) hn5 HV.out ?_))
    intro g9 cap9 n9 w9 hn9 hR9 hC9 hG9
    have ka:=kept_alloc 0 0 w5 (.cells #[.iface T5 x5] 167)
    have hlt:=hG.out.lt
    have HG9:Hid _:=HG5.out.more hNd5 (fun b e=>Nat.lt_of_lt_of_le (hlt b e) HC3.out.size) (Nat.le_trans hCh.out.size HC3.out.size) hC5.size ka hC9 (by rw[hn9];simp) hR9 (by simpa using hG9)
    have hfr:=hG.out.fr
    have hN:=hPs.out.nw.2
    have HP9:Hid _:=(hT5.keep ka).far hC9 (fun b e=>by have:=hfr b e;have:=HPwN.out;omega)
    have HC9:Hid (Ch E w w9):=((hCh.out.andThen (HC3.out.andThen hC5)).andThen ka.chg).new hC9 (fun b h e=>by have:=hfr b e;omega)
    have HPr9:Hid (Pr 3 (es++[e5]) (us++k::us5)):=.argM hPr.out HKs.out hPr5
    clear hR9 hC9 hG9 ka hlt hfr hNd5 hT5 hC5 hPr5 hn9 HG5 HRw hn5
    go_wp2_with fail
    go_roundg ws5.length
    case measure=>have:=hsp5.out;rw[this] at hmm;simp at hmm;omega
    case rel=>exact⟨es++[e5],_,us++k::us5,ws5,rfl,by show _=_;rw[hsp.out,hsp5.out];simp,HPr9,HG9,HP9,HC9,fun r=>(HW4.out r).trans (hw5.out (pMOREARGS::[41]::r))⟩
   ·have hkk:((hdP E.t.length ws).text==[44])=false:=beq_false_of_ne (fun h=>c (hX1.1 h))
    have HW4:Hid (∀r,wrongM E.t.length ts ([[40],pARGS,[41]]++r)=wrongM E.t.length ws ([[41]]++r)):=fun r=>(hWr.out r).trans (more_no c ([41]::r))
    have HM:Hid (∀W,Kept 0 0 wr W→_):=fun W kk=>takeMarkS (hPs.out.keep kk) (s:=[41]) (by decide)
    clear hX1 c hcl
    generalize hdP E.t.length ws=kv2 at*
    go_wp2_with (first|(go_at_call 57;refine Calls.mono HPk.out ?_;rintro e w2 ⟨rfl,k2⟩;unfold tkV)|(go_at_call 99;refine Calls.mono (HM.out _ k2) ?_;rintro e w5 (⟨us5,ws5,v5,rfl,hsp5,hw5,hT5,hC5,r5,rfl,hr5,rfl⟩|⟨p,rfl,hw5,hC5⟩);rotate_left;exact And.intro rfl (Ot.bad (ts:=ts) (st:=[[40],pARGS,[41]]) (st2:=[[41]]) HW4.out (hCh.out.andThen k2.chg) (fun r=>hw5.out r) hC5)))
    go_ret
    have hC6:Ch E wr w5:=(k2.chg).andThen hC5
    have hG6:=hG.out.chg hC6 (fun b e=>by have:=HPw.out;omega)
    exact .inl ⟨l::(us++[r5]),ws5,_,rfl,by show _=_;rw[hsp1.out,hsp.out,hsp5.out];simp,fun r=>(HW4.out r).trans (hw5.out r),hT5,hCh.out.andThen hC6,es,vs,hG6.rw,hG6.ndl,.inr ⟨l,r5,us,rfl,HLs.out,hPr.out,hr5⟩⟩
end Go.Proofs.YtgamjhpebmmjcaaGreatDoor
