import Derived.Test.YtgamjhpebmmjcaaGreatDoorP13
import Derived.Test.YtgamjhpebmmjcaaGreatDoorP14
namespace Go.Proofs.YtgamjhpebmmjcaaGreatDoor
set_option maxRecDepth 100000
set_option maxHeartbeats 40000000
open Go.RowKit Flt
attribute [local go_sem] alloc_drewN setCell_drewN run_store_float
theorem stb_lit (w:World)(o l n d a b c:Int)(z:Nat):StB (w.alloc (Ste.box ⟨o,l,n,d,a,b,c,z⟩)) w.heap.size o [l,n,d,a,b,c] z where
 len:=rfl
 c0:=by go_simp
 cf:=fun i hi=>by
  rw[World.cell?_alloc_new]
  rcases (by omega:i=0∨i=1∨i=2∨i=3∨i=4∨i=5) with rfl|rfl|rfl|rfl|rfl|rfl<;>rfl
 c7:=by go_simp
 fr:=fun o=>by simp
 lt:=by simp
theorem PS.keepD {w w':World}{S:Nat→Prop}{lo hi:Nat}{a:Option Addr}{n:Nat}{vs:List Spn}(f:PS w lo hi a n vs)(k:Chg S w w')(hd:∀g,lo≤g→g<hi→¬S g):PS w' lo hi a n vs:=
 ⟨f.len,by
  rcases f.at_ with h0|⟨g,off,e,h1,h2,h3,h4⟩
  ·exact .inl h0
  ·refine .inr ⟨g,off,e,h1,h2,Nat.lt_of_lt_of_le h3 k.size,fun j hj=>?_⟩
   have e:∀o,w'.cell? ⟨g,o,none⟩=w.cell? ⟨g,o,none⟩:=fun o=>k.cell (p:=⟨g,o,none⟩) h3 (hd g h1 h2)
   obtain⟨c0,c1⟩:=h4 j hj
   exact⟨by rw[e];exact c0,by rw[e];exact c1⟩⟩
theorem PS.low {w:World}{lo hi:Nat}{a:Option Addr}{n:Nat}{vs:List Spn}(f:PS w lo hi a n vs):PS w 0 w.heap.size a n vs:=
 ⟨f.len,f.at_.imp id fun⟨g,off,e,_,_,h3,h4⟩=>⟨g,off,e,Nat.zero_le _,h3,h3,h4⟩⟩
theorem At.keepD {w w':World}{S:Nat→Prop}{g:Nat}{v:Vl}(a:At w g 0 v)(hg:g<w.heap.size)(k:Chg S w w')(hd:¬S g):At w' g 0 v:=by
 have e:∀o,w'.cell? ⟨g,o,none⟩=w.cell? ⟨g,o,none⟩:=fun o=>k.cell (p:=⟨g,o,none⟩) hg hd
 obtain⟨c0,c1,c2,c3,c4,c5⟩:=a
 exact⟨by rw[e];exact c0,by rw[e];exact c1,by rw[e];exact c2,by rw[e];exact c3,by rw[e];exact c4,by rw[e];exact c5⟩
def opTo (pl:List Spn)(v:Vl)(d:Int)(n:Int):Nat→List Int
 |0=>[v.len,n,d,v.a,v.b,v.c]
 |q+1=>(opTo pl v d n q).set (3+q) (pl.getD (fld v q).toNat Spn.zero).off
def stepPl (pl:List Spn)(v:Vl)(d:Int):Ste:=
 steF v.op ((opTo pl v d 0 (cnt v.op)).set 1 (if 0<cnt v.op then (pl.getD v.a.toNat Spn.zero).len else 0)) (if v.op=1 then v.k else 0)
abbrev qbox (S:Nat):Obj:=.cells #[.pointer (some ⟨S,4,none⟩),.pointer (some ⟨S,5,none⟩),.pointer (some ⟨S,6,none⟩)] 138
theorem qbox_at (w:World)(S:Nat){i:Nat}(hi:i<3):(w.alloc (qbox S)).cell? ⟨w.heap.size,i,none⟩=some (.pointer (some ⟨S,3+i+1,none⟩)):=by
 rw[World.cell?_alloc_new]
 rcases (by omega:i=0∨i=1∨i=2) with rfl|rfl|rfl<;>rfl
theorem stepOf (w:World)(lo hi:Nat)(a:Option Addr)(m c:Nat)(pl:List Spn)(v:Vl)(d:Int)(f:PS w lo hi a m pl)(ho:∀q,q<cnt v.op→0≤fld v q∧fld v q<m):
  Calls Tryz.prog 42 #[v.agg,.int .i64 d,.slice a m c] w fun e w'=>e=.returned (stepPl pl v d).agg∧Kept 0 0 w w':=by
 have k1:=kept_alloc 0 0 w (vbox v.op v.len v.a v.b v.c v.k)
 have k2:=kept_alloc 0 0 (w.alloc (vbox v.op v.len v.a v.b v.c v.k)) (sbox0 0)
 have hz1:(w.alloc (vbox v.op v.len v.a v.b v.c v.k)).heap.size=w.heap.size+1:=by simp
 have hA:=stb_new (w.alloc (vbox v.op v.len v.a v.b v.c v.k)) 0
 rw[hz1] at hA
 have HA:Hid _:=hA
 have HK:Hid _:=k1.trans k2
 have HV:Hid (∀o u,(w.alloc (vbox v.op v.len v.a v.b v.c v.k)).cell? ⟨w.heap.size,o,none⟩=some u→((w.alloc (vbox v.op v.len v.a v.b v.c v.k)).alloc (sbox0 0)).cell? ⟨w.heap.size,o,none⟩=some u):=fun o u h=>by rw[k2.cell (p:=⟨w.heap.size,o,none⟩) (by show w.heap.size<_;omega) (by omega)];exact h
 have HAV:Hid (At ((w.alloc (vbox v.op v.len v.a v.b v.c v.k)).alloc (sbox0 0)) w.heap.size 0 v):=by
  obtain⟨c0,c1,c2,c3,c4,c5⟩:=atV_new w v
  exact⟨HV.out _ _ c0,HV.out _ _ c1,HV.out _ _ c2,HV.out _ _ c3,HV.out _ _ c4,HV.out _ _ c5⟩
 have HF:Hid _:=f.low.keep (k1.trans k2) (.inr (.inr (Nat.le_refl _)))
 have HO:Hid _:=ho
 have HZ:Hid (((w.alloc (vbox v.op v.len v.a v.b v.c v.k)).alloc (sbox0 0)).heap.size=w.heap.size+1+1):=by show _=_;simp
 clear f ho k1 k2 hz1 hA HV
 go_enter Tryz.func42,Tryz.ntmps42
 go_upto_region 1 with fail
 generalize (w.alloc (vbox v.op v.len v.a v.b v.c v.k)).alloc (sbox0 0)=w1 at HA HK HAV HF HZ ⊢
 obtain⟨V,hV⟩:∃V,V=w.heap.size:=⟨_,rfl⟩
 rw[←hV] at HA HAV HZ HF ⊢
 have HVW:Hid _:=hV
 clear hV
 obtain⟨c0,c1,c2,c3,c4,c5⟩:=HAV.out
 go_upto_region 2 with fail
 have ks:=kept_alloc 0 0 w1 (Ste.box ⟨v.op,v.len,0,d,v.a,v.b,v.c,0⟩)
 have HB2:Hid _:=stb_lit w1 v.op v.len 0 d v.a v.b v.c 0
 have HA2:Hid _:=HA.out.keepC (ks.chg (S:=fun _=>False)) (fun h=>h)
 have HK2:Hid _:=HK.out.trans ks
 have HF2:Hid _:=HF.out.keep ks (.inr (.inr (Nat.le_refl _)))
 have HAV2:Hid (At (w1.alloc (Ste.box ⟨v.op,v.len,0,d,v.a,v.b,v.c,0⟩)) V 0 v):=HAV.out.keep (by have:=HZ.out;omega) ks (.inr (.inr (Nat.le_refl _)))
 have HZ2:Hid ((w1.alloc (Ste.box ⟨v.op,v.len,0,d,v.a,v.b,v.c,0⟩)).heap.size=V+1+1+1∧w1.heap.size=V+1+1):=⟨by have:=HZ.out;simp;omega,HZ.out⟩
 clear ks HA HK HF HAV c0 c1 c2 c3 c4 c5
 generalize w1.alloc (Ste.box ⟨v.op,v.len,0,d,v.a,v.b,v.c,0⟩)=w2 at HB2 HA2 HK2 HF2 HAV2 HZ2 ⊢
 generalize w1.heap.size=S at HB2 HZ2 ⊢
 have HKK:Hid (Kept 0 0 w w2∧w.heap.size=V):=⟨HK2.out,HVW.out.symm⟩
 obtain⟨c0,c1,c2,c3,c4,c5⟩:=HAV2.out
 cases t:(v.op==1)
 ·have t':¬v.op=1:=by simpa using t
  obtain⟨z,hz⟩:∃z:Nat,z=0:=⟨_,rfl⟩
  have HZV:Hid (z=if v.op=1 then v.k else 0):=by show _=_;rw[if_neg t',hz]
  have HB3:Hid (StB w2 S v.op [v.len,0,d,v.a,v.b,v.c] z):=by rw[hz];exact HB2.out
  have HC3:Hid (Chg (fun b=>b=S) w2 w2):=(Kept.refl 0 0 w2).chg
  clear hz t'
  go_upto_region 4 with fail
  obtain⟨w3,hw3⟩:∃w3,w3=w2:=⟨_,rfl⟩
  rw[←hw3] at HB3 ⊢
  rw[show Chg (fun b=>b=S) w2 w2=Chg (fun b=>b=S) w2 w3 by rw[hw3]] at HC3
  clear hw3 HB2 c0 c1 c2 c3 c4 c5 t
  have HA3:Hid _:=HA2.out.keepC HC3.out (by have:=HZ2.out;omega)
  have HAV3:Hid _:=HAV2.out.keepD (by have:=HZ2.out;omega) HC3.out (by have:=HZ2.out;omega)
  have HF3:Hid _:=HF2.out.keepD HC3.out (fun g _ h e=>by have:=HZ2.out;omega)
  have HK3:Hid _:=Chg.kept HKK.out.1 HC3.out (fun i e=>by have:=HZ2.out;have:=HKK.out.2;omega)
  have HZ3:Hid (S<w3.heap.size∧S=V+1+1):=⟨HB3.out.lt,by have:=HZ2.out;omega⟩
  clear HA2 HAV2 HF2 HC3 HK2
  go_upto_region 5 with fail
  have k4:=kept_alloc 0 0 w3 (qbox S)
  have HB4:Hid _:=HB3.out.keepC (k4.chg (S:=fun _=>False)) (fun h=>h)
  have HA4:Hid _:=HA3.out.keepC (k4.chg (S:=fun _=>False)) (fun h=>h)
  have HAV4:Hid _:=HAV3.out.keepD (by have:=HZ3.out;omega) (k4.chg (S:=fun _=>False)) (fun h=>h)
  have HF4:Hid _:=HF3.out.keepD (k4.chg (S:=fun _=>False)) (fun _ _ _ h=>h)
  have HK4:Hid _:=HK3.out.trans k4
  have HP4:Hid (∀q,q<3→(w3.alloc (qbox S)).cell? ⟨w3.heap.size,q,none⟩=some (.pointer (some ⟨S,3+q+1,none⟩))):=fun q hq=>qbox_at w3 S hq
  have HZ4:Hid (S<w3.heap.size∧S=V+1+1∧w3.heap.size<(w3.alloc (qbox S)).heap.size):=⟨HZ3.out.1,HZ3.out.2,by simp⟩
  clear k4 HB3 HA3 HAV3 HF3 HK3 HZ3
  generalize w3.alloc (qbox S)=w4 at HB4 HA4 HAV4 HF4 HK4 HP4 HZ4 ⊢
  generalize w3.heap.size=F at HP4 HZ4 ⊢
  obtain⟨c0,c1,c2,c3,c4,c5⟩:=HAV4.out
  go_wp2_with fail
  refine Calls.mono (operandsOf w4 v) ?_
  rintro e w5 ⟨g5,rfl,i5,hg5,k5⟩
  have HB5:Hid _:=HB4.out.keepC (k5.chg (S:=fun _=>False)) (fun h=>h)
  have HA5:Hid _:=HA4.out.keepC (k5.chg (S:=fun _=>False)) (fun h=>h)
  have HAV5:Hid _:=HAV4.out.keepD (by have:=HZ4.out;omega) (k5.chg (S:=fun _=>False)) (fun h=>h)
  have HF5:Hid _:=HF4.out.keepD (k5.chg (S:=fun _=>False)) (fun _ _ _ h=>h)
  have HK5:Hid _:=HK4.out.trans k5
  have HP5:Hid (∀q,q<3→w5.cell? ⟨F,q,none⟩=some (.pointer (some ⟨S,3+q+1,none⟩))):=fun q hq=>by rw[k5.cell (p:=⟨F,q,none⟩) HZ4.out.2.2 (by omega)];exact HP4.out q hq
  have HI5:Hid (∀q,q<cnt v.op→w5.cell? ⟨g5,q,none⟩=some (.int .i64 (fld v q))):=fun q hq=>by
   rcases i5.at_ with z0|⟨gi,oi,ei,_,_,_,ci⟩
   ·omega
   ·injection ei with ei
    injection ei with ei1 ei2
    subst ei1 ei2
    have:=ci q hq
    rw[Nat.zero_add,opsOf_fld v hq] at this
    exact this
  have HZ5:Hid (S<F∧S=V+1+1∧F<w5.heap.size∧(0<cnt v.op→F<g5)∧g5<w5.heap.size):=⟨HZ4.out.1,HZ4.out.2.1,by have:=HZ4.out;have:=k5.size;omega,fun hc0=>by
   rcases i5.at_ with z0|⟨gi,oi,ei,h1,_⟩
   ·omega
   ·injection ei with ei
    injection ei with ei1 ei2
    subst ei1
    have:=HZ4.out
    omega,by omega⟩
  clear i5 hg5 k5 HB4 HA4 HAV4 HF4 HK4 HP4 HZ4 c0 c1 c2 c3 c4 c5
  have hcl:=cnt_le v.op
  obtain⟨n0,hn0⟩:∃n0,n0=cnt v.op:=⟨_,rfl⟩
  rw[←hn0] at HI5 HO HZ5 hcl ⊢
  have HN0:Hid _:=hn0
  clear hn0
  go_wp2_with fail
  have HNV:Hid (stepPl pl v d=steF v.op ((opTo pl v d 0 n0).set 1 (if 0<n0 then (pl.getD v.a.toNat Spn.zero).len else 0)) z):=by
   show _=_
   rw[HZV.out,HN0.out];rfl
  have HF0:Hid (0<n0→v.a=fld v 0):=fun _=>rfl
  clear HZV
  go_loopw [36] (fun i W'=>∃q:Nat,q≤n0∧i=.int .i64 q∧Hid (StB W' S v.op (opTo pl v d 0 q) z)∧Hid (Chg (fun b=>b=S) w5 W')) (fun i _=>n0-(intOf i).toNat)
  case atStart=>exact⟨0,Nat.zero_le _,rfl,HB5,(Kept.refl 0 0 w5).chg⟩
  case round=>
   obtain⟨q,hq,rfl,hB,hC⟩:=hrel
   clear HB5
   by_cases hlt:q<n0
   ·have hq3:q<3:=by omega
    have cF:wr.cell? ⟨F,q,none⟩=some (.pointer (some ⟨S,3+q+1,none⟩)):=by
     rw[hC.out.cell (p:=⟨F,q,none⟩) HZ5.out.2.2.1 (by have:=HZ5.out;show ¬(F=S);omega)]
     exact HP5.out q hq3
    obtain⟨k,hk⟩:∃k:Nat,fld v q=k:=⟨(fld v q).toNat,by have:=HO.out q hlt;omega⟩
    have hkm:k<m:=by have:=HO.out q hlt;omega
    have cI:wr.cell? ⟨g5,q,none⟩=some (.int .i64 k):=by
     rw[hC.out.cell (p:=⟨g5,q,none⟩) HZ5.out.2.2.2.2 (by have:=HZ5.out;have:=HZ5.out.2.2.2.1 (by omega);show ¬(g5=S);omega),HI5.out q hlt,hk]
    have R0:opTo pl v d 0 (q+1)=(opTo pl v d 0 q).set (3+q) (pl.getD k Spn.zero).off:=by
     rw[opTo,hk];rfl
    rcases (HF5.out.keepD hC.out (fun g _ h e=>by have:=HZ5.out;omega)).at_ with z0|⟨ga,off,rfl,z1,z2,z3,z4⟩
    ·omega
    obtain⟨y0,y1⟩:=z4 k hkm
    have HB':Hid _:=(hB.out.put (k:=3+q) (by omega) (pl.getD k Spn.zero).off).keepC ((kept_drew (wr.setCell ⟨S,3+q+1,none⟩ (.int .i64 (pl.getD k Spn.zero).off))).chg (S:=fun _=>False)) (fun h=>h)
    rw[←R0] at HB'
    have HKF:Hid ((wr.setCell ⟨S,3+q+1,none⟩ (.int .i64 (pl.getD k Spn.zero).off)).drew.cell? ⟨F,q,none⟩=some (.pointer (some ⟨S,3+q+1,none⟩))∧(wr.setCell ⟨S,3+q+1,none⟩ (.int .i64 (pl.getD k Spn.zero).off)).drew.cell? ⟨ga,off+k*2,none⟩=some (.int .i64 (pl.getD k Spn.zero).off)):=by
     have h1:=HZ5.out
     constructor
     ·show(wr.setCell ⟨S,3+q+1,none⟩ (.int .i64 (pl.getD k Spn.zero).off)).cell? ⟨F,q,none⟩=_
      rw[cell_ne _ _ _ _ _ _ (.inl (by omega))];exact cF
     ·show(wr.setCell ⟨S,3+q+1,none⟩ (.int .i64 (pl.getD k Spn.zero).off)).cell? ⟨ga,off+k*2,none⟩=_
      rw[cell_ne _ _ _ _ _ _ (.inl (by omega))];exact y0
    have cS:=hB.out.cf (3+q) (by omega)
    have fS:=hB.out.fr (3+q+1)
    have HC':Hid (Chg (fun b=>b=S) w5 (wr.setCell ⟨S,3+q+1,none⟩ (.int .i64 (pl.getD k Spn.zero).off)).drew):=Chg.andThen hC.out (Chg.andThen (chg_setCell (S:=fun b=>b=S) wr S (3+q+1) _ rfl) (kept_drew _).chg)
    clear R0 hk z1 z2 z3 z4 y1 hB hC
    generalize (pl.getD k Spn.zero).off=y at y0 HB' HC' HKF
    have hi1:(0:Int)≤(k:Int):=by omega
    have hi2:(k:Int)<(m:Int):=by omega
    have hi3:(0:Int)≤(q:Int):=by omega
    have hi4:(q:Int)<3:=by omega
    have hi5:(q:Int)<(n0:Int):=by omega
    go_wp2_with fail
    go_region_held3 (fun w'=>w'.cell? ⟨F,q,none⟩=some (.pointer (some ⟨S,3+q+1,none⟩))∧w'.cell? ⟨ga,off+k*2,none⟩=some (.int .i64 y)) (first|(exact HKF.out)|go_keep) (fail)
    all_goals
     go_wp2_with fail
     go_roundw
     case rel=>exact⟨q+1,by omega,by go_num,HB',HC'⟩
     case measure=>simp[intOf];omega
   ·obtain rfl:q=n0:=by omega
    have HAVr:Hid (At wr V 0 v):=HAV5.out.keepD (by have:=HZ5.out;omega) hC.out (by have:=HZ5.out;show ¬(V=S);omega)
    have HAr:Hid _:=HA5.out.keepC hC.out (by have:=HZ5.out;show ¬(V+1=S);omega)
    have HFr:Hid _:=HF5.out.keepD hC.out (fun g _ h e=>by have:=HZ5.out;omega)
    have HKr:Hid _:=Chg.kept HK5.out hC.out (fun i e=>by have:=HZ5.out;have:=HKK.out.2;omega)
    clear HA5 HAV5 HF5 HK5 HI5 HP5 hC
    obtain⟨c0,c1,c2,c3,c4,c5⟩:=HAVr.out
    go_wp2_with fail
    refine Calls.mono (opCount v.op wr) ?_
    rintro e w6 ⟨rfl,rfl⟩
    rw[←HN0.out]
    by_cases hp:0<q
    ·have hp':(0:Int)<(q:Int):=by omega
     obtain⟨k,hk⟩:∃k:Nat,v.a=k:=⟨v.a.toNat,by have:=HO.out 0 hp;rw[←HF0.out hp] at this;omega⟩
     have hkm:k<m:=by have:=HO.out 0 hp;rw[←HF0.out hp] at this;omega
     rcases HFr.out.at_ with z0|⟨ga,off,rfl,z1,z2,z3,z4⟩
     ·omega
     obtain⟨y0,y1⟩:=z4 k hkm
     have HNV':Hid (stepPl pl v d=steF v.op ((opTo pl v d 0 q).set 1 (pl.getD k Spn.zero).len) z):=by
      show _=_
      rw[HNV.out,if_pos hp,hk];rfl
     have HB6:Hid _:=hB.out.put (k:=1) (by omega) (pl.getD k Spn.zero).len
     have kS:=chg_setCell (S:=fun b=>b=S) w6 S (1+1) (.int .i64 (pl.getD k Spn.zero).len) rfl
     have HA6:Hid _:=HAr.out.keepC kS (by have:=HZ5.out;show ¬(V+1=S);omega)
     have HK6:Hid _:=Chg.kept HKr.out kS (fun i e=>by have:=HZ5.out;have:=HKK.out.2;omega)
     have b2:=hB.out.cf 1 (by omega)
     have fb2:=hB.out.fr 2
     generalize (pl.getD k Spn.zero).len=y at y1 HB6 HA6 HK6 HNV' kS
     clear kS hB HAr HKr HNV z1 z2 z3 z4 y0 c0 c1 c3 c4 c5 HAVr HFr
     have hi1:(0:Int)≤(k:Int):=by omega
     have hi2:(k:Int)<(m:Int):=by omega
     rw[hk] at c2
     clear hk
     go_upto_region 12 with fail
     obtain⟨fs,hfs⟩:∃fs,fs=(opTo pl v d 0 q).set 1 y:=⟨_,rfl⟩
     rw[←hfs] at HB6 HNV'
     clear hfs
     generalize w6.setCell ⟨S,2,none⟩ (.int .i64 y)=w7 at HB6 HA6 HK6 ⊢
     obtain⟨e0,e1,e2,e3,e4,e5,e6,e7⟩:=HB6.out.at_
     simp only[steF] at e0 e1 e2 e3 e4 e5 e6 e7
     obtain⟨a0,a1,a2,a3,a4,a5,a6,a7⟩:=HA6.out.at_
     simp only[steF] at a0 a1 a2 a3 a4 a5 a6 a7
     have hfr:=HA6.out.fr
     have kA:=put8z_chg w7 (V+1) (steF v.op fs z)
     have HAT:Hid _:=put8z_at w7 (V+1) _ (steF v.op fs z) HA6.out.at_
     have RK:Hid (Kept 0 0 w (put8z w7 (V+1) (steF v.op fs z))):=Chg.kept HK6.out kA (fun i e=>by have:=HKK.out.2;omega)
     clear kA HB6 HA6 HK6
     go_wp2_with fail
     obtain⟨z0,z1,z2,z3,z4,z5,z6,z7⟩:=HAT.out
     simp only[steF,List.getD_eq_getElem?_getD,Nat.zero_add] at z0 z1 z2 z3 z4 z5 z6 z7
     refine bodyPost_ret (v:=(steF v.op fs z).agg) (by simp[results,Tryz.results42,go_sem,z0,z1,z2,z3,z4,z5,z6,z7,steF]) rfl ⟨?_,RK.out⟩
     rw[HNV'.out]
    ·obtain rfl:q=0:=by omega
     have HNV':Hid (stepPl pl v d=steF v.op (opTo pl v d 0 0) z):=by
      show _=_
      rw[HNV.out];rfl
     have HB6:Hid _:=hB.out
     have HA6:Hid _:=HAr.out
     have HK6:Hid _:=HKr.out
     clear hB HAr HKr HNV c0 c1 c2 c3 c4 c5 HAVr HFr
     go_upto_region 12 with fail
     obtain⟨fs,hfs⟩:∃fs,fs=opTo pl v d 0 0:=⟨_,rfl⟩
     rw[←hfs] at HB6 HNV'
     clear hfs
     generalize w6=w7 at HB6 HA6 HK6 ⊢
     obtain⟨e0,e1,e2,e3,e4,e5,e6,e7⟩:=HB6.out.at_
     simp only[steF] at e0 e1 e2 e3 e4 e5 e6 e7
     obtain⟨a0,a1,a2,a3,a4,a5,a6,a7⟩:=HA6.out.at_
     simp only[steF] at a0 a1 a2 a3 a4 a5 a6 a7
     have hfr:=HA6.out.fr
     have kA:=put8z_chg w7 (V+1) (steF v.op fs z)
     have HAT:Hid _:=put8z_at w7 (V+1) _ (steF v.op fs z) HA6.out.at_
     have RK:Hid (Kept 0 0 w (put8z w7 (V+1) (steF v.op fs z))):=Chg.kept HK6.out kA (fun i e=>by have:=HKK.out.2;omega)
     clear kA HB6 HA6 HK6
     go_wp2_with fail
     obtain⟨z0,z1,z2,z3,z4,z5,z6,z7⟩:=HAT.out
     simp only[steF,List.getD_eq_getElem?_getD,Nat.zero_add] at z0 z1 z2 z3 z4 z5 z6 z7
     refine bodyPost_ret (v:=(steF v.op fs z).agg) (by simp[results,Tryz.results42,go_sem,z0,z1,z2,z3,z4,z5,z6,z7,steF]) rfl ⟨?_,RK.out⟩
     rw[HNV'.out]
 ·have t':v.op=1:=by simpa using t
  obtain⟨z,hz⟩:∃z:Nat,z=v.k:=⟨_,rfl⟩
  have HZV:Hid (z=if v.op=1 then v.k else 0):=by show _=_;rw[if_pos t',hz]
  have HB3:Hid _:=HB2.out.put7 v.k
  have HC3:Hid (Chg (fun b=>b=S) w2 (w2.setCell ⟨S,7,none⟩ (.float .f64 v.k))):=chg_setCell w2 S 7 _ rfl
  have b7:=HB2.out.c7
  have f7:=HB2.out.fr 7
  have HZE:Hid _:=hz
  clear t' hz
  go_upto_region 4 with fail
  rw[←HZE.out] at HB3 HC3 ⊢
  generalize w2.setCell ⟨S,7,none⟩ (.float .f64 z)=w3 at HB3 HC3 ⊢
  clear HB2 c0 c1 c2 c3 c4 c5 t b7 f7 HZE
  have HA3:Hid _:=HA2.out.keepC HC3.out (by have:=HZ2.out;omega)
  have HAV3:Hid _:=HAV2.out.keepD (by have:=HZ2.out;omega) HC3.out (by have:=HZ2.out;omega)
  have HF3:Hid _:=HF2.out.keepD HC3.out (fun g _ h e=>by have:=HZ2.out;omega)
  have HK3:Hid _:=Chg.kept HKK.out.1 HC3.out (fun i e=>by have:=HZ2.out;have:=HKK.out.2;omega)
  have HZ3:Hid (S<w3.heap.size∧S=V+1+1):=⟨HB3.out.lt,by have:=HZ2.out;omega⟩
  clear HA2 HAV2 HF2 HC3 HK2
  go_upto_region 5 with fail
  have k4:=kept_alloc 0 0 w3 (qbox S)
  have HB4:Hid _:=HB3.out.keepC (k4.chg (S:=fun _=>False)) (fun h=>h)
  have HA4:Hid _:=HA3.out.keepC (k4.chg (S:=fun _=>False)) (fun h=>h)
  have HAV4:Hid _:=HAV3.out.keepD (by have:=HZ3.out;omega) (k4.chg (S:=fun _=>False)) (fun h=>h)
  have HF4:Hid _:=HF3.out.keepD (k4.chg (S:=fun _=>False)) (fun _ _ _ h=>h)
  have HK4:Hid _:=HK3.out.trans k4
  have HP4:Hid (∀q,q<3→(w3.alloc (qbox S)).cell? ⟨w3.heap.size,q,none⟩=some (.pointer (some ⟨S,3+q+1,none⟩))):=fun q hq=>qbox_at w3 S hq
  have HZ4:Hid (S<w3.heap.size∧S=V+1+1∧w3.heap.size<(w3.alloc (qbox S)).heap.size):=⟨HZ3.out.1,HZ3.out.2,by simp⟩
  clear k4 HB3 HA3 HAV3 HF3 HK3 HZ3
  generalize w3.alloc (qbox S)=w4 at HB4 HA4 HAV4 HF4 HK4 HP4 HZ4 ⊢
  generalize w3.heap.size=F at HP4 HZ4 ⊢
  obtain⟨c0,c1,c2,c3,c4,c5⟩:=HAV4.out
  go_wp2_with fail
  refine Calls.mono (operandsOf w4 v) ?_
  rintro e w5 ⟨g5,rfl,i5,hg5,k5⟩
  have HB5:Hid _:=HB4.out.keepC (k5.chg (S:=fun _=>False)) (fun h=>h)
  have HA5:Hid _:=HA4.out.keepC (k5.chg (S:=fun _=>False)) (fun h=>h)
  have HAV5:Hid _:=HAV4.out.keepD (by have:=HZ4.out;omega) (k5.chg (S:=fun _=>False)) (fun h=>h)
  have HF5:Hid _:=HF4.out.keepD (k5.chg (S:=fun _=>False)) (fun _ _ _ h=>h)
  have HK5:Hid _:=HK4.out.trans k5
  have HP5:Hid (∀q,q<3→w5.cell? ⟨F,q,none⟩=some (.pointer (some ⟨S,3+q+1,none⟩))):=fun q hq=>by rw[k5.cell (p:=⟨F,q,none⟩) HZ4.out.2.2 (by omega)];exact HP4.out q hq
  have HI5:Hid (∀q,q<cnt v.op→w5.cell? ⟨g5,q,none⟩=some (.int .i64 (fld v q))):=fun q hq=>by
   rcases i5.at_ with z0|⟨gi,oi,ei,_,_,_,ci⟩
   ·omega
   ·injection ei with ei
    injection ei with ei1 ei2
    subst ei1 ei2
    have:=ci q hq
    rw[Nat.zero_add,opsOf_fld v hq] at this
    exact this
  have HZ5:Hid (S<F∧S=V+1+1∧F<w5.heap.size∧(0<cnt v.op→F<g5)∧g5<w5.heap.size):=⟨HZ4.out.1,HZ4.out.2.1,by have:=HZ4.out;have:=k5.size;omega,fun hc0=>by
   rcases i5.at_ with z0|⟨gi,oi,ei,h1,_⟩
   ·omega
   ·injection ei with ei
    injection ei with ei1 ei2
    subst ei1
    have:=HZ4.out
    omega,by omega⟩
  clear i5 hg5 k5 HB4 HA4 HAV4 HF4 HK4 HP4 HZ4 c0 c1 c2 c3 c4 c5
  have hcl:=cnt_le v.op
  obtain⟨n0,hn0⟩:∃n0,n0=cnt v.op:=⟨_,rfl⟩
  rw[←hn0] at HI5 HO HZ5 hcl ⊢
  have HN0:Hid _:=hn0
  clear hn0
  go_wp2_with fail
  have HNV:Hid (stepPl pl v d=steF v.op ((opTo pl v d 0 n0).set 1 (if 0<n0 then (pl.getD v.a.toNat Spn.zero).len else 0)) z):=by
   show _=_
   rw[HZV.out,HN0.out];rfl
  have HF0:Hid (0<n0→v.a=fld v 0):=fun _=>rfl
  clear HZV
  go_loopw [36] (fun i W'=>∃q:Nat,q≤n0∧i=.int .i64 q∧Hid (StB W' S v.op (opTo pl v d 0 q) z)∧Hid (Chg (fun b=>b=S) w5 W')) (fun i _=>n0-(intOf i).toNat)
  case atStart=>exact⟨0,Nat.zero_le _,rfl,HB5,(Kept.refl 0 0 w5).chg⟩
  case round=>
   obtain⟨q,hq,rfl,hB,hC⟩:=hrel
   clear HB5
   by_cases hlt:q<n0
   ·have hq3:q<3:=by omega
    have cF:wr.cell? ⟨F,q,none⟩=some (.pointer (some ⟨S,3+q+1,none⟩)):=by
     rw[hC.out.cell (p:=⟨F,q,none⟩) HZ5.out.2.2.1 (by have:=HZ5.out;show ¬(F=S);omega)]
     exact HP5.out q hq3
    obtain⟨k,hk⟩:∃k:Nat,fld v q=k:=⟨(fld v q).toNat,by have:=HO.out q hlt;omega⟩
    have hkm:k<m:=by have:=HO.out q hlt;omega
    have cI:wr.cell? ⟨g5,q,none⟩=some (.int .i64 k):=by
     rw[hC.out.cell (p:=⟨g5,q,none⟩) HZ5.out.2.2.2.2 (by have:=HZ5.out;have:=HZ5.out.2.2.2.1 (by omega);show ¬(g5=S);omega),HI5.out q hlt,hk]
    have R0:opTo pl v d 0 (q+1)=(opTo pl v d 0 q).set (3+q) (pl.getD k Spn.zero).off:=by
     rw[opTo,hk];rfl
    rcases (HF5.out.keepD hC.out (fun g _ h e=>by have:=HZ5.out;omega)).at_ with z0|⟨ga,off,rfl,z1,z2,z3,z4⟩
    ·omega
    obtain⟨y0,y1⟩:=z4 k hkm
    have HB':Hid _:=(hB.out.put (k:=3+q) (by omega) (pl.getD k Spn.zero).off).keepC ((kept_drew (wr.setCell ⟨S,3+q+1,none⟩ (.int .i64 (pl.getD k Spn.zero).off))).chg (S:=fun _=>False)) (fun h=>h)
    rw[←R0] at HB'
    have HKF:Hid ((wr.setCell ⟨S,3+q+1,none⟩ (.int .i64 (pl.getD k Spn.zero).off)).drew.cell? ⟨F,q,none⟩=some (.pointer (some ⟨S,3+q+1,none⟩))∧(wr.setCell ⟨S,3+q+1,none⟩ (.int .i64 (pl.getD k Spn.zero).off)).drew.cell? ⟨ga,off+k*2,none⟩=some (.int .i64 (pl.getD k Spn.zero).off)):=by
     have h1:=HZ5.out
     constructor
     ·show(wr.setCell ⟨S,3+q+1,none⟩ (.int .i64 (pl.getD k Spn.zero).off)).cell? ⟨F,q,none⟩=_
      rw[cell_ne _ _ _ _ _ _ (.inl (by omega))];exact cF
     ·show(wr.setCell ⟨S,3+q+1,none⟩ (.int .i64 (pl.getD k Spn.zero).off)).cell? ⟨ga,off+k*2,none⟩=_
      rw[cell_ne _ _ _ _ _ _ (.inl (by omega))];exact y0
    have cS:=hB.out.cf (3+q) (by omega)
    have fS:=hB.out.fr (3+q+1)
    have HC':Hid (Chg (fun b=>b=S) w5 (wr.setCell ⟨S,3+q+1,none⟩ (.int .i64 (pl.getD k Spn.zero).off)).drew):=Chg.andThen hC.out (Chg.andThen (chg_setCell (S:=fun b=>b=S) wr S (3+q+1) _ rfl) (kept_drew _).chg)
    clear R0 hk z1 z2 z3 z4 y1 hB hC
    generalize (pl.getD k Spn.zero).off=y at y0 HB' HC' HKF
    have hi1:(0:Int)≤(k:Int):=by omega
    have hi2:(k:Int)<(m:Int):=by omega
    have hi3:(0:Int)≤(q:Int):=by omega
    have hi4:(q:Int)<3:=by omega
    have hi5:(q:Int)<(n0:Int):=by omega
    go_wp2_with fail
    go_region_held3 (fun w'=>w'.cell? ⟨F,q,none⟩=some (.pointer (some ⟨S,3+q+1,none⟩))∧w'.cell? ⟨ga,off+k*2,none⟩=some (.int .i64 y)) (first|(exact HKF.out)|go_keep) (fail)
    all_goals
     go_wp2_with fail
     go_roundw
     case rel=>exact⟨q+1,by omega,by go_num,HB',HC'⟩
     case measure=>simp[intOf];omega
   ·obtain rfl:q=n0:=by omega
    have HAVr:Hid (At wr V 0 v):=HAV5.out.keepD (by have:=HZ5.out;omega) hC.out (by have:=HZ5.out;show ¬(V=S);omega)
    have HAr:Hid _:=HA5.out.keepC hC.out (by have:=HZ5.out;show ¬(V+1=S);omega)
    have HFr:Hid _:=HF5.out.keepD hC.out (fun g _ h e=>by have:=HZ5.out;omega)
    have HKr:Hid _:=Chg.kept HK5.out hC.out (fun i e=>by have:=HZ5.out;have:=HKK.out.2;omega)
    clear HA5 HAV5 HF5 HK5 HI5 HP5 hC
    obtain⟨c0,c1,c2,c3,c4,c5⟩:=HAVr.out
    go_wp2_with fail
    refine Calls.mono (opCount v.op wr) ?_
    rintro e w6 ⟨rfl,rfl⟩
    rw[←HN0.out]
    by_cases hp:0<q
    ·have hp':(0:Int)<(q:Int):=by omega
     obtain⟨k,hk⟩:∃k:Nat,v.a=k:=⟨v.a.toNat,by have:=HO.out 0 hp;rw[←HF0.out hp] at this;omega⟩
     have hkm:k<m:=by have:=HO.out 0 hp;rw[←HF0.out hp] at this;omega
     rcases HFr.out.at_ with z0|⟨ga,off,rfl,z1,z2,z3,z4⟩
     ·omega
     obtain⟨y0,y1⟩:=z4 k hkm
     have HNV':Hid (stepPl pl v d=steF v.op ((opTo pl v d 0 q).set 1 (pl.getD k Spn.zero).len) z):=by
      show _=_
      rw[HNV.out,if_pos hp,hk];rfl
     have HB6:Hid _:=hB.out.put (k:=1) (by omega) (pl.getD k Spn.zero).len
     have kS:=chg_setCell (S:=fun b=>b=S) w6 S (1+1) (.int .i64 (pl.getD k Spn.zero).len) rfl
     have HA6:Hid _:=HAr.out.keepC kS (by have:=HZ5.out;show ¬(V+1=S);omega)
     have HK6:Hid _:=Chg.kept HKr.out kS (fun i e=>by have:=HZ5.out;have:=HKK.out.2;omega)
     have b2:=hB.out.cf 1 (by omega)
     have fb2:=hB.out.fr 2
     generalize (pl.getD k Spn.zero).len=y at y1 HB6 HA6 HK6 HNV' kS
     clear kS hB HAr HKr HNV z1 z2 z3 z4 y0 c0 c1 c3 c4 c5 HAVr HFr
     have hi1:(0:Int)≤(k:Int):=by omega
     have hi2:(k:Int)<(m:Int):=by omega
     rw[hk] at c2
     clear hk
     go_upto_region 12 with fail
     obtain⟨fs,hfs⟩:∃fs,fs=(opTo pl v d 0 q).set 1 y:=⟨_,rfl⟩
     rw[←hfs] at HB6 HNV'
     clear hfs
     generalize w6.setCell ⟨S,2,none⟩ (.int .i64 y)=w7 at HB6 HA6 HK6 ⊢
     obtain⟨e0,e1,e2,e3,e4,e5,e6,e7⟩:=HB6.out.at_
     simp only[steF] at e0 e1 e2 e3 e4 e5 e6 e7
     obtain⟨a0,a1,a2,a3,a4,a5,a6,a7⟩:=HA6.out.at_
     simp only[steF] at a0 a1 a2 a3 a4 a5 a6 a7
     have hfr:=HA6.out.fr
     have kA:=put8z_chg w7 (V+1) (steF v.op fs z)
     have HAT:Hid _:=put8z_at w7 (V+1) _ (steF v.op fs z) HA6.out.at_
     have RK:Hid (Kept 0 0 w (put8z w7 (V+1) (steF v.op fs z))):=Chg.kept HK6.out kA (fun i e=>by have:=HKK.out.2;omega)
     clear kA HB6 HA6 HK6
     go_wp2_with fail
     obtain⟨z0,z1,z2,z3,z4,z5,z6,z7⟩:=HAT.out
     simp only[steF,List.getD_eq_getElem?_getD,Nat.zero_add] at z0 z1 z2 z3 z4 z5 z6 z7
     refine bodyPost_ret (v:=(steF v.op fs z).agg) (by simp[results,Tryz.results42,go_sem,z0,z1,z2,z3,z4,z5,z6,z7,steF]) rfl ⟨?_,RK.out⟩
     rw[HNV'.out]
    ·obtain rfl:q=0:=by omega
     have HNV':Hid (stepPl pl v d=steF v.op (opTo pl v d 0 0) z):=by
      show _=_
      rw[HNV.out];rfl
     have HB6:Hid _:=hB.out
     have HA6:Hid _:=HAr.out
     have HK6:Hid _:=HKr.out
     clear hB HAr HKr HNV c0 c1 c2 c3 c4 c5 HAVr HFr
     go_upto_region 12 with fail
     obtain⟨fs,hfs⟩:∃fs,fs=opTo pl v d 0 0:=⟨_,rfl⟩
     rw[←hfs] at HB6 HNV'
     clear hfs
     generalize w6=w7 at HB6 HA6 HK6 ⊢
     obtain⟨e0,e1,e2,e3,e4,e5,e6,e7⟩:=HB6.out.at_
     simp only[steF] at e0 e1 e2 e3 e4 e5 e6 e7
     obtain⟨a0,a1,a2,a3,a4,a5,a6,a7⟩:=HA6.out.at_
     simp only[steF] at a0 a1 a2 a3 a4 a5 a6 a7
     have hfr:=HA6.out.fr
     have kA:=put8z_chg w7 (V+1) (steF v.op fs z)
     have HAT:Hid _:=put8z_at w7 (V+1) _ (steF v.op fs z) HA6.out.at_
     have RK:Hid (Kept 0 0 w (put8z w7 (V+1) (steF v.op fs z))):=Chg.kept HK6.out kA (fun i e=>by have:=HKK.out.2;omega)
     clear kA HB6 HA6 HK6
     go_wp2_with fail
     obtain⟨z0,z1,z2,z3,z4,z5,z6,z7⟩:=HAT.out
     simp only[steF,List.getD_eq_getElem?_getD,Nat.zero_add] at z0 z1 z2 z3 z4 z5 z6 z7
     refine bodyPost_ret (v:=(steF v.op fs z).agg) (by simp[results,Tryz.results42,go_sem,z0,z1,z2,z3,z4,z5,z6,z7,steF]) rfl ⟨?_,RK.out⟩
     rw[HNV'.out]
end Go.Proofs.YtgamjhpebmmjcaaGreatDoor
