import Derived.Test.YtgamjhpebmmjcaaGreatDoorP31
import Derived.Test.YtgamjhpebmmjcaaGreatDoorP29
import Derived.Test.YtgamjhpebmmjcaaGreatDoorP34
import Derived.Test.YtgamjhpebmmjcaaGreatDoorP33
import Derived.Test.YtgamjhpebmmjcaaGreatDoorP36
namespace Go.Proofs.YtgamjhpebmmjcaaGreatDoor
set_option maxRecDepth 100000
set_option maxHeartbeats 40000000
open Go.RowKit Flt
attribute [local go_sem] alloc_drewN setCell_drewN run_store_float
def PsN (W:World)(k:Nat)(e:Ending)(w':World):Prop:=
 ∃g2 d2 g3 d3,e=.returned (.tuple #[gagg none 0 0 (some ⟨g2,0,none⟩) 3 d2 (some ⟨g3,0,none⟩) 2 d3,.int .i64 0,.int .i64 0])∧VA w' g2 3 (nVs k)∧IBk w' g3 2 [0,2]∧Kept 0 0 W w'
def CpN (w:World)(k:Nat)(e:Ending)(w':World):Prop:=
 ∃a1 c1 a2 c2 a3 c3 k1 k2,e=.returned (.tuple #[cagg a1 0 c1 a2 2 c2 a3 2 c3 2,.int .i64 0,.int .i64 0])∧CS w' a1 0 a2 2 a3 2 [] (ssN k1 k2) osN∧fb k1=fb k∧fb k2=fb (ngK k)∧Kept 0 0 w w'
theorem compileN {w:World}{a:Option Addr}{n cap gp cp k:Nat}(hgp:gp<w.heap.size)(p0:w.cell? ⟨gp,0,none⟩=some (.int .i64 2))(p1:w.cell? ⟨gp,1,none⟩=some (.int .i64 0))(hk:k<18446744073709551616)
  (hP:∀W,Kept 0 0 w W→Calls Tryz.prog 23 #[.slice a n cap] W (PsN W k)):
  Calls Tryz.prog 17 #[.slice a n cap,.slice (some ⟨gp,0,none⟩) 2 cp,.int .i64 10] w (CpN w k):=by
 have HP:Hid _:=hP
 have HC:Hid (∀W,Kept 0 0 w W→gp<W.heap.size∧W.cell? ⟨gp,0,none⟩=some (.int .i64 2)∧W.cell? ⟨gp,1,none⟩=some (.int .i64 0)):=fun W q=>⟨Nat.lt_of_lt_of_le hgp q.size,(q.cell (p:=⟨gp,0,none⟩) hgp (by omega)).trans p0,(q.cell (p:=⟨gp,1,none⟩) hgp (by omega)).trans p1⟩
 have HR:Hid _:=kb_start w
 have k0:=kept_alloc 0 0 w cbox0
 have HK0:Hid _:=k0
 have HKk:Hid _:=hk
 clear hP hgp p0 p1 k0 hk
 go_enter Tryz.func17,Tryz.ntmps17
 go_wp2_with fail
 generalize w.alloc cbox0=w1 at HR HK0 ⊢
 go_loopw [21] (fun x W=>∃i:Nat,i≤2∧x=.int .i64 i∧Hid (Kept 0 0 w1 W)) (fun x _=>2-(intOf x).toNat)
 case atStart=>exact⟨0,Nat.zero_le _,rfl,Kept.refl 0 0 _⟩
 case round=>
  obtain⟨i,hi,rfl,hK⟩:=hrel
  obtain⟨hg,c0,c1⟩:=HC.out wr (HK0.out.trans hK.out)
  rcases (by omega:i=0∨i=1∨i=2) with rfl|rfl|rfl
  ·go_wp2_with (go_at_call 22;refine Calls.mono (isIndex_any _ _ _) ?_;rintro e w2 ⟨rfl,hw⟩;obtain rfl:=hw.symm)
   go_roundw
   case rel=>exact⟨1,by omega,by go_num,hK⟩
   case measure=>simp[intOf]
  ·go_wp2_with (go_at_call 22;refine Calls.mono (isIndex_any _ _ _) ?_;rintro e w2 ⟨rfl,hw⟩;obtain rfl:=hw.symm)
   go_roundw
   case rel=>exact⟨2,by omega,by go_num,hK⟩
   case measure=>simp[intOf]
  ·go_wp2_with (go_at_call 23;refine Calls.mono (HP.out _ (HK0.out.trans hK.out)) ?_;rintro e w2 ⟨g2,d2,g3,d3,rfl,fv,fo,k2⟩;have HZ2:Hid (w1.heap.size≤w2.heap.size):=Nat.le_trans hK.out.size k2.size)
   have ka:=kept_alloc 0 0 w2 (gbox none 0 0 (some ⟨g2,0,none⟩) 3 d2 (some ⟨g3,0,none⟩) 2 d3)
   have HK3:Hid (Kept 0 0 w1 (w2.alloc (gbox none 0 0 (some ⟨g2,0,none⟩) 3 d2 (some ⟨g3,0,none⟩) 2 d3))):=(hK.out.trans k2).trans ka
   have HB3:Hid (∀w5,Kept 0 0 (w2.alloc (gbox none 0 0 (some ⟨g2,0,none⟩) 3 d2 (some ⟨g3,0,none⟩) 2 d3)) w5→_):=fun w5 q=>box_at (S:=fun _=>False) w2 w5 _ _ q.chg (fun c=>c)
   obtain⟨hg3,c03,c13⟩:=HC.out _ (HK0.out.trans HK3.out)
   have HOp:Hid _:=optN (d2:=d2) (d3:=d3) (cp:=cp) (fv.keep ka (.inr (.inr (Nat.le_refl _)))) (fo.keep ka (.inr (.inr (Nat.le_refl _)))) HKk.out hg3 c03 c13
   have HZ3:Hid ((w2.alloc (gbox none 0 0 (some ⟨g2,0,none⟩) 3 d2 (some ⟨g3,0,none⟩) 2 d3)).heap.size=w2.heap.size+1):=by show _=_;simp
   clear ka fv fo k2 hg3 c03 c13 hg c0 c1 hK
   refine Calls.mono HOp.out ?_
   rintro e w4 ⟨G2,e2,G3,e3,k1,k2,rfl,fv4,fo4,hkk,f1,f2,hlo,k4⟩
   obtain⟨b1,b2,b3⟩:=HB3.out w4 k4
   have b10:=b1 0
   have b11:=b1 1
   have b12:=b1 2
   have b20:=b2 0
   have b21:=b2 1
   have b22:=b2 2
   have HF:Hid _:=And.intro f1 f2
   have kp:=put3_kept w4 w2.heap.size (.slice none 0 0) (.slice (some ⟨G2,0,none⟩) 2 e2) (.slice (some ⟨G3,0,none⟩) 2 e3)
   have HPl:Hid _:=planN (d2:=e2) (d3:=e3) (fv4.keep kp (by have:=HZ3.out;omega)) (fo4.keep kp (by have:=HZ3.out;omega)) hkk
   have HK4:Hid (Kept 0 0 w1 (((w4.setCell ⟨w2.heap.size,0,none⟩ (.slice none 0 0)).setCell ⟨w2.heap.size,1,none⟩ (.slice (some ⟨G2,0,none⟩) 2 e2)).setCell ⟨w2.heap.size,2,none⟩ (.slice (some ⟨G3,0,none⟩) 2 e3))):=(HK3.out.trans k4).new kp HZ2.out
   clear fv4 fo4 hkk f1 f2 hlo k4 b1 b2 HOp HB3 HK3 kp
   go_upto_region 14 with (go_at_call 25;refine Calls.mono HPl.out ?_;rintro e w6 ⟨a1,c1,a2,c2,a3,c3,rfl,ho,k6⟩)
   have kc:=kept_alloc 0 0 w6 (cbox a1 0 c1 a2 2 c2 a3 2 c3 2)
   have HK7:Hid (Kept 0 0 w1 (w6.alloc (cbox a1 0 c1 a2 2 c2 a3 2 c3 2))):=(HK4.out.trans k6).trans kc
   obtain⟨_,r0,r1,r2,r3,rf0,rf1,rf2,rf3⟩:=HR.out.keep HK7.out
   obtain⟨_,q0,q1,q2,q3⟩:=c0_start w6 (.slice a1 0 c1) (.slice a2 2 c2) (.slice a3 2 c3) (.int .i64 2)
   have HO:Hid _:=ho.keep kc
   have HZ:Hid (w.heap.size<w1.heap.size∧w1.heap.size≤(((w4.setCell ⟨w2.heap.size,0,none⟩ (.slice none 0 0)).setCell ⟨w2.heap.size,1,none⟩ (.slice (some ⟨G2,0,none⟩) 2 e2)).setCell ⟨w2.heap.size,2,none⟩ (.slice (some ⟨G3,0,none⟩) 2 e3)).heap.size∧w1.heap.size≤w6.heap.size):=⟨HR.out.sz,HK4.out.size,Nat.le_trans HK4.out.size k6.size⟩
   have hne:w6.heap.size≠w.heap.size:=by have:=HZ.out;omega
   clear ho k6 kc HPl HK4 b10 b11 b12 b20 b21 b22 b3
   generalize w6.alloc (cbox a1 0 c1 a2 2 c2 a3 2 c3 2)=w7 at*
   generalize w6.heap.size=p6 at*
   go_wp2_with fail
   obtain⟨y0,y1,y2,y3⟩:=put4_0 w7 w.heap.size _ _ _ _ r0 r1 r2 r3 (.slice a1 0 c1) (.slice a2 2 c2) (.slice a3 2 c3) (.int .i64 2)
   have kp:=put4_kept w7 w.heap.size (.slice a1 0 c1) (.slice a2 2 c2) (.slice a3 2 c3) (.int .i64 2)
   refine bodyPost_ret (v:=.tuple #[cagg a1 0 c1 a2 2 c2 a3 2 c3 2,.int .i64 0,.int .i64 0]) (by simp[results,Tryz.results17,go_sem,y0,y1,y2,y3]) rfl ⟨a1,c1,a2,c2,a3,c3,k1,k2,rfl,?_,HF.out.1,HF.out.2,?_⟩
   ·exact(HO.out.keepC (kp.chg1 (S:=fun b=>b=w.heap.size) rfl) (fun g h1 _ e=>by have:=HZ.out;omega)).cs rfl rfl rfl
   ·exact(HK0.out.trans HK7.out).new kp (Nat.le_refl _)
def SvN (w:World)(k:Nat)(e:Ending)(w':World):Prop:=
 ∃G gf cf zss k1 k2,e=.returned (.agg #[.int .i64 0,.int .i64 0,.int .i64 2,.int .i64 2,.slice (some ⟨G,0,none⟩) 2 2])∧SP w' G 2 2 gf cf zss∧zss.length=2∧(same (zss.getD 0 []) [k1]∧same (zss.getD 1 []) [k2])∧fb k1=fb k∧fb k2=fb (ngK k)∧Kept 0 0 w w'
end Go.Proofs.YtgamjhpebmmjcaaGreatDoor
namespace Go.Proofs.YtgamjhpebmmjcaaGreatDoor
set_option maxRecDepth 100000
set_option maxHeartbeats 40000000
open Go.RowKit Flt
attribute [local go_sem] alloc_drewN setCell_drewN run_store_float
theorem SP.keepN {w w':World}{g n k l h:Nat}{gf cf:Nat→Nat}{xss:List (List Nat)}(f:SP w g n k gf cf xss)(q:Kept l h w w')(hd:h≤g):SP w' g n k gf cf xss:=
 ⟨Nat.lt_of_lt_of_le f.lt q.size,fun o=>by rw[q.frozen (p:=⟨g,o,none⟩) f.lt (by show ¬(l≤g∧g<h);omega)];exact f.free o,
  fun j hj=>by rw[q.cell (p:=⟨g,j,none⟩) f.lt (by show ¬(l≤g∧g<h);omega)];exact f.cell j hj,
  fun j hj=>by rw[q.cell (p:=⟨g,j,none⟩) f.lt (by show ¬(l≤g∧g<h);omega)];exact f.rest j hj,
  f.cap,fun j hj=>(f.own j hj).keep q (.inr (.inl (by have:=f.up j hj;omega))),f.up,f.inc⟩
structure RB5 (W:World)(p:Nat)(b0 b1 b2 b3 b4:Value):Prop where
 sz:p<W.heap.size
 q:∀o,W.cell? ⟨p,o,none⟩=#[b0,b1,b2,b3,b4][o]?
 fr:∀o,W.frozen? ⟨p,o,none⟩=false
theorem RB5.keep {W W':World}{p:Nat}{b0 b1 b2 b3 b4:Value}(t:RB5 W p b0 b1 b2 b3 b4)(k:Kept 0 0 W W'):RB5 W' p b0 b1 b2 b3 b4:=
 ⟨Nat.lt_of_lt_of_le t.sz k.size,fun o=>(k.cell (p:=⟨p,o,none⟩) t.sz (by omega)).trans (t.q o),fun o=>(k.frozen (p:=⟨p,o,none⟩) t.sz (by omega)).trans (t.fr o)⟩
theorem rb_new (w:World)(b0 b1 b2 b3 b4:Value)(T:TypeId):RB5 (w.alloc (.cells #[b0,b1,b2,b3,b4] T)) w.heap.size b0 b1 b2 b3 b4:=
 have h:=box_at (S:=fun _=>False) w _ #[b0,b1,b2,b3,b4] T (Kept.refl 0 0 _).chg (fun c=>c)
 ⟨h.2.2,h.1,h.2.1⟩
abbrev put5 (w:World)(g:Nat)(x y z u v:Value):World:=((((w.setCell ⟨g,0,none⟩ x).setCell ⟨g,1,none⟩ y).setCell ⟨g,2,none⟩ z).setCell ⟨g,3,none⟩ u).setCell ⟨g,4,none⟩ v
theorem put5_kept (w:World)(g:Nat)(x y z u v:Value):Kept g (g+1) w (put5 w g x y z u v):=by
 have k:∀(w:World) (a:Nat) (u:Value),Kept g (g+1) w (w.setCell ⟨g,a,none⟩ u):=fun w a u=>kept_setCell w ⟨g,a,none⟩ u (.inl ⟨Nat.le_refl _,Nat.lt_succ_self _⟩)
 exact(((k _ _ _).trans (k _ _ _)).trans (k _ _ _) |>.trans (k _ _ _)).trans (k _ _ _)
theorem put5_at {w:World}{g:Nat}{b0 b1 b2 b3 b4:Value}(t:RB5 w g b0 b1 b2 b3 b4)(x y z u v:Value):
  (put5 w g x y z u v).cell? ⟨g,0,none⟩=some x∧(put5 w g x y z u v).cell? ⟨g,1,none⟩=some y∧(put5 w g x y z u v).cell? ⟨g,2,none⟩=some z∧(put5 w g x y z u v).cell? ⟨g,3,none⟩=some u∧(put5 w g x y z u v).cell? ⟨g,4,none⟩=some v:=by
 obtain⟨y0,y1,y2,y3⟩:=put4_0 w g b0 b1 b2 b3 (t.q 0) (t.q 1) (t.q 2) (t.q 3) x y z u
 refine⟨?_,?_,?_,?_,?_⟩
 ·rw[cell_ne _ _ _ _ _ _ (.inr (by omega))];exact y0
 ·rw[cell_ne _ _ _ _ _ _ (.inr (by omega))];exact y1
 ·rw[cell_ne _ _ _ _ _ _ (.inr (by omega))];exact y2
 ·rw[cell_ne _ _ _ _ _ _ (.inr (by omega))];exact y3
 ·refine cell_eq _ _ _ _ b4 ?_
  rw[cell_ne _ _ _ _ _ _ (.inr (by omega)),cell_ne _ _ _ _ _ _ (.inr (by omega)),cell_ne _ _ _ _ _ _ (.inr (by omega)),cell_ne _ _ _ _ _ _ (.inr (by omega))]
  exact t.q 4
def RsN (w:World)(k l:Nat)(e:Ending)(w':World):Prop:=
 ∃G gf cf zss,e=.returned (.agg #[.int .i64 0,.int .i64 0,.int .i64 2,.int .i64 2,.slice (some ⟨G,0,none⟩) 2 2])∧w.heap.size≤G∧SP w' G 2 2 gf cf zss∧zss.length=2∧(same (zss.getD 0 []) [k]∧same (zss.getD 1 []) [l])∧Kept 0 0 w w'
theorem resultN {w:World}{a1 a2 a3:Option Addr}{c1 c2 c3 k l:Nat}(f:CS w a1 0 a2 2 a3 2 [] (ssN k l) osN):
  Calls Tryz.prog 18 #[cagg a1 0 c1 a2 2 c2 a3 2 c3 2,.slice none 0 0] w (RsN w k l):=by
 have ka:=kept_alloc 0 0 w (cbox a1 0 c1 a2 2 c2 a3 2 c3 2)
 have kb:=kept_alloc 0 0 (w.alloc (cbox a1 0 c1 a2 2 c2 a3 2 c3 2)) (.cells #[.int .i64 0,.int .i64 0,.int .i64 0,.int .i64 0,.slice none 0 0] 30)
 have HF:Hid _:=(f.keep ka).keep kb
 have HB:Hid _:=(c0_start w (.slice a1 0 c1) (.slice a2 2 c2) (.slice a3 2 c3) (.int .i64 2)).keep kb
 have HR:Hid _:=rb_new (w.alloc (cbox a1 0 c1 a2 2 c2 a3 2 c3 2)) (.int .i64 0) (.int .i64 0) (.int .i64 0) (.int .i64 0) (.slice none 0 0) 30
 have HK:Hid _:=ka.trans kb
 have hz:(w.alloc (cbox a1 0 c1 a2 2 c2 a3 2 c3 2)).heap.size=w.heap.size+1:=by simp
 rw[hz] at HR
 clear f ka kb hz
 go_enter Tryz.func18,Tryz.ntmps18
 go_upto_region 1 with fail
 generalize (w.alloc (cbox a1 0 c1 a2 2 c2 a3 2 c3 2)).alloc (.cells #[.int .i64 0,.int .i64 0,.int .i64 0,.int .i64 0,.slice none 0 0] 30)=w1 at HF HB HR HK ⊢
 obtain⟨q0,q1,q2,q3⟩:=(show _∧_∧_∧_ from⟨HB.out.q0,HB.out.q1,HB.out.q2,HB.out.q3⟩)
 go_upto_region 2 with (go_at_call 26;refine Calls.mono (runN HF.out) ?_;rintro e w2 ⟨G,gf,cf,zss,rfl,hG,hs,hz,hq,k2⟩)
 clear q0 q1 q2 q3
 obtain⟨_,q0,q1,q2,q3⟩:=HB.out.keep k2
 have hr:=HR.out.keep k2
 have r0:=hr.q 0
 have r1:=hr.q 1
 have r2:=hr.q 2
 have r3:=hr.q 3
 have r4:=hr.q 4
 have f0:=hr.fr 0
 have f1:=hr.fr 1
 have f2:=hr.fr 2
 have f3:=hr.fr 3
 have f4:=hr.fr 4
 have HP:Hid _:=And.intro hs (And.intro hz (And.intro hq hG))
 have H2:Hid _:=And.intro hr k2
 clear hr k2 hs hz hq hG
 go_wp2_with fail
 obtain⟨hr,k2⟩:=H2.out
 obtain⟨y0,y1,y2,y3,y4⟩:=put5_at hr (.int .i64 0) (.int .i64 0) (.int .i64 2) (.int .i64 2) (.slice (some ⟨G,0,none⟩) 2 2)
 have kp:=put5_kept w2 (w.heap.size+1) (.int .i64 0) (.int .i64 0) (.int .i64 2) (.int .i64 2) (.slice (some ⟨G,0,none⟩) 2 2)
 obtain⟨hs,hz,hq,hG⟩:=HP.out
 have hl:=HR.out.sz
 refine bodyPost_ret (v:=.agg #[.int .i64 0,.int .i64 0,.int .i64 2,.int .i64 2,.slice (some ⟨G,0,none⟩) 2 2]) (by simp[results,Tryz.results18,go_sem,y0,y1,y2,y3,y4]) rfl ⟨G,gf,cf,zss,rfl,by omega,hs.keepN kp (by omega),hz,hq,(HK.out.trans k2).new kp (by omega)⟩
theorem solveN {w:World}{a:Option Addr}{n cap gp cp k:Nat}(hgp:gp<w.heap.size)(p0:w.cell? ⟨gp,0,none⟩=some (.int .i64 2))(p1:w.cell? ⟨gp,1,none⟩=some (.int .i64 0))(hk:k<18446744073709551616)
  (hP:∀W,Kept 0 0 w W→Calls Tryz.prog 23 #[.slice a n cap] W (PsN W k)):
  Calls Tryz.prog 8 #[.slice a n cap,.slice (some ⟨gp,0,none⟩) 2 cp,.int .i64 10,.slice none 0 0] w (SvN w k):=by
 have ka:=kept_alloc 0 0 w (.cells #[.int .i64 0,.int .i64 0,.int .i64 0,.int .i64 0,.slice none 0 0] 30)
 have HR:Hid _:=rb_new w (.int .i64 0) (.int .i64 0) (.int .i64 0) (.int .i64 0) (.slice none 0 0) 30
 have HC:Hid _:=compileN (cp:=cp) (Nat.lt_of_lt_of_le hgp ka.size) ((ka.cell (p:=⟨gp,0,none⟩) hgp (by omega)).trans p0) ((ka.cell (p:=⟨gp,1,none⟩) hgp (by omega)).trans p1) hk (fun W q=>hP W (ka.trans q))
 have HK:Hid _:=ka
 clear ka hgp p0 p1 hP hk
 go_enter Tryz.func8,Tryz.ntmps8
 go_upto_region 1 with fail
 generalize w.alloc (.cells #[.int .i64 0,.int .i64 0,.int .i64 0,.int .i64 0,.slice none 0 0] 30)=w1 at HC HR HK ⊢
 go_upto_region 2 with (go_at_call 17;refine Calls.mono HC.out ?_;rintro e w2 ⟨a1,c1,a2,c2,a3,c3,k1,k2,rfl,fc,e1,e2,q2⟩)
 have kc:=kept_alloc 0 0 w2 (cbox a1 0 c1 a2 2 c2 a3 2 c3 2)
 have HF:Hid _:=fc.keep kc
 have HE:Hid _:=And.intro e1 e2
 have HB:Hid _:=c0_start w2 (.slice a1 0 c1) (.slice a2 2 c2) (.slice a3 2 c3) (.int .i64 2)
 have HK2:Hid _:=q2
 have H3:Hid _:=(HR.out.keep q2).keep kc
 have HK3:Hid _:=(HK.out.trans q2).trans kc
 clear kc fc e1 e2 q2
 have hz3:w2.heap.size<(w2.alloc (cbox a1 0 c1 a2 2 c2 a3 2 c3 2)).heap.size:=HB.out.sz
 have hz4:w.heap.size<w2.heap.size:=by
  have:=HK2.out.size
  have:=HR.out.sz
  omega
 generalize w2.alloc (cbox a1 0 c1 a2 2 c2 a3 2 c3 2)=w3 at*
 obtain⟨q0,q1,q2,q3⟩:=(show _∧_∧_∧_ from⟨HB.out.q0,HB.out.q1,HB.out.q2,HB.out.q3⟩)
 go_upto_region 2 with fail
 go_upto_region 4 with fail
 go_wp2_with (go_at_call 18;refine Calls.mono (resultN HF.out) ?_;rintro e w4 ⟨G,gf,cf,zss,rfl,hG,hs,hz,hq,k4⟩;have hr:=H3.out.keep k4;have r0:=hr.q 0;have r1:=hr.q 1;have r2:=hr.q 2;have r3:=hr.q 3;have r4:=hr.q 4;have f0:=hr.fr 0;have f1:=hr.fr 1;have f2:=hr.fr 2;have f3:=hr.fr 3;have f4:=hr.fr 4;have HP:Hid _:=And.intro hs (And.intro hz (And.intro hq (And.intro hG (And.intro hr k4))));clear hr k4 hs hz hq hG)
 obtain⟨hs,hz,hq,hG,hr,k4⟩:=HP.out
 obtain⟨y0,y1,y2,y3,y4⟩:=put5_at hr (.int .i64 0) (.int .i64 0) (.int .i64 2) (.int .i64 2) (.slice (some ⟨G,0,none⟩) 2 2)
 have kp:=put5_kept w4 w.heap.size (.int .i64 0) (.int .i64 0) (.int .i64 2) (.int .i64 2) (.slice (some ⟨G,0,none⟩) 2 2)
 refine bodyPost_ret (v:=.agg #[.int .i64 0,.int .i64 0,.int .i64 2,.int .i64 2,.slice (some ⟨G,0,none⟩) 2 2]) (by simp[results,Tryz.results8,go_sem,y0,y1,y2,y3,y4]) rfl ⟨G,gf,cf,zss,k1,k2,rfl,hs.keepN kp (by omega),hz,hq,HE.out.1,HE.out.2,(HK3.out.trans k4).new kp (Nat.le_refl _)⟩
end Go.Proofs.YtgamjhpebmmjcaaGreatDoor
namespace Go.Proofs.YtgamjhpebmmjcaaGreatDoor
set_option maxRecDepth 100000
set_option maxHeartbeats 40000000
open Go.RowKit Flt
attribute [local go_sem] alloc_drewN setCell_drewN run_store_float fld0 fld1 fld2 mkF
theorem wrong_expr {n:Nat}{ts:List Tok}(r:List (List UInt8)):wrongM n ts ([pEXPR]++r)=wrongM n ts ([pTERM,pMORETERMS]++r):=by
 show wrongM n ts (pEXPR::r)=_
 rw[wrong_part (by decide),rule_EXPR]
theorem wrong_term {n:Nat}{ts:List Tok}(r:List (List UInt8)):wrongM n ts ([pTERM]++r)=wrongM n ts ([pUNARY,pMOREUNARY]++r):=by
 show wrongM n ts (pTERM::r)=_
 rw[wrong_part (by decide),rule_TERM]
theorem Ot.turn {E:Pe}{w:World}{ts:List Tok}{st st2:List (List UInt8)}{G:List Tok→Value→World→Prop}{e:Ending}{w':World}(f:Ot E w ts st G e w')(h:∀r,wrongM E.t.length ts (st2++r)=wrongM E.t.length ts (st++r)):Ot E w ts st2 G e w':=by
 rcases f with⟨us,ws,v,h1,h2,h3,h4⟩|⟨p,h1,h2,h3⟩
 ·exact .inl ⟨us,ws,v,h1,h2,fun r=>(h r).trans (h3.out r),h4⟩
 ·exact .inr ⟨p,h1,fun r=>(h r).trans (h2.out r),h3⟩
theorem termS {E:Pe}{n:Nat}(hU:XC E 150 [pUNARY] 0 n):XC E 136 [pTERM] 1 n:=by
 intro w ts f hlen
 have HC:Hid _:=chainU hU f hlen
 clear hU f hlen
 go_enter Tryz.func136,Tryz.ntmps136
 go_wp2_with (go_at_call 135;refine Calls.mono HC.out ?_;intro e w2 h;replace h:=h.turn (st2:=[pTERM]) wrong_term;rcases h with⟨us,ws,v,rfl,h2,h3,h4⟩|⟨p,rfl,h2,h3⟩;rotate_left;exact And.intro rfl (.inr ⟨p,rfl,h2,h3⟩))
 go_ret
 exact .inl ⟨us,ws,_,rfl,h2,h3,h4⟩
theorem exprS {E:Pe}{n:Nat}(hT:XC E 136 [pTERM] 1 n):XC E 97 [pEXPR] 2 n:=by
 intro w ts f hlen
 have HC:Hid _:=chainT hT f hlen
 clear hT f hlen
 go_enter Tryz.func97,Tryz.ntmps97
 go_wp2_with (go_at_call 135;refine Calls.mono HC.out ?_;intro e w2 h;replace h:=h.turn (st2:=[pEXPR]) wrong_expr;rcases h with⟨us,ws,v,rfl,h2,h3,h4⟩|⟨p,rfl,h2,h3⟩;rotate_left;exact And.intro rfl (.inr ⟨p,rfl,h2,h3⟩))
 go_ret
 exact .inl ⟨us,ws,_,rfl,h2,h3,h4⟩
end Go.Proofs.YtgamjhpebmmjcaaGreatDoor
namespace Go.Proofs.YtgamjhpebmmjcaaGreatDoor
set_option maxRecDepth 100000
set_option maxHeartbeats 40000000
open Go.RowKit Flt
attribute [local go_sem] alloc_drewN setCell_drewN run_store_float fld0 fld1 fld2 mkF
theorem kwFill {E:Pe}{n:Nat}(hX:XC E 97 [pEXPR] 2 n){w:World}{k:Tok}{us0:List Tok}(f:Ps E w (k::us0))(hlen:us0.length<n+1)(hk:k.sym=kFill):Calls Tryz.prog 174 #[.pointer (some ⟨E.P,0,none⟩)] w (Ot E w (k::us0) [pUNARY] (GN w 0)):=by
 have hcl:∀x∈(k::us0),TkC x:=by obtain⟨i,h⟩:=f;exact h.cl
 have htx:(cvT k).text=kFill:=(hd_text (n:=E.t.length) hcl (by decide)).2 hk
 have HPk:Hid (Calls Tryz.prog 57 #[.pointer (some ⟨E.P,0,none⟩)] w fun e w'=>e=.returned (.agg #[.int .i64 (cvT k).kind,strL (cvT k).text,.int .i64 ((cvT k).at_:Int)])∧Kept 0 0 w w'):=peekS f
 rw[htx] at HPk
 have HPw:Hid (E.P<w.heap.size):=f.nw.1
 have HKs:Hid (k.sym=kFill):=hk
 have HOp:Hid (∀W,Kept 0 0 w W→Calls Tryz.prog 177 #[.pointer (some ⟨E.P,0,none⟩),.int .i64 1] W (Ot E W (k::us0) [k.sym,[40],pEXPR] (GOp W k 1))):=fun W kk=>openedS hX (f.keep kk) hlen (by rw[hk];decide) (m:=0) (by omega)
 have HW:Hid (∀r,wrongM E.t.length (k::us0) ([pUNARY]++r)=wrongM E.t.length (k::us0) ([k.sym,[40],pEXPR,[44],sInt,[41]]++r)):=fun r=>by
  show wrongM _ _ (pUNARY::r)=_
  rw[wrong_un,show hdS (k::us0)=kFill from hk,hk]
  rfl
 clear hX f hlen hcl htx hk
 go_enter Tryz.func174,Tryz.ntmps174
 go_upto_region 25 with (first|(go_at_call 57;refine Calls.mono HPk.out ?_;rintro e w2 ⟨rfl,k2⟩)|(go_at_call 177;refine Calls.mono (HOp.out _ k2) ?_;rintro e w3 (⟨us3,ws3,v3,rfl,hsp3,hw3,hT3,hC3,l,t1,es3,vs3,sl3,hu3,hl,hp3,hn3,rfl,hG3⟩|⟨p,rfl,hw3,hC3⟩);rotate_left;exact And.intro rfl (Ot.bad (ts:=k::us0) (st:=[pUNARY]) (st2:=[k.sym,[40],pEXPR,[44],sInt,[41]]) HW.out k2.chg (fun r=>hw3.out ([[44],sInt,[41]]++r)) hC3);obtain⟨a3,c3,rfl⟩:=hG3.rw.form;replace hu3:Hid _:=hu3;replace hl:Hid _:=hl;replace hn3:Hid _:=hn3)|(go_at_call 178;refine Calls.mono (furtherS hT3 (kd:=4) (s:=sInt) (.inr ⟨rfl,rfl⟩)) ?_;rintro e w4 (⟨us4,ws4,v4,rfl,hsp4,hw4,hT4,hC4,c4,x4,hu4,hc4,hx4,rfl⟩|⟨p,rfl,hw4,hC4⟩);rotate_left;exact And.intro rfl (Ot.bad (ts:=k::us0) (st:=[pUNARY]) (ws:=ws3) (st2:=[[44],sInt,[41]]) (fun r=>(HW.out r).trans (hw3.out ([[44],sInt,[41]]++r))) (k2.chg.andThen hC3) (fun r=>hw4.out ([[41]]++r)) hC4);unfold tkV;replace hu4:Hid _:=hu4;replace hc4:Hid _:=hc4;replace hx4:Hid _:=hx4))
 obtain⟨e1,he3,p1⟩:=pr3_one hp3 hn3.out
 subst he3
 obtain⟨v1,rfl⟩:=one_of hG3.nd.1
 have HCz:Hid (Ch E w w4):=k2.chg.andThen (hC3.andThen hC4)
 have hGz:=(hG3.le k2.size).chg (hC4:Ch E w3 w4) (fun b e=>by have:=HPw.out;omega)
 have HN:Hid (Nd w4 (Fr w.heap.size) (.iface 274 (.agg #[.int .i64 (k.pos:Int),.slice a3 1 c3,.int .i64 (cvT x4).kind,strL (cvT x4).text,.int .i64 ((cvT x4).at_:Int)])) (.keyN k e1 x4)):=.fill HKs.out hGz.rw (hGz.ndl.2 0 _ _ rfl rfl)
 have HM:Hid _:=takeMarkS hT4 (s:=[41]) (by decide)
 have HWz:Hid (∀r,wrongM E.t.length (k::us0) ([pUNARY]++r)=wrongM E.t.length ws4 ([[41]]++r)):=fun r=>((HW.out r).trans (hw3.out ([[44],sInt,[41]]++r))).trans (hw4.out ([[41]]++r))
 clear HPk HW hT3 hw3 hw4 hC3 hC4 k2 hG3 hGz hT4
 go_wp2_with (go_at_call 99;refine Calls.mono HM.out ?_;rintro e w9 (⟨us9,ws9,v9,rfl,hsp9,hw9,hT9,hC9,r9,rfl,hr9,rfl⟩|⟨p,rfl,hw9,hC9⟩);rotate_left;exact And.intro rfl (Ot.bad (ts:=k::us0) (st:=[pUNARY]) (st2:=[[41]]) HWz.out HCz.out hw9.out hC9))
 go_ret
 exact .inl ⟨k::l::(t1++[c4,x4,r9]),ws9,_,rfl,by show _=_;rw[hsp3.out,hu3.out,hsp4.out,hu4.out,hsp9.out];simp,fun r=>(HWz.out r).trans (hw9.out r),hT9,HCz.out.andThen hC9,.keyN k e1 x4,.keyN (.inl HKs.out) hl.out p1 hc4.out hx4.out hr9,HN.out.ch hC9 HPw.out⟩
theorem kwPick {E:Pe}{n:Nat}(hX:XC E 97 [pEXPR] 2 n){w:World}{k:Tok}{us0:List Tok}(f:Ps E w (k::us0))(hlen:us0.length<n+1)(hk:k.sym=kPick):Calls Tryz.prog 174 #[.pointer (some ⟨E.P,0,none⟩)] w (Ot E w (k::us0) [pUNARY] (GN w 0)):=by
 have hcl:∀x∈(k::us0),TkC x:=by obtain⟨i,h⟩:=f;exact h.cl
 have htx:(cvT k).text=kPick:=(hd_text (n:=E.t.length) hcl (by decide)).2 hk
 have HPk:Hid (Calls Tryz.prog 57 #[.pointer (some ⟨E.P,0,none⟩)] w fun e w'=>e=.returned (.agg #[.int .i64 (cvT k).kind,strL (cvT k).text,.int .i64 ((cvT k).at_:Int)])∧Kept 0 0 w w'):=peekS f
 rw[htx] at HPk
 have HPw:Hid (E.P<w.heap.size):=f.nw.1
 have HKs:Hid (k.sym=kPick):=hk
 have HOp:Hid (∀W,Kept 0 0 w W→Calls Tryz.prog 177 #[.pointer (some ⟨E.P,0,none⟩),.int .i64 1] W (Ot E W (k::us0) [k.sym,[40],pEXPR] (GOp W k 1))):=fun W kk=>openedS hX (f.keep kk) hlen (by rw[hk];decide) (m:=0) (by omega)
 have HW:Hid (∀r,wrongM E.t.length (k::us0) ([pUNARY]++r)=wrongM E.t.length (k::us0) ([k.sym,[40],pEXPR,[44],sInt,[41]]++r)):=fun r=>by
  show wrongM _ _ (pUNARY::r)=_
  rw[wrong_un,show hdS (k::us0)=kPick from hk,hk]
  rfl
 clear hX f hlen hcl htx hk
 go_enter Tryz.func174,Tryz.ntmps174
 go_upto_region 25 with (first|(go_at_call 57;refine Calls.mono HPk.out ?_;rintro e w2 ⟨rfl,k2⟩)|(go_at_call 177;refine Calls.mono (HOp.out _ k2) ?_;rintro e w3 (⟨us3,ws3,v3,rfl,hsp3,hw3,hT3,hC3,l,t1,es3,vs3,sl3,hu3,hl,hp3,hn3,rfl,hG3⟩|⟨p,rfl,hw3,hC3⟩);rotate_left;exact And.intro rfl (Ot.bad (ts:=k::us0) (st:=[pUNARY]) (st2:=[k.sym,[40],pEXPR,[44],sInt,[41]]) HW.out k2.chg (fun r=>hw3.out ([[44],sInt,[41]]++r)) hC3);obtain⟨a3,c3,rfl⟩:=hG3.rw.form;replace hu3:Hid _:=hu3;replace hl:Hid _:=hl;replace hn3:Hid _:=hn3)|(go_at_call 178;refine Calls.mono (furtherS hT3 (kd:=4) (s:=sInt) (.inr ⟨rfl,rfl⟩)) ?_;rintro e w4 (⟨us4,ws4,v4,rfl,hsp4,hw4,hT4,hC4,c4,x4,hu4,hc4,hx4,rfl⟩|⟨p,rfl,hw4,hC4⟩);rotate_left;exact And.intro rfl (Ot.bad (ts:=k::us0) (st:=[pUNARY]) (ws:=ws3) (st2:=[[44],sInt,[41]]) (fun r=>(HW.out r).trans (hw3.out ([[44],sInt,[41]]++r))) (k2.chg.andThen hC3) (fun r=>hw4.out ([[41]]++r)) hC4);unfold tkV;replace hu4:Hid _:=hu4;replace hc4:Hid _:=hc4;replace hx4:Hid _:=hx4))
 obtain⟨e1,he3,p1⟩:=pr3_one hp3 hn3.out
 subst he3
 obtain⟨v1,rfl⟩:=one_of hG3.nd.1
 have HCz:Hid (Ch E w w4):=k2.chg.andThen (hC3.andThen hC4)
 have hGz:=(hG3.le k2.size).chg (hC4:Ch E w3 w4) (fun b e=>by have:=HPw.out;omega)
 have HN:Hid (Nd w4 (Fr w.heap.size) (.iface 276 (.agg #[.int .i64 (k.pos:Int),.slice a3 1 c3,.int .i64 (cvT x4).kind,strL (cvT x4).text,.int .i64 ((cvT x4).at_:Int)])) (.keyN k e1 x4)):=.pick HKs.out hGz.rw (hGz.ndl.2 0 _ _ rfl rfl)
 have HM:Hid _:=takeMarkS hT4 (s:=[41]) (by decide)
 have HWz:Hid (∀r,wrongM E.t.length (k::us0) ([pUNARY]++r)=wrongM E.t.length ws4 ([[41]]++r)):=fun r=>((HW.out r).trans (hw3.out ([[44],sInt,[41]]++r))).trans (hw4.out ([[41]]++r))
 clear HPk HW hT3 hw3 hw4 hC3 hC4 k2 hG3 hGz hT4
 go_wp2_with (go_at_call 99;refine Calls.mono HM.out ?_;rintro e w9 (⟨us9,ws9,v9,rfl,hsp9,hw9,hT9,hC9,r9,rfl,hr9,rfl⟩|⟨p,rfl,hw9,hC9⟩);rotate_left;exact And.intro rfl (Ot.bad (ts:=k::us0) (st:=[pUNARY]) (st2:=[[41]]) HWz.out HCz.out hw9.out hC9))
 go_ret
 exact .inl ⟨k::l::(t1++[c4,x4,r9]),ws9,_,rfl,by show _=_;rw[hsp3.out,hu3.out,hsp4.out,hu4.out,hsp9.out];simp,fun r=>(HWz.out r).trans (hw9.out r),hT9,HCz.out.andThen hC9,.keyN k e1 x4,.keyN (.inr HKs.out) hl.out p1 hc4.out hx4.out hr9,HN.out.ch hC9 HPw.out⟩
theorem kwGrad {E:Pe}{n:Nat}(hX:XC E 97 [pEXPR] 2 n){w:World}{k:Tok}{us0:List Tok}(f:Ps E w (k::us0))(hlen:us0.length<n+1)(hk:k.sym=kGrad):Calls Tryz.prog 174 #[.pointer (some ⟨E.P,0,none⟩)] w (Ot E w (k::us0) [pUNARY] (GN w 0)):=by
 have hcl:∀x∈(k::us0),TkC x:=by obtain⟨i,h⟩:=f;exact h.cl
 have htx:(cvT k).text=kGrad:=(hd_text (n:=E.t.length) hcl (by decide)).2 hk
 have HPk:Hid (Calls Tryz.prog 57 #[.pointer (some ⟨E.P,0,none⟩)] w fun e w'=>e=.returned (.agg #[.int .i64 (cvT k).kind,strL (cvT k).text,.int .i64 ((cvT k).at_:Int)])∧Kept 0 0 w w'):=peekS f
 rw[htx] at HPk
 have HPw:Hid (E.P<w.heap.size):=f.nw.1
 have HKs:Hid (k.sym=kGrad):=hk
 have HOp:Hid (∀W,Kept 0 0 w W→Calls Tryz.prog 177 #[.pointer (some ⟨E.P,0,none⟩),.int .i64 1] W (Ot E W (k::us0) [k.sym,[40],pEXPR] (GOp W k 1))):=fun W kk=>openedS hX (f.keep kk) hlen (by rw[hk];decide) (m:=0) (by omega)
 have HW:Hid (∀r,wrongM E.t.length (k::us0) ([pUNARY]++r)=wrongM E.t.length (k::us0) ([k.sym,[40],pEXPR,[44],sName,[41]]++r)):=fun r=>by
  show wrongM _ _ (pUNARY::r)=_
  rw[wrong_un,show hdS (k::us0)=kGrad from hk,hk]
  rfl
 clear hX f hlen hcl htx hk
 go_enter Tryz.func174,Tryz.ntmps174
 go_upto_region 25 with (first|(go_at_call 57;refine Calls.mono HPk.out ?_;rintro e w2 ⟨rfl,k2⟩)|(go_at_call 177;refine Calls.mono (HOp.out _ k2) ?_;rintro e w3 (⟨us3,ws3,v3,rfl,hsp3,hw3,hT3,hC3,l,t1,es3,vs3,sl3,hu3,hl,hp3,hn3,rfl,hG3⟩|⟨p,rfl,hw3,hC3⟩);rotate_left;exact And.intro rfl (Ot.bad (ts:=k::us0) (st:=[pUNARY]) (st2:=[k.sym,[40],pEXPR,[44],sName,[41]]) HW.out k2.chg (fun r=>hw3.out ([[44],sName,[41]]++r)) hC3);obtain⟨a3,c3,rfl⟩:=hG3.rw.form;replace hu3:Hid _:=hu3;replace hl:Hid _:=hl;replace hn3:Hid _:=hn3)|(go_at_call 178;refine Calls.mono (furtherS hT3 (kd:=2) (s:=sName) (.inl ⟨rfl,rfl⟩)) ?_;rintro e w4 (⟨us4,ws4,v4,rfl,hsp4,hw4,hT4,hC4,c4,x4,hu4,hc4,hx4,rfl⟩|⟨p,rfl,hw4,hC4⟩);rotate_left;exact And.intro rfl (Ot.bad (ts:=k::us0) (st:=[pUNARY]) (ws:=ws3) (st2:=[[44],sName,[41]]) (fun r=>(HW.out r).trans (hw3.out ([[44],sName,[41]]++r))) (k2.chg.andThen hC3) (fun r=>hw4.out ([[41]]++r)) hC4);unfold tkV;replace hu4:Hid _:=hu4;replace hc4:Hid _:=hc4;replace hx4:Hid _:=hx4))
 obtain⟨e1,he3,p1⟩:=pr3_one hp3 hn3.out
 subst he3
 obtain⟨v1,rfl⟩:=one_of hG3.nd.1
 have HCz:Hid (Ch E w w4):=k2.chg.andThen (hC3.andThen hC4)
 have hGz:=(hG3.le k2.size).chg (hC4:Ch E w3 w4) (fun b e=>by have:=HPw.out;omega)
 have HN:Hid (Nd w4 (Fr w.heap.size) (.iface 279 (.agg #[.int .i64 (k.pos:Int),.slice a3 1 c3,.int .i64 (cvT x4).kind,strL (cvT x4).text,.int .i64 ((cvT x4).at_:Int)])) (.grad k e1 x4)):=.grad hGz.rw (hGz.ndl.2 0 _ _ rfl rfl)
 have HM:Hid _:=takeMarkS hT4 (s:=[41]) (by decide)
 have HWz:Hid (∀r,wrongM E.t.length (k::us0) ([pUNARY]++r)=wrongM E.t.length ws4 ([[41]]++r)):=fun r=>((HW.out r).trans (hw3.out ([[44],sName,[41]]++r))).trans (hw4.out ([[41]]++r))
 clear HPk HW hT3 hw3 hw4 hC3 hC4 k2 hG3 hGz hT4
 go_wp2_with (go_at_call 99;refine Calls.mono HM.out ?_;rintro e w9 (⟨us9,ws9,v9,rfl,hsp9,hw9,hT9,hC9,r9,rfl,hr9,rfl⟩|⟨p,rfl,hw9,hC9⟩);rotate_left;exact And.intro rfl (Ot.bad (ts:=k::us0) (st:=[pUNARY]) (st2:=[[41]]) HWz.out HCz.out hw9.out hC9))
 go_ret
 exact .inl ⟨k::l::(t1++[c4,x4,r9]),ws9,_,rfl,by show _=_;rw[hsp3.out,hu3.out,hsp4.out,hu4.out,hsp9.out];simp,fun r=>(HWz.out r).trans (hw9.out r),hT9,HCz.out.andThen hC9,.grad k e1 x4,.grad HKs.out hl.out p1 hc4.out hx4.out hr9,HN.out.ch hC9 HPw.out⟩
theorem kwPut {E:Pe}{n:Nat}(hX:XC E 97 [pEXPR] 2 n){w:World}{k:Tok}{us0:List Tok}(f:Ps E w (k::us0))(hlen:us0.length<n+1)(hk:k.sym=kPut):Calls Tryz.prog 174 #[.pointer (some ⟨E.P,0,none⟩)] w (Ot E w (k::us0) [pUNARY] (GN w 0)):=by
 have hcl:∀x∈(k::us0),TkC x:=by obtain⟨i,h⟩:=f;exact h.cl
 have htx:(cvT k).text=kPut:=(hd_text (n:=E.t.length) hcl (by decide)).2 hk
 have HPk:Hid (Calls Tryz.prog 57 #[.pointer (some ⟨E.P,0,none⟩)] w fun e w'=>e=.returned (.agg #[.int .i64 (cvT k).kind,strL (cvT k).text,.int .i64 ((cvT k).at_:Int)])∧Kept 0 0 w w'):=peekS f
 rw[htx] at HPk
 have HPw:Hid (E.P<w.heap.size):=f.nw.1
 have HKs:Hid (k.sym=kPut):=hk
 have HOp:Hid (∀W,Kept 0 0 w W→Calls Tryz.prog 177 #[.pointer (some ⟨E.P,0,none⟩),.int .i64 1] W (Ot E W (k::us0) [k.sym,[40],pEXPR] (GOp W k 1))):=fun W kk=>openedS hX (f.keep kk) hlen (by rw[hk];decide) (m:=0) (by omega)
 have HW:Hid (∀r,wrongM E.t.length (k::us0) ([pUNARY]++r)=wrongM E.t.length (k::us0) ([k.sym,[40],pEXPR,[44],sInt,[44],sInt,[41]]++r)):=fun r=>by
  show wrongM _ _ (pUNARY::r)=_
  rw[wrong_un,show hdS (k::us0)=kPut from hk,hk]
  rfl
 clear hX f hlen hcl htx hk
 go_enter Tryz.func174,Tryz.ntmps174
 go_upto_region 25 with (first|(go_at_call 57;refine Calls.mono HPk.out ?_;rintro e w2 ⟨rfl,k2⟩)|(go_at_call 177;refine Calls.mono (HOp.out _ k2) ?_;rintro e w3 (⟨us3,ws3,v3,rfl,hsp3,hw3,hT3,hC3,l,t1,es3,vs3,sl3,hu3,hl,hp3,hn3,rfl,hG3⟩|⟨p,rfl,hw3,hC3⟩);rotate_left;exact And.intro rfl (Ot.bad (ts:=k::us0) (st:=[pUNARY]) (st2:=[k.sym,[40],pEXPR,[44],sInt,[44],sInt,[41]]) HW.out k2.chg (fun r=>hw3.out ([[44],sInt,[44],sInt,[41]]++r)) hC3);obtain⟨a3,c3,rfl⟩:=hG3.rw.form;replace hu3:Hid _:=hu3;replace hl:Hid _:=hl;replace hn3:Hid _:=hn3)|(go_at_call 178;refine Calls.mono (furtherS hT3 (kd:=4) (s:=sInt) (.inr ⟨rfl,rfl⟩)) ?_;rintro e w4 (⟨us4,ws4,v4,rfl,hsp4,hw4,hT4,hC4,c4,x4,hu4,hc4,hx4,rfl⟩|⟨p,rfl,hw4,hC4⟩);rotate_left;exact And.intro rfl (Ot.bad (ts:=k::us0) (st:=[pUNARY]) (ws:=ws3) (st2:=[[44],sInt,[44],sInt,[41]]) (fun r=>(HW.out r).trans (hw3.out ([[44],sInt,[44],sInt,[41]]++r))) (k2.chg.andThen hC3) (fun r=>hw4.out ([[44],sInt,[41]]++r)) hC4);unfold tkV;replace hu4:Hid _:=hu4;replace hc4:Hid _:=hc4;replace hx4:Hid _:=hx4)|(go_at_call 178;refine Calls.mono (furtherS hT4 (kd:=4) (s:=sInt) (.inr ⟨rfl,rfl⟩)) ?_;rintro e w5 (⟨us5,ws5,v5,rfl,hsp5,hw5,hT5,hC5,c5,x5,hu5,hc5,hx5,rfl⟩|⟨p,rfl,hw5,hC5⟩);rotate_left;exact And.intro rfl (Ot.bad (ts:=k::us0) (st:=[pUNARY]) (ws:=ws4) (st2:=[[44],sInt,[41]]) (fun r=>((HW.out r).trans (hw3.out ([[44],sInt,[44],sInt,[41]]++r))).trans (hw4.out ([[44],sInt,[41]]++r))) ((k2.chg.andThen hC3).andThen hC4) (fun r=>hw5.out ([[41]]++r)) hC5);unfold tkV;replace hu5:Hid _:=hu5;replace hc5:Hid _:=hc5;replace hx5:Hid _:=hx5))
 obtain⟨e1,he3,p1⟩:=pr3_one hp3 hn3.out
 subst he3
 obtain⟨v1,rfl⟩:=one_of hG3.nd.1
 have HCz:Hid (Ch E w w5):=k2.chg.andThen ((hC3.andThen hC4).andThen hC5)
 have hGz:=(hG3.le k2.size).chg (hC4.andThen hC5:Ch E w3 w5) (fun b e=>by have:=HPw.out;omega)
 have HN:Hid (Nd w5 (Fr w.heap.size) (.iface 278 (.agg #[.int .i64 (k.pos:Int),.slice a3 1 c3,.int .i64 (cvT x4).kind,strL (cvT x4).text,.int .i64 ((cvT x4).at_:Int),.int .i64 (cvT x5).kind,strL (cvT x5).text,.int .i64 ((cvT x5).at_:Int)])) (.put k e1 x4 x5)):=.put hGz.rw (hGz.ndl.2 0 _ _ rfl rfl)
 have HM:Hid _:=takeMarkS hT5 (s:=[41]) (by decide)
 have HWz:Hid (∀r,wrongM E.t.length (k::us0) ([pUNARY]++r)=wrongM E.t.length ws5 ([[41]]++r)):=fun r=>(((HW.out r).trans (hw3.out ([[44],sInt,[44],sInt,[41]]++r))).trans (hw4.out ([[44],sInt,[41]]++r))).trans (hw5.out ([[41]]++r))
 clear HPk HW hT3 hw3 hw4 hw5 hC3 hC4 hC5 k2 hG3 hGz hT4 hT5
 go_wp2_with (go_at_call 99;refine Calls.mono HM.out ?_;rintro e w9 (⟨us9,ws9,v9,rfl,hsp9,hw9,hT9,hC9,r9,rfl,hr9,rfl⟩|⟨p,rfl,hw9,hC9⟩);rotate_left;exact And.intro rfl (Ot.bad (ts:=k::us0) (st:=[pUNARY]) (st2:=[[41]]) HWz.out HCz.out hw9.out hC9))
 go_ret
 exact .inl ⟨k::l::(t1++[c4,x4,c5,x5,r9]),ws9,_,rfl,by show _=_;rw[hsp3.out,hu3.out,hsp4.out,hu4.out,hsp5.out,hu5.out,hsp9.out];simp,fun r=>(HWz.out r).trans (hw9.out r),hT9,HCz.out.andThen hC9,.put k e1 x4 x5,.put HKs.out hl.out p1 hc4.out hx4.out hc5.out hx5.out hr9,HN.out.ch hC9 HPw.out⟩
end Go.Proofs.YtgamjhpebmmjcaaGreatDoor
