import Derived.Test.YtgamjhpebmmjcaaGreatDoorP08
namespace Go.Proofs.YtgamjhpebmmjcaaGreatDoor
set_option maxRecDepth 100000
set_option maxHeartbeats 40000000
open Go.RowKit Flt
attribute [local go_sem] alloc_drewN setCell_drewN run_store_float
theorem cmp_neg {x y:Int}:(cmpI x y<0)↔x<y:=by
 unfold cmpI
 split
 ·constructor<;>intro _<;>omega
 ·split
  ·constructor<;>intro _<;>omega
  ·constructor<;>intro _<;>omega
structure LbS (l:List Spn)(x:Int)(i:Nat):Prop where
 le:i≤l.length
 lo:∀k,k<i→(l.getD k Spn.zero).off<x
 hi:∀k,i≤k→k<l.length→x≤(l.getD k Spn.zero).off
theorem binS (w:World)(lo hi:Nat)(a:Option Addr)(m c:Nat)(l:List Spn)(x:Spn)(f:PS w lo hi a m l)(hm:m≤1000000)(hs:RunsF 0 l):
  Calls Tryz.prog 147 #[.slice a m c,x.agg,.func (.func 116) #[] #[]] w fun e w'=>∃(i:Nat) (b:Bool),e=.returned (.tuple #[.int .i64 (i:Int),.bool b])∧LbS l x.off i∧Kept 0 0 w w':=by
 have ka:=kept_alloc 0 0 w x.box
 have HF:Hid _:=f.keep ka (.inr (.inr (Nat.le_refl _)))
 have HL:Hid (l.length=m):=f.len
 have HS:Hid _:=hs
 have HK:Hid _:=ka
 have HX0:Hid ((w.alloc x.box).cell? ⟨w.heap.size,0,none⟩=some (.int .i64 x.off)):=by show _=_;go_simp
 have HX1:Hid ((w.alloc x.box).cell? ⟨w.heap.size,1,none⟩=some (.int .i64 x.len)):=by show _=_;go_simp
 have HXL:Hid (w.heap.size<(w.alloc x.box).heap.size):=by show _<_;simp
 clear f hs ka
 go_enter Tryz.func147,Tryz.ntmps147
 go_wp2_with fail
 generalize w.alloc x.box=w1 at HF HK HX0 HX1 HXL ⊢
 generalize w.heap.size=X at HX0 HX1 HXL ⊢
 go_loopw [9,10] (fun i j W=>∃p q:Nat,p≤q∧q≤m∧i=.int .i64 p∧j=.int .i64 q∧Hid (∀k,k<p→(l.getD k Spn.zero).off<x.off)∧Hid (∀k,q≤k→k<m→x.off≤(l.getD k Spn.zero).off)∧Hid (Kept 0 0 w1 W)) (fun i j _=>(intOf j).toNat-(intOf i).toNat)
 case atStart=>exact⟨0,m,Nat.zero_le _,Nat.le_refl _,rfl,rfl,fun k hk=>by omega,fun k h1 h2=>by omega,Kept.refl _ _ _⟩
 case round=>
  obtain⟨p,q,hpq,hqm,rfl,rfl,hlo,hhi,hK⟩:=hrel
  have x0:wr.cell? ⟨X,0,none⟩=some (.int .i64 x.off):=by rw[hK.out.cell (p:=⟨X,0,none⟩) HXL.out (by omega)];exact HX0.out
  have x1:wr.cell? ⟨X,1,none⟩=some (.int .i64 x.len):=by rw[hK.out.cell (p:=⟨X,1,none⟩) HXL.out (by omega)];exact HX1.out
  by_cases hlt:p<q
  ·obtain⟨h,hh⟩:∃h,h=(p+q)/2:=⟨_,rfl⟩
   have hhm:h<m:=by omega
   have hph:p≤h∧h<q:=by omega
   rcases (HF.out.keep hK.out (.inr (.inr (Nat.le_refl _)))).at_ with z|⟨ga,off,rfl,z1,z2,z3',z4⟩
   ·omega
   have hat:=z4 h hhm
   have hcm:((p:Int)+(q:Int))/2=(h:Int):=by omega
   have HSO:Hid (∀k,k<h→(l.getD k Spn.zero).off<(l.getD h Spn.zero).off):=fun k hk=>by
    have:=runs_lt HS.out hk (by rw[HL.out];exact hhm)
    have hm':=RunsF.mem HS.out (l.getD k Spn.zero) (by rw[List.getD_eq_getElem?_getD,List.getElem?_eq_getElem (by rw[HL.out];omega)];exact List.getElem_mem _)
    omega
   have HSU:Hid (∀k,h<k→k<m→(l.getD h Spn.zero).off<(l.getD k Spn.zero).off):=fun k hk hkm=>by
    have:=runs_lt HS.out hk (by rw[HL.out];exact hkm)
    have hm':=RunsF.mem HS.out (l.getD h Spn.zero) (by rw[List.getD_eq_getElem?_getD,List.getElem?_eq_getElem (by rw[HL.out];omega)];exact List.getElem_mem _)
    omega
   obtain⟨s,hse⟩:∃s,s=l.getD h Spn.zero:=⟨_,rfl⟩
   rw[←hse] at hat HSO HSU
   have HSE:Hid (l.getD h Spn.zero=s):=hse.symm
   clear hse
   obtain⟨y0,y1⟩:=hat
   have HC:Hid (∀W,_):=fun W=>byOff s x W
   have HCM:Hid (cmpI s.off x.off<0↔s.off<x.off):=cmp_neg
   generalize cmpI s.off x.off=z at HC HCM
   have hi1:(0:Int)≤(h:Int):=by omega
   have hi2:(h:Int)<(m:Int):=by omega
   clear z1 z2 z4 hh
   have HGA:Hid (ga<wr.heap.size):=z3'
   have HXW:Hid (X<wr.heap.size):=Nat.lt_of_lt_of_le HXL.out hK.out.size
   have hph1:=hph.1
   have hph2:=hph.2
   by_cases hz:z<0
   ·have hso:=HCM.out.1 hz
    go_wp2_with fail
    go_region_held3 (fun w'=>w'.cell? ⟨ga,off+h*2,none⟩=some (.int .i64 s.off)∧w'.cell? ⟨ga,off+h*2+1,none⟩=some (.int .i64 s.len)∧w'.cell? ⟨X,0,none⟩=some (.int .i64 x.off)∧w'.cell? ⟨X,1,none⟩=some (.int .i64 x.len)) (go_keep)
     (first|(go_at_call 116;refine Calls.mono (HC.out _) ?_;rintro e w2 ⟨rfl,k2'⟩;have k2:=(kept_drew wr).trans k2';have t0:w2.cell? ⟨ga,off+h*2,none⟩=some (.int .i64 s.off):=(by rw[k2.cell (p:=⟨ga,off+h*2,none⟩) HGA.out (by omega)];exact y0);have t1:w2.cell? ⟨ga,off+h*2+1,none⟩=some (.int .i64 s.len):=(by rw[k2.cell (p:=⟨ga,off+h*2+1,none⟩) HGA.out (by omega)];exact y1);have t2:w2.cell? ⟨X,0,none⟩=some (.int .i64 x.off):=(by rw[k2.cell (p:=⟨X,0,none⟩) HXW.out (by omega)];exact x0);have t3:w2.cell? ⟨X,1,none⟩=some (.int .i64 x.len):=(by rw[k2.cell (p:=⟨X,1,none⟩) HXW.out (by omega)];exact x1)))
    all_goals
     have R1:Hid (∀k,k<h+1→(l.getD k Spn.zero).off<x.off):=fun k hk=>by
      by_cases e:k=h
      ·subst e;rw[HSE.out];exact hso
      ·have:=HSO.out k (by omega);omega
     have R3:Hid (Kept 0 0 w1 w2):=hK.out.trans k2
     clear t0 t1 t2 t3 k2 k2' y0 y1 x0 x1
     go_wp2_with fail
     go_roundw
     case rel=>exact⟨h+1,q,by omega,hqm,by go_num,rfl,R1,hhi,R3⟩
     case measure=>simp[intOf];omega
   ·have hso:x.off≤s.off:=by
     by_cases c:s.off<x.off
     ·exact absurd (HCM.out.2 c) hz
     ·omega
    go_wp2_with fail
    go_region_held3 (fun w'=>w'.cell? ⟨ga,off+h*2,none⟩=some (.int .i64 s.off)∧w'.cell? ⟨ga,off+h*2+1,none⟩=some (.int .i64 s.len)∧w'.cell? ⟨X,0,none⟩=some (.int .i64 x.off)∧w'.cell? ⟨X,1,none⟩=some (.int .i64 x.len)) (go_keep)
     (first|(go_at_call 116;refine Calls.mono (HC.out _) ?_;rintro e w2 ⟨rfl,k2'⟩;have k2:=(kept_drew wr).trans k2';have t0:w2.cell? ⟨ga,off+h*2,none⟩=some (.int .i64 s.off):=(by rw[k2.cell (p:=⟨ga,off+h*2,none⟩) HGA.out (by omega)];exact y0);have t1:w2.cell? ⟨ga,off+h*2+1,none⟩=some (.int .i64 s.len):=(by rw[k2.cell (p:=⟨ga,off+h*2+1,none⟩) HGA.out (by omega)];exact y1);have t2:w2.cell? ⟨X,0,none⟩=some (.int .i64 x.off):=(by rw[k2.cell (p:=⟨X,0,none⟩) HXW.out (by omega)];exact x0);have t3:w2.cell? ⟨X,1,none⟩=some (.int .i64 x.len):=(by rw[k2.cell (p:=⟨X,1,none⟩) HXW.out (by omega)];exact x1)))
    all_goals
     have R1:Hid (∀k,h≤k→k<m→x.off≤(l.getD k Spn.zero).off):=fun k hk hkm=>by
      by_cases e:k=h
      ·subst e;rw[HSE.out];exact hso
      ·have:=HSU.out k (by omega) hkm;omega
     have R3:Hid (Kept 0 0 w1 w2):=hK.out.trans k2
     clear t0 t1 t2 t3 k2 k2' y0 y1 x0 x1
     go_wp2_with fail
     go_roundw
     case rel=>exact⟨p,h,by omega,by omega,rfl,rfl,hlo,R1,R3⟩
     case measure=>simp[intOf];omega
  ·obtain rfl:p=q:=by omega
   have HLB:Hid (LbS l x.off p):=⟨by rw[HL.out];exact hqm,hlo.out,fun k h1 h2=>hhi.out k h1 (by rw[←HL.out];exact h2)⟩
   have HKR:Hid (Kept 0 0 w wr):=HK.out.trans hK.out
   by_cases hpm:p<m
   ·rcases (HF.out.keep hK.out (.inr (.inr (Nat.le_refl _)))).at_ with z|⟨ga,off,rfl,z1,z2,z3,z4⟩
    ·omega
    have hat:=z4 p hpm
    generalize l.getD p Spn.zero=s at hat
    obtain⟨y0,y1⟩:=hat
    have HC:Hid (∀W,_):=fun W=>byOff s x W
    generalize cmpI s.off x.off=z at HC
    have hi1:(0:Int)≤(p:Int):=by omega
    have hi2:(p:Int)<(m:Int):=by omega
    have HGA:Hid (ga<wr.heap.size):=z3
    have HXW:Hid (X<wr.heap.size):=Nat.lt_of_lt_of_le HXL.out hK.out.size
    clear z1 z2 z3 z4 hlo hhi
    go_wp2_with fail
    go_region_held3 (fun w'=>w'.cell? ⟨ga,off+p*2,none⟩=some (.int .i64 s.off)∧w'.cell? ⟨ga,off+p*2+1,none⟩=some (.int .i64 s.len)∧w'.cell? ⟨X,0,none⟩=some (.int .i64 x.off)∧w'.cell? ⟨X,1,none⟩=some (.int .i64 x.len)) (go_keep)
     (first|(go_at_call 116;refine Calls.mono (HC.out _) ?_;rintro e w2 ⟨rfl,k2'⟩;have k2:=(kept_drew wr).trans k2';have t0:w2.cell? ⟨ga,off+p*2,none⟩=some (.int .i64 s.off):=(by rw[k2.cell (p:=⟨ga,off+p*2,none⟩) HGA.out (by omega)];exact y0);have t1:w2.cell? ⟨ga,off+p*2+1,none⟩=some (.int .i64 s.len):=(by rw[k2.cell (p:=⟨ga,off+p*2+1,none⟩) HGA.out (by omega)];exact y1);have t2:w2.cell? ⟨X,0,none⟩=some (.int .i64 x.off):=(by rw[k2.cell (p:=⟨X,0,none⟩) HXW.out (by omega)];exact x0);have t3:w2.cell? ⟨X,1,none⟩=some (.int .i64 x.len):=(by rw[k2.cell (p:=⟨X,1,none⟩) HXW.out (by omega)];exact x1)))
    all_goals
     have R:Hid (Kept 0 0 w w2):=HKR.out.trans k2
     clear t0 t1 t2 t3 k2 k2' y0 y1 x0 x1
     go_wp2_with fail
     refine bodyPost_ret (v:=.tuple #[.int .i64 (p:Int),.bool (z==0)]) (by simp[results,Tryz.results147,go_sem]) rfl ⟨p,_,rfl,HLB.out,R.out⟩
   ·have hpf:¬((p:Int)<(m:Int)):=by omega
    clear hlo hhi
    go_wp2_with fail
    first|(go_region_with (fail))|fail
    all_goals
     go_wp2_with fail
     refine bodyPost_ret (v:=.tuple #[.int .i64 (p:Int),.bool false]) (by simp[results,Tryz.results147,go_sem]) rfl ⟨p,_,rfl,HLB.out,HKR.out.trans (kept_drew wr)⟩
end Go.Proofs.YtgamjhpebmmjcaaGreatDoor
