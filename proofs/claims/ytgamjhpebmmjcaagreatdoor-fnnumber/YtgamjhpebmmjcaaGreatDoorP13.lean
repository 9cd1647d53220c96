import Derived.Test.YtgamjhpebmmjcaaGreatDoorP10
import Derived.Deep.RegionHeld3
import Derived.Test.YtgamjhpebmmjcaaGreatDoorP11
import Derived.Deep.RegionWith
import Derived.Test.YtgamjhpebmmjcaaGreatDoorP03
import Derived.Test.YtgamjhpebmmjcaaGreatDoorP06
import Derived.Test.YtgamjhpebmmjcaaGreatDoorP09
import Derived.Test.YtgamjhpebmmjcaaGreatDoorP02
import Derived.Lib.EndianBits
import Derived.Laws.BytesArg
import Derived.Lib.Bytes
import Derived.Shelf.Bytes.SlSmallAll
import Derived.Test.YtgamjhpebmmjcaaGreatDoorP12
namespace Go.Proofs.YtgamjhpebmmjcaaGreatDoor
set_option maxRecDepth 100000
set_option maxHeartbeats 40000000
open Go.RowKit Flt
attribute [local go_sem] alloc_drewN setCell_drewN run_store_float
def steF (x:Int)(fs:List Int)(z:Nat):Ste:=⟨x,fs.getD 0 0,fs.getD 1 0,fs.getD 2 0,fs.getD 3 0,fs.getD 4 0,fs.getD 5 0,z⟩
structure StB (W:World)(A:Nat)(x:Int)(fs:List Int)(z:Nat):Prop where
 len:fs.length=6
 c0:W.cell? ⟨A,0,none⟩=some (.int .i64 x)
 cf:∀i,i<6→W.cell? ⟨A,i+1,none⟩=some (.int .i64 (fs.getD i 0))
 c7:W.cell? ⟨A,7,none⟩=some (.float .f64 z)
 fr:∀o,W.frozen? ⟨A,o,none⟩=false
 lt:A<W.heap.size
theorem StB.at_ {W:World}{A:Nat}{x:Int}{fs:List Int}{z:Nat}(f:StB W A x fs z):AtT W A 0 (steF x fs z):=
 ⟨f.c0,f.cf 0 (by omega),f.cf 1 (by omega),f.cf 2 (by omega),f.cf 3 (by omega),f.cf 4 (by omega),f.cf 5 (by omega),f.c7⟩
theorem StB.keepC {W W':World}{S:Nat→Prop}{A:Nat}{x:Int}{fs:List Int}{z:Nat}(f:StB W A x fs z)(k:Chg S W W')(hd:¬S A):StB W' A x fs z:=by
 have e:∀o,W'.cell? ⟨A,o,none⟩=W.cell? ⟨A,o,none⟩:=fun o=>k.cell (p:=⟨A,o,none⟩) f.lt hd
 have e2:∀o,W'.frozen? ⟨A,o,none⟩=W.frozen? ⟨A,o,none⟩:=fun o=>k.frozen (p:=⟨A,o,none⟩) f.lt hd
 exact⟨f.len,by rw[e];exact f.c0,fun i hi=>by rw[e];exact f.cf i hi,by rw[e];exact f.c7,fun o=>by rw[e2];exact f.fr o,Nat.lt_of_lt_of_le f.lt k.size⟩
theorem StB.put {W:World}{A:Nat}{x:Int}{fs:List Int}{z:Nat}(f:StB W A x fs z){k:Nat}(hk:k<6)(y:Int):StB (W.setCell ⟨A,k+1,none⟩ (.int .i64 y)) A x (fs.set k y) z where
 len:=by rw[List.length_set];exact f.len
 c0:=by rw[cell_ne _ _ _ _ _ _ (.inr (by omega))];exact f.c0
 cf:=fun i hi=>by
  rw[getD_set fs 0 y k i (by rw[f.len];exact hk)]
  by_cases e:i=k
  ·subst e
   rw[if_pos rfl]
   exact cell_eq _ _ _ _ _ (f.cf i hi)
  ·rw[if_neg e,cell_ne _ _ _ _ _ _ (.inr (by omega))]
   exact f.cf i hi
 c7:=by rw[cell_ne _ _ _ _ _ _ (.inr (by omega))];exact f.c7
 fr:=fun o=>by simp[f.fr o]
 lt:=by simpa using f.lt
theorem StB.put7 {W:World}{A:Nat}{x:Int}{fs:List Int}{z:Nat}(f:StB W A x fs z)(y:Nat):StB (W.setCell ⟨A,7,none⟩ (.float .f64 y)) A x fs y where
 len:=f.len
 c0:=by rw[cell_ne _ _ _ _ _ _ (.inr (by omega))];exact f.c0
 cf:=fun i hi=>by rw[cell_ne _ _ _ _ _ _ (.inr (by omega))];exact f.cf i hi
 c7:=cell_eq _ _ _ _ _ f.c7
 fr:=fun o=>by simp[f.fr o]
 lt:=by simpa using f.lt
abbrev put8z (w:World)(g:Nat)(v:Ste):World:=
 ((((((((w.setCell ⟨g,0,none⟩ (.int .i64 v.op)).setCell ⟨g,1,none⟩ (.int .i64 v.len)).setCell ⟨g,2,none⟩ (.int .i64 v.n)).setCell ⟨g,3,none⟩ (.int .i64 v.dst)).setCell ⟨g,4,none⟩ (.int .i64 v.a)).setCell ⟨g,5,none⟩ (.int .i64 v.b)).setCell ⟨g,6,none⟩ (.int .i64 v.c)).setCell ⟨g,7,none⟩ (.float .f64 v.k))
theorem put8z_at (w:World)(g:Nat)(u v:Ste)(h:AtT w g 0 u):AtT (put8z w g v) g 0 v:=put8_at w g 0 u v h
theorem put8z_chg (w:World)(g:Nat)(v:Ste):Chg (fun b=>b=g) w (put8z w g v):=(put8_kept w g 0 v).chg1 rfl
abbrev sbox0 (x:Int):Obj:=.cells #[.int .i64 x,.int .i64 0,.int .i64 0,.int .i64 0,.int .i64 0,.int .i64 0,.int .i64 0,.float .f64 0] 89
theorem stb_new (w:World)(x:Int):StB (w.alloc (sbox0 x)) w.heap.size x [0,0,0,0,0,0] 0 where
 len:=rfl
 c0:=by go_simp
 cf:=fun i hi=>by
  rw[World.cell?_alloc_new]
  rcases (by omega:i=0∨i=1∨i=2∨i=3∨i=4∨i=5) with rfl|rfl|rfl|rfl|rfl|rfl<;>rfl
 c7:=by go_simp
 fr:=fun o=>by simp
 lt:=by simp
end Go.Proofs.YtgamjhpebmmjcaaGreatDoor
namespace Go.Proofs.YtgamjhpebmmjcaaGreatDoor
set_option maxRecDepth 100000
set_option maxHeartbeats 40000000
open Go.RowKit Flt
attribute [local go_sem] alloc_drewN setCell_drewN run_store_float
structure OCd (W:World)(B:Nat)(v1 v2 v3:Value)(ins:List Int)(ss:List Ste)(os:List Spn):Prop where
 r1:W.ownsRow B 3 1 v1 ins.length (ins.map (Value.int .i64))
 r2:W.ownsRow B 89 8 v2 ss.length (flatT ss)
 r3:W.ownsRow B 92 2 v3 os.length (flatP os)
 d12:∀g,v1.ownBlock=some g→v2.ownBlock≠some g
 d13:∀g,v1.ownBlock=some g→v3.ownBlock≠some g
 d23:∀g,v2.ownBlock=some g→v3.ownBlock≠some g
 kl:∀v∈ss,v.k<18446744073709551616
theorem OCd.keepC {W W':World}{S:Nat→Prop}{B:Nat}{v1 v2 v3:Value}{ins:List Int}{ss:List Ste}{os:List Spn}(f:OCd W B v1 v2 v3 ins ss os)(k:Chg S W W')(hd:∀g,B≤g→g<W.heap.size→¬S g):OCd W' B v1 v2 v3 ins ss os:=
 ⟨own_keepC f.r1 k (fun g hg=>hd g (own_blkV f.r1 hg).1 (own_blkV f.r1 hg).2),own_keepC f.r2 k (fun g hg=>hd g (own_blkV f.r2 hg).1 (own_blkV f.r2 hg).2),own_keepC f.r3 k (fun g hg=>hd g (own_blkV f.r3 hg).1 (own_blkV f.r3 hg).2),f.d12,f.d13,f.d23,f.kl⟩
theorem OCd.keep {W W':World}{B:Nat}{v1 v2 v3:Value}{ins:List Int}{ss:List Ste}{os:List Spn}(f:OCd W B v1 v2 v3 ins ss os)(k:Kept 0 0 W W'):OCd W' B v1 v2 v3 ins ss os:=f.keepC (S:=fun _=>False) k.chg (fun _ _ _ h=>h)
theorem OCd.mono {W:World}{B B':Nat}{v1 v2 v3:Value}{ins:List Int}{ss:List Ste}{os:List Spn}(f:OCd W B v1 v2 v3 ins ss os)(h:B'≤B):OCd W B' v1 v2 v3 ins ss os:=
 ⟨own_mono f.r1 h,own_mono f.r2 h,own_mono f.r3 h,f.d12,f.d13,f.d23,f.kl⟩
theorem OCd.cs {W:World}{B:Nat}{a1 a2 a3:Option Addr}{n1 n2 n3 c1 c2 c3:Nat}{ins:List Int}{ss:List Ste}{os:List Spn}(f:OCd W B (.slice a1 n1 c1) (.slice a2 n2 c2) (.slice a3 n3 c3) ins ss os)(h1:ins.length=n1)(h2:ss.length=n2)(h3:os.length=n3):CS W a1 n1 a2 n2 a3 n3 ins ss os:=by
 subst h1 h2 h3
 exact⟨(own_isL f.r1 rfl).mono (Nat.zero_le _) (Nat.le_refl _),(own_tsL f.r2 rfl f.kl).mono (Nat.zero_le _) (Nat.le_refl _),(own_psL f.r3 rfl).mono (Nat.zero_le _) (Nat.le_refl _)⟩
abbrev cnl:Value:=cagg none 0 0 none 0 0 none 0 0 0
end Go.Proofs.YtgamjhpebmmjcaaGreatDoor
namespace Go.Proofs.YtgamjhpebmmjcaaGreatDoor
set_option maxRecDepth 100000
set_option maxHeartbeats 40000000
open Go.RowKit Flt
attribute [local go_sem] alloc_drewN setCell_drewN run_store_float
theorem isLetS (c:Int)(w:World):Calls Tryz.prog 53 #[.int .u8 c] w fun e w'=>e=.returned (.bool (letB c))∧w'=w:=by
 unfold letB
 by_cases h1:97≤c
 ·by_cases h2:c≤122
  ·have e:(decide (97≤c)&&decide (c≤122)||c==95)=true:=by rw[decide_eq_true h1,decide_eq_true h2];rfl
   rw[e]
   clear e
   go_enter Tryz.func53,Tryz.ntmps53
   go_wp2
   go_ret
   exact⟨rfl,rfl⟩
  ·have e:(decide (97≤c)&&decide (c≤122)||c==95)=(c==95):=by rw[decide_eq_false h2];simp
   rw[e]
   clear e
   go_enter Tryz.func53,Tryz.ntmps53
   go_wp2
   go_ret
   exact⟨rfl,rfl⟩
 ·have e:(decide (97≤c)&&decide (c≤122)||c==95)=(c==95):=by rw[decide_eq_false h1];simp
  rw[e]
  clear e
  go_enter Tryz.func53,Tryz.ntmps53
  go_wp2
  go_ret
  exact⟨rfl,rfl⟩
theorem isWrdS (c:Int)(w:World):Calls Tryz.prog 54 #[.int .u8 c] w fun e w'=>e=.returned (.bool (wrdB c))∧w'=w:=by
 have HL:Hid _:=isLetS c w
 have HD:Hid _:=isDig c w
 unfold wrdB
 cases h:letB c
 ·rw[h] at HL
  rw[Bool.false_or]
  clear h
  generalize dig c=d at HD ⊢
  go_enter Tryz.func54,Tryz.ntmps54
  go_wp2_with (first
   |(go_at_call 53;refine Calls.mono HL.out ?_;rintro e w2 ⟨rfl,hw⟩;obtain rfl:=hw.symm)
   |(go_at_call 13;refine Calls.mono HD.out ?_;rintro e w2 ⟨rfl,hw⟩;obtain rfl:=hw.symm))
  go_ret
  exact⟨rfl,rfl⟩
 ·rw[h] at HL
  rw[Bool.true_or]
  clear h
  go_enter Tryz.func54,Tryz.ntmps54
  go_wp2_with (go_at_call 53;refine Calls.mono HL.out ?_;rintro e w2 ⟨rfl,hw⟩;obtain rfl:=hw.symm)
  go_ret
  exact⟨rfl,rfl⟩
theorem isBlkS (c:Int)(w:World):Calls Tryz.prog 51 #[.int .u8 c] w fun e w'=>e=.returned (.bool (blkB c))∧w'=w:=by
 unfold blkB
 cases h1:(c==32)
 ·cases h2:(c==9)
  ·cases h3:(c==13)
   ·go_enter Tryz.func51,Tryz.ntmps51
    go_wp2
    go_ret
    exact⟨by simp,rfl⟩
   ·go_enter Tryz.func51,Tryz.ntmps51
    go_wp2
    go_ret
    exact⟨by simp,rfl⟩
  ·go_enter Tryz.func51,Tryz.ntmps51
   go_wp2
   go_ret
   exact⟨by simp,rfl⟩
 ·go_enter Tryz.func51,Tryz.ntmps51
  go_wp2
  go_ret
  exact⟨by simp,rfl⟩
theorem isNnlS (c:Int)(w:World):Calls Tryz.prog 52 #[.int .u8 c] w fun e w'=>e=.returned (.bool (nnlB c))∧w'=w:=by
 unfold nnlB
 go_enter Tryz.func52,Tryz.ntmps52
 go_wp2
 go_ret
 exact⟨by simp[bne],rfl⟩
theorem runED (w:World)(g off n cap:Nat)(t:List UInt8)(f:TxS w g off n t)(hn:n≤1048576)(k0:Nat)(hk0:k0≤n):
  Calls Tryz.prog 20 #[.slice (some ⟨g,off,none⟩) n cap,.int .i64 (k0:Int),.func (.func 13) #[] #[]] w fun e w'=>e=.returned (.int .i64 (runE dig t k0:Nat))∧w'=w:=by
 have HC:Hid _:=f.at_
 have HX:Hid (t.length=n):=f.len
 obtain⟨E,hE⟩:∃E,E=runE dig t k0:=⟨_,rfl⟩
 rw[←hE]
 have HE:Hid _:=hE
 clear f hE
 go_enter Tryz.func20,Tryz.ntmps20
 go_wp2_with fail
 go_loop [1] (fun v=>∃k:Nat,k≤n∧v=.int .i64 (k:Int)∧Hid (runE dig t k=E)) (fun v=>n-(intOf v).toNat)
 case atStart=>exact⟨k0,hk0,rfl,(show Hid _ from HE.out.symm)⟩
 case round=>
  obtain⟨k,hk,rfl,hA⟩:=hrel
  by_cases hlt:k<n
  ·have c:=HC.out k hlt
   have HD:Hid _:=isDig (bt t k) w
   cases tt:dig (bt t k)
   ·have R:Hid (E=k):=by show _=_;rw[←hA.out];exact runE_stop (fun h=>by rw[tt] at h;cases h.2)
    rw[tt] at HD
    generalize bt t k=x at c HD
    clear tt
    go_wp2_with fail
    refine Calls.mono HD.out ?_
    rintro e w' ⟨rfl,rfl⟩
    go_wp2
    go_ret
    rw[R.out]
    exact⟨rfl,rfl⟩
   ·have R:Hid (runE dig t (k+1)=E):=by show _=_;rw[←hA.out];exact(runE_go (by rw[HX.out];exact hlt) tt).symm
    rw[tt] at HD
    generalize bt t k=x at c HD
    clear tt
    go_wp2_with fail
    refine Calls.mono HD.out ?_
    rintro e w' ⟨rfl,rfl⟩
    go_wp2
    go_round
    case rel=>exact⟨k+1,by omega,by go_num,R⟩
    case measure=>simp[intOf];omega
  ·obtain rfl:k=n:=by omega
   have R:Hid (E=k):=by show _=_;rw[←hA.out];exact runE_stop (fun h=>by rw[HX.out] at h;omega)
   go_wp2
   go_ret
   rw[R.out]
   exact⟨rfl,rfl⟩
theorem runEW (w:World)(g off n cap:Nat)(t:List UInt8)(f:TxS w g off n t)(hn:n≤1048576)(k0:Nat)(hk0:k0≤n):
  Calls Tryz.prog 20 #[.slice (some ⟨g,off,none⟩) n cap,.int .i64 (k0:Int),.func (.func 54) #[] #[]] w fun e w'=>e=.returned (.int .i64 (runE wrdB t k0:Nat))∧w'=w:=by
 have HC:Hid _:=f.at_
 have HX:Hid (t.length=n):=f.len
 obtain⟨E,hE⟩:∃E,E=runE wrdB t k0:=⟨_,rfl⟩
 rw[←hE]
 have HE:Hid _:=hE
 clear f hE
 go_enter Tryz.func20,Tryz.ntmps20
 go_wp2_with fail
 go_loop [1] (fun v=>∃k:Nat,k≤n∧v=.int .i64 (k:Int)∧Hid (runE wrdB t k=E)) (fun v=>n-(intOf v).toNat)
 case atStart=>exact⟨k0,hk0,rfl,(show Hid _ from HE.out.symm)⟩
 case round=>
  obtain⟨k,hk,rfl,hA⟩:=hrel
  by_cases hlt:k<n
  ·have c:=HC.out k hlt
   have HD:Hid _:=isWrdS (bt t k) w
   cases tt:wrdB (bt t k)
   ·have R:Hid (E=k):=by show _=_;rw[←hA.out];exact runE_stop (fun h=>by rw[tt] at h;cases h.2)
    rw[tt] at HD
    generalize bt t k=x at c HD
    clear tt
    go_wp2_with fail
    refine Calls.mono HD.out ?_
    rintro e w' ⟨rfl,rfl⟩
    go_wp2
    go_ret
    rw[R.out]
    exact⟨rfl,rfl⟩
   ·have R:Hid (runE wrdB t (k+1)=E):=by show _=_;rw[←hA.out];exact(runE_go (by rw[HX.out];exact hlt) tt).symm
    rw[tt] at HD
    generalize bt t k=x at c HD
    clear tt
    go_wp2_with fail
    refine Calls.mono HD.out ?_
    rintro e w' ⟨rfl,rfl⟩
    go_wp2
    go_round
    case rel=>exact⟨k+1,by omega,by go_num,R⟩
    case measure=>simp[intOf];omega
  ·obtain rfl:k=n:=by omega
   have R:Hid (E=k):=by show _=_;rw[←hA.out];exact runE_stop (fun h=>by rw[HX.out] at h;omega)
   go_wp2
   go_ret
   rw[R.out]
   exact⟨rfl,rfl⟩
theorem runEN (w:World)(g off n cap:Nat)(t:List UInt8)(f:TxS w g off n t)(hn:n≤1048576)(k0:Nat)(hk0:k0≤n):
  Calls Tryz.prog 20 #[.slice (some ⟨g,off,none⟩) n cap,.int .i64 (k0:Int),.func (.func 52) #[] #[]] w fun e w'=>e=.returned (.int .i64 (runE nnlB t k0:Nat))∧w'=w:=by
 have HC:Hid _:=f.at_
 have HX:Hid (t.length=n):=f.len
 obtain⟨E,hE⟩:∃E,E=runE nnlB t k0:=⟨_,rfl⟩
 rw[←hE]
 have HE:Hid _:=hE
 clear f hE
 go_enter Tryz.func20,Tryz.ntmps20
 go_wp2_with fail
 go_loop [1] (fun v=>∃k:Nat,k≤n∧v=.int .i64 (k:Int)∧Hid (runE nnlB t k=E)) (fun v=>n-(intOf v).toNat)
 case atStart=>exact⟨k0,hk0,rfl,(show Hid _ from HE.out.symm)⟩
 case round=>
  obtain⟨k,hk,rfl,hA⟩:=hrel
  by_cases hlt:k<n
  ·have c:=HC.out k hlt
   have HD:Hid _:=isNnlS (bt t k) w
   cases tt:nnlB (bt t k)
   ·have R:Hid (E=k):=by show _=_;rw[←hA.out];exact runE_stop (fun h=>by rw[tt] at h;cases h.2)
    rw[tt] at HD
    generalize bt t k=x at c HD
    clear tt
    go_wp2_with fail
    refine Calls.mono HD.out ?_
    rintro e w' ⟨rfl,rfl⟩
    go_wp2
    go_ret
    rw[R.out]
    exact⟨rfl,rfl⟩
   ·have R:Hid (runE nnlB t (k+1)=E):=by show _=_;rw[←hA.out];exact(runE_go (by rw[HX.out];exact hlt) tt).symm
    rw[tt] at HD
    generalize bt t k=x at c HD
    clear tt
    go_wp2_with fail
    refine Calls.mono HD.out ?_
    rintro e w' ⟨rfl,rfl⟩
    go_wp2
    go_round
    case rel=>exact⟨k+1,by omega,by go_num,R⟩
    case measure=>simp[intOf];omega
  ·obtain rfl:k=n:=by omega
   have R:Hid (E=k):=by show _=_;rw[←hA.out];exact runE_stop (fun h=>by rw[HX.out] at h;omega)
   go_wp2
   go_ret
   rw[R.out]
   exact⟨rfl,rfl⟩
end Go.Proofs.YtgamjhpebmmjcaaGreatDoor
