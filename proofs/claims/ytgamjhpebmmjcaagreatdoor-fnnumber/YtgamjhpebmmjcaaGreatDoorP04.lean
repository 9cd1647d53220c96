import Derived.Test.YtgamjhpebmmjcaaGreatDoorP02
import Derived.Test.YtgamjhpebmmjcaaGreatDoorP03
import Derived.Deep.RegionWith
namespace Go.Proofs.YtgamjhpebmmjcaaGreatDoor
set_option maxRecDepth 100000
set_option maxHeartbeats 40000000
open Go.RowKit Flt
theorem over_any (x y:Nat)(w:World):Calls Tryz.prog 16 #[.float .f64 x,.float .f64 y] w fun e w'=>e=.returned (.float .f64 (fop .quo x y w))∧w'=w.drewN (fnd .quo x y):=by
 have h1:=@run_fquo Tryz.prog
 have h2:=convff
 go_enter Tryz.func16,Tryz.ntmps16
 go_wp2
 go_ret
 exact⟨rfl,rfl⟩
theorem times_any (x y:Nat)(w:World):Calls Tryz.prog 158 #[.float .f64 x,.float .f64 y] w fun e w'=>e=.returned (.float .f64 (fop .mul x y w))∧w'=w.drewN (fnd .mul x y):=by
 have h1:=@run_fmul Tryz.prog
 have h2:=convff
 go_enter Tryz.func158,Tryz.ntmps158
 go_wp2
 go_ret
 exact⟨rfl,rfl⟩
theorem plus_any (x y:Nat)(w:World):Calls Tryz.prog 156 #[.float .f64 x,.float .f64 y] w fun e w'=>e=.returned (.float .f64 (fop .add x y w))∧w'=w.drewN (fnd .add x y):=by
 have h1:=@run_fadd Tryz.prog
 have h2:=convff
 go_enter Tryz.func156,Tryz.ntmps156
 go_wp2
 go_ret
 exact⟨rfl,rfl⟩
def cser (r:Nat):Nat→Nat
 |0=>4607182418800017408
 |n+1=>cop .add (cop .quo (cop .mul r (cser r n)) (floatOfInt .f64 (14-(n:Int)))) 4607182418800017408
def csq (p:Nat):Nat→Nat
 |0=>p
 |n+1=>cop .mul (csq p n) (csq p n)
theorem ser_step {r p q n:Nat}(k:Int)(w1 w2 w3:World)(hk:k=14-(n:Int))(h:fb p=fb (cser r n))
  (hq:q=fop .add (fop .quo (fop .mul r p w1) (floatOfInt .f64 k) w2) 4607182418800017408 w3):fb q=fb (cser r (n+1)):=by
 subst hk hq
 rw[fb_fop]
 unfold cser
 congr 1
 refine cop_congr .add ?_ rfl
 rw[fb_fop]
 congr 1
 refine cop_congr .quo ?_ rfl
 rw[fb_fop]
 congr 1
 exact cop_congr .mul rfl h
def cexp (x:Nat):Nat:=
 if FloatKind.f64.format.order x x !=some .eq then x
 else if FloatKind.f64.format.order x 4652007308841189376==some .gt then 9218868437227405312
 else if FloatKind.f64.format.order x 13875379345695965184==some .lt then 0
 else csq (cser (cop .quo x 4652218415073722368) 14) 10
theorem cser_congr {r r':Nat}(h:fb r=fb r'):∀n,fb (cser r n)=fb (cser r' n)
 |0=>rfl
 |n+1=>by
  unfold cser
  congr 1
  refine cop_congr .add ?_ rfl
  congr 1
  refine cop_congr .quo ?_ rfl
  congr 1
  exact cop_congr .mul h (cser_congr h n)
theorem sq_step {c y q k:Nat}{w:World}(h:fb y=fb (csq c k))(hq:q=fop .mul y y w):fb q=fb (csq c (k+1)):=by
 subst hq
 rw[fb_fop]
 unfold csq
 congr 1
 exact cop_congr .mul h h
theorem inf_any (w:World):Calls Tryz.prog 171 #[.int .i64 1] w fun e w'=>e=.returned (.float .f64 9218868437227405312)∧w'=w:=by
 have hc:=call44
 go_enter Tryz.func171,Tryz.ntmps171
 go_wp2
 go_ret
 exact⟨rfl,rfl⟩
theorem implExp (x:Nat)(w:World)(hx:x<18446744073709551616):
  Calls Tryz.prog 166 #[.float .f64 x] w fun e w'=>∃y,e=.returned (.float .f64 y)∧fb y=fb (cexp x)∧y<18446744073709551616∧∃m,w'=w.drewN m:=by
 unfold cexp
 cases h1:(FloatKind.f64.format.order x x !=some .eq)
 ·cases h2:(FloatKind.f64.format.order x 4652007308841189376==some .gt)
  ·cases h3:(FloatKind.f64.format.order x 13875379345695965184==some .lt)
   ·simp only[Bool.false_eq_true,if_false]
    have hs:=fb_fop .quo x 4652218415073722368 w
    have hs':=cser_congr hs 14
    clear hs
    generalize cser (cop .quo x 4652218415073722368) 14=c at hs' ⊢
    go_enter Tryz.func166,Tryz.ntmps166
    go_wp2_with fail
    refine(isNaN_any _ _).mono ?_
    rintro e w' ⟨rfl,rfl⟩
    go_wp2_with fail
    refine(over_any _ _ _).mono ?_
    rintro e W1 ⟨rfl,rfl⟩
    clear h1 h2 h3
    generalize fop .quo x 4652218415073722368 w'=r at hs' ⊢
    generalize fnd .quo x 4652218415073722368=m0
    go_wp2_with fail
    go_loopw [4,5] (fun p i W=>∃k y' m',k≤14∧i=.int .i64 (14-(k:Nat))∧p=.float .f64 y'∧fb y'=fb (cser r k)∧y'<18446744073709551616∧W=w'.drewN m') (fun _ i _=>(intOf i).toNat)
    case atStart=>exact⟨0,_,_,by omega,rfl,rfl,rfl,by omega,rfl⟩
    case round=>
     obtain⟨k,y',m',hk,rfl,rfl,hf,hl,rfl⟩:=hrel
     by_cases hlt:k<14
     ·go_wp2_with fail
      refine(times_any _ _ _).mono ?_
      rintro e W1 ⟨rfl,rfl⟩
      go_wp2_with fail
      refine(over_any _ _ _).mono ?_
      rintro e W1 ⟨rfl,rfl⟩
      go_wp2_with fail
      refine(plus_any _ _ _).mono ?_
      rintro e W1 ⟨rfl,rfl⟩
      go_wp2
      go_roundw
      case rel=>first|exact⟨k+1,_,_,by omega,by go_num,rfl,ser_step (14-(k:Int)) _ _ _ rfl hf rfl,fop_lt _ _ _ _,rfl⟩|((repeat apply Exists.intro);exact⟨⟨k+1,_,_,by omega,by go_num,rfl,ser_step (14-(k:Int)) _ _ _ rfl hf rfl,fop_lt _ _ _ _,rfl⟩,rfl⟩)
      case measure=>simp[intOf];omega
     ·obtain rfl:k=14:=by omega
      have hc:=hf.trans hs'
      clear hf hs'
      go_wp2_with fail
      go_loopw [4,29] (fun p i W=>∃k y' m',k≤10∧i=.int .i64 (k:Nat)∧p=.float .f64 y'∧fb y'=fb (csq c k)∧y'<18446744073709551616∧W=w'.drewN m') (fun _ i _=>10-(intOf i).toNat)
      case atStart=>exact⟨0,_,_,by omega,rfl,rfl,hc,hl,rfl⟩
      case round=>
       obtain⟨k,y'',m'',hk,rfl,rfl,hf,hl,rfl⟩:=hrel
       by_cases hlt10:k<10
       ·go_wp2_with fail
        refine(times_any _ _ _).mono ?_
        rintro e W1 ⟨rfl,rfl⟩
        go_wp2
        go_roundw
        case rel=>first|exact⟨k+1,_,_,by omega,by go_num,rfl,sq_step hf rfl,fop_lt _ _ _ _,rfl⟩|((repeat apply Exists.intro);exact⟨⟨k+1,_,_,by omega,by go_num,rfl,sq_step hf rfl,fop_lt _ _ _ _,rfl⟩,rfl⟩)
        case measure=>simp[intOf];omega
       ·go_wp2
        go_ret
        exact⟨_,rfl,by rw[hf,show k=10 by omega],hl,_,rfl⟩
   ·simp only[Bool.false_eq_true,if_false,if_true]
    go_enter Tryz.func166,Tryz.ntmps166
    go_wp2_with fail
    refine(isNaN_any _ _).mono ?_
    rintro e w' ⟨rfl,rfl⟩
    go_wp2
    go_ret
    exact⟨_,rfl,rfl,by omega,0,rfl⟩
  ·simp only[Bool.false_eq_true,if_false,if_true]
   go_enter Tryz.func166,Tryz.ntmps166
   go_wp2_with fail
   refine(isNaN_any _ _).mono ?_
   rintro e w' ⟨rfl,rfl⟩
   go_wp2_with fail
   refine(inf_any _).mono ?_
   rintro e w' ⟨rfl,rfl⟩
   go_wp2
   go_ret
   exact⟨_,rfl,rfl,by omega,0,rfl⟩
 ·simp only[if_true]
  go_enter Tryz.func166,Tryz.ntmps166
  go_wp2_with fail
  refine(isNaN_any _ _).mono ?_
  rintro e w' ⟨rfl,rfl⟩
  go_wp2
  go_ret
  exact⟨_,rfl,rfl,hx,0,rfl⟩
end Go.Proofs.YtgamjhpebmmjcaaGreatDoor
namespace Go.Proofs.YtgamjhpebmmjcaaGreatDoor
set_option maxRecDepth 100000
set_option maxHeartbeats 40000000
open Go.RowKit Flt
attribute [local go_sem] alloc_drewN setCell_drewN run_store_float
def Fn1 (F:Nat)(c:Nat→Nat):Prop:=∀(x:Nat) (w:World),x<18446744073709551616→
 Calls Tryz.prog F #[.float .f64 x] w fun e w'=>∃z,e=.returned (.float .f64 z)∧z<18446744073709551616∧fb z=fb (c x)∧Drawn w w'
def Fn2 (F:Nat)(c:Nat→Nat→Nat):Prop:=∀(x y:Nat) (w:World),x<18446744073709551616→y<18446744073709551616→
 Calls Tryz.prog F #[.float .f64 x,.float .f64 y] w fun e w'=>∃z,e=.returned (.float .f64 z)∧z<18446744073709551616∧fb z=fb (c x y)∧Drawn w w'
def Made (n:Nat)(q:Nat→Nat)(w:World)(e:Ending)(w':World):Prop:=
 ∃zs:List Nat,e=.returned (.slice (some ⟨w.heap.size,0,none⟩) n n)∧FR w' w.heap.size zs∧(∀z∈zs,z<18446744073709551616)∧zs.length=n∧(∀k,k<n→fb (zs.getD k 0)=fb (q k))∧Kept 0 0 w w'
def Making (g n k:Nat)(q:Nat→Nat)(w W:World):Prop:=
 ∃zs:List Nat,FR W g zs∧(∀z∈zs,z<18446744073709551616)∧zs.length=n∧(∀j,j<k→fb (zs.getD j 0)=fb (q j))∧Kept 0 0 w W
theorem making_start (w:World)(n:Nat)(q:Nat→Nat):Making w.heap.size n 0 q w (w.alloc (.cells (madeCells #[.float .f64 0] n) 24)):=
 ⟨_,FR.made w n,by intro z hz;rw[List.eq_of_mem_replicate hz];omega,by simp,fun j hj=>by omega,kept_alloc 0 0 w _⟩
theorem Making.kept {g n k:Nat}{q:Nat→Nat}{w W:World}(h:Making g n k q w W):Kept 0 0 w W:=by
 obtain⟨_,_,_,_,_,h⟩:=h;exact h
theorem Making.cell {g n k:Nat}{q:Nat→Nat}{w W:World}(h:Making g n k q w W)(hk:k<n):∃v,W.cell? ⟨g,k,none⟩=some v:=by
 obtain⟨zs,h1,_,h3,_,_⟩:=h;exact⟨_,h1.cell k (by omega)⟩
theorem Making.free {g n k:Nat}{q:Nat→Nat}{w W:World}(h:Making g n k q w W):W.frozen? ⟨g,k,none⟩=false:=by
 obtain⟨zs,h1,_⟩:=h;exact h1.free k
theorem Making.drawn {g n k:Nat}{q:Nat→Nat}{w W W':World}(h:Making g n k q w W)(d:Drawn W W'):Making g n k q w W':=by
 obtain⟨zs,h1,h2,h3,h4,h5⟩:=h
 exact⟨zs,h1.keep (d.kept 0 0) (.inr (.inr (Nat.le_refl _))),h2,h3,h4,h5.trans (d.kept 0 0)⟩
theorem Making.step {g n k:Nat}{q:Nat→Nat}{w W:World}(h:Making g n k q w W)(hg:w.heap.size≤g){z:Nat}(hz:z<18446744073709551616)(hq:fb z=fb (q k))(hk:k<n):
  Making g n (k+1) q w (W.setCell ⟨g,k,none⟩ (.float .f64 z)):=by
 obtain⟨zs,h1,h2,h3,h4,h5⟩:=h
 refine⟨_,h1.set k z,?_,by rw[List.length_set];exact h3,?_,h5.new (kept_setCell (lo:=g) (hi:=g+1) W ⟨g,k,none⟩ _ (.inl ⟨Nat.le_refl _,Nat.lt_succ_self _⟩)) hg⟩
 ·intro x hx
  rcases List.mem_or_eq_of_mem_set hx with c|c
  ·exact h2 x c
  ·rw[c];exact hz
 ·intro j hj
  rw[List.getD_eq_getElem?_getD,List.getElem?_set]
  by_cases e:k=j
  ·subst e
   rw[if_pos rfl,if_pos (by omega)]
   exact hq
  ·rw[if_neg e,←List.getD_eq_getElem?_getD]
   exact h4 j (by omega)
theorem Making.done {n:Nat}{q:Nat→Nat}{w W:World}(h:Making w.heap.size n n q w W):Made n q w (.returned (.slice (some ⟨w.heap.size,0,none⟩) n n)) W:=by
 obtain⟨zs,h1,h2,h3,h4,h5⟩:=h
 exact⟨zs,rfl,h1,h2,h3,h4,h5⟩
theorem kept_cell {w W:World}(h:Kept 0 0 w W){g o:Nat}(hg:g<w.heap.size){v:Value}(hc:w.cell? ⟨g,o,none⟩=some v):W.cell? ⟨g,o,none⟩=some v:=by
 rw[h.cell (p:=⟨g,o,none⟩) hg (by omega)];exact hc
theorem each_plus (c:Nat→Nat→Nat)(hF:Fn2 156 c)(w:World)(n:Nat)(hn:n≤1000)(g0 o0 c0:Nat)(xs:List Nat)(b0:g0<w.heap.size)(l0:∀x∈xs,x<18446744073709551616)(k0:∀k,k<n→w.cell? ⟨g0,o0+k,none⟩=some (.float .f64 (xs.getD k 0)))(g1 o1 c1:Nat)(ys:List Nat)(b1:g1<w.heap.size)(l1:∀x∈ys,x<18446744073709551616)(k1:∀k,k<n→w.cell? ⟨g1,o1+k,none⟩=some (.float .f64 (ys.getD k 0))):
  Calls Tryz.prog 155 #[.slice (some ⟨g0,o0,none⟩) n c0,.slice (some ⟨g1,o1,none⟩) n c1,.func (.func 156) #[] #[]] w fun e w'=>Made n (fun k=>c (xs.getD k 0) (ys.getD k 0)) w e w':=by
 have hm:=make_f n w (by omega)
 have hS:=making_start w n (fun k=>c (xs.getD k 0) (ys.getD k 0))
 generalize hw1:w.alloc (.cells (madeCells #[.float .f64 0] n) 24)=w1 at hm hS
 clear hw1
 have C0:Hid (∀k,k<n→w.cell? ⟨g0,o0+k,none⟩=some (.float .f64 (xs.getD k 0))):=k0
 have L0:Hid (∀x∈xs,x<18446744073709551616):=l0
 clear k0 l0
 have C1:Hid (∀k,k<n→w.cell? ⟨g1,o1+k,none⟩=some (.float .f64 (ys.getD k 0))):=k1
 have L1:Hid (∀x∈ys,x<18446744073709551616):=l1
 clear k1 l1
 go_enter Tryz.func155,Tryz.ntmps155
 go_wp2_with fail
 clear hm
 go_loopw [8,9,15] (fun _ _ i W=>∃k:Nat,k≤n∧i=.int .i64 k∧Making w.heap.size n k (fun k=>c (xs.getD k 0) (ys.getD k 0)) w W) (fun _ _ i _=>n-(intOf i).toNat)
 case atStart=>exact⟨0,Nat.zero_le _,rfl,hS⟩
 case round=>
  obtain⟨k,hk,rfl,hM⟩:=hrel
  clear hS
  by_cases hlt:k<n
  ·obtain⟨v0,m0⟩:=hM.cell hlt
   have m1:=hM.free
   have d0:=kept_cell hM.kept b0 (C0.out k hlt)
   have e0:Hid _:=getD_lt L0.out k
   have d1:=kept_cell hM.kept b1 (C1.out k hlt)
   have e1:Hid _:=getD_lt L1.out k
   have hq:Hid (∀z,fb z=fb (c (xs.getD k 0) (ys.getD k 0))→fb z=fb ((fun k=>c (xs.getD k 0) (ys.getD k 0)) k)):=fun _ h=>h
   generalize xs.getD k 0=x at d0 e0 hq
   generalize ys.getD k 0=y at d1 e1 hq
   go_wp2_with fail
   refine(hF _ _ _ e0.out e1.out).mono ?_
   rintro e w2 ⟨z,rfl,hz,hfz,hD⟩
   have hM2:=hM.drawn hD
   obtain⟨v1,m2⟩:=hM2.cell hlt
   have m3:=hM2.free
   have R:Hid _:=hM2.step (Nat.le_refl _) hz (hq.out z hfz) hlt
   clear hM hM2 hD hfz
   go_wp2
   go_roundw
   case rel=>exact⟨k+1,by omega,by go_num,R.out⟩
   case measure=>simp[intOf];omega
  ·obtain rfl:k=n:=by omega
   go_wp2
   go_ret
   exact hM.done
theorem each_minus (c:Nat→Nat→Nat)(hF:Fn2 157 c)(w:World)(n:Nat)(hn:n≤1000)(g0 o0 c0:Nat)(xs:List Nat)(b0:g0<w.heap.size)(l0:∀x∈xs,x<18446744073709551616)(k0:∀k,k<n→w.cell? ⟨g0,o0+k,none⟩=some (.float .f64 (xs.getD k 0)))(g1 o1 c1:Nat)(ys:List Nat)(b1:g1<w.heap.size)(l1:∀x∈ys,x<18446744073709551616)(k1:∀k,k<n→w.cell? ⟨g1,o1+k,none⟩=some (.float .f64 (ys.getD k 0))):
  Calls Tryz.prog 155 #[.slice (some ⟨g0,o0,none⟩) n c0,.slice (some ⟨g1,o1,none⟩) n c1,.func (.func 157) #[] #[]] w fun e w'=>Made n (fun k=>c (xs.getD k 0) (ys.getD k 0)) w e w':=by
 have hm:=make_f n w (by omega)
 have hS:=making_start w n (fun k=>c (xs.getD k 0) (ys.getD k 0))
 generalize hw1:w.alloc (.cells (madeCells #[.float .f64 0] n) 24)=w1 at hm hS
 clear hw1
 have C0:Hid (∀k,k<n→w.cell? ⟨g0,o0+k,none⟩=some (.float .f64 (xs.getD k 0))):=k0
 have L0:Hid (∀x∈xs,x<18446744073709551616):=l0
 clear k0 l0
 have C1:Hid (∀k,k<n→w.cell? ⟨g1,o1+k,none⟩=some (.float .f64 (ys.getD k 0))):=k1
 have L1:Hid (∀x∈ys,x<18446744073709551616):=l1
 clear k1 l1
 go_enter Tryz.func155,Tryz.ntmps155
 go_wp2_with fail
 clear hm
 go_loopw [8,9,15] (fun _ _ i W=>∃k:Nat,k≤n∧i=.int .i64 k∧Making w.heap.size n k (fun k=>c (xs.getD k 0) (ys.getD k 0)) w W) (fun _ _ i _=>n-(intOf i).toNat)
 case atStart=>exact⟨0,Nat.zero_le _,rfl,hS⟩
 case round=>
  obtain⟨k,hk,rfl,hM⟩:=hrel
  clear hS
  by_cases hlt:k<n
  ·obtain⟨v0,m0⟩:=hM.cell hlt
   have m1:=hM.free
   have d0:=kept_cell hM.kept b0 (C0.out k hlt)
   have e0:Hid _:=getD_lt L0.out k
   have d1:=kept_cell hM.kept b1 (C1.out k hlt)
   have e1:Hid _:=getD_lt L1.out k
   have hq:Hid (∀z,fb z=fb (c (xs.getD k 0) (ys.getD k 0))→fb z=fb ((fun k=>c (xs.getD k 0) (ys.getD k 0)) k)):=fun _ h=>h
   generalize xs.getD k 0=x at d0 e0 hq
   generalize ys.getD k 0=y at d1 e1 hq
   go_wp2_with fail
   refine(hF _ _ _ e0.out e1.out).mono ?_
   rintro e w2 ⟨z,rfl,hz,hfz,hD⟩
   have hM2:=hM.drawn hD
   obtain⟨v1,m2⟩:=hM2.cell hlt
   have m3:=hM2.free
   have R:Hid _:=hM2.step (Nat.le_refl _) hz (hq.out z hfz) hlt
   clear hM hM2 hD hfz
   go_wp2
   go_roundw
   case rel=>exact⟨k+1,by omega,by go_num,R.out⟩
   case measure=>simp[intOf];omega
  ·obtain rfl:k=n:=by omega
   go_wp2
   go_ret
   exact hM.done
theorem each_times (c:Nat→Nat→Nat)(hF:Fn2 158 c)(w:World)(n:Nat)(hn:n≤1000)(g0 o0 c0:Nat)(xs:List Nat)(b0:g0<w.heap.size)(l0:∀x∈xs,x<18446744073709551616)(k0:∀k,k<n→w.cell? ⟨g0,o0+k,none⟩=some (.float .f64 (xs.getD k 0)))(g1 o1 c1:Nat)(ys:List Nat)(b1:g1<w.heap.size)(l1:∀x∈ys,x<18446744073709551616)(k1:∀k,k<n→w.cell? ⟨g1,o1+k,none⟩=some (.float .f64 (ys.getD k 0))):
  Calls Tryz.prog 155 #[.slice (some ⟨g0,o0,none⟩) n c0,.slice (some ⟨g1,o1,none⟩) n c1,.func (.func 158) #[] #[]] w fun e w'=>Made n (fun k=>c (xs.getD k 0) (ys.getD k 0)) w e w':=by
 have hm:=make_f n w (by omega)
 have hS:=making_start w n (fun k=>c (xs.getD k 0) (ys.getD k 0))
 generalize hw1:w.alloc (.cells (madeCells #[.float .f64 0] n) 24)=w1 at hm hS
 clear hw1
 have C0:Hid (∀k,k<n→w.cell? ⟨g0,o0+k,none⟩=some (.float .f64 (xs.getD k 0))):=k0
 have L0:Hid (∀x∈xs,x<18446744073709551616):=l0
 clear k0 l0
 have C1:Hid (∀k,k<n→w.cell? ⟨g1,o1+k,none⟩=some (.float .f64 (ys.getD k 0))):=k1
 have L1:Hid (∀x∈ys,x<18446744073709551616):=l1
 clear k1 l1
 go_enter Tryz.func155,Tryz.ntmps155
 go_wp2_with fail
 clear hm
 go_loopw [8,9,15] (fun _ _ i W=>∃k:Nat,k≤n∧i=.int .i64 k∧Making w.heap.size n k (fun k=>c (xs.getD k 0) (ys.getD k 0)) w W) (fun _ _ i _=>n-(intOf i).toNat)
 case atStart=>exact⟨0,Nat.zero_le _,rfl,hS⟩
 case round=>
  obtain⟨k,hk,rfl,hM⟩:=hrel
  clear hS
  by_cases hlt:k<n
  ·obtain⟨v0,m0⟩:=hM.cell hlt
   have m1:=hM.free
   have d0:=kept_cell hM.kept b0 (C0.out k hlt)
   have e0:Hid _:=getD_lt L0.out k
   have d1:=kept_cell hM.kept b1 (C1.out k hlt)
   have e1:Hid _:=getD_lt L1.out k
   have hq:Hid (∀z,fb z=fb (c (xs.getD k 0) (ys.getD k 0))→fb z=fb ((fun k=>c (xs.getD k 0) (ys.getD k 0)) k)):=fun _ h=>h
   generalize xs.getD k 0=x at d0 e0 hq
   generalize ys.getD k 0=y at d1 e1 hq
   go_wp2_with fail
   refine(hF _ _ _ e0.out e1.out).mono ?_
   rintro e w2 ⟨z,rfl,hz,hfz,hD⟩
   have hM2:=hM.drawn hD
   obtain⟨v1,m2⟩:=hM2.cell hlt
   have m3:=hM2.free
   have R:Hid _:=hM2.step (Nat.le_refl _) hz (hq.out z hfz) hlt
   clear hM hM2 hD hfz
   go_wp2
   go_roundw
   case rel=>exact⟨k+1,by omega,by go_num,R.out⟩
   case measure=>simp[intOf];omega
  ·obtain rfl:k=n:=by omega
   go_wp2
   go_ret
   exact hM.done
theorem each_over (c:Nat→Nat→Nat)(hF:Fn2 16 c)(w:World)(n:Nat)(hn:n≤1000)(g0 o0 c0:Nat)(xs:List Nat)(b0:g0<w.heap.size)(l0:∀x∈xs,x<18446744073709551616)(k0:∀k,k<n→w.cell? ⟨g0,o0+k,none⟩=some (.float .f64 (xs.getD k 0)))(g1 o1 c1:Nat)(ys:List Nat)(b1:g1<w.heap.size)(l1:∀x∈ys,x<18446744073709551616)(k1:∀k,k<n→w.cell? ⟨g1,o1+k,none⟩=some (.float .f64 (ys.getD k 0))):
  Calls Tryz.prog 155 #[.slice (some ⟨g0,o0,none⟩) n c0,.slice (some ⟨g1,o1,none⟩) n c1,.func (.func 16) #[] #[]] w fun e w'=>Made n (fun k=>c (xs.getD k 0) (ys.getD k 0)) w e w':=by
 have hm:=make_f n w (by omega)
 have hS:=making_start w n (fun k=>c (xs.getD k 0) (ys.getD k 0))
 generalize hw1:w.alloc (.cells (madeCells #[.float .f64 0] n) 24)=w1 at hm hS
 clear hw1
 have C0:Hid (∀k,k<n→w.cell? ⟨g0,o0+k,none⟩=some (.float .f64 (xs.getD k 0))):=k0
 have L0:Hid (∀x∈xs,x<18446744073709551616):=l0
 clear k0 l0
 have C1:Hid (∀k,k<n→w.cell? ⟨g1,o1+k,none⟩=some (.float .f64 (ys.getD k 0))):=k1
 have L1:Hid (∀x∈ys,x<18446744073709551616):=l1
 clear k1 l1
 go_enter Tryz.func155,Tryz.ntmps155
 go_wp2_with fail
 clear hm
 go_loopw [8,9,15] (fun _ _ i W=>∃k:Nat,k≤n∧i=.int .i64 k∧Making w.heap.size n k (fun k=>c (xs.getD k 0) (ys.getD k 0)) w W) (fun _ _ i _=>n-(intOf i).toNat)
 case atStart=>exact⟨0,Nat.zero_le _,rfl,hS⟩
 case round=>
  obtain⟨k,hk,rfl,hM⟩:=hrel
  clear hS
  by_cases hlt:k<n
  ·obtain⟨v0,m0⟩:=hM.cell hlt
   have m1:=hM.free
   have d0:=kept_cell hM.kept b0 (C0.out k hlt)
   have e0:Hid _:=getD_lt L0.out k
   have d1:=kept_cell hM.kept b1 (C1.out k hlt)
   have e1:Hid _:=getD_lt L1.out k
   have hq:Hid (∀z,fb z=fb (c (xs.getD k 0) (ys.getD k 0))→fb z=fb ((fun k=>c (xs.getD k 0) (ys.getD k 0)) k)):=fun _ h=>h
   generalize xs.getD k 0=x at d0 e0 hq
   generalize ys.getD k 0=y at d1 e1 hq
   go_wp2_with fail
   refine(hF _ _ _ e0.out e1.out).mono ?_
   rintro e w2 ⟨z,rfl,hz,hfz,hD⟩
   have hM2:=hM.drawn hD
   obtain⟨v1,m2⟩:=hM2.cell hlt
   have m3:=hM2.free
   have R:Hid _:=hM2.step (Nat.le_refl _) hz (hq.out z hfz) hlt
   clear hM hM2 hD hfz
   go_wp2
   go_roundw
   case rel=>exact⟨k+1,by omega,by go_num,R.out⟩
   case measure=>simp[intOf];omega
  ·obtain rfl:k=n:=by omega
   go_wp2
   go_ret
   exact hM.done
theorem each_greater (c:Nat→Nat→Nat)(hF:Fn2 161 c)(w:World)(n:Nat)(hn:n≤1000)(g0 o0 c0:Nat)(xs:List Nat)(b0:g0<w.heap.size)(l0:∀x∈xs,x<18446744073709551616)(k0:∀k,k<n→w.cell? ⟨g0,o0+k,none⟩=some (.float .f64 (xs.getD k 0)))(g1 o1 c1:Nat)(ys:List Nat)(b1:g1<w.heap.size)(l1:∀x∈ys,x<18446744073709551616)(k1:∀k,k<n→w.cell? ⟨g1,o1+k,none⟩=some (.float .f64 (ys.getD k 0))):
  Calls Tryz.prog 155 #[.slice (some ⟨g0,o0,none⟩) n c0,.slice (some ⟨g1,o1,none⟩) n c1,.func (.func 161) #[] #[]] w fun e w'=>Made n (fun k=>c (xs.getD k 0) (ys.getD k 0)) w e w':=by
 have hm:=make_f n w (by omega)
 have hS:=making_start w n (fun k=>c (xs.getD k 0) (ys.getD k 0))
 generalize hw1:w.alloc (.cells (madeCells #[.float .f64 0] n) 24)=w1 at hm hS
 clear hw1
 have C0:Hid (∀k,k<n→w.cell? ⟨g0,o0+k,none⟩=some (.float .f64 (xs.getD k 0))):=k0
 have L0:Hid (∀x∈xs,x<18446744073709551616):=l0
 clear k0 l0
 have C1:Hid (∀k,k<n→w.cell? ⟨g1,o1+k,none⟩=some (.float .f64 (ys.getD k 0))):=k1
 have L1:Hid (∀x∈ys,x<18446744073709551616):=l1
 clear k1 l1
 go_enter Tryz.func155,Tryz.ntmps155
 go_wp2_with fail
 clear hm
 go_loopw [8,9,15] (fun _ _ i W=>∃k:Nat,k≤n∧i=.int .i64 k∧Making w.heap.size n k (fun k=>c (xs.getD k 0) (ys.getD k 0)) w W) (fun _ _ i _=>n-(intOf i).toNat)
 case atStart=>exact⟨0,Nat.zero_le _,rfl,hS⟩
 case round=>
  obtain⟨k,hk,rfl,hM⟩:=hrel
  clear hS
  by_cases hlt:k<n
  ·obtain⟨v0,m0⟩:=hM.cell hlt
   have m1:=hM.free
   have d0:=kept_cell hM.kept b0 (C0.out k hlt)
   have e0:Hid _:=getD_lt L0.out k
   have d1:=kept_cell hM.kept b1 (C1.out k hlt)
   have e1:Hid _:=getD_lt L1.out k
   have hq:Hid (∀z,fb z=fb (c (xs.getD k 0) (ys.getD k 0))→fb z=fb ((fun k=>c (xs.getD k 0) (ys.getD k 0)) k)):=fun _ h=>h
   generalize xs.getD k 0=x at d0 e0 hq
   generalize ys.getD k 0=y at d1 e1 hq
   go_wp2_with fail
   refine(hF _ _ _ e0.out e1.out).mono ?_
   rintro e w2 ⟨z,rfl,hz,hfz,hD⟩
   have hM2:=hM.drawn hD
   obtain⟨v1,m2⟩:=hM2.cell hlt
   have m3:=hM2.free
   have R:Hid _:=hM2.step (Nat.le_refl _) hz (hq.out z hfz) hlt
   clear hM hM2 hD hfz
   go_wp2
   go_roundw
   case rel=>exact⟨k+1,by omega,by go_num,R.out⟩
   case measure=>simp[intOf];omega
  ·obtain rfl:k=n:=by omega
   go_wp2
   go_ret
   exact hM.done
theorem each_negated (c:Nat→Nat)(hF:Fn1 160 c)(w:World)(n:Nat)(hn:n≤1000)(g0 o0 c0:Nat)(xs:List Nat)(b0:g0<w.heap.size)(l0:∀x∈xs,x<18446744073709551616)(k0:∀k,k<n→w.cell? ⟨g0,o0+k,none⟩=some (.float .f64 (xs.getD k 0))):
  Calls Tryz.prog 159 #[.slice (some ⟨g0,o0,none⟩) n c0,.func (.func 160) #[] #[]] w fun e w'=>Made n (fun k=>c (xs.getD k 0)) w e w':=by
 have hm:=make_f n w (by omega)
 have hS:=making_start w n (fun k=>c (xs.getD k 0))
 generalize hw1:w.alloc (.cells (madeCells #[.float .f64 0] n) 24)=w1 at hm hS
 clear hw1
 have C0:Hid (∀k,k<n→w.cell? ⟨g0,o0+k,none⟩=some (.float .f64 (xs.getD k 0))):=k0
 have L0:Hid (∀x∈xs,x<18446744073709551616):=l0
 clear k0 l0
 go_enter Tryz.func159,Tryz.ntmps159
 go_wp2_with fail
 clear hm
 go_loopw [6,7,13] (fun _ _ i W=>∃k:Nat,k≤n∧i=.int .i64 k∧Making w.heap.size n k (fun k=>c (xs.getD k 0)) w W) (fun _ _ i _=>n-(intOf i).toNat)
 case atStart=>exact⟨0,Nat.zero_le _,rfl,hS⟩
 case round=>
  obtain⟨k,hk,rfl,hM⟩:=hrel
  clear hS
  by_cases hlt:k<n
  ·obtain⟨v0,m0⟩:=hM.cell hlt
   have m1:=hM.free
   have d0:=kept_cell hM.kept b0 (C0.out k hlt)
   have e0:Hid _:=getD_lt L0.out k
   have hq:Hid (∀z,fb z=fb (c (xs.getD k 0))→fb z=fb ((fun k=>c (xs.getD k 0)) k)):=fun _ h=>h
   generalize xs.getD k 0=x at d0 e0 hq
   go_wp2_with fail
   refine(hF _ _ e0.out).mono ?_
   rintro e w2 ⟨z,rfl,hz,hfz,hD⟩
   have hM2:=hM.drawn hD
   obtain⟨v1,m2⟩:=hM2.cell hlt
   have m3:=hM2.free
   have R:Hid _:=hM2.step (Nat.le_refl _) hz (hq.out z hfz) hlt
   clear hM hM2 hD hfz
   go_wp2
   go_roundw
   case rel=>exact⟨k+1,by omega,by go_num,R.out⟩
   case measure=>simp[intOf];omega
  ·obtain rfl:k=n:=by omega
   go_wp2
   go_ret
   exact hM.done
theorem each_exp (c:Nat→Nat)(hF:Fn1 166 c)(w:World)(n:Nat)(hn:n≤1000)(g0 o0 c0:Nat)(xs:List Nat)(b0:g0<w.heap.size)(l0:∀x∈xs,x<18446744073709551616)(k0:∀k,k<n→w.cell? ⟨g0,o0+k,none⟩=some (.float .f64 (xs.getD k 0))):
  Calls Tryz.prog 159 #[.slice (some ⟨g0,o0,none⟩) n c0,.func (.func 166) #[] #[]] w fun e w'=>Made n (fun k=>c (xs.getD k 0)) w e w':=by
 have hm:=make_f n w (by omega)
 have hS:=making_start w n (fun k=>c (xs.getD k 0))
 generalize hw1:w.alloc (.cells (madeCells #[.float .f64 0] n) 24)=w1 at hm hS
 clear hw1
 have C0:Hid (∀k,k<n→w.cell? ⟨g0,o0+k,none⟩=some (.float .f64 (xs.getD k 0))):=k0
 have L0:Hid (∀x∈xs,x<18446744073709551616):=l0
 clear k0 l0
 go_enter Tryz.func159,Tryz.ntmps159
 go_wp2_with fail
 clear hm
 go_loopw [6,7,13] (fun _ _ i W=>∃k:Nat,k≤n∧i=.int .i64 k∧Making w.heap.size n k (fun k=>c (xs.getD k 0)) w W) (fun _ _ i _=>n-(intOf i).toNat)
 case atStart=>exact⟨0,Nat.zero_le _,rfl,hS⟩
 case round=>
  obtain⟨k,hk,rfl,hM⟩:=hrel
  clear hS
  by_cases hlt:k<n
  ·obtain⟨v0,m0⟩:=hM.cell hlt
   have m1:=hM.free
   have d0:=kept_cell hM.kept b0 (C0.out k hlt)
   have e0:Hid _:=getD_lt L0.out k
   have hq:Hid (∀z,fb z=fb (c (xs.getD k 0))→fb z=fb ((fun k=>c (xs.getD k 0)) k)):=fun _ h=>h
   generalize xs.getD k 0=x at d0 e0 hq
   go_wp2_with fail
   refine(hF _ _ e0.out).mono ?_
   rintro e w2 ⟨z,rfl,hz,hfz,hD⟩
   have hM2:=hM.drawn hD
   obtain⟨v1,m2⟩:=hM2.cell hlt
   have m3:=hM2.free
   have R:Hid _:=hM2.step (Nat.le_refl _) hz (hq.out z hfz) hlt
   clear hM hM2 hD hfz
   go_wp2
   go_roundw
   case rel=>exact⟨k+1,by omega,by go_num,R.out⟩
   case measure=>simp[intOf];omega
  ·obtain rfl:k=n:=by omega
   go_wp2
   go_ret
   exact hM.done
end Go.Proofs.YtgamjhpebmmjcaaGreatDoor
namespace Go.Proofs.YtgamjhpebmmjcaaGreatDoor
set_option maxRecDepth 100000
set_option maxHeartbeats 40000000
open Go.RowKit Flt
attribute [local go_sem] alloc_drewN setCell_drewN run_store_float
def chosenN (x y z:Nat):Nat:=if FloatKind.f64.format.order x 0==some .gt then y else z
theorem chosen_any (x y z:Nat)(w:World):Calls Tryz.prog 163 #[.float .f64 x,.float .f64 y,.float .f64 z] w fun e w'=>e=.returned (.float .f64 (chosenN x y z))∧w'=w:=by
 unfold chosenN
 cases h:(FloatKind.f64.format.order x 0==some .gt)
 all_goals
  go_enter Tryz.func163,Tryz.ntmps163
  go_wp2
  go_ret
  exact⟨rfl,rfl⟩
theorem each_chosen (w:World)(n:Nat)(hn:n≤1000)(g0 o0 c0:Nat)(xs:List Nat)(b0:g0<w.heap.size)(l0:∀x∈xs,x<18446744073709551616)(k0:∀k,k<n→w.cell? ⟨g0,o0+k,none⟩=some (.float .f64 (xs.getD k 0)))(g1 o1 c1:Nat)(ys:List Nat)(b1:g1<w.heap.size)(l1:∀x∈ys,x<18446744073709551616)(k1:∀k,k<n→w.cell? ⟨g1,o1+k,none⟩=some (.float .f64 (ys.getD k 0)))(g2 o2 c2:Nat)(us:List Nat)(b2:g2<w.heap.size)(l2:∀x∈us,x<18446744073709551616)(k2:∀k,k<n→w.cell? ⟨g2,o2+k,none⟩=some (.float .f64 (us.getD k 0))):
  Calls Tryz.prog 162 #[.slice (some ⟨g0,o0,none⟩) n c0,.slice (some ⟨g1,o1,none⟩) n c1,.slice (some ⟨g2,o2,none⟩) n c2,.func (.func 163) #[] #[]] w fun e w'=>Made n (fun k=>chosenN (xs.getD k 0) (ys.getD k 0) (us.getD k 0)) w e w':=by
 have hm:=make_f n w (by omega)
 have hS:=making_start w n (fun k=>chosenN (xs.getD k 0) (ys.getD k 0) (us.getD k 0))
 generalize hw1:w.alloc (.cells (madeCells #[.float .f64 0] n) 24)=w1 at hm hS
 clear hw1
 have C0:Hid (∀k,k<n→w.cell? ⟨g0,o0+k,none⟩=some (.float .f64 (xs.getD k 0))):=k0
 have L0:Hid (∀x∈xs,x<18446744073709551616):=l0
 clear k0 l0
 have C1:Hid (∀k,k<n→w.cell? ⟨g1,o1+k,none⟩=some (.float .f64 (ys.getD k 0))):=k1
 have L1:Hid (∀x∈ys,x<18446744073709551616):=l1
 clear k1 l1
 have C2:Hid (∀k,k<n→w.cell? ⟨g2,o2+k,none⟩=some (.float .f64 (us.getD k 0))):=k2
 have L2:Hid (∀x∈us,x<18446744073709551616):=l2
 clear k2 l2
 go_enter Tryz.func162,Tryz.ntmps162
 go_wp2_with fail
 clear hm
 go_loopw [10,11,17] (fun _ _ i W=>∃k:Nat,k≤n∧i=.int .i64 k∧Making w.heap.size n k (fun k=>chosenN (xs.getD k 0) (ys.getD k 0) (us.getD k 0)) w W) (fun _ _ i _=>n-(intOf i).toNat)
 case atStart=>exact⟨0,Nat.zero_le _,rfl,hS⟩
 case round=>
  obtain⟨k,hk,rfl,hM⟩:=hrel
  clear hS
  by_cases hlt:k<n
  ·obtain⟨v0,m0⟩:=hM.cell hlt
   have m1:=hM.free
   have d0:=kept_cell hM.kept b0 (C0.out k hlt)
   have e0:Hid _:=getD_lt L0.out k
   have d1:=kept_cell hM.kept b1 (C1.out k hlt)
   have e1:Hid _:=getD_lt L1.out k
   have d2:=kept_cell hM.kept b2 (C2.out k hlt)
   have e2:Hid _:=getD_lt L2.out k
   have hq:Hid (∀z,fb z=fb (chosenN (xs.getD k 0) (ys.getD k 0) (us.getD k 0))→fb z=fb ((fun k=>chosenN (xs.getD k 0) (ys.getD k 0) (us.getD k 0)) k)):=fun _ h=>h
   generalize xs.getD k 0=x at d0 e0 hq
   generalize ys.getD k 0=y at d1 e1 hq
   generalize us.getD k 0=u at d2 e2 hq
   go_wp2_with fail
   have R:Hid (Making w.heap.size n (k+1) (fun k=>chosenN (xs.getD k 0) (ys.getD k 0) (us.getD k 0)) w (wr.setCell ⟨w.heap.size,k,none⟩ (.float .f64 (chosenN x y u)))):=by
    refine hM.step (Nat.le_refl _) ?_ (hq.out _ rfl) hlt
    unfold chosenN
    split
    ·exact e1.out
    ·exact e2.out
   clear hM
   go_region_with (go_at_call 163;refine(chosen_any _ _ _ _).mono ?_;rintro e w2 ⟨rfl,rfl⟩)
   all_goals
    go_wp2
    go_roundw
    case rel=>exact⟨k+1,by omega,by go_num,R.out.drawn ⟨1,rfl⟩⟩
    case measure=>simp[intOf];omega
  ·obtain rfl:k=n:=by omega
   go_wp2
   go_ret
   exact hM.done
end Go.Proofs.YtgamjhpebmmjcaaGreatDoor
namespace Go.Proofs.YtgamjhpebmmjcaaGreatDoor
set_option maxRecDepth 100000
set_option maxHeartbeats 40000000
open Go.RowKit Flt
attribute [local go_sem] alloc_drewN setCell_drewN run_store_float
theorem fn_plus:Fn2 156 (cop .add):=fun x y w _ _=>(plus_any x y w).mono fun _ _ h=>⟨_,h.1,fop_lt _ _ _ _,fb_fop _ _ _ _,_,h.2⟩
theorem fn_times:Fn2 158 (cop .mul):=fun x y w _ _=>(times_any x y w).mono fun _ _ h=>⟨_,h.1,fop_lt _ _ _ _,fb_fop _ _ _ _,_,h.2⟩
theorem fn_over:Fn2 16 (cop .quo):=fun x y w _ _=>(over_any x y w).mono fun _ _ h=>⟨_,h.1,fop_lt _ _ _ _,fb_fop _ _ _ _,_,h.2⟩
theorem minus_any (x y:Nat)(w:World):Calls Tryz.prog 157 #[.float .f64 x,.float .f64 y] w fun e w'=>e=.returned (.float .f64 (fop .sub x y w))∧w'=w.drewN (fnd .sub x y):=by
 have h1:=@run_fsub Tryz.prog
 have h2:=convff
 go_enter Tryz.func157,Tryz.ntmps157
 go_wp2
 go_ret
 exact⟨rfl,rfl⟩
theorem fn_minus:Fn2 157 (cop .sub):=fun x y w _ _=>(minus_any x y w).mono fun _ _ h=>⟨_,h.1,fop_lt _ _ _ _,fb_fop _ _ _ _,_,h.2⟩
def greaterN (x y:Nat):Nat:=if FloatKind.f64.format.order x y==some .gt then x else y
theorem fn_greater:Fn2 161 greaterN:=by
 intro x y w hx hy
 unfold greaterN
 cases h:(FloatKind.f64.format.order x y==some .gt)
 ·go_enter Tryz.func161,Tryz.ntmps161
  go_wp2
  go_ret
  exact⟨_,rfl,hy,rfl,0,rfl⟩
 ·go_enter Tryz.func161,Tryz.ntmps161
  go_wp2
  go_ret
  exact⟨_,rfl,hx,rfl,0,rfl⟩
theorem run_fneg' (b:Nat)(w:World):(Op.unary .neg (.float .f64 b)).run Tryz.prog w=.ok (.float .f64 (Op.negFloat .f64 b)) w:=rfl
theorem negf_lt {b:Nat}(h:b<18446744073709551616):Op.negFloat .f64 b<18446744073709551616:=by
 obtain⟨s,r,hr,rfl⟩:=split_word b h
 rw[neg_W s hr];exact W_lt hr
theorem fn_negated:Fn1 160 (Op.negFloat .f64):=by
 intro x w hx
 have h1:=run_fneg'
 go_enter Tryz.func160,Tryz.ntmps160
 go_wp2
 go_ret
 exact⟨_,rfl,negf_lt hx,rfl,0,rfl⟩
theorem fn_exp:Fn1 166 cexp:=fun x w hx=>(implExp x w hx).mono fun _ _ h=>by
 obtain⟨y,h1,h2,h3,m,h4⟩:=h
 exact⟨y,h1,h3,h2,m,h4⟩
theorem copies (w:World)(x n:Nat)(hx:x<18446744073709551616)(hn:n≤1000):
  Calls Tryz.prog 154 #[.float .f64 x,.int .i64 (n:Int)] w fun e w'=>Made n (fun _=>x) w e w':=by
 have hm:=make_f n w (by omega)
 have hS:=making_start w n (fun _=>x)
 generalize hw1:w.alloc (.cells (madeCells #[.float .f64 0] n) 24)=w1 at hm hS
 clear hw1
 go_enter Tryz.func154,Tryz.ntmps154
 go_wp2_with fail
 clear hm
 go_loopw [6,11] (fun _ i W=>∃k:Nat,k≤n∧i=.int .i64 k∧Making w.heap.size n k (fun _=>x) w W) (fun _ i _=>n-(intOf i).toNat)
 case atStart=>exact⟨0,Nat.zero_le _,rfl,hS⟩
 case round=>
  obtain⟨k,hk,rfl,hM⟩:=hrel
  clear hS
  by_cases hlt:k<n
  ·obtain⟨v0,m0⟩:=hM.cell hlt
   have m1:=hM.free
   have R:Hid _:=hM.step (Nat.le_refl _) hx rfl hlt
   clear hM
   go_wp2
   go_roundw
   case rel=>exact⟨k+1,by omega,by go_num,R.out⟩
   case measure=>simp[intOf];omega
  ·obtain rfl:k=n:=by omega
   go_wp2
   go_ret
   exact hM.done
theorem made_set (w:World)(n p x:Nat)(hx:x<18446744073709551616)(hp:p<n):
  Made n (fun k=>if k=p then x else 0) w (.returned (.slice (some ⟨w.heap.size,0,none⟩) n n)) ((w.alloc (.cells (madeCells #[.float .f64 0] n) 24)).setCell ⟨w.heap.size,p,none⟩ (.float .f64 x)):=by
 have h:=(FR.made w n).set p x
 refine⟨_,rfl,h,?_,by simp,?_,(kept_alloc 0 0 w _).new (kept_setCell (lo:=w.heap.size) (hi:=w.heap.size+1) _ ⟨w.heap.size,p,none⟩ _ (.inl ⟨Nat.le_refl _,Nat.lt_succ_self _⟩)) (Nat.le_refl _)⟩
 ·intro y hy
  rcases List.mem_or_eq_of_mem_set hy with c|c
  ·rw[List.eq_of_mem_replicate c];omega
  ·rw[c];exact hx
 ·intro k hk
  rw[List.getD_eq_getElem?_getD,List.getElem?_set]
  by_cases e:p=k
  ·subst e
   rw[if_pos rfl,if_pos (by simpa using hp)]
   show fb x=fb (if p=p then x else 0)
   rw[if_pos rfl]
  ·rw[if_neg e,List.getElem?_replicate,if_pos hk]
   show fb 0=fb (if k=p then x else 0)
   rw[if_neg (fun c=>e c.symm)]
theorem placed (w:World)(x p n:Nat)(hx:x<18446744073709551616)(hn:n≤1000)(hp:p<n):
  Calls Tryz.prog 165 #[.float .f64 x,.int .i64 (p:Int),.int .i64 (n:Int)] w fun e w'=>Made n (fun k=>if k=p then x else 0) w e w':=by
 have hm:=make_f n w (by omega)
 have hFR:=FR.made w n
 have R:=made_set w n p x hx hp
 have c1:=hFR.cell p (by simpa using hp)
 have c2:=hFR.free p
 clear hFR
 generalize hw1:w.alloc (.cells (madeCells #[.float .f64 0] n) 24)=w1 at hm c1 c2 R
 clear hw1
 obtain⟨zs,r0,r1,r2,r3,r4,r5⟩:=R
 have R1:Hid _:=r1
 have R2:Hid _:=r2
 have R3:Hid _:=r3
 have R4:Hid _:=r4
 have R5:Hid _:=r5
 clear r0 r1 r2 r3 r4 r5
 go_enter Tryz.func165,Tryz.ntmps165
 go_wp2
 go_ret
 exact⟨zs,rfl,R1.out,R2.out,R3.out,R4.out,R5.out⟩
def csum:List Nat→Nat
 |[]=>0
 |x::xs=>xs.foldl (cop .add) x
theorem csum_snoc (xs:List Nat)(y:Nat)(h:xs≠[]):csum (xs++[y])=cop .add (csum xs) y:=by
 cases xs with
 |nil=>exact absurd rfl h
 |cons x r=>simp[csum,List.foldl_append]
theorem csum_take (xs:List Nat)(k:Nat)(h0:0<k)(hk:k<xs.length):csum (xs.take (k+1))=cop .add (csum (xs.take k)) (xs.getD k 0):=by
 rw[List.take_succ_eq_append_getElem hk,csum_snoc _ _ (by intro c;rcases List.take_eq_nil_iff.1 c with c|c;omega;rw[c] at hk;simp at hk)]
 rw[List.getD_eq_getElem?_getD,List.getElem?_eq_getElem hk];rfl
theorem csum_one (xs:List Nat)(h:0<xs.length):csum (xs.take 1)=xs.getD 0 0:=by
 cases xs with
 |nil=>simp at h
 |cons x r=>rfl
theorem fold (w:World)(n:Nat)(hn:n≤1000)(h0:1≤n)(g o c:Nat)(xs:List Nat)(hx:xs.length=n)(hc:n≤c)(lx:∀x∈xs,x<18446744073709551616)(kx:∀k,k<n→w.cell? ⟨g,o+k,none⟩=some (.float .f64 (xs.getD k 0))):
  Calls Tryz.prog 164 #[.slice (some ⟨g,o,none⟩) n c,.func (.func 156) #[] #[]] w fun e w'=>∃z,e=.returned (.float .f64 z)∧z<18446744073709551616∧fb z=fb (csum xs)∧Drawn w w':=by
 have KX:Hid (∀k,k<n→w.cell? ⟨g,o+k,none⟩=some (.float .f64 (xs.getD k 0))):=kx
 have LX:Hid (∀x∈xs,x<18446744073709551616):=lx
 have HX:Hid (xs.length=n):=hx
 have c0:=kx 0 (by omega)
 rw[Nat.add_zero] at c0
 have l0:Hid _:=getD_lt lx 0
 have s0:Hid (fb (xs.getD 0 0)=fb (csum (xs.take 1))):=by rw[csum_one xs (by omega)];rfl
 clear kx lx hx
 generalize xs.getD 0 0=x0 at c0 l0 s0
 by_cases h1:n=1
 ·subst h1
  have e1:xs.take 1=xs:=List.take_of_length_le (by rw[HX.out];omega)
  rw[e1] at s0
  clear e1
  go_enter Tryz.func164,Tryz.ntmps164
  go_wp2_with fail
  all_goals
   refine wp_loop_rounds 1 ?_
   rw[rounds_succ]
   go_wp2
   go_ret
   exact⟨x0,rfl,l0.out,s0.out,Drawn.refl _⟩
 ·have hc1:¬c=1:=by omega
  have hn1:((n-1:Nat):Int)=(n:Int)-1:=by omega
  go_enter Tryz.func164,Tryz.ntmps164
  go_wp2_with fail
  clear hn1
  go_loopw [5,7,14] (fun s _ i W=>∃(k z:Nat),k+1≤n∧i=.int .i64 k∧s=.float .f64 z∧z<18446744073709551616∧Hid (fb z=fb (csum (xs.take (k+1))))∧Drawn w W) (fun _ _ i _=>n-(intOf i).toNat)
  case atStart=>exact⟨0,x0,by omega,rfl,rfl,l0.out,s0,Drawn.refl _⟩
  case round=>
   obtain⟨k,z,hk,rfl,rfl,hz,hs,hD⟩:=hrel
   by_cases hlt:k+1<n
   ·have d0:wr.cell? ⟨g,o+1+k,none⟩=some (.float .f64 (xs.getD (k+1) 0)):=by rw[hD.cell,show o+1+k=o+(k+1) by omega];exact KX.out (k+1) hlt
    have l1:Hid _:=getD_lt LX.out (k+1)
    have hst:Hid (∀z',fb z'=fb (cop .add z (xs.getD (k+1) 0))→fb z'=fb (csum (xs.take (k+1+1)))):=by
     intro z' h
     rw[h,csum_take xs (k+1) (by omega) (by rw[HX.out];exact hlt)]
     congr 1
     exact cop_congr .add hs.out rfl
    generalize xs.getD (k+1) 0=y at d0 l1 hst
    have hlt2:(k:Int)<((n-1:Nat):Int):=by omega
    go_wp2_with fail
    refine(fn_plus _ _ _ hz l1.out).mono ?_
    rintro e w2 ⟨z',rfl,hz',hfz,hD2⟩
    have R:Hid _:=hst.out z' hfz
    clear hfz
    go_wp2
    go_roundw
    case rel=>exact⟨k+1,z',by omega,by go_num,rfl,hz',R,hD.trans hD2⟩
    case measure=>simp[intOf];omega
   ·have hk2:k+1=n:=by omega
    have R:Hid (fb z=fb (csum xs)):=by
     have:=hs.out
     rw[hk2,List.take_of_length_le (by rw[HX.out];omega)] at this
     exact this
    have hlt2:((n-1:Nat):Int)≤(k:Int):=by omega
    clear hk2
    go_wp2
    go_ret
    exact⟨z,rfl,hz,R.out,hD⟩
end Go.Proofs.YtgamjhpebmmjcaaGreatDoor
