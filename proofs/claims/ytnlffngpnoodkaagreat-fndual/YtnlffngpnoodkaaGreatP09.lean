import Derived.Test.YtnlffngpnoodkaaGreatP08
import Derived.Test.YtnlffngpnoodkaaGreatP05
namespace Go.Proofs.YtnlffngpnoodkaaGreat
set_option maxRecDepth 1000000
set_option maxHeartbeats 0
open Go.RowKit Flt
attribute [local go_sem] ic ib ia
variable {g n k:Nat} {q:Nat->Nat} {w:World}
def Fn1 (F:Nat)(c:Nat->Nat):Prop:=∀(x:Nat) (w:World),x<18446744073709551616->
 Calls Tryz.prog F #[.float .f64 x] w λe w'=>∃z,e=.returned (.float .f64 z)/\z<18446744073709551616/\fb z=fb (c x)/\Drawn w w'
def Fn2 (F:Nat)(c:Nat->Nat->Nat):Prop:=∀(x y:Nat) (w:World),x<18446744073709551616->y<18446744073709551616->
 Calls Tryz.prog F #[.float .f64 x,.float .f64 y] w λe w'=>∃z,e=.returned (.float .f64 z)/\z<18446744073709551616/\fb z=fb (c x y)/\Drawn w w'
def Made (n:Nat)(q:Nat->Nat)(w:World)(e:Ending)(w':World):Prop:=
 ∃zs:List Nat,e=.returned (.slice (some ⟨w.heap.size,0,none⟩) n n)/\FR w' w.heap.size zs/\(∀z∈zs,z<18446744073709551616)/\zs.length=n/\(∀k,k<n->fb (zs.getD k 0)=fb (q k))/\Kept 0 0 w w'
def Making (g n k:Nat)(q:Nat->Nat)(w W:World):Prop:=
 ∃zs:List Nat,FR W g zs/\(∀z∈zs,z<18446744073709551616)/\zs.length=n/\(∀j,j<k->fb (zs.getD j 0)=fb (q j))/\Kept 0 0 w W
theorem jD (w:World)(n:Nat)(q:Nat->Nat):Making w.heap.size n 0 q w (w.alloc (.cells (madeCells #[.float .f64 0] n) 29)):=
 ⟨_,FR.made w n,by intro z hz;rw[List.eq_of_mem_replicate hz];omega,by simp,λj hj=>by omega,hU 0 0 w _⟩
theorem Making.kept {W:World}(h:Making g n k q w W):Kept 0 0 w W:=by
 obtain⟨_,_,_,_,_,h⟩:=h;exact h
theorem Making.cell {W:World}(h:Making g n k q w W)(hk:k<n):∃v,W.cell? ⟨g,k,none⟩=some v:=by
 obtain⟨zs,h1,_,h3,_,_⟩:=h;exact⟨_,h1.cell k (by omega)⟩
theorem Making.free {W:World}(h:Making g n k q w W):W.frozen? ⟨g,k,none⟩=false:=by
 obtain⟨zs,h1,_⟩:=h;exact h1.free k
theorem Making.drawn {W W':World}(h:Making g n k q w W)(d:Drawn W W'):Making g n k q w W':=by
 obtain⟨zs,h1,h2,h3,h4,h5⟩:=h
 exact⟨zs,h1.keep (d.kept 0 0) (.inr (.inr (Nat.le_refl _))),h2,h3,h4,h5.trans (d.kept 0 0)⟩
theorem Making.step {W:World}(h:Making g n k q w W)(hg:w.heap.size<=g){z:Nat}(hz:z<18446744073709551616)(hq:fb z=fb (q k))(hk:k<n):
  Making g n (k+1) q w (W.setCell ⟨g,k,none⟩ (.float .f64 z)):=by
 obtain⟨zs,h1,h2,h3,h4,h5⟩:=h
 refine⟨_,h1.set k z,?_,by rw[List.length_set];exact h3,?_,h5.new (it (lo:=g) (hi:=g+1) W ⟨g,k,none⟩ _ (.inl ⟨Nat.le_refl _,Nat.lt_succ_self _⟩)) hg⟩
 ·intro x hx
  rcases List.mem_or_eq_of_mem_set hx with c|c
  ·exact h2 x c
  ·rw[c];exact hz
 ·intro j hj
  rw[List.getD_eq_getElem?_getD,List.getElem?_set]
  by_cases e:k=j
  ·subst e
   rw[if_pos rfl,if_pos (by omega)]
   exact hq
  ·rw[if_neg e,<-List.getD_eq_getElem?_getD]
   exact h4 j (by omega)
theorem Making.done {W:World}(h:Making w.heap.size n n q w W):Made n q w (.returned (.slice (some ⟨w.heap.size,0,none⟩) n n)) W:=by
 obtain⟨zs,h1,h2,h3,h4,h5⟩:=h
 exact⟨zs,rfl,h1,h2,h3,h4,h5⟩
theorem il {W:World}(h:Kept 0 0 w W){o:Nat}(hg:g<w.heap.size){v:Value}(hc:w.cell? ⟨g,o,none⟩=some v):W.cell? ⟨g,o,none⟩=some v:=by
 rw[h.cell (p:=⟨g,o,none⟩) hg (by omega)];exact hc
theorem wu (c:Nat->Nat->Nat)(hF:Fn2 95 c)(w:World)(n:Nat)(hn:n<=1000)(g0 o0 c0:Nat)(xs:List Nat)(b0:g0<w.heap.size)(l0:∀x∈xs,x<18446744073709551616)(k0:∀k,k<n->w.cell? ⟨g0,o0+k,none⟩=some (.float .f64 (xs.getD k 0)))(g1 o1 c1:Nat)(ys:List Nat)(b1:g1<w.heap.size)(l1:∀x∈ys,x<18446744073709551616)(k1:∀k,k<n->w.cell? ⟨g1,o1+k,none⟩=some (.float .f64 (ys.getD k 0))):
  Calls Tryz.prog 94 #[.slice (some ⟨g0,o0,none⟩) n c0,.slice (some ⟨g1,o1,none⟩) n c1,.func (.func 95) #[] #[]] w λe w'=>Made n (λk=>c (xs.getD k 0) (ys.getD k 0)) w e w':=by
 have hm:=lT n w (by omega)
 have hS:=jD w n (λk=>c (xs.getD k 0) (ys.getD k 0))
 generalize hw1:w.alloc (.cells (madeCells #[.float .f64 0] n) 29)=w1 at hm hS
 clear hw1
 have C0:Hid (∀k,k<n->w.cell? ⟨g0,o0+k,none⟩=some (.float .f64 (xs.getD k 0))):=k0
 have L0:Hid (∀x∈xs,x<18446744073709551616):=l0
 clear k0 l0
 have C1:Hid (∀k,k<n->w.cell? ⟨g1,o1+k,none⟩=some (.float .f64 (ys.getD k 0))):=k1
 have L1:Hid (∀x∈ys,x<18446744073709551616):=l1
 clear k1 l1
 go_enter Tryz.func94,Tryz.ntmps94
 go_wp2_with fail
 clear hm
 go_loopw [8,9,15] (λ_ _ i W=>∃k:Nat,k<=n/\i=.int .i64 k/\Making w.heap.size n k (λk=>c (xs.getD k 0) (ys.getD k 0)) w W) (λ_ _ i _=>n-(intOf i).toNat)
 case atStart=>exact⟨0,Nat.zero_le _,rfl,hS⟩
 case round=>
  obtain⟨k,hk,rfl,hM⟩:=hrel
  clear hS
  by_cases hlt:k<n
  ·obtain⟨v0,m0⟩:=hM.cell hlt
   have m1:=hM.free
   have d0:=il hM.kept b0 (C0.out k hlt)
   have e0:Hid _:=iE L0.out k
   have d1:=il hM.kept b1 (C1.out k hlt)
   have e1:Hid _:=iE L1.out k
   have hq:Hid (∀z,fb z=fb (c (xs.getD k 0) (ys.getD k 0))->fb z=fb ((λk=>c (xs.getD k 0) (ys.getD k 0)) k)):=λ_ h=>h
   generalize xs.getD k 0=x at d0 e0 hq
   generalize ys.getD k 0=y at d1 e1 hq
   go_wp2_with fail
   refine(hF _ _ _ e0.out e1.out).mono ?_
   rintro e w2 ⟨z,rfl,hz,hfz,hD⟩
   have hM2:=hM.drawn hD
   obtain⟨v1,m2⟩:=hM2.cell hlt
   have m3:=hM2.free
   have R:Hid _:=hM2.step (Nat.le_refl _) hz (hq.out z hfz) hlt
   clear hM hM2 hD hfz
   go_wp2
   go_roundw
   case rel=>exact⟨k+1,by omega,by go_num,R.out⟩
   case measure=>simp[intOf];omega
  ·obtain rfl:k=n:=by omega
   go_wp2
   go_ret
   exact hM.done
theorem uJ (c:Nat->Nat->Nat)(hF:Fn2 96 c)(w:World)(n:Nat)(hn:n<=1000)(g0 o0 c0:Nat)(xs:List Nat)(b0:g0<w.heap.size)(l0:∀x∈xs,x<18446744073709551616)(k0:∀k,k<n->w.cell? ⟨g0,o0+k,none⟩=some (.float .f64 (xs.getD k 0)))(g1 o1 c1:Nat)(ys:List Nat)(b1:g1<w.heap.size)(l1:∀x∈ys,x<18446744073709551616)(k1:∀k,k<n->w.cell? ⟨g1,o1+k,none⟩=some (.float .f64 (ys.getD k 0))):
  Calls Tryz.prog 94 #[.slice (some ⟨g0,o0,none⟩) n c0,.slice (some ⟨g1,o1,none⟩) n c1,.func (.func 96) #[] #[]] w λe w'=>Made n (λk=>c (xs.getD k 0) (ys.getD k 0)) w e w':=by
 have hm:=lT n w (by omega)
 have hS:=jD w n (λk=>c (xs.getD k 0) (ys.getD k 0))
 generalize hw1:w.alloc (.cells (madeCells #[.float .f64 0] n) 29)=w1 at hm hS
 clear hw1
 have C0:Hid (∀k,k<n->w.cell? ⟨g0,o0+k,none⟩=some (.float .f64 (xs.getD k 0))):=k0
 have L0:Hid (∀x∈xs,x<18446744073709551616):=l0
 clear k0 l0
 have C1:Hid (∀k,k<n->w.cell? ⟨g1,o1+k,none⟩=some (.float .f64 (ys.getD k 0))):=k1
 have L1:Hid (∀x∈ys,x<18446744073709551616):=l1
 clear k1 l1
 go_enter Tryz.func94,Tryz.ntmps94
 go_wp2_with fail
 clear hm
 go_loopw [8,9,15] (λ_ _ i W=>∃k:Nat,k<=n/\i=.int .i64 k/\Making w.heap.size n k (λk=>c (xs.getD k 0) (ys.getD k 0)) w W) (λ_ _ i _=>n-(intOf i).toNat)
 case atStart=>exact⟨0,Nat.zero_le _,rfl,hS⟩
 case round=>
  obtain⟨k,hk,rfl,hM⟩:=hrel
  clear hS
  by_cases hlt:k<n
  ·obtain⟨v0,m0⟩:=hM.cell hlt
   have m1:=hM.free
   have d0:=il hM.kept b0 (C0.out k hlt)
   have e0:Hid _:=iE L0.out k
   have d1:=il hM.kept b1 (C1.out k hlt)
   have e1:Hid _:=iE L1.out k
   have hq:Hid (∀z,fb z=fb (c (xs.getD k 0) (ys.getD k 0))->fb z=fb ((λk=>c (xs.getD k 0) (ys.getD k 0)) k)):=λ_ h=>h
   generalize xs.getD k 0=x at d0 e0 hq
   generalize ys.getD k 0=y at d1 e1 hq
   go_wp2_with fail
   refine(hF _ _ _ e0.out e1.out).mono ?_
   rintro e w2 ⟨z,rfl,hz,hfz,hD⟩
   have hM2:=hM.drawn hD
   obtain⟨v1,m2⟩:=hM2.cell hlt
   have m3:=hM2.free
   have R:Hid _:=hM2.step (Nat.le_refl _) hz (hq.out z hfz) hlt
   clear hM hM2 hD hfz
   go_wp2
   go_roundw
   case rel=>exact⟨k+1,by omega,by go_num,R.out⟩
   case measure=>simp[intOf];omega
  ·obtain rfl:k=n:=by omega
   go_wp2
   go_ret
   exact hM.done
theorem uK (c:Nat->Nat->Nat)(hF:Fn2 97 c)(w:World)(n:Nat)(hn:n<=1000)(g0 o0 c0:Nat)(xs:List Nat)(b0:g0<w.heap.size)(l0:∀x∈xs,x<18446744073709551616)(k0:∀k,k<n->w.cell? ⟨g0,o0+k,none⟩=some (.float .f64 (xs.getD k 0)))(g1 o1 c1:Nat)(ys:List Nat)(b1:g1<w.heap.size)(l1:∀x∈ys,x<18446744073709551616)(k1:∀k,k<n->w.cell? ⟨g1,o1+k,none⟩=some (.float .f64 (ys.getD k 0))):
  Calls Tryz.prog 94 #[.slice (some ⟨g0,o0,none⟩) n c0,.slice (some ⟨g1,o1,none⟩) n c1,.func (.func 97) #[] #[]] w λe w'=>Made n (λk=>c (xs.getD k 0) (ys.getD k 0)) w e w':=by
 have hm:=lT n w (by omega)
 have hS:=jD w n (λk=>c (xs.getD k 0) (ys.getD k 0))
 generalize hw1:w.alloc (.cells (madeCells #[.float .f64 0] n) 29)=w1 at hm hS
 clear hw1
 have C0:Hid (∀k,k<n->w.cell? ⟨g0,o0+k,none⟩=some (.float .f64 (xs.getD k 0))):=k0
 have L0:Hid (∀x∈xs,x<18446744073709551616):=l0
 clear k0 l0
 have C1:Hid (∀k,k<n->w.cell? ⟨g1,o1+k,none⟩=some (.float .f64 (ys.getD k 0))):=k1
 have L1:Hid (∀x∈ys,x<18446744073709551616):=l1
 clear k1 l1
 go_enter Tryz.func94,Tryz.ntmps94
 go_wp2_with fail
 clear hm
 go_loopw [8,9,15] (λ_ _ i W=>∃k:Nat,k<=n/\i=.int .i64 k/\Making w.heap.size n k (λk=>c (xs.getD k 0) (ys.getD k 0)) w W) (λ_ _ i _=>n-(intOf i).toNat)
 case atStart=>exact⟨0,Nat.zero_le _,rfl,hS⟩
 case round=>
  obtain⟨k,hk,rfl,hM⟩:=hrel
  clear hS
  by_cases hlt:k<n
  ·obtain⟨v0,m0⟩:=hM.cell hlt
   have m1:=hM.free
   have d0:=il hM.kept b0 (C0.out k hlt)
   have e0:Hid _:=iE L0.out k
   have d1:=il hM.kept b1 (C1.out k hlt)
   have e1:Hid _:=iE L1.out k
   have hq:Hid (∀z,fb z=fb (c (xs.getD k 0) (ys.getD k 0))->fb z=fb ((λk=>c (xs.getD k 0) (ys.getD k 0)) k)):=λ_ h=>h
   generalize xs.getD k 0=x at d0 e0 hq
   generalize ys.getD k 0=y at d1 e1 hq
   go_wp2_with fail
   refine(hF _ _ _ e0.out e1.out).mono ?_
   rintro e w2 ⟨z,rfl,hz,hfz,hD⟩
   have hM2:=hM.drawn hD
   obtain⟨v1,m2⟩:=hM2.cell hlt
   have m3:=hM2.free
   have R:Hid _:=hM2.step (Nat.le_refl _) hz (hq.out z hfz) hlt
   clear hM hM2 hD hfz
   go_wp2
   go_roundw
   case rel=>exact⟨k+1,by omega,by go_num,R.out⟩
   case measure=>simp[intOf];omega
  ·obtain rfl:k=n:=by omega
   go_wp2
   go_ret
   exact hM.done
theorem wv (c:Nat->Nat->Nat)(hF:Fn2 98 c)(w:World)(n:Nat)(hn:n<=1000)(g0 o0 c0:Nat)(xs:List Nat)(b0:g0<w.heap.size)(l0:∀x∈xs,x<18446744073709551616)(k0:∀k,k<n->w.cell? ⟨g0,o0+k,none⟩=some (.float .f64 (xs.getD k 0)))(g1 o1 c1:Nat)(ys:List Nat)(b1:g1<w.heap.size)(l1:∀x∈ys,x<18446744073709551616)(k1:∀k,k<n->w.cell? ⟨g1,o1+k,none⟩=some (.float .f64 (ys.getD k 0))):
  Calls Tryz.prog 94 #[.slice (some ⟨g0,o0,none⟩) n c0,.slice (some ⟨g1,o1,none⟩) n c1,.func (.func 98) #[] #[]] w λe w'=>Made n (λk=>c (xs.getD k 0) (ys.getD k 0)) w e w':=by
 have hm:=lT n w (by omega)
 have hS:=jD w n (λk=>c (xs.getD k 0) (ys.getD k 0))
 generalize hw1:w.alloc (.cells (madeCells #[.float .f64 0] n) 29)=w1 at hm hS
 clear hw1
 have C0:Hid (∀k,k<n->w.cell? ⟨g0,o0+k,none⟩=some (.float .f64 (xs.getD k 0))):=k0
 have L0:Hid (∀x∈xs,x<18446744073709551616):=l0
 clear k0 l0
 have C1:Hid (∀k,k<n->w.cell? ⟨g1,o1+k,none⟩=some (.float .f64 (ys.getD k 0))):=k1
 have L1:Hid (∀x∈ys,x<18446744073709551616):=l1
 clear k1 l1
 go_enter Tryz.func94,Tryz.ntmps94
 go_wp2_with fail
 clear hm
 go_loopw [8,9,15] (λ_ _ i W=>∃k:Nat,k<=n/\i=.int .i64 k/\Making w.heap.size n k (λk=>c (xs.getD k 0) (ys.getD k 0)) w W) (λ_ _ i _=>n-(intOf i).toNat)
 case atStart=>exact⟨0,Nat.zero_le _,rfl,hS⟩
 case round=>
  obtain⟨k,hk,rfl,hM⟩:=hrel
  clear hS
  by_cases hlt:k<n
  ·obtain⟨v0,m0⟩:=hM.cell hlt
   have m1:=hM.free
   have d0:=il hM.kept b0 (C0.out k hlt)
   have e0:Hid _:=iE L0.out k
   have d1:=il hM.kept b1 (C1.out k hlt)
   have e1:Hid _:=iE L1.out k
   have hq:Hid (∀z,fb z=fb (c (xs.getD k 0) (ys.getD k 0))->fb z=fb ((λk=>c (xs.getD k 0) (ys.getD k 0)) k)):=λ_ h=>h
   generalize xs.getD k 0=x at d0 e0 hq
   generalize ys.getD k 0=y at d1 e1 hq
   go_wp2_with fail
   refine(hF _ _ _ e0.out e1.out).mono ?_
   rintro e w2 ⟨z,rfl,hz,hfz,hD⟩
   have hM2:=hM.drawn hD
   obtain⟨v1,m2⟩:=hM2.cell hlt
   have m3:=hM2.free
   have R:Hid _:=hM2.step (Nat.le_refl _) hz (hq.out z hfz) hlt
   clear hM hM2 hD hfz
   go_wp2
   go_roundw
   case rel=>exact⟨k+1,by omega,by go_num,R.out⟩
   case measure=>simp[intOf];omega
  ·obtain rfl:k=n:=by omega
   go_wp2
   go_ret
   exact hM.done
theorem se (c:Nat->Nat->Nat)(hF:Fn2 101 c)(w:World)(n:Nat)(hn:n<=1000)(g0 o0 c0:Nat)(xs:List Nat)(b0:g0<w.heap.size)(l0:∀x∈xs,x<18446744073709551616)(k0:∀k,k<n->w.cell? ⟨g0,o0+k,none⟩=some (.float .f64 (xs.getD k 0)))(g1 o1 c1:Nat)(ys:List Nat)(b1:g1<w.heap.size)(l1:∀x∈ys,x<18446744073709551616)(k1:∀k,k<n->w.cell? ⟨g1,o1+k,none⟩=some (.float .f64 (ys.getD k 0))):
  Calls Tryz.prog 94 #[.slice (some ⟨g0,o0,none⟩) n c0,.slice (some ⟨g1,o1,none⟩) n c1,.func (.func 101) #[] #[]] w λe w'=>Made n (λk=>c (xs.getD k 0) (ys.getD k 0)) w e w':=by
 have hm:=lT n w (by omega)
 have hS:=jD w n (λk=>c (xs.getD k 0) (ys.getD k 0))
 generalize hw1:w.alloc (.cells (madeCells #[.float .f64 0] n) 29)=w1 at hm hS
 clear hw1
 have C0:Hid (∀k,k<n->w.cell? ⟨g0,o0+k,none⟩=some (.float .f64 (xs.getD k 0))):=k0
 have L0:Hid (∀x∈xs,x<18446744073709551616):=l0
 clear k0 l0
 have C1:Hid (∀k,k<n->w.cell? ⟨g1,o1+k,none⟩=some (.float .f64 (ys.getD k 0))):=k1
 have L1:Hid (∀x∈ys,x<18446744073709551616):=l1
 clear k1 l1
 go_enter Tryz.func94,Tryz.ntmps94
 go_wp2_with fail
 clear hm
 go_loopw [8,9,15] (λ_ _ i W=>∃k:Nat,k<=n/\i=.int .i64 k/\Making w.heap.size n k (λk=>c (xs.getD k 0) (ys.getD k 0)) w W) (λ_ _ i _=>n-(intOf i).toNat)
 case atStart=>exact⟨0,Nat.zero_le _,rfl,hS⟩
 case round=>
  obtain⟨k,hk,rfl,hM⟩:=hrel
  clear hS
  by_cases hlt:k<n
  ·obtain⟨v0,m0⟩:=hM.cell hlt
   have m1:=hM.free
   have d0:=il hM.kept b0 (C0.out k hlt)
   have e0:Hid _:=iE L0.out k
   have d1:=il hM.kept b1 (C1.out k hlt)
   have e1:Hid _:=iE L1.out k
   have hq:Hid (∀z,fb z=fb (c (xs.getD k 0) (ys.getD k 0))->fb z=fb ((λk=>c (xs.getD k 0) (ys.getD k 0)) k)):=λ_ h=>h
   generalize xs.getD k 0=x at d0 e0 hq
   generalize ys.getD k 0=y at d1 e1 hq
   go_wp2_with fail
   refine(hF _ _ _ e0.out e1.out).mono ?_
   rintro e w2 ⟨z,rfl,hz,hfz,hD⟩
   have hM2:=hM.drawn hD
   obtain⟨v1,m2⟩:=hM2.cell hlt
   have m3:=hM2.free
   have R:Hid _:=hM2.step (Nat.le_refl _) hz (hq.out z hfz) hlt
   clear hM hM2 hD hfz
   go_wp2
   go_roundw
   case rel=>exact⟨k+1,by omega,by go_num,R.out⟩
   case measure=>simp[intOf];omega
  ·obtain rfl:k=n:=by omega
   go_wp2
   go_ret
   exact hM.done
theorem sf (c:Nat->Nat)(hF:Fn1 100 c)(w:World)(n:Nat)(hn:n<=1000)(g0 o0 c0:Nat)(xs:List Nat)(b0:g0<w.heap.size)(l0:∀x∈xs,x<18446744073709551616)(k0:∀k,k<n->w.cell? ⟨g0,o0+k,none⟩=some (.float .f64 (xs.getD k 0))):
  Calls Tryz.prog 99 #[.slice (some ⟨g0,o0,none⟩) n c0,.func (.func 100) #[] #[]] w λe w'=>Made n (λk=>c (xs.getD k 0)) w e w':=by
 have hm:=lT n w (by omega)
 have hS:=jD w n (λk=>c (xs.getD k 0))
 generalize hw1:w.alloc (.cells (madeCells #[.float .f64 0] n) 29)=w1 at hm hS
 clear hw1
 have C0:Hid (∀k,k<n->w.cell? ⟨g0,o0+k,none⟩=some (.float .f64 (xs.getD k 0))):=k0
 have L0:Hid (∀x∈xs,x<18446744073709551616):=l0
 clear k0 l0
 go_enter Tryz.func99,Tryz.ntmps99
 go_wp2_with fail
 clear hm
 go_loopw [6,7,13] (λ_ _ i W=>∃k:Nat,k<=n/\i=.int .i64 k/\Making w.heap.size n k (λk=>c (xs.getD k 0)) w W) (λ_ _ i _=>n-(intOf i).toNat)
 case atStart=>exact⟨0,Nat.zero_le _,rfl,hS⟩
 case round=>
  obtain⟨k,hk,rfl,hM⟩:=hrel
  clear hS
  by_cases hlt:k<n
  ·obtain⟨v0,m0⟩:=hM.cell hlt
   have m1:=hM.free
   have d0:=il hM.kept b0 (C0.out k hlt)
   have e0:Hid _:=iE L0.out k
   have hq:Hid (∀z,fb z=fb (c (xs.getD k 0))->fb z=fb ((λk=>c (xs.getD k 0)) k)):=λ_ h=>h
   generalize xs.getD k 0=x at d0 e0 hq
   go_wp2_with fail
   refine(hF _ _ e0.out).mono ?_
   rintro e w2 ⟨z,rfl,hz,hfz,hD⟩
   have hM2:=hM.drawn hD
   obtain⟨v1,m2⟩:=hM2.cell hlt
   have m3:=hM2.free
   have R:Hid _:=hM2.step (Nat.le_refl _) hz (hq.out z hfz) hlt
   clear hM hM2 hD hfz
   go_wp2
   go_roundw
   case rel=>exact⟨k+1,by omega,by go_num,R.out⟩
   case measure=>simp[intOf];omega
  ·obtain rfl:k=n:=by omega
   go_wp2
   go_ret
   exact hM.done
theorem xH (c:Nat->Nat)(hF:Fn1 106 c)(w:World)(n:Nat)(hn:n<=1000)(g0 o0 c0:Nat)(xs:List Nat)(b0:g0<w.heap.size)(l0:∀x∈xs,x<18446744073709551616)(k0:∀k,k<n->w.cell? ⟨g0,o0+k,none⟩=some (.float .f64 (xs.getD k 0))):
  Calls Tryz.prog 99 #[.slice (some ⟨g0,o0,none⟩) n c0,.func (.func 106) #[] #[]] w λe w'=>Made n (λk=>c (xs.getD k 0)) w e w':=by
 have hm:=lT n w (by omega)
 have hS:=jD w n (λk=>c (xs.getD k 0))
 generalize hw1:w.alloc (.cells (madeCells #[.float .f64 0] n) 29)=w1 at hm hS
 clear hw1
 have C0:Hid (∀k,k<n->w.cell? ⟨g0,o0+k,none⟩=some (.float .f64 (xs.getD k 0))):=k0
 have L0:Hid (∀x∈xs,x<18446744073709551616):=l0
 clear k0 l0
 go_enter Tryz.func99,Tryz.ntmps99
 go_wp2_with fail
 clear hm
 go_loopw [6,7,13] (λ_ _ i W=>∃k:Nat,k<=n/\i=.int .i64 k/\Making w.heap.size n k (λk=>c (xs.getD k 0)) w W) (λ_ _ i _=>n-(intOf i).toNat)
 case atStart=>exact⟨0,Nat.zero_le _,rfl,hS⟩
 case round=>
  obtain⟨k,hk,rfl,hM⟩:=hrel
  clear hS
  by_cases hlt:k<n
  ·obtain⟨v0,m0⟩:=hM.cell hlt
   have m1:=hM.free
   have d0:=il hM.kept b0 (C0.out k hlt)
   have e0:Hid _:=iE L0.out k
   have hq:Hid (∀z,fb z=fb (c (xs.getD k 0))->fb z=fb ((λk=>c (xs.getD k 0)) k)):=λ_ h=>h
   generalize xs.getD k 0=x at d0 e0 hq
   go_wp2_with fail
   refine(hF _ _ e0.out).mono ?_
   rintro e w2 ⟨z,rfl,hz,hfz,hD⟩
   have hM2:=hM.drawn hD
   obtain⟨v1,m2⟩:=hM2.cell hlt
   have m3:=hM2.free
   have R:Hid _:=hM2.step (Nat.le_refl _) hz (hq.out z hfz) hlt
   clear hM hM2 hD hfz
   go_wp2
   go_roundw
   case rel=>exact⟨k+1,by omega,by go_num,R.out⟩
   case measure=>simp[intOf];omega
  ·obtain rfl:k=n:=by omega
   go_wp2
   go_ret
   exact hM.done
end Go.Proofs.YtnlffngpnoodkaaGreat
