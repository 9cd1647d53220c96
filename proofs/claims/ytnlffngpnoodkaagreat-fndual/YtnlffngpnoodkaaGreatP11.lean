import Derived.Test.YtnlffngpnoodkaaGreatP10
namespace Go.Proofs.YtnlffngpnoodkaaGreat
set_option maxRecDepth 1000000
set_option maxHeartbeats 0
open Go.RowKit Flt
attribute [local go_sem] ic ib ia
theorem vG:Fn2 95 (cop .add):=λx y w _ _=>(tJ x y w).mono λ_ _ h=>⟨_,h.1,jQ _ _ _ _,kD _ _ _ _,_,h.2⟩
theorem xI:Fn2 97 (cop .mul):=λx y w _ _=>(oW x y w).mono λ_ _ h=>⟨_,h.1,jQ _ _ _ _,kD _ _ _ _,_,h.2⟩
theorem z9:Fn2 98 (cop .quo):=λx y w _ _=>(pX x y w).mono λ_ _ h=>⟨_,h.1,jQ _ _ _ _,kD _ _ _ _,_,h.2⟩
theorem ww (x y:Nat)(w:World):Calls Tryz.prog 96 #[.float .f64 x,.float .f64 y] w λe w'=>e=.returned (.float .f64 (fop .sub x y w))/\w'=w.drewN (fnd .sub x y):=by
 have h1:=@tI Tryz.prog
 have h2:=sc
 go_enter Tryz.func96,Tryz.ntmps96
 go_wp2
 go_ret
 exact⟨rfl,rfl⟩
theorem xJ:Fn2 96 (cop .sub):=λx y w _ _=>(ww x y w).mono λ_ _ h=>⟨_,h.1,jQ _ _ _ _,kD _ _ _ _,_,h.2⟩
def jZ (x y:Nat):Nat:=if FloatKind.f64.format.order x y==some .gt then x else y
theorem uM:Fn2 101 jZ:=by
 intro x y w hx hy
 unfold jZ
 cases h:(FloatKind.f64.format.order x y==some .gt)
 ·go_enter Tryz.func101,Tryz.ntmps101
  go_wp2
  go_ret
  exact⟨_,rfl,hy,rfl,0,rfl⟩
 ·go_enter Tryz.func101,Tryz.ntmps101
  go_wp2
  go_ret
  exact⟨_,rfl,hx,rfl,0,rfl⟩
theorem rx (b:Nat)(w:World):(Op.unary .neg (.float .f64 b)).run Tryz.prog w=.ok (.float .f64 (Op.negFloat .f64 b)) w:=rfl
theorem si {b:Nat}(h:b<18446744073709551616):Op.negFloat .f64 b<18446744073709551616:=by
 obtain⟨s,r,hr,rfl⟩:=mI b h
 rw[rn s hr];exact wn hr
theorem uN:Fn1 100 (Op.negFloat .f64):=by
 intro x w hx
 have h1:=rx
 go_enter Tryz.func100,Tryz.ntmps100
 go_wp2
 go_ret
 exact⟨_,rfl,si hx,rfl,0,rfl⟩
theorem Cm:Fn1 106 oC:=λx w hx=>(zZ x w hx).mono λ_ _ h=>by
 obtain⟨y,h1,h2,h3,m,h4⟩:=h
 exact⟨y,h1,h3,h2,m,h4⟩
theorem sj (w:World)(x n:Nat)(hx:x<18446744073709551616)(hn:n<=1000):
  Calls Tryz.prog 93 #[.float .f64 x,.int .i64 (n:Int)] w λe w'=>Made n (λ_=>x) w e w':=by
 have hm:=lT n w (by omega)
 have hS:=jD w n (λ_=>x)
 generalize hw1:w.alloc (.cells (madeCells #[.float .f64 0] n) 29)=w1 at hm hS
 clear hw1
 go_enter Tryz.func93,Tryz.ntmps93
 go_wp2_with fail
 clear hm
 go_loopw [6,11] (λ_ i W=>∃k:Nat,k<=n/\i=.int .i64 k/\Making w.heap.size n k (λ_=>x) w W) (λ_ i _=>n-(intOf i).toNat)
 case atStart=>exact⟨0,Nat.zero_le _,rfl,hS⟩
 case round=>
  obtain⟨k,hk,rfl,hM⟩:=hrel
  clear hS
  by_cases hlt:k<n
  ·obtain⟨v0,m0⟩:=hM.cell hlt
   have m1:=hM.free
   have R:Hid _:=hM.step (Nat.le_refl _) hx rfl hlt
   clear hM
   go_wp2
   go_roundw
   case rel=>exact⟨k+1,by omega,by go_num,R.out⟩
   case measure=>simp[intOf];omega
  ·obtain rfl:k=n:=by omega
   go_wp2
   go_ret
   exact hM.done
theorem xK (w:World)(n p x:Nat)(hx:x<18446744073709551616)(hp:p<n):
  Made n (λk=>if k=p then x else 0) w (.returned (.slice (some ⟨w.heap.size,0,none⟩) n n)) ((w.alloc (.cells (madeCells #[.float .f64 0] n) 29)).setCell ⟨w.heap.size,p,none⟩ (.float .f64 x)):=by
 have h:=(FR.made w n).set p x
 refine⟨_,rfl,h,?_,by simp,?_,(hU 0 0 w _).new (it (lo:=w.heap.size) (hi:=w.heap.size+1) _ ⟨w.heap.size,p,none⟩ _ (.inl ⟨Nat.le_refl _,Nat.lt_succ_self _⟩)) (Nat.le_refl _)⟩
 ·intro y hy
  rcases List.mem_or_eq_of_mem_set hy with c|c
  ·rw[List.eq_of_mem_replicate c];omega
  ·rw[c];exact hx
 ·intro k hk
  rw[List.getD_eq_getElem?_getD,List.getElem?_set]
  by_cases e:p=k
  ·subst e
   rw[if_pos rfl,if_pos (by simpa using hp)]
   show fb x=fb (if p=p then x else 0)
   rw[if_pos rfl]
  ·rw[if_neg e,List.getElem?_replicate,if_pos hk]
   show fb 0=fb (if k=p then x else 0)
   rw[if_neg (λc=>e c.symm)]
theorem Co (w:World)(x p n:Nat)(hx:x<18446744073709551616)(hn:n<=1000)(hp:p<n):
  Calls Tryz.prog 105 #[.float .f64 x,.int .i64 (p:Int),.int .i64 (n:Int)] w λe w'=>Made n (λk=>if k=p then x else 0) w e w':=by
 have hm:=lT n w (by omega)
 have hFR:=FR.made w n
 have R:=xK w n p x hx hp
 have c1:=hFR.cell p (by simpa using hp)
 have c2:=hFR.free p
 clear hFR
 generalize hw1:w.alloc (.cells (madeCells #[.float .f64 0] n) 29)=w1 at hm c1 c2 R
 clear hw1
 obtain⟨zs,r0,r1,r2,r3,r4,r5⟩:=R
 have R1:Hid _:=r1
 have R2:Hid _:=r2
 have R3:Hid _:=r3
 have R4:Hid _:=r4
 have R5:Hid _:=r5
 clear r0 r1 r2 r3 r4 r5
 go_enter Tryz.func105,Tryz.ntmps105
 go_wp2
 go_ret
 exact⟨zs,rfl,R1.out,R2.out,R3.out,R4.out,R5.out⟩
def kP:List Nat->Nat
 |[]=>0
 |x::xs=>xs.foldl (cop .add) x
theorem wz (xs:List Nat)(y:Nat)(h:xs≠[]):kP (xs++[y])=cop .add (kP xs) y:=by
 cases xs with
 |nil=>exact absurd rfl h
 |cons x r=>simp[kP,List.foldl_append]
theorem mt (xs:List Nat)(k:Nat)(h0:0<k)(hk:k<xs.length):kP (xs.take (k+1))=cop .add (kP (xs.take k)) (xs.getD k 0):=by
 rw[List.take_succ_eq_append_getElem hk,wz _ _ (by intro c;rcases List.take_eq_nil_iff.1 c with c|c;omega;rw[c] at hk;simp at hk)]
 rw[List.getD_eq_getElem?_getD,List.getElem?_eq_getElem hk];rfl
theorem mZ (xs:List Nat)(h:0<xs.length):kP (xs.take 1)=xs.getD 0 0:=by
 cases xs with
 |nil=>simp at h
 |cons x r=>rfl
theorem FF (w:World)(n:Nat)(hn:n<=1000)(h0:1<=n)(g o c:Nat)(xs:List Nat)(hx:xs.length=n)(hc:n<=c)(lx:∀x∈xs,x<18446744073709551616)(kx:∀k,k<n->w.cell? ⟨g,o+k,none⟩=some (.float .f64 (xs.getD k 0))):
  Calls Tryz.prog 104 #[.slice (some ⟨g,o,none⟩) n c,.func (.func 95) #[] #[]] w λe w'=>∃z,e=.returned (.float .f64 z)/\z<18446744073709551616/\fb z=fb (kP xs)/\Drawn w w':=by
 have KX:Hid (∀k,k<n->w.cell? ⟨g,o+k,none⟩=some (.float .f64 (xs.getD k 0))):=kx
 have LX:Hid (∀x∈xs,x<18446744073709551616):=lx
 have HX:Hid (xs.length=n):=hx
 have c0:=kx 0 (by omega)
 rw[Nat.add_zero] at c0
 have l0:Hid _:=iE lx 0
 have s0:Hid (fb (xs.getD 0 0)=fb (kP (xs.take 1))):=by rw[mZ xs (by omega)];rfl
 clear kx lx hx
 generalize xs.getD 0 0=x0 at c0 l0 s0
 by_cases h1:n=1
 ·subst h1
  have e1:xs.take 1=xs:=List.take_of_length_le (by rw[HX.out];omega)
  rw[e1] at s0
  clear e1
  go_enter Tryz.func104,Tryz.ntmps104
  go_wp2_with fail
  all_goals
   refine wp_loop_rounds 1 ?_
   rw[rounds_succ]
   go_wp2
   go_ret
   exact⟨x0,rfl,l0.out,s0.out,Drawn.refl _⟩
 ·have hc1:¬c=1:=by omega
  have hn1:((n-1:Nat):Int)=(n:Int)-1:=by omega
  go_enter Tryz.func104,Tryz.ntmps104
  go_wp2_with fail
  clear hn1
  go_loopw [5,7,14] (λs _ i W=>∃(k z:Nat),k+1<=n/\i=.int .i64 k/\s=.float .f64 z/\z<18446744073709551616/\Hid (fb z=fb (kP (xs.take (k+1))))/\Drawn w W) (λ_ _ i _=>n-(intOf i).toNat)
  case atStart=>exact⟨0,x0,by omega,rfl,rfl,l0.out,s0,Drawn.refl _⟩
  case round=>
   obtain⟨k,z,hk,rfl,rfl,hz,hs,hD⟩:=hrel
   by_cases hlt:k+1<n
   ·have d0:wr.cell? ⟨g,o+1+k,none⟩=some (.float .f64 (xs.getD (k+1) 0)):=by rw[hD.cell,show o+1+k=o+(k+1) by omega];exact KX.out (k+1) hlt
    have l1:Hid _:=iE LX.out (k+1)
    have hst:Hid (∀z',fb z'=fb (cop .add z (xs.getD (k+1) 0))->fb z'=fb (kP (xs.take (k+1+1)))):=by
     intro z' h
     rw[h,mt xs (k+1) (by omega) (by rw[HX.out];exact hlt)]
     congr 1
     exact jt .add hs.out rfl
    generalize xs.getD (k+1) 0=y at d0 l1 hst
    have hlt2:(k:Int)<((n-1:Nat):Int):=by omega
    go_wp2_with fail
    refine(vG _ _ _ hz l1.out).mono ?_
    rintro e w2 ⟨z',rfl,hz',hfz,hD2⟩
    have R:Hid _:=hst.out z' hfz
    clear hfz
    go_wp2
    go_roundw
    case rel=>exact⟨k+1,z',by omega,by go_num,rfl,hz',R,hD.trans hD2⟩
    case measure=>simp[intOf];omega
   ·have hk2:k+1=n:=by omega
    have R:Hid (fb z=fb (kP xs)):=by
     have:=hs.out
     rw[hk2,List.take_of_length_le (by rw[HX.out];omega)] at this
     exact this
    have hlt2:((n-1:Nat):Int)<=(k:Int):=by omega
    clear hk2
    go_wp2
    go_ret
    exact⟨z,rfl,hz,R.out,hD⟩
end Go.Proofs.YtnlffngpnoodkaaGreat
