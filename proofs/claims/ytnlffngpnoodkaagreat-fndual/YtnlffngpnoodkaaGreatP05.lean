import Derived.Test.YtnlffngpnoodkaaGreatP04
namespace Go.Proofs.YtnlffngpnoodkaaGreat
set_option maxRecDepth 1000000
set_option maxHeartbeats 0
open Go.RowKit Flt
theorem pX (x y:Nat)(w:World):Calls Tryz.prog 98 #[.float .f64 x,.float .f64 y] w λe w'=>e=.returned (.float .f64 (fop .quo x y w))/\w'=w.drewN (fnd .quo x y):=by
 have h1:=@ms Tryz.prog
 have h2:=sc
 go_enter Tryz.func98,Tryz.ntmps98
 go_wp2
 go_ret
 exact⟨rfl,rfl⟩
theorem oW (x y:Nat)(w:World):Calls Tryz.prog 97 #[.float .f64 x,.float .f64 y] w λe w'=>e=.returned (.float .f64 (fop .mul x y w))/\w'=w.drewN (fnd .mul x y):=by
 have h1:=@mY Tryz.prog
 have h2:=sc
 go_enter Tryz.func97,Tryz.ntmps97
 go_wp2
 go_ret
 exact⟨rfl,rfl⟩
theorem tJ (x y:Nat)(w:World):Calls Tryz.prog 95 #[.float .f64 x,.float .f64 y] w λe w'=>e=.returned (.float .f64 (fop .add x y w))/\w'=w.drewN (fnd .add x y):=by
 have h1:=@ov Tryz.prog
 have h2:=sc
 go_enter Tryz.func95,Tryz.ntmps95
 go_wp2
 go_ret
 exact⟨rfl,rfl⟩
def pA (r:Nat):Nat->Nat
 |0=>4607182418800017408
 |n+1=>cop .add (cop .quo (cop .mul r (pA r n)) (floatOfInt .f64 (14-(n:Int)))) 4607182418800017408
def csq (p:Nat):Nat->Nat
 |0=>p
 |n+1=>cop .mul (csq p n) (csq p n)
theorem pY {r p q n:Nat}(k:Int)(w1 w2 w3:World)(hk:k=14-(n:Int))(h:fb p=fb (pA r n))
  (hq:q=fop .add (fop .quo (fop .mul r p w1) (floatOfInt .f64 k) w2) 4607182418800017408 w3):fb q=fb (pA r (n+1)):=by
 subst hk hq
 rw[kD]
 unfold pA
 congr 1
 refine jt .add ?_ rfl
 rw[kD]
 congr 1
 refine jt .quo ?_ rfl
 rw[kD]
 congr 1
 exact jt .mul rfl h
def mJ (r n:Nat):Prop:=∀(k:Int) (w:World),n<=14->k=15-(n:Int)->
    Calls Tryz.prog 122 #[.float .f64 r,.int .i64 k] w λe w'=>∃y,e=.returned (.float .f64 y)/\fb y=fb (pA r n)/\y<18446744073709551616/\∃m,w'=w.drewN m
theorem tK (r:Nat):mJ r 0:=by
 intro k w hn hk
 have hk':(14:Int)<k:=by omega
 clear hk
 go_enter Tryz.func122,Tryz.ntmps122
 go_wp2
 go_ret
 exact⟨_,rfl,rfl,by omega,0,rfl⟩
theorem tL (r n:Nat)(IH:mJ r n):mJ r (n+1):=by
 intro k w hn hk
 have hk1:k<=14:=by omega
 have hk2:1<=k:=by omega
 have H:Hid (k=15-((n+1:Nat):Int)):=hk
 clear hk
 have h1:=@ov Tryz.prog
 have h2:=@mY Tryz.prog
 have h3:=@ms Tryz.prog
 go_enter Tryz.func122,Tryz.ntmps122
 go_wp2_with fail
 refine(IH _ _ (by omega) (by have:=H.out;omega)).mono ?_
 rintro e w' ⟨y,rfl,hy,hlt,m,rfl⟩
 go_wp2
 go_ret
 exact⟨_,rfl,pY k _ _ _ (by have:=H.out;omega) hy rfl,jQ _ _ _ _,_,rfl⟩
theorem xF (r:Nat):∀n,mJ r n
 |0=>tK r
 |n+1=>tL r n (xF r n)
def oC (x:Nat):Nat:=
 if FloatKind.f64.format.order x x !=some .eq then x
 else if FloatKind.f64.format.order x 4652007308841189376==some .gt then 9218868437227405312
 else if FloatKind.f64.format.order x 13875379345695965184==some .lt then 0
 else csq (pA (cop .quo x 4652218415073722368) 14) 10
theorem n7 {r r':Nat}(h:fb r=fb r'):∀n,fb (pA r n)=fb (pA r' n)
 |0=>rfl
 |n+1=>by
  unfold pA
  congr 1
  refine jt .add ?_ rfl
  congr 1
  refine jt .quo ?_ rfl
  congr 1
  exact jt .mul h (n7 h n)
theorem sd {c y q k:Nat}{w:World}(h:fb y=fb (csq c k))(hq:q=fop .mul y y w):fb q=fb (csq c (k+1)):=by
 subst hq
 rw[kD]
 unfold csq
 congr 1
 exact jt .mul h h
theorem zX (x:Nat)(w:World)(hx:x<18446744073709551616):
  Calls Tryz.prog 109 #[.float .f64 x] w λe w'=>∃y,e=.returned (.float .f64 y)/\fb y=fb (oC x)/\y<18446744073709551616/\∃m,w'=w.drewN m:=by
 unfold oC
 cases h1:(FloatKind.f64.format.order x x !=some .eq)
 ·cases h2:(FloatKind.f64.format.order x 4652007308841189376==some .gt)
  ·cases h3:(FloatKind.f64.format.order x 13875379345695965184==some .lt)
   ·simp only[Bool.false_eq_true,if_false]
    have hq:(binOp .quo 29 (.float .f64 x) (.float .f64 4652218415073722368)).run Tryz.prog w=.ok (.float .f64 (fop .quo x 4652218415073722368 w)) (w.drewN (fnd .quo x 4652218415073722368)):=ms w 29 _ _
    have hs:=kD .quo x 4652218415073722368 w
    have hs':=n7 hs 14
    clear hs
    generalize fop .quo x 4652218415073722368 w=r at hq hs'
    generalize fnd .quo x 4652218415073722368=m0 at hq
    generalize pA (cop .quo x 4652218415073722368) 14=c at hs' ⊢
    go_enter Tryz.func109,Tryz.ntmps109
    go_wp2_with fail
    refine(nG _ _).mono ?_
    rintro e w' ⟨rfl,rfl⟩
    go_wp2_with fail
    refine(xF _ 14 _ _ (by omega) (by omega)).mono ?_
    rintro e w' ⟨y,rfl,hy,hlt,m,rfl⟩
    have hy2:=hy.trans hs'
    clear hq hy hs' h1 h2 h3
    have h2:=@mY Tryz.prog
    go_wp2_with fail
    go_loopw [4,5] (λp i W=>∃k y' m',k<=10/\i=.int .i64 (k:Nat)/\p=.float .f64 y'/\fb y'=fb (csq c k)/\y'<18446744073709551616/\W=w'.drewN m') (λ_ i _=>10-(intOf i).toNat)
    case atStart=>exact⟨0,y,_,by omega,rfl,rfl,hy2,hlt,rfl⟩
    case round=>
     obtain⟨k,y',m',hk,rfl,rfl,hf,hl,rfl⟩:=hrel
     by_cases hlt10:k<10
     ·go_wp2
      go_roundw
      case rel=>exact⟨k+1,_,_,by omega,by go_num,rfl,sd hf rfl,jQ _ _ _ _,rfl⟩
      case measure=>simp[intOf];omega
     ·go_wp2
      go_ret
      exact⟨_,rfl,by rw[hf,show k=10 by omega],hl,_,rfl⟩
   ·simp only[Bool.false_eq_true,if_false,if_true]
    go_enter Tryz.func109,Tryz.ntmps109
    go_wp2_with fail
    refine(nG _ _).mono ?_
    rintro e w' ⟨rfl,rfl⟩
    go_wp2
    go_ret
    exact⟨_,rfl,rfl,by omega,0,rfl⟩
  ·simp only[Bool.false_eq_true,if_false,if_true]
   have h4:=ow
   go_enter Tryz.func109,Tryz.ntmps109
   go_wp2_with fail
   refine(nG _ _).mono ?_
   rintro e w' ⟨rfl,rfl⟩
   go_wp2
   go_ret
   exact⟨_,rfl,rfl,by omega,0,rfl⟩
 ·simp only[if_true]
  go_enter Tryz.func109,Tryz.ntmps109
  go_wp2_with fail
  refine(nG _ _).mono ?_
  rintro e w' ⟨rfl,rfl⟩
  go_wp2
  go_ret
  exact⟨_,rfl,rfl,hx,0,rfl⟩
theorem zY (w:World):Calls Tryz.prog 118 #[.int .i64 1] w λe w'=>e=.returned (.float .f64 9218868437227405312)/\w'=w:=by
 have hc:=Ci
 go_enter Tryz.func118,Tryz.ntmps118
 go_wp2
 go_ret
 exact⟨rfl,rfl⟩
theorem zZ (x:Nat)(w:World)(hx:x<18446744073709551616):
  Calls Tryz.prog 106 #[.float .f64 x] w λe w'=>∃y,e=.returned (.float .f64 y)/\fb y=fb (oC x)/\y<18446744073709551616/\∃m,w'=w.drewN m:=by
 unfold oC
 cases h1:(FloatKind.f64.format.order x x !=some .eq)
 ·cases h2:(FloatKind.f64.format.order x 4652007308841189376==some .gt)
  ·cases h3:(FloatKind.f64.format.order x 13875379345695965184==some .lt)
   ·simp only[Bool.false_eq_true,if_false]
    have hs:=kD .quo x 4652218415073722368 w
    have hs':=n7 hs 14
    clear hs
    generalize pA (cop .quo x 4652218415073722368) 14=c at hs' ⊢
    go_enter Tryz.func106,Tryz.ntmps106
    go_wp2_with fail
    refine(nH _ _).mono ?_
    rintro e w' ⟨rfl,rfl⟩
    go_wp2_with fail
    refine(pX _ _ _).mono ?_
    rintro e W1 ⟨rfl,rfl⟩
    clear h1 h2 h3
    generalize fop .quo x 4652218415073722368 w'=r at hs' ⊢
    generalize fnd .quo x 4652218415073722368=m0
    go_wp2_with fail
    go_loopw [4,5] (λp i W=>∃k y' m',k<=14/\i=.int .i64 (14-(k:Nat))/\p=.float .f64 y'/\fb y'=fb (pA r k)/\y'<18446744073709551616/\W=w'.drewN m') (λ_ i _=>(intOf i).toNat)
    case atStart=>exact⟨0,_,_,by omega,rfl,rfl,rfl,by omega,rfl⟩
    case round=>
     obtain⟨k,y',m',hk,rfl,rfl,hf,hl,rfl⟩:=hrel
     by_cases hlt:k<14
     ·go_wp2_with fail
      refine(oW _ _ _).mono ?_
      rintro e W1 ⟨rfl,rfl⟩
      go_wp2_with fail
      refine(pX _ _ _).mono ?_
      rintro e W1 ⟨rfl,rfl⟩
      go_wp2_with fail
      refine(tJ _ _ _).mono ?_
      rintro e W1 ⟨rfl,rfl⟩
      go_wp2
      go_roundw
      case rel=>first|exact⟨k+1,_,_,by omega,by go_num,rfl,pY (14-(k:Int)) _ _ _ rfl hf rfl,jQ _ _ _ _,rfl⟩|((repeat apply Exists.intro);exact⟨⟨k+1,_,_,by omega,by go_num,rfl,pY (14-(k:Int)) _ _ _ rfl hf rfl,jQ _ _ _ _,rfl⟩,rfl⟩)
      case measure=>simp[intOf];omega
     ·obtain rfl:k=14:=by omega
      have hc:=hf.trans hs'
      clear hf hs'
      go_wp2_with fail
      go_loopw [4,29] (λp i W=>∃k y' m',k<=10/\i=.int .i64 (k:Nat)/\p=.float .f64 y'/\fb y'=fb (csq c k)/\y'<18446744073709551616/\W=w'.drewN m') (λ_ i _=>10-(intOf i).toNat)
      case atStart=>exact⟨0,_,_,by omega,rfl,rfl,hc,hl,rfl⟩
      case round=>
       obtain⟨k,y'',m'',hk,rfl,rfl,hf,hl,rfl⟩:=hrel
       by_cases hlt10:k<10
       ·go_wp2_with fail
        refine(oW _ _ _).mono ?_
        rintro e W1 ⟨rfl,rfl⟩
        go_wp2
        go_roundw
        case rel=>first|exact⟨k+1,_,_,by omega,by go_num,rfl,sd hf rfl,jQ _ _ _ _,rfl⟩|((repeat apply Exists.intro);exact⟨⟨k+1,_,_,by omega,by go_num,rfl,sd hf rfl,jQ _ _ _ _,rfl⟩,rfl⟩)
        case measure=>simp[intOf];omega
       ·go_wp2
        go_ret
        exact⟨_,rfl,by rw[hf,show k=10 by omega],hl,_,rfl⟩
   ·simp only[Bool.false_eq_true,if_false,if_true]
    go_enter Tryz.func106,Tryz.ntmps106
    go_wp2_with fail
    refine(nH _ _).mono ?_
    rintro e w' ⟨rfl,rfl⟩
    go_wp2
    go_ret
    exact⟨_,rfl,rfl,by omega,0,rfl⟩
  ·simp only[Bool.false_eq_true,if_false,if_true]
   go_enter Tryz.func106,Tryz.ntmps106
   go_wp2_with fail
   refine(nH _ _).mono ?_
   rintro e w' ⟨rfl,rfl⟩
   go_wp2_with fail
   refine(zY _).mono ?_
   rintro e w' ⟨rfl,rfl⟩
   go_wp2
   go_ret
   exact⟨_,rfl,rfl,by omega,0,rfl⟩
 ·simp only[if_true]
  go_enter Tryz.func106,Tryz.ntmps106
  go_wp2_with fail
  refine(nH _ _).mono ?_
  rintro e w' ⟨rfl,rfl⟩
  go_wp2
  go_ret
  exact⟨_,rfl,rfl,hx,0,rfl⟩
end Go.Proofs.YtnlffngpnoodkaaGreat
