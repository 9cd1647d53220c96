import Derived.Test.YtdpbpcnldpkljaaGreatP06
namespace Go.Proofs.Z
open Tryz
set_option maxRecDepth 1000000
set_option maxHeartbeats 0
open Go.RowKit Flt
attribute [local go_sem] eD eB eA
variable {p:Nat->Bool} {vs:List Vl} {k:Nat}
def eX:List Vl->Int
 |[]=>0
 |v::vs=>v.len+eX vs
def okG (ins:List Int)(vs:List Vl)(outs:List Int):Bool:=
 decide (ins.length<=20/\vs.length<=2000/\outs.length<=50)&&(ins.all lenB&&((List.range vs.length).all (okV ins vs)&&(outs.all (fC · vs.length)&&decide (eX vs<=50000))))
theorem ml (xs:List Vl)(v:Vl):eX (xs++[v])=eX xs+v.len:=by
 induction xs with
 |nil=>simp[eX]
 |cons y ys ih=>simp[eX,ih];omega
theorem j4 (hk:k<vs.length):eX (vs.take (k+1))=eX (vs.take k)+(vs.getD k Vl.zero).len:=by
 rw[yat hk,ml,yah,yal hk];rfl
theorem kP (h:(List.range k).all p=true)(t:p k=true):(List.range (k+1)).all p=true:=by
 rw[List.range_succ,List.all_append,h];simpa using t
theorem lW {n:Nat}(hk:k<n)(t:p k=false):(List.range n).all p=false:=by
 rw[List.all_eq_false]
 exact⟨k,List.mem_range.2 hk,by simpa using t⟩
theorem il {ins:List Int}{i:Nat}(h:okV ins vs i=true):1<=(vs.getD i Vl.zero).len/\(vs.getD i Vl.zero).len<=1000:=by
 unfold okV at h
 rw[Bool.and_eq_true,Bool.and_eq_true] at h
 exact of_decide_eq_true h.1.1
structure G0 (W:World)(p:Nat)(b0 b1 b2:Value):Prop where
 sz:p<W.heap.size
 q0:W.cell? ⟨p,0,none⟩=some b0
 q1:W.cell? ⟨p,1,none⟩=some b1
 q2:W.cell? ⟨p,2,none⟩=some b2
theorem G0.keep {W W':World}{p:Nat}{b0 b1 b2:Value}(t:G0 W p b0 b1 b2)(k:Kept 0 0 W W'):G0 W' p b0 b1 b2:=
 ⟨yaj t.sz k.size,jN k t.sz t.q0,jN k t.sz t.q1,jN k t.sz t.q2⟩
theorem fE (w:World)(b0 b1 b2:Value):G0 (w.alloc (.cells #[b0,b1,b2] 26)) w.heap.size b0 b1 b2:=by
 refine⟨?_,?_,?_,?_⟩
 all_goals first|(go_simp;done)|(simp;done)
theorem rC (w:World)(a1 a2 a3:Option Addr)(n1 c1 n2 c2 n3 c3:Nat)(ins:List Int)(vs:List Vl)(outs:List Int)(f:GS w a1 n1 a2 n2 a3 n3 ins vs outs)(h1:n1<=20)(h2:n2<=2000)(h3:n3<=50):
  Calls prog 32 #[eR a1 n1 c1 a2 n2 c2 a3 n3 c3] w λe w'=>e=.returned (.bool (ins.all lenB&&((List.range n2).all (okV ins vs)&&(outs.all (fC · n2)&&decide (eX vs<=50000)))))/\Kept 0 0 w w':=by
 have hK:Hid _:=ez 0 0 w (eP a1 n1 c1 a2 n2 c2 a3 n3 c3)
 have hB:=fE w (.slice a1 n1 c1) (.slice a2 n2 c2) (.slice a3 n3 c3)
 have HF:Hid _:=f.keep hK.out
 have HL1:Hid (ins.length=n1):=f.i.len
 have HL2:Hid (vs.length=n2):=f.v.len
 have HL3:Hid (outs.length=n3):=f.o.len
 clear f
 go_enter func32,ntmps32
 go_wp2_with fail
 generalize hw1:w.alloc (.cells #[.slice a1 n1 c1,.slice a2 n2 c2,.slice a3 n3 c3] 26)=w1 at hK hB HF ⊢
 clear hw1
 go_loop [29] (λi=>∃k:Nat,k<=n1/\i=.int .i64 k/\Hid ((ins.take k).all lenB=true)) (λi=>n1-(intOf i).toNat)
 case atStart=>exact⟨0,Nat.zero_le _,rfl,rfl⟩
 case round=>
  obtain⟨k,hk,rfl,hA⟩:=hrel
  by_cases hlt:k<n1
  ·rcases HF.out.i.at_ with z0|⟨ga,oa,ea,z1,z2,z3,z4⟩
   ·omega
   have c:=z4 k hlt
   subst ea
   clear z1 z2 z3 z4
   cases hx:lenB (ins.getD k 0)
   ·have R:Hid (ins.all lenB=false):=lz (by rw[HL1.out];exact hlt) hx
    have hI:Hid (∀w,Calls prog 59 #[.int .i64 (ins.getD k 0)] w λe w'=>e=.returned (.bool false)/\w'=w):=λw=>by
     have:=gO (ins.getD k 0) w
     rw[hx] at this
     exact this
    generalize ins.getD k 0=y at c hI
    clear hx hA
    go_wp2_with ((go_at_call 59;refine(hI.out _).mono ?_;rintro e w2 ⟨rfl,rfl⟩))
    go_ret
    exact⟨by rw[R.out];rfl,hK.out⟩
   ·have R:Hid _:=kx (p:=lenB) (by rw[HL1.out];exact hlt) hA.out hx
    have hI:Hid (∀w,Calls prog 59 #[.int .i64 (ins.getD k 0)] w λe w'=>e=.returned (.bool true)/\w'=w):=λw=>by
     have:=gO (ins.getD k 0) w
     rw[hx] at this
     exact this
    generalize ins.getD k 0=y at c hI
    clear hx hA
    go_wp2_with ((go_at_call 59;refine(hI.out _).mono ?_;rintro e w2 ⟨rfl,rfl⟩))
    exact xdt
  ·have R1:Hid (ins.all lenB=true):=by
    have:=hA.out
    rw[yao (by rw[HL1.out];omega)] at this
    exact this
   clear hA
   have q1:=hB.q1
   go_wp2_with fail
   clear q1
   go_loopw [5,40] (λc i W=>∃k:Nat,k<=n2/\i=.int .i64 k/\c=.int .i64 (eX (vs.take k))/\Hid (0<=eX (vs.take k)/\eX (vs.take k)<=1000*k)/\Hid ((List.range k).all (okV ins vs)=true)/\Kept 0 0 w1 W) (λ_ i _=>n2-(intOf i).toNat)
   case atStart=>exact⟨0,Nat.zero_le _,rfl,rfl,by constructor<;>simp[eX],rfl,Kept.refl _ _ _⟩
   case round=>
    obtain⟨k2,hk2,rfl,rfl,hb,hA,hKW⟩:=hrel
    by_cases hlt2:k2<n2
    ·rcases HF.out.v.at_ with z0|⟨ga,oa,ea,z1,z2,z3,z4⟩
     ·omega
     have hat:=(z4 k2 hlt2).keep z3 hKW yaa
     have HX:Hid _:=λo=>yY (wr.alloc o) a1 a2 a3 n1 c1 n2 c2 n3 c3 k2 ins vs outs (HF.out.keep (hKW.trans (ez 0 0 wr o))) hlt2
     have HKW:Hid _:=hKW
     have HST:Hid _:=j4 (vs:=vs) (k:=k2) (by rw[HL2.out];exact hlt2)
     clear z1 z2 z3 z4 hKW
     cases hx:okV ins vs k2
     ·have R:Hid ((List.range n2).all (okV ins vs)=false):=lW hlt2 hx
      rw[hx] at HX
      generalize vs.getD k2 Vl.zero=v at hat HST
      obtain⟨e0,e1,e2,e3,e4,e5⟩:=hat
      obtain⟨_,q0,q1,q2⟩:=hB.keep (HKW.out.trans (ez 0 0 wr (fX v.op v.len v.a v.b v.c v.k)))
      clear hx hA HST
      subst ea
      go_wp2_with ((go_at_call 60;refine(HX.out _).mono ?_;rintro e w2 ⟨rfl,hk9⟩))
      go_ret
      exact⟨by rw[R1.out,R.out];rfl,((hK.out.trans HKW.out).trans (ez 0 0 _ _)).trans hk9⟩
     ·have R:Hid _:=kP hA.out hx
      have hlv:Hid _:=il hx
      rw[hx] at HX
      generalize vs.getD k2 Vl.zero=v at hat HST hlv
      obtain⟨e0,e1,e2,e3,e4,e5⟩:=hat
      obtain⟨_,q0,q1,q2⟩:=hB.keep (HKW.out.trans (ez 0 0 wr (fX v.op v.len v.a v.b v.c v.k)))
      clear hx hA
      subst ea
      go_wp2_with fail
      refine(HX.out _).mono ?_
      rintro e w2 ⟨rfl,hk9⟩
      have hbx:w2.cell? ⟨wr.heap.size,1,none⟩=some (.int .i64 v.len):=jN hk9 xac xac
      have R2:Hid _:=(HKW.out.trans (ez 0 0 _ _)).trans hk9
      clear hk9 q0 q1 q2 e0 e1 e2 e3 e4 e5
      have hs1:-1000000000<=eX (vs.take k2)+v.len:=by have:=hb.out;have:=hlv.out;omega
      have hs2:eX (vs.take k2)+v.len<=1000000000:=by have:=hb.out;have:=hlv.out;omega
      have HH:Hid (0<=eX (vs.take (k2+1))/\eX (vs.take (k2+1))<=1000*((k2+1:Nat):Int)):=by
       exact xjl
      generalize hcc:eX (vs.take k2)=cc at hs1 hs2 HST
      clear hb hcc
      go_wp2
      go_roundw
      case rel=>exact⟨k2+1,by omega,by go_num,by rw[HST.out],HH,R,R2.out⟩
      case measure=>simp[intOf];omega
    ·have R2:Hid ((List.range n2).all (okV ins vs)=true):=by
      have:=hA.out
      rw[show k2=n2 by omega] at this
      exact this
     have R3:Hid (eX (vs.take k2)=eX vs):=by
      show eX (vs.take k2)=eX vs
      rw[yao (by rw[HL2.out];omega)]
     have hB2:=hB.keep hKW
     have HF2:Hid _:=HF.out.keep hKW
     have HKW:Hid _:=hK.out.trans hKW
     have q1:=hB2.q1
     have q2:=hB2.q2
     clear hA hKW
     go_wp2_with fail
     go_loop [57] (λi=>∃k:Nat,k<=n3/\i=.int .i64 k/\Hid ((outs.take k).all (fC · n2)=true)) (λi=>n3-(intOf i).toNat)
     case atStart=>exact⟨0,Nat.zero_le _,rfl,rfl⟩
     case round=>
      obtain⟨k3,hk3,rfl,hA⟩:=hrel
      by_cases hlt3:k3<n3
      ·rcases HF2.out.o.at_ with z0|⟨ga,oa,ea,z1,z2,z3,z4⟩
       ·omega
       have c:=z4 k3 hlt3
       subst ea
       clear z1 z2 z3 z4
       cases hx:fC (outs.getD k3 0) n2
       ·have R:Hid (outs.all (fC · n2)=false):=lz (by rw[HL3.out];exact hlt3) hx
        have hI:Hid (∀w,Calls prog 61 #[.int .i64 (outs.getD k3 0),.int .i64 (n2:Int)] w λe w'=>e=.returned (.bool false)/\w'=w):=λw=>by
         have:=gI (outs.getD k3 0) n2 w
         rw[hx] at this
         exact this
        generalize outs.getD k3 0=y at c hI
        clear hx hA
        go_wp2_with ((go_at_call 61;refine(hI.out _).mono ?_;rintro e w2 ⟨rfl,rfl⟩))
        go_ret
        exact⟨by rw[R1.out,R2.out,R.out];rfl,HKW.out⟩
       ·have R:Hid _:=kx (p:=(fC · n2)) (by rw[HL3.out];exact hlt3) hA.out hx
        have hI:Hid (∀w,Calls prog 61 #[.int .i64 (outs.getD k3 0),.int .i64 (n2:Int)] w λe w'=>e=.returned (.bool true)/\w'=w):=λw=>by
         have:=gI (outs.getD k3 0) n2 w
         rw[hx] at this
         exact this
        generalize outs.getD k3 0=y at c hI
        clear hx hA
        go_wp2_with ((go_at_call 61;refine(hI.out _).mono ?_;rintro e w2 ⟨rfl,rfl⟩))
        go_round
        case rel=>exact⟨k3+1,by omega,by go_num,R⟩
        case measure=>simp[intOf];omega
      ·have R4:Hid (outs.all (fC · n2)=true):=by
        exact xis
       clear hA
       go_wp2
       go_ret
       exact⟨by rw[R1.out,R2.out,R4.out,<-R3.out];rfl,HKW.out⟩
theorem oy (w:World)(a1 a2 a3:Option Addr)(n1 c1 n2 c2 n3 c3:Nat)(h:¬(n1<=20/\n2<=2000/\n3<=50)):
  Calls prog 32 #[eR a1 n1 c1 a2 n2 c2 a3 n3 c3] w λe w'=>e=.returned (.bool false)/\Kept 0 0 w w':=by
 by_cases h1:n1<=20
 ·by_cases h2:n2<=2000
  ·have h3:50<n3:=xaa
   clear h
   go_enter func32,ntmps32
   go_wp2
   go_ret
   exact⟨rfl,ez _ _ _ _⟩
  ·have h3:2000<n2:=xaa
   clear h h2
   exact xim
 ·have h3:20<n1:=xaa
  clear h h1
  exact xim
theorem xq (w:World)(a1 a2 a3:Option Addr)(n1 c1 n2 c2 n3 c3:Nat)(ins:List Int)(vs:List Vl)(outs:List Int)(f:GS w a1 n1 a2 n2 a3 n3 ins vs outs):
  Calls prog 32 #[eR a1 n1 c1 a2 n2 c2 a3 n3 c3] w λe w'=>e=.returned (.bool (okG ins vs outs))/\Kept 0 0 w w':=by
 unfold okG
 rw[f.i.len,f.v.len,f.o.len]
 by_cases h:n1<=20/\n2<=2000/\n3<=50
 ·rw[decide_eq_true h,Bool.true_and]
  exact rC w a1 a2 a3 n1 c1 n2 c2 n3 c3 ins vs outs f h.1 h.2.1 h.2.2
 ·rw[yax h,Bool.false_and]
  exact oy w a1 a2 a3 n1 c1 n2 c2 n3 c3 h
