import Derived.Test.YtkjahdegnkmejaaGreatP04
import Derived.Test.YtkjahdegnkmejaaGreatP03
namespace Go.Proofs.Z
open Tryz
set_option maxRecDepth 1000000
set_option maxHeartbeats 0
open Go.RowKit Flt
attribute[local go_sem] eE eC eB
def fld(v:Vl)(k:Nat):Int:=if k=0 then v.a else if k=1 then v.b else v.c
theorem mW(w v)(k:Nat)(J:k<3):
  Calls prog 91 #[v.agg,ih k] w λe O=>e=.returned (ih (fld v k))/\Kept 0 0 w O:=by
 rcases (by omega:k=0\/k=1\/k=2) with rfl|rfl|rfl
 all_goals
  go_enter func91,ntmps91
  go_wp2
  go_ret
  exact⟨rfl,eA _ _ _ _⟩
theorem AD(w lo hi a n cap xs)(f:IS w lo hi a n xs)(hn:n<=20):
  Calls prog 43 #[.slice a n cap] w λe O=>e=.returned (.bool (xs.all lenB))/\Kept 0 0 w O:=by
 have aO:V _:=f;have HL:V (xs.length=n):=f.len;clear f;go_enter func43,ntmps43;go_wp2_with fail;go_loop [3] (λi=>∃k:Nat,k<=n/\i=ih k/\V ((xs.take k).all lenB=true)) (λi=>n-(intOf i).toNat)
 case atStart=>exact⟨0,yae,rfl,rfl⟩
 case round=>
  obtain⟨k,J,rfl,bl⟩:=hrel;by_cases aY:k<n
  ·rcases aO.o.at_ with bX|⟨b4,z,bU,aV,bg,bq,bB⟩
   ·omega
   have c:=bB k aY;subst bU;clear aV bg bq bB;cases aH:lenB (xs.getD k 0)
   ·have H:V (xs.all lenB=false):=sP (jn HL.o aY) aH;have am:¬(1<=xs.getD k 0/\xs.getD k 0<=1000):=of_decide_eq_false aH;generalize xs.getD k 0=y at c am;clear aH bl;by_cases bK:y<1
    ·exact xjn
    have eP:1000<y:=xaa;exact xjn
   have H:V _:=qN (p:=lenB) (jn HL.o aY) bl.o aH;have am:1<=xs.getD k 0/\xs.getD k 0<=1000:=of_decide_eq_true aH;generalize xs.getD k 0=y at c am;obtain⟨ca,bZ⟩:=am;clear aH bl;exact xda
  have H:V (xs.all lenB=true):=by
   exact xis
  clear bl;go_wp2;go_ret;exact⟨jL H.o,Kept.refl _ _ _⟩
theorem uu(w a n cap)(hn:20<n):
  Calls prog 43 #[.slice a n cap] w λe O=>e=.returned (.bool false)/\Kept 0 0 w O:=by
 go_enter func43,ntmps43;go_wp2;go_ret;exact⟨rfl,Kept.refl _ _ _⟩
theorem rV(w lo hi a n cap xs)(f:IS w lo hi a n xs):
  Calls prog 43 #[.slice a n cap] w λe O=>e=.returned (.bool (decide (n<=20)&&xs.all lenB))/\Kept 0 0 w O:=by
 by_cases h:n<=20
 ·rw[decide_eq_true h,Bool.true_and];exact AD w lo hi a n cap xs f h
 rw[yay h,Bool.false_and];exact uu w a n cap xaa
theorem Bx(w a1 K a3 Y c1 ae c2 aa c3 ins vs outs)(f:GS w a1 Y K ae a3 aa ins vs outs)(N:ae<=2000)(ag:∀k,k<ae->1<=(vs.getD k i0).len/\(vs.getD k i0).len<=1000):
  Calls prog 68 #[eX a1 Y c1 K ae c2 a3 aa c3] w λe O=>e=.returned (ih (eY vs))/\Kept 0 0 w O:=by
 have aS:=eA 0 0 w (fB a1 Y c1 K ae c2 a3 aa c3);have aZ:=ib w (.slice a1 Y c1) (.slice K ae c2) (.slice a3 aa c3);have aO:V _:=f.keep aS;have HL:V _:=f.v.len;have b2:V _:=ag;clear f ag aS;go_enter func68,ntmps68;go_wp2_with fail;go_loop [3,4] (λc i=>∃k:Nat,k<=ae/\i=ih k/\c=ih (eY (vs.take k))/\V (0<=eY (vs.take k)/\eY (vs.take k)<=1000*k)) (λ_ i=>ae-(intOf i).toNat)
 case atStart=>exact⟨0,yae,rfl,rfl,by constructor<;>simp[eY]⟩
 case round=>
  obtain⟨k,J,rfl,rfl,hb⟩:=hrel;by_cases aY:k<ae
  ·rcases aO.o.v.at_ with bX|⟨b4,z,bU,aV,bg,bq,bB⟩
   ·omega
   have c:=(bB k aY).c1;have bO:V _:=nT (jn HL.o aY);have bM:V _:=b2.o k aY;subst bU;clear aV bg bq bB;generalize vs.getD k _=v at c bO bM;have cN:-1000000000<=eY (vs.take k)+v.len:=jj hb.o bM.o
   have cb:eY (vs.take k)+v.len<=1000000000:=jj hb.o bM.o
   have aT:V (0<=eY (vs.take (k+1))/\eY (vs.take (k+1))<=1000*(k+1:Nat)):=by
    have ca:=hb.o;have a2:=bM.o;have aB:=bO.o;constructor<;>omega
   generalize l:eY _=az at cN cb bO;clear hb l;go_wp2;go_round
   case rel=>exact⟨k+1,by omega,by go_num,by rw[bO.o],aT⟩
   case measure=>simp[intOf];omega
  have H:V (eY (vs.take k)=eY vs):=by
   show eY (vs.take k)=eY vs;rw[yap (jx HL.o)]
  clear hb;go_wp2;go_ret;exact⟨by rw[<-H.o];rfl,eA _ _ _ _⟩
