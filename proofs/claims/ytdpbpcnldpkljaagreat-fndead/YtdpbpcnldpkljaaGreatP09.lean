import Derived.Test.YtdpbpcnldpkljaaGreatP07
import Derived.Test.YtdpbpcnldpkljaaGreatP05
namespace Go.Proofs.Z
open Tryz
set_option maxRecDepth 1000000
set_option maxHeartbeats 0
open Go.RowKit Flt
attribute [local go_sem] eD eB eA
def fld (v:Vl)(k:Nat):Int:=if k=0 then v.a else if k=1 then v.b else v.c
theorem kR (w:World)(v:Vl)(k:Nat)(hk:k<3):
  Calls prog 37 #[v.agg,.int .i64 (k:Int)] w λe w'=>e=.returned (.int .i64 (fld v k))/\Kept 0 0 w w':=by
 rcases (by omega:k=0\/k=1\/k=2) with rfl|rfl|rfl
 all_goals
  go_enter func37,ntmps37
  go_wp2
  go_ret
  exact⟨rfl,ez _ _ _ _⟩
theorem uL (w:World)(lo hi:Nat)(a:Option Addr)(n cap:Nat)(xs:List Int)(f:IS w lo hi a n xs)(hn:n<=20):
  Calls prog 14 #[.slice a n cap] w λe w'=>e=.returned (.bool (xs.all lenB))/\Kept 0 0 w w':=by
 have HF:Hid _:=f
 have HL:Hid (xs.length=n):=f.len
 clear f
 go_enter func14,ntmps14
 go_wp2_with fail
 go_loop [3] (λi=>∃k:Nat,k<=n/\i=.int .i64 k/\Hid ((xs.take k).all lenB=true)) (λi=>n-(intOf i).toNat)
 case atStart=>exact⟨0,Nat.zero_le _,rfl,rfl⟩
 case round=>
  obtain⟨k,hk,rfl,hA⟩:=hrel
  by_cases hlt:k<n
  ·rcases HF.out.at_ with z0|⟨ga,oa,ea,z1,z2,z3,z4⟩
   ·omega
   have c:=z4 k hlt
   subst ea
   clear z1 z2 z3 z4
   cases hx:lenB (xs.getD k 0)
   ·have R:Hid (xs.all lenB=false):=lz (by rw[HL.out];exact hlt) hx
    have hx':¬(1<=xs.getD k 0/\xs.getD k 0<=1000):=of_decide_eq_false hx
    generalize xs.getD k 0=y at c hx'
    clear hx hA
    by_cases hy:y<1
    ·exact xjo
    ·have hy2:1000<y:=xaa
     exact xjo
   ·have R:Hid _:=kx (p:=lenB) (by rw[HL.out];exact hlt) hA.out hx
    have hx':1<=xs.getD k 0/\xs.getD k 0<=1000:=of_decide_eq_true hx
    generalize xs.getD k 0=y at c hx'
    obtain⟨hx1,hx2⟩:=hx'
    clear hx hA
    exact xeu
  ·have R:Hid (xs.all lenB=true):=by
    exact xix
   clear hA
   go_wp2
   go_ret
   exact⟨by rw[R.out];rfl,Kept.refl _ _ _⟩
theorem qf (w:World)(a:Option Addr)(n cap:Nat)(hn:20<n):
  Calls prog 14 #[.slice a n cap] w λe w'=>e=.returned (.bool false)/\Kept 0 0 w w':=by
 go_enter func14,ntmps14
 go_wp2
 go_ret
 exact⟨rfl,Kept.refl _ _ _⟩
theorem v7 (w:World)(lo hi:Nat)(a:Option Addr)(n cap:Nat)(xs:List Int)(f:IS w lo hi a n xs):
  Calls prog 14 #[.slice a n cap] w λe w'=>e=.returned (.bool (decide (n<=20)&&xs.all lenB))/\Kept 0 0 w w':=by
 by_cases h:n<=20
 ·rw[decide_eq_true h,Bool.true_and]
  exact uL w lo hi a n cap xs f h
 ·rw[yax h,Bool.false_and]
  exact qf w a n cap xaa
theorem v8 (w:World)(a1 a2 a3:Option Addr)(n1 c1 n2 c2 n3 c3:Nat)(ins:List Int)(vs:List Vl)(outs:List Int)(f:GS w a1 n1 a2 n2 a3 n3 ins vs outs)(h2:n2<=2000)(hl:∀k,k<n2->1<=(vs.getD k Vl.zero).len/\(vs.getD k Vl.zero).len<=1000):
  Calls prog 16 #[eR a1 n1 c1 a2 n2 c2 a3 n3 c3] w λe w'=>e=.returned (.int .i64 (eX vs))/\Kept 0 0 w w':=by
 have hK:=ez 0 0 w (eP a1 n1 c1 a2 n2 c2 a3 n3 c3)
 have hB:=fE w (.slice a1 n1 c1) (.slice a2 n2 c2) (.slice a3 n3 c3)
 have HF:Hid _:=f.keep hK
 have HL:Hid (vs.length=n2):=f.v.len
 have HV:Hid _:=hl
 clear f hl hK
 go_enter func16,ntmps16
 go_wp2_with fail
 go_loop [3,4] (λc i=>∃k:Nat,k<=n2/\i=.int .i64 k/\c=.int .i64 (eX (vs.take k))/\Hid (0<=eX (vs.take k)/\eX (vs.take k)<=1000*k)) (λ_ i=>n2-(intOf i).toNat)
 case atStart=>exact⟨0,Nat.zero_le _,rfl,rfl,by constructor<;>simp[eX]⟩
 case round=>
  obtain⟨k,hk,rfl,rfl,hb⟩:=hrel
  by_cases hlt:k<n2
  ·rcases HF.out.v.at_ with z0|⟨ga,oa,ea,z1,z2,z3,z4⟩
   ·omega
   have c:=(z4 k hlt).c1
   have HST:Hid _:=j4 (vs:=vs) (k:=k) (by rw[HL.out];exact hlt)
   have hlv:Hid _:=HV.out k hlt
   subst ea
   clear z1 z2 z3 z4
   generalize vs.getD k Vl.zero=v at c HST hlv
   have hs1:-1000000000<=eX (vs.take k)+v.len:=by have:=hb.out;have:=hlv.out;omega
   have hs2:eX (vs.take k)+v.len<=1000000000:=by have:=hb.out;have:=hlv.out;omega
   have HH:Hid (0<=eX (vs.take (k+1))/\eX (vs.take (k+1))<=1000*((k+1:Nat):Int)):=by
    exact xjl
   generalize hcc:eX (vs.take k)=cc at hs1 hs2 HST
   clear hb hcc
   go_wp2
   go_round
   case rel=>exact⟨k+1,by omega,by go_num,by rw[HST.out],HH⟩
   case measure=>simp[intOf];omega
  ·have R:Hid (eX (vs.take k)=eX vs):=by
    show eX (vs.take k)=eX vs
    rw[yao (by rw[HL.out];omega)]
   clear hb
   go_wp2
   go_ret
   exact⟨by rw[<-R.out];rfl,ez _ _ _ _⟩
theorem xr (w:World)(a1 a3:Option Addr)(n1 c1 n2 c2 n3 c3 g2 o2 i:Nat)(v:Vl)(hg:g2<w.heap.size)(hi:i<n2)(hat:At w g2 (o2+i*6) v)(hl:¬(0<=v.op/\v.op<=13/\1<=v.len/\v.len<=1000)):
  Calls prog 15 #[eR a1 n1 c1 (some ⟨g2,o2,none⟩) n2 c2 a3 n3 c3,.int .i64 (i:Int)] w λe w'=>e=.returned (.bool false)/\Kept 0 0 w w':=by
 have hK:=ez 0 0 w (eP a1 n1 c1 (some ⟨g2,o2,none⟩) n2 c2 a3 n3 c3)
 obtain⟨e0,e1,e2,e3,e4,e5⟩:=hat.keep hg hK yaa
 clear hat hK
 rcases (by omega:v.op<0\/(0<=v.op/\13<v.op)\/((0<=v.op/\v.op<=13)/\v.len<1)\/((0<=v.op/\v.op<=13)/\1<=v.len/\1000<v.len)) with h|⟨h,h'⟩|⟨⟨h,h'⟩,h''⟩|⟨⟨h,h'⟩,h'',h'''⟩
 all_goals
  clear hl
  go_enter func15,ntmps15
  go_wp2
  go_ret
  exact⟨rfl,(ez 0 0 w _).trans (ez 0 0 _ _)⟩
theorem sX (w:World)(a1 a3:Option Addr)(n1 cc1 n2 c2 n3 c3 g2 o2 i:Nat)(len A B C:Int)(K:Nat)(ins:List Int)(f:IS w 0 w.heap.size a1 n1 ins)(hg:g2<w.heap.size)(hi:i<n2)(hat:At w g2 (o2+i*6) ⟨0,len,A,B,C,K⟩)(hl1:1<=len)(hl2:len<=1000):
  Calls prog 15 #[eR a1 n1 cc1 (some ⟨g2,o2,none⟩) n2 c2 a3 n3 c3,.int .i64 (i:Int)] w λe w'=>e=.returned (.bool (((fC A n1&&len==ins.getD A.toNat 0)&&B==0)&&C==0))/\Kept 0 0 w w':=by
 have hK:=ez 0 0 w (eP a1 n1 cc1 (some ⟨g2,o2,none⟩) n2 c2 a3 n3 c3)
 obtain⟨e0,e1,e2,e3,e4,e5⟩:=hat.keep hg hK yaa
 have hK2:=hK.trans (ez 0 0 _ (fX 0 len A B C K))
 have hB:=mQ w (.slice a1 n1 cc1) (.slice (some ⟨g2,o2,none⟩) n2 c2) (.slice a3 n3 c3) ⟨0,len,A,B,C,K⟩
 clear hat hK
 simp only at e0 e1 e2 e3 e4 e5
 obtain⟨_,q0,q1,q2,vt⟩:=hB
 obtain⟨d0,d1,d2,d3,d4,d5⟩:=vt
 simp only at d0 d1 d2 d3 d4 d5
 have HK2:Hid _:=hK2
 by_cases hA:0<=A/\A<n1
 ·obtain⟨j,rfl⟩:∃j:Nat,A=j:=⟨A.toNat,by omega⟩
  rw[show fC (j:Int) n1=true from decide_eq_true hA,Bool.true_and,Int.toNat_natCast]
  have hj:j<n1:=xaa
  clear hA
  rcases f.at_ with h0|⟨g1,o1,rfl,b1,b2,b3,b4⟩
  ·omega
  have c1:=jN hK2 b3 (b4 j hj)
  clear b4 f b1 b2 hK2
  generalize ins.getD j 0=y at c1 ⊢
  have j0:(0:Int)<=(j:Int):=xaa
  have j1:(j:Int)<(n1:Int):=xaa
  cases t1:(len==y)<;>cases t2:(B==0)<;>cases t3:(C==0)
  all_goals
   go_enter func15,ntmps15
   go_wp2_with fail
   generalize hwq:(w.alloc (eP (some ⟨g1,o1,none⟩) n1 cc1 (some ⟨g2,o2,none⟩) n2 c2 a3 n3 c3)).alloc (fX 0 len j B C K)=wq at HK2 c1 q0 q1 q2 d0 d1 d2 d3 d4 d5 ⊢
   clear hwq
   go_quiet (fail)
   go_wp2
   go_ret
   exact⟨rfl,HK2.out.trans (eK 0 0 _ _)⟩
 ·rw[show fC A n1=false from yax hA]
  simp only[Bool.false_and]
  clear hK2 f
  rcases (by omega:A<0\/(0<=A/\(n1:Int)<=A)) with h|⟨h,h'⟩
  ·have t1:decide (0<=A)=false:=yax xaa
   exact xeq
  ·have t1:decide (0<=A)=true:=decide_eq_true h
   have t2:decide (A<(n1:Int))=false:=yax xaa
   exact xeq
