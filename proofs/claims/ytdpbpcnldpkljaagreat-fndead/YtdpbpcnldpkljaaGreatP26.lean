import Derived.Test.YtdpbpcnldpkljaaGreatP25
import Derived.Test.YtdpbpcnldpkljaaGreatP13
namespace Go.Proofs.Z
open Tryz
set_option maxRecDepth 1000000
set_option maxHeartbeats 0
section
open Go.RowKit Flt
variable {X t p r j P n cap i h:Nat} {s:Bool} {w w':World} {a:Option Addr} {bs:List Int}
abbrev eE (l:List UInt8):Value:=.string ⟨l.toArray⟩
theorem pC (a b:List UInt8):(⟨a.toArray⟩:ByteArray)++⟨b.toArray⟩=⟨(a++b).toArray⟩:=by
 apply ByteArray.ext
 simp
def f4 (n:Nat):List UInt8:=if n<10 then[UInt8.ofNat (48+n)] else f4 (n/10)++f4 (n%10)
termination_by n
decreasing_by all_goals omega
theorem iW (n:Nat):(f4 n).length<=n+1:=by
 rw[f4]
 split
 ·simp
 ·rw[yak]
  have h1:=iW (n/10)
  have h2:(f4 (n%10)).length=1:=by rw[f4,if_pos xaa];rfl
  omega
termination_by n
decreasing_by all_goals omega
theorem fQ (l:List UInt8):(⟨l.toArray⟩:ByteArray).size=l.length:=by simp[ByteArray.size]
theorem CB:∀k:Fin 10,({data:=#[48,49,50,51,52,53,54,55,56,57]}:ByteArray).extract k.1 (k.1+1)=⟨#[UInt8.ofNat (48+k.1)]⟩:=by decide+kernel
theorem qF (n:Nat)(hn:n<10)(w:World):Calls prog 47 #[.int .i64 (n:Int)] w λe w'=>e=.returned (eE (f4 n))/\w'=w:=by
 have hd:f4 n=[UInt8.ofNat (48+n)]:=by rw[f4,if_pos hn]
 have hx:({data:=#[48,49,50,51,52,53,54,55,56,57]}:ByteArray).extract n (n+1)=⟨(f4 n).toArray⟩:=by rw[hd];exact CB ⟨n,hn⟩
 unfold eE
 generalize (⟨(f4 n).toArray⟩:ByteArray)=sd at hx
 have t1:(n:Int)<10:=xaa
 have t2:IntKind.i64.wrap ((n:Int)+1)=(n:Int)+1:=by rw[IntKind.wrap_i64];omega
 have t3:(0:Int)<=(n:Int):=xaa
 clear hd
 go_enter func47,ntmps47
 go_wp2
 go_ret
 exact⟨rfl,rfl⟩
theorem tJ:∀(N n:Nat),n<=N->n<=1000000->∀w:World,Calls prog 47 #[.int .i64 (n:Int)] w λe w'=>e=.returned (eE (f4 n))/\w'=w:=by
 intro N
 induction N with
 |zero=>
  intro n h _ w
  exact qF n xaa w
 |succ N ih=>
  intro n h hb w
  by_cases hn:n<10
  ·exact qF n hn w
  ·have hd:f4 n=f4 (n/10)++f4 (n%10):=by rw[f4,if_neg hn]
   have H1:Hid (∀w:World,Calls prog 47 #[.int .i64 ((n:Int)/10)] w λe w'=>e=.returned (eE (f4 (n/10)))/\w'=w):=ih (n/10) xaa xaa
   have H2:Hid (∀w:World,Calls prog 47 #[.int .i64 ((n:Int)%10)] w λe w'=>e=.returned (eE (f4 (n%10)))/\w'=w):=ih (n%10) xaa xaa
   have t1:¬((n:Int)<10):=xaa
   unfold eE at H1 H2 ⊢
   rw[hd,<-pC]
   have hz:¬(9223372036854775807<(⟨(f4 (n/10)).toArray⟩:ByteArray).size+(⟨(f4 (n%10)).toArray⟩:ByteArray).size):=by
    rw[fQ,fQ]
    have:=iW (n/10)
    have:=iW (n%10)
    omega
   generalize (⟨(f4 (n/10)).toArray⟩:ByteArray)=a at H1 hz
   generalize (⟨(f4 (n%10)).toArray⟩:ByteArray)=b at H2 hz
   clear ih hd
   go_enter func47,ntmps47
   go_wp2_with fail
   refine yai (H1.out w) ?_
   rintro e w1 ⟨rfl,rfl⟩
   go_wp2_with fail
   refine yai (H2.out w1) ?_
   rintro e w2 ⟨rfl,rfl⟩
   go_wp2_with fail
   go_ret
   exact⟨rfl,rfl⟩
structure RdF (w:World)(P:Nat)(a:Option Addr)(n cap i:Nat)(bs:List Int):Prop where
 lt:P<w.heap.size
 c0:w.cell? ⟨P,0,none⟩=some (.slice a n cap)
 c1:w.cell? ⟨P,1,none⟩=some (.int .i64 (i:Int))
 fz:w.frozen? ⟨P,1,none⟩=false
 hi:i<=n
 small:n<=500
 ys:YS w a n bs
 ne:0<n->∀g off,a=some ⟨g,off,none⟩->g<P
theorem zR {xs:List Int}(f:YS w a n xs)(k:Kept P h w w')(ne:0<n->∀g off,a=some ⟨g,off,none⟩->g<P):YS w' a n xs:=
 ⟨f.len,f.lt,f.at_.imp id λ⟨g,off,e,h3,h4⟩=>⟨g,off,e,yaj h3 k.size,λj hj=>by rw[k.cell (p:=⟨g,off+j,none⟩) h3 (by have:=ne xaa g off e;show ¬(P<=g/\g<h);omega)];exact h4 j hj⟩⟩
theorem RdF.keep {l:Nat}(f:RdF w P a n cap i bs)(k:Kept l h w w')(hd:P<l\/h<=l):RdF w' P a n cap i bs where
 lt:=yaj f.lt k.size
 c0:=by rw[k.cell (p:=⟨P,0,none⟩) f.lt (by show ¬(l<=P/\P<h);omega)];exact f.c0
 c1:=by rw[k.cell (p:=⟨P,1,none⟩) f.lt (by show ¬(l<=P/\P<h);omega)];exact f.c1
 fz:=by rw[k.frozen (p:=⟨P,1,none⟩) f.lt (by show ¬(l<=P/\P<h);omega)];exact f.fz
 hi:=f.hi
 small:=f.small
 ys:=⟨f.ys.len,f.ys.lt,f.ys.at_.imp id λ⟨g,off,e,h3,h4⟩=>⟨g,off,e,yaj h3 k.size,λj hj=>by rw[k.cell (p:=⟨g,off+j,none⟩) h3 (by have:=f.ne xaa g off e;show ¬(l<=g/\g<h);omega)];exact h4 j hj⟩⟩
 ne:=f.ne
def nv (bs:List Int)(i:Nat):Nat:=(bs.getD i 0).toNat
def ni (bs:List Int)(i:Nat):Nat:=if i<bs.length then i+1 else i
theorem fw (f:YS w a n bs)(i:Nat):nv bs i<256:=by
 unfold nv
 by_cases h:i<bs.length
 ·have:=f.lt _ (List.getElem_mem h)
  rw[yah,yal h]
  show(bs[i]).toNat<256
  omega
 ·rw[yah,List.getElem?_eq_none xaa]
  decide
theorem CC (f:RdF w P a n cap i bs)(hi:i<n):
  RdF (w.setCell ⟨P,1,none⟩ (.int .i64 ((i:Int)+1))) P a n cap (i+1) bs/\Kept P (P+1) w (w.setCell ⟨P,1,none⟩ (.int .i64 ((i:Int)+1)))/\(w.setCell ⟨P,1,none⟩ (.int .i64 ((i:Int)+1))).heap.size=w.heap.size:=by
 have kk:Kept P (P+1) w (w.setCell ⟨P,1,none⟩ (.int .i64 ((i:Int)+1))):=eL w ⟨P,1,none⟩ _ yac
 exact⟨⟨by simpa using f.lt,by rw[World.cell?_setCell_other (h:=by simp)];exact f.c0,by rw[World.cell?_setCell_same (h:=f.c1)];rfl,by rw[World.frozen?_setCell];exact f.fz,hi,f.small,zR f.ys kk f.ne,f.ne⟩,kk,by simp⟩
theorem iu (w:World)(P:Nat)(a:Option Addr)(n cap i:Nat)(bs:List Int)(f:RdF w P a n cap i bs):
  Calls prog 19 #[.pointer (some ⟨P,0,none⟩)] w λe w'=>e=.returned (.int .i64 (nv bs i:Int))/\RdF w' P a n cap (ni bs i) bs/\Kept P (P+1) w w'/\w'.heap.size=w.heap.size:=by
 have h0:=f.c0
 have h1:=f.c1
 have hn:=f.small
 have hl:=f.ys.len
 by_cases hi:i<n
 ·have h2:=f.fz
  obtain⟨B,off,rfl,hB,hx⟩:∃B off,a=some ⟨B,off,none⟩/\B<w.heap.size/\w.cell? ⟨B,off+i,none⟩=some (.int .u8 (bs.getD i 0)):=by
   rcases f.ys.at_ with q|⟨g,off,e,h3,h4⟩
   ·omega
   ·exact⟨g,off,e,h3,h4 i hi⟩
  have hb:0<=bs.getD i 0/\bs.getD i 0<256:=by
   rw[yah,yal xaa]
   exact f.ys.lt _ (List.getElem_mem _)
  obtain⟨hx0,hx1⟩:=hb
  have hv:(nv bs i:Int)=bs.getD i 0:=by unfold nv;omega
  have hni:ni bs i=i+1:=by unfold ni;rw[if_pos xaa]
  have HF:Hid _:=f
  rw[hv,hni]
  generalize bs.getD i 0=x at hx hx0 hx1 hv
  clear f hv hni hB
  go_enter func19,ntmps19
  go_wp2
  go_quiet (fail)
  go_wp2
  go_quiet (fail)
  go_wp2
  go_ret
  have k0:=eK P (P+1) w
  obtain⟨r1,r2,r3⟩:=CC (HF.out.keep (eK 0 0 w _) yab) hi
  exact⟨rfl,r1,(k0 _).trans r2,r3⟩
 ·have hv:(nv bs i:Int)=0:=by
   unfold nv
   rw[yah,List.getElem?_eq_none xaa]
   rfl
  have hni:ni bs i=i:=by unfold ni;rw[if_neg xaa]
  have HF:Hid _:=f
  rw[hv,hni]
  have hi:n<=i:=xaa
  clear f hv hni
  go_enter func19,ntmps19
  go_wp2
  go_quiet (fail)
  go_wp2
  go_ret
  exact⟨rfl,HF.out.keep (eK 0 0 _ _) yab,eK _ _ _ _,rfl⟩
theorem qG {q:Nat}(hq:0<q)(ht:t<4503599627370496):val (q*4503599627370496+t)=(4503599627370496+t)*p2 (q-1):=by
 rw[nu]
 have e1:M (q*4503599627370496+t)=4503599627370496+t:=by unfold M;rw[if_neg xaa];omega
 have e2:E (q*4503599627370496+t)=q-1:=by unfold E;omega
 rw[e1,e2]
theorem H4:p2 52=4503599627370496:=xab
theorem H7 {a b:Nat}(h:a<=b):p2 a<=p2 b:=ku h
theorem H8 (ht:t<4503599627370496)(k:Nat):t*p2 k<p2 (52+k):=by
 rw[jM,H4];exact Nat.mul_lt_mul_of_pos_right ht (yK k)
theorem FW (t:Nat)(ht:t<4503599627370496)(k:Nat)(hk:k<=2046):∃r,val r=t*p2 k/\r<9218868437227405312:=by
 obtain⟨r,hr⟩:=rep t xaa k
 refine⟨r,hr,uF ?_⟩
 rw[hr]
 exact yaj (H8 ht k) (H7 xaa)
theorem CD (h:dbl p<9218868437227405312)(w:World):
  (binOp .mul 33 (.float .f64 (W false p)) (.float .f64 4611686018427387904)).run prog w=.ok (.float .f64 (W false (dbl p))) w:=
 run_float_arith w .mul 33 .f64 (W false p) 4611686018427387904 (W false (dbl p)) (BZ (s:=false) h)
theorem CE (h:4503599627370496<=p):dbl p=p+4503599627370496:=by unfold dbl;rw[if_neg xaa]
theorem tK (t:Nat)(ht:t<4503599627370496):∃p,val p=t*p2 1074/\p<9218868437227405312/\floatOfInt .f64 (t:Int)=W false p:=by
 obtain⟨p,hp,hl⟩:=FW t ht 1074 xaa
 refine⟨p,hp,hl,?_⟩
 unfold floatOfInt FloatKind.nearest FloatKind.encode
 show Ieee.double.write _=_
 simp only[Ieee.Format.write,Int.natAbs_natCast]
 rw[show decide ((t:Int)<0)=false from yax xaa]
 exact jw false t 0 p 1074 0 hl (by rw[hp,show p2 0=1 from rfl,Nat.mul_one]) xaa
theorem jR (t:Nat)(ht:t<4503599627370496):∃p,val p=t*p2 1022/\p<9218868437227405312/\∀w,(binOp .quo 33 (.float .f64 (floatOfInt .f64 (t:Int))) (.float .f64 4841369599423283200)).run prog w=.ok (.float .f64 (W false p)) w:=by
 obtain⟨p0,hp0,hl0,he⟩:=tK t ht
 obtain⟨p,hp,hl⟩:=FW t ht 1022 xaa
 refine⟨p,hp,hl,λw=>run_float_arith w .quo 33 .f64 _ _ _ ?_⟩
 rw[he]
 show Ieee.double.div (W false p0) (W false 4841369599423283200)=_
 rw[ql (p:=p) hl0 xaa hl Hm]
 ·rfl
 ·rw[hp0,hp,Hn,<-jM,Nat.mul_assoc,Nat.mul_assoc,<-jM,<-jM]
theorem tL (t p:Nat)(ht:t<4503599627370496)(hp:val p=t*p2 1022)(hl:p<9218868437227405312)(w:World):
  (binOp .add 33 (.float .f64 4607182418800017408) (.float .f64 (W false p))).run prog w=.ok (.float .f64 (W false (t+4607182418800017408))) w:=by
 refine run_float_arith w .add 33 .f64 _ _ _ ?_
 show Ieee.double.add (W false 4607182418800017408) (W false p)=_
 refine xe xaa hl xaa ?_ (λh=>rfl)
 have a:=qG (q:=1023) xaa ht
 have b:=qG (q:=1023) (t:=0) xaa xaa
 rw[show 1023*4503599627370496+t=t+4607182418800017408 by omega] at a
 rw[show 1023*4503599627370496+0=4607182418800017408 by omega] at b
 rw[a,b,hp]
 simp only[sg,Bool.false_eq_true,if_false]
 rw[Nat.add_zero,show 1023-1=1022 from rfl,Nat.add_mul]
 omega
def up (X j:Nat):Nat:=X+j*4503599627370496
def dn (X j:Nat):Nat:=X-j*4503599627370496
theorem FX (h0:4503599627370496<=X)(h:up X (j+1)<9218868437227405312)(w:World):
  (binOp .mul 33 (.float .f64 (W false (up X j))) (.float .f64 4611686018427387904)).run prog w=.ok (.float .f64 (W false (up X (j+1)))) w:=by
 have e:dbl (up X j)=up X (j+1):=by
  rw[CE (by unfold up;omega)]
  unfold up
  rw[Nat.succ_mul,Nat.add_assoc]
 rw[<-e]
 exact CD (by rw[e];exact h) w
theorem FY (h0:9007199254740992<=dn X j)(h:X<9218868437227405312)(w:World):
  (binOp .quo 33 (.float .f64 (W false (dn X j))) (.float .f64 4611686018427387904)).run prog w=.ok (.float .f64 (W false (dn X (j+1)))) w:=by
 have e:dn X j-4503599627370496=dn X (j+1):=by
  unfold dn
  rw[Nat.succ_mul,Nat.sub_add_eq]
 rw[<-e]
 refine run_float_arith w .quo 33 .f64 _ 4611686018427387904 _ (vT (s:=false) ?_ (yL h0))
 have:dn X j<=X:=Nat.sub_le _ _
 omega
theorem mY (r:Nat)(h:r<9223372036854775808)(w:World):(Op.unary .neg (.float .f64 (W false r))).run prog w=.ok (.float .f64 (W true r)) w:=by
 have:Op.negFloat FloatKind.f64 (W false r)=W true r:=EG false h
 rw[<-this];rfl
def mZ (s:Bool)(r:Nat)(w:World)(e:Ending)(w':World):Prop:=e=.returned (.float .f64 (W s r))/\w'=w
theorem rZ (s:Bool)(b q t:Nat)(w:World)(hq:(b:Int)/4503599627370496%2048=(q:Int))(ht:(b:Int)%4503599627370496=(t:Int))
  (hs:if s then 9223372036854775808<=(b:Int) else (b:Int)<9223372036854775808) (hb:b<18446744073709551616)
  (hq1:1023<q) (hq2:q<=2046) (ht0:t<4503599627370496):
  Calls prog 81 #[.int .u64 (b:Int)] w λe w'=>mZ s (up (t+4607182418800017408) (q-1023)) w e w':=by
 obtain⟨p,hp,hl,hrun1⟩:=jR t ht0
 have hrun2:=tL t p ht0 hp hl
 have hX:4503599627370496<=t+4607182418800017408:=xaa
 have hmax:up (t+4607182418800017408) (q-1023)<9218868437227405312:=by unfold up;omega
 have hmono:∀j,j<=q-1023->up (t+4607182418800017408) j<=up (t+4607182418800017408) (q-1023):=λj hj=>by unfold up;exact Nat.add_le_add_left (Nat.mul_le_mul_right _ hj) _
 have hstep:∀j,j<q-1023->∀w,(binOp .mul 33 (.float .f64 (W false (up (t+4607182418800017408) j))) (.float .f64 4611686018427387904)).run prog w=.ok (.float .f64 (W false (up (t+4607182418800017408) (j+1)))) w:=
  λj hj=>FX hX (Nat.lt_of_le_of_lt (hmono (j+1) hj) hmax)
 have h0:t+4607182418800017408=up (t+4607182418800017408) 0:=by unfold up;omega
 have hneg:=mY (up (t+4607182418800017408) (q-1023)) xaa
 clear hp hl hX hmax hmono
 generalize t+4607182418800017408=X at*
 have H0:Hid (X=up X 0):=h0
 have HS:Hid (∀j,j<q-1023->∀w,(binOp .mul 33 (.float .f64 (W false (up X j))) (.float .f64 4611686018427387904)).run prog w=.ok (.float .f64 (W false (up X (j+1)))) w):=hstep
 have HN:Hid (∀w,(Op.unary .neg (.float .f64 (W false (up X (q-1023))))).run prog w=.ok (.float .f64 (W true (up X (q-1023)))) w):=hneg
 clear h0 hstep hneg
 have hq3:((q:Int)==2047)=false:=yam xaa
 go_enter func81,ntmps81
 go_wp2_with fail
 clear hrun1 hrun2 hq ht ht0
 go_loop [5,3] (λv e=>∃j:Nat,j<=q-1023/\v=.float .f64 (W false (up X j))/\e=.int .i64 ((q:Int)-j)) (λ_ e=>(intOf e).toNat)
 case atStart=>exact⟨0,by omega,by rw[<-H0.out],by simp⟩
 case round=>
  obtain⟨j,hj,rfl,rfl⟩:=hrel
  by_cases hc:j<q-1023
  ·exact xhj
  ·obtain rfl:j=q-1023:=xaa
   have hrun:=HN.out
   clear hc hj
   have hj2:((q-1023:Nat):Int)=(q:Int)-1023:=xaa
   rw[hj2]
   clear hj2
   go_wp2_with fail
   go_loop [5,3] (λv e=>v=.float .f64 (W false (up X (q-1023)))/\e=.int .i64 1023) (λ_ e=>0)
   case atStart=>exact⟨rfl,by congr 1;omega⟩
   case round=>
    obtain⟨rfl,rfl⟩:=hrel
    clear hb hq1 hq2
    cases s
    ·have hs':(b:Int)<9223372036854775808:=hs
     have hs2:decide (9223372036854775808<=(b:Int))=false:=yax xaa
     clear hs hs'
     go_wp2
     go_ret
     exact⟨rfl,rfl⟩
    ·have hs':9223372036854775808<=(b:Int):=hs
     have hs2:decide (9223372036854775808<=(b:Int))=true:=decide_eq_true xaa
     clear hs hs'
     go_wp2
     go_ret
     exact⟨rfl,rfl⟩
theorem r5 (s:Bool)(b q t:Nat)(w:World)(hq:(b:Int)/4503599627370496%2048=(q:Int))(ht:(b:Int)%4503599627370496=(t:Int))
  (hs:if s then 9223372036854775808<=(b:Int) else (b:Int)<9223372036854775808) (hb:b<18446744073709551616)
  (hq1:1<=q) (hq2:q<=1023) (ht0:t<4503599627370496):
  Calls prog 81 #[.int .u64 (b:Int)] w λe w'=>mZ s (dn (t+4607182418800017408) (1023-q)) w e w':=by
 obtain⟨p,hp,hl,hrun1⟩:=jR t ht0
 have hrun2:=tL t p ht0 hp hl
 have hstep:∀j,j<1023-q->∀w,(binOp .quo 33 (.float .f64 (W false (dn (t+4607182418800017408) j))) (.float .f64 4611686018427387904)).run prog w=.ok (.float .f64 (W false (dn (t+4607182418800017408) (j+1)))) w:=
  λj hj=>FY (by
   unfold dn
   have:j*4503599627370496<=1021*4503599627370496:=Nat.mul_le_mul_right _ xaa
   omega) xaa
 have h0:t+4607182418800017408=dn (t+4607182418800017408) 0:=by unfold dn;omega
 have hneg:=mY (dn (t+4607182418800017408) (1023-q)) (by have:dn (t+4607182418800017408) (1023-q)<=t+4607182418800017408:=Nat.sub_le _ _;omega)
 clear hp hl
 generalize t+4607182418800017408=X at*
 have H0:Hid (X=dn X 0):=h0
 have HS:Hid (∀j,j<1023-q->∀w,(binOp .quo 33 (.float .f64 (W false (dn X j))) (.float .f64 4611686018427387904)).run prog w=.ok (.float .f64 (W false (dn X (j+1)))) w):=hstep
 have HN:Hid (∀w,(Op.unary .neg (.float .f64 (W false (dn X (1023-q))))).run prog w=.ok (.float .f64 (W true (dn X (1023-q)))) w):=hneg
 clear h0 hstep hneg
 have hq3:((q:Int)==2047)=false:=yam xaa
 go_enter func81,ntmps81
 go_wp2_with fail
 clear hrun1 hrun2 hq ht ht0 hb
 go_loop [5,3] (λv e=>v=.float .f64 (W false X)/\e=.int .i64 (q:Int)) (λ_ e=>0)
 case atStart=>exact⟨rfl,rfl⟩
 case round=>
  obtain⟨rfl,rfl⟩:=hrel
  go_wp2_with fail
  go_loop [5,3] (λv e=>∃j:Nat,j<=1023-q/\v=.float .f64 (W false (dn X j))/\e=.int .i64 ((q:Int)+j)) (λ_ e=>1023-(intOf e).toNat)
  case atStart=>exact⟨0,by omega,by rw[<-H0.out],by simp⟩
  case round=>
   obtain⟨j,hj,rfl,rfl⟩:=hrel
   by_cases hc:j<1023-q
   ·exact xhj
   ·obtain rfl:j=1023-q:=xaa
    have hrun:=HN.out
    have hj2:((1023-q:Nat):Int)=1023-(q:Int):=xaa
    rw[hj2]
    clear hj2 hc hj
    exact xdp
theorem zS {k:Nat}(h:val p=t*p2 (k+1))(hp:p<9218868437227405312)(ht:t<4503599627370496)(hk:k<=1022):
  ∃p',val p'=t*p2 k/\p'<9218868437227405312/\∀w,(binOp .quo 33 (.float .f64 (W false p)) (.float .f64 4611686018427387904)).run prog w=.ok (.float .f64 (W false p')) w:=by
 obtain⟨p',hp',hl⟩:=FW t ht k xaa
 refine⟨p',hp',hl,λw=>run_float_arith w .quo 33 .f64 _ 4611686018427387904 _ (vT (s:=false) hp ?_)⟩
 rw[h,hp',rj]
 exact Nat.mul_left_comm _ _ _
theorem r6 (s:Bool)(b t:Nat)(w:World)(hq:(b:Int)/4503599627370496%2048=0)(ht:(b:Int)%4503599627370496=(t:Int))
  (hs:if s then 9223372036854775808<=(b:Int) else (b:Int)<9223372036854775808) (hb:b<18446744073709551616) (ht0:t<4503599627370496):
  Calls prog 81 #[.int .u64 (b:Int)] w λe w'=>mZ s t w e w':=by
 obtain⟨p,hp,hl,hrun1⟩:=jR t ht0
 have HN:Hid (∀w,(Op.unary .neg (.float .f64 (W false t))).run prog w=.ok (.float .f64 (W true t)) w):=mY t xaa
 have HP:Hid (val p=t*p2 1022):=hp
 have HT:Hid (t<4503599627370496):=ht0
 have HL:Hid (p<9218868437227405312):=hl
 clear hp hl
 go_enter func81,ntmps81
 go_wp2_with fail
 clear hrun1 hq ht ht0 hb
 go_loop [5,3] (λv e=>v=.float .f64 (W false p)/\e=.int .i64 1) (λ_ e=>0)
 case atStart=>exact⟨rfl,rfl⟩
 case round=>
  obtain⟨rfl,rfl⟩:=hrel
  go_wp2_with fail
  go_loop [5,3] (λv e=>∃j p':Nat,j<=1022/\Hid (val p'=t*p2 (1022-j))/\Hid (p'<9218868437227405312)/\v=.float .f64 (W false p')/\e=.int .i64 (1+(j:Int))) (λ_ e=>1023-(intOf e).toNat)
  case atStart=>exact⟨0,p,by omega,HP,HL,rfl,rfl⟩
  case round=>
   obtain⟨j,p',hj,hv,hl',rfl,rfl⟩:=hrel
   by_cases hc:j<1022
   ·obtain⟨pn,hvn,hln,hrun⟩:=zS (k:=1022-(j+1)) (by rw[hv.out,show 1022-(j+1)+1=1022-j by omega]) hl'.out HT.out xaa
    have HVN:Hid (val pn=t*p2 (1022-(j+1))):=hvn
    have HLN:Hid (pn<9218868437227405312):=hln
    clear hvn hln
    go_wp2
    go_round
    case rel=>exact⟨j+1,pn,by omega,HVN,HLN,rfl,by go_num⟩
    case measure=>simp[intOf];omega
   ·obtain rfl:j=1022:=xaa
    have hpt:p'=t:=by
     have:=hv.out
     rw[show 1022-1022=0 from rfl,show p2 0=1 from rfl,Nat.mul_one] at this
     refine oD (this.trans (lS ?_).symm)
     have:=HT.out
     omega
    have hrun:=HN.out
    rw[hpt]
    clear hc hj hpt
    exact xdp
theorem r7 (s:Bool)(b:Nat)(w:World)(hq:(b:Int)/4503599627370496%2048=2047)(ht:(b:Int)%4503599627370496=0)
  (hs:if s then 9223372036854775808<=(b:Int) else (b:Int)<9223372036854775808) (hb:b<18446744073709551616):
  Calls prog 81 #[.int .u64 (b:Int)] w λe w'=>mZ s 9218868437227405312 w e w':=by
 obtain⟨p,hp,hl,hrun1⟩:=jR 0 xaa
 have hp0:p=0:=oD (by rw[hp,Nat.zero_mul,jh])
 subst hp0
 rw[show((0:Nat):Int)=0 from rfl] at hrun1
 have h1:FloatKind.f64.format.order (W false 0) 0=some .eq:=jy
 have h2:=rz
 have HN:=mY 9218868437227405312 xaa
 rw[show W false 9218868437227405312=9218868437227405312 from rfl] at HN
 clear hp hl
 cases s
 ·have hs':(b:Int)<9223372036854775808:=hs
  have hs2:decide (9223372036854775808<=(b:Int))=false:=yax xaa
  exact xjb
 ·have hs':9223372036854775808<=(b:Int):=hs
  have hs2:decide (9223372036854775808<=(b:Int))=true:=decide_eq_true xaa
  exact xjb
theorem r8 (b t:Nat)(w:World)(hq:(b:Int)/4503599627370496%2048=2047)(ht:(b:Int)%4503599627370496=(t:Int))(ht0:t<4503599627370496)(ht1:0<t)(hb:b<18446744073709551616):
  Calls prog 81 #[.int .u64 (b:Int)] w λe w'=>∃y,e=.returned (.float .f64 y)/\fb y=9221120237041090560/\y<18446744073709551616/\∃m,w'=w.drewN m:=by
 obtain⟨p,hp,hl,hrun1⟩:=jR t ht0
 have hp0:0<p:=by
  rcases Nat.eq_zero_or_pos p with h|h
  ·rw[h,jh] at hp
   have:=Nat.mul_pos ht1 (yK 1022)
   omega
  ·exact h
 have h1:(FloatKind.f64.format.order (W false p) 0 !=some .eq)=true:=by
  rw[show FloatKind.f64.format.order (W false p) 0=_ from mO hp0 xaa];rfl
 have h2:(binOp .quo 33 (.float .f64 0) (.float .f64 0)).run prog w=_:=mP w 33 0 0
 clear hp hl ht0 ht1 hp0
 go_enter func81,ntmps81
 go_wp2
 go_ret
 refine⟨_,rfl,?_,kO _ _ _ _,_,rfl⟩
 rw[yP]
 decide
theorem vm (s:Bool)(r:Nat):W s r=if s then r+9223372036854775808 else r:=by unfold W;rw[Nat.add_comm]
theorem H9 (h:r<9223372036854775808):((W s r:Nat):Int)/4503599627370496%2048=((r/4503599627370496:Nat):Int):=by
 rw[vm];split<;>omega
theorem Ia (_h:r<9223372036854775808):((W s r:Nat):Int)%4503599627370496=((r%4503599627370496:Nat):Int):=by
 rw[vm];split<;>omega
theorem Ib (h:r<9223372036854775808):if s then 9223372036854775808<=((W s r:Nat):Int) else ((W s r:Nat):Int)<9223372036854775808:=by
 rw[vm];cases s
 ·simp only[Bool.false_eq_true,if_false];omega
 ·simp only[if_true];omega
theorem FZ (h:1023<r/4503599627370496):up (r%4503599627370496+4607182418800017408) (r/4503599627370496-1023)=r:=by
 unfold up;omega
theorem F1 (h:1<=r/4503599627370496)(h':r/4503599627370496<=1023):dn (r%4503599627370496+4607182418800017408) (1023-r/4503599627370496)=r:=by
 unfold dn;omega
theorem l4 {f:FuncId}{args:Array Value}(hr:r<9223372036854775808)(h:Calls prog f args w λe w'=>mZ s r w e w'):
  Calls prog f args w λe w'=>∃y,e=.returned (.float .f64 y)/\fb y=fb (W s r)/\y<18446744073709551616/\∃m,w'=w.drewN m:=
 h.mono λ_ _ k=>⟨W s r,k.1,rfl,BX hr,0,k.2⟩
theorem tO (b:Nat)(w:World)(hb:b<18446744073709551616):
  Calls prog 81 #[.int .u64 (b:Int)] w λe w'=>∃y,e=.returned (.float .f64 y)/\fb y=fb b/\y<18446744073709551616/\∃m,w'=w.drewN m:=by
 obtain⟨s,r,hr,rfl⟩:=kM b hb
 have hq:=H9 (s:=s) hr
 have ht:=Ia (s:=s) hr
 have hs:=Ib (s:=s) hr
 have ht0:r%4503599627370496<4503599627370496:=Nat.mod_lt _ xaa
 rcases Nat.lt_or_ge 1023 (r/4503599627370496) with h1|h1
 ·rcases Nat.lt_or_ge 2046 (r/4503599627370496) with h2|h2
  ·have hq2:r/4503599627370496=2047:=xaa
   rw[hq2] at hq
   rcases Nat.eq_zero_or_pos (r%4503599627370496) with h3|h3
   ·rw[h3] at ht
    have hrr:r=9218868437227405312:=xaa
    have:=l4 xaa (r7 s _ w hq ht hs hb)
    rw[<-hrr] at this
    exact this
   ·rw[oY xaa hr]
    exact r8 _ _ w hq ht ht0 h3 hb
  ·have:=rZ s _ _ _ w hq ht hs hb h1 h2 ht0
   rw[FZ h1] at this
   exact l4 hr this
 ·rcases Nat.eq_zero_or_pos (r/4503599627370496) with h2|h2
  ·rw[h2] at hq
   have hrr:r%4503599627370496=r:=xaa
   have:=r6 s _ _ w hq ht hs hb ht0
   rw[hrr] at this
   exact l4 hr this
  ·have:=r5 s _ _ _ w hq ht hs hb h2 h1 ht0
   rw[F1 h2 h1] at this
   exact l4 hr this
end
section
open Go.RowKit Flt
attribute [local go_sem] eD eB
theorem tP (b:Nat)(w:World):(Op.unary .neg (.float .f64 b)).run prog w=.ok (.float .f64 (Op.negFloat .f64 b)) w:=rfl
theorem zT {b:Nat}(h:b<18446744073709551616):Op.negFloat .f64 b<18446744073709551616:=by
 obtain⟨s,r,hr,rfl⟩:=kM b h
 rw[EG s hr];exact BX hr
theorem pD (n:Int):floatOfInt .f64 n<18446744073709551616:=by
 have:=floatOfInt_wf .f64 n
 simpa[Lit.wf] using this
theorem jE (n:Int):IntKind.u64.wrap n<18446744073709551616:=by rw[IntKind.wrap_u64];omega
theorem F3 (a b:Int)(h1:0<=a)(h2:a<18446744073709551616)(h3:0<=b)(h4:b<18446744073709551616):∃n:Nat,bits .or .u64 a b=(n:Int)/\n<18446744073709551616:=by
 refine⟨_,u64_or a b h1 h2 h3 h4,?_⟩
 have:a.toNat|||b.toNat<2 ^ 64:=Nat.or_lt_two_pow xaa xaa
 simpa using this
theorem CF (x:Nat):x%16<6\/(6<=x%16/\x%16<9)\/x%16=9\/x%16=10\/x%16=11\/x%16=12\/x%16=13\/x%16=14\/x%16=15:=xaa
theorem oN {S:Nat->Prop}(w W':World)(xs:Array Value)(T:TypeId)(k:Chg S (w.alloc (.cells xs T)) W')(hS:¬S w.heap.size):(∀o,W'.cell? ⟨w.heap.size,o,none⟩=xs[o]?)/\(∀o,W'.frozen? ⟨w.heap.size,o,none⟩=false)/\w.heap.size<W'.heap.size:=by
 have h1:w.heap.size<(w.alloc (.cells xs T)).heap.size:=by simp
 refine⟨λo=>?_,λo=>?_,yaj h1 k.size⟩
 ·rw[k.cell h1 hS,yau]
 ·rw[k.frozen h1 hS]
  simp[World.frozen?,World.alloc,-World.alloc_eq]
theorem wk (w:World)(a:Option Addr)(n m cap:Nat)(xs:List Int)(h:YS w a n xs)(hm:m<=n)(hm':m<=500)(hx:(xs.take 500).length=m)(T:TypeId):
  RdF (w.alloc (.cells #[.slice a m cap,.int .i64 0] T)) w.heap.size a m cap 0 (xs.take 500):=by
 have hb:=oN (S:=λ_=>False) w _ #[.slice a m cap,.int .i64 0] T (Kept.refl 0 0 _).chg (λc=>c)
 refine⟨hb.2.2,hb.1 0,hb.1 1,hb.2.1 1,Nat.zero_le _,hm',⟨hx,λx q=>h.lt x (List.mem_of_mem_take q),?_⟩,?_⟩
 ·rcases h.at_ with q|⟨g,off,e,h3,h4⟩
  ·exact .inl xaa
  ·refine .inr ⟨g,off,e,yaj h3 (ez 0 0 w _).size,λk hk=>?_⟩
   rw[(ez 0 0 w _).cell (p:=⟨g,off+k,none⟩) h3 xaa,h4 k xaa]
   rw[yah,yah,List.getElem?_take,if_pos xaa]
 ·intro h0 g off e
  rcases h.at_ with q|⟨g',off',e',h3,h4⟩
  ·omega
  ·rw[e] at e'
   injection e' with e'
   injection e' with e1
   omega
theorem F4 (w:World)(a:Option Addr)(n cap:Nat)(xs:List Int)(h:YS w a n xs)(hc:n<=cap):
  Calls prog 9 #[.slice a n cap] w λe w'=>e=.returned (.pointer (some ⟨w.heap.size,0,none⟩))/\(∃m,RdF w' w.heap.size a m cap 0 (xs.take 500))/\Kept 0 0 w w':=by
 have hl:=h.len
 by_cases hn:n<=500
 ·have H:Hid _:=wk w a n n cap xs h yad hn (by rw[List.length_take];omega) 50
  have HK:Hid _:=ez 0 0 w (.cells #[.slice a n cap,.int .i64 0] 50)
  clear h
  go_enter func9,ntmps9
  go_wp2
  go_ret
  exact⟨rfl,⟨n,H.out⟩,HK.out⟩
 ·obtain⟨x,rfl⟩:∃x,a=some x:=by
   rcases h.at_ with q|⟨g,off,e,_⟩
   ·omega
   ·exact⟨_,e⟩
  have H:Hid _:=wk w (some x) n 500 cap xs h xaa yad (by rw[List.length_take];omega) 50
  have HK:Hid _:=ez 0 0 w (.cells #[.slice (some x) 500 cap,.int .i64 0] 50)
  have hc2:500<=cap:=xaa
  have hn:500<n:=xaa
  clear h
  go_enter func9,ntmps9
  go_wp2
  go_ret
  exact⟨rfl,⟨500,H.out⟩,HK.out⟩
def niN (bs:List Int)(i:Nat):Nat->Nat
 |0=>i
 |k+1=>ni bs (niN bs i k)
def dfI (bs:List Int)(i:Nat):Nat:=if nv bs i%16=10 then ni bs (ni bs i) else if 14<=nv bs i%16 then niN bs (ni bs i) 8 else ni bs i
def DfO (P:Nat)(a:Option Addr)(n cap i:Nat)(bs:List Int)(w:World)(e:Ending)(w':World):Prop:=∃z,e=.returned (.float .f64 z)/\z<18446744073709551616/\RdF w' P a n cap i bs/\Kept P (P+1) w w'
theorem RdF.drw {w:World}{P:Nat}{a:Option Addr}{n cap i:Nat}{bs:List Int}(f:RdF w P a n cap i bs)(m:Nat):RdF (w.drewN m) P a n cap i bs:=f.keep (eK 0 0 w m) yab
theorem F5 (w:World)(P:Nat)(a:Option Addr)(n cap i:Nat)(bs:List Int)(h:RdF w P a n cap i bs):
  Calls prog 49 #[.pointer (some ⟨P,0,none⟩)] w (DfO P a n cap (dfI bs i) bs w):=by
 have hx:=fw h.ys i
 have HN:Hid _:=iu w P a n cap i bs h
 have HD:Hid (dfI bs i=if nv bs i%16=10 then ni bs (ni bs i) else if 14<=nv bs i%16 then niN bs (ni bs i) 8 else ni bs i):=rfl
 generalize dfI bs i=di at HD ⊢
 generalize nv bs i=x at HN HD hx
 unfold DfO
 have f1:=@mP prog
 have f2:=@yR prog
 have f3:=tP
 clear h
 go_enter func49,ntmps49
 go_wp2_with fail
 refine yai HN.out ?_
 rintro e w1 ⟨rfl,h1,hb1,hz1⟩
 clear hz1 HN
 have HP:Hid (x%16≠10->x%16<14->di=ni bs i):=λc d=>by rw[HD.out,if_neg c,if_neg xaa]
 have H10:Hid (x%16=10->di=ni bs (ni bs i)):=λc=>by rw[HD.out,if_pos c]
 have H14:Hid (14<=x%16->di=niN bs (ni bs i) 8):=λc=>by rw[HD.out,if_neg xaa,if_pos c]
 clear HD
 rcases CF x with hk|hk|hk|hk|hk|hk|hk|hk|hk
 ·have hd:=HP.out xaa xaa
  clear HP H10 H14
  subst hd
  have hk':(x:Int)%16<6:=xaa
  clear hk
  go_wp2
  go_ret
  exact⟨_,rfl,pD _,h1,hb1⟩
 ·have hd:=HP.out xaa xaa
  clear HP H10 H14
  subst hd
  have hk':6<=(x:Int)%16:=xaa
  have hk'':(x:Int)%16<9:=xaa
  clear hk
  go_wp2
  go_ret
  exact⟨_,rfl,zT (pD _),h1,hb1⟩
 ·have hd:=HP.out xaa xaa
  clear HP H10 H14
  subst hd
  have hk':(x:Int)%16=9:=xaa
  exact xgd
 ·have hd:=H10.out hk
  clear HP H10 H14
  subst hd
  have hk':(x:Int)%16=10:=xaa
  clear hk
  go_wp2_with fail
  refine(iu _ _ _ _ _ _ _ h1).mono ?_
  rintro e w2 ⟨rfl,h2,hb2,hz2⟩
  clear hz2
  go_wp2
  go_ret
  exact⟨_,rfl,kO _ _ _ _,h2.drw _,hb1.trans (hb2.trans (eK _ _ _ _))⟩
 ·have hd:=HP.out xaa xaa
  clear HP H10 H14
  subst hd
  have hx':x=11\/x=27\/x=43\/x=59\/x=75\/x=91\/x=107\/x=123\/x=139\/x=155\/x=171\/x=187\/x=203\/x=219\/x=235\/x=251:=xaa
  clear hk hx
  rcases hx' with rfl|rfl|rfl|rfl|rfl|rfl|rfl|rfl|rfl|rfl|rfl|rfl|rfl|rfl|rfl|rfl
  all_goals
   go_wp2
   go_ret
   refine⟨_,rfl,?_,(h1.keep (ez 0 0 _ _) yab).drw _,(hb1.trans (ez _ _ _ _)).trans (eK _ _ _ _)⟩
   first|exact kO _ _ _ _|exact zT xaa|omega
 ·have hd:=HP.out xaa xaa
  clear HP H10 H14
  subst hd
  have hk':(x:Int)%16=12:=xaa
  exact xgd
 ·have hd:=HP.out xaa xaa
  clear HP H10 H14
  subst hd
  have hk':(x:Int)%16=13:=xaa
  exact xgd
 ·have hd:=H14.out xaa
  clear HP H10 H14
  have HDi:Hid _:=hd
  clear hd
  have HK:Hid ((x:Int)%16=14):=by show(x:Int)%16=14;omega
  have hk':=HK.out
  clear hk
  go_wp2_with fail
  clear f1 f2 f3 hk' hx
  go_loopw [9,10] (λb t W=>∃(j:Nat) (bv:Int),j<=8/\t=.int .i64 (j:Nat)/\b=.int .u64 bv/\0<=bv/\bv<18446744073709551616/\RdF W P a n cap (niN bs (ni bs i) j) bs/\Kept P (P+1) w W) (λ_ t _=>8-(intOf t).toNat)
  case atStart=>exact⟨0,0,by omega,rfl,rfl,by omega,by omega,h1,hb1⟩
  case round=>
   obtain⟨j,bv,hj,rfl,rfl,hb0,hb2,hR,hB⟩:=hrel
   by_cases hlt:j<8
   ·exact xdo
   ·have hj8:j=8:=xaa
    have hk':=HK.out
    have HB:Hid (0<=bv/\bv<18446744073709551616):=⟨hb0,hb2⟩
    have HR:Hid _:=hR
    rw[hj8] at HR
    clear hb0 hb2 hR hj8 hj
    go_wp2_with fail
    obtain⟨nb,hnb,hlt2⟩:=F3 bv (IntKind.u64.wrap (IntKind.u64.wrap (wrap64 ((x:Int)/16))*576460752303423488)) HB.out.1 HB.out.2 (wrap_u64_nonneg _) (jE _)
    rw[hnb]
    refine(tO nb _ hlt2).mono ?_
    rintro e w2 ⟨y,rfl,hy,hyl,m,rfl⟩
    clear hnb hlt2 hy hk'
    exact xiu
 ·have hd:=H14.out xaa
  clear HP H10 H14
  have HDi:Hid _:=hd
  clear hd
  have HK:Hid ((x:Int)%16=15):=by show(x:Int)%16=15;omega
  have hk':=HK.out
  clear hk
  go_wp2_with fail
  clear f1 f2 f3 hk' hx
  go_loopw [9,10] (λb t W=>∃(j:Nat) (bv:Int),j<=8/\t=.int .i64 (j:Nat)/\b=.int .u64 bv/\0<=bv/\bv<18446744073709551616/\RdF W P a n cap (niN bs (ni bs i) j) bs/\Kept P (P+1) w W) (λ_ t _=>8-(intOf t).toNat)
  case atStart=>exact⟨0,0,by omega,rfl,rfl,by omega,by omega,h1,hb1⟩
  case round=>
   obtain⟨j,bv,hj,rfl,rfl,hb0,hb2,hR,hB⟩:=hrel
   by_cases hlt:j<8
   ·exact xdo
   ·have hj8:j=8:=xaa
    have hk':=HK.out
    have HB:Hid (0<=bv/\bv<18446744073709551616):=⟨hb0,hb2⟩
    have HR:Hid _:=hR
    rw[hj8] at HR
    clear hb0 hb2 hR hj8 hj
    go_wp2_with fail
    obtain⟨nb,hnb⟩:=Int.eq_ofNat_of_zero_le HB.out.1
    have hlt2:nb<18446744073709551616:=by have:=HB.out.2;omega
    rw[hnb]
    clear hnb
    refine(tO nb _ hlt2).mono ?_
    rintro e w2 ⟨y,rfl,hy,hyl,m,rfl⟩
    clear hy hk'
    exact xiu
end
section
open Go.RowKit Flt
attribute [local go_sem] eD eB eA
variable {w W':World} {g p off j B o i:Nat} {s x:List UInt8}
theorem zU {t:List UInt8}{k:Nat}(hk:k<j-i):bt (gJ t i j) k=bt t (i+k):=by
 unfold bt gJ
 exact xhs
def gc (t:List UInt8):List Int:=t.map λb=>(b.toNat:Int)
theorem nK (t:List UInt8)(k:Nat)(h:k<t.length):(gc t).getD k 0=bt t k:=by
 unfold gc bt
 rw[yah,List.getElem?_map,yah,yal h]
 rfl
theorem zV (t:List UInt8):strOfNums (gc t)=⟨t.toArray⟩:=by
 unfold strOfNums gc
 congr 1
 rw[List.map_map]
 congr 1
 conv=>rhs;rw[<-List.map_id t]
 apply List.map_congr_left
 intro b _
 simp
theorem jg {n:Nat}{t:List UInt8}(f:TxS w g off n t)(c:Nat):(convert 22 9 (.slice (some ⟨g,off,none⟩) n c)).run prog w=.ok (eE t) w:=by
 have hb:prog.underlying 5=some (.int .u8):=by kernel_rfl
 have hs:prog.underlying 9=some .string:=by kernel_rfl
 have h:=run_convert_bytes_arg w 22 5 underlying22 hb g off n c (gc t) (by unfold gc;rw[List.length_map];exact f.len) (λk hk=>by rw[nK t k (by rw[f.len];exact hk)];exact f.at_ k hk) 9 hs
 rw[zV] at h
 exact h
theorem TxS.cut {n:Nat}{t:List UInt8}(f:TxS w g off n t)(hj:j<=n):TxS w g (off+i) (j-i) (gJ t i j):=
 ⟨tD (by rw[f.len];exact hj),f.lt,λk hk=>by
  rw[zU hk,Nat.add_assoc]
  exact f.at_ (i+k) xaa⟩
def jp:Array Value:=(keysL.map λl=>eE l).toArray
theorem zW (w:World):Calls prog 104 #[] w λe w'=>e=.returned (.slice (some ⟨w.heap.size,0,none⟩) 15 15)/\w.alloc (.cells jp 9)=w':=by
 go_enter func104,ntmps104
 go_wp2
 go_ret
 exact⟨rfl,rfl⟩
def ik (k:Tok):Value:=.agg #[eE k.sym,.int .i64 (k.pos:Int),eE k.text]
def NxO (w:World)(k:Tok)(j:Nat)(e:Ending)(w':World):Prop:=e=.returned (.tuple #[ik k,.int .i64 (j:Int)])/\Kept 0 0 w w'
structure TB (W:World)(p:Nat)(s:List UInt8)(k:Nat)(x:List UInt8):Prop where
 lt:p<W.heap.size
 c0:W.cell? ⟨p,0,none⟩=some (eE s)
 c1:W.cell? ⟨p,1,none⟩=some (.int .i64 (k:Int))
 c2:W.cell? ⟨p,2,none⟩=some (eE x)
 fr:∀o,W.frozen? ⟨p,o,none⟩=false
theorem TB.keep {W:World}{k:Nat}(h:TB W p s k x)(q:Kept 0 0 W W'):TB W' p s k x:=
 ⟨yaj h.lt q.size,(q.cell (p:=⟨p,0,none⟩) h.lt xaa).trans h.c0,(q.cell (p:=⟨p,1,none⟩) h.lt xaa).trans h.c1,(q.cell (p:=⟨p,2,none⟩) h.lt xaa).trans h.c2,λo=>(q.frozen (p:=⟨p,o,none⟩) h.lt xaa).trans (h.fr o)⟩
theorem TB.sym {W:World}{k:Nat}(h:TB W p s k x)(z:List UInt8):TB (W.setCell ⟨p,0,none⟩ (eE z)) p z k x:=
 ⟨by simpa using h.lt,fR _ _ _ _ _ h.c0,(eW _ _ _ _ _ _ (.inr xaa)).trans h.c1,(eW _ _ _ _ _ _ (.inr xaa)).trans h.c2,λo=>by simp[h.fr o]⟩
theorem TB.text {W:World}{k:Nat}(h:TB W p s k x)(z:List UInt8):TB (W.setCell ⟨p,2,none⟩ (eE z)) p s k z:=
 ⟨by simpa using h.lt,(eW _ _ _ _ _ _ (.inr xaa)).trans h.c0,(eW _ _ _ _ _ _ (.inr xaa)).trans h.c1,fR _ _ _ _ _ h.c2,λo=>by simp[h.fr o]⟩
theorem TB.posn {W:World}{k:Nat}(h:TB W p s k x)(z:Nat):TB (W.setCell ⟨p,1,none⟩ (.int .i64 (z:Int))) p s z x:=
 ⟨by simpa using h.lt,(eW _ _ _ _ _ _ (.inr xaa)).trans h.c0,fR _ _ _ _ _ h.c1,(eW _ _ _ _ _ _ (.inr xaa)).trans h.c2,λo=>by simp[h.fr o]⟩
theorem TB.other {W:World}{q:Nat}{v:Value}{k:Nat}(h:TB W p s k x)(hq:q≠p):TB (W.setCell ⟨q,o,none⟩ v) p s k x:=
 ⟨by simpa using h.lt,(eW _ _ _ _ _ _ (.inl hq)).trans h.c0,(eW _ _ _ _ _ _ (.inl hq)).trans h.c1,(eW _ _ _ _ _ _ (.inl hq)).trans h.c2,λo=>by simp[h.fr o]⟩
theorem gH (w:World)(s:List UInt8)(k:Nat)(x:List UInt8):TB (w.alloc (.cells #[eE s,.int .i64 (k:Int),eE x] 74)) w.heap.size s k x:=
 ⟨by simp,by rw[yau];rfl,by rw[yau];rfl,by rw[yau];rfl,λo=>World.frozen?_alloc_at _ _ w.heap.size o rfl⟩
theorem lG {W:World}(k:Kept 0 0 w W){v:Value}(h:w.heap.size<=p):Kept 0 0 w (W.setCell ⟨p,o,none⟩ v):=
 Chg.kept (S:=λi=>i=p) k ((eL (lo:=p) (hi:=p+1) W ⟨p,o,none⟩ v yac).chg1 rfl) (λi hi=>by omega)
structure NI (w W:World)(s:List UInt8)(k:Nat)(x:List UInt8):Prop where
 r:TB W w.heap.size [] 0 []
 t:TB W (w.heap.size+1) s k x
 k:Kept 0 0 w W
theorem NI.keep {W:World}{k:Nat}(h:NI w W s k x)(q:Kept 0 0 W W'):NI w W' s k x:=⟨h.r.keep q,h.t.keep q,h.k.trans q⟩
theorem NI.sym {W:World}{k:Nat}(h:NI w W s k x)(z:List UInt8):NI w (W.setCell ⟨w.heap.size+1,0,none⟩ (eE z)) z k x:=⟨h.r.other xaa,h.t.sym z,lG h.k xaa⟩
theorem NI.text {W:World}{k:Nat}(h:NI w W s k x)(z:List UInt8):NI w (W.setCell ⟨w.heap.size+1,2,none⟩ (eE z)) s k z:=⟨h.r.other xaa,h.t.text z,lG h.k xaa⟩
theorem vn (w:World)(i:Nat):NI w ((w.alloc (.cells #[eE [],.int .i64 ((0:Nat):Int),eE []] 74)).alloc (.cells #[eE [],.int .i64 (i:Int),eE []] 74)) [] i []:=by
 refine⟨(gH w [] 0 []).keep (ez 0 0 _ _),?_,(ez 0 0 w _).trans (ez 0 0 _ _)⟩
 have h:=gH (w.alloc (.cells #[eE [],.int .i64 ((0:Nat):Int),eE []] 74)) [] i []
 have e:(w.alloc (.cells #[eE [],.int .i64 ((0:Nat):Int),eE []] 74)).heap.size=w.heap.size+1:=by simp
 rw[e] at h
 exact h
theorem NI.fin {W:World}{k:Nat}(h:NI w W s k x):TB (((W.setCell ⟨w.heap.size,0,none⟩ (eE s)).setCell ⟨w.heap.size,1,none⟩ (.int .i64 (k:Int))).setCell ⟨w.heap.size,2,none⟩ (eE x)) w.heap.size s k x/\Kept 0 0 w (((W.setCell ⟨w.heap.size,0,none⟩ (eE s)).setCell ⟨w.heap.size,1,none⟩ (.int .i64 (k:Int))).setCell ⟨w.heap.size,2,none⟩ (eE x)):=
 ⟨((h.r.sym s).posn k).text x,lG (lG (lG h.k yad) yad) yad⟩
def om (s:List UInt8)(k:Nat):List UInt8:=if s∈keysL.take k then s else f8
theorem zX (W w1:World)(k:Nat)(hk:k<15)(h:Kept 0 0 (w1.alloc (.cells jp 9)) W):W.cell? ⟨w1.heap.size,k,none⟩=some (eE (keysL.getD k [])):=by
 rw[h.cell (p:=⟨w1.heap.size,k,none⟩) xac xaa,yau]
 have hl:k<keysL.length:=hk
 show jp[k]? =_
 unfold jp
 rw[List.getElem?_toArray,List.getElem?_map,yah,yal hl]
 rfl
theorem xO {k:Nat}(hk:k<15)(h:keysL.getD k []=s):om s (k+1)=s:=by
 unfold om
 rw[if_pos]
 have hl:k<keysL.length:=hk
 exact xfz
theorem vo {k:Nat}(hk:k<15)(h:keysL.getD k []≠s):om s (k+1)=om s k:=by
 unfold om
 have hl:k<keysL.length:=hk
 rw[yah,yal hl] at h
 simp only[Option.getD_some] at h
 rw[yat hl]
 by_cases c:s∈keysL.take k
 ·rw[if_pos (List.mem_append.2 (.inl c)),if_pos c]
 ·exact xif
theorem zY {t:List UInt8}(h1:j<t.length):fN kU t j=if kT (bt t j)=true\/dig (bt t j)=true then fN kU t (j+1) else j:=by
 by_cases h:kT (bt t j)=true\/dig (bt t j)=true
 ·rw[if_pos h,rT h1 (by unfold kU;simpa using h)]
 ·rw[if_neg h,lZ]
  rintro⟨_,c⟩
  exact h (by simpa[kU] using c)
structure KI (w W:World)(B:Nat)(x:List UInt8)(i k:Nat):Prop where
 n:NI w W (om x k) i x
 lt:B<W.heap.size
 ne:w.heap.size+1<B
 c:∀q,q<15->W.cell? ⟨B,q,none⟩=some (eE (keysL.getD q []))
theorem zZ {W:World}(h:NI w W f8 i x):KI w (W.alloc (.cells jp 9)) W.heap.size x i 0:=
 ⟨h.keep (ez 0 0 W _),by simp,h.t.lt,λq hq=>zX _ W q hq (Kept.refl 0 0 _)⟩
theorem KI.keep {W:World}{k:Nat}(h:KI w W B x i k)(q:Kept 0 0 W W'):KI w W' B x i k:=
 ⟨h.n.keep q,yaj h.lt q.size,h.ne,λj hj=>(q.cell (p:=⟨B,j,none⟩) h.lt xaa).trans (h.c j hj)⟩
theorem KI.hit {W:World}{k:Nat}(h:KI w W B x i k)(hk:k<15)(e:keysL.getD k []=x):KI w (W.setCell ⟨w.heap.size+1,0,none⟩ (eE x)) B x i (k+1):=by
 refine⟨?_,by simpa using h.lt,h.ne,λj hj=>(eW _ _ _ _ _ _ (.inl (by have:=h.ne;omega))).trans (h.c j hj)⟩
 rw[xO hk e]
 exact h.n.sym x
theorem KI.miss {W:World}{k:Nat}(h:KI w W B x i k)(hk:k<15)(e:keysL.getD k []≠x):KI w W B x i (k+1):=by
 refine⟨?_,h.lt,h.ne,h.c⟩
 rw[vo hk e]
 exact h.n
theorem xP (w:World)(g off n cap:Nat)(t:List UInt8)(f:TxS w g off n t)(i:Nat)(hi:i<n)(hn:n<=1000000)(hcp:n<=cap)(hL:kT (bt t i)=true):
  Calls prog 71 #[.slice (some ⟨g,off,none⟩) n cap,.int .i64 (i:Int)] w (NxO w (nxT t i) (nxE t i)):=by
 have HF:Hid (∀W,Kept 0 0 w W->TxS W g off n t):=λW k=>f.keep k
 have HT:Hid (nxT t i=⟨jl (gJ t i (fN kU t i)),i,gJ t i (fN kU t i)⟩):=if_pos hL
 have HE:Hid (nxE t i=fN kU t i):=if_pos hL
 have HB:Hid (fN kU t i<=n/\i<=fN kU t i):=⟨by rw[<-f.len];exact jA _ _ _ (by rw[f.len];omega),kV _ _ _⟩
 have HLN:Hid (t.length=n):=f.len
 have hg:g<w.heap.size:=f.lt
 have HL1:Hid (∀W,Calls prog 103 #[.int .u8 (bt t i)] W λe w'=>e=.returned (.bool true)/\w'=W):=λW=>by rw[<-hL];exact lE _ W
 unfold NxO
 rw[HT.out,HE.out]
 obtain⟨E,hE⟩:∃E,E=fN kU t i:=⟨_,rfl⟩
 rw[<-hE] at HB ⊢
 have HR:Hid (fN kU t i=E):=hE.symm
 clear hE HT HE f hL
 go_enter func71,ntmps71
 go_upto_region 3 with fail
 have HN:Hid _:=vn w i
 change Code.wp _ _ _ _ ((w.alloc (.cells #[eE [],.int .i64 ((0:Nat):Int),eE []] 74)).alloc (.cells #[eE [],.int .i64 (i:Int),eE []] 74))
 generalize (w.alloc (.cells #[eE [],.int .i64 ((0:Nat):Int),eE []] 74)).alloc (.cells #[eE [],.int .i64 (i:Int),eE []] 74)=W0 at HN ⊢
 have c0:W0.cell? ⟨g,off+i,none⟩=some (.int .u8 (bt t i)):=(HF.out W0 HN.out.k).at_ i hi
 go_wp2_with (go_at_call 103;refine yai (HL1.out _) ?_;rintro e w1 ⟨rfl,rfl⟩)
 clear c0
 rename World=>W0
 go_loopw [7] (λiv W=>W=W0/\∃j:Nat,j<=n/\iv=.int .i64 j/\Hid (fN kU t j=E)) (λiv _=>n-(intOf iv).toNat)
 case atStart=>exact⟨rfl,i,by omega,rfl,HR⟩
 case round=>
  obtain⟨rfl,j,hj,rfl,hJ⟩:=hrel
  by_cases hje:j=E
  ·subst hje
   by_cases hlt:j<n
   ·have c1:=(HF.out wr HN.out.k).at_ j hlt
    have HW:Hid _:=hJ.out
    rw[zY (by rw[HLN.out];exact hlt)] at HW
    have HD:Hid _:=jB (bt t j) wr
    have HLt:Hid _:=lE (bt t j) wr
    have hno:¬(kT (bt t j)=true\/dig (bt t j)=true):=λh=>by
     have h1:=HW.out
     rw[if_pos h] at h1
     have:=kV kU t (j+1)
     omega
    have tl:kT (bt t j)=false:=by simpa using λh=>hno (.inl h)
    have td:dig (bt t j)=false:=by simpa using λh=>hno (.inr h)
    rw[tl] at HLt
    rw[td] at HD
    clear hno tl td HW
    generalize bt t j=x at c1 HD HLt
    go_upto_region 6 with (first
     |(go_at_call 103;refine yai HLt.out ?_;rintro e w1 ⟨rfl,hw⟩;obtain rfl:=hw.symm)
     |(go_at_call 73;refine yai HD.out ?_;rintro e w1 ⟨rfl,hw⟩;obtain rfl:=hw.symm))
    clear c1 HD HLt
    exact xao
   ·go_upto_region 6 with fail
    exact xao
  ·have hlt:j<n:=by
    rcases Nat.lt_or_ge j n with c|c
    ·exact c
    ·exact absurd ((lZ (λh=>by have:=HLN.out;omega)).symm.trans hJ.out) hje
   have c1:=(HF.out wr HN.out.k).at_ j hlt
   have HW:Hid _:=hJ.out
   rw[zY (by rw[HLN.out];exact hlt)] at HW
   have HD:Hid _:=jB (bt t j) wr
   have HLt:Hid _:=lE (bt t j) wr
   generalize bt t j=x at c1 HD HLt HW
   cases tl:kT x
   ·rw[tl] at HLt HW
    cases td:dig x
    ·rw[td] at HW
     exact absurd (by simpa using HW.out) hje
    ·rw[td] at HD HW
     have R:Hid (fN kU t (j+1)=E):=by show _=_;simpa using HW.out
     go_wp2_with (first
      |(go_at_call 103;refine yai HLt.out ?_;rintro e w1 ⟨rfl,rfl⟩)
      |(go_at_call 73;refine yai HD.out ?_;rintro e w1 ⟨rfl,rfl⟩))
     exact xer
   ·rw[tl] at HLt HW
    have R:Hid (fN kU t (j+1)=E):=by show _=_;simpa using HW.out
    go_wp2_with (first
     |(go_at_call 103;refine yai HLt.out ?_;rintro e w1 ⟨rfl,rfl⟩))
    exact xer
theorem tQ {t:List UInt8}{E:Nat}(h:fN dig t j=E)(hj:j<t.length)(he:j=E):dig (bt t j)=false:=by
 subst he
 cases c:dig (bt t j)
 ·rfl
 ·have:=kX (p:=dig) hj c;omega
theorem Aa {t:List UInt8}{E:Nat}(h:fN dig t j=E)(he:j≠E):j<t.length/\dig (bt t j)=true/\fN dig t (j+1)=E:=by
 have h1:=h
 rw[fN] at h1
 split at h1
 ·rename_i c;exact⟨c.1,c.2,h1⟩
 ·exact absurd h1 he
theorem Ab (w:World)(g off n cap:Nat)(t:List UInt8)(f:TxS w g off n t)(i:Nat)(hi:i<n)(hn:n<=1000000)(hcp:n<=cap)(hL:kT (bt t i)=false)(hd:dig (bt t i)=true):
  Calls prog 71 #[.slice (some ⟨g,off,none⟩) n cap,.int .i64 (i:Int)] w (NxO w (nxT t i) (nxE t i)):=by
 have HF:Hid (∀W,Kept 0 0 w W->TxS W g off n t):=λW k=>f.keep k
 have HT:Hid (nxT t i=⟨py t i,i,gJ t i (oB t i)⟩):=by show _=_;unfold nxT;rw[hL,if_neg xac,if_pos hd]
 have HE:Hid (nxE t i=oB t i):=by show _=_;unfold nxE;rw[hL,if_neg xac,if_pos hd]
 have HB:Hid (fN dig t i<=n/\i<=fN dig t i):=⟨by rw[<-f.len];exact jA _ _ _ (by rw[f.len];omega),kV _ _ _⟩
 have HLN:Hid (t.length=n):=f.len
 have hg:g<w.heap.size:=f.lt
 have HL1:Hid (∀W,Calls prog 103 #[.int .u8 (bt t i)] W λe w'=>e=.returned (.bool false)/\w'=W):=λW=>by rw[<-hL];exact lE _ W
 have HD1:Hid (∀W,Calls prog 73 #[.int .u8 (bt t i)] W λe w'=>e=.returned (.bool true)/\w'=W):=λW=>by rw[<-hd];exact jB _ W
 have HNS:Hid (oB t i=if fN dig t i+1<t.length/\bt t (fN dig t i)=46/\dig (bt t (fN dig t i+1))=true then fN dig t (fN dig t i+1) else fN dig t i):=rfl
 have HNY:Hid (py t i=if fN dig t i+1<t.length/\bt t (fN dig t i)=46/\dig (bt t (fN dig t i+1))=true then iT else gm):=rfl
 unfold NxO
 rw[HT.out,HE.out]
 obtain⟨E,hE⟩:∃E,E=fN dig t i:=⟨_,rfl⟩
 rw[<-hE] at HB HNS HNY
 have HR:Hid (fN dig t i=E):=hE.symm
 clear hE HT HE f hL hd
 generalize oB t i=NE at HNS ⊢
 generalize py t i=NY at HNY ⊢
 go_enter func71,ntmps71
 go_upto_region 3 with fail
 have HN:Hid _:=vn w i
 change Code.wp _ _ _ _ ((w.alloc (.cells #[eE [],.int .i64 ((0:Nat):Int),eE []] 74)).alloc (.cells #[eE [],.int .i64 (i:Int),eE []] 74))
 generalize (w.alloc (.cells #[eE [],.int .i64 ((0:Nat):Int),eE []] 74)).alloc (.cells #[eE [],.int .i64 (i:Int),eE []] 74)=W0 at HN ⊢
 have c0:W0.cell? ⟨g,off+i,none⟩=some (.int .u8 (bt t i)):=(HF.out W0 HN.out.k).at_ i hi
 generalize bt t i=x0 at c0 HL1 HD1
 go_upto_region 16 with (first
  |(go_at_call 103;refine yai (HL1.out _) ?_;rintro e w1 ⟨rfl,hw⟩;obtain rfl:=hw.symm)
  |(go_at_call 73;refine yai (HD1.out _) ?_;rintro e w1 ⟨rfl,hw⟩;obtain rfl:=hw.symm))
 have y2:=HN.out.t.c0
 have y3:=HN.out.t.fr 0
 go_upto_region 17 with fail
 change Code.wp _ _ _ _ (W0.setCell ⟨w.heap.size+1,0,none⟩ (eE gm))
 have HN2:Hid _:=HN.out.sym gm
 clear y2 y3 HN c0
 generalize W0.setCell ⟨w.heap.size+1,0,none⟩ (eE gm)=W2 at HN2 ⊢
 go_loopw [7] (λiv W=>W=W2/\∃j:Nat,j<=n/\iv=.int .i64 j/\Hid (fN dig t j=E)) (λiv _=>n-(intOf iv).toNat)
 case atStart=>exact⟨rfl,i,by omega,rfl,HR⟩
 case round=>
  obtain⟨rfl,j,hj,rfl,hJ⟩:=hrel
  by_cases hje:j=E
  ·by_cases hlt:j<n
   ·have c1:=(HF.out wr HN2.out.k).at_ j hlt
    have HD:Hid _:=jB (bt t j) wr
    rw[tQ hJ.out (by rw[HLN.out];exact hlt) hje] at HD
    subst hje
    generalize hb46:bt t j=xj at c1 HD HNS HNY
    go_upto_region 19 with (go_at_call 73;refine yai HD.out ?_;rintro e w1 ⟨rfl,hw⟩;obtain rfl:=hw.symm)
    by_cases hl1:j+1<n
    ·by_cases h46:xj=46
     ·have HD2:Hid _:=jB (bt t (j+1)) wr
      have c2:=(HF.out wr HN2.out.k).at_ (j+1) hl1
      subst h46
      cases hdg:dig (bt t (j+1))
      ·have HA:Hid (NY=gm/\NE=j):=⟨HNY.out.trans (if_neg (λh=>by rw[hdg] at h;exact absurd h.2.2 xac)),HNS.out.trans (if_neg (λh=>by rw[hdg] at h;exact absurd h.2.2 xac))⟩
       have HBj:Hid (i<=j/\j<=n):=⟨HB.out.2,HB.out.1⟩
       rw[hdg] at HD2
       clear HD hb46 hdg HNS HNY
       generalize bt t (j+1)=xk at c2 HD2
       go_upto_region 24 with (go_at_call 73;refine yai HD2.out ?_;rintro e w1 ⟨rfl,hw⟩;obtain rfl:=hw.symm)
       clear c1 c2 HD2
       exact xaj
      ·have HA0:Hid (NY=iT/\NE=fN dig t (j+1)):=⟨HNY.out.trans (if_pos ⟨by rw[HLN.out];exact hl1,rfl,hdg⟩),HNS.out.trans (if_pos ⟨by rw[HLN.out];exact hl1,rfl,hdg⟩)⟩
       rw[hdg] at HD2
       clear HD hb46 hdg HNS HNY
       generalize bt t (j+1)=xk at c2 HD2
       go_upto_region 20 with (go_at_call 73;refine yai HD2.out ?_;rintro e w1 ⟨rfl,hw⟩;obtain rfl:=hw.symm)
       clear c1 c2 HD2
       have y2:=HN2.out.t.c0
       have y3:=HN2.out.t.fr 0
       go_upto_region 21 with fail
       change Code.wp _ _ _ _ (wr.setCell ⟨w.heap.size+1,0,none⟩ (eE iT))
       have HN3:Hid _:=HN2.out.sym iT
       clear y2 y3 HN2
       generalize wr.setCell ⟨w.heap.size+1,0,none⟩ (eE iT)=W3 at HN3 ⊢
       have HB2:Hid (fN dig t (j+1)<=n/\i<=fN dig t (j+1)):=⟨by rw[<-HLN.out];exact jA _ _ _ (by rw[HLN.out];omega),by have:=kV dig t (j+1);have:=HB.out.2;omega⟩
       obtain⟨F,hF⟩:∃F,F=fN dig t (j+1):=⟨_,rfl⟩
       rw[<-hF] at HA0 HB2
       have HRF:Hid (fN dig t (j+1)=F):=hF.symm
       clear hF
       go_wp2_with fail
       go_loopw [7] (λiv W=>W=W3/\∃j:Nat,j<=n/\iv=.int .i64 j/\Hid (fN dig t j=F)) (λiv _=>n-(intOf iv).toNat)
       case atStart=>exact⟨rfl,j+1,by omega,by go_num,HRF⟩
       case round=>
        obtain⟨rfl,k,hk,rfl,hK⟩:=hrel
        by_cases hke:k=F
        ·by_cases hlt2:k<n
         ·have c3:=(HF.out wr HN3.out.k).at_ k hlt2
          have HD3:Hid _:=jB (bt t k) wr
          rw[tQ hK.out (by rw[HLN.out];exact hlt2) hke] at HD3
          subst hke
          have HA:Hid (NY=iT/\NE=k):=HA0.out
          have HBj:Hid (i<=k/\k<=n):=⟨HB2.out.2,HB2.out.1⟩
          generalize bt t k=xm at c3 HD3
          go_upto_region 24 with (go_at_call 73;refine yai HD3.out ?_;rintro e w1 ⟨rfl,hw⟩;obtain rfl:=hw.symm)
          clear c3 HD3
          exact xaz
         ·subst hke
          have HA:Hid (NY=iT/\NE=k):=HA0.out
          have HBj:Hid (i<=k/\k<=n):=⟨HB2.out.2,HB2.out.1⟩
          go_upto_region 24 with fail
          exact xaz
        ·obtain⟨h1,h2,h3⟩:=Aa hK.out hke
         have hlt2:k<n:=by rw[HLN.out] at h1;exact h1
         have c3:=(HF.out wr HN3.out.k).at_ k hlt2
         have HD3:Hid _:=jB (bt t k) wr
         rw[h2] at HD3
         have R:Hid _:=h3
         clear h1 h2 h3
         generalize bt t k=xm at c3 HD3
         go_wp2_with (go_at_call 73;refine yai HD3.out ?_;rintro e w1 ⟨rfl,hw⟩;obtain rfl:=hw.symm)
         exact xcy
     ·have HA:Hid (NY=gm/\NE=j):=⟨HNY.out.trans (if_neg (λh=>h46 h.2.1)),HNS.out.trans (if_neg (λh=>h46 h.2.1))⟩
      have HBj:Hid (i<=j/\j<=n):=⟨HB.out.2,HB.out.1⟩
      have h46b:(xj==46)=false:=by simpa using h46
      clear HD hb46 HNS HNY h46
      exact xay
    ·have HA:Hid (NY=gm/\NE=j):=⟨HNY.out.trans (if_neg (λh=>by have:=HLN.out;omega)),HNS.out.trans (if_neg (λh=>by have:=HLN.out;omega))⟩
     have HBj:Hid (i<=j/\j<=n):=⟨HB.out.2,HB.out.1⟩
     clear HD hb46 HNS HNY
     exact xay
   ·subst hje
    have HA:Hid (NY=gm/\NE=j):=⟨HNY.out.trans (if_neg (λh=>by have:=HLN.out;omega)),HNS.out.trans (if_neg (λh=>by have:=HLN.out;omega))⟩
    have HBj:Hid (i<=j/\j<=n):=⟨HB.out.2,HB.out.1⟩
    clear HNS HNY
    go_upto_region 19 with fail
    go_upto_region 24 with fail
    exact xaj
  ·obtain⟨h1,h2,h3⟩:=Aa hJ.out hje
   have hlt:j<n:=by rw[HLN.out] at h1;exact h1
   have c1:=(HF.out wr HN2.out.k).at_ j hlt
   have HD:Hid _:=jB (bt t j) wr
   rw[h2] at HD
   have R:Hid _:=h3
   clear h1 h2 h3
   generalize bt t j=xm at c1 HD
   go_wp2_with (go_at_call 73;refine yai HD.out ?_;rintro e w1 ⟨rfl,hw⟩;obtain rfl:=hw.symm)
   exact xer
def qh (x:UInt8)(k:Nat):List UInt8:=if x∈onesL.take k then[x] else[]
theorem Ac {x:UInt8}{k:Nat}(hk:k<10)(h:onesL.getD k 0=x):qh x (k+1)=[x]:=by
 unfold qh
 rw[if_pos]
 have hl:k<onesL.length:=hk
 exact xfz
theorem xQ {x:UInt8}{k:Nat}(hk:k<10)(h:onesL.getD k 0≠x):qh x (k+1)=qh x k:=by
 unfold qh
 have hl:k<onesL.length:=hk
 rw[yah,yal hl] at h
 simp only[Option.getD_some] at h
 rw[yat hl]
 by_cases c:x∈onesL.take k
 ·rw[if_pos (List.mem_append.2 (.inl c)),if_pos c]
 ·exact xif
abbrev onesS:ByteArray:={data:=#[43,45,42,47,40,41,44,59,58,61]}
theorem Ad:∀k:Fin 10,onesS.extract k.1 (k.1+1)=⟨#[onesL.getD k.1 0]⟩:=by decide+kernel
theorem Ae:∀k:Fin 10,∀h,((onesS[k.1]'h).toNat:Int)=bt onesL k.1:=by decide+kernel
theorem CG (k:Nat)(hk:k<10)(h:k<onesS.size):((onesS[k]'h).toNat:Int)=bt onesL k:=Ae ⟨k,hk⟩ h
theorem xR (w:World)(g off n cap:Nat)(t:List UInt8)(f:TxS w g off n t)(i:Nat)(hi:i<n)(hn:n<=1000000)(hL:kT (bt t i)=false)(hd:dig (bt t i)=false):
  Calls prog 71 #[.slice (some ⟨g,off,none⟩) n cap,.int .i64 (i:Int)] w (NxO w (nxT t i) (nxE t i)):=by
 have HF:Hid (∀W,Kept 0 0 w W->TxS W g off n t):=λW k=>f.keep k
 have HT:Hid (nxT t i=⟨jb (t.getD i 0),i,jb (t.getD i 0)⟩):=by show _=_;unfold nxT;rw[hL,if_neg xac,hd,if_neg xac]
 have HE:Hid (nxE t i=i+1):=by show _=_;unfold nxE;rw[hL,if_neg xac,hd,if_neg xac]
 have hg:g<w.heap.size:=f.lt
 have HL1:Hid (∀W,Calls prog 103 #[.int .u8 (bt t i)] W λe w'=>e=.returned (.bool false)/\w'=W):=λW=>by rw[<-hL];exact lE _ W
 have HD1:Hid (∀W,Calls prog 73 #[.int .u8 (bt t i)] W λe w'=>e=.returned (.bool false)/\w'=W):=λW=>by rw[<-hd];exact jB _ W
 have HXB:Hid (bt t i=((t.getD i 0).toNat:Int)):=rfl
 unfold NxO
 rw[HT.out,HE.out]
 clear HT HE f hL hd
 generalize t.getD i 0=xb at HXB ⊢
 go_enter func71,ntmps71
 go_upto_region 3 with fail
 have HN:Hid _:=vn w i
 change Code.wp _ _ _ _ ((w.alloc (.cells #[eE [],.int .i64 ((0:Nat):Int),eE []] 74)).alloc (.cells #[eE [],.int .i64 (i:Int),eE []] 74))
 generalize (w.alloc (.cells #[eE [],.int .i64 ((0:Nat):Int),eE []] 74)).alloc (.cells #[eE [],.int .i64 (i:Int),eE []] 74)=W0 at HN ⊢
 have c0:W0.cell? ⟨g,off+i,none⟩=some (.int .u8 (bt t i)):=(HF.out W0 HN.out.k).at_ i hi
 have HF2:Hid (∀W,Kept 0 0 w W->W.cell? ⟨g,off+i,none⟩=some (.int .u8 (bt t i))):=λW k=>(HF.out W k).at_ i hi
 generalize bt t i=x0 at c0 HL1 HD1 HXB HF2
 go_upto_region 26 with (first
  |(go_at_call 103;refine yai (HL1.out _) ?_;rintro e w1 ⟨rfl,hw⟩;obtain rfl:=hw.symm)
  |(go_at_call 73;refine yai (HD1.out _) ?_;rintro e w1 ⟨rfl,hw⟩;obtain rfl:=hw.symm))
 clear c0 HL1 HD1 HF
 go_wp2_with fail
 go_loopw [11] (λiv W=>∃k:Nat,k<=10/\iv=.int .i64 k/\Hid (NI w W (qh xb k) i (qh xb k))) (λiv _=>10-(intOf iv).toNat)
 case atStart=>exact⟨0,by omega,rfl,HN⟩
 case round=>
  obtain⟨k,hk,rfl,hI⟩:=hrel
  by_cases hk10:k<10
  ·have c1:=HF2.out wr hI.out.k
   have HY:Hid (onesL.getD k 0=xb↔bt onesL k=x0):=by
    show _↔_
    rw[HXB.out]
    unfold bt
    constructor
    ·intro h;rw[h]
    ·intro h;exact UInt8.toNat_inj.1 xaa
   have hy:∀h,((onesS[k]'h).toNat:Int)=bt onesL k:=λh=>CG k hk10 h
   have hx:onesS.extract k (k+1)=⟨#[onesL.getD k 0]⟩:=Ad ⟨k,hk10⟩
   generalize bt onesL k=y at HY hy
   go_upto_region 30 with fail
   go_quiet (fail)
   have HK4:Hid _:=hI.out.keep (eK 0 0 wr nq)
   clear c1 hI
   generalize wr.drewN nq=W4 at HK4 ⊢
   have y0:=HK4.out.t.c0
   have y1:=HK4.out.t.fr 0
   have y2:=HK4.out.t.c2
   have y3:=HK4.out.t.fr 2
   cases hq:(y==x0)
   ·have hm:onesL.getD k 0≠xb:=λc=>by have:=HY.out.1 c;rw[this] at hq;simp at hq
    have R:Hid _:=HK4.out
    rw[<-xQ hk10 hm] at R
    clear HK4 hm hx y0 y1 y2 y3
    exact xdf
   ·have hm:onesL.getD k 0=xb:=HY.out.2 (by simpa using hq)
    have R:Hid _:=(HK4.out.sym [xb]).text [xb]
    rw[hm] at hx
    have hM:qh xb (k+1)=[xb]:=Ac hk10 hm
    have HM:Hid _:=hM
    have HZ:Hid (eE [xb]=.string ⟨#[xb]⟩):=rfl
    generalize qh xb k=s0 at y0 y2 HK4
    clear HK4 hm hM
    have z1:IntKind.i64.wrap ((k:Int)+1)=(k:Int)+1:=by rw[IntKind.wrap_i64];omega
    have z2:(0:Int)<=(k:Int):=xaa
    have z3:(k:Int)+1<=10:=xaa
    go_wp2_with fail
    go_roundw
    case rel=>exact⟨k+1,by omega,by go_num,by rw[HM.out];exact R⟩
    case measure=>simp[intOf];omega
  ·obtain rfl:k=10:=xaa
   have HN9:Hid _:=hI.out
   rw[show qh xb 10=jb xb from rfl] at HN9
   generalize hws:jb xb=ws at HN9
   have HWS:Hid (jb xb=ws):=hws
   clear hws
   obtain⟨_,r0,r1,r2,rf⟩:=HN9.out.r
   obtain⟨_,t0,t1,t2,tf⟩:=HN9.out.t
   have rf0:=rf 0
   have rf1:=rf 1
   have rf2:=rf 2
   have R:Hid _:=HN9.out.fin
   have z1:IntKind.i64.wrap ((i:Int)+1)=(i:Int)+1:=by rw[IntKind.wrap_i64];omega
   clear hI rf tf HN9
   go_wp2_with fail
   change bodyPost _ _ _ _ _ (((wr.setCell ⟨w.heap.size,0,none⟩ (eE ws)).setCell ⟨w.heap.size,1,none⟩ (.int .i64 (i:Int))).setCell ⟨w.heap.size,2,none⟩ (eE ws))
   generalize ((wr.setCell ⟨w.heap.size,0,none⟩ (eE ws)).setCell ⟨w.heap.size,1,none⟩ (.int .i64 (i:Int))).setCell ⟨w.heap.size,2,none⟩ (eE ws)=W5 at R ⊢
   obtain⟨⟨_,f0,f1,f2,_⟩,kF⟩:=R.out
   refine yay (v:=.tuple #[.agg #[eE ws,.int .i64 (i:Int),eE ws],.int .i64 ((i:Int)+1)]) (by simp[results,results71,go_sem,f0,f1,f2]) rfl ⟨?_,kF⟩
   rw[HWS.out,Int.natCast_add];rfl
theorem F6 (w:World)(g off n cap:Nat)(t:List UInt8)(f:TxS w g off n t)(i:Nat)(hi:i<n)(hn:n<=1000000)(hcp:n<=cap):
  Calls prog 71 #[.slice (some ⟨g,off,none⟩) n cap,.int .i64 (i:Int)] w (NxO w (nxT t i) (nxE t i)):=by
 cases hL:kT (bt t i)
 ·cases hd:dig (bt t i)
  ·exact xR w g off n cap t f i hi hn hL hd
  ·exact Ab w g off n cap t f i hi hn hcp hL hd
 ·exact xP w g off n cap t f i hi hn hcp hL
