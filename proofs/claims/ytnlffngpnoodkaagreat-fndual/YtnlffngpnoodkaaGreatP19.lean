import Derived.Test.YtnlffngpnoodkaaGreatP18
import Derived.Deep.Slices
namespace Go.Proofs.YtnlffngpnoodkaaGreat
set_option maxRecDepth 1000000
set_option maxHeartbeats 0
section
open Go.RowKit Flt
attribute [local go_sem] ic ib ia
structure YS (w:World)(a:Option Addr)(n:Nat)(xs:List Int):Prop where
 len:xs.length=n
 lt:∀x∈xs,0<=x/\x<256
 at_:n=0\/∃g off,a=some ⟨g,off,none⟩/\g<w.heap.size/\∀k,k<n->w.cell? ⟨g,off+k,none⟩=some (.int .u8 (xs.getD k 0))
theorem YS.keep {w w':World}{a:Option Addr}{n:Nat}{xs:List Int}(f:YS w a n xs)(k:Kept 0 0 w w'):YS w' a n xs:=
 ⟨f.len,f.lt,by
  rcases f.at_ with h0|⟨g,off,e,h3,h4⟩
  ·exact .inl h0
  ·exact .inr ⟨g,off,e,Nat.lt_of_lt_of_le h3 k.size,λj hj=>by rw[k.cell (p:=⟨g,off+j,none⟩) h3 (by omega)];exact h4 j hj⟩⟩
end
section
open Go.RowKit Flt
variable {w w':World} {a:Option Addr} {P n cap i h:Nat} {bs:List Int}
structure RdF (w:World)(P:Nat)(a:Option Addr)(n cap i:Nat)(bs:List Int):Prop where
 lt:P<w.heap.size
 c0:w.cell? ⟨P,0,none⟩=some (.slice a n cap)
 c1:w.cell? ⟨P,1,none⟩=some (.int .i64 (i:Int))
 fz:w.frozen? ⟨P,1,none⟩=false
 hi:i<=n
 small:n<=500
 ys:YS w a n bs
 ne:0<n->∀g off,a=some ⟨g,off,none⟩->g<P
theorem xY {xs:List Int}(f:YS w a n xs)(k:Kept P h w w')(ne:0<n->∀g off,a=some ⟨g,off,none⟩->g<P):YS w' a n xs:=
 ⟨f.len,f.lt,f.at_.imp id λ⟨g,off,e,h3,h4⟩=>⟨g,off,e,Nat.lt_of_lt_of_le h3 k.size,λj hj=>by rw[k.cell (p:=⟨g,off+j,none⟩) h3 (by have:=ne (by omega) g off e;show ¬(P<=g/\g<h);omega)];exact h4 j hj⟩⟩
theorem RdF.keep {l:Nat}(f:RdF w P a n cap i bs)(k:Kept l h w w')(hd:P<l\/h<=l):RdF w' P a n cap i bs where
 lt:=Nat.lt_of_lt_of_le f.lt k.size
 c0:=by rw[k.cell (p:=⟨P,0,none⟩) f.lt (by show ¬(l<=P/\P<h);omega)];exact f.c0
 c1:=by rw[k.cell (p:=⟨P,1,none⟩) f.lt (by show ¬(l<=P/\P<h);omega)];exact f.c1
 fz:=by rw[k.frozen (p:=⟨P,1,none⟩) f.lt (by show ¬(l<=P/\P<h);omega)];exact f.fz
 hi:=f.hi
 small:=f.small
 ys:=⟨f.ys.len,f.ys.lt,f.ys.at_.imp id λ⟨g,off,e,h3,h4⟩=>⟨g,off,e,Nat.lt_of_lt_of_le h3 k.size,λj hj=>by rw[k.cell (p:=⟨g,off+j,none⟩) h3 (by have:=f.ne (by omega) g off e;show ¬(l<=g/\g<h);omega)];exact h4 j hj⟩⟩
 ne:=f.ne
def nv (bs:List Int)(i:Nat):Nat:=(bs.getD i 0).toNat
def ni (bs:List Int)(i:Nat):Nat:=if i<bs.length then i+1 else i
theorem iK (f:YS w a n bs)(i:Nat):nv bs i<256:=by
 unfold nv
 by_cases h:i<bs.length
 ·have:=f.lt _ (List.getElem_mem h)
  rw[List.getD_eq_getElem?_getD,List.getElem?_eq_getElem h]
  show(bs[i]).toNat<256
  omega
 ·rw[List.getD_eq_getElem?_getD,List.getElem?_eq_none (by omega)]
  decide
theorem Ah (f:RdF w P a n cap i bs)(hi:i<n):
  RdF (w.setCell ⟨P,1,none⟩ (.int .i64 ((i:Int)+1))) P a n cap (i+1) bs/\Kept P (P+1) w (w.setCell ⟨P,1,none⟩ (.int .i64 ((i:Int)+1)))/\(w.setCell ⟨P,1,none⟩ (.int .i64 ((i:Int)+1))).heap.size=w.heap.size:=by
 have kk:Kept P (P+1) w (w.setCell ⟨P,1,none⟩ (.int .i64 ((i:Int)+1))):=it w ⟨P,1,none⟩ _ (.inl ⟨Nat.le_refl _,Nat.lt_succ_self _⟩)
 exact⟨⟨by simpa using f.lt,by rw[World.cell?_setCell_other (h:=by simp)];exact f.c0,by rw[World.cell?_setCell_same (h:=f.c1)];rfl,by rw[World.frozen?_setCell];exact f.fz,hi,f.small,xY f.ys kk f.ne,f.ne⟩,kk,by simp⟩
theorem lj (w:World)(P:Nat)(a:Option Addr)(n cap i:Nat)(bs:List Int)(f:RdF w P a n cap i bs):
  Calls Tryz.prog 37 #[.pointer (some ⟨P,0,none⟩)] w λe w'=>e=.returned (.int .i64 (nv bs i:Int))/\RdF w' P a n cap (ni bs i) bs/\Kept P (P+1) w w'/\w'.heap.size=w.heap.size:=by
 have h0:=f.c0
 have h1:=f.c1
 have hn:=f.small
 have hl:=f.ys.len
 by_cases hi:i<n
 ·have h2:=f.fz
  obtain⟨B,off,rfl,hB,hx⟩:∃B off,a=some ⟨B,off,none⟩/\B<w.heap.size/\w.cell? ⟨B,off+i,none⟩=some (.int .u8 (bs.getD i 0)):=by
   rcases f.ys.at_ with q|⟨g,off,e,h3,h4⟩
   ·omega
   ·exact⟨g,off,e,h3,h4 i hi⟩
  have hb:0<=bs.getD i 0/\bs.getD i 0<256:=by
   rw[List.getD_eq_getElem?_getD,List.getElem?_eq_getElem (by omega)]
   exact f.ys.lt _ (List.getElem_mem _)
  obtain⟨hx0,hx1⟩:=hb
  have hv:(nv bs i:Int)=bs.getD i 0:=by unfold nv;omega
  have hni:ni bs i=i+1:=by unfold ni;rw[if_pos (by omega)]
  have HF:Hid _:=f
  rw[hv,hni]
  generalize bs.getD i 0=x at hx hx0 hx1 hv
  clear f hv hni hB
  go_enter Tryz.func37,Tryz.ntmps37
  go_wp2
  go_quiet (fail)
  go_wp2
  go_quiet (fail)
  go_wp2
  go_ret
  have k0:=iq P (P+1) w
  obtain⟨r1,r2,r3⟩:=Ah (HF.out.keep (iq 0 0 w _) (.inr (Nat.le_refl _))) hi
  exact⟨rfl,r1,(k0 _).trans r2,r3⟩
 ·have hv:(nv bs i:Int)=0:=by
   unfold nv
   rw[List.getD_eq_getElem?_getD,List.getElem?_eq_none (by omega)]
   rfl
  have hni:ni bs i=i:=by unfold ni;rw[if_neg (by omega)]
  have HF:Hid _:=f
  rw[hv,hni]
  have hi:n<=i:=by omega
  clear f hv hni
  go_enter Tryz.func37,Tryz.ntmps37
  go_wp2
  go_quiet (fail)
  go_wp2
  go_ret
  exact⟨rfl,HF.out.keep (iq 0 0 _ _) (.inr (Nat.le_refl _)),iq _ _ _ _,rfl⟩
theorem nM:∀(us vs:List Vl),us.length=vs.length->(∀j,j<us.length->(us.getD j Vl.zero).len=(vs.getD j Vl.zero).len)->ig us=ig vs
 |[],[],_,_=>rfl
 |u::us,v::vs,hl,h=>by
  have h0:=h 0 (by simp)
  have:=nM us vs (by simpa using hl) (λj hj=>by
   have:=h (j+1) (by simp;omega)
   simpa using this)
  simp only[ig,this]
  have h0':u.len=v.len:=by simpa using h0
  rw[h0']
end
section
open Go.RowKit Flt
attribute [local go_sem] ic ib ia
theorem EK {op:Int}(h0:0<=op)(h1:op<=13):jy op=cnt op:=by
 rcases (by omega:op=0\/op=1\/op=2\/op=3\/op=4\/op=5\/op=6\/op=7\/op=8\/op=9\/op=10\/op=11\/op=12\/op=13) with rfl|rfl|rfl|rfl|rfl|rfl|rfl|rfl|rfl|rfl|rfl|rfl|rfl|rfl<;>decide
theorem rB (v:Vl){q:Nat}(hq:q<cnt v.op):(iV v).getD q 0=fld v q:=by
 have:=jo v.op
 unfold iV
 rw[List.getD_eq_getElem?_getD,List.getElem?_take_of_lt hq]
 rcases (by omega:q=0\/q=1\/q=2) with rfl|rfl|rfl<;>rfl
theorem B2 (op:Int)(h0:0<=op)(h1:op<=13)(w:World):Calls Tryz.prog 45 #[.int .i64 op] w λe w'=>e=.returned (.int .i64 (cnt op:Nat))/\w=w':=by
 have:=iu op w h0 h1
 rw[EK h0 h1] at this
 exact this.mono λ_ _ h=>⟨h.1,h.2.symm⟩
theorem kK {base e size n:Nat}{v:Value}{xs:List Value}{W W':World}{S:Nat->Prop}(o:W.ownsRow base e size v n xs)(k:Chg S W W')(hd:∀g,v.ownBlock=some g->¬S g):W'.ownsRow base e size v n xs:=by
 refine⟨o.1,o.2.imp id ?_⟩
 rintro⟨g,cap,cur,e1,b1,b2,b3⟩
 refine⟨g,cap,cur,e1,b1,?_,b3⟩
 have hg:g<W.heap.size:=by
  rcases Nat.lt_or_ge g W.heap.size with c|c
  ·exact c
  ·rw[Array.getElem?_eq_none c] at b2;cases b2
 rw[k.block g hg (hd g (by rw[e1];rfl))]
 exact b2
theorem kV {w w':World}{row:Option Nat}(h:w.grownBy w' row):Chg (λb=>row=some b) w w':=
 ⟨h.os,h.tape,h.output,h.size,λk hk hn=>h.block k hk (λc=>hn c.symm)⟩
end
section
open Go.RowKit Flt
variable {X t p r j:Nat} {s:Bool}
theorem rC {q:Nat}(hq:0<q)(ht:t<4503599627370496):val (q*4503599627370496+t)=(4503599627370496+t)*p2 (q-1):=by
 rw[mg]
 have e1:M (q*4503599627370496+t)=4503599627370496+t:=by unfold M;rw[if_neg (by omega)];omega
 have e2:E (q*4503599627370496+t)=q-1:=by unfold E;omega
 rw[e1,e2]
theorem EL:p2 52=4503599627370496:=by decide
theorem EM {a b:Nat}(h:a<=b):p2 a<=p2 b:=lN h
theorem EN (ht:t<4503599627370496)(k:Nat):t*p2 k<p2 (52+k):=by
 rw[kg,EL];exact Nat.mul_lt_mul_of_pos_right ht (mH k)
theorem CF (t:Nat)(ht:t<4503599627370496)(k:Nat)(hk:k<=2046):∃r,val r=t*p2 k/\r<9218868437227405312:=by
 obtain⟨r,hr⟩:=rep t (by omega) k
 refine⟨r,hr,pW ?_⟩
 rw[hr]
 exact Nat.lt_of_lt_of_le (EN ht k) (EM (by omega))
theorem Ai (h:dbl p<9218868437227405312)(w:World):
  (binOp .mul 29 (.float .f64 (W false p)) (.float .f64 4611686018427387904)).run Tryz.prog w=.ok (.float .f64 (W false (dbl p))) w:=
 run_float_arith w .mul 29 .f64 (W false p) 4611686018427387904 (W false (dbl p)) (zQ (s:=false) h)
theorem Aj (h:4503599627370496<=p):dbl p=p+4503599627370496:=by unfold dbl;rw[if_neg (by omega)]
theorem tR (t:Nat)(ht:t<4503599627370496):∃p,val p=t*p2 1074/\p<9218868437227405312/\floatOfInt .f64 (t:Int)=W false p:=by
 obtain⟨p,hp,hl⟩:=CF t ht 1074 (by omega)
 refine⟨p,hp,hl,?_⟩
 unfold floatOfInt FloatKind.nearest FloatKind.encode
 show Ieee.double.write _=_
 simp only[Ieee.Format.write,Int.natAbs_natCast]
 rw[show decide ((t:Int)<0)=false from decide_eq_false (by omega)]
 exact kH false t 0 p 1074 0 hl (by rw[hp,show p2 0=1 from rfl,Nat.mul_one]) (by omega)
theorem lU (t:Nat)(ht:t<4503599627370496):∃p,val p=t*p2 1022/\p<9218868437227405312/\∀w,(binOp .quo 29 (.float .f64 (floatOfInt .f64 (t:Int))) (.float .f64 4841369599423283200)).run Tryz.prog w=.ok (.float .f64 (W false p)) w:=by
 obtain⟨p0,hp0,hl0,he⟩:=tR t ht
 obtain⟨p,hp,hl⟩:=CF t ht 1022 (by omega)
 refine⟨p,hp,hl,λw=>run_float_arith w .quo 29 .f64 _ _ _ ?_⟩
 rw[he]
 show Ieee.double.div (W false p0) (W false 4841369599423283200)=_
 rw[rp (p:=p) hl0 (by omega) hl EE]
 ·rfl
 ·rw[hp0,hp,EF,<-kg,Nat.mul_assoc,Nat.mul_assoc,<-kg,<-kg]
theorem tS (t p:Nat)(ht:t<4503599627370496)(hp:val p=t*p2 1022)(hl:p<9218868437227405312)(w:World):
  (binOp .add 29 (.float .f64 4607182418800017408) (.float .f64 (W false p))).run Tryz.prog w=.ok (.float .f64 (W false (t+4607182418800017408))) w:=by
 refine run_float_arith w .add 29 .f64 _ _ _ ?_
 show Ieee.double.add (W false 4607182418800017408) (W false p)=_
 refine rt (by omega) hl (by omega) ?_ (λh=>rfl)
 have a:=rC (q:=1023) (by omega) ht
 have b:=rC (q:=1023) (t:=0) (by omega) (by omega)
 rw[show 1023*4503599627370496+t=t+4607182418800017408 by omega] at a
 rw[show 1023*4503599627370496+0=4607182418800017408 by omega] at b
 rw[a,b,hp]
 simp only[sg,Bool.false_eq_true,if_false]
 rw[Nat.add_zero,show 1023-1=1022 from rfl,Nat.add_mul]
 omega
def up (X j:Nat):Nat:=X+j*4503599627370496
def dn (X j:Nat):Nat:=X-j*4503599627370496
theorem CG (h0:4503599627370496<=X)(h:up X (j+1)<9218868437227405312)(w:World):
  (binOp .mul 29 (.float .f64 (W false (up X j))) (.float .f64 4611686018427387904)).run Tryz.prog w=.ok (.float .f64 (W false (up X (j+1)))) w:=by
 have e:dbl (up X j)=up X (j+1):=by
  rw[Aj (by unfold up;omega)]
  unfold up
  rw[Nat.succ_mul,Nat.add_assoc]
 rw[<-e]
 exact Ai (by rw[e];exact h) w
theorem CH (h0:9007199254740992<=dn X j)(h:X<9218868437227405312)(w:World):
  (binOp .quo 29 (.float .f64 (W false (dn X j))) (.float .f64 4611686018427387904)).run Tryz.prog w=.ok (.float .f64 (W false (dn X (j+1)))) w:=by
 have e:dn X j-4503599627370496=dn X (j+1):=by
  unfold dn
  rw[Nat.succ_mul,Nat.sub_add_eq]
 rw[<-e]
 refine run_float_arith w .quo 29 .f64 _ 4611686018427387904 _ (vD (s:=false) ?_ (xC h0))
 have:dn X j<=X:=Nat.sub_le _ _
 omega
theorem oH (r:Nat)(h:r<9223372036854775808)(w:World):(Op.unary .neg (.float .f64 (W false r))).run Tryz.prog w=.ok (.float .f64 (W true r)) w:=by
 have:Op.negFloat FloatKind.f64 (W false r)=W true r:=rn false h
 rw[<-this];rfl
def oI (s:Bool)(r:Nat)(w:World)(e:Ending)(w':World):Prop:=e=.returned (.float .f64 (W s r))/\w'=w
theorem sJ (s:Bool)(b q t:Nat)(w:World)(hq:(b:Int)/4503599627370496%2048=(q:Int))(ht:(b:Int)%4503599627370496=(t:Int))
  (hs:if s then 9223372036854775808<=(b:Int) else (b:Int)<9223372036854775808) (hb:b<18446744073709551616)
  (hq1:1023<q) (hq2:q<=2046) (ht0:t<4503599627370496):
  Calls Tryz.prog 133 #[.int .u64 (b:Int)] w λe w'=>oI s (up (t+4607182418800017408) (q-1023)) w e w':=by
 obtain⟨p,hp,hl,hrun1⟩:=lU t ht0
 have hrun2:=tS t p ht0 hp hl
 have hX:4503599627370496<=t+4607182418800017408:=by omega
 have hmax:up (t+4607182418800017408) (q-1023)<9218868437227405312:=by unfold up;omega
 have hmono:∀j,j<=q-1023->up (t+4607182418800017408) j<=up (t+4607182418800017408) (q-1023):=λj hj=>by unfold up;exact Nat.add_le_add_left (Nat.mul_le_mul_right _ hj) _
 have hstep:∀j,j<q-1023->∀w,(binOp .mul 29 (.float .f64 (W false (up (t+4607182418800017408) j))) (.float .f64 4611686018427387904)).run Tryz.prog w=.ok (.float .f64 (W false (up (t+4607182418800017408) (j+1)))) w:=
  λj hj=>CG hX (Nat.lt_of_le_of_lt (hmono (j+1) hj) hmax)
 have h0:t+4607182418800017408=up (t+4607182418800017408) 0:=by unfold up;omega
 have hneg:=oH (up (t+4607182418800017408) (q-1023)) (by omega)
 clear hp hl hX hmax hmono
 generalize t+4607182418800017408=X at*
 have H0:Hid (X=up X 0):=h0
 have HS:Hid (∀j,j<q-1023->∀w,(binOp .mul 29 (.float .f64 (W false (up X j))) (.float .f64 4611686018427387904)).run Tryz.prog w=.ok (.float .f64 (W false (up X (j+1)))) w):=hstep
 have HN:Hid (∀w,(Op.unary .neg (.float .f64 (W false (up X (q-1023))))).run Tryz.prog w=.ok (.float .f64 (W true (up X (q-1023)))) w):=hneg
 clear h0 hstep hneg
 have hq3:((q:Int)==2047)=false:=beq_eq_false_iff_ne.2 (by omega)
 go_enter Tryz.func133,Tryz.ntmps133
 go_wp2_with fail
 clear hrun1 hrun2 hq ht ht0
 go_loop [5,3] (λv e=>∃j:Nat,j<=q-1023/\v=.float .f64 (W false (up X j))/\e=.int .i64 ((q:Int)-j)) (λ_ e=>(intOf e).toNat)
 case atStart=>exact⟨0,by omega,by rw[<-H0.out],by simp⟩
 case round=>
  obtain⟨j,hj,rfl,rfl⟩:=hrel
  by_cases hc:j<q-1023
  ·have hrun:=HS.out j hc
   go_wp2
   go_round
   case rel=>exact⟨j+1,by omega,rfl,by go_num⟩
   case measure=>simp[intOf];omega
  ·obtain rfl:j=q-1023:=by omega
   have hrun:=HN.out
   clear hc hj
   have hj2:((q-1023:Nat):Int)=(q:Int)-1023:=by omega
   rw[hj2]
   clear hj2
   go_wp2_with fail
   go_loop [5,3] (λv e=>v=.float .f64 (W false (up X (q-1023)))/\e=.int .i64 1023) (λ_ e=>0)
   case atStart=>exact⟨rfl,by congr 1;omega⟩
   case round=>
    obtain⟨rfl,rfl⟩:=hrel
    clear hb hq1 hq2
    cases s
    ·have hs':(b:Int)<9223372036854775808:=hs
     have hs2:decide (9223372036854775808<=(b:Int))=false:=decide_eq_false (by omega)
     clear hs hs'
     go_wp2
     go_ret
     exact⟨rfl,rfl⟩
    ·have hs':9223372036854775808<=(b:Int):=hs
     have hs2:decide (9223372036854775808<=(b:Int))=true:=decide_eq_true (by omega)
     clear hs hs'
     go_wp2
     go_ret
     exact⟨rfl,rfl⟩
theorem sK (s:Bool)(b q t:Nat)(w:World)(hq:(b:Int)/4503599627370496%2048=(q:Int))(ht:(b:Int)%4503599627370496=(t:Int))
  (hs:if s then 9223372036854775808<=(b:Int) else (b:Int)<9223372036854775808) (hb:b<18446744073709551616)
  (hq1:1<=q) (hq2:q<=1023) (ht0:t<4503599627370496):
  Calls Tryz.prog 133 #[.int .u64 (b:Int)] w λe w'=>oI s (dn (t+4607182418800017408) (1023-q)) w e w':=by
 obtain⟨p,hp,hl,hrun1⟩:=lU t ht0
 have hrun2:=tS t p ht0 hp hl
 have hstep:∀j,j<1023-q->∀w,(binOp .quo 29 (.float .f64 (W false (dn (t+4607182418800017408) j))) (.float .f64 4611686018427387904)).run Tryz.prog w=.ok (.float .f64 (W false (dn (t+4607182418800017408) (j+1)))) w:=
  λj hj=>CH (by
   unfold dn
   have:j*4503599627370496<=1021*4503599627370496:=Nat.mul_le_mul_right _ (by omega)
   omega) (by omega)
 have h0:t+4607182418800017408=dn (t+4607182418800017408) 0:=by unfold dn;omega
 have hneg:=oH (dn (t+4607182418800017408) (1023-q)) (by have:dn (t+4607182418800017408) (1023-q)<=t+4607182418800017408:=Nat.sub_le _ _;omega)
 clear hp hl
 generalize t+4607182418800017408=X at*
 have H0:Hid (X=dn X 0):=h0
 have HS:Hid (∀j,j<1023-q->∀w,(binOp .quo 29 (.float .f64 (W false (dn X j))) (.float .f64 4611686018427387904)).run Tryz.prog w=.ok (.float .f64 (W false (dn X (j+1)))) w):=hstep
 have HN:Hid (∀w,(Op.unary .neg (.float .f64 (W false (dn X (1023-q))))).run Tryz.prog w=.ok (.float .f64 (W true (dn X (1023-q)))) w):=hneg
 clear h0 hstep hneg
 have hq3:((q:Int)==2047)=false:=beq_eq_false_iff_ne.2 (by omega)
 go_enter Tryz.func133,Tryz.ntmps133
 go_wp2_with fail
 clear hrun1 hrun2 hq ht ht0 hb
 go_loop [5,3] (λv e=>v=.float .f64 (W false X)/\e=.int .i64 (q:Int)) (λ_ e=>0)
 case atStart=>exact⟨rfl,rfl⟩
 case round=>
  obtain⟨rfl,rfl⟩:=hrel
  go_wp2_with fail
  go_loop [5,3] (λv e=>∃j:Nat,j<=1023-q/\v=.float .f64 (W false (dn X j))/\e=.int .i64 ((q:Int)+j)) (λ_ e=>1023-(intOf e).toNat)
  case atStart=>exact⟨0,by omega,by rw[<-H0.out],by simp⟩
  case round=>
   obtain⟨j,hj,rfl,rfl⟩:=hrel
   by_cases hc:j<1023-q
   ·have hrun:=HS.out j hc
    go_wp2
    go_round
    case rel=>exact⟨j+1,by omega,rfl,by go_num⟩
    case measure=>simp[intOf];omega
   ·obtain rfl:j=1023-q:=by omega
    have hrun:=HN.out
    have hj2:((1023-q:Nat):Int)=1023-(q:Int):=by omega
    rw[hj2]
    clear hj2 hc hj
    cases s
    ·have hs1:(b:Int)<9223372036854775808:=hs
     have hs2:decide (9223372036854775808<=(b:Int))=false:=decide_eq_false (by omega)
     clear hs hs1
     go_wp2
     go_ret
     exact⟨rfl,rfl⟩
    ·have hs1:9223372036854775808<=(b:Int):=hs
     have hs2:decide (9223372036854775808<=(b:Int))=true:=decide_eq_true (by omega)
     clear hs hs1
     go_wp2
     go_ret
     exact⟨rfl,rfl⟩
theorem xZ {k:Nat}(h:val p=t*p2 (k+1))(hp:p<9218868437227405312)(ht:t<4503599627370496)(hk:k<=1022):
  ∃p',val p'=t*p2 k/\p'<9218868437227405312/\∀w,(binOp .quo 29 (.float .f64 (W false p)) (.float .f64 4611686018427387904)).run Tryz.prog w=.ok (.float .f64 (W false p')) w:=by
 obtain⟨p',hp',hl⟩:=CF t ht k (by omega)
 refine⟨p',hp',hl,λw=>run_float_arith w .quo 29 .f64 _ 4611686018427387904 _ (vD (s:=false) hp ?_)⟩
 rw[h,hp',rU]
 exact Nat.mul_left_comm _ _ _
theorem sL (s:Bool)(b t:Nat)(w:World)(hq:(b:Int)/4503599627370496%2048=0)(ht:(b:Int)%4503599627370496=(t:Int))
  (hs:if s then 9223372036854775808<=(b:Int) else (b:Int)<9223372036854775808) (hb:b<18446744073709551616) (ht0:t<4503599627370496):
  Calls Tryz.prog 133 #[.int .u64 (b:Int)] w λe w'=>oI s t w e w':=by
 obtain⟨p,hp,hl,hrun1⟩:=lU t ht0
 have HN:Hid (∀w,(Op.unary .neg (.float .f64 (W false t))).run Tryz.prog w=.ok (.float .f64 (W true t)) w):=oH t (by omega)
 have HP:Hid (val p=t*p2 1022):=hp
 have HT:Hid (t<4503599627370496):=ht0
 have HL:Hid (p<9218868437227405312):=hl
 clear hp hl
 go_enter Tryz.func133,Tryz.ntmps133
 go_wp2_with fail
 clear hrun1 hq ht ht0 hb
 go_loop [5,3] (λv e=>v=.float .f64 (W false p)/\e=.int .i64 1) (λ_ e=>0)
 case atStart=>exact⟨rfl,rfl⟩
 case round=>
  obtain⟨rfl,rfl⟩:=hrel
  go_wp2_with fail
  go_loop [5,3] (λv e=>∃j p':Nat,j<=1022/\Hid (val p'=t*p2 (1022-j))/\Hid (p'<9218868437227405312)/\v=.float .f64 (W false p')/\e=.int .i64 (1+(j:Int))) (λ_ e=>1023-(intOf e).toNat)
  case atStart=>exact⟨0,p,by omega,HP,HL,rfl,rfl⟩
  case round=>
   obtain⟨j,p',hj,hv,hl',rfl,rfl⟩:=hrel
   by_cases hc:j<1022
   ·obtain⟨pn,hvn,hln,hrun⟩:=xZ (k:=1022-(j+1)) (by rw[hv.out,show 1022-(j+1)+1=1022-j by omega]) hl'.out HT.out (by omega)
    have HVN:Hid (val pn=t*p2 (1022-(j+1))):=hvn
    have HLN:Hid (pn<9218868437227405312):=hln
    clear hvn hln
    go_wp2
    go_round
    case rel=>exact⟨j+1,pn,by omega,HVN,HLN,rfl,by go_num⟩
    case measure=>simp[intOf];omega
   ·obtain rfl:j=1022:=by omega
    have hpt:p'=t:=by
     have:=hv.out
     rw[show 1022-1022=0 from rfl,show p2 0=1 from rfl,Nat.mul_one] at this
     refine vC (this.trans (nE ?_).symm)
     have:=HT.out
     omega
    have hrun:=HN.out
    rw[hpt]
    clear hc hj hpt
    cases s
    ·have hs1:(b:Int)<9223372036854775808:=hs
     have hs2:decide (9223372036854775808<=(b:Int))=false:=decide_eq_false (by omega)
     clear hs hs1
     go_wp2
     go_ret
     exact⟨rfl,rfl⟩
    ·have hs1:9223372036854775808<=(b:Int):=hs
     have hs2:decide (9223372036854775808<=(b:Int))=true:=decide_eq_true (by omega)
     clear hs hs1
     go_wp2
     go_ret
     exact⟨rfl,rfl⟩
theorem sM (s:Bool)(b:Nat)(w:World)(hq:(b:Int)/4503599627370496%2048=2047)(ht:(b:Int)%4503599627370496=0)
  (hs:if s then 9223372036854775808<=(b:Int) else (b:Int)<9223372036854775808) (hb:b<18446744073709551616):
  Calls Tryz.prog 133 #[.int .u64 (b:Int)] w λe w'=>oI s 9218868437227405312 w e w':=by
 obtain⟨p,hp,hl,hrun1⟩:=lU 0 (by omega)
 have hp0:p=0:=vC (by rw[hp,Nat.zero_mul,kQ])
 subst hp0
 rw[show((0:Nat):Int)=0 from rfl] at hrun1
 have h1:FloatKind.f64.format.order (W false 0) 0=some .eq:=qN
 have h2:=ow
 have HN:=oH 9218868437227405312 (by omega)
 rw[show W false 9218868437227405312=9218868437227405312 from rfl] at HN
 clear hp hl
 cases s
 ·have hs':(b:Int)<9223372036854775808:=hs
  have hs2:decide (9223372036854775808<=(b:Int))=false:=decide_eq_false (by omega)
  clear hs hs'
  go_enter Tryz.func133,Tryz.ntmps133
  go_wp2
  go_ret
  exact⟨rfl,rfl⟩
 ·have hs':9223372036854775808<=(b:Int):=hs
  have hs2:decide (9223372036854775808<=(b:Int))=true:=decide_eq_true (by omega)
  clear hs hs'
  go_enter Tryz.func133,Tryz.ntmps133
  go_wp2
  go_ret
  exact⟨rfl,rfl⟩
theorem sN (b t:Nat)(w:World)(hq:(b:Int)/4503599627370496%2048=2047)(ht:(b:Int)%4503599627370496=(t:Int))(ht0:t<4503599627370496)(ht1:0<t)(hb:b<18446744073709551616):
  Calls Tryz.prog 133 #[.int .u64 (b:Int)] w λe w'=>∃y,e=.returned (.float .f64 y)/\fb y=9221120237041090560/\y<18446744073709551616/\∃m,w'=w.drewN m:=by
 obtain⟨p,hp,hl,hrun1⟩:=lU t ht0
 have hp0:0<p:=by
  rcases Nat.eq_zero_or_pos p with h|h
  ·rw[h,kQ] at hp
   have:=Nat.mul_pos ht1 (mH 1022)
   omega
  ·exact h
 have h1:(FloatKind.f64.format.order (W false p) 0 !=some .eq)=true:=by
  rw[show FloatKind.f64.format.order (W false p) 0=_ from xE hp0 (by omega)];rfl
 have h2:(binOp .quo 29 (.float .f64 0) (.float .f64 0)).run Tryz.prog w=_:=ms w 29 0 0
 clear hp hl ht0 ht1 hp0
 go_enter Tryz.func133,Tryz.ntmps133
 go_wp2
 go_ret
 refine⟨_,rfl,?_,jQ _ _ _ _,_,rfl⟩
 rw[kD]
 decide
theorem uR (s:Bool)(r:Nat):W s r=if s then r+9223372036854775808 else r:=by unfold W;rw[Nat.add_comm]
theorem EO (h:r<9223372036854775808):((W s r:Nat):Int)/4503599627370496%2048=((r/4503599627370496:Nat):Int):=by
 rw[uR];split<;>omega
theorem EP (_h:r<9223372036854775808):((W s r:Nat):Int)%4503599627370496=((r%4503599627370496:Nat):Int):=by
 rw[uR];split<;>omega
theorem EQ (h:r<9223372036854775808):if s then 9223372036854775808<=((W s r:Nat):Int) else ((W s r:Nat):Int)<9223372036854775808:=by
 rw[uR];cases s
 ·simp only[Bool.false_eq_true,if_false];omega
 ·simp only[if_true];omega
theorem CI (h:1023<r/4503599627370496):up (r%4503599627370496+4607182418800017408) (r/4503599627370496-1023)=r:=by
 unfold up;omega
theorem CJ (h:1<=r/4503599627370496)(h':r/4503599627370496<=1023):dn (r%4503599627370496+4607182418800017408) (1023-r/4503599627370496)=r:=by
 unfold dn;omega
theorem nN {w:World}{f:FuncId}{args:Array Value}(hr:r<9223372036854775808)(h:Calls Tryz.prog f args w λe w'=>oI s r w e w'):
  Calls Tryz.prog f args w λe w'=>∃y,e=.returned (.float .f64 y)/\fb y=fb (W s r)/\y<18446744073709551616/\∃m,w'=w.drewN m:=
 h.mono λ_ _ k=>⟨W s r,k.1,rfl,wn hr,0,k.2⟩
theorem tT (b:Nat)(w:World)(hb:b<18446744073709551616):
  Calls Tryz.prog 133 #[.int .u64 (b:Int)] w λe w'=>∃y,e=.returned (.float .f64 y)/\fb y=fb b/\y<18446744073709551616/\∃m,w'=w.drewN m:=by
 obtain⟨s,r,hr,rfl⟩:=mI b hb
 have hq:=EO (s:=s) hr
 have ht:=EP (s:=s) hr
 have hs:=EQ (s:=s) hr
 have ht0:r%4503599627370496<4503599627370496:=Nat.mod_lt _ (by omega)
 rcases Nat.lt_or_ge 1023 (r/4503599627370496) with h1|h1
 ·rcases Nat.lt_or_ge 2046 (r/4503599627370496) with h2|h2
  ·have hq2:r/4503599627370496=2047:=by omega
   rw[hq2] at hq
   rcases Nat.eq_zero_or_pos (r%4503599627370496) with h3|h3
   ·rw[h3] at ht
    have hrr:r=9218868437227405312:=by omega
    have:=nN (by omega) (sM s _ w hq ht hs hb)
    rw[<-hrr] at this
    exact this
   ·rw[Cj (by omega) hr]
    exact sN _ _ w hq ht ht0 h3 hb
  ·have:=sJ s _ _ _ w hq ht hs hb h1 h2 ht0
   rw[CI h1] at this
   exact nN hr this
 ·rcases Nat.eq_zero_or_pos (r/4503599627370496) with h2|h2
  ·rw[h2] at hq
   have hrr:r%4503599627370496=r:=by omega
   have:=sL s _ _ w hq ht hs hb ht0
   rw[hrr] at this
   exact nN hr this
  ·have:=sK s _ _ _ w hq ht hs hb h2 h1 ht0
   rw[CJ h2 h1] at this
   exact nN hr this
end
section
open Go.RowKit Flt
attribute [local go_sem] ic ib
theorem oJ (b:Nat)(w:World):(Op.unary .neg (.float .f64 b)).run Tryz.prog w=.ok (.float .f64 (Op.negFloat .f64 b)) w:=rfl
theorem x6 {b:Nat}(h:b<18446744073709551616):Op.negFloat .f64 b<18446744073709551616:=by
 obtain⟨s,r,hr,rfl⟩:=mI b h
 rw[rn s hr];exact wn hr
theorem qf (n:Int):floatOfInt .f64 n<18446744073709551616:=by
 have:=floatOfInt_wf .f64 n
 simpa[Lit.wf] using this
theorem lu (n:Int):IntKind.u64.wrap n<18446744073709551616:=by rw[IntKind.wrap_u64];omega
theorem CK (a b:Int)(h1:0<=a)(h2:a<18446744073709551616)(h3:0<=b)(h4:b<18446744073709551616):∃n:Nat,bits .or .u64 a b=(n:Int)/\n<18446744073709551616:=by
 refine⟨_,u64_or a b h1 h2 h3 h4,?_⟩
 have:a.toNat|||b.toNat<2 ^ 64:=Nat.or_lt_two_pow (by omega) (by omega)
 simpa using this
theorem Ak (x:Nat):x%16<6\/(6<=x%16/\x%16<9)\/x%16=9\/x%16=10\/x%16=11\/x%16=12\/x%16=13\/x%16=14\/x%16=15:=by omega
theorem kj {S:Nat->Prop}(w W':World)(xs:Array Value)(T:TypeId)(k:Chg S (w.alloc (.cells xs T)) W')(hS:¬S w.heap.size):(∀o,W'.cell? ⟨w.heap.size,o,none⟩=xs[o]?)/\(∀o,W'.frozen? ⟨w.heap.size,o,none⟩=false)/\w.heap.size<W'.heap.size:=by
 have h1:w.heap.size<(w.alloc (.cells xs T)).heap.size:=by simp
 refine⟨λo=>?_,λo=>?_,Nat.lt_of_lt_of_le h1 k.size⟩
 ·rw[k.cell h1 hS,World.cell?_alloc_new]
 ·rw[k.frozen h1 hS]
  simp[World.frozen?,World.alloc,-World.alloc_eq]
theorem vL (w:World)(a:Option Addr)(n m cap:Nat)(xs:List Int)(h:YS w a n xs)(hm:m<=n)(hm':m<=500)(hx:(xs.take 500).length=m)(T:TypeId):
  RdF (w.alloc (.cells #[.slice a m cap,.int .i64 0] T)) w.heap.size a m cap 0 (xs.take 500):=by
 have hb:=kj (S:=λ_=>False) w _ #[.slice a m cap,.int .i64 0] T (Kept.refl 0 0 _).chg (λc=>c)
 refine⟨hb.2.2,hb.1 0,hb.1 1,hb.2.1 1,Nat.zero_le _,hm',⟨hx,λx q=>h.lt x (List.mem_of_mem_take q),?_⟩,?_⟩
 ·rcases h.at_ with q|⟨g,off,e,h3,h4⟩
  ·exact .inl (by omega)
  ·refine .inr ⟨g,off,e,Nat.lt_of_lt_of_le h3 (hU 0 0 w _).size,λk hk=>?_⟩
   rw[(hU 0 0 w _).cell (p:=⟨g,off+k,none⟩) h3 (by omega),h4 k (by omega)]
   rw[List.getD_eq_getElem?_getD,List.getD_eq_getElem?_getD,List.getElem?_take,if_pos (by omega)]
 ·intro h0 g off e
  rcases h.at_ with q|⟨g',off',e',h3,h4⟩
  ·omega
  ·rw[e] at e'
   injection e' with e'
   injection e' with e1
   omega
theorem CL (w:World)(a:Option Addr)(n cap:Nat)(xs:List Int)(h:YS w a n xs)(hc:n<=cap):
  Calls Tryz.prog 36 #[.slice a n cap] w λe w'=>e=.returned (.pointer (some ⟨w.heap.size,0,none⟩))/\(∃m,RdF w' w.heap.size a m cap 0 (xs.take 500))/\Kept 0 0 w w':=by
 have hl:=h.len
 by_cases hn:n<=500
 ·have H:Hid _:=vL w a n n cap xs h (Nat.le_refl _) hn (by rw[List.length_take];omega) 96
  have HK:Hid _:=hU 0 0 w (.cells #[.slice a n cap,.int .i64 0] 96)
  clear h
  go_enter Tryz.func36,Tryz.ntmps36
  go_wp2
  go_ret
  exact⟨rfl,⟨n,H.out⟩,HK.out⟩
 ·obtain⟨x,rfl⟩:∃x,a=some x:=by
   rcases h.at_ with q|⟨g,off,e,_⟩
   ·omega
   ·exact⟨_,e⟩
  have H:Hid _:=vL w (some x) n 500 cap xs h (by omega) (Nat.le_refl _) (by rw[List.length_take];omega) 96
  have HK:Hid _:=hU 0 0 w (.cells #[.slice (some x) 500 cap,.int .i64 0] 96)
  have hc2:500<=cap:=by omega
  have hn:500<n:=by omega
  clear h
  go_enter Tryz.func36,Tryz.ntmps36
  go_wp2
  go_ret
  exact⟨rfl,⟨500,H.out⟩,HK.out⟩
def niN (bs:List Int)(i:Nat):Nat->Nat
 |0=>i
 |k+1=>ni bs (niN bs i k)
def dfI (bs:List Int)(i:Nat):Nat:=if nv bs i%16=10 then ni bs (ni bs i) else if 14<=nv bs i%16 then niN bs (ni bs i) 8 else ni bs i
def DfO (P:Nat)(a:Option Addr)(n cap i:Nat)(bs:List Int)(w:World)(e:Ending)(w':World):Prop:=∃z,e=.returned (.float .f64 z)/\z<18446744073709551616/\RdF w' P a n cap i bs/\Kept P (P+1) w w'
theorem RdF.drw {w:World}{P:Nat}{a:Option Addr}{n cap i:Nat}{bs:List Int}(f:RdF w P a n cap i bs)(m:Nat):RdF (w.drewN m) P a n cap i bs:=f.keep (iq 0 0 w m) (.inr (Nat.le_refl _))
theorem CM (w:World)(P:Nat)(a:Option Addr)(n cap i:Nat)(bs:List Int)(h:RdF w P a n cap i bs):
  Calls Tryz.prog 119 #[.pointer (some ⟨P,0,none⟩)] w (DfO P a n cap (dfI bs i) bs w):=by
 have hx:=iK h.ys i
 have HN:Hid _:=lj w P a n cap i bs h
 have HD:Hid (dfI bs i=if nv bs i%16=10 then ni bs (ni bs i) else if 14<=nv bs i%16 then niN bs (ni bs i) 8 else ni bs i):=rfl
 generalize dfI bs i=di at HD ⊢
 generalize nv bs i=x at HN HD hx
 unfold DfO
 have f1:=@ms Tryz.prog
 have f2:=@mY Tryz.prog
 have f3:=oJ
 clear h
 go_enter Tryz.func119,Tryz.ntmps119
 go_wp2_with fail
 refine Calls.mono HN.out ?_
 rintro e w1 ⟨rfl,h1,hb1,hz1⟩
 clear hz1 HN
 have HP:Hid (x%16≠10->x%16<14->di=ni bs i):=λc d=>by rw[HD.out,if_neg c,if_neg (by omega)]
 have H10:Hid (x%16=10->di=ni bs (ni bs i)):=λc=>by rw[HD.out,if_pos c]
 have H14:Hid (14<=x%16->di=niN bs (ni bs i) 8):=λc=>by rw[HD.out,if_neg (by omega),if_pos c]
 clear HD
 rcases Ak x with hk|hk|hk|hk|hk|hk|hk|hk|hk
 ·have hd:=HP.out (by omega) (by omega)
  clear HP H10 H14
  subst hd
  have hk':(x:Int)%16<6:=by omega
  clear hk
  go_wp2
  go_ret
  exact⟨_,rfl,qf _,h1,hb1⟩
 ·have hd:=HP.out (by omega) (by omega)
  clear HP H10 H14
  subst hd
  have hk':6<=(x:Int)%16:=by omega
  have hk'':(x:Int)%16<9:=by omega
  clear hk
  go_wp2
  go_ret
  exact⟨_,rfl,x6 (qf _),h1,hb1⟩
 ·have hd:=HP.out (by omega) (by omega)
  clear HP H10 H14
  subst hd
  have hk':(x:Int)%16=9:=by omega
  clear hk
  go_wp2
  go_ret
  exact⟨_,rfl,jQ _ _ _ _,h1.drw _,hb1.trans (iq _ _ _ _)⟩
 ·have hd:=H10.out hk
  clear HP H10 H14
  subst hd
  have hk':(x:Int)%16=10:=by omega
  clear hk
  go_wp2_with fail
  refine(lj _ _ _ _ _ _ _ h1).mono ?_
  rintro e w2 ⟨rfl,h2,hb2,hz2⟩
  clear hz2
  go_wp2
  go_ret
  exact⟨_,rfl,jQ _ _ _ _,h2.drw _,hb1.trans (hb2.trans (iq _ _ _ _))⟩
 ·have hd:=HP.out (by omega) (by omega)
  clear HP H10 H14
  subst hd
  have hx':x=11\/x=27\/x=43\/x=59\/x=75\/x=91\/x=107\/x=123\/x=139\/x=155\/x=171\/x=187\/x=203\/x=219\/x=235\/x=251:=by omega
  clear hk hx
  rcases hx' with rfl|rfl|rfl|rfl|rfl|rfl|rfl|rfl|rfl|rfl|rfl|rfl|rfl|rfl|rfl|rfl
  all_goals
   go_wp2
   go_ret
   refine⟨_,rfl,?_,(h1.keep (hU 0 0 _ _) (.inr (Nat.le_refl _))).drw _,(hb1.trans (hU _ _ _ _)).trans (iq _ _ _ _)⟩
   first|exact jQ _ _ _ _|exact x6 (by omega)|omega
 ·have hd:=HP.out (by omega) (by omega)
  clear HP H10 H14
  subst hd
  have hk':(x:Int)%16=12:=by omega
  clear hk
  go_wp2
  go_ret
  exact⟨_,rfl,jQ _ _ _ _,h1.drw _,hb1.trans (iq _ _ _ _)⟩
 ·have hd:=HP.out (by omega) (by omega)
  clear HP H10 H14
  subst hd
  have hk':(x:Int)%16=13:=by omega
  clear hk
  go_wp2
  go_ret
  exact⟨_,rfl,jQ _ _ _ _,h1.drw _,hb1.trans (iq _ _ _ _)⟩
 ·have hd:=H14.out (by omega)
  clear HP H10 H14
  have HDi:Hid _:=hd
  clear hd
  have HK:Hid ((x:Int)%16=14):=by show(x:Int)%16=14;omega
  have hk':=HK.out
  clear hk
  go_wp2_with fail
  clear f1 f2 f3 hk' hx
  go_loopw [9,10] (λb t W=>∃(j:Nat) (bv:Int),j<=8/\t=.int .i64 (j:Nat)/\b=.int .u64 bv/\0<=bv/\bv<18446744073709551616/\RdF W P a n cap (niN bs (ni bs i) j) bs/\Kept P (P+1) w W) (λ_ t _=>8-(intOf t).toNat)
  case atStart=>exact⟨0,0,by omega,rfl,rfl,by omega,by omega,h1,hb1⟩
  case round=>
   obtain⟨j,bv,hj,rfl,rfl,hb0,hb2,hR,hB⟩:=hrel
   by_cases hlt:j<8
   ·go_wp2_with fail
    refine(lj _ _ _ _ _ _ _ hR).mono ?_
    rintro e w2 ⟨rfl,h2,hb3,hz2⟩
    clear hz2
    go_wp2
    go_roundw
    case rel=>first|exact⟨j+1,_,by omega,by go_num,rfl,wrap_u64_nonneg _,lu _,h2,hB.trans hb3⟩|((repeat apply Exists.intro);exact⟨⟨j+1,_,by omega,by go_num,rfl,wrap_u64_nonneg _,lu _,h2,hB.trans hb3⟩,rfl⟩)
    case measure=>simp[intOf];omega
   ·have hj8:j=8:=by omega
    have hk':=HK.out
    have HB:Hid (0<=bv/\bv<18446744073709551616):=⟨hb0,hb2⟩
    have HR:Hid _:=hR
    rw[hj8] at HR
    clear hb0 hb2 hR hj8 hj
    go_wp2_with fail
    obtain⟨nb,hnb,hlt2⟩:=CK bv (IntKind.u64.wrap (IntKind.u64.wrap (wrap64 ((x:Int)/16))*576460752303423488)) HB.out.1 HB.out.2 (wrap_u64_nonneg _) (lu _)
    rw[hnb]
    refine(tT nb _ hlt2).mono ?_
    rintro e w2 ⟨y,rfl,hy,hyl,m,rfl⟩
    clear hnb hlt2 hy hk'
    go_wp2
    go_ret
    rw[HDi.out]
    exact⟨_,rfl,hyl,HR.out.drw _,hB.trans (iq _ _ _ _)⟩
 ·have hd:=H14.out (by omega)
  clear HP H10 H14
  have HDi:Hid _:=hd
  clear hd
  have HK:Hid ((x:Int)%16=15):=by show(x:Int)%16=15;omega
  have hk':=HK.out
  clear hk
  go_wp2_with fail
  clear f1 f2 f3 hk' hx
  go_loopw [9,10] (λb t W=>∃(j:Nat) (bv:Int),j<=8/\t=.int .i64 (j:Nat)/\b=.int .u64 bv/\0<=bv/\bv<18446744073709551616/\RdF W P a n cap (niN bs (ni bs i) j) bs/\Kept P (P+1) w W) (λ_ t _=>8-(intOf t).toNat)
  case atStart=>exact⟨0,0,by omega,rfl,rfl,by omega,by omega,h1,hb1⟩
  case round=>
   obtain⟨j,bv,hj,rfl,rfl,hb0,hb2,hR,hB⟩:=hrel
   by_cases hlt:j<8
   ·go_wp2_with fail
    refine(lj _ _ _ _ _ _ _ hR).mono ?_
    rintro e w2 ⟨rfl,h2,hb3,hz2⟩
    clear hz2
    go_wp2
    go_roundw
    case rel=>first|exact⟨j+1,_,by omega,by go_num,rfl,wrap_u64_nonneg _,lu _,h2,hB.trans hb3⟩|((repeat apply Exists.intro);exact⟨⟨j+1,_,by omega,by go_num,rfl,wrap_u64_nonneg _,lu _,h2,hB.trans hb3⟩,rfl⟩)
    case measure=>simp[intOf];omega
   ·have hj8:j=8:=by omega
    have hk':=HK.out
    have HB:Hid (0<=bv/\bv<18446744073709551616):=⟨hb0,hb2⟩
    have HR:Hid _:=hR
    rw[hj8] at HR
    clear hb0 hb2 hR hj8 hj
    go_wp2_with fail
    obtain⟨nb,hnb⟩:=Int.eq_ofNat_of_zero_le HB.out.1
    have hlt2:nb<18446744073709551616:=by have:=HB.out.2;omega
    rw[hnb]
    clear hnb
    refine(tT nb _ hlt2).mono ?_
    rintro e w2 ⟨y,rfl,hy,hyl,m,rfl⟩
    clear hy hk'
    go_wp2
    go_ret
    rw[HDi.out]
    exact⟨_,rfl,hyl,HR.out.drw _,hB.trans (iq _ _ _ _)⟩
end
section
open Go.RowKit Flt
attribute [local go_sem] ic ib ia
variable {w w':World} {S T:Nat->Prop} {g:Nat} {xs:List Bool}
def BR (w:World)(g:Nat)(xs:List Bool):Prop:=w.heap[g]? =some (.cells (xs.map Value.bool).toArray 4 (0,0))
theorem BR.lt (h:BR w g xs):g<w.heap.size:=by
 unfold BR at h
 rcases Nat.lt_or_ge g w.heap.size with c|c
 ·exact c
 ·rw[Array.getElem?_eq_none c] at h;cases h
theorem BR.cell (h:BR w g xs)(k:Nat)(hk:k<xs.length):w.cell? ⟨g,k,none⟩=some (.bool (xs.getD k false)):=by
 rw[cell_of_row w g k _ _ _ h]
 simp[hk,List.getD_eq_getElem?_getD]
theorem BR.free (h:BR w g xs)(k:Nat):w.frozen? ⟨g,k,none⟩=false:=frozen_of_row w g k _ _ h
theorem BR.keep {l h:Nat}(f:BR w g xs)(k:Kept l h w w')(hd:g<l\/h<=g\/h<=l):BR w' g xs:=by
 unfold BR
 rw[k.block g f.lt (by omega)]
 exact f
theorem BR.keepC (f:BR w g xs)(k:Chg S w w')(hd:¬S g):BR w' g xs:=by
 unfold BR
 rw[k.block g f.lt hd]
 exact f
theorem BR.set (h:BR w g xs)(k:Nat)(x:Bool):BR (w.setCell ⟨g,k,none⟩ (.bool x)) g (xs.set k x):=by
 unfold BR at h ⊢
 rw[heap_setCell_same w g k _ _ _ h]
 simp[List.map_set]
theorem BR.made (w:World)(n:Nat):BR (w.alloc (.cells (madeCells #[.bool false] n) 4)) w.heap.size (List.replicate n false):=by
 unfold BR
 rw[heap_alloc_new]
 have:(madeCells #[.bool false] n)=(List.map Value.bool (List.replicate n false)).toArray:=by
  apply Array.toList_inj.1
  rw[toList_madeCells_one]
  simp
 rw[this]
theorem ER:(Tryz.prog.info? 4).map (λi=>(i.zero,i.size,i.bytes))=some (some (.bool false),1,1):=by kernel_rfl
theorem uS (n:Nat)(w:World)(hn:n<=1099511627776):
  (Instr.makeSlice 79 (.int .i64 (n:Int)) (.int .i64 (n:Int))).run Tryz.prog w=.ok (.slice (some ⟨w.heap.size,0,none⟩) n n) (w.alloc (.cells (madeCells #[.bool false] n) 4)):=by
 obtain⟨i,hi,hz0,hz1,hz2⟩:=info_parts ER
 have:=run_make (P:=Tryz.prog) w 79 4 i (.bool false) Tryz.underlying79 hi hz0 .i64 .i64 n n (by omega) (by omega) (by rw[hz2];omega) (by omega)
 rw[hz1,Nat.mul_one,Int.toNat_natCast] at this
 exact this
theorem IR.keepC {xs:List Int}(f:IR w g xs)(k:Chg S w w')(hd:¬S g):IR w' g xs:=by
 unfold IR
 rw[k.block g f.lt hd]
 exact f
theorem VA.keepC {n:Nat}{vs:List Vl}(q:VA w g n vs)(k:Chg S w w')(hd:¬S g):VA w' g n vs:=
 ⟨q.len,Nat.lt_of_lt_of_le q.lt k.size,λj hj=>by
  have e:∀o,w'.cell? ⟨g,o,none⟩=w.cell? ⟨g,o,none⟩:=λo=>k.cell (p:=⟨g,o,none⟩) q.lt hd
  obtain⟨c0,c1,c2,c3,c4,c5⟩:=q.at_ j hj
  exact⟨by rw[e];exact c0,by rw[e];exact c1,by rw[e];exact c2,by rw[e];exact c3,by rw[e];exact c4,by rw[e];exact c5⟩,λo=>by rw[k.frozen (p:=⟨g,o,none⟩) q.lt hd];exact q.free o⟩
theorem Chg.mono (h:Chg S w w')(hs:∀b,b<w.heap.size->S b->T b):Chg T w w':=
 ⟨h.os,h.tape,h.output,h.size,λk hk hn=>h.block k hk λc=>hn (hs k hk c)⟩
theorem Chg.new {a b c:World}(h:Chg S a b)(k:Chg T b c)(hT:∀i,i<a.heap.size->T i->S i):Chg S a c:=
 ⟨k.os.trans h.os,k.tape.trans h.tape,k.output.trans h.output,Nat.le_trans h.size k.size,λi hi hn=>(k.block i (Nat.lt_of_lt_of_le hi h.size) (λc=>hn (hT i hi c))).trans (h.block i hi hn)⟩
theorem iH (w:World)(g o:Nat)(v:Value)(h:S g):Chg S w (w.setCell ⟨g,o,none⟩ v):=
 (it (lo:=g) (hi:=g+1) w ⟨g,o,none⟩ v (.inl ⟨Nat.le_refl _,Nat.lt_succ_self _⟩)).chg1 h
theorem uT (w:World)(_lo g1 g2 g3 n1 c1 n2 c2 n3 c3:Nat)(ins:List Int)(vs:List Vl)(outs:List Int)(f:GN w g1 g2 g3 n2 ins vs outs)(e1:ins.length=n1)(e3:outs.length=n3)(l1:n1<=1000000)(l2:n2<=2000)(l3:n3<=1000000):
  Calls Tryz.prog 59 #[ip (some ⟨g1,0,none⟩) n1 c1 (some ⟨g2,0,none⟩) n2 c2 (some ⟨g3,0,none⟩) n3 c3] w λe w'=>∃G1 d1 G2 d2 G3 d3,e=.returned (ip (some ⟨G1,0,none⟩) n1 d1 (some ⟨G2,0,none⟩) n2 d2 (some ⟨G3,0,none⟩) n3 d3)/\OI w' w.heap.size G1 n1 d1 ins/\w'.ownsRow w.heap.size 31 6 (.slice (some ⟨G2,0,none⟩) n2 d2) n2 (iN vs)/\OI w' w.heap.size G3 n3 d3 outs/\(w.heap.size<=G1/\G1<G2/\G2<G3/\G3<w'.heap.size)/\Kept 0 0 w w':=by
 have k0:=hU 0 0 w (iv (some ⟨g1,0,none⟩) n1 c1 (some ⟨g2,0,none⟩) n2 c2 (some ⟨g3,0,none⟩) n3 c3)
 have k0':=hU 0 0 (w.alloc (iv (some ⟨g1,0,none⟩) n1 c1 (some ⟨g2,0,none⟩) n2 c2 (some ⟨g3,0,none⟩) n3 c3)) iw
 have HB:Hid _:=(iO w (.slice (some ⟨g1,0,none⟩) n1 c1) (.slice (some ⟨g2,0,none⟩) n2 c2) (.slice (some ⟨g3,0,none⟩) n3 c3)).keep k0'
 have hz:(w.alloc (iv (some ⟨g1,0,none⟩) n1 c1 (some ⟨g2,0,none⟩) n2 c2 (some ⟨g3,0,none⟩) n3 c3)).heap.size=w.heap.size+1:=by simp
 have hR:=i9 (w.alloc (iv (some ⟨g1,0,none⟩) n1 c1 (some ⟨g2,0,none⟩) n2 c2 (some ⟨g3,0,none⟩) n3 c3))
 rw[hz] at hR
 have HR:Hid _:=hR
 have HK:Hid _:=k0.trans k0'
 have HI1:Hid _:=f.i.keep (k0.trans k0') (.inr (.inr (Nat.le_refl _)))
 have HI2:Hid _:=f.v.keep (k0.trans k0') (.inr (.inr (Nat.le_refl _)))
 have HI3:Hid _:=f.o.keep (k0.trans k0') (.inr (.inr (Nat.le_refl _)))
 have HZ:Hid (((w.alloc (iv (some ⟨g1,0,none⟩) n1 c1 (some ⟨g2,0,none⟩) n2 c2 (some ⟨g3,0,none⟩) n3 c3)).alloc iw).heap.size=w.heap.size+1+1):=by show _=_;simp
 have HVL:Hid (vs.length=n2):=f.v.len
 clear f k0 k0' hz hR
 obtain⟨_,q0,q1,q2⟩:=HB.out
 go_enter Tryz.func59,Tryz.ntmps59
 go_wp2_with fail
 generalize (w.alloc (iv (some ⟨g1,0,none⟩) n1 c1 (some ⟨g2,0,none⟩) n2 c2 (some ⟨g3,0,none⟩) n3 c3)).alloc iw=w1 at HB HR HK HI1 HI2 HI3 HZ q0 q1 q2 ⊢
 have hPR:w.heap.size≠w.heap.size+1:=by omega
 go_region_held3 (λw'=>w'.cell? ⟨w.heap.size,0,none⟩=some (.slice (some ⟨g1,0,none⟩) n1 c1)/\w'.cell? ⟨w.heap.size,1,none⟩=some (.slice (some ⟨g2,0,none⟩) n2 c2)/\w'.cell? ⟨w.heap.size,2,none⟩=some (.slice (some ⟨g3,0,none⟩) n3 c3)) (first|go_keep|(simp only[xS _ _ _ _ _ _ _ hPR];exact⟨r0,r1,r2⟩))
  (first
   |(go_at_call 80;refine Calls.mono (xQ w3 g3 n3 c3 outs l3 (IE.keep HI3.out kk2 (.inr (.inr (Nat.le_refl _)))) e3) ?_;rintro e w4 ⟨G3,d3,rfl,b3,b3',o3,k3⟩;have kk3:=Kept.trans kk2 k3;obtain⟨_,r0,r1,r2⟩:=G0.keep HB.out kk3;obtain⟨_,j0,j1,j2,f0,f1,f2⟩:=RB.keep HR.out kk3)
   |(go_at_call 81;refine Calls.mono (CA w2 g2 n2 c2 vs (by omega) (VA.keep HI2.out kk1 (.inr (.inr (Nat.le_refl _))))) ?_;rintro e w3 ⟨G2,d2,rfl,b2,b2',o2,k2⟩;have kk2:=Kept.trans kk1 k2;obtain⟨_,t0,t1,t2⟩:=G0.keep HB.out kk2)
   |(go_at_call 80;refine Calls.mono (xQ (w1.drewN 1) g1 n1 c1 ins l1 (IE.drewN HI1.out 1) e1) ?_;rintro e w2 ⟨G1,d1,rfl,b1,b1',o1,k1⟩;have kk1:=Kept.trans (iq 0 0 w1 1) k1;obtain⟨_,s0,s1,s2⟩:=G0.keep HB.out kk1))
 have hz1:(w1.drewN 1).heap.size=w.heap.size+1+1:=HZ.out
 have hz2:(w1.drewN 1).heap.size<=w2.heap.size:=k1.size
 have hz3:w2.heap.size<=w3.heap.size:=k2.size
 have hz4:w3.heap.size<=w4.heap.size:=k3.size
 have H1:Hid (OI w4 w.heap.size G1 n1 d1 ins):=jP (iC o1 (k2.trans k3)) (by omega)
 have H2:Hid (w4.ownsRow w.heap.size 31 6 (.slice (some ⟨G2,0,none⟩) n2 d2) n2 (iN vs)):=jP (iC o2 k3) (by omega)
 have H3:Hid (OI w4 w.heap.size G3 n3 d3 outs):=jP o3 (by omega)
 have HD:Hid (G1<G2/\G2<G3/\w.heap.size+1+1<=G1/\G3<w4.heap.size):=⟨by omega,by omega,by omega,by omega⟩
 have HK4:Hid _:=HK.out.trans kk3
 clear q0 q1 q2 s0 s1 s2 t0 t1 t2 r0 r1 r2 b1 b2 b3 b1' b2' b3' o1 o2 o3 k1 k2 k3 kk1 kk2 kk3 hz1 hz2 hz3 hz4 HI1 HI2 HI3 HB
 go_wp2_with fail
 obtain⟨y0,y1,y2⟩:=iy w4 (w.heap.size+1) _ _ _ j0 j1 j2 (.slice (some ⟨G1,0,none⟩) n1 d1) (.slice (some ⟨G2,0,none⟩) n2 d2) (.slice (some ⟨G3,0,none⟩) n3 d3)
 have kp:=iD w4 (w.heap.size+1) (.slice (some ⟨G1,0,none⟩) n1 d1) (.slice (some ⟨G2,0,none⟩) n2 d2) (.slice (some ⟨G3,0,none⟩) n3 d3)
 refine bodyPost_ret (v:=ip (some ⟨G1,0,none⟩) n1 d1 (some ⟨G2,0,none⟩) n2 d2 (some ⟨G3,0,none⟩) n3 d3) (by simp[results,Tryz.results59,go_sem,y0,y1,y2]) rfl ⟨G1,d1,G2,d2,G3,d3,rfl,?_,?_,?_,?_,?_⟩
 ·exact iR H1.out kp (λg hg=>by
   have e:g=G1:=by simpa[Value.ownBlock] using hg.symm
   have:=HD.out;omega)
 ·exact iR H2.out kp (λg hg=>by
   have e:g=G2:=by simpa[Value.ownBlock] using hg.symm
   have:=HD.out;omega)
 ·exact iR H3.out kp (λg hg=>by
   have e:g=G3:=by simpa[Value.ownBlock] using hg.symm
   have:=HD.out;omega)
 ·have:=HD.out
  have:=kp.size
  omega
 ·exact HK4.out.new kp (by omega)
end
section
open Go.ChangeShapes Go.WideShapes Go.ChangeAt Go.RowKit Flt
theorem wH:Tryz.prog.cellsOf 5=1:=by kernel_rfl
theorem tU:laidOutB Tryz.prog=true:=by kernel_rfl
theorem qg {H:Type}{enc:TypeId×Value->H}{w:World}{base:Nat}{spare:Nat->Bool}{held:Bool}{a:Option Addr}{n cap:Nat}{d:DataW H}{ps:List MemPlace}
  (h:DataW.Trod enc Tryz.prog w base spare held 22 (.slice a n cap) d ps):n<=cap/\∃xs,YS w a n xs:=by
 obtain⟨fuel,hf⟩:=h
 rcases Deep.open_slice1 Tryz.underlying22 wH hf with⟨hcs,_⟩|⟨x,l,c,m,n',V,D,Pl,hcs,_,hl,_,hm,_,hV⟩
 ·simp[Value.cells] at hcs
  obtain⟨rfl,rfl,rfl⟩:=hcs
  exact⟨Nat.le_refl _,[],rfl,by simp,.inl rfl⟩
 ·simp[Value.cells] at hcs
  obtain⟨rfl,rfl,rfl⟩:=hcs
  refine⟨hl,?_⟩
  have hlm:n<=m:=by rw[hm];split<;>omega
  have key:∀i,i<n->∃b:Int,w.cell? (x.add i)=some (.int .u8 b)/\0<=b/\b<256:=λi hi=>by
   obtain⟨h1,h2⟩:=hV i (by omega)
   obtain⟨b,e,hw⟩:=DataW.trod_int Tryz.underlying5 h2
   simp at e
   have hb:0<=b/\b<256:=by
    have:=hw.2
    simp[Lit.wf,IntKind.min,IntKind.max,IntKind.signed,IntKind.bits] at this
    omega
   exact⟨b,by rw[h1,e],hb.1,hb.2⟩
  obtain⟨f,hf'⟩:=Deep.choose_lt (α:=Int) (p:=λi b=>w.cell? (x.add i)=some (.int .u8 b)/\0<=b/\b<256) key
  refine⟨(List.range n).map f,by simp,?_,?_⟩
  ·intro y hy
   simp only[List.mem_map,List.mem_range] at hy
   obtain⟨i,hi,rfl⟩:=hy
   exact(hf' i hi).2
  ·rcases Nat.eq_zero_or_pos n with h0|h0
   ·exact .inl h0
   ·obtain⟨b,off,spot⟩:=x
    have hspot:spot=none:=by simpa[Addr.add] using World.cell?_spot (hf' 0 h0).1
    subst hspot
    have h2:∀k,k<n->w.cell? ⟨b,off+k,none⟩=some (.int .u8 (((List.range n).map f).getD k 0)):=λk hk=>by
     have h1:=(hf' k hk).1
     rw[show((List.range n).map f).getD k 0=f k by simp[List.getD_eq_getElem?_getD,hk]]
     by_cases hk0:k=0
     ·subst hk0;simpa[Addr.add] using h1
     ·simpa[Addr.add,hk0] using h1
    have hb:=World.block_lt_of_cell? (h:=h2 0 h0)
    exact .inr ⟨b,off,rfl,hb,h2⟩
end
end Go.Proofs.YtnlffngpnoodkaaGreat
