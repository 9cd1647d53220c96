import Derived.Test.YtnlffngpnoodkaaGreatP19
namespace Go.Proofs.YtnlffngpnoodkaaGreat
set_option maxRecDepth 1000000
set_option maxHeartbeats 0
open Go.RowKit Flt
attribute [local go_sem] ic ib ia
variable {w wB w' W':World} {q A n P B l Mb G1 d1 n1 base G3 d3 n3:Nat} {v u y:Vl} {u1 u3 vv:Value} {r c:Int} {R' R:Option Nat} {vs:List Vl} {ins mv outs:List Int}
theorem BS.read (h:BS w P u1 u3 vs c base R vv)(hn:0<vs.length):
  ∃g cap,vv=.slice (some ⟨g,0,none⟩) vs.length cap/\g<w.heap.size/\∀i,i<vs.length->At w g (i*6) (vs.getD i Vl.zero):=by
 obtain⟨g,cap,e,_,hg,_,hA⟩:=kU h.own hn rfl
 exact⟨g,cap,e,hg,hA.at_⟩
def mvM (i:Int)(v:Vl)(ta tb tc:Int)(N:Nat):List Vl×Int:=
 if ta=-1/\tb=-1/\tc=-1 then ([],-1)
 else if v.op=2 then mb v.len ta tb N
 else if v.op=3 then oG v.len ta tb N
 else if v.op=4 then nX v ta tb N
 else if v.op=5 then xV i v ta tb N
 else if v.op=7 then ([ik 3 v.len v.a v.b 0]++(chM v.len N ta tb (N+1)).1,(chM v.len N ta tb (N+1)).2)
 else if v.op=8 then (if tb=-1/\tc=-1 then ([],-1) else chM v.len v.a tb tc N)
 else if v.op=13 then ([ik 4 v.len ta i 0],(N:Int))
 else ([ik v.op v.len ta 0 v.c],(N:Int))
def ovs (v:Vl)(mv:List Int)(q j:Nat):Int:=if j<q then mv.getD (fld v j).toNat 0 else -1
structure A3 (W:World)(A:Nat)(x:Nat->Int):Prop where
 lt:A<W.heap.size
 free:∀o,W.frozen? ⟨A,o,none⟩=false
 at_:∀j,j<3->W.cell? ⟨A,j,none⟩=some (.int .i64 (x j))
theorem A3.keep {W:World}{x:Nat->Int}(f:A3 W A x)(q:Kept 0 0 W W'):A3 W' A x:=
 ⟨Nat.lt_of_lt_of_le f.lt q.size,λo=>by rw[q.frozen (p:=⟨A,o,none⟩) f.lt (by omega)];exact f.free o,λj hj=>jq q f.lt (f.at_ j hj)⟩
theorem A3.put {W:World}(f:A3 W A (ovs v mv q))(hq:q<3):A3 (W.setCell ⟨A,q,none⟩ (.int .i64 (mv.getD (fld v q).toNat 0))) A (ovs v mv (q+1)) where
 lt:=by simpa using f.lt
 free:=λo=>by simp[f.free o]
 at_:=λj hj=>by
  by_cases e:j=q
  ·subst e
   rw[jI _ _ _ _ _ (f.at_ j hj)]
   unfold ovs
   rw[if_pos (Nat.lt_succ_self _)]
  ·rw[iB _ _ _ _ _ _ (.inr (Ne.symm e)),f.at_ j hj]
   unfold ovs
   by_cases c:j<q
   ·rw[if_pos c,if_pos (by omega)]
   ·rw[if_neg c,if_neg (by omega)]
theorem x7 (w:World)(v:Vl)(mv:List Int)(t:TypeId):A3 (w.alloc (.cells #[.int .i64 (-1),.int .i64 (-1),.int .i64 (-1)] t)) w.heap.size (ovs v mv 0) where
 lt:=by simp
 free:=λo=>by simp
 at_:=λj hj=>by
  have:j=0\/j=1\/j=2:=by omega
  rcases this with rfl|rfl|rfl<;>simp[ovs]
theorem rD (v:Vl)(hq:q<cnt v.op):(iV v).getD q 0=[v.a,v.b,v.c].getD q 0:=by
 unfold iV
 rw[List.getD_eq_getElem?_getD,List.getD_eq_getElem?_getD,List.getElem?_take_of_lt hq]
theorem vM (v:Vl)(hq:q<3):fld v q=[v.a,v.b,v.c].getD q 0:=by
 rcases (by omega:q=0\/q=1\/q=2) with rfl|rfl|rfl<;>rfl
theorem ES {a b:Int}(h:¬(a=-1/\b=-1/\c=-1)):((a==-1)=false)\/((a==-1)=true/\(b==-1)=false)\/((a==-1)=true/\(b==-1)=true/\(c==-1)=false):=by
 cases h1:(a==-1)
 ·exact .inl rfl
 ·cases h2:(b==-1)
  ·exact .inr (.inl ⟨rfl,rfl⟩)
  ·cases h3:(c==-1)
   ·exact .inr (.inr ⟨rfl,rfl,rfl⟩)
   ·exact absurd ⟨eq_of_beq h1,eq_of_beq h2,eq_of_beq h3⟩ h
theorem two {b:Int}(h:¬(b=-1/\c=-1)):((b==-1)=false)\/((b==-1)=true/\(c==-1)=false):=by
 cases h2:(b==-1)
 ·exact .inl rfl
 ·cases h3:(c==-1)
  ·exact .inr ⟨rfl,rfl⟩
  ·exact absurd ⟨eq_of_beq h2,eq_of_beq h3⟩ h
def kL (k n:Nat):List Int:=List.replicate k (-1)++List.replicate (n-k) 0
theorem oZ (k n:Nat)(h:k<=n):(kL k n).length=n:=by simp[kL];omega
theorem pa (n:Nat):kL n n=List.replicate n (-1):=by simp[kL]
theorem pd {k:Nat}(h:k<n):(kL k n).set k (-1)=kL (k+1) n:=by
 apply List.ext_getElem?
 intro j
 unfold kL
 rw[List.getElem?_set]
 by_cases e:k=j
 ·subst e
  rw[if_pos rfl,if_pos (by simp;omega),List.getElem?_append_left (by simp)]
  simp
 ·rw[if_neg e]
  rcases Nat.lt_or_ge j k with c|c
  ·rw[List.getElem?_append_left (by simp;omega),List.getElem?_append_left (by simp;omega)]
   simp[c,(by omega:j<k+1)]
  ·rw[List.getElem?_append_right (by simp;omega),List.getElem?_append_right (by simp;omega)]
   simp[List.getElem?_replicate]
   congr 1
   simp;omega
theorem B3 (w:World)(n:Nat)(hn:n<=1000000):
  Calls Tryz.prog 61 #[.int .i64 (n:Int)] w λe w'=>e=.returned (.slice (some ⟨w.heap.size,0,none⟩) n n)/\IR w' w.heap.size (List.replicate n (-1))/\Kept 0 0 w w':=by
 have hm:=sD n w (by omega)
 have hP:=IR.made w n
 have hK:=hU 0 0 w (.cells (madeCells #[.int .i64 0] n) 3)
 have HP:Hid _:=hP
 have HK:Hid _:=hK
 clear hP hK
 generalize hw1:w.alloc (.cells (madeCells #[.int .i64 0] n) 3)=w1 at hm HP HK
 clear hw1
 go_enter Tryz.func61,Tryz.ntmps61
 go_wp2_with fail
 clear hm
 go_loopw [9] (λx W=>∃k:Nat,k<=n/\x=.int .i64 k/\Hid (IR W w.heap.size (kL k n))/\Hid (Kept 0 0 w W)) (λx _=>n-(intOf x).toNat)
 case atStart=>exact⟨0,Nat.zero_le _,rfl,HP,HK⟩
 case round=>
  obtain⟨k,hk,rfl,hI,hK⟩:=hrel
  clear HP HK
  by_cases hlt:k<n
  ·have c1:=IR.cell hI.out k (by rw[oZ k n hk];exact hlt)
   have c2:=IR.free hI.out k
   have R1:Hid (IR (wr.setCell ⟨w.heap.size,k,none⟩ (.int .i64 (-1))) w.heap.size (kL (k+1) n)):=by
    have:=IR.set hI.out k (-1)
    rw[pd hlt] at this
    exact this
   have R2:Hid _:=kT w wr hK.out w.heap.size k (.int .i64 (-1)) (Nat.le_refl _)
   clear hI hK
   generalize (kL k n).getD k 0=z at c1
   go_wp2
   go_roundw
   case rel=>exact⟨k+1,by omega,by go_num,R1,R2⟩
   case measure=>simp[intOf];omega
  ·obtain rfl:k=n:=by omega
   have R1:Hid (IR wr w.heap.size (List.replicate k (-1))):=by
    have:=hI.out
    rw[pa] at this
    exact this
   have R2:Hid _:=hK.out
   clear hI hK
   go_wp2
   go_ret
   exact⟨rfl,R1.out,R2.out⟩
theorem BS.setc (h:BS w P u1 u3 vs c base R vv)(c':Int):BS (w.setCell ⟨P,3,none⟩ (.int .i64 c')) P u1 u3 vs c' base R vv:=by
 have hr:vv.ownBlock≠some P:=by rw[h.row];exact h.ne
 refine⟨by simpa using h.lt,λo=>by simp[h.free o],?_,?_,?_,jI _ _ _ _ _ h.c3,ir h.own hr,h.row,h.ne,by simpa using h.sz⟩
 ·rw[iB _ _ _ _ _ _ (.inr (by omega))];exact h.c0
 ·rw[iB _ _ _ _ _ _ (.inr (by omega))];exact h.c1
 ·rw[iB _ _ _ _ _ _ (.inr (by omega))];exact h.c2
theorem BS.drew (h:BS w P u1 u3 vs c base R vv):BS w.drew P u1 u3 vs c base R vv:=
 ⟨h.lt,h.free,h.c0,h.c1,h.c2,h.c3,h.own,h.row,h.ne,h.sz⟩
theorem qh (w:World)(_lo g1 g2 g3 n1 c1 n2 c2 n3 c3:Nat)(ins:List Int)(vs:List Vl)(outs:List Int)(f:GN w g1 g2 g3 n2 ins vs outs)(e1:ins.length=n1)(e3:outs.length=n3)(l1:n1<=1000000)(l2:n2<=2000)(l3:n3<=1000000)(hl:∀k,k<n2->1<=(vs.getD k Vl.zero).len/\(vs.getD k Vl.zero).len<=1000):
  Calls Tryz.prog 29 #[ip (some ⟨g1,0,none⟩) n1 c1 (some ⟨g2,0,none⟩) n2 c2 (some ⟨g3,0,none⟩) n3 c3] w λe w'=>∃P G1 d1 G3 d3 R vv,e=.returned (.pointer (some ⟨P,0,none⟩))/\BS w' P (.slice (some ⟨G1,0,none⟩) n1 d1) (.slice (some ⟨G3,0,none⟩) n3 d3) vs (ig vs) w.heap.size R vv/\OI w' w.heap.size G1 n1 d1 ins/\OI w' w.heap.size G3 n3 d3 outs/\(w.heap.size<=P/\G1≠P/\G3≠P/\G1≠G3/\R≠some G1/\R≠some G3/\vv≠.slice none 0 0)/\Kept 0 0 w w':=by
 have k0:=hU 0 0 w (iv (some ⟨g1,0,none⟩) n1 c1 (some ⟨g2,0,none⟩) n2 c2 (some ⟨g3,0,none⟩) n3 c3)
 have HB:Hid _:=iO w (.slice (some ⟨g1,0,none⟩) n1 c1) (.slice (some ⟨g2,0,none⟩) n2 c2) (.slice (some ⟨g3,0,none⟩) n3 c3)
 have HX:Hid _:=f
 have HL:Hid _:=hl
 have HK:Hid _:=k0
 have HI2:Hid _:=f.v.keep k0 (.inr (.inr (Nat.le_refl _)))
 have HG:Hid _:=GN.keepJ f k0
 clear f hl k0
 obtain⟨_,q0,q1,q2⟩:=HB.out
 go_enter Tryz.func29,Tryz.ntmps29
 go_wp2_with fail
 clear q0 q1 q2
 generalize w.alloc (iv (some ⟨g1,0,none⟩) n1 c1 (some ⟨g2,0,none⟩) n2 c2 (some ⟨g3,0,none⟩) n3 c3)=w1 at HB HK HI2 HG ⊢
 refine Calls.mono (uT w1 _lo g1 g2 g3 n1 c1 n2 c2 n3 c3 ins vs outs HG.out e1 e3 l1 l2 l3) ?_
 rintro e w4 ⟨G1,d1,G2,d2,G3,d3,rfl,o1,o2,o3,hd,kk3⟩
 have k5:=hU 0 0 w4 (.cells #[.slice (some ⟨G1,0,none⟩) n1 d1,.slice (some ⟨G2,0,none⟩) n2 d2,.slice (some ⟨G3,0,none⟩) n3 d3,.int .i64 0] 87)
 have hz1:w.heap.size<=w1.heap.size:=HK.out.size
 have H1:Hid (OI (w4.alloc (.cells #[.slice (some ⟨G1,0,none⟩) n1 d1,.slice (some ⟨G2,0,none⟩) n2 d2,.slice (some ⟨G3,0,none⟩) n3 d3,.int .i64 0] 87)) w.heap.size G1 n1 d1 ins):=iC (jP o1 hz1) k5
 have H3:Hid (OI (w4.alloc (.cells #[.slice (some ⟨G1,0,none⟩) n1 d1,.slice (some ⟨G2,0,none⟩) n2 d2,.slice (some ⟨G3,0,none⟩) n3 d3,.int .i64 0] 87)) w.heap.size G3 n3 d3 outs):=iC (jP o3 hz1) k5
 have HBS:Hid (BS (w4.alloc (.cells #[.slice (some ⟨G1,0,none⟩) n1 d1,.slice (some ⟨G2,0,none⟩) n2 d2,.slice (some ⟨G3,0,none⟩) n3 d3,.int .i64 0] 87)) w4.heap.size (.slice (some ⟨G1,0,none⟩) n1 d1) (.slice (some ⟨G3,0,none⟩) n3 d3) vs 0 w.heap.size (some G2) (.slice (some ⟨G2,0,none⟩) n2 d2)):=by
  refine⟨by simp,λo=>by simp,by simp,by simp,by simp,by simp,?_,rfl,λe=>by cases e;omega,by simp;omega⟩
  have:=iC (jP o2 hz1) k5
  rw[show vs.length=n2 from HX.out.v.len]
  exact this
 have HD:Hid (G1<G2/\G2<G3/\G3<w4.heap.size/\w.heap.size<=G1):=⟨by omega,by omega,by omega,by omega⟩
 have HK5:Hid _:=Kept.trans kk3 k5
 have HV5:Hid _:=VA.keep HI2.out HK5.out (.inr (.inr (Nat.le_refl _)))
 have HB5:Hid _:=G0.keep HB.out HK5.out
 have HW5:Hid (w.heap.size<w4.heap.size/\g2<w4.heap.size):=⟨by have:=(G0.keep HB.out kk3).sz;omega,by have:=HX.out.v.lt;omega⟩
 have HLN:Hid (vs.length=n2):=HX.out.v.len
 obtain⟨_,p0,p1,p2⟩:=HB5.out
 clear o1 o2 o3 hd k5 kk3 hz1 HI2 HB HX HG
 go_wp2_with fail
 clear p0 p1 p2
 generalize w4.alloc (.cells #[.slice (some ⟨G1,0,none⟩) n1 d1,.slice (some ⟨G2,0,none⟩) n2 d2,.slice (some ⟨G3,0,none⟩) n3 d3,.int .i64 0] 87)=w5 at H1 H3 HBS HK5 HV5 HB5 ⊢
 go_loopw [13] (λx W=>∃k:Nat,k<=n2/\x=.int .i64 k/\Hid (BS W w4.heap.size (.slice (some ⟨G1,0,none⟩) n1 d1) (.slice (some ⟨G3,0,none⟩) n3 d3) vs (ig (vs.take k)) w.heap.size (some G2) (.slice (some ⟨G2,0,none⟩) n2 d2))/\Hid (Kept w4.heap.size (w4.heap.size+1) w5 W)/\Hid (0<=ig (vs.take k)/\ig (vs.take k)<=1000*k)) (λx _=>n2-(intOf x).toNat)
 case atStart=>exact⟨0,Nat.zero_le _,rfl,HBS,Kept.refl _ _ _,by constructor<;>simp[ig]⟩
 case round=>
  obtain⟨k,hk,rfl,hS,hK,hc⟩:=hrel
  clear HBS
  by_cases hlt:k<n2
  ·have hat:=(HV5.out.at_ k hlt).keep HV5.out.lt hK.out (.inl HW5.out.2)
   have HST:Hid _:=mc (vs:=vs) (k:=k) (by rw[HLN.out];exact hlt)
   have hlv:=HL.out k hlt
   generalize vs.getD k Vl.zero=v at hat HST hlv
   have HLV:Hid _:=hlv
   obtain⟨y0,y1,y2,y3,y4,y5⟩:=hat
   have ka:=hU 0 0 wr (ij v.op v.len v.a v.b v.c v.k)
   have hS6:=hS.out.keep ka
   have HS6:Hid _:=hS6
   have m3:=hS6.c3
   have mf:=hS6.free 3
   have mv:=(lr wr v).c1
   rw[Nat.zero_add] at mv
   have HK6:Hid _:=Kept.trans hK.out (ka.mono (lo':=w4.heap.size) (hi':=w4.heap.size+1) λb _ c=>by omega)
   have hb0:=hc.out
   have hwr:IntKind.i64.wrap (ig (vs.take k)+v.len)=ig (vs.take k)+v.len:=by rw[IntKind.wrap_i64];omega
   have HC2:Hid (0<=ig (vs.take k)+v.len/\ig (vs.take k)+v.len<=1000*((k+1:Nat):Int)):=⟨by omega,by omega⟩
   clear hS hK hc hS6 ka hlv hb0
   generalize ig (vs.take k)=cc at HST HS6 m3 hwr HC2
   go_wp2_with fail
   clear y0 y1 y2 y3 y4 y5
   generalize wr.alloc (ij v.op v.len v.a v.b v.c v.k)=w6 at HS6 m3 mf mv HK6 ⊢
   go_region_law (fail)
   all_goals
    have R1:Hid _:=(HS6.out.setc (cc+v.len)).drew
    have R2:Hid _:=Kept.drew (Kept.trans HK6.out (it w6 ⟨w4.heap.size,3,none⟩ (.int .i64 (cc+v.len)) (.inl ⟨Nat.le_refl _,Nat.lt_succ_self _⟩)))
    clear HS6 HK6 m3 mf mv
    generalize (w6.setCell ⟨w4.heap.size,3,none⟩ (.int .i64 (cc+v.len))).drew=w7 at R1 R2 ⊢
    go_wp2
    go_roundw
    case rel=>exact⟨k+1,by omega,by go_num,by rw[HST.out];exact R1,R2,by rw[HST.out];exact HC2⟩
    case measure=>simp[intOf];omega
  ·obtain rfl:k=n2:=by omega
   have R1:Hid (BS wr w4.heap.size (.slice (some ⟨G1,0,none⟩) n1 d1) (.slice (some ⟨G3,0,none⟩) n3 d3) vs (ig vs) w.heap.size (some G2) (.slice (some ⟨G2,0,none⟩) k d2)):=by
    have:=hS.out
    rw[List.take_of_length_le (by rw[HLN.out];exact Nat.le_refl _)] at this
    exact this
   have R2:Hid (OI wr w.heap.size G1 n1 d1 ins):=iR H1.out hK.out (λg hg=>by
    have e:g=G1:=by simpa[Value.ownBlock] using hg.symm
    have:=HD.out
    omega)
   have R3:Hid (OI wr w.heap.size G3 n3 d3 outs):=iR H3.out hK.out (λg hg=>by
    have e:g=G3:=by simpa[Value.ownBlock] using hg.symm
    have:=HD.out
    omega)
   have R4:Hid (Kept 0 0 w wr):=Kept.new (Kept.trans HK.out HK5.out) hK.out (by have:=HW5.out;omega)
   clear hS hK hc H1 H3
   go_wp2
   go_ret
   exact⟨w4.heap.size,G1,d1,G3,d3,some G2,_,rfl,R1.out,R2.out,R3.out,⟨by have:=HW5.out;omega,by have:=HD.out;omega,by have:=HD.out;omega,by have:=HD.out;omega,λe=>by cases e;have:=HD.out;omega,λe=>by cases e;have:=HD.out;omega,λe=>by cases e⟩,R4.out⟩
theorem uU (w:World)(P:Nat)(u1 u3:Value)(vs:List Vl)(c:Int)(base:Nat)(R:Option Nat)(g cap:Nat)(h:BS w P u1 u3 vs c base R (.slice (some ⟨g,0,none⟩) vs.length cap))(hl:2000<vs.length):
  Calls Tryz.prog 60 #[.pointer (some ⟨P,0,none⟩)] w λe w'=>e=.returned (.bool false)/\w'=w:=by
 have c1:=h.c1
 clear h
 generalize vs.length=n at c1 hl
 have t1:¬((n:Int)<=2000):=by omega
 go_enter Tryz.func60,Tryz.ntmps60
 go_wp2
 go_ret
 exact⟨rfl,rfl⟩
theorem tV (w:World)(P:Nat)(u1 u3:Value)(vs:List Vl)(c:Int)(base:Nat)(R:Option Nat)(g cap:Nat)(h:BS w P u1 u3 vs c base R (.slice (some ⟨g,0,none⟩) vs.length cap))(hl:vs.length<=2000)(hc:50000<c):
  Calls Tryz.prog 60 #[.pointer (some ⟨P,0,none⟩)] w λe w'=>e=.returned (.bool false)/\w'=w:=by
 have c1:=h.c1
 have c3:=h.c3
 clear h
 generalize vs.length=n at c1 hl
 have t1:(n:Int)<=2000:=by omega
 have t2:decide (c<=50000)=false:=decide_eq_false (by omega)
 go_enter Tryz.func60,Tryz.ntmps60
 go_wp2
 go_ret
 exact⟨rfl,rfl⟩
theorem x8 (w:World)(P:Nat)(u1 u3:Value)(vs:List Vl)(c:Int)(base:Nat)(R:Option Nat)(g cap:Nat)(h:BS w P u1 u3 vs c base R (.slice (some ⟨g,0,none⟩) vs.length cap))(hl:vs.length<=2000)(hc:c<=50000):
  Calls Tryz.prog 60 #[.pointer (some ⟨P,0,none⟩)] w λe w'=>e=.returned (.bool true)/\w'=w:=by
 have c1:=h.c1
 have c3:=h.c3
 clear h
 generalize vs.length=n at c1 hl
 have t1:(n:Int)<=2000:=by omega
 have t2:decide (c<=50000)=true:=decide_eq_true hc
 go_enter Tryz.func60,Tryz.ntmps60
 go_wp2
 go_ret
 exact⟨rfl,rfl⟩
theorem qi (w:World)(P:Nat)(at':Int)(h:∀w',Kept 0 0 w w'->Calls Tryz.prog 60 #[.pointer (some ⟨P,0,none⟩)] w' λe w''=>e=.returned (.bool false)/\w''=w'):
  Calls Tryz.prog 30 #[.pointer (some ⟨P,0,none⟩),.int .i64 at'] w λe w'=>e=.returned (.tuple #[oF,.int .i64 0,.int .i64 5])/\Kept 0 0 w w':=by
 have k1:=hU 0 0 w iw
 have HX:Hid _:=h _ k1
 have HK:Hid _:=k1
 clear h k1
 go_enter Tryz.func30,Tryz.ntmps30
 go_wp2_with fail
 refine Calls.mono HX.out ?_
 rintro e w2 ⟨rfl,rfl⟩
 go_wp2_with fail
 refine bodyPost_ret (v:=.tuple #[oF,.int .i64 0,.int .i64 5]) (by simp[results,Tryz.results30,go_sem]) rfl ⟨rfl,HK.out⟩
theorem BS.keepK (h:BS w P u1 u3 vs c base R vv)(k:Kept 0 0 w w'):BS w' P u1 u3 vs c base R vv:=h.keep k
theorem tW (w:World)(P:Nat)(u1 u3:Value)(vs:List Vl)(c:Int)(base:Nat)(R:Option Nat)(g cap:Nat)(at':Int)(h:BS w P u1 u3 vs c base R (.slice (some ⟨g,0,none⟩) vs.length cap))(hl:2000<vs.length):
  Calls Tryz.prog 30 #[.pointer (some ⟨P,0,none⟩),.int .i64 at'] w λe w'=>e=.returned (.tuple #[oF,.int .i64 0,.int .i64 5])/\Kept 0 0 w w':=
 qi w P at' λw' k=>uU w' P u1 u3 vs c base R g cap (h.keepK k) hl
theorem sO (w:World)(P:Nat)(u1 u3:Value)(vs:List Vl)(c:Int)(base:Nat)(R:Option Nat)(g cap:Nat)(at':Int)(h:BS w P u1 u3 vs c base R (.slice (some ⟨g,0,none⟩) vs.length cap))(hl:vs.length<=2000)(hc:50000<c):
  Calls Tryz.prog 30 #[.pointer (some ⟨P,0,none⟩),.int .i64 at'] w λe w'=>e=.returned (.tuple #[oF,.int .i64 0,.int .i64 5])/\Kept 0 0 w w':=
 qi w P at' λw' k=>tV w' P u1 u3 vs c base R g cap (h.keepK k) hl hc
theorem rE (w:World)(P:Nat)(b1 b3:Option Addr)(m1 e1 m3 e3:Nat)(vs:List Vl)(c:Int)(base:Nat)(R:Option Nat)(g cap:Nat)(at':Int)(h:BS w P (.slice b1 m1 e1) (.slice b3 m3 e3) vs c base R (.slice (some ⟨g,0,none⟩) vs.length cap))(hl:vs.length<=2000)(hc:c<=50000):
  Calls Tryz.prog 30 #[.pointer (some ⟨P,0,none⟩),.int .i64 at'] w λe w'=>e=.returned (.tuple #[.agg #[.slice b1 m1 e1,.slice (some ⟨g,0,none⟩) vs.length cap,.slice b3 m3 e3],.int .i64 at',.int .i64 0])/\Kept 0 0 w w':=by
 have k1:=hU 0 0 w iw
 have HX:Hid _:=x8 _ P _ _ vs c base R g cap (h.keepK k1) hl hc
 have c0:=jq k1 h.lt h.c0
 have c1:=jq k1 h.lt h.c1
 have c2:=jq k1 h.lt h.c2
 have c3:=jq k1 h.lt h.c3
 have hP:P≠w.heap.size:=by have:=h.lt;omega
 clear h k1
 generalize vs.length=n at c1 hl ⊢
 go_enter Tryz.func30,Tryz.ntmps30
 go_wp2_with fail
 refine Calls.mono HX.out ?_
 rintro e w2 ⟨rfl,rfl⟩
 clear HX
 go_wp2_with fail
 refine bodyPost_ret (v:=.tuple #[.agg #[.slice b1 m1 e1,.slice (some ⟨g,0,none⟩) n cap,.slice b3 m3 e3],.int .i64 at',.int .i64 0]) (by simp[results,Tryz.results30,go_sem]) rfl ⟨rfl,?_⟩
 exact hU 0 0 w _
def jmv (vs0:List Vl)(i:Nat)(st:List Vl×List Int):List Vl×Int:=
 mvM (i:Int) (vs0.getD i Vl.zero) (ovs (vs0.getD i Vl.zero) st.2 (cnt (vs0.getD i Vl.zero).op) 0) (ovs (vs0.getD i Vl.zero) st.2 (cnt (vs0.getD i Vl.zero).op) 1) (ovs (vs0.getD i Vl.zero) st.2 (cnt (vs0.getD i Vl.zero).op) 2) st.1.length
def jst (vs0:List Vl)(x t:Nat):Nat->List Vl×List Int
 |0=>(vs0,(List.replicate vs0.length (-1)).set x (t:Int))
 |k+1=>((jst vs0 x t k).1++(jmv vs0 (x+1+k) (jst vs0 x t k)).1,(jst vs0 x t k).2.set (x+1+k) (jmv vs0 (x+1+k) (jst vs0 x t k)).2)
theorem mM (vs0:List Vl)(x t:Nat):∀k,(jst vs0 x t k).2.length=vs0.length
 |0=>by simp[jst]
 |k+1=>by simp[jst,mM vs0 x t k]
theorem nO (vs0:List Vl)(x t:Nat):∀k,∃r,(jst vs0 x t k).1=vs0++r
 |0=>⟨[],by simp[jst]⟩
 |k+1=>by
  obtain⟨r,h⟩:=nO vs0 x t k
  exact⟨r++(jmv vs0 (x+1+k) (jst vs0 x t k)).1,by rw[jst,h,List.append_assoc]⟩
theorem pH (vs0:List Vl)(x t k:Nat){i:Nat}(hi:i<vs0.length):(jst vs0 x t k).1.getD i Vl.zero=vs0.getD i Vl.zero:=by
 obtain⟨r,h⟩:=nO vs0 x t k
 rw[h,List.getD_eq_getElem?_getD,List.getElem?_append_left hi,<-List.getD_eq_getElem?_getD]
def Sz (k:Nat)(M:List Vl×Int):Prop:=M.1.length<=k/\0<=ig M.1/\ig M.1<=1000*(k:Int)
theorem jK {k:Nat}{p:Prop}[Decidable p]{a b:List Vl×Int}(ha:Sz k a)(hb:Sz k b):Sz k (if p then a else b):=by
 by_cases h:p
 ·rw[if_pos h];exact ha
 ·rw[if_neg h];exact hb
theorem uV {k:Nat}:Sz k ([],r):=by unfold Sz;simp only[ig,List.length_nil];omega
theorem sP {k:Nat}(hk:1<=k)(h0:0<=v.len)(h1:v.len<=1000):Sz k ([v],r):=by unfold Sz;simp only[ig,List.length_cons,List.length_nil];omega
theorem ET {k:Nat}(hk:2<=k)(h0:0<=v.len)(h1:v.len<=1000)(h2:0<=u.len)(h3:u.len<=1000):Sz k ([v,u],r):=by unfold Sz;simp only[ig,List.length_cons,List.length_nil];omega
theorem CN {k:Nat}(hk:3<=k)(h0:0<=v.len)(h1:v.len<=1000)(h2:0<=u.len)(h3:u.len<=1000)(h4:0<=y.len)(h5:y.len<=1000):Sz k ([v,u,y],r):=by unfold Sz;simp only[ig,List.length_cons,List.length_nil];omega
theorem FG {k:Nat}{z:Vl}(hk:4<=k)(h0:0<=v.len)(h1:v.len<=1000)(h2:0<=u.len)(h3:u.len<=1000)(h4:0<=y.len)(h5:y.len<=1000)(h6:0<=z.len)(h7:z.len<=1000):Sz k ([v,u,y,z],r):=by unfold Sz;simp only[ig,List.length_cons,List.length_nil];omega
theorem Al {k:Nat}{M:List Vl×Int}(h:Sz k M)(h0:0<=v.len)(h1:v.len<=1000):Sz (k+1) ([v]++M.1,r):=by
 unfold Sz at*
 simp only[List.length_append,jB,ig,List.length_cons,List.length_nil]
 omega
theorem B4 {n d p q:Int}{N:Nat}(h0:0<=n)(h1:n<=1000):Sz 3 (chM n d p q N):=by
 unfold chM
 exact jK (jK (CN (by omega) h0 h1 h0 h1 h0 h1) (ET (by omega) h0 h1 h0 h1)) (jK (ET (by omega) h0 h1 h0 h1) (sP (by omega) h0 h1))
theorem Am {k:Nat}{M:List Vl×Int}(h:Sz k M)(hk:k<=l):Sz l M:=by
 unfold Sz at*
 omega
theorem x9 (i:Int)(v:Vl)(ta tb tc:Int)(N:Nat)(h0:0<=v.len)(h1:v.len<=1000):Sz 4 (mvM i v ta tb tc N):=by
 unfold mvM mb oG nX xV
 exact jK uV (jK (jK uV (jK uV (sP (by omega) h0 h1))) (jK (jK uV (jK (sP (by omega) h0 h1) (sP (by omega) h0 h1)))
  (jK (jK (jK uV (sP (by omega) h0 h1)) (jK (sP (by omega) h0 h1) (CN (by omega) h0 h1 h0 h1 h0 h1)))
  (jK (jK (jK uV (CN (by omega) h0 h1 h0 h1 h0 h1)) (jK (sP (by omega) h0 h1) (FG (by omega) h0 h1 h0 h1 h0 h1 h0 h1)))
  (jK (Al (B4 h0 h1) h0 h1) (jK (jK uV (Am (B4 h0 h1) (by omega))) (jK (sP (by omega) h0 h1) (sP (by omega) h0 h1))))))))
theorem nf (vs0:List Vl)(x t:Nat)(hl:∀k,k<vs0.length->1<=(vs0.getD k Vl.zero).len/\(vs0.getD k Vl.zero).len<=1000)(hc0:0<=ig vs0)(hc1:ig vs0<=50000):∀k,x+k<vs0.length->(jst vs0 x t k).1.length<=vs0.length+4*k/\0<=ig (jst vs0 x t k).1/\ig (jst vs0 x t k).1<=50000+4000*k
 |0,_=>by simp[jst];omega
 |k+1,hk=>by
  have ih:=nf vs0 x t hl hc0 hc1 k (by omega)
  have hv:=hl (x+1+k) (by omega)
  have hm:=x9 ((x+1+k:Nat):Int) (vs0.getD (x+1+k) Vl.zero) (ovs (vs0.getD (x+1+k) Vl.zero) (jst vs0 x t k).2 (cnt (vs0.getD (x+1+k) Vl.zero).op) 0) (ovs (vs0.getD (x+1+k) Vl.zero) (jst vs0 x t k).2 (cnt (vs0.getD (x+1+k) Vl.zero).op) 1) (ovs (vs0.getD (x+1+k) Vl.zero) (jst vs0 x t k).2 (cnt (vs0.getD (x+1+k) Vl.zero).op) 2) (jst vs0 x t k).1.length (by omega) (by omega)
  rw[jst]
  simp only[List.length_append,jB]
  unfold jmv
  unfold Sz at hm
  omega
def jf (vs0:List Vl)(s x t:Nat):List Vl×Int:=
 if (jst vs0 x t (s-x)).2.getD s 0=-1 then ((jst vs0 x t (s-x)).1++[ik 1 (vs0.getD s Vl.zero).len 0 0 0],((jst vs0 x t (s-x)).1.length:Nat)) else ((jst vs0 x t (s-x)).1,(jst vs0 x t (s-x)).2.getD s 0)
theorem EU (w:World)(s x t:Int):∀k,k<3->(w.alloc (.cells #[.int .i64 s,.int .i64 x,.int .i64 t] 3)).cell? ⟨w.heap.size,k,none⟩=some (.int .i64 ([s,x,t].getD k 0)):=λk hk=>by
 rcases (by omega:k=0\/k=1\/k=2) with rfl|rfl|rfl<;>simp
theorem BS.other {o:Nat}{u:Value}(h:BS w P u1 u3 vs c base R vv)(hP:B≠P)(hR:R≠some B):BS (w.setCell ⟨B,o,none⟩ u) P u1 u3 vs c base R vv:=
 ⟨by simpa using h.lt,λo=>by simp[h.free o],by rw[iB _ _ _ _ _ _ (.inl hP)];exact h.c0,by rw[iB _ _ _ _ _ _ (.inl hP)];exact h.c1,by rw[iB _ _ _ _ _ _ (.inl hP)];exact h.c2,by rw[iB _ _ _ _ _ _ (.inl hP)];exact h.c3,ir h.own (by rw[h.row];exact hR),h.row,h.ne,by simpa using h.sz⟩
theorem IR.stp {xs:List Int}(h:IR w B xs)(s:Stp P R w R' w')(hP:B≠P)(hR:R≠some B):IR w' B xs:=by
 unfold IR
 rw[s.chg.block B h.lt (by rintro (c|c);exact hP c;exact hR c)]
 exact h
theorem pI {e size:Nat}{v:Value}{xs:List Value}{W:World}(o:W.ownsRow base e size v n xs)(s:Stp P R W R' W')(hP:v.ownBlock≠some P)(hR:∀g,v.ownBlock=some g->R≠some g):W'.ownsRow base e size v n xs:=by
 refine⟨o.1,o.2.imp id ?_⟩
 rintro⟨g,cap,cur,e1,b1,b2,b3⟩
 refine⟨g,cap,cur,e1,b1,?_,b3⟩
 have hg:g<W.heap.size:=by
  rcases Nat.lt_or_ge g W.heap.size with c|c
  ·exact c
  ·rw[Array.getElem?_eq_none c] at b2;cases b2
 have hb:v.ownBlock=some g:=by rw[e1];rfl
 rw[s.chg.block g hg (by rintro (c|c);exact hP (by rw[hb,c]);exact hR g hb c)]
 exact b2
structure JS (W wB:World)(P Mb G1 d1 n1 G3 d3 n3 base:Nat)(ins outs:List Int)(vs:List Vl)(mv:List Int)(R:Option Nat)(vv:Value):Prop where
 b:BS W P (.slice (some ⟨G1,0,none⟩) n1 d1) (.slice (some ⟨G3,0,none⟩) n3 d3) vs (ig vs) base R vv
 m:IR W Mb mv
 i:OI W base G1 n1 d1 ins
 o:OI W base G3 n3 d3 outs
 k:Kept 0 0 wB W
 dP:wB.heap.size<=P
 dM:wB.heap.size<=Mb
 dB:wB.heap.size<=base
 ne1:Mb≠P
 ne2:G1≠P
 ne3:G3≠P
 ne4:G1≠Mb
 ne5:G3≠Mb
 r1:R≠some Mb
 r2:R≠some G1
 r3:R≠some G3
theorem JS.put {W:World}(h:JS W wB P Mb G1 d1 n1 G3 d3 n3 base ins outs vs mv R vv)(j:Nat)(r:Int):JS (W.setCell ⟨Mb,j,none⟩ (.int .i64 r)) wB P Mb G1 d1 n1 G3 d3 n3 base ins outs vs (mv.set j r) R vv where
 b:=h.b.other h.ne1 h.r1
 m:=h.m.set j r
 i:=ir h.i (λe=>h.ne4 (by simpa[Value.ownBlock] using e))
 o:=ir h.o (λe=>h.ne5 (by simpa[Value.ownBlock] using e))
 k:=kT wB W h.k Mb j _ h.dM
 dP:=h.dP
 dM:=h.dM
 dB:=h.dB
 ne1:=h.ne1
 ne2:=h.ne2
 ne3:=h.ne3
 ne4:=h.ne4
 ne5:=h.ne5
 r1:=h.r1
 r2:=h.r2
 r3:=h.r3
theorem JS.step {W:World}{a:List Vl}{vv':Value}(h:JS W wB P Mb G1 d1 n1 G3 d3 n3 base ins outs vs mv R vv)
  (hb:BS W' P (.slice (some ⟨G1,0,none⟩) n1 d1) (.slice (some ⟨G3,0,none⟩) n3 d3) (vs++a) (ig vs+ig a) base R' vv') (s:Stp P R W R' W'):JS W' wB P Mb G1 d1 n1 G3 d3 n3 base ins outs (vs++a) mv R' vv':=by
 have l1:G1<W.heap.size:=(ii h.i (k:=G1) rfl).2
 have l3:G3<W.heap.size:=(ii h.o (k:=G3) rfl).2
 have lM:=h.m.lt
 have far:∀B,B<W.heap.size->R≠some B->R'≠some B:=λB hB hR e=>by
  rcases s.row with q|⟨r,q,hr⟩
  ·exact hR (by rw[<-q];exact e)
  ·rw[q] at e
   cases e
   omega
 exact {
  b:=by rw[jB];exact hb
  m:=h.m.stp s h.ne1 h.r1
  i:=pI h.i s (λe=>h.ne2 (by simpa[Value.ownBlock] using e)) (λg hg=>by
   have e:G1=g:=by simpa[Value.ownBlock] using hg
   subst e
   exact h.r2)
  o:=pI h.o s (λe=>h.ne3 (by simpa[Value.ownBlock] using e)) (λg hg=>by
   have e:G3=g:=by simpa[Value.ownBlock] using hg
   subst e
   exact h.r3)
  k:=Chg.kept h.k s.chg (by
   rintro i (c|c)
   ·rw[c];exact h.dP
   ·have:=(ii h.b.own (h.b.row.trans c)).1
    have:=h.dB
    omega)
  dP:=h.dP
  dM:=h.dM
  dB:=h.dB
  ne1:=h.ne1
  ne2:=h.ne2
  ne3:=h.ne3
  ne4:=h.ne4
  ne5:=h.ne5
  r1:=far Mb lM h.r1
  r2:=far G1 l1 h.r2
  r3:=far G3 l3 h.r3}
theorem kM:∀(vs:List Vl),(∀j,j<vs.length->0<=(vs.getD j Vl.zero).len)->0<=ig vs
 |[],_=>by simp[ig]
 |v::r,h=>by
  have h0:=h 0 (by simp)
  have h1:=kM r (λj hj=>h (j+1) (by simp;omega))
  have e:(v::r).getD 0 Vl.zero=v:=rfl
  rw[e] at h0
  simp only[ig]
  omega
theorem mN {k:Nat}(ok:okV ins vs k=true):∀q,q<cnt (vs.getD k Vl.zero).op->0<=fld (vs.getD k Vl.zero) q/\fld (vs.getD k Vl.zero) q<k:=λq hq=>by
 by_cases h0:(vs.getD k Vl.zero).op=0
 ·rw[h0,show cnt 0=0 from rfl] at hq
  omega
 ·unfold okV at ok
  rw[if_neg h0] at ok
  simp only[Bool.and_eq_true] at ok
  have h:=List.all_eq_true.1 ok.2.1 ((iV (vs.getD k Vl.zero)).getD q 0) (rz (by rw[nL];exact hq))
  have h2:=of_decide_eq_true h
  rw[rD _ hq,<-vM _ (by have:=jo (vs.getD k Vl.zero).op;omega)] at h2
  exact h2
def jR (vs:List Vl):Bool:=decide (2000<vs.length\/50000<ig vs)
def An (w w':World)(n1 n3:Nat)(ins outs:List Int)(M:List Vl×Int)(e:Ending):Prop:=
 ∃G1 d1 G3 d3 gv cap,e=.returned (.tuple #[.agg #[.slice (some ⟨G1,0,none⟩) n1 d1,.slice (some ⟨gv,0,none⟩) M.1.length cap,.slice (some ⟨G3,0,none⟩) n3 d3],.int .i64 M.2,.int .i64 0])/\
  OI w' w.heap.size G1 n1 d1 ins/\OI w' w.heap.size G3 n3 d3 outs/\w'.ownsRow w.heap.size 31 6 (.slice (some ⟨gv,0,none⟩) M.1.length cap) M.1.length (iN M.1)/\G1≠G3/\gv≠G1/\gv≠G3
theorem qj (W:World)(P:Nat)(u1 u3:Value)(vs:List Vl)(base:Nat)(R:Option Nat)(g cap:Nat)(at':Int)(h:BS W P u1 u3 vs (ig vs) base R (.slice (some ⟨g,0,none⟩) vs.length cap))(hl:jR vs=true):
  Calls Tryz.prog 30 #[.pointer (some ⟨P,0,none⟩),.int .i64 at'] W λe w'=>e=.returned (.tuple #[oF,.int .i64 0,.int .i64 5])/\Kept 0 0 W w':=by
 have hl':=of_decide_eq_true hl
 by_cases h2:2000<vs.length
 ·exact tW W P u1 u3 vs _ base R g cap at' h h2
 ·exact sO W P u1 u3 vs _ base R g cap at' h (by omega) (by omega)
theorem FH {W wA:World}{gv cap p:Nat}(hJ:JS W wB P Mb G1 d1 n1 G3 d3 n3 base ins outs vs mv R (.slice (some ⟨gv,0,none⟩) vs.length cap))(k:Kept 0 0 W wA)(k2:Kept p (p+1) wA w')(hp:p<base)(hb:w.heap.size<=base)(h13:G1≠G3)(r:Int):
  An w w' n1 n3 ins outs (vs,r) (.returned (.tuple #[.agg #[.slice (some ⟨G1,0,none⟩) n1 d1,.slice (some ⟨gv,0,none⟩) vs.length cap,.slice (some ⟨G3,0,none⟩) n3 d3],.int .i64 r,.int .i64 0])):=by
 have hR:R=some gv:=hJ.b.row.symm
 have key:∀{e size n:Nat} {v:Value} {xs:List Value},W.ownsRow base e size v n xs->w'.ownsRow w.heap.size e size v n xs:=λh=>
  jP (iR (iC h k) k2 (λg hg=>by have:=(ii h hg).1;omega)) hb
 exact⟨G1,d1,G3,d3,gv,cap,rfl,key hJ.i,key hJ.o,key hJ.b.own,h13,λe=>hJ.r2 (by rw[hR,e]),λe=>hJ.r3 (by rw[hR,e])⟩
theorem JS.keepJ {W:World}(h:JS W wB P Mb G1 d1 n1 G3 d3 n3 base ins outs vs mv R vv)(k:Kept 0 0 W W'):JS W' wB P Mb G1 d1 n1 G3 d3 n3 base ins outs vs mv R vv where
 b:=h.b.keep k
 m:=h.m.keep k (.inr (.inr (Nat.le_refl _)))
 i:=iC h.i k
 o:=iC h.o k
 k:=h.k.trans k
 dP:=h.dP
 dM:=h.dM
 dB:=h.dB
 ne1:=h.ne1
 ne2:=h.ne2
 ne3:=h.ne3
 ne4:=h.ne4
 ne5:=h.ne5
 r1:=h.r1
 r2:=h.r2
 r3:=h.r3
theorem Ao (w:World)(P:Nat)(u1 u3:Value)(vs:List Vl)(c:Int)(base:Nat)(R:Option Nat)(vv:Value)(i:Nat)(h:BS w P u1 u3 vs c base R vv)(hi:i<vs.length):
  Calls Tryz.prog 64 #[.pointer (some ⟨P,0,none⟩),.int .i64 (i:Int)] w λe w'=>e=.returned (.int .i64 (vs.getD i Vl.zero).len)/\Drawn w w':=by
 obtain⟨g,cap,rfl,hg,hA⟩:=h.read (by omega)
 have z1:=h.c1
 have c1:=(hA i hi).c1
 generalize (vs.getD i Vl.zero).len=ln at c1 ⊢
 generalize vs.length=n at z1 hi
 clear h hA
 have j0:(0:Int)<=(i:Int):=by omega
 have j1:(i:Int)<(n:Int):=by omega
 go_enter Tryz.func64,Tryz.ntmps64
 go_wp2
 go_ret
 exact⟨rfl,Drawn.refl _⟩
def PD (wB:World)(P G1 d1 n1 G3 d3 n3 base:Nat)(ins outs:List Int)(M:List Vl×Int)(e:Ending)(w':World):Prop:=
 e=.returned (.int .i64 M.2)/\∃Mb mv R gv cap,JS w' wB P Mb G1 d1 n1 G3 d3 n3 base ins outs M.1 mv R (.slice (some ⟨gv,0,none⟩) M.1.length cap)
theorem lz (w:World)(op n a b c:Int):Calls Tryz.prog 55 #[.int .i64 op,.int .i64 n,.int .i64 a,.int .i64 b,.int .i64 c] w λe w'=>e=.returned (ik op n a b c).agg/\Kept 0 0 w w':=by
 go_enter Tryz.func55,Tryz.ntmps55
 go_wp2_with fail
 refine bodyPost_ret (v:=(ik op n a b c).agg) (by simp[results,Tryz.results55,go_sem]) rfl ⟨rfl,hU 0 0 w _⟩
theorem pJ (w:World)(n:Int):Calls Tryz.prog 51 #[.int .i64 n] w λe w'=>e=.returned (ik 1 n 0 0 0).agg/\Kept 0 0 w w':=by
 go_enter Tryz.func51,Tryz.ntmps51
 go_wp2_with fail
 refine bodyPost_ret (v:=(ik 1 n 0 0 0).agg) (by simp[results,Tryz.results51,go_sem]) rfl ⟨rfl,hU 0 0 w _⟩
theorem kY (w:World)(a1 a2 a3:Option Addr)(n1 c1 n2 c2 n3 c3:Nat)(hn:n2<=1000000):Calls Tryz.prog 52 #[ip a1 n1 c1 a2 n2 c2 a3 n3 c3] w λe w'=>e=.returned (.int .i64 ((n2:Int)-1))/\Kept 0 0 w w':=by
 go_enter Tryz.func52,Tryz.ntmps52
 go_wp2
 go_ret
 exact⟨rfl,hU 0 0 w _⟩
theorem Ap {w1 w9:World}{o:Obj}{g' cap':Nat}(_h:w.ownsRow base 31 6 vv vs.length (iN vs))(k:Kept 0 0 w w1)
  (hown9:w9.ownsRow base 31 6 (.slice (some ⟨g',0,none⟩) (vs.length+1) cap') (vs.length+1) (iN vs++v.cells)) (hg9:(w1.alloc o).grownBy w9 vv.ownBlock) (hat:vv.ownBlock=some g'\/g'=(w1.alloc o).heap.size):
  w9.ownsRow base 31 6 (.slice (some ⟨g',0,none⟩) (vs.length+1) cap') (vs.length+1) (iN (vs++[v]))/\StQ (λ_=>False) vv.ownBlock w (some g') w9:=by
 refine⟨by rw[m9,qb];exact hown9,⟨hg9.os.trans k.os,hg9.tape.trans k.tape,hg9.output.trans k.output,?_,λi hi hn=>?_⟩,?_⟩
 ·have h1:=hg9.size
  have h2:=k.size
  simp at h1
  omega
 ·have h2:=k.size
  rw[hg9.block i (by simp;omega) (λc=>hn (.inr c.symm)),Below.heap_alloc w1 o i (by omega)]
  exact k.block i hi (by omega)
 ·rcases hat with e|e
  ·exact .inl e.symm
  ·have h2:=k.size
   exact .inr ⟨g',rfl,by rw[e];simp;omega⟩
theorem StQ.new {Q:Nat->Prop}{w'':World}{h:Nat}(s:StQ Q R w R' w')(k:Kept l h w' w'')(hl:w.heap.size<=l):StQ Q R w R' w'':=
 ⟨⟨k.os.trans s.chg.os,k.tape.trans s.chg.tape,k.output.trans s.chg.output,Nat.le_trans s.chg.size k.size,λi hi hn=>by
   rw[k.block i (Nat.lt_of_lt_of_le hi s.chg.size) (by omega)]
   exact s.chg.block i hi hn⟩,s.row⟩
theorem rF (w:World)(b1 a2 b3:Option Addr)(m1 e1 cap m3 e3 base:Nat)(vs:List Vl)(v:Vl)(h:w.ownsRow base 31 6 (.slice a2 vs.length cap) vs.length (iN vs))(hb:base<=w.heap.size)(hn:vs.length<=1000000):
  Calls Tryz.prog 50 #[ip b1 m1 e1 a2 vs.length cap b3 m3 e3,v.agg] w λe w'=>∃g' cap',e=.returned (ip b1 m1 e1 (some ⟨g',0,none⟩) (vs.length+1) cap' b3 m3 e3)/\w'.ownsRow base 31 6 (.slice (some ⟨g',0,none⟩) (vs.length+1) cap') (vs.length+1) (iN (vs++[v]))/\StQ (λ_=>False) (Value.slice a2 vs.length cap).ownBlock w (some g') w':=by
 obtain⟨i0,hi,hz0,hz1,hz2⟩:=info_parts tP
 have k1:=hU 0 0 w (iv b1 m1 e1 a2 vs.length cap b3 m3 e3)
 have k2:=hU 0 0 (w.alloc (iv b1 m1 e1 a2 vs.length cap b3 m3 e3)) (ij v.op v.len v.a v.b v.c v.k)
 have k3:=hU 0 0 ((w.alloc (iv b1 m1 e1 a2 vs.length cap b3 m3 e3)).alloc (ij v.op v.len v.a v.b v.c v.k)) iw
 have hG:=((iO w (.slice b1 m1 e1) (.slice a2 vs.length cap) (.slice b3 m3 e3)).keep k2).keep k3
 have fG:∀o,(((w.alloc (iv b1 m1 e1 a2 vs.length cap b3 m3 e3)).alloc (ij v.op v.len v.a v.b v.c v.k)).alloc iw).frozen? ⟨w.heap.size,o,none⟩=false:=λo=>by
  rw[(k2.trans k3).frozen (p:=⟨w.heap.size,o,none⟩) (by simp) (by omega)]
  simp
 have hV:=(lr (w.alloc (iv b1 m1 e1 a2 vs.length cap b3 m3 e3)) v).keep (by simp) k3 (.inr (.inr (Nat.le_refl _)))
 have hN:=i9 ((w.alloc (iv b1 m1 e1 a2 vs.length cap b3 m3 e3)).alloc (ij v.op v.len v.a v.b v.c v.k))
 rw[show((w.alloc (iv b1 m1 e1 a2 vs.length cap b3 m3 e3)).alloc (ij v.op v.len v.a v.b v.c v.k)).heap.size=w.heap.size+1+1 by simp] at hN
 rw[show(w.alloc (iv b1 m1 e1 a2 vs.length cap b3 m3 e3)).heap.size=w.heap.size+1 by simp] at hV
 have hk:=(k1.trans k2).trans k3
 have hown:=iC h hk
 have HW:Hid _:=h
 have HK:Hid _:=hk
 have HN:Hid _:=hN
 have HG:Hid _:=hG
 have HFG:Hid _:=fG
 obtain⟨_,p0,p1,p2⟩:=hG
 obtain⟨v0,v1,v2,v3,v4,v5⟩:=hV
 have hbz:base<=(((w.alloc (iv b1 m1 e1 a2 vs.length cap b3 m3 e3)).alloc (ij v.op v.len v.a v.b v.c v.k)).alloc iw).heap.size:=Nat.le_trans hb hk.size
 clear k1 k2 k3 fG hN hk h
 go_enter Tryz.func50,Tryz.ntmps50
 go_wp2_with (first|(at_builtin;refine wpList_append_lies _ rfl _ _ 24 rfl base 31 i0 (jA 0 0 0 0 0 0) 6 48 Tryz.underlying24 hi hz0 hz1 hz2 rfl (by decide) _ _ (iN vs) rfl (hown.alloc _) ⟨w.heap.size+1+1+1,0,none⟩ 1 1 v.cells rfl rfl ?c1 ?c2 (by decide) ?c3 ?c4 ?c5 _ rfl ?_))
 case c1=>
  have h6:=vI (((w.alloc (iv b1 m1 e1 a2 vs.length cap b3 m3 e3)).alloc (ij v.op v.len v.a v.b v.c v.k)).alloc iw) v 0
  rw[show(((w.alloc (iv b1 m1 e1 a2 vs.length cap b3 m3 e3)).alloc (ij v.op v.len v.a v.b v.c v.k)).alloc iw).heap.size=w.heap.size+1+1+1 by simp] at h6
  exact h6
 case c2=>exact Af v
 case c3=>unfold maxLen;omega
 case c4=>omega
 case c5=>simp;omega
 intro g9 cap9 w9 hown9 hg9 hat9 hlt9
 have hs3:(((w.alloc (iv b1 m1 e1 a2 vs.length cap b3 m3 e3)).alloc (ij v.op v.len v.a v.b v.c v.k)).alloc iw).heap.size=w.heap.size+1+1+1:=by simp
 have hat':(Value.slice a2 vs.length cap).ownBlock=some g9\/g9=((((w.alloc (iv b1 m1 e1 a2 vs.length cap b3 m3 e3)).alloc (ij v.op v.len v.a v.b v.c v.k)).alloc iw).alloc (.cells #[.int .i64 v.op,.int .i64 v.len,.int .i64 v.a,.int .i64 v.b,.int .i64 v.c,.float .f64 v.k] 31)).heap.size:=hat9.imp id (λe=>by rw[e];simp)
 obtain⟨r1,r2⟩:=Ap (v:=v) HW.out HK.out hown9 hg9 hat'
 have hrow:∀B,w.heap.size<=B->(Value.slice a2 vs.length cap).ownBlock≠some B:=λB hB e=>by have:=(ii HW.out e).2;omega
 have hg':g9<w.heap.size\/w.heap.size+1+1+1<g9:=by
  rcases hat' with e|e
  ·exact .inl (ii HW.out e).2
  ·right
   rw[e]
   simp
 have x0:=mV (m:=0) hg9 (by rw[hs3];omega) (hrow w.heap.size (Nat.le_refl _)) p0
 have x1:=mV (m:=0) hg9 (by rw[hs3];omega) (hrow w.heap.size (Nat.le_refl _)) p1
 have x2:=mV (m:=0) hg9 (by rw[hs3];omega) (hrow w.heap.size (Nat.le_refl _)) p2
 have xf:=uO (m:=0) hg9 (by rw[hs3];omega) (hrow w.heap.size (Nat.le_refl _)) (HFG.out 1)
 obtain⟨_,n0,n1,n2,m0,m1',m2⟩:=HN.out
 have y0:=mV (m:=0) hg9 (by rw[hs3];omega) (hrow (w.heap.size+1+1) (by omega)) n0
 have y1:=mV (m:=0) hg9 (by rw[hs3];omega) (hrow (w.heap.size+1+1) (by omega)) n1
 have y2:=mV (m:=0) hg9 (by rw[hs3];omega) (hrow (w.heap.size+1+1) (by omega)) n2
 have z0:=uO (m:=0) hg9 (by rw[hs3];omega) (hrow (w.heap.size+1+1) (by omega)) m0
 have z1:=uO (m:=0) hg9 (by rw[hs3];omega) (hrow (w.heap.size+1+1) (by omega)) m1'
 have z2:=uO (m:=0) hg9 (by rw[hs3];omega) (hrow (w.heap.size+1+1) (by omega)) m2
 have R1:Hid _:=r1
 have R2:Hid _:=r2
 clear r1 r2 hown9 hg9 hat9 hat' hrow hown HW HK HN HG HFG p0 p1 p2 v0 v1 v2 v3 v4 v5 hbz hs3 n0 n1 n2 m0 m1' m2 hlt9
 go_wp2_with fail
 have nB:∀B,(B=w.heap.size\/B=w.heap.size+1+1)->(Value.slice (some ⟨g9,0,none⟩) (vs.length+1) cap9).ownBlock≠some B:=λB hB e=>by
  have e':g9=B:=by simpa[Value.ownBlock] using e
  omega
 have o1:=ir (o:=2) (u:=.slice b3 m3 e3) (ir (o:=1) (u:=.slice (some ⟨g9,0,none⟩) (vs.length+1) cap9) (ir (o:=0) (u:=.slice b1 m1 e1) (ir (o:=1) (u:=.slice (some ⟨g9,0,none⟩) (vs.length+1) cap9) R1.out (nB w.heap.size (.inl rfl))) (nB (w.heap.size+1+1) (.inr rfl))) (nB (w.heap.size+1+1) (.inr rfl))) (nB (w.heap.size+1+1) (.inr rfl))
 have y0':(w9.setCell ⟨w.heap.size,1,none⟩ (.slice (some ⟨g9,0,none⟩) (vs.length+1) cap9)).cell? ⟨w.heap.size+1+1,0,none⟩=_:=(iB _ _ _ _ _ _ (.inl (by omega))).trans y0
 have y1':(w9.setCell ⟨w.heap.size,1,none⟩ (.slice (some ⟨g9,0,none⟩) (vs.length+1) cap9)).cell? ⟨w.heap.size+1+1,1,none⟩=_:=(iB _ _ _ _ _ _ (.inl (by omega))).trans y1
 have y2':(w9.setCell ⟨w.heap.size,1,none⟩ (.slice (some ⟨g9,0,none⟩) (vs.length+1) cap9)).cell? ⟨w.heap.size+1+1,2,none⟩=_:=(iB _ _ _ _ _ _ (.inl (by omega))).trans y2
 obtain⟨s0,s1,s2⟩:=iy (w9.setCell ⟨w.heap.size,1,none⟩ (.slice (some ⟨g9,0,none⟩) (vs.length+1) cap9)) (w.heap.size+1+1) _ _ _ y0' y1' y2' (.slice b1 m1 e1) (.slice (some ⟨g9,0,none⟩) (vs.length+1) cap9) (.slice b3 m3 e3)
 have q1:=StQ.new R2.out (it (lo:=w.heap.size) (hi:=w.heap.size+1) w9 ⟨w.heap.size,1,none⟩ (.slice (some ⟨g9,0,none⟩) (vs.length+1) cap9) (.inl ⟨Nat.le_refl _,Nat.lt_succ_self _⟩)) (Nat.le_refl _)
 have q2:=StQ.new q1 (iD (w9.setCell ⟨w.heap.size,1,none⟩ (.slice (some ⟨g9,0,none⟩) (vs.length+1) cap9)) (w.heap.size+1+1) (.slice b1 m1 e1) (.slice (some ⟨g9,0,none⟩) (vs.length+1) cap9) (.slice b3 m3 e3)) (by omega)
 refine bodyPost_ret (v:=ip b1 m1 e1 (some ⟨g9,0,none⟩) (vs.length+1) cap9 b3 m3 e3) (by simp[results,Tryz.results50,go_sem,s0,s1,s2]) rfl ⟨g9,cap9,rfl,o1,q2⟩
end Go.Proofs.YtnlffngpnoodkaaGreat
