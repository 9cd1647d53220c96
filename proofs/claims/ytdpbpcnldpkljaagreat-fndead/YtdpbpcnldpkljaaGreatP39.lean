import Derived.Test.YtdpbpcnldpkljaaGreatP17
import Derived.Test.YtdpbpcnldpkljaaGreatP15
import Derived.Test.YtdpbpcnldpkljaaGreatP16
import Derived.Test.YtdpbpcnldpkljaaGreatP33
namespace Go.Proofs.Z
open Tryz
set_option maxRecDepth 1000000
set_option maxHeartbeats 0
section
open Go.RowKit Flt
attribute [local go_sem] eD eB eA
variable {b1 b3 a2:Option Addr} {m1 e1 m3 e3 base cap vk:Nat} {vs:List Vl} {o ln va vb vc:Int} {R R':Option Nat} {c0 c1 c2 c4 c6 c7 c8 c9 c10 c11 c14 c15 c16:Value}
theorem A7 {w W:World}{tb:Int}{c17 c18 c19:Value}(HM:Hid (MS w W b1 m1 e1 b3 m3 e3 vs ⟨o,ln,va,vb,vc,vk⟩ base R R' a2 cap))(hbd:vs.length<=900000):MfC 20 W (MpR w b1 m1 e1 b3 m3 e3 vs ⟨o,ln,va,vb,vc,vk⟩ base R (eI 4 ln va tb 0)) c0 c1 c2 (.int .i64 tb) c4 (.pointer (some ⟨w.heap.size,0,none⟩)) c6 c7 c8 c9 c10 c11 (.pointer (some ⟨w.heap.size+1+1,0,none⟩)) (.int .i64 ln) c14 c15 c16 c17 c18 c19 c11:=by
 unfold MfC
 intros
 rename_i HK
 have HC:Hid (∀W1,Kept 0 0 W W1->_):=λW1 k=>MS.call HM.out k (eI 4 ln va tb 0) xaa
 have s0:=HM.out.g.c0
 have s1:=HM.out.g.c1
 have s2:=HM.out.g.c2
 have v2:=HM.out.v.c2
 exact xad
theorem sJ {w W:World}{p q d:Int}{c3:Value}(HM:Hid (MS w W b1 m1 e1 b3 m3 e3 vs ⟨o,ln,va,vb,vc,vk⟩ base R R' a2 cap))(hbd:vs.length<=900000):MfC 52 W (MpR w b1 m1 e1 b3 m3 e3 vs ⟨o,ln,va,vb,vc,vk⟩ base R (eI 8 ln d p q)) c0 c1 c2 c3 c4 (.pointer (some ⟨w.heap.size,0,none⟩)) c6 c7 c8 c9 c10 c11 (.pointer (some ⟨w.heap.size+1+1,0,none⟩)) (.int .i64 ln) c14 c15 c16 (.int .i64 p) (.int .i64 q) (.int .i64 d) c11:=by
 unfold MfC
 intros
 rename_i HK
 have HC:Hid (∀W1,Kept 0 0 W W1->_):=λW1 k=>MS.call HM.out k (eI 8 ln d p q) xaa
 exact xae
end
section
open Go.RowKit Flt
variable {vs1 vs2 vs3 vs4 vs:List Vl} {m1 e1 m3 e3 base cap:Nat} {ln va ta tb m2:Int} {b1 b3:Option Addr}
theorem oR {w W':World}{g2:Nat}(h:w.ownsRow base 35 6 (.slice (some ⟨g2,0,none⟩) vs.length cap) vs.length (fp vs))(k:Kept 0 0 w W')(r:Int):
  MvP w b1 m1 e1 b3 m3 e3 vs base (some g2) ([],r) (.returned (.tuple #[eR b1 m1 e1 (some ⟨g2,0,none⟩) vs.length cap b3 m3 e3,.int .i64 r])) W':=by
 unfold MvP
 exact xin
def orM (a n:Int)(N:Nat):List Vl×Int:=if a<0 then ([eI 1 n 0 0 0],(N:Int)) else ([],a)
theorem MS.orAny {w W W1:World}{a2:Option Addr}{v:Vl}{R R':Option Nat}(h:MS w W b1 m1 e1 b3 m3 e3 vs v base R R' a2 cap)(k:Kept 0 0 W W1)(a n:Int)(hn:vs.length<=900000):
  Calls prog 153 #[eR b1 m1 e1 a2 vs.length cap b3 m3 e3,.int .i64 a,.int .i64 n] W1 λe w2=>∃(vs2:List Vl) (m:Int) (a2':Option Addr) (cap':Nat) (R2:Option Nat),Hid (vs2=vs++(orM a n vs.length).1/\m=(orM a n vs.length).2)/\vs2.length<=vs.length+1/\e=.returned (.tuple #[eR b1 m1 e1 a2' vs2.length cap' b3 m3 e3,.int .i64 m])/\
   (∃u,w2.cell? ⟨w.heap.size,0,none⟩=some u)/\(∃u,w2.cell? ⟨w.heap.size,1,none⟩=some u)/\(∃u,w2.cell? ⟨w.heap.size,2,none⟩=some u)/\(∀o,w2.frozen? ⟨w.heap.size,o,none⟩=false)/\At w2 (w.heap.size+1+1) 0 v/\
   Hid (MS w (fe w2 w.heap.size (.slice b1 m1 e1) (.slice a2' vs2.length cap') (.slice b3 m3 e3)) b1 m1 e1 b3 m3 e3 vs2 v base R R2 a2' cap'):=by
 by_cases ha:a<0
 ·refine(h.orNone k a n ha hn).mono ?_
  rintro e w2 ⟨g',cap',rfl,r0,r1,r2,rf,hv,hM⟩
  have hl:(vs++[eI 1 n 0 0 0]).length=vs.length+1:=by simp
  refine⟨vs++[eI 1 n 0 0 0],(vs.length:Nat),some ⟨g',0,none⟩,cap',some g',⟨by rw[orM,if_pos ha],by rw[orM,if_pos ha]⟩,by rw[hl];exact yad,by rw[hl],r0,r1,r2,rf,hv,?_⟩
  rw[hl]
  exact hM
 ·refine(h.orSome k a n xaa).mono ?_
  rintro e w2 ⟨rfl,r0,r1,r2,rf,hv,hM⟩
  exact⟨vs,a,a2,cap,R',⟨by rw[orM,if_neg ha,List.append_nil],by rw[orM,if_neg ha]⟩,by omega,rfl,r0,r1,r2,rf,hv,hM⟩
theorem E6 {d m3:Int}(h1:-1<=ta)(h2:-1<=tb)(q2:vs2=vs++(orM ta ln vs.length).1/\m2=(orM ta ln vs.length).2)(q3:vs3=vs2++(orM tb ln vs2.length).1/\m3=(orM tb ln vs2.length).2)(q4:vs4=vs3++[eI 8 ln d m2 m3]):
  vs4=vs++(chM ln d ta tb vs.length).1/\(vs4.length:Int)-1=(chM ln d ta tb vs.length).2:=by
 obtain⟨rfl,rfl⟩:=q2
 obtain⟨rfl,rfl⟩:=q3
 subst q4
 unfold chM orM
 by_cases a:ta<0
 ·have a':ta=-1:=xaa
  by_cases b:tb<0
  ·have b':tb=-1:=xaa
   subst a' b'
   simp
   omega
  ·have b':¬tb=-1:=xaa
   subst a'
   simp[b,b']
   omega
 ·have a':¬ta=-1:=xaa
  by_cases b:tb<0
  ·have b':tb=-1:=xaa
   subst b'
   simp[a,a']
   omega
  ·have b':¬tb=-1:=xaa
   simp[a,a',b,b']
theorem A8 {tc m1:Int}(h1:-1<=tb)(h2:-1<=tc)(q2:vs1=vs++(orM tb ln vs.length).1/\m1=(orM tb ln vs.length).2)(q3:vs2=vs1++(orM tc ln vs1.length).1/\m2=(orM tc ln vs1.length).2)(q4:vs3=vs2++[eI 8 ln va m1 m2]):
  vs3=vs++(chM ln va tb tc vs.length).1/\(vs3.length:Int)-1=(chM ln va tb tc vs.length).2:=E6 h1 h2 q2 q3 q4
theorem A9 {vb m3:Int}(h1:-1<=ta)(h2:-1<=tb)(q1:vs1=vs++[eI 3 ln va vb 0])(q2:vs2=vs1++(orM ta ln vs1.length).1/\m2=(orM ta ln vs1.length).2)(q3:vs3=vs2++(orM tb ln vs2.length).1/\m3=(orM tb ln vs2.length).2)(q4:vs4=vs3++[eI 8 ln ((vs.length:Nat):Int) m2 m3]):
  vs4=vs++([eI 3 ln va vb 0]++(chM ln ((vs.length:Nat):Int) ta tb (vs.length+1)).1)/\(vs4.length:Int)-1=(chM ln ((vs.length:Nat):Int) ta tb (vs.length+1)).2:=by
 have hl:vs1.length=vs.length+1:=by rw[q1];simp
 have:=E6 h1 h2 q2 q3 q4
 rw[hl] at this
 refine⟨?_,this.2⟩
 rw[this.1,q1,List.append_assoc]
variable {w W W':World} {b1 b3 a2:Option Addr} {m1 e1 cap m3 e3 base g2 i:Nat} {vs vs0:List Vl} {v:Vl} {ta tb tc:Int} {R R':Option Nat} {M:List Vl×Int}
def MvC (w:World)(b1 b3:Option Addr)(m1 e1 cap m3 e3 base g2 i:Nat)(vs:List Vl)(ta tb tc:Int)(M:List Vl×Int):Prop:=
 Calls prog 151 #[eR b1 m1 e1 (some ⟨g2,0,none⟩) vs.length cap b3 m3 e3,.int .i64 (i:Int),.int .i64 ta,.int .i64 tb,.int .i64 tc] w λe w'=>MvP w b1 m1 e1 b3 m3 e3 vs base (some g2) M e w'
theorem MS.orX (h:MS w W b1 m1 e1 b3 m3 e3 vs v base R R' a2 cap)(a n:Int)(hn:vs.length<=900000):
  Calls prog 153 #[eR b1 m1 e1 a2 vs.length cap b3 m3 e3,.int .i64 a,.int .i64 n] W λe w2=>∃(us:List Vl) (m:Int) (a2':Option Addr) (cap':Nat) (R2:Option Nat) (wd:World),Hid (us=vs++(orM a n vs.length).1/\m=(orM a n vs.length).2)/\us.length<=vs.length+1/\e=.returned (.tuple #[eR b1 m1 e1 a2' us.length cap' b3 m3 e3,.int .i64 m])/\
   (∃u,w2.cell? ⟨w.heap.size,0,none⟩=some u)/\(∃u,w2.cell? ⟨w.heap.size,1,none⟩=some u)/\(∃u,w2.cell? ⟨w.heap.size,2,none⟩=some u)/\w2.frozen? ⟨w.heap.size,0,none⟩=false/\w2.frozen? ⟨w.heap.size,1,none⟩=false/\w2.frozen? ⟨w.heap.size,2,none⟩=false/\
   Hid (((w2.setCell ⟨w.heap.size,0,none⟩ (.slice b1 m1 e1)).setCell ⟨w.heap.size,1,none⟩ (.slice a2' us.length cap')).setCell ⟨w.heap.size,2,none⟩ (.slice b3 m3 e3)=wd)/\Hid (MS w wd b1 m1 e1 b3 m3 e3 us v base R R2 a2' cap'):=by
 refine(MS.orAny h (Kept.refl 0 0 _) a n hn).mono ?_
 rintro e w2 ⟨us,m,aa,cc,RR,HV,hL,rfl,x0,x1,x2,rf,_,hM⟩
 exact⟨us,m,aa,cc,RR,_,HV,hL,rfl,x0,x1,x2,rf 0,rf 1,rf 2,rfl,hM⟩
theorem MS.finR (h:MS w W b1 m1 e1 b3 m3 e3 vs v base R R' a2 cap)(hR:∃w3,Kept 0 0 W w3/\W'=fe w3 (w.heap.size+1) (.slice b1 m1 e1) (.slice a2 vs.length cap) (.slice b3 m3 e3))(hv:vs=vs0++M.1):
  MvP w b1 m1 e1 b3 m3 e3 vs0 base R M (.returned (.tuple #[eR b1 m1 e1 a2 vs.length cap b3 m3 e3,.int .i64 M.2])) W':=by
 obtain⟨w3,k3,rfl⟩:=hR
 exact MS.fin h k3 hv
end
section
open Go.RowKit Flt
attribute [local go_sem] eD eB eA
variable {w:World} {b1 b3:Option Addr} {m1 e1 cap m3 e3 base g2 i:Nat} {vs:List Vl} {o ln va vb vc:Int} {vk:Nat} {ta tb tc:Int}
theorem Ds (H:MvH w cap base g2 i vs ⟨2,ln,va,vb,vc,vk⟩)(ha:0<=ta)(hb':0<=tb):MvC w b1 b3 m1 e1 cap m3 e3 base g2 i vs ta tb tc ([eI 2 ln ta tb 0],((vs.length:Nat):Int)):=by
 obtain⟨⟨v0,v1,v2,v3,v4,v5⟩,j0,j1,hg2,wB,hB,hn,HM,HO⟩:=H.op b1 b3 m1 e1 m3 e3
 clear H
 unfold MvC
 go_enter func151,ntmps151
 go_wp2_with fail
 rw[hB.out]
 clear v0 v1 v2 v3 v4 v5 hB
 refine fg (EL HM xaa ?_)
 clear HM
 unfold MfK
 intros
 rename_i wc hR
 obtain⟨vs1,g',cap',HV1,hL1,HM⟩:=hR
 go_wp2_with fail
 refine fg (EK HM xaa (show(vs1.length:Int)-1=((vs.length:Nat):Int) by have:=HV1.out.2;omega) ?_)
 exact no_implicit_lambda% xbt
theorem Dt (H:MvH w cap base g2 i vs ⟨2,ln,va,vb,vc,vk⟩)(ha:0<=ta)(hb':tb<0):MvC w b1 b3 m1 e1 cap m3 e3 base g2 i vs ta tb tc ([],ta):=by
 exact xbr
theorem Du (H:MvH w cap base g2 i vs ⟨2,ln,va,vb,vc,vk⟩)(ha:ta<0)(hb':0<=tb):MvC w b1 b3 m1 e1 cap m3 e3 base g2 i vs ta tb tc ([],tb):=by
 exact xbr
theorem Dv (H:MvH w cap base g2 i vs ⟨5,ln,va,vb,vc,vk⟩)(ha:0<=ta)(hb':tb<0):MvC w b1 b3 m1 e1 cap m3 e3 base g2 i vs ta tb tc ([eI 5 ln ta vb 0],((vs.length:Nat):Int)):=by
 obtain⟨⟨v0,v1,v2,v3,v4,v5⟩,j0,j1,hg2,wB,hB,hn,HM,HO⟩:=H.op b1 b3 m1 e1 m3 e3
 clear H
 unfold MvC
 go_enter func151,ntmps151
 go_wp2_with fail
 rw[hB.out]
 clear v0 v1 v2 v3 v4 v5 hB
 refine fg (rK HM xaa ?_)
 exact no_implicit_lambda% xax
variable {w:World} {b1 b3:Option Addr} {m1 e1 cap m3 e3 base g2 i:Nat} {vs:List Vl} {o ln va vb vc:Int} {vk:Nat} {ta tb tc:Int}
theorem Dz (H:MvH w cap base g2 i vs ⟨3,ln,va,vb,vc,vk⟩)(ha:0<=ta)(hb':0<=tb):MvC w b1 b3 m1 e1 cap m3 e3 base g2 i vs ta tb tc ([eI 3 ln ta tb 0],((vs.length:Nat):Int)):=by
 obtain⟨⟨v0,v1,v2,v3,v4,v5⟩,j0,j1,hg2,wB,hB,hn,HM,HO⟩:=H.op b1 b3 m1 e1 m3 e3
 clear H
 unfold MvC
 go_enter func151,ntmps151
 go_wp2_with fail
 rw[hB.out]
 clear v0 v1 v2 v3 v4 v5 hB
 refine fg (EL HM xaa ?_)
 clear HM
 unfold MfK
 intros
 rename_i wc hR
 obtain⟨vs1,g',cap',HV1,hL1,HM⟩:=hR
 go_wp2_with fail
 refine fg (EK HM xaa (show(vs1.length:Int)-1=((vs.length:Nat):Int) by have:=HV1.out.2;omega) ?_)
 exact no_implicit_lambda% xbt
theorem DA (H:MvH w cap base g2 i vs ⟨3,ln,va,vb,vc,vk⟩)(ha:0<=ta)(hb':tb<0):MvC w b1 b3 m1 e1 cap m3 e3 base g2 i vs ta tb tc ([],ta):=by
 exact xbr
theorem DB (H:MvH w cap base g2 i vs ⟨3,ln,va,vb,vc,vk⟩)(ha:ta<0)(hb':0<=tb):MvC w b1 b3 m1 e1 cap m3 e3 base g2 i vs ta tb tc ([eI 6 ln tb 0 0],((vs.length:Nat):Int)):=by
 obtain⟨⟨v0,v1,v2,v3,v4,v5⟩,j0,j1,hg2,wB,hB,hn,HM,HO⟩:=H.op b1 b3 m1 e1 m3 e3
 clear H
 unfold MvC
 go_enter func151,ntmps151
 go_wp2_with fail
 rw[hB.out]
 clear v0 v1 v2 v3 v4 v5 hB
 refine fg (Fx HM xaa ?_)
 clear HM
 unfold MfK
 intros
 rename_i wc hR
 obtain⟨vs1,g',cap',HV1,hL1,HM⟩:=hR
 go_wp2_with fail
 refine fg (Fw HM xaa (show(vs1.length:Int)-1=((vs.length:Nat):Int) by have:=HV1.out.2;omega) ?_)
 exact no_implicit_lambda% xbt
theorem GM (H:MvH w cap base g2 i vs ⟨o,ln,va,vb,vc,vk⟩)(ho:o≠2/\o≠3/\o≠4/\o≠5/\o≠7/\o≠8/\o≠13)(ha:0<=ta):MvC w b1 b3 m1 e1 cap m3 e3 base g2 i vs ta tb tc ([eI o ln ta 0 vc],((vs.length:Nat):Int)):=by
 obtain⟨⟨v0,v1,v2,v3,v4,v5⟩,j0,j1,hg2,wB,hB,hn,HM,HO⟩:=H.op b1 b3 m1 e1 m3 e3
 clear H
 unfold MvC
 have t2:(o==2)=false:=yam ho.1
 have t3:(o==3)=false:=yam ho.2.1
 have t4:(o==4)=false:=yam ho.2.2.1
 have t5:(o==5)=false:=yam ho.2.2.2.1
 have t7:(o==7)=false:=yam ho.2.2.2.2.1
 have t8:(o==8)=false:=yam ho.2.2.2.2.2.1
 have t13:(o==13)=false:=yam ho.2.2.2.2.2.2
 clear ho
 go_enter func151,ntmps151
 go_wp2_with fail
 rw[hB.out]
 clear v0 v1 v2 v3 v4 v5 hB
 refine fg (FA HM xaa ?_)
 clear HM
 unfold MfK
 intros
 rename_i wc hR
 obtain⟨vs1,g',cap',HV1,hL1,HM⟩:=hR
 go_wp2_with fail
 refine fg (zo HM xaa (show(vs1.length:Int)-1=((vs.length:Nat):Int) by have:=HV1.out.2;omega) ?_)
 exact no_implicit_lambda% xbt
theorem DC (H:MvH w cap base g2 i vs ⟨8,ln,va,vb,vc,vk⟩)(hb':tb<0)(hc:tc<0):MvC w b1 b3 m1 e1 cap m3 e3 base g2 i vs ta tb tc ([],-1):=by
 exact xbr
variable {w:World} {b1 b3:Option Addr} {m1 e1 cap m3 e3 base g2 i:Nat} {vs:List Vl} {o ln va vb vc:Int} {vk:Nat} {ta tb tc:Int}
theorem DD (H:MvH w cap base g2 i vs ⟨4,ln,va,vb,vc,vk⟩)(ha:0<=ta)(hb':0<=tb):MvC w b1 b3 m1 e1 cap m3 e3 base g2 i vs ta tb tc ([eI 4 ln ta vb 0,eI 4 ln va tb 0,eI 2 ln ((vs.length:Nat):Int) (((vs.length:Nat):Int)+1) 0],(((vs.length:Nat):Int)+2)):=by
 obtain⟨⟨v0,v1,v2,v3,v4,v5⟩,j0,j1,hg2,wB,hB,hn,HM,HO⟩:=H.op b1 b3 m1 e1 m3 e3
 clear H
 unfold MvC
 go_enter func151,ntmps151
 go_wp2_with fail
 rw[hB.out]
 clear v0 v1 v2 v3 v4 v5 hB
 refine fg (rK HM xaa ?_)
 clear HM
 unfold MfK
 intros
 rename_i wc hR
 obtain⟨vs1,g',cap',HV1,hL1,HM⟩:=hR
 obtain⟨_,_,s0,s1,s2,_,_,_,_⟩:=HM.out.g
 go_wp2_with fail
 refine(MS.lst HM.out xaa (show(vs1.length:Int)-1=((vs.length:Nat):Int) by have:=HV1.out.2;omega)).mono ?_
 clear HM s0 s1 s2
 rintro e wl ⟨rfl,HM⟩
 have v0:=HM.out.v.c0
 go_wp2_with fail
 clear v0
 refine fg (A7 HM xaa ?_)
 clear HM
 unfold MfK
 intros
 rename_i wc hR
 obtain⟨vs2,g',cap',HV2,hL2,HM⟩:=hR
 obtain⟨_,_,s0,s1,s2,_,_,_,_⟩:=HM.out.g
 go_wp2_with fail
 refine(MS.lst HM.out xaa (show(vs2.length:Int)-1=(((vs.length:Nat):Int)+1) by have:=HV1.out.2;have:=HV2.out.2;omega)).mono ?_
 clear HM s0 s1 s2
 rintro e wl ⟨rfl,HM⟩
 have v0:=HM.out.v.c0
 have tp0:(0:Int)<=((vs.length:Nat):Int):=xaa
 have tp1:(0:Int)<=(((vs.length:Nat):Int)+1):=xaa
 go_wp2_with fail
 clear v0
 refine fg (zl HM xaa ?_)
 clear HM
 unfold MfK
 intros
 rename_i wc hR
 obtain⟨vs3,g',cap',HV3,hL3,HM⟩:=hR
 go_wp2_with fail
 refine fg (zn HM xaa (show(vs3.length:Int)-1=(((vs.length:Nat):Int)+2) by have:=HV1.out.2;have:=HV2.out.2;have:=HV3.out.2;omega) ?_)
 exact no_implicit_lambda% xfk
variable {w:World} {b1 b3:Option Addr} {m1 e1 cap m3 e3 base g2 i:Nat} {vs:List Vl} {o ln va vb vc:Int} {vk:Nat} {ta tb tc:Int}
theorem DE (H:MvH w cap base g2 i vs ⟨4,ln,va,vb,vc,vk⟩)(ha:0<=ta)(hb':tb<0):MvC w b1 b3 m1 e1 cap m3 e3 base g2 i vs ta tb tc ([eI 4 ln ta vb 0],((vs.length:Nat):Int)):=by
 obtain⟨⟨v0,v1,v2,v3,v4,v5⟩,j0,j1,hg2,wB,hB,hn,HM,HO⟩:=H.op b1 b3 m1 e1 m3 e3
 clear H
 unfold MvC
 go_enter func151,ntmps151
 go_wp2_with fail
 rw[hB.out]
 clear v0 v1 v2 v3 v4 v5 hB
 refine fg (rK HM xaa ?_)
 exact no_implicit_lambda% xax
theorem DF (H:MvH w cap base g2 i vs ⟨4,ln,va,vb,vc,vk⟩)(ha:ta<0)(hb':0<=tb):MvC w b1 b3 m1 e1 cap m3 e3 base g2 i vs ta tb tc ([eI 4 ln va tb 0],((vs.length:Nat):Int)):=by
 obtain⟨⟨v0,v1,v2,v3,v4,v5⟩,j0,j1,hg2,wB,hB,hn,HM,HO⟩:=H.op b1 b3 m1 e1 m3 e3
 clear H
 unfold MvC
 go_enter func151,ntmps151
 go_wp2_with fail
 rw[hB.out]
 clear v0 v1 v2 v3 v4 v5 hB
 refine fg (A7 HM xaa ?_)
 exact no_implicit_lambda% xax
theorem GN (H:MvH w cap base g2 i vs ⟨13,ln,va,vb,vc,vk⟩)(ha:0<=ta):MvC w b1 b3 m1 e1 cap m3 e3 base g2 i vs ta tb tc ([eI 4 ln ta (i:Int) 0],((vs.length:Nat):Int)):=by
 obtain⟨⟨v0,v1,v2,v3,v4,v5⟩,j0,j1,hg2,wB,hB,hn,HM,HO⟩:=H.op b1 b3 m1 e1 m3 e3
 clear H
 unfold MvC
 go_enter func151,ntmps151
 go_wp2_with fail
 rw[hB.out]
 clear v0 v1 v2 v3 v4 v5 hB
 refine fg (FB HM xaa ?_)
 clear HM
 unfold MfK
 intros
 rename_i wc hR
 obtain⟨vs1,g',cap',HV1,hL1,HM⟩:=hR
 go_wp2_with fail
 refine fg (zo HM xaa (show(vs1.length:Int)-1=((vs.length:Nat):Int) by have:=HV1.out.2;omega) ?_)
 exact no_implicit_lambda% xbt
variable {w:World} {b1 b3:Option Addr} {m1 e1 cap m3 e3 base g2 i:Nat} {vs:List Vl} {o ln va vb vc:Int} {vk:Nat} {ta tb tc:Int}
theorem DH (H:MvH w cap base g2 i vs ⟨5,ln,va,vb,vc,vk⟩)(ha:ta<0)(hb':0<=tb):MvC w b1 b3 m1 e1 cap m3 e3 base g2 i vs ta tb tc ([eI 4 ln (i:Int) tb 0,eI 5 ln ((vs.length:Nat):Int) vb 0,eI 6 ln (((vs.length:Nat):Int)+1) 0 0],(((vs.length:Nat):Int)+2)):=by
 obtain⟨⟨v0,v1,v2,v3,v4,v5⟩,j0,j1,hg2,wB,hB,hn,HM,HO⟩:=H.op b1 b3 m1 e1 m3 e3
 clear H
 unfold MvC
 go_enter func151,ntmps151
 go_wp2_with fail
 rw[hB.out]
 clear v0 v1 v2 v3 v4 v5 hB
 refine fg (zk HM xaa ?_)
 clear HM
 unfold MfK
 intros
 rename_i wc hR
 obtain⟨vs1,g',cap',HV1,hL1,HM⟩:=hR
 go_wp2_with fail
 refine fg (zp HM xaa (show(vs1.length:Int)-1=((vs.length:Nat):Int) by have:=HV1.out.2;omega) ?_)
 clear HM
 unfold MfK
 intros
 rename_i wc hR
 obtain⟨vs2,g',cap',HV2,hL2,HM⟩:=hR
 obtain⟨_,_,s0,s1,s2,_,_,_,_⟩:=HM.out.g
 go_wp2_with fail
 refine(MS.lst HM.out xaa (show(vs2.length:Int)-1=(((vs.length:Nat):Int)+1) by have:=HV1.out.2;have:=HV2.out.2;omega)).mono ?_
 clear HM s0 s1 s2
 rintro e wl ⟨rfl,HM⟩
 have v0:=HM.out.v.c0
 have tp0:(0:Int)<=(((vs.length:Nat):Int)+1):=xaa
 go_wp2_with fail
 clear v0
 refine fg (Fy HM xaa ?_)
 clear HM
 unfold MfK
 intros
 rename_i wc hR
 obtain⟨vs3,g',cap',HV3,hL3,HM⟩:=hR
 go_wp2_with fail
 refine fg (Fz HM xaa (show(vs3.length:Int)-1=(((vs.length:Nat):Int)+2) by have:=HV1.out.2;have:=HV2.out.2;have:=HV3.out.2;omega) ?_)
 exact no_implicit_lambda% xfk
variable {w:World} {b1 b3:Option Addr} {m1 e1 cap m3 e3 base g2 i:Nat} {vs:List Vl} {o ln va vb vc:Int} {vk:Nat} {ta tb tc:Int}
theorem DJ (H:MvH w cap base g2 i vs ⟨5,ln,va,vb,vc,vk⟩)(ha:0<=ta)(hb':0<=tb):MvC w b1 b3 m1 e1 cap m3 e3 base g2 i vs ta tb tc ([eI 5 ln ta vb 0,eI 4 ln (i:Int) tb 0,eI 5 ln (((vs.length:Nat):Int)+1) vb 0,eI 3 ln ((vs.length:Nat):Int) (((vs.length:Nat):Int)+2) 0],(((vs.length:Nat):Int)+3)):=by
 obtain⟨⟨v0,v1,v2,v3,v4,v5⟩,j0,j1,hg2,wB,hB,hn,HM,HO⟩:=H.op b1 b3 m1 e1 m3 e3
 clear H
 unfold MvC
 go_enter func151,ntmps151
 go_wp2_with fail
 rw[hB.out]
 clear v0 v1 v2 v3 v4 v5 hB
 refine fg (rK HM xaa ?_)
 clear HM
 unfold MfK
 intros
 rename_i wc hR
 obtain⟨vs1,g',cap',HV1,hL1,HM⟩:=hR
 obtain⟨_,_,s0,s1,s2,_,_,_,_⟩:=HM.out.g
 go_wp2_with fail
 refine(MS.lst HM.out xaa (show(vs1.length:Int)-1=((vs.length:Nat):Int) by have:=HV1.out.2;omega)).mono ?_
 clear HM s0 s1 s2
 rintro e wl ⟨rfl,HM⟩
 have v0:=HM.out.v.c0
 go_wp2_with fail
 clear v0
 refine fg (zk HM xaa ?_)
 clear HM
 unfold MfK
 intros
 rename_i wc hR
 obtain⟨vs2,g',cap',HV2,hL2,HM⟩:=hR
 go_wp2_with fail
 refine fg (zp HM xaa (show(vs2.length:Int)-1=(((vs.length:Nat):Int)+1) by have:=HV1.out.2;have:=HV2.out.2;omega) ?_)
 clear HM
 unfold MfK
 intros
 rename_i wc hR
 obtain⟨vs3,g',cap',HV3,hL3,HM⟩:=hR
 obtain⟨_,_,s0,s1,s2,_,_,_,_⟩:=HM.out.g
 go_wp2_with fail
 refine(MS.lst HM.out xaa (show(vs3.length:Int)-1=(((vs.length:Nat):Int)+2) by have:=HV1.out.2;have:=HV2.out.2;have:=HV3.out.2;omega)).mono ?_
 clear HM s0 s1 s2
 rintro e wl ⟨rfl,HM⟩
 have v0:=HM.out.v.c0
 have tp0:(0:Int)<=((vs.length:Nat):Int):=xaa
 have tp1:(0:Int)<=(((vs.length:Nat):Int)+2):=xaa
 go_wp2_with fail
 clear v0
 refine fg (zl HM xaa ?_)
 clear HM
 unfold MfK
 intros
 rename_i wc hR
 obtain⟨vs4,g',cap',HV4,hL4,HM⟩:=hR
 go_wp2_with fail
 refine fg (zn HM xaa (show(vs4.length:Int)-1=(((vs.length:Nat):Int)+3) by have:=HV1.out.2;have:=HV2.out.2;have:=HV3.out.2;have:=HV4.out.2;omega) ?_)
 unfold MfK
 intros
 rename_i W3 hR
 obtain⟨y0,y1,y2,HR⟩:=hR
 go_wp2_with fail
 exact yay (by simp[results,results151,go_sem,y0,y1,y2]) rfl (MS.finR HM.out HR.out (by rw[HV4.out.1,HV3.out.1,HV2.out.1,HV1.out.1]<;>simp))
variable {w:World} {b1 b3:Option Addr} {m1 e1 cap m3 e3 base g2 i:Nat} {vs:List Vl} {o ln va vb vc:Int} {vk:Nat} {ta tb tc:Int}
theorem DK (H:MvH w cap base g2 i vs ⟨7,ln,va,vb,vc,vk⟩)(ha:0<=ta)(hb':-1<=tb):MvC w b1 b3 m1 e1 cap m3 e3 base g2 i vs ta tb tc ([eI 3 ln va vb 0]++(chM ln ((vs.length:Nat):Int) ta tb (vs.length+1)).1,(chM ln ((vs.length:Nat):Int) ta tb (vs.length+1)).2):=by
 exact xaw
theorem DL (H:MvH w cap base g2 i vs ⟨8,ln,va,vb,vc,vk⟩)(hb':0<=tb)(hc:-1<=tc):MvC w b1 b3 m1 e1 cap m3 e3 base g2 i vs ta tb tc (chM ln va tb tc vs.length):=by
 exact xbb
variable {w:World} {b1 b3:Option Addr} {m1 e1 cap m3 e3 base g2 i:Nat} {vs:List Vl} {o ln va vb vc:Int} {vk:Nat} {ta tb tc:Int}
theorem DM (H:MvH w cap base g2 i vs ⟨7,ln,va,vb,vc,vk⟩)(ha:ta<0)(ha1:-1<=ta)(hb':0<=tb):MvC w b1 b3 m1 e1 cap m3 e3 base g2 i vs ta tb tc ([eI 3 ln va vb 0]++(chM ln ((vs.length:Nat):Int) ta tb (vs.length+1)).1,(chM ln ((vs.length:Nat):Int) ta tb (vs.length+1)).2):=by
 exact xaw
theorem DN (H:MvH w cap base g2 i vs ⟨8,ln,va,vb,vc,vk⟩)(hb':tb<0)(hb1:-1<=tb)(hc:0<=tc):MvC w b1 b3 m1 e1 cap m3 e3 base g2 i vs ta tb tc (chM ln va tb tc vs.length):=by
 exact xbb
end
section
open Go.RowKit Flt
theorem GO (w:World)(b1 b3:Option Addr)(m1 e1 cap m3 e3 base g2 i:Nat)(vs:List Vl)(v:Vl)(ta tb tc:Int)(h:w.ownsRow base 35 6 (.slice (some ⟨g2,0,none⟩) vs.length cap) vs.length (fp vs))(hb:base<=w.heap.size)(hn:vs.length<=800000)(hi:i<vs.length)(hv:At w g2 (i*6) v)
  (ra:-1<=ta) (rb:-1<=tb) (rc:-1<=tc) (hs:¬(ta=-1/\tb=-1/\tc=-1)) (h2:cnt v.op<=2->tc=-1) (h1:cnt v.op<=1->tb=-1):
  Calls prog 151 #[eR b1 m1 e1 (some ⟨g2,0,none⟩) vs.length cap b3 m3 e3,.int .i64 (i:Int),.int .i64 ta,.int .i64 tb,.int .i64 tc] w λe w'=>MvP w b1 m1 e1 b3 m3 e3 vs base (some g2) (mvM (i:Int) v ta tb tc vs.length) e w':=by
 obtain⟨o,ln,va,vb,vc,vk⟩:=v
 have H:MvH w cap base g2 i vs ⟨o,ln,va,vb,vc,vk⟩:=⟨h,hb,hn,hi,hv⟩
 have F:∀{v:Vl} {M:List Vl×Int},MvC w b1 b3 m1 e1 cap m3 e3 base g2 i vs ta tb tc M->mvM (i:Int) v ta tb tc vs.length=M->MvC w b1 b3 m1 e1 cap m3 e3 base g2 i vs ta tb tc (mvM (i:Int) v ta tb tc vs.length):=λh e=>e ▸ h
 clear h hb hn hi hv
 simp only at h1 h2
 have na:∀{x:Int},0<=x->¬x=-1:=λh=>by omega
 have nb:∀{x:Int},-1<=x->¬0<=x->x=-1:=λh k=>by omega
 by_cases o2:o=2
 ·subst o2
  have hc:=h2 xab
  by_cases a:0<=ta
  ·by_cases b:0<=tb
   ·exact F (Ds H a b) (by simp[mvM,s8,na a,na b])
   ·exact F (Dt H a xaa) (by simp[mvM,s8,na a,nb rb b])
  ·have b:0<=tb:=xaa
   exact F (Du H xaa b) (by simp[mvM,s8,nb ra a,na b])
 by_cases o3:o=3
 ·subst o3
  have hc:=h2 xab
  by_cases a:0<=ta
  ·by_cases b:0<=tb
   ·exact F (Dz H a b) (by simp[mvM,s9,na a,na b])
   ·exact F (DA H a xaa) (by simp[mvM,s9,na a,nb rb b])
  ·have b:0<=tb:=xaa
   exact F (DB H xaa b) (by simp[mvM,s9,nb ra a,na b])
 by_cases o4:o=4
 ·subst o4
  have hc:=h2 xab
  by_cases a:0<=ta
  ·by_cases b:0<=tb
   ·exact F (DD H a b) (by simp[mvM,th,na a,na b])
   ·exact F (DE H a xaa) (by simp[mvM,th,na a,nb rb b])
  ·have b:0<=tb:=xaa
   exact F (DF H xaa b) (by simp[mvM,th,nb ra a,na b])
 by_cases o5:o=5
 ·subst o5
  have hc:=h2 xab
  by_cases a:0<=ta
  ·by_cases b:0<=tb
   ·exact F (DJ H a b) (by simp[mvM,tr,na a,na b])
   ·exact F (Dv H a xaa) (by simp[mvM,tr,na a,nb rb b])
  ·have b:0<=tb:=xaa
   exact F (DH H xaa b) (by simp[mvM,tr,nb ra a,na b])
 by_cases o7:o=7
 ·subst o7
  have hc:=h2 xab
  have e:mvM (i:Int) ⟨7,ln,va,vb,vc,vk⟩ ta tb tc vs.length=([eI 3 ln va vb 0]++(chM ln ((vs.length:Nat):Int) ta tb (vs.length+1)).1,(chM ln ((vs.length:Nat):Int) ta tb (vs.length+1)).2):=by
   unfold mvM
   rw[if_neg hs]
   rfl
  rw[e]
  by_cases a:0<=ta
  ·exact DK H a rb
  ·exact DM H xaa ra xaa
 by_cases o8:o=8
 ·subst o8
  by_cases b:0<=tb
  ·have e:mvM (i:Int) ⟨8,ln,va,vb,vc,vk⟩ ta tb tc vs.length=chM ln va tb tc vs.length:=by
    unfold mvM
    rw[if_neg hs,if_neg xac,if_neg xac,if_neg xac,if_neg xac,if_neg xac,if_pos rfl,if_neg (λc=>na b c.1)]
   rw[e]
   exact DL H b rc
  ·by_cases c:0<=tc
   ·have e:mvM (i:Int) ⟨8,ln,va,vb,vc,vk⟩ ta tb tc vs.length=chM ln va tb tc vs.length:=by
     unfold mvM
     rw[if_neg hs,if_neg xac,if_neg xac,if_neg xac,if_neg xac,if_neg xac,if_pos rfl,if_neg (λk=>na c k.2)]
    rw[e]
    exact DN H xaa rb c
   ·have e:mvM (i:Int) ⟨8,ln,va,vb,vc,vk⟩ ta tb tc vs.length=([],-1):=by
     unfold mvM
     rw[if_neg hs,if_neg xac,if_neg xac,if_neg xac,if_neg xac,if_neg xac,if_pos rfl,if_pos ⟨nb rb b,nb rc c⟩]
    rw[e]
    exact DC H xaa xaa
 have hc1:cnt o<=1:=by unfold cnt;simp[o2,o3,o4,o5,o7,o8];split<;>omega
 have b:=h1 hc1
 have c:=h2 xaa
 have a:0<=ta:=xaa
 by_cases o13:o=13
 ·subst o13
  exact F (GN H a) (by simp[mvM,na a])
 ·exact F (GM H ⟨o2,o3,o4,o5,o7,o8,o13⟩ a) (by simp[mvM,na a,o2,o3,o4,o5,o7,o8,o13])
end
section
open Go.RowKit Flt
attribute [local go_sem] eD eB eA
theorem GP (w:World)(qa qc:Option Addr)(g2 n1 c1 n2 c2 n3 c3:Nat)(s x t:Nat)(ins:List Int)(vs:List Vl)(outs:List Int)(f:GS w qa n1 (some ⟨g2,0,none⟩) n2 qc n3 ins vs outs)(fv:VA w g2 n2 vs)(l1:n1<=1000000)(l2:n2<=2000)(l3:n3<=1000000)(hok:(List.range n2).all (okV ins vs)=true)(hc5:eX vs<=50000)(hs:s<n2)(hx:x<n2):
  Calls prog 130 #[eR qa n1 c1 (some ⟨g2,0,none⟩) n2 c2 qc n3 c3,.int .i64 (s:Int),.int .i64 (x:Int),.int .i64 (t:Int)] w λe w'=>qT w w' n1 n3 ins outs (iy vs s x t) e/\Kept 0 0 w w':=by
 have kn:Kept 0 0 w ((w.alloc (eP qa n1 c1 (some ⟨g2,0,none⟩) n2 c2 qc n3 c3)).alloc eZ):=(ez 0 0 w _).trans (ez 0 0 _ _)
 have HB:Hid _:=(fE w (.slice qa n1 c1) (.slice (some ⟨g2,0,none⟩) n2 c2) (.slice qc n3 c3)).keep (ez 0 0 _ eZ)
 have HFZ:Hid (∀o,((w.alloc (eP qa n1 c1 (some ⟨g2,0,none⟩) n2 c2 qc n3 c3)).alloc eZ).frozen? ⟨w.heap.size,o,none⟩=false):=λo=>by simp
 have hN:=fZ (w.alloc (eP qa n1 c1 (some ⟨g2,0,none⟩) n2 c2 qc n3 c3))
 rw[show(w.alloc (eP qa n1 c1 (some ⟨g2,0,none⟩) n2 c2 qc n3 c3)).heap.size=w.heap.size+1 by simp] at hN
 have HR:Hid _:=hN
 have HX:Hid _:=sB _ qa (some ⟨g2,0,none⟩) qc n1 c1 n2 c2 n3 c3 ins vs outs (f.keep kn) l1 xaa l3
 have HLN:Hid (vs.length=n2):=f.v.len
 have HOK:Hid _:=hok
 have HC5:Hid _:=hc5
 clear hN kn f hok hc5
 go_enter func130,ntmps130
 go_wp2_with fail
 refine yai HX.out ?_
 rintro e w1 ⟨b1,d1,a2,d2,b3,d3,rfl,o1,o2,o3,⟨q1,q2,q3⟩,k3⟩
 have HST:Hid _:=LJ.start HLN.out HB.out HFZ.out HR.out k3 o1 o2 o3 q1 q2 q3
 obtain⟨_,p0,p1,p2⟩:=HB.out.keep k3
 have f0:=(k3.frozen (p:=⟨w.heap.size,0,none⟩) HB.out.sz xaa).trans (HFZ.out 0)
 have f1:=(k3.frozen (p:=⟨w.heap.size,1,none⟩) HB.out.sz xaa).trans (HFZ.out 1)
 have f2:=(k3.frozen (p:=⟨w.heap.size,2,none⟩) HB.out.sz xaa).trans (HFZ.out 2)
 obtain⟨y0,y1,y2⟩:=eY w1 w.heap.size _ _ _ p0 p1 p2 (.slice b1 n1 d1) (.slice a2 n2 d2) (.slice b3 n3 d3)
 obtain⟨gr,cr,er,hgb,hgr,_,hA⟩:=kr o2 xaa HLN.out
 injection er with er1 er2 er3
 subst er1
 have hcs:(fe w1 w.heap.size (.slice b1 n1 d1) (.slice (some ⟨gr,0,none⟩) n2 d2) (.slice b3 n3 d3)).cell? ⟨gr,s*6+1,none⟩=some (.int .i64 (vs.getD s Vl.zero).len):=(jO _ _ _ _ _ _ _ (by simp at hgb;omega)).trans (hA.at_ s hs).c1
 clear o1 o2 o3 q1 q2 q3 HX HB HFZ HR hA er2 er3 hgr k3
 go_upto_region 2 with fail
 clear p0 p1 p2 f0 f1 f2
 unfold fe at HST hcs
 generalize ((w1.setCell ⟨w.heap.size,0,none⟩ (.slice b1 n1 d1)).setCell ⟨w.heap.size,1,none⟩ (.slice (some ⟨gr,0,none⟩) n2 d2)).setCell ⟨w.heap.size,2,none⟩ (.slice b3 n3 d3)=wP at HST hcs y0 y1 y2 ⊢
 have hm:=o6 n2 wP xaa
 have HJ0:Hid _:=HST.out _ (IR.made wP n2) (ez 0 0 wP _)
 generalize hln:(vs.getD s Vl.zero).len=ln at hcs
 have HLS:Hid ((vs.getD s Vl.zero).len=ln):=hln
 generalize hbs:((w.alloc (eP qa n1 c1 (some ⟨g2,0,none⟩) n2 c2 qc n3 c3)).alloc eZ).heap.size=base at HJ0
 clear hln hbs HST hgb
 generalize wP.alloc (.cells (madeCells #[.int .i64 0] n2) 3)=w2 at hm HJ0
 have j0:(0:Int)<=(s:Int):=xaa
 have j1:(s:Int)<(n2:Int):=xaa
 go_wp2_with fail
 clear hm hcs y0 y1 y2
 generalize wP.heap.size=Mb at HJ0 ⊢
 go_loopw [12] (λv W=>∃k:Nat,k<=n2/\v=.int .i64 (k:Int)/\Hid (LJ w W Mb b1 n1 d1 b3 n3 d3 ins outs vs (jD k n2) base (Value.slice (some ⟨gr,0,none⟩) n2 d2).ownBlock (some ⟨gr,0,none⟩) d2)) (λv _=>n2-(intOf v).toNat)
 case atStart=>exact⟨0,Nat.zero_le _,rfl,by unfold jD;exact HJ0⟩
 case round=>
  obtain⟨k,hk,rfl,hJ⟩:=hrel
  clear HJ0
  by_cases hlt:k<n2
  ·have c1:=hJ.out.m.cell k (by rw[qu k n2 hk];exact hlt)
   have c2:=hJ.out.m.free k
   have R1:Hid (LJ w (wr.setCell ⟨Mb,k,none⟩ (.int .i64 (-1))) Mb b1 n1 d1 b3 n3 d3 ins outs vs (jD (k+1) n2) base (Value.slice (some ⟨gr,0,none⟩) n2 d2).ownBlock (some ⟨gr,0,none⟩) d2):=by
    have:=hJ.out.set k (-1)
    rw[qx hlt] at this
    exact this
   clear hJ
   generalize (jD k n2).getD k 0=z at c1
   exact xic
  ·obtain rfl:k=n2:=xaa
   have hJ2:=hJ.out
   rw[qw] at hJ2
   have cM:=hJ2.m.cell x yaf
   have fM:=hJ2.m.free x
   have HJ1:Hid (∃R a2 cap,LJ w (wr.setCell ⟨Mb,x,none⟩ (.int .i64 (t:Int))) Mb b1 n1 d1 b3 n3 d3 ins outs (jst vs x t 0).1 (jst vs x t 0).2 base R a2 cap):=⟨_,_,_,by
    have:=hJ2.set x (t:Int)
    unfold jst
    rw[HLN.out]
    exact this⟩
   clear hJ hJ2
   generalize (List.replicate k (-1:Int)).getD x 0=z at cM
   have j2:(0:Int)<=(x:Int):=xaa
   have j3:(x:Int)<(k:Int):=xaa
   go_wp2_with fail
   clear cM fM
   go_loopw [13] (λv W=>∃j:Nat,j<=s-x/\v=.int .i64 ((x+1+j:Nat):Int)/\Hid (∃R a2 cap,LJ w W Mb b1 n1 d1 b3 n3 d3 ins outs (jst vs x t j).1 (jst vs x t j).2 base R a2 cap)) (λv _=>s+1-(intOf v).toNat)
   case atStart=>exact⟨0,Nat.zero_le _,by simp,HJ1⟩
   case round=>
    obtain⟨j,hj,rfl,hJ⟩:=hrel
    clear HJ1
    obtain⟨R,a2,cap,hJ⟩:=hJ.out
    have hpre:vs.length<=(jst vs x t j).1.length:=by
     obtain⟨r,h⟩:=rI vs x t j
     rw[h,yak]
     omega
    obtain⟨gv,rfl,rfl,hgv,hA⟩:=hJ.read (by have:=HLN.out;omega)
    by_cases hlt:j<s-x
    ·have hin:x+1+j<k:=xaa
     have hat:=hA (x+1+j) (by have:=HLN.out;omega)
     rw[wa vs x t j (by have:=HLN.out;omega)] at hat
     have okv:=List.all_eq_true.1 HOK.out (x+1+j) (List.mem_range.2 hin)
     have hopr:=uT okv
     have HOP:Hid _:=j6 okv
     have HNX:Hid (nG (vs.getD (x+1+j) Vl.zero) (jst vs x t j).2 (cnt (vs.getD (x+1+j) Vl.zero).op)=false->jst vs x t (j+1)=jst vs x t j):=λh=>zw vs x t j (by have:=HLN.out;omega) (uS h (rQ vs x t j))
     have HGE:Hid _:=rQ vs x t j
     have HJS:Hid (jst vs x t (j+1)=((jst vs x t j).1++(jmv vs (x+1+j) (jst vs x t j)).1,(jst vs x t j).2.set (x+1+j) (jmv vs (x+1+j) (jst vs x t j)).2)):=rfl
     have HJM:Hid (jmv vs (x+1+j) (jst vs x t j)=mvM ((x+1+j:Nat):Int) (vs.getD (x+1+j) Vl.zero) (ovs (vs.getD (x+1+j) Vl.zero) (jst vs x t j).2 (cnt (vs.getD (x+1+j) Vl.zero).op) 0) (ovs (vs.getD (x+1+j) Vl.zero) (jst vs x t j).2 (cnt (vs.getD (x+1+j) Vl.zero).op) 1) (ovs (vs.getD (x+1+j) Vl.zero) (jst vs x t j).2 (cnt (vs.getD (x+1+j) Vl.zero).op) 2) (jst vs x t j).1.length):=rfl
     have hl:∀q,q<vs.length->1<=(vs.getD q Vl.zero).len/\(vs.getD q Vl.zero).len<=1000:=λq hq=>il (List.all_eq_true.1 HOK.out q (List.mem_range.2 (by have:=HLN.out;omega)))
     obtain⟨z1,_,_⟩:=po vs x t hl (kD vs (λq hq=>by have:=hl q hq;omega)) HC5.out j (by have:=HLN.out;omega)
     have HSZ:Hid ((jst vs x t j).1.length<=800000/\k<=(jst vs x t j).1.length/\(jst vs x t j).2.length=k):=⟨by have:=HLN.out;omega,by have:=HLN.out;omega,by rw[oK];exact HLN.out⟩
     have HJF:Hid _:=hJ.keep (ez 0 0 wr (.cells #[.int .i64 (-1),.int .i64 (-1),.int .i64 (-1)] 3))
     have HOT:Hid _:=hJ.oth (B:=wr.heap.size) yad
     have HIF:Hid (IR (wr.alloc (.cells #[.int .i64 (-1),.int .i64 (-1),.int .i64 (-1)] 3)) wr.heap.size [ovs (vs.getD (x+1+j) Vl.zero) (jst vs x t j).2 0 0,ovs (vs.getD (x+1+j) Vl.zero) (jst vs x t j).2 0 1,ovs (vs.getD (x+1+j) Vl.zero) (jst vs x t j).2 0 2]):=ir3 wr (-1) (-1) (-1)
     have hle:((x+1+j:Nat):Int)<=(s:Int):=xaa
     have hsx:x+1+j<=s:=xaa
     clear hA hJ hpre hl z1 okv hat hgv
     generalize hvv:vs.getD (x+1+j) Vl.zero=v at hopr HOP HNX HJM HIF
     have HVV:Hid (vs.getD (x+1+j) Vl.zero=v):=hvv
     clear hvv
     generalize hmv:(jst vs x t j).2=mv at HNX HGE HJS HJM HSZ HJF HIF
     generalize hvs:(jst vs x t j).1=us at HJS HJM HSZ HJF
     have HJV:Hid ((jst vs x t j).1=us/\(jst vs x t j).2=mv):=⟨hvs,hmv⟩
     clear hmv hvs
     generalize hi:x+1+j=i at HOP HVV HNX HJS HJM hle hin hsx
     have HI:Hid (x+1+j=i):=hi
     clear hi
     go_wp2_with fail
     generalize wr.alloc (.cells #[.int .i64 (-1),.int .i64 (-1),.int .i64 (-1)] 3)=wF at HJF HIF ⊢
     generalize wr.heap.size=F at HIF HOT ⊢
     have hud:us.getD i Vl.zero=v:=by
      rw[<-HJV.out.1,<-HI.out,wa vs x t j (by have:=HI.out;have:=HLN.out;omega),HI.out]
      exact HVV.out
     have HUD:Hid _:=hud
     have hil:i<us.length:=by have:=HSZ.out;omega
     have hcn:=gX v.op
     clear hud
     go_loopw [15,16] (λsv kv W=>∃q:Nat,q<=cnt v.op/\sv=.bool (nG v mv q)/\kv=.int .i64 (q:Int)/\Hid (IR W F [ovs v mv q 0,ovs v mv q 1,ovs v mv q 2])/\Hid (LJ w W Mb b1 n1 d1 b3 n3 d3 ins outs us mv base (some gv) (some ⟨gv,0,none⟩) cap)) (λ_ kv _=>3-(intOf kv).toNat)
     case atStart=>exact⟨0,Nat.zero_le _,rfl,rfl,HIF,HJF⟩
     case round=>
      obtain⟨q,hq,rfl,rfl,hI,hL⟩:=hrel
      clear HJF HIF
      obtain⟨g0,e0,_,hgv,hA⟩:=hL.out.read xaa
      cases e0
      have hat:=hA i hil
      rw[HUD.out] at hat
      obtain⟨y0,y1,y2,y3,y4,y5⟩:=hat
      have s1:=hL.out.g.c1
      have i0:(0:Int)<=(i:Int):=xaa
      have i1:(i:Int)<(us.length:Int):=xaa
      have HO:Hid _:=eV v.op wr hopr.1 hopr.2
      rw[Ft hopr.1 hopr.2] at HO
      clear hA hgv
      by_cases hl3:q<cnt v.op
      ·obtain⟨fa,fb'⟩:=HOP.out q hl3
       obtain⟨fq,hfq⟩:=Int.eq_ofNat_of_zero_le fa
       have HFL:Hid _:=kR wr v q xaa
       rw[hfq] at HFL
       have hfk:fq<k:=xaa
       have HAM:Hid (nG v mv (q+1)=(nG v mv q||decide (0<=mv.getD fq 0))):=by
        have:=xA v mv q
        rw[hfq,Int.toNat_natCast] at this
        exact this
       have HSET:Hid (([ovs v mv q 0,ovs v mv q 1,ovs v mv q 2]:List Int).set q (mv.getD fq 0)=[ovs v mv (q+1) 0,ovs v mv (q+1) 1,ovs v mv (q+1) 2]):=by
        have:=zx v mv q xaa
        rw[hfq,Int.toNat_natCast] at this
        exact this
       have tq:(q:Int)<(cnt v.op:Int):=xaa
       clear fa fb' hfq
       go_wp2_with fail
       refine yai HO.out ?_
       rintro e w' ⟨rfl,rfl⟩
       clear HO
       go_wp2_with fail
       refine yai HFL.out ?_
       rintro e w4 ⟨rfl,k4⟩
       have hL4:=hL.out.keep k4
       have hI4:=IR.keep hI.out k4 yaa
       have cm:=hL4.m.cell fq (by have:=HSZ.out;omega)
       have cf:=hI4.cell q yaf
       have ff:=hI4.free q
       have R1:Hid (IR (w4.setCell ⟨F,q,none⟩ (.int .i64 (mv.getD fq 0))) F [ovs v mv (q+1) 0,ovs v mv (q+1) 1,ovs v mv (q+1) 2]):=by
        have:=hI4.set q (mv.getD fq 0)
        rw[HSET.out] at this
        exact this
       have R2:Hid _:=hL4.other HOT.out q (.int .i64 (mv.getD fq 0))
       clear hL4 hI4 hL hI HFL k4 y0 y1 y2 y3 y4 y5 s1 HSET
       generalize mv.getD fq 0=y at cm R1 R2 HAM
       generalize ([ovs v mv q 0,ovs v mv q 1,ovs v mv q 2]:List Int).getD q 0=z at cf
       have f0:(0:Int)<=(fq:Int):=xaa
       have f1:(fq:Int)<(k:Int):=xaa
       have q0:(0:Int)<=(q:Int):=xaa
       have q3:(q:Int)<3:=xaa
       cases ham:nG v mv q
       ·exact xgy
       ·exact xgy
      ·obtain rfl:q=cnt v.op:=xaa
       have tq:¬((cnt v.op:Int)<(cnt v.op:Int)):=xaa
       cases ham:nG v mv (cnt v.op)
       ·have R1:Hid (∃R a2 cap,LJ w wr Mb b1 n1 d1 b3 n3 d3 ins outs (jst vs x t (j+1)).1 (jst vs x t (j+1)).2 base R a2 cap):=⟨_,_,_,by
         rw[HNX.out ham,HJV.out.1,HJV.out.2]
         exact hL.out⟩
        go_wp2_with fail
        refine yai HO.out ?_
        rintro e w' ⟨rfl,rfl⟩
        clear HO
        exact xhp
       ·have s0:=hL.out.g.c0
        have s2:=hL.out.g.c2
        have c0:=hI.out.cell 0 xac
        have c1:=hI.out.cell 1 xac
        have c2:=hI.out.cell 2 xac
        rw[show([ovs v mv (cnt v.op) 0,ovs v mv (cnt v.op) 1,ovs v mv (cnt v.op) 2]:List Int).getD 0 0=ovs v mv (cnt v.op) 0 from rfl] at c0
        rw[show([ovs v mv (cnt v.op) 0,ovs v mv (cnt v.op) 1,ovs v mv (cnt v.op) 2]:List Int).getD 1 0=ovs v mv (cnt v.op) 1 from rfl] at c1
        rw[show([ovs v mv (cnt v.op) 0,ovs v mv (cnt v.op) 1,ovs v mv (cnt v.op) 2]:List Int).getD 2 0=ovs v mv (cnt v.op) 2 from rfl] at c2
        have hsome:=xB ham
        have g0:∀n,-1<=ovs v mv (cnt v.op) n:=λn=>uR HGE.out
        have hat:At wr gv (i*6) v:=⟨y0,y1,y2,y3,y4,y5⟩
        have HMV:Hid (∀W1,Kept 0 0 wr W1->Calls prog 151 #[eR b1 n1 d1 (some ⟨gv,0,none⟩) us.length cap b3 n3 d3,.int .i64 (i:Int),.int .i64 (ovs v mv (cnt v.op) 0),.int .i64 (ovs v mv (cnt v.op) 1),.int .i64 (ovs v mv (cnt v.op) 2)] W1 λe w5=>∃(us2:List Vl) (r:Int) (a5:Option Addr) (cap5:Nat) (R5:Option Nat),e=.returned (.tuple #[eR b1 n1 d1 a5 us2.length cap5 b3 n3 d3,.int .i64 r])/\(∀B o,B<W1.heap.size->B≠gv->w5.cell? ⟨B,o,none⟩=W1.cell? ⟨B,o,none⟩)/\(∀B o,B<W1.heap.size->B≠gv->w5.frozen? ⟨B,o,none⟩=W1.frozen? ⟨B,o,none⟩)/\W1.heap.size<=w5.heap.size/\Hid (us2=us++(jmv vs i (jst vs x t j)).1/\r=(jmv vs i (jst vs x t j)).2)/\
          Hid (∀(l h':Nat) (w6:World),Kept l h' w5 w6->wr.heap.size<=l->(h'<=W1.heap.size\/w5.heap.size<=l)->(gv<l\/h'<=gv)->LJ w (fe w6 w.heap.size (.slice b1 n1 d1) (.slice a5 us2.length cap5) (.slice b3 n3 d3)) Mb b1 n1 d1 b3 n3 d3 ins outs us2 mv base R5 a5 cap5)):=λW1 kk=>by
         refine(GO W1 b1 b3 n1 d1 cap n3 d3 base gv i us v _ _ _ (hL.out.keep kk).g.own (hL.out.keep kk).g.sz HSZ.out.1 hil (hat.keep (eG hL.out.g.own (k:=gv) rfl).2 kk yaa) (g0 0) (g0 1) (g0 2) hsome (λhc=>by unfold ovs;rw[if_neg xaa]) (λhc=>by unfold ovs;rw[if_neg xaa])).mono ?_
         rintro e w5 ⟨a5,cap5,R5,rfl,own5,row5,st5⟩
         rw[<-HJM.out] at own5 row5 ⊢
         have hn:∀B,B≠gv->¬((λ_=>False) B\/some gv=some B):=λB hB=>by rintro (c|c);exact c;cases c;exact hB rfl
         refine⟨us++(jmv vs i (jst vs x t j)).1,(jmv vs i (jst vs x t j)).2,a5,cap5,R5,rfl,λB o hB hg=>st5.chg.cell (p:=⟨B,o,none⟩) hB (hn B hg),λB o hB hg=>st5.chg.frozen (p:=⟨B,o,none⟩) hB (hn B hg),st5.chg.size,⟨rfl,rfl⟩,λl h' w6 k6 hl hh hgv=>?_⟩
         refine hL.out.step kk own5 row5 st5 k6 hl (λg hg=>?_)
         rcases st5.row with c|⟨r,c,hr⟩
         ·rw[c] at hg;cases hg;exact hgv
         ·rw[c] at hg;cases hg
          have:=(eG own5 (row5.trans c)).2
          omega
        have HFR:Hid (w.heap.size<wr.heap.size/\F<wr.heap.size/\w.heap.size≠gv/\F≠gv/\gv<wr.heap.size):=⟨hL.out.g.lt,hI.out.lt,λc=>hL.out.g.ne (by rw[c]),λc=>HOT.out.r (by rw[c]),(eG hL.out.g.own (k:=gv) rfl).2⟩
        have hfP:=hL.out.g.free
        clear hsome g0 hat y1 y2 y3 y4 y5 HJM
        generalize ovs v mv (cnt v.op) 0=ta at c0 HMV hI
        generalize ovs v mv (cnt v.op) 1=tb at c1 HMV hI
        generalize ovs v mv (cnt v.op) 2=tc at c2 HMV hI
        generalize hMM:jmv vs i (jst vs x t j)=M at HMV HJS
        clear hMM
        obtain⟨Ml,Mi⟩:=M
        go_wp2_with fail
        refine yai HO.out ?_
        rintro e w' ⟨rfl,rfl⟩
        clear HO y0
        go_upto_region 20 with fail
        go_cut [17,18] (λpv rv wx=>∃(X:Nat) (us2:List Vl) (r:Int) (a5:Option Addr) (cap5:Nat) (R5:Option Nat),pv=.pointer (some ⟨X,0,none⟩)/\rv=.int .i64 r/\Hid (us2=us++Ml/\r=Mi)/\Hid (RB wx X (.slice b1 n1 d1) (.slice a5 us2.length cap5) (.slice b3 n3 d3)/\((∃u,wx.cell? ⟨w.heap.size,0,none⟩=some u)/\(∃u,wx.cell? ⟨w.heap.size,1,none⟩=some u)/\(∃u,wx.cell? ⟨w.heap.size,2,none⟩=some u))/\(∀o,wx.frozen? ⟨w.heap.size,o,none⟩=false))/\Hid (LJ w (fe wx w.heap.size (.slice b1 n1 d1) (.slice a5 us2.length cap5) (.slice b3 n3 d3)) Mb b1 n1 d1 b3 n3 d3 ins outs us2 mv base R5 a5 cap5))
        case first=>
         have hPn:w.heap.size≠w'.heap.size:=by have:=HFR.out;omega
         have hFn:F≠w'.heap.size:=by have:=HFR.out;omega
         have HW1:Hid (∀B o,B<w'.heap.size->(w'.alloc eZ).drew.cell? ⟨B,o,none⟩=w'.cell? ⟨B,o,none⟩):=λB o hB=>(ez 0 0 w' eZ).cell (p:=⟨B,o,none⟩) hB xaa
         go_region_held3 (λW:World=>W.cell? ⟨w.heap.size,0,none⟩=some (.slice b1 n1 d1)/\W.cell? ⟨w.heap.size,1,none⟩=some (.slice (some ⟨gv,0,none⟩) us.length cap)/\W.cell? ⟨w.heap.size,2,none⟩=some (.slice b3 n3 d3)/\W.cell? ⟨F,0,none⟩=some (.int .i64 ta)/\W.cell? ⟨F,1,none⟩=some (.int .i64 tb)/\W.cell? ⟨F,2,none⟩=some (.int .i64 tc)) (first|go_keep|(simp only[jO _ _ _ _ _ _ _ hPn,jO _ _ _ _ _ _ _ hFn];exact⟨a0,a1,a2,a3,a4,a6⟩)) (first
          |(go_at_call 151;refine yai (HMV.out _ ((ez 0 0 w' eZ).trans (eC _))) ?_;rintro e w5 ⟨us2,r,a5,cap5,R5,rfl,e5,ef5,ez5,hq5,hL5⟩;have a0:=(e5 w.heap.size 0 (by have:=HFR.out;simp;omega) HFR.out.2.2.1).trans ((HW1.out w.heap.size 0 HFR.out.1).trans s0);have a1:=(e5 w.heap.size 1 (by have:=HFR.out;simp;omega) HFR.out.2.2.1).trans ((HW1.out w.heap.size 1 HFR.out.1).trans s1);have a2:=(e5 w.heap.size 2 (by have:=HFR.out;simp;omega) HFR.out.2.2.1).trans ((HW1.out w.heap.size 2 HFR.out.1).trans s2);have a3:=(e5 F 0 (by have:=HFR.out;simp;omega) HFR.out.2.2.2.1).trans ((HW1.out F 0 HFR.out.2.1).trans c0);have a4:=(e5 F 1 (by have:=HFR.out;simp;omega) HFR.out.2.2.2.1).trans ((HW1.out F 1 HFR.out.2.1).trans c1);have a6:=(e5 F 2 (by have:=HFR.out;simp;omega) HFR.out.2.2.2.1).trans ((HW1.out F 2 HFR.out.2.1).trans c2);have HF5:Hid _:=ef5;have z0:=e5 w'.heap.size 0 xac (by have:=HFR.out;omega);have z1:=e5 w'.heap.size 1 xac (by have:=HFR.out;omega);have z2:=e5 w'.heap.size 2 xac (by have:=HFR.out;omega);have zf0:=ef5 w'.heap.size 0 xac (by have:=HFR.out;omega);have zf1:=ef5 w'.heap.size 1 xac (by have:=HFR.out;omega);have zf2:=ef5 w'.heap.size 2 xac (by have:=HFR.out;omega);have EZ:Hid _:=ez5;clear e5 ef5 ez5)
          |(go_at_call 151;refine yai (HMV.out _ (eC w')) ?_;rintro e w5 ⟨us2,r,a5,cap5,R5,rfl,e5,ef5,ez5,hq5,hL5⟩;have a0:=(e5 w.heap.size 0 HFR.out.1 HFR.out.2.2.1).trans s0;have a1:=(e5 w.heap.size 1 HFR.out.1 HFR.out.2.2.1).trans s1;have a2:=(e5 w.heap.size 2 HFR.out.1 HFR.out.2.2.1).trans s2;have a3:=(e5 F 0 HFR.out.2.1 HFR.out.2.2.2.1).trans c0;have a4:=(e5 F 1 HFR.out.2.1 HFR.out.2.2.2.1).trans c1;have a6:=(e5 F 2 HFR.out.2.1 HFR.out.2.2.2.1).trans c2;have HF5:Hid _:=ef5;have y5:w.heap.size≠w5.heap.size:=(by have:=HFR.out;have:w'.heap.size<=w5.heap.size:=ez5;omega);have y6:F≠w5.heap.size:=(by have:=HFR.out;have:w'.heap.size<=w5.heap.size:=ez5;omega);have EZ:Hid _:=ez5;clear e5 ef5 ez5))
         ·have hwz:w'.heap.size<=w5.heap.size:=EZ.out
          have ka:=ez 0 0 w5 (.cells #[.slice b1 n1 d1,.slice a5 us2.length cap5,.slice b3 n3 d3] 26)
          have hPl:w.heap.size<w5.heap.size:=by have:=HFR.out;omega
          have R2:Hid (RB (w5.alloc (.cells #[.slice b1 n1 d1,.slice a5 us2.length cap5,.slice b3 n3 d3] 26)) w5.heap.size (.slice b1 n1 d1) (.slice a5 us2.length cap5) (.slice b3 n3 d3)/\((∃u,(w5.alloc (.cells #[.slice b1 n1 d1,.slice a5 us2.length cap5,.slice b3 n3 d3] 26)).cell? ⟨w.heap.size,0,none⟩=some u)/\(∃u,(w5.alloc (.cells #[.slice b1 n1 d1,.slice a5 us2.length cap5,.slice b3 n3 d3] 26)).cell? ⟨w.heap.size,1,none⟩=some u)/\(∃u,(w5.alloc (.cells #[.slice b1 n1 d1,.slice a5 us2.length cap5,.slice b3 n3 d3] 26)).cell? ⟨w.heap.size,2,none⟩=some u))/\(∀o,(w5.alloc (.cells #[.slice b1 n1 d1,.slice a5 us2.length cap5,.slice b3 n3 d3] 26)).frozen? ⟨w.heap.size,o,none⟩=false)):=
           ⟨⟨by simp,by simp,by simp,by simp,by simp,by simp,by simp⟩,⟨⟨_,(ka.cell (p:=⟨w.heap.size,0,none⟩) hPl xaa).trans a0⟩,⟨_,(ka.cell (p:=⟨w.heap.size,1,none⟩) hPl xaa).trans a1⟩,⟨_,(ka.cell (p:=⟨w.heap.size,2,none⟩) hPl xaa).trans a2⟩⟩,λo=>(ka.frozen (p:=⟨w.heap.size,o,none⟩) hPl xaa).trans ((HF5.out w.heap.size o HFR.out.1 HFR.out.2.2.1).trans (hfP o))⟩
          have R3:Hid _:=hL5.out w5.heap.size w5.heap.size _ (ez _ _ w5 (.cells #[.slice b1 n1 d1,.slice a5 us2.length cap5,.slice b3 n3 d3] 26)) hwz yab (.inl (by have:=HFR.out;omega))
          go_wp2_with fail
          go_meet
          exact⟨w5.heap.size,us2,r,a5,cap5,R5,rfl,rfl,hq5,R2,R3⟩
         ·have hwz:w'.heap.size<=w5.heap.size:=yan (ez 0 0 w' eZ).size EZ.out
          have kp:=fc w5 w'.heap.size (.slice b1 n1 d1) (.slice a5 us2.length cap5) (.slice b3 n3 d3)
          have hPl:w.heap.size<w5.heap.size:=by have:=HFR.out;omega
          have hXl:w'.heap.size<w5.heap.size:=yaj xac EZ.out
          have z0':w5.cell? ⟨w'.heap.size,0,none⟩=some (.slice none 0 0):=z0.trans xac
          have z1':w5.cell? ⟨w'.heap.size,1,none⟩=some (.slice none 0 0):=z1.trans xac
          have z2':w5.cell? ⟨w'.heap.size,2,none⟩=some (.slice none 0 0):=z2.trans xac
          obtain⟨y0,y1,y2⟩:=eY w5 w'.heap.size _ _ _ z0' z1' z2' (.slice b1 n1 d1) (.slice a5 us2.length cap5) (.slice b3 n3 d3)
          have zf:∀o,w5.frozen? ⟨w'.heap.size,o,none⟩=false:=λo=>(HF5.out w'.heap.size o xac (by have:=HFR.out;omega)).trans xac
          have pf:∀o,w5.frozen? ⟨w.heap.size,o,none⟩=false:=λo=>(HF5.out w.heap.size o (by have:=HFR.out;simp;omega) HFR.out.2.2.1).trans (((ez 0 0 w' eZ).frozen (p:=⟨w.heap.size,o,none⟩) HFR.out.1 xaa).trans (hfP o))
          have R2:Hid (RB (((w5.setCell ⟨w'.heap.size,0,none⟩ (.slice b1 n1 d1)).setCell ⟨w'.heap.size,1,none⟩ (.slice a5 us2.length cap5)).setCell ⟨w'.heap.size,2,none⟩ (.slice b3 n3 d3)) w'.heap.size (.slice b1 n1 d1) (.slice a5 us2.length cap5) (.slice b3 n3 d3)/\((∃u,(((w5.setCell ⟨w'.heap.size,0,none⟩ (.slice b1 n1 d1)).setCell ⟨w'.heap.size,1,none⟩ (.slice a5 us2.length cap5)).setCell ⟨w'.heap.size,2,none⟩ (.slice b3 n3 d3)).cell? ⟨w.heap.size,0,none⟩=some u)/\(∃u,(((w5.setCell ⟨w'.heap.size,0,none⟩ (.slice b1 n1 d1)).setCell ⟨w'.heap.size,1,none⟩ (.slice a5 us2.length cap5)).setCell ⟨w'.heap.size,2,none⟩ (.slice b3 n3 d3)).cell? ⟨w.heap.size,1,none⟩=some u)/\(∃u,(((w5.setCell ⟨w'.heap.size,0,none⟩ (.slice b1 n1 d1)).setCell ⟨w'.heap.size,1,none⟩ (.slice a5 us2.length cap5)).setCell ⟨w'.heap.size,2,none⟩ (.slice b3 n3 d3)).cell? ⟨w.heap.size,2,none⟩=some u))/\(∀o,(((w5.setCell ⟨w'.heap.size,0,none⟩ (.slice b1 n1 d1)).setCell ⟨w'.heap.size,1,none⟩ (.slice a5 us2.length cap5)).setCell ⟨w'.heap.size,2,none⟩ (.slice b3 n3 d3)).frozen? ⟨w.heap.size,o,none⟩=false)):=
           ⟨⟨yaj hXl kp.size,y0,y1,y2,by simp[zf 0],by simp[zf 1],by simp[zf 2]⟩,⟨⟨_,(jO _ _ _ _ _ _ _ hPn).trans a0⟩,⟨_,(jO _ _ _ _ _ _ _ hPn).trans a1⟩,⟨_,(jO _ _ _ _ _ _ _ hPn).trans a2⟩⟩,λo=>by simp[pf o]⟩
          have R3:Hid _:=hL5.out w'.heap.size (w'.heap.size+1) _ kp yad (.inl xac) (.inl HFR.out.2.2.2.2)
          clear kp z0' z1' z2' zf pf y0 y1 y2 z0 z1 z2 zf0 zf1 zf2
          go_wp2_with fail
          go_meet
          exact⟨w'.heap.size,us2,r,a5,cap5,R5,rfl,rfl,hq5,R2,R3⟩
        case rest=>
         clear s0 s1 s2 c0 c1 c2 HMV hL hI hfP
         obtain⟨X,us2,r,a5,cap5,R5,rfl,rfl,hq5,h5,hL5⟩:=hcut
         obtain⟨⟨_,t0,t1,t2,x0,x1,x2⟩,⟨⟨_,p0⟩,⟨_,p1⟩,⟨_,p2⟩⟩,pf⟩:=h5.out
         have pf0:=pf 0
         have pf1:=pf 1
         have pf2:=pf 2
         clear pf h5
         go_upto_region 22 with fail
         clear t0 t1 t2 x0 x1 x2 p0 p1 p2 pf0 pf1 pf2
         unfold fe at hL5
         generalize ((wc.setCell ⟨w.heap.size,0,none⟩ (.slice b1 n1 d1)).setCell ⟨w.heap.size,1,none⟩ (.slice a5 us2.length cap5)).setCell ⟨w.heap.size,2,none⟩ (.slice b3 n3 d3)=wd at hL5 ⊢
         have cm:=hL5.out.m.cell i (by have:=HSZ.out;omega)
         have fm:=hL5.out.m.free i
         have R1:Hid (∃R a2 cap,LJ w (wd.setCell ⟨Mb,i,none⟩ (.int .i64 r)) Mb b1 n1 d1 b3 n3 d3 ins outs (jst vs x t (j+1)).1 (jst vs x t (j+1)).2 base R a2 cap):=⟨_,_,_,by
          have:=hL5.out.set i r
          rw[HJS.out]
          rw[hq5.out.2] at this ⊢
          rw[hq5.out.1] at this
          exact this⟩
         clear hL5 hq5
         generalize mv.getD i 0=z at cm
         exact xhp
    ·obtain rfl:j=s-x:=xaa
     have hne:¬(((x+1+(s-x):Nat):Int)<=(s:Int)):=xaa
     have hsl:s<(jst vs x t (s-x)).2.length:=by rw[oK,HLN.out];exact hs
     have cs:=hJ.m.cell s hsl
     have hge:=rQ vs x t (s-x) s
     have hJF:Hid (iy vs s x t=if (jst vs x t (s-x)).2.getD s 0=-1 then ((jst vs x t (s-x)).1++[eI 1 (vs.getD s Vl.zero).len 0 0 0],(((jst vs x t (s-x)).1.length:Nat):Int)) else ((jst vs x t (s-x)).1,(jst vs x t (s-x)).2.getD s 0)):=rfl
     rw[HLS.out] at hJF
     have hlow:s<x->(jst vs x t (s-x)).2.getD s 0=-1:=λhc=>by
      rw[show s-x=0 by omega]
      exact zy vs x t s xaa (by rw[HLN.out];exact hs)
     have hl:∀q,q<vs.length->1<=(vs.getD q Vl.zero).len/\(vs.getD q Vl.zero).len<=1000:=λq hq=>il (List.all_eq_true.1 HOK.out q (List.mem_range.2 (by have:=HLN.out;omega)))
     obtain⟨z1,_,_⟩:=po vs x t hl (kD vs (λq hq=>by have:=hl q hq;omega)) HC5.out (s-x) (by have:=HLN.out;omega)
     have hsz:(jst vs x t (s-x)).1.length<=800000:=by have:=HLN.out;omega
     have HL:Hid _:=hJ
     clear hA hJ hpre hl z1 hsl hlt hgv
     generalize (jst vs x t (s-x)).1=us at HL hJF hsz
     generalize (jst vs x t (s-x)).2=mv at HL hJF cs hge hlow
     generalize mv.getD s 0=mm at cs hge hJF hlow
     have s0:=HL.out.g.c0
     have s1:=HL.out.g.c1
     have s2:=HL.out.g.c2
     obtain⟨_,t0,t1,t2,x0,x1,x2⟩:=HL.out.b
     have is0:(0:Int)<=(s:Int):=xaa
     have is1:(s:Int)<(k:Int):=xaa
     by_cases hA:x<=s/\0<=mm
     ·have hM:Hid (iy vs s x t=(us,mm)):=by
       show _=_
       rw[hJF.out,if_neg xaa]
      have ta:((x:Int)<=(s:Int)):=xaa
      have tb:=hA.2
      obtain⟨y0,y1,y2⟩:=eY wr (w.heap.size+1) _ _ _ t0 t1 t2 (.slice b1 n1 d1) (.slice (some ⟨gv,0,none⟩) us.length cap) (.slice b3 n3 d3)
      have hPQ:w.heap.size≠w.heap.size+1:=xaa
      have hMQ:Mb≠w.heap.size+1:=by have:=HL.out.hb;have:=HL.out.dM;omega
      have hMQ':w.heap.size+1≠Mb:=Ne.symm hMQ
      have HC3:Hid (∀X Y Z:Value,(((wr.setCell ⟨w.heap.size+1,0,none⟩ X).setCell ⟨w.heap.size+1,1,none⟩ Y).setCell ⟨w.heap.size+1,2,none⟩ Z).drew.cell? ⟨Mb,s,none⟩=some (.int .i64 mm)):=λX Y Z=>(jO wr _ _ _ X Y Z hMQ).trans cs
      have HC4:Hid (∀(X Y Z:Value) (o:Nat),(((wr.setCell ⟨w.heap.size+1,0,none⟩ X).setCell ⟨w.heap.size+1,1,none⟩ Y).setCell ⟨w.heap.size+1,2,none⟩ Z).drew.cell? ⟨w.heap.size,o,none⟩=wr.cell? ⟨w.heap.size,o,none⟩):=λX Y Z o=>jO wr _ _ _ X Y Z hPQ
      have A4:Hid _:=HL.out.a4
      have R1:Hid _:=HL.out.fin (eC wr)
      clear hJF hlow
      go_wp2_with fail
      go_region_held3 (λW:World=>W.cell? ⟨w.heap.size,0,none⟩=some (.slice b1 n1 d1)/\W.cell? ⟨w.heap.size,1,none⟩=some (.slice (some ⟨gv,0,none⟩) us.length cap)/\W.cell? ⟨w.heap.size,2,none⟩=some (.slice b3 n3 d3)/\W.cell? ⟨Mb,s,none⟩=some (.int .i64 mm)) (first|go_keep|(exact⟨(HC4.out _ _ _ _).trans s0,(HC4.out _ _ _ _).trans s1,(HC4.out _ _ _ _).trans s2,HC3.out _ _ _⟩)) (fail)
      all_goals
       go_wp2_with fail
       refine yay (v:=.tuple #[eR b1 n1 d1 (some ⟨gv,0,none⟩) us.length cap b3 n3 d3,.int .i64 mm]) (by simp[results,results130,go_sem,y0,y1,y2]) rfl ⟨?_,R1.out.2⟩
       rw[hM.out]
       exact⟨b1,d1,b3,d3,some ⟨gv,0,none⟩,cap,rfl,R1.out.1.1,R1.out.1.2.1,R1.out.1.2.2,A4.out⟩
     ·have hM:Hid (iy vs s x t=(us++[eI 1 ln 0 0 0],((us.length:Nat):Int))):=by
       show _=_
       rw[hJF.out,if_pos (by
        by_cases hc:s<x
        ·exact hlow hc
        ·omega)]
      have hor:(¬((x:Int)<=(s:Int)))\/((x:Int)<=(s:Int)/\¬(0<=mm)):=xaa
      clear hJF hlow t0 t1 t2 x0 x1 x2 hA hge
      rcases hor with tx|⟨tx,tm⟩
      all_goals
       go_upto_region 25 with fail
       clear cs
       go_cut [] (λwx=>∃g' cap',Hid (LJ w wx Mb b1 n1 d1 b3 n3 d3 ins outs (us++[eI 1 ln 0 0 0]) mv base (some g') (some ⟨g',0,none⟩) cap'))
       case first=>
        go_region_with (first
         |(go_at_call 24;refine yai (LJ.call HL.out ((eC wr).trans k1) (eI 1 ln 0 0 0) xaa) ?_;rintro e w2 ⟨g',cap',rfl,⟨_,r0⟩,⟨_,r1⟩,⟨_,r2⟩,rf,hS2⟩;have rf0:=rf 0;have rf1:=rf 1;have rf2:=rf 2;clear rf)
         |(go_at_call 41;refine yai (lY _ _) ?_;rintro e w1 ⟨rfl,k1⟩;have p0:=(LJ.keep HL.out ((eC wr).trans k1)).g.c0;have p1:=(LJ.keep HL.out ((eC wr).trans k1)).g.c1;have p2:=(LJ.keep HL.out ((eC wr).trans k1)).g.c2))
        all_goals (go_wp2_with fail;go_meet;exact⟨g',cap',hS2⟩)
       case rest=>
        obtain⟨g',cap',hS2⟩:=hcut
        have hl1:(us++[eI 1 ln 0 0 0]).length=us.length+1:=by simp
        generalize hu:us++[eI 1 ln 0 0 0]=us2 at hS2 hM hl1
        clear s0 s1 s2 hu HL
        have s0:=hS2.out.g.c0
        have s1:=hS2.out.g.c1
        have s2:=hS2.out.g.c2
        obtain⟨_,t0,t1,t2,x0,x1,x2⟩:=hS2.out.b
        have HLast:Hid (∀W:World,_):=λW=>ir W b1 (some ⟨g',0,none⟩) b3 n1 d1 us2.length cap' n3 d3 xaa
        rw[show(us2.length:Int)-1=((us.length:Nat):Int) by omega] at HLast
        clear hl1
        go_wp2_with fail
        go_region_with (first
         |(go_at_call 27;refine yai (HLast.out _) ?_;rintro e w3 ⟨rfl,k3⟩;clear t0 t1 t2 x0 x1 x2;have q0:=(hS2.out.keep ((eC wc).trans k3)).g.c0;have q1:=(hS2.out.keep ((eC wc).trans k3)).g.c1;have q2:=(hS2.out.keep ((eC wc).trans k3)).g.c2;obtain⟨_,t0,t1,t2,x0,x1,x2⟩:=(hS2.out.keep ((eC wc).trans k3)).b))
        all_goals
         have A4:Hid _:=hS2.out.a4
         have R1:Hid _:=hS2.out.fin ((eC wc).trans k3)
         obtain⟨y0,y1,y2⟩:=eY w3 (w.heap.size+1) _ _ _ t0 t1 t2 (.slice b1 n1 d1) (.slice (some ⟨g',0,none⟩) us2.length cap') (.slice b3 n3 d3)
         go_wp2_with fail
         refine yay (v:=.tuple #[eR b1 n1 d1 (some ⟨g',0,none⟩) us2.length cap' b3 n3 d3,.int .i64 ((us.length:Nat):Int)]) (by simp[results,results130,go_sem,y0,y1,y2]) rfl ⟨?_,R1.out.2⟩
         rw[hM.out]
         exact⟨b1,d1,b3,d3,some ⟨g',0,none⟩,cap',rfl,R1.out.1.1,R1.out.1.2.1,R1.out.1.2.2,A4.out⟩
