import Derived.Test.YtnlffngpnoodkaaGreatP41
import Derived.Test.YtnlffngpnoodkaaGreatP40
namespace Go.Proofs.YtnlffngpnoodkaaGreat
set_option maxRecDepth 1000000
set_option maxHeartbeats 0
open Go.RowKit Flt
attribute [local go_sem] ic ib ia
variable {w W1 W2 W':World} {P n cap i c1 c2 c3:Nat} {a a1 a2 a3:Option Addr} {T:List Int×List Vl×List Int×Nat} {bs ins outs:List Int} {vs S:List Vl}
def spM (ins:List Int)(S:List Vl)(outs:List Int)(bs:List Int)(i:Nat):List Int×List Vl×List Int:=
 if S.length=0 then (ins,S,outs)
 else if nv bs i%12=0 then (ins,S.set (nv bs (ni bs i)%S.length) {vd S (nv bs (ni bs i)%S.length) with a:=((nv bs (ni bs i)%S.length:Nat):Int)},outs)
 else if nv bs i%12=1 then (ins,S.set (nv bs (ni bs i)%S.length) {vd S (nv bs (ni bs i)%S.length) with b:=IntKind.i64.wrap ((vd S (nv bs (ni bs i)%S.length)).b-1)},outs)
 else if nv bs i%12=2 then (ins,S.set (nv bs (ni bs i)%S.length) {vd S (nv bs (ni bs i)%S.length) with c:=IntKind.i64.wrap ((vd S (nv bs (ni bs i)%S.length)).c+1)},outs)
 else if nv bs i%12=3 then (ins,S.set (nv bs (ni bs i)%S.length) {vd S (nv bs (ni bs i)%S.length) with len:=IntKind.i64.wrap ((vd S (nv bs (ni bs i)%S.length)).len+1)},outs)
 else if nv bs i%12=4 then (ins,S.set (nv bs (ni bs i)%S.length) {vd S (nv bs (ni bs i)%S.length) with op:=(nv bs (ni bs i):Int)%17},outs)
 else if nv bs i%12=5 then (ins,S,outs++[(S.length:Int)-(nv bs (ni bs i):Int)%2])
 else if nv bs i%12=6 then (ins++[(nv bs (ni bs i):Int)%3*500],S,outs)
 else if nv bs i%12=7 then (ins,S,outs++[-1])
 else if nv bs i%12=8 then (ins,S.set (nv bs (ni bs i)%S.length) (vd S (nv bs (ni bs i)%S.length)),outs)
 else if nv bs i%12=9 then (ins,S.set (nv bs (ni bs i)%S.length) {vd S (nv bs (ni bs i)%S.length) with op:=-1},outs)
 else if nv bs i%12=10 then (ins,S,outs++List.replicate (50+nv bs (ni bs i)%2-outs.length) (((nv bs (ni bs i)%S.length:Nat)):Int))
 else (ins++List.replicate (20+nv bs (ni bs i)%2-ins.length) 2,S,outs)
theorem Eb {w0:World}(f:DG w w0.heap.size (.slice a1 ins.length c1) (.slice a2 vs.length c2) (.slice a3 outs.length c3) ins vs outs)(hR:RdF w P a n cap i bs)(hP:P<w0.heap.size)(k0:Kept P (P+1) w0 w)(hs:vs.map sv=S)(hn:vs.length<=100000)(hi:ins.length<=1000)(ho:outs.length<=1000):
  Calls Tryz.prog 71 #[ip a1 ins.length c1 a2 vs.length c2 a3 outs.length c3,.pointer (some ⟨P,0,none⟩)] w (DgF w0 P a n cap bs (spM ins S outs bs i).1 (spM ins S outs bs i).2.1 (spM ins S outs bs i).2.2 (ni bs (ni bs i))):=by
 unfold spM
 by_cases h0:S.length=0
 ·rw[if_pos h0]
  exact D0 f hR hP k0 hs hn h0
 have h1:0<S.length:=by omega
 have hx:nv bs i%12<12:=Nat.mod_lt _ (by omega)
 rw[if_neg h0]
 by_cases c:nv bs i%12=0
 ·rw[if_pos c];exact DN f hR hP k0 hs hn h1 c
 rw[if_neg c]
 by_cases c:nv bs i%12=1
 ·rw[if_pos c];exact DT f hR hP k0 hs hn h1 c
 rw[if_neg c]
 by_cases c:nv bs i%12=2
 ·rw[if_pos c];exact DU f hR hP k0 hs hn h1 c
 rw[if_neg c]
 by_cases c:nv bs i%12=3
 ·rw[if_pos c];exact DW f hR hP k0 hs hn h1 c
 rw[if_neg c]
 by_cases c:nv bs i%12=4
 ·rw[if_pos c];exact DO f hR hP k0 hs hn h1 c
 rw[if_neg c]
 by_cases c:nv bs i%12=5
 ·rw[if_pos c];exact DX f hR hP k0 hs hn h1 ho c
 rw[if_neg c]
 by_cases c:nv bs i%12=6
 ·rw[if_pos c];exact DZ f hR hP k0 hs hn h1 hi c
 rw[if_neg c]
 by_cases c:nv bs i%12=7
 ·rw[if_pos c];exact DY f hR hP k0 hs hn h1 ho c
 rw[if_neg c]
 by_cases c:nv bs i%12=8
 ·rw[if_pos c];exact DR f hR hP k0 hs hn h1 c
 rw[if_neg c]
 by_cases c:nv bs i%12=9
 ·rw[if_pos c];exact DS f hR hP k0 hs hn h1 c
 rw[if_neg c]
 by_cases c:nv bs i%12=10
 ·rw[if_pos c];exact Bt f hR hP k0 hs hn h1 ho c
 rw[if_neg c]
 exact Bu f hR hP k0 hs hn h1 hi (by omega)
theorem Dy.fresh {u1 u2 u3:Value}(hr:RB W1 w.heap.size jw jw jw)(hP:P<w.heap.size)(k1:Kept P (P+1) w W1)(d:DG W2 W1.heap.size u1 u2 u3 ins vs outs)(rd:RdF W2 P a n cap i bs)(k2:Kept P (P+1) W1 W2):
  Dy w (W2.alloc (.cells #[u1,u2,u3] 26)) P a n cap i bs w.heap.size W2.heap.size u1 u2 u3 ins vs outs:=by
 have ka:=hU 0 0 W2 (.cells #[u1,u2,u3] 26)
 have hb:=kj (S:=λ_=>False) W2 _ #[u1,u2,u3] 26 (Kept.refl 0 0 _).chg (λc=>c)
 have h1:=hr.sz
 have h2:=k2.size
 refine⟨rd.keep0 ka,(d.keep ka).mono (by omega),⟨hb.2.2,hb.1 0,hb.1 1,hb.1 2,hb.2.1 0,hb.2.1 1,hb.2.1 2⟩,(hr.kept k2 (by omega)).keep ka,hP,⟨Nat.le_refl _,by omega,by omega⟩,?_,(k1.trans k2).trans (iI ka)⟩
 rintro b (h|h|h)
 ·have:=ii d.r1 h;omega
 ·have:=ii d.r2 h;omega
 ·have:=ii d.r3 h;omega
theorem DgF.up (hr:RB W1 w.heap.size jw jw jw)(hP:P<w.heap.size)(k1:Kept P (P+1) w W1)(hs:vs.map sv=S)(d:DG W2 W1.heap.size (.slice a1 ins.length c1) (.slice a2 vs.length c2) (.slice a3 outs.length c3) ins vs outs)(rd:RdF W2 P a n cap i bs)(k2:Kept P (P+1) W1 W2):
  RB W2 w.heap.size jw jw jw/\DgF w P a n cap bs ins S outs i (.returned (ip a1 ins.length c1 a2 vs.length c2 a3 outs.length c3)) (iM W2 w.heap.size (.slice a1 ins.length c1) (.slice a2 vs.length c2) (.slice a3 outs.length c3)):=by
 have kk:=iD W2 w.heap.size (.slice a1 ins.length c1) (.slice a2 vs.length c2) (.slice a3 outs.length c3)
 have h1:=hr.sz
 have h2:=k1.size
 have h3:=k2.size
 refine⟨hr.kept k2 (by omega),a1,c1,a2,c2,a3,c3,vs,rfl,hs,(d.kept kk (by omega)).mono (by omega),rd.keep kk (.inl (by omega)),⟨kk.os.trans (k2.os.trans k1.os),kk.tape.trans (k2.tape.trans k1.tape),kk.output.trans (k2.output.trans k1.output),Nat.le_trans h2 (Nat.le_trans h3 kk.size),λb hb hn=>?_⟩⟩
 refine(kk.block b (by omega) (by omega)).trans ?_
 exact(k1.trans k2).block b hb hn
theorem wb (bs ins:List Int)(m:Nat):∀f k S p,(gwL bs ins m f k S p).1.length<=S.length+f
 |0,_,S,_=>by rw[gwL];exact Nat.le_refl _
 |f+1,k,S,p=>by
  rw[gwL]
  split
  ·have:=wb bs ins m f (k+1) (S++[(gwM ins S bs p).1]) (gwM ins S bs p).2
   rw[List.length_append] at this
   simp at this
   omega
  ·simp only;omega
theorem uB (bs:List Int)(i:Nat):(dgI bs i).1.length<=3/\(dgG bs i).1.length<=28/\(dgO bs i).1.length<=4:=by
 have h1:=oQ bs (ni bs i) (nv bs i%4)
 have h2:=wb bs (dgI bs i).1 (2+nv bs (dgI bs i).2.2%24) (2+nv bs (dgI bs i).2.2%24) 0 (dgI bs i).2.1 (ni bs (dgI bs i).2.2)
 have h3:=qI bs (dgG bs i).1.length (ni bs (dgG bs i).2) (nv bs (dgG bs i).2%5)
 have e1:(dgI bs i).1.length=nv bs i%4:=h1.1
 have e2:(dgI bs i).2.1.length=nv bs i%4:=h1.2
 have e3:(dgO bs i).1.length=nv bs (dgG bs i).2%5:=h3
 have e4:(dgG bs i).1.length<=(dgI bs i).2.1.length+(2+nv bs (dgI bs i).2.2%24):=h2
 omega
def ly (bs:List Int)(i:Nat):List Int×List Vl×List Int×Nat:=
 if nv bs i%40=0 then ([],mU 1 (1999+nv bs (ni bs i)%3),[0],ni bs (ni bs i))
 else if nv bs i%40=1 then (if nv bs (ni bs i)%2=1 then ([],mU 1000 50++[⟨1,1,0,0,0,0⟩],[0],ni bs (ni bs i)) else ([],mU 1000 50,[0],ni bs (ni bs i)))
 else if nv bs i%40<8 then ((spM (dgI bs (ni bs i)).1 (dgG bs (ni bs i)).1 (dgO bs (ni bs i)).1 bs (dgO bs (ni bs i)).2).1,(spM (dgI bs (ni bs i)).1 (dgG bs (ni bs i)).1 (dgO bs (ni bs i)).1 bs (dgO bs (ni bs i)).2).2.1,(spM (dgI bs (ni bs i)).1 (dgG bs (ni bs i)).1 (dgO bs (ni bs i)).1 bs (dgO bs (ni bs i)).2).2.2,ni bs (ni bs (dgO bs (ni bs i)).2))
 else ((dgI bs (ni bs i)).1,(dgG bs (ni bs i)).1,(dgO bs (ni bs i)).1,(dgO bs (ni bs i)).2)
abbrev DgT (w:World)(P:Nat)(a:Option Addr)(n cap:Nat)(bs:List Int)(T:List Int×List Vl×List Int×Nat):Ending->World->Prop:=DgF w P a n cap bs T.1 T.2.1 T.2.2.1 T.2.2.2
theorem FN (hR:RdF w P a n cap i bs):
  Calls Tryz.prog 39 #[.pointer (some ⟨P,0,none⟩)] w (DgT w P a n cap bs (ly bs i)):=by
 have hx:=iK hR.ys i
 have hx2:=iK hR.ys (ni bs i)
 have hP:=hR.lt
 have ka:=hU 0 0 w iw
 have HN:Hid _:=lj _ P a n cap i bs (hR.keep0 ka)
 have HA:Hid (∀T,ly bs i=T->∀e w',DgT w P a n cap bs T e w'->DgT w P a n cap bs (ly bs i) e w'):=λT h e w' d=>by rw[h];exact d
 have HK0:Hid _:=ka
 clear hR ka
 go_enter Tryz.func39,Tryz.ntmps39
 go_wp2_with fail
 refine Calls.mono HN.out ?_
 rintro e W1 ⟨rfl,R1,k1,hs1⟩
 have HR1:Hid _:=R1
 have HK1:Hid (Kept P (P+1) w W1):=(iI HK0.out).trans k1
 have HB1:Hid (RB W1 w.heap.size jw jw jw):=(i9 w).kept k1 (by omega)
 clear R1 k1 hs1 HK0 HN
 by_cases c0:nv bs i%40=0
 ·have HE:Hid (ly bs i=([],mU 1 (1999+nv bs (ni bs i)%3),[0],ni bs (ni bs i))):=by show _=_;unfold ly;rw[if_pos c0]
  have c0':(nv bs i:Int)%40=0:=by omega
  have hd:(1999:Int)+(nv bs (ni bs i):Int)%3=((1999+nv bs (ni bs i)%3:Nat):Int):=by omega
  have hd2:1999+nv bs (ni bs i)%3<=3000:=by omega
  clear c0
  go_wp2_with fail
  refine Calls.mono (lj _ _ _ _ _ _ _ HR1.out) ?_
  rintro e W2 ⟨rfl,R2,k2,hs2⟩
  have HK2:Hid (Kept P (P+1) w W2):=HK1.out.trans k2
  have HB2:Hid (RB W2 w.heap.size jw jw jw):=HB1.out.kept k2 (by omega)
  have HW:Hid _:=Cc R2 (1999+nv bs (ni bs i)%3) 1 hd2
  clear R2 k2 hs2
  generalize 1999+nv bs (ni bs i)%3=m at hd HW HE hd2
  go_wp2_with fail
  refine Calls.mono HW.out ?_
  rintro e W3 ⟨a1,c1,a2,c2,a3,c3,vs,rfl,hsv,d,rd,k3⟩
  obtain⟨hb,hf⟩:=DgF.up HB2.out hP HK2.out hsv d rd k3
  have HF:Hid _:=hf
  obtain⟨_,r0,r1,r2,rf0,rf1,rf2⟩:=hb
  clear hsv d rd k3 hf
  rw[show([]:List Int).length=0 from rfl,show([0]:List Int).length=1 from rfl] at HF ⊢
  go_wp2_with fail
  obtain⟨p0,p1,p2⟩:=iy W3 w.heap.size _ _ _ r0 r1 r2 (.slice a1 0 c1) (.slice a2 vs.length c2) (.slice a3 1 c3)
  exact bodyPost_ret (v:=ip a1 0 c1 a2 vs.length c2 a3 1 c3) (by simp[results,Tryz.results39,go_sem,p0,p1,p2]) rfl (HA.out _ HE.out _ _ HF.out)
 by_cases c1:nv bs i%40=1
 ·have c1':(nv bs i:Int)%40=1:=by omega
  have HW:Hid _:=Cc HR1.out 50 1000 (by omega)
  have HE1:Hid (nv bs (ni bs i)%2=1->ly bs i=([],mU 1000 50++[⟨1,1,0,0,0,0⟩],[0],ni bs (ni bs i))):=λh=>by unfold ly;rw[if_neg c0,if_pos c1,if_pos h]
  have HE2:Hid (¬nv bs (ni bs i)%2=1->ly bs i=([],mU 1000 50,[0],ni bs (ni bs i))):=λh=>by unfold ly;rw[if_neg c0,if_pos c1,if_neg h]
  clear c0 c1
  go_wp2_with fail
  refine Calls.mono HW.out ?_
  rintro e W3 ⟨a1,c1,a2,c2,a3,c3,vs,rfl,hsv,d,rd,k3⟩
  have HD:Hid _:=Dy.fresh HB1.out hP HK1.out d rd k3
  have HSV:Hid _:=hsv
  have hvl:vs.length<=100000:=by have h9:=congrArg List.length hsv;rw[List.length_map,lK] at h9;omega
  clear hsv d rd k3
  rw[show([]:List Int).length=0 from rfl,show([0]:List Int).length=1 from rfl] at HD ⊢
  go_wp2_with fail
  generalize W3.alloc (.cells #[.slice a1 0 c1,.slice a2 vs.length c2,.slice a3 1 c3] 26)=W4 at HD ⊢
  generalize W3.heap.size=Q at HD ⊢
  refine Calls.mono HD.out.next ?_
  rintro e W5 ⟨rfl,D5⟩
  replace HD:Hid _:=D5
  clear D5
  by_cases h2:nv bs (ni bs i)%2=1
  ·have h2':(nv bs (ni bs i):Int)%2=1:=by omega
   have HF:Hid (∀W6,Kept 0 0 W5 W6->_):=λW6 k6=>HD.out.put k6 (ik 1 1 0 0 0) (Nat.zero_lt_succ _) hvl
   obtain⟨_,z0,z1,z2,f0,f1,f2⟩:=HD.out.bx
   go_upto_region 8 with fail
   go_region_with (first
    |(go_at_call 50;refine Calls.mono (HF.out _ ((ie _).trans k5)) ?_;rintro e W9 ⟨g',cap',rfl,hrb,hfin⟩;obtain⟨_,r0,r1,r2,rf0,rf1,rf2⟩:=hrb)
    |(go_at_call 51;refine Calls.mono (pJ _ _) ?_;rintro e W6 ⟨rfl,k5⟩;obtain⟨_,s0,s1,s2,_,_,_⟩:=(HD.out.keep ((ie _).trans k5)).bx))
   all_goals
    have HD9:Hid _:=hfin
    have HFin:Hid _:=hfin.finS (S':=mU 1000 50++[⟨1,1,0,0,0,0⟩]) (by rw[List.length_append];rfl) (by rw[List.map_append,HSV.out];rfl)
    clear hfin
    go_upto_region 9 with fail
    rw[show((W9.setCell ⟨Q,0,none⟩ (.slice a1 0 c1)).setCell ⟨Q,1,none⟩ (.slice (some ⟨g',0,none⟩) (vs.length+1) cap')).setCell ⟨Q,2,none⟩ (.slice a3 1 c3)=iM W9 Q (.slice a1 0 c1) (.slice (some ⟨g',0,none⟩) (vs.length+1) cap') (.slice a3 1 c3) from rfl]
    generalize iM W9 Q (.slice a1 0 c1) (.slice (some ⟨g',0,none⟩) (vs.length+1) cap') (.slice a3 1 c3)=W10 at HD9 HFin ⊢
    obtain⟨_,t0,t1,t2,_,_,_⟩:=HD9.out.bx
    obtain⟨_,u0,u1,u2,uf0,uf1,uf2⟩:=HD9.out.rs
    go_wp2_with fail
    obtain⟨p0,p1,p2⟩:=iy W10 w.heap.size _ _ _ u0 u1 u2 (.slice a1 0 c1) (.slice (some ⟨g',0,none⟩) (vs.length+1) cap') (.slice a3 1 c3)
    exact bodyPost_ret (v:=ip a1 0 c1 (some ⟨g',0,none⟩) (vs.length+1) cap' a3 1 c3) (by simp[results,Tryz.results39,go_sem,p0,p1,p2]) rfl (HA.out _ (HE1.out h2) _ _ HFin.out)
  ·have h2':¬(nv bs (ni bs i):Int)%2=1:=by omega
   have HFin:Hid _:=HD.out.fin HSV.out
   obtain⟨_,t0,t1,t2,_,_,_⟩:=HD.out.bx
   obtain⟨_,u0,u1,u2,uf0,uf1,uf2⟩:=HD.out.rs
   go_wp2_with fail
   obtain⟨p0,p1,p2⟩:=iy W5 w.heap.size _ _ _ u0 u1 u2 (.slice a1 0 c1) (.slice a2 vs.length c2) (.slice a3 1 c3)
   exact bodyPost_ret (v:=ip a1 0 c1 a2 vs.length c2 a3 1 c3) (by simp[results,Tryz.results39,go_sem,p0,p1,p2]) rfl (HA.out _ (HE2.out h2) _ _ HFin.out)
 have c0':¬(nv bs i:Int)%40=0:=by omega
 have c1':¬(nv bs i:Int)%40=1:=by omega
 have HG:Hid _:=DM HR1.out
 have HSm:Hid _:=uB bs (ni bs i)
 have HE1:Hid (nv bs i%40<8->ly bs i=((spM (dgI bs (ni bs i)).1 (dgG bs (ni bs i)).1 (dgO bs (ni bs i)).1 bs (dgO bs (ni bs i)).2).1,(spM (dgI bs (ni bs i)).1 (dgG bs (ni bs i)).1 (dgO bs (ni bs i)).1 bs (dgO bs (ni bs i)).2).2.1,(spM (dgI bs (ni bs i)).1 (dgG bs (ni bs i)).1 (dgO bs (ni bs i)).1 bs (dgO bs (ni bs i)).2).2.2,ni bs (ni bs (dgO bs (ni bs i)).2))):=λh=>by unfold ly;rw[if_neg c0,if_neg c1,if_pos h]
 have HE2:Hid (¬nv bs i%40<8->ly bs i=((dgI bs (ni bs i)).1,(dgG bs (ni bs i)).1,(dgO bs (ni bs i)).1,(dgO bs (ni bs i)).2)):=λh=>by unfold ly;rw[if_neg c0,if_neg c1,if_neg h]
 clear c0 c1
 generalize (dgI bs (ni bs i)).1=X1 at HG HSm HE1 HE2
 generalize (dgG bs (ni bs i)).1=X2 at HG HSm HE1 HE2
 generalize dgO bs (ni bs i)=XO at HG HSm HE1 HE2
 go_wp2_with fail
 refine Calls.mono HG.out ?_
 rintro e W3 ⟨a1,c1,a2,c2,a3,c3,vs,rfl,hsv,d,rd,k3⟩
 have HD:Hid _:=Dy.fresh HB1.out hP HK1.out d rd k3
 have HSV:Hid _:=hsv
 have hvl:vs.length<=100000:=by have h9:=congrArg List.length hsv;have:=HSm.out;rw[List.length_map] at h9;omega
 have kb:=hU 0 0 W3 (.cells #[.slice a1 X1.length c1,.slice a2 vs.length c2,.slice a3 XO.1.length c3] 26)
 have HSp:Hid _:=Eb (w0:=W1) (d.keep kb) (rd.keep0 kb) (Nat.lt_of_lt_of_le hP HK1.out.size) (k3.trans (iI kb)) hsv hvl (by have:=HSm.out;omega) (by have:=HSm.out;omega)
 clear hsv d rd k3 kb HG
 by_cases c8:nv bs i%40<8
 ·have c8':(nv bs i:Int)%40<8:=by omega
  obtain⟨_,t0,t1,t2,_,_,_⟩:=HD.out.bx
  generalize hT:spM X1 X2 XO.1 bs XO.2=T at HSp HE1
  clear hT
  go_wp2_with fail
  refine Calls.mono HSp.out ?_
  rintro e W6 ⟨b1,d1,b2,d2,b3,d3,us,rfl,hsu,d,rd,k6⟩
  obtain⟨hb,hf⟩:=DgF.up HB1.out hP HK1.out hsu d rd k6
  have HF:Hid _:=hf
  obtain⟨_,r0,r1,r2,rf0,rf1,rf2⟩:=hb
  clear hsu d rd k6 hf t0 t1 t2
  go_wp2_with fail
  obtain⟨p0,p1,p2⟩:=iy W6 w.heap.size _ _ _ r0 r1 r2 (.slice b1 T.1.length d1) (.slice b2 us.length d2) (.slice b3 T.2.2.length d3)
  exact bodyPost_ret (v:=ip b1 T.1.length d1 b2 us.length d2 b3 T.2.2.length d3) (by simp[results,Tryz.results39,go_sem,p0,p1,p2]) rfl (HA.out _ (HE1.out c8) _ _ HF.out)
 ·have c8':¬(nv bs i:Int)%40<8:=by omega
  have HFin:Hid _:=HD.out.fin HSV.out
  obtain⟨_,t0,t1,t2,_,_,_⟩:=HD.out.bx
  obtain⟨_,u0,u1,u2,uf0,uf1,uf2⟩:=HD.out.rs
  clear HSp
  go_wp2_with fail
  obtain⟨p0,p1,p2⟩:=iy _ w.heap.size _ _ _ u0 u1 u2 (.slice a1 X1.length c1) (.slice a2 vs.length c2) (.slice a3 XO.1.length c3)
  exact bodyPost_ret (v:=ip a1 X1.length c1 a2 vs.length c2 a3 XO.1.length c3) (by simp[results,Tryz.results39,go_sem,p0,p1,p2]) rfl (HA.out _ (HE2.out c8) _ _ HFin.out)
theorem vy (vs:List Vl):∀k s,scG (vs.map sv) k s=scG vs k s
 |0,_=>rfl
 |k+1,s=>by rw[scG,scG,vy vs k,vy vs k,show((vs.map sv).getD k Vl.zero).len=(vs.getD k Vl.zero).len from v8 vs k]
theorem Ec (vs:List Vl)(bs:List Int)(i:Nat):scM (vs.map sv) bs i=scM vs bs i:=by
 unfold scM
 rw[List.length_map,vy]
def gdT (bs:List Int):List Int×List Vl×List Int×Nat:=if nv bs 0%50=0 then ([1],pt (nZ (498+nv bs (ni bs 0)%4)) (nv bs (ni bs (ni bs 0))%4),[],ni bs (ni bs (ni bs 0))) else ly bs (ni bs 0)
def gdS (bs:List Int):Int:=if nv bs 0%50=0 then ((gdT bs).2.1.length:Int)-1 else (scM (gdT bs).2.1 bs (gdT bs).2.2.2).1
def Ed (bs:List Int):Int:=mX (gdT bs).2.1.length (nv bs (scM (gdT bs).2.1 bs (gdT bs).2.2.2).2)
def gdX (bs:List Int):Int:=if nv bs 0%50=0 then 0 else if nv bs 0%50<25/\0<gdS bs then (Ed bs).tmod 4 else Ed bs
def GdO (w:World)(T:List Int×List Vl×List Int×Nat)(s x:Int)(e:Ending)(w':World):Prop:=
 ∃a1 c1 a2 c2 a3 c3 vs,e=.returned (.tuple #[ip a1 T.1.length c1 a2 vs.length c2 a3 T.2.2.1.length c3,.int .i64 s,.int .i64 x])/\vs.map sv=T.2.1/\DG w' w.heap.size (.slice a1 T.1.length c1) (.slice a2 vs.length c2) (.slice a3 T.2.2.1.length c3) T.1 vs T.2.2.1/\Kept 0 0 w w'
theorem BA (ins:List Int)(S:List Vl)(outs bs:List Int)(i:Nat):(spM ins S outs bs i).2.1.length=S.length:=by
 have key:∀(p:Prop) [Decidable p] (a b:List Int×List Vl×List Int),a.2.1.length=S.length->b.2.1.length=S.length->(if p then a else b).2.1.length=S.length:=λp _ a b h1 h2=>by split<;>assumption
 unfold spM
 repeat' (apply key)
 all_goals first|rfl|exact List.length_set ..
theorem xq (bs:List Int)(i:Nat):(ly bs i).2.1.length<=3000:=by
 have hd:=uB bs (ni bs i)
 unfold ly
 split
 ·simp only[lK];omega
 split
 ·split
  ·simp only[List.length_append,lK];simp
  ·simp only[lK];omega
 split
 ·simp only[BA];omega
 ·simp only;omega
theorem oS {W:World}{l h:Nat}(k:Kept 0 0 w W)(k':Kept l h W W')(hl:w.heap.size<=l):Kept 0 0 w W':=
 ⟨k'.os.trans k.os,k'.tape.trans k.tape,k'.output.trans k.output,Nat.le_trans k.size k'.size,λb hb _=>by rw[k'.block b (by have:=k.size;omega) (by omega)];exact k.block b hb (by omega)⟩
theorem zj {W:World}{B:Nat}(hs:vs.map sv=T.2.1)(d:DG W B (.slice a1 T.1.length c1) (.slice a2 vs.length c2) (.slice a3 T.2.2.1.length c3) T.1 vs T.2.2.1)(hB:w.heap.size<B)(k:Kept 0 0 w W)(s x:Int):
  GdO w T s x (.returned (.tuple #[ip a1 T.1.length c1 a2 vs.length c2 a3 T.2.2.1.length c3,.int .i64 s,.int .i64 x])) (iM W w.heap.size (.slice a1 T.1.length c1) (.slice a2 vs.length c2) (.slice a3 T.2.2.1.length c3)):=by
 have kk:=iD W w.heap.size (.slice a1 T.1.length c1) (.slice a2 vs.length c2) (.slice a3 T.2.2.1.length c3)
 exact⟨a1,c1,a2,c2,a3,c3,vs,rfl,hs,(d.kept kk (by omega)).mono (by omega),oS k kk (Nat.le_refl _)⟩
theorem GdO.keep {W:World}{s x:Int}{e:Ending}(h:GdO w T s x e W)(k:Kept 0 0 W W'):GdO w T s x e W':=by
 obtain⟨a1,c1,a2,c2,a3,c3,vs,h1,h2,h3,h4⟩:=h
 exact⟨a1,c1,a2,c2,a3,c3,vs,h1,h2,h3.keep k,h4.trans k⟩
theorem qJ {xs:List Int}(h:YS w a n xs)(hc:n<=cap):
  Calls Tryz.prog 15 #[.slice a n cap] w (GdO w (gdT (xs.take 500)) (gdS (xs.take 500)) (gdX (xs.take 500))):=by
 have ka:=hU 0 0 w iw
 have h1:(w.alloc iw).heap.size=w.heap.size+1:=by simp
 have HO:Hid _:=CL (w.alloc iw) a n cap xs (h.keep ka) hc
 have HB0:Hid _:=i9 w
 have HK0:Hid _:=ka
 generalize xs.take 500=bs at HO ⊢
 rw[h1] at HO
 clear h hc ka h1
 go_enter Tryz.func15,Tryz.ntmps15
 go_wp2_with fail
 refine Calls.mono HO.out ?_
 rintro e W1 ⟨rfl,⟨m,R1⟩,k1⟩
 have HR1:Hid _:=R1
 have hx:=iK R1.ys 0
 have HY:Hid (∀j,nv bs j<256):=λj=>iK R1.ys j
 have HK1:Hid (Kept 0 0 w W1):=HK0.out.trans k1
 have HB1:Hid _:=HB0.out.keep k1
 have HP:Hid (w.heap.size+1<W1.heap.size):=R1.lt
 clear R1 k1 HK0 HB0 HO
 go_wp2_with fail
 refine Calls.mono (lj _ _ _ _ _ _ _ HR1.out) ?_
 rintro e W2 ⟨rfl,R2,k2,hs2⟩
 have HR2:Hid _:=R2
 have HK2:Hid (Kept 0 0 w W2):=oS HK1.out k2 (by omega)
 have HB2:Hid (RB W2 w.heap.size jw jw jw):=HB1.out.kept k2 (by omega)
 have HP2:Hid (w.heap.size+1<W2.heap.size):=R2.lt
 clear R2 k2 hs2 HK1 HB1 HP HR1
 by_cases c0:nv bs 0%50=0
 ·have c0':(nv bs 0:Int)%50=0:=by omega
  have HT:Hid (gdT bs=([1],pt (nZ (498+nv bs (ni bs 0)%4)) (nv bs (ni bs (ni bs 0))%4),[],ni bs (ni bs (ni bs 0)))):=by show _=_;unfold gdT;rw[if_pos c0]
  have HSx:Hid (gdS bs=((gdT bs).2.1.length:Int)-1/\gdX bs=0):=⟨by unfold gdS;rw[if_pos c0],by unfold gdX;rw[if_pos c0]⟩
  have HG:Hid _:=Bv HR2.out
  clear c0
  go_wp2_with fail
  refine Calls.mono HG.out ?_
  rintro e W3 ⟨a1,c1,a2,c2,a3,c3,vs,rfl,hsv,d,rd,k3⟩
  have hvl:vs.length<=100000:=by have h9:=congrArg List.length hsv;rw[List.length_map,oR,no] at h9;omega
  rw[show([1]:List Int).length=1 from rfl,show([]:List Int).length=0 from rfl] at d ⊢
  have hb:=kj (S:=λ_=>False) W3 _ #[.slice a1 1 c1,.slice a2 vs.length c2,.slice a3 0 c3] 26 (Kept.refl 0 0 _).chg (λc=>c)
  have kb:=hU 0 0 W3 (.cells #[.slice a1 1 c1,.slice a2 vs.length c2,.slice a3 0 c3] 26)
  have HFin:Hid (GdO w (gdT bs) (gdS bs) (gdX bs) (.returned (.tuple #[ip a1 1 c1 a2 vs.length c2 a3 0 c3,.int .i64 ((vs.length:Int)-1),.int .i64 0])) (iM (W3.alloc (.cells #[.slice a1 1 c1,.slice a2 vs.length c2,.slice a3 0 c3] 26)) w.heap.size (.slice a1 1 c1) (.slice a2 vs.length c2) (.slice a3 0 c3))):=by
   have hL:(vs.length:Int)-1=gdS bs:=by rw[HSx.out.1,HT.out,<-hsv,List.length_map]
   have:=zj (w:=w) (T:=gdT bs) (a1:=a1) (c1:=c1) (a2:=a2) (c2:=c2) (a3:=a3) (c3:=c3) (vs:=vs) (W:=W3.alloc (.cells #[.slice a1 1 c1,.slice a2 vs.length c2,.slice a3 0 c3] 26)) (B:=W2.heap.size) (by rw[HT.out];exact hsv) (by rw[HT.out];exact d.keep kb) (by have:=HP2.out;omega) ((oS HK2.out k3 (by omega)).trans kb) (gdS bs) (gdX bs)
   rw[HSx.out.2,<-hL] at this ⊢
   rw[HT.out] at this ⊢
   exact this
  have hv1:1<=vs.length:=by have h9:=congrArg List.length hsv;rw[List.length_map,oR,no] at h9;omega
  have q0:(W3.alloc (.cells #[.slice a1 1 c1,.slice a2 vs.length c2,.slice a3 0 c3] 26)).cell? ⟨W3.heap.size,0,none⟩=some (.slice a1 1 c1):=hb.1 0
  have q1:(W3.alloc (.cells #[.slice a1 1 c1,.slice a2 vs.length c2,.slice a3 0 c3] 26)).cell? ⟨W3.heap.size,1,none⟩=some (.slice a2 vs.length c2):=hb.1 1
  have q2:(W3.alloc (.cells #[.slice a1 1 c1,.slice a2 vs.length c2,.slice a3 0 c3] 26)).cell? ⟨W3.heap.size,2,none⟩=some (.slice a3 0 c3):=hb.1 2
  have hr:=(HB2.out.kept k3 (by omega)).keep kb
  have hQ:w.heap.size<W3.heap.size:=by have:=HP2.out;have:=k3.size;omega
  have hQ2:¬w.heap.size=W3.heap.size:=by omega
  have hQ3:¬W3.heap.size=w.heap.size:=by omega
  clear hsv d rd k3 hb kb HT HSx
  go_upto_region 5 with fail
  generalize W3.alloc (.cells #[.slice a1 1 c1,.slice a2 vs.length c2,.slice a3 0 c3] 26)=W4 at HFin q0 q1 q2 hr ⊢
  generalize W3.heap.size=Q at q0 q1 q2 hQ hQ2 hQ3 ⊢
  obtain⟨_,r0,r1,r2,rf0,rf1,rf2⟩:=hr
  go_region_law (fail)
  all_goals
   go_wp2_with fail
   obtain⟨p0,p1,p2⟩:=iy W4 w.heap.size _ _ _ r0 r1 r2 (.slice a1 1 c1) (.slice a2 vs.length c2) (.slice a3 0 c3)
   exact bodyPost_ret (v:=.tuple #[ip a1 1 c1 a2 vs.length c2 a3 0 c3,.int .i64 ((vs.length:Int)-1),.int .i64 0]) (by simp[results,Tryz.results15,go_sem,p0,p1,p2];rw[IntKind.wrap_i64];omega) rfl (HFin.out.keep (ie _))
 ·have c0':¬(nv bs 0:Int)%50=0:=by omega
  have HT:Hid (gdT bs=ly bs (ni bs 0)):=by show _=_;unfold gdT;rw[if_neg c0]
  have HS:Hid (gdS bs=(scM (ly bs (ni bs 0)).2.1 bs (ly bs (ni bs 0)).2.2.2).1):=by show _=_;unfold gdS;rw[if_neg c0,HT.out]
  have HX:Hid (gdX bs=if nv bs 0%50<25/\0<gdS bs then (mX (ly bs (ni bs 0)).2.1.length (nv bs (scM (ly bs (ni bs 0)).2.1 bs (ly bs (ni bs 0)).2.2.2).2)).tmod 4 else mX (ly bs (ni bs 0)).2.1.length (nv bs (scM (ly bs (ni bs 0)).2.1 bs (ly bs (ni bs 0)).2.2.2).2)):=by show _=_;unfold gdX Ed;rw[if_neg c0,HT.out]
  have HA:Hid _:=FN HR2.out
  have HSm:Hid _:=xq bs (ni bs 0)
  clear c0
  generalize ly bs (ni bs 0)=T at HT HS HX HA HSm
  go_wp2_with fail
  refine Calls.mono HA.out ?_
  rintro e W3 ⟨a1,c1,a2,c2,a3,c3,vs,rfl,hsv,d,rd,k3⟩
  have hQ0:=(HB2.out.kept k3 (by omega))
  go_wp2_with fail
  clear hQ0
  have hvs:T.2.1.length=vs.length:=by rw[<-hsv,List.length_map]
  have hvl:vs.length<=100000:=by have:=HSm.out;omega
  have hb:=kj (S:=λ_=>False) W3 _ #[.slice a1 T.1.length c1,.slice a2 vs.length c2,.slice a3 T.2.2.1.length c3] 26 (Kept.refl 0 0 _).chg (λc=>c)
  have kb:=hU 0 0 W3 (.cells #[.slice a1 T.1.length c1,.slice a2 vs.length c2,.slice a3 T.2.2.1.length c3] 26)
  have hbx:RB (W3.alloc (.cells #[.slice a1 T.1.length c1,.slice a2 vs.length c2,.slice a3 T.2.2.1.length c3] 26)) W3.heap.size (.slice a1 T.1.length c1) (.slice a2 vs.length c2) (.slice a3 T.2.2.1.length c3):=⟨hb.2.2,hb.1 0,hb.1 1,hb.1 2,hb.2.1 0,hb.2.1 1,hb.2.1 2⟩
  have hr:=(HB2.out.kept k3 (by omega)).keep kb
  have hP2:=HP2.out
  have hk3:=k3.size
  have K4:Kept 0 0 w (W3.alloc (.cells #[.slice a1 T.1.length c1,.slice a2 vs.length c2,.slice a3 T.2.2.1.length c3] 26)):=(oS HK2.out k3 (by omega)).trans kb
  have hSc:Hid _:=Ff (w:=W3.alloc (.cells #[.slice a1 T.1.length c1,.slice a2 vs.length c2,.slice a3 T.2.2.1.length c3] 26)) (a1:=a1) (n1:=T.1.length) (c1:=c1) (a3:=a3) (n3:=T.2.2.1.length) (c3:=c3) (d.keep kb).r2 rfl hvl (rd.keep0 kb) (by omega:w.heap.size+1<W2.heap.size)
  have eS:scM vs bs T.2.2.2=scM T.2.1 bs T.2.2.2:=by rw[<-Ec,hsv]
  rw[<-eS] at HS HX
  rw[hvs] at HX
  have d4:=d.keep kb
  have HQ:Hid (w.heap.size+1<W3.heap.size):=by show _<_;omega
  generalize W3.alloc (.cells #[.slice a1 T.1.length c1,.slice a2 vs.length c2,.slice a3 T.2.2.1.length c3] 26)=W4 at hbx hr K4 hSc d4 ⊢
  have HS4:Hid (∀W',Kept (w.heap.size+1) (w.heap.size+1+1) W4 W'->RB W' W3.heap.size (.slice a1 T.1.length c1) (.slice a2 vs.length c2) (.slice a3 T.2.2.1.length c3)/\RB W' w.heap.size jw jw jw/\GdO w T (gdS bs) (gdX bs) (.returned (.tuple #[ip a1 T.1.length c1 a2 vs.length c2 a3 T.2.2.1.length c3,.int .i64 (gdS bs),.int .i64 (gdX bs)])) (iM W' w.heap.size (.slice a1 T.1.length c1) (.slice a2 vs.length c2) (.slice a3 T.2.2.1.length c3))):=λW' k=>⟨hbx.kept k (by omega),hr.kept k (by omega),zj hsv (d4.kept k (by omega)) (by omega) (oS K4 k (by omega)) _ _⟩
  have HPost:Hid (∀e w',GdO w T (gdS bs) (gdX bs) e w'->GdO w (gdT bs) (gdS bs) (gdX bs) e w'):=λe w' h=>by rw[HT.out];exact h
  clear hsv d rd k3 hb kb hbx hr K4 d4 eS HT hP2 hk3 HK2 HB2 HP2 HA HSm hvs
  generalize W3.heap.size=Q at HS4 HQ ⊢
  generalize hs:(scM vs bs T.2.2.2).1=s at HS hSc
  generalize (scM vs bs T.2.2.2).2=p at HX hSc
  clear hs
  obtain⟨⟨_,q0,q1,q2,_,_,_⟩,_,_⟩:=HS4.out W4 (Kept.refl _ _ _)
  rcases (by omega:¬nv bs 0%50<25\/(nv bs 0%50<25/\0<s)\/(nv bs 0%50<25/\¬0<s)) with cA|⟨cA,cs⟩|⟨cA,cs⟩
  case' inl=>
   have cA':¬(nv bs 0:Int)%50<25:=by omega
   have HXv:Hid (gdX bs=mX vs.length (nv bs p)):=HX.out.trans (if_neg λc=>cA c.1)
  case' inr.inl=>
   have cA':(nv bs 0:Int)%50<25:=by omega
   have HXv:Hid (gdX bs=(mX vs.length (nv bs p)).tmod 4):=HX.out.trans (if_pos ⟨cA,by rw[HS.out];exact cs⟩)
  case' inr.inr=>
   have cA':(nv bs 0:Int)%50<25:=by omega
   have HXv:Hid (gdX bs=mX vs.length (nv bs p)):=HX.out.trans (if_neg λc=>cs (by rw[<-HS.out];exact c.2))
  all_goals clear HX cA
  all_goals
   rw[HXv.out,HS.out] at HS4
   refine Calls.mono hSc.out ?_
   rintro e W5 ⟨rfl,R5,k5⟩
   obtain⟨⟨_,s0,s1,s2,_,_,_⟩,_,_⟩:=HS4.out W5 k5
   go_wp2_with (first
    |(go_at_call 41;refine Calls.mono (Fe R5 vs.length hvl) ?_;rintro e W6 ⟨rfl,R6,k6⟩;obtain⟨⟨_,t0,t1,t2,_,_,_⟩,⟨_,r0,r1,r2,rf0,rf1,rf2⟩,hfin⟩:=HS4.out W6 (k5.trans k6)))
   obtain⟨p0,p1,p2⟩:=iy W6 w.heap.size _ _ _ r0 r1 r2 (.slice a1 T.1.length c1) (.slice a2 vs.length c2) (.slice a3 T.2.2.1.length c3)
   have hfin':=HPost.out _ _ (by rw[HS.out,HXv.out];exact hfin)
   first
    |exact bodyPost_ret (v:=.tuple #[ip a1 T.1.length c1 a2 vs.length c2 a3 T.2.2.1.length c3,.int .i64 s,.int .i64 (mX vs.length (nv bs p))]) (by simp[results,Tryz.results15,go_sem,p0,p1,p2]) rfl hfin'
    |exact bodyPost_ret (v:=.tuple #[ip a1 T.1.length c1 a2 vs.length c2 a3 T.2.2.1.length c3,.int .i64 s,.int .i64 ((mX vs.length (nv bs p)).tmod 4)]) (by simp[results,Tryz.results15,go_sem,p0,p1,p2]) rfl hfin'
end Go.Proofs.YtnlffngpnoodkaaGreat
