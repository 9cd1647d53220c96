import Derived.Test.YtdpbpcnldpkljaaGreatP45
import Derived.Test.YtdpbpcnldpkljaaGreatP41
import Derived.Test.YtdpbpcnldpkljaaGreatP39
namespace Go.Proofs.Z
open Tryz
set_option maxRecDepth 1000000
set_option maxHeartbeats 0
section
open Go.RowKit Flt
attribute [local go_sem] eD eB eA
theorem uA (w:World)(qa qc:Option Addr)(g2 n1 c1 n2 c2 n3 c3:Nat)(s x:Nat)(ins:List Int)(vs:List Vl)(outs:List Int)(f:GS w qa n1 (some ⟨g2,0,none⟩) n2 qc n3 ins vs outs)(fv:VA w g2 n2 vs)(l1:n1<=1000000)(l2:n2<=2000)(l3:n3<=1000000)(hok:(List.range n2).all (okV ins vs)=true)(hc5:eX vs<=50000)(hs:s<n2)(hx:x<n2)(ha:(ij vs x (s-x)).getD s false=true):
  Calls prog 128 #[eR qa n1 c1 (some ⟨g2,0,none⟩) n2 c2 qc n3 c3,.int .i64 (s:Int),.int .i64 (x:Int)] w λe w'=>qT w w' n1 n3 ins outs (grM vs s x) e/\Kept 0 0 w w':=by
 have HG:Hid (grM vs s x=FF vs x (gdn vs (ij vs x (s-x)) s (s-x))):=by
  show _=_
  unfold grM zu
  rw[if_pos ha,pr _ _ _ _ _ yad]
 have hsx:¬s<x:=λc=>by
  rw[show s-x=0 by omega,ij,oM xaa,yah,List.getElem?_replicate] at ha
  split at ha<;>simp at ha
 have hlen:∀j,j<n2->1<=(vs.getD j Vl.zero).len/\(vs.getD j Vl.zero).len<=1000:=λj hj=>il (List.all_eq_true.1 hok j (List.mem_range.2 hj))
 have hops:∀j,j<n2->∀k,k<cnt (vs.getD j Vl.zero).op->0<=fld (vs.getD j Vl.zero) k/\fld (vs.getD j Vl.zero) k<j:=λj hj=>j6 (List.all_eq_true.1 hok j (List.mem_range.2 hj))
 have hop:∀j,j<n2->0<=(vs.getD j Vl.zero).op/\(vs.getD j Vl.zero).op<=13:=λj hj=>uT (List.all_eq_true.1 hok j (List.mem_range.2 hj))
 have kn:Kept 0 0 w ((w.alloc (eP qa n1 c1 (some ⟨g2,0,none⟩) n2 c2 qc n3 c3)).alloc eZ):=(ez 0 0 w _).trans (ez 0 0 _ _)
 have HB:Hid _:=(fE w (.slice qa n1 c1) (.slice (some ⟨g2,0,none⟩) n2 c2) (.slice qc n3 c3)).keep (ez 0 0 _ eZ)
 have HFZ:Hid (∀o,((w.alloc (eP qa n1 c1 (some ⟨g2,0,none⟩) n2 c2 qc n3 c3)).alloc eZ).frozen? ⟨w.heap.size,o,none⟩=false):=λo=>by simp
 have hN:=fZ (w.alloc (eP qa n1 c1 (some ⟨g2,0,none⟩) n2 c2 qc n3 c3))
 rw[show(w.alloc (eP qa n1 c1 (some ⟨g2,0,none⟩) n2 c2 qc n3 c3)).heap.size=w.heap.size+1 by simp] at hN
 have HR:Hid _:=hN
 have HXA:Hid _:=tz _ qa qc g2 n1 c1 n2 c2 n3 c3 s x vs (fv.keep kn yaa) l2 hs hx hop hops
 have HXC:Hid (∀W,Kept 0 0 ((w.alloc (eP qa n1 c1 (some ⟨g2,0,none⟩) n2 c2 qc n3 c3)).alloc eZ) W->_):=λW (k:Kept 0 0 ((w.alloc (eP qa n1 c1 (some ⟨g2,0,none⟩) n2 c2 qc n3 c3)).alloc eZ) W)=>sB W qa (some ⟨g2,0,none⟩) qc n1 c1 n2 c2 n3 c3 ins vs outs (f.keep (kn.trans k)) l1 xaa l3
 have HVX:Hid (∀W,Kept 0 0 ((w.alloc (eP qa n1 c1 (some ⟨g2,0,none⟩) n2 c2 qc n3 c3)).alloc eZ) W->W.cell? ⟨g2,x*6+1,none⟩=some (.int .i64 (vs.getD x Vl.zero).len)):=λW k=>((fv.keep (kn.trans k) yaa).at_ x hx).c1
 have HLN:Hid (vs.length=n2):=f.v.len
 have HLE:Hid _:=hlen
 have HOS:Hid _:=hops
 have HOP:Hid _:=hop
 have HOK:Hid _:=hok
 have HZ:Hid (SzU 2000 50000 vs):=⟨by have:=f.v.len;omega,kD vs (λj hj=>by have:=hlen j (by have:=f.v.len;omega);omega),hc5⟩
 have hx1:(0:Int)<=(x:Int):=xaa
 have hx2:(x:Int)<(n2:Int):=xaa
 have hs1:(0:Int)<=(s:Int):=xaa
 have hs2:(s:Int)<(n2:Int):=xaa
 have hwz:((w.alloc (eP qa n1 c1 (some ⟨g2,0,none⟩) n2 c2 qc n3 c3)).alloc eZ).heap.size=w.heap.size+1+1:=by simp
 clear hN kn f hok hc5 hlen hops hop
 go_enter func128,ntmps128
 go_wp2_with fail
 refine yai HXA.out ?_
 rintro e w1 ⟨A,rfl,hA,hAl,k1⟩
 rw[hwz] at hAl
 obtain⟨_,p0,p1,p2⟩:=HB.out.keep k1
 have hlx:=HVX.out w1 k1
 generalize hlnx:(vs.getD x Vl.zero).len=lx at hlx
 have HLX:Hid ((vs.getD x Vl.zero).len=lx):=hlnx
 clear hlnx HVX HXA
 have HA:Hid (BR w1 A (ij vs x (s-x))):=hA
 have HK1:Hid _:=k1
 clear hA k1
 go_wp2_with fail
 clear hlx
 refine yai (HXC.out w1 HK1.out) ?_
 rintro e w2 ⟨b1,d1,a2,d2,b3,d3,rfl,o1,o2,o3,⟨q1,q2,q3⟩,k2⟩
 have hw1:w.heap.size+1+1<=w1.heap.size:=by have:=HK1.out.size;omega
 have HL:Hid (LK w (fe w2 w.heap.size (.slice b1 n1 d1) (.slice a2 n2 d2) (.slice b3 n3 d3)) b1 n1 d1 b3 n3 d3 ins outs vs w1.heap.size (Value.slice a2 n2 d2).ownBlock a2 d2):=LK.start HLN.out HB.out HFZ.out HR.out (HK1.out.trans k2) hw1 k2.size o1 o2 o3 q1 q2 q3
 have HBA:Hid (BR (fe w2 w.heap.size (.slice b1 n1 d1) (.slice a2 n2 d2) (.slice b3 n3 d3)) A (ij vs x (s-x))):=BR.keep (BR.keep HA.out k2 yaa) (fc w2 w.heap.size _ _ _) (.inr (.inl xaa))
 have HFA:Hid (Farb w b1 n1 d1 b3 n3 d3 (Value.slice a2 n2 d2).ownBlock A):=⟨hAl,λc=>by have:=(eG o2 c).1;have:=(BR.lt HA.out);omega,λc=>by have:=(eG o1 c).1;have:=(BR.lt HA.out);omega,λc=>by have:=(eG o3 c).1;have:=(BR.lt HA.out);omega⟩
 clear p0 p1 p2
 obtain⟨_,p0,p1,p2⟩:=HB.out.keep (HK1.out.trans k2)
 have f0:=((HK1.out.trans k2).frozen (p:=⟨w.heap.size,0,none⟩) HB.out.sz xaa).trans (HFZ.out 0)
 have f1:=((HK1.out.trans k2).frozen (p:=⟨w.heap.size,1,none⟩) HB.out.sz xaa).trans (HFZ.out 1)
 have f2:=((HK1.out.trans k2).frozen (p:=⟨w.heap.size,2,none⟩) HB.out.sz xaa).trans (HFZ.out 2)
 have yA:=BR.cell HBA.out s (by rw[lC,HLN.out];exact hs)
 rw[ha] at yA
 unfold fe at yA HL HBA
 clear o1 o2 o3 q1 q2 q3 k2 HXC HB HFZ HR HA HK1 hwz
 have tx:¬((s:Int)<(x:Int)):=xaa
 go_upto_region 7 with fail
 clear p0 p1 p2 f0 f1 f2 yA
 generalize ((w2.setCell ⟨w.heap.size,0,none⟩ (.slice b1 n1 d1)).setCell ⟨w.heap.size,1,none⟩ (.slice a2 n2 d2)).setCell ⟨w.heap.size,2,none⟩ (.slice b3 n3 d3)=wP at HL HBA ⊢
 rw[<-HLN.out] at HL HFA
 generalize (Value.slice a2 vs.length d2).ownBlock=R0 at HL HFA
 have HAI:Hid (∀j,j<=s->GdI vs (ij vs x (s-x)) n2 (2001+12*j) (51000+12000*(j:Int)) (gdn vs (ij vs x (s-x)) s j)):=we HLN.out hs HZ.out (nF (by rw[HLN.out];exact HLE.out)) ha (λi hi q hq=>by have:=HOS.out i hi q hq;omega)
 have HAL:Hid ((ij vs x (s-x)).length=n2):=by show _=_;rw[lC,HLN.out]
 generalize ij vs x (s-x)=act at HBA HG HAI HAL ha
 clear ha
 have hm:=o6 (s+1) wP xaa
 rw[show((s+1:Nat):Int)=(s:Int)+1 from rfl] at hm
 have hsw:IntKind.i64.wrap ((s:Int)+1)=(s:Int)+1:=by rw[IntKind.wrap_i64];omega
 have hs0:(0:Int)<=(s:Int)+1:=xaa
 have HJ0:Hid (LG w (wP.alloc (.cells (madeCells #[.int .i64 0] (s+1)) 3)) wP.heap.size A b1 n1 d1 b3 n3 d3 ins outs vs (jD 0 (s+1)) act w1.heap.size R0 a2 d2):=by
  have ka:=ez 0 0 wP (.cells (madeCells #[.int .i64 0] (s+1)) 3)
  have e:jD 0 (s+1)=List.replicate (s+1) 0:=by simp[jD]
  rw[e]
  exact⟨HL.out.keep ka,IR.made wP (s+1),BR.keep HBA.out ka yaa,HL.out.far yad,HFA.out,by have:=BR.lt HBA.out;omega⟩
 generalize wP.alloc (.cells (madeCells #[.int .i64 0] (s+1)) 3)=w3 at hm HJ0
 generalize wP.heap.size=Mb at hm HJ0
 clear HL HBA HFA
 go_wp2_with fail
 clear hm
 generalize w1.heap.size=base at HJ0 hw1
 go_loopw [11] (λv W=>∃k:Nat,k<=s+1/\v=.int .i64 (k:Int)/\Hid (LG w W Mb A b1 n1 d1 b3 n3 d3 ins outs vs (jD k (s+1)) act base R0 a2 d2)) (λv _=>s+1-(intOf v).toNat)
 case atStart=>exact⟨0,Nat.zero_le _,rfl,HJ0⟩
 case round=>
  obtain⟨k,hk,rfl,hJ⟩:=hrel
  clear HJ0
  by_cases hlt:k<s+1
  ·have c1:=IR.cell hJ.out.m k (by rw[qu k (s+1) hk];exact hlt)
   have c2:=IR.free hJ.out.m k
   have R1:Hid (LG w (wr.setCell ⟨Mb,k,none⟩ (.int .i64 (-1))) Mb A b1 n1 d1 b3 n3 d3 ins outs vs (jD (k+1) (s+1)) act base R0 a2 d2):=by
    have:=hJ.out.set k (-1)
    rw[qx hlt] at this
    exact this
   clear hJ
   generalize (jD k (s+1)).getD k 0=z at c1
   have k0:(0:Int)<=(k:Int):=xaa
   have k1:(k:Int)<(s:Int)+1:=xaa
   have k2:(k:Int)<=(s:Int):=xaa
   exact xic
  ·obtain rfl:k=s+1:=xaa
   have hJ2:=hJ.out
   rw[qw] at hJ2
   have HJ2:Hid _:=hJ2
   have s0:=hJ2.l.g.c0
   have s1:=hJ2.l.g.c1
   have s2:=hJ2.l.g.c2
   have k2:¬(((s+1:Nat):Int)<=(s:Int)):=xaa
   have hnb:vs.length<=1000000:=by have:=HLN.out;omega
   clear hJ hJ2
   go_wp2_with fail
   refine yai (LK.call HJ2.out.l (Kept.refl 0 0 wr) ⟨1,1,0,0,0,4607182418800017408⟩ hnb) ?_
   rintro e w4 ⟨g',cap',rfl,⟨_,r0⟩,⟨_,r1⟩,⟨_,r2⟩,rf,hM2⟩
   have rf0:=rf 0
   have rf1:=rf 1
   have rf2:=rf 2
   have HM2:Hid (LG w (fe w4 w.heap.size (.slice b1 n1 d1) (.slice (some ⟨g',0,none⟩) (vs.length+1) cap') (.slice b3 n3 d3)) Mb A b1 n1 d1 b3 n3 d3 ins outs (rO vs s).1 (List.replicate (s+1) (-1)) act base (some g') (some ⟨g',0,none⟩) cap'):=HJ2.out.stq hM2.out.1 hM2.out.2
   clear rf hM2 HJ2 s0 s1 s2
   unfold fe at HM2
   have HLast:Hid (∀W:World,_):=λW=>ir W b1 (some ⟨g',0,none⟩) b3 n1 d1 (vs.length+1) cap' n3 d3 (show vs.length+1<=1000000 by have:=HLN.out;omega)
   rw[show((vs.length+1:Nat):Int)-1=((vs.length:Nat):Int) by omega] at HLast
   go_upto_region 13 with fail
   generalize ((w4.setCell ⟨w.heap.size,0,none⟩ (.slice b1 n1 d1)).setCell ⟨w.heap.size,1,none⟩ (.slice (some ⟨g',0,none⟩) (vs.length+1) cap')).setCell ⟨w.heap.size,2,none⟩ (.slice b3 n3 d3)=w5 at HM2 ⊢
   clear r0 r1 r2 rf0 rf1 rf2
   have s0:=HM2.out.l.g.c0
   have s1:=HM2.out.l.g.c1
   rw[show(rO vs s).1.length=vs.length+1 by simp[rO]] at s1
   have s2:=HM2.out.l.g.c2
   go_wp2_with fail
   refine yai (HLast.out w5) ?_
   rintro e w6 ⟨rfl,k6⟩
   have HM3:Hid _:=HM2.out.keep k6
   have c1:=IR.cell HM3.out.m s xac
   have c2:=IR.free HM3.out.m s
   generalize (List.replicate (s+1) (-1:Int)).getD s 0=z at c1
   have HJ1:Hid (∃R a2 cap,LG w (w6.setCell ⟨Mb,s,none⟩ (.int .i64 ((vs.length:Nat):Int))) Mb A b1 n1 d1 b3 n3 d3 ins outs (gdn vs act s 0).1 ((gdn vs act s 0).2.take (s+1)) act base R a2 cap):=⟨_,_,_,by
    have:=HM3.out.set s ((vs.length:Nat):Int)
    rw[xF vs s (by rw[HLN.out];exact hs)] at this
    exact this⟩
   clear HM2 HM3 HLast s0 s1 s2 k6
   have k7:(s:Int)<(s:Int)+1:=xaa
   go_wp2_with fail
   clear c1 c2
   generalize w6.setCell ⟨Mb,s,none⟩ (.int .i64 ((vs.length:Nat):Int))=w7 at HJ1 ⊢
   go_loopw [12] (λv W=>∃(i j:Nat),v=.int .i64 (i:Int)/\i+j=s/\j<=s-x/\Hid (∃R a2 cap,LG w W Mb A b1 n1 d1 b3 n3 d3 ins outs (gdn vs act s j).1 ((gdn vs act s j).2.take (s+1)) act base R a2 cap)) (λv _=>(intOf v).toNat)
   case atStart=>exact⟨s,0,rfl,rfl,Nat.zero_le _,HJ1⟩
   case round=>
    obtain⟨i,j,rfl,hij,hj,hJ⟩:=hrel
    clear HJ1
    obtain⟨R,a4,cap4,hJ⟩:=hJ.out
    have hI:=HAI.out j xaa
    by_cases hlt:j<s-x
    ·have hgt:(x:Int)<(i:Int):=xaa
     have hin:i<n2:=xaa
     have his:i<=s:=xaa
     have i0:(0:Int)<=(i:Int):=xaa
     have i2:(i:Int)<(n2:Int):=xaa
     have i3:(i:Int)<(s:Int)+1:=xaa
     have HNX:Hid (gdn vs act s (j+1)=giM vs act i (gdn vs act s j)):=by
      show _=_
      rw[gdn,show s-j=i by omega]
     have hiw:IntKind.i64.wrap ((i:Int)-1)=(i:Int)-1:=by rw[IntKind.wrap_i64];omega
     have HIJ:Hid (i+j=s/\j<s-x):=⟨hij,hlt⟩
     have HSZ:Hid (2001+12*j<=700000/\51000+12000*(j:Int)<=700000000):=by constructor<;>omega
     obtain⟨v,hv⟩:∃v,v=vs.getD i Vl.zero:=⟨_,rfl⟩
     have HV:Hid (v=vs.getD i Vl.zero):=hv
     have hopr:=HOP.out i hin
     have hos:=HOS.out i hin
     rw[<-hv] at hopr hos
     have HOSi:Hid _:=hos
     have HL1:Hid _:=ze v.op hopr.1 hopr.2
     generalize gdn vs act s j=st at hJ hI HNX
     generalize 2001+12*j=L0 at hI HSZ
     generalize 51000+12000*(j:Int)=C0 at hI HSZ
     clear hv hos hij hlt hj
     have HI:Hid _:=hI
     have HJa:Hid _:=hJ
     have hil:i<st.1.length:=by have:=(hI.p.at_ (show i<vs.length by rw[HLN.out];exact hin)).2;exact this
     have hud:st.1.getD i Vl.zero=v:=by rw[HV.out];exact(hI.p.at_ (show i<vs.length by rw[HLN.out];exact hin)).1
     have hcn:=gX v.op
     obtain⟨gv,rfl,rfl,_,_⟩:=hJ.l.read xaa
     have i4:(i:Int)<(st.1.length:Int):=xaa
     clear hI hJ
     by_cases hd:st.2.getD i 0=-1
     ·
      have hgi:giM vs act i st=st:=by unfold giM;rw[if_pos hd]
      have R1:Hid (∀W,LG w W Mb A b1 n1 d1 b3 n3 d3 ins outs st.1 (st.2.take (s+1)) act base (some gv) (some ⟨gv,0,none⟩) cap4->∃R a2 cap,LG w W Mb A b1 n1 d1 b3 n3 d3 ins outs (gdn vs act s (j+1)).1 ((gdn vs act s (j+1)).2.take (s+1)) act base R a2 cap):=λW h=>⟨_,_,_,by rw[HNX.out,hgi];exact h⟩
      clear hgi
      go_wp2_with fail
      go_loopw [13] (λu W=>∃k:Nat,k<=cnt v.op/\u=.int .i64 (k:Int)/\Hid (LG w W Mb A b1 n1 d1 b3 n3 d3 ins outs st.1 (st.2.take (s+1)) act base (some gv) (some ⟨gv,0,none⟩) cap4)) (λu _=>cnt v.op-(intOf u).toNat)
      case atStart=>exact⟨0,Nat.zero_le _,rfl,HJa⟩
      case round=>
       obtain⟨k,hk,rfl,hS⟩:=hrel
       clear HJa
       have y1:=hS.out.l.g.c1
       obtain⟨gx,ex,_,_,hA⟩:=hS.out.l.read xaa
       cases ex
       have hat:=hA i hil
       rw[hud] at hat
       obtain⟨z0,z1,z2,z3,z4,z5⟩:=hat
       clear hA
       by_cases hl3:k<cnt v.op
       ·obtain⟨o,ho,hoi⟩:∃o:Nat,fld v k=(o:Int)/\o<i:=by
         exact xju
        have HFD:Hid (∀W,Calls prog 37 #[v.agg,.int .i64 (k:Int)] W λe w'=>e=.returned (.int .i64 (o:Int))/\Kept 0 0 W w'):=λW=>by rw[<-ho];exact kR W v k xaa
        have hk2:(k:Int)<(cnt v.op:Int):=xaa
        have hkw:IntKind.i64.wrap ((k:Int)+1)=(k:Int)+1:=by rw[IntKind.wrap_i64];omega
        clear ho
        go_wp2_with (first|(go_at_call 36;refine yai (HL1.out _) ?_;rintro e w6 ⟨rfl,rfl⟩)|fail)
        refine yai (HFD.out wr) ?_
        rintro e w7 ⟨rfl,k7⟩
        have HS7:Hid _:=hS.out.keep k7
        have yA:=BR.cell HS7.out.a i (by rw[HAL.out];exact hin)
        have yS:=IR.cell HS7.out.m i (by rw[List.length_take,HI.out.l];omega)
        rw[kE his,hd] at yS
        clear y1 z0 z1 z2 z3 z4 z5 k7 HFD hS
        cases hb:act.getD i false
        all_goals
         rw[hb] at yA
         clear hb
         go_wp2_with fail
         clear yA yS
         go_roundw
         case rel=>exact⟨k+1,by omega,by go_num,HS7⟩
         case measure=>simp[intOf];omega
       ·have hk2:¬((k:Int)<(cnt v.op:Int)):=xaa
        have R2:Hid _:=R1.out _ hS.out
        clear hS
        exact xfb
     ·
      have hd0:0<=st.2.getD i 0:=by rcases HI.out.i i hin with c|c;exact absurd c hd;exact c.1
      have hai:act.getD i false=true:=by rcases HI.out.i i hin with c|c;exact absurd c hd;exact c.2
      have HGI:Hid (giM vs act i st=iS vs act i st (cnt v.op)):=by
       show _=_
       unfold giM
       rw[if_neg hd,<-HV.out]
      have HFN:Hid (∀q,q<cnt v.op->(fld (vs.getD i Vl.zero) q).toNat≠i):=λq hq=>by rw[<-HV.out];have:=HOSi.out q hq;omega
      have HJb:Hid (∃R a2 cap,LG w wr Mb A b1 n1 d1 b3 n3 d3 ins outs (iS vs act i st 0).1 ((iS vs act i st 0).2.take (s+1)) act base R a2 cap):=⟨_,_,_,HJa.out⟩
      have HDD:Hid (0<=st.2.getD i 0):=hd0
      have HHAI:Hid (act.getD i false=true):=hai
      clear hd hd0 hai HJa hil hud
      go_wp2_with fail
      go_loopw [13] (λu W=>∃k:Nat,k<=cnt v.op/\u=.int .i64 (k:Int)/\Hid (∃R a2 cap,LG w W Mb A b1 n1 d1 b3 n3 d3 ins outs (iS vs act i st k).1 ((iS vs act i st k).2.take (s+1)) act base R a2 cap)) (λu _=>cnt v.op-(intOf u).toNat)
      case atStart=>exact⟨0,Nat.zero_le _,rfl,HJb⟩
      case round=>
       obtain⟨k,hk,rfl,hS⟩:=hrel
       clear HJb
       obtain⟨R,a5,cap5,hS⟩:=hS.out
       have hpk:Pre vs (iS vs act i st k).1:=pq HI.out.p k
       have hzk:=rN (nF (by rw[HLN.out];exact HLE.out)) (act:=act) (i:=i) HI.out.z k
       have hik:qg n2 act (iS vs act i st k).2:=pw HI.out.i HI.out.l HDD.out k (λq hq=>HFN.out q xaa)
       have hlk:(iS vs act i st k).2.length=n2:=by rw[mT];exact HI.out.l
       have hdk:0<=(iS vs act i st k).2.getD i 0:=by rw[pu k (λq hq=>HFN.out q xaa)];exact HDD.out
       have HNK:Hid (iS vs act i st (k+1)=gkM vs act i k (iS vs act i st k)):=rfl
       have HEND:Hid (k=cnt v.op->gdn vs act s (j+1)=iS vs act i st k):=λe=>by rw[HNX.out,HGI.out,e]
       generalize iS vs act i st k=sk at hS hpk hzk hik hlk hdk HNK HEND
       have hvl:i<vs.length:=by rw[HLN.out];exact hin
       have hil:i<sk.1.length:=(hpk.at_ hvl).2
       have hud:sk.1.getD i Vl.zero=v:=by rw[HV.out];exact(hpk.at_ hvl).1
       obtain⟨gv,rfl,rfl,hgv,hA⟩:=hS.l.read xaa
       have hus:sk.1.length<=800000/\n2<=sk.1.length:=⟨by have:=hzk.1;have:=HSZ.out;omega,by obtain⟨r,e⟩:=hpk;rw[e,yak,HLN.out];omega⟩
       have hat:=hA i hil
       rw[hud] at hat
       have HAT:Hid _:=hat
       obtain⟨z0,z1,z2,z3,z4,z5⟩:=hat
       have y1:=hS.l.g.c1
       have i4:(i:Int)<(sk.1.length:Int):=xaa
       have HS:Hid _:=hS
       have HPK:Hid _:=hpk
       have HIK:Hid _:=hik
       have HLK:Hid (sk.2.length=n2):=hlk
       clear hA hS hpk hzk hik hlk
       by_cases hl3:k<cnt v.op
       ·obtain⟨o,ho,hoi⟩:∃o:Nat,fld v k=(o:Int)/\o<i:=by
         exact xju
        have HFD:Hid (∀W,Calls prog 37 #[v.agg,.int .i64 (k:Int)] W λe w'=>e=.returned (.int .i64 (o:Int))/\Kept 0 0 W w'):=λW=>by rw[<-ho];exact kR W v k xaa
        have HGK:Hid (gkM vs act i k sk=if act.getD o false=true/\me v k=true then j7 vs o (kS (i:Int) v (laM vs i) k (sk.2.getD i 0) sk.1.length).2 (sk.1++(kS (i:Int) v (laM vs i) k (sk.2.getD i 0) sk.1.length).1,sk.2) else sk):=by
         show _=_
         unfold gkM
         rw[<-HV.out,ho]
         rfl
        have hk2:(k:Int)<(cnt v.op:Int):=xaa
        have hkw:IntKind.i64.wrap ((k:Int)+1)=(k:Int)+1:=by rw[IntKind.wrap_i64];omega
        have o0:(0:Int)<=(o:Int):=xaa
        have o1:(o:Int)<(n2:Int):=xaa
        have o2:(o:Int)<(s:Int)+1:=xaa
        clear ho
        go_wp2_with (first|(go_at_call 36;refine yai (HL1.out _) ?_;rintro e w6 ⟨rfl,rfl⟩)|fail)
        refine yai (HFD.out wr) ?_
        rintro e w7 ⟨rfl,k7⟩
        have HS7:Hid _:=HS.out.keep k7
        have HAT7:Hid (At w7 gv (i*6) v):=HAT.out.keep hgv k7 yaa
        have yA:=BR.cell HS7.out.a i (by rw[HAL.out];exact hin)
        rw[HHAI.out] at yA
        have yS:=IR.cell HS7.out.m i (by rw[List.length_take,HLK.out];omega)
        rw[kE his] at yS
        have yO:=BR.cell HS7.out.a o (by rw[HAL.out];omega)
        generalize hdd:sk.2.getD i 0=d at yS HGK hdk
        have hdn:¬(d<0):=xaa
        clear y1 z0 z1 z2 z3 z4 z5 k7 HFD HS HAT hgv hdd
        cases hb:act.getD o false
        ·rw[hb] at yO
         have R3:Hid (∃R a2 cap,LG w w7 Mb A b1 n1 d1 b3 n3 d3 ins outs (iS vs act i st (k+1)).1 ((iS vs act i st (k+1)).2.take (s+1)) act base R a2 cap):=⟨_,_,_,by
          rw[HNK.out,HGK.out,if_neg (by rw[hb];simp)]
          exact HS7.out⟩
         clear hb HS7 HAT7
         go_wp2_with fail
         clear yA yS yO
         exact xez
        ·rw[hb] at yO
         have HGK2:Hid (gkM vs act i k sk=if me v k=true then j7 vs o (kS (i:Int) v (laM vs i) k d sk.1.length).2 (sk.1++(kS (i:Int) v (laM vs i) k d sk.1.length).1,sk.2) else sk):=by
          show _=_
          rw[HGK.out,hb]
          simp
         have s0:=HS7.out.l.g.c0
         have s1:=HS7.out.l.g.c1
         have s2:=HS7.out.l.g.c2
         have HMV:Hid (∀W1,Kept 0 0 w7 W1->Calls prog 150 #[eR b1 n1 d1 (some ⟨gv,0,none⟩) sk.1.length cap5 b3 n3 d3,.int .i64 (i:Int),.int .i64 (k:Int),.int .i64 d] W1 λe w5=>∃(us2:List Vl) (r:Int) (a5:Option Addr) (cap6:Nat) (R5:Option Nat),e=.returned (.tuple #[eR b1 n1 d1 a5 us2.length cap6 b3 n3 d3,.int .i64 r,.bool (me v k)])/\(∀B o,B<W1.heap.size->B≠gv->w5.cell? ⟨B,o,none⟩=W1.cell? ⟨B,o,none⟩)/\(∀B o,B<W1.heap.size->B≠gv->w5.frozen? ⟨B,o,none⟩=W1.frozen? ⟨B,o,none⟩)/\W1.heap.size<=w5.heap.size/\Hid (us2=sk.1++(ptM (i:Int) v (laM vs i) k d sk.1.length).1/\r=(ptM (i:Int) v (laM vs i) k d sk.1.length).2)/\
           Hid (∀(l h':Nat) (w6:World),Kept l h' w5 w6->w7.heap.size<=l->(h'<=W1.heap.size\/w5.heap.size<=l)->(gv<l\/h'<=gv)->LG w (fe w6 w.heap.size (.slice b1 n1 d1) (.slice a5 us2.length cap6) (.slice b3 n3 d3)) Mb A b1 n1 d1 b3 n3 d3 ins outs us2 (sk.2.take (s+1)) act base R5 a5 cap6)):=λW1 kk=>by
          refine(G7 W1 b1 b3 n1 d1 cap5 n3 d3 base gv i sk.1 v (laM vs i) k d (HS7.out.keep kk).l.g.own (HS7.out.keep kk).l.g.sz hus.1 hil (HAT7.out.keep (eG HS7.out.l.g.own (k:=gv) rfl).2 kk yaa) hopr hl3 (λh911=>by
           obtain⟨jj,h1,h2,h3,_⟩:=Hx (vs:=vs) (ins:=ins) (by rw[HLN.out];exact HOK.out) i (by rw[HLN.out];exact hin) (by rw[<-HV.out];exact h911)
           exact⟨jj,by rw[HV.out];exact h1,by have:=hus.2;have:=HLN.out;omega,by rw[(Pre.at_ HPK.out h2).1];exact h3⟩)).mono ?_
          rintro e w5 ⟨a5,cap6,R5,rfl,own5,row5,st5⟩
          have hn:∀B,B≠gv->¬((λ_=>False) B\/some gv=some B):=λB hB=>by rintro (c|c);exact c;cases c;exact hB rfl
          refine⟨sk.1++(ptM (i:Int) v (laM vs i) k d sk.1.length).1,(ptM (i:Int) v (laM vs i) k d sk.1.length).2,a5,cap6,R5,rfl,λB o hB hg=>st5.chg.cell (p:=⟨B,o,none⟩) hB (hn B hg),λB o hB hg=>st5.chg.frozen (p:=⟨B,o,none⟩) hB (hn B hg),st5.chg.size,⟨rfl,rfl⟩,λl h' w6 k6 hl hh hgv=>?_⟩
          have hst:=HS7.out.l.step kk own5 row5 st5 k6 hl (λg hg=>by
           rcases st5.row with c|⟨r,c,hr⟩
           ·rw[c] at hg;cases hg;exact hgv
           ·rw[c] at hg;cases hg
            have:=(eG own5 (row5.trans c)).2
            omega)
          exact HS7.out.stq hst.1 hst.2
         have HFR:Hid (w.heap.size<w7.heap.size/\Mb<w7.heap.size/\w.heap.size≠gv/\Mb≠gv/\gv<w7.heap.size):=⟨HS7.out.l.g.lt,IR.lt HS7.out.m,λc=>HS7.out.l.g.ne (by rw[c]),λc=>HS7.out.fm.r (by rw[c]),(eG HS7.out.l.g.own (k:=gv) rfl).2⟩
         have hfP:=HS7.out.l.g.free
         clear hb HAT7 HS7
         go_upto_region 22 with fail
         clear yA yO
         go_cut [15,16,17] (λpv rv bv wx=>∃(X:Nat) (us2:List Vl) (r:Int) (a5:Option Addr) (cap6:Nat) (R5:Option Nat),pv=.pointer (some ⟨X,0,none⟩)/\rv=.int .i64 r/\bv=.bool (me v k)/\Hid (us2=sk.1++(ptM (i:Int) v (laM vs i) k d sk.1.length).1/\r=(ptM (i:Int) v (laM vs i) k d sk.1.length).2)/\Hid (RB wx X (.slice b1 n1 d1) (.slice a5 us2.length cap6) (.slice b3 n3 d3)/\((∃u,wx.cell? ⟨w.heap.size,0,none⟩=some u)/\(∃u,wx.cell? ⟨w.heap.size,1,none⟩=some u)/\(∃u,wx.cell? ⟨w.heap.size,2,none⟩=some u))/\(∀o,wx.frozen? ⟨w.heap.size,o,none⟩=false))/\Hid (LG w (fe wx w.heap.size (.slice b1 n1 d1) (.slice a5 us2.length cap6) (.slice b3 n3 d3)) Mb A b1 n1 d1 b3 n3 d3 ins outs us2 (sk.2.take (s+1)) act base R5 a5 cap6))
         case first=>
          have hPn:w.heap.size≠w7.heap.size:=by have:=HFR.out;omega
          have hFn:Mb≠w7.heap.size:=by have:=HFR.out;omega
          have HW1:Hid (∀B o,B<w7.heap.size->(w7.alloc eZ).drew.cell? ⟨B,o,none⟩=w7.cell? ⟨B,o,none⟩):=λB o hB=>(ez 0 0 w7 eZ).cell (p:=⟨B,o,none⟩) hB xaa
          go_region_held3 (λW:World=>W.cell? ⟨w.heap.size,0,none⟩=some (.slice b1 n1 d1)/\W.cell? ⟨w.heap.size,1,none⟩=some (.slice (some ⟨gv,0,none⟩) sk.1.length cap5)/\W.cell? ⟨w.heap.size,2,none⟩=some (.slice b3 n3 d3)/\W.cell? ⟨Mb,i,none⟩=some (.int .i64 d)) (first|go_keep|(simp only[jO _ _ _ _ _ _ _ hPn,jO _ _ _ _ _ _ _ hFn];exact⟨a0,a1,a2,a3⟩)) (first
           |(go_at_call 150;refine yai (HMV.out _ ((ez 0 0 w7 eZ).trans (eC _))) ?_;rintro e w5 ⟨us2,r,a5,cap6,R5,rfl,e5,ef5,ez5,hq5,hL5⟩;have a0:=(e5 w.heap.size 0 (by have:=HFR.out;simp;omega) HFR.out.2.2.1).trans ((HW1.out w.heap.size 0 HFR.out.1).trans s0);have a1:=(e5 w.heap.size 1 (by have:=HFR.out;simp;omega) HFR.out.2.2.1).trans ((HW1.out w.heap.size 1 HFR.out.1).trans s1);have a2:=(e5 w.heap.size 2 (by have:=HFR.out;simp;omega) HFR.out.2.2.1).trans ((HW1.out w.heap.size 2 HFR.out.1).trans s2);have a3:=(e5 Mb i (by have:=HFR.out;simp;omega) HFR.out.2.2.2.1).trans ((HW1.out Mb i HFR.out.2.1).trans yS);have HF5:Hid _:=ef5;have z0:=e5 w7.heap.size 0 xac (by have:=HFR.out;omega);have z1:=e5 w7.heap.size 1 xac (by have:=HFR.out;omega);have z2:=e5 w7.heap.size 2 xac (by have:=HFR.out;omega);have zf0:=ef5 w7.heap.size 0 xac (by have:=HFR.out;omega);have zf1:=ef5 w7.heap.size 1 xac (by have:=HFR.out;omega);have zf2:=ef5 w7.heap.size 2 xac (by have:=HFR.out;omega);have EZ:Hid _:=ez5;clear e5 ef5 ez5)
           |(go_at_call 150;refine yai (HMV.out _ (eC w7)) ?_;rintro e w5 ⟨us2,r,a5,cap6,R5,rfl,e5,ef5,ez5,hq5,hL5⟩;have a0:=(e5 w.heap.size 0 HFR.out.1 HFR.out.2.2.1).trans s0;have a1:=(e5 w.heap.size 1 HFR.out.1 HFR.out.2.2.1).trans s1;have a2:=(e5 w.heap.size 2 HFR.out.1 HFR.out.2.2.1).trans s2;have a3:=(e5 Mb i HFR.out.2.1 HFR.out.2.2.2.1).trans yS;have HF5:Hid _:=ef5;have y5:w.heap.size≠w5.heap.size:=(by have:=HFR.out;have:w7.heap.size<=w5.heap.size:=ez5;omega);have y6:Mb≠w5.heap.size:=(by have:=HFR.out;have:w7.heap.size<=w5.heap.size:=ez5;omega);have EZ:Hid _:=ez5;clear e5 ef5 ez5))
          ·have hwz:w7.heap.size<=w5.heap.size:=EZ.out
           have ka:=ez 0 0 w5 (.cells #[.slice b1 n1 d1,.slice a5 us2.length cap6,.slice b3 n3 d3] 26)
           have hPl:w.heap.size<w5.heap.size:=by have:=HFR.out;omega
           have R2:Hid (RB (w5.alloc (.cells #[.slice b1 n1 d1,.slice a5 us2.length cap6,.slice b3 n3 d3] 26)) w5.heap.size (.slice b1 n1 d1) (.slice a5 us2.length cap6) (.slice b3 n3 d3)/\((∃u,(w5.alloc (.cells #[.slice b1 n1 d1,.slice a5 us2.length cap6,.slice b3 n3 d3] 26)).cell? ⟨w.heap.size,0,none⟩=some u)/\(∃u,(w5.alloc (.cells #[.slice b1 n1 d1,.slice a5 us2.length cap6,.slice b3 n3 d3] 26)).cell? ⟨w.heap.size,1,none⟩=some u)/\(∃u,(w5.alloc (.cells #[.slice b1 n1 d1,.slice a5 us2.length cap6,.slice b3 n3 d3] 26)).cell? ⟨w.heap.size,2,none⟩=some u))/\(∀o,(w5.alloc (.cells #[.slice b1 n1 d1,.slice a5 us2.length cap6,.slice b3 n3 d3] 26)).frozen? ⟨w.heap.size,o,none⟩=false)):=
            ⟨⟨by simp,by simp,by simp,by simp,by simp,by simp,by simp⟩,⟨⟨_,(ka.cell (p:=⟨w.heap.size,0,none⟩) hPl xaa).trans a0⟩,⟨_,(ka.cell (p:=⟨w.heap.size,1,none⟩) hPl xaa).trans a1⟩,⟨_,(ka.cell (p:=⟨w.heap.size,2,none⟩) hPl xaa).trans a2⟩⟩,λo=>(ka.frozen (p:=⟨w.heap.size,o,none⟩) hPl xaa).trans ((HF5.out w.heap.size o HFR.out.1 HFR.out.2.2.1).trans (hfP o))⟩
           have R3:Hid _:=hL5.out w5.heap.size w5.heap.size _ (ez _ _ w5 (.cells #[.slice b1 n1 d1,.slice a5 us2.length cap6,.slice b3 n3 d3] 26)) hwz yab (.inl (by have:=HFR.out;omega))
           go_wp2_with fail
           go_meet
           exact⟨w5.heap.size,us2,r,a5,cap6,R5,rfl,rfl,rfl,hq5,R2,R3⟩
          ·have hwz:w7.heap.size<=w5.heap.size:=yan (ez 0 0 w7 eZ).size EZ.out
           have kp:=fc w5 w7.heap.size (.slice b1 n1 d1) (.slice a5 us2.length cap6) (.slice b3 n3 d3)
           have hPl:w.heap.size<w5.heap.size:=by have:=HFR.out;omega
           have hXl:w7.heap.size<w5.heap.size:=yaj xac EZ.out
           have z0':w5.cell? ⟨w7.heap.size,0,none⟩=some (.slice none 0 0):=z0.trans xac
           have z1':w5.cell? ⟨w7.heap.size,1,none⟩=some (.slice none 0 0):=z1.trans xac
           have z2':w5.cell? ⟨w7.heap.size,2,none⟩=some (.slice none 0 0):=z2.trans xac
           obtain⟨y0,y1,y2⟩:=eY w5 w7.heap.size _ _ _ z0' z1' z2' (.slice b1 n1 d1) (.slice a5 us2.length cap6) (.slice b3 n3 d3)
           have zf:∀o,w5.frozen? ⟨w7.heap.size,o,none⟩=false:=λo=>(HF5.out w7.heap.size o xac (by have:=HFR.out;omega)).trans xac
           have pf:∀o,w5.frozen? ⟨w.heap.size,o,none⟩=false:=λo=>(HF5.out w.heap.size o (by have:=HFR.out;simp;omega) HFR.out.2.2.1).trans (((ez 0 0 w7 eZ).frozen (p:=⟨w.heap.size,o,none⟩) HFR.out.1 xaa).trans (hfP o))
           have R2:Hid (RB (((w5.setCell ⟨w7.heap.size,0,none⟩ (.slice b1 n1 d1)).setCell ⟨w7.heap.size,1,none⟩ (.slice a5 us2.length cap6)).setCell ⟨w7.heap.size,2,none⟩ (.slice b3 n3 d3)) w7.heap.size (.slice b1 n1 d1) (.slice a5 us2.length cap6) (.slice b3 n3 d3)/\((∃u,(((w5.setCell ⟨w7.heap.size,0,none⟩ (.slice b1 n1 d1)).setCell ⟨w7.heap.size,1,none⟩ (.slice a5 us2.length cap6)).setCell ⟨w7.heap.size,2,none⟩ (.slice b3 n3 d3)).cell? ⟨w.heap.size,0,none⟩=some u)/\(∃u,(((w5.setCell ⟨w7.heap.size,0,none⟩ (.slice b1 n1 d1)).setCell ⟨w7.heap.size,1,none⟩ (.slice a5 us2.length cap6)).setCell ⟨w7.heap.size,2,none⟩ (.slice b3 n3 d3)).cell? ⟨w.heap.size,1,none⟩=some u)/\(∃u,(((w5.setCell ⟨w7.heap.size,0,none⟩ (.slice b1 n1 d1)).setCell ⟨w7.heap.size,1,none⟩ (.slice a5 us2.length cap6)).setCell ⟨w7.heap.size,2,none⟩ (.slice b3 n3 d3)).cell? ⟨w.heap.size,2,none⟩=some u))/\(∀o,(((w5.setCell ⟨w7.heap.size,0,none⟩ (.slice b1 n1 d1)).setCell ⟨w7.heap.size,1,none⟩ (.slice a5 us2.length cap6)).setCell ⟨w7.heap.size,2,none⟩ (.slice b3 n3 d3)).frozen? ⟨w.heap.size,o,none⟩=false)):=
            ⟨⟨yaj hXl kp.size,y0,y1,y2,by simp[zf 0],by simp[zf 1],by simp[zf 2]⟩,⟨⟨_,(jO _ _ _ _ _ _ _ hPn).trans a0⟩,⟨_,(jO _ _ _ _ _ _ _ hPn).trans a1⟩,⟨_,(jO _ _ _ _ _ _ _ hPn).trans a2⟩⟩,λo=>by simp[pf o]⟩
           have R3:Hid _:=hL5.out w7.heap.size (w7.heap.size+1) _ kp yad (.inl xac) (.inl HFR.out.2.2.2.2)
           clear kp z0' z1' z2' zf pf y0 y1 y2 z0 z1 z2 zf0 zf1 zf2
           go_wp2_with fail
           go_meet
           exact⟨w7.heap.size,us2,r,a5,cap6,R5,rfl,rfl,rfl,hq5,R2,R3⟩
         case rest=>
          clear s0 s1 s2 yS HMV hfP
          obtain⟨X,us2,r,a5,cap6,R5,rfl,rfl,rfl,hq5,h5,hL5⟩:=hcut
          obtain⟨⟨_,t0,t1,t2,x0,x1,x2⟩,⟨⟨_,p0⟩,⟨_,p1⟩,⟨_,p2⟩⟩,pf⟩:=h5.out
          have pf0:=pf 0
          have pf1:=pf 1
          have pf2:=pf 2
          clear pf h5
          go_upto_region 24 with fail
          clear t0 t1 t2 x0 x1 x2 p0 p1 p2 pf0 pf1 pf2
          unfold fe at hL5
          generalize ((wc.setCell ⟨w.heap.size,0,none⟩ (.slice b1 n1 d1)).setCell ⟨w.heap.size,1,none⟩ (.slice a5 us2.length cap6)).setCell ⟨w.heap.size,2,none⟩ (.slice b3 n3 d3)=wd at hL5 ⊢
          cases hpb:me v k
          ·have R3:Hid (∃R a2 cap,LG w wd Mb A b1 n1 d1 b3 n3 d3 ins outs (iS vs act i st (k+1)).1 ((iS vs act i st (k+1)).2.take (s+1)) act base R a2 cap):=⟨_,_,_,by
            have e:us2=sk.1:=by rw[hq5.out.1];unfold ptM;rw[if_neg (by rw[hpb];simp)];simp
            rw[HNK.out,HGK2.out,if_neg (by rw[hpb];simp),<-e]
            exact hL5.out⟩
           clear hL5 hq5 hpb
           exact xfp
          ·have hu2:us2=sk.1++(kS (i:Int) v (laM vs i) k d sk.1.length).1/\r=(kS (i:Int) v (laM vs i) k d sk.1.length).2:=by
            have e:=hq5.out
            unfold ptM at e
            rw[if_pos hpb] at e
            exact e
           have HGK3:Hid (iS vs act i st (k+1)=j7 vs o r (us2,sk.2)):=by
            show _=_
            rw[HNK.out,HGK2.out,if_pos hpb,hu2.1,hu2.2]
           have hov:o<vs.length:=by have:=HLN.out;omega
           have hsz2:us2.length<=810000/\o<us2.length/\(us2.getD o Vl.zero).len=(vs.getD o Vl.zero).len:=by
            have hps:=tu (i:Int) v (laM vs i) k d sk.1.length (by rw[HV.out];exact(nF (by rw[HLN.out];exact HLE.out) i).1) (by rw[HV.out];exact(nF (by rw[HLN.out];exact HLE.out) i).2) (nF (by rw[HLN.out];exact HLE.out) _).1 (nF (by rw[HLN.out];exact HLE.out) _).2
            have hpre:Pre vs us2:=by rw[hu2.1];exact Pre.app HPK.out
            refine⟨?_,(Pre.at_ hpre hov).2,by rw[(Pre.at_ hpre hov).1]⟩
            rw[hu2.1,yak]
            have:=hps.1
            omega
           obtain⟨hsz2,hou,hol⟩:=hsz2
           have hmt:(sk.2.take (s+1)).length=s+1:=by rw[List.length_take,HLK.out];omega
           have yQ:=IR.cell hL5.out.m o (by rw[hmt];omega)
           rw[kE xaa] at yQ
           have yF:=IR.free hL5.out.m o
           have HQ:Hid (sk.2.getD o 0=-1\/0<=sk.2.getD o 0):=(HIK.out o xaa).imp (λc=>c) (λc=>c.1)
           have HTQ:Hid ((sk.2.take (s+1)).getD o 0=sk.2.getD o 0):=kE xaa
           clear hq5 hu2 hov hpb
           by_cases hq:sk.2.getD o 0=-1
           ·rw[hq] at yQ
            have R3:Hid (∃R a2 cap,LG w (wd.setCell ⟨Mb,o,none⟩ (.int .i64 r)) Mb A b1 n1 d1 b3 n3 d3 ins outs (iS vs act i st (k+1)).1 ((iS vs act i st (k+1)).2.take (s+1)) act base R a2 cap):=⟨_,_,_,by
             have h:=hL5.out.set o r
             rw[HGK3.out]
             unfold j7
             rw[if_pos hq]
             rw[nH] at h
             exact h⟩
            clear hL5 hq HQ HTQ
            exact xfp
           ·have HG4:Hid (iS vs act i st (k+1)=(us2++[eI 2 (vs.getD o Vl.zero).len (sk.2.getD o 0) r 0],sk.2.set o ((us2.length:Nat):Int))):=by
             show _=_
             rw[HGK3.out]
             unfold j7
             rw[if_neg hq]
            have hqn:¬(sk.2.getD o 0<0):=by rcases HQ.out with c|c;exact absurd c hq;omega
            generalize sk.2.getD o 0=q at yQ hqn HG4 HTQ
            obtain⟨gw,rfl,rfl,_,_⟩:=hL5.out.l.read xaa
            clear hq HQ HGK3 HGK2 HGK
            go_upto_region 27 with fail
            clear yQ yF
            refine fg (FR hL5 xaa hou xaa hmt hol HTQ.out ?_)
            intro wf g' cap' _ _ _ _ _ _ _ _ _ _ _ _ _ _ HM3
            have hl3':(us2++[eI 2 (vs.getD o Vl.zero).len q r 0]).length=us2.length+1:=by simp
            generalize us2++[eI 2 (vs.getD o Vl.zero).len q r 0]=us3 at HM3 HG4 hl3'
            have s0:=HM3.out.l.g.c0
            have s1:=HM3.out.l.g.c1
            have s2:=HM3.out.l.g.c2
            have HLast:Hid (∀W:World,_):=λW=>ir W b1 (some ⟨g',0,none⟩) b3 n1 d1 us3.length cap' n3 d3 (show us3.length<=1000000 by omega)
            rw[show(us3.length:Int)-1=((us2.length:Nat):Int) by omega] at HLast
            clear hL5 hl3' HTQ hqn
            go_wp2_with fail
            refine yai (HLast.out wf) ?_
            rintro e wh ⟨rfl,kh⟩
            have HM4:Hid _:=HM3.out.keep kh
            have yQ:=IR.cell HM4.out.m o (by rw[hmt];omega)
            have yF:=IR.free HM4.out.m o
            generalize (sk.2.take (s+1)).getD o 0=zq at yQ
            have R3:Hid (∃R a2 cap,LG w (wh.setCell ⟨Mb,o,none⟩ (.int .i64 ((us2.length:Nat):Int))) Mb A b1 n1 d1 b3 n3 d3 ins outs (iS vs act i st (k+1)).1 ((iS vs act i st (k+1)).2.take (s+1)) act base R a2 cap):=⟨_,_,_,by
             have h:=HM4.out.set o ((us2.length:Nat):Int)
             rw[HG4.out]
             rw[nH] at h
             exact h⟩
            clear HM3 HM4 HLast s0 s1 s2 kh
            exact xfp
       ·have hk2:¬((k:Int)<(cnt v.op:Int)):=xaa
        have hke:k=cnt v.op:=xaa
        have R2:Hid (∃R a2 cap,LG w wr Mb A b1 n1 d1 b3 n3 d3 ins outs (gdn vs act s (j+1)).1 ((gdn vs act s (j+1)).2.take (s+1)) act base R a2 cap):=⟨_,_,_,by rw[HEND.out hke];exact HS.out⟩
        clear hke HS HAT
        exact xfb
    ·have hgt:¬((x:Int)<(i:Int)):=xaa
     have hje:j=s-x:=xaa
     subst hje
     have yS:=IR.cell hJ.m x (by rw[List.length_take,hI.l];omega)
     rw[kE xaa] at yS
     have hqi:=hI.i x hx
     have hzz:=hI.z.1
     have hsz3:(gdn vs act s (s-x)).1.length<=800000:=xaa
     have hpos:0<(gdn vs act s (s-x)).1.length:=by
      obtain⟨r,e⟩:=hI.p
      rw[e,yak,HLN.out]
      omega
     have HGF:Hid (grM vs s x=if (gdn vs act s (s-x)).2.getD x 0=-1 then ((gdn vs act s (s-x)).1++[eI 1 lx 0 0 0],(((gdn vs act s (s-x)).1.length:Nat):Int)) else ((gdn vs act s (s-x)).1,(gdn vs act s (s-x)).2.getD x 0)):=by
      show _=_
      rw[HG.out,<-HLX.out]
      rfl
     obtain⟨gv,rfl,rfl,_,_⟩:=hJ.l.read hpos
     have HL:Hid _:=hJ.l
     have HFM:Hid (Mb≠w.heap.size+1/\Mb≠w.heap.size):=⟨by have:=hJ.fm.p;omega,by have:=hJ.fm.p;omega⟩
     have x4:(x:Int)<(s:Int)+1:=xaa
     generalize (gdn vs act s (s-x)).2.getD x 0=mm at yS hqi HGF
     clear hI hJ hzz HG
     generalize (gdn vs act s (s-x)).1=us at HL HGF hsz3 hpos
     have s0:=HL.out.g.c0
     have s1:=HL.out.g.c1
     have s2:=HL.out.g.c2
     obtain⟨_,t0,t1,t2,x0,x1,x2⟩:=HL.out.b
     by_cases hq:mm=-1
     ·subst hq
      have HG2:Hid (grM vs s x=(us++[eI 1 lx 0 0 0],((us.length:Nat):Int))):=by
       show _=_
       rw[HGF.out,if_pos rfl]
      clear HGF hqi t0 t1 t2 x0 x1 x2
      go_upto_region 30 with fail
      clear yS
      go_cut [] (λwx=>∃g' cap',Hid (LK w wx b1 n1 d1 b3 n3 d3 ins outs (us++[eI 1 lx 0 0 0]) base (some g') (some ⟨g',0,none⟩) cap'))
      case first=>
       go_region_with (first
        |(go_at_call 24;refine yai (LK.call HL.out ((eC wr).trans k1) (eI 1 lx 0 0 0) xaa) ?_;rintro e w2 ⟨g',cap',rfl,⟨_,r0⟩,⟨_,r1⟩,⟨_,r2⟩,rf,hS2⟩;have rf0:=rf 0;have rf1:=rf 1;have rf2:=rf 2;have HS2:Hid _:=hS2.out.1;clear rf hS2)
        |(go_at_call 41;refine yai (lY _ _) ?_;rintro e w1 ⟨rfl,k1⟩;have p0:=(LK.keep HL.out ((eC wr).trans k1)).g.c0;have p1:=(LK.keep HL.out ((eC wr).trans k1)).g.c1;have p2:=(LK.keep HL.out ((eC wr).trans k1)).g.c2))
       all_goals (go_wp2_with fail;go_meet;exact⟨g',cap',HS2⟩)
      case rest=>
       obtain⟨g',cap',hS2⟩:=hcut
       have hl1:(us++[eI 1 lx 0 0 0]).length=us.length+1:=by simp
       generalize hu:us++[eI 1 lx 0 0 0]=us2 at hS2 HG2 hl1
       clear s0 s1 s2 hu HL
       have s0:=hS2.out.g.c0
       have s1:=hS2.out.g.c1
       have s2:=hS2.out.g.c2
       obtain⟨_,t0,t1,t2,x0,x1,x2⟩:=hS2.out.b
       have HLast:Hid (∀W:World,_):=λW=>ir W b1 (some ⟨g',0,none⟩) b3 n1 d1 us2.length cap' n3 d3 (show us2.length<=1000000 by have:=hl1;omega)
       rw[show(us2.length:Int)-1=((us.length:Nat):Int) by omega] at HLast
       clear hl1
       go_wp2_with fail
       go_region_with (first
        |(go_at_call 27;refine yai (HLast.out _) ?_;rintro e w3 ⟨rfl,k3⟩;clear t0 t1 t2 x0 x1 x2;have q0:=(hS2.out.keep ((eC wc).trans k3)).g.c0;have q1:=(hS2.out.keep ((eC wc).trans k3)).g.c1;have q2:=(hS2.out.keep ((eC wc).trans k3)).g.c2;obtain⟨_,t0,t1,t2,x0,x1,x2⟩:=(hS2.out.keep ((eC wc).trans k3)).b))
       all_goals
        have A4:Hid _:=hS2.out.a4
        have R1:Hid _:=hS2.out.fin ((eC wc).trans k3)
        obtain⟨y0,y1,y2⟩:=eY w3 (w.heap.size+1) _ _ _ t0 t1 t2 (.slice b1 n1 d1) (.slice (some ⟨g',0,none⟩) us2.length cap') (.slice b3 n3 d3)
        go_wp2_with fail
        refine yay (v:=.tuple #[eR b1 n1 d1 (some ⟨g',0,none⟩) us2.length cap' b3 n3 d3,.int .i64 ((us.length:Nat):Int)]) (by simp[results,results128,go_sem,y0,y1,y2]) rfl ⟨?_,R1.out.2⟩
        rw[HG2.out]
        exact⟨b1,d1,b3,d3,some ⟨g',0,none⟩,cap',rfl,R1.out.1.1,R1.out.1.2.1,R1.out.1.2.2,A4.out⟩
     ·have HG2:Hid (grM vs s x=(us,mm)):=by
       show _=_
       rw[HGF.out,if_neg hq]
      have hmn:¬(mm<0):=by rcases hqi with c|c;exact absurd c hq;omega
      obtain⟨y0,y1,y2⟩:=eY wr (w.heap.size+1) _ _ _ t0 t1 t2 (.slice b1 n1 d1) (.slice (some ⟨gv,0,none⟩) us.length cap4) (.slice b3 n3 d3)
      have hPQ:w.heap.size≠w.heap.size+1:=xaa
      have hMQ:Mb≠w.heap.size+1:=HFM.out.1
      have hMQ':w.heap.size+1≠Mb:=Ne.symm hMQ
      have HC3:Hid (∀X Y Z:Value,(((wr.setCell ⟨w.heap.size+1,0,none⟩ X).setCell ⟨w.heap.size+1,1,none⟩ Y).setCell ⟨w.heap.size+1,2,none⟩ Z).drew.cell? ⟨Mb,x,none⟩=some (.int .i64 mm)):=λX Y Z=>(jO wr _ _ _ X Y Z hMQ).trans yS
      have HC4:Hid (∀(X Y Z:Value) (o:Nat),(((wr.setCell ⟨w.heap.size+1,0,none⟩ X).setCell ⟨w.heap.size+1,1,none⟩ Y).setCell ⟨w.heap.size+1,2,none⟩ Z).drew.cell? ⟨w.heap.size,o,none⟩=wr.cell? ⟨w.heap.size,o,none⟩):=λX Y Z o=>jO wr _ _ _ X Y Z hPQ
      have A4:Hid _:=HL.out.a4
      have R1:Hid _:=HL.out.fin (eC wr)
      clear HGF hqi hq
      go_upto_region 32 with fail
      go_region_held3 (λW:World=>W.cell? ⟨w.heap.size,0,none⟩=some (.slice b1 n1 d1)/\W.cell? ⟨w.heap.size,1,none⟩=some (.slice (some ⟨gv,0,none⟩) us.length cap4)/\W.cell? ⟨w.heap.size,2,none⟩=some (.slice b3 n3 d3)/\W.cell? ⟨Mb,x,none⟩=some (.int .i64 mm)) (first|go_keep|(exact⟨(HC4.out _ _ _ _).trans s0,(HC4.out _ _ _ _).trans s1,(HC4.out _ _ _ _).trans s2,HC3.out _ _ _⟩)) (fail)
      all_goals
       go_wp2_with fail
       refine yay (v:=.tuple #[eR b1 n1 d1 (some ⟨gv,0,none⟩) us.length cap4 b3 n3 d3,.int .i64 mm]) (by simp[results,results128,go_sem,y0,y1,y2]) rfl ⟨?_,R1.out.2⟩
       rw[HG2.out]
       exact⟨b1,d1,b3,d3,some ⟨gv,0,none⟩,cap4,rfl,R1.out.1.1,R1.out.1.2.1,R1.out.1.2.2,A4.out⟩
end
section
open Go.RowKit Flt
theorem El (w:World)(qa qc:Option Addr)(g2 n1 c1 n2 c2 n3 c3:Nat)(s x:Nat)(ins:List Int)(vs:List Vl)(outs:List Int)(f:GS w qa n1 (some ⟨g2,0,none⟩) n2 qc n3 ins vs outs)(fv:VA w g2 n2 vs)(l1:n1<=1000000)(l2:n2<=2000)(l3:n3<=1000000)(hok:(List.range n2).all (okV ins vs)=true)(hc5:eX vs<=50000)(hs:s<n2)(hx:x<n2):
  Calls prog 128 #[eR qa n1 c1 (some ⟨g2,0,none⟩) n2 c2 qc n3 c3,.int .i64 (s:Int),.int .i64 (x:Int)] w λe w'=>qT w w' n1 n3 ins outs (grM vs s x) e/\Kept 0 0 w w':=by
 cases ha:(ij vs x (s-x)).getD s false with
 |false=>exact sC w qa qc g2 n1 c1 n2 c2 n3 c3 s x ins vs outs f fv l1 l2 l3 hok hc5 hs hx ha
 |true=>exact uA w qa qc g2 n1 c1 n2 c2 n3 c3 s x ins vs outs f fv l1 l2 l3 hok hc5 hs hx ha
theorem WS.grad {W:World}{P B:Nat}{u1 u2 u3 u4:Value}{bs:List Bc}{st:LSt}(h:WS W P B u1 u2 u3 u4 bs st)(g:Gd st){s x:Nat}(hs:s<st.vs.length)(hx:x<st.vs.length):
  ∃a1 x1 g2 x2 a3 x3,u1=.slice a1 st.ins.length x1/\u2=.slice (some ⟨g2,0,none⟩) st.vs.length x2/\u3=.slice a3 st.outs.length x3/\
   (Calls prog 128 #[eR a1 st.ins.length x1 (some ⟨g2,0,none⟩) st.vs.length x2 a3 st.outs.length x3,.int .i64 (s:Int),.int .i64 (x:Int)] W λe w'=>qT W w' st.ins.length st.outs.length st.ins st.outs (grM st.vs s x) e/\Kept 0 0 W w')/\
   ∀t:Nat,Calls prog 130 #[eR a1 st.ins.length x1 (some ⟨g2,0,none⟩) st.vs.length x2 a3 st.outs.length x3,.int .i64 (s:Int),.int .i64 (x:Int),.int .i64 (t:Int)] W λe w'=>qT W w' st.ins.length st.outs.length st.ins st.outs (iy st.vs s x t) e/\Kept 0 0 W w':=by
 obtain⟨g2,x2,e2,_,_,_,h4⟩:=kr h.r2 xaa rfl
 obtain⟨a1,x1,a2,y2,a3,x3,e1,e2',e3,hgs⟩:=h.gs g.k
 rw[e2] at e2'
 cases e2'
 have hi:=g.i
 have ho:=g.o
 exact⟨a1,x1,g2,x2,a3,x3,e1,e2,e3,El W _ _ g2 _ _ _ _ _ _ s x _ _ _ hgs h4 xaa g.n xaa g.ok g.c hs hx,λt=>GP W _ _ g2 _ _ _ _ _ _ s x t _ _ _ hgs h4 xaa g.n xaa g.ok g.c hs hx⟩
