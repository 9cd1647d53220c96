import Derived.Test.YtnlffngpnoodkaaGreatP24
import Derived.Test.YtnlffngpnoodkaaGreatP19
namespace Go.Proofs.YtnlffngpnoodkaaGreat
set_option maxRecDepth 1000000
set_option maxHeartbeats 0
section
open Go.RowKit Flt
attribute [local go_sem] ic ib ia
variable {lo hi i P b:Nat} {vs0 vs us:List Vl} {v:Vl} {W0 W':World} {R R':Option Nat}
theorem Aq (h0:v.op≠0):(List.range 3).all (okF v i)=(jT v&&(iV v).all (iL · i)):=by
 have hc:=jo v.op
 have t:(v.op==0)=false:=beq_eq_false_iff_ne.2 h0
 have e3:(List.range 3).all (okF v i)=(okF v i 0&&(okF v i 1&&(okF v i 2&&true))):=rfl
 rw[e3]
 unfold okF jT iV bne
 rw[t]
 have f0:fld v 0=v.a:=rfl
 have f1:fld v 1=v.b:=rfl
 have f2:fld v 2=v.c:=rfl
 rw[f0,f1,f2]
 rcases (by omega:cnt v.op=0\/cnt v.op=1\/cnt v.op=2\/cnt v.op=3) with h|h|h|h
 all_goals
  rw[h]
  simp only[List.take_succ_cons,List.take_zero,List.all_cons,List.all_nil]
  generalize (v.a==0)=x
  generalize (v.b==0)=y
  generalize (v.c==0)=z
  generalize lg v.op=p
  generalize iL v.a i=r
  generalize iL v.b i=s
  generalize iL v.c i=t
  revert x y z p r s t
  decide
theorem Ar (hl:∀k,k<i->1<=(vs.getD k Vl.zero).len/\(vs.getD k Vl.zero).len<=1000)(h:(iV v).all (iL · i)=true):
  ([(kF vs v 0:Int),(kF vs v 1:Int),(kF vs v 2:Int)]).take (cnt v.op)=(iV v).map λo=>(vs.getD o.toNat Vl.zero).len:=by
 have key:∀o,iL o i=true->((vs.getD o.toNat Vl.zero).len.toNat:Int)=(vs.getD o.toNat Vl.zero).len:=λo ho=>by
  have:=of_decide_eq_true ho
  have:=hl o.toNat (by omega)
  omega
 have hc:=jo v.op
 have n0:0<cnt v.op->kF vs v 0=(vs.getD v.a.toNat Vl.zero).len.toNat:=λc=>if_pos c
 have n1:1<cnt v.op->kF vs v 1=(vs.getD v.b.toNat Vl.zero).len.toNat:=λc=>if_pos c
 have n2:2<cnt v.op->kF vs v 2=(vs.getD v.c.toNat Vl.zero).len.toNat:=λc=>if_pos c
 unfold iV at h ⊢
 rcases (by omega:cnt v.op=0\/cnt v.op=1\/cnt v.op=2\/cnt v.op=3) with e|e|e|e
 ·rw[e];rfl
 ·rw[n0 (by omega)]
  rw[e] at h ⊢
  simp only[List.take_succ_cons,List.take_zero,List.all_cons,List.all_nil,Bool.and_true] at h
  simp only[List.take_succ_cons,List.take_zero,List.map_cons,List.map_nil]
  rw[key _ h]
 ·rw[n0 (by omega),n1 (by omega)]
  rw[e] at h ⊢
  simp only[List.take_succ_cons,List.take_zero,List.all_cons,List.all_nil,Bool.and_true,Bool.and_eq_true] at h
  simp only[List.take_succ_cons,List.take_zero,List.map_cons,List.map_nil]
  rw[key _ h.1,key _ h.2]
 ·rw[n0 (by omega),n1 (by omega),n2 (by omega)]
  rw[e] at h ⊢
  simp only[List.take_succ_cons,List.take_zero,List.all_cons,List.all_nil,Bool.and_true,Bool.and_eq_true] at h
  simp only[List.take_succ_cons,List.take_zero,List.map_cons,List.map_nil]
  rw[key _ h.1,key _ h.2.1,key _ h.2.2]
theorem pe {op len C:Int}{xs:List Int}(h:¬(0<=op/\op<=13)):im op len C xs=false:=by
 unfold im
 rw[if_neg (by omega),if_neg (by omega),if_neg (by omega),if_neg (by omega),if_neg (by omega)]
theorem EV (w:World)(a1 a2 a3:Option Addr)(n1 c1 n2 c2 n3 c3 i:Nat)(ins:List Int)(vs:List Vl)(outs:List Int)(f:GS w a1 n1 a2 n2 a3 n3 ins vs outs)(hi:i<n2)
  (hlens:∀k,k<i->1<=(vs.getD k Vl.zero).len/\(vs.getD k Vl.zero).len<=1000):
  Calls Tryz.prog 43 #[ip a1 n1 c1 a2 n2 c2 a3 n3 c3,.int .i64 (i:Int)] w λe w'=>e=.returned (.bool (okV ins vs i))/\Kept 0 0 w w':=by
 rcases f.v.at_ with h0|⟨g2,o2,rfl,b1,b2,b3,b4⟩
 ·omega
 have hat:=b4 i hi
 unfold okV
 generalize hv:vs.getD i Vl.zero=v at hat
 by_cases hb:0<=v.op/\v.op<=13/\1<=v.len/\v.len<=1000
 ·rw[nK hb.2.2.1 hb.2.2.2,Bool.true_and]
  by_cases h0:v.op=0
  ·rw[if_pos h0,f.i.len]
   obtain⟨op,len,A,B,C,K⟩:=v
   simp only at h0 hb
   subst h0
   have e:(jT ⟨0,len,A,B,C,K⟩&&(iL A n1&&len==ins.getD A.toNat 0))=(((iL A n1&&len==ins.getD A.toNat 0)&&B==0)&&C==0):=by
    have t:jT ⟨0,len,A,B,C,K⟩=(B==0&&C==0):=by
     simp[jT,cnt,lg,bne]
    rw[t]
    cases iL A n1<;>cases (len==ins.getD A.toNat 0)<;>cases (B==0)<;>cases (C==0)<;>rfl
   show Calls _ _ _ _ λe w'=>e=.returned (.bool (jT ⟨0,len,A,B,C,K⟩&&(iL A n1&&len==ins.getD A.toNat 0)))/\_
   rw[e]
   exact tX w a1 a3 n1 c1 n2 c2 n3 c3 g2 o2 i len A B C K ins f.i b3 hi hat hb.2.2.1 hb.2.2.2
  ·rw[if_neg h0]
   have e:(jT v&&((iV v).all (iL · i)&&im v.op v.len v.c ((iV v).map λo=>(vs.getD o.toNat Vl.zero).len)))=((List.range 3).all (okF v i)&&iA v.op v.len v.c (kF vs v 0) (kF vs v 1) (kF vs v 2)):=by
    rw[Aq h0,<-Bool.and_assoc]
    cases hA:(iV v).all (iL · i)
    ·simp
    ·unfold iA
     rw[Ar hlens hA,nK hb.2.2.1 hb.2.2.2,Bool.true_and]
   rw[e]
   exact wJ w a1 a3 n1 c1 n2 c2 n3 c3 g2 o2 i v vs b3 hi b4 hlens hv (by omega) hb.2.1 hb.2.2.1 hb.2.2.2
 ·have e:((iJ v.len&&jT v)&&(if v.op=0 then iL v.a ins.length&&v.len==ins.getD v.a.toNat 0 else (iV v).all (iL · i)&&im v.op v.len v.c ((iV v).map λo=>(vs.getD o.toNat Vl.zero).len)))=false:=by
   by_cases hl:1<=v.len/\v.len<=1000
   ·have ho:¬(0<=v.op/\v.op<=13):=by omega
    rw[if_neg (by omega),pe ho,Bool.and_false,Bool.and_false]
   ·rw[n8 hl,Bool.false_and,Bool.false_and]
  rw[e]
  exact wI w a1 a3 n1 c1 n2 c2 n3 c3 g2 o2 i v b3 hi hat hb
theorem ud {ins:List Int}{k:Nat}(h:(List.range k).all (okV ins vs)=true):∀j,j<k->1<=(vs.getD j Vl.zero).len/\(vs.getD j Vl.zero).len<=1000:=λj hj=>
 ja (List.all_eq_true.1 h j (List.mem_range.2 hj))
theorem sQ (w:World)(a1 a2 a3:Option Addr)(n1 c1 n2 c2 n3 c3:Nat)(ins:List Int)(vs:List Vl)(outs:List Int)(f:GS w a1 n1 a2 n2 a3 n3 ins vs outs)(h2:n2<=2000)(h3:n3<=50)(hI:(decide (n1<=20)&&ins.all iJ)=true):
  Calls Tryz.prog 16 #[ip a1 n1 c1 a2 n2 c2 a3 n3 c3] w λe w'=>e=.returned (.bool ((List.range n2).all (okV ins vs)&&(outs.all (iL · n2)&&decide (ig vs<=50000))))/\Kept 0 0 w w':=by
 have hK:Hid _:=hU 0 0 w (iv a1 n1 c1 a2 n2 c2 a3 n3 c3)
 have hB:=iO w (.slice a1 n1 c1) (.slice a2 n2 c2) (.slice a3 n3 c3)
 have HF:Hid _:=f.keep hK.out
 have HL2:Hid (vs.length=n2):=f.v.len
 have HL3:Hid (outs.length=n3):=f.o.len
 have HIN:Hid _:=vJ _ _ _ _ _ c1 _ (f.keep hK.out).i
 rw[hI] at HIN
 clear f hI
 go_enter Tryz.func16,Tryz.ntmps16
 go_wp2_with fail
 refine Calls.mono HIN.out ?_
 rintro e w1 ⟨rfl,k1⟩
 replace hB:=hB.keep k1
 have HF1:Hid _:=HF.out.keep k1
 have HK1:Hid _:=hK.out.trans k1
 clear k1 HF hK HIN
 have q1:=hB.q1
 have q2:=hB.q2
 go_wp2_with fail
 clear q1 q2
 have HB:Hid _:=hB
 clear hB
 go_loopw [3] (λi W=>∃k:Nat,k<=n2/\i=.int .i64 k/\Hid ((List.range k).all (okV ins vs)=true)/\Kept 0 0 w1 W) (λi _=>n2-(intOf i).toNat)
 case atStart=>exact⟨0,Nat.zero_le _,rfl,rfl,Kept.refl _ _ _⟩
 case round=>
  obtain⟨k,hk,rfl,hA,hKW⟩:=hrel
  obtain⟨_,q0,q1,q2⟩:=HB.out.keep hKW
  by_cases hlt:k<n2
  ·have HX:Hid _:=EV wr a1 a2 a3 n1 c1 n2 c2 n3 c3 k ins vs outs (HF1.out.keep hKW) hlt (ud hA.out)
   cases hx:okV ins vs k
   ·rw[hx] at HX
    have R:Hid ((List.range n2).all (okV ins vs)=false):=lG hlt hx
    have R2:Hid _:=HK1.out.trans hKW
    clear hx hA hKW
    go_wp2_with fail
    refine Calls.mono HX.out ?_
    rintro e w2 ⟨rfl,hk2⟩
    clear q0 q1 q2
    go_wp2
    go_ret
    exact⟨by rw[R.out];rfl,R2.out.trans hk2⟩
   ·rw[hx] at HX
    have R:Hid _:=li hA.out hx
    have HKW:Hid _:=hKW
    clear hx hA hKW
    go_wp2_with fail
    refine Calls.mono HX.out ?_
    rintro e w2 ⟨rfl,hk2⟩
    have R2:Hid _:=HKW.out.trans hk2
    clear q0 q1 q2 hk2
    go_wp2
    go_roundw
    case rel=>exact⟨k+1,by omega,by go_num,R,R2.out⟩
    case measure=>simp[intOf];omega
  ·have R1:Hid ((List.range n2).all (okV ins vs)=true):=by
    have:=hA.out
    rw[show k=n2 by omega] at this
    exact this
   have HF2:Hid _:=HF1.out.keep hKW
   have HK2:Hid _:=HK1.out.trans hKW
   have HC:Hid (∀W,Drawn wr W->_):=λW hd=>vK W a1 a2 a3 n1 c1 n2 c2 n3 c3 ins vs outs (HF2.out.keep (hd.kept 0 0)) h2 (ud R1.out)
   have HQ:Hid (∀W,Drawn wr W->W.cell? ⟨w.heap.size,0,none⟩=some (.slice a1 n1 c1)/\W.cell? ⟨w.heap.size,1,none⟩=some (.slice a2 n2 c2)/\W.cell? ⟨w.heap.size,2,none⟩=some (.slice a3 n3 c3)):=λW hd=>⟨by rw[hd.cell];exact q0,by rw[hd.cell];exact q1,by rw[hd.cell];exact q2⟩
   clear hA hKW
   go_wp2_with fail
   clear q0 q1 q2
   go_loopw [4] (λi W=>∃k:Nat,k<=n3/\i=.int .i64 k/\Hid ((outs.take k).all (iL · n2)=true)/\Drawn wr W) (λi _=>n3-(intOf i).toNat)
   case atStart=>exact⟨0,Nat.zero_le _,rfl,rfl,Drawn.refl _⟩
   case round=>
    obtain⟨k3,hk3,rfl,hA,hD⟩:=hrel
    obtain⟨q0,q1,q2⟩:=HQ.out _ hD
    have HD:Hid _:=hD
    by_cases hlt3:k3<n3
    ·rcases HF2.out.o.at_ with z0|⟨ga,oa,ea,z1,z2,z3,z4⟩
     ·omega
     have c:=(hD.cell _).trans (z4 k3 hlt3)
     have j0:(0:Int)<=(k3:Int):=by omega
     have j1:(k3:Int)<(n3:Int):=by omega
     subst ea
     clear z1 z2 z3 z4 hD
     cases hx:iL (outs.getD k3 0) n2
     ·have R:Hid (outs.all (iL · n2)=false):=m8 (by rw[HL3.out];exact hlt3) hx
      have hx':¬(0<=outs.getD k3 0/\outs.getD k3 0<n2):=of_decide_eq_false hx
      generalize outs.getD k3 0=y at c hx'
      clear hx hA
      rcases (by omega:y<0\/(0<=y/\(n2:Int)<=y)) with hy|⟨hy,hy'⟩
      ·have t1:decide (y<0)=true:=decide_eq_true hy
       clear hx'
       go_wp2_with fail
       go_quiet (fail)
       go_wp2
       go_ret
       exact⟨by rw[R1.out,R.out];rfl,(HK2.out.trans (Drawn.kept HD.out 0 0)).trans (iq 0 0 _ _)⟩
      ·have t1:decide (y<0)=false:=decide_eq_false (by omega)
       have t2:decide ((n2:Int)<=y)=true:=decide_eq_true hy'
       clear hx'
       go_wp2_with fail
       go_quiet (fail)
       go_wp2
       go_ret
       exact⟨by rw[R1.out,R.out];rfl,(HK2.out.trans (Drawn.kept HD.out 0 0)).trans (iq 0 0 _ _)⟩
     ·have R:Hid _:=mu (p:=(iL · n2)) (by rw[HL3.out];exact hlt3) hA.out hx
      have hx':0<=outs.getD k3 0/\outs.getD k3 0<n2:=of_decide_eq_true hx
      generalize outs.getD k3 0=y at c hx'
      obtain⟨hy,hy'⟩:=hx'
      have t1:decide (y<0)=false:=decide_eq_false (by omega)
      have t2:decide ((n2:Int)<=y)=false:=decide_eq_false (by omega)
      clear hx hA
      go_wp2_with fail
      go_quiet (fail)
      go_wp2
      go_roundw
      case rel=>exact⟨k3+1,by omega,by go_num,R,Drawn.more HD.out _⟩
      case measure=>simp[intOf];omega
    ·have R4:Hid (outs.all (iL · n2)=true):=by
      have:=hA.out
      rw[List.take_of_length_le (by rw[HL3.out];omega)] at this
      exact this
     have HC2:Hid _:=HC.out _ hD
     clear hA hD
     go_wp2_with fail
     refine Calls.mono HC2.out ?_
     rintro e w9 ⟨rfl,hk9⟩
     clear q0 q1 q2
     go_wp2
     go_ret
     exact⟨by rw[R1.out,R4.out];rfl,(HK2.out.trans (Drawn.kept HD.out 0 0)).trans hk9⟩
theorem pC (w:World)(a1 a2 a3:Option Addr)(n1 c1 n2 c2 n3 c3:Nat)(ins:List Int)(vs:List Vl)(outs:List Int)(f:GS w a1 n1 a2 n2 a3 n3 ins vs outs)(h:¬(((decide (n1<=20)&&ins.all iJ)=true)/\n2<=2000/\n3<=50)):
  Calls Tryz.prog 16 #[ip a1 n1 c1 a2 n2 c2 a3 n3 c3] w λe w'=>e=.returned (.bool false)/\Kept 0 0 w w':=by
 have hK:Hid _:=hU 0 0 w (iv a1 n1 c1 a2 n2 c2 a3 n3 c3)
 have hB:=iO w (.slice a1 n1 c1) (.slice a2 n2 c2) (.slice a3 n3 c3)
 have HIN:Hid _:=vJ _ _ _ _ _ c1 _ (f.keep hK.out).i
 clear f
 cases hI:(decide (n1<=20)&&ins.all iJ)
 ·rw[hI] at HIN
  clear h hI
  go_enter Tryz.func16,Tryz.ntmps16
  go_wp2_with fail
  refine Calls.mono HIN.out ?_
  rintro e w1 ⟨rfl,k1⟩
  obtain⟨_,q0,q1,q2⟩:=hB.keep k1
  clear hB
  go_wp2
  go_ret
  exact⟨rfl,hK.out.trans k1⟩
 ·rw[hI] at HIN
  by_cases h2:n2<=2000
  ·have h3:50<n3:=by
    rcases Nat.lt_or_ge 50 n3 with c|c
    ·exact c
    ·exact absurd ⟨hI,h2,c⟩ h
   clear h hI
   go_enter Tryz.func16,Tryz.ntmps16
   go_wp2_with fail
   refine Calls.mono HIN.out ?_
   rintro e w1 ⟨rfl,k1⟩
   obtain⟨_,q0,q1,q2⟩:=hB.keep k1
   clear hB
   go_wp2
   go_ret
   exact⟨rfl,hK.out.trans k1⟩
  ·have h3:2000<n2:=by omega
   clear h hI h2
   go_enter Tryz.func16,Tryz.ntmps16
   go_wp2_with fail
   refine Calls.mono HIN.out ?_
   rintro e w1 ⟨rfl,k1⟩
   obtain⟨_,q0,q1,q2⟩:=hB.keep k1
   clear hB
   go_wp2
   all_goals
    go_ret
    exact⟨rfl,hK.out.trans k1⟩
theorem kN (w:World)(a1 a2 a3:Option Addr)(n1 c1 n2 c2 n3 c3:Nat)(ins:List Int)(vs:List Vl)(outs:List Int)(f:GS w a1 n1 a2 n2 a3 n3 ins vs outs):
  Calls Tryz.prog 16 #[ip a1 n1 c1 a2 n2 c2 a3 n3 c3] w λe w'=>e=.returned (.bool (okG ins vs outs))/\Kept 0 0 w w':=by
 unfold okG
 rw[f.i.len,f.v.len,f.o.len]
 by_cases h:((decide (n1<=20)&&ins.all iJ)=true)/\n2<=2000/\n3<=50
 ·have h':=h.1
  rw[Bool.and_eq_true] at h'
  rw[decide_eq_true (show n1<=20/\n2<=2000/\n3<=50 from⟨of_decide_eq_true h'.1,h.2⟩),h'.2,Bool.true_and,Bool.true_and]
  exact sQ w a1 a2 a3 n1 c1 n2 c2 n3 c3 ins vs outs f h.2.1 h.2.2 h.1
 ·have e:(decide (n1<=20/\n2<=2000/\n3<=50)&&(ins.all iJ&&((List.range n2).all (okV ins vs)&&(outs.all (iL · n2)&&decide (ig vs<=50000)))))=false:=by
   rw[Bool.and_eq_false_iff]
   by_cases hn:n1<=20/\n2<=2000/\n3<=50
   ·right
    rw[Bool.and_eq_false_iff]
    left
    rw[Bool.eq_false_iff]
    intro c
    exact h ⟨by rw[Bool.and_eq_true];exact⟨decide_eq_true hn.1,c⟩,hn.2⟩
   ·left;exact decide_eq_false hn
  rw[e]
  exact pC w a1 a2 a3 n1 c1 n2 c2 n3 c3 ins vs outs f h
def iW (i:Int)(v:Vl)(la:Int)(k:Nat)(d:Int)(N:Nat):List Vl×Int:=
 if v.op=2 then ([],d)
 else if v.op=3 then (if k=0 then ([],d) else ([ik 6 v.len d 0 0],N))
 else if v.op=4 then (if k=0 then ([ik 4 v.len d v.b 0],N) else ([ik 4 v.len d v.a 0],N))
 else if v.op=5 then (if k=0 then ([ik 5 v.len d v.b 0],N) else ([ik 4 v.len d i 0,ik 5 v.len N v.b 0,ik 6 v.len ((N+1:Nat):Int) 0 0],((N+2:Nat):Int)))
 else if v.op=6 then ([ik 6 v.len d 0 0],N)
 else if v.op=13 then ([ik 4 v.len d i 0],N)
 else if v.op=8 then (if k=1 then ([ik 1 v.len 0 0 0,ik 8 v.len v.a d N],((N+1:Nat):Int)) else ([ik 1 v.len 0 0 0,ik 8 v.len v.a N d],((N+1:Nat):Int)))
 else if v.op=7 then (if k=0 then ([ik 3 v.len v.a v.b 0,ik 1 v.len 0 0 0,ik 8 v.len N d ((N+1:Nat):Int)],((N+2:Nat):Int)) else ([ik 3 v.len v.a v.b 0,ik 1 v.len 0 0 0,ik 8 v.len N ((N+1:Nat):Int) d],((N+2:Nat):Int)))
 else if v.op=9 then ([ik 10 la d 0 0],N)
 else if v.op=10 then ([ik 9 1 d 0 0],N)
 else if v.op=11 then ([ik 12 la d 0 v.c],N)
 else ([ik 11 1 d 0 v.c],N)
def ku (v:Vl)(k:Nat):Bool:=!(v.op==8&&k==0)
structure Same (lo hi:Nat)(W0 W:World):Prop where
 le:hi<=W0.heap.size
 size:W0.heap.size<=W.heap.size
 blk:∀b,lo<=b->b<hi->W.heap[b]? =W0.heap[b]?
theorem Same.cell {W:World}(s:Same lo hi W0 W){o:Nat}(h1:lo<=b)(h2:b<hi):W.cell? ⟨b,o,none⟩=W0.cell? ⟨b,o,none⟩:=World.cell?_of_block (s.blk b h1 h2)
theorem Same.refl {W:World}(h:hi<=W.heap.size):Same lo hi W W:=⟨h,Nat.le_refl _,λ_ _ _=>rfl⟩
theorem Same.chg {W:World}{S:Nat->Prop}(s:Same lo hi W0 W)(k:Chg S W W')(hd:∀b,lo<=b->b<hi->¬S b):Same lo hi W0 W':=
 ⟨s.le,Nat.le_trans s.size k.size,λb h1 h2=>by rw[k.block b (Nat.lt_of_lt_of_le h2 (Nat.le_trans s.le s.size)) (hd b h1 h2)];exact s.blk b h1 h2⟩
structure InR (lo hi P:Nat)(R:Option Nat):Prop where
 p:P<lo
 r:∀b,R=some b->b<lo\/hi<=b
theorem InR.step {W:World}(f:InR lo hi P R)(s:Stp P R W R' W')(h:hi<=W.heap.size):InR lo hi P R':=
 ⟨f.p,λb hb=>by
  rcases s.row with e|⟨r,e,hr⟩
  ·exact f.r b (by rw[<-e];exact hb)
  ·rw[e] at hb
   cases hb
   exact .inr (by omega)⟩
theorem Same.step {W:World}(s:Same lo hi W0 W)(f:InR lo hi P R)(k:Stp P R W R' W'):Same lo hi W0 W':=
 s.chg k.chg (λb h1 h2 c=>by
  rcases c with c|c
  ·have:=f.p;omega
  ·have:=f.r b c;omega)
def Pre (vs0 us:List Vl):Prop:=∃r,us=vs0++r
theorem Pre.at_ (h:Pre vs0 us){j:Nat}(hj:j<vs0.length):us.getD j Vl.zero=vs0.getD j Vl.zero/\j<us.length:=by
 obtain⟨r,rfl⟩:=h
 refine⟨?_,by rw[List.length_append];omega⟩
 rw[List.getD_eq_getElem?_getD,List.getElem?_append_left hj,<-List.getD_eq_getElem?_getD]
theorem Pre.app {a:List Vl}(h:Pre vs0 us):Pre vs0 (us++a):=by
 obtain⟨r,rfl⟩:=h
 exact⟨r++a,by rw[List.append_assoc]⟩
def PC (W0:World)(lo hi P:Nat)(vs0:List Vl)(fv:Value)(f:Int->Nat->List Vl×Int):Prop:=
 ∃(N:FuncId) (caps:Array Value),fv=.func (.func N) #[] caps/\(∀args w,(callFunc N args).run Tryz.prog w=.ok (.enter N args) w)/\∀(W:World) (u1 u3:Value) (us:List Vl) (c:Int) (base:Nat) (R:Option Nat) (vv:Value) (d:Int),Same lo hi W0 W->InR lo hi P R->BS W P u1 u3 us c base R vv->Pre vs0 us->Bnd us c 0->Calls Tryz.prog N (#[.int .i64 d]++caps) W λe w'=>Bd W P u1 u3 us c base R (f d us.length) e w'
theorem qk (w:World)(P:Nat)(u1 u3:Value)(us:List Vl)(c:Int)(base:Nat)(R:Option Nat)(vv:Value)(h:BS w P u1 u3 us c base R vv)(j:Nat)(hj:j<us.length)(hl:us.length<=900000):
  Calls Tryz.prog 64 #[.pointer (some ⟨P,0,none⟩),.int .i64 (j:Int)] w λe w'=>e=.returned (.int .i64 (us.getD j Vl.zero).len)/\w'=w:=by
 obtain⟨g,cap,rfl,_,_,_,hva⟩:=kU h.own (by omega) rfl
 have y1:=h.c1
 have y2:=(hva.at_ j hj).c1
 obtain⟨n,hn⟩:∃n,n=us.length:=⟨_,rfl⟩
 rw[<-hn] at hj y1
 have hj1:(0:Int)<=(j:Int):=by omega
 have hj2:(j:Int)<(n:Int):=by omega
 generalize (us.getD j Vl.zero).len=L at y2
 clear h hva hn
 go_enter Tryz.func64,Tryz.ntmps64
 go_wp2
 go_ret
 exact⟨rfl,rfl⟩
structure Bw (us:List Vl)(c:Int):Prop where
 l:us.length<=1000000
 c0:-1000000000<=c
 c1:c<=1000000000
theorem Bnd.w {c:Int}(b:Bnd us c 0):Bw us c:=⟨by have:=b.l;omega,by have:=b.c0;omega,by have:=b.c1;omega⟩
theorem At.stepC {w w':World}{B:Nat}(a:At w B 0 v)(s:Stp P R w R' w')(hB:B<w.heap.size)(h1:B≠P)(h2:R≠some B):At w' B 0 v:=by
 have e:∀o,w'.cell? ⟨B,o,none⟩=w.cell? ⟨B,o,none⟩:=λo=>s.chg.cell (p:=⟨B,o,none⟩) hB (by rintro (c|c);exact h1 c;exact h2 c)
 exact⟨by rw[e];exact a.c0,by rw[e];exact a.c1,by rw[e];exact a.c2,by rw[e];exact a.c3,by rw[e];exact a.c4,by rw[e];exact a.c5⟩
structure Cap (W:World)(P:Nat)(R:Option Nat)(b:Nat)(u:Value):Prop where
 at_:W.cell? ⟨b,0,none⟩=some u
 lt:b<W.heap.size
 np:b≠P
 nr:R≠some b
theorem Cap.step {W:World}{u:Value}(f:Cap W P R b u)(s:Stp P R W R' W'):Cap W' P R' b u:=
 ⟨by rw[s.chg.cell (p:=⟨b,0,none⟩) f.lt (by rintro (c|c);exact f.np c;exact f.nr c)];exact f.at_,Nat.lt_of_lt_of_le f.lt s.chg.size,f.np,by
  rcases s.row with e|⟨r,e,hr⟩
  ·rw[e];exact f.nr
  ·rw[e]
   intro c
   cases c
   have:=f.lt
   omega⟩
theorem EW (w:World)(P:Nat)(u1 u3:Value)(us:List Vl)(c:Int)(base:Nat)(R:Option Nat)(vv:Value)(h:BS w P u1 u3 us c base R vv)(B:Bw us c)(d:Int)(xb:Nat)(cb:w.cell? ⟨xb,0,none⟩=some (.pointer (some ⟨P,0,none⟩)))(xn:Nat)(n:Int)(cn:w.cell? ⟨xn,0,none⟩=some (.int .i64 n))(n0:-1000<=n)(n1:n<=1000):
  Calls Tryz.prog 124 #[.int .i64 d,.pointer (some ⟨xb,0,none⟩),.pointer (some ⟨xn,0,none⟩)] w λe w'=>Bd w P u1 u3 us c base R ([ik 6 n d 0 0],(us.length:Nat)) e w':=by
 have HX:Hid _:=kE w P u1 u3 us c base R vv 6 n d 0 0 h (by have:=B.l;omega) (by have:=B.c0;omega) (by have:=B.c1;omega) (by omega) (by omega)
 clear h B
 go_enter Tryz.func124,Tryz.ntmps124
 go_wp2_with fail
 refine Calls.mono HX.out ?_
 rintro e w' ⟨rfl,hR⟩
 have R:Hid _:=hR
 clear hR
 go_wp2
 go_ret
 exact⟨rfl,R.out⟩
theorem CS (w:World)(P:Nat)(u1 u3:Value)(us:List Vl)(c:Int)(base:Nat)(R:Option Nat)(vv:Value)(h:BS w P u1 u3 us c base R vv)(B:Bw us c)(d:Int)(xb:Nat)(cb:w.cell? ⟨xb,0,none⟩=some (.pointer (some ⟨P,0,none⟩)))(xn:Nat)(n:Int)(cn:w.cell? ⟨xn,0,none⟩=some (.int .i64 n))(n0:-1000<=n)(n1:n<=1000)(xv:Nat)(v:Vl)(cv:At w xv 0 v):
  Calls Tryz.prog 125 #[.int .i64 d,.pointer (some ⟨xb,0,none⟩),.pointer (some ⟨xn,0,none⟩),.pointer (some ⟨xv,0,none⟩)] w λe w'=>Bd w P u1 u3 us c base R ([ik 4 n d v.b 0],(us.length:Nat)) e w':=by
 have HX:Hid _:=kE w P u1 u3 us c base R vv 4 n d v.b 0 h (by have:=B.l;omega) (by have:=B.c0;omega) (by have:=B.c1;omega) (by omega) (by omega)
 obtain⟨v0,v1,v2,v3,v4,v5⟩:=cv
 simp only[Nat.zero_add] at v1 v2 v3 v4 v5
 clear h B
 go_enter Tryz.func125,Tryz.ntmps125
 go_wp2_with fail
 refine Calls.mono HX.out ?_
 rintro e w' ⟨rfl,hR⟩
 have R:Hid _:=hR
 clear hR
 go_wp2
 go_ret
 exact⟨rfl,R.out⟩
theorem CT (w:World)(P:Nat)(u1 u3:Value)(us:List Vl)(c:Int)(base:Nat)(R:Option Nat)(vv:Value)(h:BS w P u1 u3 us c base R vv)(B:Bw us c)(d:Int)(xb:Nat)(cb:w.cell? ⟨xb,0,none⟩=some (.pointer (some ⟨P,0,none⟩)))(xn:Nat)(n:Int)(cn:w.cell? ⟨xn,0,none⟩=some (.int .i64 n))(n0:-1000<=n)(n1:n<=1000)(xv:Nat)(v:Vl)(cv:At w xv 0 v):
  Calls Tryz.prog 126 #[.int .i64 d,.pointer (some ⟨xb,0,none⟩),.pointer (some ⟨xn,0,none⟩),.pointer (some ⟨xv,0,none⟩)] w λe w'=>Bd w P u1 u3 us c base R ([ik 4 n d v.a 0],(us.length:Nat)) e w':=by
 have HX:Hid _:=kE w P u1 u3 us c base R vv 4 n d v.a 0 h (by have:=B.l;omega) (by have:=B.c0;omega) (by have:=B.c1;omega) (by omega) (by omega)
 obtain⟨v0,v1,v2,v3,v4,v5⟩:=cv
 simp only[Nat.zero_add] at v1 v2 v3 v4 v5
 clear h B
 go_enter Tryz.func126,Tryz.ntmps126
 go_wp2_with fail
 refine Calls.mono HX.out ?_
 rintro e w' ⟨rfl,hR⟩
 have R:Hid _:=hR
 clear hR
 go_wp2
 go_ret
 exact⟨rfl,R.out⟩
theorem CU (w:World)(P:Nat)(u1 u3:Value)(us:List Vl)(c:Int)(base:Nat)(R:Option Nat)(vv:Value)(h:BS w P u1 u3 us c base R vv)(B:Bw us c)(d:Int)(xb:Nat)(cb:w.cell? ⟨xb,0,none⟩=some (.pointer (some ⟨P,0,none⟩))):
  Calls Tryz.prog 139 #[.int .i64 d,.pointer (some ⟨xb,0,none⟩)] w λe w'=>Bd w P u1 u3 us c base R ([ik 9 1 d 0 0],(us.length:Nat)) e w':=by
 have HX:Hid _:=kE w P u1 u3 us c base R vv 9 1 d 0 0 h (by have:=B.l;omega) (by have:=B.c0;omega) (by have:=B.c1;omega) (by omega) (by omega)
 clear h B
 go_enter Tryz.func139,Tryz.ntmps139
 go_wp2_with fail
 refine Calls.mono HX.out ?_
 rintro e w' ⟨rfl,hR⟩
 have R:Hid _:=hR
 clear hR
 go_wp2
 go_ret
 exact⟨rfl,R.out⟩
theorem EX (w:World)(P:Nat)(u1 u3:Value)(us:List Vl)(c:Int)(base:Nat)(R:Option Nat)(vv:Value)(h:BS w P u1 u3 us c base R vv)(B:Bw us c)(d:Int)(xb:Nat)(cb:w.cell? ⟨xb,0,none⟩=some (.pointer (some ⟨P,0,none⟩)))(xv:Nat)(v:Vl)(cv:At w xv 0 v):
  Calls Tryz.prog 141 #[.int .i64 d,.pointer (some ⟨xb,0,none⟩),.pointer (some ⟨xv,0,none⟩)] w λe w'=>Bd w P u1 u3 us c base R ([ik 11 1 d 0 v.c],(us.length:Nat)) e w':=by
 have HX:Hid _:=kE w P u1 u3 us c base R vv 11 1 d 0 v.c h (by have:=B.l;omega) (by have:=B.c0;omega) (by have:=B.c1;omega) (by omega) (by omega)
 obtain⟨v0,v1,v2,v3,v4,v5⟩:=cv
 simp only[Nat.zero_add] at v1 v2 v3 v4 v5
 clear h B
 go_enter Tryz.func141,Tryz.ntmps141
 go_wp2_with fail
 refine Calls.mono HX.out ?_
 rintro e w' ⟨rfl,hR⟩
 have R:Hid _:=hR
 clear hR
 go_wp2
 go_ret
 exact⟨rfl,R.out⟩
theorem As (w:World)(d:Int):Calls Tryz.prog 123 #[.int .i64 d] w λe w'=>e=.returned (.int .i64 d)/\w'=w:=by
 go_enter Tryz.func123,Tryz.ntmps123
 go_wp2
 go_ret
 exact⟨rfl,rfl⟩
theorem EY (w:World)(P:Nat)(u1 u3:Value)(us:List Vl)(c:Int)(base:Nat)(R:Option Nat)(vv:Value)(h:BS w P u1 u3 us c base R vv)(B:Bnd us c 0)(d:Int)(xb:Nat)(cb:Cap w P R xb (.pointer (some ⟨P,0,none⟩)))(xv:Nat)(v:Vl)(cv:At w xv 0 v)(lv:xv<w.heap.size)(pv:xv≠P)(rv:R≠some xv)(j:Nat)(ej:v.a=(j:Int))(hj:j<us.length)(n:Int)(en:(us.getD j Vl.zero).len=n)(n0:-1000<=n)(n1:n<=1000):
  Calls Tryz.prog 138 #[.int .i64 d,.pointer (some ⟨xb,0,none⟩),.pointer (some ⟨xv,0,none⟩)] w λe w'=>Bd w P u1 u3 us c base R ([ik 10 n d 0 0],(us.length:Nat)) e w':=by
 have HX:Hid (∀w1,w1=w.drew->_):=λw1 (e:w1=w.drew)=>kE w.drew P u1 u3 us c base R vv 10 n d 0 0 (BS.keep h (ie w)) (by have:=B.l;omega) (by have:=B.c0;omega) (by have:=B.c1;omega) (by omega) (by omega)
 have HL:Hid _:=qk w.drew P u1 u3 us c base R vv (BS.keep h (ie w)) j hj B.l
 rw[en] at HL
 have HCB:Hid _:=cb
 have HCV:Hid (∀w' R',Stp P R w R' w'->At w' xv 0 v):=λw' R' s=>cv.stepC s lv pv rv
 have y0:=cb.at_
 obtain⟨v0,v1,v2,v3,v4,v5⟩:=cv
 simp only[Nat.zero_add] at v1 v2 v3 v4 v5
 have HKD:Hid (Kept 0 0 w w.drew):=ie w
 rw[ej] at v2
 clear h B cb lv pv rv n0 n1 en
 go_enter Tryz.func138,Tryz.ntmps138
 go_wp2_with fail
 go_region_held3 (λw'=>w'.cell? ⟨xb,0,none⟩=some (.pointer (some ⟨P,0,none⟩))/\w'.cell? ⟨xv,2,none⟩=some (.int .i64 (j:Int))) (go_keep) (first
  |(go_at_call 64;refine Calls.mono HL.out ?_;rintro e w1 ⟨rfl,rfl⟩)
  |(go_at_call 86;refine Calls.mono (HX.out _ rfl) ?_;rintro e w2 ⟨rfl,R2',vv2,h2,s2⟩;have s9:Stp P R w R2' w2:=StQ.trans ⟨HKD.out.chg,.inl rfl⟩ s2;have R2:Hid (∃R' vv',BS w2 P u1 u3 (us++[ik 10 n d 0 0]) (c+ig [ik 10 n d 0 0]) base R' vv'/\Stp P R w R' w2):=⟨R2',vv2,h2,s9⟩;have z0:=(HCB.out.step s9).at_;obtain⟨t0,t1,t2,t3,t4,t5⟩:=HCV.out _ _ s9;simp only[Nat.zero_add] at t1 t2 t3 t4 t5;rw[ej] at t2;clear s9 h2 s2))
 all_goals
  go_wp2
  go_ret
  exact⟨rfl,R2.out⟩
theorem CV (w:World)(P:Nat)(u1 u3:Value)(us:List Vl)(c:Int)(base:Nat)(R:Option Nat)(vv:Value)(h:BS w P u1 u3 us c base R vv)(B:Bnd us c 0)(d:Int)(xb:Nat)(cb:Cap w P R xb (.pointer (some ⟨P,0,none⟩)))(xv:Nat)(v:Vl)(cv:At w xv 0 v)(lv:xv<w.heap.size)(pv:xv≠P)(rv:R≠some xv)(j:Nat)(ej:v.a=(j:Int))(hj:j<us.length)(n:Int)(en:(us.getD j Vl.zero).len=n)(n0:-1000<=n)(n1:n<=1000):
  Calls Tryz.prog 140 #[.int .i64 d,.pointer (some ⟨xb,0,none⟩),.pointer (some ⟨xv,0,none⟩)] w λe w'=>Bd w P u1 u3 us c base R ([ik 12 n d 0 v.c],(us.length:Nat)) e w':=by
 have HX:Hid (∀w1,w1=w.drew->_):=λw1 (e:w1=w.drew)=>kE w.drew P u1 u3 us c base R vv 12 n d 0 v.c (BS.keep h (ie w)) (by have:=B.l;omega) (by have:=B.c0;omega) (by have:=B.c1;omega) (by omega) (by omega)
 have HL:Hid _:=qk w.drew P u1 u3 us c base R vv (BS.keep h (ie w)) j hj B.l
 rw[en] at HL
 have HCB:Hid _:=cb
 have HCV:Hid (∀w' R',Stp P R w R' w'->At w' xv 0 v):=λw' R' s=>cv.stepC s lv pv rv
 have y0:=cb.at_
 obtain⟨v0,v1,v2,v3,v4,v5⟩:=cv
 simp only[Nat.zero_add] at v1 v2 v3 v4 v5
 have HKD:Hid (Kept 0 0 w w.drew):=ie w
 rw[ej] at v2
 clear h B cb lv pv rv n0 n1 en
 go_enter Tryz.func140,Tryz.ntmps140
 go_wp2_with fail
 go_region_held3 (λw'=>w'.cell? ⟨xb,0,none⟩=some (.pointer (some ⟨P,0,none⟩))/\w'.cell? ⟨xv,2,none⟩=some (.int .i64 (j:Int))/\w'.cell? ⟨xv,4,none⟩=some (.int .i64 v.c)) (go_keep) (first
  |(go_at_call 64;refine Calls.mono HL.out ?_;rintro e w1 ⟨rfl,rfl⟩)
  |(go_at_call 86;refine Calls.mono (HX.out _ rfl) ?_;rintro e w2 ⟨rfl,R2',vv2,h2,s2⟩;have s9:Stp P R w R2' w2:=StQ.trans ⟨HKD.out.chg,.inl rfl⟩ s2;have R2:Hid (∃R' vv',BS w2 P u1 u3 (us++[ik 12 n d 0 v.c]) (c+ig [ik 12 n d 0 v.c]) base R' vv'/\Stp P R w R' w2):=⟨R2',vv2,h2,s9⟩;have z0:=(HCB.out.step s9).at_;obtain⟨t0,t1,t2,t3,t4,t5⟩:=HCV.out _ _ s9;simp only[Nat.zero_add] at t1 t2 t3 t4 t5;rw[ej] at t2;clear s9 h2 s2))
 all_goals
  go_wp2
  go_ret
  exact⟨rfl,R2.out⟩
end
section
open Go.RowKit Flt
variable {W0 W1:World} {lo hi lo' P hi' b xb xn xv j:Nat} {vs0:List Vl} {R:Option Nat} {v:Vl} {n:Int} {f:Int->Nat->List Vl×Int}
theorem Same.trans {W:World}(a:Same lo hi W0 W1)(b:Same lo' hi' W1 W)(h1:lo'<=lo)(h2:hi<=hi'):Same lo hi W0 W:=
 ⟨a.le,Nat.le_trans a.size b.size,λx l h=>(b.blk x (by omega) (by omega)).trans (a.blk x l h)⟩
theorem InR.mono (f:InR lo' hi' P R)(h1:lo'<=lo)(h2:hi<=hi'):InR lo hi P R:=
 ⟨by have:=f.p;omega,λb hb=>by have:=f.r b hb;omega⟩
theorem PC.mono {fv:Value}(h:PC W0 lo hi P vs0 fv f)(s:Same lo hi W0 W1)(h1:lo'<=lo)(h2:hi<=hi'):PC W1 lo' hi' P vs0 fv f:=by
 obtain⟨N,caps,e,he,hc⟩:=h
 exact⟨N,caps,e,he,λW u1 u3 us c base R vv d hs hr hb hp hn=>hc W u1 u3 us c base R vv d (s.trans hs h1 h2) (hr.mono h1 h2) hb hp hn⟩
theorem PC.cast {fv:Value}{f':Int->Nat->List Vl×Int}(h:PC W0 lo hi P vs0 fv f)(e:f=f'):PC W0 lo hi P vs0 fv f':=e ▸ h
structure Bx (W0:World)(lo hi b:Nat)(u:Value):Prop where
 lo_:lo<=b
 hi_:b<hi
 at_:W0.cell? ⟨b,0,none⟩=some u
theorem Bx.cap {W:World}{u:Value}(x:Bx W0 lo hi b u)(s:Same lo hi W0 W)(r:InR lo hi P R):Cap W P R b u:=
 ⟨by rw[s.cell x.lo_ x.hi_];exact x.at_,by have:=x.hi_;have:=s.le;have:=s.size;omega,by have:=x.lo_;have:=r.p;omega,λe=>by have:=r.r b e;have:=x.lo_;have:=x.hi_;omega⟩
structure Vx (W0:World)(lo hi b:Nat)(v:Vl):Prop where
 lo_:lo<=b
 hi_:b<hi
 at_:At W0 b 0 v
theorem Vx.at' {W:World}(x:Vx W0 lo hi b v)(s:Same lo hi W0 W):At W b 0 v:=by
 have e:∀o,W.cell? ⟨b,o,none⟩=W0.cell? ⟨b,o,none⟩:=λo=>s.cell x.lo_ x.hi_
 obtain⟨c0,c1,c2,c3,c4,c5⟩:=x.at_
 exact⟨by rw[e];exact c0,by rw[e];exact c1,by rw[e];exact c2,by rw[e];exact c3,by rw[e];exact c4,by rw[e];exact c5⟩
theorem Vx.lt {W:World}(x:Vx W0 lo hi b v)(s:Same lo hi W0 W):b<W.heap.size:=by have:=x.hi_;have:=s.le;have:=s.size;omega
theorem Vx.np (x:Vx W0 lo hi b v)(r:InR lo hi P R):b≠P:=by have:=x.lo_;have:=r.p;omega
theorem Vx.nr (x:Vx W0 lo hi b v)(r:InR lo hi P R):R≠some b:=λe=>by have:=r.r b e;have:=x.lo_;have:=x.hi_;omega
theorem ql (W0:World)(lo hi P:Nat)(vs0:List Vl):PC W0 lo hi P vs0 (.func (.func 123) #[] #[]) (λd _=>([],d)):=
 ⟨_,_,rfl,Go.Proofs.enters_of Tryz.func123 (by kernel_rfl) rfl,λW u1 u3 us c base R vv d _ _ hb _ _=>(As W d).mono λe w' ⟨h1,h2⟩=>by subst h1 h2;exact Bd.none hb d⟩
theorem yf (hb:Bx W0 lo hi xb (.pointer (some ⟨P,0,none⟩)))(hn:Bx W0 lo hi xn (.int .i64 n))(n0:-1000<=n)(n1:n<=1000):PC W0 lo hi P vs0 (.func (.func 124) #[] #[.pointer (some ⟨xb,0,none⟩),.pointer (some ⟨xn,0,none⟩)]) (λd N=>([ik 6 n d 0 0],N)):=
 ⟨_,_,rfl,Go.Proofs.enters_of Tryz.func124 (by kernel_rfl) rfl,λW u1 u3 us c base R vv d s r b _ B=>EW W P u1 u3 us c base R vv b B.w d _ (hb.cap s r).at_ _ _ (hn.cap s r).at_ n0 n1⟩
theorem Au (hb:Bx W0 lo hi xb (.pointer (some ⟨P,0,none⟩)))(hn:Bx W0 lo hi xn (.int .i64 n))(n0:-1000<=n)(n1:n<=1000)(hv:Vx W0 lo hi xv v):PC W0 lo hi P vs0 (.func (.func 125) #[] #[.pointer (some ⟨xb,0,none⟩),.pointer (some ⟨xn,0,none⟩),.pointer (some ⟨xv,0,none⟩)]) (λd N=>([ik 4 n d v.b 0],N)):=
 ⟨_,_,rfl,Go.Proofs.enters_of Tryz.func125 (by kernel_rfl) rfl,λW u1 u3 us c base R vv d s r b _ B=>CS W P u1 u3 us c base R vv b B.w d _ (hb.cap s r).at_ _ _ (hn.cap s r).at_ n0 n1 _ _ (hv.at' s)⟩
theorem Av (hb:Bx W0 lo hi xb (.pointer (some ⟨P,0,none⟩)))(hn:Bx W0 lo hi xn (.int .i64 n))(n0:-1000<=n)(n1:n<=1000)(hv:Vx W0 lo hi xv v):PC W0 lo hi P vs0 (.func (.func 126) #[] #[.pointer (some ⟨xb,0,none⟩),.pointer (some ⟨xn,0,none⟩),.pointer (some ⟨xv,0,none⟩)]) (λd N=>([ik 4 n d v.a 0],N)):=
 ⟨_,_,rfl,Go.Proofs.enters_of Tryz.func126 (by kernel_rfl) rfl,λW u1 u3 us c base R vv d s r b _ B=>CT W P u1 u3 us c base R vv b B.w d _ (hb.cap s r).at_ _ _ (hn.cap s r).at_ n0 n1 _ _ (hv.at' s)⟩
theorem CW (hb:Bx W0 lo hi xb (.pointer (some ⟨P,0,none⟩)))(hv:Vx W0 lo hi xv v)(ej:v.a=(j:Int))(hj:j<vs0.length)(n0:1<=(vs0.getD j Vl.zero).len)(n1:(vs0.getD j Vl.zero).len<=1000):PC W0 lo hi P vs0 (.func (.func 138) #[] #[.pointer (some ⟨xb,0,none⟩),.pointer (some ⟨xv,0,none⟩)]) (λd N=>([ik 10 (vs0.getD j Vl.zero).len d 0 0],N)):=
 ⟨_,_,rfl,Go.Proofs.enters_of Tryz.func138 (by kernel_rfl) rfl,λW u1 u3 us c base R vv d s r b p B=>EY W P u1 u3 us c base R vv b B d _ (hb.cap s r) _ _ (hv.at' s) (hv.lt s) (hv.np r) (hv.nr r) j ej (p.at_ hj).2 _ (by rw[(p.at_ hj).1]) (by omega) (by omega)⟩
theorem Aw (hb:Bx W0 lo hi xb (.pointer (some ⟨P,0,none⟩))):PC W0 lo hi P vs0 (.func (.func 139) #[] #[.pointer (some ⟨xb,0,none⟩)]) (λd N=>([ik 9 1 d 0 0],N)):=
 ⟨_,_,rfl,Go.Proofs.enters_of Tryz.func139 (by kernel_rfl) rfl,λW u1 u3 us c base R vv d s r b _ B=>CU W P u1 u3 us c base R vv b B.w d _ (hb.cap s r).at_⟩
theorem Ax (hb:Bx W0 lo hi xb (.pointer (some ⟨P,0,none⟩)))(hv:Vx W0 lo hi xv v)(ej:v.a=(j:Int))(hj:j<vs0.length)(n0:1<=(vs0.getD j Vl.zero).len)(n1:(vs0.getD j Vl.zero).len<=1000):PC W0 lo hi P vs0 (.func (.func 140) #[] #[.pointer (some ⟨xb,0,none⟩),.pointer (some ⟨xv,0,none⟩)]) (λd N=>([ik 12 (vs0.getD j Vl.zero).len d 0 v.c],N)):=
 ⟨_,_,rfl,Go.Proofs.enters_of Tryz.func140 (by kernel_rfl) rfl,λW u1 u3 us c base R vv d s r b p B=>CV W P u1 u3 us c base R vv b B d _ (hb.cap s r) _ _ (hv.at' s) (hv.lt s) (hv.np r) (hv.nr r) j ej (p.at_ hj).2 _ (by rw[(p.at_ hj).1]) (by omega) (by omega)⟩
theorem CX (hb:Bx W0 lo hi xb (.pointer (some ⟨P,0,none⟩)))(hv:Vx W0 lo hi xv v):PC W0 lo hi P vs0 (.func (.func 141) #[] #[.pointer (some ⟨xb,0,none⟩),.pointer (some ⟨xv,0,none⟩)]) (λd N=>([ik 11 1 d 0 v.c],N)):=
 ⟨_,_,rfl,Go.Proofs.enters_of Tryz.func141 (by kernel_rfl) rfl,λW u1 u3 us c base R vv d s r b _ B=>EX W P u1 u3 us c base R vv b B.w d _ (hb.cap s r).at_ _ _ (hv.at' s)⟩
structure Pts (W0:World)(lo hi P:Nat)(vs0:List Vl)(i:Int)(v:Vl)(la:Int)(a:Option Addr)(fv:Nat->Value):Prop where
 at_:∀k,k<cnt v.op->∃g,a=some ⟨g,0,none⟩/\lo<=g/\g<hi/\W0.cell? ⟨g,k,none⟩=some (fv k)
 pc:∀k,k<cnt v.op->ku v k=true->PC W0 lo hi P vs0 (fv k) (λd N=>iW i v la k d N)
 nil:∀k,k<cnt v.op->ku v k=false->fv k=.nilFunc
theorem Pts.mono {i:Int}{la:Int}{a:Option Addr}{fv:Nat->Value}(f:Pts W0 lo hi P vs0 i v la a fv)(s:Same lo hi W0 W1)(h1:lo'<=lo)(h2:hi<=hi'):Pts W1 lo' hi' P vs0 i v la a fv:=
 ⟨λk hk=>by
  obtain⟨g,e,a1,a2,a3⟩:=f.at_ k hk
  exact⟨g,e,by omega,by omega,by rw[s.cell a1 a2];exact a3⟩,λk hk hb=>(f.pc k hk hb).mono s h1 h2,f.nil⟩
def PtO (w:World)(P:Nat)(vs0:List Vl)(i:Int)(v:Vl)(la:Int)(e:Ending)(w':World):Prop:=
 ∃a m c fv,e=.returned (.slice a m c)/\cnt v.op<=m/\Pts w' w.heap.size w'.heap.size P vs0 i v la a fv/\Kept 0 0 w w'
end
section
open Go.RowKit Flt
attribute [local go_sem] ic ib ia
variable {W0 w W1 w3:World} {lo P hi lo' hi' b:Nat} {vs0:List Vl} {v:Vl}
theorem Ay {u:Value}(x:Bx W0 lo hi b u)(k:Kept 0 0 W0 W1)(h:hi<=W0.heap.size)(h1:lo'<=lo)(h2:hi<=hi'):Bx W1 lo' hi' b u:=
 ⟨by have:=x.lo_;omega,by have:=x.hi_;omega,by rw[k.cell (p:=⟨b,0,none⟩) (by have:=x.hi_;show b<_;omega) (by omega)];exact x.at_⟩
theorem Az (x:Vx W0 lo hi b v)(k:Kept 0 0 W0 W1)(h:hi<=W0.heap.size)(h1:lo'<=lo)(h2:hi<=hi'):Vx W1 lo' hi' b v:=
 ⟨by have:=x.lo_;omega,by have:=x.hi_;omega,x.at_.keep (by have:=x.hi_;omega) k (.inr (.inr (Nat.le_refl _)))⟩
theorem PtO.mk {i:Int}{la:Int}(k3:Kept 0 0 w w3)(cs:Array Value)(t:TypeId)(m:Nat)(hc:cnt v.op<=m)
  (h:∀k,k<cnt v.op->∃fk,cs[k]? =some fk/\(ku v k=true->PC w3 w.heap.size w3.heap.size P vs0 fk (λd N=>iW i v la k d N))/\(ku v k=false->fk=.nilFunc)) (g:Nat) (hg:g=w3.heap.size):
  PtO w P vs0 i v la (.returned (.slice (some ⟨g,0,none⟩) m m)) (w3.alloc (.cells cs t)):=by
 have k4:=hU 0 0 w3 (.cells cs t)
 have z4:(w3.alloc (.cells cs t)).heap.size=w3.heap.size+1:=by simp
 subst hg
 have hs:=k3.size
 have e:∀k fk,cs[k]? =some fk->cs.getD k .nilFunc=fk:=λk fk hk=>by
  rw[Array.getD_eq_getD_getElem?,hk];rfl
 refine⟨_,_,_,λk=>cs.getD k .nilFunc,rfl,hc,⟨λk hk=>⟨w3.heap.size,rfl,hs,by omega,?_⟩,λk hk hb=>?_,λk hk hb=>?_⟩,k3.trans k4⟩
 ·obtain⟨fk,h1,_⟩:=h k hk
  rw[World.cell?_alloc_at _ _ w3.heap.size k rfl,h1,e k fk h1]
 ·obtain⟨fk,h1,h2,_⟩:=h k hk
  simp only[e k fk h1]
  exact(h2 hb).mono ((Same.refl (Nat.le_refl _)).chg (k4.chg (S:=λ_=>False)) (λ_ _ _ h=>h)) (Nat.le_refl _) (by omega)
 ·obtain⟨fk,h1,_,h3⟩:=h k hk
  simp only[e k fk h1]
  exact h3 hb
theorem PtO.empty {i:Int}{la:Int}(k3:Kept 0 0 w w3)(hc:cnt v.op=0):PtO w P vs0 i v la (.returned (.slice none 0 0)) w3:=
 ⟨none,0,0,λ_=>.nilFunc,rfl,by omega,⟨λk hk=>by omega,λk hk=>by omega,λk hk=>by omega⟩,k3⟩
theorem sR (w:World)(P:Nat)(vs0:List Vl)(i:Int)(v:Vl)(la:Int)(ho:v.op=9\/v.op=10\/v.op=11\/v.op=12\/v.op=0\/v.op=1)
  (hA:(v.op=9\/v.op=11)->∃j:Nat,v.a=(j:Int)/\j<vs0.length/\(vs0.getD j Vl.zero).len=la/\1<=la/\la<=1000):
  Calls Tryz.prog 131 #[.pointer (some ⟨P,0,none⟩),v.agg] w λe w'=>PtO w P vs0 i v la e w':=by
 have ka:=hU 0 0 w (.cells #[.pointer (some ⟨P,0,none⟩)] 58)
 have kb:=hU 0 0 (w.alloc (.cells #[.pointer (some ⟨P,0,none⟩)] 58)) (ij v.op v.len v.a v.b v.c v.k)
 have z1:(w.alloc (.cells #[.pointer (some ⟨P,0,none⟩)] 58)).heap.size=w.heap.size+1:=by simp
 have hv:=lr (w.alloc (.cells #[.pointer (some ⟨P,0,none⟩)] 58)) v
 rw[z1] at hv
 have z2:((w.alloc (.cells #[.pointer (some ⟨P,0,none⟩)] 58)).alloc (ij v.op v.len v.a v.b v.c v.k)).heap.size=w.heap.size+2:=by simp
 have hb:(w.alloc (.cells #[.pointer (some ⟨P,0,none⟩)] 58)).cell? ⟨w.heap.size,0,none⟩=some (.pointer (some ⟨P,0,none⟩)):=by
  rw[World.cell?_alloc_at _ _ w.heap.size 0 rfl];rfl
 have HK3:Hid _:=ka.trans kb
 have HB3:Hid (Bx ((w.alloc (.cells #[.pointer (some ⟨P,0,none⟩)] 58)).alloc (ij v.op v.len v.a v.b v.c v.k)) w.heap.size (w.heap.size+2) w.heap.size (.pointer (some ⟨P,0,none⟩))):=⟨Nat.le_refl _,by omega,by rw[kb.cell (p:=⟨w.heap.size,0,none⟩) (by rw[z1];exact Nat.lt_succ_self _) (by omega)];exact hb⟩
 have HV3:Hid (Vx ((w.alloc (.cells #[.pointer (some ⟨P,0,none⟩)] 58)).alloc (ij v.op v.len v.a v.b v.c v.k)) w.heap.size (w.heap.size+2) (w.heap.size+1) v):=⟨by omega,by omega,hv⟩
 have HZ3:Hid _:=z2
 clear ka kb z1 hv z2 hb
 go_enter Tryz.func131,Tryz.ntmps131
 go_upto_region 1 with fail
 generalize (w.alloc (.cells #[.pointer (some ⟨P,0,none⟩)] 58)).alloc (ij v.op v.len v.a v.b v.c v.k)=w3 at HK3 HB3 HV3 HZ3 ⊢
 obtain⟨v0,v1,v2,v3,v4,v5⟩:=HV3.out.at_
 simp only[Nat.zero_add] at v1 v2 v3 v4 v5
 have HB4:Hid (Bx w3 w.heap.size w3.heap.size w.heap.size (.pointer (some ⟨P,0,none⟩))):=by show Bx _ _ _ _ _;rw[HZ3.out];exact HB3.out
 have HV4:Hid (Vx w3 w.heap.size w3.heap.size (w.heap.size+1) v):=by show Vx _ _ _ _ _;rw[HZ3.out];exact HV3.out
 rcases ho with ho|ho|ho|ho|ho|ho
 ·rw[ho] at v0
  obtain⟨j,ej,hj,el,l0,l1⟩:=hA (by rw[ho];decide)
  have R:Hid (∀t g,g=w3.heap.size->PtO w P vs0 i v la (.returned (.slice (some ⟨g,0,none⟩) 1 1)) (w3.alloc (.cells #[.func (.func 138) #[] #[.pointer (some ⟨w.heap.size,0,none⟩),.pointer (some ⟨w.heap.size+1,0,none⟩)]] t))):=by
   intro t g hg
   refine PtO.mk HK3.out _ t 1 (by rw[ho];decide) (λk hk=>?_) g hg
   have hc:cnt v.op=1:=by rw[ho];rfl
   obtain rfl:k=0:=by omega
   refine⟨_,rfl,λ_=>(CW HB4.out HV4.out ej hj (by rw[el];exact l0) (by rw[el];exact l1)).cast ?_,λhb=>?_⟩
   ·funext d N
    unfold iW
    rw[ho,el]
    rfl
   ·unfold ku at hb
    rw[ho] at hb
    simp at hb
  clear HB3 HV3 HK3 HB4 HV4 ho hA
  have hz3:=HZ3.out
  go_wp2_with fail
  go_ret
  exact R.out _ _ (by rw[HZ3.out])
 ·rw[ho] at v0
  have R:Hid (∀t g,g=w3.heap.size->PtO w P vs0 i v la (.returned (.slice (some ⟨g,0,none⟩) 1 1)) (w3.alloc (.cells #[.func (.func 139) #[] #[.pointer (some ⟨w.heap.size,0,none⟩)]] t))):=by
   intro t g hg
   refine PtO.mk HK3.out _ t 1 (by rw[ho];decide) (λk hk=>?_) g hg
   have hc:cnt v.op=1:=by rw[ho];rfl
   obtain rfl:k=0:=by omega
   refine⟨_,rfl,λ_=>(Aw HB4.out).cast ?_,λhb=>?_⟩
   ·funext d N
    unfold iW
    rw[ho]
    rfl
   ·unfold ku at hb
    rw[ho] at hb
    simp at hb
  clear HB3 HV3 HK3 HB4 HV4 ho hA
  have hz3:=HZ3.out
  go_wp2_with fail
  go_ret
  exact R.out _ _ (by rw[HZ3.out])
 ·rw[ho] at v0
  obtain⟨j,ej,hj,el,l0,l1⟩:=hA (by rw[ho];decide)
  have R:Hid (∀t g,g=w3.heap.size->PtO w P vs0 i v la (.returned (.slice (some ⟨g,0,none⟩) 1 1)) (w3.alloc (.cells #[.func (.func 140) #[] #[.pointer (some ⟨w.heap.size,0,none⟩),.pointer (some ⟨w.heap.size+1,0,none⟩)]] t))):=by
   intro t g hg
   refine PtO.mk HK3.out _ t 1 (by rw[ho];decide) (λk hk=>?_) g hg
   have hc:cnt v.op=1:=by rw[ho];rfl
   obtain rfl:k=0:=by omega
   refine⟨_,rfl,λ_=>(Ax HB4.out HV4.out ej hj (by rw[el];exact l0) (by rw[el];exact l1)).cast ?_,λhb=>?_⟩
   ·funext d N
    unfold iW
    rw[ho,el]
    rfl
   ·unfold ku at hb
    rw[ho] at hb
    simp at hb
  clear HB3 HV3 HK3 HB4 HV4 ho hA
  have hz3:=HZ3.out
  go_wp2_with fail
  go_ret
  exact R.out _ _ (by rw[HZ3.out])
 ·rw[ho] at v0
  have R:Hid (∀t g,g=w3.heap.size->PtO w P vs0 i v la (.returned (.slice (some ⟨g,0,none⟩) 1 1)) (w3.alloc (.cells #[.func (.func 141) #[] #[.pointer (some ⟨w.heap.size,0,none⟩),.pointer (some ⟨w.heap.size+1,0,none⟩)]] t))):=by
   intro t g hg
   refine PtO.mk HK3.out _ t 1 (by rw[ho];decide) (λk hk=>?_) g hg
   have hc:cnt v.op=1:=by rw[ho];rfl
   obtain rfl:k=0:=by omega
   refine⟨_,rfl,λ_=>(CX HB4.out HV4.out).cast ?_,λhb=>?_⟩
   ·funext d N
    unfold iW
    rw[ho]
    rfl
   ·unfold ku at hb
    rw[ho] at hb
    simp at hb
  clear HB3 HV3 HK3 HB4 HV4 ho hA
  have hz3:=HZ3.out
  go_wp2_with fail
  go_ret
  exact R.out _ _ (by rw[HZ3.out])
 ·rw[ho] at v0
  have R:Hid (PtO w P vs0 i v la (.returned (.slice none 0 0)) w3):=PtO.empty HK3.out (by rw[ho];rfl)
  clear HB3 HV3 HK3 HB4 HV4 ho hA
  go_wp2_with fail
  go_ret
  exact R.out
 ·rw[ho] at v0
  have R:Hid (PtO w P vs0 i v la (.returned (.slice none 0 0)) w3):=PtO.empty HK3.out (by rw[ho];rfl)
  clear HB3 HV3 HK3 HB4 HV4 ho hA
  go_wp2_with fail
  go_ret
  exact R.out
end
end Go.Proofs.YtnlffngpnoodkaaGreat
