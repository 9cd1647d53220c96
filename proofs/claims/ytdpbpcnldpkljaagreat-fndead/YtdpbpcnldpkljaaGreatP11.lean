import Derived.Test.YtdpbpcnldpkljaaGreatP10
namespace Go.Proofs.Z
open Tryz
set_option maxRecDepth 1000000
set_option maxHeartbeats 0
open Go.RowKit Flt
attribute [local go_sem] eD eB eA
variable {vs:List Vl}
theorem Cb {v:Vl}{i:Nat}(h0:v.op≠0):(List.range 3).all (okF v i)=(f9 v&&(eN v).all (fC · i)):=by
 have hc:=gX v.op
 have t:(v.op==0)=false:=yam h0
 have e3:(List.range 3).all (okF v i)=(okF v i 0&&(okF v i 1&&(okF v i 2&&true))):=rfl
 rw[e3]
 unfold okF f9 eN bne
 rw[t]
 have f0:fld v 0=v.a:=rfl
 have f1:fld v 1=v.b:=rfl
 have f2:fld v 2=v.c:=rfl
 rw[f0,f1,f2]
 rcases (by omega:cnt v.op=0\/cnt v.op=1\/cnt v.op=2\/cnt v.op=3) with h|h|h|h
 all_goals
  rw[h]
  simp only[List.take_succ_cons,List.take_zero,List.all_cons,List.all_nil]
  generalize (v.a==0)=x
  generalize (v.b==0)=y
  generalize (v.c==0)=z
  generalize io v.op=p
  generalize fC v.a i=r
  generalize fC v.b i=s
  generalize fC v.c i=t
  revert x y z p r s t
  decide
theorem Cc {v:Vl}{i:Nat}(hl:∀k,k<i->1<=(vs.getD k Vl.zero).len/\(vs.getD k Vl.zero).len<=1000)(h:(eN v).all (fC · i)=true):
  ([(i6 vs v 0:Int),(i6 vs v 1:Int),(i6 vs v 2:Int)]).take (cnt v.op)=(eN v).map λo=>(vs.getD o.toNat Vl.zero).len:=by
 have key:∀o,fC o i=true->((vs.getD o.toNat Vl.zero).len.toNat:Int)=(vs.getD o.toNat Vl.zero).len:=λo ho=>by
  have:=of_decide_eq_true ho
  have:=hl o.toNat xaa
  omega
 have hc:=gX v.op
 have n0:0<cnt v.op->i6 vs v 0=(vs.getD v.a.toNat Vl.zero).len.toNat:=λc=>if_pos c
 have n1:1<cnt v.op->i6 vs v 1=(vs.getD v.b.toNat Vl.zero).len.toNat:=λc=>if_pos c
 have n2:2<cnt v.op->i6 vs v 2=(vs.getD v.c.toNat Vl.zero).len.toNat:=λc=>if_pos c
 unfold eN at h ⊢
 rcases (by omega:cnt v.op=0\/cnt v.op=1\/cnt v.op=2\/cnt v.op=3) with e|e|e|e
 ·rw[e];rfl
 ·rw[n0 xaa]
  rw[e] at h ⊢
  simp only[List.take_succ_cons,List.take_zero,List.all_cons,List.all_nil,Bool.and_true] at h
  simp only[List.take_succ_cons,List.take_zero,List.map_cons,List.map_nil]
  rw[key _ h]
 ·rw[n0 xaa,n1 xaa]
  rw[e] at h ⊢
  simp only[List.take_succ_cons,List.take_zero,List.all_cons,List.all_nil,Bool.and_true,Bool.and_eq_true] at h
  simp only[List.take_succ_cons,List.take_zero,List.map_cons,List.map_nil]
  rw[key _ h.1,key _ h.2]
 ·rw[n0 xaa,n1 xaa,n2 xaa]
  rw[e] at h ⊢
  simp only[List.take_succ_cons,List.take_zero,List.all_cons,List.all_nil,Bool.and_true,Bool.and_eq_true] at h
  simp only[List.take_succ_cons,List.take_zero,List.map_cons,List.map_nil]
  rw[key _ h.1,key _ h.2.1,key _ h.2.2]
theorem qq {op len C:Int}{xs:List Int}(h:¬(0<=op/\op<=13)):eQ op len C xs=false:=by
 unfold eQ
 rw[if_neg xaa,if_neg xaa,if_neg xaa,if_neg xaa,if_neg xaa]
theorem Hr (w:World)(a1 a2 a3:Option Addr)(n1 c1 n2 c2 n3 c3 i:Nat)(ins:List Int)(vs:List Vl)(outs:List Int)(f:GS w a1 n1 a2 n2 a3 n3 ins vs outs)(hi:i<n2)
  (hlens:∀k,k<i->1<=(vs.getD k Vl.zero).len/\(vs.getD k Vl.zero).len<=1000):
  Calls prog 15 #[eR a1 n1 c1 a2 n2 c2 a3 n3 c3,.int .i64 (i:Int)] w λe w'=>e=.returned (.bool (okV ins vs i))/\Kept 0 0 w w':=by
 rcases f.v.at_ with h0|⟨g2,o2,rfl,b1,b2,b3,b4⟩
 ·omega
 have hat:=b4 i hi
 unfold okV
 generalize hv:vs.getD i Vl.zero=v at hat
 by_cases hb:0<=v.op/\v.op<=13/\1<=v.len/\v.len<=1000
 ·rw[nC hb.2.2.1 hb.2.2.2,Bool.true_and]
  by_cases h0:v.op=0
  ·rw[if_pos h0,f.i.len]
   obtain⟨op,len,A,B,C,K⟩:=v
   simp only at h0 hb
   subst h0
   have e:(f9 ⟨0,len,A,B,C,K⟩&&(fC A n1&&len==ins.getD A.toNat 0))=(((fC A n1&&len==ins.getD A.toNat 0)&&B==0)&&C==0):=by
    have t:f9 ⟨0,len,A,B,C,K⟩=(B==0&&C==0):=by
     simp[f9,cnt,io,bne]
    rw[t]
    cases fC A n1<;>cases (len==ins.getD A.toNat 0)<;>cases (B==0)<;>cases (C==0)<;>rfl
   show Calls _ _ _ _ λe w'=>e=.returned (.bool (f9 ⟨0,len,A,B,C,K⟩&&(fC A n1&&len==ins.getD A.toNat 0)))/\_
   rw[e]
   exact sX w a1 a3 n1 c1 n2 c2 n3 c3 g2 o2 i len A B C K ins f.i b3 hi hat hb.2.2.1 hb.2.2.2
  ·rw[if_neg h0]
   have e:(f9 v&&((eN v).all (fC · i)&&eQ v.op v.len v.c ((eN v).map λo=>(vs.getD o.toNat Vl.zero).len)))=((List.range 3).all (okF v i)&&fi v.op v.len v.c (i6 vs v 0) (i6 vs v 1) (i6 vs v 2)):=by
    rw[Cb h0,<-Bool.and_assoc]
    cases hA:(eN v).all (fC · i)
    ·simp
    ·unfold fi
     rw[Cc hlens hA,nC hb.2.2.1 hb.2.2.2,Bool.true_and]
   rw[e]
   exact xu w a1 a3 n1 c1 n2 c2 n3 c3 g2 o2 i v vs b3 hi b4 hlens hv xaa hb.2.1 hb.2.2.1 hb.2.2.2
 ·have e:((lenB v.len&&f9 v)&&(if v.op=0 then fC v.a ins.length&&v.len==ins.getD v.a.toNat 0 else (eN v).all (fC · i)&&eQ v.op v.len v.c ((eN v).map λo=>(vs.getD o.toNat Vl.zero).len)))=false:=by
   by_cases hl:1<=v.len/\v.len<=1000
   ·have ho:¬(0<=v.op/\v.op<=13):=xaa
    rw[if_neg xaa,qq ho,Bool.and_false,Bool.and_false]
   ·rw[mw hl,Bool.false_and,Bool.false_and]
  rw[e]
  exact xr w a1 a3 n1 c1 n2 c2 n3 c3 g2 o2 i v b3 hi hat hb
theorem sZ {ins:List Int}{k:Nat}(h:(List.range k).all (okV ins vs)=true):∀j,j<k->1<=(vs.getD j Vl.zero).len/\(vs.getD j Vl.zero).len<=1000:=λj hj=>
 il (List.all_eq_true.1 h j (List.mem_range.2 hj))
theorem rF (w:World)(a1 a2 a3:Option Addr)(n1 c1 n2 c2 n3 c3:Nat)(ins:List Int)(vs:List Vl)(outs:List Int)(f:GS w a1 n1 a2 n2 a3 n3 ins vs outs)(h2:n2<=2000)(h3:n3<=50)(hI:(decide (n1<=20)&&ins.all lenB)=true):
  Calls prog 7 #[eR a1 n1 c1 a2 n2 c2 a3 n3 c3] w λe w'=>e=.returned (.bool ((List.range n2).all (okV ins vs)&&(outs.all (fC · n2)&&decide (eX vs<=50000))))/\Kept 0 0 w w':=by
 have hK:Hid _:=ez 0 0 w (eP a1 n1 c1 a2 n2 c2 a3 n3 c3)
 have hB:=fE w (.slice a1 n1 c1) (.slice a2 n2 c2) (.slice a3 n3 c3)
 have HF:Hid _:=f.keep hK.out
 have HL2:Hid (vs.length=n2):=f.v.len
 have HL3:Hid (outs.length=n3):=f.o.len
 have HIN:Hid _:=v7 _ _ _ _ _ c1 _ (f.keep hK.out).i
 rw[hI] at HIN
 clear f hI
 go_enter func7,ntmps7
 go_wp2_with fail
 refine yai HIN.out ?_
 rintro e w1 ⟨rfl,k1⟩
 replace hB:=hB.keep k1
 have HF1:Hid _:=HF.out.keep k1
 have HK1:Hid _:=hK.out.trans k1
 clear k1 HF hK HIN
 have q1:=hB.q1
 have q2:=hB.q2
 go_wp2_with fail
 clear q1 q2
 have HB:Hid _:=hB
 clear hB
 go_loopw [3] (λi W=>∃k:Nat,k<=n2/\i=.int .i64 k/\Hid ((List.range k).all (okV ins vs)=true)/\Kept 0 0 w1 W) (λi _=>n2-(intOf i).toNat)
 case atStart=>exact⟨0,Nat.zero_le _,rfl,rfl,Kept.refl _ _ _⟩
 case round=>
  obtain⟨k,hk,rfl,hA,hKW⟩:=hrel
  obtain⟨_,q0,q1,q2⟩:=HB.out.keep hKW
  by_cases hlt:k<n2
  ·have HX:Hid _:=Hr wr a1 a2 a3 n1 c1 n2 c2 n3 c3 k ins vs outs (HF1.out.keep hKW) hlt (sZ hA.out)
   cases hx:okV ins vs k
   ·rw[hx] at HX
    have R:Hid ((List.range n2).all (okV ins vs)=false):=lW hlt hx
    have R2:Hid _:=HK1.out.trans hKW
    clear hx hA hKW
    go_wp2_with fail
    refine yai HX.out ?_
    rintro e w2 ⟨rfl,hk2⟩
    clear q0 q1 q2
    go_wp2
    go_ret
    exact⟨by rw[R.out];rfl,R2.out.trans hk2⟩
   ·rw[hx] at HX
    have R:Hid _:=kP hA.out hx
    have HKW:Hid _:=hKW
    clear hx hA hKW
    go_wp2_with fail
    refine yai HX.out ?_
    rintro e w2 ⟨rfl,hk2⟩
    have R2:Hid _:=HKW.out.trans hk2
    clear q0 q1 q2 hk2
    go_wp2
    go_roundw
    case rel=>exact⟨k+1,by omega,by go_num,R,R2.out⟩
    case measure=>simp[intOf];omega
  ·have R1:Hid ((List.range n2).all (okV ins vs)=true):=by
    have:=hA.out
    rw[show k=n2 by omega] at this
    exact this
   have HF2:Hid _:=HF1.out.keep hKW
   have HK2:Hid _:=HK1.out.trans hKW
   have HC:Hid (∀W,Drawn wr W->_):=λW hd=>v8 W a1 a2 a3 n1 c1 n2 c2 n3 c3 ins vs outs (HF2.out.keep (hd.kept 0 0)) h2 (sZ R1.out)
   have HQ:Hid (∀W,Drawn wr W->W.cell? ⟨w.heap.size,0,none⟩=some (.slice a1 n1 c1)/\W.cell? ⟨w.heap.size,1,none⟩=some (.slice a2 n2 c2)/\W.cell? ⟨w.heap.size,2,none⟩=some (.slice a3 n3 c3)):=λW hd=>⟨by rw[hd.cell];exact q0,by rw[hd.cell];exact q1,by rw[hd.cell];exact q2⟩
   clear hA hKW
   go_wp2_with fail
   clear q0 q1 q2
   go_loopw [4] (λi W=>∃k:Nat,k<=n3/\i=.int .i64 k/\Hid ((outs.take k).all (fC · n2)=true)/\Drawn wr W) (λi _=>n3-(intOf i).toNat)
   case atStart=>exact⟨0,Nat.zero_le _,rfl,rfl,Drawn.refl _⟩
   case round=>
    obtain⟨k3,hk3,rfl,hA,hD⟩:=hrel
    obtain⟨q0,q1,q2⟩:=HQ.out _ hD
    have HD:Hid _:=hD
    by_cases hlt3:k3<n3
    ·rcases HF2.out.o.at_ with z0|⟨ga,oa,ea,z1,z2,z3,z4⟩
     ·omega
     have c:=(hD.cell _).trans (z4 k3 hlt3)
     have j0:(0:Int)<=(k3:Int):=xaa
     have j1:(k3:Int)<(n3:Int):=xaa
     subst ea
     clear z1 z2 z3 z4 hD
     cases hx:fC (outs.getD k3 0) n2
     ·have R:Hid (outs.all (fC · n2)=false):=lz (by rw[HL3.out];exact hlt3) hx
      have hx':¬(0<=outs.getD k3 0/\outs.getD k3 0<n2):=of_decide_eq_false hx
      generalize outs.getD k3 0=y at c hx'
      clear hx hA
      rcases (by omega:y<0\/(0<=y/\(n2:Int)<=y)) with hy|⟨hy,hy'⟩
      ·have t1:decide (y<0)=true:=decide_eq_true hy
       exact xgf
      ·have t1:decide (y<0)=false:=yax xaa
       have t2:decide ((n2:Int)<=y)=true:=decide_eq_true hy'
       exact xgf
     ·have R:Hid _:=kx (p:=(fC · n2)) (by rw[HL3.out];exact hlt3) hA.out hx
      have hx':0<=outs.getD k3 0/\outs.getD k3 0<n2:=of_decide_eq_true hx
      generalize outs.getD k3 0=y at c hx'
      obtain⟨hy,hy'⟩:=hx'
      have t1:decide (y<0)=false:=yax xaa
      have t2:decide ((n2:Int)<=y)=false:=yax xaa
      clear hx hA
      go_wp2_with fail
      go_quiet (fail)
      go_wp2
      go_roundw
      case rel=>exact⟨k3+1,by omega,by go_num,R,Drawn.more HD.out _⟩
      case measure=>simp[intOf];omega
    ·have R4:Hid (outs.all (fC · n2)=true):=by
      exact xis
     have HC2:Hid _:=HC.out _ hD
     clear hA hD
     go_wp2_with fail
     refine yai HC2.out ?_
     rintro e w9 ⟨rfl,hk9⟩
     clear q0 q1 q2
     go_wp2
     go_ret
     exact⟨by rw[R1.out,R4.out];rfl,(HK2.out.trans (Drawn.kept HD.out 0 0)).trans hk9⟩
theorem oz (w:World)(a1 a2 a3:Option Addr)(n1 c1 n2 c2 n3 c3:Nat)(ins:List Int)(vs:List Vl)(outs:List Int)(f:GS w a1 n1 a2 n2 a3 n3 ins vs outs)(h:¬(((decide (n1<=20)&&ins.all lenB)=true)/\n2<=2000/\n3<=50)):
  Calls prog 7 #[eR a1 n1 c1 a2 n2 c2 a3 n3 c3] w λe w'=>e=.returned (.bool false)/\Kept 0 0 w w':=by
 have hK:Hid _:=ez 0 0 w (eP a1 n1 c1 a2 n2 c2 a3 n3 c3)
 have hB:=fE w (.slice a1 n1 c1) (.slice a2 n2 c2) (.slice a3 n3 c3)
 have HIN:Hid _:=v7 _ _ _ _ _ c1 _ (f.keep hK.out).i
 clear f
 cases hI:(decide (n1<=20)&&ins.all lenB)
 ·rw[hI] at HIN
  exact xfr
 ·rw[hI] at HIN
  by_cases h2:n2<=2000
  ·have h3:50<n3:=by
    rcases Nat.lt_or_ge 50 n3 with c|c
    ·exact c
    ·exact absurd ⟨hI,h2,c⟩ h
   exact xfr
  ·have h3:2000<n2:=xaa
   clear h hI h2
   go_enter func7,ntmps7
   go_wp2_with fail
   refine yai HIN.out ?_
   rintro e w1 ⟨rfl,k1⟩
   obtain⟨_,q0,q1,q2⟩:=hB.keep k1
   clear hB
   go_wp2
   all_goals
    go_ret
    exact⟨rfl,hK.out.trans k1⟩
theorem qr (w:World)(a1 a2 a3:Option Addr)(n1 c1 n2 c2 n3 c3:Nat)(ins:List Int)(vs:List Vl)(outs:List Int)(f:GS w a1 n1 a2 n2 a3 n3 ins vs outs):
  Calls prog 7 #[eR a1 n1 c1 a2 n2 c2 a3 n3 c3] w λe w'=>e=.returned (.bool (okG ins vs outs))/\Kept 0 0 w w':=by
 unfold okG
 rw[f.i.len,f.v.len,f.o.len]
 by_cases h:((decide (n1<=20)&&ins.all lenB)=true)/\n2<=2000/\n3<=50
 ·have h':=h.1
  rw[Bool.and_eq_true] at h'
  rw[decide_eq_true (show n1<=20/\n2<=2000/\n3<=50 from⟨of_decide_eq_true h'.1,h.2⟩),h'.2,Bool.true_and,Bool.true_and]
  exact rF w a1 a2 a3 n1 c1 n2 c2 n3 c3 ins vs outs f h.2.1 h.2.2 h.1
 ·have e:(decide (n1<=20/\n2<=2000/\n3<=50)&&(ins.all lenB&&((List.range n2).all (okV ins vs)&&(outs.all (fC · n2)&&decide (eX vs<=50000)))))=false:=by
   rw[Bool.and_eq_false_iff]
   by_cases hn:n1<=20/\n2<=2000/\n3<=50
   ·right
    rw[Bool.and_eq_false_iff]
    left
    rw[Bool.eq_false_iff]
    intro c
    exact h ⟨by rw[Bool.and_eq_true];exact⟨decide_eq_true hn.1,c⟩,hn.2⟩
   ·left;exact yax hn
  rw[e]
  exact oz w a1 a2 a3 n1 c1 n2 c2 n3 c3 ins vs outs f h
