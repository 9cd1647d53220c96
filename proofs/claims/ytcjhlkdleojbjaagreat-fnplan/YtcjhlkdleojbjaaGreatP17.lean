import Derived.Test.YtcjhlkdleojbjaaGreatP16
namespace Go.Proofs.Z
variable{Zp:Prop}
open Tryz
set_option maxRecDepth 1000000
set_option maxHeartbeats 0
open Go.RowKit Flt
attribute[local go_sem] eF eE eD
variable{vs:List Vl}
theorem Kd{v i}(al:v.op≠0):(List.range 3).all (okF v i)=(fW v&&(fe v).all (fR · i)):=by
 have ah:=fI v.op;have t:=yan al;have ai:(List.range 3).all _=(okF v i 0&&(okF v i 1&&(okF v i 2&&true))):=rfl;rw[ai];unfold okF fW fe bne;rw[t];have bG:fld v 0=v.a:=rfl;have f1:fld v 1=v.b:=rfl;have f2:fld v 2=v.c:=rfl;rw[bG,f1,f2];rcases (by omega:cnt v.op=0\/cnt v.op=1\/cnt v.op=2\/cnt v.op=3) with h|h|h|h
 all_goals
  rw[h]
  simp only[List.take_succ_cons,List.take_zero,List.all_cons,List.all_nil]
  generalize (v.a==0)=x
  generalize (v.b==0)=y
  generalize (v.c==0)=z
  generalize iU _=p
  generalize fR _ i=r
  generalize fR _ i=s
  generalize fR _ i=t
  revert x y z p r s t
  decide
theorem Ke{v i}(af:∀k,k<i->1<=(vs.getD k hF).len/\(vs.getD k hF).len<=1000)(h:(fe v).all (fR · i)=true):
  ([(jE vs v 0:Int),(jE vs v 1:Int),(jE vs v 2:Int)]).take (cnt v.op)=(fe v).map λo=>(vs.getD o.toNat hF).len:=by
 have aB:∀o,fR o i=true->((vs.getD o.toNat hF).len.toNat:Int)=(vs.getD o.toNat hF).len:=λo ho=>by
  have:=of_decide_eq_true ho
  grind
 have ah:=fI v.op;have cf:0<cnt _->jE _ v 0=(vs.getD v.a.toNat _).len.toNat:=λc=>hD c;have Z:1<cnt _->jE _ v 1=(vs.getD v.b.toNat _).len.toNat:=λc=>hD c;have n2:2<cnt _->jE _ v 2=(vs.getD v.c.toNat _).len.toNat:=λc=>hD c;unfold fe at h⊢;rcases (by omega:cnt v.op=0\/cnt v.op=1\/cnt v.op=2\/cnt v.op=3) with e|e|e|e
 ·rw[e];rfl
 ·simp_all
 ·simp_all
 simp_all
theorem vr{op len C xs}(h:¬(0<=op/\op<=13)):eV op len C xs=false:=by
 grind[eV]
theorem PB(w a1 U a3 Z c1 n2 c2 ab c3 i ins vs outs)(f:GS w a1 Z U n2 a3 ab ins vs outs)(hi:i<n2)
  (l:∀k,k<i->1<=(vs.getD k hF).len/\(vs.getD k hF).len<=1000):
  Calls prog 19 #[eZ a1 Z c1 U n2 c2 a3 ab c3,hA i] w λe B=>e=.returned (.bool (okV ins vs i))/\Kept 0 0 w B:=by
 rcases f.v.at_ with al|⟨aN,bT,rfl,R,aS,aa,bi⟩
 ·omega
 have a7:=bi i hi;unfold okV;generalize aO:vs.getD i _=v at a7;by_cases hb:0<=v.op/\v.op<=13/\1<=v.len/\v.len<=1000
 ·rw[mD hb.2.2.1 hb.2.2.2,Bool.true_and];by_cases al:v.op=0
  ·rw[hD al,f.i.len];obtain⟨op,len,A,J,C,K⟩:=v;simp only at al hb;subst al
   have e:(fW ⟨0,len,A,J,C,K⟩&&(fR A Z&&len==ins.getD A.toNat 0))=(((fR A Z&&len==ins.getD A.toNat 0)&&J==0)&&C==0):=by
    have t:fW ⟨0,len,A,J,C,K⟩=(J==0&&C==0):=by
     simp[fW,cnt,iU,bne]
    rw[t];cases fR A Z<;>cases (len==ins.getD A.toNat 0)<;>cases (J==0)<;>cases (C==0)<;>rfl
   show Calls _ _ _ _ λe B=>e=.returned (.bool (fW ⟨0,len,A,J,C,K⟩&&(fR A Z&&len==ins.getD A.toNat 0)))/\_;rw[e];exact zi w _ _ _ _ _ _ _ _ _ _ i _ A J C K _ f.i aa hi a7 hb.2.2.1 hb.2.2.2
  rw[hC al]
  have e:(fW v&&((fe v).all (fR · i)&&eV v.op v.len v.c ((fe v).map λo=>(vs.getD o.toNat hF).len)))=((List.range 3).all (okF v i)&&i8 v.op v.len v.c (jE vs v 0) (jE vs v 1) (jE vs v 2)):=by
   rw[Kd al,<-Bool.and_assoc];cases a2:(fe v).all (fR · i)
   ·simp
   unfold i8;rw[Ke l a2,mD hb.2.2.1 hb.2.2.2,Bool.true_and]
  rw[e];exact DK w _ _ _ _ _ _ _ _ _ _ i v _ aa hi bi l aO xaa hb.2.1 hb.2.2.1 hb.2.2.2
 have e:((lenB v.len&&fW v)&&(if v.op=0 then fR v.a ins.length&&v.len==ins.getD v.a.toNat 0 else (fe v).all (fR · i)&&eV v.op v.len v.c ((fe v).map λo=>(vs.getD o.toNat hF).len)))=false:=by
  by_cases af:1<=v.len/\v.len<=1000
  ·have ho:¬(0<=v.op/\v.op<=13):=xaa;rw[hC xaa,vr ho,Bool.and_false,Bool.and_false]
  rw[pB af,Bool.false_and,Bool.false_and]
 rw[e];exact DJ w _ _ _ _ _ _ _ _ _ _ i v aa hi a7 hb
theorem zl{ins k}(h:(List.range k).all (okV ins vs)=true):∀j,j<k->1<=(vs.getD j hF).len/\(vs.getD j hF).len<=1000:=λj hj=>
 fU (List.all_eq_true.1 h j (List.mem_range.2 hj))
theorem bQ.qcn(h:Zp:=by
 have HF:E _:=f.keep aI.o;have j:E _:=f.v.len;have bh:E _:=f.o.len;have bE:E _:=Ca _ _ _ _ _ c1 _ (f.keep aI.o).i;rw[aM]at bE;clear f aM;go_enter func5,ntmps5;go_wp2_with fail;refine yaj bE.o ?_;rintro e aA ⟨rfl,aw⟩;replace aT:=aT.keep aw;have g:E _:=HF.o.keep aw;have bX:E _:=aI.o.trans aw;clear aw HF aI bE;have aC:=aT.q1;have aL:=aT.q2;go_wp2_with fail;clear aC aL;have av:E _:=aT;clear aT;go_loopw [3] (λi W=>∃k:Nat,k<=n2/\i=hA k/\E ((List.range k).all (okV ins vs)=true)/\Kept 0 0 aA W) (λi _=>n2-(intOf i).toNat)
 case atStart=>exact⟨0,yae,rfl,rfl,Kept.refl _ _ _⟩
 case round=>
  obtain⟨k,O,rfl,a2,z⟩:=hrel;obtain⟨_,aY,aC,aL⟩:=av.o.keep z;by_cases aG:k<n2
  ·have ar:E _:=PB _ _ _ _ _ c1 _ c2 _ c3 k _ _ _ (g.o.keep z) aG (zl a2.o);cases an:okV ins vs k
   ·rw[an]at ar;have H:E _:=kz aG an;have R2:E _:=bX.o.trans z;clear an a2 z;go_wp2_with fail;refine yaj ar.o ?_;rintro e ag ⟨rfl,bP⟩;clear aY aC aL;go_wp2;go_ret;exact⟨hO H.o,R2.o.trans bP⟩
   rw[an]at ar;have H:E _:=jh a2.o an;have Q:E _:=z;clear an a2 z;go_wp2_with fail;refine yaj ar.o ?_;rintro e ag ⟨rfl,bP⟩;have R2:E _:=Q.o.trans bP;clear aY aC aL bP;go_wp2;go_roundw;exact⟨k+1,by omega,by go_num,H,R2.o⟩;simp[intOf];omega
  have R1:E ((List.range n2).all (okV ins vs)=true):=by grind
  have bU:E _:=g.o.keep z;have bB:E _:=bX.o.trans z;have HC:E (∀W,Drawn _ W->_):=λW aK=>Cb W _ _ _ _ c1 _ c2 _ c3 _ _ _ (bU.o.keep (aK.kept 0 0)) N (zl R1.o);have bY:E (∀W,Drawn _ W->W.cell? _=some _/\W.cell? _=some _/\W.cell? _=some _):=λW aK=>⟨hL aK.cell aY,hL aK.cell aC,hL aK.cell aL⟩
  clear a2 z;go_wp2_with fail;clear aY aC aL;go_loopw [4] (λi W=>∃k:Nat,k<=ab/\i=hA k/\E ((outs.take k).all (fR · n2)=true)/\Drawn wr W) (λi _=>ab-(intOf i).toNat)
  case atStart=>exact⟨0,yae,rfl,rfl,Drawn.refl _⟩
  case round=>
   obtain⟨aR,aV,rfl,a2,bl⟩:=hrel;obtain⟨aY,aC,aL⟩:=bY.o _ bl;have HD:E _:=bl;by_cases ci:aR<ab
   ·rcases bU.o.o.at_ with bD|⟨az,bv,b5,aQ,a8,bi,bk⟩
    ·omega
    have c:=(bl.cell _).trans (bk _ ci);have bm:(0:Int)<=aR:=xaa;have aO:(aR:Int)<ab:=xaa;subst b5;clear aQ a8 bi bk bl;cases an:fR (outs.getD aR 0) n2
    ·have H:E (outs.all (fR · _)=false):=mF (hL bh.o ci) an;have aj:=of_decide_eq_false an;generalize outs.getD _ 0=y at c aj;clear an a2;rcases (by omega:y<0\/(0<=y/\n2<=y)) with bN|⟨bN,n⟩
     ·have aX:=decide_eq_true bN;exact xfg
     have aX:decide (y<0)=false:=yay xaa;have bb:=decide_eq_true n;exact xfg
    have H:E _:=lG (hL bh.o ci) a2.o an;have aj:=of_decide_eq_true an;generalize outs.getD _ 0=y at c aj;obtain⟨bN,n⟩:=aj;have aX:decide (y<0)=false:=yay xaa;have bb:decide (n2<=y)=false:=yay xaa;clear an a2;go_wp2_with fail;go_quiet (fail)
    go_wp2;go_roundw;exact⟨aR+1,by omega,by go_num,H,Drawn.more HD.o _⟩;simp[intOf];omega
   have s:E (outs.all (fR · n2)=true):=by
    exact xhs
   have bW:E _:=HC.o _ bl;clear a2 bl;go_wp2_with fail;refine yaj bW.o ?_;rintro e bj ⟨rfl,r⟩;clear aY aC aL;go_wp2;go_ret;exact⟨by rw[R1.o,s.o];rfl,(bB.o.trans (Drawn.kept HD.o 0 0)).trans r⟩):Zp:=h
open bQ in
theorem xn(w a1 U a3 Z c1 n2 c2 ab c3 ins vs outs)(f:GS w a1 Z U n2 a3 ab ins vs outs)(N:n2<=2000)(h3:ab<=50)(aM:(decide (Z<=20)&&ins.all lenB)=true):
  Calls prog 5 #[eZ a1 Z c1 U n2 c2 a3 ab c3] w λe B=>e=.returned (.bool ((List.range n2).all (okV ins vs)&&(outs.all (fR · n2)&&decide (eU vs<=50000))))/\Kept 0 0 w B:=by
 exact qcm
theorem bR.qcn(h:Zp:=by
 have bE:E _:=Ca _ _ _ _ _ c1 _ (f.keep aI.o).i;clear f;cases aM:(decide (Z<=20)&&ins.all lenB)
 ·rw[aM]at bE;exact xej
 rw[aM]at bE;by_cases N:n2<=2000
 ·have h3:50<ab:=by simp_all
  exact xej
 have h3:2000<n2:=xaa;clear h aM N;go_enter func5,ntmps5;go_wp2_with fail;refine yaj bE.o ?_;rintro e aA ⟨rfl,aw⟩;obtain⟨_,aY,aC,aL⟩:=aT.keep aw;clear aT;go_wp2
 all_goals
  go_ret
  exact⟨rfl,aI.o.trans aw⟩):Zp:=h
open bR in
theorem se(w a1 U a3 Z c1 n2 c2 ab c3 ins vs outs)(f:GS w a1 Z U n2 a3 ab ins vs outs)(h:¬(((decide (Z<=20)&&ins.all lenB)=true)/\n2<=2000/\ab<=50)):
  Calls prog 5 #[eZ a1 Z c1 U n2 c2 a3 ab c3] w λe B=>e=.returned (.bool false)/\Kept 0 0 w B:=by
 exact qcm
theorem oU(w a1 U a3 Z c1 n2 c2 ab c3 ins vs outs)(f:GS w a1 Z U n2 a3 ab ins vs outs):
  Calls prog 5 #[eZ a1 Z c1 U n2 c2 a3 ab c3] w λe B=>e=.returned (.bool (okG ins vs outs))/\Kept 0 0 w B:=by
 unfold okG;rw[f.i.len,f.v.len,f.o.len];by_cases h:((decide (Z<=20)&&ins.all lenB)=true)/\n2<=2000/\ab<=50
 ·have h':=h.1;rw[Bool.and_eq_true]at h';rw[decide_eq_true (show Z<=20/\n2<=2000/\ab<=50 from⟨of_decide_eq_true h'.1,h.2⟩),h'.2,Bool.true_and,Bool.true_and];exact xn w _ _ _ _ _ _ _ _ _ _ _ _ f h.2.1 h.2.2 h.1
 have e:(decide (Z<=20/\n2<=2000/\ab<=50)&&(ins.all lenB&&((List.range n2).all (okV ins vs)&&(outs.all (fR · n2)&&decide (eU vs<=50000)))))=false:=by grind
 rw[e];exact se w _ _ _ _ _ _ _ _ _ _ _ _ f h
