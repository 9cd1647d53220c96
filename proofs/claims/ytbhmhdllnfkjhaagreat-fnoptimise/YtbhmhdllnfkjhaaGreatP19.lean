import Derived.Test.YtbhmhdllnfkjhaaGreatP15
import Derived.Test.YtbhmhdllnfkjhaaGreatP17
namespace Go.Proofs.Z
variable{Zp:Prop}
open Tryz
set_option maxRecDepth 1000000
set_option maxHeartbeats 0
open Go.RowKit Flt
attribute[local go_sem] eG eE eD
variable{vs0 vs us:List Vl}
theorem JJ{v i}(ae:v.op≠0):(List.range 3).all (okF v i)=(gg v&&(eQ v).all (fJ · i)):=by
 have ad:=f9 v.op;have t:=yan ae;have af:(List.range 3).all _=(okF v i 0&&(okF v i 1&&(okF v i 2&&true))):=rfl;rw[af];unfold okF gg eQ bne;rw[t];have bG:fld v 0=v.a:=rfl;have f1:fld v 1=v.b:=rfl;have f2:fld v 2=v.c:=rfl;rw[bG,f1,f2];rcases (by omega:cnt v.op=0\/cnt v.op=1\/cnt v.op=2\/cnt v.op=3) with h|h|h|h
 all_goals
  rw[h]
  simp only[List.take_succ_cons,List.take_zero,List.all_cons,List.all_nil]
  generalize (v.a==0)=x
  generalize (v.b==0)=y
  generalize (v.c==0)=z
  generalize iU _=p
  generalize fJ _ i=r
  generalize fJ _ i=s
  generalize fJ _ i=t
  revert x y z p r s t
  decide
theorem JK{v i}(ab:∀k,k<i->1<=(vs.getD k hI).len/\(vs.getD k hI).len<=1000)(h:(eQ v).all (fJ · i)=true):
  ([(jT vs v 0:Int),(jT vs v 1:Int),(jT vs v 2:Int)]).take (cnt v.op)=(eQ v).map λo=>(vs.getD o.toNat hI).len:=by
 have au:∀o,fJ o i=true->((vs.getD o.toNat hI).len.toNat:Int)=(vs.getD o.toNat hI).len:=λo al=>by
  have:=of_decide_eq_true al
  have:=ab o.toNat xaa
  omega
 have ad:=f9 v.op;have bT:0<cnt _->jT _ v 0=(vs.getD v.a.toNat _).len.toNat:=λc=>hG c;have n1:1<cnt _->jT _ v 1=(vs.getD v.b.toNat _).len.toNat:=λc=>hG c;have T:2<cnt _->jT _ v 2=(vs.getD v.c.toNat _).len.toNat:=λc=>hG c;unfold eQ at h⊢;rcases (by omega:cnt v.op=0\/cnt v.op=1\/cnt v.op=2\/cnt v.op=3) with e|e|e|e
 ·rw[e];rfl
 ·rw[bT xaa];rw[e]at h⊢;simp only[List.take_succ_cons,List.take_zero,List.all_cons,List.all_nil,Bool.and_true]at h;simp only[List.take_succ_cons,List.take_zero,List.map_cons,List.map_nil];rw[au _ h]
 ·rw[bT xaa,n1 xaa];rw[e]at h⊢;simp only[List.take_succ_cons,List.take_zero,List.all_cons,List.all_nil,Bool.and_true,Bool.and_eq_true]at h;simp only[List.take_succ_cons,List.take_zero,List.map_cons,List.map_nil];rw[au _ h.1,au _ h.2]
 rw[bT xaa,n1 xaa,T xaa];rw[e]at h⊢;simp only[List.take_succ_cons,List.take_zero,List.all_cons,List.all_nil,Bool.and_true,Bool.and_eq_true]at h;simp only[List.take_succ_cons,List.take_zero,List.map_cons,List.map_nil];rw[au _ h.1,au _ h.2.1,au _ h.2.2]
theorem rD{op len C xs}(h:¬(0<=op/\op<=13)):eY op len C xs=false:=by
 grind[eY]
theorem Pe(w a1 Y a3 n1 c1 T c2 n3 c3 i ins vs outs)(f:GS w a1 n1 Y T a3 n3 ins vs outs)(hi:i<T)
  (n:∀k,k<i->1<=(vs.getD k hI).len/\(vs.getD k hI).len<=1000):
  Calls prog 44 #[eV a1 n1 c1 Y T c2 a3 n3 c3,hD i] w λe I=>e=.returned (.bool (okV ins vs i))/\Kept 0 0 w I:=by
 rcases f.v.at_ with ae|⟨ap,bO,rfl,O,ax,Z,av⟩
 ·omega
 have be:=av i hi;unfold okV;generalize aD:vs.getD i _=v at be;by_cases hb:0<=v.op/\v.op<=13/\1<=v.len/\v.len<=1000
 ·rw[pl hb.2.2.1 hb.2.2.2,Bool.true_and];by_cases ae:v.op=0
  ·rw[hG ae,f.i.len];obtain⟨op,len,A,R,C,K⟩:=v;simp only at ae hb;subst ae
   have e:(gg ⟨0,len,A,R,C,K⟩&&(fJ A n1&&len==ins.getD A.toNat 0))=(((fJ A n1&&len==ins.getD A.toNat 0)&&R==0)&&C==0):=by
    have t:gg ⟨0,len,A,R,C,K⟩=(R==0&&C==0):=by
     simp[gg,cnt,iU,bne]
    rw[t];cases fJ A n1<;>cases (len==ins.getD A.toNat 0)<;>cases (R==0)<;>cases (C==0)<;>rfl
   show Calls _ _ _ _ λe I=>e=.returned (.bool (gg ⟨0,len,A,R,C,K⟩&&(fJ A n1&&len==ins.getD A.toNat 0)))/\_;rw[e];exact yN w _ _ _ _ _ _ _ _ _ _ i _ A R C K _ f.i Z hi be hb.2.2.1 hb.2.2.2
  rw[hF ae]
  have e:(gg v&&((eQ v).all (fJ · i)&&eY v.op v.len v.c ((eQ v).map λo=>(vs.getD o.toNat hI).len)))=((List.range 3).all (okF v i)&&jm v.op v.len v.c (jT vs v 0) (jT vs v 1) (jT vs v 2)):=by
   rw[JJ ae,<-Bool.and_assoc];cases aU:(eQ v).all (fJ · i)
   ·simp
   unfold jm;rw[JK n aU,pl hb.2.2.1 hb.2.2.2,Bool.true_and]
  rw[e];exact Dm w _ _ _ _ _ _ _ _ _ _ i v _ Z hi av n aD xaa hb.2.1 hb.2.2.1 hb.2.2.2
 have e:((lenB v.len&&gg v)&&(if v.op=0 then fJ v.a ins.length&&v.len==ins.getD v.a.toNat 0 else (eQ v).all (fJ · i)&&eY v.op v.len v.c ((eQ v).map λo=>(vs.getD o.toNat hI).len)))=false:=by
  by_cases ab:1<=v.len/\v.len<=1000
  ·have al:¬(0<=v.op/\v.op<=13):=xaa;rw[hF xaa,rD al,Bool.and_false,Bool.and_false]
  rw[pV ab,Bool.false_and,Bool.false_and]
 rw[e];exact Dl w _ _ _ _ _ _ _ _ _ _ i v Z hi be hb
theorem zh{ins k}(h:(List.range k).all (okV ins vs)=true):∀j,j<k->1<=(vs.getD j hI).len/\(vs.getD j hI).len<=1000:=λj hj=>
 ir (List.all_eq_true.1 h j (List.mem_range.2 hj))
theorem cJ.qcp(h:Zp:=by
 have aI:V _:=f.keep aw.o;have ab:V _:=f.v.len;have j:V _:=f.o.len;have s:V _:=BV _ _ _ _ _ c1 _ (f.keep aw.o).i;rw[a6]at s;clear f a6;go_enter func16,ntmps16;go_wp2_with fail;refine yaj s.o ?_;rintro e aO ⟨rfl,aj⟩;replace aS:=aS.keep aj;have g:V _:=aI.o.keep aj;have bY:V _:=aw.o.trans aj;clear aj aI aw s;have aL:=aS.q1;have aJ:=aS.q2;go_wp2_with fail;clear aL aJ;have aA:V _:=aS;clear aS;go_loopw [3] (λi W=>∃k:Nat,k<=T/\i=hD k/\V ((List.range k).all (okV ins vs)=true)/\Kept 0 0 aO W) (λi _=>T-(intOf i).toNat)
 case atStart=>exact⟨0,yae,rfl,rfl,Kept.refl _ _ _⟩
 case round=>
  obtain⟨k,N,rfl,aU,r⟩:=hrel;obtain⟨_,bd,aL,aJ⟩:=aA.o.keep r;by_cases aC:k<T
  ·have bn:V _:=Pe _ _ _ _ _ c1 _ c2 _ c3 k _ _ _ (g.o.keep r) aC (zh aU.o);cases ak:okV ins vs k
   ·rw[ak]at bn;have U:V _:=mb aC ak;have R2:V _:=bY.o.trans r;clear ak aU r;go_wp2_with fail;refine yaj bn.o ?_;rintro e ag ⟨rfl,b2⟩;clear bd aL aJ;go_wp2;go_ret;exact⟨hS U.o,R2.o.trans b2⟩
   rw[ak]at bn;have U:V _:=kZ aU.o ak;have bl:V _:=r;clear ak aU r;go_wp2_with fail;refine yaj bn.o ?_;rintro e ag ⟨rfl,b2⟩;have R2:V _:=bl.o.trans b2;clear bd aL aJ b2;go_wp2;go_roundw;exact⟨k+1,by omega,by go_num,U,R2.o⟩;simp[intOf];omega
  have R1:V ((List.range T).all (okV ins vs)=true):=by
   have:=aU.o;rw[show k=T by omega]at this;exact this
  have aH:V _:=g.o.keep r;have bD:V _:=bY.o.trans r;have bc:V (∀W,Drawn _ W->_):=λW G=>BW W _ _ _ _ c1 _ c2 _ c3 _ _ _ (aH.o.keep (G.kept 0 0)) J (zh R1.o);have bZ:V (∀W,Drawn _ W->W.cell? _=some _/\W.cell? _=some _/\W.cell? _=some _):=λW G=>⟨hO G.cell bd,hO G.cell aL,hO G.cell aJ⟩
  clear aU r;go_wp2_with fail;clear bd aL aJ;go_loopw [4] (λi W=>∃k:Nat,k<=n3/\i=hD k/\V ((outs.take k).all (fJ · T)=true)/\Drawn wr W) (λi _=>n3-(intOf i).toNat)
  case atStart=>exact⟨0,yae,rfl,rfl,Drawn.refl _⟩
  case round=>
   obtain⟨aF,aM,rfl,aU,a5⟩:=hrel;obtain⟨bd,aL,aJ⟩:=bZ.o _ a5;have HD:V _:=a5;by_cases cx:aF<n3
   ·rcases aH.o.o.at_ with bC|⟨bw,bh,b4,aN,a2,bk,bq⟩
    ·omega
    have c:=(a5.cell _).trans (bq _ cx);have b9:(0:Int)<=aF:=xaa;have bK:(aF:Int)<n3:=xaa;subst b4;clear aN a2 bk bq a5;cases ak:fJ (outs.getD aF 0) T
    ·have U:V (outs.all (fJ · _)=false):=oB (hO j.o cx) ak;have ah:=of_decide_eq_false ak;generalize outs.getD _ 0=y at c ah;clear ak aU;rcases (by omega:y<0\/(0<=y/\T<=y)) with bX|⟨bX,p⟩
     ·have aP:=decide_eq_true bX;exact xfo
     have aP:decide (y<0)=false:=yay xaa;have aY:=decide_eq_true p;exact xfo
    have U:V _:=mU (hO j.o cx) aU.o ak;have ah:=of_decide_eq_true ak;generalize outs.getD _ 0=y at c ah;obtain⟨bX,p⟩:=ah;have aP:decide (y<0)=false:=yay xaa;have aY:decide (T<=y)=false:=yay xaa;clear ak aU;go_wp2_with fail;go_quiet (fail)
    go_wp2;go_roundw;exact⟨aF+1,by omega,by go_num,U,Drawn.more HD.o _⟩;simp[intOf];omega
   have z:V (outs.all (fJ · T)=true):=by
    exact xim
   have bF:V _:=bc.o _ a5;clear aU a5;go_wp2_with fail;refine yaj bF.o ?_;rintro e bg ⟨rfl,F⟩;clear bd aL aJ;go_wp2;go_ret;exact⟨by rw[R1.o,z.o];rfl,(bD.o.trans (Drawn.kept HD.o 0 0)).trans F⟩):Zp:=h
open cJ in
theorem xA(w a1 Y a3 n1 c1 T c2 n3 c3 ins vs outs)(f:GS w a1 n1 Y T a3 n3 ins vs outs)(J:T<=2000)(h3:n3<=50)(a6:(decide (n1<=20)&&ins.all lenB)=true):
  Calls prog 16 #[eV a1 n1 c1 Y T c2 a3 n3 c3] w λe I=>e=.returned (.bool ((List.range T).all (okV ins vs)&&(outs.all (fJ · T)&&decide (fd vs<=50000))))/\Kept 0 0 w I:=by
 exact qco
theorem cK.qcp(h:Zp:=by
 have s:V _:=BV _ _ _ _ _ c1 _ (f.keep aw.o).i;clear f;cases a6:(decide (n1<=20)&&ins.all lenB)
 ·rw[a6]at s;exact xes
 rw[a6]at s;by_cases J:T<=2000
 ·have h3:50<n3:=by
   rcases Nat.lt_or_ge 50 n3 with c|c
   ·exact c
   exact absurd ⟨a6,J,c⟩ h
  exact xes
 have h3:2000<T:=xaa;clear h a6 J;go_enter func16,ntmps16;go_wp2_with fail;refine yaj s.o ?_;rintro e aO ⟨rfl,aj⟩;obtain⟨_,bd,aL,aJ⟩:=aS.keep aj;clear aS;go_wp2
 all_goals
  go_ret
  exact⟨rfl,aw.o.trans aj⟩):Zp:=h
open cK in
theorem sF(w a1 Y a3 n1 c1 T c2 n3 c3 ins vs outs)(f:GS w a1 n1 Y T a3 n3 ins vs outs)(h:¬(((decide (n1<=20)&&ins.all lenB)=true)/\T<=2000/\n3<=50)):
  Calls prog 16 #[eV a1 n1 c1 Y T c2 a3 n3 c3] w λe I=>e=.returned (.bool false)/\Kept 0 0 w I:=by
 exact qco
theorem vG(w a1 Y a3 n1 c1 T c2 n3 c3 ins vs outs)(f:GS w a1 n1 Y T a3 n3 ins vs outs):
  Calls prog 16 #[eV a1 n1 c1 Y T c2 a3 n3 c3] w λe I=>e=.returned (.bool (okG ins vs outs))/\Kept 0 0 w I:=by
 unfold okG;rw[f.i.len,f.v.len,f.o.len];by_cases h:((decide (n1<=20)&&ins.all lenB)=true)/\T<=2000/\n3<=50
 ·have h':=h.1;rw[Bool.and_eq_true]at h';rw[decide_eq_true (show n1<=20/\T<=2000/\n3<=50 from⟨of_decide_eq_true h'.1,h.2⟩),h'.2,Bool.true_and,Bool.true_and];exact xA w _ _ _ _ _ _ _ _ _ _ _ _ f h.2.1 h.2.2 h.1
 have e:(decide (n1<=20/\T<=2000/\n3<=50)&&(ins.all lenB&&((List.range T).all (okV ins vs)&&(outs.all (fJ · T)&&decide (fd vs<=50000)))))=false:=by
  rw[Bool.and_eq_false_iff];by_cases hn:n1<=20/\T<=2000/\n3<=50
  ·right;rw[Bool.and_eq_false_iff];left;rw[Bool.eq_false_iff];intro c;exact h ⟨by rw[Bool.and_eq_true];exact⟨decide_eq_true hn.1,c⟩,hn.2⟩
  left;exact yay hn
 rw[e];exact sF w _ _ _ _ _ _ _ _ _ _ _ _ f h
def nH(i:Int)(v:Vl)(la:Int)(k:Nat)(d:Int)(N:Nat):List Vl×Int:=
 if v.op=2 then ([],d)
 else if v.op=3 then (if k=0 then ([],d)else ([eL 6 v.len d 0 0],N))
 else if v.op=4 then (if k=0 then ([eL 4 v.len d v.b 0],N)else ([eL 4 v.len d v.a 0],N))
 else if v.op=5 then (if k=0 then ([eL 5 v.len d v.b 0],N)else ([eL 4 v.len d i 0,eL 5 v.len N v.b 0,eL 6 v.len ((N+1:Nat):Int) 0 0],((N+2:Nat):Int)))
 else if v.op=6 then ([eL 6 v.len d 0 0],N)
 else if v.op=13 then ([eL 4 v.len d i 0],N)
 else if v.op=8 then (if k=1 then ([eL 1 v.len 0 0 0,eL 8 v.len v.a d N],((N+1:Nat):Int))else ([eL 1 v.len 0 0 0,eL 8 v.len v.a N d],((N+1:Nat):Int)))
 else if v.op=7 then (if k=0 then ([eL 3 v.len v.a v.b 0,eL 1 v.len 0 0 0,eL 8 v.len N d ((N+1:Nat):Int)],((N+2:Nat):Int))else ([eL 3 v.len v.a v.b 0,eL 1 v.len 0 0 0,eL 8 v.len N ((N+1:Nat):Int) d],((N+2:Nat):Int)))
 else if v.op=9 then ([eL 10 la d 0 0],N)
 else if v.op=10 then ([eL 9 1 d 0 0],N)
 else if v.op=11 then ([eL 12 la d 0 v.c],N)
 else ([eL 11 1 d 0 v.c],N)
def pJ(v:Vl)(k:Nat):Bool:=!(v.op==8&&k==0)
def Pre(vs0 us:List Vl):Prop:=∃r,us=vs0++r
theorem Pre.at_(h:Pre vs0 us){j}(hj:j<vs0.length):us.getD j hI=vs0.getD j hI/\j<us.length:=by
 obtain⟨r,rfl⟩:=h;grind
theorem Pre.app{a}(h:Pre vs0 us):Pre vs0 (us++a):=by
 obtain⟨r,rfl⟩:=h;exact⟨r++a,by rw[List.append_assoc]⟩
