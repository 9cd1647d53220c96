import Derived.Test.YtamokkcfibdghaaGreatP10
import Derived.Test.YtamokkcfibdghaaGreatP12
namespace Go.Proofs.Z
variable {Zp:Prop}
open Tryz Go.RowKit Flt
set_option maxRecDepth 1000000
set_option maxHeartbeats 0
section
attribute [local go_sem] eG eE eD
variable {vs0 vs us:List Vl}
theorem I9{v i}(aj:v.op≠0):(List.range 3).all (okF v i)=(gg v&&(eW v).all (fI · i)):=by
 have ai:=gK v.op;have t:=yam aj;have ak:(List.range 3).all _=(okF v i 0&&(okF v i 1&&(okF v i 2&&true))):=rfl;rw[ak];unfold okF gg eW bne;rw[t];have bG:fld v 0=v.a:=rfl;have f1:fld v 1=v.b:=rfl;have f2:fld v 2=v.c:=rfl;rw[bG,f1,f2];rcases (by omega:cnt v.op=0\/cnt v.op=1\/cnt v.op=2\/cnt v.op=3) with h|h|h|h
 all_goals
  rw[h]
  simp only[List.take_succ_cons,List.take_zero,List.all_cons,List.all_nil]
  generalize (v.a==0)=x
  generalize (v.b==0)=y
  generalize (v.c==0)=z
  generalize iX _=p
  generalize fI _ i=r
  generalize fI _ i=s
  generalize fI _ i=t
  revert x y z p r s t
  decide
theorem Ja{v i}(ah:∀k,k<i->1<=(vs.getD k hM).len/\(vs.getD k hM).len<=1000)(h:(eW v).all (fI · i)=true):
  ([(jY vs v 0:Int),(jY vs v 1:Int),(jY vs v 2:Int)]).take (cnt v.op)=(eW v).map λo=>(vs.getD o.toNat hM).len:=by
 have aw:∀o,fI o i=true->((vs.getD o.toNat hM).len.toNat:Int)=(vs.getD o.toNat hM).len:=λo av=>by
  have:=of_decide_eq_true av
  have:=ah o.toNat xaa
  omega
 have ai:=gK v.op;have b5:0<cnt _->jY _ v 0=(vs.getD v.a.toNat _).len.toNat:=λc=>hK c;have Y:1<cnt _->jY _ v 1=(vs.getD v.b.toNat _).len.toNat:=λc=>hK c;have U:2<cnt _->jY _ v 2=(vs.getD v.c.toNat _).len.toNat:=λc=>hK c;unfold eW at h⊢;rcases (by omega:cnt v.op=0\/cnt v.op=1\/cnt v.op=2\/cnt v.op=3) with e|e|e|e
 ·rw[e];rfl
 ·rw[b5 xaa];rw[e]at h⊢;simp only[List.take_succ_cons,List.take_zero,List.all_cons,List.all_nil,Bool.and_true]at h;simp only[List.take_succ_cons,List.take_zero,List.map_cons,List.map_nil];rw[aw _ h]
 ·rw[b5 xaa,Y xaa];rw[e]at h⊢;simp only[List.take_succ_cons,List.take_zero,List.all_cons,List.all_nil,Bool.and_true,Bool.and_eq_true]at h;simp only[List.take_succ_cons,List.take_zero,List.map_cons,List.map_nil];rw[aw _ h.1,aw _ h.2]
 rw[b5 xaa,Y xaa,U xaa];rw[e]at h⊢;simp only[List.take_succ_cons,List.take_zero,List.all_cons,List.all_nil,Bool.and_true,Bool.and_eq_true]at h;simp only[List.take_succ_cons,List.take_zero,List.map_cons,List.map_nil];rw[aw _ h.1,aw _ h.2.1,aw _ h.2.2]
theorem rh{op len C xs}(h:¬(0<=op/\op<=13)):eR op len C xs=false:=by
 grind [eR]
theorem OX(w a1 a2 a3 Y c1 U c2 Z c3 i ins vs outs)(f:GS w a1 Y a2 U a3 Z ins vs outs)(hi:i<U)
  (p:∀k,k<i->1<=(vs.getD k hM).len/\(vs.getD k hM).len<=1000):
  Calls prog 16 #[eZ a1 Y c1 a2 U c2 a3 Z c3,hI i] w λe J=>e=.returned (.bool (okV ins vs i))/\Kept 0 0 w J:=by
 rcases f.v.at_ with aj|⟨ag,bS,rfl,N,aA,ab,aI⟩
 ·omega
 have bg:=aI i hi;unfold okV;generalize aL:vs.getD i hM=v at bg;by_cases hb:0<=v.op/\v.op<=13/\1<=v.len/\v.len<=1000
 ·rw[oR hb.2.2.1 hb.2.2.2,Bool.true_and];by_cases aj:v.op=0
  ·rw[hK aj,f.i.len];obtain⟨op,len,A,I,C,K⟩:=v;simp only at aj hb;subst aj
   have e:(gg ⟨0,len,A,I,C,K⟩&&(fI A Y&&len==ins.getD A.toNat 0))=(((fI A Y&&len==ins.getD A.toNat 0)&&I==0)&&C==0):=by
    have t:gg ⟨0,len,A,I,C,K⟩=(I==0&&C==0):=by
     simp[gg,cnt,iX,bne]
    rw[t];cases fI A Y<;>cases (len==ins.getD A.toNat 0)<;>cases (I==0)<;>cases (C==0)<;>rfl
   show Calls _ _ _ _ λe J=>e=.returned (.bool (gg ⟨0,len,A,I,C,K⟩&&(fI A Y&&len==ins.getD A.toNat 0)))/\_;rw[e];exact yB w a1 a3 Y c1 U c2 Z c3 ag bS i len A I C K ins f.i ab hi bg hb.2.2.1 hb.2.2.2
  rw[hJ aj]
  have e:(gg v&&((eW v).all (fI · i)&&eR v.op v.len v.c ((eW v).map λo=>(vs.getD o.toNat hM).len)))=((List.range 3).all (okF v i)&&fk v.op v.len v.c (jY vs v 0) (jY vs v 1) (jY vs v 2)):=by
   rw[I9 aj,<-Bool.and_assoc];cases a7:(eW v).all (fI · i)
   ·simp
   unfold fk;rw[Ja p a7,oR hb.2.2.1 hb.2.2.2,Bool.true_and]
  rw[e];exact CR w a1 a3 Y c1 U c2 Z c3 ag bS i v vs ab hi aI p aL xaa hb.2.1 hb.2.2.1 hb.2.2.2
 have e:((lenB v.len&&gg v)&&(if v.op=0 then fI v.a ins.length&&v.len==ins.getD v.a.toNat 0 else (eW v).all (fI · i)&&eR v.op v.len v.c ((eW v).map λo=>(vs.getD o.toNat hM).len)))=false:=by
  by_cases ah:1<=v.len/\v.len<=1000
  ·have av:¬(0<=v.op/\v.op<=13):=xaa;rw[hJ xaa,rh av,Bool.and_false,Bool.and_false]
  rw[pH ah,Bool.false_and,Bool.false_and]
 rw[e];exact CQ w a1 a3 Y c1 U c2 Z c3 ag bS i v ab hi bg hb
theorem yN{ins k}(h:(List.range k).all (okV ins vs)=true):∀j,j<k->1<=(vs.getD j hM).len/\(vs.getD j hM).len<=1000:=λj hj=>
 iu (List.all_eq_true.1 h j (List.mem_range.2 hj))
theorem cP.qcx(h:Zp:=by
 have aP:V _:=f.keep aH.o;have C:V (vs.length=U):=f.v.len;have j:V (outs.length=Z):=f.o.len;have o:V _:=BJ _ _ _ _ _ c1 _ (f.keep aH.o).i;rw[bB]at o;clear f bB;go_enter func5,ntmps5;go_wp2_with fail;refine yai o.o ?_;rintro e aB ⟨rfl,an⟩;replace aS:=aS.keep an;have g:V _:=aP.o.keep an;have bW:V _:=aH.o.trans an;clear an aP aH o;have aO:=aS.q1;have aR:=aS.q2;go_wp2_with fail;clear aO aR;have aI:V _:=aS;clear aS;go_loopw [3] (λi W=>∃k:Nat,k<=U/\i=hI k/\V ((List.range k).all (okV ins vs)=true)/\Kept 0 0 aB W) (λi _=>U-(intOf i).toNat)
 case atStart=>exact⟨0,Nat.zero_le _,rfl,rfl,Kept.refl _ _ _⟩
 case round=>
  obtain⟨k,O,rfl,a7,r⟩:=hrel;obtain⟨_,ba,aO,aR⟩:=aI.o.keep r;by_cases aF:k<U
  ·have bv:V _:=OX wr a1 a2 a3 Y c1 U c2 Z c3 k ins vs outs (g.o.keep r) aF (yN a7.o);cases au:okV ins vs k
   ·rw[au]at bv;have aa:V ((List.range U).all (okV ins vs)=false):=lX aF au;have R2:V _:=bW.o.trans r;clear au a7 r;go_wp2_with fail;refine yai bv.o ?_;rintro e af ⟨rfl,bY⟩;clear ba aO aR;go_wp2;go_ret;exact⟨hX aa.o,R2.o.trans bY⟩
   rw[au]at bv;have aa:V _:=kV a7.o au;have cq:V _:=r;clear au a7 r;go_wp2_with fail;refine yai bv.o ?_;rintro e af ⟨rfl,bY⟩;have R2:V _:=cq.o.trans bY;clear ba aO aR bY;go_wp2;go_roundw
   case rel=>exact⟨k+1,by omega,by go_num,aa,R2.o⟩
   case measure=>simp[intOf];omega
  have R1:V ((List.range U).all (okV ins vs)=true):=by
   have:=a7.o;rw[show k=U by omega]at this;exact this
  have aK:V _:=g.o.keep r;have bN:V _:=bW.o.trans r;have bl:V (∀W,Drawn wr W->_):=λW aV=>BK W a1 a2 a3 Y c1 U c2 Z c3 ins vs outs (aK.o.keep (aV.kept 0 0)) R (yN R1.o);have ce:V (∀W,Drawn wr W->W.cell? ⟨w.heap.size,0,none⟩=some (.slice a1 Y c1)/\W.cell? ⟨w.heap.size,1,none⟩=some (.slice a2 U c2)/\W.cell? ⟨w.heap.size,2,none⟩=some (.slice a3 Z c3)):=λW aV=>⟨hU aV.cell ba,hU aV.cell aO,hU aV.cell aR⟩
  clear a7 r;go_wp2_with fail;clear ba aO aR;go_loopw [4] (λi W=>∃k:Nat,k<=Z/\i=hI k/\V ((outs.take k).all (fI · U)=true)/\Drawn wr W) (λi _=>Z-(intOf i).toNat)
  case atStart=>exact⟨0,Nat.zero_le _,rfl,rfl,Drawn.refl _⟩
  case round=>
   obtain⟨aM,aU,rfl,a7,bf⟩:=hrel;obtain⟨ba,aO,aR⟩:=ce.o _ bf;have HD:V _:=bf;by_cases b6:aM<Z
   ·rcases aK.o.o.at_ with bM|⟨aG,bF,b1,aZ,be,bz,bE⟩
    ·omega
    have c:=(bf.cell _).trans (bE aM b6);have b4:0<=(aM:Int):=xaa;have bi:(aM:Int)<Z:=xaa;subst b1;clear aZ be bz bE bf;cases au:fI (outs.getD aM 0) U
    ·have aa:V (outs.all (fI · U)=false):=nY (hU j.o b6) au;have am:¬(0<=outs.getD aM 0/\outs.getD aM 0<U):=of_decide_eq_false au;generalize outs.getD aM 0=y at c am;clear au a7;rcases (by omega:y<0\/(0<=y/\(U:Int)<=y)) with bV|⟨bV,q⟩
     ·have aQ:decide (y<0)=true:=decide_eq_true bV;exact xha
     have aQ:decide (y<0)=false:=yax xaa;have a6:decide ((U:Int)<=y)=true:=decide_eq_true q;exact xha
    have aa:V _:=mN (p:=(fI · U)) (hU j.o b6) a7.o au;have am:0<=outs.getD aM 0/\outs.getD aM 0<U:=of_decide_eq_true au;generalize outs.getD aM 0=y at c am;obtain⟨bV,q⟩:=am;have aQ:decide (y<0)=false:=yax xaa;have a6:decide ((U:Int)<=y)=false:=yax xaa;clear au a7;go_wp2_with fail;go_quiet (fail)
    go_wp2;go_roundw
    case rel=>exact⟨aM+1,by omega,by go_num,aa,Drawn.more HD.o _⟩
    case measure=>simp[intOf];omega
   have bm:V (outs.all (fI · U)=true):=by
    exact xjx
   have bw:V _:=bl.o _ bf;clear a7 bf;go_wp2_with fail;refine yai bw.o ?_;rintro e bo ⟨rfl,ab⟩;clear ba aO aR;go_wp2;go_ret;exact⟨by rw[R1.o,bm.o];rfl,(bN.o.trans (Drawn.kept HD.o 0 0)).trans ab⟩):Zp:=h
open cP in
theorem wZ(w a1 a2 a3 Y c1 U c2 Z c3 ins vs outs)(f:GS w a1 Y a2 U a3 Z ins vs outs)(R:U<=2000)(h3:Z<=50)(bB:(decide (Y<=20)&&ins.all lenB)=true):
  Calls prog 5 #[eZ a1 Y c1 a2 U c2 a3 Z c3] w λe J=>e=.returned (.bool ((List.range U).all (okV ins vs)&&(outs.all (fI · U)&&decide (fe vs<=50000))))/\Kept 0 0 w J:=by
 exact qcw
theorem cQ.qcx(h:Zp:=by
 have o:V _:=BJ _ _ _ _ _ c1 _ (f.keep aH.o).i;clear f;cases bB:(decide (Y<=20)&&ins.all lenB)
 ·rw[bB]at o;exact xgc
 rw[bB]at o;by_cases R:U<=2000
 ·have h3:50<Z:=by
   rcases Nat.lt_or_ge 50 Z with c|c
   ·exact c
   exact absurd ⟨bB,R,c⟩ h
  exact xgc
 have h3:2000<U:=xaa;clear h bB R;go_enter func5,ntmps5;go_wp2_with fail;refine yai o.o ?_;rintro e aB ⟨rfl,an⟩;obtain⟨_,ba,aO,aR⟩:=aS.keep an;clear aS;go_wp2
 all_goals
  go_ret
  exact⟨rfl,aH.o.trans an⟩):Zp:=h
open cQ in
theorem sf(w a1 a2 a3 Y c1 U c2 Z c3 ins vs outs)(f:GS w a1 Y a2 U a3 Z ins vs outs)(h:¬(((decide (Y<=20)&&ins.all lenB)=true)/\U<=2000/\Z<=50)):
  Calls prog 5 #[eZ a1 Y c1 a2 U c2 a3 Z c3] w λe J=>e=.returned (.bool false)/\Kept 0 0 w J:=by
 exact qcw
theorem ri(w a1 a2 a3 Y c1 U c2 Z c3 ins vs outs)(f:GS w a1 Y a2 U a3 Z ins vs outs):
  Calls prog 5 #[eZ a1 Y c1 a2 U c2 a3 Z c3] w λe J=>e=.returned (.bool (okG ins vs outs))/\Kept 0 0 w J:=by
 unfold okG;rw[f.i.len,f.v.len,f.o.len];by_cases h:((decide (Y<=20)&&ins.all lenB)=true)/\U<=2000/\Z<=50
 ·have h':=h.1;rw[Bool.and_eq_true]at h';rw[decide_eq_true (show Y<=20/\U<=2000/\Z<=50 from⟨of_decide_eq_true h'.1,h.2⟩),h'.2,Bool.true_and,Bool.true_and];exact wZ w a1 a2 a3 Y c1 U c2 Z c3 ins vs outs f h.2.1 h.2.2 h.1
 have e:(decide (Y<=20/\U<=2000/\Z<=50)&&(ins.all lenB&&((List.range U).all (okV ins vs)&&(outs.all (fI · U)&&decide (fe vs<=50000)))))=false:=by
  rw[Bool.and_eq_false_iff];by_cases hn:Y<=20/\U<=2000/\Z<=50
  ·right;rw[Bool.and_eq_false_iff];left;rw[Bool.eq_false_iff];intro c;exact h ⟨by rw[Bool.and_eq_true];exact⟨decide_eq_true hn.1,c⟩,hn.2⟩
  left;exact yax hn
 rw[e];exact sf w a1 a2 a3 Y c1 U c2 Z c3 ins vs outs f h
def nw (i:Int)(v:Vl)(la:Int)(k:Nat)(d:Int)(N:Nat):List Vl×Int:=
 if v.op=2 then ([],d)
 else if v.op=3 then (if k=0 then ([],d)else ([eL 6 v.len d 0 0],N))
 else if v.op=4 then (if k=0 then ([eL 4 v.len d v.b 0],N)else ([eL 4 v.len d v.a 0],N))
 else if v.op=5 then (if k=0 then ([eL 5 v.len d v.b 0],N)else ([eL 4 v.len d i 0,eL 5 v.len N v.b 0,eL 6 v.len ((N+1:Nat):Int) 0 0],((N+2:Nat):Int)))
 else if v.op=6 then ([eL 6 v.len d 0 0],N)
 else if v.op=13 then ([eL 4 v.len d i 0],N)
 else if v.op=8 then (if k=1 then ([eL 1 v.len 0 0 0,eL 8 v.len v.a d N],((N+1:Nat):Int))else ([eL 1 v.len 0 0 0,eL 8 v.len v.a N d],((N+1:Nat):Int)))
 else if v.op=7 then (if k=0 then ([eL 3 v.len v.a v.b 0,eL 1 v.len 0 0 0,eL 8 v.len N d ((N+1:Nat):Int)],((N+2:Nat):Int))else ([eL 3 v.len v.a v.b 0,eL 1 v.len 0 0 0,eL 8 v.len N ((N+1:Nat):Int) d],((N+2:Nat):Int)))
 else if v.op=9 then ([eL 10 la d 0 0],N)
 else if v.op=10 then ([eL 9 1 d 0 0],N)
 else if v.op=11 then ([eL 12 la d 0 v.c],N)
 else ([eL 11 1 d 0 v.c],N)
def pq (v:Vl)(k:Nat):Bool:=!(v.op==8&&k==0)
def Pre (vs0 us:List Vl):Prop:=∃r,us=vs0++r
theorem Pre.at_(h:Pre vs0 us){j}(hj:j<vs0.length):us.getD j hM=vs0.getD j hM/\j<us.length:=by
 obtain⟨r,rfl⟩:=h;grind
theorem Pre.app{a}(h:Pre vs0 us):Pre vs0 (us++a):=by
 obtain⟨r,rfl⟩:=h;exact⟨r++a,by rw[List.append_assoc]⟩
end
section
theorem jG{P w a m}(f r c):(store a (.func f r c) m).run P w=stored P w a (.func f r c) m:=run_store P w a _ m rfl
attribute [local go_sem] eG eE eD jG
end
section
attribute [local go_sem] eG eE eD jG
variable {vs0:List Vl}{act:List Bool}{st:List Vl×List Int}
def mz (vs0:List Vl)(o:Nat)(p:Int)(st:List Vl×List Int):List Vl×List Int:=
 if st.2.getD o 0=-1 then (st.1,st.2.set o p)else (st.1++[eL 2 (vs0.getD o hM).len (st.2.getD o 0) p 0],st.2.set o (st.1.length:Nat))
def laM (vs0:List Vl)(i:Nat):Int:=(vs0.getD (vs0.getD i hM).a.toNat hM).len
def gkM (vs0:List Vl)(act:List Bool)(i k:Nat)(st:List Vl×List Int):List Vl×List Int:=
 if act.getD (fld (vs0.getD i hM) k).toNat false=true/\pq (vs0.getD i hM) k=true then
  mz vs0 (fld (vs0.getD i hM) k).toNat (nw (i:Int) (vs0.getD i hM) (laM vs0 i) k (st.2.getD i 0) st.1.length).2 (st.1++(nw (i:Int) (vs0.getD i hM) (laM vs0 i) k (st.2.getD i 0) st.1.length).1,st.2)
 else st
def ki (vs0:List Vl)(act:List Bool)(i:Nat)(st:List Vl×List Int):Nat->List Vl×List Int
 |0=>st
 |k+1=>gkM vs0 act i k (ki vs0 act i st k)
def giM (vs0:List Vl)(act:List Bool)(i:Nat)(st:List Vl×List Int):List Vl×List Int:=
 if st.2.getD i 0=-1 then st else ki vs0 act i st (cnt (vs0.getD i hM).op)
def SzP (M:List Vl×Int):Prop:=M.1.length<=3/\0<=fe M.1/\fe M.1<=3000
theorem Jb{p}[Decidable p]{a b}(G:SzP a)(hb:SzP b):SzP (if p then a else b):=by split<;>assumption
theorem yP(i v l k d bQ)(aj:0<=v.len)(B:v.len<=1000)(R:0<=l)(h3:l<=1000):SzP (nw i v l k d bQ):=by
 unfold nw;repeat' (apply Jb)
 all_goals (unfold SzP;simp only[fe,yap,List.length_nil];omega)
theorem Jc{i k}(h:Pre vs0 st.1):Pre vs0 (gkM vs0 act i k st).1:=by
 unfold gkM mz;split
 ·split
  ·exact h.app
  exact h.app.app
 exact h
theorem tw{vs0 act i st}(h:Pre vs0 st.1):∀k,Pre vs0 (ki vs0 act i st k).1
 |0=>h
 |k+1=>Jc (tw h k)
theorem Jd{i k}:(gkM vs0 act i k st).2.length=st.2.length:=by
 unfold gkM mz;split
 ·split<;>simp
 rfl
theorem qt{vs0 act i st}:∀k,(ki vs0 act i st k).2.length=st.2.length
 |0=>rfl
 |k+1=>by rw[ki,Jd,qt k]
def ME (act:List Bool)(v:Vl):Bool:=(List.range (cnt v.op)).any λk=>act.getD (fld v k).toNat false
def jC (vs0:List Vl)(x:Nat):Nat->List Bool
 |0=>(List.replicate vs0.length false).set x true
 |m+1=>(jC vs0 x m).set (x+1+m) (ME (jC vs0 x m) (vs0.getD (x+1+m) hM))
theorem oe(vs0 x):∀m,(jC vs0 x m).length=vs0.length
 |0=>by simp[jC]
 |m+1=>by rw[jC,List.length_set,oe vs0 x m]
end
section
variable {vs0 us:List Vl}{L' L i:Nat}{act:List Bool}{C C':Int}{st:List Vl×List Int}
def SzU (L:Nat)(C:Int)(us:List Vl):Prop:=us.length<=L/\0<=fe us/\fe us<=C
theorem SzU.app{a}(h:SzU L C us)(h':SzU L' C' a):SzU (L+L') (C+C') (us++a):=by
 obtain⟨a1,a2,a3⟩:=h;obtain⟨N,aA,ab⟩:=h';refine⟨by grind,?_,?_⟩<;>(rw[tu];omega)
theorem SzU.mono(h:SzU L C us)(B:L<=L')(R:C<=C'):SzU L' C' us:=⟨yan h.1 B,h.2.1,Int.le_trans h.2.2 R⟩
def LnB (vs0:List Vl):Prop:=∀j,0<=(vs0.getD j hM).len/\(vs0.getD j hM).len<=1000
theorem rj(h:∀j,j<vs0.length->1<=(vs0.getD j hM).len/\(vs0.getD j hM).len<=1000):LnB vs0:=λj=>by
 by_cases hj:j<vs0.length
 ·grind
 ·rw[yah,List.getElem?_eq_none xaa]
  show 0<=(0:Int)/\(0:Int)<=1000
  omega
theorem Fl(bO:LnB vs0){o p}(h:SzU L C st.1):SzU (L+1) (C+1000) (mz vs0 o p st).1:=by
 unfold mz;split
 ·exact h.mono xaa xaa
 refine h.app ⟨by simp,?_,?_⟩<;>(simp only[fe];have:=bO o;omega)
theorem MF(bO:LnB vs0){k}(h:SzU L C st.1):SzU (L+4) (C+4000) (gkM vs0 act i k st).1:=by
 unfold gkM;split
 ·have aK:=yP i _ (laM _ i) k (st.2.getD i 0) st.1.length (bO i).1 (bO i).2 (bO _).1 (bO _).2;have:=Fl bO (o:=(fld (vs0.getD i hM) k).toNat) (p:=(nw (i:Int) (vs0.getD i hM) (laM vs0 i) k (st.2.getD i 0) st.1.length).2) (st:=(st.1++(nw (i:Int) (vs0.getD i hM) (laM vs0 i) k (st.2.getD i 0) st.1.length).1,st.2)) (SzU.app (L':=3) (C':=3000) h ⟨aK.1,aK.2.1,aK.2.2⟩);grind
 exact h.mono xaa xaa
theorem xd{vs0}(bO:LnB vs0){act i L C st}(h:SzU L C st.1):∀k:Nat,SzU (L+4*k) (C+4000*(k:Int)) (ki vs0 act i st k).1
 |0=>h.mono xaa xaa
 |k+1=>(MF bO (xd bO h k)).mono xaa xaa
theorem MG(bO:LnB vs0)(h:SzU L C st.1):SzU (L+12) (C+12000) (giM vs0 act i st).1:=by
 have:=gK (vs0.getD i hM).op;unfold giM;split
 ·exact h.mono xaa xaa
 exact(xd bO h _).mono xaa xaa
theorem Je(h:Pre vs0 st.1):Pre vs0 (giM vs0 act i st).1:=by
 grind [giM,tw]
theorem Jf:(giM vs0 act i st).2.length=st.2.length:=by
 grind [giM,qt]
def yR (vs0:List Vl)(act:List Bool)(x:Nat)(st:List Vl×List Int)(js:List Nat):List Vl×List Int:=js.foldl (λst j=>giM vs0 act (x+1+j) st) st
theorem AJ(vs0 act x st ba j):yR vs0 act x st (ba++[j])=giM vs0 act (x+1+j) (yR vs0 act x st ba):=by simp[yR]
def Fm (m:Nat):List Nat:=(List.range m).map (λi=>m-1-i)
def xe (vs0:List Vl)(s:Nat):List Vl×List Int:=(vs0++[⟨1,1,0,0,0,4607182418800017408⟩],(List.replicate vs0.length (-1)).set s (vs0.length:Nat))
def MH (vs0:List Vl)(x:Nat)(st:List Vl×List Int):List Vl×Int:=
 if st.2.getD x 0=-1 then (st.1++[eL 1 (vs0.getD x hM).len 0 0 0],(st.1.length:Nat))else (st.1,st.2.getD x 0)
def grM (vs0:List Vl)(s x:Nat):List Vl×Int:=
 if (jC vs0 x (s-x)).getD s false=true then MH vs0 x (yR vs0 (jC vs0 x (s-x)) x (xe vs0 s) (Fm (s-x)))
 else (vs0++[eL 1 (vs0.getD x hM).len 0 0 0],(vs0.length:Nat))
end
section
attribute [local go_sem] eG eE eD
theorem OY{ins vs}(P:(List.range vs.length).all (okV ins vs)=true):∀i,i<vs.length->((vs.getD i hM).op=9\/(vs.getD i hM).op=11)->∃j:Nat,(vs.getD i hM).a=(j:Int)/\j<vs.length/\(vs.getD j hM).len=laM vs i/\1<=laM vs i/\laM vs i<=1000:=λi hi av=>by
 have h:=my (List.all_eq_true.1 P i (List.mem_range.2 hi)) 0 (by rcases av with c|c<;>(rw[c];decide))
 have e:fld _ 0=(vs.getD i hM).a:=rfl
 rw[e]at h
 have hj:(vs.getD i hM).a.toNat<vs.length:=xaa
 have ah:=iu (List.all_eq_true.1 P _ (List.mem_range.2 hj))
 exact⟨_,by omega,hj,rfl,ah.1,ah.2⟩
end
section
variable {w W':World}{m1 ae m3 ak base cap ag:Nat}{N ab a2:Option Addr}{vs vs0:List Vl}{v:Vl}{aa R':Option Nat}
noncomputable abbrev PY (n:Nat):Code:=(Tryz.f145.body.bind (pA n)).getD .skip
def PtP (w:World)(b1:Option Addr)(m1 e1:Nat)(b3:Option Addr)(m3 e3:Nat)(vs:List Vl)(base:Nat)(R:Option Nat)(M:List Vl×Int)(bb:Bool)(e:Ending)(w':World):Prop:=
 ∃a2' cap' R',e=.returned (.tuple #[eZ b1 m1 e1 a2' (vs++M.1).length cap' b3 m3 e3,.int .i64 M.2,.bool bb])/\w'.ownsRow base 53 6 (.slice a2' (vs++M.1).length cap') (vs++M.1).length (fQ (vs++M.1))/\(Value.slice a2' (vs++M.1).length cap').ownBlock=R'/\StQ (λ_=>False) R w R' w'
theorem MS.finP{W M}(h:MS w W N m1 ae ab m3 ak vs v base aa R' a2 cap)(k:Kept 0 0 W W')(aL:vs=vs0++M.1)(bp):
  PtP w N m1 ae ab m3 ak vs0 base aa M bp (.returned (.tuple #[eZ N m1 ae a2 vs.length cap ab m3 ak,hI M.2,.bool bp])) (fB W' (w.heap.size+1) (.slice N m1 ae) (.slice a2 vs.length cap) (.slice ab m3 ak)):=by
 exact xfq
theorem xg(h:w.ownsRow base 53 6 (hH ag vs.length cap) vs.length (fQ vs))(k:Kept 0 0 w W')(r bp):
  PtP w N m1 ae ab m3 ak vs base (some ag) ([],r) bp (.returned (.tuple #[eZ N m1 ae (some ⟨ag,0,none⟩) vs.length cap ab m3 ak,hI r,.bool bp])) W':=by
 unfold PtP;exact xjr
theorem MS.finPR{W M bp}(h:MS w W N m1 ae ab m3 ak vs v base aa R' a2 cap)(C:∃aX,Kept 0 0 W aX/\W'=fB aX (w.heap.size+1) (.slice N m1 ae) (.slice a2 vs.length cap) (.slice ab m3 ak))(aL:vs=vs0++M.1):
  PtP w N m1 ae ab m3 ak vs0 base aa M bp (.returned (.tuple #[eZ N m1 ae a2 vs.length cap ab m3 ak,hI M.2,.bool bp])) W':=by
 grind [MS.finP]
def PtC (w:World)(b1 b3:Option Addr)(m1 e1 cap m3 e3 base g2 i:Nat)(vs:List Vl)(k d:Int)(M:List Vl×Int)(bb:Bool):Prop:=
 Calls prog 145 #[eZ b1 m1 e1 (some ⟨g2,0,none⟩) vs.length cap b3 m3 e3,.int .i64 (i:Int),.int .i64 k,.int .i64 d] w λe w'=>PtP w b1 m1 e1 b3 m3 e3 vs base (some g2) M bb e w'
theorem MS.len1{W}(h:MS w W N m1 ae ab m3 ak vs v base aa R' (some ⟨ag,0,none⟩) cap){j l}(hj:j<vs.length)(ao:(vs.getD j hM).len=l):W.cell? ⟨ag,j*6+1,none⟩=some (hI l):=by
 obtain⟨g,c,e,_,_,_,f⟩:=ng h.g.own xaa rfl;cases e;have:=(f.at_ j hj).c1;grind
def PfK (R:World->Prop)(p0 p1 p2 p3 p4 p5 p6 p7 p8 p11 p12 p13 p14 p15 p16 p17 p18 p19 q9 q10:Value)(K:Act->World->Prop):Prop:=∀{a b c d e f g h i j k l m n o p q r s t u v w x y z A B C D E F G H I J L M N O P Q S T U Vaa W X Y Z aa ab ad ae af ag ah ai aj ak al am an ao ap aq ar au av aw ax ay az aA aB aC aD aE aF aG aH aI aJ aK aL aM aN aO aP aQ aR aS aT aU aV aW aX aY aZ a0 a1 a2 a3 a4 a5 a6 a7 a8 a9 ba bb bc bd be bf bg bh bi bj bk bl bm bn bo bp bq br bs bt bu bv bw bx bz bA bB bC bD bE bF bG bH bI bJ bK bL bM bN bO bP bQ bR bS bT bU bV bW bX bY bZ b0 b1 b2 b3 b4 b5 b6 b7 b8 b9 ca cb cc cd ce cf cg ch ci cj ck cl cm cn co:Value} (W':World),R W'->K ⟨#[p0,p1,p2,p3,p4,p5,p6,p7,p8,q9,q10,p11,p12,p13,p14,p15,p16,p17,p18,p19,a,b,c,d,e,f,g,h,i,j,k,l,m,n,o,p,q,r,s,t,u,v,w,x,y,z,A,B,C,D,E,F,G,H,I,J,L,M,N,O,P,Q,S,T,U,Vaa,W,X,Y,Z,aa,ab,ad,ae,af,ag,ah,ai,aj,ak,al,am,an,ao,ap,aq,ar,au,av,aw,ax,ay,az,aA,aB,aC,aD,aE,aF,aG,aH,aI,aJ,aK,aL,aM,aN,aO,aP,aQ,aR,aS,aT,aU,aV,aW,aX,aY,aZ,a0,a1,a2,a3,a4,a5,a6,a7,a8,a9,ba,bb,bc,bd,be,bf,bg,bh,bi,bj,bk,bl,bm,bn,bo,bp,bq,br,bs,bt,bu,bv,bw,bx,bz,bA,bB,bC,bD,bE,bF,bG,bH,bI,bJ,bK,bL,bM,bN,bO,bP,bQ,bR,bS,bT,bU,bV,bW,bX,bY,bZ,b0,b1,b2,b3,b4,b5,b6,b7,b8,b9,ca,cb,cc,cd,ce,cf,cg,ch,ci,cj,ck,cl,cm,cn,co],[]⟩ W'
def PfC (n:Nat)(W:World)(R:World->Prop)(a b c d e f g h i t u j k l m o p q r s v w:Value):Prop:=
 ∀{K:Act->World->Prop}{x y z A B C D E F G H I J L M N O P Q S T U Vaa X Y Z aa ab ad ae af ag ah ai aj ak al am an ao ap aq ar au av aw ax ay az aA aB aC aD aE aF aG aH aI aJ aK aL aM aN aO aP aQ aR aS aT aU aV aW aX aY aZ a0 a1 a2 a3 a4 a5 a6 a7 a8 a9 ba bb bc bd be bf bg bh bi bj bk bl bm bn bo bp bq br bs bt bu bv bw bx bz bA bB bC bD bE bF bG bH bI bJ bK bL bM bN bO bP bQ bR bS bT bU bV bW bX bY bZ b0 b1 b2 b3 b4 b5 b6 b7 b8 b9 ca cb cc cd ce cf cg ch ci cj ck cl cm cn co cp cq cr cs ct cu cv cw cx cy cz cA cB cC cD cE cF cG cH cI cJ cK cL cM:Value},PfK R a b c d e f g h i j k l m o p q r s v w K->Code.wp prog (PY n) (Exit.then K λ_ _ _=>False) ⟨#[a,b,c,d,e,f,g,h,i,t,u,j,k,l,m,o,p,q,r,s,x,y,z,A,B,C,D,E,F,G,H,I,J,L,M,N,O,P,Q,S,T,U,Vaa,X,Y,Z,aa,ab,ad,ae,af,ag,ah,ai,aj,ak,al,am,an,ao,ap,aq,ar,au,av,aw,ax,ay,az,aA,aB,aC,aD,aE,aF,aG,aH,aI,aJ,aK,aL,aM,aN,aO,aP,aQ,aR,aS,aT,aU,aV,aW,aX,aY,aZ,a0,a1,a2,a3,a4,a5,a6,a7,a8,a9,ba,bb,bc,bd,be,bf,bg,bh,bi,bj,bk,bl,bm,bn,bo,bp,bq,br,bs,bt,bu,bv,bw,bx,bz,bA,bB,bC,bD,bE,bF,bG,bH,bI,bJ,bK,bL,bM,bN,bO,bP,bQ,bR,bS,bT,bU,bV,bW,bX,bY,bZ,b0,b1,b2,b3,b4,b5,b6,b7,b8,b9,ca,cb,cc,cd,ce,cf,cg,ch,ci,cj,ck,cl,cm,cn,co,cp,cq,cr,cs,ct,cu,cv,cw,cx,cy,cz,cA,cB,cC,cD,cE,cF,cG,cH,cI,cJ,cK,cL,cM],[]⟩ W
