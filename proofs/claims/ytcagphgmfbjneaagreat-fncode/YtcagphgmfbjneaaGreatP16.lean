import Derived.Test.YtcagphgmfbjneaaGreatP14
import Derived.Test.YtcagphgmfbjneaaGreatP11
import Derived.Test.YtcagphgmfbjneaaGreatP15
namespace Go.Proofs.Z
open Tryz Go.RowKit Flt
set_option maxRecDepth 1000000
set_option maxHeartbeats 0
section
attribute[local go_sem] eE eD eC
variable{vs0 vs us:List Vl}
theorem J9{v i}(ak:v.op≠0):(List.range 3).all (okF v i)=(fF v&&(fo v).all (gm · i)):=by
 have al:=gK v.op;have t:=yan ak;have ah:(List.range 3).all _=(okF v i 0&&(okF v i 1&&(okF v i 2&&true))):=rfl;rw[ah];unfold okF fF fo bne;rw[t];have bN:fld v 0=v.a:=rfl;have f1:fld v 1=v.b:=rfl;have f2:fld v 2=v.c:=rfl;rw[bN,f1,f2];rcases (by omega:cnt v.op=0\/cnt v.op=1\/cnt v.op=2\/cnt v.op=3) with h|h|h|h
 all_goals
  rw[h]
  simp only[List.take_succ_cons,List.take_zero,List.all_cons,List.all_nil]
  generalize (v.a==0)=x
  generalize (v.b==0)=y
  generalize (v.c==0)=z
  generalize g7 _=p
  generalize gm _ i=r
  generalize gm _ i=s
  generalize gm _ i=t
  revert x y z p r s t
  decide
theorem Ka{v i}(ai:∀k,k<i->1<=(vs.getD k h9).len/\(vs.getD k h9).len<=1000)(h:(fo v).all (gm · i)=true):
  ([(jM vs v 0:Int),(jM vs v 1:Int),(jM vs v 2:Int)]).take (cnt v.op)=(fo v).map λo=>(vs.getD o.toNat h9).len:=by
 have Y:∀o,gm o i=true->((vs.getD o.toNat h9).len.toNat:Int)=(vs.getD o.toNat h9).len:=λo ho=>by
  have:=of_decide_eq_true ho
  grind
 have al:=gK v.op;have ci:0<cnt _->jM _ v 0=(vs.getD v.a.toNat _).len.toNat:=λc=>h7 c;have Z:1<cnt _->jM _ v 1=(vs.getD v.b.toNat _).len.toNat:=λc=>h7 c;have ae:2<cnt _->jM _ v 2=(vs.getD v.c.toNat _).len.toNat:=λc=>h7 c;unfold fo at h⊢;rcases (by omega:cnt v.op=0\/cnt v.op=1\/cnt v.op=2\/cnt v.op=3) with e|e|e|e
 ·rw[e];rfl
 ·simp_all
 ·simp_all
 simp_all
theorem vW{op len C xs}(h:¬(0<=op/\op<=13)):eQ op len C xs=false:=by
 grind[eQ]
theorem P5(w a1 J a3 Z c1 ae c2 ab c3 i ins vs outs)(f:GS w a1 Z J ae a3 ab ins vs outs)(hi:i<ae)
  (d:∀k,k<i->1<=(vs.getD k h9).len/\(vs.getD k h9).len<=1000):
  Calls prog 86 #[eX a1 Z c1 J ae c2 a3 ab c3,h1 i] w λe B=>e=.returned (.bool (okV ins vs i))/\Kept 0 0 w B:=by
 rcases f.v.at_ with ak|⟨a0,b9,rfl,U,aV,aa,b1⟩
 ·omega
 have bw:=b1 i hi;unfold okV;generalize aN:vs.getD i _=v at bw;by_cases hb:0<=v.op/\v.op<=13/\1<=v.len/\v.len<=1000
 ·rw[iV hb.2.2.1 hb.2.2.2,Bool.true_and];by_cases ak:v.op=0
  ·rw[h7 ak,f.i.len];obtain⟨op,len,A,I,C,K⟩:=v;simp only at ak hb;subst ak
   have e:(fF ⟨0,len,A,I,C,K⟩&&(gm A Z&&len==ins.getD A.toNat 0))=(((gm A Z&&len==ins.getD A.toNat 0)&&I==0)&&C==0):=by
    have t:fF ⟨0,len,A,I,C,K⟩=(I==0&&C==0):=by
     simp[fF,cnt,g7,bne]
    rw[t];cases gm A Z<;>cases (len==ins.getD A.toNat 0)<;>cases (I==0)<;>cases (C==0)<;>rfl
   show Calls _ _ _ _ λe B=>e=.returned (.bool (fF ⟨0,len,A,I,C,K⟩&&(gm A Z&&len==ins.getD A.toNat 0)))/\_;rw[e];exact zJ w _ _ _ _ _ _ _ _ _ _ i _ A I C K _ f.i aa hi bw hb.2.2.1 hb.2.2.2
  rw[h6 ak]
  have e:(fF v&&((fo v).all (gm · i)&&eQ v.op v.len v.c ((fo v).map λo=>(vs.getD o.toNat h9).len)))=((List.range 3).all (okF v i)&&jQ v.op v.len v.c (jM vs v 0) (jM vs v 1) (jM vs v 2)):=by
   rw[J9 ak,<-Bool.and_assoc];cases be:(fo v).all (gm · i)
   ·simp
   unfold jQ;rw[Ka d be,iV hb.2.2.1 hb.2.2.2,Bool.true_and]
  rw[e];exact DN w _ _ _ _ _ _ _ _ _ _ i v _ aa hi b1 d aN xaa hb.2.1 hb.2.2.1 hb.2.2.2
 have e:((lenB v.len&&fF v)&&(if v.op=0 then gm v.a ins.length&&v.len==ins.getD v.a.toNat 0 else (fo v).all (gm · i)&&eQ v.op v.len v.c ((fo v).map λo=>(vs.getD o.toNat h9).len)))=false:=by
  by_cases ai:1<=v.len/\v.len<=1000
  ·have ho:¬(0<=v.op/\v.op<=13):=xaa;rw[h6 xaa,vW ho,Bool.and_false,Bool.and_false]
  rw[mY ai,Bool.false_and,Bool.false_and]
 rw[e];exact DM w _ _ _ _ _ _ _ _ _ _ i v aa hi bw hb
theorem zL{ins k}(h:(List.range k).all (okV ins vs)=true):∀j,j<k->1<=(vs.getD j h9).len/\(vs.getD j h9).len<=1000:=λj hj=>
 gi (List.all_eq_true.1 h j (List.mem_range.2 hj))
theorem xQ(w a1 J a3 Z c1 ae c2 ab c3 ins vs outs)(f:GS w a1 Z J ae a3 ab ins vs outs)(h2:ae<=2000)(h3:ab<=50)(aL:(decide (Z<=20)&&ins.all lenB)=true):
  Calls prog 66 #[eX a1 Z c1 J ae c2 a3 ab c3] w λe B=>e=.returned (.bool ((List.range ae).all (okV ins vs)&&(outs.all (gm · ae)&&decide (eZ vs<=50000))))/\Kept 0 0 w B:=by
 have aG:V _:=eA 0 0 w (fx a1 Z c1 J ae c2 a3 ab c3);have a7:=hH w (.slice a1 Z c1) (.slice J ae c2) (.slice a3 ab c3);have aD:V _:=f.keep aG.o;have b:V _:=f.v.len;have r:V _:=f.o.len;have ch:V _:=sY _ _ _ _ _ c1 _ (f.keep aG.o).i;rw[aL]at ch;clear f aL;go_enter func66,ntmps66;go_wp2_with fail;refine yaj ch.o ?_;rintro e aH ⟨rfl,an⟩;replace a7:=a7.keep an;have a:V _:=aD.o.keep an;have bZ:V _:=aG.o.trans an;clear an aD aG ch;have ay:=a7.q1;have aB:=a7.q2;go_wp2_with fail;clear ay aB;have T:V _:=a7;clear a7;go_loopw [3] (λi W=>∃k:Nat,k<=ae/\i=h1 k/\V ((List.range k).all (okV ins vs)=true)/\Kept 0 0 aH W) (λi _=>ae-(intOf i).toNat)
 case atStart=>exact⟨0,yae,rfl,rfl,Kept.refl _ _ _⟩
 case round=>
  obtain⟨k,O,rfl,be,g⟩:=hrel;obtain⟨_,aP,ay,aB⟩:=T.o.keep g;by_cases hlt:k<ae
  ·have HX:V _:=P5 _ _ _ _ _ c1 _ c2 _ c3 k _ _ _ (a.o.keep g) hlt (zL be.o);cases ap:okV ins vs k
   ·rw[ap]at HX;have R:V _:=jh hlt ap;have R2:V _:=bZ.o.trans g;clear ap be g;go_wp2_with fail;refine yaj HX.o ?_;rintro e am ⟨rfl,bM⟩;clear aP ay aB;go_wp2;go_ret;exact⟨i4 R.o,R2.o.trans bM⟩
   rw[ap]at HX;have R:V _:=ig be.o ap;have F:V _:=g;clear ap be g;go_wp2_with fail;refine yaj HX.o ?_;rintro e am ⟨rfl,bM⟩;have R2:V _:=F.o.trans bM;clear aP ay aB bM;go_wp2;go_roundw;exact⟨k+1,by omega,by go_num,R,R2.o⟩;simp[intOf];omega
  have R1:V ((List.range ae).all (okV ins vs)=true):=by grind
  have cf:V _:=a.o.keep g;have bQ:V _:=bZ.o.trans g;have bf:V (∀W,Drawn _ W->_):=λW aO=>Cw W _ _ _ _ c1 _ c2 _ c3 _ _ _ (cf.o.keep (aO.kept 0 0)) h2 (zL R1.o);have HQ:V (∀W,Drawn _ W->W.cell? _=some _/\W.cell? _=some _/\W.cell? _=some _):=λW aO=>⟨i1 aO.cell aP,i1 aO.cell ay,i1 aO.cell aB⟩
  clear be g;go_wp2_with fail;clear aP ay aB;go_loopw [4] (λi W=>∃k:Nat,k<=ab/\i=h1 k/\V ((outs.take k).all (gm · ae)=true)/\Drawn wr W) (λi _=>ab-(intOf i).toNat)
  case atStart=>exact⟨0,yae,rfl,rfl,Drawn.refl _⟩
  case round=>
   obtain⟨aZ,b2,rfl,be,bx⟩:=hrel;obtain⟨aP,ay,aB⟩:=HQ.o _ bx;have HD:V _:=bx;by_cases cD:aZ<ab
   ·rcases cf.o.o.at_ with bP|⟨d,bL,bS,aR,bd,bu,bC⟩
    ·omega
    have c:=(bx.cell _).trans (bC _ cD);have bE:(0:Int)<=aZ:=xaa;have bm:(aZ:Int)<ab:=xaa;subst bS;clear aR bd bu bC bx;cases ap:gm (outs.getD aZ 0) ae
    ·have R:V (outs.all (gm · _)=false):=ue (i1 r.o cD) ap;have aj:=of_decide_eq_false ap;generalize outs.getD _ 0=y at c aj;clear ap be;rcases (by omega:y<0\/(0<=y/\ae<=y)) with bp|⟨bp,h⟩
     ·have aS:=decide_eq_true bp;exact xfs
     have aS:decide (y<0)=false:=yay xaa;have a9:=decide_eq_true h;exact xfs
    have R:V _:=rD (i1 r.o cD) be.o ap;have aj:=of_decide_eq_true ap;generalize outs.getD _ 0=y at c aj;obtain⟨bp,h⟩:=aj;have aS:decide (y<0)=false:=yay xaa;have a9:decide (ae<=y)=false:=yay xaa;clear ap be;go_wp2_with fail;go_quiet (fail)
    go_wp2;go_roundw;exact⟨aZ+1,by omega,by go_num,R,Drawn.more HD.o _⟩;simp[intOf];omega
   have N:V (outs.all (gm · ae)=true):=by
    have:=be.o;rw[yap (i3 r.o)]at this;exact this
   have bO:V _:=bf.o _ bx;clear be bx;go_wp2_with fail;refine yaj bO.o ?_;rintro e bn ⟨rfl,aa⟩;clear aP ay aB;go_wp2;go_ret;exact⟨by rw[R1.o,N.o];rfl,(bQ.o.trans (Drawn.kept HD.o 0 0)).trans aa⟩
theorem sJ(w a1 J a3 Z c1 ae c2 ab c3 ins vs outs)(f:GS w a1 Z J ae a3 ab ins vs outs)(h:¬(((decide (Z<=20)&&ins.all lenB)=true)/\ae<=2000/\ab<=50)):
  Calls prog 66 #[eX a1 Z c1 J ae c2 a3 ab c3] w λe B=>e=.returned (.bool false)/\Kept 0 0 w B:=by
 have aG:V _:=eA 0 0 w (fx a1 Z c1 J ae c2 a3 ab c3);have a7:=hH w (.slice a1 Z c1) (.slice J ae c2) (.slice a3 ab c3);have ch:V _:=sY _ _ _ _ _ c1 _ (f.keep aG.o).i;clear f;cases aL:(decide (Z<=20)&&ins.all lenB)
 ·rw[aL]at ch;exact xeq
 rw[aL]at ch;by_cases h2:ae<=2000
 ·have h3:50<ab:=by simp_all
  exact xeq
 have h3:2000<ae:=xaa;clear h aL h2;go_enter func66,ntmps66;go_wp2_with fail;refine yaj ch.o ?_;rintro e aH ⟨rfl,an⟩;obtain⟨_,aP,ay,aB⟩:=a7.keep an;clear a7;go_wp2
 all_goals
  go_ret
  exact⟨rfl,aG.o.trans an⟩
theorem DR(w a1 J a3 Z c1 ae c2 ab c3 ins vs outs)(f:GS w a1 Z J ae a3 ab ins vs outs):
  Calls prog 66 #[eX a1 Z c1 J ae c2 a3 ab c3] w λe B=>e=.returned (.bool (okG ins vs outs))/\Kept 0 0 w B:=by
 unfold okG;rw[f.i.len,f.v.len,f.o.len];by_cases h:((decide (Z<=20)&&ins.all lenB)=true)/\ae<=2000/\ab<=50
 ·have h':=h.1;rw[Bool.and_eq_true]at h';rw[decide_eq_true (show Z<=20/\ae<=2000/\ab<=50 from⟨of_decide_eq_true h'.1,h.2⟩),h'.2,Bool.true_and,Bool.true_and];exact xQ w _ _ _ _ _ _ _ _ _ _ _ _ f h.2.1 h.2.2 h.1
 have e:(decide (Z<=20/\ae<=2000/\ab<=50)&&(ins.all lenB&&((List.range ae).all (okV ins vs)&&(outs.all (gm · ae)&&decide (eZ vs<=50000)))))=false:=by grind
 rw[e];exact sJ w _ _ _ _ _ _ _ _ _ _ _ _ f h
def nD(i:Int)(v:Vl)(la:Int)(k:Nat)(d:Int)(N:Nat):List Vl×Int:=
 if v.op=2 then ([],d)
 else if v.op=3 then (if k=0 then ([],d)else ([eJ 6 v.len d 0 0],N))
 else if v.op=4 then (if k=0 then ([eJ 4 v.len d v.b 0],N)else ([eJ 4 v.len d v.a 0],N))
 else if v.op=5 then (if k=0 then ([eJ 5 v.len d v.b 0],N)else ([eJ 4 v.len d i 0,eJ 5 v.len N v.b 0,eJ 6 v.len ((N+1:Nat):Int) 0 0],((N+2:Nat):Int)))
 else if v.op=6 then ([eJ 6 v.len d 0 0],N)
 else if v.op=13 then ([eJ 4 v.len d i 0],N)
 else if v.op=8 then (if k=1 then ([eJ 1 v.len 0 0 0,eJ 8 v.len v.a d N],((N+1:Nat):Int))else ([eJ 1 v.len 0 0 0,eJ 8 v.len v.a N d],((N+1:Nat):Int)))
 else if v.op=7 then (if k=0 then ([eJ 3 v.len v.a v.b 0,eJ 1 v.len 0 0 0,eJ 8 v.len N d ((N+1:Nat):Int)],((N+2:Nat):Int))else ([eJ 3 v.len v.a v.b 0,eJ 1 v.len 0 0 0,eJ 8 v.len N ((N+1:Nat):Int) d],((N+2:Nat):Int)))
 else if v.op=9 then ([eJ 10 la d 0 0],N)
 else if v.op=10 then ([eJ 9 1 d 0 0],N)
 else if v.op=11 then ([eJ 12 la d 0 v.c],N)
 else ([eJ 11 1 d 0 v.c],N)
def pG(v:Vl)(k:Nat):Bool:=!(v.op==8&&k==0)
def Pre(vs0 us:List Vl):Prop:=∃r,us=vs0++r
theorem Pre.at_(h:Pre vs0 us){j}(hj:j<vs0.length):us.getD j h9=vs0.getD j h9/\j<us.length:=by
 obtain⟨r,rfl⟩:=h;grind
theorem Pre.app{a}(h:Pre vs0 us):Pre vs0 (us++a):=by
 obtain⟨r,rfl⟩:=h;exact⟨r++a,by rw[List.append_assoc]⟩
end
section
theorem jt{P w a m}(f r c):(store a (.func f r c) m).run P w=stored P w a (.func f r c) m:=run_store P w a _ m rfl
attribute[local go_sem] eE eD eC jt
end
section
attribute[local go_sem] eE eD eC jt
variable{vs0:List Vl}{act:List Bool}{st:List Vl×List Int}
def mF(vs0:List Vl)(o:Nat)(p:Int)(st:List Vl×List Int):List Vl×List Int:=
 if st.2.getD o 0=-1 then (st.1,st.2.set o p)else (st.1++[eJ 2 (vs0.getD o h9).len (st.2.getD o 0) p 0],st.2.set o (st.1.length:Nat))
def laM(vs0:List Vl)(i:Nat):Int:=(vs0.getD (vs0.getD i h9).a.toNat h9).len
def gkM(vs0:List Vl)(act:List Bool)(i k:Nat)(st:List Vl×List Int):List Vl×List Int:=
 if act.getD (fld (vs0.getD i h9) k).toNat false=true/\pG (vs0.getD i h9) k=true then
  mF vs0 (fld (vs0.getD i h9) k).toNat (nD (i:Int) (vs0.getD i h9) (laM vs0 i) k (st.2.getD i 0) st.1.length).2 (st.1++(nD (i:Int) (vs0.getD i h9) (laM vs0 i) k (st.2.getD i 0) st.1.length).1,st.2)
 else st
def jS(vs0:List Vl)(act:List Bool)(i:Nat)(st:List Vl×List Int):Nat->List Vl×List Int
 |0=>st
 |k+1=>gkM vs0 act i k (jS vs0 act i st k)
def giM(vs0:List Vl)(act:List Bool)(i:Nat)(st:List Vl×List Int):List Vl×List Int:=
 if st.2.getD i 0=-1 then st else jS vs0 act i st (cnt (vs0.getD i h9).op)
def SzP(M:List Vl×Int):Prop:=M.1.length<=3/\0<=eZ M.1/\eZ M.1<=3000
theorem Kb{p}[Decidable p]{a b}(az:SzP a)(hb:SzP b):SzP (if p then a else b):=by split<;>assumption
theorem zM(i v S k d N)(ak:0<=v.len)(F:v.len<=1000)(h2:0<=S)(h3:S<=1000):SzP (nD i v S k d N):=by
 unfold nD;repeat' (apply Kb)
 all_goals (unfold SzP;simp only[eZ,yaq,List.length_nil];omega)
theorem Kc{i k}(h:Pre vs0 st.1):Pre vs0 (gkM vs0 act i k st).1:=by
 unfold gkM mF;split
 ·split
  ·exact h.app
  exact h.app.app
 exact h
theorem uu{vs0 act i st}(h:Pre vs0 st.1):∀k,Pre vs0 (jS vs0 act i st k).1
 |0=>h
 |k+1=>Kc (uu h k)
theorem Kd{i k}:(gkM vs0 act i k st).2.length=st.2.length:=by
 unfold gkM mF;split
 ·split<;>simp
 rfl
theorem qK{vs0 act i st}:∀k,(jS vs0 act i st k).2.length=st.2.length
 |0=>rfl
 |k+1=>by rw[jS,Kd,qK k]
def NO(act:List Bool)(v:Vl):Bool:=(List.range (cnt v.op)).any λk=>act.getD (fld v k).toNat false
def jo(vs0:List Vl)(x:Nat):Nat->List Bool
 |0=>(List.replicate vs0.length false).set x true
 |m+1=>(jo vs0 x m).set (x+1+m) (NO (jo vs0 x m) (vs0.getD (x+1+m) h9))
theorem oK(vs0 x):∀m,(jo vs0 x m).length=vs0.length
 |0=>by simp[jo]
 |m+1=>by rw[jo,List.length_set,oK vs0 x m]
end
section
variable{vs0 us:List Vl}{L' L i:Nat}{act:List Bool}{C C':Int}{st:List Vl×List Int}
def SzU(L:Nat)(C:Int)(us:List Vl):Prop:=us.length<=L/\0<=eZ us/\eZ us<=C
theorem SzU.app{a}(h:SzU L C us)(h':SzU L' C' a):SzU (L+L') (C+C') (us++a):=by
 obtain⟨a1,J,a3⟩:=h;obtain⟨U,aV,aa⟩:=h';refine⟨by grind,?_,?_⟩<;>(rw[uh];omega)
theorem SzU.mono(h:SzU L C us)(F:L<=L')(h2:C<=C'):SzU L' C' us:=⟨yao h.1 F,h.2.1,Int.le_trans h.2.2 h2⟩
def LnB(vs0:List Vl):Prop:=∀j,0<=(vs0.getD j h9).len/\(vs0.getD j h9).len<=1000
theorem rG(h:∀j,j<vs0.length->1<=(vs0.getD j h9).len/\(vs0.getD j h9).len<=1000):LnB vs0:=λj=>by
 by_cases hj:j<vs0.length
 ·grind
 ·rw[yai,List.getElem?_eq_none xaa]
  show 0<=(0:Int)/\(0:Int)<=1000
  omega
theorem Gv(bV:LnB vs0){o p}(h:SzU L C st.1):SzU (L+1) (C+1000) (mF vs0 o p st).1:=by
 unfold mF;split
 ·exact h.mono xaa xaa
 refine h.app ⟨by simp,?_,?_⟩<;>(simp only[eZ];have:=bV o;omega)
theorem NP(bV:LnB vs0){k}(h:SzU L C st.1):SzU (L+4) (C+4000) (gkM vs0 act i k st).1:=by
 unfold gkM;split
 ·have aQ:=zM i _ (laM _ i) k (st.2.getD i 0) st.1.length (bV i).1 (bV i).2 (bV _).1 (bV _).2;have:=Gv bV (o:=(fld (vs0.getD i h9) k).toNat) (p:=(nD (i:Int) (vs0.getD i h9) (laM vs0 i) k (st.2.getD i 0) st.1.length).2) (st:=(st.1++(nD (i:Int) (vs0.getD i h9) (laM vs0 i) k (st.2.getD i 0) st.1.length).1,st.2)) (SzU.app (L':=3) (C':=3000) h ⟨aQ.1,aQ.2.1,aQ.2.2⟩);grind
 exact h.mono xaa xaa
theorem xR{vs0}(bV:LnB vs0){act i L C st}(h:SzU L C st.1):∀k:Nat,SzU (L+4*k) (C+4000*(k:Int)) (jS vs0 act i st k).1
 |0=>h.mono xaa xaa
 |k+1=>(NP bV (xR bV h k)).mono xaa xaa
theorem NQ(bV:LnB vs0)(h:SzU L C st.1):SzU (L+12) (C+12000) (giM vs0 act i st).1:=by
 have:=gK (vs0.getD i h9).op;unfold giM;split
 ·exact h.mono xaa xaa
 exact(xR bV h _).mono xaa xaa
theorem Ke(h:Pre vs0 st.1):Pre vs0 (giM vs0 act i st).1:=by
 grind[giM,uu]
theorem Kf:(giM vs0 act i st).2.length=st.2.length:=by
 grind[giM,qK]
def zN(vs0:List Vl)(act:List Bool)(x:Nat)(st:List Vl×List Int)(js:List Nat):List Vl×List Int:=js.foldl (λst j=>giM vs0 act (x+1+j) st) st
theorem Bz(vs0 act x st bw j):zN vs0 act x st (bw++[j])=giM vs0 act (x+1+j) (zN vs0 act x st bw):=by simp[zN]
def Gy(m:Nat):List Nat:=(List.range m).map (λi=>m-1-i)
def xS(vs0:List Vl)(s:Nat):List Vl×List Int:=(vs0++[⟨1,1,0,0,0,4607182418800017408⟩],(List.replicate vs0.length (-1)).set s (vs0.length:Nat))
def NR(vs0:List Vl)(x:Nat)(st:List Vl×List Int):List Vl×Int:=
 if st.2.getD x 0=-1 then (st.1++[eJ 1 (vs0.getD x h9).len 0 0 0],(st.1.length:Nat))else (st.1,st.2.getD x 0)
def grM(vs0:List Vl)(s x:Nat):List Vl×Int:=
 if (jo vs0 x (s-x)).getD s false=true then NR vs0 x (zN vs0 (jo vs0 x (s-x)) x (xS vs0 s) (Gy (s-x)))
 else (vs0++[eJ 1 (vs0.getD x h9).len 0 0 0],(vs0.length:Nat))
end
section
attribute[local go_sem] eE eD eC
theorem P6{ins vs}(Q:(List.range vs.length).all (okV ins vs)=true):∀i,i<vs.length->((vs.getD i h9).op=9\/(vs.getD i h9).op=11)->∃j:Nat,(vs.getD i h9).a=(j:Int)/\j<vs.length/\(vs.getD j h9).len=laM vs i/\1<=laM vs i/\laM vs i<=1000:=λi hi ho=>by
 have h:=mE (List.all_eq_true.1 Q i (List.mem_range.2 hi)) 0 (by rcases ho with c|c<;>(rw[c];decide))
 have e:fld _ 0=(vs.getD i h9).a:=rfl
 rw[e]at h
 have hj:(vs.getD i h9).a.toNat<vs.length:=xaa
 have ai:=gi (List.all_eq_true.1 Q _ (List.mem_range.2 hj))
 exact⟨_,by omega,hj,rfl,ai.1,ai.2⟩
end
section
variable{w H:World}{m1 af m3 ah base cap a0:Nat}{U aa J:Option Addr}{vs vs0:List Vl}{v:Vl}{R R':Option Nat}
noncomputable abbrev Ra (n:Nat):Code:=(Tryz.f139.body.bind (pM n)).getD .skip
def PtP(w:World)(b1:Option Addr)(m1 e1:Nat)(b3:Option Addr)(m3 e3:Nat)(vs:List Vl)(base:Nat)(R:Option Nat)(M:List Vl×Int)(bb:Bool)(e:Ending)(w':World):Prop:=
 ∃a2' cap' R',e=.returned (.tuple #[eX b1 m1 e1 a2' (vs++M.1).length cap' b3 m3 e3,.int .i64 M.2,.bool bb])/\w'.ownsRow base 86 6 (.slice a2' (vs++M.1).length cap') (vs++M.1).length (fN (vs++M.1))/\(Value.slice a2' (vs++M.1).length cap').ownBlock=R'/\StQ (λ_=>False) R w R' w'
theorem MS.finP{W M}(h:MS w W U m1 af aa m3 ah vs v base R R' J cap)(k:Kept 0 0 W H)(aN:vs=vs0++M.1)(bz):
  PtP w U m1 af aa m3 ah vs0 base R M bz (.returned (.tuple #[eX U m1 af J vs.length cap aa m3 ah,h1 M.2,.bool bz])) (fg H (w.heap.size+1) (.slice U m1 af) (.slice J vs.length cap) (.slice aa m3 ah)):=by
 exact xeh
theorem xT(h:w.ownsRow base 86 6 (h0 a0 vs.length cap) vs.length (fN vs))(k:Kept 0 0 w H)(r bz):
  PtP w U m1 af aa m3 ah vs base (some a0) ([],r) bz (.returned (.tuple #[eX U m1 af (some ⟨a0,0,none⟩) vs.length cap aa m3 ah,h1 r,.bool bz])) H:=by
 unfold PtP;exact xhy
theorem MS.finPR{W M bz}(h:MS w W U m1 af aa m3 ah vs v base R R' J cap)(K:∃aU,Kept 0 0 W aU/\H=fg aU (w.heap.size+1) (.slice U m1 af) (.slice J vs.length cap) (.slice aa m3 ah))(aN:vs=vs0++M.1):
  PtP w U m1 af aa m3 ah vs0 base R M bz (.returned (.tuple #[eX U m1 af J vs.length cap aa m3 ah,h1 M.2,.bool bz])) H:=by
 grind[MS.finP]
def PtC(w:World)(b1 b3:Option Addr)(m1 e1 cap m3 e3 base g2 i:Nat)(vs:List Vl)(k d:Int)(M:List Vl×Int)(bb:Bool):Prop:=
 Calls prog 139 #[eX b1 m1 e1 (some ⟨g2,0,none⟩) vs.length cap b3 m3 e3,.int .i64 (i:Int),.int .i64 k,.int .i64 d] w λe w'=>PtP w b1 m1 e1 b3 m3 e3 vs base (some g2) M bb e w'
theorem MS.len1{W}(h:MS w W U m1 af aa m3 ah vs v base R R' (some ⟨a0,0,none⟩) cap){j S}(hj:j<vs.length)(m:(vs.getD j h9).len=S):W.cell? ⟨a0,j*6+1,none⟩=some (h1 S):=by
 obtain⟨g,c,e,_,_,_,a⟩:=nj h.g.own xaa rfl;cases e;have:=(a.at_ j hj).c1;grind
def PfK(R:World->Prop)(p0 p1 p2 p3 p4 p5 p6 p7 p8 p11 p12 p13 p14 p15 p16 p17 p18 p19 q9 q10:Value)(K:Act->World->Prop):Prop:=∀{a b c d e f g h i j k l m n o p q r s t u v w x y z A B C D E F G H I J L M N O P Q S T U Vaa W X Y Z aa ab ad ae af ag ah ai aj ak al am an ao ap aq ar au av aw ax ay az aA aB aC aD aE aF aG aH aI aJ aK aL aM aN aO aP aQ aR aS aT aU aV aW aX aY aZ a0 a1 a2 a3 a4 a5 a6 a7 a8 a9 ba bb bc bd be bf bg bh bi bj bk bl bm bn bo bp bq br bs bt bu bv bw bx bz bA bB bC bD bE bF bG bH bI bJ bK bL bM bN bO bP bQ bR bS bT bU bV bW bX bY bZ b0 b1 b2 b3 b4 b5 b6 b7 b8 b9 ca cb cc cd ce cf cg ch ci cj ck cl cm cn co:Value} (W':World),R W'->K ⟨#[p0,p1,p2,p3,p4,p5,p6,p7,p8,q9,q10,p11,p12,p13,p14,p15,p16,p17,p18,p19,a,b,c,d,e,f,g,h,i,j,k,l,m,n,o,p,q,r,s,t,u,v,w,x,y,z,A,B,C,D,E,F,G,H,I,J,L,M,N,O,P,Q,S,T,U,Vaa,W,X,Y,Z,aa,ab,ad,ae,af,ag,ah,ai,aj,ak,al,am,an,ao,ap,aq,ar,au,av,aw,ax,ay,az,aA,aB,aC,aD,aE,aF,aG,aH,aI,aJ,aK,aL,aM,aN,aO,aP,aQ,aR,aS,aT,aU,aV,aW,aX,aY,aZ,a0,a1,a2,a3,a4,a5,a6,a7,a8,a9,ba,bb,bc,bd,be,bf,bg,bh,bi,bj,bk,bl,bm,bn,bo,bp,bq,br,bs,bt,bu,bv,bw,bx,bz,bA,bB,bC,bD,bE,bF,bG,bH,bI,bJ,bK,bL,bM,bN,bO,bP,bQ,bR,bS,bT,bU,bV,bW,bX,bY,bZ,b0,b1,b2,b3,b4,b5,b6,b7,b8,b9,ca,cb,cc,cd,ce,cf,cg,ch,ci,cj,ck,cl,cm,cn,co],[]⟩ W'
def PfC(n:Nat)(W:World)(R:World->Prop)(a b c d e f g h i t u j k l m o p q r s v w:Value):Prop:=
 ∀{K:Act->World->Prop}{x y z A B C D E F G H I J L M N O P Q S T U Vaa X Y Z aa ab ad ae af ag ah ai aj ak al am an ao ap aq ar au av aw ax ay az aA aB aC aD aE aF aG aH aI aJ aK aL aM aN aO aP aQ aR aS aT aU aV aW aX aY aZ a0 a1 a2 a3 a4 a5 a6 a7 a8 a9 ba bb bc bd be bf bg bh bi bj bk bl bm bn bo bp bq br bs bt bu bv bw bx bz bA bB bC bD bE bF bG bH bI bJ bK bL bM bN bO bP bQ bR bS bT bU bV bW bX bY bZ b0 b1 b2 b3 b4 b5 b6 b7 b8 b9 ca cb cc cd ce cf cg ch ci cj ck cl cm cn co cp cq cr cs ct cu cv cw cx cy cz cA cB cC cD cE cF cG cH cI cJ cK cL cM:Value},PfK R a b c d e f g h i j k l m o p q r s v w K->Code.wp prog (Ra n) (Exit.then K λ_ _ _=>False) ⟨#[a,b,c,d,e,f,g,h,i,t,u,j,k,l,m,o,p,q,r,s,x,y,z,A,B,C,D,E,F,G,H,I,J,L,M,N,O,P,Q,S,T,U,Vaa,X,Y,Z,aa,ab,ad,ae,af,ag,ah,ai,aj,ak,al,am,an,ao,ap,aq,ar,au,av,aw,ax,ay,az,aA,aB,aC,aD,aE,aF,aG,aH,aI,aJ,aK,aL,aM,aN,aO,aP,aQ,aR,aS,aT,aU,aV,aW,aX,aY,aZ,a0,a1,a2,a3,a4,a5,a6,a7,a8,a9,ba,bb,bc,bd,be,bf,bg,bh,bi,bj,bk,bl,bm,bn,bo,bp,bq,br,bs,bt,bu,bv,bw,bx,bz,bA,bB,bC,bD,bE,bF,bG,bH,bI,bJ,bK,bL,bM,bN,bO,bP,bQ,bR,bS,bT,bU,bV,bW,bX,bY,bZ,b0,b1,b2,b3,b4,b5,b6,b7,b8,b9,ca,cb,cc,cd,ce,cf,cg,ch,ci,cj,ck,cl,cm,cn,co,cp,cq,cr,cs,ct,cu,cv,cw,cx,cy,cz,cA,cB,cC,cD,cE,cF,cG,cH,cI,cJ,cK,cL,cM],[]⟩ W
