import Derived.Test.YtbhmhdllnfkjhaaGreatP43
namespace Go.Proofs.Z
variable{Zp:Prop}
open Tryz
set_option maxRecDepth 1000000
set_option maxHeartbeats 0
open Go.RowKit Flt
attribute[local go_sem] eG eE eD
variable{H w W' W2:World}{br:Array Oper}{R P n cap i j U Q k c1 m q g c2 n1 c c3 n3:Nat}{a a1 Y a3:Option Addr}{bs ins outs:List Int}{u1 u2 u3 x:Value}{vs S a7:List Vl}
def iW(bs:List Int)(p:Nat):Nat->List Int×List Vl×Nat
 |0=>([],[],p)
 |k+1=>((iW bs p k).1++[((1+nv bs (iW bs p k).2.2%4:Nat):Int)],(iW bs p k).2.1++[⟨0,((1+nv bs (iW bs p k).2.2%4:Nat):Int),(k:Int),0,0,0⟩],ni bs (iW bs p k).2.2)
def gwL(bs:List Int)(ins:List Int)(m:Nat):Nat->Nat->List Vl->Nat->List Vl×Nat
 |0,_,S,p=>(S,p)
 |f+1,k,S,p=>if k<m/\(k<3\/p<bs.length)then gwL bs ins m f (k+1) (S++[(gwM ins S bs p).1]) (gwM ins S bs p).2 else (S,p)
def Am(len v:Nat):Int:=if 0<v%3 then (if (len:Int)-1-((v/3%3:Nat):Int)<0 then 0 else (len:Int)-1-((v/3%3:Nat):Int))else ((v%len:Nat):Int)
def pM(bs:List Int)(len p:Nat):Nat->List Int×Nat
 |0=>([],p)
 |k+1=>((pM bs len p k).1++[Am len (nv bs (pM bs len p k).2)],ni bs (pM bs len p k).2)
def Dd(w W:World)(P:Nat)(a:Option Addr)(n cap:Nat)(bs:List Int)(ins:List Int)(S:List Vl)(outs:List Int)(i:Nat):Prop:=
 ∃a1 c1 a2 c2 a3 c3 vs,vs.map sv=S/\Dx w W P a n cap i bs (.slice a1 ins.length c1) (.slice a2 vs.length c2) (.slice a3 outs.length c3) ins vs outs
def dgI(bs:List Int)(i:Nat):List Int×List Vl×Nat:=iW bs (ni bs i) (nv bs i%4)
def dgG(bs:List Int)(i:Nat):List Vl×Nat:=gwL bs (dgI bs i).1 (2+nv bs (dgI bs i).2.2%24) (2+nv bs (dgI bs i).2.2%24) 0 (dgI bs i).2.1 (ni bs (dgI bs i).2.2)
def dgO(bs:List Int)(i:Nat):List Int×Nat:=pM bs (dgG bs i).1.length (ni bs (dgG bs i).2) (nv bs (dgG bs i).2%5)
def DgF(w:World)(P:Nat)(a:Option Addr)(n cap:Nat)(bs:List Int)(ins:List Int)(S:List Vl)(outs:List Int)(i:Nat)(e:Ending)(w':World):Prop:=
 ∃a1 c1 a2 c2 a3 c3 vs,e=.returned (eV a1 ins.length c1 a2 vs.length c2 a3 outs.length c3)/\vs.map sv=S/\DG w' w.heap.size (.slice a1 ins.length c1) (.slice a2 vs.length c2) (.slice a3 outs.length c3) ins vs outs/\RdF w' P a n cap i bs/\Kept P (P+1) w w'
def LenS(S:List Vl):Prop:=∀k,k<S.length->1<=(vd S k).len/\(vd S k).len<=1000
theorem LenS.snoc{v}(h:LenS S)(aD:1<=v.len/\v.len<=1000):LenS (S++[v]):=λk N=>by
 rw[yal]at N
 by_cases c:k<S.length
 ·rw[Nf c];exact h k c
 ·have:k=S.length+0:=by simp at N;omega
  rw[this,Ng];exact aD
theorem LenS.of(h:LenS S)(e:vs.map sv=S):∀k,k<vs.length->1<=(vd vs k).len/\(vd vs k).len<=1000:=λk N=>by
 rw[<-CA,e]
 exact h k (by rw[<-e,List.length_map];exact N)
theorem rg(bs p):∀k,(iW bs p k).1.length=k/\(iW bs p k).2.1.length=k
 |0=>⟨rfl,rfl⟩
 |k+1=>by
  obtain⟨B,J⟩:=rg bs p k
  exact⟨by rw[iW,yal,B];rfl,by rw[iW,yal,J];rfl⟩
theorem r8(bs p):∀k,LenS (iW bs p k).2.1/\∀j,j<(iW bs p k).1.length->1<=(iW bs p k).1.getD j 0/\(iW bs p k).1.getD j 0<=1000
 |0=>⟨λk N=>(by cases N),λk N=>(by cases N)⟩
 |k+1=>by
  obtain⟨B,J⟩:=r8 bs p k
  rw[iW]
  refine⟨B.snoc (by simp only;omega),λj hj=>?_⟩
  simp only at hj⊢
  rw[yal]at hj
  by_cases c:j<(iW bs p k).1.length
  ·rw[yai,yat c,<-yai]
   exact J j c
  ·have e:j=(iW bs p k).1.length:=by simp at hj;omega
   rw[yai,yas xaa,e,Nat.sub_self]
   show 1<=((1+nv bs (iW bs p k).2.2%4:Nat):Int)/\((1+nv bs (iW bs p k).2.2%4:Nat):Int)<=1000
   omega
theorem Dd.of{W v s}(h:Dx w W P a n cap i bs (.slice a1 m c1) (.slice Y (vs.length+1) c2) (.slice a3 n3 c3) ins (vs++[v]) outs)(ar:vs.map sv=S)(aD:sv v=s):Dd w W P a n cap bs ins (S++[s]) outs i:=by
 have e1:=jP h.dg.r1;have af:=jP h.dg.r3;subst e1 af;refine⟨a1,c1,Y,c2,a3,c3,vs++[v],by rw[List.map_append,ar,List.map_cons,List.map_nil,aD],?_⟩;rw[yal];exact h
theorem yk(w){o a K Q E}(X:o.guard=none)(s x)
  (al:o.op=.call {callee:=.builtin .append,args:=#[s,x],argTypes:=#[23,23]})
  (R) (v) (aT) (ar:a.eval s=v) (aZ:w.ownsRow R 3 1 v aT.length (aT.map (Value.int .i64)))
  (ai) (y) (ak:a.eval x=.slice (some ai) 1 1) (f:w.cell? ai=some (hD y))
  (C:aT.length+1<=1000000) (T:R<=w.heap.size)
  (h:∀g cap n I,n=(aT++[y]).length->I.ownsRow R 3 1 (hC g n cap) n ((aT++[y]).map (Value.int .i64))->Chg (λb=>v.ownBlock=some b) w I->(v.ownBlock=some g\/g=w.heap.size)->K (a.put o.dst (hC g n cap)) I):if Region.wanted o (yielded br a.tmps)=true then Oper.wp prog o a w K Q else E:=by
 obtain⟨b3,hi,a6,b8,b5⟩:=info_parts qz;refine step_append_lies w X s x 23 al R 3 b3 (hD 0) 1 8 underlying23 hi a6 b8 b5 rfl xab v aT.length _ ar aZ ai 1 1 [hD y] ak rfl ?_ ?_ xab (by unfold maxLen;omega) xaa T _ rfl ?_
 ·exact xhf
 ·intro u aH;simp at aH;subst aH;rfl
 exact xfh
theorem DG.setO(f:DG w R u1 u2 (hC g m c) ins vs outs)(x):DG (w.setCell ⟨g,k,none⟩ (hD x)) R u1 u2 (hC g m c) ins vs (outs.set k x):=by
 have e:=jP f.r3;subst e;have h3:=f.r3.stored k (hD x);refine⟨eJ f.r1 λh=>f.a13 _ h rfl,eJ f.r2 λh=>f.a23 _ h rfl,?_,f.a12,f.a13,f.a23,f.k,by simpa using f.sz⟩;rw[List.length_set,List.map_set];exact h3.1
theorem Dx.setO{W}(f:Dx H W P a n cap i bs u1 u2 (hC g m c) ins vs outs)(x):Dx H (W.setCell ⟨g,k,none⟩ (hD x)) P a n cap i bs u1 u2 (hC g m c) ins vs (outs.set k x):=by
 have aR:H.heap.size+2<=g:=(eH f.dg.r3 rfl).1;have aK:=f.p0;have ai:Kept g (g+1) W (W.setCell ⟨g,k,none⟩ (hD x)):=eP W ⟨g,k,none⟩ _ yac;have B:=f.k0.size;refine⟨f.rd.keep ai (.inl xaa),f.dg.setO x,f.bx.kept ai xaa,f.rs.kept ai xaa,aK,⟨ai.os.trans f.k0.os,ai.tape.trans f.k0.tape,ai.output.trans f.k0.output,yao B ai.size,λb hb hn=>?_⟩⟩;rw[ai.block b xaa xaa];exact f.k0.block b hb hn
theorem I1{xs}{y z:Int}:(xs++[y]).set xs.length z=xs++[z]:=by
 rw[List.set_append,hF (Nat.lt_irrefl _),Nat.sub_self];rfl
theorem Dd.ofO{W}(h:Dx w W P a n cap i bs (.slice a1 m c1) (.slice Y vs.length c2) (.slice a3 n3 c3) ins vs outs)(ar:vs.map sv=S):Dd w W P a n cap bs ins S outs i:=by
 have e1:=jP h.dg.r1;have af:=jP h.dg.r3;subst e1 af;exact⟨a1,c1,Y,c2,a3,c3,vs,ar,h⟩
theorem uJ(bs l p):∀k,(pM bs l p k).1.length=k
 |0=>rfl
 |k+1=>by rw[pM,yal,uJ bs l p k];rfl
theorem DG.mono{e}(f:DG w R u1 u2 u3 ins vs outs)(h:e<=R):DG w e u1 u2 u3 ins vs outs:=
 ⟨je f.r1 h,je f.r2 h,je f.r3 h,f.a12,f.a13,f.a23,f.k,yao h f.sz⟩
theorem Dx.fin{W}(f:Dx H W P a n cap i bs (.slice a1 ins.length c1) (.slice Y vs.length c2) (.slice a3 outs.length c3) ins vs outs)(ar:vs.map sv=S):
  DgF H P a n cap bs ins S outs i (.returned (eV a1 ins.length c1 Y vs.length c2 a3 outs.length c3)) (fw W H.heap.size (.slice a1 ins.length c1) (.slice Y vs.length c2) (.slice a3 outs.length c3)):=by
 have ai:=fg W H.heap.size (.slice a1 ins.length c1) (.slice Y vs.length c2) (.slice a3 outs.length c3);have aK:=f.p0;have B:=f.k0.size;refine⟨a1,c1,Y,c2,a3,c3,vs,rfl,ar,(f.dg.kept ai xaa).mono xaa,f.rd.keep ai (.inl xaa),⟨ai.os.trans f.k0.os,ai.tape.trans f.k0.tape,ai.output.trans f.k0.output,yao B ai.size,λb hb hn=>?_⟩⟩;exact xiy
theorem I3(C:RdF w P a n cap i bs):
  Calls prog 37 #[hB P] w (DgF w P a n cap bs (dgI bs i).1 (dgG bs i).1 (dgO bs i).1 (dgO bs i).2):=by
 have ax:V _:=Dx.start C;have bo:=fH C.ys i;have bO:V _:=λj=>fH C.ys j;clear C;go_enter func37,ntmps37;go_wp2_with fail;generalize (w.alloc fj).alloc fj=W0 at ax⊢;refine yaj ax.o.next ?_;rintro e az ⟨rfl,r⟩;have HD:V (Dd w az P a n cap bs (iW bs (ni bs i) 0).1 (iW bs (ni bs i) 0).2.1 [] (iW bs (ni bs i) 0).2.2):=⟨none,0,none,0,none,0,[],rfl,r⟩
 have bb:(nv bs i:Int)%4=((nv bs i%4:Nat):Int):=xaa;have cS:nv bs i%4<4:=Nat.mod_lt _ xaa;generalize cW:nv bs i%4=nn at bb cS;have bh:V _:=cW.symm;clear cW;clear r ax;go_wp2_with fail;rw[bb];clear bb bo;go_loopw [5] (λt W=>∃k:Nat,k<=nn/\t=hD k/\V (Dd w W P a n cap bs (iW bs (ni bs i) k).1 (iW bs (ni bs i) k).2.1 [] (iW bs (ni bs i) k).2.2)) (λt _=>nn-(intOf t).toNat)
 case atStart=>exact⟨0,yae,rfl,HD.o⟩
 case round=>
  obtain⟨k,N,rfl,a5⟩:=hrel;obtain⟨a1,c1,Y,c2,a3,c3,vs,ae,D⟩:=a5.o;rw[List.length_nil]at D;clear HD;by_cases aC:k<nn
  ·have HD:V _:=D;go_wp2_with fail;refine yaj HD.o.next ?_;rintro e W2 ⟨rfl,h⟩;have bZ:=bO.o (iW bs (ni bs i) k).2.2;have b8:(1:Int)+(nv bs (iW bs (ni bs i) k).2.2:Int)%4=((1+nv bs (iW bs (ni bs i) k).2.2%4:Nat):Int):=xaa;have HSV:V _:=ae;have bW:V _:=rg bs (ni bs i) k;have bu:V (iW bs (ni bs i) (k+1)=((iW bs (ni bs i) k).1++[((1+nv bs (iW bs (ni bs i) k).2.2%4:Nat):Int)],(iW bs (ni bs i) k).2.1++[⟨0,((1+nv bs (iW bs (ni bs i) k).2.2%4:Nat):Int),(k:Int),0,0,0⟩],ni bs (iW bs (ni bs i) k).2.2)):=rfl;replace HD:V _:=h;clear D h ae a5;generalize iW bs (ni bs i) k=ap at HD bu bW HSV b8 bZ⊢;generalize 1+nv bs ap.2.2%4=d at b8 bu;generalize I:ap.1.length=b1 at HD;have ck:b1=k:=by rw[<-I];exact bW.o.1
   have ca:V _:=I;clear I;subst ck;have X:=HD.o.keep (ez 0 0 W2 (.cells #[hD d] 3));have aw:=X.dg.r1;have z:V _:=X;have bd:=HD.o.bx.q0;clear X;go_wp2_with (first|(at_builtin;refine fk _ rfl _ _ rfl (w.heap.size+2) _ ap.1 rfl aw ⟨W2.heap.size,0,none⟩ (d:Int) rfl xac (hM bW.o.1) z.o.dg.sz ?_;intro g9 cap9 n9 bg bJ bQ aD cd;have aa:=jJ z.o.bx aD (λc=>hM ((eH z.o.dg.r1 c).1));have T:V _:=z.o.ins_ aD bQ bJ cd;replace bJ:V _:=bJ;obtain⟨_,bC,aN,a2,bG,f1,f2⟩:=aa));generalize bg.setCell ⟨w.heap.size+1,0,none⟩ (hC g9 n9 cap9)=bj at T⊢;clear bQ aD cd bC aN a2 bG f1 f2 bd aw z HD;have aI:V (∀ci,Kept 0 0 bj ci->_):=λci bS=>T.o.put bS (eL 0 (d:Int) (b1:Int) 0 0) (Nat.zero_lt_succ _) (by have:=bW.o.2;have bp:=congrArg List.length HSV.o;rw[List.length_map]at bp;omega);obtain⟨_,bC,aN,a2,bG,f1,f2⟩:=T.o.bx
   go_region_with (first
    |(go_at_call 38;refine yaj (aI.o _ ((eF _).trans bS)) ?_;rintro e ag ⟨aB,cap',rfl,aO,aA⟩;obtain⟨_,bm,ay,aW,bv,bA,bM⟩:=aO)
    |(go_at_call 40;refine yaj (gO _ _ _ _ _ _) ?_;rintro e ci ⟨rfl,bS⟩;obtain⟨_,aT,ao,aG,_,_,_⟩:=(T.o.keep ((eF _).trans bS)).bx))
   all_goals
    go_wp2_with fail
    go_roundw
    case rel=>
     exact⟨b1+1,by omega,by go_num,by rw[bu.o];exact Dd.of aA HSV.o rfl⟩
    case measure=>simp[intOf];omega
  have HE:V (Dd w wr P a n cap bs (iW bs (ni bs i) nn).1 (iW bs (ni bs i) nn).2.1 [] (iW bs (ni bs i) nn).2.2):=by
   have e:k=nn:=xaa;rw[<-e];exact a5.o
  have aZ:V _:=rg bs (ni bs i) nn;clear D ae a5;have aX:V (gwL bs (iW bs (ni bs i) nn).1 (2+nv bs (iW bs (ni bs i) nn).2.2%24) (2+nv bs (iW bs (ni bs i) nn).2.2%24-0) 0 (iW bs (ni bs i) nn).2.1 (ni bs (iW bs (ni bs i) nn).2.2)=dgG bs i):=hS bh.o
  have b3:V _:=r8 bs (ni bs i) nn;have bK:V _:=(rfl:dgG bs i=dgG bs i)
  generalize ch:dgG bs i=G at aX⊢;replace bK:V _:=ch;clear ch;have cV:V (dgI bs i=iW bs (ni bs i) nn):=by show dgI bs i=_;rw[bh.o];rfl
  generalize iW bs (ni bs i) nn=ap at HE aZ aX b3 cV⊢;obtain⟨a1,c1,Y,c2,a3,c3,vs,(HSV:V _),(HD:V _)⟩:=HE.o;clear HE;go_wp2_with fail;refine yaj HD.o.next ?_;rintro e W2 ⟨rfl,h⟩;have ak:=bO.o ap.2.2;have b0:(2:Int)+(nv bs ap.2.2:Int)%24=((2+nv bs ap.2.2%24:Nat):Int):=xaa;have cy:2+nv bs ap.2.2%24<=25:=xaa;have bF:2<=2+nv bs ap.2.2%24:=xaa;generalize 2+nv bs ap.2.2%24=m at b0 cy bF aX;have s:V (Dd w W2 P a n cap bs ap.1 ap.2.1 [] (ni bs ap.2.2)):=⟨a1,c1,Y,c2,a3,c3,vs,HSV.o,h⟩
  clear h HD HSV;go_wp2_with fail;try rw[b0]
  clear b0;go_loopw [8] (λt W=>∃(k:Nat) (S:List Vl) (p:Nat),k<=m/\t=hD k/\V (Dd w W P a n cap bs ap.1 S [] p)/\V (LenS S)/\V (S.length=nn+k)/\V (gwL bs ap.1 m (m-k) k S p=G)) (λt _=>m-(intOf t).toNat)
  case atStart=>exact⟨0,ap.2.1,_,yae,rfl,s.o,b3.o.1,hS aZ.o.2,aX.o⟩
  case round=>
   obtain⟨ah,S,p,b2,rfl,aV,bw,bz,au⟩:=hrel;obtain⟨a1,c1,Y,c2,a3,c3,vs,ae,D⟩:=aV.o;clear s aX;have aQ:V _:=bw.o.of ae;have cu:vs.length=S.length:=by rw[<-ae,List.length_map]
   have cG:vs.length<=100000:=hM bz.o
   have ab:V (∀v aB cap' ag,sv v=(gwM ap.1 vs bs p).1->Dx w ag P a n cap (gwM ap.1 vs bs p).2 bs (.slice a1 ap.1.length c1) (hC aB (vs.length+1) cap') (.slice a3 0 c3) ap.1 (vs++[v]) []->ah<m->(ah<3\/p<bs.length)->∃(S':List Vl) (f:Nat),Dd w ag P a n cap bs ap.1 S' [] f/\LenS S'/\S'.length=nn+(ah+1)/\gwL bs ap.1 m (m-(ah+1)) (ah+1) S' f=G):=λv aB cap' ag B J h3 a0=>by
    have a6:gwM ap.1 vs bs p=gwM ap.1 S bs p:=by rw[<-It,ae]
    rw[a6]at B J
    refine⟨S++[(gwM ap.1 S bs p).1],(gwM ap.1 S bs p).2,Dd.of J ae B,bw.o.snoc (x9 b3.o.2 bw.o),by rw[yal,bz.o];rfl,?_⟩
    have:=au.o
    rw[show m-ah=(m-(ah+1))+1 by omega,gwL,hG ⟨h3,a0⟩]at this
    exact this
   have bL:V _:=λc=>by
    have:=au.o
    cases aq:m-ah with
    |zero=>rw[aq,gwL]at this;exact this.symm
    |succ x=>rw[aq,gwL,hF c]at this;exact this.symm
   rw[List.length_nil]at D;have HD:V _:=D;have HSV:V _:=ae;have bx:V (∀W',Kept 0 0 wr W'->_):=λW' ai=>(HD.o.keep ai).grow cG aQ.o;have cf:V _:=Cz D.rd;clear D ae au bw cu aV;by_cases ad:ah<m/\(ah<3\/p<bs.length)
   ·have aC:=ad.1;have bc:V _:=ad.2;clear ad bL;by_cases h3:ah<3
    ·obtain⟨_,bC,aN,a2,bG,f1,f2⟩:=HD.o.bx;go_wp2_with (first|(go_at_call 42;refine yaj (bx.o _ hL) ?_;rintro e ag ⟨v,aB,cap',rfl,b7,aO,aA⟩;obtain⟨_,bm,ay,aW,bv,bA,bM⟩:=aO));exact xff
    have bR:(p:Int)<bs.length:=hM bc.o
    have ef:=HD.o.rd.small;have a9:(bs.length:Int)<=500:=hM HD.o.rd.ys.len
    clear ef
    go_wp2_with (first
     |(go_at_call 39;refine yaj cf.o ?_;rintro e cj ⟨rfl,bU⟩;obtain⟨_,bC,aN,a2,bG,f1,f2⟩:=(HD.o.keep bU).bx)
     |(go_at_call 42;refine yaj (bx.o _ bU) ?_;rintro e ag ⟨v,aB,cap',rfl,b7,aO,aA⟩;obtain⟨_,bm,ay,aW,bv,bA,bM⟩:=aO))
    exact xff
   have cl:=bL.o ad;clear ab bL bx;have cJ:V (2<=S.length):=by have:=bz.o;show 2<=_;omega
   have aR:V _:=cl;have a8:V (vs.length=S.length):=by show vs.length=_;rw[<-HSV.o,List.length_map]
   clear cl;rcases (by omega:¬ah<m\/(ah<m/\¬ah<3/\¬p<bs.length)) with aU|aS
   case' inl=>
    clear ad;have bH:V _:=HD.o;go_wp2_with fail
   case' inr=>
    obtain⟨b5,bT,an⟩:=aS;have bR:(bs.length:Int)<=p:=xaa;have a9:(bs.length:Int)<=500/\(p:Int)<=500:=by have:=HD.o.rd.ys.len;have:=HD.o.rd.small;have:=HD.o.rd.hi;omega
    obtain⟨cA,cB⟩:=a9;clear ad an;go_wp2_with (first|(go_at_call 39;refine yaj cf.o ?_;rintro e cj ⟨rfl,bU⟩;have bH:V _:=HD.o.keep bU;clear bU))
   all_goals
    refine yaj bH.o.next ?_
    rintro e bi ⟨rfl,cb⟩
    have b9:(nv bs p:Int)%5=((nv bs p%5:Nat):Int):=xaa
    have cz:nv bs p%5<5:=Nat.mod_lt _ xaa
    have cg:V (dgO bs i=pM bs S.length (ni bs p) (nv bs p%5)):=by show dgO bs i=_;unfold dgO;rw[bK.o,aR.o]
    generalize nv bs p%5=bD at b9 cz cg
    have ce:V (Dd w bi P a n cap bs ap.1 S (pM bs S.length (ni bs p) 0).1 (pM bs S.length (ni bs p) 0).2):=⟨a1,c1,Y,c2,a3,c3,vs,HSV.o,cb⟩
    clear cb bH HD
    go_wp2_with fail
    try rw[b9]
    clear b9
    go_loopw [9] (λt W=>∃k:Nat,k<=bD/\t=hD k/\V (Dd w W P a n cap bs ap.1 S (pM bs S.length (ni bs p) k).1 (pM bs S.length (ni bs p) k).2)) (λt _=>bD-(intOf t).toNat)
    case atStart=>exact⟨0,yae,rfl,ce.o⟩
    case round=>
     obtain⟨aF,aM,rfl,bq⟩:=hrel
     clear ce
     by_cases cx:aF<bD
     ·obtain⟨a1,c1,Y,c2,a3,c3,vs,ae,D⟩:=bq.o
      have aj:V _:=uJ bs S.length (ni bs p) aF
      have bu:V (pM bs S.length (ni bs p) (aF+1)=((pM bs S.length (ni bs p) aF).1++[Am S.length (nv bs (pM bs S.length (ni bs p) aF).2)],ni bs (pM bs S.length (ni bs p) aF).2)):=rfl
      have bN:V _:=ae
      have bk:V (vs.length=S.length):=by show vs.length=_;rw[<-ae,List.length_map]
      have HD:V _:=D
      clear D ae bq
      generalize pM bs S.length (ni bs p) aF=b4 at HD bu aj⊢
      rw[aj.o]at HD
      go_wp2_with fail
      refine yaj HD.o.next ?_
      rintro e ag ⟨rfl,cc⟩
      have ak:=bO.o b4.2
      generalize nv bs b4.2=x at ak bu⊢
      replace HD:V _:=cc
      clear cc
      have Z:vs.length<=100:=hN bk.o bz.o
      have cw:2<=vs.length:=hN bk.o cJ.o
      generalize cu:vs.length=l at HD Z cw
      have bI:V _:=cu
      clear cu
      by_cases h3:0<x%3
      ·have bP:0<(x:Int)%3:=xaa
       have bX:(l:Int)-1-(x:Int)/3%3=(l:Int)-1-((x/3%3:Nat):Int):=xaa
       have bn:V (Am S.length x=if (l:Int)-1-((x/3%3:Nat):Int)<0 then 0 else (l:Int)-1-((x/3%3:Nat):Int)):=by show Am _ _=_;unfold Am;rw[hG h3,<-bk.o,bI.o]
       have co:-3<=(l:Int)-1-((x/3%3:Nat):Int)/\(l:Int)-1-((x/3%3:Nat):Int)<=100:=xaa
       generalize (l:Int)-1-((x/3%3:Nat):Int)=y at bX bn co
       have X:=HD.o.keep (ez 0 0 ag (.cells #[hD y] 3))
       have aw:=X.dg.r3
       have z:V _:=X
       obtain⟨_,bd,aL,aJ,_,_,_⟩:=HD.o.bx
       clear X
       go_upto_region 22 with (first|(at_builtin;refine fk _ rfl _ _ rfl (w.heap.size+2) _ b4.1 rfl aw ⟨ag.heap.size,0,none⟩ y rfl xac (hM aj.o) z.o.dg.sz ?_;intro g9 cap9 n9 bg bJ bQ aD cd;have aa:=jJ z.o.bx aD (λc=>hM ((eH z.o.dg.r3 c).1));have T:V _:=z.o.outs_ aD bQ bJ cd;replace bJ:V _:=bJ;obtain⟨_,bC,aN,a2,bG,f1,f2⟩:=aa))
       generalize bg.setCell ⟨w.heap.size+1,2,none⟩ (hC g9 n9 cap9)=bj at T⊢
       have F:aF<n9:=by have:=bJ.o;rw[yal,aj.o]at this;simp at this;omega
       have ar:=T.o.dg.r3
       obtain⟨be,cq,aK,_,bV,aH⟩:=Io ar rfl (k:=aF) (by rw[yal,aj.o];simp)
       have ba:(b4.1++[y]).getD aF 0=y:=by rw[yai,yas (by rw[aj.o];exact yad),aj.o,Nat.sub_self];rfl
       rw[ba]at aH
       injection aK with e1 e2 af
       injection e1 with e1
       injection e1 with e1
       subst e1
       obtain⟨_,bf,aP,aY,_,_,_⟩:=T.o.bx
       have u:bj.frozen? ⟨g9,aF,none⟩=false:=by
        have av:=T.o.dg.r3
        have am:=jP av
        rw[am]at av
        exact av.frozenAt aF
       clear ar ba e2 af bQ aD cd bC aN a2 bG f1 f2 aw z bd aL aJ bV
       by_cases c6:y<0
       ·have HO:V _:=T.o.setO (k:=aF) 0
        go_wp2_with fail
        go_roundw
        case rel=>
         refine⟨aF+1,by omega,by go_num,?_⟩
         have bl:=HO.o
         rw[show aF=b4.1.length from aj.o.symm,I1,aj.o,<-bI.o]at bl
         rw[bu.o,bn.o,hG c6]
         exact Dd.ofO bl bN.o
        case measure=>simp[intOf];omega
       ·go_wp2_with fail
        go_roundw
        case rel=>
         have bl:=T.o
         rw[<-bI.o]at bl
         exact⟨aF+1,by omega,by go_num,by rw[bu.o,bn.o,hF c6];exact Dd.ofO bl bN.o⟩
        case measure=>simp[intOf];omega
      ·have bP:¬0<(x:Int)%3:=xaa
       have cr:(x:Int)%l=((x%l:Nat):Int):=by rw[Int.natCast_emod]
       have bn:V (Am S.length x=((x%l:Nat):Int)):=by show Am _ _=_;unfold Am;rw[hF h3,<-bk.o,bI.o]
       have K:x%l<l:=Nat.mod_lt _ xaa
       generalize x%l=O at cr bn K
       obtain⟨y,cn⟩:∃y:Int,(O:Int)=y:=⟨_,rfl⟩
       rw[cn]at cr bn
       have c6:¬y<0:=xaa
       have eT:y<=100:=xaa
       have bY:¬l=0:=xaa
       have cC:=(Int.tmod_eq_emod_of_nonneg xaa).trans cr
       clear cn
       have X:=HD.o.keep ((ez 0 0 ag (.cells #[hD y] 3)).trans (eK 0 0 _ 1))
       have aw:=X.dg.r3
       have z:V _:=X
       obtain⟨_,bd,aL,aJ,_,_,_⟩:=HD.o.bx
       clear X
       go_upto_region 21 with fail
       go_region_law ((refine yk _ rfl (.tmp 82) (.tmp 88) rfl (w.heap.size+2) _ b4.1 (by simp[Act.eval]) aw ⟨ag.heap.size,0,none⟩ y (by simp[Act.eval]) xac (hM aj.o) z.o.dg.sz ?_;intro g9 cap9 n9 bg bJ bQ aD cd;have aa:=jJ z.o.bx aD (λc=>hM ((eH z.o.dg.r3 c).1));have T:V _:=z.o.outs_ aD bQ bJ cd;replace bJ:V _:=bJ;obtain⟨_,bC,aN,a2,bG,f1,f2⟩:=aa))
       all_goals
        generalize bg.setCell ⟨w.heap.size+1,2,none⟩ (hC g9 n9 cap9)=bj at T⊢
        have F:aF<n9:=by have:=bJ.o;rw[yal,aj.o]at this;simp at this;omega
        have ar:=T.o.dg.r3
        obtain⟨be,cq,aK,_,bV,aH⟩:=Io ar rfl (k:=aF) (by rw[yal,aj.o];simp)
        have ba:(b4.1++[y]).getD aF 0=y:=by rw[yai,yas (by rw[aj.o];exact yad),aj.o,Nat.sub_self];rfl
        rw[ba]at aH
        injection aK with e1 e2 af
        injection e1 with e1
        injection e1 with e1
        subst e1
        obtain⟨_,bf,aP,aY,_,_,_⟩:=T.o.bx
        have u:bj.frozen? ⟨g9,aF,none⟩=false:=by
         have av:=T.o.dg.r3
         have am:=jP av
         rw[am]at av
         exact av.frozenAt aF
        clear ar ba e2 af bQ aD cd bC aN a2 bG f1 f2 aw z bd aL aJ bV
        go_wp2_with fail
        go_roundw
        case rel=>
         have bl:=T.o
         rw[<-bI.o]at bl
         exact⟨aF+1,by omega,by go_num,by rw[bu.o,bn.o];exact Dd.ofO bl bN.o⟩
        case measure=>simp[intOf];omega
     ·have af:aF=bD:=xaa
      have aI:V (Dd w wr P a n cap bs (dgI bs i).1 (dgG bs i).1 (dgO bs i).1 (dgO bs i).2):=by
       show Dd _ _ _ _ _ _ _ _ _ _ _
       rw[bK.o,aR.o,cV.o,cg.o,<-af]
       exact bq.o
      clear bq af
      obtain⟨a1,c1,Y,c2,a3,c3,vs,ae,D⟩:=aI.o
      have al:V _:=D.fin ae
      obtain⟨_,bd,aL,aJ,_,_,_⟩:=D.bx
      obtain⟨_,bm,ay,aW,bG,f1,f2⟩:=D.rs
      clear D ae aI
      go_wp2_with fail
      obtain⟨bf,aP,aY⟩:=eZ wr w.heap.size _ _ _ bm ay aW (.slice a1 (dgI bs i).1.length c1) (.slice Y vs.length c2) (.slice a3 (dgO bs i).1.length c3)
      exact yaz (v:=eV a1 (dgI bs i).1.length c1 Y vs.length c2 a3 (dgO bs i).1.length c3) (by simp[results,results37,go_sem,bf,aP,aY]) rfl al.o
structure Dy(w0 W:World)(P:Nat)(a:Option Addr)(n cap i:Nat)(bs:List Int)(R Q:Nat)(u1 u2 u3:Value)(ins:List Int)(vs:List Vl)(outs:List Int):Prop where
 rd:RdF W P a n cap i bs
 dg:DG W w0.heap.size u1 u2 u3 ins vs outs
 bx:RB W Q u1 u2 u3
 rs:RB W R iS iS iS
 p0:P<w0.heap.size
 rq:w0.heap.size<=R/\w0.heap.size<=Q/\R≠Q
 nr:∀b,u1.ownBlock=some b\/u2.ownBlock=some b\/u3.ownBlock=some b->b≠R/\b≠Q
 k0:Kept P (P+1) w0 W
theorem Dy.step{W K}(f:Dy H W P a n cap i bs U Q u1 u2 u3 ins vs outs)(C:RdF W' P a n cap K bs)(k:Kept P (P+1) W W'):Dy H W' P a n cap K bs U Q u1 u2 u3 ins vs outs:=
 ⟨C,f.dg.kept k (hM f.p0),f.bx.kept k (hN f.p0 f.rq),f.rs.kept k (hN f.p0 f.rq),f.p0,f.rq,f.nr,f.k0.trans k⟩
theorem Dy.keep{W}(f:Dy H W P a n cap i bs U Q u1 u2 u3 ins vs outs)(k:Kept 0 0 W W'):Dy H W' P a n cap i bs U Q u1 u2 u3 ins vs outs:=f.step (f.rd.keep0 k) (fh k)
theorem Dy.next{W}(f:Dy H W P a n cap i bs U Q u1 u2 u3 ins vs outs):
  Calls prog 33 #[hB P] W λe W'=>e=.returned (hD (nv bs i:Int))/\Dy H W' P a n cap (ni bs i) bs U Q u1 u2 u3 ins vs outs:=
 (jh W P a n cap i bs f.rd).mono λ_ _ q=>⟨q.1,f.step q.2.1 q.2.2.1⟩
theorem cT.qda(h:Zp:=by
 refine⟨p.keep ai (.inl xaa),⟨own G.r1 λb hb=>(f.nr b (.inl hb)).2,own G.r2 λb hb=>?_,own G.r3 λb hb=>(f.nr b (.inr (.inr hb))).2,G.a12,G.a13,G.a23,G.k,yao G.sz ai.size⟩,hb,av.kept ai xaa,aK,am,?_,⟨ai.os.trans (X.os.trans f.k0.os),ai.tape.trans (X.tape.trans f.k0.tape),ai.output.trans (X.output.trans f.k0.output),yao f.k0.size (yao X.size ai.size),λb hb hn=>?_⟩⟩
 ·have e:b=g:=by simpa[Value.ownBlock] using hb.symm
  subst e;exact an.2
 ·rintro b (h|h|h)
  ·exact f.nr b (.inl h)
  ·have e:b=g:=by simpa[Value.ownBlock] using h.symm
   subst e;exact an
  exact f.nr b (.inr (.inr h))
 have B:=f.k0.size;have J:=X.size;rw[ai.block b xaa xaa,X.block b xaa (λq=>hM ((aS b q).1))];exact f.k0.block b hb hn):Zp:=h
open cT in
theorem Dy.vals{W}(f:Dy H W P a n cap i bs U Q u1 u2 u3 ins vs outs)(X:Chg (λb=>u2.ownBlock=some b) W W')(al:W'.ownsRow H.heap.size 60 6 (hC g m c) m (fK a7))(aq:m=a7.length)(aR:u2.ownBlock=some g\/W.heap.size<=g)(N:∀v∈a7,v.k<18446744073709551616)(ai:Kept Q (Q+1) W' W2)(hb:RB W2 Q u1 (hC g m c) u3):Dy H W2 P a n cap i bs U Q u1 (hC g m c) u3 ins a7 outs:=by
 have aK:=f.p0;have am:=f.rq;have aS:∀b,u2.ownBlock=some b->H.heap.size<=b/\b≠U/\b≠Q:=λb hb=>⟨(eH f.dg.r2 hb).1,f.nr b (.inr (.inl hb))⟩
 have an:g≠U/\g≠Q:=by
  rcases aR with c|c
  ·exact(aS g c).2
  have:=f.rs.sz;have:=f.bx.sz;omega
 have av:=jJ f.rs X (λc=>(aS _ c).2.1 rfl);have G:=f.dg.vals X al aq aR N;have p:=rW f.rd X λb hb=>hM ((aS b hb).1)
 exact qcz
theorem aN.qbc(h:Zp:=by
 have hb:=jJ f1.bx X (λc=>(f.nr _ (.inr (.inl c))).2 rfl);exact⟨_,_,rfl,hb,f1.vals X aZ xac aR N (fg _ _ _ _ _) (nK hb _ _ _)⟩):Zp:=h
open aN in
theorem Dy.put{H W P a n cap i bs U Q a1 Y a3 n1 c1 c2 n3 c3 ins vs outs az}(f:Dy H W P a n cap i bs U Q (.slice a1 n1 c1) (.slice Y vs.length c2) (.slice a3 n3 c3) ins vs outs)(k:Kept 0 0 W az)(v)(aD:v.k<18446744073709551616)(hn:vs.length<=100000):
  Calls prog 38 #[eV a1 n1 c1 Y vs.length c2 a3 n3 c3,v.agg] az λe ag=>∃aB cap',e=.returned (eV a1 n1 c1 (some ⟨aB,0,none⟩) (vs.length+1) cap' a3 n3 c3)/\RB ag Q (.slice a1 n1 c1) (.slice Y vs.length c2) (.slice a3 n3 c3)/\Dy H (fw ag Q (.slice a1 n1 c1) (hC aB (vs.length+1) cap') (.slice a3 n3 c3)) P a n cap i bs U Q (.slice a1 n1 c1) (hC aB (vs.length+1) cap') (.slice a3 n3 c3) ins (vs++[v]) outs:=by
 exact qex
theorem Dy.fin{W}(f:Dy H W P a n cap i bs U Q (.slice a1 n1 c1) (.slice Y vs.length c2) (.slice a3 n3 c3) ins vs outs)(ar:vs.map sv=S):
  DgF H P a n cap bs ins S outs i (.returned (eV a1 n1 c1 Y vs.length c2 a3 n3 c3)) (fw W U (.slice a1 n1 c1) (.slice Y vs.length c2) (.slice a3 n3 c3)):=by
 have e1:=jP f.dg.r1;have af:=jP f.dg.r3;subst e1 af;have ai:=fg W U (.slice a1 ins.length c1) (.slice Y vs.length c2) (.slice a3 outs.length c3);have aK:=f.p0;have am:=f.rq;have B:=f.k0.size;have own:∀{u:Value}{xs:List _}{m e s:Nat},W.ownsRow H.heap.size e s u m _->(∀b,u.ownBlock=some b->b≠U)->(fw W U _ _ _).ownsRow _ e s u m xs:=λo h=>fX o ai λb hb=>hM (h b hb)
 refine⟨_,_,_,_,_,_,_,rfl,ar,⟨own f.dg.r1 λb hb=>(f.nr b (.inl hb)).1,own f.dg.r2 λb hb=>(f.nr b (.inr (.inl hb))).1,own f.dg.r3 λb hb=>(f.nr b (.inr (.inr hb))).1,f.dg.a12,f.dg.a13,f.dg.a23,f.dg.k,yao f.dg.sz ai.size⟩,f.rd.keep ai (.inl xaa),⟨ai.os.trans f.k0.os,ai.tape.trans f.k0.tape,ai.output.trans f.k0.output,yao B ai.size,λb hb hn=>?_⟩⟩;exact xiy
theorem uK(w){rest o a Q}(X:o.guard=none)(s x)
  (al:o.op=.call {callee:=.builtin .append,args:=#[s,x],argTypes:=#[24,24]})
  (R) (u) (vs) (ar:a.eval s=u) (aZ:w.ownsRow R 60 6 u vs.length (fK vs))
  (b) (v) (ak:a.eval x=hC b 1 1) (f:∀j u,v.cells[j]? =some u->w.cell? ((⟨b,0,none⟩:Addr).add j)=some u)
  (C:vs.length+1<=1000000) (T:R<=w.heap.size)
  (h:∀g cap n I,n=(vs++[v]).length->I.ownsRow R 60 6 (hC g n cap) n (fK (vs++[v]))->Chg (λb=>u.ownBlock=some b) w I->(u.ownBlock=some g\/g=w.heap.size)->wpList prog br Q rest (a.put o.dst (hC g n cap)) I):wpList prog br Q (o::rest) a w:=by
 obtain⟨b3,hi,a6,b8,b5⟩:=info_parts sc;refine wpList_append_lies w X s x _ al R 60 _ _ 6 _ underlying24 hi a6 b8 b5 rfl xab u _ _ ar aZ _ 1 1 _ ak rfl f (AD v) xab (by unfold maxLen;omega) xaa T _ rfl ?_;intro g cap I B J h3 _;have e:vs.length+1=(vs++[v]).length:=by rw[yal];rfl
 rw[e]at B⊢;refine h g _ _ _ rfl ?_ (ii J) h3;rw[kC,mV];exact B
def nd(sz:Nat):Nat->List Vl
 |0=>[]
 |k+1=>nd sz k++[⟨1,(sz:Int),0,0,0,fbz (floatOfInt .f64 ((k%3:Nat):Int))⟩]
theorem r9(v):∀k,(nd v k).length=k
 |0=>rfl
 |k+1=>by rw[nd,yal,r9 _ k];rfl
def Dw(w W:World)(P:Nat)(a:Option Addr)(n cap i:Nat)(bs:List Int)(S:List Vl):Prop:=
 ∃a2 c2 vs,vs.map sv=S/\Dy w W P a n cap i bs w.heap.size (w.heap.size+2) iS (.slice a2 vs.length c2) (.slice (some ⟨w.heap.size+1,0,none⟩) 1 1) [] vs [0]
theorem LB{W p bH O ax}(t:RB W p bH O ax)(x):RB (W.setCell ⟨p,1,none⟩ x) p bH x ax:=
 ⟨by simpa using t.sz,by rw[eM _ _ _ _ _ _ (.inr xaa)];exact t.q0,fD _ _ _ _ _ t.q1,by rw[eM _ _ _ _ _ _ (.inr xaa)];exact t.q2,by simp[t.f0],by simp[t.f1],by simp[t.f2]⟩
theorem BD(C:RdF w P a n cap i bs):
  Dy w (((w.alloc fj).alloc (.cells #[hD 0] 3)).alloc (.cells #[.slice none 0 0,.slice none 0 0,hC (w.heap.size+1) 1 1] 26)) P a n cap i bs w.heap.size (w.heap.size+2) iS iS (hC (w.heap.size+1) 1 1) [] [] [0]:=by
 have bx:=ez 0 0 w fj;have bZ:=ez 0 0 (w.alloc fj) (.cells #[hD 0] 3);have f:=ez 0 0 ((w.alloc fj).alloc (.cells #[hD 0] 3)) (.cells #[.slice none 0 0,.slice none 0 0,hC (w.heap.size+1) 1 1] 26);have B:(w.alloc fj).heap.size=w.heap.size+1:=by simp
 have J:((w.alloc fj).alloc (.cells #[hD 0] 3)).heap.size=w.heap.size+2:=by simp
 have G:=(bx.trans bZ).trans f;have am:=World.ownsRow_lit (base:=w.heap.size) (e:=3) (size:=1) (w.alloc fj) #[hD 0] 1 xaa (by unfold maxLen;omega) rfl;rw[B]at am;have hb:=sO (S:=λ_=>False) ((w.alloc fj).alloc (.cells #[hD 0] 3)) _ #[.slice none 0 0,.slice none 0 0,hC (w.heap.size+1) 1 1] 26 (hL).chg (λc=>c);rw[J]at hb;refine⟨C.keep0 G,⟨yaw _ _ _ _,yaw _ _ _ _,eR am f,?_,?_,?_,?_,G.size⟩,⟨hb.2.2,hb.1 0,hb.1 1,hb.1 2,hb.2.1 0,hb.2.1 1,hb.2.1 2⟩,(fF w).keep (bZ.trans f),C.lt,⟨yad,by omega,by omega⟩,?_,fh G⟩
 ·intro b h;cases h
 ·intro b h;cases h
 ·intro b h;cases h
 ·intro v aD;cases aD
 rintro b (h|h|h)
 ·cases h
 ·cases h
 simp[Value.ownBlock]at h;omega
theorem Mo(C:RdF w P a n cap i bs)(m v:Nat)(aq:m<=3000):
  Calls prog 64 #[hD m,hD v] w (DgF w P a n cap bs [] (nd v m) [0] i):=by
 have ax:V _:=BD C;clear C;go_enter func64,ntmps64;go_wp2_with fail;generalize ((w.alloc fj).alloc (.cells #[hD 0] 3)).alloc (.cells #[.slice none 0 0,.slice none 0 0,hC (w.heap.size+1) 1 1] 26)=W0 at ax⊢;go_loopw [6] (λt W=>∃k:Nat,k<=m/\t=hD k/\V (Dw w W P a n cap i bs (nd v k))) (λt _=>m-(intOf t).toNat)
 case atStart=>exact⟨0,yae,rfl,⟨none,0,[],rfl,ax.o⟩⟩
 case round=>
  obtain⟨k,N,rfl,a5⟩:=hrel;clear ax;obtain⟨Y,c2,vs,ae,D⟩:=a5.o;clear a5;by_cases aC:k<m
  ·have a8:V (vs.length=k):=by show _=_;have bp:=congrArg List.length ae;rw[List.length_map,r9]at bp;exact bp
   have aM:(k:Int)%3=((k%3:Nat):Int):=xaa;have s:k%3<3:=Nat.mod_lt _ xaa;generalize f:k%3=r at aM s;have aO:V _:=f;clear f;have X:=D.keep (ez 0 0 wr (fB 1 (v:Int) 0 0 0 (floatOfInt .f64 (r:Int))));have B:=X.dg.r2;have z:V _:=X;have HSV:V _:=ae;obtain⟨_,bd,aL,aJ,_,_,_⟩:=D.bx;clear D X ae;go_upto_region 4 with (first|(at_builtin;refine uK _ rfl _ _ rfl w.heap.size _ vs rfl B wr.heap.size ⟨1,(v:Int),0,0,0,floatOfInt .f64 (r:Int)⟩ rfl (by intro j u aH;have bP:=vg wr ⟨1,(v:Int),0,0,0,floatOfInt .f64 (r:Int)⟩ 0 j u aH;exact bP) (hM a8.o) z.o.dg.sz ?_;intro g9 cap9 n9 bg bJ bQ aD cd;have aa:=jJ z.o.bx aD (λc=>(z.o.nr _ (.inr (.inl c))).2 rfl);have T:V _:=z.o.vals aD bQ bJ (cd.imp id λe=>Nat.le_of_eq e.symm) (by intro u aH;rcases List.mem_append.1 aH with c|c;exact z.o.dg.k u c;simp only[List.mem_singleton]at c;subst c;exact qR _) (eP bg ⟨w.heap.size+2,1,none⟩ (hC g9 n9 cap9) yac) (LB aa _);replace bJ:V _:=bJ;obtain⟨_,bC,aN,a2,bG,f1,f2⟩:=aa));go_wp2_with fail;go_roundw
   case rel=>
    refine⟨k+1,by omega,by go_num,some ⟨g9,0,none⟩,cap9,vs++[⟨1,(v:Int),0,0,0,floatOfInt .f64 (r:Int)⟩],by rw[List.map_append,HSV.o,nd,aO.o];rfl,?_⟩;have bp:=T.o;rw[bJ.o]at bp;rw[bJ.o];exact bp
   case measure=>simp[intOf];omega
  have af:k=m:=xaa;rw[af]at ae;have al:V _:=D.fin ae;obtain⟨_,bd,aL,aJ,_,_,_⟩:=D.bx;obtain⟨_,bm,ay,aW,bG,f1,f2⟩:=D.rs;clear D ae af;go_wp2_with fail;obtain⟨bf,aP,aY⟩:=eZ wr w.heap.size _ _ _ bm ay aW (.slice none 0 0) (.slice Y vs.length c2) (hC (w.heap.size+1) 1 1);exact yaz (v:=eV none 0 0 Y vs.length c2 (some ⟨w.heap.size+1,0,none⟩) 1 1) (by simp[results,results64,go_sem,bf,aP,aY]) rfl al.o
theorem An:∀(vs:List Vl) (j q:Nat) (x:Value) (v':Vl),j<vs.length->q<6->v'.cells=(vs.getD j hI).cells.set q x->fK (vs.set j v')=(fK vs).set (j*6+q) x
 |u::r,0,q,x,v',_,am,aD=>by
  have aH:u.cells.length=6:=rfl
  rw[List.set_cons_zero,fK,fK,Nat.zero_mul,Nat.zero_add,List.set_append_left _ _ (hO aH am)]
  exact congrArg (· ++fK r) aD
 |u::r,j+1,q,x,v',hj,am,aD=>by
  have aH:u.cells.length=6:=rfl
  rw[List.set_cons_succ,fK,fK,List.set_append_right _ _ (hR aH),aH,show(j+1)*6+q-6=j*6+q by omega,An r j q x _ (by simpa using hj) am aD]
theorem DG.setV(f:DG w R u1 (hC g m c) u3 ins vs outs){v'}(hj:j<vs.length)(am:q<6)(aD:v'.cells=(vs.getD j hI).cells.set q x)(N:v'.k<18446744073709551616):DG (w.setCell ⟨g,j*6+q,none⟩ x) R u1 (hC g m c) u3 ins (vs.set j v') outs:=by
 have e:=jP f.r2;subst e;have J:=(f.r2.stored (j*6+q) x).1;refine⟨eJ f.r1 λh=>f.a12 _ h rfl,?_,eJ f.r3 λh=>f.a23 _ rfl h,f.a12,f.a13,f.a23,λu aH=>?_,by simpa using f.sz⟩
 ·rw[List.length_set,An _ j q x _ hj am aD];exact J
 rcases List.mem_or_eq_of_mem_set aH with c|c
 ·exact f.k u c
 rw[c];exact N
theorem cU.qda(h:Zp:=by
 refine⟨p.keep ai (.inl xaa),⟨own G.r1 λb hb=>(hn b (.inl hb)).2,own G.r2 λb hb=>(hn b (.inr (.inl hb))).2,own G.r3 λb hb=>(hn b (.inr (.inr hb))).2,G.a12,G.a13,G.a23,G.k,yao G.sz ai.size⟩,hb,av.kept ai xaa,aK,am,hn,⟨ai.os.trans (X.os.trans f.k0.os),ai.tape.trans (X.tape.trans f.k0.tape),ai.output.trans (X.output.trans f.k0.output),yao f.k0.size (yao X.size ai.size),λb hb hn=>?_⟩⟩;have B:=f.k0.size;have J:=X.size;rw[ai.block b xaa xaa,X.block b xaa (λq=>hM ((aZ b q).1))];exact f.k0.block b hb hn):Zp:=h
open cU in
theorem Dy.setG{W a9 ba be l Z S}(f:Dy H W P a n cap i bs U Q u1 u2 u3 ins vs outs)(X:Chg S W W')(aZ:∀b,S b->H.heap.size<=b/\b≠U/\b≠Q)(G:DG W' H.heap.size a9 ba be l a7 Z)(hn:∀b,a9.ownBlock=some b\/ba.ownBlock=some b\/be.ownBlock=some b->b≠U/\b≠Q)(ai:Kept Q (Q+1) W' W2)(hb:RB W2 Q a9 ba be):Dy H W2 P a n cap i bs U Q a9 ba be l a7 Z:=by
 have aK:=f.p0;have am:=f.rq;have av:=jJ f.rs X (λc=>(aZ _ c).2.1 rfl);have p:=rW f.rd X λb hb=>hM ((aZ b hb).1)
 exact qcz
theorem Dy.outs_{W x}(f:Dy H W P a n cap i bs U Q u1 u2 u3 ins vs outs)(X:Chg (λb=>u3.ownBlock=some b) W W')(al:W'.ownsRow H.heap.size 3 1 (hC g m c) m ((outs++[x]).map (Value.int .i64)))(aq:m=(outs++[x]).length)(aR:u3.ownBlock=some g\/g=W.heap.size):RB W' Q u1 u2 u3/\Dy H (W'.setCell ⟨Q,2,none⟩ (hC g m c)) P a n cap i bs U Q u1 u2 (hC g m c) ins vs (outs++[x]):=by
 have aS:∀b,u3.ownBlock=some b->H.heap.size<=b/\b≠U/\b≠Q:=λb hb=>⟨(eH f.dg.r3 hb).1,f.nr b (.inr (.inr hb))⟩
 have hb:=jJ f.bx X (λc=>(aS _ c).2.2 rfl);refine⟨hb,f.setG X aS (f.dg.outs_ X al aq (aR.imp id λe=>Nat.le_of_eq e.symm)) ?_ (eP _ _ _ yac) (yd hb _).2⟩;rintro b (h|h|h)
 ·exact f.nr b (.inl h)
 ·exact f.nr b (.inr (.inl h))
 exact xgi
theorem Dy.ins_{W x}(f:Dy H W P a n cap i bs U Q u1 u2 u3 ins vs outs)(X:Chg (λb=>u1.ownBlock=some b) W W')(al:W'.ownsRow H.heap.size 3 1 (hC g m c) m ((ins++[x]).map (Value.int .i64)))(aq:m=(ins++[x]).length)(aR:u1.ownBlock=some g\/g=W.heap.size):RB W' Q u1 u2 u3/\Dy H (W'.setCell ⟨Q,0,none⟩ (hC g m c)) P a n cap i bs U Q (hC g m c) u2 u3 (ins++[x]) vs outs:=by
 have aS:∀b,u1.ownBlock=some b->H.heap.size<=b/\b≠U/\b≠Q:=λb hb=>⟨(eH f.dg.r1 hb).1,f.nr b (.inl hb)⟩
 have hb:=jJ f.bx X (λc=>(aS _ c).2.2 rfl);refine⟨hb,f.setG X aS (f.dg.ins_ X al aq (aR.imp id λe=>Nat.le_of_eq e.symm)) ?_ (eP _ _ _ yac) (yd hb _).1⟩;rintro b (h|h|h)
 ·exact xgi
 ·exact f.nr b (.inr (.inl h))
 exact f.nr b (.inr (.inr h))
theorem Dy.setV{W}(f:Dy H W P a n cap i bs U Q u1 (hC g m c) u3 ins vs outs){v'}(hj:j<vs.length)(am:q<6)(aD:v'.cells=(vs.getD j hI).cells.set q x)(N:v'.k<18446744073709551616):Dy H (W.setCell ⟨g,j*6+q,none⟩ x) P a n cap i bs U Q u1 (hC g m c) u3 ins (vs.set j v') outs:=by
 have X:=oC (S:=λb=>b=g) W g (j*6+q) x rfl;have aR:H.heap.size<=g/\g≠U/\g≠Q:=⟨(eH f.dg.r2 rfl).1,f.nr g (.inr (.inl rfl))⟩
 exact f.setG X (λb hb=>by subst hb;exact aR) (f.dg.setV hj am aD N) f.nr (Kept.refl _ _ _) (jJ f.bx X λc=>aR.2.2 c.symm)
theorem Dy.box(f:DG w H.heap.size u1 u2 u3 ins vs outs)(C:RdF w P a n cap i bs)(hP:P<H.heap.size)(k:Kept P (P+1) H w):
  Dy H ((w.alloc (.cells #[u1,u2,u3] 26)).alloc fj) P a n cap i bs (w.heap.size+1) w.heap.size u1 u2 u3 ins vs outs:=by
 obtain⟨S,aj⟩:=GrS.start f C hP;refine⟨S.rd,S.dg,S.bx,S.rs,hP,⟨hM f.sz,f.sz,by omega⟩,λb hb=>?_,k.trans (fh aj)⟩;have:=S.far b hb;omega
theorem iY(h:j<vs.length):vs.getD j hI∈vs:=by
 rw[yai,yam h];exact List.getElem_mem h
theorem svd(vs j):vd (vs.map sv) j=sv (vd vs j):=by
 exact xhh
theorem Dy.finS{W l S'}(f:Dy H W P a n cap i bs U Q (.slice a1 n1 c1) (.slice Y l c2) (.slice a3 n3 c3) ins vs outs)(ab:vs.length=l)(ar:vs.map sv=S'):
  DgF H P a n cap bs ins S' outs i (.returned (eV a1 n1 c1 Y l c2 a3 n3 c3)) (fw W U (.slice a1 n1 c1) (.slice Y l c2) (.slice a3 n3 c3)):=by
 subst ab;exact f.fin ar
theorem a.qab(h:Zp:=by
 obtain⟨g,cp,aK,_,aR,be⟩:=ig HD.o.dg.r2 rfl s;cases aK;exact qdd):Zp:=h
theorem a.qde(h:Zp:=by
 have av:(nv bs i:Int)%12=0:=hM ap.o
 clear ap;have T:V _:=HD.o.setV (q:=2) (x:=.int _ j) (v':=⟨(vd _ j).op,(vd _ j).len,j,(vd _ j).b,(vd _ j).c,(vd _ j).k⟩) s xab rfl HK.o;have al:V _:=T.o.finS (S':=S.set (nv bs _%S.length) ({vd S (nv bs _%S.length) with a:=((nv bs (ni bs i)%S.length):Nat)})) (List.length_set ..) (by rw[List.map_set,HSV.o,<-p.o];exact congrArg _ (by rw[<-HSV.o,svd];rfl));have bi:=u (j*6+2);exact xau):Zp:=h
open a in
theorem Ov(f:DG w H.heap.size (.slice a1 ins.length c1) (.slice Y vs.length c2) (.slice a3 outs.length c3) ins vs outs)(C:RdF w P a n cap i bs)(hP:P<H.heap.size)(an:Kept P (P+1) H w)(ar:vs.map sv=S)(hn:vs.length<=100000)(B:0<S.length)(N:nv bs i%12=0):
  Calls prog 66 #[eV a1 ins.length c1 Y vs.length c2 a3 outs.length c3,hB P] w (DgF H P a n cap bs ins (S.set (nv bs (ni bs i)%S.length) ({vd S (nv bs (ni bs i)%S.length) with a:=(((nv bs (ni bs i)%S.length):Nat):Int)})) outs (ni bs (ni bs i))):=by
 exact qaa
theorem b.qab(h:Zp:=by
 obtain⟨g,cp,aK,_,aR,be⟩:=ig HD.o.dg.r2 rfl s;cases aK;exact qdd):Zp:=h
theorem b.qde(h:Zp:=by
 have av:(nv bs i:Int)%12=4:=hM ap.o
 clear ap;have T:V _:=HD.o.setV (q:=0) (x:=.int _ ((nv bs (ni bs i):Int)%17)) (v':=⟨_,(vd _ j).len,(vd _ j).a,(vd _ j).b,(vd _ j).c,(vd _ j).k⟩) s xab rfl HK.o;have al:V _:=T.o.finS (S':=S.set (nv bs _%S.length) ({vd S (nv bs _%S.length) with op:=(nv bs _:Int)%17})) (List.length_set ..) (by rw[List.map_set,HSV.o,<-p.o];exact congrArg _ (by rw[<-HSV.o,svd];rfl));exact xco):Zp:=h
open b in
theorem Ow(f:DG w H.heap.size (.slice a1 ins.length c1) (.slice Y vs.length c2) (.slice a3 outs.length c3) ins vs outs)(C:RdF w P a n cap i bs)(hP:P<H.heap.size)(an:Kept P (P+1) H w)(ar:vs.map sv=S)(hn:vs.length<=100000)(B:0<S.length)(N:nv bs i%12=4):
  Calls prog 66 #[eV a1 ins.length c1 Y vs.length c2 a3 outs.length c3,hB P] w (DgF H P a n cap bs ins (S.set (nv bs (ni bs i)%S.length) ({vd S (nv bs (ni bs i)%S.length) with op:=(nv bs (ni bs i):Int)%17})) outs (ni bs (ni bs i))):=by
 exact qaa
theorem c.qab(h:Zp:=by
 obtain⟨g,cp,aK,_,aR,be⟩:=ig HD.o.dg.r2 rfl s;cases aK;exact qdd):Zp:=h
theorem c.qde(h:Zp:=by
 have av:(nv bs i:Int)%12=8:=hM ap.o
 clear ap;have T:V _:=HD.o.setV (q:=5) (x:=.float _ 4619567317775286272) (v':=⟨(vd _ j).op,(vd _ j).len,(vd _ j).a,(vd _ j).b,(vd _ j).c,_⟩) s xab rfl (show 4619567317775286272<18446744073709551616 by decide);have al:V _:=T.o.finS (S':=S.set (nv bs _%S.length) ({vd S (nv bs _%S.length) with k:=fbz 4619567317775286272})) (List.length_set ..) (by rw[List.map_set,HSV.o,<-p.o];exact congrArg _ (by rw[<-HSV.o,svd];rfl));have bi:=u (j*6+5);exact xau):Zp:=h
open c in
theorem Ox(f:DG w H.heap.size (.slice a1 ins.length c1) (.slice Y vs.length c2) (.slice a3 outs.length c3) ins vs outs)(C:RdF w P a n cap i bs)(hP:P<H.heap.size)(an:Kept P (P+1) H w)(ar:vs.map sv=S)(hn:vs.length<=100000)(B:0<S.length)(N:nv bs i%12=8):
  Calls prog 66 #[eV a1 ins.length c1 Y vs.length c2 a3 outs.length c3,hB P] w (DgF H P a n cap bs ins (S.set (nv bs (ni bs i)%S.length) ({vd S (nv bs (ni bs i)%S.length) with k:=fbz 4619567317775286272})) outs (ni bs (ni bs i))):=by
 exact qaa
theorem d.qab(h:Zp:=by
 obtain⟨g,cp,aK,_,aR,be⟩:=ig HD.o.dg.r2 rfl s;cases aK;exact qdd):Zp:=h
theorem d.qde(h:Zp:=by
 have av:(nv bs i:Int)%12=9:=hM ap.o
 clear ap;have T:V _:=HD.o.setV (q:=0) (x:=.int _ (-1)) (v':=⟨_,(vd _ j).len,(vd _ j).a,(vd _ j).b,(vd _ j).c,(vd _ j).k⟩) s xab rfl HK.o;have al:V _:=T.o.finS (S':=S.set (nv bs _%S.length) ({vd S (nv bs _%S.length) with op:=-1})) (List.length_set ..) (by rw[List.map_set,HSV.o,<-p.o];exact congrArg _ (by rw[<-HSV.o,svd];rfl));exact xco):Zp:=h
open d in
theorem Oy(f:DG w H.heap.size (.slice a1 ins.length c1) (.slice Y vs.length c2) (.slice a3 outs.length c3) ins vs outs)(C:RdF w P a n cap i bs)(hP:P<H.heap.size)(an:Kept P (P+1) H w)(ar:vs.map sv=S)(hn:vs.length<=100000)(B:0<S.length)(N:nv bs i%12=9):
  Calls prog 66 #[eV a1 ins.length c1 Y vs.length c2 a3 outs.length c3,hB P] w (DgF H P a n cap bs ins (S.set (nv bs (ni bs i)%S.length) ({vd S (nv bs (ni bs i)%S.length) with op:=-1})) outs (ni bs (ni bs i))):=by
 exact qaa
theorem e.qab(h:Zp:=by
 obtain⟨g,cp,aK,_,aR,be⟩:=ig HD.o.dg.r2 rfl s;cases aK;exact qdd):Zp:=h
theorem e.qde(h:Zp:=by
 have av:(nv bs i:Int)%12=5:=hM ap.o
 clear ap;obtain⟨y,bX⟩:∃y:Int,vs.length-(nv bs (ni bs i):Int)%2=y:=⟨_,rfl⟩
 have bO:V (S.length-(nv bs (ni bs i):Int)%2=y):=by show _=_;rw[t.o];exact bX
 have co:-10<=y/\y<=100000:=xaa;have X:=HD.o.keep (ez 0 0 _ (.cells #[hD y] 3));have aw:=X.dg.r3;have z:V _:=X;clear X;go_upto_region 31 with (first|(at_builtin;refine fk _ rfl _ _ rfl _ _ _ rfl aw _ (y) rfl xac xaa z.o.dg.sz ?_;intro g9 cap9 n9 bg bJ bQ aD cd;obtain⟨aa,(T:V _)⟩:=z.o.outs_ aD bQ bJ cd;have al:V _:=T.o.finS rfl HSV.o;replace bJ:V _:=bJ;obtain⟨_,bC,aN,a2,bG,f1,f2⟩:=aa));exact qgj):Zp:=h
theorem e.qgk(h:Zp:=by
 exact yaz (v:=eV a1 ins.length c1 (some ⟨g,0,none⟩) vs.length c2 (some ⟨g9,0,none⟩) n9 cap9) (by simp[results,results66,go_sem,a8,aV,p2]) rfl (hO bO.o al.o)):Zp:=h
open e in
theorem Oz(f:DG w H.heap.size (.slice a1 ins.length c1) (.slice Y vs.length c2) (.slice a3 outs.length c3) ins vs outs)(C:RdF w P a n cap i bs)(hP:P<H.heap.size)(an:Kept P (P+1) H w)(ar:vs.map sv=S)(hn:vs.length<=100000)(B:0<S.length)(cA:outs.length<=1000)(N:nv bs i%12=5):
  Calls prog 66 #[eV a1 ins.length c1 Y vs.length c2 a3 outs.length c3,hB P] w (DgF H P a n cap bs ins S (outs++[(S.length:Int)-(nv bs (ni bs i):Int)%2]) (ni bs (ni bs i))):=by
 exact qaa
theorem f.qab(h:Zp:=by
 obtain⟨g,cp,aK,_,aR,be⟩:=ig HD.o.dg.r2 rfl s;cases aK;exact qdd):Zp:=h
theorem f.qde(h:Zp:=by
 have av:(nv bs i:Int)%12=7:=hM ap.o
 clear ap;have X:=HD.o.keep (ez 0 0 _ (.cells #[hD (-1)] 3));have aw:=X.dg.r3;have z:V _:=X;clear X;go_upto_region 31 with (first|(at_builtin;refine fk _ rfl _ _ rfl _ _ _ rfl aw _ ((-1)) rfl xac xaa z.o.dg.sz ?_;intro g9 cap9 n9 bg bJ bQ aD cd;obtain⟨aa,(T:V _)⟩:=z.o.outs_ aD bQ bJ cd;have al:V _:=T.o.finS rfl HSV.o;replace bJ:V _:=bJ;obtain⟨_,bC,aN,a2,bG,f1,f2⟩:=aa));exact qgj):Zp:=h
theorem f.qgk(h:Zp:=by
 exact yaz (v:=eV a1 ins.length c1 (some ⟨g,0,none⟩) vs.length c2 (some ⟨g9,0,none⟩) n9 cap9) (by simp[results,results66,go_sem,a8,aV,p2]) rfl al.o):Zp:=h
open f in
theorem OA(f:DG w H.heap.size (.slice a1 ins.length c1) (.slice Y vs.length c2) (.slice a3 outs.length c3) ins vs outs)(C:RdF w P a n cap i bs)(hP:P<H.heap.size)(an:Kept P (P+1) H w)(ar:vs.map sv=S)(hn:vs.length<=100000)(B:0<S.length)(cA:outs.length<=1000)(N:nv bs i%12=7):
  Calls prog 66 #[eV a1 ins.length c1 Y vs.length c2 a3 outs.length c3,hB P] w (DgF H P a n cap bs ins S (outs++[-1]) (ni bs (ni bs i))):=by
 exact qaa
theorem g.qab(h:Zp:=by
 obtain⟨g,cp,aK,_,aR,be⟩:=ig HD.o.dg.r2 rfl s;cases aK;exact qdd):Zp:=h
theorem g.qde(h:Zp:=by
 have av:(nv bs i:Int)%12=6:=hM ap.o
 clear ap;obtain⟨y,bX⟩:∃y:Int,(nv bs (ni bs i):Int)%3*500=y:=⟨_,rfl⟩
 have bO:V _:=bX;have X:=HD.o.keep (ez 0 0 _ (.cells #[hD y] 3));have aw:=X.dg.r1;have z:V _:=X;clear X;go_upto_region 31 with (first|(at_builtin;refine fk _ rfl _ _ rfl _ _ _ rfl aw _ (y) rfl xac xaa z.o.dg.sz ?_;intro g9 cap9 n9 bg bJ bQ aD cd;obtain⟨aa,(T:V _)⟩:=z.o.ins_ aD bQ bJ cd;have al:V _:=T.o.finS rfl HSV.o;replace bJ:V _:=bJ;obtain⟨_,bC,aN,a2,bG,f1,f2⟩:=aa));obtain⟨_,bf,aP,aY,_,_,_⟩:=T.o.bx;obtain⟨_,bm,ay,aW,bv,bA,bM⟩:=T.o.rs;go_wp2_with fail;obtain⟨a8,aV,p2⟩:=eZ _ _ _ _ _ bm ay aW (hC g9 n9 cap9) (hC g vs.length c2) (.slice a3 outs.length c3);exact yaz (v:=eV (some ⟨g9,0,none⟩) n9 cap9 (some ⟨g,0,none⟩) vs.length c2 a3 outs.length c3) (by simp[results,results66,go_sem,a8,aV,p2]) rfl (hO bO.o al.o)):Zp:=h
open g in
theorem OB(f:DG w H.heap.size (.slice a1 ins.length c1) (.slice Y vs.length c2) (.slice a3 outs.length c3) ins vs outs)(C:RdF w P a n cap i bs)(hP:P<H.heap.size)(an:Kept P (P+1) H w)(ar:vs.map sv=S)(hn:vs.length<=100000)(B:0<S.length)(cA:ins.length<=1000)(N:nv bs i%12=6):
  Calls prog 66 #[eV a1 ins.length c1 Y vs.length c2 a3 outs.length c3,hB P] w (DgF H P a n cap bs (ins++[(nv bs (ni bs i):Int)%3*500]) S outs (ni bs (ni bs i))):=by
 exact qaa
theorem OC(f:DG w H.heap.size (.slice a1 ins.length c1) (.slice Y vs.length c2) (.slice a3 outs.length c3) ins vs outs)(C:RdF w P a n cap i bs)(hP:P<H.heap.size)(an:Kept P (P+1) H w)(ar:vs.map sv=S)(_hn:vs.length<=100000)(N:S.length=0):
  Calls prog 66 #[eV a1 ins.length c1 Y vs.length c2 a3 outs.length c3,hB P] w (DgF H P a n cap bs ins S outs (ni bs (ni bs i))):=by
 have J:V _:=Dy.box f C hP an;have cr:=fH C.ys i;have cb:=fH C.ys (ni bs i);have t:V (S.length=vs.length):=by show _=_;rw[<-ar,List.length_map]
 have HSV:V _:=ar;have ap:V _:=N;clear f C an ar N;go_enter func66,ntmps66;go_wp2_with fail;generalize (w.alloc _).alloc _=W0 at J⊢;refine yaj J.o.next ?_;rintro e az ⟨rfl,(O:V _)⟩;clear J;go_wp2_with fail;refine yaj O.o.next ?_;rintro e W2 ⟨rfl,(HD:V _)⟩;clear O;have bi:vs.length=0:=hN ap.o t.o
 have al:V _:=HD.o.fin HSV.o;obtain⟨_,bd,aL,aJ,_,_,_⟩:=HD.o.bx;obtain⟨_,bm,ay,aW,bv,bA,bM⟩:=HD.o.rs;generalize vs.length=l at bi al bd aL aJ;have aa:(l:Int)<=0:=xaa;clear bi;go_wp2_with fail;obtain⟨a8,aV,p2⟩:=eZ _ _ _ _ _ bm ay aW (.slice a1 ins.length c1) (.slice Y l c2) (.slice a3 outs.length c3);exact yaz (v:=eV a1 ins.length c1 Y l c2 a3 outs.length c3) (by simp[results,results66,go_sem,a8,aV,p2]) rfl al.o
theorem h.qab(h:Zp:=by
 obtain⟨g,cp,aK,_,aR,be⟩:=ig HD.o.dg.r2 rfl s;cases aK;exact qdd):Zp:=h
theorem h.qde(h:Zp:=by
 have av:(nv bs i:Int)%12=10:=hM ap.o
 clear ap;have ah:50+(nv bs (ni bs i):Int)%2=(50+nv bs (ni bs i)%2:Nat):=xaa;have aG:50+nv bs (ni bs i)%2<=60:=xaa;have aB:V (∀(au:Nat) e I,au=50+nv _ (ni bs i)%2->DgF H P a n cap _ ins S _ _ e I->DgF _ P a n _ bs _ S (outs++List.replicate (50+nv bs _%2-outs.length) ((((nv bs _%S.length:Nat)):Int))) (ni bs (ni bs i)) e _):=λau e I Z G=>by rw[<-Z];rw[<-p.o];exact G
 generalize ak:50+nv bs _%2=y at ah aG;have aA:V _:=ak.symm;clear ak;have ax:V _:=ah;have HE:V (Dy H W2 P a n cap (ni bs (ni bs i)) bs (w.heap.size+1) w.heap.size (.slice a1 ins.length c1) (hC g vs.length c2) (.slice a3 (outs++List.replicate 0 ((j:Int))).length c3) ins vs (outs++List.replicate 0 ((j:Int)))):=by rw[List.replicate_zero,List.append_nil];exact HD.o
 go_wp2_with fail;rw[show((vs.length:Int)==0)=false from yan xaa];clear bd aL aJ HD bb aM aQ bY cg cn u;go_loopg [] y (λq W=>∃(ai:Nat) (bq:Option Addr) (bK:Nat),ai<=y-outs.length/\y-outs.length-ai<=q/\V (Dy H W P a n cap (ni bs (ni bs i)) bs (w.heap.size+1) w.heap.size (.slice a1 ins.length c1) (hC g vs.length c2) (.slice bq (outs++List.replicate ai ((j:Int))).length bK) ins vs (outs++List.replicate ai ((j:Int)))))
 case atStart=>exact⟨0,_,_,yae,by omega,HE.o⟩
 case round=>
  obtain⟨ai,bq,bK,K,am,a5⟩:=hrel;clear HE;have aq:V ((outs++List.replicate ai ((j:Int))).length=outs.length+ai):=by show _=_;rw[yal,List.length_replicate]
  have ag:=a5.o;have al:V (∃xs,xs=outs++List.replicate ai ((j:Int))):=⟨_,rfl⟩
  exact qgc):Zp:=h
theorem h.qgd(h:Zp:=by
 by_cases aC:l<y
 ·have X:=HD.o.keep (ez 0 0 _ (.cells #[hD (j)] 3));have aw:=X.dg.r3;have z:V _:=X;clear X cx;go_upto_region 28 with fail;go_wp2_with (first|(at_builtin;refine fk _ rfl _ _ rfl _ _ _ rfl aw _ (j) rfl xac (hM ao.o) z.o.dg.sz ?_;intro g9 cap9 n9 bg bJ bQ aD cd;obtain⟨aa,(T:V _)⟩:=z.o.outs_ aD bQ bJ cd;replace bJ:V _:=bJ;obtain⟨_,bC,aN,a2,bG,f1,f2⟩:=aa));go_roundg (gk-1)
  case measure=>have:=af.o;omega
  case rel=>
   have:=af.o;refine⟨ai+1,some ⟨g9,0,none⟩,cap9,by omega,by omega,?_⟩;have e:outs++List.replicate (ai+1) ((j:Int))=xs++[(j:Int)]:=by rw[bn.o,List.append_assoc,List.replicate_succ']
   have bp:=T.o;rw[bJ.o]at bp⊢;rw[e];exact bp
 have aI:V _:=HD.o.finS rfl HSV.o;have cP:ai=y-outs.length:=xaa;have aF:V (xs=outs++List.replicate (y-outs.length) ((j:Int))):=hQ cP bn.o
 obtain⟨_,bm,ay,aW,bv,bA,bM⟩:=HD.o.rs;clear cP cx;go_wp2_with fail;obtain⟨a8,aV,p2⟩:=eZ _ _ _ _ _ bm ay aW (.slice a1 ins.length c1) (hC g vs.length c2) (.slice bq l bK);exact yaz (v:=eV a1 ins.length c1 (some ⟨g,0,none⟩) vs.length c2 bq l bK) (by simp[results,results66,go_sem,a8,aV,p2]) rfl (aB.o y _ _ aA.o (hQ aF.o aI.o))):Zp:=h
open h in
theorem LC(f:DG w H.heap.size (.slice a1 ins.length c1) (.slice Y vs.length c2) (.slice a3 outs.length c3) ins vs outs)(C:RdF w P a n cap i bs)(hP:P<H.heap.size)(an:Kept P (P+1) H w)(ar:vs.map sv=S)(hn:vs.length<=100000)(B:0<S.length)(cA:outs.length<=1000)(N:nv bs i%12=10):
  Calls prog 66 #[eV a1 ins.length c1 Y vs.length c2 a3 outs.length c3,hB P] w (DgF H P a n cap bs ins S (outs++List.replicate (50+nv bs (ni bs i)%2-outs.length) ((((nv bs (ni bs i)%S.length:Nat)):Int))) (ni bs (ni bs i))):=by
 exact qaa
theorem i.qab(h:Zp:=by
 obtain⟨g,cp,aK,_,aR,be⟩:=ig HD.o.dg.r2 rfl s;cases aK;exact qdd):Zp:=h
theorem i.qde(h:Zp:=by
 have av:(nv bs i:Int)%12=11:=hM ap.o
 clear ap;have ah:20+(nv bs (ni bs i):Int)%2=(20+nv bs (ni bs i)%2:Nat):=xaa;have aG:20+nv bs (ni bs i)%2<=60:=xaa;have aB:V (∀(au:Nat) e I,au=20+nv _ (ni bs i)%2->DgF _ P a n _ bs _ S _ _ e _->DgF H P a n cap _ (ins++List.replicate (20+nv bs _%2-ins.length) (2)) S outs (ni bs (ni bs i)) e I):=λau e I Z G=>hQ Z G
 generalize ak:20+nv bs _%2=y at ah aG;have aA:V _:=ak.symm;clear ak;have ax:V _:=ah;have HE:V (Dy H W2 P a n cap (ni bs (ni bs i)) bs (w.heap.size+1) w.heap.size (.slice a1 (ins++List.replicate 0 (2)).length c1) (hC g vs.length c2) (.slice a3 outs.length c3) (ins++List.replicate 0 (2)) vs outs):=by rw[List.replicate_zero,List.append_nil];exact HD.o
 go_wp2_with fail;rw[show((vs.length:Int)==0)=false from yan xaa];clear bd aL aJ HD bb aM aQ bY cg cn u;go_loopg [] y (λq W=>∃(ai:Nat) (bq:Option Addr) (bK:Nat),ai<=y-ins.length/\y-ins.length-ai<=q/\V (Dy H W P a n cap (ni bs (ni bs i)) bs (w.heap.size+1) w.heap.size (.slice bq (ins++List.replicate ai (2)).length bK) (hC g vs.length c2) (.slice a3 outs.length c3) (ins++List.replicate ai (2)) vs outs))
 case atStart=>exact⟨0,_,_,yae,by omega,HE.o⟩
 case round=>
  obtain⟨ai,bq,bK,K,am,a5⟩:=hrel;clear HE;have aq:V ((ins++List.replicate ai (2)).length=ins.length+ai):=by show _=_;rw[yal,List.length_replicate]
  have ag:=a5.o;have al:V (∃xs,xs=ins++List.replicate ai (2)):=⟨_,rfl⟩
  exact qgc):Zp:=h
theorem i.qgd(h:Zp:=by
 by_cases aC:l<y
 ·have X:=HD.o.keep (ez 0 0 _ (.cells #[hD (2)] 3));have aw:=X.dg.r1;have z:V _:=X;clear X cx;go_upto_region 30 with fail;go_wp2_with (first|(at_builtin;refine fk _ rfl _ _ rfl _ _ _ rfl aw _ (2) rfl xac (hM ao.o) z.o.dg.sz ?_;intro g9 cap9 n9 bg bJ bQ aD cd;obtain⟨aa,(T:V _)⟩:=z.o.ins_ aD bQ bJ cd;replace bJ:V _:=bJ;obtain⟨_,bC,aN,a2,bG,f1,f2⟩:=aa));go_roundg (gk-1)
  case measure=>have:=af.o;omega
  case rel=>
   have:=af.o;refine⟨ai+1,some ⟨g9,0,none⟩,cap9,by omega,by omega,?_⟩;have e:ins++List.replicate (ai+1) (2)=xs++[2]:=by rw[bn.o,List.append_assoc,List.replicate_succ']
   have bp:=T.o;rw[bJ.o]at bp⊢;rw[e];exact bp
 have aI:V _:=HD.o.finS rfl HSV.o;have cP:ai=y-ins.length:=xaa;have aF:V (xs=ins++List.replicate (y-ins.length) (2)):=hQ cP bn.o
 obtain⟨_,bm,ay,aW,bv,bA,bM⟩:=HD.o.rs;clear cP cx;go_wp2_with fail;obtain⟨a8,aV,p2⟩:=eZ _ _ _ _ _ bm ay aW (.slice bq l bK) (hC g vs.length c2) (.slice a3 outs.length c3);exact yaz (v:=eV bq l bK (some ⟨g,0,none⟩) vs.length c2 a3 outs.length c3) (by simp[results,results66,go_sem,a8,aV,p2]) rfl (aB.o y _ _ aA.o (hQ aF.o aI.o))):Zp:=h
open i in
theorem LD(f:DG w H.heap.size (.slice a1 ins.length c1) (.slice Y vs.length c2) (.slice a3 outs.length c3) ins vs outs)(C:RdF w P a n cap i bs)(hP:P<H.heap.size)(an:Kept P (P+1) H w)(ar:vs.map sv=S)(hn:vs.length<=100000)(B:0<S.length)(cA:ins.length<=1000)(N:nv bs i%12=11):
  Calls prog 66 #[eV a1 ins.length c1 Y vs.length c2 a3 outs.length c3,hB P] w (DgF H P a n cap bs (ins++List.replicate (20+nv bs (ni bs i)%2-ins.length) (2)) S outs (ni bs (ni bs i))):=by
 exact qaa
