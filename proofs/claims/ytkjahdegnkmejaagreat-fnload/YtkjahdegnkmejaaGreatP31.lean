import Derived.Test.YtkjahdegnkmejaaGreatP30
namespace Go.Proofs.Z
variable{Zp:Prop}
open Tryz
set_option maxRecDepth 1000000
set_option maxHeartbeats 0
open Go.RowKit Flt
attribute[local go_sem] eE eC eB
variable{w0 w F bU:World}{bS:Array Oper}{I P n cap i j H Q k c1 m q g c2 Y c c3 aa:Nat}{a a1 K a3:Option Addr}{bs ins outs:List Int}{u1 u2 u3 x:Value}{vs S aM:List Vl}
def hH(bs:List Int)(p:Nat):Nat->List Int×List Vl×Nat
 |0=>([],[],p)
 |k+1=>((hH bs p k).1++[((1+nv bs (hH bs p k).2.2%4:Nat):Int)],(hH bs p k).2.1++[⟨0,((1+nv bs (hH bs p k).2.2%4:Nat):Int),(k:Int),0,0,0⟩],ni bs (hH bs p k).2.2)
def gwL(bs:List Int)(ins:List Int)(m:Nat):Nat->Nat->List Vl->Nat->List Vl×Nat
 |0,_,S,p=>(S,p)
 |f+1,k,S,p=>if k<m/\(k<3\/p<bs.length)then gwL bs ins m f (k+1) (S++[(gwM ins S bs p).1]) (gwM ins S bs p).2 else (S,p)
def rL(len v:Nat):Int:=if 0<v%3 then (if (len:Int)-1-((v/3%3:Nat):Int)<0 then 0 else (len:Int)-1-((v/3%3:Nat):Int))else ((v%len:Nat):Int)
def nD(bs:List Int)(len p:Nat):Nat->List Int×Nat
 |0=>([],p)
 |k+1=>((nD bs len p k).1++[rL len (nv bs (nD bs len p k).2)],ni bs (nD bs len p k).2)
def Dd(w W:World)(P:Nat)(a:Option Addr)(n cap:Nat)(bs:List Int)(ins:List Int)(S:List Vl)(outs:List Int)(i:Nat):Prop:=
 ∃a1 c1 a2 c2 a3 c3 vs,vs.map sv=S/\Dx w W P a n cap i bs (.slice a1 ins.length c1) (.slice a2 vs.length c2) (.slice a3 outs.length c3) ins vs outs
def dgI(bs:List Int)(i:Nat):List Int×List Vl×Nat:=hH bs (ni bs i) (nv bs i%4)
def dgG(bs:List Int)(i:Nat):List Vl×Nat:=gwL bs (dgI bs i).1 (2+nv bs (dgI bs i).2.2%24) (2+nv bs (dgI bs i).2.2%24) 0 (dgI bs i).2.1 (ni bs (dgI bs i).2.2)
def dgO(bs:List Int)(i:Nat):List Int×Nat:=nD bs (dgG bs i).1.length (ni bs (dgG bs i).2) (nv bs (dgG bs i).2%5)
def DgF(w:World)(P:Nat)(a:Option Addr)(n cap:Nat)(bs:List Int)(ins:List Int)(S:List Vl)(outs:List Int)(i:Nat)(e:Ending)(w':World):Prop:=
 ∃a1 c1 a2 c2 a3 c3 vs,e=.returned (eX a1 ins.length c1 a2 vs.length c2 a3 outs.length c3)/\vs.map sv=S/\DG w' w.heap.size (.slice a1 ins.length c1) (.slice a2 vs.length c2) (.slice a3 outs.length c3) ins vs outs/\RdF w' P a n cap i bs/\Kept P (P+1) w w'
def LenS(S:List Vl):Prop:=∀k,k<S.length->1<=(vd S k).len/\(vd S k).len<=1000
theorem LenS.snoc{v}(h:LenS S)(aL:1<=v.len/\v.len<=1000):LenS (S++[v]):=λk J=>by
 rw[yal]at J
 by_cases c:k<S.length
 ·rw[Np c];exact h k c
 ·have:k=S.length+0:=by simp at J;omega
  rw[this,Nq];exact aL
theorem LenS.of(h:LenS S)(e:vs.map sv=S):∀k,k<vs.length->1<=(vd vs k).len/\(vd vs k).len<=1000:=λk J=>by
 rw[<-BH,e]
 exact h k (by rw[<-e,List.length_map];exact J)
theorem lT(bs p):∀k,(hH bs p k).1.length=k/\(hH bs p k).2.1.length=k
 |0=>⟨rfl,rfl⟩
 |k+1=>by
  obtain⟨B,N⟩:=lT bs p k
  exact⟨by rw[hH,yal,B];rfl,by rw[hH,yal,N];rfl⟩
theorem lK(bs p):∀k,LenS (hH bs p k).2.1/\∀j,j<(hH bs p k).1.length->1<=(hH bs p k).1.getD j 0/\(hH bs p k).1.getD j 0<=1000
 |0=>⟨λk J=>(by cases J),λk J=>(by cases J)⟩
 |k+1=>by
  obtain⟨B,N⟩:=lK bs p k
  rw[hH]
  refine⟨B.snoc (by simp only;omega),λj hj=>?_⟩
  simp only at hj⊢
  rw[yal]at hj
  by_cases c:j<(hH bs p k).1.length
  ·rw[yai,yat c,<-yai]
   exact N j c
  ·have e:j=(hH bs p k).1.length:=by simp at hj;omega
   rw[yai,yas xaa,e,Nat.sub_self]
   show 1<=((1+nv bs (hH bs p k).2.2%4:Nat):Int)/\((1+nv bs (hH bs p k).2.2%4:Nat):Int)<=1000
   omega
theorem Dd.of{W v s}(h:Dx w W P a n cap i bs (.slice a1 m c1) (.slice K (vs.length+1) c2) (.slice a3 aa c3) ins (vs++[v]) outs)(aw:vs.map sv=S)(aL:sv v=s):Dd w W P a n cap bs ins (S++[s]) outs i:=by
 have ad:=f4 h.dg.r1;have ah:=f4 h.dg.r3;subst ad ah;refine⟨a1,c1,K,c2,a3,c3,vs++[v],by rw[List.map_append,aw,List.map_cons,List.map_nil,aL],?_⟩;rw[yal];exact h
theorem xq(w){o a bA Q E}(am:o.guard=none)(s x)
  (aR:o.op=.call {callee:=.builtin .append,args:=#[s,x],argTypes:=#[24,24]})
  (I) (v) (aU) (aw:a.eval s=v) (bi:w.ownsRow I 3 1 v aU.length (aU.map (Value.int .i64)))
  (al) (y) (aH:a.eval x=.slice (some al) 1 1) (d:w.cell? al=some (ih y))
  (f:aU.length+1<=1000000) (ae:I<=w.heap.size)
  (h:∀g cap n O,n=(aU++[y]).length->O.ownsRow I 3 1 (ia g n cap) n ((aU++[y]).map (Value.int .i64))->Chg (λb=>v.ownBlock=some b) w O->(v.ownBlock=some g\/g=w.heap.size)->bA (a.put o.dst (ia g n cap)) O):if Region.wanted o (yielded bS a.tmps)=true then Oper.wp prog o a w bA Q else E:=by
 obtain⟨bY,hi,cg,b8,cc⟩:=info_parts qd;refine step_append_lies w am s x 24 aR I 3 bY (ih 0) 1 8 underlying24 hi cg b8 cc rfl xab v aU.length _ aw bi al 1 1 [ih y] aH rfl ?_ ?_ xab (by unfold maxLen;omega) xaa ae _ rfl ?_
 ·exact xhv
 ·intro u G;simp at G;subst G;rfl
 exact xfq
theorem DG.setO(f:DG w I u1 u2 (ia g m c) ins vs outs)(x):DG (w.setCell ⟨g,k,none⟩ (ih x)) I u1 u2 (ia g m c) ins vs (outs.set k x):=by
 have e:=f4 f.r3;subst e;have h3:=f.r3.stored k (ih x);refine⟨eH f.r1 λh=>f.a13 _ h rfl,eH f.r2 λh=>f.a23 _ h rfl,?_,f.a12,f.a13,f.a23,f.k,by simpa using f.sz⟩;rw[List.length_set,List.map_set];exact h3.1
theorem Dx.setO{W}(f:Dx w0 W P a n cap i bs u1 u2 (ia g m c) ins vs outs)(x):Dx w0 (W.setCell ⟨g,k,none⟩ (ih x)) P a n cap i bs u1 u2 (ia g m c) ins vs (outs.set k x):=by
 have az:w0.heap.size+2<=g:=(eF f.dg.r3 rfl).1;have aA:=f.p0;have al:Kept g (g+1) W (W.setCell ⟨g,k,none⟩ (ih x)):=eU W ⟨g,k,none⟩ _ yac;have B:=f.k0.size;refine⟨f.rd.keep al (.inl xaa),f.dg.setO x,f.bx.kept al xaa,f.rs.kept al xaa,aA,⟨al.os.trans f.k0.os,al.tape.trans f.k0.tape,al.output.trans f.k0.output,yao B al.size,λb hb hn=>?_⟩⟩;rw[al.block b xaa xaa];exact f.k0.block b hb hn
theorem F3{xs}{y z:Int}:(xs++[y]).set xs.length z=xs++[z]:=by
 rw[List.set_append,ip (Nat.lt_irrefl _),Nat.sub_self];rfl
theorem Dd.ofO{W}(h:Dx w W P a n cap i bs (.slice a1 m c1) (.slice K vs.length c2) (.slice a3 aa c3) ins vs outs)(aw:vs.map sv=S):Dd w W P a n cap bs ins S outs i:=by
 have ad:=f4 h.dg.r1;have ah:=f4 h.dg.r3;subst ad ah;exact⟨a1,c1,K,c2,a3,c3,vs,aw,h⟩
theorem qq(bs l p):∀k,(nD bs l p k).1.length=k
 |0=>rfl
 |k+1=>by rw[nD,yal,qq bs l p k];rfl
theorem DG.mono{b}(f:DG w I u1 u2 u3 ins vs outs)(h:b<=I):DG w b u1 u2 u3 ins vs outs:=
 ⟨gi f.r1 h,gi f.r2 h,gi f.r3 h,f.a12,f.a13,f.a23,f.k,yao h f.sz⟩
theorem Dx.fin{W}(f:Dx w0 W P a n cap i bs (.slice a1 ins.length c1) (.slice K vs.length c2) (.slice a3 outs.length c3) ins vs outs)(aw:vs.map sv=S):
  DgF w0 P a n cap bs ins S outs i (.returned (eX a1 ins.length c1 K vs.length c2 a3 outs.length c3)) (fk W w0.heap.size (.slice a1 ins.length c1) (.slice K vs.length c2) (.slice a3 outs.length c3)):=by
 have al:=fy W w0.heap.size (.slice a1 ins.length c1) (.slice K vs.length c2) (.slice a3 outs.length c3);have aA:=f.p0;have B:=f.k0.size;refine⟨a1,c1,K,c2,a3,c3,vs,rfl,aw,(f.dg.kept al xaa).mono xaa,f.rd.keep al (.inl xaa),⟨al.os.trans f.k0.os,al.tape.trans f.k0.tape,al.output.trans f.k0.output,yao B al.size,λb hb hn=>?_⟩⟩;exact xje
theorem AP(X:RdF w P a n cap i bs):
  Calls prog 34 #[ge P] w (DgF w P a n cap bs (dgI bs i).1 (dgG bs i).1 (dgO bs i).1 (dgO bs i).2):=by
 have az:V _:=Dx.start X;have a6:=fD X.ys i;have bv:V _:=λj=>fD X.ys j;clear X;go_enter func34,ntmps34;go_wp2_with fail;generalize (w.alloc fO).alloc fO=W0 at az⊢;refine yaj az.o.next ?_;rintro e aq ⟨rfl,r⟩;have HD:V (Dd w aq P a n cap bs (hH bs (ni bs i) 0).1 (hH bs (ni bs i) 0).2.1 [] (hH bs (ni bs i) 0).2.2):=⟨none,0,none,0,none,0,[],rfl,r⟩
 have b6:(nv bs i:Int)%4=((nv bs i%4:Nat):Int):=xaa;have c8:nv bs i%4<4:=Nat.mod_lt _ xaa;generalize c7:nv bs i%4=nn at b6 c8;have b2:V _:=c7.symm;clear c7;clear r az;go_wp2_with fail;rw[b6];clear b6 a6;go_loopw [5] (λt W=>∃k:Nat,k<=nn/\t=ih k/\V (Dd w W P a n cap bs (hH bs (ni bs i) k).1 (hH bs (ni bs i) k).2.1 [] (hH bs (ni bs i) k).2.2)) (λt _=>nn-(intOf t).toNat)
 case atStart=>exact⟨0,yae,rfl,HD.o⟩
 case round=>
  obtain⟨k,J,rfl,bI⟩:=hrel;obtain⟨a1,c1,K,c2,a3,c3,vs,bc,D⟩:=bI.o;rw[List.length_nil]at D;clear HD;by_cases aY:k<nn
  ·have HD:V _:=D;go_wp2_with fail;refine yaj HD.o.next ?_;rintro e bU ⟨rfl,h⟩;have bC:=bv.o (hH bs (ni bs i) k).2.2;have cc:(1:Int)+(nv bs (hH bs (ni bs i) k).2.2:Int)%4=((1+nv bs (hH bs (ni bs i) k).2.2%4:Nat):Int):=xaa;have HSV:V _:=bc;have cn:V _:=lT bs (ni bs i) k;have bu:V (hH bs (ni bs i) (k+1)=((hH bs (ni bs i) k).1++[((1+nv bs (hH bs (ni bs i) k).2.2%4:Nat):Int)],(hH bs (ni bs i) k).2.1++[⟨0,((1+nv bs (hH bs (ni bs i) k).2.2%4:Nat):Int),(k:Int),0,0,0⟩],ni bs (hH bs (ni bs i) k).2.2)):=rfl;replace HD:V _:=h;clear D h bc bI;generalize hH bs (ni bs i) k=aw at HD bu cn HSV cc bC⊢;generalize 1+nv bs aw.2.2%4=d at cc bu;generalize ao:aw.1.length=cj at HD;have cp:cj=k:=by rw[<-ao];exact cn.o.1
   have cx:V _:=ao;clear ao;subst cp;have U:=HD.o.keep (eA 0 0 bU (.cells #[ih d] 3));have bL:=U.dg.r1;have z:V _:=U;have aU:=HD.o.bx.q0;clear U;go_wp2_with (first|(at_builtin;refine fZ _ rfl _ _ rfl (w.heap.size+2) _ aw.1 rfl bL ⟨bU.heap.size,0,none⟩ (d:Int) rfl xac (i4 cn.o.1) z.o.dg.sz ?_;intro g9 cap9 n9 a7 a2 Z bk br;have aA:=jd z.o.bx bk (λc=>i4 ((eF z.o.dg.r1 c).1));have ae:V _:=z.o.ins_ bk Z a2 br;replace a2:V _:=a2;obtain⟨_,bX,aV,bg,bT,f1,f2⟩:=aA));generalize a7.setCell ⟨w.heap.size+1,0,none⟩ (ia g9 n9 cap9)=cd at ae⊢;clear Z bk br bX aV bg bT f1 f2 aU bL z HD;have aO:V (∀bP,Kept 0 0 cd bP->_):=λbP a5=>ae.o.put a5 (eK 0 (d:Int) (cj:Int) 0 0) (Nat.zero_lt_succ _) (by have:=cn.o.2;have aG:=congrArg List.length HSV.o;rw[List.length_map]at aG;omega);obtain⟨_,bX,aV,bg,bT,f1,f2⟩:=ae.o.bx
   go_region_with (first
    |(go_at_call 59;refine yaj (aO.o _ ((eD _).trans a5)) ?_;rintro e an ⟨aI,cap',rfl,aK,ak⟩;obtain⟨_,bo,ar,aQ,bR,bV,bW⟩:=aK)
    |(go_at_call 60;refine yaj (gq _ _ _ _ _ _) ?_;rintro e bP ⟨rfl,a5⟩;obtain⟨_,a0,av,aT,_,_,_⟩:=(ae.o.keep ((eD _).trans a5)).bx))
   all_goals
    go_wp2_with fail
    go_roundw
    case rel=>
     exact⟨cj+1,by omega,by go_num,by rw[bu.o];exact Dd.of ak HSV.o rfl⟩
    case measure=>simp[intOf];omega
  have HE:V (Dd w wr P a n cap bs (hH bs (ni bs i) nn).1 (hH bs (ni bs i) nn).2.1 [] (hH bs (ni bs i) nn).2.2):=by
   have e:k=nn:=xaa;rw[<-e];exact bI.o
  have ba:V _:=lT bs (ni bs i) nn;clear D bc bI;have bD:V (gwL bs (hH bs (ni bs i) nn).1 (2+nv bs (hH bs (ni bs i) nn).2.2%24) (2+nv bs (hH bs (ni bs i) nn).2.2%24-0) 0 (hH bs (ni bs i) nn).2.1 (ni bs (hH bs (ni bs i) nn).2.2)=dgG bs i):=jL b2.o
  have cg:V _:=lK bs (ni bs i) nn;have bQ:V _:=(rfl:dgG bs i=dgG bs i)
  generalize co:dgG bs i=G at bD⊢;replace bQ:V _:=co;clear co;have c6:V (dgI bs i=hH bs (ni bs i) nn):=by show dgI bs i=_;rw[b2.o];rfl
  generalize hH bs (ni bs i) nn=aw at HE ba bD cg c6⊢;obtain⟨a1,c1,K,c2,a3,c3,vs,(HSV:V _),(HD:V _)⟩:=HE.o;clear HE;go_wp2_with fail;refine yaj HD.o.next ?_;rintro e bU ⟨rfl,h⟩;have aH:=bv.o aw.2.2;have b4:(2:Int)+(nv bs aw.2.2:Int)%24=((2+nv bs aw.2.2%24:Nat):Int):=xaa;have cA:2+nv bs aw.2.2%24<=25:=xaa;have bq:2<=2+nv bs aw.2.2%24:=xaa;generalize 2+nv bs aw.2.2%24=m at b4 cA bq bD;have aB:V (Dd w bU P a n cap bs aw.1 aw.2.1 [] (ni bs aw.2.2)):=⟨a1,c1,K,c2,a3,c3,vs,HSV.o,h⟩
  clear h HD HSV;go_wp2_with fail;try rw[b4]
  clear b4;go_loopw [8] (λt W=>∃(k:Nat) (S:List Vl) (p:Nat),k<=m/\t=ih k/\V (Dd w W P a n cap bs aw.1 S [] p)/\V (LenS S)/\V (S.length=nn+k)/\V (gwL bs aw.1 m (m-k) k S p=G)) (λt _=>m-(intOf t).toNat)
  case atStart=>exact⟨0,aw.2.1,_,yae,rfl,aB.o,cg.o.1,jL ba.o.2,bD.o⟩
  case round=>
   obtain⟨aC,S,p,bO,rfl,O,ee,a8,ap⟩:=hrel;obtain⟨a1,c1,K,c2,a3,c3,vs,bc,D⟩:=O.o;clear aB bD;have C:V _:=ee.o.of bc;have cI:vs.length=S.length:=by rw[<-bc,List.length_map]
   have cM:vs.length<=100000:=i4 a8.o
   have bF:V (∀v aI cap' an,sv v=(gwM aw.1 vs bs p).1->Dx w an P a n cap (gwM aw.1 vs bs p).2 bs (.slice a1 aw.1.length c1) (ia aI (vs.length+1) cap') (.slice a3 0 c3) aw.1 (vs++[v]) []->aC<m->(aC<3\/p<bs.length)->∃(S':List Vl) (u:Nat),Dd w an P a n cap bs aw.1 S' [] u/\LenS S'/\S'.length=nn+(aC+1)/\gwL bs aw.1 m (m-(aC+1)) (aC+1) S' u=G):=λv aI cap' an B N h3 bp=>by
    have aL:gwM aw.1 vs bs p=gwM aw.1 S bs p:=by rw[<-F2,bc]
    rw[aL]at B N
    refine⟨S++[(gwM aw.1 S bs p).1],(gwM aw.1 S bs p).2,Dd.of N bc B,ee.o.snoc (qp cg.o.2 ee.o),by rw[yal,a8.o];rfl,?_⟩
    have:=ap.o
    rw[show m-aC=(m-(aC+1))+1 by omega,gwL,iv ⟨h3,bp⟩]at this
    exact this
   have b0:V _:=λc=>by
    have:=ap.o
    cases aD:m-aC with
    |zero=>rw[aD,gwL]at this;exact this.symm
    |succ x=>rw[aD,gwL,ip c]at this;exact this.symm
   rw[List.length_nil]at D;have HD:V _:=D;have HSV:V _:=bc;have bj:V (∀F,Kept 0 0 wr F->_):=λF al=>(HD.o.keep al).grow cM C.o;have cl:V _:=BE D.rd;clear D bc ap ee cI O;by_cases ai:aC<m/\(aC<3\/p<bs.length)
   ·have aY:=ai.1;have bi:V _:=ai.2;clear ai b0;by_cases h3:aC<3
    ·obtain⟨_,bX,aV,bg,bT,f1,f2⟩:=HD.o.bx;go_wp2_with (first|(go_at_call 62;refine yaj (bj.o _ i3) ?_;rintro e an ⟨v,aI,cap',rfl,ca,aK,ak⟩;obtain⟨_,bo,ar,aQ,bR,bV,bW⟩:=aK));exact xfo
    have bN:(p:Int)<bs.length:=i4 bi.o
    have d8:=HD.o.rd.small;have bf:(bs.length:Int)<=500:=i4 HD.o.rd.ys.len
    clear d8
    go_wp2_with (first
     |(go_at_call 61;refine yaj cl.o ?_;rintro e aj ⟨rfl,b7⟩;obtain⟨_,bX,aV,bg,bT,f1,f2⟩:=(HD.o.keep b7).bx)
     |(go_at_call 62;refine yaj (bj.o _ b7) ?_;rintro e an ⟨v,aI,cap',rfl,ca,aK,ak⟩;obtain⟨_,bo,ar,aQ,bR,bV,bW⟩:=aK))
    exact xfo
   have cq:=b0.o ai;clear bF b0 bj;have cu:V (2<=S.length):=by have:=a8.o;show 2<=_;omega
   have ck:V _:=cq;have bh:V (vs.length=S.length):=by show vs.length=_;rw[<-HSV.o,List.length_map]
   clear cq;rcases (by omega:¬aC<m\/(aC<m/\¬aC<3/\¬p<bs.length)) with bl|aZ
   case' inl=>
    clear ai;have bz:V _:=HD.o;go_wp2_with fail
   case' inr=>
    obtain⟨bB,aN,cy⟩:=aZ;have bN:(bs.length:Int)<=p:=xaa;have bf:(bs.length:Int)<=500/\(p:Int)<=500:=by have:=HD.o.rd.ys.len;have:=HD.o.rd.small;have:=HD.o.rd.hi;omega
    obtain⟨cB,cC⟩:=bf;clear ai cy;go_wp2_with (first|(go_at_call 61;refine yaj cl.o ?_;rintro e aj ⟨rfl,b7⟩;have bz:V _:=HD.o.keep b7;clear b7))
   all_goals
    refine yaj bz.o.next ?_
    rintro e bb ⟨rfl,cf⟩
    have ce:(nv bs p:Int)%5=((nv bs p%5:Nat):Int):=xaa
    have bn:nv bs p%5<5:=Nat.mod_lt _ xaa
    have ag:V (dgO bs i=nD bs S.length (ni bs p) (nv bs p%5)):=by show dgO bs i=_;unfold dgO;rw[bQ.o,ck.o]
    generalize nv bs p%5=bY at ce bn ag
    have ci:V (Dd w bb P a n cap bs aw.1 S (nD bs S.length (ni bs p) 0).1 (nD bs S.length (ni bs p) 0).2):=⟨a1,c1,K,c2,a3,c3,vs,HSV.o,cf⟩
    clear cf bz HD
    go_wp2_with fail
    try rw[ce]
    clear ce
    go_loopw [9] (λt W=>∃k:Nat,k<=bY/\t=ih k/\V (Dd w W P a n cap bs aw.1 S (nD bs S.length (ni bs p) k).1 (nD bs S.length (ni bs p) k).2)) (λt _=>bY-(intOf t).toNat)
    case atStart=>exact⟨0,yae,rfl,ci.o⟩
    case round=>
     obtain⟨a9,b9,rfl,aR⟩:=hrel
     clear ci
     by_cases aJ:a9<bY
     ·obtain⟨a1,c1,K,c2,a3,c3,vs,bc,D⟩:=aR.o
      have bZ:V _:=qq bs S.length (ni bs p) a9
      have bu:V (nD bs S.length (ni bs p) (a9+1)=((nD bs S.length (ni bs p) a9).1++[rL S.length (nv bs (nD bs S.length (ni bs p) a9).2)],ni bs (nD bs S.length (ni bs p) a9).2)):=rfl
      have b3:V _:=bc
      have f:V (vs.length=S.length):=by show vs.length=_;rw[<-bc,List.length_map]
      have HD:V _:=D
      clear D bc aR
      generalize nD bs S.length (ni bs p) a9=aP at HD bu bZ⊢
      rw[bZ.o]at HD
      go_wp2_with fail
      refine yaj HD.o.next ?_
      rintro e an ⟨rfl,ch⟩
      have aH:=bv.o aP.2
      generalize nv bs aP.2=x at aH bu⊢
      replace HD:V _:=ch
      clear ch
      have bM:vs.length<=100:=jj f.o a8.o
      have cz:2<=vs.length:=jj f.o cu.o
      generalize cI:vs.length=l at HD bM cz
      have b8:V _:=cI
      clear cI
      by_cases h3:0<x%3
      ·have b5:0<(x:Int)%3:=xaa
       have bK:(l:Int)-1-(x:Int)/3%3=(l:Int)-1-((x/3%3:Nat):Int):=xaa
       have bA:V (rL S.length x=if (l:Int)-1-((x/3%3:Nat):Int)<0 then 0 else (l:Int)-1-((x/3%3:Nat):Int)):=by show rL _ _=_;unfold rL;rw[iv h3,<-f.o,b8.o]
       have da:-3<=(l:Int)-1-((x/3%3:Nat):Int)/\(l:Int)-1-((x/3%3:Nat):Int)<=100:=xaa
       generalize (l:Int)-1-((x/3%3:Nat):Int)=y at bK bA da
       have U:=HD.o.keep (eA 0 0 an (.cells #[ih y] 3))
       have bL:=U.dg.r3
       have z:V _:=U
       obtain⟨_,aU,ax,aF,_,_,_⟩:=HD.o.bx
       clear U
       go_upto_region 22 with (first|(at_builtin;refine fZ _ rfl _ _ rfl (w.heap.size+2) _ aP.1 rfl bL ⟨an.heap.size,0,none⟩ y rfl xac (i4 bZ.o) z.o.dg.sz ?_;intro g9 cap9 n9 a7 a2 Z bk br;have aA:=jd z.o.bx bk (λc=>i4 ((eF z.o.dg.r3 c).1));have ae:V _:=z.o.outs_ bk Z a2 br;replace a2:V _:=a2;obtain⟨_,bX,aV,bg,bT,f1,f2⟩:=aA))
       generalize a7.setCell ⟨w.heap.size+1,2,none⟩ (ia g9 n9 cap9)=cd at ae⊢
       have ab:a9<n9:=by have:=a2.o;rw[yal,bZ.o]at this;simp at this;omega
       have bw:=ae.o.dg.r3
       obtain⟨aS,cw,aX,_,e8,bx⟩:=FY bw rfl (k:=a9) (by rw[yal,bZ.o];simp)
       have b:(aP.1++[y]).getD a9 0=y:=by rw[yai,yas (by rw[bZ.o];exact yad),bZ.o,Nat.sub_self];rfl
       rw[b]at bx
       injection aX with ad be ah
       injection ad with ad
       injection ad with ad
       subst ad
       obtain⟨_,bm,aW,bd,_,_,_⟩:=ae.o.bx
       have af:cd.frozen? ⟨g9,a9,none⟩=false:=by
        have au:=ae.o.dg.r3
        have ay:=f4 au
        rw[ay]at au
        exact au.frozenAt a9
       clear bw b be ah Z bk br bX aV bg bT f1 f2 bL z aU ax aF e8
       by_cases dc:y<0
       ·have HO:V _:=ae.o.setO (k:=a9) 0
        go_wp2_with fail
        go_roundw
        case rel=>
         refine⟨a9+1,by omega,by go_num,?_⟩
         have bE:=HO.o
         rw[show a9=aP.1.length from bZ.o.symm,F3,bZ.o,<-b8.o]at bE
         rw[bu.o,bA.o,iv dc]
         exact Dd.ofO bE b3.o
        case measure=>simp[intOf];omega
       ·go_wp2_with fail
        go_roundw
        case rel=>
         have bE:=ae.o
         rw[<-b8.o]at bE
         exact⟨a9+1,by omega,by go_num,by rw[bu.o,bA.o,ip dc];exact Dd.ofO bE b3.o⟩
        case measure=>simp[intOf];omega
      ·have b5:¬0<(x:Int)%3:=xaa
       have bG:(x:Int)%l=((x%l:Nat):Int):=by rw[Int.natCast_emod]
       have bA:V (rL S.length x=((x%l:Nat):Int)):=by show rL _ _=_;unfold rL;rw[ip h3,<-f.o,b8.o]
       have R:x%l<l:=Nat.mod_lt _ xaa
       generalize x%l=ct at bG bA R
       obtain⟨y,cr⟩:∃y:Int,(ct:Int)=y:=⟨_,rfl⟩
       rw[cr]at bG bA
       have dc:¬y<0:=xaa
       have ez:y<=100:=xaa
       have b1:¬l=0:=xaa
       have cD:=(Int.tmod_eq_emod_of_nonneg xaa).trans bG
       clear cr
       have U:=HD.o.keep ((eA 0 0 an (.cells #[ih y] 3)).trans (eJ 0 0 _ 1))
       have bL:=U.dg.r3
       have z:V _:=U
       obtain⟨_,aU,ax,aF,_,_,_⟩:=HD.o.bx
       clear U
       go_upto_region 21 with fail
       go_region_law ((refine xq _ rfl (.tmp 82) (.tmp 88) rfl (w.heap.size+2) _ aP.1 (by simp[Act.eval]) bL ⟨an.heap.size,0,none⟩ y (by simp[Act.eval]) xac (i4 bZ.o) z.o.dg.sz ?_;intro g9 cap9 n9 a7 a2 Z bk br;have aA:=jd z.o.bx bk (λc=>i4 ((eF z.o.dg.r3 c).1));have ae:V _:=z.o.outs_ bk Z a2 br;replace a2:V _:=a2;obtain⟨_,bX,aV,bg,bT,f1,f2⟩:=aA))
       all_goals
        generalize a7.setCell ⟨w.heap.size+1,2,none⟩ (ia g9 n9 cap9)=cd at ae⊢
        have ab:a9<n9:=by have:=a2.o;rw[yal,bZ.o]at this;simp at this;omega
        have bw:=ae.o.dg.r3
        obtain⟨aS,cw,aX,_,e8,bx⟩:=FY bw rfl (k:=a9) (by rw[yal,bZ.o];simp)
        have b:(aP.1++[y]).getD a9 0=y:=by rw[yai,yas (by rw[bZ.o];exact yad),bZ.o,Nat.sub_self];rfl
        rw[b]at bx
        injection aX with ad be ah
        injection ad with ad
        injection ad with ad
        subst ad
        obtain⟨_,bm,aW,bd,_,_,_⟩:=ae.o.bx
        have af:cd.frozen? ⟨g9,a9,none⟩=false:=by
         have au:=ae.o.dg.r3
         have ay:=f4 au
         rw[ay]at au
         exact au.frozenAt a9
        clear bw b be ah Z bk br bX aV bg bT f1 f2 bL z aU ax aF e8
        go_wp2_with fail
        go_roundw
        case rel=>
         have bE:=ae.o
         rw[<-b8.o]at bE
         exact⟨a9+1,by omega,by go_num,by rw[bu.o,bA.o];exact Dd.ofO bE b3.o⟩
        case measure=>simp[intOf];omega
     ·have ah:a9=bY:=xaa
      have aO:V (Dd w wr P a n cap bs (dgI bs i).1 (dgG bs i).1 (dgO bs i).1 (dgO bs i).2):=by
       show Dd _ _ _ _ _ _ _ _ _ _ _
       rw[bQ.o,ck.o,c6.o,ag.o,<-ah]
       exact aR.o
      clear aR ah
      obtain⟨a1,c1,K,c2,a3,c3,vs,bc,D⟩:=aO.o
      have am:V _:=D.fin bc
      obtain⟨_,aU,ax,aF,_,_,_⟩:=D.bx
      obtain⟨_,bo,ar,aQ,bT,f1,f2⟩:=D.rs
      clear D bc aO
      go_wp2_with fail
      obtain⟨bm,aW,bd⟩:=fd wr w.heap.size _ _ _ bo ar aQ (.slice a1 (dgI bs i).1.length c1) (.slice K vs.length c2) (.slice a3 (dgO bs i).1.length c3)
      exact yaz (v:=eX a1 (dgI bs i).1.length c1 K vs.length c2 a3 (dgO bs i).1.length c3) (by simp[results,results34,go_sem,bm,aW,bd]) rfl am.o
structure Dy(w0 W:World)(P:Nat)(a:Option Addr)(n cap i:Nat)(bs:List Int)(R Q:Nat)(u1 u2 u3:Value)(ins:List Int)(vs:List Vl)(outs:List Int):Prop where
 rd:RdF W P a n cap i bs
 dg:DG W w0.heap.size u1 u2 u3 ins vs outs
 bx:RB W Q u1 u2 u3
 rs:RB W R iM iM iM
 p0:P<w0.heap.size
 rq:w0.heap.size<=R/\w0.heap.size<=Q/\R≠Q
 nr:∀b,u1.ownBlock=some b\/u2.ownBlock=some b\/u3.ownBlock=some b->b≠R/\b≠Q
 k0:Kept P (P+1) w0 W
theorem Dy.step{W ab}(f:Dy w0 W P a n cap i bs H Q u1 u2 u3 ins vs outs)(X:RdF F P a n cap ab bs)(k:Kept P (P+1) W F):Dy w0 F P a n cap ab bs H Q u1 u2 u3 ins vs outs:=
 ⟨X,f.dg.kept k (i4 f.p0),f.bx.kept k (jj f.p0 f.rq),f.rs.kept k (jj f.p0 f.rq),f.p0,f.rq,f.nr,f.k0.trans k⟩
theorem Dy.keep{W}(f:Dy w0 W P a n cap i bs H Q u1 u2 u3 ins vs outs)(k:Kept 0 0 W F):Dy w0 F P a n cap i bs H Q u1 u2 u3 ins vs outs:=f.step (f.rd.keep0 k) (eZ k)
theorem Dy.next{W}(f:Dy w0 W P a n cap i bs H Q u1 u2 u3 ins vs outs):
  Calls prog 11 #[ge P] W λe F=>e=.returned (ih (nv bs i:Int))/\Dy w0 F P a n cap (ni bs i) bs H Q u1 u2 u3 ins vs outs:=
 (iD W P a n cap i bs f.rd).mono λ_ _ q=>⟨q.1,f.step q.2.1 q.2.2.1⟩
theorem cO.qcv(h:Zp:=by
 refine⟨d.keep al (.inl xaa),⟨own aN.r1 λb hb=>(f.nr b (.inl hb)).2,own aN.r2 λb hb=>?_,own aN.r3 λb hb=>(f.nr b (.inr (.inr hb))).2,aN.a12,aN.a13,aN.a23,aN.k,yao aN.sz al.size⟩,hb,au.kept al xaa,aA,am,?_,⟨al.os.trans (aX.os.trans f.k0.os),al.tape.trans (aX.tape.trans f.k0.tape),al.output.trans (aX.output.trans f.k0.output),yao f.k0.size (yao aX.size al.size),λb hb hn=>?_⟩⟩
 ·have e:b=g:=by simpa[Value.ownBlock] using hb.symm
  subst e;exact aT.2
 ·rintro b (h|h|h)
  ·exact f.nr b (.inl h)
  ·have e:b=g:=by simpa[Value.ownBlock] using h.symm
   subst e;exact aT
  exact f.nr b (.inr (.inr h))
 have B:=f.k0.size;have N:=aX.size;rw[al.block b xaa xaa,aX.block b xaa (λq=>i4 ((aZ b q).1))];exact f.k0.block b hb hn):Zp:=h
open cO in
theorem Dy.vals{W}(f:Dy w0 W P a n cap i bs H Q u1 u2 u3 ins vs outs)(aX:Chg (λb=>u2.ownBlock=some b) W F)(aR:F.ownsRow w0.heap.size 79 6 (ia g m c) m (fU aM))(aD:m=aM.length)(az:u2.ownBlock=some g\/W.heap.size<=g)(J:∀v∈aM,v.k<18446744073709551616)(al:Kept Q (Q+1) F bU)(hb:RB bU Q u1 (ia g m c) u3):Dy w0 bU P a n cap i bs H Q u1 (ia g m c) u3 ins aM outs:=by
 have aA:=f.p0;have am:=f.rq;have aZ:∀b,u2.ownBlock=some b->w0.heap.size<=b/\b≠H/\b≠Q:=λb hb=>⟨(eF f.dg.r2 hb).1,f.nr b (.inr (.inl hb))⟩
 have aT:g≠H/\g≠Q:=by
  rcases az with c|c
  ·exact(aZ g c).2
  have:=f.rs.sz;have:=f.bx.sz;omega
 have au:=jd f.rs aX (λc=>(aZ _ c).2.1 rfl);have aN:=f.dg.vals aX aR aD az J;have d:=mY f.rd aX λb hb=>i4 ((aZ b hb).1)
 exact qcu
theorem aJ.qbc(h:Zp:=by
 have hb:=jd f1.bx aX (λc=>(f.nr _ (.inr (.inl c))).2 rfl);exact⟨_,_,rfl,hb,f1.vals aX bi xac az J (fy _ _ _ _ _) (oN hb _ _ _)⟩):Zp:=h
open aJ in
theorem Dy.put{w0 W P a n cap i bs H Q a1 K a3 Y c1 c2 aa c3 ins vs outs aq}(f:Dy w0 W P a n cap i bs H Q (.slice a1 Y c1) (.slice K vs.length c2) (.slice a3 aa c3) ins vs outs)(k:Kept 0 0 W aq)(v)(aL:v.k<18446744073709551616)(hn:vs.length<=100000):
  Calls prog 59 #[eX a1 Y c1 K vs.length c2 a3 aa c3,v.agg] aq λe an=>∃aI cap',e=.returned (eX a1 Y c1 (some ⟨aI,0,none⟩) (vs.length+1) cap' a3 aa c3)/\RB an Q (.slice a1 Y c1) (.slice K vs.length c2) (.slice a3 aa c3)/\Dy w0 (fk an Q (.slice a1 Y c1) (ia aI (vs.length+1) cap') (.slice a3 aa c3)) P a n cap i bs H Q (.slice a1 Y c1) (ia aI (vs.length+1) cap') (.slice a3 aa c3) ins (vs++[v]) outs:=by
 exact qeq
theorem Dy.fin{W}(f:Dy w0 W P a n cap i bs H Q (.slice a1 Y c1) (.slice K vs.length c2) (.slice a3 aa c3) ins vs outs)(aw:vs.map sv=S):
  DgF w0 P a n cap bs ins S outs i (.returned (eX a1 Y c1 K vs.length c2 a3 aa c3)) (fk W H (.slice a1 Y c1) (.slice K vs.length c2) (.slice a3 aa c3)):=by
 have ad:=f4 f.dg.r1;have ah:=f4 f.dg.r3;subst ad ah;have al:=fy W H (.slice a1 ins.length c1) (.slice K vs.length c2) (.slice a3 outs.length c3);have aA:=f.p0;have am:=f.rq;have B:=f.k0.size;have own:∀{u:Value}{xs:List _}{m e s:Nat},W.ownsRow w0.heap.size e s u m _->(∀b,u.ownBlock=some b->b≠H)->(fk W H _ _ _).ownsRow _ e s u m xs:=λo h=>fJ o al λb hb=>i4 (h b hb)
 refine⟨_,_,_,_,_,_,_,rfl,aw,⟨own f.dg.r1 λb hb=>(f.nr b (.inl hb)).1,own f.dg.r2 λb hb=>(f.nr b (.inr (.inl hb))).1,own f.dg.r3 λb hb=>(f.nr b (.inr (.inr hb))).1,f.dg.a12,f.dg.a13,f.dg.a23,f.dg.k,yao f.dg.sz al.size⟩,f.rd.keep al (.inl xaa),⟨al.os.trans f.k0.os,al.tape.trans f.k0.tape,al.output.trans f.k0.output,yao B al.size,λb hb hn=>?_⟩⟩;exact xje
theorem tI(w){rest o a Q}(am:o.guard=none)(s x)
  (aR:o.op=.call {callee:=.builtin .append,args:=#[s,x],argTypes:=#[71,71]})
  (I) (u) (vs) (aw:a.eval s=u) (bi:w.ownsRow I 79 6 u vs.length (fU vs))
  (b) (v) (aH:a.eval x=ia b 1 1) (d:∀j u,v.cells[j]? =some u->w.cell? ((⟨b,0,none⟩:Addr).add j)=some u)
  (f:vs.length+1<=1000000) (ae:I<=w.heap.size)
  (h:∀g cap n O,n=(vs++[v]).length->O.ownsRow I 79 6 (ia g n cap) n (fU (vs++[v]))->Chg (λb=>u.ownBlock=some b) w O->(u.ownBlock=some g\/g=w.heap.size)->wpList prog bS Q rest (a.put o.dst (ia g n cap)) O):wpList prog bS Q (o::rest) a w:=by
 obtain⟨bY,hi,cg,b8,cc⟩:=info_parts yo;refine wpList_append_lies w am s x _ aR I 79 _ _ 6 _ underlying71 hi cg b8 cc rfl xab u _ _ aw bi _ 1 1 _ aH rfl d (EP v) xab (by unfold maxLen;omega) xaa ae _ rfl ?_;intro g cap O B N h3 _;have e:vs.length+1=(vs++[v]).length:=by rw[yal];rfl
 rw[e]at B⊢;refine h g _ _ _ rfl ?_ (fA N) h3;rw[mi,qe];exact B
def mK(sz:Nat):Nat->List Vl
 |0=>[]
 |k+1=>mK sz k++[⟨1,(sz:Int),0,0,0,fbz (floatOfInt .f64 ((k%3:Nat):Int))⟩]
theorem qT(d):∀k,(mK d k).length=k
 |0=>rfl
 |k+1=>by rw[mK,yal,qT _ k];rfl
def Dw(w W:World)(P:Nat)(a:Option Addr)(n cap i:Nat)(bs:List Int)(S:List Vl):Prop:=
 ∃a2 c2 vs,vs.map sv=S/\Dy w W P a n cap i bs w.heap.size (w.heap.size+2) iM (.slice a2 vs.length c2) (.slice (some ⟨w.heap.size+1,0,none⟩) 1 1) [] vs [0]
theorem JW{W p bE R a6}(t:RB W p bE R a6)(x):RB (W.setCell ⟨p,1,none⟩ x) p bE x a6:=
 ⟨by simpa using t.sz,by rw[eG _ _ _ _ _ _ (.inr xaa)];exact t.q0,fc _ _ _ _ _ t.q1,by rw[eG _ _ _ _ _ _ (.inr xaa)];exact t.q2,by simp[t.f0],by simp[t.f1],by simp[t.f2]⟩
theorem AQ(X:RdF w P a n cap i bs):
  Dy w (((w.alloc fO).alloc (.cells #[ih 0] 3)).alloc (.cells #[.slice none 0 0,.slice none 0 0,ia (w.heap.size+1) 1 1] 73)) P a n cap i bs w.heap.size (w.heap.size+2) iM iM (ia (w.heap.size+1) 1 1) [] [] [0]:=by
 have bj:=eA 0 0 w fO;have bb:=eA 0 0 (w.alloc fO) (.cells #[ih 0] 3);have y:=eA 0 0 ((w.alloc fO).alloc (.cells #[ih 0] 3)) (.cells #[.slice none 0 0,.slice none 0 0,ia (w.heap.size+1) 1 1] 73);have B:(w.alloc fO).heap.size=w.heap.size+1:=by simp
 have N:((w.alloc fO).alloc (.cells #[ih 0] 3)).heap.size=w.heap.size+2:=by simp
 have d:=(bj.trans bb).trans y;have aN:=World.ownsRow_lit (base:=w.heap.size) (e:=3) (size:=1) (w.alloc fO) #[ih 0] 1 xaa (by unfold maxLen;omega) rfl;rw[B]at aN;have hb:=rZ (S:=λ_=>False) ((w.alloc fO).alloc (.cells #[ih 0] 3)) _ #[.slice none 0 0,.slice none 0 0,ia (w.heap.size+1) 1 1] 73 (i3).chg (λc=>c);rw[N]at hb;refine⟨X.keep0 d,⟨yaw _ _ _ _,yaw _ _ _ _,eN aN y,?_,?_,?_,?_,d.size⟩,⟨hb.2.2,hb.1 0,hb.1 1,hb.1 2,hb.2.1 0,hb.2.1 1,hb.2.1 2⟩,(iU w).keep (bb.trans y),X.lt,⟨yad,by omega,by omega⟩,?_,eZ d⟩
 ·intro b h;cases h
 ·intro b h;cases h
 ·intro b h;cases h
 ·intro v aL;cases aL
 rintro b (h|h|h)
 ·cases h
 ·cases h
 simp[Value.ownBlock]at h;omega
theorem LX(X:RdF w P a n cap i bs)(m d:Nat)(aD:m<=3000):
  Calls prog 82 #[ih m,ih d] w (DgF w P a n cap bs [] (mK d m) [0] i):=by
 have az:V _:=AQ X;clear X;go_enter func82,ntmps82;go_wp2_with fail;generalize ((w.alloc fO).alloc (.cells #[ih 0] 3)).alloc (.cells #[.slice none 0 0,.slice none 0 0,ia (w.heap.size+1) 1 1] 73)=W0 at az⊢;go_loopw [6] (λt W=>∃k:Nat,k<=m/\t=ih k/\V (Dw w W P a n cap i bs (mK d k))) (λt _=>m-(intOf t).toNat)
 case atStart=>exact⟨0,yae,rfl,⟨none,0,[],rfl,az.o⟩⟩
 case round=>
  obtain⟨k,J,rfl,bI⟩:=hrel;clear az;obtain⟨K,c2,vs,bc,D⟩:=bI.o;clear bI;by_cases aY:k<m
  ·have bh:V (vs.length=k):=by show _=_;have aG:=congrArg List.length bc;rw[List.length_map,qT]at aG;exact aG
   have b9:(k:Int)%3=((k%3:Nat):Int):=xaa;have B:k%3<3:=Nat.mod_lt _ xaa;generalize b:k%3=r at b9 B;have dl:V _:=b;clear b;have U:=D.keep (eA 0 0 wr (iK 1 (d:Int) 0 0 0 (floatOfInt .f64 (r:Int))));have ej:=U.dg.r2;have z:V _:=U;have HSV:V _:=bc;obtain⟨_,aU,ax,aF,_,_,_⟩:=D.bx;clear D U bc;go_upto_region 4 with (first|(at_builtin;refine tI _ rfl _ _ rfl w.heap.size _ vs rfl ej wr.heap.size ⟨1,(d:Int),0,0,0,floatOfInt .f64 (r:Int)⟩ rfl (by intro j u G;have bz:=Bw wr ⟨1,(d:Int),0,0,0,floatOfInt .f64 (r:Int)⟩ 0 j u G;exact bz) (i4 bh.o) z.o.dg.sz ?_;intro g9 cap9 n9 a7 a2 Z bk br;have aA:=jd z.o.bx bk (λc=>(z.o.nr _ (.inr (.inl c))).2 rfl);have ae:V _:=z.o.vals bk Z a2 (br.imp id λe=>Nat.le_of_eq e.symm) (by intro u G;rcases List.mem_append.1 G with c|c;exact z.o.dg.k u c;simp only[List.mem_singleton]at c;subst c;exact tz _) (eU a7 ⟨w.heap.size+2,1,none⟩ (ia g9 n9 cap9) yac) (JW aA _);replace a2:V _:=a2;obtain⟨_,bX,aV,bg,bT,f1,f2⟩:=aA));go_wp2_with fail;go_roundw
   case rel=>
    refine⟨k+1,by omega,by go_num,some ⟨g9,0,none⟩,cap9,vs++[⟨1,(d:Int),0,0,0,floatOfInt .f64 (r:Int)⟩],by rw[List.map_append,HSV.o,mK,dl.o];rfl,?_⟩;have aG:=ae.o;rw[a2.o]at aG;rw[a2.o];exact aG
   case measure=>simp[intOf];omega
  have ah:k=m:=xaa;rw[ah]at bc;have am:V _:=D.fin bc;obtain⟨_,aU,ax,aF,_,_,_⟩:=D.bx;obtain⟨_,bo,ar,aQ,bT,f1,f2⟩:=D.rs;clear D bc ah;go_wp2_with fail;obtain⟨bm,aW,bd⟩:=fd wr w.heap.size _ _ _ bo ar aQ (.slice none 0 0) (.slice K vs.length c2) (ia (w.heap.size+1) 1 1);exact yaz (v:=eX none 0 0 K vs.length c2 (some ⟨w.heap.size+1,0,none⟩) 1 1) (by simp[results,results82,go_sem,bm,aW,bd]) rfl am.o
theorem yX:∀(vs:List Vl) (j q:Nat) (x:Value) (v':Vl),j<vs.length->q<6->v'.cells=(vs.getD j i0).cells.set q x->fU (vs.set j v')=(fU vs).set (j*6+q) x
 |u::r,0,q,x,v',_,am,aL=>by
  have G:u.cells.length=6:=rfl
  rw[List.set_cons_zero,fU,fU,Nat.zero_mul,Nat.zero_add,List.set_append_left _ _ (jn G am)]
  exact congrArg (· ++fU r) aL
 |u::r,j+1,q,x,v',hj,am,aL=>by
  have G:u.cells.length=6:=rfl
  rw[List.set_cons_succ,fU,fU,List.set_append_right _ _ (jx G),G,show(j+1)*6+q-6=j*6+q by omega,yX r j q x _ (by simpa using hj) am aL]
theorem DG.setV(f:DG w I u1 (ia g m c) u3 ins vs outs){v'}(hj:j<vs.length)(am:q<6)(aL:v'.cells=(vs.getD j i0).cells.set q x)(J:v'.k<18446744073709551616):DG (w.setCell ⟨g,j*6+q,none⟩ x) I u1 (ia g m c) u3 ins (vs.set j v') outs:=by
 have e:=f4 f.r2;subst e;have N:=(f.r2.stored (j*6+q) x).1;refine⟨eH f.r1 λh=>f.a12 _ h rfl,?_,eH f.r3 λh=>f.a23 _ rfl h,f.a12,f.a13,f.a23,λu G=>?_,by simpa using f.sz⟩
 ·rw[List.length_set,yX _ j q x _ hj am aL];exact N
 rcases List.mem_or_eq_of_mem_set G with c|c
 ·exact f.k u c
 rw[c];exact J
theorem cP.qcv(h:Zp:=by
 refine⟨d.keep al (.inl xaa),⟨own aN.r1 λb hb=>(hn b (.inl hb)).2,own aN.r2 λb hb=>(hn b (.inr (.inl hb))).2,own aN.r3 λb hb=>(hn b (.inr (.inr hb))).2,aN.a12,aN.a13,aN.a23,aN.k,yao aN.sz al.size⟩,hb,au.kept al xaa,aA,am,hn,⟨al.os.trans (aX.os.trans f.k0.os),al.tape.trans (aX.tape.trans f.k0.tape),al.output.trans (aX.output.trans f.k0.output),yao f.k0.size (yao aX.size al.size),λb hb hn=>?_⟩⟩;have B:=f.k0.size;have N:=aX.size;rw[al.block b xaa xaa,aX.block b xaa (λq=>i4 ((a5 b q).1))];exact f.k0.block b hb hn):Zp:=h
open cP in
theorem Dy.setG{W bf bb bc l C S}(f:Dy w0 W P a n cap i bs H Q u1 u2 u3 ins vs outs)(aX:Chg S W F)(a5:∀b,S b->w0.heap.size<=b/\b≠H/\b≠Q)(aN:DG F w0.heap.size bf bb bc l aM C)(hn:∀b,bf.ownBlock=some b\/bb.ownBlock=some b\/bc.ownBlock=some b->b≠H/\b≠Q)(al:Kept Q (Q+1) F bU)(hb:RB bU Q bf bb bc):Dy w0 bU P a n cap i bs H Q bf bb bc l aM C:=by
 have aA:=f.p0;have am:=f.rq;have au:=jd f.rs aX (λc=>(a5 _ c).2.1 rfl);have d:=mY f.rd aX λb hb=>i4 ((a5 b hb).1)
 exact qcu
theorem Dy.outs_{W x}(f:Dy w0 W P a n cap i bs H Q u1 u2 u3 ins vs outs)(aX:Chg (λb=>u3.ownBlock=some b) W F)(aR:F.ownsRow w0.heap.size 3 1 (ia g m c) m ((outs++[x]).map (Value.int .i64)))(aD:m=(outs++[x]).length)(az:u3.ownBlock=some g\/g=W.heap.size):RB F Q u1 u2 u3/\Dy w0 (F.setCell ⟨Q,2,none⟩ (ia g m c)) P a n cap i bs H Q u1 u2 (ia g m c) ins vs (outs++[x]):=by
 have aZ:∀b,u3.ownBlock=some b->w0.heap.size<=b/\b≠H/\b≠Q:=λb hb=>⟨(eF f.dg.r3 hb).1,f.nr b (.inr (.inr hb))⟩
 have hb:=jd f.bx aX (λc=>(aZ _ c).2.2 rfl);refine⟨hb,f.setG aX aZ (f.dg.outs_ aX aR aD (az.imp id λe=>Nat.le_of_eq e.symm)) ?_ (eU _ _ _ yac) (xo hb _).2⟩;rintro b (h|h|h)
 ·exact f.nr b (.inl h)
 ·exact f.nr b (.inr (.inl h))
 exact xgs
theorem Dy.ins_{W x}(f:Dy w0 W P a n cap i bs H Q u1 u2 u3 ins vs outs)(aX:Chg (λb=>u1.ownBlock=some b) W F)(aR:F.ownsRow w0.heap.size 3 1 (ia g m c) m ((ins++[x]).map (Value.int .i64)))(aD:m=(ins++[x]).length)(az:u1.ownBlock=some g\/g=W.heap.size):RB F Q u1 u2 u3/\Dy w0 (F.setCell ⟨Q,0,none⟩ (ia g m c)) P a n cap i bs H Q (ia g m c) u2 u3 (ins++[x]) vs outs:=by
 have aZ:∀b,u1.ownBlock=some b->w0.heap.size<=b/\b≠H/\b≠Q:=λb hb=>⟨(eF f.dg.r1 hb).1,f.nr b (.inl hb)⟩
 have hb:=jd f.bx aX (λc=>(aZ _ c).2.2 rfl);refine⟨hb,f.setG aX aZ (f.dg.ins_ aX aR aD (az.imp id λe=>Nat.le_of_eq e.symm)) ?_ (eU _ _ _ yac) (xo hb _).1⟩;rintro b (h|h|h)
 ·exact xgs
 ·exact f.nr b (.inr (.inl h))
 exact f.nr b (.inr (.inr h))
theorem Dy.setV{W}(f:Dy w0 W P a n cap i bs H Q u1 (ia g m c) u3 ins vs outs){v'}(hj:j<vs.length)(am:q<6)(aL:v'.cells=(vs.getD j i0).cells.set q x)(J:v'.k<18446744073709551616):Dy w0 (W.setCell ⟨g,j*6+q,none⟩ x) P a n cap i bs H Q u1 (ia g m c) u3 ins (vs.set j v') outs:=by
 have aX:=fh (S:=λb=>b=g) W g (j*6+q) x rfl;have az:w0.heap.size<=g/\g≠H/\g≠Q:=⟨(eF f.dg.r2 rfl).1,f.nr g (.inr (.inl rfl))⟩
 exact f.setG aX (λb hb=>by subst hb;exact az) (f.dg.setV hj am aL J) f.nr (Kept.refl _ _ _) (jd f.bx aX λc=>az.2.2 c.symm)
theorem Dy.box(f:DG w w0.heap.size u1 u2 u3 ins vs outs)(X:RdF w P a n cap i bs)(hP:P<w0.heap.size)(k:Kept P (P+1) w0 w):
  Dy w0 ((w.alloc (.cells #[u1,u2,u3] 73)).alloc fO) P a n cap i bs (w.heap.size+1) w.heap.size u1 u2 u3 ins vs outs:=by
 obtain⟨S,ap⟩:=GrS.start f X hP;refine⟨S.rd,S.dg,S.bx,S.rs,hP,⟨i4 f.sz,f.sz,by omega⟩,λb hb=>?_,k.trans (eZ ap)⟩;have:=S.far b hb;omega
theorem iF(h:j<vs.length):vs.getD j i0∈vs:=by
 rw[yai,yam h];exact List.getElem_mem h
theorem svd(vs j):vd (vs.map sv) j=sv (vd vs j):=by
 exact xhr
theorem Dy.finS{W l S'}(f:Dy w0 W P a n cap i bs H Q (.slice a1 Y c1) (.slice K l c2) (.slice a3 aa c3) ins vs outs)(ag:vs.length=l)(aw:vs.map sv=S'):
  DgF w0 P a n cap bs ins S' outs i (.returned (eX a1 Y c1 K l c2 a3 aa c3)) (fk W H (.slice a1 Y c1) (.slice K l c2) (.slice a3 aa c3)):=by
 subst ag;exact f.fin aw
theorem a.qab(h:Zp:=by
 obtain⟨g,ce,aX,_,bx,bf⟩:=gQ HD.o.dg.r2 rfl u;cases aX;exact qda):Zp:=h
theorem a.qdb(h:Zp:=by
 have C:(nv bs i:Int)%12=0:=i4 b.o
 clear b;have ae:V _:=HD.o.setV (q:=2) (x:=.int _ j) (v':=⟨(vd _ j).op,(vd _ j).len,j,(vd _ j).b,(vd _ j).c,(vd _ j).k⟩) u xab rfl HK.o;have am:V _:=ae.o.finS (S':=S.set (nv bs _%S.length) ({vd S (nv bs _%S.length) with a:=((nv bs (ni bs i)%S.length):Nat)})) (List.length_set ..) (by rw[List.map_set,HSV.o,<-t.o];exact congrArg _ (by rw[<-HSV.o,svd];rfl));have b5:=af (j*6+2);exact xau):Zp:=h
open a in
theorem Nu(f:DG w w0.heap.size (.slice a1 ins.length c1) (.slice K vs.length c2) (.slice a3 outs.length c3) ins vs outs)(X:RdF w P a n cap i bs)(hP:P<w0.heap.size)(bF:Kept P (P+1) w0 w)(aw:vs.map sv=S)(hn:vs.length<=100000)(B:0<S.length)(J:nv bs i%12=0):
  Calls prog 84 #[eX a1 ins.length c1 K vs.length c2 a3 outs.length c3,ge P] w (DgF w0 P a n cap bs ins (S.set (nv bs (ni bs i)%S.length) ({vd S (nv bs (ni bs i)%S.length) with a:=(((nv bs (ni bs i)%S.length):Nat):Int)})) outs (ni bs (ni bs i))):=by
 exact qaa
theorem b.qab(h:Zp:=by
 obtain⟨g,ce,aX,_,bx,bf⟩:=gQ HD.o.dg.r2 rfl u;cases aX;exact qda):Zp:=h
theorem b.qdb(h:Zp:=by
 have C:(nv bs i:Int)%12=4:=i4 b.o
 clear b;have ae:V _:=HD.o.setV (q:=0) (x:=.int _ ((nv bs (ni bs i):Int)%17)) (v':=⟨_,(vd _ j).len,(vd _ j).a,(vd _ j).b,(vd _ j).c,(vd _ j).k⟩) u xab rfl HK.o;have am:V _:=ae.o.finS (S':=S.set (nv bs _%S.length) ({vd S (nv bs _%S.length) with op:=(nv bs _:Int)%17})) (List.length_set ..) (by rw[List.map_set,HSV.o,<-t.o];exact congrArg _ (by rw[<-HSV.o,svd];rfl));exact xcp):Zp:=h
open b in
theorem Nv(f:DG w w0.heap.size (.slice a1 ins.length c1) (.slice K vs.length c2) (.slice a3 outs.length c3) ins vs outs)(X:RdF w P a n cap i bs)(hP:P<w0.heap.size)(bF:Kept P (P+1) w0 w)(aw:vs.map sv=S)(hn:vs.length<=100000)(B:0<S.length)(J:nv bs i%12=4):
  Calls prog 84 #[eX a1 ins.length c1 K vs.length c2 a3 outs.length c3,ge P] w (DgF w0 P a n cap bs ins (S.set (nv bs (ni bs i)%S.length) ({vd S (nv bs (ni bs i)%S.length) with op:=(nv bs (ni bs i):Int)%17})) outs (ni bs (ni bs i))):=by
 exact qaa
theorem c.qab(h:Zp:=by
 obtain⟨g,ce,aX,_,bx,bf⟩:=gQ HD.o.dg.r2 rfl u;cases aX;exact qda):Zp:=h
theorem c.qdb(h:Zp:=by
 have C:(nv bs i:Int)%12=8:=i4 b.o
 clear b;have ae:V _:=HD.o.setV (q:=5) (x:=.float _ 4619567317775286272) (v':=⟨(vd _ j).op,(vd _ j).len,(vd _ j).a,(vd _ j).b,(vd _ j).c,_⟩) u xab rfl (show 4619567317775286272<18446744073709551616 by decide);have am:V _:=ae.o.finS (S':=S.set (nv bs _%S.length) ({vd S (nv bs _%S.length) with k:=fbz 4619567317775286272})) (List.length_set ..) (by rw[List.map_set,HSV.o,<-t.o];exact congrArg _ (by rw[<-HSV.o,svd];rfl));have b5:=af (j*6+5);exact xau):Zp:=h
open c in
theorem Nw(f:DG w w0.heap.size (.slice a1 ins.length c1) (.slice K vs.length c2) (.slice a3 outs.length c3) ins vs outs)(X:RdF w P a n cap i bs)(hP:P<w0.heap.size)(bF:Kept P (P+1) w0 w)(aw:vs.map sv=S)(hn:vs.length<=100000)(B:0<S.length)(J:nv bs i%12=8):
  Calls prog 84 #[eX a1 ins.length c1 K vs.length c2 a3 outs.length c3,ge P] w (DgF w0 P a n cap bs ins (S.set (nv bs (ni bs i)%S.length) ({vd S (nv bs (ni bs i)%S.length) with k:=fbz 4619567317775286272})) outs (ni bs (ni bs i))):=by
 exact qaa
theorem d.qab(h:Zp:=by
 obtain⟨g,ce,aX,_,bx,bf⟩:=gQ HD.o.dg.r2 rfl u;cases aX;exact qda):Zp:=h
theorem d.qdb(h:Zp:=by
 have C:(nv bs i:Int)%12=9:=i4 b.o
 clear b;have ae:V _:=HD.o.setV (q:=0) (x:=.int _ (-1)) (v':=⟨_,(vd _ j).len,(vd _ j).a,(vd _ j).b,(vd _ j).c,(vd _ j).k⟩) u xab rfl HK.o;have am:V _:=ae.o.finS (S':=S.set (nv bs _%S.length) ({vd S (nv bs _%S.length) with op:=-1})) (List.length_set ..) (by rw[List.map_set,HSV.o,<-t.o];exact congrArg _ (by rw[<-HSV.o,svd];rfl));exact xcp):Zp:=h
open d in
theorem Nx(f:DG w w0.heap.size (.slice a1 ins.length c1) (.slice K vs.length c2) (.slice a3 outs.length c3) ins vs outs)(X:RdF w P a n cap i bs)(hP:P<w0.heap.size)(bF:Kept P (P+1) w0 w)(aw:vs.map sv=S)(hn:vs.length<=100000)(B:0<S.length)(J:nv bs i%12=9):
  Calls prog 84 #[eX a1 ins.length c1 K vs.length c2 a3 outs.length c3,ge P] w (DgF w0 P a n cap bs ins (S.set (nv bs (ni bs i)%S.length) ({vd S (nv bs (ni bs i)%S.length) with op:=-1})) outs (ni bs (ni bs i))):=by
 exact qaa
theorem e.qab(h:Zp:=by
 obtain⟨g,ce,aX,_,bx,bf⟩:=gQ HD.o.dg.r2 rfl u;cases aX;exact qda):Zp:=h
theorem e.qdb(h:Zp:=by
 have C:(nv bs i:Int)%12=5:=i4 b.o
 clear b;obtain⟨y,bK⟩:∃y:Int,vs.length-(nv bs (ni bs i):Int)%2=y:=⟨_,rfl⟩
 have bv:V (S.length-(nv bs (ni bs i):Int)%2=y):=by show _=_;rw[R.o];exact bK
 have da:-10<=y/\y<=100000:=xaa;have U:=HD.o.keep (eA 0 0 _ (.cells #[ih y] 3));have bL:=U.dg.r3;have z:V _:=U;clear U;go_upto_region 31 with (first|(at_builtin;refine fZ _ rfl _ _ rfl _ _ _ rfl bL _ (y) rfl xac xaa z.o.dg.sz ?_;intro g9 cap9 n9 a7 a2 Z bk br;obtain⟨aA,(ae:V _)⟩:=z.o.outs_ bk Z a2 br;have am:V _:=ae.o.finS rfl HSV.o;replace a2:V _:=a2;obtain⟨_,bX,aV,bg,bT,f1,f2⟩:=aA));exact qgd):Zp:=h
theorem e.qge(h:Zp:=by
 exact yaz (v:=eX a1 ins.length c1 (some ⟨g,0,none⟩) vs.length c2 (some ⟨g9,0,none⟩) n9 cap9) (by simp[results,results84,go_sem,bG,bn,p2]) rfl (jn bv.o am.o)):Zp:=h
open e in
theorem Ny(f:DG w w0.heap.size (.slice a1 ins.length c1) (.slice K vs.length c2) (.slice a3 outs.length c3) ins vs outs)(X:RdF w P a n cap i bs)(hP:P<w0.heap.size)(bF:Kept P (P+1) w0 w)(aw:vs.map sv=S)(hn:vs.length<=100000)(B:0<S.length)(cJ:outs.length<=1000)(J:nv bs i%12=5):
  Calls prog 84 #[eX a1 ins.length c1 K vs.length c2 a3 outs.length c3,ge P] w (DgF w0 P a n cap bs ins S (outs++[(S.length:Int)-(nv bs (ni bs i):Int)%2]) (ni bs (ni bs i))):=by
 exact qaa
theorem f.qab(h:Zp:=by
 obtain⟨g,ce,aX,_,bx,bf⟩:=gQ HD.o.dg.r2 rfl u;cases aX;exact qda):Zp:=h
theorem f.qdb(h:Zp:=by
 have C:(nv bs i:Int)%12=7:=i4 b.o
 clear b;have U:=HD.o.keep (eA 0 0 _ (.cells #[ih (-1)] 3));have bL:=U.dg.r3;have z:V _:=U;clear U;go_upto_region 31 with (first|(at_builtin;refine fZ _ rfl _ _ rfl _ _ _ rfl bL _ ((-1)) rfl xac xaa z.o.dg.sz ?_;intro g9 cap9 n9 a7 a2 Z bk br;obtain⟨aA,(ae:V _)⟩:=z.o.outs_ bk Z a2 br;have am:V _:=ae.o.finS rfl HSV.o;replace a2:V _:=a2;obtain⟨_,bX,aV,bg,bT,f1,f2⟩:=aA));exact qgd):Zp:=h
theorem f.qge(h:Zp:=by
 exact yaz (v:=eX a1 ins.length c1 (some ⟨g,0,none⟩) vs.length c2 (some ⟨g9,0,none⟩) n9 cap9) (by simp[results,results84,go_sem,bG,bn,p2]) rfl am.o):Zp:=h
open f in
theorem Nz(f:DG w w0.heap.size (.slice a1 ins.length c1) (.slice K vs.length c2) (.slice a3 outs.length c3) ins vs outs)(X:RdF w P a n cap i bs)(hP:P<w0.heap.size)(bF:Kept P (P+1) w0 w)(aw:vs.map sv=S)(hn:vs.length<=100000)(B:0<S.length)(cJ:outs.length<=1000)(J:nv bs i%12=7):
  Calls prog 84 #[eX a1 ins.length c1 K vs.length c2 a3 outs.length c3,ge P] w (DgF w0 P a n cap bs ins S (outs++[-1]) (ni bs (ni bs i))):=by
 exact qaa
theorem g.qab(h:Zp:=by
 obtain⟨g,ce,aX,_,bx,bf⟩:=gQ HD.o.dg.r2 rfl u;cases aX;exact qda):Zp:=h
theorem g.qdb(h:Zp:=by
 have C:(nv bs i:Int)%12=6:=i4 b.o
 clear b;obtain⟨y,bK⟩:∃y:Int,(nv bs (ni bs i):Int)%3*500=y:=⟨_,rfl⟩
 have bv:V _:=bK;have U:=HD.o.keep (eA 0 0 _ (.cells #[ih y] 3));have bL:=U.dg.r1;have z:V _:=U;clear U;go_upto_region 31 with (first|(at_builtin;refine fZ _ rfl _ _ rfl _ _ _ rfl bL _ (y) rfl xac xaa z.o.dg.sz ?_;intro g9 cap9 n9 a7 a2 Z bk br;obtain⟨aA,(ae:V _)⟩:=z.o.ins_ bk Z a2 br;have am:V _:=ae.o.finS rfl HSV.o;replace a2:V _:=a2;obtain⟨_,bX,aV,bg,bT,f1,f2⟩:=aA));obtain⟨_,bm,aW,bd,_,_,_⟩:=ae.o.bx;obtain⟨_,bo,ar,aQ,bR,bV,bW⟩:=ae.o.rs;go_wp2_with fail;obtain⟨bG,bn,p2⟩:=fd _ _ _ _ _ bo ar aQ (ia g9 n9 cap9) (ia g vs.length c2) (.slice a3 outs.length c3);exact yaz (v:=eX (some ⟨g9,0,none⟩) n9 cap9 (some ⟨g,0,none⟩) vs.length c2 a3 outs.length c3) (by simp[results,results84,go_sem,bG,bn,p2]) rfl (jn bv.o am.o)):Zp:=h
open g in
theorem NA(f:DG w w0.heap.size (.slice a1 ins.length c1) (.slice K vs.length c2) (.slice a3 outs.length c3) ins vs outs)(X:RdF w P a n cap i bs)(hP:P<w0.heap.size)(bF:Kept P (P+1) w0 w)(aw:vs.map sv=S)(hn:vs.length<=100000)(B:0<S.length)(cJ:ins.length<=1000)(J:nv bs i%12=6):
  Calls prog 84 #[eX a1 ins.length c1 K vs.length c2 a3 outs.length c3,ge P] w (DgF w0 P a n cap bs (ins++[(nv bs (ni bs i):Int)%3*500]) S outs (ni bs (ni bs i))):=by
 exact qaa
theorem NB(f:DG w w0.heap.size (.slice a1 ins.length c1) (.slice K vs.length c2) (.slice a3 outs.length c3) ins vs outs)(X:RdF w P a n cap i bs)(hP:P<w0.heap.size)(bF:Kept P (P+1) w0 w)(aw:vs.map sv=S)(_hn:vs.length<=100000)(J:S.length=0):
  Calls prog 84 #[eX a1 ins.length c1 K vs.length c2 a3 outs.length c3,ge P] w (DgF w0 P a n cap bs ins S outs (ni bs (ni bs i))):=by
 have d:V _:=Dy.box f X hP bF;have ca:=fD X.ys i;have bZ:=fD X.ys (ni bs i);have R:V (S.length=vs.length):=by show _=_;rw[<-aw,List.length_map]
 have HSV:V _:=aw;have b:V _:=J;clear f X bF aw J;go_enter func84,ntmps84;go_wp2_with fail;generalize (w.alloc _).alloc _=W0 at d⊢;refine yaj d.o.next ?_;rintro e aq ⟨rfl,(a6:V _)⟩;clear d;go_wp2_with fail;refine yaj a6.o.next ?_;rintro e bU ⟨rfl,(HD:V _)⟩;clear a6;have b5:vs.length=0:=jj b.o R.o
 have am:V _:=HD.o.fin HSV.o;obtain⟨_,aU,ax,aF,_,_,_⟩:=HD.o.bx;obtain⟨_,bo,ar,aQ,bR,bV,bW⟩:=HD.o.rs;generalize vs.length=l at b5 am aU ax aF;have U:(l:Int)<=0:=xaa;clear b5;go_wp2_with fail;obtain⟨bG,bn,p2⟩:=fd _ _ _ _ _ bo ar aQ (.slice a1 ins.length c1) (.slice K l c2) (.slice a3 outs.length c3);exact yaz (v:=eX a1 ins.length c1 K l c2 a3 outs.length c3) (by simp[results,results84,go_sem,bG,bn,p2]) rfl am.o
theorem h.qab(h:Zp:=by
 obtain⟨g,ce,aX,_,bx,bf⟩:=gQ HD.o.dg.r2 rfl u;cases aX;exact qda):Zp:=h
theorem h.qdb(h:Zp:=by
 have C:(nv bs i:Int)%12=10:=i4 b.o
 clear b;have ak:50+(nv bs (ni bs i):Int)%2=(50+nv bs (ni bs i)%2:Nat):=xaa;have G:50+nv bs (ni bs i)%2<=60:=xaa;have aC:V (∀(ao:Nat) e O,ao=50+nv _ (ni bs i)%2->DgF w0 P a n cap _ ins S _ _ e O->DgF _ P a n _ bs _ S (outs++List.replicate (50+nv bs _%2-outs.length) ((((nv bs _%S.length:Nat)):Int))) (ni bs (ni bs i)) e _):=λao e O ay aN=>by rw[<-ay];rw[<-t.o];exact aN
 generalize y:50+nv bs _%2=v at ak G;have aB:V _:=y.symm;clear y;have ap:V _:=ak;have HE:V (Dy w0 bU P a n cap (ni bs (ni bs i)) bs (w.heap.size+1) w.heap.size (.slice a1 ins.length c1) (ia g vs.length c2) (.slice a3 (outs++List.replicate 0 ((j:Int))).length c3) ins vs (outs++List.replicate 0 ((j:Int)))):=by rw[List.replicate_zero,List.append_nil];exact HD.o
 go_wp2_with fail;rw[show((vs.length:Int)==0)=false from yan xaa];clear aU ax aF HD a8 aJ aP bw b3 cf af;go_loopg [] v (λq W=>∃(al:Nat) (au:Option Addr) (az:Nat),al<=v-outs.length/\v-outs.length-al<=q/\V (Dy w0 W P a n cap (ni bs (ni bs i)) bs (w.heap.size+1) w.heap.size (.slice a1 ins.length c1) (ia g vs.length c2) (.slice au (outs++List.replicate al ((j:Int))).length az) ins vs (outs++List.replicate al ((j:Int)))))
 case atStart=>exact⟨0,_,_,yae,by omega,HE.o⟩
 case round=>
  obtain⟨al,au,az,bz,am,bI⟩:=hrel;clear HE;have aD:V ((outs++List.replicate al ((j:Int))).length=outs.length+al):=by show _=_;rw[yal,List.length_replicate]
  have ai:=bI.o;have an:V (∃xs,xs=outs++List.replicate al ((j:Int))):=⟨_,rfl⟩
  exact qfw):Zp:=h
theorem h.qfx(h:Zp:=by
 by_cases aY:l<v
 ·have U:=HD.o.keep (eA 0 0 _ (.cells #[ih (j)] 3));have bL:=U.dg.r3;have z:V _:=U;clear U cg;go_upto_region 28 with fail;go_wp2_with (first|(at_builtin;refine fZ _ rfl _ _ rfl _ _ _ rfl bL _ (j) rfl xac (i4 av.o) z.o.dg.sz ?_;intro g9 cap9 n9 a7 a2 Z bk br;obtain⟨aA,(ae:V _)⟩:=z.o.outs_ bk Z a2 br;replace a2:V _:=a2;obtain⟨_,bX,aV,bg,bT,f1,f2⟩:=aA));go_roundg (gk-1)
  case measure=>have:=dl.o;omega
  case rel=>
   have:=dl.o;refine⟨al+1,some ⟨g9,0,none⟩,cap9,by omega,by omega,?_⟩;have e:outs++List.replicate (al+1) ((j:Int))=xs++[(j:Int)]:=by rw[bA.o,List.append_assoc,List.replicate_succ']
   have aG:=ae.o;rw[a2.o]at aG⊢;rw[e];exact aG
 have aO:V _:=HD.o.finS rfl HSV.o;have cG:al=v-outs.length:=xaa;have aH:V (xs=outs++List.replicate (v-outs.length) ((j:Int))):=jv cG bA.o
 obtain⟨_,bo,ar,aQ,bR,bV,bW⟩:=HD.o.rs;clear cG cg;go_wp2_with fail;obtain⟨bG,bn,p2⟩:=fd _ _ _ _ _ bo ar aQ (.slice a1 ins.length c1) (ia g vs.length c2) (.slice au l az);exact yaz (v:=eX a1 ins.length c1 (some ⟨g,0,none⟩) vs.length c2 au l az) (by simp[results,results84,go_sem,bG,bn,p2]) rfl (aC.o v _ _ aB.o (jv aH.o aO.o))):Zp:=h
open h in
theorem JX(f:DG w w0.heap.size (.slice a1 ins.length c1) (.slice K vs.length c2) (.slice a3 outs.length c3) ins vs outs)(X:RdF w P a n cap i bs)(hP:P<w0.heap.size)(bF:Kept P (P+1) w0 w)(aw:vs.map sv=S)(hn:vs.length<=100000)(B:0<S.length)(cJ:outs.length<=1000)(J:nv bs i%12=10):
  Calls prog 84 #[eX a1 ins.length c1 K vs.length c2 a3 outs.length c3,ge P] w (DgF w0 P a n cap bs ins S (outs++List.replicate (50+nv bs (ni bs i)%2-outs.length) ((((nv bs (ni bs i)%S.length:Nat)):Int))) (ni bs (ni bs i))):=by
 exact qaa
theorem i.qab(h:Zp:=by
 obtain⟨g,ce,aX,_,bx,bf⟩:=gQ HD.o.dg.r2 rfl u;cases aX;exact qda):Zp:=h
theorem i.qdb(h:Zp:=by
 have C:(nv bs i:Int)%12=11:=i4 b.o
 clear b;have ak:20+(nv bs (ni bs i):Int)%2=(20+nv bs (ni bs i)%2:Nat):=xaa;have G:20+nv bs (ni bs i)%2<=60:=xaa;have aC:V (∀(ao:Nat) e O,ao=20+nv _ (ni bs i)%2->DgF _ P a n _ bs _ S _ _ e _->DgF w0 P a n cap _ (ins++List.replicate (20+nv bs _%2-ins.length) (2)) S outs (ni bs (ni bs i)) e O):=λao e O ay aN=>jv ay aN
 generalize y:20+nv bs _%2=v at ak G;have aB:V _:=y.symm;clear y;have ap:V _:=ak;have HE:V (Dy w0 bU P a n cap (ni bs (ni bs i)) bs (w.heap.size+1) w.heap.size (.slice a1 (ins++List.replicate 0 (2)).length c1) (ia g vs.length c2) (.slice a3 outs.length c3) (ins++List.replicate 0 (2)) vs outs):=by rw[List.replicate_zero,List.append_nil];exact HD.o
 go_wp2_with fail;rw[show((vs.length:Int)==0)=false from yan xaa];clear aU ax aF HD a8 aJ aP bw b3 cf af;go_loopg [] v (λq W=>∃(al:Nat) (au:Option Addr) (az:Nat),al<=v-ins.length/\v-ins.length-al<=q/\V (Dy w0 W P a n cap (ni bs (ni bs i)) bs (w.heap.size+1) w.heap.size (.slice au (ins++List.replicate al (2)).length az) (ia g vs.length c2) (.slice a3 outs.length c3) (ins++List.replicate al (2)) vs outs))
 case atStart=>exact⟨0,_,_,yae,by omega,HE.o⟩
 case round=>
  obtain⟨al,au,az,bz,am,bI⟩:=hrel;clear HE;have aD:V ((ins++List.replicate al (2)).length=ins.length+al):=by show _=_;rw[yal,List.length_replicate]
  have ai:=bI.o;have an:V (∃xs,xs=ins++List.replicate al (2)):=⟨_,rfl⟩
  exact qfw):Zp:=h
theorem i.qfx(h:Zp:=by
 by_cases aY:l<v
 ·have U:=HD.o.keep (eA 0 0 _ (.cells #[ih (2)] 3));have bL:=U.dg.r1;have z:V _:=U;clear U cg;go_upto_region 30 with fail;go_wp2_with (first|(at_builtin;refine fZ _ rfl _ _ rfl _ _ _ rfl bL _ (2) rfl xac (i4 av.o) z.o.dg.sz ?_;intro g9 cap9 n9 a7 a2 Z bk br;obtain⟨aA,(ae:V _)⟩:=z.o.ins_ bk Z a2 br;replace a2:V _:=a2;obtain⟨_,bX,aV,bg,bT,f1,f2⟩:=aA));go_roundg (gk-1)
  case measure=>have:=dl.o;omega
  case rel=>
   have:=dl.o;refine⟨al+1,some ⟨g9,0,none⟩,cap9,by omega,by omega,?_⟩;have e:ins++List.replicate (al+1) (2)=xs++[2]:=by rw[bA.o,List.append_assoc,List.replicate_succ']
   have aG:=ae.o;rw[a2.o]at aG⊢;rw[e];exact aG
 have aO:V _:=HD.o.finS rfl HSV.o;have cG:al=v-ins.length:=xaa;have aH:V (xs=ins++List.replicate (v-ins.length) (2)):=jv cG bA.o
 obtain⟨_,bo,ar,aQ,bR,bV,bW⟩:=HD.o.rs;clear cG cg;go_wp2_with fail;obtain⟨bG,bn,p2⟩:=fd _ _ _ _ _ bo ar aQ (.slice au l az) (ia g vs.length c2) (.slice a3 outs.length c3);exact yaz (v:=eX au l az (some ⟨g,0,none⟩) vs.length c2 a3 outs.length c3) (by simp[results,results84,go_sem,bG,bn,p2]) rfl (aC.o v _ _ aB.o (jv aH.o aO.o))):Zp:=h
open i in
theorem JY(f:DG w w0.heap.size (.slice a1 ins.length c1) (.slice K vs.length c2) (.slice a3 outs.length c3) ins vs outs)(X:RdF w P a n cap i bs)(hP:P<w0.heap.size)(bF:Kept P (P+1) w0 w)(aw:vs.map sv=S)(hn:vs.length<=100000)(B:0<S.length)(cJ:ins.length<=1000)(J:nv bs i%12=11):
  Calls prog 84 #[eX a1 ins.length c1 K vs.length c2 a3 outs.length c3,ge P] w (DgF w0 P a n cap bs (ins++List.replicate (20+nv bs (ni bs i)%2-ins.length) (2)) S outs (ni bs (ni bs i))):=by
 exact qaa
