import Derived.Test.YtaheilbiakhlgaaGreatP41
namespace Go.Proofs.Z
variable{Zp:Prop}
open Tryz
set_option maxRecDepth 1000000
set_option maxHeartbeats 0
open Go.RowKit Flt
attribute[local go_sem] eF eE eD
variable{aC w W' W2:World}{bA:Array Oper}{I P n cap i j R Q k c1 m q g c2 Y c c3 aa:Nat}{a a1 Z a3:Option Addr}{bs ins outs:List Int}{u1 u2 u3 x:Value}{vs S bh:List Vl}
def iT(bs:List Int)(p:Nat):Nat->List Int×List Vl×Nat
 |0=>([],[],p)
 |k+1=>((iT bs p k).1++[((1+nv bs (iT bs p k).2.2%4:Nat):Int)],(iT bs p k).2.1++[⟨0,((1+nv bs (iT bs p k).2.2%4:Nat):Int),(k:Int),0,0,0⟩],ni bs (iT bs p k).2.2)
def gwL(bs:List Int)(ins:List Int)(m:Nat):Nat->Nat->List Vl->Nat->List Vl×Nat
 |0,_,S,p=>(S,p)
 |f+1,k,S,p=>if k<m/\(k<3\/p<bs.length)then gwL bs ins m f (k+1) (S++[(gwM ins S bs p).1]) (gwM ins S bs p).2 else (S,p)
def zE(len v:Nat):Int:=if 0<v%3 then (if (len:Int)-1-((v/3%3:Nat):Int)<0 then 0 else (len:Int)-1-((v/3%3:Nat):Int))else ((v%len:Nat):Int)
def pu(bs:List Int)(len p:Nat):Nat->List Int×Nat
 |0=>([],p)
 |k+1=>((pu bs len p k).1++[zE len (nv bs (pu bs len p k).2)],ni bs (pu bs len p k).2)
def Dd(w W:World)(P:Nat)(a:Option Addr)(n cap:Nat)(bs:List Int)(ins:List Int)(S:List Vl)(outs:List Int)(i:Nat):Prop:=
 ∃a1 c1 a2 c2 a3 c3 vs,vs.map sv=S/\Dx w W P a n cap i bs (.slice a1 ins.length c1) (.slice a2 vs.length c2) (.slice a3 outs.length c3) ins vs outs
def dgI(bs:List Int)(i:Nat):List Int×List Vl×Nat:=iT bs (ni bs i) (nv bs i%4)
def dgG(bs:List Int)(i:Nat):List Vl×Nat:=gwL bs (dgI bs i).1 (2+nv bs (dgI bs i).2.2%24) (2+nv bs (dgI bs i).2.2%24) 0 (dgI bs i).2.1 (ni bs (dgI bs i).2.2)
def dgO(bs:List Int)(i:Nat):List Int×Nat:=pu bs (dgG bs i).1.length (ni bs (dgG bs i).2) (nv bs (dgG bs i).2%5)
def DgF(w:World)(P:Nat)(a:Option Addr)(n cap:Nat)(bs:List Int)(ins:List Int)(S:List Vl)(outs:List Int)(i:Nat)(e:Ending)(w':World):Prop:=
 ∃a1 c1 a2 c2 a3 c3 vs,e=.returned (eX a1 ins.length c1 a2 vs.length c2 a3 outs.length c3)/\vs.map sv=S/\DG w' w.heap.size (.slice a1 ins.length c1) (.slice a2 vs.length c2) (.slice a3 outs.length c3) ins vs outs/\RdF w' P a n cap i bs/\Kept P (P+1) w w'
def LenS(S:List Vl):Prop:=∀k,k<S.length->1<=(vd S k).len/\(vd S k).len<=1000
theorem LenS.snoc{v}(h:LenS S)(aM:1<=v.len/\v.len<=1000):LenS (S++[v]):=λk O=>by
 rw[yak]at O
 by_cases c:k<S.length
 ·rw[Nx c];exact h k c
 ·have:k=S.length+0:=by simp at O;omega
  rw[this,Ny];exact aM
theorem LenS.of(h:LenS S)(e:vs.map sv=S):∀k,k<vs.length->1<=(vd vs k).len/\(vd vs k).len<=1000:=λk O=>by
 rw[<-B9,e]
 exact h k (by rw[<-e,List.length_map];exact O)
theorem qP(bs p):∀k,(iT bs p k).1.length=k/\(iT bs p k).2.1.length=k
 |0=>⟨rfl,rfl⟩
 |k+1=>by
  obtain⟨B,U⟩:=qP bs p k
  exact⟨by rw[iT,yak,B];rfl,by rw[iT,yak,U];rfl⟩
theorem rC(bs p):∀k,LenS (iT bs p k).2.1/\∀j,j<(iT bs p k).1.length->1<=(iT bs p k).1.getD j 0/\(iT bs p k).1.getD j 0<=1000
 |0=>⟨λk O=>(by cases O),λk O=>(by cases O)⟩
 |k+1=>by
  obtain⟨B,U⟩:=rC bs p k
  rw[iT]
  refine⟨B.snoc (by simp only;omega),λj hj=>?_⟩
  simp only at hj⊢
  rw[yak]at hj
  by_cases c:j<(iT bs p k).1.length
  ·rw[yah,yas c,<-yah]
   exact U j c
  ·have e:j=(iT bs p k).1.length:=by simp at hj;omega
   rw[yah,yar xaa,e,Nat.sub_self]
   show 1<=((1+nv bs (iT bs p k).2.2%4:Nat):Int)/\((1+nv bs (iT bs p k).2.2%4:Nat):Int)<=1000
   omega
theorem Dd.of{W v s}(h:Dx w W P a n cap i bs (.slice a1 m c1) (.slice Z (vs.length+1) c2) (.slice a3 aa c3) ins (vs++[v]) outs)(ae:vs.map sv=S)(aM:sv v=s):Dd w W P a n cap bs ins (S++[s]) outs i:=by
 have af:=jS h.dg.r1;have aj:=jS h.dg.r3;subst af aj;refine⟨a1,c1,Z,c2,a3,c3,vs++[v],by rw[List.map_append,ae,List.map_cons,List.map_nil,aM],?_⟩;rw[yak];exact h
theorem xN(w){o a K Q E}(H:o.guard=none)(s x)
  (ax:o.op=.call {callee:=.builtin .append,args:=#[s,x],argTypes:=#[23,23]})
  (I) (v) (aW) (ae:a.eval s=v) (aU:w.ownsRow I 3 1 v aW.length (aW.map (Value.int .i64)))
  (aM) (y) (ap:a.eval x=.slice (some aM) 1 1) (f:w.cell? aM=some (hF y))
  (l:aW.length+1<=1000000) (af:I<=w.heap.size)
  (h:∀g cap n J,n=(aW++[y]).length->J.ownsRow I 3 1 (hE g n cap) n ((aW++[y]).map (Value.int .i64))->Chg (λb=>v.ownBlock=some b) w J->(v.ownBlock=some g\/g=w.heap.size)->K (a.put o.dst (hE g n cap)) J):if Region.wanted o (yielded bA a.tmps)=true then Oper.wp prog o a w K Q else E:=by
 obtain⟨bC,hi,bn,bQ,br⟩:=info_parts qk;refine step_append_lies w H s x 23 ax I 3 bC (hF 0) 1 8 underlying23 hi bn bQ br rfl xab v aW.length _ ae aU aM 1 1 [hF y] ap rfl ?_ ?_ xab (by unfold maxLen;omega) xaa af _ rfl ?_
 ·exact xik
 ·intro u aI;simp at aI;subst aI;rfl
 exact xgl
theorem DG.setO(f:DG w I u1 u2 (hE g m c) ins vs outs)(x):DG (w.setCell ⟨g,k,none⟩ (hF x)) I u1 u2 (hE g m c) ins vs (outs.set k x):=by
 have e:=jS f.r3;subst e;have h3:=f.r3.stored k (hF x);refine⟨eJ f.r1 λh=>f.a13 _ h rfl,eJ f.r2 λh=>f.a23 _ h rfl,?_,f.a12,f.a13,f.a23,f.k,by simpa using f.sz⟩;rw[List.length_set,List.map_set];exact h3.1
theorem Dx.setO{W}(f:Dx aC W P a n cap i bs u1 u2 (hE g m c) ins vs outs)(x):Dx aC (W.setCell ⟨g,k,none⟩ (hF x)) P a n cap i bs u1 u2 (hE g m c) ins vs (outs.set k x):=by
 have aQ:aC.heap.size+2<=g:=(eI f.dg.r3 rfl).1;have aF:=f.p0;have al:Kept g (g+1) W (W.setCell ⟨g,k,none⟩ (hF x)):=eU W ⟨g,k,none⟩ _ yac;have B:=f.k0.size;refine⟨f.rd.keep al (.inl xaa),f.dg.setO x,f.bx.kept al xaa,f.rs.kept al xaa,aF,⟨al.os.trans f.k0.os,al.tape.trans f.k0.tape,al.output.trans f.k0.output,yan B al.size,λb hb hn=>?_⟩⟩;rw[al.block b xaa xaa];exact f.k0.block b hb hn
theorem Hj{xs}{y z:Int}:(xs++[y]).set xs.length z=xs++[z]:=by
 rw[List.set_append,hG (Nat.lt_irrefl _),Nat.sub_self];rfl
theorem Dd.ofO{W}(h:Dx w W P a n cap i bs (.slice a1 m c1) (.slice Z vs.length c2) (.slice a3 aa c3) ins vs outs)(ae:vs.map sv=S):Dd w W P a n cap bs ins S outs i:=by
 have af:=jS h.dg.r1;have aj:=jS h.dg.r3;subst af aj;exact⟨a1,c1,Z,c2,a3,c3,vs,ae,h⟩
theorem tU(bs l p):∀k,(pu bs l p k).1.length=k
 |0=>rfl
 |k+1=>by rw[pu,yak,tU bs l p k];rfl
theorem DG.mono{e}(f:DG w I u1 u2 u3 ins vs outs)(h:e<=I):DG w e u1 u2 u3 ins vs outs:=
 ⟨jc f.r1 h,jc f.r2 h,jc f.r3 h,f.a12,f.a13,f.a23,f.k,yan h f.sz⟩
theorem Dx.fin{W}(f:Dx aC W P a n cap i bs (.slice a1 ins.length c1) (.slice Z vs.length c2) (.slice a3 outs.length c3) ins vs outs)(ae:vs.map sv=S):
  DgF aC P a n cap bs ins S outs i (.returned (eX a1 ins.length c1 Z vs.length c2 a3 outs.length c3)) (fF W aC.heap.size (.slice a1 ins.length c1) (.slice Z vs.length c2) (.slice a3 outs.length c3)):=by
 have al:=fh W aC.heap.size (.slice a1 ins.length c1) (.slice Z vs.length c2) (.slice a3 outs.length c3);have aF:=f.p0;have B:=f.k0.size;refine⟨a1,c1,Z,c2,a3,c3,vs,rfl,ae,(f.dg.kept al xaa).mono xaa,f.rd.keep al (.inl xaa),⟨al.os.trans f.k0.os,al.tape.trans f.k0.tape,al.output.trans f.k0.output,yan B al.size,λb hb hn=>?_⟩⟩;exact xkf
theorem Hk(C:RdF w P a n cap i bs):
  Calls prog 36 #[hD P] w (DgF w P a n cap bs (dgI bs i).1 (dgG bs i).1 (dgO bs i).1 (dgO bs i).2):=by
 have ao:V _:=Dx.start C;have a9:=fU C.ys i;have bV:V _:=λj=>fU C.ys j;clear C;go_enter func36,ntmps36;go_wp2_with fail;generalize (w.alloc fE).alloc fE=W0 at ao⊢;refine yai ao.o.next ?_;rintro e ay ⟨rfl,F⟩;have HD:V (Dd w ay P a n cap bs (iT bs (ni bs i) 0).1 (iT bs (ni bs i) 0).2.1 [] (iT bs (ni bs i) 0).2.2):=⟨none,0,none,0,none,0,[],rfl,F⟩
 have bd:(nv bs i:Int)%4=((nv bs i%4:Nat):Int):=xaa;have cU:nv bs i%4<4:=Nat.mod_lt _ xaa;generalize dd:nv bs i%4=nn at bd cU;have bz:V _:=dd.symm;clear dd;clear F ao;go_wp2_with fail;rw[bd];clear bd a9;go_loopw [5] (λt W=>∃k:Nat,k<=nn/\t=hF k/\V (Dd w W P a n cap bs (iT bs (ni bs i) k).1 (iT bs (ni bs i) k).2.1 [] (iT bs (ni bs i) k).2.2)) (λt _=>nn-(intOf t).toNat)
 case atStart=>exact⟨0,Nat.zero_le _,rfl,HD.o⟩
 case round=>
  obtain⟨k,O,rfl,aY⟩:=hrel;obtain⟨a1,c1,Z,c2,a3,c3,vs,ai,D⟩:=aY.o;rw[List.length_nil]at D;clear HD;by_cases aB:k<nn
  ·have HD:V _:=D;go_wp2_with fail;refine yai HD.o.next ?_;rintro e W2 ⟨rfl,s⟩;have bQ:=bV.o (iT bs (ni bs i) k).2.2;have cc:(1:Int)+(nv bs (iT bs (ni bs i) k).2.2:Int)%4=((1+nv bs (iT bs (ni bs i) k).2.2%4:Nat):Int):=xaa;have HSV:V _:=ai;have bU:V _:=qP bs (ni bs i) k;have bw:V (iT bs (ni bs i) (k+1)=((iT bs (ni bs i) k).1++[((1+nv bs (iT bs (ni bs i) k).2.2%4:Nat):Int)],(iT bs (ni bs i) k).2.1++[⟨0,((1+nv bs (iT bs (ni bs i) k).2.2%4:Nat):Int),(k:Int),0,0,0⟩],ni bs (iT bs (ni bs i) k).2.2)):=rfl;replace HD:V _:=s;clear D s ai aY;generalize iT bs (ni bs i) k=ah at HD bw bU HSV cc bQ⊢;generalize 1+nv bs ah.2.2%4=d at cc bw;generalize J:ah.1.length=bJ at HD;have ci:bJ=k:=by rw[<-J];exact bU.o.1
   have cw:V _:=J;clear J;subst ci;have X:=HD.o.keep (ez 0 0 W2 (.cells #[hF d] 3));have u:=X.dg.r1;have z:V _:=X;have a7:=HD.o.bx.q0;clear X;go_wp2_with (first|(at_builtin;refine fQ _ rfl _ _ rfl (w.heap.size+2) _ ah.1 rfl u ⟨W2.heap.size,0,none⟩ (d:Int) rfl xac (hO bU.o.1) z.o.dg.sz ?_;intro g9 cap9 n9 be bO bv aF b9;have ax:=jM z.o.bx aF (λc=>hO ((eI z.o.dg.r1 c).1));have ag:V _:=z.o.ins_ aF bv bO b9;replace bO:V _:=bO;obtain⟨_,bR,aS,bb,bH,f1,f2⟩:=ax));generalize be.setCell ⟨w.heap.size+1,0,none⟩ (hE g9 n9 cap9)=b8 at ag⊢;clear bv aF b9 bR aS bb bH f1 f2 a7 u z HD;have aL:V (∀cf,Kept 0 0 b8 cf->_):=λcf bW=>ag.o.put bW (eK 0 (d:Int) (bJ:Int) 0 0) (Nat.zero_lt_succ _) (by have:=bU.o.2;have ab:=congrArg List.length HSV.o;rw[List.length_map]at ab;omega);obtain⟨_,bR,aS,bb,bH,f1,f2⟩:=ag.o.bx
   go_region_with (first
    |(go_at_call 37;refine yai (aL.o _ ((eG _).trans bW)) ?_;rintro e aG ⟨aA,cap',rfl,a8,aH⟩;obtain⟨_,bo,az,aZ,bl,bG,bP⟩:=a8)
    |(go_at_call 39;refine yai (gS _ _ _ _ _ _) ?_;rintro e cf ⟨rfl,bW⟩;obtain⟨_,aW,aq,aN,_,_,_⟩:=(ag.o.keep ((eG _).trans bW)).bx))
   all_goals
    go_wp2_with fail
    go_roundw
    case rel=>
     exact⟨bJ+1,by omega,by go_num,by rw[bw.o];exact Dd.of aH HSV.o rfl⟩
    case measure=>simp[intOf];omega
  have HE:V (Dd w wr P a n cap bs (iT bs (ni bs i) nn).1 (iT bs (ni bs i) nn).2.1 [] (iT bs (ni bs i) nn).2.2):=by
   have e:k=nn:=xaa;rw[<-e];exact aY.o
  have a5:V _:=qP bs (ni bs i) nn;clear D ai aY;have bk:V (gwL bs (iT bs (ni bs i) nn).1 (2+nv bs (iT bs (ni bs i) nn).2.2%24) (2+nv bs (iT bs (ni bs i) nn).2.2%24-0) 0 (iT bs (ni bs i) nn).2.1 (ni bs (iT bs (ni bs i) nn).2.2)=dgG bs i):=hU bz.o
  have cn:V _:=rC bs (ni bs i) nn;have bY:V _:=(rfl:dgG bs i=dgG bs i)
  generalize cq:dgG bs i=G at bk⊢;replace bY:V _:=cq;clear cq;have cT:V (dgI bs i=iT bs (ni bs i) nn):=by show dgI bs i=_;rw[bz.o];rfl
  generalize iT bs (ni bs i) nn=ah at HE a5 bk cn cT⊢;obtain⟨a1,c1,Z,c2,a3,c3,vs,(HSV:V _),(HD:V _)⟩:=HE.o;clear HE;go_wp2_with fail;refine yai HD.o.next ?_;rintro e W2 ⟨rfl,s⟩;have ap:=bV.o ah.2.2;have b5:(2:Int)+(nv bs ah.2.2:Int)%24=((2+nv bs ah.2.2%24:Nat):Int):=xaa;have cB:2+nv bs ah.2.2%24<=25:=xaa;have bI:2<=2+nv bs ah.2.2%24:=xaa;generalize 2+nv bs ah.2.2%24=m at b5 cB bI bk;have o:V (Dd w W2 P a n cap bs ah.1 ah.2.1 [] (ni bs ah.2.2)):=⟨a1,c1,Z,c2,a3,c3,vs,HSV.o,s⟩
  clear s HD HSV;go_wp2_with fail;try rw[b5]
  clear b5;go_loopw [8] (λt W=>∃(k:Nat) (S:List Vl) (p:Nat),k<=m/\t=hF k/\V (Dd w W P a n cap bs ah.1 S [] p)/\V (LenS S)/\V (S.length=nn+k)/\V (gwL bs ah.1 m (m-k) k S p=G)) (λt _=>m-(intOf t).toNat)
  case atStart=>exact⟨0,ah.2.1,_,Nat.zero_le _,rfl,o.o,cn.o.1,hU a5.o.2,bk.o⟩
  case round=>
   obtain⟨an,S,p,bZ,rfl,aQ,bD,bF,bp⟩:=hrel;obtain⟨a1,c1,Z,c2,a3,c3,vs,ai,D⟩:=aQ.o;clear o bk;have aD:V _:=bD.o.of ai;have cp:vs.length=S.length:=by rw[<-ai,List.length_map]
   have cH:vs.length<=100000:=hO bF.o
   have h:V (∀v aA cap' aG,sv v=(gwM ah.1 vs bs p).1->Dx w aG P a n cap (gwM ah.1 vs bs p).2 bs (.slice a1 ah.1.length c1) (hE aA (vs.length+1) cap') (.slice a3 0 c3) ah.1 (vs++[v]) []->an<m->(an<3\/p<bs.length)->∃(S':List Vl) (f:Nat),Dd w aG P a n cap bs ah.1 S' [] f/\LenS S'/\S'.length=nn+(an+1)/\gwL bs ah.1 m (m-(an+1)) (an+1) S' f=G):=λv aA cap' aG B U h3 a6=>by
    have aV:gwM ah.1 vs bs p=gwM ah.1 S bs p:=by rw[<-Hi,ai]
    rw[aV]at B U
    refine⟨S++[(gwM ah.1 S bs p).1],(gwM ah.1 S bs p).2,Dd.of U ai B,bD.o.snoc (xL cn.o.2 bD.o),by rw[yak,bF.o];rfl,?_⟩
    have:=bp.o
    rw[show m-an=(m-(an+1))+1 by omega,gwL,hI ⟨h3,a6⟩]at this
    exact this
   have b0:V _:=λc=>by
    have:=bp.o
    cases aw:m-an with
    |zero=>rw[aw,gwL]at this;exact this.symm
    |succ x=>rw[aw,gwL,hG c]at this;exact this.symm
   rw[List.length_nil]at D;have HD:V _:=D;have HSV:V _:=ai;have br:V (∀W',Kept 0 0 wr W'->_):=λW' al=>(HD.o.keep al).grow cH aD.o;have ck:V _:=BI D.rd;clear D ai bp bD cp aQ;by_cases ak:an<m/\(an<3\/p<bs.length)
   ·have aB:=ak.1;have bg:V _:=ak.2;clear ak b0;by_cases h3:an<3
    ·obtain⟨_,bR,aS,bb,bH,f1,f2⟩:=HD.o.bx;go_wp2_with (first|(go_at_call 41;refine yai (br.o _ hN) ?_;rintro e aG ⟨v,aA,cap',rfl,b6,a8,aH⟩;obtain⟨_,bo,az,aZ,bl,bG,bP⟩:=a8));exact xgj
    have c7:(p:Int)<bs.length:=hO bg.o
    have eT:=HD.o.rd.small;have bj:(bs.length:Int)<=500:=hO HD.o.rd.ys.len
    clear eT
    go_wp2_with (first
     |(go_at_call 38;refine yai ck.o ?_;rintro e bN ⟨rfl,bT⟩;obtain⟨_,bR,aS,bb,bH,f1,f2⟩:=(HD.o.keep bT).bx)
     |(go_at_call 41;refine yai (br.o _ bT) ?_;rintro e aG ⟨v,aA,cap',rfl,b6,a8,aH⟩;obtain⟨_,bo,az,aZ,bl,bG,bP⟩:=a8))
    exact xgj
   have cr:=b0.o ak;clear h b0 br;have co:V (2<=S.length):=by have:=bF.o;show 2<=_;omega
   have aM:V _:=cr;have bc:V (vs.length=S.length):=by show vs.length=_;rw[<-HSV.o,List.length_map]
   clear cr;rcases (by omega:¬an<m\/(an<m/\¬an<3/\¬p<bs.length)) with a2|aT
   case' inl=>
    clear ak;have bX:V _:=HD.o;go_wp2_with fail
   case' inr=>
    obtain⟨cd,b2,aI⟩:=aT;have c7:(bs.length:Int)<=p:=xaa;have bj:(bs.length:Int)<=500/\(p:Int)<=500:=by have:=HD.o.rd.ys.len;have:=HD.o.rd.small;have:=HD.o.rd.hi;omega
    obtain⟨cC,cD⟩:=bj;clear ak aI;go_wp2_with (first|(go_at_call 38;refine yai ck.o ?_;rintro e bN ⟨rfl,bT⟩;have bX:V _:=HD.o.keep bT;clear bT))
   all_goals
    refine yai bX.o.next ?_
    rintro e bn ⟨rfl,ca⟩
    have b7:(nv bs p:Int)%5=((nv bs p%5:Nat):Int):=xaa
    have cF:nv bs p%5<5:=Nat.mod_lt _ xaa
    have cl:V (dgO bs i=pu bs S.length (ni bs p) (nv bs p%5)):=by show dgO bs i=_;unfold dgO;rw[bY.o,aM.o]
    generalize nv bs p%5=bK at b7 cF cl
    have ch:V (Dd w bn P a n cap bs ah.1 S (pu bs S.length (ni bs p) 0).1 (pu bs S.length (ni bs p) 0).2):=⟨a1,c1,Z,c2,a3,c3,vs,HSV.o,ca⟩
    clear ca bX HD
    go_wp2_with fail
    try rw[b7]
    clear b7
    go_loopw [9] (λt W=>∃k:Nat,k<=bK/\t=hF k/\V (Dd w W P a n cap bs ah.1 S (pu bs S.length (ni bs p) k).1 (pu bs S.length (ni bs p) k).2)) (λt _=>bK-(intOf t).toNat)
    case atStart=>exact⟨0,Nat.zero_le _,rfl,ch.o⟩
    case round=>
     obtain⟨aJ,aR,rfl,bC⟩:=hrel
     clear ch
     by_cases cb:aJ<bK
     ·obtain⟨a1,c1,Z,c2,a3,c3,vs,ai,D⟩:=bC.o
      have am:V _:=tU bs S.length (ni bs p) aJ
      have bw:V (pu bs S.length (ni bs p) (aJ+1)=((pu bs S.length (ni bs p) aJ).1++[zE S.length (nv bs (pu bs S.length (ni bs p) aJ).2)],ni bs (pu bs S.length (ni bs p) aJ).2)):=rfl
      have b1:V _:=ai
      have bB:V (vs.length=S.length):=by show vs.length=_;rw[<-ai,List.length_map]
      have HD:V _:=D
      clear D ai bC
      generalize pu bs S.length (ni bs p) aJ=au at HD bw am⊢
      rw[am.o]at HD
      go_wp2_with fail
      refine yai HD.o.next ?_
      rintro e aG ⟨rfl,cg⟩
      have ap:=bV.o au.2
      generalize nv bs au.2=x at ap bw⊢
      replace HD:V _:=cg
      clear cg
      have K:vs.length<=100:=hQ bB.o bF.o
      have cA:2<=vs.length:=hQ bB.o co.o
      generalize cp:vs.length=l at HD K cA
      have bE:V _:=cp
      clear cp
      by_cases h3:0<x%3
      ·have b4:0<(x:Int)%3:=xaa
       have bS:(l:Int)-1-(x:Int)/3%3=(l:Int)-1-((x/3%3:Nat):Int):=xaa
       have bu:V (zE S.length x=if (l:Int)-1-((x/3%3:Nat):Int)<0 then 0 else (l:Int)-1-((x/3%3:Nat):Int)):=by show zE _ _=_;unfold zE;rw[hI h3,<-bB.o,bE.o]
       have cy:-3<=(l:Int)-1-((x/3%3:Nat):Int)/\(l:Int)-1-((x/3%3:Nat):Int)<=100:=xaa
       generalize (l:Int)-1-((x/3%3:Nat):Int)=y at bS bu cy
       have X:=HD.o.keep (ez 0 0 aG (.cells #[hF y] 3))
       have u:=X.dg.r3
       have z:V _:=X
       obtain⟨_,a7,aK,aP,_,_,_⟩:=HD.o.bx
       clear X
       go_upto_region 22 with (first|(at_builtin;refine fQ _ rfl _ _ rfl (w.heap.size+2) _ au.1 rfl u ⟨aG.heap.size,0,none⟩ y rfl xac (hO am.o) z.o.dg.sz ?_;intro g9 cap9 n9 be bO bv aF b9;have ax:=jM z.o.bx aF (λc=>hO ((eI z.o.dg.r3 c).1));have ag:V _:=z.o.outs_ aF bv bO b9;replace bO:V _:=bO;obtain⟨_,bR,aS,bb,bH,f1,f2⟩:=ax))
       generalize be.setCell ⟨w.heap.size+1,2,none⟩ (hE g9 n9 cap9)=b8 at ag⊢
       have H:aJ<n9:=by have:=bO.o;rw[yak,am.o]at this;simp at this;omega
       have ae:=ag.o.dg.r3
       obtain⟨bm,cz,aU,_,b3,ba⟩:=Hf ae rfl (k:=aJ) (by rw[yak,am.o];simp)
       have bq:(au.1++[y]).getD aJ 0=y:=by rw[yah,yar (by rw[am.o];exact yad),am.o,Nat.sub_self];rfl
       rw[bq]at ba
       injection aU with af a0 aj
       injection af with af
       injection af with af
       subst af
       obtain⟨_,bf,aO,aX,_,_,_⟩:=ag.o.bx
       have r:b8.frozen? ⟨g9,aJ,none⟩=false:=by
        have av:=ag.o.dg.r3
        have ad:=jS av
        rw[ad]at av
        exact av.frozenAt aJ
       clear ae bq a0 aj bv aF b9 bR aS bb bH f1 f2 u z a7 aK aP b3
       by_cases cN:y<0
       ·have HO:V _:=ag.o.setO (k:=aJ) 0
        go_wp2_with fail
        go_roundw
        case rel=>
         refine⟨aJ+1,by omega,by go_num,?_⟩
         have ce:=HO.o
         rw[show aJ=au.1.length from am.o.symm,Hj,am.o,<-bE.o]at ce
         rw[bw.o,bu.o,hI cN]
         exact Dd.ofO ce b1.o
        case measure=>simp[intOf];omega
       ·go_wp2_with fail
        go_roundw
        case rel=>
         have ce:=ag.o
         rw[<-bE.o]at ce
         exact⟨aJ+1,by omega,by go_num,by rw[bw.o,bu.o,hG cN];exact Dd.ofO ce b1.o⟩
        case measure=>simp[intOf];omega
      ·have b4:¬0<(x:Int)%3:=xaa
       have cu:(x:Int)%l=((x%l:Nat):Int):=by rw[Int.natCast_emod]
       have bu:V (zE S.length x=((x%l:Nat):Int)):=by show zE _ _=_;unfold zE;rw[hG h3,<-bB.o,bE.o]
       have bi:x%l<l:=Nat.mod_lt _ xaa
       generalize x%l=N at cu bu bi
       obtain⟨y,ct⟩:∃y:Int,(N:Int)=y:=⟨_,rfl⟩
       rw[ct]at cu bu
       have cN:¬y<0:=xaa
       have ej:y<=100:=xaa
       have bx:¬l=0:=xaa
       have cG:=(Int.tmod_eq_emod_of_nonneg xaa).trans cu
       clear ct
       have X:=HD.o.keep ((ez 0 0 aG (.cells #[hF y] 3)).trans (eL 0 0 _ 1))
       have u:=X.dg.r3
       have z:V _:=X
       obtain⟨_,a7,aK,aP,_,_,_⟩:=HD.o.bx
       clear X
       go_upto_region 21 with fail
       go_region_law ((refine xN _ rfl (.tmp 82) (.tmp 88) rfl (w.heap.size+2) _ au.1 (by simp[Act.eval]) u ⟨aG.heap.size,0,none⟩ y (by simp[Act.eval]) xac (hO am.o) z.o.dg.sz ?_;intro g9 cap9 n9 be bO bv aF b9;have ax:=jM z.o.bx aF (λc=>hO ((eI z.o.dg.r3 c).1));have ag:V _:=z.o.outs_ aF bv bO b9;replace bO:V _:=bO;obtain⟨_,bR,aS,bb,bH,f1,f2⟩:=ax))
       all_goals
        generalize be.setCell ⟨w.heap.size+1,2,none⟩ (hE g9 n9 cap9)=b8 at ag⊢
        have H:aJ<n9:=by have:=bO.o;rw[yak,am.o]at this;simp at this;omega
        have ae:=ag.o.dg.r3
        obtain⟨bm,cz,aU,_,b3,ba⟩:=Hf ae rfl (k:=aJ) (by rw[yak,am.o];simp)
        have bq:(au.1++[y]).getD aJ 0=y:=by rw[yah,yar (by rw[am.o];exact yad),am.o,Nat.sub_self];rfl
        rw[bq]at ba
        injection aU with af a0 aj
        injection af with af
        injection af with af
        subst af
        obtain⟨_,bf,aO,aX,_,_,_⟩:=ag.o.bx
        have r:b8.frozen? ⟨g9,aJ,none⟩=false:=by
         have av:=ag.o.dg.r3
         have ad:=jS av
         rw[ad]at av
         exact av.frozenAt aJ
        clear ae bq a0 aj bv aF b9 bR aS bb bH f1 f2 u z a7 aK aP b3
        go_wp2_with fail
        go_roundw
        case rel=>
         have ce:=ag.o
         rw[<-bE.o]at ce
         exact⟨aJ+1,by omega,by go_num,by rw[bw.o,bu.o];exact Dd.ofO ce b1.o⟩
        case measure=>simp[intOf];omega
     ·have aj:aJ=bK:=xaa
      have aL:V (Dd w wr P a n cap bs (dgI bs i).1 (dgG bs i).1 (dgO bs i).1 (dgO bs i).2):=by
       show Dd _ _ _ _ _ _ _ _ _ _ _
       rw[bY.o,aM.o,cT.o,cl.o,<-aj]
       exact bC.o
      clear bC aj
      obtain⟨a1,c1,Z,c2,a3,c3,vs,ai,D⟩:=aL.o
      have ar:V _:=D.fin ai
      obtain⟨_,a7,aK,aP,_,_,_⟩:=D.bx
      obtain⟨_,bo,az,aZ,bH,f1,f2⟩:=D.rs
      clear D ai aL
      go_wp2_with fail
      obtain⟨bf,aO,aX⟩:=fg wr w.heap.size _ _ _ bo az aZ (.slice a1 (dgI bs i).1.length c1) (.slice Z vs.length c2) (.slice a3 (dgO bs i).1.length c3)
      exact yay (v:=eX a1 (dgI bs i).1.length c1 Z vs.length c2 a3 (dgO bs i).1.length c3) (by simp[results,results36,go_sem,bf,aO,aX]) rfl ar.o
structure Dy(w0 W:World)(P:Nat)(a:Option Addr)(n cap i:Nat)(bs:List Int)(R Q:Nat)(u1 u2 u3:Value)(ins:List Int)(vs:List Vl)(outs:List Int):Prop where
 rd:RdF W P a n cap i bs
 dg:DG W w0.heap.size u1 u2 u3 ins vs outs
 bx:RB W Q u1 u2 u3
 rs:RB W R iR iR iR
 p0:P<w0.heap.size
 rq:w0.heap.size<=R/\w0.heap.size<=Q/\R≠Q
 nr:∀b,u1.ownBlock=some b\/u2.ownBlock=some b\/u3.ownBlock=some b->b≠R/\b≠Q
 k0:Kept P (P+1) w0 W
theorem Dy.step{W F}(f:Dy aC W P a n cap i bs R Q u1 u2 u3 ins vs outs)(C:RdF W' P a n cap F bs)(k:Kept P (P+1) W W'):Dy aC W' P a n cap F bs R Q u1 u2 u3 ins vs outs:=
 ⟨C,f.dg.kept k (hO f.p0),f.bx.kept k (hQ f.p0 f.rq),f.rs.kept k (hQ f.p0 f.rq),f.p0,f.rq,f.nr,f.k0.trans k⟩
theorem Dy.keep{W}(f:Dy aC W P a n cap i bs R Q u1 u2 u3 ins vs outs)(k:Kept 0 0 W W'):Dy aC W' P a n cap i bs R Q u1 u2 u3 ins vs outs:=f.step (f.rd.keep0 k) (ft k)
theorem Dy.next{W}(f:Dy aC W P a n cap i bs R Q u1 u2 u3 ins vs outs):
  Calls prog 32 #[hD P] W λe W'=>e=.returned (hF (nv bs i:Int))/\Dy aC W' P a n cap (ni bs i) bs R Q u1 u2 u3 ins vs outs:=
 (jg W P a n cap i bs f.rd).mono λ_ _ q=>⟨q.1,f.step q.2.1 q.2.2.1⟩
theorem dF.qdj(h:Zp:=by
 refine⟨l.keep al (.inl xaa),⟨own G.r1 λb hb=>(f.nr b (.inl hb)).2,own G.r2 λb hb=>?_,own G.r3 λb hb=>(f.nr b (.inr (.inr hb))).2,G.a12,G.a13,G.a23,G.k,yan G.sz al.size⟩,hb,av.kept al xaa,aF,ao,?_,⟨al.os.trans (X.os.trans f.k0.os),al.tape.trans (X.tape.trans f.k0.tape),al.output.trans (X.output.trans f.k0.output),yan f.k0.size (yan X.size al.size),λb hb hn=>?_⟩⟩
 ·have e:b=g:=by simpa[Value.ownBlock] using hb.symm
  subst e;exact N.2
 ·rintro b (h|h|h)
  ·exact f.nr b (.inl h)
  ·have e:b=g:=by simpa[Value.ownBlock] using h.symm
   subst e;exact N
  exact f.nr b (.inr (.inr h))
 have B:=f.k0.size;have U:=X.size;rw[al.block b xaa xaa,X.block b xaa (λq=>hO ((aT b q).1))];exact f.k0.block b hb hn):Zp:=h
open dF in
theorem Dy.vals{W}(f:Dy aC W P a n cap i bs R Q u1 u2 u3 ins vs outs)(X:Chg (λb=>u2.ownBlock=some b) W W')(ax:W'.ownsRow aC.heap.size 40 6 (hE g m c) m (fW bh))(aw:m=bh.length)(aQ:u2.ownBlock=some g\/W.heap.size<=g)(O:∀v∈bh,v.k<18446744073709551616)(al:Kept Q (Q+1) W' W2)(hb:RB W2 Q u1 (hE g m c) u3):Dy aC W2 P a n cap i bs R Q u1 (hE g m c) u3 ins bh outs:=by
 have aF:=f.p0;have ao:=f.rq;have aT:∀b,u2.ownBlock=some b->aC.heap.size<=b/\b≠R/\b≠Q:=λb hb=>⟨(eI f.dg.r2 hb).1,f.nr b (.inr (.inl hb))⟩
 have N:g≠R/\g≠Q:=by
  rcases aQ with c|c
  ·exact(aT g c).2
  have:=f.rs.sz;have:=f.bx.sz;omega
 have av:=jM f.rs X (λc=>(aT _ c).2.1 rfl);have G:=f.dg.vals X ax aw aQ O;have l:=rt f.rd X λb hb=>hO ((aT b hb).1)
 exact qdi
theorem aS.qbg(h:Zp:=by
 have hb:=jM f1.bx X (λc=>(f.nr _ (.inr (.inl c))).2 rfl);exact⟨_,_,rfl,hb,f1.vals X aU xac aQ O (fh _ _ _ _ _) (pi hb _ _ _)⟩):Zp:=h
open aS in
theorem Dy.put{aC W P a n cap i bs R Q a1 Z a3 Y c1 c2 aa c3 ins vs outs ay}(f:Dy aC W P a n cap i bs R Q (.slice a1 Y c1) (.slice Z vs.length c2) (.slice a3 aa c3) ins vs outs)(k:Kept 0 0 W ay)(v)(aM:v.k<18446744073709551616)(hn:vs.length<=100000):
  Calls prog 37 #[eX a1 Y c1 Z vs.length c2 a3 aa c3,v.agg] ay λe aG=>∃aA cap',e=.returned (eX a1 Y c1 (some ⟨aA,0,none⟩) (vs.length+1) cap' a3 aa c3)/\RB aG Q (.slice a1 Y c1) (.slice Z vs.length c2) (.slice a3 aa c3)/\Dy aC (fF aG Q (.slice a1 Y c1) (hE aA (vs.length+1) cap') (.slice a3 aa c3)) P a n cap i bs R Q (.slice a1 Y c1) (hE aA (vs.length+1) cap') (.slice a3 aa c3) ins (vs++[v]) outs:=by
 exact qfl
theorem Dy.fin{W}(f:Dy aC W P a n cap i bs R Q (.slice a1 Y c1) (.slice Z vs.length c2) (.slice a3 aa c3) ins vs outs)(ae:vs.map sv=S):
  DgF aC P a n cap bs ins S outs i (.returned (eX a1 Y c1 Z vs.length c2 a3 aa c3)) (fF W R (.slice a1 Y c1) (.slice Z vs.length c2) (.slice a3 aa c3)):=by
 have af:=jS f.dg.r1;have aj:=jS f.dg.r3;subst af aj;have al:=fh W R (.slice a1 ins.length c1) (.slice Z vs.length c2) (.slice a3 outs.length c3);have aF:=f.p0;have ao:=f.rq;have B:=f.k0.size;have own:∀{u:Value}{xs:List _}{m e s:Nat},W.ownsRow aC.heap.size e s u m _->(∀b,u.ownBlock=some b->b≠R)->(fF W R _ _ _).ownsRow _ e s u m xs:=λo h=>fY o al λb hb=>hO (h b hb)
 refine⟨_,_,_,_,_,_,_,rfl,ae,⟨own f.dg.r1 λb hb=>(f.nr b (.inl hb)).1,own f.dg.r2 λb hb=>(f.nr b (.inr (.inl hb))).1,own f.dg.r3 λb hb=>(f.nr b (.inr (.inr hb))).1,f.dg.a12,f.dg.a13,f.dg.a23,f.dg.k,yan f.dg.sz al.size⟩,f.rd.keep al (.inl xaa),⟨al.os.trans f.k0.os,al.tape.trans f.k0.tape,al.output.trans f.k0.output,yan B al.size,λb hb hn=>?_⟩⟩;exact xkf
theorem tV(w){rest o a Q}(H:o.guard=none)(s x)
  (ax:o.op=.call {callee:=.builtin .append,args:=#[s,x],argTypes:=#[24,24]})
  (I) (u) (vs) (ae:a.eval s=u) (aU:w.ownsRow I 40 6 u vs.length (fW vs))
  (b) (v) (ap:a.eval x=hE b 1 1) (f:∀j u,v.cells[j]? =some u->w.cell? ((⟨b,0,none⟩:Addr).add j)=some u)
  (l:vs.length+1<=1000000) (af:I<=w.heap.size)
  (h:∀g cap n J,n=(vs++[v]).length->J.ownsRow I 40 6 (hE g n cap) n (fW (vs++[v]))->Chg (λb=>u.ownBlock=some b) w J->(u.ownBlock=some g\/g=w.heap.size)->wpList prog bA Q rest (a.put o.dst (hE g n cap)) J):wpList prog bA Q (o::rest) a w:=by
 obtain⟨bC,hi,bn,bQ,br⟩:=info_parts rK;refine wpList_append_lies w H s x _ ax I 40 _ _ 6 _ underlying24 hi bn bQ br rfl xab u _ _ ae aU _ 1 1 _ ap rfl f (Ai v) xab (by unfold maxLen;omega) xaa af _ rfl ?_;intro g cap J B U h3 _;have e:vs.length+1=(vs++[v]).length:=by rw[yak];rfl
 rw[e]at B⊢;refine h g _ _ _ rfl ?_ (gX U) h3;rw[kD,mV];exact B
def ng(sz:Nat):Nat->List Vl
 |0=>[]
 |k+1=>ng sz k++[⟨1,(sz:Int),0,0,0,fbz (floatOfInt .f64 ((k%3:Nat):Int))⟩]
theorem rD(U):∀k,(ng U k).length=k
 |0=>rfl
 |k+1=>by rw[ng,yak,rD _ k];rfl
def Dw(w W:World)(P:Nat)(a:Option Addr)(n cap i:Nat)(bs:List Int)(S:List Vl):Prop:=
 ∃a2 c2 vs,vs.map sv=S/\Dy w W P a n cap i bs w.heap.size (w.heap.size+2) iR (.slice a2 vs.length c2) (.slice (some ⟨w.heap.size+1,0,none⟩) 1 1) [] vs [0]
theorem KD{W p a9 N aD}(t:RB W p a9 N aD)(x):RB (W.setCell ⟨p,1,none⟩ x) p a9 x aD:=
 ⟨by simpa using t.sz,by rw[eN _ _ _ _ _ _ (.inr xaa)];exact t.q0,fR _ _ _ _ _ t.q1,by rw[eN _ _ _ _ _ _ (.inr xaa)];exact t.q2,by simp[t.f0],by simp[t.f1],by simp[t.f2]⟩
theorem A1(C:RdF w P a n cap i bs):
  Dy w (((w.alloc fE).alloc (.cells #[hF 0] 3)).alloc (.cells #[.slice none 0 0,.slice none 0 0,hE (w.heap.size+1) 1 1] 26)) P a n cap i bs w.heap.size (w.heap.size+2) iR iR (hE (w.heap.size+1) 1 1) [] [] [0]:=by
 have bE:=ez 0 0 w fE;have cd:=ez 0 0 (w.alloc fE) (.cells #[hF 0] 3);have y:=ez 0 0 ((w.alloc fE).alloc (.cells #[hF 0] 3)) (.cells #[.slice none 0 0,.slice none 0 0,hE (w.heap.size+1) 1 1] 26);have B:(w.alloc fE).heap.size=w.heap.size+1:=by simp
 have U:((w.alloc fE).alloc (.cells #[hF 0] 3)).heap.size=w.heap.size+2:=by simp
 have f:=(bE.trans cd).trans y;have ar:=World.ownsRow_lit (base:=w.heap.size) (e:=3) (size:=1) (w.alloc fE) #[hF 0] 1 xaa (by unfold maxLen;omega) rfl;rw[B]at ar;have hb:=sh (S:=λ_=>False) ((w.alloc fE).alloc (.cells #[hF 0] 3)) _ #[.slice none 0 0,.slice none 0 0,hE (w.heap.size+1) 1 1] 26 (hN).chg (λc=>c);rw[U]at hb;refine⟨C.keep0 f,⟨yav _ _ _ _,yav _ _ _ _,eW ar y,?_,?_,?_,?_,f.size⟩,⟨hb.2.2,hb.1 0,hb.1 1,hb.1 2,hb.2.1 0,hb.2.1 1,hb.2.1 2⟩,(gg w).keep (cd.trans y),C.lt,⟨yad,by omega,by omega⟩,?_,ft f⟩
 ·intro b h;cases h
 ·intro b h;cases h
 ·intro b h;cases h
 ·intro v aM;cases aM
 rintro b (h|h|h)
 ·cases h
 ·cases h
 simp[Value.ownBlock]at h;omega
theorem LN(C:RdF w P a n cap i bs)(m U:Nat)(aw:m<=3000):
  Calls prog 56 #[hF m,hF U] w (DgF w P a n cap bs [] (ng U m) [0] i):=by
 have ao:V _:=A1 C;clear C;go_enter func56,ntmps56;go_wp2_with fail;generalize ((w.alloc fE).alloc (.cells #[hF 0] 3)).alloc (.cells #[.slice none 0 0,.slice none 0 0,hE (w.heap.size+1) 1 1] 26)=W0 at ao⊢;go_loopw [6] (λt W=>∃k:Nat,k<=m/\t=hF k/\V (Dw w W P a n cap i bs (ng U k))) (λt _=>m-(intOf t).toNat)
 case atStart=>exact⟨0,Nat.zero_le _,rfl,⟨none,0,[],rfl,ao.o⟩⟩
 case round=>
  obtain⟨k,O,rfl,aY⟩:=hrel;clear ao;obtain⟨Z,c2,vs,ai,D⟩:=aY.o;clear aY;by_cases aB:k<m
  ·have bc:V (vs.length=k):=by show _=_;have ab:=congrArg List.length ai;rw[List.length_map,rD]at ab;exact ab
   have aR:(k:Int)%3=((k%3:Nat):Int):=xaa;have s:k%3<3:=Nat.mod_lt _ xaa;generalize f:k%3=r at aR s;have h:V _:=f;clear f;have X:=D.keep (ez 0 0 wr (eM 1 (U:Int) 0 0 0 (floatOfInt .f64 (r:Int))));have l:=X.dg.r2;have z:V _:=X;have HSV:V _:=ai;obtain⟨_,a7,aK,aP,_,_,_⟩:=D.bx;clear D X ai;go_upto_region 4 with (first|(at_builtin;refine tV _ rfl _ _ rfl w.heap.size _ vs rfl l wr.heap.size ⟨1,(U:Int),0,0,0,floatOfInt .f64 (r:Int)⟩ rfl (by intro j u aI;have bm:=uC wr ⟨1,(U:Int),0,0,0,floatOfInt .f64 (r:Int)⟩ 0 j u aI;exact bm) (hO bc.o) z.o.dg.sz ?_;intro g9 cap9 n9 be bO bv aF b9;have ax:=jM z.o.bx aF (λc=>(z.o.nr _ (.inr (.inl c))).2 rfl);have ag:V _:=z.o.vals aF bv bO (b9.imp id λe=>Nat.le_of_eq e.symm) (by intro u aI;rcases List.mem_append.1 aI with c|c;exact z.o.dg.k u c;simp only[List.mem_singleton]at c;subst c;exact qC _) (eU be ⟨w.heap.size+2,1,none⟩ (hE g9 n9 cap9) yac) (KD ax _);replace bO:V _:=bO;obtain⟨_,bR,aS,bb,bH,f1,f2⟩:=ax));go_wp2_with fail;go_roundw
   case rel=>
    refine⟨k+1,by omega,by go_num,some ⟨g9,0,none⟩,cap9,vs++[⟨1,(U:Int),0,0,0,floatOfInt .f64 (r:Int)⟩],by rw[List.map_append,HSV.o,ng,h.o];rfl,?_⟩;have ab:=ag.o;rw[bO.o]at ab;rw[bO.o];exact ab
   case measure=>simp[intOf];omega
  have aj:k=m:=xaa;rw[aj]at ai;have ar:V _:=D.fin ai;obtain⟨_,a7,aK,aP,_,_,_⟩:=D.bx;obtain⟨_,bo,az,aZ,bH,f1,f2⟩:=D.rs;clear D ai aj;go_wp2_with fail;obtain⟨bf,aO,aX⟩:=fg wr w.heap.size _ _ _ bo az aZ (.slice none 0 0) (.slice Z vs.length c2) (hE (w.heap.size+1) 1 1);exact yay (v:=eX none 0 0 Z vs.length c2 (some ⟨w.heap.size+1,0,none⟩) 1 1) (by simp[results,results56,go_sem,bf,aO,aX]) rfl ar.o
theorem zG:∀(vs:List Vl) (j q:Nat) (x:Value) (v':Vl),j<vs.length->q<6->v'.cells=(vs.getD j hK).cells.set q x->fW (vs.set j v')=(fW vs).set (j*6+q) x
 |u::r,0,q,x,v',_,ao,aM=>by
  have aI:u.cells.length=6:=rfl
  rw[List.set_cons_zero,fW,fW,Nat.zero_mul,Nat.zero_add,List.set_append_left _ _ (hR aI ao)]
  exact congrArg (· ++fW r) aM
 |u::r,j+1,q,x,v',hj,ao,aM=>by
  have aI:u.cells.length=6:=rfl
  rw[List.set_cons_succ,fW,fW,List.set_append_right _ _ (hT aI),aI,show(j+1)*6+q-6=j*6+q by omega,zG r j q x _ (by simpa using hj) ao aM]
theorem DG.setV(f:DG w I u1 (hE g m c) u3 ins vs outs){v'}(hj:j<vs.length)(ao:q<6)(aM:v'.cells=(vs.getD j hK).cells.set q x)(O:v'.k<18446744073709551616):DG (w.setCell ⟨g,j*6+q,none⟩ x) I u1 (hE g m c) u3 ins (vs.set j v') outs:=by
 have e:=jS f.r2;subst e;have U:=(f.r2.stored (j*6+q) x).1;refine⟨eJ f.r1 λh=>f.a12 _ h rfl,?_,eJ f.r3 λh=>f.a23 _ rfl h,f.a12,f.a13,f.a23,λu aI=>?_,by simpa using f.sz⟩
 ·rw[List.length_set,zG _ j q x _ hj ao aM];exact U
 rcases List.mem_or_eq_of_mem_set aI with c|c
 ·exact f.k u c
 rw[c];exact O
theorem dG.qdj(h:Zp:=by
 refine⟨l.keep al (.inl xaa),⟨own G.r1 λb hb=>(hn b (.inl hb)).2,own G.r2 λb hb=>(hn b (.inr (.inl hb))).2,own G.r3 λb hb=>(hn b (.inr (.inr hb))).2,G.a12,G.a13,G.a23,G.k,yan G.sz al.size⟩,hb,av.kept al xaa,aF,ao,hn,⟨al.os.trans (X.os.trans f.k0.os),al.tape.trans (X.tape.trans f.k0.tape),al.output.trans (X.output.trans f.k0.output),yan f.k0.size (yan X.size al.size),λb hb hn=>?_⟩⟩;have B:=f.k0.size;have U:=X.size;rw[al.block b xaa xaa,X.block b xaa (λq=>hO ((aU b q).1))];exact f.k0.block b hb hn):Zp:=h
open dG in
theorem Dy.setG{W ba bc z K ab S}(f:Dy aC W P a n cap i bs R Q u1 u2 u3 ins vs outs)(X:Chg S W W')(aU:∀b,S b->aC.heap.size<=b/\b≠R/\b≠Q)(G:DG W' aC.heap.size ba bc z K bh ab)(hn:∀b,ba.ownBlock=some b\/bc.ownBlock=some b\/z.ownBlock=some b->b≠R/\b≠Q)(al:Kept Q (Q+1) W' W2)(hb:RB W2 Q ba bc z):Dy aC W2 P a n cap i bs R Q ba bc z K bh ab:=by
 have aF:=f.p0;have ao:=f.rq;have av:=jM f.rs X (λc=>(aU _ c).2.1 rfl);have l:=rt f.rd X λb hb=>hO ((aU b hb).1)
 exact qdi
theorem Dy.outs_{W x}(f:Dy aC W P a n cap i bs R Q u1 u2 u3 ins vs outs)(X:Chg (λb=>u3.ownBlock=some b) W W')(ax:W'.ownsRow aC.heap.size 3 1 (hE g m c) m ((outs++[x]).map (Value.int .i64)))(aw:m=(outs++[x]).length)(aQ:u3.ownBlock=some g\/g=W.heap.size):RB W' Q u1 u2 u3/\Dy aC (W'.setCell ⟨Q,2,none⟩ (hE g m c)) P a n cap i bs R Q u1 u2 (hE g m c) ins vs (outs++[x]):=by
 have aT:∀b,u3.ownBlock=some b->aC.heap.size<=b/\b≠R/\b≠Q:=λb hb=>⟨(eI f.dg.r3 hb).1,f.nr b (.inr (.inr hb))⟩
 have hb:=jM f.bx X (λc=>(aT _ c).2.2 rfl);refine⟨hb,f.setG X aT (f.dg.outs_ X ax aw (aQ.imp id λe=>Nat.le_of_eq e.symm)) ?_ (eU _ _ _ yac) (xM hb _).2⟩;rintro b (h|h|h)
 ·exact f.nr b (.inl h)
 ·exact f.nr b (.inr (.inl h))
 exact xho
theorem Dy.ins_{W x}(f:Dy aC W P a n cap i bs R Q u1 u2 u3 ins vs outs)(X:Chg (λb=>u1.ownBlock=some b) W W')(ax:W'.ownsRow aC.heap.size 3 1 (hE g m c) m ((ins++[x]).map (Value.int .i64)))(aw:m=(ins++[x]).length)(aQ:u1.ownBlock=some g\/g=W.heap.size):RB W' Q u1 u2 u3/\Dy aC (W'.setCell ⟨Q,0,none⟩ (hE g m c)) P a n cap i bs R Q (hE g m c) u2 u3 (ins++[x]) vs outs:=by
 have aT:∀b,u1.ownBlock=some b->aC.heap.size<=b/\b≠R/\b≠Q:=λb hb=>⟨(eI f.dg.r1 hb).1,f.nr b (.inl hb)⟩
 have hb:=jM f.bx X (λc=>(aT _ c).2.2 rfl);refine⟨hb,f.setG X aT (f.dg.ins_ X ax aw (aQ.imp id λe=>Nat.le_of_eq e.symm)) ?_ (eU _ _ _ yac) (xM hb _).1⟩;rintro b (h|h|h)
 ·exact xho
 ·exact f.nr b (.inr (.inl h))
 exact f.nr b (.inr (.inr h))
theorem Dy.setV{W}(f:Dy aC W P a n cap i bs R Q u1 (hE g m c) u3 ins vs outs){v'}(hj:j<vs.length)(ao:q<6)(aM:v'.cells=(vs.getD j hK).cells.set q x)(O:v'.k<18446744073709551616):Dy aC (W.setCell ⟨g,j*6+q,none⟩ x) P a n cap i bs R Q u1 (hE g m c) u3 ins (vs.set j v') outs:=by
 have X:=od (S:=λb=>b=g) W g (j*6+q) x rfl;have aQ:aC.heap.size<=g/\g≠R/\g≠Q:=⟨(eI f.dg.r2 rfl).1,f.nr g (.inr (.inl rfl))⟩
 exact f.setG X (λb hb=>by subst hb;exact aQ) (f.dg.setV hj ao aM O) f.nr (Kept.refl _ _ _) (jM f.bx X λc=>aQ.2.2 c.symm)
theorem Dy.box(f:DG w aC.heap.size u1 u2 u3 ins vs outs)(C:RdF w P a n cap i bs)(hP:P<aC.heap.size)(k:Kept P (P+1) aC w):
  Dy aC ((w.alloc (.cells #[u1,u2,u3] 26)).alloc fE) P a n cap i bs (w.heap.size+1) w.heap.size u1 u2 u3 ins vs outs:=by
 obtain⟨S,am⟩:=GrS.start f C hP;refine⟨S.rd,S.dg,S.bx,S.rs,hP,⟨hO f.sz,f.sz,by omega⟩,λb hb=>?_,k.trans (ft am)⟩;have:=S.far b hb;omega
theorem iV(h:j<vs.length):vs.getD j hK∈vs:=by
 rw[yah,yal h];exact List.getElem_mem h
theorem svd(vs j):vd (vs.map sv) j=sv (vd vs j):=by
 exact xim
theorem Dy.finS{W l S'}(f:Dy aC W P a n cap i bs R Q (.slice a1 Y c1) (.slice Z l c2) (.slice a3 aa c3) ins vs outs)(ah:vs.length=l)(ae:vs.map sv=S'):
  DgF aC P a n cap bs ins S' outs i (.returned (eX a1 Y c1 Z l c2 a3 aa c3)) (fF W R (.slice a1 Y c1) (.slice Z l c2) (.slice a3 aa c3)):=by
 subst ah;exact f.fin ae
theorem a.qab(h:Zp:=by
 obtain⟨g,b0,aU,_,bj,bm⟩:=hH HD.o.dg.r2 rfl h;cases aU;exact qdp):Zp:=h
theorem a.qdq(h:Zp:=by
 have af:(nv bs i:Int)%12=0:=hO aj.o
 clear aj;have ag:V _:=HD.o.setV (q:=2) (x:=.int _ j) (v':=⟨(vd _ j).op,(vd _ j).len,j,(vd _ j).b,(vd _ j).c,(vd _ j).k⟩) h xab rfl HK.o;have ar:V _:=ag.o.finS (S':=S.set (nv bs _%S.length) ({vd S (nv bs _%S.length) with a:=((nv bs (ni bs i)%S.length):Nat)})) (List.length_set ..) (by rw[List.map_set,HSV.o,<-t.o];exact congrArg _ (by rw[<-HSV.o,svd];rfl));have bz:=r (j*6+2);exact xbc):Zp:=h
open a in
theorem NZ(f:DG w aC.heap.size (.slice a1 ins.length c1) (.slice Z vs.length c2) (.slice a3 outs.length c3) ins vs outs)(C:RdF w P a n cap i bs)(hP:P<aC.heap.size)(H:Kept P (P+1) aC w)(ae:vs.map sv=S)(hn:vs.length<=100000)(B:0<S.length)(O:nv bs i%12=0):
  Calls prog 58 #[eX a1 ins.length c1 Z vs.length c2 a3 outs.length c3,hD P] w (DgF aC P a n cap bs ins (S.set (nv bs (ni bs i)%S.length) ({vd S (nv bs (ni bs i)%S.length) with a:=(((nv bs (ni bs i)%S.length):Nat):Int)})) outs (ni bs (ni bs i))):=by
 exact qaa
theorem b.qab(h:Zp:=by
 obtain⟨g,b0,aU,_,bj,bm⟩:=hH HD.o.dg.r2 rfl h;cases aU;exact qdp):Zp:=h
theorem b.qdq(h:Zp:=by
 have af:(nv bs i:Int)%12=4:=hO aj.o
 clear aj;have ag:V _:=HD.o.setV (q:=0) (x:=.int _ ((nv bs (ni bs i):Int)%17)) (v':=⟨_,(vd _ j).len,(vd _ j).a,(vd _ j).b,(vd _ j).c,(vd _ j).k⟩) h xab rfl HK.o;have ar:V _:=ag.o.finS (S':=S.set (nv bs _%S.length) ({vd S (nv bs _%S.length) with op:=(nv bs _:Int)%17})) (List.length_set ..) (by rw[List.map_set,HSV.o,<-t.o];exact congrArg _ (by rw[<-HSV.o,svd];rfl));exact xdh):Zp:=h
open b in
theorem N0(f:DG w aC.heap.size (.slice a1 ins.length c1) (.slice Z vs.length c2) (.slice a3 outs.length c3) ins vs outs)(C:RdF w P a n cap i bs)(hP:P<aC.heap.size)(H:Kept P (P+1) aC w)(ae:vs.map sv=S)(hn:vs.length<=100000)(B:0<S.length)(O:nv bs i%12=4):
  Calls prog 58 #[eX a1 ins.length c1 Z vs.length c2 a3 outs.length c3,hD P] w (DgF aC P a n cap bs ins (S.set (nv bs (ni bs i)%S.length) ({vd S (nv bs (ni bs i)%S.length) with op:=(nv bs (ni bs i):Int)%17})) outs (ni bs (ni bs i))):=by
 exact qaa
theorem c.qab(h:Zp:=by
 obtain⟨g,b0,aU,_,bj,bm⟩:=hH HD.o.dg.r2 rfl h;cases aU;exact qdp):Zp:=h
theorem c.qdq(h:Zp:=by
 have af:(nv bs i:Int)%12=8:=hO aj.o
 clear aj;have ag:V _:=HD.o.setV (q:=5) (x:=.float _ 4619567317775286272) (v':=⟨(vd _ j).op,(vd _ j).len,(vd _ j).a,(vd _ j).b,(vd _ j).c,_⟩) h xab rfl (show 4619567317775286272<18446744073709551616 by decide);have ar:V _:=ag.o.finS (S':=S.set (nv bs _%S.length) ({vd S (nv bs _%S.length) with k:=fbz 4619567317775286272})) (List.length_set ..) (by rw[List.map_set,HSV.o,<-t.o];exact congrArg _ (by rw[<-HSV.o,svd];rfl));have bz:=r (j*6+5);exact xbc):Zp:=h
open c in
theorem N1(f:DG w aC.heap.size (.slice a1 ins.length c1) (.slice Z vs.length c2) (.slice a3 outs.length c3) ins vs outs)(C:RdF w P a n cap i bs)(hP:P<aC.heap.size)(H:Kept P (P+1) aC w)(ae:vs.map sv=S)(hn:vs.length<=100000)(B:0<S.length)(O:nv bs i%12=8):
  Calls prog 58 #[eX a1 ins.length c1 Z vs.length c2 a3 outs.length c3,hD P] w (DgF aC P a n cap bs ins (S.set (nv bs (ni bs i)%S.length) ({vd S (nv bs (ni bs i)%S.length) with k:=fbz 4619567317775286272})) outs (ni bs (ni bs i))):=by
 exact qaa
theorem d.qab(h:Zp:=by
 obtain⟨g,b0,aU,_,bj,bm⟩:=hH HD.o.dg.r2 rfl h;cases aU;exact qdp):Zp:=h
theorem d.qdq(h:Zp:=by
 have af:(nv bs i:Int)%12=9:=hO aj.o
 clear aj;have ag:V _:=HD.o.setV (q:=0) (x:=.int _ (-1)) (v':=⟨_,(vd _ j).len,(vd _ j).a,(vd _ j).b,(vd _ j).c,(vd _ j).k⟩) h xab rfl HK.o;have ar:V _:=ag.o.finS (S':=S.set (nv bs _%S.length) ({vd S (nv bs _%S.length) with op:=-1})) (List.length_set ..) (by rw[List.map_set,HSV.o,<-t.o];exact congrArg _ (by rw[<-HSV.o,svd];rfl));exact xdh):Zp:=h
open d in
theorem N2(f:DG w aC.heap.size (.slice a1 ins.length c1) (.slice Z vs.length c2) (.slice a3 outs.length c3) ins vs outs)(C:RdF w P a n cap i bs)(hP:P<aC.heap.size)(H:Kept P (P+1) aC w)(ae:vs.map sv=S)(hn:vs.length<=100000)(B:0<S.length)(O:nv bs i%12=9):
  Calls prog 58 #[eX a1 ins.length c1 Z vs.length c2 a3 outs.length c3,hD P] w (DgF aC P a n cap bs ins (S.set (nv bs (ni bs i)%S.length) ({vd S (nv bs (ni bs i)%S.length) with op:=-1})) outs (ni bs (ni bs i))):=by
 exact qaa
theorem e.qab(h:Zp:=by
 obtain⟨g,b0,aU,_,bj,bm⟩:=hH HD.o.dg.r2 rfl h;cases aU;exact qdp):Zp:=h
theorem e.qdq(h:Zp:=by
 have af:(nv bs i:Int)%12=5:=hO aj.o
 clear aj;obtain⟨y,bS⟩:∃y:Int,vs.length-(nv bs (ni bs i):Int)%2=y:=⟨_,rfl⟩
 have bV:V (S.length-(nv bs (ni bs i):Int)%2=y):=by show _=_;rw[p.o];exact bS
 have cy:-10<=y/\y<=100000:=xaa;have X:=HD.o.keep (ez 0 0 _ (.cells #[hF y] 3));have u:=X.dg.r3;have z:V _:=X;clear X;go_upto_region 31 with (first|(at_builtin;refine fQ _ rfl _ _ rfl _ _ _ rfl u _ (y) rfl xac xaa z.o.dg.sz ?_;intro g9 cap9 n9 be bO bv aF b9;obtain⟨ax,(ag:V _)⟩:=z.o.outs_ aF bv bO b9;have ar:V _:=ag.o.finS rfl HSV.o;replace bO:V _:=bO;obtain⟨_,bR,aS,bb,bH,f1,f2⟩:=ax));exact qhf):Zp:=h
theorem e.qhg(h:Zp:=by
 exact yay (v:=eX a1 ins.length c1 (some ⟨g,0,none⟩) vs.length c2 (some ⟨g9,0,none⟩) n9 cap9) (by simp[results,results58,go_sem,bi,a5,p2]) rfl (hR bV.o ar.o)):Zp:=h
open e in
theorem N3(f:DG w aC.heap.size (.slice a1 ins.length c1) (.slice Z vs.length c2) (.slice a3 outs.length c3) ins vs outs)(C:RdF w P a n cap i bs)(hP:P<aC.heap.size)(H:Kept P (P+1) aC w)(ae:vs.map sv=S)(hn:vs.length<=100000)(B:0<S.length)(ct:outs.length<=1000)(O:nv bs i%12=5):
  Calls prog 58 #[eX a1 ins.length c1 Z vs.length c2 a3 outs.length c3,hD P] w (DgF aC P a n cap bs ins S (outs++[(S.length:Int)-(nv bs (ni bs i):Int)%2]) (ni bs (ni bs i))):=by
 exact qaa
theorem f.qab(h:Zp:=by
 obtain⟨g,b0,aU,_,bj,bm⟩:=hH HD.o.dg.r2 rfl h;cases aU;exact qdp):Zp:=h
theorem f.qdq(h:Zp:=by
 have af:(nv bs i:Int)%12=7:=hO aj.o
 clear aj;have X:=HD.o.keep (ez 0 0 _ (.cells #[hF (-1)] 3));have u:=X.dg.r3;have z:V _:=X;clear X;go_upto_region 31 with (first|(at_builtin;refine fQ _ rfl _ _ rfl _ _ _ rfl u _ ((-1)) rfl xac xaa z.o.dg.sz ?_;intro g9 cap9 n9 be bO bv aF b9;obtain⟨ax,(ag:V _)⟩:=z.o.outs_ aF bv bO b9;have ar:V _:=ag.o.finS rfl HSV.o;replace bO:V _:=bO;obtain⟨_,bR,aS,bb,bH,f1,f2⟩:=ax));exact qhf):Zp:=h
theorem f.qhg(h:Zp:=by
 exact yay (v:=eX a1 ins.length c1 (some ⟨g,0,none⟩) vs.length c2 (some ⟨g9,0,none⟩) n9 cap9) (by simp[results,results58,go_sem,bi,a5,p2]) rfl ar.o):Zp:=h
open f in
theorem N4(f:DG w aC.heap.size (.slice a1 ins.length c1) (.slice Z vs.length c2) (.slice a3 outs.length c3) ins vs outs)(C:RdF w P a n cap i bs)(hP:P<aC.heap.size)(H:Kept P (P+1) aC w)(ae:vs.map sv=S)(hn:vs.length<=100000)(B:0<S.length)(ct:outs.length<=1000)(O:nv bs i%12=7):
  Calls prog 58 #[eX a1 ins.length c1 Z vs.length c2 a3 outs.length c3,hD P] w (DgF aC P a n cap bs ins S (outs++[-1]) (ni bs (ni bs i))):=by
 exact qaa
theorem g.qab(h:Zp:=by
 obtain⟨g,b0,aU,_,bj,bm⟩:=hH HD.o.dg.r2 rfl h;cases aU;exact qdp):Zp:=h
theorem g.qdq(h:Zp:=by
 have af:(nv bs i:Int)%12=6:=hO aj.o
 clear aj;obtain⟨y,bS⟩:∃y:Int,(nv bs (ni bs i):Int)%3*500=y:=⟨_,rfl⟩
 have bV:V _:=bS;have X:=HD.o.keep (ez 0 0 _ (.cells #[hF y] 3));have u:=X.dg.r1;have z:V _:=X;clear X;go_upto_region 31 with (first|(at_builtin;refine fQ _ rfl _ _ rfl _ _ _ rfl u _ (y) rfl xac xaa z.o.dg.sz ?_;intro g9 cap9 n9 be bO bv aF b9;obtain⟨ax,(ag:V _)⟩:=z.o.ins_ aF bv bO b9;have ar:V _:=ag.o.finS rfl HSV.o;replace bO:V _:=bO;obtain⟨_,bR,aS,bb,bH,f1,f2⟩:=ax));obtain⟨_,bf,aO,aX,_,_,_⟩:=ag.o.bx;obtain⟨_,bo,az,aZ,bl,bG,bP⟩:=ag.o.rs;go_wp2_with fail;obtain⟨bi,a5,p2⟩:=fg _ _ _ _ _ bo az aZ (hE g9 n9 cap9) (hE g vs.length c2) (.slice a3 outs.length c3);exact yay (v:=eX (some ⟨g9,0,none⟩) n9 cap9 (some ⟨g,0,none⟩) vs.length c2 a3 outs.length c3) (by simp[results,results58,go_sem,bi,a5,p2]) rfl (hR bV.o ar.o)):Zp:=h
open g in
theorem N6(f:DG w aC.heap.size (.slice a1 ins.length c1) (.slice Z vs.length c2) (.slice a3 outs.length c3) ins vs outs)(C:RdF w P a n cap i bs)(hP:P<aC.heap.size)(H:Kept P (P+1) aC w)(ae:vs.map sv=S)(hn:vs.length<=100000)(B:0<S.length)(ct:ins.length<=1000)(O:nv bs i%12=6):
  Calls prog 58 #[eX a1 ins.length c1 Z vs.length c2 a3 outs.length c3,hD P] w (DgF aC P a n cap bs (ins++[(nv bs (ni bs i):Int)%3*500]) S outs (ni bs (ni bs i))):=by
 exact qaa
theorem N7(f:DG w aC.heap.size (.slice a1 ins.length c1) (.slice Z vs.length c2) (.slice a3 outs.length c3) ins vs outs)(C:RdF w P a n cap i bs)(hP:P<aC.heap.size)(H:Kept P (P+1) aC w)(ae:vs.map sv=S)(_hn:vs.length<=100000)(O:S.length=0):
  Calls prog 58 #[eX a1 ins.length c1 Z vs.length c2 a3 outs.length c3,hD P] w (DgF aC P a n cap bs ins S outs (ni bs (ni bs i))):=by
 have N:V _:=Dy.box f C hP H;have cq:=fU C.ys i;have bX:=fU C.ys (ni bs i);have p:V (S.length=vs.length):=by show _=_;rw[<-ae,List.length_map]
 have HSV:V _:=ae;have aj:V _:=O;clear f C H ae O;go_enter func58,ntmps58;go_wp2_with fail;generalize (w.alloc _).alloc _=W0 at N⊢;refine yai N.o.next ?_;rintro e ay ⟨rfl,(au:V _)⟩;clear N;go_wp2_with fail;refine yai au.o.next ?_;rintro e W2 ⟨rfl,(HD:V _)⟩;clear au;have bz:vs.length=0:=hQ aj.o p.o
 have ar:V _:=HD.o.fin HSV.o;obtain⟨_,a7,aK,aP,_,_,_⟩:=HD.o.bx;obtain⟨_,bo,az,aZ,bl,bG,bP⟩:=HD.o.rs;generalize vs.length=l at bz ar a7 aK aP;have ad:(l:Int)<=0:=xaa;clear bz;go_wp2_with fail;obtain⟨bi,a5,p2⟩:=fg _ _ _ _ _ bo az aZ (.slice a1 ins.length c1) (.slice Z l c2) (.slice a3 outs.length c3);exact yay (v:=eX a1 ins.length c1 Z l c2 a3 outs.length c3) (by simp[results,results58,go_sem,bi,a5,p2]) rfl ar.o
theorem h.qab(h:Zp:=by
 obtain⟨g,b0,aU,_,bj,bm⟩:=hH HD.o.dg.r2 rfl h;cases aU;exact qdp):Zp:=h
theorem h.qdq(h:Zp:=by
 have af:(nv bs i:Int)%12=10:=hO aj.o
 clear aj;have ap:50+(nv bs (ni bs i):Int)%2=(50+nv bs (ni bs i)%2:Nat):=xaa;have aJ:50+nv bs (ni bs i)%2<=60:=xaa;have aH:V (∀(aw:Nat) e J,aw=50+nv _ (ni bs i)%2->DgF aC P a n cap _ ins S _ _ e J->DgF _ P a n _ bs _ S (outs++List.replicate (50+nv bs _%2-outs.length) ((((nv bs _%S.length:Nat)):Int))) (ni bs (ni bs i)) e _):=λaw e J ad G=>by rw[<-ad];rw[<-t.o];exact G
 generalize ar:50+nv bs _%2=y at ap aJ;have aD:V _:=ar.symm;clear ar;have aA:V _:=ap;have HE:V (Dy aC W2 P a n cap (ni bs (ni bs i)) bs (w.heap.size+1) w.heap.size (.slice a1 ins.length c1) (hE g vs.length c2) (.slice a3 (outs++List.replicate 0 ((j:Int))).length c3) ins vs (outs++List.replicate 0 ((j:Int)))):=by rw[List.replicate_zero,List.append_nil];exact HD.o
 go_wp2_with fail;rw[show((vs.length:Int)==0)=false from yam xaa];clear a7 aK aP HD bd aR aV bY ce cl r;go_loopg [] y (λq W=>∃(al:Nat) (aT:Option Addr) (bT:Nat),al<=y-outs.length/\y-outs.length-al<=q/\V (Dy aC W P a n cap (ni bs (ni bs i)) bs (w.heap.size+1) w.heap.size (.slice a1 ins.length c1) (hE g vs.length c2) (.slice aT (outs++List.replicate al ((j:Int))).length bT) ins vs (outs++List.replicate al ((j:Int)))))
 case atStart=>exact⟨0,_,_,Nat.zero_le _,by omega,HE.o⟩
 case round=>
  obtain⟨al,aT,bT,K,ao,aY⟩:=hrel;clear HE;have aG:V ((outs++List.replicate al ((j:Int))).length=outs.length+al):=by show _=_;rw[yak,List.length_replicate]
  have an:=aY.o;have av:V (∃xs,xs=outs++List.replicate al ((j:Int))):=⟨_,rfl⟩
  exact qgw):Zp:=h
theorem h.qgx(h:Zp:=by
 by_cases aB:l<y
 ·have X:=HD.o.keep (ez 0 0 _ (.cells #[hF (j)] 3));have u:=X.dg.r3;have z:V _:=X;clear X cI;go_upto_region 28 with fail;go_wp2_with (first|(at_builtin;refine fQ _ rfl _ _ rfl _ _ _ rfl u _ (j) rfl xac (hO aq.o) z.o.dg.sz ?_;intro g9 cap9 n9 be bO bv aF b9;obtain⟨ax,(ag:V _)⟩:=z.o.outs_ aF bv bO b9;replace bO:V _:=bO;obtain⟨_,bR,aS,bb,bH,f1,f2⟩:=ax));go_roundg (gk-1)
  case measure=>have:=c9.o;omega
  case rel=>
   have:=c9.o;refine⟨al+1,some ⟨g9,0,none⟩,cap9,by omega,by omega,?_⟩;have e:outs++List.replicate (al+1) ((j:Int))=xs++[(j:Int)]:=by rw[bu.o,List.append_assoc,List.replicate_succ']
   have ab:=ag.o;rw[bO.o]at ab⊢;rw[e];exact ab
 have aL:V _:=HD.o.finS rfl HSV.o;have aO:al=y-outs.length:=xaa;have aI:V (xs=outs++List.replicate (y-outs.length) ((j:Int))):=hS aO bu.o
 obtain⟨_,bo,az,aZ,bl,bG,bP⟩:=HD.o.rs;clear aO cI;go_wp2_with fail;obtain⟨bi,a5,p2⟩:=fg _ _ _ _ _ bo az aZ (.slice a1 ins.length c1) (hE g vs.length c2) (.slice aT l bT);exact yay (v:=eX a1 ins.length c1 (some ⟨g,0,none⟩) vs.length c2 aT l bT) (by simp[results,results58,go_sem,bi,a5,p2]) rfl (aH.o y _ _ aD.o (hS aI.o aL.o))):Zp:=h
open h in
theorem KE(f:DG w aC.heap.size (.slice a1 ins.length c1) (.slice Z vs.length c2) (.slice a3 outs.length c3) ins vs outs)(C:RdF w P a n cap i bs)(hP:P<aC.heap.size)(H:Kept P (P+1) aC w)(ae:vs.map sv=S)(hn:vs.length<=100000)(B:0<S.length)(ct:outs.length<=1000)(O:nv bs i%12=10):
  Calls prog 58 #[eX a1 ins.length c1 Z vs.length c2 a3 outs.length c3,hD P] w (DgF aC P a n cap bs ins S (outs++List.replicate (50+nv bs (ni bs i)%2-outs.length) ((((nv bs (ni bs i)%S.length:Nat)):Int))) (ni bs (ni bs i))):=by
 exact qaa
theorem i.qab(h:Zp:=by
 obtain⟨g,b0,aU,_,bj,bm⟩:=hH HD.o.dg.r2 rfl h;cases aU;exact qdp):Zp:=h
theorem i.qdq(h:Zp:=by
 have af:(nv bs i:Int)%12=11:=hO aj.o
 clear aj;have ap:20+(nv bs (ni bs i):Int)%2=(20+nv bs (ni bs i)%2:Nat):=xaa;have aJ:20+nv bs (ni bs i)%2<=60:=xaa;have aH:V (∀(aw:Nat) e J,aw=20+nv _ (ni bs i)%2->DgF _ P a n _ bs _ S _ _ e _->DgF aC P a n cap _ (ins++List.replicate (20+nv bs _%2-ins.length) (2)) S outs (ni bs (ni bs i)) e J):=λaw e J ad G=>hS ad G
 generalize ar:20+nv bs _%2=y at ap aJ;have aD:V _:=ar.symm;clear ar;have aA:V _:=ap;have HE:V (Dy aC W2 P a n cap (ni bs (ni bs i)) bs (w.heap.size+1) w.heap.size (.slice a1 (ins++List.replicate 0 (2)).length c1) (hE g vs.length c2) (.slice a3 outs.length c3) (ins++List.replicate 0 (2)) vs outs):=by rw[List.replicate_zero,List.append_nil];exact HD.o
 go_wp2_with fail;rw[show((vs.length:Int)==0)=false from yam xaa];clear a7 aK aP HD bd aR aV bY ce cl r;go_loopg [] y (λq W=>∃(al:Nat) (aT:Option Addr) (bT:Nat),al<=y-ins.length/\y-ins.length-al<=q/\V (Dy aC W P a n cap (ni bs (ni bs i)) bs (w.heap.size+1) w.heap.size (.slice aT (ins++List.replicate al (2)).length bT) (hE g vs.length c2) (.slice a3 outs.length c3) (ins++List.replicate al (2)) vs outs))
 case atStart=>exact⟨0,_,_,Nat.zero_le _,by omega,HE.o⟩
 case round=>
  obtain⟨al,aT,bT,K,ao,aY⟩:=hrel;clear HE;have aG:V ((ins++List.replicate al (2)).length=ins.length+al):=by show _=_;rw[yak,List.length_replicate]
  have an:=aY.o;have av:V (∃xs,xs=ins++List.replicate al (2)):=⟨_,rfl⟩
  exact qgw):Zp:=h
theorem i.qgx(h:Zp:=by
 by_cases aB:l<y
 ·have X:=HD.o.keep (ez 0 0 _ (.cells #[hF (2)] 3));have u:=X.dg.r1;have z:V _:=X;clear X cI;go_upto_region 30 with fail;go_wp2_with (first|(at_builtin;refine fQ _ rfl _ _ rfl _ _ _ rfl u _ (2) rfl xac (hO aq.o) z.o.dg.sz ?_;intro g9 cap9 n9 be bO bv aF b9;obtain⟨ax,(ag:V _)⟩:=z.o.ins_ aF bv bO b9;replace bO:V _:=bO;obtain⟨_,bR,aS,bb,bH,f1,f2⟩:=ax));go_roundg (gk-1)
  case measure=>have:=c9.o;omega
  case rel=>
   have:=c9.o;refine⟨al+1,some ⟨g9,0,none⟩,cap9,by omega,by omega,?_⟩;have e:ins++List.replicate (al+1) (2)=xs++[2]:=by rw[bu.o,List.append_assoc,List.replicate_succ']
   have ab:=ag.o;rw[bO.o]at ab⊢;rw[e];exact ab
 have aL:V _:=HD.o.finS rfl HSV.o;have aO:al=y-ins.length:=xaa;have aI:V (xs=ins++List.replicate (y-ins.length) (2)):=hS aO bu.o
 obtain⟨_,bo,az,aZ,bl,bG,bP⟩:=HD.o.rs;clear aO cI;go_wp2_with fail;obtain⟨bi,a5,p2⟩:=fg _ _ _ _ _ bo az aZ (.slice aT l bT) (hE g vs.length c2) (.slice a3 outs.length c3);exact yay (v:=eX aT l bT (some ⟨g,0,none⟩) vs.length c2 a3 outs.length c3) (by simp[results,results58,go_sem,bi,a5,p2]) rfl (aH.o y _ _ aD.o (hS aI.o aL.o))):Zp:=h
open i in
theorem KF(f:DG w aC.heap.size (.slice a1 ins.length c1) (.slice Z vs.length c2) (.slice a3 outs.length c3) ins vs outs)(C:RdF w P a n cap i bs)(hP:P<aC.heap.size)(H:Kept P (P+1) aC w)(ae:vs.map sv=S)(hn:vs.length<=100000)(B:0<S.length)(ct:ins.length<=1000)(O:nv bs i%12=11):
  Calls prog 58 #[eX a1 ins.length c1 Z vs.length c2 a3 outs.length c3,hD P] w (DgF aC P a n cap bs (ins++List.replicate (20+nv bs (ni bs i)%2-ins.length) (2)) S outs (ni bs (ni bs i))):=by
 exact qaa
