import Derived.Test.YtamokkcfibdghaaGreatP40
namespace Go.Proofs.Z
variable {Zp:Prop}
open Tryz
set_option maxRecDepth 1000000
set_option maxHeartbeats 0
open Go.RowKit Flt
attribute [local go_sem] eG eE eD
variable {w0 w W' W2:World}{bA:Array Oper}{I P n cap i j aa Q k c1 m q g c2 Y c c3 Z:Nat}{a a1 a2 a3:Option Addr}{bs ins outs:List Int}{am al ar x:Value}{vs S bu:List Vl}
def iZ (bs:List Int)(p:Nat):Nat->List Int×List Vl×Nat
 |0=>([],[],p)
 |k+1=>((iZ bs p k).1++[((1+nv bs (iZ bs p k).2.2%4:Nat):Int)],(iZ bs p k).2.1++[⟨0,((1+nv bs (iZ bs p k).2.2%4:Nat):Int),(k:Int),0,0,0⟩],ni bs (iZ bs p k).2.2)
def gwL (bs:List Int)(ins:List Int)(m:Nat):Nat->Nat->List Vl->Nat->List Vl×Nat
 |0,_,S,p=>(S,p)
 |f+1,k,S,p=>if k<m/\(k<3\/p<bs.length)then gwL bs ins m f (k+1) (S++[(gwM ins S bs p).1]) (gwM ins S bs p).2 else (S,p)
def An (len v:Nat):Int:=if 0<v%3 then (if (len:Int)-1-((v/3%3:Nat):Int)<0 then 0 else (len:Int)-1-((v/3%3:Nat):Int))else ((v%len:Nat):Int)
def pu (bs:List Int)(len p:Nat):Nat->List Int×Nat
 |0=>([],p)
 |k+1=>((pu bs len p k).1++[An len (nv bs (pu bs len p k).2)],ni bs (pu bs len p k).2)
def Dd (w W:World)(P:Nat)(a:Option Addr)(n cap:Nat)(bs:List Int)(ins:List Int)(S:List Vl)(outs:List Int)(i:Nat):Prop:=
 ∃a1 c1 a2 c2 a3 c3 vs,vs.map sv=S/\Dx w W P a n cap i bs (.slice a1 ins.length c1) (.slice a2 vs.length c2) (.slice a3 outs.length c3) ins vs outs
def dgI (bs:List Int)(i:Nat):List Int×List Vl×Nat:=iZ bs (ni bs i) (nv bs i%4)
def dgG (bs:List Int)(i:Nat):List Vl×Nat:=gwL bs (dgI bs i).1 (2+nv bs (dgI bs i).2.2%24) (2+nv bs (dgI bs i).2.2%24) 0 (dgI bs i).2.1 (ni bs (dgI bs i).2.2)
def dgO (bs:List Int)(i:Nat):List Int×Nat:=pu bs (dgG bs i).1.length (ni bs (dgG bs i).2) (nv bs (dgG bs i).2%5)
def DgF (w:World)(P:Nat)(a:Option Addr)(n cap:Nat)(bs:List Int)(ins:List Int)(S:List Vl)(outs:List Int)(i:Nat)(e:Ending)(w':World):Prop:=
 ∃a1 c1 a2 c2 a3 c3 vs,e=.returned (eZ a1 ins.length c1 a2 vs.length c2 a3 outs.length c3)/\vs.map sv=S/\DG w' w.heap.size (.slice a1 ins.length c1) (.slice a2 vs.length c2) (.slice a3 outs.length c3) ins vs outs/\RdF w' P a n cap i bs/\Kept P (P+1) w w'
def LenS (S:List Vl):Prop:=∀k,k<S.length->1<=(vd S k).len/\(vd S k).len<=1000
theorem LenS.snoc{v}(h:LenS S)(aL:1<=v.len/\v.len<=1000):LenS (S++[v]):=λk O=>by
 rw[yak]at O
 by_cases c:k<S.length
 ·rw[N0 c];exact h k c
 ·have:k=S.length+0:=by simp at O;omega
  rw[this,N1];exact aL
theorem LenS.of(h:LenS S)(e:vs.map sv=S):∀k,k<vs.length->1<=(vd vs k).len/\(vd vs k).len<=1000:=λk O=>by
 rw[<-Cr,e]
 exact h k (by rw[<-e,List.length_map];exact O)
theorem qR(bs p):∀k,(iZ bs p k).1.length=k/\(iZ bs p k).2.1.length=k
 |0=>⟨rfl,rfl⟩
 |k+1=>by
  obtain⟨B,R⟩:=qR bs p k
  exact⟨by rw[iZ,yak,B];rfl,by rw[iZ,yak,R];rfl⟩
theorem rQ(bs p):∀k,LenS (iZ bs p k).2.1/\∀j,j<(iZ bs p k).1.length->1<=(iZ bs p k).1.getD j 0/\(iZ bs p k).1.getD j 0<=1000
 |0=>⟨λk O=>(by cases O),λk O=>(by cases O)⟩
 |k+1=>by
  obtain⟨B,R⟩:=rQ bs p k
  rw[iZ]
  refine⟨B.snoc (by simp only;omega),λj hj=>?_⟩
  simp only at hj⊢
  rw[yak]at hj
  by_cases c:j<(iZ bs p k).1.length
  ·rw[yah,yas c,<-yah]
   exact R j c
  ·have e:j=(iZ bs p k).1.length:=by simp at hj;omega
   rw[yah,yar xaa,e,Nat.sub_self]
   show 1<=((1+nv bs (iZ bs p k).2.2%4:Nat):Int)/\((1+nv bs (iZ bs p k).2.2%4:Nat):Int)<=1000
   omega
theorem Dd.of{W v s}(h:Dx w W P a n cap i bs (.slice a1 m c1) (.slice a2 (vs.length+1) c2) (.slice a3 Z c3) ins (vs++[v]) outs)(ad:vs.map sv=S)(aL:sv v=s):Dd w W P a n cap bs ins (S++[s]) outs i:=by
 have ae:m=ins.length:=jU h.dg.r1;have ak:Z=outs.length:=jU h.dg.r3;subst ae ak;refine⟨a1,c1,a2,c2,a3,c3,vs++[v],by rw[List.map_append,ad,List.map_cons,List.map_nil,aL],?_⟩;rw[yak];exact h
theorem yn(w){o a K Q E}(H:o.guard=none)(s x)
  (av:o.op=.call {callee:=.builtin .append,args:=#[s,x],argTypes:=#[23,23]})
  (I) (v) (ba) (ad:a.eval s=v) (aT:w.ownsRow I 3 1 v ba.length (ba.map (Value.int .i64)))
  (aw) (y) (au:a.eval x=.slice (some aw) 1 1) (f:w.cell? aw=some (hI y))
  (l:ba.length+1<=1000000) (ae:I<=w.heap.size)
  (h:∀g cap n J,n=(ba++[y]).length->J.ownsRow I 3 1 (hH g n cap) n ((ba++[y]).map (Value.int .i64))->Chg (λb=>v.ownBlock=some b) w J->(v.ownBlock=some g\/g=w.heap.size)->K (a.put o.dst (hH g n cap)) J):if Region.wanted o (yielded bA a.tmps)=true then Oper.wp prog o a w K Q else E:=by
 obtain⟨bK,hi,bU,bO,bR⟩:=info_parts sW;refine step_append_lies w H s x 23 av I 3 bK (hI 0) 1 8 underlying23 hi bU bO bR rfl xab v ba.length _ ad aT aw 1 1 [hI y] au rfl ?_ ?_ xab (by unfold maxLen;omega) xaa ae _ rfl ?_
 ·exact xir
 ·intro u aJ;simp at aJ;subst aJ;rfl
 exact xgr
theorem DG.setO(f:DG w I am al (hH g m c) ins vs outs)(x):DG (w.setCell ⟨g,k,none⟩ (hI x)) I am al (hH g m c) ins vs (outs.set k x):=by
 have e:m=outs.length:=jU f.r3;subst e;have h3:=f.r3.stored k (hI x);refine⟨eJ f.r1 λh=>f.a13 _ h rfl,eJ f.r2 λh=>f.a23 _ h rfl,?_,f.a12,f.a13,f.a23,f.k,by simpa using f.sz⟩;rw[List.length_set,List.map_set];exact h3.1
theorem Dx.setO{W}(f:Dx w0 W P a n cap i bs am al (hH g m c) ins vs outs)(x):Dx w0 (W.setCell ⟨g,k,none⟩ (hI x)) P a n cap i bs am al (hH g m c) ins vs (outs.set k x):=by
 have aW:w0.heap.size+2<=g:=(eI f.dg.r3 rfl).1;have aK:=f.p0;have ap:Kept g (g+1) W (W.setCell ⟨g,k,none⟩ (hI x)):=eX W ⟨g,k,none⟩ _ yac;have B:=f.k0.size;refine⟨f.rd.keep ap (.inl xaa),f.dg.setO x,f.bx.kept ap xaa,f.rs.kept ap xaa,aK,⟨ap.os.trans f.k0.os,ap.tape.trans f.k0.tape,ap.output.trans f.k0.output,yan B ap.size,λb hb hn=>?_⟩⟩;rw[ap.block b xaa xaa];exact f.k0.block b hb hn
theorem IC{xs}{y z:Int}:(xs++[y]).set xs.length z=xs++[z]:=by
 rw[List.set_append,hJ (Nat.lt_irrefl _),Nat.sub_self];rfl
theorem Dd.ofO{W}(h:Dx w W P a n cap i bs (.slice a1 m c1) (.slice a2 vs.length c2) (.slice a3 Z c3) ins vs outs)(ad:vs.map sv=S):Dd w W P a n cap bs ins S outs i:=by
 have ae:m=ins.length:=jU h.dg.r1;have ak:Z=outs.length:=jU h.dg.r3;subst ae ak;exact⟨a1,c1,a2,c2,a3,c3,vs,ad,h⟩
theorem uw(bs l p):∀k,(pu bs l p k).1.length=k
 |0=>rfl
 |k+1=>by rw[pu,yak,uw bs l p k];rfl
theorem DG.mono{e}(f:DG w I am al ar ins vs outs)(h:e<=I):DG w e am al ar ins vs outs:=
 ⟨jd f.r1 h,jd f.r2 h,jd f.r3 h,f.a12,f.a13,f.a23,f.k,yan h f.sz⟩
theorem Dx.fin{W}(f:Dx w0 W P a n cap i bs (.slice a1 ins.length c1) (.slice a2 vs.length c2) (.slice a3 outs.length c3) ins vs outs)(ad:vs.map sv=S):
  DgF w0 P a n cap bs ins S outs i (.returned (eZ a1 ins.length c1 a2 vs.length c2 a3 outs.length c3)) (fB W w0.heap.size (.slice a1 ins.length c1) (.slice a2 vs.length c2) (.slice a3 outs.length c3)):=by
 have ap:=ft W w0.heap.size (.slice a1 ins.length c1) (.slice a2 vs.length c2) (.slice a3 outs.length c3);have aK:=f.p0;have B:=f.k0.size;refine⟨a1,c1,a2,c2,a3,c3,vs,rfl,ad,(f.dg.kept ap xaa).mono xaa,f.rd.keep ap (.inl xaa),⟨ap.os.trans f.k0.os,ap.tape.trans f.k0.tape,ap.output.trans f.k0.output,yan B ap.size,λb hb hn=>?_⟩⟩;exact xki
theorem ID(C:RdF w P a n cap i bs):
  Calls prog 31 #[hG P] w (DgF w P a n cap bs (dgI bs i).1 (dgG bs i).1 (dgO bs i).1 (dgO bs i).2):=by
 have aq:V _:=Dx.start C;have bb:=fK C.ys i;have bQ:V (∀j,nv bs j<256):=λj=>fK C.ys j;clear C;go_enter func31,ntmps31;go_wp2_with fail;generalize (w.alloc fp).alloc fp=W0 at aq⊢;refine yai aq.o.next ?_;rintro e aD ⟨rfl,F⟩;have HD:V (Dd w aD P a n cap bs (iZ bs (ni bs i) 0).1 (iZ bs (ni bs i) 0).2.1 [] (iZ bs (ni bs i) 0).2.2):=⟨none,0,none,0,none,0,[],rfl,F⟩
 have bF:(nv bs i:Int)%4=((nv bs i%4:Nat):Int):=xaa;have cq:nv bs i%4<4:=Nat.mod_lt _ xaa;generalize c9:nv bs i%4=nn at bF cq;have bz:V (nn=nv bs i%4):=c9.symm;clear c9;clear F aq;go_wp2_with fail;rw[bF];clear bF bb;go_loopw [5] (λt W=>∃k:Nat,k<=nn/\t=hI k/\V (Dd w W P a n cap bs (iZ bs (ni bs i) k).1 (iZ bs (ni bs i) k).2.1 [] (iZ bs (ni bs i) k).2.2)) (λt _=>nn-(intOf t).toNat)
 case atStart=>exact⟨0,Nat.zero_le _,rfl,HD.o⟩
 case round=>
  obtain⟨k,O,rfl,bf⟩:=hrel;obtain⟨a1,c1,a2,c2,a3,c3,vs,aj,D⟩:=bf.o;rw[List.length_nil]at D;clear HD;by_cases aF:k<nn
  ·have HD:V _:=D;go_wp2_with fail;refine yai HD.o.next ?_;rintro e W2 ⟨rfl,u⟩;have bO:=bQ.o (iZ bs (ni bs i) k).2.2;have ch:(1:Int)+(nv bs (iZ bs (ni bs i) k).2.2:Int)%4=((1+nv bs (iZ bs (ni bs i) k).2.2%4:Nat):Int):=xaa;have HSV:V _:=aj;have bX:V _:=qR bs (ni bs i) k;have bD:V (iZ bs (ni bs i) (k+1)=((iZ bs (ni bs i) k).1++[((1+nv bs (iZ bs (ni bs i) k).2.2%4:Nat):Int)],(iZ bs (ni bs i) k).2.1++[⟨0,((1+nv bs (iZ bs (ni bs i) k).2.2%4:Nat):Int),(k:Int),0,0,0⟩],ni bs (iZ bs (ni bs i) k).2.2)):=rfl;replace HD:V _:=u;clear D u aj bf;generalize iZ bs (ni bs i) k=aL at HD bD bX HSV ch bO⊢;generalize 1+nv bs aL.2.2%4=d at ch bD;generalize J:aL.1.length=bP at HD;have cf:bP=k:=by rw[<-J];exact bX.o.1
   have bi:V _:=J;clear J;subst cf;have X:=HD.o.keep (ez 0 0 W2 (.cells #[hI d] 3));have aA:=X.dg.r1;have z:V _:=X;have ba:=HD.o.bx.q0;clear X;go_wp2_with (first|(at_builtin;refine gn _ rfl _ _ rfl (w.heap.size+2) _ aL.1 rfl aA ⟨W2.heap.size,0,none⟩ (d:Int) rfl xac (hR bX.o.1) z.o.dg.sz ?_;intro g9 cap9 n9 bo bS bB aK b7;have aT:=jO z.o.bx aK (λc=>hR ((eI z.o.dg.r1 c).1));have U:V _:=z.o.ins_ aK bB bS b7;replace bS:V _:=bS;obtain⟨_,bM,aZ,be,bG,f1,f2⟩:=aT));generalize bo.setCell ⟨w.heap.size+1,0,none⟩ (hH g9 n9 cap9)=b4 at U⊢;clear bB aK b7 bM aZ be bG f1 f2 ba aA z HD;have aP:V (∀b1,Kept 0 0 b4 b1->_):=λb1 bc=>U.o.put bc (eL 0 (d:Int) (bP:Int) 0 0) (Nat.zero_lt_succ _) (by have:=bX.o.2;have bm:=congrArg List.length HSV.o;rw[List.length_map]at bm;omega);obtain⟨_,bM,aZ,be,bG,f1,f2⟩:=U.o.bx
   go_region_with (first
    |(go_at_call 32;refine yai (aP.o _ ((eF _).trans bc)) ?_;rintro e af ⟨aG,cap',rfl,aB,aX⟩;obtain⟨_,bn,aC,a0,bq,br,bC⟩:=aB)
    |(go_at_call 34;refine yai (gQ _ _ _ _ _ _) ?_;rintro e b1 ⟨rfl,bc⟩;obtain⟨_,s0,ax,aN,_,_,_⟩:=(U.o.keep ((eF _).trans bc)).bx))
   all_goals
    go_wp2_with fail
    go_roundw
    case rel=>
     exact⟨bP+1,by omega,by go_num,by rw[bD.o];exact Dd.of aX HSV.o rfl⟩
    case measure=>simp[intOf];omega
  have HE:V (Dd w wr P a n cap bs (iZ bs (ni bs i) nn).1 (iZ bs (ni bs i) nn).2.1 [] (iZ bs (ni bs i) nn).2.2):=by
   have e:k=nn:=xaa;rw[<-e];exact bf.o
  have bk:V _:=qR bs (ni bs i) nn;clear D aj bf;have a5:V (gwL bs (iZ bs (ni bs i) nn).1 (2+nv bs (iZ bs (ni bs i) nn).2.2%24) (2+nv bs (iZ bs (ni bs i) nn).2.2%24-0) 0 (iZ bs (ni bs i) nn).2.1 (ni bs (iZ bs (ni bs i) nn).2.2)=dgG bs i):=hX bz.o
  have co:V _:=rQ bs (ni bs i) nn;have bZ:V _:=(rfl:dgG bs i=dgG bs i)
  generalize cu:dgG bs i=G at a5⊢;replace bZ:V (dgG bs i=G):=cu;clear cu;have cQ:V (dgI bs i=iZ bs (ni bs i) nn):=by show dgI bs i=_;rw[bz.o];rfl
  generalize iZ bs (ni bs i) nn=aL at HE bk a5 co cQ⊢;obtain⟨a1,c1,a2,c2,a3,c3,vs,(HSV:V _),(HD:V _)⟩:=HE.o;clear HE;go_wp2_with fail;refine yai HD.o.next ?_;rintro e W2 ⟨rfl,u⟩;have au:=bQ.o aL.2.2;have cc:(2:Int)+(nv bs aL.2.2:Int)%24=((2+nv bs aL.2.2%24:Nat):Int):=xaa;have cF:2+nv bs aL.2.2%24<=25:=xaa;have bW:2<=2+nv bs aL.2.2%24:=xaa;generalize 2+nv bs aL.2.2%24=m at cc cF bW a5;have o:V (Dd w W2 P a n cap bs aL.1 aL.2.1 [] (ni bs aL.2.2)):=⟨a1,c1,a2,c2,a3,c3,vs,HSV.o,u⟩
  clear u HD HSV;go_wp2_with fail;try rw[cc]
  clear cc;go_loopw [8] (λt W=>∃(k:Nat) (S:List Vl) (p:Nat),k<=m/\t=hI k/\V (Dd w W P a n cap bs aL.1 S [] p)/\V (LenS S)/\V (S.length=nn+k)/\V (gwL bs aL.1 m (m-k) k S p=G)) (λt _=>m-(intOf t).toNat)
  case atStart=>exact⟨0,aL.2.1,_,Nat.zero_le _,rfl,o.o,co.o.1,hX bk.o.2,a5.o⟩
  case round=>
   obtain⟨ao,S,p,bY,rfl,aW,bK,bN,an⟩:=hrel;obtain⟨a1,c1,a2,c2,a3,c3,vs,aj,D⟩:=aW.o;clear o a5;have bd:V _:=bK.o.of aj;have cl:vs.length=S.length:=by rw[<-aj,List.length_map]
   have cR:vs.length<=100000:=hR bN.o
   have h:V (∀v aG cap' af,sv v=(gwM aL.1 vs bs p).1->Dx w af P a n cap (gwM aL.1 vs bs p).2 bs (.slice a1 aL.1.length c1) (hH aG (vs.length+1) cap') (.slice a3 0 c3) aL.1 (vs++[v]) []->ao<m->(ao<3\/p<bs.length)->∃(S':List Vl) (f:Nat),Dd w af P a n cap bs aL.1 S' [] f/\LenS S'/\S'.length=nn+(ao+1)/\gwL bs aL.1 m (m-(ao+1)) (ao+1) S' f=G):=λv aG cap' af B R h3 a8=>by
    have bg:gwM aL.1 vs bs p=gwM aL.1 S bs p:=by rw[<-H7,aj]
    rw[bg]at B R
    refine⟨S++[(gwM aL.1 S bs p).1],(gwM aL.1 S bs p).2,Dd.of R aj B,bK.o.snoc (yg co.o.2 bK.o),by rw[yak,bN.o];rfl,?_⟩
    have:=an.o
    rw[show m-ao=(m-(ao+1))+1 by omega,gwL,hK ⟨h3,a8⟩]at this
    exact this
   have b2:V (¬(ao<m/\(ao<3\/p<bs.length))->G=(S,p)):=λc=>by
    have:=an.o
    cases az:m-ao with
    |zero=>rw[az,gwL]at this;exact this.symm
    |succ x=>rw[az,gwL,hJ c]at this;exact this.symm
   rw[List.length_nil]at D;have HD:V _:=D;have HSV:V _:=aj;have bU:V (∀W',Kept 0 0 wr W'->_):=λW' ap=>(HD.o.keep ap).grow cR bd.o;have cr:V _:=B4 D.rd;clear D aj an bK cl aW;by_cases ai:ao<m/\(ao<3\/p<bs.length)
   ·have aF:=ai.1;have bl:V _:=ai.2;clear ai b2;by_cases h3:ao<3
    ·obtain⟨_,bM,aZ,be,bG,f1,f2⟩:=HD.o.bx;go_wp2_with (first|(go_at_call 36;refine yai (bU.o _ hQ) ?_;rintro e af ⟨v,aG,cap',rfl,cd,aB,aX⟩;obtain⟨_,bn,aC,a0,bq,br,bC⟩:=aB));exact xgq
    have cI:(p:Int)<bs.length:=hR bl.o
    have eC:=HD.o.rd.small;have aV:(bs.length:Int)<=500:=hR HD.o.rd.ys.len
    clear eC
    go_wp2_with (first
     |(go_at_call 33;refine yai cr.o ?_;rintro e H ⟨rfl,b0⟩;obtain⟨_,bM,aZ,be,bG,f1,f2⟩:=(HD.o.keep b0).bx)
     |(go_at_call 36;refine yai (bU.o _ b0) ?_;rintro e af ⟨v,aG,cap',rfl,cd,aB,aX⟩;obtain⟨_,bn,aC,a0,bq,br,bC⟩:=aB))
    exact xgq
   have cw:=b2.o ai;clear h b2 bU;have cz:V (2<=S.length):=by have:=bN.o;show 2<=_;omega
   have s:V _:=cw;have bx:V (vs.length=S.length):=by show vs.length=_;rw[<-HSV.o,List.length_map]
   clear cw;rcases (by omega:¬ao<m\/(ao<m/\¬ao<3/\¬p<bs.length)) with a7|aS
   case' inl=>
    clear ai;have bT:V _:=HD.o;go_wp2_with fail
   case' inr=>
    obtain⟨ce,b5,aJ⟩:=aS;have cI:(bs.length:Int)<=p:=xaa;have aV:(bs.length:Int)<=500/\(p:Int)<=500:=by have:=HD.o.rd.ys.len;have:=HD.o.rd.small;have:=HD.o.rd.hi;omega
    obtain⟨cH,cJ⟩:=aV;clear ai aJ;go_wp2_with (first|(go_at_call 33;refine yai cr.o ?_;rintro e H ⟨rfl,b0⟩;have bT:V _:=HD.o.keep b0;clear b0))
   all_goals
    refine yai bT.o.next ?_
    rintro e aH ⟨rfl,ck⟩
    have cg:(nv bs p:Int)%5=((nv bs p%5:Nat):Int):=xaa
    have cC:nv bs p%5<5:=Nat.mod_lt _ xaa
    have ct:V (dgO bs i=pu bs S.length (ni bs p) (nv bs p%5)):=by show dgO bs i=_;unfold dgO;rw[bZ.o,s.o]
    generalize nv bs p%5=bR at cg cC ct
    have cp:V (Dd w aH P a n cap bs aL.1 S (pu bs S.length (ni bs p) 0).1 (pu bs S.length (ni bs p) 0).2):=⟨a1,c1,a2,c2,a3,c3,vs,HSV.o,ck⟩
    clear ck bT HD
    go_wp2_with fail
    try rw[cg]
    clear cg
    go_loopw [9] (λt W=>∃k:Nat,k<=bR/\t=hI k/\V (Dd w W P a n cap bs aL.1 S (pu bs S.length (ni bs p) k).1 (pu bs S.length (ni bs p) k).2)) (λt _=>bR-(intOf t).toNat)
    case atStart=>exact⟨0,Nat.zero_le _,rfl,cp.o⟩
    case round=>
     obtain⟨aM,aU,rfl,bE⟩:=hrel
     clear cp
     by_cases b6:aM<bR
     ·obtain⟨a1,c1,a2,c2,a3,c3,vs,aj,D⟩:=bE.o
      have aw:V _:=uw bs S.length (ni bs p) aM
      have bD:V (pu bs S.length (ni bs p) (aM+1)=((pu bs S.length (ni bs p) aM).1++[An S.length (nv bs (pu bs S.length (ni bs p) aM).2)],ni bs (pu bs S.length (ni bs p) aM).2)):=rfl
      have b3:V _:=aj
      have bw:V (vs.length=S.length):=by show vs.length=_;rw[<-aj,List.length_map]
      have HD:V _:=D
      clear D aj bE
      generalize pu bs S.length (ni bs p) aM=aY at HD bD aw⊢
      rw[aw.o]at HD
      go_wp2_with fail
      refine yai HD.o.next ?_
      rintro e af ⟨rfl,cn⟩
      have au:=bQ.o aY.2
      generalize nv bs aY.2=x at au bD⊢
      replace HD:V _:=cn
      clear cn
      have aI:vs.length<=100:=hS bw.o bN.o
      have cD:2<=vs.length:=hS bw.o cz.o
      generalize cl:vs.length=l at HD aI cD
      have cj:V _:=cl
      clear cl
      by_cases h3:0<x%3
      ·have b9:0<(x:Int)%3:=xaa
       have bV:(l:Int)-1-(x:Int)/3%3=(l:Int)-1-((x/3%3:Nat):Int):=xaa
       have bv:V (An S.length x=if (l:Int)-1-((x/3%3:Nat):Int)<0 then 0 else (l:Int)-1-((x/3%3:Nat):Int)):=by show An _ _=_;unfold An;rw[hK h3,<-bw.o,cj.o]
       have cx:-3<=(l:Int)-1-((x/3%3:Nat):Int)/\(l:Int)-1-((x/3%3:Nat):Int)<=100:=xaa
       generalize (l:Int)-1-((x/3%3:Nat):Int)=y at bV bv cx
       have X:=HD.o.keep (ez 0 0 af (.cells #[hI y] 3))
       have aA:=X.dg.r3
       have z:V _:=X
       obtain⟨_,ba,aO,aR,_,_,_⟩:=HD.o.bx
       clear X
       go_upto_region 22 with (first|(at_builtin;refine gn _ rfl _ _ rfl (w.heap.size+2) _ aY.1 rfl aA ⟨af.heap.size,0,none⟩ y rfl xac (hR aw.o) z.o.dg.sz ?_;intro g9 cap9 n9 bo bS bB aK b7;have aT:=jO z.o.bx aK (λc=>hR ((eI z.o.dg.r3 c).1));have U:V _:=z.o.outs_ aK bB bS b7;replace bS:V _:=bS;obtain⟨_,bM,aZ,be,bG,f1,f2⟩:=aT))
       generalize bo.setCell ⟨w.heap.size+1,2,none⟩ (hH g9 n9 cap9)=b4 at U⊢
       have ab:aM<n9:=by have:=bS.o;rw[yak,aw.o]at this;simp at this;omega
       have ad:=U.o.dg.r3
       obtain⟨bH,cA,ag,_,b8,ah⟩:=Hy ad rfl (k:=aM) (by rw[yak,aw.o];simp)
       have bp:(aY.1++[y]).getD aM 0=y:=by rw[yah,yar (by rw[aw.o];exact yad),aw.o,Nat.sub_self];rfl
       rw[bp]at ah
       injection ag with ae a9 ak
       injection ae with ae
       injection ae with ae
       subst ae
       obtain⟨_,bj,aQ,a6,_,_,_⟩:=U.o.bx
       have r:b4.frozen? ⟨g9,aM,none⟩=false:=by
        have ay:=U.o.dg.r3
        have K:n9=(aY.1++[y]).length:=jU ay
        rw[K]at ay
        exact ay.frozenAt aM
       clear ad bp a9 ak bB aK b7 bM aZ be bG f1 f2 aA z ba aO aR b8
       by_cases cV:y<0
       ·have HO:V _:=U.o.setO (k:=aM) 0
        go_wp2_with fail
        go_roundw
        case rel=>
         refine⟨aM+1,by omega,by go_num,?_⟩
         have cG:=HO.o
         rw[show aM=aY.1.length from aw.o.symm,IC,aw.o,<-cj.o]at cG
         rw[bD.o,bv.o,hK cV]
         exact Dd.ofO cG b3.o
        case measure=>simp[intOf];omega
       ·go_wp2_with fail
        go_roundw
        case rel=>
         have cG:=U.o
         rw[<-cj.o]at cG
         exact⟨aM+1,by omega,by go_num,by rw[bD.o,bv.o,hJ cV];exact Dd.ofO cG b3.o⟩
        case measure=>simp[intOf];omega
      ·have b9:¬0<(x:Int)%3:=xaa
       have cB:(x:Int)%l=((x%l:Nat):Int):=by rw[Int.natCast_emod]
       have bv:V (An S.length x=((x%l:Nat):Int)):=by show An _ _=_;unfold An;rw[hJ h3,<-bw.o,cj.o]
       have bh:x%l<l:=Nat.mod_lt _ xaa
       generalize x%l=N at cB bv bh
       obtain⟨y,cy⟩:∃y:Int,(N:Int)=y:=⟨_,rfl⟩
       rw[cy]at cB bv
       have cV:¬y<0:=xaa
       have cM:y<=100:=xaa
       have bL:¬l=0:=xaa
       have cK:(x:Int).tmod (l:Int)=y:=(Int.tmod_eq_emod_of_nonneg xaa).trans cB
       clear cy
       have X:=HD.o.keep ((ez 0 0 af (.cells #[hI y] 3)).trans (eM 0 0 _ 1))
       have aA:=X.dg.r3
       have z:V _:=X
       obtain⟨_,ba,aO,aR,_,_,_⟩:=HD.o.bx
       clear X
       go_upto_region 21 with fail
       go_region_law ((refine yn _ rfl (.tmp 82) (.tmp 88) rfl (w.heap.size+2) _ aY.1 (by simp[Act.eval]) aA ⟨af.heap.size,0,none⟩ y (by simp[Act.eval]) xac (hR aw.o) z.o.dg.sz ?_;intro g9 cap9 n9 bo bS bB aK b7;have aT:=jO z.o.bx aK (λc=>hR ((eI z.o.dg.r3 c).1));have U:V _:=z.o.outs_ aK bB bS b7;replace bS:V _:=bS;obtain⟨_,bM,aZ,be,bG,f1,f2⟩:=aT))
       all_goals
        generalize bo.setCell ⟨w.heap.size+1,2,none⟩ (hH g9 n9 cap9)=b4 at U⊢
        have ab:aM<n9:=by have:=bS.o;rw[yak,aw.o]at this;simp at this;omega
        have ad:=U.o.dg.r3
        obtain⟨bH,cA,ag,_,b8,ah⟩:=Hy ad rfl (k:=aM) (by rw[yak,aw.o];simp)
        have bp:(aY.1++[y]).getD aM 0=y:=by rw[yah,yar (by rw[aw.o];exact yad),aw.o,Nat.sub_self];rfl
        rw[bp]at ah
        injection ag with ae a9 ak
        injection ae with ae
        injection ae with ae
        subst ae
        obtain⟨_,bj,aQ,a6,_,_,_⟩:=U.o.bx
        have r:b4.frozen? ⟨g9,aM,none⟩=false:=by
         have ay:=U.o.dg.r3
         have K:n9=(aY.1++[y]).length:=jU ay
         rw[K]at ay
         exact ay.frozenAt aM
        clear ad bp a9 ak bB aK b7 bM aZ be bG f1 f2 aA z ba aO aR b8
        go_wp2_with fail
        go_roundw
        case rel=>
         have cG:=U.o
         rw[<-cj.o]at cG
         exact⟨aM+1,by omega,by go_num,by rw[bD.o,bv.o];exact Dd.ofO cG b3.o⟩
        case measure=>simp[intOf];omega
     ·have ak:aM=bR:=xaa
      have aP:V (Dd w wr P a n cap bs (dgI bs i).1 (dgG bs i).1 (dgO bs i).1 (dgO bs i).2):=by
       show Dd _ _ _ _ _ _ _ _ _ _ _
       rw[bZ.o,s.o,cQ.o,ct.o,<-ak]
       exact bE.o
      clear bE ak
      obtain⟨a1,c1,a2,c2,a3,c3,vs,aj,D⟩:=aP.o
      have av:V _:=D.fin aj
      obtain⟨_,ba,aO,aR,_,_,_⟩:=D.bx
      obtain⟨_,bn,aC,a0,bG,f1,f2⟩:=D.rs
      clear D aj aP
      go_wp2_with fail
      obtain⟨bj,aQ,a6⟩:=fj wr w.heap.size _ _ _ bn aC a0 (.slice a1 (dgI bs i).1.length c1) (.slice a2 vs.length c2) (.slice a3 (dgO bs i).1.length c3)
      exact yay (v:=eZ a1 (dgI bs i).1.length c1 a2 vs.length c2 a3 (dgO bs i).1.length c3) (by simp[results,results31,go_sem,bj,aQ,a6]) rfl av.o
structure Dy (w0 W:World)(P:Nat)(a:Option Addr)(n cap i:Nat)(bs:List Int)(R Q:Nat)(u1 u2 u3:Value)(ins:List Int)(vs:List Vl)(outs:List Int):Prop where
 rd:RdF W P a n cap i bs
 dg:DG W w0.heap.size u1 u2 u3 ins vs outs
 bx:RB W Q u1 u2 u3
 rs:RB W R iR iR iR
 p0:P<w0.heap.size
 rq:w0.heap.size<=R/\w0.heap.size<=Q/\R≠Q
 nr:∀b,u1.ownBlock=some b\/u2.ownBlock=some b\/u3.ownBlock=some b->b≠R/\b≠Q
 k0:Kept P (P+1) w0 W
theorem Dy.step{W G}(f:Dy w0 W P a n cap i bs aa Q am al ar ins vs outs)(C:RdF W' P a n cap G bs)(k:Kept P (P+1) W W'):Dy w0 W' P a n cap G bs aa Q am al ar ins vs outs:=
 ⟨C,f.dg.kept k (hR f.p0),f.bx.kept k (hS f.p0 f.rq),f.rs.kept k (hS f.p0 f.rq),f.p0,f.rq,f.nr,f.k0.trans k⟩
theorem Dy.keep{W}(f:Dy w0 W P a n cap i bs aa Q am al ar ins vs outs)(k:Kept 0 0 W W'):Dy w0 W' P a n cap i bs aa Q am al ar ins vs outs:=f.step (f.rd.keep0 k) (fw k)
theorem Dy.next{W}(f:Dy w0 W P a n cap i bs aa Q am al ar ins vs outs):
  Calls prog 13 #[hG P] W λe W'=>e=.returned (hI (nv bs i:Int))/\Dy w0 W' P a n cap (ni bs i) bs aa Q am al ar ins vs outs:=
 (jp W P a n cap i bs f.rd).mono λ_ _ q=>⟨q.1,f.step q.2.1 q.2.2.1⟩
theorem cK.qct(h:Zp:=by
 refine⟨l.keep ap (.inl xaa),⟨own aV.r1 λb hb=>(f.nr b (.inl hb)).2,own aV.r2 λb hb=>?_,own aV.r3 λb hb=>(f.nr b (.inr (.inr hb))).2,aV.a12,aV.a13,aV.a23,aV.k,yan aV.sz ap.size⟩,hb,ay.kept ap xaa,aK,aq,?_,⟨ap.os.trans (ah.os.trans f.k0.os),ap.tape.trans (ah.tape.trans f.k0.tape),ap.output.trans (ah.output.trans f.k0.output),yan f.k0.size (yan ah.size ap.size),λb hb hn=>?_⟩⟩
 ·have e:b=g:=by simpa[Value.ownBlock] using hb.symm
  subst e;exact y.2
 ·rintro b (h|h|h)
  ·exact f.nr b (.inl h)
  ·have e:b=g:=by simpa[Value.ownBlock] using h.symm
   subst e;exact y
  exact f.nr b (.inr (.inr h))
 have B:=f.k0.size;have R:=ah.size;rw[ap.block b xaa xaa,ah.block b xaa (λq=>hR ((aS b q).1))];exact f.k0.block b hb hn):Zp:=h
open cK in
theorem Dy.vals{W}(f:Dy w0 W P a n cap i bs aa Q am al ar ins vs outs)(ah:Chg (λb=>al.ownBlock=some b) W W')(av:W'.ownsRow w0.heap.size 53 6 (hH g m c) m (fQ bu))(az:m=bu.length)(aW:al.ownBlock=some g\/W.heap.size<=g)(O:∀v∈bu,v.k<18446744073709551616)(ap:Kept Q (Q+1) W' W2)(hb:RB W2 Q am (hH g m c) ar):Dy w0 W2 P a n cap i bs aa Q am (hH g m c) ar ins bu outs:=by
 have aK:=f.p0;have aq:=f.rq;have aS:∀b,al.ownBlock=some b->w0.heap.size<=b/\b≠aa/\b≠Q:=λb hb=>⟨(eI f.dg.r2 hb).1,f.nr b (.inr (.inl hb))⟩
 have y:g≠aa/\g≠Q:=by
  rcases aW with c|c
  ·exact(aS g c).2
  have:=f.rs.sz;have:=f.bx.sz;omega
 have ay:=jO f.rs ah (λc=>(aS _ c).2.1 rfl);have aV:=f.dg.vals ah av az aW O;have l:=rJ f.rd ah λb hb=>hR ((aS b hb).1)
 exact qcs
theorem aS.qbg(h:Zp:=by
 exact⟨aG,cap',rfl,hb,f1.vals ah aT xac aW O (ft _ _ _ _ _) (ph hb _ _ _)⟩):Zp:=h
open aS in
theorem Dy.put{w0 W P a n cap i bs aa Q a1 a2 a3 Y c1 c2 Z c3 ins vs outs aD}(f:Dy w0 W P a n cap i bs aa Q (.slice a1 Y c1) (.slice a2 vs.length c2) (.slice a3 Z c3) ins vs outs)(k:Kept 0 0 W aD)(v)(aL:v.k<18446744073709551616)(hn:vs.length<=100000):
  Calls prog 32 #[eZ a1 Y c1 a2 vs.length c2 a3 Z c3,v.agg] aD λe af=>∃aG cap',e=.returned (eZ a1 Y c1 (some ⟨aG,0,none⟩) (vs.length+1) cap' a3 Z c3)/\RB af Q (.slice a1 Y c1) (.slice a2 vs.length c2) (.slice a3 Z c3)/\Dy w0 (fB af Q (.slice a1 Y c1) (hH aG (vs.length+1) cap') (.slice a3 Z c3)) P a n cap i bs aa Q (.slice a1 Y c1) (hH aG (vs.length+1) cap') (.slice a3 Z c3) ins (vs++[v]) outs:=by
 exact qbf
theorem Dy.fin{W}(f:Dy w0 W P a n cap i bs aa Q (.slice a1 Y c1) (.slice a2 vs.length c2) (.slice a3 Z c3) ins vs outs)(ad:vs.map sv=S):
  DgF w0 P a n cap bs ins S outs i (.returned (eZ a1 Y c1 a2 vs.length c2 a3 Z c3)) (fB W aa (.slice a1 Y c1) (.slice a2 vs.length c2) (.slice a3 Z c3)):=by
 have ae:Y=ins.length:=jU f.dg.r1;have ak:Z=outs.length:=jU f.dg.r3;subst ae ak;have ap:=ft W aa (.slice a1 ins.length c1) (.slice a2 vs.length c2) (.slice a3 outs.length c3);have aK:=f.p0;have aq:=f.rq;have B:=f.k0.size;have own:∀{u:Value}{xs:List Value}{m e s:Nat},W.ownsRow w0.heap.size e s u m xs->(∀b,u.ownBlock=some b->b≠aa)->(fB W aa (.slice a1 ins.length c1) (.slice a2 vs.length c2) (.slice a3 outs.length c3)).ownsRow w0.heap.size e s u m xs:=λo h=>gM o ap λb hb=>hR (h b hb)
 refine⟨a1,c1,a2,c2,a3,c3,vs,rfl,ad,⟨own f.dg.r1 λb hb=>(f.nr b (.inl hb)).1,own f.dg.r2 λb hb=>(f.nr b (.inr (.inl hb))).1,own f.dg.r3 λb hb=>(f.nr b (.inr (.inr hb))).1,f.dg.a12,f.dg.a13,f.dg.a23,f.dg.k,yan f.dg.sz ap.size⟩,f.rd.keep ap (.inl xaa),⟨ap.os.trans f.k0.os,ap.tape.trans f.k0.tape,ap.output.trans f.k0.output,yan B ap.size,λb hb hn=>?_⟩⟩;exact xki
theorem ux(w){rest o a Q}(H:o.guard=none)(s x)
  (av:o.op=.call {callee:=.builtin .append,args:=#[s,x],argTypes:=#[24,24]})
  (I) (u) (vs) (ad:a.eval s=u) (aT:w.ownsRow I 53 6 u vs.length (fQ vs))
  (b) (v) (au:a.eval x=hH b 1 1) (f:∀j u,v.cells[j]? =some u->w.cell? ((⟨b,0,none⟩:Addr).add j)=some u)
  (l:vs.length+1<=1000000) (ae:I<=w.heap.size)
  (h:∀g cap n J,n=(vs++[v]).length->J.ownsRow I 53 6 (hH g n cap) n (fQ (vs++[v]))->Chg (λb=>u.ownBlock=some b) w J->(u.ownBlock=some g\/g=w.heap.size)->wpList prog bA Q rest (a.put o.dst (hH g n cap)) J):wpList prog bA Q (o::rest) a w:=by
 obtain⟨bK,hi,bU,bO,bR⟩:=info_parts sV;refine wpList_append_lies w H s x 24 av I 53 bK (ii 0 0 0 0 0 0) 6 48 underlying24 hi bU bO bR rfl xab u vs.length _ ad aT ⟨b,0,none⟩ 1 1 v.cells au rfl f (CS v) xab (by unfold maxLen;omega) xaa ae _ rfl ?_;intro g cap J B R h3 _;have e:vs.length+1=(vs++[v]).length:=by rw[yak];rfl
 rw[e]at B⊢;refine h g cap _ J rfl ?_ (i7 R) h3;rw[lH,nZ];exact B
def mZ (sz:Nat):Nat->List Vl
 |0=>[]
 |k+1=>mZ sz k++[⟨1,(sz:Int),0,0,0,fbz (floatOfInt .f64 ((k%3:Nat):Int))⟩]
theorem rR(R):∀k,(mZ R k).length=k
 |0=>rfl
 |k+1=>by rw[mZ,yak,rR R k];rfl
def Dw (w W:World)(P:Nat)(a:Option Addr)(n cap i:Nat)(bs:List Int)(S:List Vl):Prop:=
 ∃a2 c2 vs,vs.map sv=S/\Dy w W P a n cap i bs w.heap.size (w.heap.size+2) iR (.slice a2 vs.length c2) (.slice (some ⟨w.heap.size+1,0,none⟩) 1 1) [] vs [0]
theorem Lm{W p bb N aA}(t:RB W p bb N aA)(x):RB (W.setCell ⟨p,1,none⟩ x) p bb x aA:=
 ⟨by simpa using t.sz,by rw[eO _ _ _ _ _ _ (.inr xaa)];exact t.q0,fJ _ _ _ _ _ t.q1,by rw[eO _ _ _ _ _ _ (.inr xaa)];exact t.q2,by simp[t.f0],by simp[t.f1],by simp[t.f2]⟩
theorem BB(C:RdF w P a n cap i bs):
  Dy w (((w.alloc fp).alloc (.cells #[hI 0] 3)).alloc (.cells #[.slice none 0 0,.slice none 0 0,hH (w.heap.size+1) 1 1] 26)) P a n cap i bs w.heap.size (w.heap.size+2) iR iR (hH (w.heap.size+1) 1 1) [] [] [0]:=by
 have bH:=ez 0 0 w fp;have F:=ez 0 0 (w.alloc fp) (.cells #[hI 0] 3);have ag:=ez 0 0 ((w.alloc fp).alloc (.cells #[hI 0] 3)) (.cells #[.slice none 0 0,.slice none 0 0,hH (w.heap.size+1) 1 1] 26);have B:(w.alloc fp).heap.size=w.heap.size+1:=by simp
 have R:((w.alloc fp).alloc (.cells #[hI 0] 3)).heap.size=w.heap.size+2:=by simp
 have ak:=(bH.trans F).trans ag;have ai:=World.ownsRow_lit (base:=w.heap.size) (e:=3) (size:=1) (w.alloc fp) #[hI 0] 1 xaa (by unfold maxLen;omega) rfl;rw[B]at ai;have hb:=sH (S:=λ_=>False) ((w.alloc fp).alloc (.cells #[hI 0] 3)) _ #[.slice none 0 0,.slice none 0 0,hH (w.heap.size+1) 1 1] 26 (hQ).chg (λc=>c);rw[R]at hb;refine⟨C.keep0 ak,⟨yav _ _ _ _,yav _ _ _ _,e8 ai ag,?_,?_,?_,?_,ak.size⟩,⟨hb.2.2,hb.1 0,hb.1 1,hb.1 2,hb.2.1 0,hb.2.1 1,hb.2.1 2⟩,(fY w).keep (F.trans ag),C.lt,⟨yad,by omega,by omega⟩,?_,fw ak⟩
 ·intro b h;cases h
 ·intro b h;cases h
 ·intro b h;cases h
 ·intro v aL;cases aL
 rintro b (h|h|h)
 ·cases h
 ·cases h
 simp[Value.ownBlock]at h;omega
theorem L6(C:RdF w P a n cap i bs)(m R:Nat)(az:m<=3000):
  Calls prog 50 #[hI m,hI R] w (DgF w P a n cap bs [] (mZ R m) [0] i):=by
 have aq:V _:=BB C;clear C;go_enter func50,ntmps50;go_wp2_with fail;generalize ((w.alloc fp).alloc (.cells #[hI 0] 3)).alloc (.cells #[.slice none 0 0,.slice none 0 0,hH (w.heap.size+1) 1 1] 26)=W0 at aq⊢;go_loopw [6] (λt W=>∃k:Nat,k<=m/\t=hI k/\V (Dw w W P a n cap i bs (mZ R k))) (λt _=>m-(intOf t).toNat)
 case atStart=>exact⟨0,Nat.zero_le _,rfl,⟨none,0,[],rfl,aq.o⟩⟩
 case round=>
  obtain⟨k,O,rfl,bf⟩:=hrel;clear aq;obtain⟨a2,c2,vs,aj,D⟩:=bf.o;clear bf;by_cases aF:k<m
  ·have bx:V (vs.length=k):=by show _=_;have bm:=congrArg List.length aj;rw[List.length_map,rR]at bm;exact bm
   have aU:(k:Int)%3=((k%3:Nat):Int):=xaa;have p:k%3<3:=Nat.mod_lt _ xaa;generalize f:k%3=r at aU p;have h:V _:=f;clear f;have X:=D.keep (ez 0 0 wr (eK 1 (R:Int) 0 0 0 (floatOfInt .f64 (r:Int))));have l:=X.dg.r2;have z:V _:=X;have HSV:V _:=aj;obtain⟨_,ba,aO,aR,_,_,_⟩:=D.bx;clear D X aj;go_upto_region 4 with (first|(at_builtin;refine ux _ rfl _ _ rfl w.heap.size _ vs rfl l wr.heap.size ⟨1,(R:Int),0,0,0,floatOfInt .f64 (r:Int)⟩ rfl (by intro j u aJ;have bV:=yG wr ⟨1,(R:Int),0,0,0,floatOfInt .f64 (r:Int)⟩ 0 j u aJ;exact bV) (hR bx.o) z.o.dg.sz ?_;intro g9 cap9 n9 bo bS bB aK b7;have aT:=jO z.o.bx aK (λc=>(z.o.nr _ (.inr (.inl c))).2 rfl);have U:V _:=z.o.vals aK bB bS (b7.imp id λe=>Nat.le_of_eq e.symm) (by intro u aJ;rcases List.mem_append.1 aJ with c|c;exact z.o.dg.k u c;simp only[List.mem_singleton]at c;subst c;exact qE _) (eX bo ⟨w.heap.size+2,1,none⟩ (hH g9 n9 cap9) yac) (Lm aT _);replace bS:V _:=bS;obtain⟨_,bM,aZ,be,bG,f1,f2⟩:=aT));go_wp2_with fail;go_roundw
   case rel=>
    refine⟨k+1,by omega,by go_num,some ⟨g9,0,none⟩,cap9,vs++[⟨1,(R:Int),0,0,0,floatOfInt .f64 (r:Int)⟩],by rw[List.map_append,HSV.o,mZ,h.o];rfl,?_⟩;have bm:=U.o;rw[bS.o]at bm;rw[bS.o];exact bm
   case measure=>simp[intOf];omega
  have ak:k=m:=xaa;rw[ak]at aj;have av:V _:=D.fin aj;obtain⟨_,ba,aO,aR,_,_,_⟩:=D.bx;obtain⟨_,bn,aC,a0,bG,f1,f2⟩:=D.rs;clear D aj ak;go_wp2_with fail;obtain⟨bj,aQ,a6⟩:=fj wr w.heap.size _ _ _ bn aC a0 (.slice none 0 0) (.slice a2 vs.length c2) (hH (w.heap.size+1) 1 1);exact yay (v:=eZ none 0 0 a2 vs.length c2 (some ⟨w.heap.size+1,0,none⟩) 1 1) (by simp[results,results50,go_sem,bj,aQ,a6]) rfl av.o
theorem Ao:∀(vs:List Vl) (j q:Nat) (x:Value) (v':Vl),j<vs.length->q<6->v'.cells=(vs.getD j hM).cells.set q x->fQ (vs.set j v')=(fQ vs).set (j*6+q) x
 |u::r,0,q,x,v',_,aq,aL=>by
  have aJ:u.cells.length=6:=rfl
  rw[List.set_cons_zero,fQ,fQ,Nat.zero_mul,Nat.zero_add,List.set_append_left _ _ (hU aJ aq)]
  exact congrArg (· ++fQ r) aL
 |u::r,j+1,q,x,v',hj,aq,aL=>by
  have aJ:u.cells.length=6:=rfl
  rw[List.set_cons_succ,fQ,fQ,List.set_append_right _ _ (hW aJ),aJ,show(j+1)*6+q-6=j*6+q by omega,Ao r j q x v' (by simpa using hj) aq aL]
theorem DG.setV(f:DG w I am (hH g m c) ar ins vs outs){v'}(hj:j<vs.length)(aq:q<6)(aL:v'.cells=(vs.getD j hM).cells.set q x)(O:v'.k<18446744073709551616):DG (w.setCell ⟨g,j*6+q,none⟩ x) I am (hH g m c) ar ins (vs.set j v') outs:=by
 have e:m=vs.length:=jU f.r2;subst e;have R:=(f.r2.stored (j*6+q) x).1;refine⟨eJ f.r1 λh=>f.a12 _ h rfl,?_,eJ f.r3 λh=>f.a23 _ rfl h,f.a12,f.a13,f.a23,λu aJ=>?_,by simpa using f.sz⟩
 ·rw[List.length_set,Ao vs j q x v' hj aq aL];exact R
 rcases List.mem_or_eq_of_mem_set aJ with c|c
 ·exact f.k u c
 rw[c];exact O
theorem cL.qct(h:Zp:=by
 refine⟨l.keep ap (.inl xaa),⟨own aV.r1 λb hb=>(hn b (.inl hb)).2,own aV.r2 λb hb=>(hn b (.inr (.inl hb))).2,own aV.r3 λb hb=>(hn b (.inr (.inr hb))).2,aV.a12,aV.a13,aV.a23,aV.k,yan aV.sz ap.size⟩,hb,ay.kept ap xaa,aK,aq,hn,⟨ap.os.trans (ah.os.trans f.k0.os),ap.tape.trans (ah.tape.trans f.k0.tape),ap.output.trans (ah.output.trans f.k0.output),yan f.k0.size (yan ah.size ap.size),λb hb hn=>?_⟩⟩;have B:=f.k0.size;have R:=ah.size;rw[ap.block b xaa xaa,ah.block b xaa (λq=>hR ((aT b q).1))];exact f.k0.block b hb hn):Zp:=h
open cL in
theorem Dy.setG{W bc bd bg K U S}(f:Dy w0 W P a n cap i bs aa Q am al ar ins vs outs)(ah:Chg S W W')(aT:∀b,S b->w0.heap.size<=b/\b≠aa/\b≠Q)(aV:DG W' w0.heap.size bc bd bg K bu U)(hn:∀b,bc.ownBlock=some b\/bd.ownBlock=some b\/bg.ownBlock=some b->b≠aa/\b≠Q)(ap:Kept Q (Q+1) W' W2)(hb:RB W2 Q bc bd bg):Dy w0 W2 P a n cap i bs aa Q bc bd bg K bu U:=by
 have aK:=f.p0;have aq:=f.rq;have ay:=jO f.rs ah (λc=>(aT _ c).2.1 rfl);have l:=rJ f.rd ah λb hb=>hR ((aT b hb).1)
 exact qcs
theorem Dy.outs_{W x}(f:Dy w0 W P a n cap i bs aa Q am al ar ins vs outs)(ah:Chg (λb=>ar.ownBlock=some b) W W')(av:W'.ownsRow w0.heap.size 3 1 (hH g m c) m ((outs++[x]).map (Value.int .i64)))(az:m=(outs++[x]).length)(aW:ar.ownBlock=some g\/g=W.heap.size):RB W' Q am al ar/\Dy w0 (W'.setCell ⟨Q,2,none⟩ (hH g m c)) P a n cap i bs aa Q am al (hH g m c) ins vs (outs++[x]):=by
 have aS:∀b,ar.ownBlock=some b->w0.heap.size<=b/\b≠aa/\b≠Q:=λb hb=>⟨(eI f.dg.r3 hb).1,f.nr b (.inr (.inr hb))⟩
 have hb:=jO f.bx ah (λc=>(aS _ c).2.2 rfl);refine⟨hb,f.setG ah aS (f.dg.outs_ ah av az (aW.imp id λe=>Nat.le_of_eq e.symm)) ?_ (eX W' ⟨Q,2,none⟩ _ yac) (yh hb _).2⟩;rintro b (h|h|h)
 ·exact f.nr b (.inl h)
 ·exact f.nr b (.inr (.inl h))
 exact xht
theorem Dy.ins_{W x}(f:Dy w0 W P a n cap i bs aa Q am al ar ins vs outs)(ah:Chg (λb=>am.ownBlock=some b) W W')(av:W'.ownsRow w0.heap.size 3 1 (hH g m c) m ((ins++[x]).map (Value.int .i64)))(az:m=(ins++[x]).length)(aW:am.ownBlock=some g\/g=W.heap.size):RB W' Q am al ar/\Dy w0 (W'.setCell ⟨Q,0,none⟩ (hH g m c)) P a n cap i bs aa Q (hH g m c) al ar (ins++[x]) vs outs:=by
 have aS:∀b,am.ownBlock=some b->w0.heap.size<=b/\b≠aa/\b≠Q:=λb hb=>⟨(eI f.dg.r1 hb).1,f.nr b (.inl hb)⟩
 have hb:=jO f.bx ah (λc=>(aS _ c).2.2 rfl);refine⟨hb,f.setG ah aS (f.dg.ins_ ah av az (aW.imp id λe=>Nat.le_of_eq e.symm)) ?_ (eX W' ⟨Q,0,none⟩ _ yac) (yh hb _).1⟩;rintro b (h|h|h)
 ·exact xht
 ·exact f.nr b (.inr (.inl h))
 exact f.nr b (.inr (.inr h))
theorem Dy.setV{W}(f:Dy w0 W P a n cap i bs aa Q am (hH g m c) ar ins vs outs){v'}(hj:j<vs.length)(aq:q<6)(aL:v'.cells=(vs.getD j hM).cells.set q x)(O:v'.k<18446744073709551616):Dy w0 (W.setCell ⟨g,j*6+q,none⟩ x) P a n cap i bs aa Q am (hH g m c) ar ins (vs.set j v') outs:=by
 have ah:=od (S:=λb=>b=g) W g (j*6+q) x rfl;have aW:w0.heap.size<=g/\g≠aa/\g≠Q:=⟨(eI f.dg.r2 rfl).1,f.nr g (.inr (.inl rfl))⟩
 exact f.setG ah (λb hb=>by subst hb;exact aW) (f.dg.setV hj aq aL O) f.nr (Kept.refl _ _ _) (jO f.bx ah λc=>aW.2.2 c.symm)
theorem Dy.box(f:DG w w0.heap.size am al ar ins vs outs)(C:RdF w P a n cap i bs)(hP:P<w0.heap.size)(k:Kept P (P+1) w0 w):
  Dy w0 ((w.alloc (.cells #[am,al,ar] 26)).alloc fp) P a n cap i bs (w.heap.size+1) w.heap.size am al ar ins vs outs:=by
 obtain⟨S,an⟩:=GrS.start f C hP;refine⟨S.rd,S.dg,S.bx,S.rs,hP,⟨hR f.sz,f.sz,by omega⟩,λb hb=>?_,k.trans (fw an)⟩;have:=S.far b hb;omega
theorem i6(h:j<vs.length):vs.getD j hM∈vs:=by
 rw[yah,yal h];exact List.getElem_mem h
theorem svd(vs j):vd (vs.map sv) j=sv (vd vs j):=by
 exact xit
theorem Dy.finS{W l S'}(f:Dy w0 W P a n cap i bs aa Q (.slice a1 Y c1) (.slice a2 l c2) (.slice a3 Z c3) ins vs outs)(ah:vs.length=l)(ad:vs.map sv=S'):
  DgF w0 P a n cap bs ins S' outs i (.returned (eZ a1 Y c1 a2 l c2 a3 Z c3)) (fB W aa (.slice a1 Y c1) (.slice a2 l c2) (.slice a3 Z c3)):=by
 subst ah;exact f.fin ad
theorem a.qab(h:Zp:=by
 obtain⟨g,bR,ag,_,a5,bg⟩:=ie HD.o.dg.r2 rfl h;cases ag;exact qdh):Zp:=h
theorem a.qdi(h:Zp:=by
 have ae:(nv bs i:Int)%12=0:=hR s.o
 clear s;have U:V _:=HD.o.setV (q:=2) (x:=hI j) (v':=⟨(vd vs j).op,(vd vs j).len,(j:Int),(vd vs j).b,(vd vs j).c,(vd vs j).k⟩) h xab rfl HK.o;have av:V _:=U.o.finS (S':=S.set (nv bs (ni bs i)%S.length) ({vd S (nv bs (ni bs i)%S.length) with a:=(((nv bs (ni bs i)%S.length):Nat):Int)})) (List.length_set ..) (by rw[List.map_set,HSV.o,<-p.o];exact congrArg (S.set j) (by rw[<-HSV.o,svd];rfl));have bp:=r (j*6+2);exact xbg):Zp:=h
open a in
theorem On(f:DG w w0.heap.size (.slice a1 ins.length c1) (.slice a2 vs.length c2) (.slice a3 outs.length c3) ins vs outs)(C:RdF w P a n cap i bs)(hP:P<w0.heap.size)(H:Kept P (P+1) w0 w)(ad:vs.map sv=S)(hn:vs.length<=100000)(B:0<S.length)(O:nv bs i%12=0):
  Calls prog 52 #[eZ a1 ins.length c1 a2 vs.length c2 a3 outs.length c3,hG P] w (DgF w0 P a n cap bs ins (S.set (nv bs (ni bs i)%S.length) ({vd S (nv bs (ni bs i)%S.length) with a:=(((nv bs (ni bs i)%S.length):Nat):Int)})) outs (ni bs (ni bs i))):=by
 exact qaa
theorem b.qab(h:Zp:=by
 obtain⟨g,bR,ag,_,a5,bg⟩:=ie HD.o.dg.r2 rfl h;cases ag;exact qdh):Zp:=h
theorem b.qdi(h:Zp:=by
 have ae:(nv bs i:Int)%12=4:=hR s.o
 clear s;have U:V _:=HD.o.setV (q:=0) (x:=hI ((nv bs (ni bs i):Int)%17)) (v':=⟨(nv bs (ni bs i):Int)%17,(vd vs j).len,(vd vs j).a,(vd vs j).b,(vd vs j).c,(vd vs j).k⟩) h xab rfl HK.o;have av:V _:=U.o.finS (S':=S.set (nv bs (ni bs i)%S.length) ({vd S (nv bs (ni bs i)%S.length) with op:=(nv bs (ni bs i):Int)%17})) (List.length_set ..) (by rw[List.map_set,HSV.o,<-p.o];exact congrArg (S.set j) (by rw[<-HSV.o,svd];rfl));exact xdj):Zp:=h
open b in
theorem Oo(f:DG w w0.heap.size (.slice a1 ins.length c1) (.slice a2 vs.length c2) (.slice a3 outs.length c3) ins vs outs)(C:RdF w P a n cap i bs)(hP:P<w0.heap.size)(H:Kept P (P+1) w0 w)(ad:vs.map sv=S)(hn:vs.length<=100000)(B:0<S.length)(O:nv bs i%12=4):
  Calls prog 52 #[eZ a1 ins.length c1 a2 vs.length c2 a3 outs.length c3,hG P] w (DgF w0 P a n cap bs ins (S.set (nv bs (ni bs i)%S.length) ({vd S (nv bs (ni bs i)%S.length) with op:=(nv bs (ni bs i):Int)%17})) outs (ni bs (ni bs i))):=by
 exact qaa
theorem c.qab(h:Zp:=by
 obtain⟨g,bR,ag,_,a5,bg⟩:=ie HD.o.dg.r2 rfl h;cases ag;exact qdh):Zp:=h
theorem c.qdi(h:Zp:=by
 have ae:(nv bs i:Int)%12=8:=hR s.o
 clear s;have U:V _:=HD.o.setV (q:=5) (x:=.float .f64 4619567317775286272) (v':=⟨(vd vs j).op,(vd vs j).len,(vd vs j).a,(vd vs j).b,(vd vs j).c,4619567317775286272⟩) h xab rfl (show(4619567317775286272:Nat)<18446744073709551616 by decide);have av:V _:=U.o.finS (S':=S.set (nv bs (ni bs i)%S.length) ({vd S (nv bs (ni bs i)%S.length) with k:=fbz 4619567317775286272})) (List.length_set ..) (by rw[List.map_set,HSV.o,<-p.o];exact congrArg (S.set j) (by rw[<-HSV.o,svd];rfl));have bp:=r (j*6+5);exact xbg):Zp:=h
open c in
theorem Oq(f:DG w w0.heap.size (.slice a1 ins.length c1) (.slice a2 vs.length c2) (.slice a3 outs.length c3) ins vs outs)(C:RdF w P a n cap i bs)(hP:P<w0.heap.size)(H:Kept P (P+1) w0 w)(ad:vs.map sv=S)(hn:vs.length<=100000)(B:0<S.length)(O:nv bs i%12=8):
  Calls prog 52 #[eZ a1 ins.length c1 a2 vs.length c2 a3 outs.length c3,hG P] w (DgF w0 P a n cap bs ins (S.set (nv bs (ni bs i)%S.length) ({vd S (nv bs (ni bs i)%S.length) with k:=fbz 4619567317775286272})) outs (ni bs (ni bs i))):=by
 exact qaa
theorem d.qab(h:Zp:=by
 obtain⟨g,bR,ag,_,a5,bg⟩:=ie HD.o.dg.r2 rfl h;cases ag;exact qdh):Zp:=h
theorem d.qdi(h:Zp:=by
 have ae:(nv bs i:Int)%12=9:=hR s.o
 clear s;have U:V _:=HD.o.setV (q:=0) (x:=hI (-1)) (v':=⟨-1,(vd vs j).len,(vd vs j).a,(vd vs j).b,(vd vs j).c,(vd vs j).k⟩) h xab rfl HK.o;have av:V _:=U.o.finS (S':=S.set (nv bs (ni bs i)%S.length) ({vd S (nv bs (ni bs i)%S.length) with op:=-1})) (List.length_set ..) (by rw[List.map_set,HSV.o,<-p.o];exact congrArg (S.set j) (by rw[<-HSV.o,svd];rfl));exact xdj):Zp:=h
open d in
theorem Ot(f:DG w w0.heap.size (.slice a1 ins.length c1) (.slice a2 vs.length c2) (.slice a3 outs.length c3) ins vs outs)(C:RdF w P a n cap i bs)(hP:P<w0.heap.size)(H:Kept P (P+1) w0 w)(ad:vs.map sv=S)(hn:vs.length<=100000)(B:0<S.length)(O:nv bs i%12=9):
  Calls prog 52 #[eZ a1 ins.length c1 a2 vs.length c2 a3 outs.length c3,hG P] w (DgF w0 P a n cap bs ins (S.set (nv bs (ni bs i)%S.length) ({vd S (nv bs (ni bs i)%S.length) with op:=-1})) outs (ni bs (ni bs i))):=by
 exact qaa
theorem e.qab(h:Zp:=by
 obtain⟨g,bR,ag,_,a5,bg⟩:=ie HD.o.dg.r2 rfl h;cases ag;exact qdh):Zp:=h
theorem e.qdi(h:Zp:=by
 have ae:(nv bs i:Int)%12=5:=hR s.o
 clear s;obtain⟨y,bV⟩:∃y:Int,(vs.length:Int)-(nv bs (ni bs i):Int)%2=y:=⟨_,rfl⟩
 have bQ:V ((S.length:Int)-(nv bs (ni bs i):Int)%2=y):=by show _=_;rw[v.o];exact bV
 have cx:-10<=y/\y<=100000:=xaa;have X:=HD.o.keep (ez 0 0 W2 (.cells #[hI y] 3));have aA:=X.dg.r3;have z:V _:=X;clear X;go_upto_region 31 with (first|(at_builtin;refine gn _ rfl _ _ rfl w0.heap.size _ outs rfl aA ⟨W2.heap.size,0,none⟩ (y) rfl xac xaa z.o.dg.sz ?_;intro g9 cap9 n9 bo bS bB aK b7;obtain⟨aT,(U:V _)⟩:=z.o.outs_ aK bB bS b7;have av:V _:=U.o.finS rfl HSV.o;replace bS:V _:=bS;obtain⟨_,bM,aZ,be,bG,f1,f2⟩:=aT));exact qgp):Zp:=h
theorem e.qgq(h:Zp:=by
 exact yay (v:=eZ a1 ins.length c1 (some ⟨g,0,none⟩) vs.length c2 (some ⟨g9,0,none⟩) n9 cap9) (by simp[results,results52,go_sem,bk,a8,p2]) rfl (hU bQ.o av.o)):Zp:=h
open e in
theorem Ou(f:DG w w0.heap.size (.slice a1 ins.length c1) (.slice a2 vs.length c2) (.slice a3 outs.length c3) ins vs outs)(C:RdF w P a n cap i bs)(hP:P<w0.heap.size)(H:Kept P (P+1) w0 w)(ad:vs.map sv=S)(hn:vs.length<=100000)(B:0<S.length)(co:outs.length<=1000)(O:nv bs i%12=5):
  Calls prog 52 #[eZ a1 ins.length c1 a2 vs.length c2 a3 outs.length c3,hG P] w (DgF w0 P a n cap bs ins S (outs++[(S.length:Int)-(nv bs (ni bs i):Int)%2]) (ni bs (ni bs i))):=by
 exact qaa
theorem f.qab(h:Zp:=by
 obtain⟨g,bR,ag,_,a5,bg⟩:=ie HD.o.dg.r2 rfl h;cases ag;exact qdh):Zp:=h
theorem f.qdi(h:Zp:=by
 have ae:(nv bs i:Int)%12=7:=hR s.o
 clear s;have X:=HD.o.keep (ez 0 0 W2 (.cells #[hI (-1)] 3));have aA:=X.dg.r3;have z:V _:=X;clear X;go_upto_region 31 with (first|(at_builtin;refine gn _ rfl _ _ rfl w0.heap.size _ outs rfl aA ⟨W2.heap.size,0,none⟩ ((-1)) rfl xac xaa z.o.dg.sz ?_;intro g9 cap9 n9 bo bS bB aK b7;obtain⟨aT,(U:V _)⟩:=z.o.outs_ aK bB bS b7;have av:V _:=U.o.finS rfl HSV.o;replace bS:V _:=bS;obtain⟨_,bM,aZ,be,bG,f1,f2⟩:=aT));exact qgp):Zp:=h
theorem f.qgq(h:Zp:=by
 exact yay (v:=eZ a1 ins.length c1 (some ⟨g,0,none⟩) vs.length c2 (some ⟨g9,0,none⟩) n9 cap9) (by simp[results,results52,go_sem,bk,a8,p2]) rfl av.o):Zp:=h
open f in
theorem Ov(f:DG w w0.heap.size (.slice a1 ins.length c1) (.slice a2 vs.length c2) (.slice a3 outs.length c3) ins vs outs)(C:RdF w P a n cap i bs)(hP:P<w0.heap.size)(H:Kept P (P+1) w0 w)(ad:vs.map sv=S)(hn:vs.length<=100000)(B:0<S.length)(co:outs.length<=1000)(O:nv bs i%12=7):
  Calls prog 52 #[eZ a1 ins.length c1 a2 vs.length c2 a3 outs.length c3,hG P] w (DgF w0 P a n cap bs ins S (outs++[-1]) (ni bs (ni bs i))):=by
 exact qaa
theorem g.qab(h:Zp:=by
 obtain⟨g,bR,ag,_,a5,bg⟩:=ie HD.o.dg.r2 rfl h;cases ag;exact qdh):Zp:=h
theorem g.qdi(h:Zp:=by
 have ae:(nv bs i:Int)%12=6:=hR s.o
 clear s;obtain⟨y,bV⟩:∃y:Int,(nv bs (ni bs i):Int)%3*500=y:=⟨_,rfl⟩
 have bQ:V _:=bV;have X:=HD.o.keep (ez 0 0 W2 (.cells #[hI y] 3));have aA:=X.dg.r1;have z:V _:=X;clear X;go_upto_region 31 with (first|(at_builtin;refine gn _ rfl _ _ rfl w0.heap.size _ ins rfl aA ⟨W2.heap.size,0,none⟩ (y) rfl xac xaa z.o.dg.sz ?_;intro g9 cap9 n9 bo bS bB aK b7;obtain⟨aT,(U:V _)⟩:=z.o.ins_ aK bB bS b7;have av:V _:=U.o.finS rfl HSV.o;replace bS:V _:=bS;obtain⟨_,bM,aZ,be,bG,f1,f2⟩:=aT));obtain⟨_,bj,aQ,a6,_,_,_⟩:=U.o.bx;obtain⟨_,bn,aC,a0,bq,br,bC⟩:=U.o.rs;go_wp2_with fail;obtain⟨bk,a8,p2⟩:=fj _ (w.heap.size+1) _ _ _ bn aC a0 (hH g9 n9 cap9) (hH g vs.length c2) (.slice a3 outs.length c3);exact yay (v:=eZ (some ⟨g9,0,none⟩) n9 cap9 (some ⟨g,0,none⟩) vs.length c2 a3 outs.length c3) (by simp[results,results52,go_sem,bk,a8,p2]) rfl (hU bQ.o av.o)):Zp:=h
open g in
theorem Ow(f:DG w w0.heap.size (.slice a1 ins.length c1) (.slice a2 vs.length c2) (.slice a3 outs.length c3) ins vs outs)(C:RdF w P a n cap i bs)(hP:P<w0.heap.size)(H:Kept P (P+1) w0 w)(ad:vs.map sv=S)(hn:vs.length<=100000)(B:0<S.length)(co:ins.length<=1000)(O:nv bs i%12=6):
  Calls prog 52 #[eZ a1 ins.length c1 a2 vs.length c2 a3 outs.length c3,hG P] w (DgF w0 P a n cap bs (ins++[(nv bs (ni bs i):Int)%3*500]) S outs (ni bs (ni bs i))):=by
 exact qaa
theorem Ox(f:DG w w0.heap.size (.slice a1 ins.length c1) (.slice a2 vs.length c2) (.slice a3 outs.length c3) ins vs outs)(C:RdF w P a n cap i bs)(hP:P<w0.heap.size)(H:Kept P (P+1) w0 w)(ad:vs.map sv=S)(_hn:vs.length<=100000)(O:S.length=0):
  Calls prog 52 #[eZ a1 ins.length c1 a2 vs.length c2 a3 outs.length c3,hG P] w (DgF w0 P a n cap bs ins S outs (ni bs (ni bs i))):=by
 have N:V _:=Dy.box f C hP H;have bD:=fK C.ys i;have cg:=fK C.ys (ni bs i);have v:V (S.length=vs.length):=by show _=_;rw[<-ad,List.length_map]
 have HSV:V _:=ad;have s:V _:=O;clear f C H ad O;go_enter func52,ntmps52;go_wp2_with fail;generalize (w.alloc (.cells #[.slice a1 ins.length c1,.slice a2 vs.length c2,.slice a3 outs.length c3] 26)).alloc fp=W0 at N⊢;refine yai N.o.next ?_;rintro e aD ⟨rfl,(an:V _)⟩;clear N;go_wp2_with fail;refine yai an.o.next ?_;rintro e W2 ⟨rfl,(HD:V _)⟩;clear an;have bp:vs.length=0:=hS s.o v.o
 have av:V _:=HD.o.fin HSV.o;obtain⟨_,ba,aO,aR,_,_,_⟩:=HD.o.bx;obtain⟨_,bn,aC,a0,bq,br,bC⟩:=HD.o.rs;generalize vs.length=l at bp av ba aO aR;have X:(l:Int)<=0:=xaa;clear bp;go_wp2_with fail;obtain⟨bk,a8,p2⟩:=fj _ (w.heap.size+1) _ _ _ bn aC a0 (.slice a1 ins.length c1) (.slice a2 l c2) (.slice a3 outs.length c3);exact yay (v:=eZ a1 ins.length c1 a2 l c2 a3 outs.length c3) (by simp[results,results52,go_sem,bk,a8,p2]) rfl av.o
theorem h.qab(h:Zp:=by
 obtain⟨g,bR,ag,_,a5,bg⟩:=ie HD.o.dg.r2 rfl h;cases ag;exact qdh):Zp:=h
theorem h.qdi(h:Zp:=by
 have ae:(nv bs i:Int)%12=10:=hR s.o
 clear s;have ak:(50:Int)+(nv bs (ni bs i):Int)%2=((50+nv bs (ni bs i)%2:Nat):Int):=xaa;have aI:50+nv bs (ni bs i)%2<=60:=xaa;have aG:V (∀(ao:Nat) e J,ao=50+nv bs (ni bs i)%2->DgF w0 P a n cap bs ins S (outs++List.replicate (ao-outs.length) ((j:Int))) (ni bs (ni bs i)) e J->DgF w0 P a n cap bs ins S (outs++List.replicate (50+nv bs (ni bs i)%2-outs.length) ((((nv bs (ni bs i)%S.length:Nat)):Int))) (ni bs (ni bs i)) e J):=λao e J ab aV=>by rw[<-ab];rw[<-p.o];exact aV
 generalize av:50+nv bs (ni bs i)%2=y at ak aI;have aB:V (y=50+nv bs (ni bs i)%2):=av.symm;clear av;have ay:V _:=ak;have HE:V (Dy w0 W2 P a n cap (ni bs (ni bs i)) bs (w.heap.size+1) w.heap.size (.slice a1 ins.length c1) (hH g vs.length c2) (.slice a3 (outs++List.replicate 0 ((j:Int))).length c3) ins vs (outs++List.replicate 0 ((j:Int)))):=by rw[List.replicate_zero,List.append_nil];exact HD.o
 go_wp2_with fail;rw[show((vs.length:Int)==0)=false from yam xaa];clear ba aO aR HD bh aU aY bW b9 cj r;go_loopg [] y (λq W=>∃(ap:Nat) (aS:Option Addr) (b3:Nat),ap<=y-outs.length/\y-outs.length-ap<=q/\V (Dy w0 W P a n cap (ni bs (ni bs i)) bs (w.heap.size+1) w.heap.size (.slice a1 ins.length c1) (hH g vs.length c2) (.slice aS (outs++List.replicate ap ((j:Int))).length b3) ins vs (outs++List.replicate ap ((j:Int)))))
 case atStart=>exact⟨0,a3,c3,Nat.zero_le _,by omega,HE.o⟩
 case round=>
  obtain⟨ap,aS,b3,K,aq,bf⟩:=hrel;clear HE;have az:V ((outs++List.replicate ap ((j:Int))).length=outs.length+ap):=by show _=_;rw[yak,List.length_replicate]
  have af:=bf.o;have aw:V (∃xs,xs=outs++List.replicate ap ((j:Int))):=⟨_,rfl⟩
  exact qhg):Zp:=h
theorem h.qhh(h:Zp:=by
 have cT:l=outs.length+ap:=az.o;have aJ:l<=2000:=xaa;have cR:V _:=cT;clear ah;have ak:=ay.o;obtain⟨_,ba,aO,aR,_,_,_⟩:=HD.o.bx;by_cases aF:l<y
 ·have X:=HD.o.keep (ez 0 0 wr (.cells #[hI ((j:Int))] 3));have aA:=X.dg.r3;have z:V _:=X;clear X cT;go_upto_region 28 with fail;go_wp2_with (first|(at_builtin;refine gn _ rfl _ _ rfl w0.heap.size _ xs rfl aA ⟨wr.heap.size,0,none⟩ ((j:Int)) rfl xac (hR ax.o) z.o.dg.sz ?_;intro g9 cap9 n9 bo bS bB aK b7;obtain⟨aT,(U:V _)⟩:=z.o.outs_ aK bB bS b7;replace bS:V _:=bS;obtain⟨_,bM,aZ,be,bG,f1,f2⟩:=aT));go_roundg (gk-1)
  case measure=>have:=cR.o;omega
  case rel=>
   have:=cR.o;refine⟨ap+1,some ⟨g9,0,none⟩,cap9,by omega,by omega,?_⟩;have e:outs++List.replicate (ap+1) ((j:Int))=xs++[(j:Int)]:=by rw[bv.o,List.append_assoc,List.replicate_succ']
   have bm:=U.o;rw[bS.o]at bm⊢;rw[e];exact bm
 have aP:V _:=HD.o.finS rfl HSV.o;have ai:ap=y-outs.length:=xaa;have aH:V (xs=outs++List.replicate (y-outs.length) ((j:Int))):=hV ai bv.o
 obtain⟨_,bn,aC,a0,bq,br,bC⟩:=HD.o.rs;clear ai cT;go_wp2_with fail;obtain⟨bk,a8,p2⟩:=fj _ (w.heap.size+1) _ _ _ bn aC a0 (.slice a1 ins.length c1) (hH g vs.length c2) (.slice aS l b3);exact yay (v:=eZ a1 ins.length c1 (some ⟨g,0,none⟩) vs.length c2 aS l b3) (by simp[results,results52,go_sem,bk,a8,p2]) rfl (aG.o y _ _ aB.o (hV aH.o aP.o))):Zp:=h
open h in
theorem Lo(f:DG w w0.heap.size (.slice a1 ins.length c1) (.slice a2 vs.length c2) (.slice a3 outs.length c3) ins vs outs)(C:RdF w P a n cap i bs)(hP:P<w0.heap.size)(H:Kept P (P+1) w0 w)(ad:vs.map sv=S)(hn:vs.length<=100000)(B:0<S.length)(co:outs.length<=1000)(O:nv bs i%12=10):
  Calls prog 52 #[eZ a1 ins.length c1 a2 vs.length c2 a3 outs.length c3,hG P] w (DgF w0 P a n cap bs ins S (outs++List.replicate (50+nv bs (ni bs i)%2-outs.length) ((((nv bs (ni bs i)%S.length:Nat)):Int))) (ni bs (ni bs i))):=by
 exact qaa
theorem i.qab(h:Zp:=by
 obtain⟨g,bR,ag,_,a5,bg⟩:=ie HD.o.dg.r2 rfl h;cases ag;exact qdh):Zp:=h
theorem i.qdi(h:Zp:=by
 have ae:(nv bs i:Int)%12=11:=hR s.o
 clear s;have ak:(20:Int)+(nv bs (ni bs i):Int)%2=((20+nv bs (ni bs i)%2:Nat):Int):=xaa;have aI:20+nv bs (ni bs i)%2<=60:=xaa;have aG:V (∀(ao:Nat) e J,ao=20+nv bs (ni bs i)%2->DgF w0 P a n cap bs (ins++List.replicate (ao-ins.length) (2)) S outs (ni bs (ni bs i)) e J->DgF w0 P a n cap bs (ins++List.replicate (20+nv bs (ni bs i)%2-ins.length) (2)) S outs (ni bs (ni bs i)) e J):=λao e J ab aV=>hV ab aV
 generalize av:20+nv bs (ni bs i)%2=y at ak aI;have aB:V (y=20+nv bs (ni bs i)%2):=av.symm;clear av;have ay:V _:=ak;have HE:V (Dy w0 W2 P a n cap (ni bs (ni bs i)) bs (w.heap.size+1) w.heap.size (.slice a1 (ins++List.replicate 0 (2)).length c1) (hH g vs.length c2) (.slice a3 outs.length c3) (ins++List.replicate 0 (2)) vs outs):=by rw[List.replicate_zero,List.append_nil];exact HD.o
 go_wp2_with fail;rw[show((vs.length:Int)==0)=false from yam xaa];clear ba aO aR HD bh aU aY bW b9 cj r;go_loopg [] y (λq W=>∃(ap:Nat) (aS:Option Addr) (b3:Nat),ap<=y-ins.length/\y-ins.length-ap<=q/\V (Dy w0 W P a n cap (ni bs (ni bs i)) bs (w.heap.size+1) w.heap.size (.slice aS (ins++List.replicate ap (2)).length b3) (hH g vs.length c2) (.slice a3 outs.length c3) (ins++List.replicate ap (2)) vs outs))
 case atStart=>exact⟨0,a1,c1,Nat.zero_le _,by omega,HE.o⟩
 case round=>
  obtain⟨ap,aS,b3,K,aq,bf⟩:=hrel;clear HE;have az:V ((ins++List.replicate ap (2)).length=ins.length+ap):=by show _=_;rw[yak,List.length_replicate]
  have af:=bf.o;have aw:V (∃xs,xs=ins++List.replicate ap (2)):=⟨_,rfl⟩
  exact qhg):Zp:=h
theorem i.qhh(h:Zp:=by
 have cT:l=ins.length+ap:=az.o;have aJ:l<=2000:=xaa;have cR:V _:=cT;clear ah;have ak:=ay.o;obtain⟨_,ba,aO,aR,_,_,_⟩:=HD.o.bx;by_cases aF:l<y
 ·have X:=HD.o.keep (ez 0 0 wr (.cells #[hI (2)] 3));have aA:=X.dg.r1;have z:V _:=X;clear X cT;go_upto_region 30 with fail;go_wp2_with (first|(at_builtin;refine gn _ rfl _ _ rfl w0.heap.size _ xs rfl aA ⟨wr.heap.size,0,none⟩ (2) rfl xac (hR ax.o) z.o.dg.sz ?_;intro g9 cap9 n9 bo bS bB aK b7;obtain⟨aT,(U:V _)⟩:=z.o.ins_ aK bB bS b7;replace bS:V _:=bS;obtain⟨_,bM,aZ,be,bG,f1,f2⟩:=aT));go_roundg (gk-1)
  case measure=>have:=cR.o;omega
  case rel=>
   have:=cR.o;refine⟨ap+1,some ⟨g9,0,none⟩,cap9,by omega,by omega,?_⟩;have e:ins++List.replicate (ap+1) (2)=xs++[2]:=by rw[bv.o,List.append_assoc,List.replicate_succ']
   have bm:=U.o;rw[bS.o]at bm⊢;rw[e];exact bm
 have aP:V _:=HD.o.finS rfl HSV.o;have ai:ap=y-ins.length:=xaa;have aH:V (xs=ins++List.replicate (y-ins.length) (2)):=hV ai bv.o
 obtain⟨_,bn,aC,a0,bq,br,bC⟩:=HD.o.rs;clear ai cT;go_wp2_with fail;obtain⟨bk,a8,p2⟩:=fj _ (w.heap.size+1) _ _ _ bn aC a0 (.slice aS l b3) (hH g vs.length c2) (.slice a3 outs.length c3);exact yay (v:=eZ aS l b3 (some ⟨g,0,none⟩) vs.length c2 a3 outs.length c3) (by simp[results,results52,go_sem,bk,a8,p2]) rfl (aG.o y _ _ aB.o (hV aH.o aP.o))):Zp:=h
open i in
theorem Lp(f:DG w w0.heap.size (.slice a1 ins.length c1) (.slice a2 vs.length c2) (.slice a3 outs.length c3) ins vs outs)(C:RdF w P a n cap i bs)(hP:P<w0.heap.size)(H:Kept P (P+1) w0 w)(ad:vs.map sv=S)(hn:vs.length<=100000)(B:0<S.length)(co:ins.length<=1000)(O:nv bs i%12=11):
  Calls prog 52 #[eZ a1 ins.length c1 a2 vs.length c2 a3 outs.length c3,hG P] w (DgF w0 P a n cap bs (ins++List.replicate (20+nv bs (ni bs i)%2-ins.length) (2)) S outs (ni bs (ni bs i))):=by
 exact qaa
