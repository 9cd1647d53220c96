import Derived.Test.YtcagphgmfbjneaaGreatP36
namespace Go.Proofs.Z
variable{Zp:Prop}
open Tryz
set_option maxRecDepth 1000000
set_option maxHeartbeats 0
open Go.RowKit Flt
attribute[local go_sem] eE eD eC
variable{C w H bo:World}{bW:Array Oper}{I P n cap i j R Q k c1 m q g c2 Z c c3 ab:Nat}{a a1 J a3:Option Addr}{bs ins outs:List Int}{u1 u2 u3 x:Value}{vs S aU:List Vl}
def iD(bs:List Int)(p:Nat):Nat->List Int×List Vl×Nat
 |0=>([],[],p)
 |k+1=>((iD bs p k).1++[((1+nv bs (iD bs p k).2.2%4:Nat):Int)],(iD bs p k).2.1++[⟨0,((1+nv bs (iD bs p k).2.2%4:Nat):Int),(k:Int),0,0,0⟩],ni bs (iD bs p k).2.2)
def gwL(bs:List Int)(ins:List Int)(m:Nat):Nat->Nat->List Vl->Nat->List Vl×Nat
 |0,_,S,p=>(S,p)
 |f+1,k,S,p=>if k<m/\(k<3\/p<bs.length)then gwL bs ins m f (k+1) (S++[(gwM ins S bs p).1]) (gwM ins S bs p).2 else (S,p)
def sM(len v:Nat):Int:=if 0<v%3 then (if (len:Int)-1-((v/3%3:Nat):Int)<0 then 0 else (len:Int)-1-((v/3%3:Nat):Int))else ((v%len:Nat):Int)
def oq(bs:List Int)(len p:Nat):Nat->List Int×Nat
 |0=>([],p)
 |k+1=>((oq bs len p k).1++[sM len (nv bs (oq bs len p k).2)],ni bs (oq bs len p k).2)
def Dd(w W:World)(P:Nat)(a:Option Addr)(n cap:Nat)(bs:List Int)(ins:List Int)(S:List Vl)(outs:List Int)(i:Nat):Prop:=
 ∃a1 c1 a2 c2 a3 c3 vs,vs.map sv=S/\Dx w W P a n cap i bs (.slice a1 ins.length c1) (.slice a2 vs.length c2) (.slice a3 outs.length c3) ins vs outs
def dgI(bs:List Int)(i:Nat):List Int×List Vl×Nat:=iD bs (ni bs i) (nv bs i%4)
def dgG(bs:List Int)(i:Nat):List Vl×Nat:=gwL bs (dgI bs i).1 (2+nv bs (dgI bs i).2.2%24) (2+nv bs (dgI bs i).2.2%24) 0 (dgI bs i).2.1 (ni bs (dgI bs i).2.2)
def dgO(bs:List Int)(i:Nat):List Int×Nat:=oq bs (dgG bs i).1.length (ni bs (dgG bs i).2) (nv bs (dgG bs i).2%5)
def DgF(w:World)(P:Nat)(a:Option Addr)(n cap:Nat)(bs:List Int)(ins:List Int)(S:List Vl)(outs:List Int)(i:Nat)(e:Ending)(w':World):Prop:=
 ∃a1 c1 a2 c2 a3 c3 vs,e=.returned (eX a1 ins.length c1 a2 vs.length c2 a3 outs.length c3)/\vs.map sv=S/\DG w' w.heap.size (.slice a1 ins.length c1) (.slice a2 vs.length c2) (.slice a3 outs.length c3) ins vs outs/\RdF w' P a n cap i bs/\Kept P (P+1) w w'
def LenS(S:List Vl):Prop:=∀k,k<S.length->1<=(vd S k).len/\(vd S k).len<=1000
theorem LenS.snoc{v}(h:LenS S)(aN:1<=v.len/\v.len<=1000):LenS (S++[v]):=λk O=>by
 rw[yal]at O
 by_cases c:k<S.length
 ·rw[Oe c];exact h k c
 simp_all
theorem LenS.of(h:LenS S)(e:vs.map sv=S):∀k,k<vs.length->1<=(vd vs k).len/\(vd vs k).len<=1000:=λk O=>by
 rw[<-CV,e]
 exact h k (by grind)
theorem ms(bs p):∀k,(iD bs p k).1.length=k/\(iD bs p k).2.1.length=k
 |0=>⟨rfl,rfl⟩
 |k+1=>by
  obtain⟨F,h2⟩:=ms bs p k
  grind[iD]
theorem lW(bs p):∀k,LenS (iD bs p k).2.1/\∀j,j<(iD bs p k).1.length->1<=(iD bs p k).1.getD j 0/\(iD bs p k).1.getD j 0<=1000
 |0=>⟨λk O=>(by cases O),λk O=>(by cases O)⟩
 |k+1=>by
  obtain⟨F,h2⟩:=lW bs p k
  rw[iD]
  refine⟨F.snoc (by grind),λj hj=>?_⟩
  grind
theorem Dd.of{W v s}(h:Dx w W P a n cap i bs (.slice a1 m c1) (.slice J (vs.length+1) c2) (.slice a3 ab c3) ins (vs++[v]) outs)(aw:vs.map sv=S)(aN:sv v=s):Dd w W P a n cap bs ins (S++[s]) outs i:=by
 have af:=gZ h.dg.r1;have ah:=gZ h.dg.r3;subst af ah;refine⟨a1,c1,J,c2,a3,c3,vs++[v],by simp_all,?_⟩;grind
theorem yD(w){o a K Q E}(au:o.guard=none)(s x)
  (ho:o.op=.call {callee:=.builtin .append,args:=#[s,x],argTypes:=#[23,23]})
  (I) (v) (bw) (aw:a.eval s=v) (bq:w.ownsRow I 3 1 v bw.length (bw.map (Value.int .i64)))
  (av) (y) (ap:a.eval x=.slice (some av) 1 1) (d:w.cell? av=some (h1 y))
  (f:bw.length+1<=1000000) (ae:I<=w.heap.size)
  (h:∀g cap n B,n=(bw++[y]).length->B.ownsRow I 3 1 (h0 g n cap) n ((bw++[y]).map (Value.int .i64))->Chg (λb=>v.ownBlock=some b) w B->(v.ownBlock=some g\/g=w.heap.size)->K (a.put o.dst (h0 g n cap)) B):if Region.wanted o (yielded bW a.tmps)=true then Oper.wp prog o a w K Q else E:=by
 obtain⟨b1,hi,hz0,hz1,hz2⟩:=info_parts rZ;refine step_append_lies w au s x 23 ho I 3 b1 (h1 0) 1 8 underlying23 hi hz0 hz1 hz2 rfl xab v bw.length _ aw bq av 1 1 [h1 y] ap rfl ?_ ?_ xab (by unfold maxLen;omega) xaa ae _ rfl ?_
 ·grind[Addr.add]
 ·intro u a6;simp at a6;subst a6;rfl
 simp_all[fT]
theorem DG.setO(f:DG w I u1 u2 (h0 g m c) ins vs outs)(x):DG (w.setCell ⟨g,k,none⟩ (h1 x)) I u1 u2 (h0 g m c) ins vs (outs.set k x):=by
 have e:=gZ f.r3;subst e;have h3:=f.r3.stored k (h1 x);refine⟨eI f.r1 λh=>f.a13 _ h rfl,eI f.r2 λh=>f.a23 _ h rfl,?_,f.a12,f.a13,f.a23,f.k,by simpa using f.sz⟩;rw[List.length_set,List.map_set];exact h3.1
theorem Dx.setO{W}(f:Dx C W P a n cap i bs u1 u2 (h0 g m c) ins vs outs)(x):Dx C (W.setCell ⟨g,k,none⟩ (h1 x)) P a n cap i bs u1 u2 (h0 g m c) ins vs (outs.set k x):=by
 have aK:C.heap.size+2<=g:=(eG f.dg.r3 rfl).1;have aQ:=f.p0;have aj:Kept g (g+1) W (W.setCell ⟨g,k,none⟩ (h1 x)):=eU W ⟨g,k,none⟩ _ yac;have F:=f.k0.size;refine⟨f.rd.keep aj (.inl xaa),f.dg.setO x,f.bx.kept aj xaa,f.rs.kept aj xaa,aQ,⟨aj.os.trans f.k0.os,aj.tape.trans f.k0.tape,aj.output.trans f.k0.output,yao F aj.size,λb hb ag=>?_⟩⟩;rw[aj.block b xaa xaa];exact f.k0.block b hb ag
theorem Io{xs}{y z:Int}:(xs++[y]).set xs.length z=xs++[z]:=by
 simp_all
theorem Dd.ofO{W}(h:Dx w W P a n cap i bs (.slice a1 m c1) (.slice J vs.length c2) (.slice a3 ab c3) ins vs outs)(aw:vs.map sv=S):Dd w W P a n cap bs ins S outs i:=by
 have af:=gZ h.dg.r1;have ah:=gZ h.dg.r3;subst af ah;exact⟨a1,c1,J,c2,a3,c3,vs,aw,h⟩
theorem re(bs l p):∀k,(oq bs l p k).1.length=k
 |0=>rfl
 |k+1=>by rw[oq,yal,re bs l p k];rfl
theorem DG.mono{b}(f:DG w I u1 u2 u3 ins vs outs)(h:b<=I):DG w b u1 u2 u3 ins vs outs:=
 ⟨gy f.r1 h,gy f.r2 h,gy f.r3 h,f.a12,f.a13,f.a23,f.k,yao h f.sz⟩
theorem Dx.fin{W}(f:Dx C W P a n cap i bs (.slice a1 ins.length c1) (.slice J vs.length c2) (.slice a3 outs.length c3) ins vs outs)(aw:vs.map sv=S):
  DgF C P a n cap bs ins S outs i (.returned (eX a1 ins.length c1 J vs.length c2 a3 outs.length c3)) (fg W C.heap.size (.slice a1 ins.length c1) (.slice J vs.length c2) (.slice a3 outs.length c3)):=by
 have aj:=fk W C.heap.size (.slice a1 ins.length c1) (.slice J vs.length c2) (.slice a3 outs.length c3);have aQ:=f.p0;have F:=f.k0.size;refine⟨a1,c1,J,c2,a3,c3,vs,rfl,aw,(f.dg.kept aj xaa).mono xaa,f.rd.keep aj (.inl xaa),⟨aj.os.trans f.k0.os,aj.tape.trans f.k0.tape,aj.output.trans f.k0.output,yao F aj.size,λb hb ag=>?_⟩⟩;exact xio
theorem BN(K:RdF w P a n cap i bs):
  Calls prog 64 #[hZ P] w (DgF w P a n cap bs (dgI bs i).1 (dgG bs i).1 (dgO bs i).1 (dgO bs i).2):=by
 have aK:V _:=Dx.start K;have bz:=fp K.ys i;have aX:V _:=λj=>fp K.ys j;clear K;go_enter func64,ntmps64;go_wp2_with fail;generalize (w.alloc fH).alloc fH=W0 at aK⊢;refine yaj aK.o.next ?_;rintro e ax ⟨rfl,r⟩;have HD:V (Dd w ax P a n cap bs (iD bs (ni bs i) 0).1 (iD bs (ni bs i) 0).2.1 [] (iD bs (ni bs i) 0).2.2):=⟨none,0,none,0,none,0,[],rfl,r⟩
 have bH:(nv bs i:Int)%4=((nv bs i%4:Nat):Int):=xaa;have cp:nv bs i%4<4:=Nat.mod_lt _ xaa;generalize cT:nv bs i%4=nn at bH cp;have aN:V _:=cT.symm;clear cT;clear r aK;go_wp2_with fail;rw[bH];clear bH bz;go_loopw [5] (λt W=>∃k:Nat,k<=nn/\t=h1 k/\V (Dd w W P a n cap bs (iD bs (ni bs i) k).1 (iD bs (ni bs i) k).2.1 [] (iD bs (ni bs i) k).2.2)) (λt _=>nn-(intOf t).toNat)
 case atStart=>grind
 case round=>
  obtain⟨k,O,rfl,bx⟩:=hrel;obtain⟨a1,c1,J,c2,a3,c3,vs,aw,D⟩:=bx.o;rw[List.length_nil]at D;clear HD;by_cases hlt:k<nn
  ·have HD:V _:=D;go_wp2_with fail;refine yaj HD.o.next ?_;rintro e bo ⟨rfl,h⟩;have bV:=aX.o (iD bs (ni bs i) k).2.2;have b9:(1:Int)+(nv bs (iD bs (ni bs i) k).2.2:Int)%4=((1+nv bs (iD bs (ni bs i) k).2.2%4:Nat):Int):=xaa;have HSV:V _:=aw;have b8:V _:=ms bs (ni bs i) k;have HN:V (iD bs (ni bs i) (k+1)=((iD bs (ni bs i) k).1++[((1+nv bs (iD bs (ni bs i) k).2.2%4:Nat):Int)],(iD bs (ni bs i) k).2.1++[⟨0,((1+nv bs (iD bs (ni bs i) k).2.2%4:Nat):Int),(k:Int),0,0,0⟩],ni bs (iD bs (ni bs i) k).2.2)):=rfl;replace HD:V _:=h;clear D h aw bx;generalize iD bs (ni bs i) k=ag at HD HN b8 HSV b9 bV⊢;generalize 1+nv bs ag.2.2%4=d at b9 HN;generalize B:ag.1.length=b6 at HD;have ci:b6=k:=by rw[<-B];exact b8.o.1
   have aQ:V _:=B;clear B;subst ci;have N:=HD.o.keep (eA 0 0 bo (.cells #[h1 d] 3));have aL:=N.dg.r1;have z:V _:=N;have aP:=HD.o.bx.q0;clear N;go_wp2_with (first|(at_builtin;refine fR _ rfl _ _ rfl (w.heap.size+2) _ ag.1 rfl aL ⟨bo.heap.size,0,none⟩ (d:Int) rfl xac (ix b8.o.1) z.o.dg.sz ?_;intro g9 cap9 n9 bn an bU aG bO;have aM:=jk z.o.bx aG (λc=>ix ((eG z.o.dg.r1 c).1));have au:V _:=z.o.ins_ aG bU an bO;replace an:V _:=an;obtain⟨_,bP,aR,bd,bN,f1,f2⟩:=aM));generalize bn.setCell ⟨w.heap.size+1,0,none⟩ (h0 g9 n9 cap9)=cc at au⊢;clear bU aG bO bP aR bd bN f1 f2 aP aL z HD;have aD:V (∀ca,Kept 0 0 cc ca->_):=λca a2=>au.o.put a2 (eJ 0 (d:Int) (b6:Int) 0 0) (Nat.zero_lt_succ _) (by have:=b8.o.2;have ae:=congrArg List.length HSV.o;rw[List.length_map]at ae;omega);obtain⟨_,bP,aR,bd,bN,f1,f2⟩:=au.o.bx
   go_region_with (first
    |(go_at_call 78;refine yaj (aD.o _ ((eF _).trans a2)) ?_;rintro e am ⟨aC,cap',rfl,a0,aH⟩;obtain⟨_,bq,aq,aT,bR,bS,bT⟩:=a0)
    |(go_at_call 79;refine yaj (gG _ _ _ _ _ _) ?_;rintro e ca ⟨rfl,a2⟩;obtain⟨_,aY,ar,aW,_,_,_⟩:=(au.o.keep ((eF _).trans a2)).bx))
   all_goals
    go_wp2_with fail
    go_roundw
    case rel=>
     exact⟨b6+1,by omega,by go_num,by rw[HN.o];exact Dd.of aH HSV.o rfl⟩
    case measure=>simp[intOf];omega
  have HE:V (Dd w wr P a n cap bs (iD bs (ni bs i) nn).1 (iD bs (ni bs i) nn).2.1 [] (iD bs (ni bs i) nn).2.2):=by grind
  have u:V _:=ms bs (ni bs i) nn;clear D aw bx;have bv:V (gwL bs (iD bs (ni bs i) nn).1 (2+nv bs (iD bs (ni bs i) nn).2.2%24) (2+nv bs (iD bs (ni bs i) nn).2.2%24-0) 0 (iD bs (ni bs i) nn).2.1 (ni bs (iD bs (ni bs i) nn).2.2)=dgG bs i):=i4 aN.o
  have cx:V _:=lW bs (ni bs i) nn;have bL:V _:=(rfl:dgG bs i=dgG bs i)
  generalize cj:dgG bs i=G at bv⊢;replace bL:V _:=cj;clear cj;have cG:V (dgI bs i=iD bs (ni bs i) nn):=by show dgI bs i=_;rw[aN.o];rfl
  generalize iD bs (ni bs i) nn=ag at HE u bv cx cG⊢;obtain⟨a1,c1,J,c2,a3,c3,vs,(HSV:V _),(HD:V _)⟩:=HE.o;clear HE;go_wp2_with fail;refine yaj HD.o.next ?_;rintro e bo ⟨rfl,h⟩;have ap:=aX.o ag.2.2;have b4:(2:Int)+(nv bs ag.2.2:Int)%24=((2+nv bs ag.2.2%24:Nat):Int):=xaa;have cz:2+nv bs ag.2.2%24<=25:=xaa;have c8:2<=2+nv bs ag.2.2%24:=xaa;generalize 2+nv bs ag.2.2%24=m at b4 cz c8 bv;have a6:V (Dd w bo P a n cap bs ag.1 ag.2.1 [] (ni bs ag.2.2)):=⟨a1,c1,J,c2,a3,c3,vs,HSV.o,h⟩
  clear h HD HSV;go_wp2_with fail;try rw[b4]
  clear b4;go_loopw [8] (λt W=>∃(k:Nat) (S:List Vl) (p:Nat),k<=m/\t=h1 k/\V (Dd w W P a n cap bs ag.1 S [] p)/\V (LenS S)/\V (S.length=nn+k)/\V (gwL bs ag.1 m (m-k) k S p=G)) (λt _=>m-(intOf t).toNat)
  case atStart=>exact⟨0,ag.2.1,_,yae,rfl,a6.o,cx.o.1,i4 u.o.2,bv.o⟩
  case round=>
   obtain⟨av,S,p,bM,rfl,aV,bE,bF,bh⟩:=hrel;obtain⟨a1,c1,J,c2,a3,c3,vs,aw,D⟩:=aV.o;clear a6 bv;have bb:V _:=bE.o.of aw;have cr:vs.length=S.length:=by rw[<-aw,List.length_map]
   have cH:vs.length<=100000:=ix bF.o
   have ad:V (∀v aC cap' am,sv v=(gwM ag.1 vs bs p).1->Dx w am P a n cap (gwM ag.1 vs bs p).2 bs (.slice a1 ag.1.length c1) (h0 aC (vs.length+1) cap') (.slice a3 0 c3) ag.1 (vs++[v]) []->av<m->(av<3\/p<bs.length)->∃(S':List Vl) (f:Nat),Dd w am P a n cap bs ag.1 S' [] f/\LenS S'/\S'.length=nn+(av+1)/\gwL bs ag.1 m (m-(av+1)) (av+1) S' f=G):=λv aC cap' am F h2 h3 h4=>by
    have bA:gwM ag.1 vs bs p=gwM ag.1 S bs p:=by rw[<-In,aw]
    rw[bA]at F h2
    refine⟨S++[(gwM ag.1 S bs p).1],(gwM ag.1 S bs p).2,Dd.of h2 aw F,bE.o.snoc (qZ cx.o.2 bE.o),by rw[yal,bF.o];rfl,?_⟩
    have:=bh.o
    rw[show m-av=(m-(av+1))+1 by omega,gwL,h7 ⟨h3,h4⟩]at this
    exact this
   have bX:V _:=λc=>by
    have:=bh.o
    cases ao:m-av with
    |zero=>rw[ao,gwL]at this;exact this.symm
    |succ x=>rw[ao,gwL,h6 c]at this;exact this.symm
   rw[List.length_nil]at D;have HD:V _:=D;have HSV:V _:=aw;have aA:V (∀H,Kept 0 0 wr H->_):=λH aj=>(HD.o.keep aj).grow cH bb.o;have ch:V _:=CU D.rd;clear D aw bh bE cr aV;by_cases al:av<m/\(av<3\/p<bs.length)
   ·have hlt:=al.1;have bf:V _:=al.2;clear al bX;by_cases h3:av<3
    ·obtain⟨_,bP,aR,bd,bN,f1,f2⟩:=HD.o.bx;go_wp2_with (first|(go_at_call 81;refine yaj (aA.o _ iv) ?_;rintro e am ⟨v,aC,cap',rfl,b5,a0,aH⟩;obtain⟨_,bq,aq,aT,bR,bS,bT⟩:=a0));exact xfh
    have bQ:(p:Int)<bs.length:=ix bf.o
    have d4:=HD.o.rd.small;have bm:(bs.length:Int)<=500:=ix HD.o.rd.ys.len
    clear d4
    go_wp2_with (first
     |(go_at_call 80;refine yaj ch.o ?_;rintro e X ⟨rfl,a5⟩;obtain⟨_,bP,aR,bd,bN,f1,f2⟩:=(HD.o.keep a5).bx)
     |(go_at_call 81;refine yaj (aA.o _ a5) ?_;rintro e am ⟨v,aC,cap',rfl,b5,a0,aH⟩;obtain⟨_,bq,aq,aT,bR,bS,bT⟩:=a0))
    exact xfh
   have ck:=bX.o al;clear ad bX aA;have co:V (2<=S.length):=by have:=bF.o;show 2<=_;omega
   have aJ:V _:=ck;have bI:V (vs.length=S.length):=by show vs.length=_;rw[<-HSV.o,List.length_map]
   clear ck;rcases (by omega:¬av<m\/(av<m/\¬av<3/\¬p<bs.length)) with be|a7
   case' inl=>
    clear al;have bK:V _:=HD.o;go_wp2_with fail
   case' inr=>
    obtain⟨ak,bC,cw⟩:=a7;have bQ:(bs.length:Int)<=p:=xaa;have bm:(bs.length:Int)<=500/\(p:Int)<=500:=by have:=HD.o.rd.ys.len;have:=HD.o.rd.small;have:=HD.o.rd.hi;omega
    obtain⟨cB,cC⟩:=bm;clear al cw;go_wp2_with (first|(go_at_call 80;refine yaj ch.o ?_;rintro e X ⟨rfl,a5⟩;have bK:V _:=HD.o.keep a5;clear a5))
   all_goals
    refine yaj bK.o.next ?_
    rintro e ba ⟨rfl,cd⟩
    have b7:(nv bs p:Int)%5=((nv bs p%5:Nat):Int):=xaa
    have dd:nv bs p%5<5:=Nat.mod_lt _ xaa
    have aO:V (dgO bs i=oq bs S.length (ni bs p) (nv bs p%5)):=by show dgO bs i=_;unfold dgO;rw[bL.o,aJ.o]
    generalize nv bs p%5=bJ at b7 dd aO
    have cg:V (Dd w ba P a n cap bs ag.1 S (oq bs S.length (ni bs p) 0).1 (oq bs S.length (ni bs p) 0).2):=⟨a1,c1,J,c2,a3,c3,vs,HSV.o,cd⟩
    clear cd bK HD
    go_wp2_with fail
    try rw[b7]
    clear b7
    go_loopw [9] (λt W=>∃k:Nat,k<=bJ/\t=h1 k/\V (Dd w W P a n cap bs ag.1 S (oq bs S.length (ni bs p) k).1 (oq bs S.length (ni bs p) k).2)) (λt _=>bJ-(intOf t).toNat)
    case atStart=>exact⟨0,yae,rfl,cg.o⟩
    case round=>
     obtain⟨aZ,b2,rfl,bD⟩:=hrel
     clear cg
     by_cases cD:aZ<bJ
     ·obtain⟨a1,c1,J,c2,a3,c3,vs,aw,D⟩:=bD.o
      have aI:V _:=re bs S.length (ni bs p) aZ
      have HN:V (oq bs S.length (ni bs p) (aZ+1)=((oq bs S.length (ni bs p) aZ).1++[sM S.length (nv bs (oq bs S.length (ni bs p) aZ).2)],ni bs (oq bs S.length (ni bs p) aZ).2)):=rfl
      have bY:V _:=aw
      have bk:V (vs.length=S.length):=by show vs.length=_;rw[<-aw,List.length_map]
      have HD:V _:=D
      clear D aw bD
      generalize oq bs S.length (ni bs p) aZ=bu at HD HN aI⊢
      rw[aI.o]at HD
      go_wp2_with fail
      refine yaj HD.o.next ?_
      rintro e am ⟨rfl,cf⟩
      have ap:=aX.o bu.2
      generalize nv bs bu.2=x at ap HN⊢
      replace HD:V _:=cf
      clear cf
      have br:vs.length<=100:=i0 bk.o bF.o
      have cy:2<=vs.length:=i0 bk.o co.o
      generalize cr:vs.length=l at HD br cy
      have bj:V _:=cr
      clear cr
      by_cases h3:0<x%3
      ·have bZ:0<(x:Int)%3:=xaa
       have bp:(l:Int)-1-(x:Int)/3%3=(l:Int)-1-((x/3%3:Nat):Int):=xaa
       have HX:V (sM S.length x=if (l:Int)-1-((x/3%3:Nat):Int)<0 then 0 else (l:Int)-1-((x/3%3:Nat):Int)):=by show sM _ _=_;unfold sM;rw[h7 h3,<-bk.o,bj.o]
       have b0:-3<=(l:Int)-1-((x/3%3:Nat):Int)/\(l:Int)-1-((x/3%3:Nat):Int)<=100:=xaa
       generalize (l:Int)-1-((x/3%3:Nat):Int)=y at bp HX b0
       have N:=HD.o.keep (eA 0 0 am (.cells #[h1 y] 3))
       have aL:=N.dg.r3
       have z:V _:=N
       obtain⟨_,aP,ay,aB,_,_,_⟩:=HD.o.bx
       clear N
       go_upto_region 22 with (first|(at_builtin;refine fR _ rfl _ _ rfl (w.heap.size+2) _ bu.1 rfl aL ⟨am.heap.size,0,none⟩ y rfl xac (ix aI.o) z.o.dg.sz ?_;intro g9 cap9 n9 bn an bU aG bO;have aM:=jk z.o.bx aG (λc=>ix ((eG z.o.dg.r3 c).1));have au:V _:=z.o.outs_ aG bU an bO;replace an:V _:=an;obtain⟨_,bP,aR,bd,bN,f1,f2⟩:=aM))
       generalize bn.setCell ⟨w.heap.size+1,2,none⟩ (h0 g9 n9 cap9)=cc at au⊢
       have aa:aZ<n9:=by have:=an.o;rw[yal,aI.o]at this;simp at this;omega
       have a8:=au.o.dg.r3
       obtain⟨bw,cn,az,_,b1,bi⟩:=Ik a8 rfl (k:=aZ) (by rw[yal,aI.o];simp)
       have b:(bu.1++[y]).getD aZ 0=y:=by rw[yai,yas (by rw[aI.o];exact yad),aI.o,Nat.sub_self];rfl
       rw[b]at bi
       injection az with af bg ah
       injection af with af
       injection af with af
       subst af
       obtain⟨_,bl,aS,a9,_,_,_⟩:=au.o.bx
       have T:cc.frozen? ⟨g9,aZ,none⟩=false:=by
        have aF:=au.o.dg.r3
        have ai:=gZ aF
        rw[ai]at aF
        exact aF.frozenAt aZ
       clear a8 b bg ah bU aG bO bP aR bd bN f1 f2 aL z aP ay aB b1
       by_cases cA:y<0
       ·have HO:V _:=au.o.setO (k:=aZ) 0
        go_wp2_with fail
        go_roundw
        case rel=>
         refine⟨aZ+1,by omega,by go_num,?_⟩
         have hst:=HO.o
         rw[show aZ=bu.1.length from aI.o.symm,Io,aI.o,<-bj.o]at hst
         rw[HN.o,HX.o,h7 cA]
         exact Dd.ofO hst bY.o
        case measure=>simp[intOf];omega
       ·go_wp2_with fail
        go_roundw
        case rel=>
         have hst:=au.o
         rw[<-bj.o]at hst
         exact⟨aZ+1,by omega,by go_num,by rw[HN.o,HX.o,h6 cA];exact Dd.ofO hst bY.o⟩
        case measure=>simp[intOf];omega
      ·have bZ:¬0<(x:Int)%3:=xaa
       have ce:(x:Int)%l=((x%l:Nat):Int):=by rw[Int.natCast_emod]
       have HX:V (sM S.length x=((x%l:Nat):Int)):=by show sM _ _=_;unfold sM;rw[h6 h3,<-bk.o,bj.o]
       have bc:x%l<l:=Nat.mod_lt _ xaa
       generalize x%l=U at ce HX bc
       obtain⟨y,cl⟩:∃y:Int,(U:Int)=y:=⟨_,rfl⟩
       rw[cl]at ce HX
       have cA:¬y<0:=xaa
       have ct:y<=100:=xaa
       have cq:¬l=0:=xaa
       have cF:=(Int.tmod_eq_emod_of_nonneg xaa).trans ce
       clear cl
       have N:=HD.o.keep ((eA 0 0 am (.cells #[h1 y] 3)).trans (eH 0 0 _ 1))
       have aL:=N.dg.r3
       have z:V _:=N
       obtain⟨_,aP,ay,aB,_,_,_⟩:=HD.o.bx
       clear N
       go_upto_region 21 with fail
       go_region_law ((refine yD _ rfl (.tmp 82) (.tmp 88) rfl (w.heap.size+2) _ bu.1 (by simp[Act.eval]) aL ⟨am.heap.size,0,none⟩ y (by simp[Act.eval]) xac (ix aI.o) z.o.dg.sz ?_;intro g9 cap9 n9 bn an bU aG bO;have aM:=jk z.o.bx aG (λc=>ix ((eG z.o.dg.r3 c).1));have au:V _:=z.o.outs_ aG bU an bO;replace an:V _:=an;obtain⟨_,bP,aR,bd,bN,f1,f2⟩:=aM))
       all_goals
        generalize bn.setCell ⟨w.heap.size+1,2,none⟩ (h0 g9 n9 cap9)=cc at au⊢
        have aa:aZ<n9:=by have:=an.o;rw[yal,aI.o]at this;simp at this;omega
        have a8:=au.o.dg.r3
        obtain⟨bw,cn,az,_,b1,bi⟩:=Ik a8 rfl (k:=aZ) (by rw[yal,aI.o];simp)
        have b:(bu.1++[y]).getD aZ 0=y:=by rw[yai,yas (by rw[aI.o];exact yad),aI.o,Nat.sub_self];rfl
        rw[b]at bi
        injection az with af bg ah
        injection af with af
        injection af with af
        subst af
        obtain⟨_,bl,aS,a9,_,_,_⟩:=au.o.bx
        have T:cc.frozen? ⟨g9,aZ,none⟩=false:=by
         have aF:=au.o.dg.r3
         have ai:=gZ aF
         rw[ai]at aF
         exact aF.frozenAt aZ
        clear a8 b bg ah bU aG bO bP aR bd bN f1 f2 aL z aP ay aB b1
        go_wp2_with fail
        go_roundw
        case rel=>
         have hst:=au.o
         rw[<-bj.o]at hst
         exact⟨aZ+1,by omega,by go_num,by rw[HN.o,HX.o];exact Dd.ofO hst bY.o⟩
        case measure=>simp[intOf];omega
     ·have ah:aZ=bJ:=xaa
      have aD:V (Dd w wr P a n cap bs (dgI bs i).1 (dgG bs i).1 (dgO bs i).1 (dgO bs i).2):=by
       show Dd _ _ _ _ _ _ _ _ _ _ _
       rw[bL.o,aJ.o,cG.o,aO.o,<-ah]
       exact bD.o
      clear bD ah
      obtain⟨a1,c1,J,c2,a3,c3,vs,aw,D⟩:=aD.o
      have Y:V _:=D.fin aw
      obtain⟨_,aP,ay,aB,_,_,_⟩:=D.bx
      obtain⟨_,bq,aq,aT,bN,f1,f2⟩:=D.rs
      clear D aw aD
      go_wp2_with fail
      obtain⟨bl,aS,a9⟩:=fd wr w.heap.size _ _ _ bq aq aT (.slice a1 (dgI bs i).1.length c1) (.slice J vs.length c2) (.slice a3 (dgO bs i).1.length c3)
      exact yaz (v:=eX a1 (dgI bs i).1.length c1 J vs.length c2 a3 (dgO bs i).1.length c3) (by simp[results,results64,go_sem,bl,aS,a9]) rfl Y.o
structure Dy(w0 W:World)(P:Nat)(a:Option Addr)(n cap i:Nat)(bs:List Int)(R Q:Nat)(u1 u2 u3:Value)(ins:List Int)(vs:List Vl)(outs:List Int):Prop where
 rd:RdF W P a n cap i bs
 dg:DG W w0.heap.size u1 u2 u3 ins vs outs
 bx:RB W Q u1 u2 u3
 rs:RB W R iR iR iR
 p0:P<w0.heap.size
 rq:w0.heap.size<=R/\w0.heap.size<=Q/\R≠Q
 nr:∀b,u1.ownBlock=some b\/u2.ownBlock=some b\/u3.ownBlock=some b->b≠R/\b≠Q
 k0:Kept P (P+1) w0 W
theorem Dy.step{W N}(f:Dy C W P a n cap i bs R Q u1 u2 u3 ins vs outs)(K:RdF H P a n cap N bs)(k:Kept P (P+1) W H):Dy C H P a n cap N bs R Q u1 u2 u3 ins vs outs:=
 ⟨K,f.dg.kept k (ix f.p0),f.bx.kept k (i0 f.p0 f.rq),f.rs.kept k (i0 f.p0 f.rq),f.p0,f.rq,f.nr,f.k0.trans k⟩
theorem Dy.keep{W}(f:Dy C W P a n cap i bs R Q u1 u2 u3 ins vs outs)(k:Kept 0 0 W H):Dy C H P a n cap i bs R Q u1 u2 u3 ins vs outs:=f.step (f.rd.keep0 k) (e8 k)
theorem Dy.next{W}(f:Dy C W P a n cap i bs R Q u1 u2 u3 ins vs outs):
  Calls prog 14 #[hZ P] W λe H=>e=.returned (h1 (nv bs i:Int))/\Dy C H P a n cap (ni bs i) bs R Q u1 u2 u3 ins vs outs:=
 (iw W P a n cap i bs f.rd).mono λ_ _ q=>⟨q.1,f.step q.2.1 q.2.2.1⟩
theorem cR.qcz(h:Zp:=by
 refine⟨d.keep aj (.inl xaa),⟨own aO.r1 λb hb=>(f.nr b (.inl hb)).2,own aO.r2 λb hb=>?_,own aO.r3 λb hb=>(f.nr b (.inr (.inr hb))).2,aO.a12,aO.a13,aO.a23,aO.k,yao aO.sz aj.size⟩,hb,aF.kept aj xaa,aQ,aA,?_,⟨aj.os.trans (bp.os.trans f.k0.os),aj.tape.trans (bp.tape.trans f.k0.tape),aj.output.trans (bp.output.trans f.k0.output),yao f.k0.size (yao bp.size aj.size),λb hb ag=>?_⟩⟩
 ·grind[Value.ownBlock]
 ·exact xhl
 exact xgc):Zp:=h
open cR in
theorem Dy.vals{W}(f:Dy C W P a n cap i bs R Q u1 u2 u3 ins vs outs)(bp:Chg (λb=>u2.ownBlock=some b) W H)(ho:H.ownsRow C.heap.size 86 6 (h0 g m c) m (fN aU))(ao:m=aU.length)(aK:u2.ownBlock=some g\/W.heap.size<=g)(O:∀v∈aU,v.k<18446744073709551616)(aj:Kept Q (Q+1) H bo)(hb:RB bo Q u1 (h0 g m c) u3):Dy C bo P a n cap i bs R Q u1 (h0 g m c) u3 ins aU outs:=by
 have aQ:=f.p0;have aA:=f.rq;have a7:∀b,u2.ownBlock=some b->C.heap.size<=b/\b≠R/\b≠Q:=λb hb=>⟨(eG f.dg.r2 hb).1,f.nr b (.inr (.inl hb))⟩
 have bw:g≠R/\g≠Q:=by
  exact xfa
 have aF:=jk f.rs bp (λc=>(a7 _ c).2.1 rfl);have aO:=f.dg.vals bp ho ao aK O;exact qcy
theorem aI.qbc(h:Zp:=by
 have hb:=jk f1.bx bp (λc=>(f.nr _ (.inr (.inl c))).2 rfl);exact⟨_,_,rfl,hb,f1.vals bp bq xac aK O (fk _ _ _ _ _) (pA hb _ _ _)⟩):Zp:=h
open aI in
theorem Dy.put{W ax}(f:Dy C W P a n cap i bs R Q (.slice a1 Z c1) (.slice J vs.length c2) (.slice a3 ab c3) ins vs outs)(k:Kept 0 0 W ax)(v)(aN:v.k<18446744073709551616)(ag:vs.length<=100000):
  Calls prog 78 #[eX a1 Z c1 J vs.length c2 a3 ab c3,v.agg] ax λe am=>∃aC cap',e=.returned (eX a1 Z c1 (some ⟨aC,0,none⟩) (vs.length+1) cap' a3 ab c3)/\RB am Q (.slice a1 Z c1) (.slice J vs.length c2) (.slice a3 ab c3)/\Dy C (fg am Q (.slice a1 Z c1) (h0 aC (vs.length+1) cap') (.slice a3 ab c3)) P a n cap i bs R Q (.slice a1 Z c1) (h0 aC (vs.length+1) cap') (.slice a3 ab c3) ins (vs++[v]) outs:=by
 exact qet
theorem Dy.fin{W}(f:Dy C W P a n cap i bs R Q (.slice a1 Z c1) (.slice J vs.length c2) (.slice a3 ab c3) ins vs outs)(aw:vs.map sv=S):
  DgF C P a n cap bs ins S outs i (.returned (eX a1 Z c1 J vs.length c2 a3 ab c3)) (fg W R (.slice a1 Z c1) (.slice J vs.length c2) (.slice a3 ab c3)):=by
 have af:=gZ f.dg.r1;have ah:=gZ f.dg.r3;subst af ah;have aj:=fk W R (.slice a1 ins.length c1) (.slice J vs.length c2) (.slice a3 outs.length c3);have aQ:=f.p0;have aA:=f.rq;have F:=f.k0.size;have own:∀{u:Value}{xs:List _}{m e s:Nat},W.ownsRow C.heap.size e s u m _->(∀b,u.ownBlock=some b->b≠R)->(fg W R _ _ _).ownsRow _ e s u m xs:=λo h=>fD o aj λb hb=>by grind
 refine⟨_,_,_,_,_,_,_,rfl,aw,⟨own f.dg.r1 λb hb=>(f.nr b (.inl hb)).1,own f.dg.r2 λb hb=>(f.nr b (.inr (.inl hb))).1,own f.dg.r3 λb hb=>(f.nr b (.inr (.inr hb))).1,f.dg.a12,f.dg.a13,f.dg.a23,f.dg.k,yao f.dg.sz aj.size⟩,f.rd.keep aj (.inl xaa),⟨aj.os.trans f.k0.os,aj.tape.trans f.k0.tape,aj.output.trans f.k0.output,yao F aj.size,λb hb ag=>?_⟩⟩;exact xio
theorem uR(w){rest o a Q}(au:o.guard=none)(s x)
  (ho:o.op=.call {callee:=.builtin .append,args:=#[s,x],argTypes:=#[106,106]})
  (I) (u) (vs) (aw:a.eval s=u) (bq:w.ownsRow I 86 6 u vs.length (fN vs))
  (b) (v) (ap:a.eval x=h0 b 1 1) (d:∀j u,v.cells[j]? =some u->w.cell? ((⟨b,0,none⟩:Addr).add j)=some u)
  (f:vs.length+1<=1000000) (ae:I<=w.heap.size)
  (h:∀g cap n B,n=(vs++[v]).length->B.ownsRow I 86 6 (h0 g n cap) n (fN (vs++[v]))->Chg (λb=>u.ownBlock=some b) w B->(u.ownBlock=some g\/g=w.heap.size)->wpList prog bW Q rest (a.put o.dst (h0 g n cap)) B):wpList prog bW Q (o::rest) a w:=by
 obtain⟨b1,hi,hz0,hz1,hz2⟩:=info_parts yW;refine wpList_append_lies w au s x _ ho I 86 _ _ 6 _ underlying106 hi hz0 hz1 hz2 rfl xab u _ _ aw bq _ 1 1 _ ap rfl d (F0 v) xab (by unfold maxLen;omega) xaa ae _ rfl ?_;intro g cap B F h2 h3 _;have e:vs.length+1=(vs++[v]).length:=by grind
 rw[e]at F⊢;refine h g _ _ _ rfl ?_ (fT h2) h3;rw[mC,qE];exact F
def mV(sz:Nat):Nat->List Vl
 |0=>[]
 |k+1=>mV sz k++[⟨1,(sz:Int),0,0,0,fbz (floatOfInt .f64 ((k%3:Nat):Int))⟩]
theorem rP(v):∀k,(mV v k).length=k
 |0=>rfl
 |k+1=>by rw[mV,yal,rP _ k];rfl
def Dw(w W:World)(P:Nat)(a:Option Addr)(n cap i:Nat)(bs:List Int)(S:List Vl):Prop:=
 ∃a2 c2 vs,vs.map sv=S/\Dy w W P a n cap i bs w.heap.size (w.heap.size+2) iR (.slice a2 vs.length c2) (.slice (some ⟨w.heap.size+1,0,none⟩) 1 1) [] vs [0]
theorem Lw{W p bL U aV}(t:RB W p bL U aV)(x):RB (W.setCell ⟨p,1,none⟩ x) p bL x aV:=
 ⟨by simpa using t.sz,by rw[eV _ _ _ _ _ _ (.inr xaa)];exact t.q0,fy _ _ _ _ _ t.q1,by rw[eV _ _ _ _ _ _ (.inr xaa)];exact t.q2,by simp[t.f0],by simp[t.f1],by simp[t.f2]⟩
theorem BO(K:RdF w P a n cap i bs):
  Dy w (((w.alloc fH).alloc (.cells #[h1 0] 3)).alloc (.cells #[.slice none 0 0,.slice none 0 0,h0 (w.heap.size+1) 1 1] 108)) P a n cap i bs w.heap.size (w.heap.size+2) iR iR (h0 (w.heap.size+1) 1 1) [] [] [0]:=by
 have bj:=eA 0 0 w fH;have aj:=eA 0 0 (w.alloc fH) (.cells #[h1 0] 3);have t:=eA 0 0 ((w.alloc fH).alloc (.cells #[h1 0] 3)) (.cells #[.slice none 0 0,.slice none 0 0,h0 (w.heap.size+1) 1 1] 108);have F:(w.alloc fH).heap.size=w.heap.size+1:=by simp
 have h2:((w.alloc fH).alloc (.cells #[h1 0] 3)).heap.size=w.heap.size+2:=by simp
 have d:=(bj.trans aj).trans t;have b8:=World.ownsRow_lit (base:=w.heap.size) (e:=3) (size:=1) (w.alloc fH) #[h1 0] 1 xaa (by unfold maxLen;omega) rfl;rw[F]at b8;have hb:=sZ (S:=λ_=>False) ((w.alloc fH).alloc (.cells #[h1 0] 3)) _ #[.slice none 0 0,.slice none 0 0,h0 (w.heap.size+1) 1 1] 108 (iv).chg (λc=>c);rw[h2]at hb;refine⟨K.keep0 d,⟨yaw _ _ _ _,yaw _ _ _ _,eN b8 t,?_,?_,?_,?_,d.size⟩,⟨hb.2.2,hb.1 0,hb.1 1,hb.1 2,hb.2.1 0,hb.2.1 1,hb.2.1 2⟩,(iW w).keep (aj.trans t),K.lt,⟨yad,by omega,by omega⟩,?_,e8 d⟩
 ·intro b h;cases h
 ·intro b h;cases h
 ·intro b h;cases h
 ·grind
 grind[Value.ownBlock]
theorem Nc(K:RdF w P a n cap i bs)(m v:Nat)(ao:m<=3000):
  Calls prog 93 #[h1 m,h1 v] w (DgF w P a n cap bs [] (mV v m) [0] i):=by
 have aK:V _:=BO K;clear K;go_enter func93,ntmps93;go_wp2_with fail;generalize ((w.alloc fH).alloc (.cells #[h1 0] 3)).alloc (.cells #[.slice none 0 0,.slice none 0 0,h0 (w.heap.size+1) 1 1] 108)=W0 at aK⊢;go_loopw [6] (λt W=>∃k:Nat,k<=m/\t=h1 k/\V (Dw w W P a n cap i bs (mV v k))) (λt _=>m-(intOf t).toNat)
 case atStart=>exact⟨0,yae,rfl,⟨none,0,[],rfl,aK.o⟩⟩
 case round=>
  obtain⟨k,O,rfl,bx⟩:=hrel;clear aK;obtain⟨J,c2,vs,aw,D⟩:=bx.o;clear bx;by_cases hlt:k<m
  ·have bI:V (vs.length=k):=by show _=_;have ae:=congrArg List.length aw;rw[List.length_map,rP]at ae;exact ae
   have b2:(k:Int)%3=((k%3:Nat):Int):=xaa;have U:k%3<3:=Nat.mod_lt _ xaa;generalize b:k%3=r at b2 U;have d:V _:=b;clear b;have N:=D.keep (eA 0 0 wr (fW 1 (v:Int) 0 0 0 (floatOfInt .f64 (r:Int))));have f:=N.dg.r2;have z:V _:=N;have HSV:V _:=aw;obtain⟨_,aP,ay,aB,_,_,_⟩:=D.bx;clear D N aw;go_upto_region 4 with (first|(at_builtin;refine uR _ rfl _ _ rfl w.heap.size _ vs rfl f wr.heap.size ⟨1,(v:Int),0,0,0,floatOfInt .f64 (r:Int)⟩ rfl (by intro j u a6;have b3:=Cu wr ⟨1,(v:Int),0,0,0,floatOfInt .f64 (r:Int)⟩ 0 j u a6;exact b3) (ix bI.o) z.o.dg.sz ?_;intro g9 cap9 n9 bn an bU aG bO;have aM:=jk z.o.bx aG (λc=>(z.o.nr _ (.inr (.inl c))).2 rfl);have au:V _:=z.o.vals aG bU an (bO.imp id λe=>Nat.le_of_eq e.symm) (by intro u a6;rcases List.mem_append.1 a6 with c|c;exact z.o.dg.k u c;simp only[List.mem_singleton]at c;subst c;exact qI _) (eU bn ⟨w.heap.size+2,1,none⟩ (h0 g9 n9 cap9) yac) (Lw aM _);replace an:V _:=an;obtain⟨_,bP,aR,bd,bN,f1,f2⟩:=aM));go_wp2_with fail;go_roundw
   case rel=>
    refine⟨k+1,by omega,by go_num,some ⟨g9,0,none⟩,cap9,vs++[⟨1,(v:Int),0,0,0,floatOfInt .f64 (r:Int)⟩],by rw[List.map_append,HSV.o,mV,d.o];rfl,?_⟩;have ae:=au.o;rw[an.o]at ae;rw[an.o];exact ae
   case measure=>simp[intOf];omega
  have ah:k=m:=xaa;rw[ah]at aw;have Y:V _:=D.fin aw;obtain⟨_,aP,ay,aB,_,_,_⟩:=D.bx;obtain⟨_,bq,aq,aT,bN,f1,f2⟩:=D.rs;clear D aw ah;go_wp2_with fail;obtain⟨bl,aS,a9⟩:=fd wr w.heap.size _ _ _ bq aq aT (.slice none 0 0) (.slice J vs.length c2) (h0 (w.heap.size+1) 1 1);exact yaz (v:=eX none 0 0 J vs.length c2 (some ⟨w.heap.size+1,0,none⟩) 1 1) (by simp[results,results93,go_sem,bl,aS,a9]) rfl Y.o
theorem AC:∀(vs:List Vl) (j q:Nat) (x:Value) (v':Vl),j<vs.length->q<6->v'.cells=(vs.getD j h9).cells.set q x->fN (vs.set j v')=(fN vs).set (j*6+q) x
 |u::r,0,q,x,v',_,aA,aN=>by
  have a6:u.cells.length=6:=rfl
  rw[List.set_cons_zero,fN,fN,Nat.zero_mul,Nat.zero_add,List.set_append_left _ _ (i1 a6 aA)]
  exact congrArg (· ++fN r) aN
 |u::r,j+1,q,x,v',hj,aA,aN=>by
  have a6:u.cells.length=6:=rfl
  rw[List.set_cons_succ,fN,fN,List.set_append_right _ _ (i3 a6),a6,show(j+1)*6+q-6=j*6+q by omega,AC r j q x _ (by simpa using hj) aA aN]
theorem DG.setV(f:DG w I u1 (h0 g m c) u3 ins vs outs){v'}(hj:j<vs.length)(aA:q<6)(aN:v'.cells=(vs.getD j h9).cells.set q x)(O:v'.k<18446744073709551616):DG (w.setCell ⟨g,j*6+q,none⟩ x) I u1 (h0 g m c) u3 ins (vs.set j v') outs:=by
 have e:=gZ f.r2;subst e;have h2:=(f.r2.stored (j*6+q) x).1;refine⟨eI f.r1 λh=>f.a12 _ h rfl,?_,eI f.r3 λh=>f.a23 _ rfl h,f.a12,f.a13,f.a23,λu a6=>?_,by simpa using f.sz⟩
 ·rw[List.length_set,AC _ j q x _ hj aA aN];exact h2
 rcases List.mem_or_eq_of_mem_set a6 with c|c
 ·exact f.k u c
 grind
theorem cS.qcz(h:Zp:=by
 refine⟨d.keep aj (.inl xaa),⟨own aO.r1 λb hb=>(ag b (.inl hb)).2,own aO.r2 λb hb=>(ag b (.inr (.inl hb))).2,own aO.r3 λb hb=>(ag b (.inr (.inr hb))).2,aO.a12,aO.a13,aO.a23,aO.k,yao aO.sz aj.size⟩,hb,aF.kept aj xaa,aQ,aA,ag,⟨aj.os.trans (bp.os.trans f.k0.os),aj.tape.trans (bp.tape.trans f.k0.tape),aj.output.trans (bp.output.trans f.k0.output),yao f.k0.size (yao bp.size aj.size),λb hb ag=>?_⟩⟩;exact xgc):Zp:=h
open cS in
theorem Dy.setG{W ba bb bc G l S}(f:Dy C W P a n cap i bs R Q u1 u2 u3 ins vs outs)(bp:Chg S W H)(a2:∀b,S b->C.heap.size<=b/\b≠R/\b≠Q)(aO:DG H C.heap.size ba bb bc G aU l)(ag:∀b,ba.ownBlock=some b\/bb.ownBlock=some b\/bc.ownBlock=some b->b≠R/\b≠Q)(aj:Kept Q (Q+1) H bo)(hb:RB bo Q ba bb bc):Dy C bo P a n cap i bs R Q ba bb bc G aU l:=by
 have aQ:=f.p0;have aA:=f.rq;have aF:=jk f.rs bp (λc=>(a2 _ c).2.1 rfl);exact qcy
theorem Dy.outs_{W x}(f:Dy C W P a n cap i bs R Q u1 u2 u3 ins vs outs)(bp:Chg (λb=>u3.ownBlock=some b) W H)(ho:H.ownsRow C.heap.size 3 1 (h0 g m c) m ((outs++[x]).map (Value.int .i64)))(ao:m=(outs++[x]).length)(aK:u3.ownBlock=some g\/g=W.heap.size):RB H Q u1 u2 u3/\Dy C (H.setCell ⟨Q,2,none⟩ (h0 g m c)) P a n cap i bs R Q u1 u2 (h0 g m c) ins vs (outs++[x]):=by
 have a7:∀b,u3.ownBlock=some b->C.heap.size<=b/\b≠R/\b≠Q:=λb hb=>⟨(eG f.dg.r3 hb).1,f.nr b (.inr (.inr hb))⟩
 have hb:=jk f.bx bp (λc=>(a7 _ c).2.2 rfl);refine⟨hb,f.setG bp a7 (f.dg.outs_ bp ho ao (aK.imp id λe=>Nat.le_of_eq e.symm)) ?_ (eU _ _ _ yac) (yC hb _).2⟩;rintro b (h|h|h)
 ·exact f.nr b (.inl h)
 ·exact f.nr b (.inr (.inl h))
 exact xgs
theorem Dy.ins_{W x}(f:Dy C W P a n cap i bs R Q u1 u2 u3 ins vs outs)(bp:Chg (λb=>u1.ownBlock=some b) W H)(ho:H.ownsRow C.heap.size 3 1 (h0 g m c) m ((ins++[x]).map (Value.int .i64)))(ao:m=(ins++[x]).length)(aK:u1.ownBlock=some g\/g=W.heap.size):RB H Q u1 u2 u3/\Dy C (H.setCell ⟨Q,0,none⟩ (h0 g m c)) P a n cap i bs R Q (h0 g m c) u2 u3 (ins++[x]) vs outs:=by
 have a7:∀b,u1.ownBlock=some b->C.heap.size<=b/\b≠R/\b≠Q:=λb hb=>⟨(eG f.dg.r1 hb).1,f.nr b (.inl hb)⟩
 have hb:=jk f.bx bp (λc=>(a7 _ c).2.2 rfl);refine⟨hb,f.setG bp a7 (f.dg.ins_ bp ho ao (aK.imp id λe=>Nat.le_of_eq e.symm)) ?_ (eU _ _ _ yac) (yC hb _).1⟩;rintro b (h|h|h)
 ·exact xgs
 ·exact f.nr b (.inr (.inl h))
 exact f.nr b (.inr (.inr h))
theorem Dy.setV{W}(f:Dy C W P a n cap i bs R Q u1 (h0 g m c) u3 ins vs outs){v'}(hj:j<vs.length)(aA:q<6)(aN:v'.cells=(vs.getD j h9).cells.set q x)(O:v'.k<18446744073709551616):Dy C (W.setCell ⟨g,j*6+q,none⟩ x) P a n cap i bs R Q u1 (h0 g m c) u3 ins (vs.set j v') outs:=by
 have bp:=fJ (S:=λb=>b=g) W g (j*6+q) x rfl;have aK:C.heap.size<=g/\g≠R/\g≠Q:=⟨(eG f.dg.r2 rfl).1,f.nr g (.inr (.inl rfl))⟩
 exact f.setG bp (λb hb=>by omega) (f.dg.setV hj aA aN O) f.nr (Kept.refl _ _ _) (jk f.bx bp λc=>aK.2.2 c.symm)
theorem Dy.box(f:DG w C.heap.size u1 u2 u3 ins vs outs)(K:RdF w P a n cap i bs)(hP:P<C.heap.size)(k:Kept P (P+1) C w):
  Dy C ((w.alloc (.cells #[u1,u2,u3] 108)).alloc fH) P a n cap i bs (w.heap.size+1) w.heap.size u1 u2 u3 ins vs outs:=by
 obtain⟨S,an⟩:=GrS.start f K hP;refine⟨S.rd,S.dg,S.bx,S.rs,hP,⟨ix f.sz,f.sz,by omega⟩,λb hb=>?_,k.trans (e8 an)⟩;have:=S.far b hb;omega
theorem iH(h:j<vs.length):vs.getD j h9∈vs:=by
 simp_all
theorem svd(vs j):vd (vs.map sv) j=sv (vd vs j):=by
 exact xhh
theorem Dy.finS{W l S'}(f:Dy C W P a n cap i bs R Q (.slice a1 Z c1) (.slice J l c2) (.slice a3 ab c3) ins vs outs)(ai:vs.length=l)(aw:vs.map sv=S'):
  DgF C P a n cap bs ins S' outs i (.returned (eX a1 Z c1 J l c2 a3 ab c3)) (fg W R (.slice a1 Z c1) (.slice J l c2) (.slice a3 ab c3)):=by
 subst ai;exact f.fin aw
theorem a.qab(h:Zp:=by
 obtain⟨g,b7,az,_,bC,bw⟩:=gO HD.o.dg.r2 rfl u;cases az;exact qdh):Zp:=h
theorem a.qdi(h:Zp:=by
 have G:(nv bs i:Int)%12=0:=ix b.o
 clear b;have au:V _:=HD.o.setV (q:=2) (x:=.int _ j) (v':=⟨(vd _ j).op,(vd _ j).len,j,(vd _ j).b,(vd _ j).c,(vd _ j).k⟩) u xab rfl HK.o;have Y:V _:=au.o.finS (S':=S.set (nv bs _%S.length) ({vd S (nv bs _%S.length) with a:=((nv bs (ni bs i)%S.length):Nat)})) (List.length_set ..) (by rw[List.map_set,HSV.o,<-v.o];exact congrArg _ (by rw[<-HSV.o,svd];rfl));have a5:=T (j*6+2);exact xav):Zp:=h
open a in
theorem OP(f:DG w C.heap.size (.slice a1 ins.length c1) (.slice J vs.length c2) (.slice a3 outs.length c3) ins vs outs)(K:RdF w P a n cap i bs)(hP:P<C.heap.size)(ad:Kept P (P+1) C w)(aw:vs.map sv=S)(ag:vs.length<=100000)(F:0<S.length)(O:nv bs i%12=0):
  Calls prog 95 #[eX a1 ins.length c1 J vs.length c2 a3 outs.length c3,hZ P] w (DgF C P a n cap bs ins (S.set (nv bs (ni bs i)%S.length) ({vd S (nv bs (ni bs i)%S.length) with a:=(((nv bs (ni bs i)%S.length):Nat):Int)})) outs (ni bs (ni bs i))):=by
 exact qaa
theorem b.qab(h:Zp:=by
 obtain⟨g,b7,az,_,bC,bw⟩:=gO HD.o.dg.r2 rfl u;cases az;exact qdh):Zp:=h
theorem b.qdi(h:Zp:=by
 have G:(nv bs i:Int)%12=4:=ix b.o
 clear b;have au:V _:=HD.o.setV (q:=0) (x:=.int _ ((nv bs (ni bs i):Int)%17)) (v':=⟨_,(vd _ j).len,(vd _ j).a,(vd _ j).b,(vd _ j).c,(vd _ j).k⟩) u xab rfl HK.o;have Y:V _:=au.o.finS (S':=S.set (nv bs _%S.length) ({vd S (nv bs _%S.length) with op:=(nv bs _:Int)%17})) (List.length_set ..) (by rw[List.map_set,HSV.o,<-v.o];exact congrArg _ (by rw[<-HSV.o,svd];rfl));exact xco):Zp:=h
open b in
theorem OQ(f:DG w C.heap.size (.slice a1 ins.length c1) (.slice J vs.length c2) (.slice a3 outs.length c3) ins vs outs)(K:RdF w P a n cap i bs)(hP:P<C.heap.size)(ad:Kept P (P+1) C w)(aw:vs.map sv=S)(ag:vs.length<=100000)(F:0<S.length)(O:nv bs i%12=4):
  Calls prog 95 #[eX a1 ins.length c1 J vs.length c2 a3 outs.length c3,hZ P] w (DgF C P a n cap bs ins (S.set (nv bs (ni bs i)%S.length) ({vd S (nv bs (ni bs i)%S.length) with op:=(nv bs (ni bs i):Int)%17})) outs (ni bs (ni bs i))):=by
 exact qaa
theorem c.qab(h:Zp:=by
 obtain⟨g,b7,az,_,bC,bw⟩:=gO HD.o.dg.r2 rfl u;cases az;exact qdh):Zp:=h
theorem c.qdi(h:Zp:=by
 have G:(nv bs i:Int)%12=8:=ix b.o
 clear b;have au:V _:=HD.o.setV (q:=5) (x:=.float _ 4619567317775286272) (v':=⟨(vd _ j).op,(vd _ j).len,(vd _ j).a,(vd _ j).b,(vd _ j).c,_⟩) u xab rfl (show 4619567317775286272<18446744073709551616 by decide);have Y:V _:=au.o.finS (S':=S.set (nv bs _%S.length) ({vd S (nv bs _%S.length) with k:=fbz 4619567317775286272})) (List.length_set ..) (by rw[List.map_set,HSV.o,<-v.o];exact congrArg _ (by rw[<-HSV.o,svd];rfl));have a5:=T (j*6+5);exact xav):Zp:=h
open c in
theorem OT(f:DG w C.heap.size (.slice a1 ins.length c1) (.slice J vs.length c2) (.slice a3 outs.length c3) ins vs outs)(K:RdF w P a n cap i bs)(hP:P<C.heap.size)(ad:Kept P (P+1) C w)(aw:vs.map sv=S)(ag:vs.length<=100000)(F:0<S.length)(O:nv bs i%12=8):
  Calls prog 95 #[eX a1 ins.length c1 J vs.length c2 a3 outs.length c3,hZ P] w (DgF C P a n cap bs ins (S.set (nv bs (ni bs i)%S.length) ({vd S (nv bs (ni bs i)%S.length) with k:=fbz 4619567317775286272})) outs (ni bs (ni bs i))):=by
 exact qaa
theorem d.qab(h:Zp:=by
 obtain⟨g,b7,az,_,bC,bw⟩:=gO HD.o.dg.r2 rfl u;cases az;exact qdh):Zp:=h
theorem d.qdi(h:Zp:=by
 have G:(nv bs i:Int)%12=9:=ix b.o
 clear b;have au:V _:=HD.o.setV (q:=0) (x:=.int _ (-1)) (v':=⟨_,(vd _ j).len,(vd _ j).a,(vd _ j).b,(vd _ j).c,(vd _ j).k⟩) u xab rfl HK.o;have Y:V _:=au.o.finS (S':=S.set (nv bs _%S.length) ({vd S (nv bs _%S.length) with op:=-1})) (List.length_set ..) (by rw[List.map_set,HSV.o,<-v.o];exact congrArg _ (by rw[<-HSV.o,svd];rfl));exact xco):Zp:=h
open d in
theorem OU(f:DG w C.heap.size (.slice a1 ins.length c1) (.slice J vs.length c2) (.slice a3 outs.length c3) ins vs outs)(K:RdF w P a n cap i bs)(hP:P<C.heap.size)(ad:Kept P (P+1) C w)(aw:vs.map sv=S)(ag:vs.length<=100000)(F:0<S.length)(O:nv bs i%12=9):
  Calls prog 95 #[eX a1 ins.length c1 J vs.length c2 a3 outs.length c3,hZ P] w (DgF C P a n cap bs ins (S.set (nv bs (ni bs i)%S.length) ({vd S (nv bs (ni bs i)%S.length) with op:=-1})) outs (ni bs (ni bs i))):=by
 exact qaa
theorem e.qab(h:Zp:=by
 obtain⟨g,b7,az,_,bC,bw⟩:=gO HD.o.dg.r2 rfl u;cases az;exact qdh):Zp:=h
theorem e.qdi(h:Zp:=by
 have G:(nv bs i:Int)%12=5:=ix b.o
 clear b;obtain⟨y,bp⟩:∃y:Int,vs.length-(nv bs (ni bs i):Int)%2=y:=⟨_,rfl⟩
 have aX:V (S.length-(nv bs (ni bs i):Int)%2=y):=by show _=_;rw[t.o];exact bp
 have b0:-10<=y/\y<=100000:=xaa;have N:=HD.o.keep (eA 0 0 _ (.cells #[h1 y] 3));have aL:=N.dg.r3;have z:V _:=N;clear N;go_upto_region 31 with (first|(at_builtin;refine fR _ rfl _ _ rfl _ _ _ rfl aL _ (y) rfl xac xaa z.o.dg.sz ?_;intro g9 cap9 n9 bn an bU aG bO;obtain⟨aM,(au:V _)⟩:=z.o.outs_ aG bU an bO;have Y:V _:=au.o.finS rfl HSV.o;replace an:V _:=an;obtain⟨_,bP,aR,bd,bN,f1,f2⟩:=aM));exact qgf):Zp:=h
theorem e.qgg(h:Zp:=by
 exact yaz (v:=eX a1 ins.length c1 (some ⟨g,0,none⟩) vs.length c2 (some ⟨g9,0,none⟩) n9 cap9) (by simp[results,results95,go_sem,bH,bk,p2]) rfl (i1 aX.o Y.o)):Zp:=h
open e in
theorem OV(f:DG w C.heap.size (.slice a1 ins.length c1) (.slice J vs.length c2) (.slice a3 outs.length c3) ins vs outs)(K:RdF w P a n cap i bs)(hP:P<C.heap.size)(ad:Kept P (P+1) C w)(aw:vs.map sv=S)(ag:vs.length<=100000)(F:0<S.length)(cD:outs.length<=1000)(O:nv bs i%12=5):
  Calls prog 95 #[eX a1 ins.length c1 J vs.length c2 a3 outs.length c3,hZ P] w (DgF C P a n cap bs ins S (outs++[(S.length:Int)-(nv bs (ni bs i):Int)%2]) (ni bs (ni bs i))):=by
 exact qaa
theorem f.qab(h:Zp:=by
 obtain⟨g,b7,az,_,bC,bw⟩:=gO HD.o.dg.r2 rfl u;cases az;exact qdh):Zp:=h
theorem f.qdi(h:Zp:=by
 have G:(nv bs i:Int)%12=7:=ix b.o
 clear b;have N:=HD.o.keep (eA 0 0 _ (.cells #[h1 (-1)] 3));have aL:=N.dg.r3;have z:V _:=N;clear N;go_upto_region 31 with (first|(at_builtin;refine fR _ rfl _ _ rfl _ _ _ rfl aL _ ((-1)) rfl xac xaa z.o.dg.sz ?_;intro g9 cap9 n9 bn an bU aG bO;obtain⟨aM,(au:V _)⟩:=z.o.outs_ aG bU an bO;have Y:V _:=au.o.finS rfl HSV.o;replace an:V _:=an;obtain⟨_,bP,aR,bd,bN,f1,f2⟩:=aM));exact qgf):Zp:=h
theorem f.qgg(h:Zp:=by
 exact yaz (v:=eX a1 ins.length c1 (some ⟨g,0,none⟩) vs.length c2 (some ⟨g9,0,none⟩) n9 cap9) (by simp[results,results95,go_sem,bH,bk,p2]) rfl Y.o):Zp:=h
open f in
theorem OW(f:DG w C.heap.size (.slice a1 ins.length c1) (.slice J vs.length c2) (.slice a3 outs.length c3) ins vs outs)(K:RdF w P a n cap i bs)(hP:P<C.heap.size)(ad:Kept P (P+1) C w)(aw:vs.map sv=S)(ag:vs.length<=100000)(F:0<S.length)(cD:outs.length<=1000)(O:nv bs i%12=7):
  Calls prog 95 #[eX a1 ins.length c1 J vs.length c2 a3 outs.length c3,hZ P] w (DgF C P a n cap bs ins S (outs++[-1]) (ni bs (ni bs i))):=by
 exact qaa
theorem g.qab(h:Zp:=by
 obtain⟨g,b7,az,_,bC,bw⟩:=gO HD.o.dg.r2 rfl u;cases az;exact qdh):Zp:=h
theorem g.qdi(h:Zp:=by
 have G:(nv bs i:Int)%12=6:=ix b.o
 clear b;obtain⟨y,bp⟩:∃y:Int,(nv bs (ni bs i):Int)%3*500=y:=⟨_,rfl⟩
 have aX:V _:=bp;have N:=HD.o.keep (eA 0 0 _ (.cells #[h1 y] 3));have aL:=N.dg.r1;have z:V _:=N;clear N;go_upto_region 31 with (first|(at_builtin;refine fR _ rfl _ _ rfl _ _ _ rfl aL _ (y) rfl xac xaa z.o.dg.sz ?_;intro g9 cap9 n9 bn an bU aG bO;obtain⟨aM,(au:V _)⟩:=z.o.ins_ aG bU an bO;have Y:V _:=au.o.finS rfl HSV.o;replace an:V _:=an;obtain⟨_,bP,aR,bd,bN,f1,f2⟩:=aM));obtain⟨_,bl,aS,a9,_,_,_⟩:=au.o.bx;obtain⟨_,bq,aq,aT,bR,bS,bT⟩:=au.o.rs;go_wp2_with fail;obtain⟨bH,bk,p2⟩:=fd _ _ _ _ _ bq aq aT (h0 g9 n9 cap9) (h0 g vs.length c2) (.slice a3 outs.length c3);exact yaz (v:=eX (some ⟨g9,0,none⟩) n9 cap9 (some ⟨g,0,none⟩) vs.length c2 a3 outs.length c3) (by simp[results,results95,go_sem,bH,bk,p2]) rfl (i1 aX.o Y.o)):Zp:=h
open g in
theorem OX(f:DG w C.heap.size (.slice a1 ins.length c1) (.slice J vs.length c2) (.slice a3 outs.length c3) ins vs outs)(K:RdF w P a n cap i bs)(hP:P<C.heap.size)(ad:Kept P (P+1) C w)(aw:vs.map sv=S)(ag:vs.length<=100000)(F:0<S.length)(cD:ins.length<=1000)(O:nv bs i%12=6):
  Calls prog 95 #[eX a1 ins.length c1 J vs.length c2 a3 outs.length c3,hZ P] w (DgF C P a n cap bs (ins++[(nv bs (ni bs i):Int)%3*500]) S outs (ni bs (ni bs i))):=by
 exact qaa
theorem OY(f:DG w C.heap.size (.slice a1 ins.length c1) (.slice J vs.length c2) (.slice a3 outs.length c3) ins vs outs)(K:RdF w P a n cap i bs)(hP:P<C.heap.size)(ad:Kept P (P+1) C w)(aw:vs.map sv=S)(_hn:vs.length<=100000)(O:S.length=0):
  Calls prog 95 #[eX a1 ins.length c1 J vs.length c2 a3 outs.length c3,hZ P] w (DgF C P a n cap bs ins S outs (ni bs (ni bs i))):=by
 have d:V _:=Dy.box f K hP ad;have cw:=fp K.ys i;have cj:=fp K.ys (ni bs i);have t:V (S.length=vs.length):=by show _=_;grind
 have HSV:V _:=aw;have b:V _:=O;clear f K ad aw O;go_enter func95,ntmps95;go_wp2_with fail;generalize (w.alloc _).alloc _=W0 at d⊢;refine yaj d.o.next ?_;rintro e ax ⟨rfl,(U:V _)⟩;clear d;go_wp2_with fail;refine yaj U.o.next ?_;rintro e bo ⟨rfl,(HD:V _)⟩;clear U;have a5:vs.length=0:=i0 b.o t.o
 have Y:V _:=HD.o.fin HSV.o;obtain⟨_,aP,ay,aB,_,_,_⟩:=HD.o.bx;obtain⟨_,bq,aq,aT,bR,bS,bT⟩:=HD.o.rs;generalize vs.length=l at a5 Y aP ay aB;have X:(l:Int)<=0:=xaa;clear a5;go_wp2_with fail;obtain⟨bH,bk,p2⟩:=fd _ _ _ _ _ bq aq aT (.slice a1 ins.length c1) (.slice J l c2) (.slice a3 outs.length c3);exact yaz (v:=eX a1 ins.length c1 J l c2 a3 outs.length c3) (by simp[results,results95,go_sem,bH,bk,p2]) rfl Y.o
