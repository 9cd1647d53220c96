import Derived.Test.YtcjhlkdleojbjaaGreatP41
namespace Go.Proofs.Z
variable{Zp:Prop}
open Tryz Go.RowKit Flt
set_option maxRecDepth 1000000
set_option maxHeartbeats 0
section
attribute[local go_sem] eF eE eD
variable{C w az bS I:World}{bz:Array Oper}{J P n cap i j H Q k m q g c1 Z c2 c c3 ab:Nat}{a a1 U a3:Option Addr}{bs ins outs:List Int}{u1 u2 u3 x:Value}{S vs bi:List Vl}
def iT(bs:List Int)(p:Nat):Nat->List Int×List Vl×Nat
 |0=>([],[],p)
 |k+1=>((iT bs p k).1++[((1+nv bs (iT bs p k).2.2%4:Nat):Int)],(iT bs p k).2.1++[⟨0,((1+nv bs (iT bs p k).2.2%4:Nat):Int),(k:Int),0,0,0⟩],ni bs (iT bs p k).2.2)
def gwL(bs:List Int)(ins:List Int)(m:Nat):Nat->Nat->List Vl->Nat->List Vl×Nat
 |0,_,S,p=>(S,p)
 |f+1,k,S,p=>if k<m/\(k<3\/p<bs.length)then gwL bs ins m f (k+1) (S++[(gwM ins S bs p).1]) (gwM ins S bs p).2 else (S,p)
def An(len v:Nat):Int:=if 0<v%3 then (if (len:Int)-1-((v/3%3:Nat):Int)<0 then 0 else (len:Int)-1-((v/3%3:Nat):Int))else ((v%len:Nat):Int)
def pq(bs:List Int)(len p:Nat):Nat->List Int×Nat
 |0=>([],p)
 |k+1=>((pq bs len p k).1++[An len (nv bs (pq bs len p k).2)],ni bs (pq bs len p k).2)
def Dd(w W:World)(P:Nat)(a:Option Addr)(n cap:Nat)(bs:List Int)(ins:List Int)(S:List Vl)(outs:List Int)(i:Nat):Prop:=
 ∃a1 c1 a2 c2 a3 c3 vs,vs.map sv=S/\Dx w W P a n cap i bs (.slice a1 ins.length c1) (.slice a2 vs.length c2) (.slice a3 outs.length c3) ins vs outs
def dgI(bs:List Int)(i:Nat):List Int×List Vl×Nat:=iT bs (ni bs i) (nv bs i%4)
def dgG(bs:List Int)(i:Nat):List Vl×Nat:=gwL bs (dgI bs i).1 (2+nv bs (dgI bs i).2.2%24) (2+nv bs (dgI bs i).2.2%24) 0 (dgI bs i).2.1 (ni bs (dgI bs i).2.2)
def dgO(bs:List Int)(i:Nat):List Int×Nat:=pq bs (dgG bs i).1.length (ni bs (dgG bs i).2) (nv bs (dgG bs i).2%5)
def DgF(w:World)(P:Nat)(a:Option Addr)(n cap:Nat)(bs:List Int)(ins:List Int)(S:List Vl)(outs:List Int)(i:Nat)(e:Ending)(w':World):Prop:=
 ∃a1 c1 a2 c2 a3 c3 vs,e=.returned (eZ a1 ins.length c1 a2 vs.length c2 a3 outs.length c3)/\vs.map sv=S/\DG w' w.heap.size (.slice a1 ins.length c1) (.slice a2 vs.length c2) (.slice a3 outs.length c3) ins vs outs/\RdF w' P a n cap i bs/\Kept P (P+1) w w'
def LenS(S:List Vl):Prop:=∀k,k<S.length->1<=(vd S k).len/\(vd S k).len<=1000
theorem LenS.snoc{v}(h:LenS S)(aO:1<=v.len/\v.len<=1000):LenS (S++[v]):=λk O=>by
 rw[yal]at O
 by_cases c:k<S.length
 ·rw[OP c];exact h k c
 simp_all
theorem LenS.of(h:LenS S)(e:vs.map sv=S):∀k,k<vs.length->1<=(vd vs k).len/\(vd vs k).len<=1000:=λk O=>by
 rw[<-CO,e]
 exact h k (by grind)
theorem qK(bs p):∀k,(iT bs p k).1.length=k/\(iT bs p k).2.1.length=k
 |0=>⟨rfl,rfl⟩
 |k+1=>by
  obtain⟨F,N⟩:=qK bs p k
  grind[iT]
theorem rB(bs p):∀k,LenS (iT bs p k).2.1/\∀j,j<(iT bs p k).1.length->1<=(iT bs p k).1.getD j 0/\(iT bs p k).1.getD j 0<=1000
 |0=>⟨λk O=>(by cases O),λk O=>(by cases O)⟩
 |k+1=>by
  obtain⟨F,N⟩:=rB bs p k
  rw[iT]
  refine⟨F.snoc (by grind),λj hj=>?_⟩
  grind
theorem Dd.of{W v s}(h:Dx w W P a n cap i bs (.slice a1 m c1) (.slice U (vs.length+1) c2) (.slice a3 ab c3) ins (vs++[v]) outs)(au:vs.map sv=S)(aO:sv v=s):Dd w W P a n cap bs ins (S++[s]) outs i:=by
 have ae:=jy h.dg.r1;have ai:=jy h.dg.r3;subst ae ai;refine⟨a1,c1,U,c2,a3,c3,vs++[v],by simp_all,?_⟩;grind
theorem yk(w){o a K Q Eaa}(aG:o.guard=none)(s x)
  (ho:o.op=.call {callee:=.builtin .append,args:=#[s,x],argTypes:=#[23,23]})
  (J) (v) (aY) (au:a.eval s=v) (a6:w.ownsRow J 3 1 v aY.length (aY.map (Value.int .i64)))
  (ak) (y) (an:a.eval x=.slice (some ak) 1 1) (z:w.cell? ak=some (hA y))
  (f:aY.length+1<=1000000) (ae:J<=w.heap.size)
  (h:∀g cap n B,n=(aY++[y]).length->B.ownsRow J 3 1 (hz g n cap) n ((aY++[y]).map (Value.int .i64))->Chg (λb=>v.ownBlock=some b) w B->(v.ownBlock=some g\/g=w.heap.size)->K (a.put o.dst (hz g n cap)) B):if Region.wanted o (yielded bz a.tmps)=true then Oper.wp prog o a w K Q else Eaa:=by
 obtain⟨bW,hi,b4,b3,b0⟩:=info_parts pX;refine step_append_lies w aG s x 23 ho J 3 bW (hA 0) 1 8 underlying23 hi b4 b3 b0 rfl xab v aY.length _ au a6 ak 1 1 [hA y] an rfl ?_ ?_ xab (by unfold maxLen;omega) xaa ae _ rfl ?_
 ·grind[Addr.add]
 ·intro u aB;simp at aB;subst aB;rfl
 simp_all[gh]
theorem DG.setO(f:DG w J u1 u2 (hz g m c) ins vs outs)(x):DG (w.setCell ⟨g,k,none⟩ (hA x)) J u1 u2 (hz g m c) ins vs (outs.set k x):=by
 have e:=jy f.r3;subst e;have h3:=f.r3.stored k (hA x);refine⟨eI f.r1 λh=>f.a13 _ h rfl,eI f.r2 λh=>f.a23 _ h rfl,?_,f.a12,f.a13,f.a23,f.k,by simpa using f.sz⟩;rw[List.length_set,List.map_set];exact h3.1
theorem Dx.setO{W}(f:Dx C W P a n cap i bs u1 u2 (hz g m c) ins vs outs)(x):Dx C (W.setCell ⟨g,k,none⟩ (hA x)) P a n cap i bs u1 u2 (hz g m c) ins vs (outs.set k x):=by
 have aJ:C.heap.size+2<=g:=(eH f.dg.r3 rfl).1;have aM:=f.p0;have aj:Kept g (g+1) W (W.setCell ⟨g,k,none⟩ (hA x)):=eR W ⟨g,k,none⟩ _ yac;have F:=f.k0.size;refine⟨f.rd.keep aj (.inl xaa),f.dg.setO x,f.bx.kept aj xaa,f.rs.kept aj xaa,aM,⟨aj.os.trans f.k0.os,aj.tape.trans f.k0.tape,aj.output.trans f.k0.output,yao F aj.size,λb hb ad=>?_⟩⟩;rw[aj.block b xaa xaa];exact f.k0.block b hb ad
theorem I3{xs}{y z:Int}:(xs++[y]).set xs.length z=xs++[z]:=by
 simp_all
theorem Dd.ofO{W}(h:Dx w W P a n cap i bs (.slice a1 m c1) (.slice U vs.length c2) (.slice a3 ab c3) ins vs outs)(au:vs.map sv=S):Dd w W P a n cap bs ins S outs i:=by
 have ae:=jy h.dg.r1;have ai:=jy h.dg.r3;subst ae ai;exact⟨a1,c1,U,c2,a3,c3,vs,au,h⟩
theorem uA(bs l p):∀k,(pq bs l p k).1.length=k
 |0=>rfl
 |k+1=>by rw[pq,yal,uA bs l p k];rfl
theorem DG.mono{e}(f:DG w J u1 u2 u3 ins vs outs)(h:e<=J):DG w e u1 u2 u3 ins vs outs:=
 ⟨iE f.r1 h,iE f.r2 h,iE f.r3 h,f.a12,f.a13,f.a23,f.k,yao h f.sz⟩
theorem Dx.fin{W}(f:Dx C W P a n cap i bs (.slice a1 ins.length c1) (.slice U vs.length c2) (.slice a3 outs.length c3) ins vs outs)(au:vs.map sv=S):
  DgF C P a n cap bs ins S outs i (.returned (eZ a1 ins.length c1 U vs.length c2 a3 outs.length c3)) (fw W C.heap.size (.slice a1 ins.length c1) (.slice U vs.length c2) (.slice a3 outs.length c3)):=by
 have aj:=ft W C.heap.size (.slice a1 ins.length c1) (.slice U vs.length c2) (.slice a3 outs.length c3);have aM:=f.p0;have F:=f.k0.size;refine⟨a1,c1,U,c2,a3,c3,vs,rfl,au,(f.dg.kept aj xaa).mono xaa,f.rd.keep aj (.inl xaa),⟨aj.os.trans f.k0.os,aj.tape.trans f.k0.tape,aj.output.trans f.k0.output,yao F aj.size,λb hb ad=>?_⟩⟩;exact xie
theorem I4(K:RdF w P a n cap i bs):
  Calls prog 43 #[hy P] w (DgF w P a n cap bs (dgI bs i).1 (dgG bs i).1 (dgO bs i).1 (dgO bs i).2):=by
 have ap:E _:=Dx.start K;have bB:=ib K.ys i;have b9:E _:=λj=>ib K.ys j;clear K;go_enter func43,ntmps43;go_wp2_with fail;generalize (w.alloc fJ).alloc fJ=W0 at ap⊢;refine yaj ap.o.next ?_;rintro e az ⟨rfl,bf⟩;have HD:E (Dd w az P a n cap bs (iT bs (ni bs i) 0).1 (iT bs (ni bs i) 0).2.1 [] (iT bs (ni bs i) 0).2.2):=⟨none,0,none,0,none,0,[],rfl,bf⟩
 have bC:(nv bs i:Int)%4=((nv bs i%4:Nat):Int):=xaa;have cP:nv bs i%4<4:=Nat.mod_lt _ xaa;generalize cW:nv bs i%4=nn at bC cP;have a7:E _:=cW.symm;clear cW;clear bf ap;go_wp2_with fail;rw[bC];clear bC bB;go_loopw [5] (λt W=>∃k:Nat,k<=nn/\t=hA k/\E (Dd w W P a n cap bs (iT bs (ni bs i) k).1 (iT bs (ni bs i) k).2.1 [] (iT bs (ni bs i) k).2.2)) (λt _=>nn-(intOf t).toNat)
 case atStart=>grind
 case round=>
  obtain⟨k,O,rfl,bl⟩:=hrel;obtain⟨a1,c1,U,c2,a3,c3,vs,ao,D⟩:=bl.o;rw[List.length_nil]at D;clear HD;by_cases aG:k<nn
  ·have HD:E _:=D;go_wp2_with fail;refine yaj HD.o.next ?_;rintro e bS ⟨rfl,aO⟩;have bY:=b9.o (iT bs (ni bs i) k).2.2;have cl:(1:Int)+(nv bs (iT bs (ni bs i) k).2.2:Int)%4=((1+nv bs (iT bs (ni bs i) k).2.2%4:Nat):Int):=xaa;have HSV:E _:=ao;have cc:E _:=qK bs (ni bs i) k;have bm:E (iT bs (ni bs i) (k+1)=((iT bs (ni bs i) k).1++[((1+nv bs (iT bs (ni bs i) k).2.2%4:Nat):Int)],(iT bs (ni bs i) k).2.1++[⟨0,((1+nv bs (iT bs (ni bs i) k).2.2%4:Nat):Int),(k:Int),0,0,0⟩],ni bs (iT bs (ni bs i) k).2.2)):=rfl;replace HD:E _:=aO;clear D aO ao bl;generalize iT bs (ni bs i) k=ad at HD bm cc HSV cl bY⊢;generalize 1+nv bs ad.2.2%4=d at cl bm;generalize B:ad.1.length=b8 at HD;have cf:b8=k:=by rw[<-B];exact cc.o.1
   have a5:E _:=B;clear B;subst cf;have s:=HD.o.keep (ez 0 0 bS (.cells #[hA d] 3));have h:=s.dg.r1;have aM:E _:=s;have aY:=HD.o.bx.q0;clear s;go_wp2_with (first|(at_builtin;refine fZ _ rfl _ _ rfl (w.heap.size+2) _ ad.1 rfl h ⟨bS.heap.size,0,none⟩ (d:Int) rfl xac (hJ cc.o.1) aM.o.dg.sz ?_;intro g9 cap9 n9 bj aw bF aF bT;have o:=jl aM.o.bx aF (λc=>hJ ((eH aM.o.dg.r1 c).1));have aJ:E _:=aM.o.ins_ aF bF aw bT;replace aw:E _:=aw;obtain⟨_,bD,aQ,a8,bG,f1,f2⟩:=o));generalize bj.setCell ⟨w.heap.size+1,0,none⟩ (hz g9 n9 cap9)=bc at aJ⊢;clear bF aF bT bD aQ a8 bG f1 f2 aY h aM HD;have HF:E (∀aW,Kept 0 0 bc aW->_):=λaW bQ=>aJ.o.put bQ (eK 0 (d:Int) (b8:Int) 0 0) (Nat.zero_lt_succ _) (by have:=cc.o.2;have aP:=congrArg List.length HSV.o;rw[List.length_map]at aP;omega);obtain⟨_,bD,aQ,a8,bG,f1,f2⟩:=aJ.o.bx
   go_region_with (first
    |(go_at_call 44;refine yaj (HF.o _ ((eG _).trans bQ)) ?_;rintro e ag ⟨aq,cap',rfl,aA,av⟩;obtain⟨_,br,ay,a0,bZ,b5,b6⟩:=aA)
    |(go_at_call 46;refine yaj (ij _ _ _ _ _ _) ?_;rintro e aW ⟨rfl,bQ⟩;obtain⟨_,aZ,ax,aU,_,_,_⟩:=(aJ.o.keep ((eG _).trans bQ)).bx))
   all_goals
    go_wp2_with fail
    go_roundw
    case rel=>
     exact⟨b8+1,by omega,by go_num,by rw[bm.o];exact Dd.of av HSV.o rfl⟩
    case measure=>simp[intOf];omega
  have HE:E (Dd w wr P a n cap bs (iT bs (ni bs i) nn).1 (iT bs (ni bs i) nn).2.1 [] (iT bs (ni bs i) nn).2.2):=by grind
  have z:E _:=qK bs (ni bs i) nn;clear D ao bl;have be:E (gwL bs (iT bs (ni bs i) nn).1 (2+nv bs (iT bs (ni bs i) nn).2.2%24) (2+nv bs (iT bs (ni bs i) nn).2.2%24-0) 0 (iT bs (ni bs i) nn).2.1 (ni bs (iT bs (ni bs i) nn).2.2)=dgG bs i):=hO a7.o
  have cd:E _:=rB bs (ni bs i) nn;have b3:E _:=(rfl:dgG bs i=dgG bs i)
  generalize cy:dgG bs i=G at be⊢;replace b3:E _:=cy;clear cy;have cR:E (dgI bs i=iT bs (ni bs i) nn):=by show dgI bs i=_;rw[a7.o];rfl
  generalize iT bs (ni bs i) nn=ad at HE z be cd cR⊢;obtain⟨a1,c1,U,c2,a3,c3,vs,(HSV:E _),(HD:E _)⟩:=HE.o;clear HE;go_wp2_with fail;refine yaj HD.o.next ?_;rintro e bS ⟨rfl,aO⟩;have an:=b9.o ad.2.2;have cj:(2:Int)+(nv bs ad.2.2:Int)%24=((2+nv bs ad.2.2%24:Nat):Int):=xaa;have cG:2+nv bs ad.2.2%24<=25:=xaa;have bX:2<=2+nv bs ad.2.2%24:=xaa;generalize 2+nv bs ad.2.2%24=m at cj cG bX be;have al:E (Dd w bS P a n cap bs ad.1 ad.2.1 [] (ni bs ad.2.2)):=⟨a1,c1,U,c2,a3,c3,vs,HSV.o,aO⟩
  clear aO HD HSV;go_wp2_with fail;try rw[cj]
  clear cj;go_loopw [8] (λt W=>∃(k:Nat) (S:List Vl) (p:Nat),k<=m/\t=hA k/\E (Dd w W P a n cap bs ad.1 S [] p)/\E (LenS S)/\E (S.length=nn+k)/\E (gwL bs ad.1 m (m-k) k S p=G)) (λt _=>m-(intOf t).toNat)
  case atStart=>exact⟨0,ad.2.1,_,yae,rfl,al.o,cd.o.1,hO z.o.2,be.o⟩
  case round=>
   obtain⟨ak,S,p,bP,rfl,bA,bO,bU,ba⟩:=hrel;obtain⟨a1,c1,U,c2,a3,c3,vs,ao,D⟩:=bA.o;clear al be;have Y:E _:=bO.o.of ao;have cq:vs.length=S.length:=by rw[<-ao,List.length_map]
   have cK:vs.length<=100000:=hJ bU.o
   have aa:E (∀v aq cap' ag,sv v=(gwM ad.1 vs bs p).1->Dx w ag P a n cap (gwM ad.1 vs bs p).2 bs (.slice a1 ad.1.length c1) (hz aq (vs.length+1) cap') (.slice a3 0 c3) ad.1 (vs++[v]) []->ak<m->(ak<3\/p<bs.length)->∃(S':List Vl) (u:Nat),Dd w ag P a n cap bs ad.1 S' [] u/\LenS S'/\S'.length=nn+(ak+1)/\gwL bs ad.1 m (m-(ak+1)) (ak+1) S' u=G):=λv aq cap' ag F N h3 a6=>by
    have bM:gwM ad.1 vs bs p=gwM ad.1 S bs p:=by rw[<-I2,ao]
    rw[bM]at F N
    refine⟨S++[(gwM ad.1 S bs p).1],(gwM ad.1 S bs p).2,Dd.of N ao F,bO.o.snoc (yi cd.o.2 bO.o),by rw[yal,bU.o];rfl,?_⟩
    have:=ba.o
    rw[show m-ak=(m-(ak+1))+1 by omega,gwL,hD ⟨h3,a6⟩]at this
    exact this
   have b7:E _:=λc=>by
    have:=ba.o
    cases am:m-ak with
    |zero=>rw[am,gwL]at this;exact this.symm
    |succ x=>rw[am,gwL,hC c]at this;exact this.symm
   rw[List.length_nil]at D;have HD:E _:=D;have HSV:E _:=ao;have bV:E (∀I,Kept 0 0 wr I->_):=λI aj=>(HD.o.keep aj).grow cK Y.o;have cx:E _:=CN D.rd;clear D ao ba bO cq bA;by_cases ah:ak<m/\(ak<3\/p<bs.length)
   ·have aG:=ah.1;have HC:E _:=ah.2;clear ah b7;by_cases h3:ak<3
    ·obtain⟨_,bD,aQ,a8,bG,f1,f2⟩:=HD.o.bx;go_wp2_with (first|(go_at_call 48;refine yaj (bV.o _ hI) ?_;rintro e ag ⟨v,aq,cap',rfl,ck,aA,av⟩;obtain⟨_,br,ay,a0,bZ,b5,b6⟩:=aA));exact xeu
    have bL:(p:Int)<bs.length:=hJ HC.o
    have d5:=HD.o.rd.small;have ca:(bs.length:Int)<=500:=hJ HD.o.rd.ys.len
    clear d5
    go_wp2_with (first
     |(go_at_call 45;refine yaj cx.o ?_;rintro e f ⟨rfl,bI⟩;obtain⟨_,bD,aQ,a8,bG,f1,f2⟩:=(HD.o.keep bI).bx)
     |(go_at_call 48;refine yaj (bV.o _ bI) ?_;rintro e ag ⟨v,aq,cap',rfl,ck,aA,av⟩;obtain⟨_,br,ay,a0,bZ,b5,b6⟩:=aA))
    exact xeu
   have cA:=b7.o ah;clear aa b7 bV;have cp:E (2<=S.length):=by have:=bU.o;show 2<=_;omega
   have bp:E _:=cA;have bu:E (vs.length=S.length):=by show vs.length=_;rw[<-HSV.o,List.length_map]
   clear cA;rcases (by omega:¬ak<m\/(ak<m/\¬ak<3/\¬p<bs.length)) with a2|aT
   case' inl=>
    clear ah;have b2:E _:=HD.o;go_wp2_with fail
   case' inr=>
    obtain⟨bq,au,aB⟩:=aT;have bL:(bs.length:Int)<=p:=xaa;have ca:(bs.length:Int)<=500/\(p:Int)<=500:=by have:=HD.o.rd.ys.len;have:=HD.o.rd.small;have:=HD.o.rd.hi;omega
    obtain⟨cI,cJ⟩:=ca;clear ah aB;go_wp2_with (first|(go_at_call 45;refine yaj cx.o ?_;rintro e f ⟨rfl,bI⟩;have b2:E _:=HD.o.keep bI;clear bI))
   all_goals
    refine yaj b2.o.next ?_
    rintro e bk ⟨rfl,ct⟩
    have cr:(nv bs p:Int)%5=((nv bs p%5:Nat):Int):=xaa
    have cn:nv bs p%5<5:=Nat.mod_lt _ xaa
    have bW:E (dgO bs i=pq bs S.length (ni bs p) (nv bs p%5)):=by show dgO bs i=_;unfold dgO;rw[b3.o,bp.o]
    generalize nv bs p%5=b1 at cr cn bW
    have cw:E (Dd w bk P a n cap bs ad.1 S (pq bs S.length (ni bs p) 0).1 (pq bs S.length (ni bs p) 0).2):=⟨a1,c1,U,c2,a3,c3,vs,HSV.o,ct⟩
    clear ct b2 HD
    go_wp2_with fail
    try rw[cr]
    clear cr
    go_loopw [9] (λt W=>∃k:Nat,k<=b1/\t=hA k/\E (Dd w W P a n cap bs ad.1 S (pq bs S.length (ni bs p) k).1 (pq bs S.length (ni bs p) k).2)) (λt _=>b1-(intOf t).toNat)
    case atStart=>exact⟨0,yae,rfl,cw.o⟩
    case round=>
     obtain⟨aR,aV,rfl,bd⟩:=hrel
     clear cw
     by_cases ci:aR<b1
     ·obtain⟨a1,c1,U,c2,a3,c3,vs,ao,D⟩:=bd.o
      have aH:E _:=uA bs S.length (ni bs p) aR
      have bm:E (pq bs S.length (ni bs p) (aR+1)=((pq bs S.length (ni bs p) aR).1++[An S.length (nv bs (pq bs S.length (ni bs p) aR).2)],ni bs (pq bs S.length (ni bs p) aR).2)):=rfl
      have ce:E _:=ao
      have bK:E (vs.length=S.length):=by show vs.length=_;rw[<-ao,List.length_map]
      have HD:E _:=D
      clear D ao bd
      generalize pq bs S.length (ni bs p) aR=bv at HD bm aH⊢
      rw[aH.o]at HD
      go_wp2_with fail
      refine yaj HD.o.next ?_
      rintro e ag ⟨rfl,cu⟩
      have an:=b9.o bv.2
      generalize nv bs bv.2=x at an bm⊢
      replace HD:E _:=cu
      clear cu
      have bg:vs.length<=100:=hK bK.o bU.o
      have cF:2<=vs.length:=hK bK.o cp.o
      generalize cq:vs.length=l at HD bg cF
      have b0:E _:=cq
      clear cq
      by_cases h3:0<x%3
      ·have ch:0<(x:Int)%3:=xaa
       have bN:(l:Int)-1-(x:Int)/3%3=(l:Int)-1-((x/3%3:Nat):Int):=xaa
       have ar:E (An S.length x=if (l:Int)-1-((x/3%3:Nat):Int)<0 then 0 else (l:Int)-1-((x/3%3:Nat):Int)):=by show An _ _=_;unfold An;rw[hD h3,<-bK.o,b0.o]
       have cH:-3<=(l:Int)-1-((x/3%3:Nat):Int)/\(l:Int)-1-((x/3%3:Nat):Int)<=100:=xaa
       generalize (l:Int)-1-((x/3%3:Nat):Int)=y at bN ar cH
       have s:=HD.o.keep (ez 0 0 ag (.cells #[hA y] 3))
       have h:=s.dg.r3
       have aM:E _:=s
       obtain⟨_,aY,aC,aL,_,_,_⟩:=HD.o.bx
       clear s
       go_upto_region 22 with (first|(at_builtin;refine fZ _ rfl _ _ rfl (w.heap.size+2) _ bv.1 rfl h ⟨ag.heap.size,0,none⟩ y rfl xac (hJ aH.o) aM.o.dg.sz ?_;intro g9 cap9 n9 bj aw bF aF bT;have o:=jl aM.o.bx aF (λc=>hJ ((eH aM.o.dg.r3 c).1));have aJ:E _:=aM.o.outs_ aF bF aw bT;replace aw:E _:=aw;obtain⟨_,bD,aQ,a8,bG,f1,f2⟩:=o))
       generalize bj.setCell ⟨w.heap.size+1,2,none⟩ (hz g9 n9 cap9)=bc at aJ⊢
       have r:aR<n9:=by have:=aw.o;rw[yal,aH.o]at this;simp at this;omega
       have X:=aJ.o.dg.r3
       obtain⟨bJ,cD,aK,_,cg,af⟩:=IV X rfl (k:=aR) (by rw[yal,aH.o];simp)
       have bH:(bv.1++[y]).getD aR 0=y:=by rw[yai,yas (by rw[aH.o];exact yad),aH.o,Nat.sub_self];rfl
       rw[bH]at af
       injection aK with ae a9 ai
       injection ae with ae
       injection ae with ae
       subst ae
       obtain⟨_,bn,aX,bb,_,_,_⟩:=aJ.o.bx
       have aN:bc.frozen? ⟨g9,aR,none⟩=false:=by
        have aD:=aJ.o.dg.r3
        have aS:=jy aD
        rw[aS]at aD
        exact aD.frozenAt aR
       clear X bH a9 ai bF aF bT bD aQ a8 bG f1 f2 h aM aY aC aL cg
       by_cases cC:y<0
       ·have HO:E _:=aJ.o.setO (k:=aR) 0
        go_wp2_with fail
        go_roundw
        case rel=>
         refine⟨aR+1,by omega,by go_num,?_⟩
         have bx:=HO.o
         rw[show aR=bv.1.length from aH.o.symm,I3,aH.o,<-b0.o]at bx
         rw[bm.o,ar.o,hD cC]
         exact Dd.ofO bx ce.o
        case measure=>simp[intOf];omega
       ·go_wp2_with fail
        go_roundw
        case rel=>
         have bx:=aJ.o
         rw[<-b0.o]at bx
         exact⟨aR+1,by omega,by go_num,by rw[bm.o,ar.o,hC cC];exact Dd.ofO bx ce.o⟩
        case measure=>simp[intOf];omega
      ·have ch:¬0<(x:Int)%3:=xaa
       have b4:(x:Int)%l=((x%l:Nat):Int):=by rw[Int.natCast_emod]
       have ar:E (An S.length x=((x%l:Nat):Int)):=by show An _ _=_;unfold An;rw[hC h3,<-bK.o,b0.o]
       have bE:x%l<l:=Nat.mod_lt _ xaa
       generalize x%l=R at b4 ar bE
       obtain⟨y,cB⟩:∃y:Int,(R:Int)=y:=⟨_,rfl⟩
       rw[cB]at b4 ar
       have cC:¬y<0:=xaa
       have bh:y<=100:=xaa
       have co:¬l=0:=xaa
       have cM:=(Int.tmod_eq_emod_of_nonneg xaa).trans b4
       clear cB
       have s:=HD.o.keep ((ez 0 0 ag (.cells #[hA y] 3)).trans (eJ 0 0 _ 1))
       have h:=s.dg.r3
       have aM:E _:=s
       obtain⟨_,aY,aC,aL,_,_,_⟩:=HD.o.bx
       clear s
       go_upto_region 21 with fail
       go_region_law ((refine yk _ rfl (.tmp 82) (.tmp 88) rfl (w.heap.size+2) _ bv.1 (by simp[Act.eval]) h ⟨ag.heap.size,0,none⟩ y (by simp[Act.eval]) xac (hJ aH.o) aM.o.dg.sz ?_;intro g9 cap9 n9 bj aw bF aF bT;have o:=jl aM.o.bx aF (λc=>hJ ((eH aM.o.dg.r3 c).1));have aJ:E _:=aM.o.outs_ aF bF aw bT;replace aw:E _:=aw;obtain⟨_,bD,aQ,a8,bG,f1,f2⟩:=o))
       all_goals
        generalize bj.setCell ⟨w.heap.size+1,2,none⟩ (hz g9 n9 cap9)=bc at aJ⊢
        have r:aR<n9:=by have:=aw.o;rw[yal,aH.o]at this;simp at this;omega
        have X:=aJ.o.dg.r3
        obtain⟨bJ,cD,aK,_,cg,af⟩:=IV X rfl (k:=aR) (by rw[yal,aH.o];simp)
        have bH:(bv.1++[y]).getD aR 0=y:=by rw[yai,yas (by rw[aH.o];exact yad),aH.o,Nat.sub_self];rfl
        rw[bH]at af
        injection aK with ae a9 ai
        injection ae with ae
        injection ae with ae
        subst ae
        obtain⟨_,bn,aX,bb,_,_,_⟩:=aJ.o.bx
        have aN:bc.frozen? ⟨g9,aR,none⟩=false:=by
         have aD:=aJ.o.dg.r3
         have aS:=jy aD
         rw[aS]at aD
         exact aD.frozenAt aR
        clear X bH a9 ai bF aF bT bD aQ a8 bG f1 f2 h aM aY aC aL cg
        go_wp2_with fail
        go_roundw
        case rel=>
         have bx:=aJ.o
         rw[<-b0.o]at bx
         exact⟨aR+1,by omega,by go_num,by rw[bm.o,ar.o];exact Dd.ofO bx ce.o⟩
        case measure=>simp[intOf];omega
     ·have ai:aR=b1:=xaa
      have HF:E (Dd w wr P a n cap bs (dgI bs i).1 (dgG bs i).1 (dgO bs i).1 (dgO bs i).2):=by
       show Dd _ _ _ _ _ _ _ _ _ _ _
       rw[b3.o,bp.o,cR.o,bW.o,<-ai]
       exact bd.o
      clear bd ai
      obtain⟨a1,c1,U,c2,a3,c3,vs,ao,D⟩:=HF.o
      have aI:E _:=D.fin ao
      obtain⟨_,aY,aC,aL,_,_,_⟩:=D.bx
      obtain⟨_,br,ay,a0,bG,f1,f2⟩:=D.rs
      clear D ao HF
      go_wp2_with fail
      obtain⟨bn,aX,bb⟩:=fp wr w.heap.size _ _ _ br ay a0 (.slice a1 (dgI bs i).1.length c1) (.slice U vs.length c2) (.slice a3 (dgO bs i).1.length c3)
      exact yaz (v:=eZ a1 (dgI bs i).1.length c1 U vs.length c2 a3 (dgO bs i).1.length c3) (by simp[results,results43,go_sem,bn,aX,bb]) rfl aI.o
structure Dy(w0 W:World)(P:Nat)(a:Option Addr)(n cap i:Nat)(bs:List Int)(R Q:Nat)(u1 u2 u3:Value)(ins:List Int)(vs:List Vl)(outs:List Int):Prop where
 rd:RdF W P a n cap i bs
 dg:DG W w0.heap.size u1 u2 u3 ins vs outs
 bx:RB W Q u1 u2 u3
 rs:RB W R iz iz iz
 p0:P<w0.heap.size
 rq:w0.heap.size<=R/\w0.heap.size<=Q/\R≠Q
 nr:∀b,u1.ownBlock=some b\/u2.ownBlock=some b\/u3.ownBlock=some b->b≠R/\b≠Q
 k0:Kept P (P+1) w0 W
theorem Dy.step{W Y}(f:Dy C W P a n cap i bs H Q u1 u2 u3 ins vs outs)(K:RdF I P a n cap Y bs)(k:Kept P (P+1) W I):Dy C I P a n cap Y bs H Q u1 u2 u3 ins vs outs:=
 ⟨K,f.dg.kept k (hJ f.p0),f.bx.kept k (hK f.p0 f.rq),f.rs.kept k (hK f.p0 f.rq),f.p0,f.rq,f.nr,f.k0.trans k⟩
theorem Dy.keep{W}(f:Dy C W P a n cap i bs H Q u1 u2 u3 ins vs outs)(k:Kept 0 0 W I):Dy C I P a n cap i bs H Q u1 u2 u3 ins vs outs:=f.step (f.rd.keep0 k) (e8 k)
theorem Dy.next{W}(f:Dy C W P a n cap i bs H Q u1 u2 u3 ins vs outs):
  Calls prog 15 #[hy P] W λe I=>e=.returned (hA (nv bs i:Int))/\Dy C I P a n cap (ni bs i) bs H Q u1 u2 u3 ins vs outs:=
 (iX W P a n cap i bs f.rd).mono λ_ _ q=>⟨q.1,f.step q.2.1 q.2.2.1⟩
theorem bY.qct(h:Zp:=by
 refine⟨p.keep aj (.inl xaa),⟨own aK.r1 λb hb=>(f.nr b (.inl hb)).2,own aK.r2 λb hb=>?_,own aK.r3 λb hb=>(f.nr b (.inr (.inr hb))).2,aK.a12,aK.a13,aK.a23,aK.k,yao aK.sz aj.size⟩,hb,aD.kept aj xaa,aM,ap,?_,⟨aj.os.trans (bd.os.trans f.k0.os),aj.tape.trans (bd.tape.trans f.k0.tape),aj.output.trans (bd.output.trans f.k0.output),yao f.k0.size (yao bd.size aj.size),λb hb ad=>?_⟩⟩
 ·grind[Value.ownBlock]
 ·exact xgy
 exact xft):Zp:=h
open bY in
theorem Dy.vals{W}(f:Dy C W P a n cap i bs H Q u1 u2 u3 ins vs outs)(bd:Chg (λb=>u2.ownBlock=some b) W I)(ho:I.ownsRow C.heap.size 62 6 (hz g m c) m (fF bi))(am:m=bi.length)(aJ:u2.ownBlock=some g\/W.heap.size<=g)(O:∀v∈bi,v.k<18446744073709551616)(aj:Kept Q (Q+1) I bS)(hb:RB bS Q u1 (hz g m c) u3):Dy C bS P a n cap i bs H Q u1 (hz g m c) u3 ins bi outs:=by
 have aM:=f.p0;have ap:=f.rq;have aT:∀b,u2.ownBlock=some b->C.heap.size<=b/\b≠H/\b≠Q:=λb hb=>⟨(eH f.dg.r2 hb).1,f.nr b (.inr (.inl hb))⟩
 have bC:g≠H/\g≠Q:=by
  exact xeq
 have aD:=jl f.rs bd (λc=>(aT _ c).2.1 rfl);have aK:=f.dg.vals bd ho am aJ O;exact qcs
theorem W.qba(h:Zp:=by
 have hb:=jl f1.bx bd (λc=>(f.nr _ (.inr (.inl c))).2 rfl);exact⟨_,_,rfl,hb,f1.vals bd a6 xac aJ O (ft _ _ _ _ _) (qJ hb _ _ _)⟩):Zp:=h
open W in
theorem Dy.put{W}(f:Dy C W P a n cap i bs H Q (.slice a1 Z c1) (.slice U vs.length c2) (.slice a3 ab c3) ins vs outs)(k:Kept 0 0 W az)(v)(aO:v.k<18446744073709551616)(ad:vs.length<=100000):
  Calls prog 44 #[eZ a1 Z c1 U vs.length c2 a3 ab c3,v.agg] az λe ag=>∃aq cap',e=.returned (eZ a1 Z c1 (some ⟨aq,0,none⟩) (vs.length+1) cap' a3 ab c3)/\RB ag Q (.slice a1 Z c1) (.slice U vs.length c2) (.slice a3 ab c3)/\Dy C (fw ag Q (.slice a1 Z c1) (hz aq (vs.length+1) cap') (.slice a3 ab c3)) P a n cap i bs H Q (.slice a1 Z c1) (hz aq (vs.length+1) cap') (.slice a3 ab c3) ins (vs++[v]) outs:=by
 exact qel
theorem Dy.fin{W}(f:Dy C W P a n cap i bs H Q (.slice a1 Z c1) (.slice U vs.length c2) (.slice a3 ab c3) ins vs outs)(au:vs.map sv=S):
  DgF C P a n cap bs ins S outs i (.returned (eZ a1 Z c1 U vs.length c2 a3 ab c3)) (fw W H (.slice a1 Z c1) (.slice U vs.length c2) (.slice a3 ab c3)):=by
 have ae:=jy f.dg.r1;have ai:=jy f.dg.r3;subst ae ai;have aj:=ft W H (.slice a1 ins.length c1) (.slice U vs.length c2) (.slice a3 outs.length c3);have aM:=f.p0;have ap:=f.rq;have F:=f.k0.size;have own:∀{u:Value}{xs:List _}{m e s:Nat},W.ownsRow C.heap.size e s u m _->(∀b,u.ownBlock=some b->b≠H)->(fw W H _ _ _).ownsRow _ e s u m xs:=λo h=>f9 o aj λb hb=>by grind
 refine⟨_,_,_,_,_,_,_,rfl,au,⟨own f.dg.r1 λb hb=>(f.nr b (.inl hb)).1,own f.dg.r2 λb hb=>(f.nr b (.inr (.inl hb))).1,own f.dg.r3 λb hb=>(f.nr b (.inr (.inr hb))).1,f.dg.a12,f.dg.a13,f.dg.a23,f.dg.k,yao f.dg.sz aj.size⟩,f.rd.keep aj (.inl xaa),⟨aj.os.trans f.k0.os,aj.tape.trans f.k0.tape,aj.output.trans f.k0.output,yao F aj.size,λb hb ad=>?_⟩⟩;exact xie
theorem uB(w){rest o a Q}(aG:o.guard=none)(s x)
  (ho:o.op=.call {callee:=.builtin .append,args:=#[s,x],argTypes:=#[24,24]})
  (J) (u) (vs) (au:a.eval s=u) (a6:w.ownsRow J 62 6 u vs.length (fF vs))
  (b) (v) (an:a.eval x=hz b 1 1) (z:∀j u,v.cells[j]? =some u->w.cell? ((⟨b,0,none⟩:Addr).add j)=some u)
  (f:vs.length+1<=1000000) (ae:J<=w.heap.size)
  (h:∀g cap n B,n=(vs++[v]).length->B.ownsRow J 62 6 (hz g n cap) n (fF (vs++[v]))->Chg (λb=>u.ownBlock=some b) w B->(u.ownBlock=some g\/g=w.heap.size)->wpList prog bz Q rest (a.put o.dst (hz g n cap)) B):wpList prog bz Q (o::rest) a w:=by
 obtain⟨bW,hi,b4,b3,b0⟩:=info_parts yz;refine wpList_append_lies w aG s x _ ho J 62 _ _ 6 _ underlying24 hi b4 b3 b0 rfl xab u _ _ au a6 _ 1 1 _ an rfl z (FK v) xab (by unfold maxLen;omega) xaa ae _ rfl ?_;intro g cap B F N h3 _;have e:vs.length+1=(vs++[v]).length:=by grind
 rw[e]at F⊢;refine h g _ _ _ rfl ?_ (gh N) h3;rw[mf,qb];exact F
def mR(sz:Nat):Nat->List Vl
 |0=>[]
 |k+1=>mR sz k++[⟨1,(sz:Int),0,0,0,fbz (floatOfInt .f64 ((k%3:Nat):Int))⟩]
theorem rC(f):∀k,(mR f k).length=k
 |0=>rfl
 |k+1=>by rw[mR,yal,rC _ k];rfl
def Dw(w W:World)(P:Nat)(a:Option Addr)(n cap i:Nat)(bs:List Int)(S:List Vl):Prop:=
 ∃a2 c2 vs,vs.map sv=S/\Dy w W P a n cap i bs w.heap.size (w.heap.size+2) iz (.slice a2 vs.length c2) (.slice (some ⟨w.heap.size+1,0,none⟩) 1 1) [] vs [0]
theorem Ma{W p bE R aS}(t:RB W p bE R aS)(x):RB (W.setCell ⟨p,1,none⟩ x) p bE x aS:=
 ⟨by simpa using t.sz,by rw[eQ _ _ _ _ _ _ (.inr xaa)];exact t.q0,fy _ _ _ _ _ t.q1,by rw[eQ _ _ _ _ _ _ (.inr xaa)];exact t.q2,by simp[t.f0],by simp[t.f1],by simp[t.f2]⟩
theorem BM(K:RdF w P a n cap i bs):
  Dy w (((w.alloc fJ).alloc (.cells #[hA 0] 3)).alloc (.cells #[.slice none 0 0,.slice none 0 0,hz (w.heap.size+1) 1 1] 26)) P a n cap i bs w.heap.size (w.heap.size+2) iz iz (hz (w.heap.size+1) 1 1) [] [] [0]:=by
 have bh:=ez 0 0 w fJ;have aL:=ez 0 0 (w.alloc fJ) (.cells #[hA 0] 3);have p:=ez 0 0 ((w.alloc fJ).alloc (.cells #[hA 0] 3)) (.cells #[.slice none 0 0,.slice none 0 0,hz (w.heap.size+1) 1 1] 26);have F:(w.alloc fJ).heap.size=w.heap.size+1:=by simp
 have N:((w.alloc fJ).alloc (.cells #[hA 0] 3)).heap.size=w.heap.size+2:=by simp
 have f:=(bh.trans aL).trans p;have ch:=World.ownsRow_lit (base:=w.heap.size) (e:=3) (size:=1) (w.alloc fJ) #[hA 0] 1 xaa (by unfold maxLen;omega) rfl;rw[F]at ch;have hb:=sr (S:=λ_=>False) ((w.alloc fJ).alloc (.cells #[hA 0] 3)) _ #[.slice none 0 0,.slice none 0 0,hz (w.heap.size+1) 1 1] 26 (hI).chg (λc=>c);rw[N]at hb;refine⟨K.keep0 f,⟨yaw _ _ _ _,yaw _ _ _ _,eO ch p,?_,?_,?_,?_,f.size⟩,⟨hb.2.2,hb.1 0,hb.1 1,hb.1 2,hb.2.1 0,hb.2.1 1,hb.2.1 2⟩,(iN w).keep (aL.trans p),K.lt,⟨yad,by omega,by omega⟩,?_,e8 f⟩
 ·intro b h;cases h
 ·intro b h;cases h
 ·intro b h;cases h
 ·grind
 grind[Value.ownBlock]
theorem Nd(K:RdF w P a n cap i bs)(m f:Nat)(am:m<=3000):
  Calls prog 70 #[hA m,hA f] w (DgF w P a n cap bs [] (mR f m) [0] i):=by
 have ap:E _:=BM K;clear K;go_enter func70,ntmps70;go_wp2_with fail;generalize ((w.alloc fJ).alloc (.cells #[hA 0] 3)).alloc (.cells #[.slice none 0 0,.slice none 0 0,hz (w.heap.size+1) 1 1] 26)=W0 at ap⊢;go_loopw [6] (λt W=>∃k:Nat,k<=m/\t=hA k/\E (Dw w W P a n cap i bs (mR f k))) (λt _=>m-(intOf t).toNat)
 case atStart=>exact⟨0,yae,rfl,⟨none,0,[],rfl,ap.o⟩⟩
 case round=>
  obtain⟨k,O,rfl,bl⟩:=hrel;clear ap;obtain⟨U,c2,vs,ao,D⟩:=bl.o;clear bl;by_cases aG:k<m
  ·have bu:E (vs.length=k):=by show _=_;have aP:=congrArg List.length ao;rw[List.length_map,rC]at aP;exact aP
   have aV:(k:Int)%3=((k%3:Nat):Int):=xaa;have y:k%3<3:=Nat.mod_lt _ xaa;generalize h:k%3=r at aV y;have Y:E _:=h;clear h;have s:=D.keep (ez 0 0 wr (fH 1 (f:Int) 0 0 0 (floatOfInt .f64 (r:Int))));have l:=s.dg.r2;have aM:E _:=s;have HSV:E _:=ao;obtain⟨_,aY,aC,aL,_,_,_⟩:=D.bx;clear D s ao;go_upto_region 4 with (first|(at_builtin;refine uB _ rfl _ _ rfl w.heap.size _ vs rfl l wr.heap.size ⟨1,(f:Int),0,0,0,floatOfInt .f64 (r:Int)⟩ rfl (by intro j u aB;have bp:=B7 wr ⟨1,(f:Int),0,0,0,floatOfInt .f64 (r:Int)⟩ 0 j u aB;exact bp) (hJ bu.o) aM.o.dg.sz ?_;intro g9 cap9 n9 bj aw bF aF bT;have o:=jl aM.o.bx aF (λc=>(aM.o.nr _ (.inr (.inl c))).2 rfl);have aJ:E _:=aM.o.vals aF bF aw (bT.imp id λe=>Nat.le_of_eq e.symm) (by intro u aB;rcases List.mem_append.1 aB with c|c;exact aM.o.dg.k u c;simp only[List.mem_singleton]at c;subst c;exact qr _) (eR bj ⟨w.heap.size+2,1,none⟩ (hz g9 n9 cap9) yac) (Ma o _);replace aw:E _:=aw;obtain⟨_,bD,aQ,a8,bG,f1,f2⟩:=o));go_wp2_with fail;go_roundw
   case rel=>
    refine⟨k+1,by omega,by go_num,some ⟨g9,0,none⟩,cap9,vs++[⟨1,(f:Int),0,0,0,floatOfInt .f64 (r:Int)⟩],by rw[List.map_append,HSV.o,mR,Y.o];rfl,?_⟩;have aP:=aJ.o;rw[aw.o]at aP;rw[aw.o];exact aP
   case measure=>simp[intOf];omega
  have ai:k=m:=xaa;rw[ai]at ao;have aI:E _:=D.fin ao;obtain⟨_,aY,aC,aL,_,_,_⟩:=D.bx;obtain⟨_,br,ay,a0,bG,f1,f2⟩:=D.rs;clear D ao ai;go_wp2_with fail;obtain⟨bn,aX,bb⟩:=fp wr w.heap.size _ _ _ br ay a0 (.slice none 0 0) (.slice U vs.length c2) (hz (w.heap.size+1) 1 1);exact yaz (v:=eZ none 0 0 U vs.length c2 (some ⟨w.heap.size+1,0,none⟩) 1 1) (by simp[results,results70,go_sem,bn,aX,bb]) rfl aI.o
theorem Ao:∀(vs:List Vl) (j q:Nat) (x:Value) (v':Vl),j<vs.length->q<6->v'.cells=(vs.getD j hF).cells.set q x->fF (vs.set j v')=(fF vs).set (j*6+q) x
 |u::r,0,q,x,v',_,ap,aO=>by
  have aB:u.cells.length=6:=rfl
  rw[List.set_cons_zero,fF,fF,Nat.zero_mul,Nat.zero_add,List.set_append_left _ _ (hL aB ap)]
  exact congrArg (· ++fF r) aO
 |u::r,j+1,q,x,v',hj,ap,aO=>by
  have aB:u.cells.length=6:=rfl
  rw[List.set_cons_succ,fF,fF,List.set_append_right _ _ (hN aB),aB,show(j+1)*6+q-6=j*6+q by omega,Ao r j q x _ (by simpa using hj) ap aO]
theorem DG.setV(f:DG w J u1 (hz g m c) u3 ins vs outs){v'}(hj:j<vs.length)(ap:q<6)(aO:v'.cells=(vs.getD j hF).cells.set q x)(O:v'.k<18446744073709551616):DG (w.setCell ⟨g,j*6+q,none⟩ x) J u1 (hz g m c) u3 ins (vs.set j v') outs:=by
 have e:=jy f.r2;subst e;have N:=(f.r2.stored (j*6+q) x).1;refine⟨eI f.r1 λh=>f.a12 _ h rfl,?_,eI f.r3 λh=>f.a23 _ rfl h,f.a12,f.a13,f.a23,λu aB=>?_,by simpa using f.sz⟩
 ·rw[List.length_set,Ao _ j q x _ hj ap aO];exact N
 rcases List.mem_or_eq_of_mem_set aB with c|c
 ·exact f.k u c
 grind
theorem bZ.qct(h:Zp:=by
 refine⟨p.keep aj (.inl xaa),⟨own aK.r1 λb hb=>(ad b (.inl hb)).2,own aK.r2 λb hb=>(ad b (.inr (.inl hb))).2,own aK.r3 λb hb=>(ad b (.inr (.inr hb))).2,aK.a12,aK.a13,aK.a23,aK.k,yao aK.sz aj.size⟩,hb,aD.kept aj xaa,aM,ap,ad,⟨aj.os.trans (bd.os.trans f.k0.os),aj.tape.trans (bd.tape.trans f.k0.tape),aj.output.trans (bd.output.trans f.k0.output),yao f.k0.size (yao bd.size aj.size),λb hb ad=>?_⟩⟩;exact xft):Zp:=h
open bZ in
theorem Dy.setG{W a5 a7 z l G S}(f:Dy C W P a n cap i bs H Q u1 u2 u3 ins vs outs)(bd:Chg S W I)(aW:∀b,S b->C.heap.size<=b/\b≠H/\b≠Q)(aK:DG I C.heap.size a5 a7 z l bi G)(ad:∀b,a5.ownBlock=some b\/a7.ownBlock=some b\/z.ownBlock=some b->b≠H/\b≠Q)(aj:Kept Q (Q+1) I bS)(hb:RB bS Q a5 a7 z):Dy C bS P a n cap i bs H Q a5 a7 z l bi G:=by
 have aM:=f.p0;have ap:=f.rq;have aD:=jl f.rs bd (λc=>(aW _ c).2.1 rfl);exact qcs
theorem Dy.outs_{W x}(f:Dy C W P a n cap i bs H Q u1 u2 u3 ins vs outs)(bd:Chg (λb=>u3.ownBlock=some b) W I)(ho:I.ownsRow C.heap.size 3 1 (hz g m c) m ((outs++[x]).map (Value.int .i64)))(am:m=(outs++[x]).length)(aJ:u3.ownBlock=some g\/g=W.heap.size):RB I Q u1 u2 u3/\Dy C (I.setCell ⟨Q,2,none⟩ (hz g m c)) P a n cap i bs H Q u1 u2 (hz g m c) ins vs (outs++[x]):=by
 have aT:∀b,u3.ownBlock=some b->C.heap.size<=b/\b≠H/\b≠Q:=λb hb=>⟨(eH f.dg.r3 hb).1,f.nr b (.inr (.inr hb))⟩
 have hb:=jl f.bx bd (λc=>(aT _ c).2.2 rfl);refine⟨hb,f.setG bd aT (f.dg.outs_ bd ho am (aJ.imp id λe=>Nat.le_of_eq e.symm)) ?_ (eR _ _ _ yac) (yj hb _).2⟩;rintro b (h|h|h)
 ·exact f.nr b (.inl h)
 ·exact f.nr b (.inr (.inl h))
 exact xge
theorem Dy.ins_{W x}(f:Dy C W P a n cap i bs H Q u1 u2 u3 ins vs outs)(bd:Chg (λb=>u1.ownBlock=some b) W I)(ho:I.ownsRow C.heap.size 3 1 (hz g m c) m ((ins++[x]).map (Value.int .i64)))(am:m=(ins++[x]).length)(aJ:u1.ownBlock=some g\/g=W.heap.size):RB I Q u1 u2 u3/\Dy C (I.setCell ⟨Q,0,none⟩ (hz g m c)) P a n cap i bs H Q (hz g m c) u2 u3 (ins++[x]) vs outs:=by
 have aT:∀b,u1.ownBlock=some b->C.heap.size<=b/\b≠H/\b≠Q:=λb hb=>⟨(eH f.dg.r1 hb).1,f.nr b (.inl hb)⟩
 have hb:=jl f.bx bd (λc=>(aT _ c).2.2 rfl);refine⟨hb,f.setG bd aT (f.dg.ins_ bd ho am (aJ.imp id λe=>Nat.le_of_eq e.symm)) ?_ (eR _ _ _ yac) (yj hb _).1⟩;rintro b (h|h|h)
 ·exact xge
 ·exact f.nr b (.inr (.inl h))
 exact f.nr b (.inr (.inr h))
theorem Dy.setV{W}(f:Dy C W P a n cap i bs H Q u1 (hz g m c) u3 ins vs outs){v'}(hj:j<vs.length)(ap:q<6)(aO:v'.cells=(vs.getD j hF).cells.set q x)(O:v'.k<18446744073709551616):Dy C (W.setCell ⟨g,j*6+q,none⟩ x) P a n cap i bs H Q u1 (hz g m c) u3 ins (vs.set j v') outs:=by
 have bd:=fC (S:=λb=>b=g) W g (j*6+q) x rfl;have aJ:C.heap.size<=g/\g≠H/\g≠Q:=⟨(eH f.dg.r2 rfl).1,f.nr g (.inr (.inl rfl))⟩
 exact f.setG bd (λb hb=>by omega) (f.dg.setV hj ap aO O) f.nr (Kept.refl _ _ _) (jl f.bx bd λc=>aJ.2.2 c.symm)
theorem Dy.box(f:DG w C.heap.size u1 u2 u3 ins vs outs)(K:RdF w P a n cap i bs)(hP:P<C.heap.size)(k:Kept P (P+1) C w):
  Dy C ((w.alloc (.cells #[u1,u2,u3] 26)).alloc fJ) P a n cap i bs (w.heap.size+1) w.heap.size u1 u2 u3 ins vs outs:=by
 obtain⟨S,aw⟩:=GrS.start f K hP;refine⟨S.rd,S.dg,S.bx,S.rs,hP,⟨hJ f.sz,f.sz,by omega⟩,λb hb=>?_,k.trans (e8 aw)⟩;have:=S.far b hb;omega
theorem Ff(h:j<vs.length):vs.getD j hF∈vs:=by
 simp_all
theorem svd(vs j):vd (vs.map sv) j=sv (vd vs j):=by
 exact xgt
theorem Dy.finS{W l S'}(f:Dy C W P a n cap i bs H Q (.slice a1 Z c1) (.slice U l c2) (.slice a3 ab c3) ins vs outs)(af:vs.length=l)(au:vs.map sv=S'):
  DgF C P a n cap bs ins S' outs i (.returned (eZ a1 Z c1 U l c2 a3 ab c3)) (fw W H (.slice a1 Z c1) (.slice U l c2) (.slice a3 ab c3)):=by
 subst af;exact f.fin au
def pO(k v j:Nat)(u:Vl):Vl:=
 if k=0 then {u with a:=j} else if k=1 then {u with b:=IntKind.i64.wrap (u.b-1)} else if k=2 then {u with c:=IntKind.i64.wrap (u.c+1)} else if k=3 then {u with len:=IntKind.i64.wrap (u.len+1)}
 else if k=4 then {u with op:=(v:Int)%17} else if k=8 then {u with k:=4619567317775286272} else if k=9 then {u with op:=-1} else u
def spI(k v:Nat)(ins:List Int):List Int:=if k=6 then ins++[(v:Int)%3*500]else if k=11 then ins++List.replicate (20+v%2-ins.length) 2 else ins
def spU(k v j n:Nat)(outs:List Int):List Int:=if k=5 then outs++[(n:Int)-(v:Int)%2]else if k=7 then outs++[-1]else if k=10 then outs++List.replicate (50+v%2-outs.length) (j:Int)else outs
def spM(ins:List Int)(S:List Vl)(outs:List Int)(bs:List Int)(i:Nat):List Int×List Vl×List Int:=
 if S.length=0 then (ins,S,outs) else
  (spI (nv bs i%12) (nv bs (ni bs i)) ins,S.set (nv bs (ni bs i)%S.length) (pO (nv bs i%12) (nv bs (ni bs i)) (nv bs (ni bs i)%S.length) (vd S (nv bs (ni bs i)%S.length))),spU (nv bs i%12) (nv bs (ni bs i)) (nv bs (ni bs i)%S.length) S.length outs)
theorem OU(k v j u):sv (pO k v j u)=pO k v j (sv u):=by
 have ax:fbz 4619567317775286272=4619567317775286272:=xab;unfold pO;repeat' split
 all_goals first|rfl|exact congrArg (Vl.mk _ _ _ _ _) ax
theorem OV(f:DG w C.heap.size (.slice a1 ins.length c1) (.slice U vs.length c2) (.slice a3 outs.length c3) ins vs outs)(K:RdF w P a n cap i bs)(hP:P<C.heap.size)(bq:Kept P (P+1) C w)(au:vs.map sv=S)(ad:vs.length<=100000)(hi:ins.length<=1000)(ho:outs.length<=1000):
  Calls prog 72 #[eZ a1 ins.length c1 U vs.length c2 a3 outs.length c3,hy P] w (DgF C P a n cap bs (spM ins S outs bs i).1 (spM ins S outs bs i).2.1 (spM ins S outs bs i).2.2 (ni bs (ni bs i))):=by
 have aW:E _:=Dy.box f K hP bq;have cA:=ib K.ys i;have b4:=ib K.ys (ni bs i);have av:S.length=vs.length:=by grind
 have HSV:E _:=au;have aA:E _:=hB hi ho;clear f K bq au hi ho;go_enter func72,ntmps72;go_wp2_with fail;generalize (w.alloc _).alloc _=W0 at aW⊢;refine yaj aW.o.next ?_;rintro e az ⟨rfl,(ae:E _)⟩;clear aW;go_wp2_with fail;refine yaj ae.o.next ?_;rintro e bS ⟨rfl,(HD:E _)⟩;clear ae;have bd:spM ins S outs bs i=spM ins S outs bs i:=rfl;conv at bd=>rhs;unfold spM;rw[av]
 by_cases al:vs.length=0
 ·rw[hD al]at bd;have aI:E _:=HD.o.fin HSV.o;have aV:E _:=bd;clear bd;obtain⟨_,aY,aC,aL,_,_,_⟩:=HD.o.bx;obtain⟨_,br,ay,a0,bZ,b5,b6⟩:=HD.o.rs;generalize vs.length=l at al aI aY aC aL;have a2:(l:Int)<=0:=xaa;clear al;go_wp2_with fail;obtain⟨bK,bu,p2⟩:=fp _ _ _ _ _ br ay a0 (.slice a1 ins.length c1) (.slice U l c2) (.slice a3 outs.length c3);exact yaz (v:=eZ a1 ins.length c1 U l c2 a3 outs.length c3) (by simp[results,results72,go_sem,bK,bu,p2]) rfl (hL aV.o aI.o)
 rw[hC al]at bd;have X:nv bs (ni bs i)%vs.length<vs.length:=Nat.mod_lt _ xaa;have aZ:(nv bs _:Int).tmod (vs.length:Int)=(nv bs (ni bs i)%vs.length:Nat):=rfl;have aT:(nv bs (ni bs i):Int)%vs.length=(nv bs (ni bs i)%vs.length:Nat):=xaa;have a9:(nv bs i:Int)%12=(nv bs i%12:Nat):=xaa;have a5:nv bs i%12<12:=Nat.mod_lt _ xaa;generalize nv bs _%vs.length=j at X aZ aT bd;generalize nv bs i%12=k at a9 a5 bd⊢;generalize nv bs (ni bs i)=v at b4 aZ aT bd⊢;have bL:¬vs=[]:=λe=>by grind
 obtain⟨g,ce,aK,_,b8,a7⟩:=jN HD.o.dg.r2 rfl X;cases aK;have ah:E _:=HD.o.dg.k _ (Ff X);have aV:E _:=bd;clear bd;obtain⟨u,aB⟩:∃u,vs.getD j hF=u:=⟨_,rfl⟩
 have N:E _:=aB;rw[aB]at a7 ah;have aS:E (vs.set j u=vs):=by show _=_;rw[<-aB];simp[X]
 have bY:E ((vs.set j (pO k v j u)).map sv=S.set j (pO k v j (vd S j))):=by
  show _=_;rw[List.map_set,HSV.o,OU,<-aB,<-HSV.o];exact congrArg _ (congrArg _ (svd vs j).symm)
 obtain⟨ai,r,ak,aq,aR,ag⟩:=u;obtain⟨ba,aP,y2,y3,y4,ck⟩:=a7;have aN:∀o,_:=λo=>HD.o.dg.r2.frozenAt o;obtain⟨_,aY,aC,aL,_,_,_⟩:=HD.o.bx;have bv:((vs.length:Int)==0)=false:=yan xaa;clear aB;go_upto_if 24 with fail
 clear aY aC aL;go_cut [] from 23 to 152 (λcd=>∃R m1 aH aa m3 Y,E (Dy C cd P a n cap (ni bs (ni bs i)) bs (w.heap.size+1) w.heap.size (.slice R m1 aH) (hz g vs.length c2) (.slice aa m3 Y) (spI k v ins) (vs.set j (pO k v j ⟨ai,r,ak,aq,aR,ag⟩)) (spU k v j vs.length outs)))
 case first=>
  obtain⟨_,aY,aC,aL,_,_,_⟩:=HD.o.bx;have bO:=λq x v' F=>HD.o.setV (q:=q) (x:=x) (v':=v') X F;rw[show vs.getD j hF=_ from N.o]at bO;have bH:E _:=bO;clear bO;have ax:(4619567317775286272:Nat)<18446744073709551616:=xab;rcases (by omega:k=0\/k=1\/k=2\/k=3\/k=4\/k=5\/k=6\/k=7\/k=8\/k=9\/k=10\/k=11) with rfl|rfl|rfl|rfl|rfl|rfl|rfl|rfl|rfl|rfl|rfl|rfl
  ·have f:=aN (j*6+2);go_wp2_with fail;go_meet;exact⟨_,_,_,_,_,_,bH.o 2 _ _ xab rfl ah.o⟩
  ·have f:=aN (j*6+3);go_upto_region 9 with fail;go_region_law (fail)
   all_goals
    go_wp2_with fail
    go_meet
    exact⟨_,_,_,_,_,_,(bH.o 3 (.int _ (IntKind.i64.wrap (aq-1))) (pO 1 v j ⟨ai,r,ak,aq,aR,ag⟩) xab rfl ah.o).keep (eG _)⟩
  ·have f:=aN (j*6+4);go_upto_region 11 with fail;go_region_law (fail)
   all_goals
    go_wp2_with fail
    go_meet
    exact⟨_,_,_,_,_,_,(bH.o 4 (.int _ (IntKind.i64.wrap (aR+1))) (pO 2 v j ⟨ai,r,ak,aq,aR,ag⟩) xab rfl ah.o).keep (eG _)⟩
  ·have f:=aN (j*6+1);go_upto_region 13 with fail;go_region_law (fail)
   all_goals
    go_wp2_with fail
    go_meet
    exact⟨_,_,_,_,_,_,(bH.o 1 (.int _ (IntKind.i64.wrap (r+1))) (pO 3 v j ⟨ai,r,ak,aq,aR,ag⟩) xab rfl ah.o).keep (eG _)⟩
  ·exact xgv
  ·obtain⟨y,bN⟩:∃y:Int,(vs.length:Int)-v%2=y:=⟨_,rfl⟩
   have b9:E _:=bN;have s:=HD.o.keep (ez 0 0 _ (.cells #[hA y] 3));have aD:=s.dg.r3;have aM:E _:=s;have z:=aA.o.2;clear s;go_wp2_with (first|(at_builtin;refine fZ _ rfl _ _ rfl _ _ _ rfl aD _ y rfl xac xaa aM.o.dg.sz ?_;intro g9 cap9 n9 bj aw bF aF bT;obtain⟨⟨_,bD,aQ,a8,bG,f1,f2⟩,(aJ:E _)⟩:=aM.o.outs_ aF bF aw bT;clear aw bF aF bT));go_meet;refine⟨a1,ins.length,c1,some ⟨g9,0,none⟩,n9,cap9,?_⟩;rw[show vs.set j (pO 5 v j ⟨ai,r,ak,aq,aR,ag⟩)=vs from aS.o,show spU 5 v j vs.length outs=outs++[y] by rw[<-b9.o];rfl];exact aJ
  ·obtain⟨y,bN⟩:∃y:Int,(v:Int)%3*500=y:=⟨_,rfl⟩
   have b9:E _:=bN;have s:=HD.o.keep (ez 0 0 _ (.cells #[hA y] 3));have aD:=s.dg.r1;have aM:E _:=s;have z:=aA.o.1;clear s;go_wp2_with (first|(at_builtin;refine fZ _ rfl _ _ rfl _ _ _ rfl aD _ y rfl xac xaa aM.o.dg.sz ?_;intro g9 cap9 n9 bj aw bF aF bT;obtain⟨⟨_,bD,aQ,a8,bG,f1,f2⟩,(aJ:E _)⟩:=aM.o.ins_ aF bF aw bT;clear aw bF aF bT));go_meet;refine⟨some ⟨g9,0,none⟩,n9,cap9,a3,outs.length,c3,?_⟩;rw[show vs.set j (pO 6 v j ⟨ai,r,ak,aq,aR,ag⟩)=vs from aS.o,show spI 6 v ins=ins++[y] by rw[<-b9.o];rfl];exact aJ
  ·have s:=HD.o.keep (ez 0 0 _ (.cells #[hA (-1)] 3));have aD:=s.dg.r3;have aM:E _:=s;have z:=aA.o.2;clear s;go_wp2_with (first|(at_builtin;refine fZ _ rfl _ _ rfl _ _ _ rfl aD _ (-1) rfl xac xaa aM.o.dg.sz ?_;intro g9 cap9 n9 bj aw bF aF bT;obtain⟨⟨_,bD,aQ,a8,bG,f1,f2⟩,(aJ:E _)⟩:=aM.o.outs_ aF bF aw bT;clear aw bF aF bT));go_meet;refine⟨a1,ins.length,c1,some ⟨g9,0,none⟩,n9,cap9,?_⟩;rw[show vs.set j (pO 7 v j ⟨ai,r,ak,aq,aR,ag⟩)=vs from aS.o];exact aJ
  ·have f:=aN (j*6+5);go_wp2_with fail;go_meet;exact⟨_,_,_,_,_,_,bH.o 5 _ _ xab rfl ax⟩
  ·exact xgv
  ·have am:50+(v:Int)%2=(50+v%2:Nat):=xaa;have aU:50+v%2<=60:=xaa;have ao:E (∀m,m=50+v%2->spU 10 v j vs.length outs=outs++List.replicate (m-outs.length) (j:Int)):=λm h=>by rw[h];rfl
   generalize z:50+v%2=p at am aU;have HL:E _:=hB z am;have bc:=aA.o;clear z aY aC aL;go_wp2_with fail;go_loopg [] p (λq W=>∃(l:Nat) (xs:List Int) (bI:Option Addr) (bV:Nat),p-l<=q/\E (xs.length=l/\∃aj,xs=outs++List.replicate aj (j:Int)/\aj<=p-outs.length)/\E (Dy C W P a n cap (ni bs (ni bs i)) bs (w.heap.size+1) w.heap.size (.slice a1 ins.length c1) (hz g vs.length c2) (.slice bI l bV) ins vs xs))
   case atStart=>exact⟨_,outs,_,_,Nat.sub_le _ _,⟨rfl,0,by simp,yae⟩,HD⟩
   case round=>
    obtain⟨l,xs,bI,bV,ap,ar,HE⟩:=hrel;obtain⟨af,aj,an,O⟩:=ar.o;have ca:l=outs.length+aj:=by rw[<-af,an];simp
    have am:=HL.o.2;have b1:l<=2000:=xaa;obtain⟨_,aY,aC,aL,_,_,_⟩:=HE.o.bx;by_cases aG:l<p
    ·have s:=HE.o.keep (ez 0 0 _ (.cells #[hA j] 3));have aD:=s.dg.r3;have aM:E _:=s;have bm:E (l+1=(xs++[(j:Int)]).length/\xs++[(j:Int)]=outs++List.replicate (aj+1) (j:Int)/\aj+1<=p-outs.length):=⟨by simp[af],by rw[an,List.append_assoc,List.replicate_succ'],by omega⟩
     clear s af an O ca;go_upto_region 28 with fail;go_wp2_with (first|(at_builtin;refine fZ _ rfl _ _ rfl _ _ _ rfl aD _ (j:Int) rfl xac (hJ ar.o.1) aM.o.dg.sz ?_;intro g9 cap9 n9 bj aw bF aF bT;obtain⟨⟨_,bD,aQ,a8,bG,f1,f2⟩,(aJ:E _)⟩:=aM.o.outs_ aF bF aw bT;have G:E _:=aw;clear aw bF aF bT));exact xfb
    have HK:E (xs=outs++List.replicate (p-outs.length) (j:Int)):=by show _=_;rw[an,show aj=p-outs.length by omega]
    clear af an O ca;go_wp2_with fail;go_meet;refine⟨a1,ins.length,c1,bI,l,bV,?_⟩;rw[show vs.set j (pO 10 v j ⟨ai,r,ak,aq,aR,ag⟩)=vs from aS.o,ao.o p HL.o.1.symm,<-HK.o];exact HE
  have am:20+(v:Int)%2=(20+v%2:Nat):=xaa;have aU:20+v%2<=60:=xaa;have ao:E (∀m,m=20+v%2->spI 11 v ins=ins++List.replicate (m-ins.length) 2):=λm h=>hO h
  generalize z:20+v%2=p at am aU;have HL:E _:=hB z am;have bc:=aA.o;clear z aY aC aL;go_wp2_with fail;go_loopg [] p (λq W=>∃(l:Nat) (xs:List Int) (bI:Option Addr) (bV:Nat),p-l<=q/\E (xs.length=l/\∃aj,xs=ins++List.replicate aj 2/\aj<=p-ins.length)/\E (Dy C W P a n cap (ni bs (ni bs i)) bs (w.heap.size+1) w.heap.size (.slice bI l bV) (hz g vs.length c2) (.slice a3 outs.length c3) xs vs outs))
  case atStart=>exact⟨_,ins,_,_,Nat.sub_le _ _,⟨rfl,0,by simp,yae⟩,HD⟩
  case round=>
   obtain⟨l,xs,bI,bV,ap,ar,HE⟩:=hrel;obtain⟨af,aj,an,O⟩:=ar.o;have ca:l=ins.length+aj:=by rw[<-af,an];simp
   have am:=HL.o.2;have b1:l<=2000:=xaa;obtain⟨_,aY,aC,aL,_,_,_⟩:=HE.o.bx;by_cases aG:l<p
   ·have s:=HE.o.keep (ez 0 0 _ (.cells #[hA 2] 3));have aD:=s.dg.r1;have aM:E _:=s;have bm:E (l+1=(xs++[2]).length/\xs++[2]=ins++List.replicate (aj+1) 2/\aj+1<=p-ins.length):=⟨by simp[af],by rw[an,List.append_assoc,List.replicate_succ'],by omega⟩
    clear s af an O ca;go_upto_region 30 with fail;go_wp2_with (first|(at_builtin;refine fZ _ rfl _ _ rfl _ _ _ rfl aD _ 2 rfl xac (hJ ar.o.1) aM.o.dg.sz ?_;intro g9 cap9 n9 bj aw bF aF bT;obtain⟨⟨_,bD,aQ,a8,bG,f1,f2⟩,(aJ:E _)⟩:=aM.o.ins_ aF bF aw bT;have G:E _:=aw;clear aw bF aF bT));exact xfb
   have HK:E (xs=ins++List.replicate (p-ins.length) 2):=by show _=_;rw[an,show aj=p-ins.length by omega]
   clear af an O ca;go_wp2_with fail;go_meet;refine⟨bI,l,bV,a3,outs.length,c3,?_⟩;rw[show vs.set j (pO 11 v j ⟨ai,r,ak,aq,aR,ag⟩)=vs from aS.o,ao.o p HL.o.1.symm,<-HK.o];exact HE
 case rest=>
  obtain⟨R,m1,aH,aa,m3,Y,bl⟩:=hcut;have aI:E _:=bl.o.finS (List.length_set ..) bY.o;obtain⟨_,bn,aX,bb,_,_,_⟩:=bl.o.bx;obtain⟨_,br,ay,a0,bZ,b5,b6⟩:=bl.o.rs;go_wp2_with fail;obtain⟨bK,bu,p2⟩:=fp _ _ _ _ _ br ay a0 (.slice R m1 aH) (hz g vs.length c2) (.slice aa m3 Y);exact yaz (v:=eZ R m1 aH (some ⟨g,0,none⟩) vs.length c2 aa m3 Y) (by simp[results,results72,go_sem,bK,bu,p2]) rfl (hL aV.o aI.o)
theorem Dy.fresh(aD:RB az w.heap.size iz iz iz)(hP:P<w.heap.size)(aw:Kept P (P+1) w az)(d:DG bS az.heap.size u1 u2 u3 ins vs outs)(aM:RdF bS P a n cap i bs)(ak:Kept P (P+1) az bS):
  Dy w (bS.alloc (.cells #[u1,u2,u3] 26)) P a n cap i bs w.heap.size bS.heap.size u1 u2 u3 ins vs outs:=by
 have bh:=ez 0 0 bS (.cells #[u1,u2,u3] 26);have hb:=sr (S:=λ_=>False) bS _ #[u1,u2,u3] 26 (hI).chg (λc=>c);have F:=aD.sz;have N:=ak.size;refine⟨aM.keep0 bh,(d.keep bh).mono xaa,⟨hb.2.2,hb.1 0,hb.1 1,hb.1 2,hb.2.1 0,hb.2.1 1,hb.2.1 2⟩,(aD.kept ak xaa).keep bh,hP,⟨yad,by omega,by omega⟩,?_,(aw.trans ak).trans (e8 bh)⟩;rintro b (h|h|h)
 ·have:=eH d.r1 h;omega
 ·have:=eH d.r2 h;omega
 have:=eH d.r3 h;omega
theorem DgF.up(aD:RB az w.heap.size iz iz iz)(hP:P<w.heap.size)(aw:Kept P (P+1) w az)(au:vs.map sv=S)(d:DG bS az.heap.size (.slice a1 ins.length c1) (.slice U vs.length c2) (.slice a3 outs.length c3) ins vs outs)(aM:RdF bS P a n cap i bs)(ak:Kept P (P+1) az bS):
  RB bS w.heap.size iz iz iz/\DgF w P a n cap bs ins S outs i (.returned (eZ a1 ins.length c1 U vs.length c2 a3 outs.length c3)) (fw bS w.heap.size (.slice a1 ins.length c1) (.slice U vs.length c2) (.slice a3 outs.length c3)):=by
 have aj:=ft bS w.heap.size (.slice a1 ins.length c1) (.slice U vs.length c2) (.slice a3 outs.length c3);have F:=aD.sz;have N:=aw.size;have h3:=ak.size;refine⟨aD.kept ak xaa,_,_,_,_,_,_,_,rfl,au,(d.kept aj xaa).mono xaa,aM.keep aj (.inl xaa),⟨aj.os.trans (ak.os.trans aw.os),aj.tape.trans (ak.tape.trans aw.tape),aj.output.trans (ak.output.trans aw.output),yao N (yao h3 aj.size),λb hb ad=>?_⟩⟩;refine(aj.block b xaa xaa).trans ?_;exact(aw.trans ak).block b hb ad
theorem CP(bs ins m):∀f k S p,(gwL bs ins m f k S p).1.length<=S.length+f
 |0,_,S,_=>by rw[gwL];grind
 |f+1,k,S,p=>by
  rw[gwL]
  split
  ·have:=CP bs ins m f (k+1) (S++[(gwM ins S bs p).1]) (gwM ins S bs p).2
   grind
  grind
theorem Ap(bs i):(dgI bs i).1.length<=3/\(dgG bs i).1.length<=28/\(dgO bs i).1.length<=4:=by
 grind[qK,CP,dgI,uA,dgG,dgO]
def qL(bs:List Int)(i:Nat):List Int×List Vl×List Int×Nat:=
 if nv bs i%40=0 then ([],mR 1 (1999+nv bs (ni bs i)%3),[0],ni bs (ni bs i))
 else if nv bs i%40=1 then (if nv bs (ni bs i)%2=1 then ([],mR 1000 50++[⟨1,1,0,0,0,0⟩],[0],ni bs (ni bs i))else ([],mR 1000 50,[0],ni bs (ni bs i)))
 else if nv bs i%40<8 then ((spM (dgI bs (ni bs i)).1 (dgG bs (ni bs i)).1 (dgO bs (ni bs i)).1 bs (dgO bs (ni bs i)).2).1,(spM (dgI bs (ni bs i)).1 (dgG bs (ni bs i)).1 (dgO bs (ni bs i)).1 bs (dgO bs (ni bs i)).2).2.1,(spM (dgI bs (ni bs i)).1 (dgG bs (ni bs i)).1 (dgO bs (ni bs i)).1 bs (dgO bs (ni bs i)).2).2.2,ni bs (ni bs (dgO bs (ni bs i)).2))
 else ((dgI bs (ni bs i)).1,(dgG bs (ni bs i)).1,(dgO bs (ni bs i)).1,(dgO bs (ni bs i)).2)
abbrev DgT(w:World)(P:Nat)(a:Option Addr)(n cap:Nat)(bs:List Int)(T:List Int×List Vl×List Int×Nat):Ending->World->Prop:=DgF w P a n cap bs T.1 T.2.1 T.2.2.1 T.2.2.2
theorem QC(K:RdF w P a n cap i bs):
  Calls prog 40 #[hy P] w (DgT w P a n cap bs (qL bs i)):=by
 have an:=ib K.ys i;have b4:=ib K.ys (ni bs i);have hP:=K.lt;have bh:=ez 0 0 w fJ;have bm:E _:=iX _ P a n _ i _ (K.keep0 bh);have bl:E (∀T,qL _ i=T->∀e B,DgT w P a n cap bs T e _->DgT w P a n _ _ (qL bs i) e B):=λT h e B d=>hL h d
 have s:E _:=bh;clear K bh;go_enter func40,ntmps40;go_wp2_with fail;refine yaj bm.o ?_;rintro e az ⟨rfl,(aj:E _),aw,cI⟩;have bX:E _:=(e8 s.o).trans aw;have ar:E (RB _ _ iz iz iz):=(iN w).kept aw xaa;clear aw cI s bm;by_cases c0:nv bs i%40=0
 ·have HE:E (qL bs i=([],mR 1 (1999+nv bs (ni bs i)%3),[0],ni bs (ni bs i))):=by show _=_;unfold qL;grind
  have au:(nv bs i:Int)%40=0:=xaa;have aK:1999+(nv bs (ni bs i):Int)%3=(1999+nv bs (ni bs i)%3:Nat):=xaa;have l:1999+nv bs (ni bs i)%3<=3000:=xaa;clear c0;go_wp2_with fail;refine yaj (iX _ _ _ _ _ _ _ aj.o) ?_;rintro e bS ⟨rfl,R2,ak,ch⟩;have bB:E _:=bX.o.trans ak;have y:E _:=ar.o.kept ak xaa;have bq:E _:=Nd R2 _ 1 l;clear R2 ak ch;generalize 1999+nv bs _%3=m at aK bq HE l;go_wp2_with fail;refine yaj bq.o ?_;rintro e aB ⟨a1,c1,U,c2,a3,c3,vs,rfl,ao,d,aM,aR⟩;obtain⟨hb,(HF:E _)⟩:=DgF.up y.o hP bB.o ao d aM aR;obtain⟨_,br,ay,a0,bZ,b5,b6⟩:=hb;clear ao d aM aR;rw[show([]:List _).length=0 from rfl,show([0]:List Int).length=1 from rfl]at HF⊢;go_wp2_with fail;obtain⟨bK,bu,p2⟩:=fp _ _ _ _ _ br ay a0 (.slice a1 0 c1) (.slice U vs.length c2) (.slice a3 1 c3);exact yaz (v:=eZ a1 0 c1 U vs.length c2 a3 1 c3) (by simp[results,results40,go_sem,bK,bu,p2]) rfl (bl.o _ HE.o _ _ HF.o)
 by_cases c1:nv bs i%40=1
 ·have ai:(nv bs i:Int)%40=1:=xaa;have bq:E _:=Nd aj.o 50 1000 xaa;have r:E (nv bs _%2=1->qL _ i=([],mR _ _++[⟨1,1,0,0,0,0⟩],[0],ni bs _)):=λh=>by unfold qL;rw[hC c0,hD c1,hD h]
  have al:E (¬nv bs _%2=1->qL _ i=([],mR _ _,[0],ni bs _)):=λh=>by unfold qL;rw[hC c0,hD c1,hC h]
  clear c0 c1;go_wp2_with fail;refine yaj bq.o ?_;rintro e aB ⟨a1,c1,U,c2,a3,c3,vs,rfl,(HSV:E _),d,aM,aR⟩;have HD:E _:=Dy.fresh ar.o hP bX.o d aM aR;have cq:vs.length<=100000:=by have:=HSV.o;grind[rC]
  clear d aM aR;rw[show([]:List _).length=0 from rfl,show([0]:List Int).length=1 from rfl]at HD⊢;go_wp2_with fail;generalize aB.alloc _=bc at HD⊢;generalize aB.heap.size=Q at HD⊢;refine yaj HD.o.next ?_;rintro e aW ⟨rfl,af⟩;replace HD:E _:=af;clear af;by_cases N:nv bs (ni bs i)%2=1
  ·have cA:(nv bs (ni bs i):Int)%2=1:=xaa;have HF:E (∀aF,Kept 0 0 _ aF->_):=λaF bU=>HD.o.put bU (eK 1 1 0 0 0) (Nat.zero_lt_succ _) cq;obtain⟨_,bD,aQ,a8,bG,f1,f2⟩:=HD.o.bx;go_upto_region 8 with fail
   go_region_with (first
    |(go_at_call 44;refine yaj (HF.o _ ((eG _).trans bQ)) ?_;rintro e ag ⟨aq,cap',rfl,aA,av⟩;obtain⟨_,br,ay,a0,bZ,b5,b6⟩:=aA)
    |(go_at_call 71;refine yaj (oT _ _) ?_;rintro e aF ⟨rfl,bQ⟩;obtain⟨_,aZ,ax,aU,_,_,_⟩:=(HD.o.keep ((eG _).trans bQ)).bx))
   all_goals
    have ad:E _:=av
    have aI:E _:=av.finS (S':=mR _ _++[⟨1,1,0,0,0,0⟩]) (by rw[yal];rfl) (by rw[List.map_append,HSV.o];rfl)
    clear av
    go_upto_region 9 with fail
    rw[show((ag.setCell _ _).setCell ⟨Q,1,_⟩ _).setCell _ _=fw _ Q _ _ _ from rfl]
    generalize fw _ Q _ _ _=ap at ad aI⊢
    obtain⟨_,bn,aX,bb,_,_,_⟩:=ad.o.bx
    obtain⟨_,u0,u1,u2,p,u,v⟩:=ad.o.rs
    go_wp2_with fail
    obtain⟨bK,bu,p2⟩:=fp _ _ _ _ _ u0 u1 u2 (.slice a1 0 c1) (hz aq (vs.length+1) cap') (.slice a3 1 c3)
    exact yaz (v:=eZ a1 0 c1 (some ⟨aq,0,none⟩) (vs.length+1) cap' a3 1 c3) (by simp[results,results40,go_sem,bK,bu,p2]) rfl (bl.o _ (r.o N) _ _ aI.o)
  have cA:¬(nv bs (ni bs i):Int)%2=1:=xaa;have aI:E _:=HD.o.fin HSV.o;obtain⟨_,bn,aX,bb,_,_,_⟩:=HD.o.bx;obtain⟨_,u0,u1,u2,p,u,v⟩:=HD.o.rs;go_wp2_with fail;obtain⟨bK,bu,p2⟩:=fp _ _ _ _ _ u0 u1 u2 (.slice a1 0 c1) (.slice U vs.length c2) (.slice a3 1 c3);exact yaz (v:=eZ a1 0 c1 U vs.length c2 a3 1 c3) (by simp[results,results40,go_sem,bK,bu,p2]) rfl (bl.o _ (al.o N) _ _ aI.o)
 have au:¬(nv bs i:Int)%40=0:=xaa;have ai:¬(nv bs i:Int)%40=1:=xaa;have be:E _:=I4 aj.o;have F:E _:=Ap bs (ni bs i);have r:E (nv _ i%40<8->qL _ i=((spM _ _ _ _ _).1,(spM _ _ _ _ _).2.1,(spM _ _ _ _ _).2.2,ni bs _)):=λh=>by unfold qL;rw[hC c0,hC c1,hD h]
 have al:E (¬nv _ i%40<8->qL _ i=((dgI bs _).1,(dgG bs _).1,(dgO bs _).1,(dgO bs _).2)):=λh=>by unfold qL;rw[hC c0,hC c1,hC h]
 clear c0 c1;generalize (dgI bs _).1=ah at be F r al;generalize (dgG bs _).1=am at be F r al;generalize dgO bs _=ae at be F r al;go_wp2_with fail;refine yaj be.o ?_;rintro e aB ⟨a1,c1,U,c2,a3,c3,vs,rfl,(HSV:E _),d,aM,aR⟩;have HD:E _:=Dy.fresh ar.o hP bX.o d aM aR;have cq:vs.length<=100000:=by have aP:=congrArg List.length HSV.o;have:=F.o;rw[List.length_map]at aP;omega
 have aL:=ez 0 0 aB (.cells #[.slice a1 ah.length c1,.slice U vs.length c2,.slice a3 ae.1.length c3] 26);have f:E _:=OV (d.keep aL) (aM.keep0 aL) (yak hP bX.o.size) (aR.trans (e8 aL)) HSV.o cq (hJ F.o) (hJ F.o);clear d aM aR aL be;by_cases cn:nv bs i%40<8
 ·have z:(nv bs i:Int)%40<8:=xaa;obtain⟨_,bn,aX,bb,_,_,_⟩:=HD.o.bx;generalize bd:spM _ _ _ _ _=T at f r;clear bd;go_wp2_with fail;refine yaj f.o ?_;rintro e aF ⟨R,aH,aS,bf,aa,Y,us,rfl,o,d,aM,bU⟩;obtain⟨hb,(HF:E _)⟩:=DgF.up ar.o hP bX.o o d aM bU;obtain⟨_,br,ay,a0,bZ,b5,b6⟩:=hb;clear o d aM bU bn aX bb;go_wp2_with fail;obtain⟨bK,bu,p2⟩:=fp _ _ _ _ _ br ay a0 (.slice R T.1.length aH) (.slice aS us.length bf) (.slice aa T.2.2.length Y);exact yaz (v:=eZ R T.1.length aH aS us.length bf aa T.2.2.length Y) (by simp[results,results40,go_sem,bK,bu,p2]) rfl (bl.o _ (r.o cn) _ _ HF.o)
 have z:¬(nv bs i:Int)%40<8:=xaa;have aI:E _:=HD.o.fin HSV.o;obtain⟨_,bn,aX,bb,_,_,_⟩:=HD.o.bx;obtain⟨_,u0,u1,u2,p,u,v⟩:=HD.o.rs;clear f;go_wp2_with fail;obtain⟨bK,bu,p2⟩:=fp _ _ _ _ _ u0 u1 u2 (.slice a1 ah.length c1) (.slice U vs.length c2) (.slice a3 ae.1.length c3);exact yaz (v:=eZ a1 ah.length c1 U vs.length c2 a3 ae.1.length c3) (by simp[results,results40,go_sem,bK,bu,p2]) rfl (bl.o _ (al.o cn) _ _ aI.o)
end
section
def I5(ins:List Int):Prop:=∀k,k<ins.length->1<=ins.getD k 0/\ins.getD k 0<=1000
theorem Aq{bs ins}(hi:I5 ins)(m):∀f k S p,LenS S->LenS (gwL bs ins m f k S p).1
 |0,_,S,_,h=>by rw[gwL];exact h
 |f+1,k,S,p,h=>by
  rw[gwL]
  split
  ·exact Aq hi m f _ _ _ (h.snoc (yi hi h))
  ·exact h
theorem I6(bs i):LenS (dgG bs i).1/\I5 (dgI bs i).1:=
 have h:=rB bs (ni bs i) (nv bs i%4)
 ⟨Aq h.2 _ _ _ _ _ h.1,h.2⟩
def stM(ins:List Int)(base:Nat)(bs:List Int)(s:List Vl×Nat):List Vl×Nat:=
 let c:=nv bs s.2
 let d:=nv bs (ni bs s.2)
 let j:=ni bs (ni bs s.2)
 let x:=d%s.1.length
 let m:=(vd s.1 x).len
 if c%8=0 then (s.1++[eK 6 m x 0 0],j)
 else if c%8=1 then (s.1++[eK 6 m x 0 0]++[eK 6 m s.1.length 0 0],j)
 else if c%8=2 then (s.1++[vd s.1 x],j)
 else if m=1/\c%8<6 then (s.1++[if c%2=1 then eK ([2,3,4,5,7].getD (c/8%5) 0) 1 x ((base+d/8%6:Nat):Int) 0 else eK ([2,3,4,5,7].getD (c/8%5) 0) 1 ((base+d/8%6:Nat):Int) x 0],j)
 else if c%8=6 then (s.1++[eK 10 2 ((base+d/8%6:Nat):Int) 0 0]++[eK 12 2 ((base+d/4%6:Nat):Int) 0 ((d%2:Nat):Int)],j)
 else (s.1++[(gwM ins s.1 bs j).1],(gwM ins s.1 bs j).2)
def lpM(ins:List Int)(base:Nat)(bs:List Int)(s:List Vl×Nat):Nat->List Vl×Nat
 |0=>s
 |k+1=>if (lpM ins base bs s k).2<bs.length then stM ins base bs (lpM ins base bs s k)else lpM ins base bs s k
def ksM(k:Nat):Nat:=fb (([4607182418800017408,0,9223372036854775808,4611686018427387904,cop .quo 0 0,cop .quo 4607182418800017408 0]:List Nat).getD k 0)
def csM(S:List Vl)(k:Nat):List Vl:=S++(List.range k).map λj=>⟨1,1,0,0,0,ksM j⟩
def rsL(bs:List Int)(i:Nat):List Vl×Nat:=lpM (dgI bs i).1 (dgG bs i).1.length bs (csM (dgG bs i).1 6,(dgO bs i).2) 14
def rsT(bs:List Int)(i:Nat):List Int×List Vl×List Int×Nat:=((dgI bs i).1,(rsL bs i).1,(dgO bs i).1++[((rsL bs i).1.length:Int)-1]++[((rsL bs i).1.length:Int)-2],(rsL bs i).2)
theorem Mc(ins base bs s):(stM ins base bs s).1.length<=s.1.length+2/\s.1.length<=(stM ins base bs s).1.length:=by
 grind[stM]
theorem BN(ins base bs s):∀k,(lpM ins base bs s k).1.length<=s.1.length+2*k/\s.1.length<=(lpM ins base bs s k).1.length
 |0=>⟨yad,yad⟩
 |k+1=>by
  have h:=BN ins base bs s k
  grind[Mc,lpM]
theorem Md(ins base bs s){k}(O:k<=14)(h:k=14\/¬(lpM ins base bs s k).2<bs.length):lpM ins base bs s 14=lpM ins base bs s k:=by
 rcases h with rfl|h
 ·rfl
 have:∀m,lpM ins base bs s (k+m)=lpM ins base bs s k:=by
  intro m;induction m with
  |zero=>rfl
  |succ m G=>rw[<-Nat.add_assoc,lpM,G,hC h]
 have e:=this (14-k);grind
theorem As(S k):csM S (k+1)=csM S k++[⟨1,1,0,0,0,ksM k⟩]:=by simp_all[csM,List.range_succ]
theorem CQ{S}(h:LenS S):∀k,LenS (csM S k)
 |0=>by rw[csM];grind
 |k+1=>by rw[As];exact(CQ h k).snoc ⟨show 1<=1 by decide,show 1<=1000 by decide⟩
theorem Me{ins bs base s}(hi:I5 ins)(h:LenS s.1)(al:0<s.1.length):LenS (stM ins base bs s).1:=by
 have an:=h (nv bs (ni bs s.2)%s.1.length) (Nat.mod_lt _ al);have F:1<=(1:Int)/\(1:Int)<=1000:=xab;have N:1<=(2:Int)/\(2:Int)<=1000:=xab;unfold stM;simp only;(repeat' split)<;>simp only
 ·exact h.snoc an
 ·exact(h.snoc (v:=eK 6 _ _ 0 0) an).snoc an
 ·exact h.snoc an
 ·exact h.snoc F
 ·exact h.snoc F
 ·exact(h.snoc N).snoc N
 exact h.snoc (yi hi h)
theorem yl{ins bs base s}(hi:I5 ins)(h:LenS s.1)(al:0<s.1.length):∀k,LenS (lpM ins base bs s k).1
 |0=>h
 |k+1=>by
  rw[lpM]
  split
  ·exact Me hi (yl hi h al k) (yak al (BN _ _ _ s k).2)
  ·exact yl hi h al k
