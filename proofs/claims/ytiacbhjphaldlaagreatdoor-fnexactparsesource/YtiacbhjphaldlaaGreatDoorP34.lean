import Derived.Test.YtiacbhjphaldlaaGreatDoorP33
import Derived.Test.YtiacbhjphaldlaaGreatDoorP18
namespace Go.Proofs.Z
variable{st}
variable{Zp:Prop}
open Tryz Go.RowKit Flt
set_option maxRecDepth 1000000
set_option maxHeartbeats 0
section
variable{ρ:Nat->Nat}{aO:List TkV}{G:List Nat}
theorem nTt{E W ins vs outs names calls u1 u3 Y bm am}(ax:TqB E ρ W ins vs outs u1 u3 Y)(C:TqT E ρ W names calls aO G bm am):¬(E.T=E.P\/Y.ownBlock=some E.T):=λq=>by
 obtain q|q:=q
 ·have:=C.rT;rw[q,ax.rP]at this;omega
 ·have:=C.rT;rw[ax.rR _ q]at this;omega
theorem E4{E w m}{p:Nat}(aC:0<=m.2)(cd:0<m.1.length){ρ' D}(an:Tq E ρ' D {st with vs:=m.1} aO G)(ai:Sco ρ w ρ' D)(az:Tsm E w D):Calls prog 173 #[ge E.T,h0 p,h0 m.2] D (TqR E ρ w aO G (ft st m p)):=by
 refine yai (EW an cd p) ?_;rintro e Z ⟨(⟨I,rfl⟩|⟨I,rfl⟩),rfl⟩
 ·refine .inl ⟨_,m.2.toNat,_,?_,?_,an,ai,az⟩
  ·grind[ft]
  grind
 refine .inr ⟨5,p,?_,rfl,ai.chg⟩;grind[ft]
end
section
attribute[local go_sem] dI dG dF gh gj gn mkF fA eJ fU eL fV ez gy eH fB dY fW eM fX eO gz eQ fY eA gB eI fZ eB gU gV iF iG iH iI jb jc gW gX iJ iK iL iM jd je gD gq gY gF gu fS
def xZ(st:LSt)(p x0 v y1:Nat):Rs (LSt×Nat):=match sS st p y1 v with
 |.error f=>.error f
 |.ok (s2,d2)=>ft s2 (i9 s2.vs x0 v d2) p
theorem MO{az}(g:Gd st){p d x bA}(ar:x<st.vs.length)(aT:d<st.vs.length)(e:sS st p d x=.ok (az,bA)):Gw st az/\Ln az.vs (bA:Int) (jp az.vs (x:Int)):=by
 have d5:=g.lenB ar;have bd:=iP aT;unfold sS at e;by_cases c:dS st d=1/\dS st x≠1
 ·rw[h3 c]at e;rw[c.1]at bd;obtain⟨aa,Z,ao⟩:=lZ g (g.v.p10 d5 bd) e;refine⟨aa,?_⟩;exact qdi
 grind[dS,Gw.refl,iN]
theorem N.qaw(h:Zp:=by
 have cG:=gI (i:=1) aY (by rw[y.cells.1];decide);have S:M (∀W,Kept 0 0 w W->_):=λW k=>(y.keep k).cells.2 1 xab;exact qei):Zp:=h
theorem N.qej(h:Zp:=by
 have X:M (∀W,Kept 0 0 w W->_):=λW k=>zD (h.keep k) g cG ef p;have t:M (∀W ρ',Sco ρ w ρ' W->_):=λW ρ' s=>(y.sco s).cells.2 0 xab;have aF:M (xZ st p (ys.getD 0 0) v (ys.getD 1 0)=match sS st p (ys.getD 1 0) v with|.error f=>.error f|.ok (az,bA)=>ft az (i9 az.vs (ys.getD 0 0) v bA) p):=rfl
 have B:M (∀az bA W ρ',sS st p (ys.getD 1 0) v=.ok (az,bA)->Tq E ρ' W az aO G->Sco ρ w ρ' W/\Tsm E w W->∀aH,Kept 0 0 W aH->Calls prog 176 #[ge E.P,h0 (ys.getD 0 0:Nat),h0 v,h0 bA] aH λe D=>∃aL,e=.returned (h0 aL)/\Calls prog 173 #[ge E.T,h0 p,h0 aL] D (TqR E ρ w aO G (xZ st p (ys.getD 0 0) v (ys.getD 1 0)))):=λaz bA W ρ' e an l aH k=>by
  obtain⟨e8,bd⟩:=MO g ef cG e
  have bb:=an.keep k
  obtain⟨u1,u3,Y,bm,am,ax,C⟩:=bb
  refine yai (LP aH E.P E.N az.vs.length u1 u3 (ys.getD 0 0) v bA az.ins az.vs Y.ownBlock Y ax.b rfl e8.g.n e8.g.ok e8.g.c (yaj I e8.n) (yaj ef e8.n)) ?_
  rintro e D ⟨rfl,R',a5,i1,x⟩
  obtain⟨aC,bg,a8,bE⟩:=Tq.built ax C i1 x
  obtain⟨_,z,_⟩:=lh e8.g.v (yaj I e8.n) (yaj ef e8.n) bd
  refine⟨_,rfl,?_⟩
  have b5:xZ st p (ys.getD 0 0) v (ys.getD 1 0)=ft az (i9 az.vs (ys.getD 0 0) v bA) p:=by
   rw[aF.o]
   simp only[‹sS st p (ys.getD 1 0) v=.ok (az,bA)›]
  rw[b5]
  exact E4 (st:=az) (m:=i9 az.vs (ys.getD 0 0) v bA) z.1 (ip z.1 z.2.1) ⟨u1,u3,a5,bm,am,bg,a8⟩ ((l.1.trans (Sco.kept k)).trans bE) (((l.2.trans l.1.chg.size (Tsm.kept k)).trans (yan l.1.chg.size k.size) (Tsm.chg x.chg (nTt ax C))))
 have bk:M (∀c q,sS st p (ys.getD 1 0) v=.error (c,q)->xZ st p (ys.getD 0 0) v (ys.getD 1 0)=.error (c,q)):=λc q e=>by rw[aF.o,e]
 clear h y aY g I U aF ai aD ef aB cG;generalize xZ st p (ys.getD 0 0) v (ys.getD 1 0)=r at*;generalize sS st p (ys.getD 1 0) v=O at*;generalize ys.getD 0 0=bG at*;generalize ys.getD 1 0=aQ at*;generalize cvT n=j at*;unfold tkV at P;have aw:M _:=mj w (.iface 214 (.agg #[h0 p,.slice a1 n1 c1,h0 j.kind,dJ j.text,h0 j.at_])) (.map mp) (.bool b);go_enter func162,ntmps162;go_upto_region 37 with (go_at_call 269;refine yai lE ?_;rintro e aa ⟨rfl,(bV:M _)⟩;obtain⟨ag,aP,aQ,aU,bN⟩:=aw.o _ bV.o;clear ag aQ aU);have F:=bV.o.trans (dE 0 0 aa (.cells #[h0 p,.slice a1 n1 c1,h0 j.kind,dJ j.text,h0 j.at_] 214));obtain⟨(al:M _),aK,m1,_,m3⟩:=aw.o _ F;have av:=(eo aa #[h0 p,.slice a1 n1 c1,h0 j.kind,dJ j.text,h0 j.at_] 214 (ib).chg (S:=λ_=>False) (λc=>c))
 have bj:(aa.alloc (.cells #[h0 p,.slice a1 n1 c1,h0 j.kind,dJ j.text,h0 j.at_] 214)).cell? ⟨aa.heap.size,2,none⟩=some (h0 j.kind):=av.1 2;have bI:(aa.alloc (.cells #[h0 p,.slice a1 n1 c1,h0 j.kind,dJ j.text,h0 j.at_] 214)).cell? ⟨aa.heap.size,3,none⟩=some (dJ j.text):=av.1 3;have bR:(aa.alloc (.cells #[h0 p,.slice a1 n1 c1,h0 j.kind,dJ j.text,h0 j.at_] 214)).cell? ⟨aa.heap.size,4,none⟩=some (h0 j.at_):=av.1 4;have o:=av.2.2;clear av aP bN F aK;change Code.wp _ _ _ _ (aa.alloc (.cells #[h0 p,.slice a1 n1 c1,h0 j.kind,dJ j.text,h0 j.at_] 214));generalize (aa.alloc (.cells #[h0 p,.slice a1 n1 c1,h0 j.kind,dJ j.text,h0 j.at_] 214))=aA at*;exact qgw):Zp:=h
theorem N.qgx(h:Zp:=by
 go_upto_region 38 with (go_at_call 163;refine yai (P.o _ al.o) ?_;rintro e cf ⟨rfl,ci⟩;have H:M _:=al.o.trans ci;have b7:=S.o _ H.o;clear ci);go_upto_region 39 with (go_at_call 175;refine yai (X.o _ H.o) ?_;rintro e cI (⟨bq,bA,bX,K,rfl,T,V⟩|⟨c,q,K,rfl,aj⟩);rotate_left;exact h1 rfl (.inr ⟨c,q,bk.o c q K,rfl,(Sco.kept H.o).bad aj⟩);have J:M _:=B.o bq bA cI bX K T ⟨(Sco.kept H.o).trans V.1,(Tsm.kept H.o).trans H.o.size V.2⟩;have ap:=t.o cI bX ((Sco.kept H.o).trans V.1);obtain⟨R,_⟩:=T.t0;clear K T V)
 go_region_with (first
  |(go_at_call 176;refine yai (J.o _ (by first|exact ib|exact ib.drew)) ?_;rintro e bn ⟨aL,rfl,(A:M _)⟩)
  |(go_at_call 173;refine yai A.o ?_;rintro e L ah;have u:=Q ah;obtain⟨st2,a,aC,K,rfl,_⟩|⟨c,q,K,rfl,_⟩:=ah;rotate_left;exact h1 rfl u.o;clear K))
 all_goals
  go_wp2
  go_ret
  exact u.o):Zp:=h
open N in
theorem MP{E ρ w aO G}(h:Tq E ρ w st aO G)(g:Gd st){loc mp b a1 n1 c1 bv cap ys}(y:OfR w ρ (hZ bv 2 cap) ys)(aY:∀i∈ys,i<st.vs.length)(p:Nat)(aB:PrM w ρ (.map mp) loc){n}(ai:n.sym≠[]){v}(aD:dX st loc n=.ok v)(ef:v<st.vs.length):
  Calls prog 162 #[ge E.T,.agg #[.iface 214 (.agg #[h0 p,.slice a1 n1 c1,h0 (cvT n).kind,dJ (cvT n).text,h0 ((cvT n).at_:Int)]),.map mp,.bool b],hZ bv 2 cap] w (TqR E ρ w aO G (xZ st p (ys.getD 0 0) v (ys.getD 1 0))):=by
 exact qav
end
section
attribute[local go_sem] dI dG dF
variable{w A:World}{bE:Array Oper}{M':Nat->Prop}{ts:List Tok}{rest:List Oper}{P B k m1 K n m3 ag base cap a7:Nat}{a L U a2:Option Addr}{u1 ap u3 v u4 a9 bj bI c0 c1 c2 c3 c4 bU ce b5 bz bN Y b9 cf cF b3 cg b7 cp ct:Value}{i1:Exit->Act->World->Prop}{G js:List Nat}{am:List Bc}{st:LSt}{s:List UInt8}{o T aB aA aL N:Int}{vs:List Vl}{R R':Option Nat}
structure LcR(Maa:Nat->Prop)(W:World)(a:Option Addr)(n:Nat)(loc:Loc):Prop where
 len:loc.length=n
 at_:0<n->∃g off,a=some ⟨g,off,none⟩/\¬Maa g/\g<W.heap.size/\∀k,k<n->W.cell? ⟨g,off+k*2,none⟩=some (dJ (loc.getD k ([],0)).1)/\W.cell? ⟨g,off+k*2+1,none⟩=some (.int .i64 ((loc.getD k ([],0)).2:Int))
theorem LcR.mv{Maa W loc}(h:LcR Maa W a n loc)(k:Mv Maa W M' A):LcR M' A a n loc:=
 ⟨h.len,λV=>by
  obtain⟨g,aO,e,z,J,al⟩:=h.at_ V
  exact⟨g,_,e,λc=>(k.new g c).elim z (λc=>by omega),yaj J k.chg.size,λj aK=>⟨(k.chg.cell J z).trans (al j aK).1,(k.chg.cell J z).trans (al j aK).2⟩⟩⟩
theorem LcR.keep{Maa W loc}(h:LcR Maa W a n loc)(k:Kept 0 0 W A):LcR Maa A a n loc:=h.mv (Mv.of k)
def VlO(W:World)(P:Nat)(Maa:Nat->Prop)(r:Rs Nat)(e:Ending)(W':World):Prop:=
 match r with
 |.error (c,p)=>e=.returned (.int .i64 (-1))/\Bad W P Maa c p W'
 |.ok v=>e=.returned (.int .i64 (v:Int))/\Kept 0 0 W W'
theorem oK{au:Type}(p aX):∀(l:List au) (k:Nat),k<l.length->p (l.getD k aX)=true->(∀j,j<k->p (l.getD j aX)=false)->l.find? p=some (l.getD k aX)
 |x::r,0,_,h,_=>by simp_all
 |x::r,k+1,H,h,aK=>by
  have aC:=aK 0 xaa
  rw[List.find?_cons_of_neg (by grind)]
  exact oK p aX r k (by grind) h (λj b=>aK (j+1) xaa)
theorem ql{au:Type}(p aX):∀(l:List au),(∀j,j<l.length->p (l.getD j aX)=false)->l.find? p=none
 |[],_=>rfl
 |x::r,h=>by
  have aC:=h 0 xac
  rw[List.find?_cons_of_neg (by grind)]
  exact ql p aX r (λj aK=>h (j+1) (by grind))
theorem uz{Maa W b d}(h:BcOK Maa W b d):b.nm=d.nm:=by cases d<;>exact h.1
theorem mZ{W}(h:WS W P B u1 ap u3 u4 am st)(H:k<am.length)(z:(am.getD k h9).nm=s)(J:∀j,j<k->(am.getD j h9).nm≠s):d8 st.names s=some (st.names.getD k (.val [] 0)):=
 oK (λb:Bdg=>b.nm==s) (.val [] 0) st.names k (iv h.nl H) (by rw[<-uz (h.nb k H),z];simp) (λj aK=>by rw[<-uz (h.nb j xaa)];grind)
theorem nU{W}(h:WS W P B u1 ap u3 u4 am st)(J:∀j,j<am.length->(am.getD j h9).nm≠s):d8 st.names s=none:=
 ql (λb:Bdg=>b.nm==s) (.val [] 0) st.names (λj aK=>by rw[<-uz (h.nb j (it h.nl aK))];exact yav (J j (it h.nl aK)))
theorem v8{W}(h:WS W P B u1 ap u3 u4 am st)(aR:st.names.length<=5000)(bG aP cL loc)(I:LcR (Mst P u1 ap u3 u4) W bG aP loc)(V:aP<=5000)(t):
  Calls prog 62 #[ge P,.slice bG aP cL,iU t] W (VlO W P (Mst P u1 ap u3 u4) (dX st loc t)):=by
 obtain⟨ba,ps,bv⟩:=t;have aw:M _:=gK W ba ps bv;have af:=dE 0 0 W (.cells #[dJ ba,h0 ps,dJ bv] 39);have bV:=Q af;have S:M _:=h.keep af;have bM:M _:=I.keep af;have y:=Q I.len;have br:am.length<=100000:=ix h.nl
 have cd:M (dX st _ ⟨ba,_,_⟩=match kj loc bv with|some v=>.ok v|none=>match d8 _ bv with|some (.val _ v)=>.ok v|_=>.error (3,ps)):=rfl;generalize dX st _ _=r at cd⊢;unfold iU;simp only;clear af h I;go_enter func62,ntmps62;go_wp2_with fail;change Code.wp _ _ _ _ (W.alloc (.cells _ 39));generalize W.alloc _=aq at aw bV S bM⊢;go_loopw [7] (λbF A=>∃k:Nat,k<=aP/\bF=h0 k/\M (Kept 0 0 aq A)/\M (∀j,j<k->(loc.getD j ([],0)).1≠bv)) (λbF _=>aP-(intOf bF).toNat)
 case atStart=>exact⟨0,yad,rfl,ib,λj aK=>by omega⟩
 case round=>
  obtain⟨k,H,rfl,bd,m⟩:=hrel;by_cases aV:k<aP
  ·obtain⟨g,aO,rfl,_,aG,aj⟩:=(bM.o.keep bd.o).at_ xaa;obtain⟨c1,_⟩:=aj k aV;have c2:=(aw.o.keep bd.o).c2
   have aE:M (∀A,Kept 0 0 _ A->A.cell? _=some _):=λA ae=>by
    obtain⟨aY,F,e,_,_,bB⟩:=(bM.o.keep ae).at_ xaa
    cases e
    exact(bB k aV).2
   generalize ar:(loc.getD k _).1=x at c1;have bJ:=Q ar;clear ar aj;go_upto_region 4 with fail;go_quiet (fail)
   have aZ:M _:=Kept.trans bd.o (ed 0 0 nq);clear c1 c2 bd aG;generalize wr.drewN _=cI at aZ⊢;cases an:(x==bv)
   ·have R:M (∀j,j<k+1->(loc.getD j _).1≠bv):=λj aK=>by
     by_cases c:j=k
     ·subst c;rw[bJ.o];intro d;rw[d]at an;simp at an
     ·exact m.o j xaa
    go_wp2_with fail;go_roundw
    case rel=>exact⟨k+1,by omega,by go_num,aZ,R⟩
    case measure=>simp[intOf];omega
   have R:M (r=.ok (loc.getD k ([],0)).2):=by
    show _=_
    have ab:kj loc bv=some (loc.getD k ([],0)).2:=by
     unfold kj;rw[oK (λb:List _×Nat=>b.1==bv) _ _ k (it y.o aV) (by show((loc.getD k ([],0)).1==bv)=true;rw[bJ.o];exact an) (λj aK=>yav (m.o j aK))];rfl
    rw[cd.o,ab]
   have c3:=aE.o _ aZ.o;clear aE;go_wp2_with fail;go_ret;rw[R.o];exact⟨rfl,bV.o.trans aZ.o⟩
  obtain rfl:k=aP:=xaa
  have q:M (kj loc bv=none):=by
   show _=_;unfold kj;rw[ql (λb:List _×Nat=>b.1==bv) _ _ (λj aK=>yav (m.o j (by rw[y.o]at aK;exact aK)))];rfl
  have bC:M _:=S.o.keep bd.o;have c8:M _:=aw.o.keep bd.o;have f:M _:=bV.o.trans bd.o;have c2:=c8.o.c2;have c1:=c8.o.c1;have bl:M _:=pY bC.o.c3 bC.o.r4 br bv;have c3:=bC.o.c3;have bX:M _:=jC bC.o.c5 bC.o.c6 bC.o.fr 3 ps (Mst P u1 ap u3 u4) (.inl rfl);have z:M _:=lB bC.o.r4;obtain⟨a4,bW,al⟩:=jD bC.o.r4;clear bd m bM aw;subst al;go_upto_region 7 with (go_at_call 34;refine yai bl.o ?_;rintro e Z ⟨i,rfl,a0,X⟩;obtain rfl:=X.symm);obtain⟨ad,bc,rfl,a6,bw⟩|⟨rfl,V⟩:=a0
  ·have a8:M _:=mZ bC.o bc a6 bw;have l:M _:=bC.o.nb _ bc;obtain⟨be,bZ,b2,_,_,_,bf⟩:=z.o xaa;cases b2;obtain⟨_,aW,bA,_,_⟩:=bf _ bc;generalize bq:am.length=cG at*;generalize am.getD ad _=b at aW bA l;generalize st.names.getD ad _=O at a8 l;have bT:¬((ad:Int)<0):=xaa;cases O with
   |val bb v=>
    have aC:=l.o.2.1;have ef:=l.o.2.2;rw[aC]at aW;rw[ef]at bA;have R:M (r=.ok v):=by show _=_;rw[cd.o,q.o,a8.o]
    clear aC ef a6 bw bf bq l z;go_wp2_with fail;go_ret;rw[R.o];exact⟨rfl,f.o⟩
   |fn bb aU p=>
    have aC:=l.o.2.1;rw[aC]at aW;have R:M (r=.error (3,ps)):=by show _=_;rw[cd.o,q.o,a8.o]
    clear aC a6 bw bf bq l z bA;go_wp2_with (go_at_call 32;refine yai bX.o ?_;rintro e ao ⟨rfl,u⟩);go_ret;rw[R.o];exact⟨rfl,u.c5,u.c6,(Mv.of f.o).bad u.chg⟩
  have R:M (r=.error (3,ps)):=by show _=_;rw[cd.o,q.o,nU bC.o V]
  clear V z;go_wp2_with (go_at_call 32;refine yai bX.o ?_;rintro e ao ⟨rfl,u⟩);go_ret;rw[R.o];exact⟨rfl,u.c5,u.c6,(Mv.of f.o).bad u.chg⟩
structure XsR(Maa:Nat->Prop)(W:World)(a:Option Addr)(n:Nat)(xs:List Nat):Prop where
 len:xs.length=n
 at_:0<n->∃g off,a=some ⟨g,off,none⟩/\¬Maa g/\g<W.heap.size/\∀k,k<n->W.cell? ⟨g,off+k,none⟩=some (.int .i64 (xs.getD k 0:Nat))
theorem XsR.mv{Maa W}(h:XsR Maa W a n G)(k:Mv Maa W M' A):XsR M' A a n G:=
 ⟨h.len,λV=>by
  obtain⟨g,aO,e,z,J,al⟩:=h.at_ V
  exact⟨g,_,e,λc=>(k.new g c).elim z (λc=>by omega),yaj J k.chg.size,λj aK=>(k.chg.cell J z).trans (al j aK)⟩⟩
theorem XsR.keep{Maa W}(h:XsR Maa W a n G)(k:Kept 0 0 W A):XsR Maa A a n G:=h.mv (Mv.of k)
theorem WS.lenc{W}(h:WS W P B u1 ap u3 u4 am st){i}(hi:i<st.vs.length):∃g cap,ap=hZ g st.vs.length cap/\g<W.heap.size/\W.cell? ⟨g,i*6+1,none⟩=some (h0 (dS st i)):=by
 obtain⟨g,cap,e,_,J,_,bw⟩:=jX h.r2 xaa rfl;exact⟨g,_,e,J,(bw.at_ i hi).c1⟩
theorem TkR.weak{Maa W}(h:TkR Maa W a n ts)(bH:∀b,M' b->Maa b):TkR M' W a n ts:=
 ⟨h.len,λV=>by obtain⟨g,aO,e,z,J⟩:=h.at_ V;grind⟩
theorem BcOK.weak{Maa W b d}(h:BcOK Maa W b d)(bH:∀b,M' b->Maa b):BcOK M' W b d:=by
 cases d with
 |val bb v=>exact h
 |fn bb ps e=>
  obtain⟨z,J,al,ts,bw,bL,bf⟩:=h;exact⟨z,J,al.weak bH,_,bw,bL,bf.weak bH⟩
theorem WS.side{W S}(h:WS W P B u1 ap u3 u4 am st)(c:Chg S W A)(aZ:∀b,Mst P u1 ap u3 u4 b->¬S b)(e9:∀i,i<am.length->BcOK (Mst P u1 ap u3 u4) A (am.getD i h9) (st.names.getD i (.val [] 0))):WS A P B u1 ap u3 u4 am st:=by
 have p:=aZ P (.inl rfl);have e:∀o,_:=λo=>c.cell (p:=⟨P,o,none⟩) h.lt p;exact⟨yaj h.lt c.size,λo=>(c.frozen h.lt p).trans (h.fr o),(e 0).trans h.c0,(e 1).trans h.c1,(e 2).trans h.c2,(e 3).trans h.c3,(e 4).trans h.c4,(e 5).trans h.c5,(e 6).trans h.c6,fR h.r1 c (λb I=>aZ b (.inr (.inl I))),fR h.r2 c (λb I=>aZ b (.inr (.inr (.inl I)))),fR h.r3 c (λb I=>aZ b (.inr (.inr (.inr (.inl I))))),fR h.r4 c (λb I=>aZ b (.inr (.inr (.inr (.inr I))))),h.np,h.ap,h.nl,e9,h.sz⟩
def FtO(W:World)(P B:Nat)(u1 u2 u3 u4:Value)(bs:List Bc)(r:Rs (LSt×List Nat))(e:Ending)(W':World):Prop:=
 match r with
 |.error (c,p)=>e=.returned (.slice none 0 0)/\W'.cell? ⟨P,5,none⟩=some (.int .i64 c)/\W'.cell? ⟨P,6,none⟩=some (.int .i64 (p:Int))/\Chg (Mst P u1 u2 u3 u4) W W'
 |.ok (st,js)=>∃a cap,e=.returned (.slice a js.length cap)/\∃v1 v2 v3 v4,WS W' P B v1 v2 v3 v4 bs st/\Mv (Mst P u1 u2 u3 u4) W (Mst P v1 v2 v3 v4) W'/\XsR (Mst P v1 v2 v3 v4) W' a js.length js
structure FtI(W W':World)(P B:Nat)(u1 u2 u3 u4:Value)(bs:List Bc)(st:LSt)(o:Value)(js:List Nat):Prop where
 ex:∃v1 v2 v3 v4,WS W' P B v1 v2 v3 v4 bs st/\Mv (Mst P u1 u2 u3 u4) W (λb=>Mst P v1 v2 v3 v4 b\/o.ownBlock=some b) W'/\(∀b,o.ownBlock=some b->¬Mst P v1 v2 v3 v4 b)
 row:W'.ownsRow W.heap.size 3 1 o js.length (js.map λj:Nat=>Value.int .i64 (j:Int))
theorem jF(w){o a}(an:o.guard=none)(s x)
  (av:o.op=.call {callee:=.builtin .append,args:=#[s,x],argTypes:=#[23,23]})
  (B) (v) (js) (ai:a.eval s=v) (aW:w.ownsRow B 3 1 v js.length (js.map λj:Nat=>Value.int .i64 (j:Int)))
  (I) (y:Nat) (ar:a.eval x=.slice (some I) 1 1) (C:w.cell? I=some (h0 y))
  (F:js.length+1<=1000000) (l:B<=w.heap.size)
  (h:∀g cap n D,n=(js++[y]).length->D.ownsRow B 3 1 (hZ g n cap) (js++[y]).length ((js++[y]).map λj:Nat=>Value.int .i64 (j:Int))->Chg (λb=>v.ownBlock=some b) w D->(v.ownBlock=some g\/g=w.heap.size)->wpList prog bE i1 rest (a.put o.dst (hZ g n cap)) D):wpList prog bE i1 (o::rest) a w:=by
 obtain⟨bS,hi,ch,b6,ci⟩:=info_parts qy;refine wpList_append_lies w an s x 23 av B 3 bS (h0 0) 1 8 underlying23 hi ch b6 ci rfl xab v js.length _ ai aW I 1 1 [h0 y] ar rfl ?_ ?_ xab (by unfold maxLen;omega) xaa l _ rfl ?_
 ·intro j u bd;cases j with
  |zero=>cases bd;obtain⟨b,o,m⟩:=I;simpa[Addr.add] using C
  |succ j=>cases bd
 ·intro u bd;simp at bd;subst bd;rfl
 intro g cap D z J al _;have e:js.length+1=(js++[y]).length:=by rw[yak];rfl
 rw[e]at z⊢;refine h g cap _ D rfl ?_ (eD J) al;rw[List.map_append];exact z
theorem FtI.keep{W bx o}(h:FtI W A P B u1 ap u3 u4 am st o js)(k:Kept 0 0 A bx):FtI W bx P B u1 ap u3 u4 am st o js:=by
 exact xgn
theorem FtI.step{W aq y aH aN aM aS bR bq o}(bH:Mv (Mst P u1 ap u3 u4) W (λb=>Mst P aH aN aM aS b\/o.ownBlock=some b) aq)(ar:∀b,o.ownBlock=some b->¬Mst P aH aN aM aS b)(aw:aq.ownsRow W.heap.size 3 1 o js.length (js.map λj:Nat=>Value.int .i64 (j:Int)))(aX:WS y P B a9 bj bI bR am bq)(aT:Mv (Mst P aH aN aM aS) aq (Mst P a9 bj bI bR) y):FtI W y P B u1 ap u3 u4 am bq o js:=by
 exact xcm
theorem aI.qbm(h:Zp:=by
 refine⟨⟨aH,aN,aM,aS,z.side ak (λb I c=>al b c I) (λi hi=>?_),bc,λb I c=>?_⟩,?_⟩
 ·exact xgw
 ·rw[l]at I;subst I;exact f c
 rw[yak,List.map_append];exact au):Zp:=h
open aI in
theorem FtI.app{W bn g o}(aC:WS W P B u1 ap u3 u4 am g)(aq:st.names=g.names)(h:FtI W A P B u1 ap u3 u4 am st o js){g9 n9 cap9 x:Nat}(au:bn.ownsRow W.heap.size 3 1 (hZ g9 n9 cap9) (js.length+1) ((js.map λj:Nat=>Value.int .i64 (j:Int))++[h0 x]))(ak:Chg (λb=>o.ownBlock=some b) A bn)(bL:o.ownBlock=some g9\/g9=A.heap.size):FtI W bn P B u1 ap u3 u4 am st (hZ g9 n9 cap9) (js++[x]):=by
 exact qbl
theorem ya{W}(h:WS W P B u1 ap u3 u4 am st)(g:Gd st)(d2 t e6 G)(ax:XsR (Mst P u1 ap u3 u4) W d2 t G)(V:t<=100)(ar:∀i∈G,i<st.vs.length)(p:Nat):
  Calls prog 60 #[ge P,.slice d2 t e6,h0 p] W (FtO W P B u1 ap u3 u4 am (im st G p)):=by
 have bC:=Q h;have br:=Q g;have be:=Q ax;have aI:=Q ax.len
 have F:M (∀k,k<t->G.getD k 0<st.vs.length):=λk H=>ar _ (by
  rw[yah,yal (it ax.len H)]
  exact List.getElem_mem _)
 have bM:M _:=qZ g G ar;have bk:M (im st G p=if G.all (λi=>dS st i==mM st G||dS st i==1)=true then gE (mM st G) p st G else .error (4,p)):=rfl;generalize im st G p=r at bk⊢
 have b1:M (∀A k,Kept 0 0 W A->k<t->∃bW cap e1 aO,ap=hZ bW st.vs.length cap/\d2=some ⟨e1,aO,none⟩/\A.cell? ⟨P,1,none⟩=some ap/\A.cell? ⟨e1,aO+k,none⟩=some (h0 (G.getD k 0:Nat))/\A.cell? ⟨bW,G.getD k 0*6+1,none⟩=some (h0 (dS st (G.getD k 0)))):=λA k ae H=>by
  obtain⟨bW,cap,K,_,J⟩:=(bC.o.keep ae).lenc (F.o k H)
  obtain⟨e1,aO,ag,_,_,bw⟩:=(be.o.keep ae).at_ xaa
  exact⟨bW,cap,e1,aO,K,ag,(bC.o.keep ae).c1,bw k H,J⟩
 have bb:=g.n;clear h g ax ar;go_enter func60,ntmps60;go_wp2_with fail;go_loopw [7,8] (λbG bF A=>∃k:Nat,k<=t/\bF=h0 k/\bG=h0 (mM st (G.take k))/\M (Kept 0 0 W A)) (λ_ bF _=>t-(intOf bF).toNat)
 case atStart=>exact⟨0,yad,rfl,rfl,Kept.refl 0 0 W⟩
 case round=>
  obtain⟨k,H,rfl,rfl,bd⟩:=hrel;by_cases aV:k<t
  ·obtain⟨bW,cap,e1,aO,K,a6,c1,c2,c3⟩:=b1.o wr k bd.o aV;subst K a6;have bY:M _:=qb st G k (it aI.o aV);have cO:=F.o k aV;generalize G.getD k 0=x at c2 c3 bY cO;generalize dS st x=l at c3 bY;generalize mM st (G.take k)=m at bY⊢;go_upto_region 5 with fail;go_quiet (fail)
   have aZ:M _:=Kept.trans bd.o (ed 0 0 (w:=wr) nq);have aW:(wr.drewN nq).cell? ⟨P,1,none⟩=some (hZ bW st.vs.length cap):=c1;have bA:(wr.drewN nq).cell? ⟨e1,aO+k,none⟩=some (h0 (x:Nat)):=c2;have bs:(wr.drewN nq).cell? ⟨bW,x*6+1,none⟩=some (h0 l):=c3;clear c1 c2 c3 bd;generalize wr.drewN nq=cI at aZ aW bA bs⊢;by_cases au:m<l
   ·have R:M _:=bY.o.trans (h3 au);go_upto_region 6 with fail;go_quiet (fail)
    have al:M _:=Kept.trans aZ.o (ed 0 0 (w:=cI) nq);generalize cI.drewN nq=bv at al⊢;clear aW bA bs;go_wp2_with fail;go_roundw
    case rel=>exact⟨k+1,by omega,by go_num,by rw[R.o],al⟩
    case measure=>simp[intOf];omega
   have R:M _:=bY.o.trans (h2 au);clear aW bA bs;go_wp2_with fail;go_roundw
   case rel=>exact⟨k+1,by omega,by go_num,by rw[R.o],aZ⟩
   case measure=>simp[intOf];omega
  obtain rfl:k=t:=xaa;have bH:=bM.o k (by rw[aI.o];exact yac);rw[yao (by rw[aI.o];exact yac)]at bH⊢;generalize mM st G=Maa at bH bk⊢;clear bM;have bV:=Q bd.o;clear bd;go_upto_region 7 with fail;go_wp2_with fail;go_loopw [9] (λbF A=>∃j:Nat,j<=k/\bF=h0 j/\M (Kept 0 0 W A)/\M (∀q,q<j->(dS st (G.getD q 0)==Maa||dS st (G.getD q 0)==1)=true)) (λbF _=>k-(intOf bF).toNat)
  case atStart=>exact⟨0,yad,rfl,bV,λq an=>by omega⟩
  case round=>
   obtain⟨j,aK,rfl,bd,bo⟩:=hrel;by_cases cz:j<k
   ·obtain⟨bW,cap,e1,aO,K,a6,c1,c2,c3⟩:=b1.o wr j bd.o cz;subst K a6;have cO:=F.o j cz
    have b0:M (∀l,dS st (G.getD j 0)=l->(l==Maa||l==1)=true->∀q,q<j+1->(dS st (G.getD q 0)==Maa||dS st (G.getD q 0)==1)=true):=λl ab I q an=>by
     exact xho
    have cx:M (∀l,dS st (G.getD j 0)=l->(l==Maa||l==1)=false->G.all (λi=>dS st i==Maa||dS st i==1)=false):=λl ab I=>by
     rw[List.all_eq_false]
     refine⟨G.getD j 0,?_,?_⟩
     ·exact xgh
     ·rw[ab,I];simp
    generalize bh:dS st (G.getD j 0)=l at c3;have aQ:=Q bh;clear bh;generalize G.getD j 0=x at c2 c3 cO aQ b0 cx;have bX:M (∀A,Kept 0 0 W A->_):=λA ae=>jC (bC.o.keep ae).c5 (bC.o.keep ae).c6 (bC.o.keep ae).fr 4 p (Mst P u1 (hZ bW st.vs.length cap) u3 u4) (.inl rfl);go_upto_region 10 with fail;go_quiet (fail)
    have aZ:M _:=Kept.trans bd.o (ed 0 0 (w:=wr) nq);clear c1 c2 c3 bd;generalize wr.drewN nq=cI at aZ⊢;cases ba:(l==Maa)
    ·have dd:(l !=Maa)=true:=by unfold bne;rw[ba];rfl
     cases bu:(l==1)
     ·have dg:(l !=1)=true:=by unfold bne;rw[bu];rfl
      have R:M _:=bk.o.trans (h2 (by rw[cx.o l aQ.o (by rw[ba,bu];rfl)];simp));have az:M _:=bX.o cI aZ.o;clear b0 cx;go_wp2_with (go_at_call 32;refine yai az.o ?_;rintro e ao ⟨rfl,u⟩);go_ret;rw[R.o];exact⟨rfl,u.c5,u.c6,(Mv.of aZ.o).bad u.chg⟩
     have dg:(l !=1)=false:=by unfold bne;rw[bu];rfl
     have R:M _:=b0.o l aQ.o (by rw[ba,bu];rfl);exact xft
    have dd:(l !=Maa)=false:=by unfold bne;rw[ba];rfl
    have R:M _:=b0.o l aQ.o (i0 ba);exact xft
   obtain rfl:j=k:=xaa;have cX:=Q bo.o
   have bx:M (r=gE Maa p st G):=bk.o.trans (h3 (by
    rw[List.all_eq_true]
    intro i hi
    obtain⟨q,an,rfl⟩:=List.getElem_of_mem hi
    have:=bo.o q (iv aI.o an)
    rw[yah,yal an]at this
    exact this))
   have bJ:=Q bd.o;clear bd bo bk;have bQ:M (FtI W wr P B u1 ap u3 u4 am st (.slice none 0 0) []):=⟨⟨u1,ap,u3,u4,bC.o.keep bJ.o,⟨(Mv.of (Maa:=Mst P u1 ap u3 u4) bJ.o).chg,λb I=>.inl (I.elim id (λc=>by simp[Value.ownBlock]at c))⟩,λb I=>by simp[Value.ownBlock]at I⟩,yau _ _⟩
   have bB:M (r=qd [] (gE Maa p st (G.drop 0))):=by show _=_;rw[xS];exact bx.o
   go_upto_region 14 with fail;go_wp2_with fail;go_loopw [11,12] (λa5 bF A=>∃(q:Nat) (y:LSt) (js:List Nat),q<=j/\bF=h0 q/\js.length=q/\M (FtI W A P B u1 ap u3 u4 am y a5 js)/\M (Gd y)/\M (y.names=st.names)/\M (∀i,i<st.vs.length->i<y.vs.length/\dS y i=dS st i)/\M (r=qd js (gE Maa p y (G.drop q)))) (λ_ bF _=>j-(intOf bF).toNat)
   case atStart=>exact⟨0,st,[],yad,rfl,rfl,bQ,br,(show M (st.names=st.names) from rfl),(show M (∀i,i<st.vs.length->i<st.vs.length/\dS st i=dS st i) from λi hi=>⟨hi,rfl⟩),bB⟩
   case round=>
    obtain⟨q,y,js,an,rfl,(ci:M _),aR,c7,cl,ch,aC⟩:=hrel;by_cases aU:q<j
    ·obtain⟨aH,aN,aM,aS,af,aa,aY⟩:=aR.o.ex;obtain⟨e1,aO,rfl,_,_,cT⟩:=(be.o.mv aa).at_ xaa;have cP:=cT q aU;have cG:=F.o q aU;obtain⟨cv,aq⟩:=ch.o _ cG
     have X:M (G.drop q=G.getD q 0::G.drop (q+1)):=by
      show _=_;rw[List.drop_eq_getElem_cons (it aI.o aU),yah,yal (it aI.o aU)];rfl
     have a0:M _:=cX.o q aU;obtain⟨bW,dp,a6,cr,cb⟩:=af.lenc cv;have bZ:=af.c1;rw[aq]at cb;have bK:=Q af;have aD:=Q aa;have cM:=Q aY;rw[<-aq]at a0;generalize G.getD q 0=x at cP cG cv aq X a0 cb;have eb:=Q aa.chg.size;have ds:=c7.o.n;subst a6;clear cT af aa aY;by_cases bT:dS st x<Maa
     ·have co:dS y x=1:=by
       have h:=a0.o;rw[aq]at h;have:(dS st x==Maa)=false:=yav xaa;rw[this,Bool.false_or]at h;rw[aq];simpa using h
      have b6:dS y x<Maa:=it aq bT
      have ai:M (∀A,_):=λA=>iy (w:=A) (ax:=10) (n:=Maa) (a:=(x:Int)) (b:=0) (c:=0);have aj:M (∀A,Kept 0 0 wr A->_):=λA ae=>lF (bK.o.keep ae) c7.o (dL 10 Maa (x:Int) 0 0) bH (show(0:Nat)<18446744073709551616 by decide) p;have em:M _:=IJ cv co bH;have ak:M (eg y (dL 10 Maa (x:Int) 0 0) p=if jf (y.vs++[dL 10 Maa (x:Int) 0 0])=true then .error (5,p)else .ok ({y with vs:=y.vs++[dL 10 Maa (x:Int) 0 0]},y.vs.length)):=rfl;have cd:M (∀bq g6,eg y (dL 10 Maa (x:Int) 0 0) p=.ok (bq,g6)->r=qd (js++[g6]) (gE Maa p bq (G.drop (q+1)))):=λbq g6 e=>by rw[aC.o,X.o,kE b6 e,nK]
      have S:M (∀f,eg y (dL 10 Maa (x:Int) 0 0) p=.error f->r=.error f):=λf e=>by rw[aC.o,X.o,kG b6 e];rfl
      generalize dS st x=l at cb bT;cases I:jf (y.vs++[dL 10 Maa (x:Int) 0 0])
      ·rw[I,h2 xac]at ak;rw[ak.o]at aj;have bP:M _:=cd.o _ _ ak.o;have c8:M _:=c7.o.put em.o (show(0:Nat)<18446744073709551616 by decide) I
       have bg:M (∀i,i<st.vs.length->i<(LSt.mk y.ins (y.vs++[dL 10 Maa (x:Int) 0 0]) y.outs y.names y.calls).vs.length/\dS (LSt.mk y.ins (y.vs++[dL 10 Maa (x:Int) 0 0]) y.outs y.names y.calls) i=dS st i):=λi hi=>by
        obtain⟨z,J⟩:=ch.o i hi
        refine⟨by simp only[yak];omega,?_⟩
        rw[<-J]
        unfold dS
        simp only
        rw[yah,yar z,<-yah]
       have b2:M ((LSt.mk y.ins (y.vs++[dL 10 Maa (x:Int) 0 0]) y.outs y.names y.calls).names=st.names):=cl.o;have bS:=Q aR.o.row;generalize cS:y.vs.length=bc at aj bP;have d0:bc<=2000:=xaa;clear I ak cd S co b6 aq a0 X aC em
       go_upto_region 21 with (first
        |(go_at_call 37;refine yai (ai.o _) ?_;rintro e Z ⟨rfl,ad⟩)
        |(go_at_call 36;refine yai (aj.o _ ad) ?_;intro e ao C;obtain⟨rfl,a9,bj,bI,bR,aX,aT⟩:=C))
       have cA:M _:=FtI.step (aD.o.keep ad) cM.o (dW bS.o ad) aX aT;have dv:M (W.heap.size<=ao.heap.size):=by show _<=_;have:=eb.o;have:=ad.size;have:=aT.chg.size;omega
       clear eb aR bK aD cM bS cP cb bZ ad aX aT aj ai cS;have O:(ao.alloc (.cells #[h0 bc] 3)).cell? ⟨ao.heap.size,0,none⟩=some (h0 bc):=by rw[yat];rfl
       have aE:=dE 0 0 ao (.cells #[h0 bc] 3);have a8:M _:=cA.o.keep aE;go_wp2_with (first|(at_builtin;refine jF _ rfl _ _ rfl W.heap.size _ js rfl a8.o.row ⟨ao.heap.size,0,none⟩ bc rfl O ?c2 ?c3 ?_)|fail)
       case c2=>have:=ci.o;omega
       case c3=>have:=dv.o;simp;omega
       intro g9 cap9 n9 bn b4 ca bO cn;have bm:M _:=FtI.app (st:={y with vs:=y.vs++[dL 10 Maa (x:Int) 0 0]}) bC.o b2.o a8.o ca bO (cn.imp id (λe=>by rw[e];simp));clear ca bO cn b4 aE O;go_wp2_with fail;go_roundw
       case rel=>exact⟨q+1,_,js++[bc],by omega,by go_num,by rw[yak,ci.o];rfl,bm,c8,b2,bg,bP⟩
       case measure=>simp[intOf];omega
      rw[I,h3 rfl]at ak;rw[ak.o]at aj;have bP:M _:=S.o _ ak.o;clear I ak cd S co b6 aq a0 X aC em
      go_upto_region 21 with (first
       |(go_at_call 37;refine yai (ai.o _) ?_;rintro e Z ⟨rfl,ad⟩)
       |(go_at_call 36;refine yai (aj.o _ ad) ?_;intro e ao C;obtain⟨rfl,bL,bf,aP⟩:=C))
      have D:=Q bL;have cc:=Q bf;have c6:M _:=(aD.o.keep ad).bad ⟨aP.os,aP.tape,aP.output,aP.size,λi hi V=>aP.block i hi (λc=>V (.inl c))⟩;clear bL bf aP;go_wp2_with fail;go_ret;rw[bP.o];exact⟨rfl,D.o,cc.o,c6.o⟩
     have bP:M (r=qd (js++[x]) (gE Maa p y (G.drop (q+1)))):=by
      show _=_;rw[aC.o,X.o,j5 (it aq bT),nK]
     generalize dS st x=l at cb bT;clear aq a0 X aC;have O:(wr.alloc (.cells #[h0 x] 3)).cell? ⟨wr.heap.size,0,none⟩=some (h0 x):=by rw[yat];rfl
     have aE:=dE 0 0 wr (.cells #[h0 x] 3);have a8:M _:=aR.o.keep aE;go_wp2_with (first|(at_builtin;refine jF _ rfl _ _ rfl W.heap.size _ js rfl a8.o.row ⟨wr.heap.size,0,none⟩ x rfl O ?c2 ?c3 ?_)|fail)
     case c2=>have:=ci.o;omega
     case c3=>have:=eb.o;simp;omega
     intro g9 cap9 n9 bn b4 ca bO cn;have bm:M _:=FtI.app bC.o cl.o a8.o ca bO (cn.imp id (λe=>by rw[e];simp));clear ca bO cn b4 aE O;go_wp2_with fail;go_roundw
     case rel=>exact⟨q+1,y,js++[x],by omega,by go_num,by rw[yak,ci.o];rfl,bm,c7,cl,ch,bP⟩
     case measure=>simp[intOf];omega
    obtain rfl:q=j:=xaa
    have R:M (r=.ok (y,js)):=by
     show _=_;rw[aC.o,List.drop_eq_nil_of_le (by rw[aI.o];exact yac)];show Except.ok (y,js++[])=_;rw[List.append_nil]
    obtain⟨aH,aN,aM,aS,af,aa,aY⟩:=aR.o.ex;obtain⟨aJ,bD,av⟩:=jo aR.o.row
    have c9:M (XsR (Mst P aH aN aM aS) wr aJ js.length js):=by
     refine⟨rfl,λay=>?_⟩;have aw:=aR.o.row;obtain⟨_,c⟩|⟨g,c,bp,e,L,bi,U,_,aF,ah⟩:=aw.2
     ·omega
     rw[av]at e;cases e
     have aG:g<wr.heap.size:=by
      obtain c|c:=Nat.lt_or_ge g wr.heap.size
      ·exact c
      rw[Array.getElem?_eq_none c]at bi;cases bi
     refine⟨g,0,rfl,aY g (by rw[av];simp[Value.ownBlock]),aG,λk H=>?_⟩;rw[Nat.zero_add,cell_of_row wr g _ bp _ _ bi,<-Array.getElem?_toList];have:(bp.toList.take (js.length*1))[k]? =(js.map λj:Nat=>Value.int .i64 (j:Int))[k]?:=by rw[ah]
     rw[List.getElem?_take_of_lt xaa]at this;rw[this,List.getElem?_map,yah,yal H];rfl
    have bK:=Q af;have aD:M (Mv (Mst P u1 ap u3 u4) W (Mst P aH aN aM aS) wr):=⟨aa.chg,λb I=>aa.new b (.inl I)⟩
    clear af aa aY aR;subst av;go_wp2_with fail;go_ret;rw[R.o];exact⟨aJ,bD,rfl,aH,aN,aM,aS,bK.o,aD.o,c9.o⟩
def spQ(ts:List Tok)(k:Nat):SpS:=lr ⟨0,[],[]⟩ (ts.take k)
theorem E6(h:k<ts.length):spQ ts (k+1)=ik (spQ ts k) (ts.getD k h8):=by
 unfold spQ;rw[yas h,nA,yah,yal h];rfl
theorem OX:∀(ts:List Tok) (q:SpS),q.d-ts.length<=(lr q ts).d/\(lr q ts).d<=q.d+ts.length
 |[],q=>by show q.d-0<=q.d/\q.d<=q.d+0;omega
 |t::ts,q=>by
  rw[kg,yap]
  have z:=OX ts (ik q t)
  grind[ik]
theorem MQ:-(k:Int)<=(spQ ts k).d/\(spQ ts k).d<=k:=by
 have h:=OX (ts.take k) ⟨0,[],[]⟩;grind[spQ]
def kV(ts:List Tok)(f:Nat×Nat):List Tok:=(ts.drop f.1).take (f.2-f.1)
theorem Cf{F}(h:k<ts.length)(a0:F<=k):kV ts (F,k+1)=kV ts (F,k)++[ts.getD k h8]:=by
 unfold kV;simp only;have e:k+1-F=(k-F)+1:=xaa;have ab:k-F<(ts.drop F).length:=by grind
 rw[e,yas ab,List.getElem_drop,yah,yal h];simp_all
theorem E8{f}(h:f.2<=ts.length):(kV ts f).length=f.2-f.1:=by
 grind[kV]
def tS(g off cap:Nat)(f:Nat×Nat):Value:=.slice (some ⟨g,off+f.1*3,none⟩) (f.2-f.1) (cap-f.1)
theorem MR:(prog.info? 35).map (λi=>(i.zero,i.size,i.bytes))=some (some (.slice none 0 0),1,24):=by kernel_rfl
theorem wa:∃bS,prog.info? 35=some bS/\bS.zero=some (.slice none 0 0)/\bS.size=1/\bS.bytes=24:=by
 have h:=MR;simp_all
theorem m7(w){o a}(an:o.guard=none)(s x)
  (av:o.op=.call {callee:=.builtin .append,args:=#[s,x],argTypes:=#[114,114]})
  (B) (v) (j) (ai:a.eval s=v) (aW:w.ownsRow B 35 1 v j.length j)
  (I) (ao) (cG cv) (ar:a.eval x=.slice (some I) 1 1) (C:w.cell? I=some (.slice ao cG cv))
  (F:j.length+1<=1000000) (l:B<=w.heap.size)
  (h:∀g cap n D,n=j.length+1->D.ownsRow B 35 1 (hZ g n cap) (j.length+1) (j++[.slice ao cG cv])->Chg (λb=>v.ownBlock=some b) w D->(v.ownBlock=some g\/g=w.heap.size)->wpList prog bE i1 rest (a.put o.dst (hZ g n cap)) D):wpList prog bE i1 (o::rest) a w:=by
 obtain⟨bS,hi,ch,b6,ci⟩:=wa;refine wpList_append_lies w an s x _ av B 35 _ _ 1 _ underlying114 hi ch b6 ci rfl xab v _ _ ai aW _ 1 1 [.slice ao cG cv] ar rfl ?_ ?_ xab (by unfold maxLen;omega) xaa l _ rfl ?_
 ·grind[Addr.add]
 ·intro u bd;simp at bd;subst bd;rfl
 intro g cap D z J al _;exact h g _ _ _ rfl z (eD J) al
theorem yb{W}{e s:Nat}{G}(k:Kept 0 0 w W)(f:W.ownsRow w.heap.size e s v n G)(c:Chg (λb=>v.ownBlock=some b) W A):Kept 0 0 w A:=
 Chg.kept k c (λ_ hi=>(dO f hi).1)
structure SgR(W:World)(g lo:Nat)(a:Option Addr)(segs:List (List Tok)):Prop where
 at_:0<segs.length->∃gr,a=some ⟨gr,0,none⟩/\lo<=gr/\gr<W.heap.size/\∀i,i<segs.length->∃o c,W.cell? ⟨gr,i,none⟩=some (.slice (some ⟨g,o,none⟩) (segs.getD i []).length c)/\TkA W g o (segs.getD i []).length (segs.getD i [])/\(segs.getD i []).length<=c
theorem yc(W a cap):Calls prog 63 #[.slice a 0 cap] W λe A=>e=.returned (.slice none 0 0)/\A=W:=by
 go_enter func63,ntmps63;go_wp2;go_ret;exact⟨rfl,rfl⟩
theorem AT(W g aO m cap ts)(f:TkA W g aO m ts)(aR:m<=5000)(aC:0<m)(aY:m<=cap)(cd:(spQ ts m).cur≠[]):
  Calls prog 63 #[.slice (some ⟨g,aO,none⟩) m cap] W λe A=>∃a c,e=.returned (.slice a (fC ts).length c)/\SgR A g W.heap.size a (fC ts)/\Kept 0 0 W A:=by
 have bk:=Q f;have bf:=Q f.len
 have bS:M (fC ts=(spQ ts m).ou++[(spQ ts m).cur]):=by
  show _=_;unfold fC spQ;rw[h2 (by intro c;rw[c]at f;have:=f.len;grind),<-f.len,List.take_length]
 have D:=Q cd;have ch:((m:Int)==0)=false:=by grind
 clear f cd;go_enter func63,ntmps63;go_wp2_with fail;go_loopw [3,4,5,6] (λa5 C bC bF A=>∃(k F:Nat) (j:List (Nat×Nat)),k<=m/\F<=k/\bF=h0 k/\bC=h0 F/\C=h0 (spQ ts k).d/\j.length<=k/\M ((spQ ts k).cur=kV ts (F,k))/\M ((spQ ts k).ou=j.map (kV ts))/\M (∀f∈j,f.1<=f.2/\f.2<=m)/\M (A.ownsRow W.heap.size 35 1 a5 j.length (j.map (tS g aO cap)))/\M (Kept 0 0 W A)) (λ_ _ _ bF _=>m-(intOf bF).toNat)
 case atStart=>exact⟨0,0,[],yad,yac,rfl,rfl,rfl,yac,(show(spQ _ 0).cur=kV ts _ from by unfold kV;simp;rfl),(show(spQ _ 0).ou=[] from rfl),(λf bi=>by cases bi),yau _ _,Kept.refl 0 0 W⟩
 case round=>
  obtain⟨k,F,j,H,u,rfl,rfl,rfl,bo,ak,ar,ax,au,bd⟩:=hrel;by_cases aV:k<m
  ·have ay:k<ts.length:=by rw[bf.o];exact aV
   have c0:=(bk.o.keep bd.o).c0 k aV;have bY:M _:=E6 ay;have aj:=MQ (ts:=ts) (k:=k);have aN:M _:=Cf ay u;generalize spQ _ k=i1 at bY aj ak ar⊢;generalize ts.getD k _=af at c0 bY aN;obtain⟨d,bp,out⟩:=i1;simp only at aj ak ar⊢;have l:M (bp++[af]=kV ts (F,k+1)):=by show _=_;rw[aN.o,ak.o]
   by_cases z:af.sym=[40]
   ·have R:M (spQ ts _=⟨d+1,bp++[af],out⟩):=bY.o.trans (by unfold ik;rw[h3 z]);have b:M ((spQ ts (k+1)).cur=kV ts (F,k+1)):=by show _=_;rw[R.o];exact l.o
    have h:M ((spQ ts (k+1)).ou=j.map (kV ts)):=by show _=_;rw[R.o];exact ar.o
    have ba:(af.sym==[40])=true:=i0 z
    have a9:IntKind.i64.wrap (d+1)=d+1:=by rw[IntKind.wrap_i64];omega
    generalize af.sym=s at c0 ba;clear z bY aN ay;exact xce
   by_cases J:af.sym=[41]
   ·have R:M (spQ ts _=⟨d-1,bp++[af],out⟩):=bY.o.trans (by unfold ik;rw[h2 z,h3 J]);have b:M ((spQ ts (k+1)).cur=kV ts (F,k+1)):=by show _=_;rw[R.o];exact l.o
    have h:M ((spQ ts (k+1)).ou=j.map (kV ts)):=by show _=_;rw[R.o];exact ar.o
    have ba:=yav z;have bu:(af.sym==[41])=true:=i0 J
    have a9:IntKind.i64.wrap (d-1)=d-1:=by rw[IntKind.wrap_i64];omega
    generalize af.sym=s at c0 ba bu;clear z J bY aN ay;exact xce
   have ba:=yav z;have bu:=yav J;by_cases al:af.sym=[44]
   ·have co:(af.sym==[44])=true:=by rw[al];rfl
    by_cases aT:d=0
    ·subst aT;have R:M (spQ ts _=⟨0,_,out++[bp]⟩):=bY.o.trans (by unfold ik;rw[h2 z,h2 J,h3 ⟨al,rfl⟩]);have b:M ((spQ ts (k+1)).cur=kV ts (k+1,k+1)):=by show _=_;rw[R.o];unfold kV;simp
     have h:M ((spQ ts (k+1)).ou=(j++[(F,k)]).map (kV ts)):=by show _=_;rw[R.o,List.map_append];simp only;rw[ar.o,ak.o];rfl
     have RB:M (∀f∈j++[(F,k)],f.1<=f.2/\f.2<=m):=λf bi=>by
      obtain c|c:=List.mem_append.1 bi
      ·exact ax.o f c
      ·simp only[List.mem_singleton]at c;subst c;exact⟨u,by omega⟩
     generalize af.sym=s at c0 ba bu co;clear z J al bY aN ay;have bK:(0:Int)<=F:=xaa;have a9:(F:Int)<=k:=xaa;have bj:(k:Int)<=cap:=xaa;have K:((k:Int)-F).toNat=k-F:=xaa;have bR:F<cap:=xaa;have O:(wr.alloc (.cells #[.slice (some ⟨g,aO+F*3,none⟩) (k-F) (cap-F)] 35)).cell? ⟨wr.heap.size,0,none⟩=some (.slice (some ⟨g,aO+F*3,none⟩) (k-F) (cap-F)):=by rw[yat];rfl
     have aE:=dE 0 0 wr (.cells #[.slice (some ⟨g,aO+F*3,none⟩) (k-F) (cap-F)] 35)
     have q:M ((wr.alloc (.cells #[.slice (some ⟨g,aO+F*3,none⟩) (k-F) (cap-F)] 35)).ownsRow W.heap.size 35 1 u3 (j.map (tS g aO cap)).length (j.map (tS g aO cap))):=by
      rw[List.length_map];exact dW au.o aE
     go_wp2_with (first|(at_builtin;refine m7 _ rfl _ _ rfl _ _ _ rfl q.o _ _ _ _ rfl O ?c2 ?c3 ?_)|fail)
     case c2=>rw[List.length_map];omega
     case c3=>have:=bd.o.size;simp;omega
     intro g9 cap9 n9 bn b4 ca bO cn
     have bm:M (bn.ownsRow W.heap.size 35 1 (hZ g9 n9 cap9) (j++[(F,k)]).length ((j++[(F,k)]).map (tS g aO cap))):=by
      rw[List.map_append,yak];show World.ownsRow _ _ _ _ _ _ _;simpa[tS] using ca
     have bP:M _:=yb (bd.o.trans aE) q.o bO;clear ca bO cn b4 aE O;go_wp2_with fail;go_roundw
     case rel=>exact⟨k+1,k+1,j++[(F,k)],by omega,yac,by go_num,by go_num,by rw[R.o],by simp;omega,b,h,RB,bm,bP⟩
     case measure=>simp[intOf];omega
    have R:M (spQ ts _=⟨d,bp++[af],out⟩):=bY.o.trans (by unfold ik;rw[h2 z,h2 J,h2 (λc=>aT c.2)]);have b:M ((spQ ts (k+1)).cur=kV ts (F,k+1)):=by show _=_;rw[R.o];exact l.o
    have h:M ((spQ ts (k+1)).ou=j.map (kV ts)):=by show _=_;rw[R.o];exact ar.o
    have fu:=yav aT;generalize af.sym=s at c0 ba bu co;clear z J al bY aN ay aT;exact xce
   have R:M (spQ ts _=⟨d,bp++[af],out⟩):=bY.o.trans (by unfold ik;rw[h2 z,h2 J,h2 (λc=>al c.1)]);have b:M ((spQ ts (k+1)).cur=kV ts (F,k+1)):=by show _=_;rw[R.o];exact l.o
   have h:M ((spQ ts (k+1)).ou=j.map (kV ts)):=by show _=_;rw[R.o];exact ar.o
   have co:=yav al;generalize af.sym=s at c0 ba bu co;clear z J al bY aN ay;exact xce
  obtain rfl:k=m:=xaa
  have I:F<k:=by
   obtain c|c:=Nat.lt_or_ge F k
   ·exact c
   exfalso;apply D.o;rw[ak.o];unfold kV;simp only;rw[show k-F=0 by omega,List.take_zero]
  have p:M (fC ts=(j++[(F,k)]).map (kV ts)):=by
   show _=_;rw[bS.o,ar.o,ak.o,List.map_append];rfl
  have bK:(0:Int)<=F:=xaa;have a9:(F:Int)<=k:=xaa;have bj:(k:Int)<=cap:=xaa;have K:((k:Int)-F).toNat=k-F:=xaa;have bR:F<cap:=xaa;have O:(wr.alloc (.cells #[.slice (some ⟨g,aO+F*3,none⟩) (k-F) (cap-F)] 35)).cell? ⟨wr.heap.size,0,none⟩=some (.slice (some ⟨g,aO+F*3,none⟩) (k-F) (cap-F)):=by rw[yat];rfl
  have aE:=dE 0 0 wr (.cells #[.slice (some ⟨g,aO+F*3,none⟩) (k-F) (cap-F)] 35)
  have q:M ((wr.alloc (.cells #[.slice (some ⟨g,aO+F*3,none⟩) (k-F) (cap-F)] 35)).ownsRow W.heap.size 35 1 u3 (j.map (tS g aO cap)).length (j.map (tS g aO cap))):=by
   rw[List.length_map];exact dW au.o aE
  generalize spQ _ k=i1 at*;go_wp2_with (first|(at_builtin;refine m7 _ rfl _ _ rfl _ _ _ rfl q.o _ _ _ _ rfl O ?c2 ?c3 ?_)|fail)
  case c2=>rw[List.length_map];omega
  case c3=>have:=bd.o.size;simp;omega
  intro g9 cap9 n9 bn b4 ca bO cn;have bD:(fC ts).length=j.length+1:=by rw[p.o];simp
  have bm:M (bn.ownsRow W.heap.size 35 1 (hZ g9 n9 cap9) (j.length+1) ((j++[(F,k)]).map (tS g aO cap))):=by
   rw[List.map_append];show World.ownsRow _ _ _ _ _ _ _;simpa[tS] using ca
  have bP:M _:=yb (bd.o.trans aE) q.o bO;have x:n9=(fC ts).length:=by rw[bD,b4]
  have r:=Q x;have t:=Q bD;clear ca bO cn b4 aE O x bD;go_wp2_with fail;go_ret;refine⟨_,_,congrArg (λaX=>Ending.returned (.slice _ aX _)) r.o,⟨λfa=>?_⟩,bP.o⟩;have aw:=bm.o;have aJ:=dO (k:=g9) aw (by simp[Value.ownBlock]);refine⟨_,rfl,aJ.1,aJ.2,λi hi=>?_⟩;have b2:i<(j++[(F,k)]).length:=by rw[p.o,List.length_map]at hi;exact hi
  have X:=World.ownsRow.cells (g:=g9) aw rfl i (tS g _ _ ((j++[(F,k)]).getD i (0,0))) (by rw[List.getElem?_map,yah,yal b2];rfl);rw[fL,Nat.zero_add]at X
  have y:(fC ts).getD i []=kV ts ((j++[(F,k)]).getD i (0,0)):=by
   rw[p.o,yah,List.getElem?_map,yah,yal b2];rfl
  have bA:((j++[(F,k)]).getD i (0,0)).1<=((j++[(F,k)]).getD i (0,0)).2/\((j++[(F,k)]).getD i (0,0)).2<=k:=by
   have aR:(j++[(F,k)]).getD i (0,0)∈j++[(F,k)]:=by
    rw[yah,yal b2];exact List.getElem_mem _
   obtain c|c:=List.mem_append.1 aR
   ·exact ax.o _ c
   simp only[List.mem_singleton]at c;rw[c];exact⟨u,yac⟩
  generalize (j++[(F,k)]).getD i _=f at X y bA;rw[y,E8 (it bf.o bA.2)];exact⟨_,_,X,(bk.o.keep bP.o).cut bA.2,by omega⟩
theorem WS.graph{W0 W}(h:WS W P B u1 ap u3 u4 am st){lo}(a5:B<=lo)
  (r1:W.ownsRow lo 3 1 a9 st.ins.length (st.ins.map (Value.int .i64))) (bp:W.ownsRow lo 74 6 bj vs.length (f9 vs)) (bo:W.ownsRow lo 3 1 bI st.outs.length (st.outs.map (Value.int .i64)))
  (p:Apart a9 bj) (q:Apart a9 bI) (r:Apart bj bI) (F:P<lo) (bw:∀b,u4.ownBlock=some b->b<lo)
  (f:W0.heap.size<=lo) (bx:Mv (Mst P u1 ap u3 u4) W0 (Mst P u1 ap u3 u4) W) (e9:∀i,i<am.length->BcOK (λb=>Mst P u1 ap u3 u4 b\/W0.heap.size<=b) W (am.getD i h9) (st.names.getD i (.val [] 0))):
  WS (((W.setCell ⟨P,0,none⟩ a9).setCell ⟨P,1,none⟩ bj).setCell ⟨P,2,none⟩ bI) P B a9 bj bI u4 am {st with vs:=vs}/\Mv (Mst P u1 ap u3 u4) W0 (Mst P a9 bj bI u4) (((W.setCell ⟨P,0,none⟩ a9).setCell ⟨P,1,none⟩ bj).setCell ⟨P,2,none⟩ bI):=by
 have aq:∀{aX:Value}{e s n:Nat}{G:List _},W.ownsRow lo e s aX n G->aX.ownBlock≠some P:=λah c=>ih ((dO ah c).1)
 have S:=h.np.2.2.2;have g:∀{aX:Value}{e s n:Nat}{G:List _},W.ownsRow lo e s aX n G->Apart aX _:=λah k H bd=>ip ((dO ah H).1) (bw k bd)
 obtain⟨aP,aQ,aU⟩:=fQ W P h.c0 h.c1 h.c2 a9 bj bI;have a0:=fN W P a9 bj bI
 have es:∀o,o≠0->o≠1->o≠2->(((W.setCell ⟨P,0,_⟩ a9).setCell ⟨P,1,_⟩ bj).setCell ⟨P,2,_⟩ bI).cell? _=W.cell? ⟨P,o,_⟩:=λo aC z J=>by
  rw[dR (.inr (λe=>J e.symm)),dR (.inr (λe=>z e.symm)),dR (.inr (λe=>aC e.symm))]
 have bc:Mv (Mst P u1 ap u3 u4) W0 (Mst P a9 bj bI u4) (((W.setCell ⟨P,0,none⟩ a9).setCell ⟨P,1,none⟩ bj).setCell ⟨P,2,none⟩ bI):=by
  refine⟨bx.bad (a0.chg1 (.inl rfl)),λb I=>?_⟩;exact xec
 have l:Mv _ W (λb=>Mst P u1 ap u3 u4 b\/W0.heap.size<=b) _:=⟨a0.chg1 (.inl (.inl rfl)),λb I=>.inl I⟩
 have j:∀{aX:Value}{e s n:Nat}{G:List _},W.ownsRow _ e s aX n G->aX.ownBlock≠some P->(((W.setCell ⟨P,0,_⟩ a9).setCell ⟨P,1,_⟩ bj).setCell ⟨P,2,_⟩ bI).ownsRow B e s aX n _:=λah V=>oT (dP (dP (dP ah V) V) V) a5;refine⟨⟨by simpa using h.lt,λo=>by simp[h.fr o],aP,aQ,aU,(es 3 xab xab xab).trans h.c3,(es 4 xab xab xab).trans h.c4,(es 5 xab xab xab).trans h.c5,(es 6 xab xab xab).trans h.c6,j r1 (aq r1),j bp (aq bp),j bo (aq bo),dP (dP (dP h.r4 S) S) S,⟨aq r1,aq bp,aq bo,S⟩,⟨p,q,g r1,r,g bp,g bo⟩,h.nl,λi hi=>?_,h.sz⟩,bc⟩;refine((e9 i hi).mv l).weak (λb I=>?_);exact xec
theorem WS.old{W0 W}(h:WS W0 P B u1 ap u3 u4 am st)(k:Kept 0 0 W0 W):∀i,i<am.length->BcOK (λb=>Mst P u1 ap u3 u4 b\/W0.heap.size<=b) W (am.getD i h9) (st.names.getD i (.val [] 0)):=λi hi=>by
 have key:∀{a:Option _}{n:Nat}{ts:List _},TkR _ _ a n _->TkR (λb=>Mst P u1 ap u3 u4 b\/W0.heap.size<=b) W a n ts:=λaz=>⟨az.len,λV=>by
  obtain⟨g,aO,e,z,J⟩:=az.at_ V
  exact⟨g,_,e,λc=>c.elim z (λc=>ih J.lt),J.keep k⟩⟩
 have I:=h.nb i hi
 cases aT:st.names.getD i (.val [] 0) with
 |val bb v=>rw[aT]at I;exact I
 |fn bb ps e=>
  rw[aT]at I
  obtain⟨z,J,al,ts,bw,bL,bf⟩:=I
  exact⟨z,J,key al,_,bw,bL,key bf⟩
theorem qF{W:World}{L bi a6 ak az n1 aI:Nat}{u G ys}(z:W.ownsRow L K ak u n1 G)(J:W.ownsRow bi a6 az v aI ys)(bl:K≠a6):Apart u v:=λk H aD=>by
 obtain⟨c,_⟩|⟨g,c,bp,e,_,aW,_⟩:=z.2
 ·rw[c]at H;simp[Value.ownBlock]at H
 ·obtain⟨f,_⟩|⟨aY,f,b,m,_,bA,_⟩:=J.2<;>grind[Value.ownBlock]
theorem pD{W0 W}(aC:WS W0 P B u1 ap u3 u4 am st)(bx:Kept 0 0 W0 W){aW bs}
  (r1:W.ownsRow W0.heap.size 3 1 (.slice L st.ins.length aW) st.ins.length (st.ins.map (Value.int .i64))) (bp:W.ownsRow W0.heap.size 74 6 (.slice a2 vs.length cap) vs.length (f9 vs)) (bo:W.ownsRow W0.heap.size 3 1 (.slice U st.outs.length bs) st.outs.length (st.outs.map (Value.int .i64))) (q:Apart (.slice L st.ins.length aW) (.slice U st.outs.length bs))
  (H:∀v∈vs,v.k<18446744073709551616) (ab:∀k,k<vs.length->1<=(vs.getD k h7).len/\(vs.getD k h7).len<=1000) (j:Nat) (p:Nat):
  Calls prog 89 #[ge P,fj L st.ins.length aW a2 vs.length cap U st.outs.length bs,h0 j,h0 p] W λe A=>TrO W0 P B u1 ap u3 u4 am (if jf vs=true then .error (5,p)else .ok ({st with vs:=vs},j)) e A:=by
 have af:=dE 0 0 W (eZ L st.ins.length aW a2 vs.length cap U st.outs.length bs);have aw:M _:=gQ W (.slice L st.ins.length aW) (.slice a2 vs.length cap) (.slice U st.outs.length bs);have ad:GS W _ _ _ _ _ _ _ _ _:=⟨vJ r1 rfl,Es bp rfl H,vJ bo rfl⟩
 have bk:M _:=za aW cap bs (ad.keep af) ab;have bV:M _:=bx.trans af;have ak:M _:=dW r1 af;have bM:M _:=dW bp af;have bY:M _:=dW bo af;have b0:M (Apart _ _/\Apart (.slice L _ _) _/\Apart (.slice a2 _ _) _):=⟨qF r1 bp xab,q,qF bp bo xab⟩
 have c:=Q aC;clear ad ab H af bx r1 bp bo q aC;obtain⟨r,ah⟩:∃r:Rs _,r=(if jf vs=true then .error (5,p)else .ok ({st with vs:=vs},j)):=⟨_,rfl⟩
 rw[<-ah];have aY:=Q ah;clear ah;go_enter func89,ntmps89;go_wp2_with fail;generalize W.alloc _=aq at aw bk bV ak bM bY⊢;generalize W.heap.size=bh at aw⊢;obtain⟨_,aP,aQ,aU⟩:=aw.o;cases I:jf vs
 ·rw[I]at bk;have R:M _:=aY.o.trans (h2 (by rw[I];simp))
  have S:M (∀A,Kept 0 0 _ A->_):=λA k=>
   WS.graph (c.o.keep (bV.o.trans k)) (ip c.o.sz c.o.lt) (dW ak.o k) (dW bM.o k) (dW bY.o k) b0.o.1 b0.o.2.1 b0.o.2.2 c.o.lt (λb I=>(dO c.o.r4 I).2) yac (Mv.of (bV.o.trans k)) (c.o.old (bV.o.trans k))
  have aG:M (∀A,Kept 0 0 _ A->(A.cell? _=some _/\A.cell? _=some _/\A.cell? _=some _)/\(∀o,A.frozen? _=false)/\G0 _ _ _ _ _):=λA k=>by
   have h:=c.o.keep (bV.o.trans k)
   exact⟨⟨h.c0,h.c1,h.c2⟩,h.fr,aw.o.keep k⟩
  clear I aY;go_upto_region 3 with (go_at_call 66;refine yai bk.o ?_;rintro e aj ⟨rfl,t⟩);obtain⟨⟨b1,bw,p2⟩,c7,⟨_,bJ,ba,bu⟩⟩:=aG.o _ t;have bZ:=c7 0;have aS:=c7 1;have bO:=c7 2;have aE:M _:=S.o _ t;clear aP aQ aU aw bk S aG c7 t;go_wp2_with fail;go_ret;rw[R.o];exact⟨rfl,_,_,_,_,aE.o.1,aE.o.2⟩
 rw[I]at bk;have R:M _:=aY.o.trans (h3 I);have bX:M (∀A,Kept 0 0 _ A->_):=λA k=>jC (c.o.keep (bV.o.trans k)).c5 (c.o.keep (bV.o.trans k)).c6 (c.o.keep (bV.o.trans k)).fr 5 p (Mst P u1 ap u3 u4) (.inl rfl);clear I aY
 go_wp2_with (first
  |(go_at_call 66;refine yai bk.o ?_;rintro e aj ⟨rfl,t⟩)
  |(go_at_call 32;refine yai (bX.o _ t) ?_;rintro e ae ⟨rfl,u⟩))
 go_ret;rw[R.o];exact⟨rfl,u.c5,u.c6,(Mv.of (bV.o.trans t)).bad u.chg⟩
theorem wb{W ad}(O:M (MS w W L m1 K U m3 ag vs ⟨o,T,aB,aA,aL,a7⟩ base R R' a2 cap))(aj:vs.length<=900000):MfC 17 W (MpR w L m1 K U m3 ag vs ⟨o,T,aB,aA,aL,a7⟩ base R (dL o T ad aA 0)) c0 c1 (h0 ad) c3 c4 (ge w.heap.size) bU ce b5 bz bN Y (ge (w.heap.size+1+1)) (h0 T) cf b3 cg b7 cp ct Y:=by
 unfold MfC;intros;rename_i ay;have aE:M (∀aq,Kept 0 0 W aq->_):=λaq k=>MS.call O.o k (dL o T ad aA 0) xaa;have bq:=O.o.g.c0;have ak:=O.o.g.c1;have az:=O.o.g.c2;have bh:=O.o.v.c0;exact xal
theorem E9{W i C}(O:M (MS w W L m1 K U m3 ag vs ⟨o,T,aB,aA,aL,a7⟩ base R R' a2 cap))(aj:vs.length<=900000):MfC 23 W (MpR w L m1 K U m3 ag vs ⟨o,T,aB,aA,aL,a7⟩ base R (dL 4 T i C 0)) c0 (h0 i) c2 (h0 C) c4 (ge w.heap.size) bU ce b5 bz bN Y (ge (w.heap.size+1+1)) (h0 T) cf b3 cg b7 cp ct Y:=by
 unfold MfC;intros;rename_i ay;have aE:M (∀aq,Kept 0 0 W aq->_):=λaq k=>MS.call O.o k (dL 4 T i C 0) xaa;exact xae
theorem KU{W}(O:M (MS w W L m1 K U m3 ag vs ⟨o,T,aB,aA,aL,a7⟩ base R R' a2 cap))(aj:vs.length<=900000)(bb:(vs.length:Int)-1=N):MfC 6 W (λA=>A.cell? ⟨w.heap.size+1,0,none⟩=some (.slice L m1 K)/\A.cell? ⟨w.heap.size+1,1,none⟩=some (.slice a2 vs.length cap)/\A.cell? ⟨w.heap.size+1,2,none⟩=some (.slice U m3 ag)/\M (∃ao,Kept 0 0 W ao/\A=eY ao (w.heap.size+1) (.slice L m1 K) (.slice a2 vs.length cap) (.slice U m3 ag))) c0 c1 c2 c3 c4 (ge w.heap.size) bU ce b5 bz (ge (w.heap.size+1)) Y b9 cF cf b3 cg b7 cp ct (h0 N):=by
 exact no_implicit_lambda% xaf
theorem MT{W}(O:M (MS w W L m1 K U m3 ag vs ⟨o,T,aB,aA,aL,a7⟩ base R R' a2 cap))(aj:vs.length<=900000)(bb:(vs.length:Int)-1=N):MfC 11 W (λA=>A.cell? ⟨w.heap.size+1,0,none⟩=some (.slice L m1 K)/\A.cell? ⟨w.heap.size+1,1,none⟩=some (.slice a2 vs.length cap)/\A.cell? ⟨w.heap.size+1,2,none⟩=some (.slice U m3 ag)/\M (∃ao,Kept 0 0 W ao/\A=eY ao (w.heap.size+1) (.slice L m1 K) (.slice a2 vs.length cap) (.slice U m3 ag))) c0 c1 c2 c3 c4 (ge w.heap.size) bU ce b5 bz (ge (w.heap.size+1)) Y b9 cF cf b3 cg b7 cp ct (h0 N):=by
 exact no_implicit_lambda% xaf
