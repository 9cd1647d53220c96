import Derived.Test.YtcjhlkdleojbjaaGreatP42
namespace Go.Proofs.Z
variable{Zp:Prop}
open Tryz
set_option maxRecDepth 1000000
set_option maxHeartbeats 0
open Go.RowKit Flt
attribute[local go_sem] eF eE eD
variable{C w I az:World}{P n cap i Q H c1 c3 Z j K base ab c d c2 x:Nat}{a a1 a3 U:Option Addr}{bs ins outs:List Int}{S vs:List Vl}{m:Int}{v:Vl}
variable{bs:List Int}
def Au:Code->Nat
 |.region i _ _=>i
 |.seq a _=>Au a
 |.block _ c=>Au c
 |.scope c=>Au c
 |.loop c=>Au c
 |_=>0
def vX(n:Nat):Code->Option Code
 |.seq a b=>if Au b=n then some b else match vX n b with
  |some c=>some c
  |none=>vX n a
 |.block _ c=>vX n c
 |.scope c=>vX n c
 |.loop c=>vX n c
 |_=>none
def vY(n:Nat):Code->Option Code
 |.cond t a b=>match t with
  |.tmp j=>if j=n then some (.cond (.tmp j) a b)else none
  |_=>none
 |.seq a b=>match vY n b with
  |some c=>some c
  |none=>vY n a
 |.block _ c=>vY n c
 |.scope c=>vY n c
 |.loop c=>vY n c
 |_=>none
noncomputable def QD:Code:=(Tryz.f16.body.bind (vY 90)).getD .skip
noncomputable def I7 (n:Nat):Code:=(Tryz.f16.body.bind (vX n)).getD .skip
theorem Mf{P}{c:Code}{Q a}(h:c.wp P (Exit.then (λa w=>Q .normal a w) λ_ _ _=>False) a w):c.wp P Q a w:=by
 exact xid
theorem X.qba(h:Zp:=by
 have hb:=jl f1.bx bd (λc=>(f.nr _ (.inr (.inl c))).2 rfl);have aj:Kept Q _ _ (fw ag Q (.slice a1 Z c1) _ (.slice a3 ab c3)):=ft _ Q _ (hz aq (vs.length+1) cap') _;have F:=k.size;have N:=bd.size;refine⟨_,_,rfl,hb,f1.vals bd a6 xac aJ O aj (qJ hb _ _ _),?_,λo=>?_,yao F (yao N aj.size)⟩
 ·rcases aJ with c|c
  ·intro e;exact aI.2.2 (e ▸ c)
  omega
 rw[aj.cell (by show K<_;omega) (by show ¬(Q<=K/\K<Q+1);omega),bd.cell (by show K<_;omega) aI.2.2,k.cell aI.1 xaa]):Zp:=h
open X in
theorem Dy.putK{W}(f:Dy C W P a n cap i bs H Q (.slice a1 Z c1) (.slice U vs.length c2) (.slice a3 ab c3) ins vs outs)(k:Kept 0 0 W az)(v)(aO:v.k<18446744073709551616)(ad:vs.length<=100000)(aI:K<W.heap.size/\K≠Q/\(Value.slice U vs.length c2).ownBlock≠some K):
  Calls prog 44 #[eZ a1 Z c1 U vs.length c2 a3 ab c3,v.agg] az λe ag=>∃aq cap',e=.returned (eZ a1 Z c1 (some ⟨aq,0,none⟩) (vs.length+1) cap' a3 ab c3)/\RB ag Q (.slice a1 Z c1) (.slice U vs.length c2) (.slice a3 ab c3)/\(Dy C (fw ag Q (.slice a1 Z c1) (hz aq (vs.length+1) cap') (.slice a3 ab c3)) P a n cap i bs H Q (.slice a1 Z c1) (hz aq (vs.length+1) cap') (.slice a3 ab c3) ins (vs++[v]) outs/\aq≠K/\(∀o,(fw ag Q (.slice a1 Z c1) (hz aq (vs.length+1) cap') (.slice a3 ab c3)).cell? ⟨K,o,none⟩=W.cell? ⟨K,o,none⟩)/\W.heap.size<=(fw ag Q (.slice a1 Z c1) (hz aq (vs.length+1) cap') (.slice a3 ab c3)).heap.size):=by
 exact qel
theorem Av{P:World->Prop}{W}(h:∀I,I=W->P I):P W:=h W rfl
theorem QE{W:World}{bz bo bw bR cz b0 m p}(aI:W.heap.size=K)(al:bz<18446744073709551616/\fb bz=ksM 0)(F:bo<18446744073709551616/\fb bo=ksM 1)(N:bw<18446744073709551616/\fb bw=ksM 2)(h3:bR<18446744073709551616/\fb bR=ksM 3)(a6:cz<18446744073709551616/\fb cz=ksM 4)(bF:b0<18446744073709551616/\fb b0=ksM 5)(q)(ap:q<6):∃x,(x<18446744073709551616/\fb x=ksM q)/\((W.alloc (.cells #[.float .f64 bz,.float .f64 bo,.float .f64 bw,.float .f64 bR,.float .f64 cz,.float .f64 b0] p)).drewN m).cell? ⟨K,q,none⟩=some (.float .f64 x):=by
 subst aI;match q,ap with
 |0,_=>exact⟨_,al,by simp⟩
 |1,_=>exact⟨_,F,by simp⟩
 |2,_=>exact⟨_,N,by simp⟩
 |3,_=>exact⟨_,h3,by simp⟩
 |4,_=>exact⟨_,a6,by simp⟩
 |5,_=>exact⟨_,bF,by simp⟩
def C1(w:World)(P n cap i Q:Nat)(a:Option Addr)(bs:List Int)(a1:Option Addr)(c1:Nat)(a3:Option Addr)(c3:Nat)(ins outs:List Int)(S:List Vl)(a2:Option Addr)(c2:Nat)(vs:List Vl)(W:World):Prop:=
 vs.map sv=S/\Dy w W P a n cap i bs w.heap.size Q (.slice a1 ins.length c1) (.slice a2 vs.length c2) (.slice a3 outs.length c3) ins vs outs/\(Value.slice a2 vs.length c2).ownBlock≠some (Q+1)/\Q+1<W.heap.size/\∀m:Nat,m<6->∃x,(x<18446744073709551616/\fb x=ksM m)/\W.cell? ⟨Q+1,m,none⟩=some (.float .f64 x)
theorem C1.next{W aZ aq cap'}(h:C1 w P n cap i Q a bs a1 c1 a3 c3 ins outs S U c2 vs W)(e:sv v=aZ)
  (a5:Dy w I P a n cap i bs w.heap.size Q (.slice a1 ins.length c1) (hz aq (vs.length+1) cap') (.slice a3 outs.length c3) ins (vs++[v]) outs/\aq≠Q+1/\(∀o,I.cell? ⟨Q+1,o,none⟩=W.cell? ⟨Q+1,o,none⟩)/\W.heap.size<=I.heap.size):C1 w P n cap i Q a bs a1 c1 a3 c3 ins outs (S++[aZ]) (some ⟨aq,0,none⟩) cap' (vs++[v]) I:=
 ⟨by rw[List.map_append,h.1,<-e];rfl,by grind,λq=>a5.2.1 (by simpa[Value.ownBlock] using q),yak h.2.2.2.1 a5.2.2.2,λm am=>by rw[a5.2.2.1];exact h.2.2.2.2 m am⟩
def L2(w:World)(P n cap Q:Nat)(a:Option Addr)(bs:List Int)(a1:Option Addr)(c1:Nat)(a3:Option Addr)(c3:Nat)(ins outs:List Int)(s:List Vl×Nat)(a2:Option Addr)(c2:Nat)(vs:List Vl)(W:World):Prop:=
 vs.map sv=s.1/\Dy w W P a n cap s.2 bs w.heap.size Q (.slice a1 ins.length c1) (.slice a2 vs.length c2) (.slice a3 outs.length c3) ins vs outs
theorem OW(vs:List Vl)(x):vd (vs.map sv) x=sv (vs.getD x hF):=by
 unfold vd;rw[yai,yai,List.getElem?_map];cases vs[x]?<;>rfl
theorem P8(W:World)(p){q}(ap:q<5):(W.alloc (.cells #[hA 2,hA 3,hA 4,hA 5,hA 7] p)).cell? ⟨W.heap.size,q,none⟩=some (hA (([2,3,4,5,7]:List Int).getD q 0)):=by
 grind[yav]
theorem Dy.ox{W u1 u2 u3}(f:Dy C W P a n cap i bs H Q u1 u2 u3 ins vs outs):∀o,Dy C (W.alloc o) P a n cap i bs H Q u1 u2 u3 ins vs outs:=λo=>f.keep (ez 0 0 W o)
theorem Dy.grow{W}(f:Dy C W P a n cap i bs H Q (.slice a1 Z c1) (.slice U vs.length c2) (.slice a3 ab c3) ins vs outs)(ad:vs.length<=100000)(bA:∀k,k<vs.length->1<=(vd vs k).len/\(vd vs k).len<=1000):
  Calls prog 48 #[eZ a1 Z c1 U vs.length c2 a3 ab c3,hy P] W λe ag=>∃v aq cap',e=.returned (eZ a1 Z c1 (some ⟨aq,0,none⟩) (vs.length+1) cap' a3 ab c3)/\sv v=(gwM ins vs bs i).1/\RB ag Q (.slice a1 Z c1) (.slice U vs.length c2) (.slice a3 ab c3)/\Dy C (fw ag Q (.slice a1 Z c1) (hz aq (vs.length+1) cap') (.slice a3 ab c3)) P a n cap (gwM ins vs bs i).2 bs H Q (.slice a1 Z c1) (hz aq (vs.length+1) cap') (.slice a3 ab c3) ins (vs++[v]) outs:=by
 have aM:=f.p0;have ap:=f.rq;have F:=f.k0.size;refine(Nc f.dg f.rd aM ad bA).mono ?_;rintro e ag ⟨v,aq,cap',rfl,ao,aK,aD,ah,aJ⟩;have aT:∀b,(Value.slice U _ _).ownBlock=some b->C.heap.size<=b/\b≠H/\b≠Q:=λb hb=>⟨(eH f.dg.r2 hb).1,f.nr b (.inr (.inl hb))⟩
 have aW:∀b,(b=P\/(Value.slice U vs.length c2).ownBlock=some b)->b≠H/\b≠Q:=by grind
 have bC:aq≠H/\aq≠Q:=by
  exact xeq
 have hb:=jl f.bx ah (λc=>(aW _ c).2 rfl);have aj:Kept Q _ ag (fw _ Q (.slice a1 Z c1) (hz aq (vs.length+1) cap') (.slice a3 ab c3)):=ft _ _ _ _ _;have N:=ah.size
 have ad:∀b,(Value.slice a1 Z c1).ownBlock=some b\/(hz aq (vs.length+1) cap').ownBlock=some b\/(Value.slice a3 ab c3).ownBlock=some b->b≠H/\b≠Q:=by
  exact xgy
 have own:∀{u:Value}{xs:List _}{m e s:Nat},ag.ownsRow C.heap.size e s u m xs->(∀b,u.ownBlock=some b->b≠Q)->_:=λo h=>f9 o aj λb hb=>by grind
 refine⟨v,_,_,rfl,ao,hb,aD.keep aj (.inl xaa),⟨own aK.r1 λb hb=>(ad b (.inl hb)).2,own aK.r2 λb hb=>(ad b (.inr (.inl hb))).2,own aK.r3 λb hb=>(ad b (.inr (.inr hb))).2,aK.a12,aK.a13,aK.a23,aK.k,yao aK.sz aj.size⟩,qJ hb _ _ _,(jl f.rs ah (λc=>(aW _ c).1 rfl)).kept aj xaa,aM,ap,ad,⟨aj.os.trans (ah.os.trans f.k0.os),aj.tape.trans (ah.tape.trans f.k0.tape),aj.output.trans (ah.output.trans f.k0.output),yao F (yao N aj.size),λb hb g=>?_⟩⟩;rw[aj.block b xaa xaa,ah.block b xaa (by grind)];exact f.k0.block b hb g
theorem L2.of{us}(al:vs.map sv=S)(aB:us=vs++[v]/\us.length=vs.length+1)
  (a5:Dy w I P a n cap j bs w.heap.size Q (.slice a1 ins.length c1) (.slice U us.length c2) (.slice a3 outs.length c3) ins us outs):L2 w P n cap Q a bs a1 c1 a3 c3 ins outs (S++[sv v],j) U c2 us I:=
 ⟨by grind,a5⟩
theorem L2.of2(al:vs.map sv=S)
  (a5:Dy w I P a n cap j bs w.heap.size Q (.slice a1 ins.length c1) (.slice U (vs.length+1) c2) (.slice a3 outs.length c3) ins (vs++[v]) outs):L2 w P n cap Q a bs a1 c1 a3 c3 ins outs (S++[sv v],j) U c2 (vs++[v]) I:=by
 grind[L2.of]
theorem Dy.putU{W}(f:Dy C W P a n cap i bs H Q (.slice a1 Z c1) (.slice U vs.length c2) (.slice a3 ab c3) ins vs outs)(k:Kept 0 0 W az)(v)(aO:v.k<18446744073709551616)(ad:vs.length<=100000):
  Calls prog 44 #[eZ a1 Z c1 U vs.length c2 a3 ab c3,v.agg] az λe ag=>∃us aq cap',e=.returned (eZ a1 Z c1 (some ⟨aq,0,none⟩) us.length cap' a3 ab c3)/\E (us=vs++[v]/\us.length=vs.length+1)/\RB ag Q (.slice a1 Z c1) (.slice U vs.length c2) (.slice a3 ab c3)/\Dy C (fw ag Q (.slice a1 Z c1) (hz aq us.length cap') (.slice a3 ab c3)) P a n cap i bs H Q (.slice a1 Z c1) (hz aq us.length cap') (.slice a3 ab c3) ins us outs:=by
 refine(f.put k v aO ad).mono ?_;rintro e ag ⟨aq,cap',rfl,hb,aK⟩;have af:(vs++[v]).length=vs.length+1:=by simp
 exact⟨_,_,_,by rw[af],⟨rfl,af⟩,hb,by grind⟩
def pP(w:World)(P n cap Q:Nat)(a:Option Addr)(bs:List Int)(a1:Option Addr)(c1:Nat)(a3:Option Addr)(c3:Nat)(ins outs:List Int)(s:List Vl×Nat)(base c d x:Nat)(m:Int)(W:World):Prop:=
 ∀{Post:Act->World->Prop}{b:Bool}{e f g h i j k l o p bb bc bd q r t u v y z A B C D Eaa F G H I J K L M N O R S T U V X Y Z aa ab ad ae af ag ah ai aj ak al am an ao ap aq ar au av aw ax ay az aA aB aC aD aE aF aG aH aI aJ aK aL aM aN aO be bf bg bh bi bj bk bl bm bn bo bp bq br bt bu bv bw bx bz bA bB bC bD bE bF bG bH bI bJ bK bL bM bN bO bP bQ bR bS bT bU bV bW bX bY bZ b0 b1 b2 b3 b4 b5 b6 b7 b8 b9 ca cb cc cd ce cf cg ch ci cj ck cl cm cn co cp cq cr cs ct cu cv cw cx cy cz cA cB cC cD cE cF cG cH cI cJ cK cL aP aQ aR aS aT aU aV aW aX aY aZ a0 a4 a5 a6 a7 a8 a9 ba:Value},(b=true↔c%8=0)->(∀{cM cN cO cP cQ cR cS cT cU cV cW cX cY cZ c0 c4 c5 c6 c7 c8 c9 da db dc dd de df dg dh di dj dk dl dm dn dp dq dr ds dt du dv dw dx dy dz dA dB dC dD dE dF dG dH dI dJ dK dL dM dN dO dP dQ dR dS dT dU dV dW dX dY dZ d0 d1 d2 d3 d4 d5 d6 d7 d8 d9 ea eb ec ed ee ef eg eh ei ej ek el em en eo ep:Value}{W':World}{a2:Option Addr}{c2:Nat}{vs:List Vl},L2 w P n cap Q a bs a1 c1 a3 c3 ins outs s a2 c2 vs W'->Post ⟨#[.pointer (some ⟨P,0,none⟩),e,f,g,h,i,j,k,.pointer (some ⟨Q,0,none⟩),l,.int .i64 (base:Int),o,p,.int .i64 (c:Int),.int .i64 (d:Int),.int .i64 (x:Int),.int .i64 m,cM,cN,cO,q,r,t,u,v,y,z,A,B,C,D,Eaa,F,G,H,I,J,K,L,M,N,O,R,S,T,U,V,X,Y,Z,aa,ab,ad,ae,af,ag,ah,ai,aj,ak,al,am,an,ao,ap,aq,ar,au,av,aw,ax,ay,az,aA,aB,aC,aD,aE,aF,aG,aH,aI,aJ,aK,aL,aM,aN,aO,cP,cQ,cR,cS,cT,cU,cV,cW,cX,cY,cZ,c0,c4,c5,c6,c7,c8,c9,da,db,dc,dd,de,df,dg,dh,di,dj,dk,dl,dm,dn,dp,dq,dr,ds,dt,du,dv,dw,dx,dy,dz,dA,dB,dC,dD,dE,dF,dG,dH,dI,dJ,dK,dL,dM,dN,dO,dP,dQ,dR,dS,dT,dU,dV,dW,dX,dY,dZ,d0,d1,d2,d3,d4,d5,d6,d7,d8,d9,ea,eb,ec,ed,ee,ef,eg,eh,ei,ej,ek,el,em,en,eo,ep,aP,aQ,aR,aS,aT,aU,aV,aW,aX,aY,aZ,a0,a4,a5,a6,a7,a8,a9,ba],[]⟩ W')->Code.wp prog QD (Exit.then Post λ_ _ _=>False) ⟨#[.pointer (some ⟨P,0,none⟩),e,f,g,h,i,j,k,.pointer (some ⟨Q,0,none⟩),l,.int .i64 (base:Int),o,p,.int .i64 (c:Int),.int .i64 (d:Int),.int .i64 (x:Int),.int .i64 m,bb,bc,bd,q,r,t,u,v,y,z,A,B,C,D,Eaa,F,G,H,I,J,K,L,M,N,O,R,S,T,U,V,X,Y,Z,aa,ab,ad,ae,af,ag,ah,ai,aj,ak,al,am,an,ao,ap,aq,ar,au,av,aw,ax,ay,az,aA,aB,aC,aD,aE,aF,aG,aH,aI,aJ,aK,aL,aM,aN,aO,be,bf,.bool b,bg,bh,bi,bj,bk,bl,bm,bn,bo,bp,bq,br,bt,bu,bv,bw,bx,bz,bA,bB,bC,bD,bE,bF,bG,bH,bI,bJ,bK,bL,bM,bN,bO,bP,bQ,bR,bS,bT,bU,bV,bW,bX,bY,bZ,b0,b1,b2,b3,b4,b5,b6,b7,b8,b9,ca,cb,cc,cd,ce,cf,cg,ch,ci,cj,ck,cl,cm,cn,co,cp,cq,cr,cs,ct,cu,cv,cw,cx,cy,cz,cA,cB,cC,cD,cE,cF,cG,cH,cI,cJ,cK,cL,aP,aQ,aR,aS,aT,aU,aV,aW,aX,aY,aZ,a0,a4,a5,a6,a7,a8,a9,ba],[]⟩ W
structure DgH(w:World)(P n cap Q:Nat)(a:Option Addr)(bs:List Int)(a1:Option Addr)(c1:Nat)(a3:Option Addr)(c3:Nat)(ins outs:List Int)(S:List Vl)(j base c d x:Nat)(m:Int)(a2:Option Addr)(c2:Nat)(vs:List Vl)(W:World):Prop where
 D:Dy w W P a n cap j bs w.heap.size Q (.slice a1 ins.length c1) (.slice a2 vs.length c2) (.slice a3 outs.length c3) ins vs outs
 hs:vs.map sv=S
 hx:x<vs.length
 hl:6<=vs.length/\vs.length<=1000
 hc:c<256/\d<256/\base<=100
 hm:(vs.getD x hF).len=m
 ln:LenS S
variable{bs:List Int}
theorem P9{W}(h:DgH w P n cap Q a bs a1 c1 a3 c3 ins outs S j base c d x m U c2 vs W)(ah:c%8=0):pP w P n cap Q a bs a1 c1 a3 c3 ins outs (S++[eK 6 m x 0 0],j) base c d x m W:=by
 unfold pP;intros;rename_i B hP;have bL:E _:=@hP;have HD:E _:=h.D;have HSV:E _:=h.hs;have af:=h.hl;have g:=h.hc;obtain⟨_,bn,aX,bb,F,aD,al⟩:=HD.o.bx;obtain rfl:=B.2 ah;clear hP B;conv=>arg 2;whnf
 have aV:(c:Int)%8=0:=xaa;have HF:E (∀f,Kept 0 0 W f->_):=λf bI=>HD.o.putU bI (eK 6 m (x:Int) 0 0) (Nat.zero_lt_succ _) xaa;clear h;go_upto_region 24 with fail;exact xbi
variable{bs:List Int}
theorem B.qaq(h:Zp:=by
 have an:=h.hx;obtain⟨ar,ce,aK,ai,b8,a7⟩:=jN HD.o.dg.r2 rfl an;have N:U=some ⟨ar,0,none⟩:=by injection aK
 subst N;have aj:(x:Int)<vs.length:=xaa;clear aK ai b8;have aV:(c:Int)%8=2:=xaa;have HF:E (∀f,Kept 0 0 W f->_):=λf bI=>HD.o.putU bI (vs.getD x hF) (HD.o.dg.k _ (by rw[yai,yam an];exact List.getElem_mem an)) xaa;have bq:=(HD.o.keep (ez 0 0 W (.cells #[hA (vs.getD x hF).op,hA (vs.getD x hF).len,hA (vs.getD x hF).a,hA (vs.getD x hF).b,hA (vs.getD x hF).c,.float .f64 (vs.getD x hF).k] 62))).bx;have e:vd S x=sv (vs.getD x hF):=by rw[<-h.hs,OW]
 rw[e]at bL;clear e h;obtain⟨ba,aP,y2,y3,y4,ck⟩:=a7;generalize vs.getD x hF=v at*;obtain⟨_,aY,aC,aL,_,_,_⟩:=bq;go_wp2_with (go_at_call 44;refine yaj (HF.o _ (ez 0 0 _ _)) ?_;rintro e ag ⟨us,aq,cap',rfl,bd,aA,av⟩;obtain⟨_,br,ay,a0,bZ,b5,b6⟩:=aA);all_goals exact bL.o (L2.of HSV.o bd.o av)):Zp:=h
open B in
theorem Qa{W}(h:DgH w P n cap Q a bs a1 c1 a3 c3 ins outs S j base c d x m U c2 vs W)(ah:c%8=2):pP w P n cap Q a bs a1 c1 a3 c3 ins outs (S++[vd S x],j) base c d x m W:=by
 exact no_implicit_lambda% qap
variable{bs:List Int}
theorem C.qaq(h:Zp:=by
 exact qdh):Zp:=h
theorem C.qdi(h:Zp:=by
 have N:(c:Int)%2=1:=xaa;have HF:E (∀f,Kept 0 0 _ f->_):=λf bI=>HD.o.putU bI (eK o 1 x ((base:Int)+d/8%6) 0) (Nat.zero_lt_succ _) xaa;go_upto_region 35 with fail;exact xbk):Zp:=h
open C in
theorem Qb{W}(h:DgH w P n cap Q a bs a1 c1 a3 c3 ins outs S j base c d x m U c2 vs W)(ah:c%8=3\/c%8=5)(am:m=1):pP w P n cap Q a bs a1 c1 a3 c3 ins outs (S++[eK ([2,3,4,5,7].getD (c/8%5) 0) 1 x ((base+d/8%6:Nat):Int) 0],j) base c d x m W:=by
 exact no_implicit_lambda% qap
variable{bs:List Int}
theorem D.qaq(h:Zp:=by
 exact qdh):Zp:=h
theorem D.qdi(h:Zp:=by
 have N:¬(c:Int)%2=1:=xaa;have HF:E (∀f,Kept 0 0 _ f->_):=λf bI=>HD.o.putU bI (eK o 1 ((base:Int)+d/8%6) x 0) (Nat.zero_lt_succ _) xaa;go_upto_region 36 with fail;exact xbk):Zp:=h
open D in
theorem Qc{W}(h:DgH w P n cap Q a bs a1 c1 a3 c3 ins outs S j base c d x m U c2 vs W)(ah:c%8=4)(am:m=1):pP w P n cap Q a bs a1 c1 a3 c3 ins outs (S++[eK ([2,3,4,5,7].getD (c/8%5) 0) 1 ((base+d/8%6:Nat):Int) x 0],j) base c d x m W:=by
 exact no_implicit_lambda% qap
variable{bs:List Int}
theorem E.qaq(h:Zp:=by
 have aW:E _:=HD.o.grow xaa (h.ln.of h.hs);rw[<-h.hs,I2,h.hs]at bL;have cf:¬(c:Int)%8=0:=xaa;have Z:¬(c:Int)%8=1:=xaa;have n2:¬(c:Int)%8=2:=xaa;have y:¬(c:Int)%8=6:=xaa;clear h;rcases ah with ah|⟨ah,am⟩
 ·have f:¬(c:Int)%8<6:=xaa;rcases Decidable.em (m=1) with rfl|am
  all_goals
   go_wp2_with (go_at_call 48;refine yaj aW.o ?_;rintro e ag ⟨v,aq,cap',rfl,ao,aA,av⟩;obtain⟨_,br,ay,a0,bZ,b5,b6⟩:=aA;rw[<-ao]at bL;clear ao)
   exact bL.o (L2.of2 HSV.o av)
 go_wp2_with (go_at_call 48;refine yaj aW.o ?_;rintro e ag ⟨v,aq,cap',rfl,ao,aA,av⟩;obtain⟨_,br,ay,a0,bZ,b5,b6⟩:=aA;rw[<-ao]at bL;clear ao);exact bL.o (L2.of2 HSV.o av)):Zp:=h
open E in
theorem Nf{W}(h:DgH w P n cap Q a bs a1 c1 a3 c3 ins outs S j base c d x m U c2 vs W)(ah:c%8=7\/((c%8=3\/c%8=4\/c%8=5)/\¬m=1)):pP w P n cap Q a bs a1 c1 a3 c3 ins outs (S++[(gwM ins S bs j).1],(gwM ins S bs j).2) base c d x m W:=by
 exact no_implicit_lambda% qap
