import Derived.Test.YtaheilbiakhlgaaGreatP43
namespace Go.Proofs.Z
variable{Zp:Prop}
open Tryz
set_option maxRecDepth 1000000
set_option maxHeartbeats 0
open Go.RowKit Flt
attribute[local go_sem] eF eE eD
variable{aC w W' ay:World}{P n cap i Q R c1 c3 Y j K base aa c d c2 x:Nat}{a a1 a3 Z:Option Addr}{bs ins outs:List Int}{S vs:List Vl}{m:Int}{v:Vl}
variable{bs:List Int}
def zN:Code->Nat
 |.region i _ _=>i
 |.seq a _=>zN a
 |.block _ c=>zN c
 |.scope c=>zN c
 |.loop c=>zN c
 |_=>0
def vA(n:Nat):Code->Option Code
 |.seq a b=>if zN b=n then some b else match vA n b with
  |some c=>some c
  |none=>vA n a
 |.block _ c=>vA n c
 |.scope c=>vA n c
 |.loop c=>vA n c
 |_=>none
def vB(n:Nat):Code->Option Code
 |.cond t a b=>match t with
  |.tmp j=>if j=n then some (.cond (.tmp j) a b)else none
  |_=>none
 |.seq a b=>match vB n b with
  |some c=>some c
  |none=>vB n a
 |.block _ c=>vB n c
 |.scope c=>vB n c
 |.loop c=>vB n c
 |_=>none
noncomputable def PX:Code:=(Tryz.f15.body.bind (vB 90)).getD .skip
noncomputable def Ht (n:Nat):Code:=(Tryz.f15.body.bind (vA n)).getD .skip
theorem KO{P}{c:Code}{Q a}(h:c.wp P (Exit.then (λa w=>Q .normal a w) λ_ _ _=>False) a w):c.wp P Q a w:=by
 exact xkd
theorem aT.qbg(h:Zp:=by
 have hb:=jM f1.bx X (λc=>(f.nr _ (.inr (.inl c))).2 rfl);have al:Kept Q _ _ (fF aG Q (.slice a1 Y c1) _ (.slice a3 aa c3)):=fh _ Q _ (hE aA (vs.length+1) cap') _;have B:=k.size;have U:=X.size;refine⟨_,_,rfl,hb,f1.vals X aU xac aQ O al (pi hb _ _ _),?_,λo=>?_,yan B (yan U al.size)⟩
 ·rcases aQ with c|c
  ·intro e;exact ar.2.2 (e ▸ c)
  omega
 rw[al.cell (by show K<_;omega) (by show ¬(Q<=K/\K<Q+1);omega),X.cell (by show K<_;omega) ar.2.2,k.cell ar.1 xaa]):Zp:=h
open aT in
theorem Dy.putK{W}(f:Dy aC W P a n cap i bs R Q (.slice a1 Y c1) (.slice Z vs.length c2) (.slice a3 aa c3) ins vs outs)(k:Kept 0 0 W ay)(v)(aM:v.k<18446744073709551616)(hn:vs.length<=100000)(ar:K<W.heap.size/\K≠Q/\(Value.slice Z vs.length c2).ownBlock≠some K):
  Calls prog 37 #[eX a1 Y c1 Z vs.length c2 a3 aa c3,v.agg] ay λe aG=>∃aA cap',e=.returned (eX a1 Y c1 (some ⟨aA,0,none⟩) (vs.length+1) cap' a3 aa c3)/\RB aG Q (.slice a1 Y c1) (.slice Z vs.length c2) (.slice a3 aa c3)/\(Dy aC (fF aG Q (.slice a1 Y c1) (hE aA (vs.length+1) cap') (.slice a3 aa c3)) P a n cap i bs R Q (.slice a1 Y c1) (hE aA (vs.length+1) cap') (.slice a3 aa c3) ins (vs++[v]) outs/\aA≠K/\(∀o,(fF aG Q (.slice a1 Y c1) (hE aA (vs.length+1) cap') (.slice a3 aa c3)).cell? ⟨K,o,none⟩=W.cell? ⟨K,o,none⟩)/\W.heap.size<=(fF aG Q (.slice a1 Y c1) (hE aA (vs.length+1) cap') (.slice a3 aa c3)).heap.size):=by
 exact qfl
theorem zO{P:World->Prop}{W}(h:∀W',W'=W->P W'):P W:=h W rfl
theorem PY{W:World}{bI bL bM cj cx cM m p}(ar:W.heap.size=K)(ai:bI<18446744073709551616/\fb bI=ksM 0)(B:bL<18446744073709551616/\fb bL=ksM 1)(U:bM<18446744073709551616/\fb bM=ksM 2)(h3:cj<18446744073709551616/\fb cj=ksM 3)(a6:cx<18446744073709551616/\fb cx=ksM 4)(bK:cM<18446744073709551616/\fb cM=ksM 5)(q)(ao:q<6):∃x,(x<18446744073709551616/\fb x=ksM q)/\((W.alloc (.cells #[.float .f64 bI,.float .f64 bL,.float .f64 bM,.float .f64 cj,.float .f64 cx,.float .f64 cM] p)).drewN m).cell? ⟨K,q,none⟩=some (.float .f64 x):=by
 subst ar;match q,ao with
 |0,_=>exact⟨_,ai,by simp⟩
 |1,_=>exact⟨_,B,by simp⟩
 |2,_=>exact⟨_,U,by simp⟩
 |3,_=>exact⟨_,h3,by simp⟩
 |4,_=>exact⟨_,a6,by simp⟩
 |5,_=>exact⟨_,bK,by simp⟩
def C1(w:World)(P n cap i Q:Nat)(a:Option Addr)(bs:List Int)(a1:Option Addr)(c1:Nat)(a3:Option Addr)(c3:Nat)(ins outs:List Int)(S:List Vl)(a2:Option Addr)(c2:Nat)(vs:List Vl)(W:World):Prop:=
 vs.map sv=S/\Dy w W P a n cap i bs w.heap.size Q (.slice a1 ins.length c1) (.slice a2 vs.length c2) (.slice a3 outs.length c3) ins vs outs/\(Value.slice a2 vs.length c2).ownBlock≠some (Q+1)/\Q+1<W.heap.size/\∀m:Nat,m<6->∃x,(x<18446744073709551616/\fb x=ksM m)/\W.cell? ⟨Q+1,m,none⟩=some (.float .f64 x)
theorem C1.next{W aW aA cap'}(h:C1 w P n cap i Q a bs a1 c1 a3 c3 ins outs S Z c2 vs W)(e:sv v=aW)
  (a9:Dy w W' P a n cap i bs w.heap.size Q (.slice a1 ins.length c1) (hE aA (vs.length+1) cap') (.slice a3 outs.length c3) ins (vs++[v]) outs/\aA≠Q+1/\(∀o,W'.cell? ⟨Q+1,o,none⟩=W.cell? ⟨Q+1,o,none⟩)/\W.heap.size<=W'.heap.size):C1 w P n cap i Q a bs a1 c1 a3 c3 ins outs (S++[aW]) (some ⟨aA,0,none⟩) cap' (vs++[v]) W':=
 ⟨by rw[List.map_append,h.1,<-e];rfl,by rw[yak];exact a9.1,λq=>a9.2.1 (by simpa[Value.ownBlock] using q),yaj h.2.2.2.1 a9.2.2.2,λm aw=>by rw[a9.2.2.1];exact h.2.2.2.2 m aw⟩
def L2(w:World)(P n cap Q:Nat)(a:Option Addr)(bs:List Int)(a1:Option Addr)(c1:Nat)(a3:Option Addr)(c3:Nat)(ins outs:List Int)(s:List Vl×Nat)(a2:Option Addr)(c2:Nat)(vs:List Vl)(W:World):Prop:=
 vs.map sv=s.1/\Dy w W P a n cap s.2 bs w.heap.size Q (.slice a1 ins.length c1) (.slice a2 vs.length c2) (.slice a3 outs.length c3) ins vs outs
theorem Od(vs:List Vl)(x):vd (vs.map sv) x=sv (vs.getD x hK):=by
 unfold vd;rw[yah,yah,List.getElem?_map];cases vs[x]?<;>rfl
theorem Pn(W:World)(p){q}(ao:q<5):(W.alloc (.cells #[hF 2,hF 3,hF 4,hF 5,hF 7] p)).cell? ⟨W.heap.size,q,none⟩=some (hF (([2,3,4,5,7]:List Int).getD q 0)):=by
 rw[yau];match q,ao with
 |0,_|1,_|2,_|3,_|4,_=>rfl
theorem Dy.ox{W u1 u2 u3}(f:Dy aC W P a n cap i bs R Q u1 u2 u3 ins vs outs):∀o,Dy aC (W.alloc o) P a n cap i bs R Q u1 u2 u3 ins vs outs:=λo=>f.keep (ez 0 0 W o)
theorem Dy.grow{W}(f:Dy aC W P a n cap i bs R Q (.slice a1 Y c1) (.slice Z vs.length c2) (.slice a3 aa c3) ins vs outs)(hn:vs.length<=100000)(bQ:∀k,k<vs.length->1<=(vd vs k).len/\(vd vs k).len<=1000):
  Calls prog 41 #[eX a1 Y c1 Z vs.length c2 a3 aa c3,hD P] W λe aG=>∃v aA cap',e=.returned (eX a1 Y c1 (some ⟨aA,0,none⟩) (vs.length+1) cap' a3 aa c3)/\sv v=(gwM ins vs bs i).1/\RB aG Q (.slice a1 Y c1) (.slice Z vs.length c2) (.slice a3 aa c3)/\Dy aC (fF aG Q (.slice a1 Y c1) (hE aA (vs.length+1) cap') (.slice a3 aa c3)) P a n cap (gwM ins vs bs i).2 bs R Q (.slice a1 Y c1) (hE aA (vs.length+1) cap') (.slice a3 aa c3) ins (vs++[v]) outs:=by
 have aF:=f.p0;have ao:=f.rq;have B:=f.k0.size;refine(LM f.dg f.rd aF hn bQ).mono ?_;rintro e aG ⟨v,aA,cap',rfl,ai,G,av,ak,aQ⟩;have aT:∀b,(Value.slice Z _ _).ownBlock=some b->aC.heap.size<=b/\b≠R/\b≠Q:=λb hb=>⟨(eI f.dg.r2 hb).1,f.nr b (.inr (.inl hb))⟩
 have aU:∀b,(b=P\/(Value.slice Z vs.length c2).ownBlock=some b)->b≠R/\b≠Q:=by
  rintro b (c|c)
  ·omega
  exact(aT b c).2
 have N:aA≠R/\aA≠Q:=by
  exact xgy
 have hb:=jM f.bx ak (λc=>(aU _ c).2 rfl);have al:Kept Q _ aG (fF _ Q (.slice a1 Y c1) (hE aA (vs.length+1) cap') (.slice a3 aa c3)):=fh _ _ _ _ _;have U:=ak.size
 have hn:∀b,(Value.slice a1 Y c1).ownBlock=some b\/(hE aA (vs.length+1) cap').ownBlock=some b\/(Value.slice a3 aa c3).ownBlock=some b->b≠R/\b≠Q:=by
  rintro b (h|h|h)
  ·exact f.nr b (.inl h)
  ·have e:b=aA:=by simpa[Value.ownBlock] using h.symm
   subst e;exact N
  exact f.nr b (.inr (.inr h))
 have own:∀{u:Value}{xs:List _}{m e s:Nat},aG.ownsRow aC.heap.size e s u m xs->(∀b,u.ownBlock=some b->b≠Q)->_:=λo h=>fY o al λb hb=>hO (h b hb)
 refine⟨v,_,_,rfl,ai,hb,av.keep al (.inl xaa),⟨own G.r1 λb hb=>(hn b (.inl hb)).2,own G.r2 λb hb=>(hn b (.inr (.inl hb))).2,own G.r3 λb hb=>(hn b (.inr (.inr hb))).2,G.a12,G.a13,G.a23,G.k,yan G.sz al.size⟩,pi hb _ _ _,(jM f.rs ak (λc=>(aU _ c).1 rfl)).kept al xaa,aF,ao,hn,⟨al.os.trans (ak.os.trans f.k0.os),al.tape.trans (ak.tape.trans f.k0.tape),al.output.trans (ak.output.trans f.k0.output),yan B (yan U al.size),λb hb g=>?_⟩⟩;rw[al.block b xaa xaa,ak.block b xaa (by rintro (c|c);omega;have:=(aT b c).1;omega)];exact f.k0.block b hb g
theorem L2.of{us}(ai:vs.map sv=S)(aI:us=vs++[v]/\us.length=vs.length+1)
  (a9:Dy w W' P a n cap j bs w.heap.size Q (.slice a1 ins.length c1) (.slice Z us.length c2) (.slice a3 outs.length c3) ins us outs):L2 w P n cap Q a bs a1 c1 a3 c3 ins outs (S++[sv v],j) Z c2 us W':=
 ⟨by rw[aI.1,List.map_append,ai];rfl,a9⟩
theorem L2.of2(ai:vs.map sv=S)
  (a9:Dy w W' P a n cap j bs w.heap.size Q (.slice a1 ins.length c1) (.slice Z (vs.length+1) c2) (.slice a3 outs.length c3) ins (vs++[v]) outs):L2 w P n cap Q a bs a1 c1 a3 c3 ins outs (S++[sv v],j) Z c2 (vs++[v]) W':=by
 have ah:(vs++[v]).length=vs.length+1:=by simp
 rw[<-ah]at a9;exact L2.of ai ⟨rfl,ah⟩ a9
theorem Dy.putU{W}(f:Dy aC W P a n cap i bs R Q (.slice a1 Y c1) (.slice Z vs.length c2) (.slice a3 aa c3) ins vs outs)(k:Kept 0 0 W ay)(v)(aM:v.k<18446744073709551616)(hn:vs.length<=100000):
  Calls prog 37 #[eX a1 Y c1 Z vs.length c2 a3 aa c3,v.agg] ay λe aG=>∃us aA cap',e=.returned (eX a1 Y c1 (some ⟨aA,0,none⟩) us.length cap' a3 aa c3)/\V (us=vs++[v]/\us.length=vs.length+1)/\RB aG Q (.slice a1 Y c1) (.slice Z vs.length c2) (.slice a3 aa c3)/\Dy aC (fF aG Q (.slice a1 Y c1) (hE aA us.length cap') (.slice a3 aa c3)) P a n cap i bs R Q (.slice a1 Y c1) (hE aA us.length cap') (.slice a3 aa c3) ins us outs:=by
 refine(f.put k v aM hn).mono ?_;rintro e aG ⟨aA,cap',rfl,hb,G⟩;have ah:(vs++[v]).length=vs.length+1:=by simp
 exact⟨_,_,_,by rw[ah],⟨rfl,ah⟩,hb,hR ah G⟩
def pT(w:World)(P n cap Q:Nat)(a:Option Addr)(bs:List Int)(a1:Option Addr)(c1:Nat)(a3:Option Addr)(c3:Nat)(ins outs:List Int)(s:List Vl×Nat)(base c d x:Nat)(m:Int)(W:World):Prop:=
 ∀{Post:Act->World->Prop}{b:Bool}{e f g h i j k l o p bb bc bd q r t u v y z A B C D E F G H I J K L M N O R S T U Vaa X Y Z aa ab ad ae af ag ah ai aj ak al am an ao ap aq ar au av aw ax ay az aA aB aC aD aE aF aG aH aI aJ aK aL aM aN aO be bf bg bh bi bj bk bl bm bn bo bp bq br bt bu bv bw bx bz bA bB bC bD bE bF bG bH bI bJ bK bL bM bN bO bP bQ bR bS bT bU bV bW bX bY bZ b0 b1 b2 b3 b4 b5 b6 b7 b8 b9 ca cb cc cd ce cf cg ch ci cj ck cl cm cn co cp cq cr cs ct cu cv cw cx cy cz cA cB cC cD cE cF cG cH cI cJ cK cL aP aQ aR aS aT aU aV aW aX aY aZ a0 a4 a5 a6 a7 a8 a9 ba:Value},(b=true↔c%8=0)->(∀{cM cN cO cP cQ cR cS cT cU cV cW cX cY cZ c0 c4 c5 c6 c7 c8 c9 da db dc dd de df dg dh di dj dk dl dm dn dp dq dr ds dt du dv dw dx dy dz dA dB dC dD dE dF dG dH dI dJ dK dL dM dN dO dP dQ dR dS dT dU dV dW dX dY dZ d0 d1 d2 d3 d4 d5 d6 d7 d8 d9 ea eb ec ed ee ef eg eh ei ej ek el em en eo ep:Value}{W':World}{a2:Option Addr}{c2:Nat}{vs:List Vl},L2 w P n cap Q a bs a1 c1 a3 c3 ins outs s a2 c2 vs W'->Post ⟨#[.pointer (some ⟨P,0,none⟩),e,f,g,h,i,j,k,.pointer (some ⟨Q,0,none⟩),l,.int .i64 (base:Int),o,p,.int .i64 (c:Int),.int .i64 (d:Int),.int .i64 (x:Int),.int .i64 m,cM,cN,cO,q,r,t,u,v,y,z,A,B,C,D,E,F,G,H,I,J,K,L,M,N,O,R,S,T,U,Vaa,X,Y,Z,aa,ab,ad,ae,af,ag,ah,ai,aj,ak,al,am,an,ao,ap,aq,ar,au,av,aw,ax,ay,az,aA,aB,aC,aD,aE,aF,aG,aH,aI,aJ,aK,aL,aM,aN,aO,cP,cQ,cR,cS,cT,cU,cV,cW,cX,cY,cZ,c0,c4,c5,c6,c7,c8,c9,da,db,dc,dd,de,df,dg,dh,di,dj,dk,dl,dm,dn,dp,dq,dr,ds,dt,du,dv,dw,dx,dy,dz,dA,dB,dC,dD,dE,dF,dG,dH,dI,dJ,dK,dL,dM,dN,dO,dP,dQ,dR,dS,dT,dU,dV,dW,dX,dY,dZ,d0,d1,d2,d3,d4,d5,d6,d7,d8,d9,ea,eb,ec,ed,ee,ef,eg,eh,ei,ej,ek,el,em,en,eo,ep,aP,aQ,aR,aS,aT,aU,aV,aW,aX,aY,aZ,a0,a4,a5,a6,a7,a8,a9,ba],[]⟩ W')->Code.wp prog PX (Exit.then Post λ_ _ _=>False) ⟨#[.pointer (some ⟨P,0,none⟩),e,f,g,h,i,j,k,.pointer (some ⟨Q,0,none⟩),l,.int .i64 (base:Int),o,p,.int .i64 (c:Int),.int .i64 (d:Int),.int .i64 (x:Int),.int .i64 m,bb,bc,bd,q,r,t,u,v,y,z,A,B,C,D,E,F,G,H,I,J,K,L,M,N,O,R,S,T,U,Vaa,X,Y,Z,aa,ab,ad,ae,af,ag,ah,ai,aj,ak,al,am,an,ao,ap,aq,ar,au,av,aw,ax,ay,az,aA,aB,aC,aD,aE,aF,aG,aH,aI,aJ,aK,aL,aM,aN,aO,be,bf,.bool b,bg,bh,bi,bj,bk,bl,bm,bn,bo,bp,bq,br,bt,bu,bv,bw,bx,bz,bA,bB,bC,bD,bE,bF,bG,bH,bI,bJ,bK,bL,bM,bN,bO,bP,bQ,bR,bS,bT,bU,bV,bW,bX,bY,bZ,b0,b1,b2,b3,b4,b5,b6,b7,b8,b9,ca,cb,cc,cd,ce,cf,cg,ch,ci,cj,ck,cl,cm,cn,co,cp,cq,cr,cs,ct,cu,cv,cw,cx,cy,cz,cA,cB,cC,cD,cE,cF,cG,cH,cI,cJ,cK,cL,aP,aQ,aR,aS,aT,aU,aV,aW,aX,aY,aZ,a0,a4,a5,a6,a7,a8,a9,ba],[]⟩ W
structure DgH(w:World)(P n cap Q:Nat)(a:Option Addr)(bs:List Int)(a1:Option Addr)(c1:Nat)(a3:Option Addr)(c3:Nat)(ins outs:List Int)(S:List Vl)(j base c d x:Nat)(m:Int)(a2:Option Addr)(c2:Nat)(vs:List Vl)(W:World):Prop where
 D:Dy w W P a n cap j bs w.heap.size Q (.slice a1 ins.length c1) (.slice a2 vs.length c2) (.slice a3 outs.length c3) ins vs outs
 hs:vs.map sv=S
 hx:x<vs.length
 hl:6<=vs.length/\vs.length<=1000
 hc:c<256/\d<256/\base<=100
 hm:(vs.getD x hK).len=m
 ln:LenS S
variable{bs:List Int}
theorem Po{W}(h:DgH w P n cap Q a bs a1 c1 a3 c3 ins outs S j base c d x m Z c2 vs W)(ak:c%8=0):pT w P n cap Q a bs a1 c1 a3 c3 ins outs (S++[eK 6 m x 0 0],j) base c d x m W:=by
 unfold pT;intros;rename_i ad hP;have aQ:V _:=@hP;have HD:V _:=h.D;have HSV:V _:=h.hs;have ah:=h.hl;have f:=h.hc;obtain⟨_,bf,aO,aX,B,J,ag⟩:=HD.o.bx;obtain rfl:=ad.2 ak;clear hP ad;conv=>arg 2;whnf
 have ai:(c:Int)%8=0:=xaa;have aL:V (∀bN,Kept 0 0 W bN->_):=λbN bT=>HD.o.putU bT (eK 6 m (x:Int) 0 0) (Nat.zero_lt_succ _) xaa;clear h;go_upto_region 24 with fail;exact xcb
variable{bs:List Int}
theorem U.qau(h:Zp:=by
 have ap:=h.hx;obtain⟨ab,b0,aU,aY,bj,bm⟩:=hH HD.o.dg.r2 rfl ap;have al:Z=some ⟨ab,0,none⟩:=by injection aU
 subst al;have av:(x:Int)<vs.length:=xaa;clear aU aY bj;have ai:(c:Int)%8=2:=xaa;have aL:V (∀bN,Kept 0 0 W bN->_):=λbN bT=>HD.o.putU bT (vs.getD x hK) (HD.o.dg.k _ (by rw[yah,yal ap];exact List.getElem_mem ap)) xaa;have cu:=(HD.o.keep (ez 0 0 W (.cells #[hF (vs.getD x hK).op,hF (vs.getD x hK).len,hF (vs.getD x hK).a,hF (vs.getD x hK).b,hF (vs.getD x hK).c,.float .f64 (vs.getD x hK).k] 40))).bx;have e:vd S x=sv (vs.getD x hK):=by rw[<-h.hs,Od]
 rw[e]at aQ;clear e h;obtain⟨bd,aR,aV,bY,ce,cl⟩:=bm;generalize vs.getD x hK=v at*;obtain⟨_,a7,aK,aP,_,_,_⟩:=cu;go_wp2_with (go_at_call 37;refine yai (aL.o _ (ez 0 0 _ _)) ?_;rintro e aG ⟨us,aA,cap',rfl,cy,a8,aH⟩;obtain⟨_,bo,az,aZ,bl,bG,bP⟩:=a8);all_goals exact aQ.o (L2.of HSV.o cy.o aH)):Zp:=h
open U in
theorem Pp{W}(h:DgH w P n cap Q a bs a1 c1 a3 c3 ins outs S j base c d x m Z c2 vs W)(ak:c%8=2):pT w P n cap Q a bs a1 c1 a3 c3 ins outs (S++[vd S x],j) base c d x m W:=by
 exact no_implicit_lambda% qat
variable{bs:List Int}
theorem V.qau(h:Zp:=by
 exact qeb):Zp:=h
theorem V.qec(h:Zp:=by
 have U:(c:Int)%2=1:=xaa;have aL:V (∀bN,Kept 0 0 _ bN->_):=λbN bT=>HD.o.putU bT (eK o 1 x ((base:Int)+d/8%6) 0) (Nat.zero_lt_succ _) xaa;go_upto_region 35 with fail;exact xce):Zp:=h
open V in
theorem Pq{W}(h:DgH w P n cap Q a bs a1 c1 a3 c3 ins outs S j base c d x m Z c2 vs W)(ak:c%8=3\/c%8=5)(aw:m=1):pT w P n cap Q a bs a1 c1 a3 c3 ins outs (S++[eK ([2,3,4,5,7].getD (c/8%5) 0) 1 x ((base+d/8%6:Nat):Int) 0],j) base c d x m W:=by
 exact no_implicit_lambda% qat
variable{bs:List Int}
theorem W.qau(h:Zp:=by
 exact qeb):Zp:=h
theorem W.qec(h:Zp:=by
 have U:¬(c:Int)%2=1:=xaa;have aL:V (∀bN,Kept 0 0 _ bN->_):=λbN bT=>HD.o.putU bT (eK o 1 ((base:Int)+d/8%6) x 0) (Nat.zero_lt_succ _) xaa;go_upto_region 36 with fail;exact xce):Zp:=h
open W in
theorem Ps{W}(h:DgH w P n cap Q a bs a1 c1 a3 c3 ins outs S j base c d x m Z c2 vs W)(ak:c%8=4)(aw:m=1):pT w P n cap Q a bs a1 c1 a3 c3 ins outs (S++[eK ([2,3,4,5,7].getD (c/8%5) 0) 1 ((base+d/8%6:Nat):Int) x 0],j) base c d x m W:=by
 exact no_implicit_lambda% qat
variable{bs:List Int}
theorem X.qau(h:Zp:=by
 have aU:V _:=HD.o.grow xaa (h.ln.of h.hs);rw[<-h.hs,Hi,h.hs]at aQ;have b2:¬(c:Int)%8=0:=xaa;have Y:¬(c:Int)%8=1:=xaa;have ab:¬(c:Int)%8=2:=xaa;have p:¬(c:Int)%8=6:=xaa;clear h;rcases ak with ak|⟨ak,aw⟩
 ·have g:¬(c:Int)%8<6:=xaa;rcases Decidable.em (m=1) with rfl|aw
  all_goals
   go_wp2_with (go_at_call 41;refine yai aU.o ?_;rintro e aG ⟨v,aA,cap',rfl,ai,a8,aH⟩;obtain⟨_,bo,az,aZ,bl,bG,bP⟩:=a8;rw[<-ai]at aQ;clear ai)
   exact aQ.o (L2.of2 HSV.o aH)
 go_wp2_with (go_at_call 41;refine yai aU.o ?_;rintro e aG ⟨v,aA,cap',rfl,ai,a8,aH⟩;obtain⟨_,bo,az,aZ,bl,bG,bP⟩:=a8;rw[<-ai]at aQ;clear ai);exact aQ.o (L2.of2 HSV.o aH)):Zp:=h
open X in
theorem LO{W}(h:DgH w P n cap Q a bs a1 c1 a3 c3 ins outs S j base c d x m Z c2 vs W)(ak:c%8=7\/((c%8=3\/c%8=4\/c%8=5)/\¬m=1)):pT w P n cap Q a bs a1 c1 a3 c3 ins outs (S++[(gwM ins S bs j).1],(gwM ins S bs j).2) base c d x m W:=by
 exact no_implicit_lambda% qat
