import Derived.Test.YtamokkcfibdghaaGreatP48
namespace Go.Proofs.Z
variable {Zp:Prop}
open Tryz
set_option maxRecDepth 1000000
set_option maxHeartbeats 0
open Go.RowKit Flt
attribute [local go_sem] eG eE eD
variable {w0 w W' aD:World}{P n cap i Q aa c1 c3 Y j K base Z c d c2 x:Nat}{a a1 a3 a2:Option Addr}{bs ins outs:List Int}{S vs:List Vl}{m:Int}{v:Vl}
variable {bs:List Int}
def As:Code->Nat
 |.region i _ _=>i
 |.seq a _=>As a
 |.block _ c=>As c
 |.scope c=>As c
 |.loop c=>As c
 |_=>0
def vV (n:Nat):Code->Option Code
 |.seq a b=>if As b=n then some b else match vV n b with
  |some c=>some c
  |none=>vV n a
 |.block _ c=>vV n c
 |.scope c=>vV n c
 |.loop c=>vV n c
 |_=>none
def vW (n:Nat):Code->Option Code
 |.cond t a b=>match t with
  |.tmp j=>if j=n then some (.cond (.tmp j) a b)else none
  |_=>none
 |.seq a b=>match vW n b with
  |some c=>some c
  |none=>vW n a
 |.block _ c=>vW n c
 |.scope c=>vW n c
 |.loop c=>vW n c
 |_=>none
noncomputable def Qh:Code:=(Tryz.f14.body.bind (vW 90)).getD .skip
noncomputable def II (n:Nat):Code:=(Tryz.f14.body.bind (vV n)).getD .skip
theorem Lt{P}{c:Code}{Q a}(h:c.wp P (Exit.then (λa w=>Q .normal a w) λ_ _ _=>False) a w):c.wp P Q a w:=by
 exact xkh
theorem aT.qbg(h:Zp:=by
 have ap:Kept Q (Q+1) af (fB af Q (.slice a1 Y c1) (hH aG (vs.length+1) cap') (.slice a3 Z c3)):=ft af Q (.slice a1 Y c1) (hH aG (vs.length+1) cap') (.slice a3 Z c3);have B:=k.size;have R:=ah.size;refine⟨aG,cap',rfl,hb,f1.vals ah aT xac aW O ap (ph hb _ _ _),?_,λo=>?_,yan B (yan R ap.size)⟩
 ·rcases aW with c|c
  ·intro e;exact aH.2.2 (e ▸ c)
  omega
 rw[ap.cell (p:=⟨K,o,none⟩) (by show K<_;omega) (by show ¬(Q<=K/\K<Q+1);omega),ah.cell (p:=⟨K,o,none⟩) (by show K<_;omega) aH.2.2,k.cell (p:=⟨K,o,none⟩) aH.1 xaa]):Zp:=h
open aT in
theorem Dy.putK{W}(f:Dy w0 W P a n cap i bs aa Q (.slice a1 Y c1) (.slice a2 vs.length c2) (.slice a3 Z c3) ins vs outs)(k:Kept 0 0 W aD)(v)(aL:v.k<18446744073709551616)(hn:vs.length<=100000)(aH:K<W.heap.size/\K≠Q/\(Value.slice a2 vs.length c2).ownBlock≠some K):
  Calls prog 32 #[eZ a1 Y c1 a2 vs.length c2 a3 Z c3,v.agg] aD λe af=>∃aG cap',e=.returned (eZ a1 Y c1 (some ⟨aG,0,none⟩) (vs.length+1) cap' a3 Z c3)/\RB af Q (.slice a1 Y c1) (.slice a2 vs.length c2) (.slice a3 Z c3)/\(Dy w0 (fB af Q (.slice a1 Y c1) (hH aG (vs.length+1) cap') (.slice a3 Z c3)) P a n cap i bs aa Q (.slice a1 Y c1) (hH aG (vs.length+1) cap') (.slice a3 Z c3) ins (vs++[v]) outs/\aG≠K/\(∀o,(fB af Q (.slice a1 Y c1) (hH aG (vs.length+1) cap') (.slice a3 Z c3)).cell? ⟨K,o,none⟩=W.cell? ⟨K,o,none⟩)/\W.heap.size<=(fB af Q (.slice a1 Y c1) (hH aG (vs.length+1) cap') (.slice a3 Z c3)).heap.size):=by
 exact qbf
theorem Au{P:World->Prop}{W}(h:∀W',W'=W->P W'):P W:=h W rfl
theorem Qi{W:World}{bL bI bJ cb ci bx m p}(aH:W.heap.size=K)(aj:bL<18446744073709551616/\fb bL=ksM 0)(B:bI<18446744073709551616/\fb bI=ksM 1)(R:bJ<18446744073709551616/\fb bJ=ksM 2)(h3:cb<18446744073709551616/\fb cb=ksM 3)(a8:ci<18446744073709551616/\fb ci=ksM 4)(bQ:bx<18446744073709551616/\fb bx=ksM 5)(q)(aq:q<6):∃x,(x<18446744073709551616/\fb x=ksM q)/\((W.alloc (.cells #[.float .f64 bL,.float .f64 bI,.float .f64 bJ,.float .f64 cb,.float .f64 ci,.float .f64 bx] p)).drewN m).cell? ⟨K,q,none⟩=some (.float .f64 x):=by
 subst aH;match q,aq with
 |0,_=>exact⟨bL,aj,by simp⟩
 |1,_=>exact⟨bI,B,by simp⟩
 |2,_=>exact⟨bJ,R,by simp⟩
 |3,_=>exact⟨cb,h3,by simp⟩
 |4,_=>exact⟨ci,a8,by simp⟩
 |5,_=>exact⟨bx,bQ,by simp⟩
def C1 (w:World)(P n cap i Q:Nat)(a:Option Addr)(bs:List Int)(a1:Option Addr)(c1:Nat)(a3:Option Addr)(c3:Nat)(ins outs:List Int)(S:List Vl)(a2:Option Addr)(c2:Nat)(vs:List Vl)(W:World):Prop:=
 vs.map sv=S/\Dy w W P a n cap i bs w.heap.size Q (.slice a1 ins.length c1) (.slice a2 vs.length c2) (.slice a3 outs.length c3) ins vs outs/\(Value.slice a2 vs.length c2).ownBlock≠some (Q+1)/\Q+1<W.heap.size/\∀m:Nat,m<6->∃x,(x<18446744073709551616/\fb x=ksM m)/\W.cell? ⟨Q+1,m,none⟩=some (.float .f64 x)
theorem C1.next{W s0 aG cap'}(h:C1 w P n cap i Q a bs a1 c1 a3 c3 ins outs S a2 c2 vs W)(e:sv v=s0)
  (bb:Dy w W' P a n cap i bs w.heap.size Q (.slice a1 ins.length c1) (hH aG (vs.length+1) cap') (.slice a3 outs.length c3) ins (vs++[v]) outs/\aG≠Q+1/\(∀o,W'.cell? ⟨Q+1,o,none⟩=W.cell? ⟨Q+1,o,none⟩)/\W.heap.size<=W'.heap.size):C1 w P n cap i Q a bs a1 c1 a3 c3 ins outs (S++[s0]) (some ⟨aG,0,none⟩) cap' (vs++[v]) W':=
 ⟨by rw[List.map_append,h.1,<-e];rfl,by rw[yak];exact bb.1,λq=>bb.2.1 (by simpa[Value.ownBlock] using q),yaj h.2.2.2.1 bb.2.2.2,λm az=>by rw[bb.2.2.1];exact h.2.2.2.2 m az⟩
def L2 (w:World)(P n cap Q:Nat)(a:Option Addr)(bs:List Int)(a1:Option Addr)(c1:Nat)(a3:Option Addr)(c3:Nat)(ins outs:List Int)(s:List Vl×Nat)(a2:Option Addr)(c2:Nat)(vs:List Vl)(W:World):Prop:=
 vs.map sv=s.1/\Dy w W P a n cap s.2 bs w.heap.size Q (.slice a1 ins.length c1) (.slice a2 vs.length c2) (.slice a3 outs.length c3) ins vs outs
theorem OC(vs:List Vl)(x):vd (vs.map sv) x=sv (vs.getD x hM):=by
 unfold vd;rw[yah,yah,List.getElem?_map];cases vs[x]?<;>rfl
theorem PK(W:World)(p){q}(aq:q<5):(W.alloc (.cells #[hI 2,hI 3,hI 4,hI 5,hI 7] p)).cell? ⟨W.heap.size,q,none⟩=some (hI (([2,3,4,5,7]:List Int).getD q 0)):=by
 rw[yau];match q,aq with
 |0,_|1,_|2,_|3,_|4,_=>rfl
theorem Dy.ox{W am al ar}(f:Dy w0 W P a n cap i bs aa Q am al ar ins vs outs):∀o,Dy w0 (W.alloc o) P a n cap i bs aa Q am al ar ins vs outs:=λo=>f.keep (ez 0 0 W o)
theorem Dy.grow{W}(f:Dy w0 W P a n cap i bs aa Q (.slice a1 Y c1) (.slice a2 vs.length c2) (.slice a3 Z c3) ins vs outs)(hn:vs.length<=100000)(bO:∀k,k<vs.length->1<=(vd vs k).len/\(vd vs k).len<=1000):
  Calls prog 36 #[eZ a1 Y c1 a2 vs.length c2 a3 Z c3,hG P] W λe af=>∃v aG cap',e=.returned (eZ a1 Y c1 (some ⟨aG,0,none⟩) (vs.length+1) cap' a3 Z c3)/\sv v=(gwM ins vs bs i).1/\RB af Q (.slice a1 Y c1) (.slice a2 vs.length c2) (.slice a3 Z c3)/\Dy w0 (fB af Q (.slice a1 Y c1) (hH aG (vs.length+1) cap') (.slice a3 Z c3)) P a n cap (gwM ins vs bs i).2 bs aa Q (.slice a1 Y c1) (hH aG (vs.length+1) cap') (.slice a3 Z c3) ins (vs++[v]) outs:=by
 have aK:=f.p0;have aq:=f.rq;have B:=f.k0.size;refine(L4 f.dg f.rd aK hn bO).mono ?_;rintro e af ⟨v,aG,cap',rfl,aj,aV,ay,ai,aW⟩;have aS:∀b,(Value.slice a2 vs.length c2).ownBlock=some b->w0.heap.size<=b/\b≠aa/\b≠Q:=λb hb=>⟨(eI f.dg.r2 hb).1,f.nr b (.inr (.inl hb))⟩
 have aT:∀b,(b=P\/(Value.slice a2 vs.length c2).ownBlock=some b)->b≠aa/\b≠Q:=by
  rintro b (c|c)
  ·omega
  exact(aS b c).2
 have y:aG≠aa/\aG≠Q:=by
  rcases aW with c|c
  ·exact(aS aG c).2
  have:=f.rs.sz;have:=f.bx.sz;omega
 have hb:=jO f.bx ai (λc=>(aT _ c).2 rfl);have ap:Kept Q (Q+1) af (fB af Q (.slice a1 Y c1) (hH aG (vs.length+1) cap') (.slice a3 Z c3)):=ft _ _ _ _ _;have R:=ai.size
 have hn:∀b,(Value.slice a1 Y c1).ownBlock=some b\/(hH aG (vs.length+1) cap').ownBlock=some b\/(Value.slice a3 Z c3).ownBlock=some b->b≠aa/\b≠Q:=by
  rintro b (h|h|h)
  ·exact f.nr b (.inl h)
  ·have e:b=aG:=by simpa[Value.ownBlock] using h.symm
   subst e;exact y
  exact f.nr b (.inr (.inr h))
 have own:∀{u:Value}{xs:List Value}{m e s:Nat},af.ownsRow w0.heap.size e s u m xs->(∀b,u.ownBlock=some b->b≠Q)->(fB af Q (.slice a1 Y c1) (hH aG (vs.length+1) cap') (.slice a3 Z c3)).ownsRow w0.heap.size e s u m xs:=λo h=>gM o ap λb hb=>hR (h b hb)
 refine⟨v,aG,cap',rfl,aj,hb,ay.keep ap (.inl xaa),⟨own aV.r1 λb hb=>(hn b (.inl hb)).2,own aV.r2 λb hb=>(hn b (.inr (.inl hb))).2,own aV.r3 λb hb=>(hn b (.inr (.inr hb))).2,aV.a12,aV.a13,aV.a23,aV.k,yan aV.sz ap.size⟩,ph hb _ _ _,(jO f.rs ai (λc=>(aT _ c).1 rfl)).kept ap xaa,aK,aq,hn,⟨ap.os.trans (ai.os.trans f.k0.os),ap.tape.trans (ai.tape.trans f.k0.tape),ap.output.trans (ai.output.trans f.k0.output),yan B (yan R ap.size),λb hb g=>?_⟩⟩;rw[ap.block b xaa xaa,ai.block b xaa (by rintro (c|c);omega;have:=(aS b c).1;omega)];exact f.k0.block b hb g
theorem L2.of{us}(aj:vs.map sv=S)(aJ:us=vs++[v]/\us.length=vs.length+1)
  (bb:Dy w W' P a n cap j bs w.heap.size Q (.slice a1 ins.length c1) (.slice a2 us.length c2) (.slice a3 outs.length c3) ins us outs):L2 w P n cap Q a bs a1 c1 a3 c3 ins outs (S++[sv v],j) a2 c2 us W':=
 ⟨by rw[aJ.1,List.map_append,aj];rfl,bb⟩
theorem L2.of2(aj:vs.map sv=S)
  (bb:Dy w W' P a n cap j bs w.heap.size Q (.slice a1 ins.length c1) (.slice a2 (vs.length+1) c2) (.slice a3 outs.length c3) ins (vs++[v]) outs):L2 w P n cap Q a bs a1 c1 a3 c3 ins outs (S++[sv v],j) a2 c2 (vs++[v]) W':=by
 have ah:(vs++[v]).length=vs.length+1:=by simp
 rw[<-ah]at bb;exact L2.of aj ⟨rfl,ah⟩ bb
theorem Dy.putU{W}(f:Dy w0 W P a n cap i bs aa Q (.slice a1 Y c1) (.slice a2 vs.length c2) (.slice a3 Z c3) ins vs outs)(k:Kept 0 0 W aD)(v)(aL:v.k<18446744073709551616)(hn:vs.length<=100000):
  Calls prog 32 #[eZ a1 Y c1 a2 vs.length c2 a3 Z c3,v.agg] aD λe af=>∃us aG cap',e=.returned (eZ a1 Y c1 (some ⟨aG,0,none⟩) us.length cap' a3 Z c3)/\V (us=vs++[v]/\us.length=vs.length+1)/\RB af Q (.slice a1 Y c1) (.slice a2 vs.length c2) (.slice a3 Z c3)/\Dy w0 (fB af Q (.slice a1 Y c1) (hH aG us.length cap') (.slice a3 Z c3)) P a n cap i bs aa Q (.slice a1 Y c1) (hH aG us.length cap') (.slice a3 Z c3) ins us outs:=by
 refine(f.put k v aL hn).mono ?_;rintro e af ⟨aG,cap',rfl,hb,aV⟩;have ah:(vs++[v]).length=vs.length+1:=by simp
 exact⟨vs++[v],aG,cap',by rw[ah],⟨rfl,ah⟩,hb,hU ah aV⟩
def pX (w:World)(P n cap Q:Nat)(a:Option Addr)(bs:List Int)(a1:Option Addr)(c1:Nat)(a3:Option Addr)(c3:Nat)(ins outs:List Int)(s:List Vl×Nat)(base c d x:Nat)(m:Int)(W:World):Prop:=
 ∀{Post:Act->World->Prop}{b:Bool}{e f g h i j k l o p bb bc bd q r t u v y z A B C D E F G H I J K L M N O R S T U Vaa X Y Z aa ab ad ae af ag ah ai aj ak al am an ao ap aq ar au av aw ax ay az aA aB aC aD aE aF aG aH aI aJ aK aL aM aN aO be bf bg bh bi bj bk bl bm bn bo bp bq br bt bu bv bw bx bz bA bB bC bD bE bF bG bH bI bJ bK bL bM bN bO bP bQ bR bS bT bU bV bW bX bY bZ b0 b1 b2 b3 b4 b5 b6 b7 b8 b9 ca cb cc cd ce cf cg ch ci cj ck cl cm cn co cp cq cr cs ct cu cv cw cx cy cz cA cB cC cD cE cF cG cH cI cJ cK cL aP aQ aR aS aT aU aV aW aX aY aZ a0 a4 a5 a6 a7 a8 a9 ba:Value},(b=true↔c%8=0)->(∀{cM cN cO cP cQ cR cS cT cU cV cW cX cY cZ c0 c4 c5 c6 c7 c8 c9 da db dc dd de df dg dh di dj dk dl dm dn dp dq dr ds dt du dv dw dx dy dz dA dB dC dD dE dF dG dH dI dJ dK dL dM dN dO dP dQ dR dS dT dU dV dW dX dY dZ d0 d1 d2 d3 d4 d5 d6 d7 d8 d9 ea eb ec ed ee ef eg eh ei ej ek el em en eo ep:Value}{W':World}{a2:Option Addr}{c2:Nat}{vs:List Vl},L2 w P n cap Q a bs a1 c1 a3 c3 ins outs s a2 c2 vs W'->Post ⟨#[.pointer (some ⟨P,0,none⟩),e,f,g,h,i,j,k,.pointer (some ⟨Q,0,none⟩),l,.int .i64 (base:Int),o,p,.int .i64 (c:Int),.int .i64 (d:Int),.int .i64 (x:Int),.int .i64 m,cM,cN,cO,q,r,t,u,v,y,z,A,B,C,D,E,F,G,H,I,J,K,L,M,N,O,R,S,T,U,Vaa,X,Y,Z,aa,ab,ad,ae,af,ag,ah,ai,aj,ak,al,am,an,ao,ap,aq,ar,au,av,aw,ax,ay,az,aA,aB,aC,aD,aE,aF,aG,aH,aI,aJ,aK,aL,aM,aN,aO,cP,cQ,cR,cS,cT,cU,cV,cW,cX,cY,cZ,c0,c4,c5,c6,c7,c8,c9,da,db,dc,dd,de,df,dg,dh,di,dj,dk,dl,dm,dn,dp,dq,dr,ds,dt,du,dv,dw,dx,dy,dz,dA,dB,dC,dD,dE,dF,dG,dH,dI,dJ,dK,dL,dM,dN,dO,dP,dQ,dR,dS,dT,dU,dV,dW,dX,dY,dZ,d0,d1,d2,d3,d4,d5,d6,d7,d8,d9,ea,eb,ec,ed,ee,ef,eg,eh,ei,ej,ek,el,em,en,eo,ep,aP,aQ,aR,aS,aT,aU,aV,aW,aX,aY,aZ,a0,a4,a5,a6,a7,a8,a9,ba],[]⟩ W')->Code.wp prog Qh (Exit.then Post λ_ _ _=>False) ⟨#[.pointer (some ⟨P,0,none⟩),e,f,g,h,i,j,k,.pointer (some ⟨Q,0,none⟩),l,.int .i64 (base:Int),o,p,.int .i64 (c:Int),.int .i64 (d:Int),.int .i64 (x:Int),.int .i64 m,bb,bc,bd,q,r,t,u,v,y,z,A,B,C,D,E,F,G,H,I,J,K,L,M,N,O,R,S,T,U,Vaa,X,Y,Z,aa,ab,ad,ae,af,ag,ah,ai,aj,ak,al,am,an,ao,ap,aq,ar,au,av,aw,ax,ay,az,aA,aB,aC,aD,aE,aF,aG,aH,aI,aJ,aK,aL,aM,aN,aO,be,bf,.bool b,bg,bh,bi,bj,bk,bl,bm,bn,bo,bp,bq,br,bt,bu,bv,bw,bx,bz,bA,bB,bC,bD,bE,bF,bG,bH,bI,bJ,bK,bL,bM,bN,bO,bP,bQ,bR,bS,bT,bU,bV,bW,bX,bY,bZ,b0,b1,b2,b3,b4,b5,b6,b7,b8,b9,ca,cb,cc,cd,ce,cf,cg,ch,ci,cj,ck,cl,cm,cn,co,cp,cq,cr,cs,ct,cu,cv,cw,cx,cy,cz,cA,cB,cC,cD,cE,cF,cG,cH,cI,cJ,cK,cL,aP,aQ,aR,aS,aT,aU,aV,aW,aX,aY,aZ,a0,a4,a5,a6,a7,a8,a9,ba],[]⟩ W
structure DgH (w:World)(P n cap Q:Nat)(a:Option Addr)(bs:List Int)(a1:Option Addr)(c1:Nat)(a3:Option Addr)(c3:Nat)(ins outs:List Int)(S:List Vl)(j base c d x:Nat)(m:Int)(a2:Option Addr)(c2:Nat)(vs:List Vl)(W:World):Prop where
 D:Dy w W P a n cap j bs w.heap.size Q (.slice a1 ins.length c1) (.slice a2 vs.length c2) (.slice a3 outs.length c3) ins vs outs
 hs:vs.map sv=S
 hx:x<vs.length
 hl:6<=vs.length/\vs.length<=1000
 hc:c<256/\d<256/\base<=100
 hm:(vs.getD x hM).len=m
 ln:LenS S
variable {bs:List Int}
theorem PL{W}(h:DgH w P n cap Q a bs a1 c1 a3 c3 ins outs S j base c d x m a2 c2 vs W)(ai:c%8=0):pX w P n cap Q a bs a1 c1 a3 c3 ins outs (S++[eL 6 m x 0 0],j) base c d x m W:=by
 unfold pX;intros;rename_i aN hP;have aW:V _:=@hP;have HD:V _:=h.D;have HSV:V _:=h.hs;have ah:=h.hl;have f:=h.hc;obtain⟨_,bj,aQ,a6,an,ao,ap⟩:=HD.o.bx;obtain rfl:=aN.2 ai;clear hP aN;conv=>arg 2;whnf
 have R:(c:Int)%8=0:=xaa;have aP:V (∀H,Kept 0 0 W H->_):=λH b0=>HD.o.putU b0 (eL 6 m (x:Int) 0 0) (Nat.zero_lt_succ _) xaa;clear h;go_upto_region 24 with fail;exact xcg
variable {bs:List Int}
theorem U.qau(h:Zp:=by
 have au:=h.hx;obtain⟨al,bR,ag,ak,a5,bg⟩:=ie HD.o.dg.r2 rfl au;have aj:a2=some ⟨al,0,none⟩:=by injection ag
 subst aj;have am:(x:Int)<vs.length:=xaa;clear ag ak a5;have R:(c:Int)%8=2:=xaa;have aP:V (∀H,Kept 0 0 W H->_):=λH b0=>HD.o.putU b0 (vs.getD x hM) (HD.o.dg.k _ (by rw[yah,yal au];exact List.getElem_mem au)) xaa;have cf:=(HD.o.keep (ez 0 0 W (.cells #[hI (vs.getD x hM).op,hI (vs.getD x hM).len,hI (vs.getD x hM).a,hI (vs.getD x hM).b,hI (vs.getD x hM).c,.float .f64 (vs.getD x hM).k] 53))).bx;have e:vd S x=sv (vs.getD x hM):=by rw[<-h.hs,OC]
 rw[e]at aW;clear e h;obtain⟨bh,aU,aY,bW,b9,cj⟩:=bg;generalize vs.getD x hM=v at*;obtain⟨_,ba,aO,aR,_,_,_⟩:=cf;go_wp2_with (go_at_call 32;refine yai (aP.o _ (ez 0 0 _ _)) ?_;rintro e af ⟨us,aG,cap',rfl,cn,aB,aX⟩;obtain⟨_,bn,aC,a0,bq,br,bC⟩:=aB);all_goals exact aW.o (L2.of HSV.o cn.o aX)):Zp:=h
open U in
theorem PM{W}(h:DgH w P n cap Q a bs a1 c1 a3 c3 ins outs S j base c d x m a2 c2 vs W)(ai:c%8=2):pX w P n cap Q a bs a1 c1 a3 c3 ins outs (S++[vd S x],j) base c d x m W:=by
 exact no_implicit_lambda% qat
variable {bs:List Int}
theorem V.qau(h:Zp:=by
 exact qdt):Zp:=h
theorem V.qdu(h:Zp:=by
 have R:(c:Int)%2=1:=xaa;have aP:V (∀H,Kept 0 0 _ H->_):=λH b0=>HD.o.putU b0 (eL o 1 x ((base:Int)+d/8%6) 0) (Nat.zero_lt_succ _) xaa;go_upto_region 35 with fail;exact xci):Zp:=h
open V in
theorem PN{W}(h:DgH w P n cap Q a bs a1 c1 a3 c3 ins outs S j base c d x m a2 c2 vs W)(ai:c%8=3\/c%8=5)(az:m=1):pX w P n cap Q a bs a1 c1 a3 c3 ins outs (S++[eL ([2,3,4,5,7].getD (c/8%5) 0) 1 x ((base+d/8%6:Nat):Int) 0],j) base c d x m W:=by
 exact no_implicit_lambda% qat
variable {bs:List Int}
theorem W.qau(h:Zp:=by
 exact qdt):Zp:=h
theorem W.qdu(h:Zp:=by
 have R:¬(c:Int)%2=1:=xaa;have aP:V (∀H,Kept 0 0 _ H->_):=λH b0=>HD.o.putU b0 (eL o 1 ((base:Int)+d/8%6) x 0) (Nat.zero_lt_succ _) xaa;go_upto_region 36 with fail;exact xci):Zp:=h
open W in
theorem PO{W}(h:DgH w P n cap Q a bs a1 c1 a3 c3 ins outs S j base c d x m a2 c2 vs W)(ai:c%8=4)(az:m=1):pX w P n cap Q a bs a1 c1 a3 c3 ins outs (S++[eL ([2,3,4,5,7].getD (c/8%5) 0) 1 ((base+d/8%6:Nat):Int) x 0],j) base c d x m W:=by
 exact no_implicit_lambda% qat
variable {bs:List Int}
theorem X.qau(h:Zp:=by
 have aL:V _:=HD.o.grow xaa (h.ln.of h.hs);rw[<-h.hs,H7,h.hs]at aW;have b5:¬(c:Int)%8=0:=xaa;have Y:¬(c:Int)%8=1:=xaa;have U:¬(c:Int)%8=2:=xaa;have s:¬(c:Int)%8=6:=xaa;clear h;rcases ai with ai|⟨ai,az⟩
 ·have g:¬(c:Int)%8<6:=xaa;rcases Decidable.em (m=1) with rfl|az
  all_goals
   go_wp2_with (go_at_call 36;refine yai aL.o ?_;rintro e af ⟨v,aG,cap',rfl,aj,aB,aX⟩;obtain⟨_,bn,aC,a0,bq,br,bC⟩:=aB;rw[<-aj]at aW;clear aj)
   exact aW.o (L2.of2 HSV.o aX)
 go_wp2_with (go_at_call 36;refine yai aL.o ?_;rintro e af ⟨v,aG,cap',rfl,aj,aB,aX⟩;obtain⟨_,bn,aC,a0,bq,br,bC⟩:=aB;rw[<-aj]at aW;clear aj);exact aW.o (L2.of2 HSV.o aX)):Zp:=h
open X in
theorem L7{W}(h:DgH w P n cap Q a bs a1 c1 a3 c3 ins outs S j base c d x m a2 c2 vs W)(ai:c%8=7\/((c%8=3\/c%8=4\/c%8=5)/\¬m=1)):pX w P n cap Q a bs a1 c1 a3 c3 ins outs (S++[(gwM ins S bs j).1],(gwM ins S bs j).2) base c d x m W:=by
 exact no_implicit_lambda% qat
