import Derived.Test.YtbhmhdllnfkjhaaGreatP50
import Derived.Test.YtbhmhdllnfkjhaaGreatP23
namespace Go.Proofs.Z
variable{Zp:Prop}
open Tryz Go.RowKit Flt
set_option maxRecDepth 1000000
set_option maxHeartbeats 0
section
attribute[local go_sem] eG eE eD
variable{H w W' az:World}{P n cap i Q U c1 c3 n1 j K base n3 c d c2 x:Nat}{a a1 a3 Y:Option Addr}{bs ins outs:List Int}{S vs:List Vl}{m:Int}{v:Vl}
variable{bs:List Int}
def Ar:Code->Nat
 |.region i _ _=>i
 |.seq a _=>Ar a
 |.block _ c=>Ar c
 |.scope c=>Ar c
 |.loop c=>Ar c
 |_=>0
def wm(n:Nat):Code->Option Code
 |.seq a b=>if Ar b=n then some b else match wm n b with
  |some c=>some c
  |none=>wm n a
 |.block _ c=>wm n c
 |.scope c=>wm n c
 |.loop c=>wm n c
 |_=>none
def wn(n:Nat):Code->Option Code
 |.cond t a b=>match t with
  |.tmp j=>if j=n then some (.cond (.tmp j) a b)else none
  |_=>none
 |.seq a b=>match wn n b with
  |some c=>some c
  |none=>wn n a
 |.block _ c=>wn n c
 |.scope c=>wn n c
 |.loop c=>wn n c
 |_=>none
noncomputable def Qj:Code:=(Tryz.f15.body.bind (wn 90)).getD .skip
noncomputable def I6 (n:Nat):Code:=(Tryz.f15.body.bind (wm n)).getD .skip
theorem LI{P}{c:Code}{Q a}(h:c.wp P (Exit.then (λa w=>Q .normal a w) λ_ _ _=>False) a w):c.wp P Q a w:=by
 exact xiw
theorem aO.qbc(h:Zp:=by
 have hb:=jJ f1.bx X (λc=>(f.nr _ (.inr (.inl c))).2 rfl);have ai:Kept Q _ _ (fw ag Q (.slice a1 n1 c1) _ (.slice a3 n3 c3)):=fg _ Q _ (hC aB (vs.length+1) cap') _;have B:=k.size;have J:=X.size;refine⟨_,_,rfl,hb,f1.vals X aZ xac aR N ai (nK hb _ _ _),?_,λo=>?_,yao B (yao J ai.size)⟩
 ·rcases aR with c|c
  ·intro e;exact aw.2.2 (e ▸ c)
  omega
 rw[ai.cell (by show K<_;omega) (by show ¬(Q<=K/\K<Q+1);omega),X.cell (by show K<_;omega) aw.2.2,k.cell aw.1 xaa]):Zp:=h
open aO in
theorem Dy.putK{W}(f:Dy H W P a n cap i bs U Q (.slice a1 n1 c1) (.slice Y vs.length c2) (.slice a3 n3 c3) ins vs outs)(k:Kept 0 0 W az)(v)(aD:v.k<18446744073709551616)(hn:vs.length<=100000)(aw:K<W.heap.size/\K≠Q/\(Value.slice Y vs.length c2).ownBlock≠some K):
  Calls prog 38 #[eV a1 n1 c1 Y vs.length c2 a3 n3 c3,v.agg] az λe ag=>∃aB cap',e=.returned (eV a1 n1 c1 (some ⟨aB,0,none⟩) (vs.length+1) cap' a3 n3 c3)/\RB ag Q (.slice a1 n1 c1) (.slice Y vs.length c2) (.slice a3 n3 c3)/\(Dy H (fw ag Q (.slice a1 n1 c1) (hC aB (vs.length+1) cap') (.slice a3 n3 c3)) P a n cap i bs U Q (.slice a1 n1 c1) (hC aB (vs.length+1) cap') (.slice a3 n3 c3) ins (vs++[v]) outs/\aB≠K/\(∀o,(fw ag Q (.slice a1 n1 c1) (hC aB (vs.length+1) cap') (.slice a3 n3 c3)).cell? ⟨K,o,none⟩=W.cell? ⟨K,o,none⟩)/\W.heap.size<=(fw ag Q (.slice a1 n1 c1) (hC aB (vs.length+1) cap') (.slice a3 n3 c3)).heap.size):=by
 exact qex
theorem uL{P:World->Prop}{W}(h:∀W',W'=W->P W'):P W:=h W rfl
theorem Qk{W:World}{bI bB bE b6 ct bo m r}(aw:W.heap.size=K)(ae:bI<18446744073709551616/\fb bI=ksM 0)(B:bB<18446744073709551616/\fb bB=ksM 1)(J:bE<18446744073709551616/\fb bE=ksM 2)(h3:b6<18446744073709551616/\fb b6=ksM 3)(a0:ct<18446744073709551616/\fb ct=ksM 4)(bz:bo<18446744073709551616/\fb bo=ksM 5)(q)(am:q<6):∃x,(x<18446744073709551616/\fb x=ksM q)/\((W.alloc (.cells #[.float .f64 bI,.float .f64 bB,.float .f64 bE,.float .f64 b6,.float .f64 ct,.float .f64 bo] r)).drewN m).cell? ⟨K,q,none⟩=some (.float .f64 x):=by
 subst aw;match q,am with
 |0,_=>exact⟨_,ae,by simp⟩
 |1,_=>exact⟨_,B,by simp⟩
 |2,_=>exact⟨_,J,by simp⟩
 |3,_=>exact⟨_,h3,by simp⟩
 |4,_=>exact⟨_,a0,by simp⟩
 |5,_=>exact⟨_,bz,by simp⟩
def C1(w:World)(P n cap i Q:Nat)(a:Option Addr)(bs:List Int)(a1:Option Addr)(c1:Nat)(a3:Option Addr)(c3:Nat)(ins outs:List Int)(S:List Vl)(a2:Option Addr)(c2:Nat)(vs:List Vl)(W:World):Prop:=
 vs.map sv=S/\Dy w W P a n cap i bs w.heap.size Q (.slice a1 ins.length c1) (.slice a2 vs.length c2) (.slice a3 outs.length c3) ins vs outs/\(Value.slice a2 vs.length c2).ownBlock≠some (Q+1)/\Q+1<W.heap.size/\∀m:Nat,m<6->∃x,(x<18446744073709551616/\fb x=ksM m)/\W.cell? ⟨Q+1,m,none⟩=some (.float .f64 x)
theorem C1.next{W aT aB cap'}(h:C1 w P n cap i Q a bs a1 c1 a3 c3 ins outs S Y c2 vs W)(e:sv v=aT)
  (a9:Dy w W' P a n cap i bs w.heap.size Q (.slice a1 ins.length c1) (hC aB (vs.length+1) cap') (.slice a3 outs.length c3) ins (vs++[v]) outs/\aB≠Q+1/\(∀o,W'.cell? ⟨Q+1,o,none⟩=W.cell? ⟨Q+1,o,none⟩)/\W.heap.size<=W'.heap.size):C1 w P n cap i Q a bs a1 c1 a3 c3 ins outs (S++[aT]) (some ⟨aB,0,none⟩) cap' (vs++[v]) W':=
 ⟨by rw[List.map_append,h.1,<-e];rfl,by rw[yal];exact a9.1,λq=>a9.2.1 (by simpa[Value.ownBlock] using q),yak h.2.2.2.1 a9.2.2.2,λm aq=>by rw[a9.2.2.1];exact h.2.2.2.2 m aq⟩
def L2(w:World)(P n cap Q:Nat)(a:Option Addr)(bs:List Int)(a1:Option Addr)(c1:Nat)(a3:Option Addr)(c3:Nat)(ins outs:List Int)(s:List Vl×Nat)(a2:Option Addr)(c2:Nat)(vs:List Vl)(W:World):Prop:=
 vs.map sv=s.1/\Dy w W P a n cap s.2 bs w.heap.size Q (.slice a1 ins.length c1) (.slice a2 vs.length c2) (.slice a3 outs.length c3) ins vs outs
theorem OH(vs:List Vl)(x):vd (vs.map sv) x=sv (vs.getD x hI):=by
 unfold vd;rw[yai,yai,List.getElem?_map];cases vs[x]?<;>rfl
theorem PK(W:World)(r){q}(am:q<5):(W.alloc (.cells #[hD 2,hD 3,hD 4,hD 5,hD 7] r)).cell? ⟨W.heap.size,q,none⟩=some (hD (([2,3,4,5,7]:List Int).getD q 0)):=by
 rw[yav];match q,am with
 |0,_|1,_|2,_|3,_|4,_=>rfl
theorem Dy.ox{W u1 u2 u3}(f:Dy H W P a n cap i bs U Q u1 u2 u3 ins vs outs):∀o,Dy H (W.alloc o) P a n cap i bs U Q u1 u2 u3 ins vs outs:=λo=>f.keep (ez 0 0 W o)
theorem Dy.grow{W}(f:Dy H W P a n cap i bs U Q (.slice a1 n1 c1) (.slice Y vs.length c2) (.slice a3 n3 c3) ins vs outs)(hn:vs.length<=100000)(bJ:∀k,k<vs.length->1<=(vd vs k).len/\(vd vs k).len<=1000):
  Calls prog 42 #[eV a1 n1 c1 Y vs.length c2 a3 n3 c3,hB P] W λe ag=>∃v aB cap',e=.returned (eV a1 n1 c1 (some ⟨aB,0,none⟩) (vs.length+1) cap' a3 n3 c3)/\sv v=(gwM ins vs bs i).1/\RB ag Q (.slice a1 n1 c1) (.slice Y vs.length c2) (.slice a3 n3 c3)/\Dy H (fw ag Q (.slice a1 n1 c1) (hC aB (vs.length+1) cap') (.slice a3 n3 c3)) P a n cap (gwM ins vs bs i).2 bs U Q (.slice a1 n1 c1) (hC aB (vs.length+1) cap') (.slice a3 n3 c3) ins (vs++[v]) outs:=by
 have aK:=f.p0;have am:=f.rq;have B:=f.k0.size;refine(Mn f.dg f.rd aK hn bJ).mono ?_;rintro e ag ⟨v,aB,cap',rfl,ae,G,av,ad,aR⟩;have aS:∀b,(Value.slice Y _ _).ownBlock=some b->H.heap.size<=b/\b≠U/\b≠Q:=λb hb=>⟨(eH f.dg.r2 hb).1,f.nr b (.inr (.inl hb))⟩
 have aZ:∀b,(b=P\/(Value.slice Y vs.length c2).ownBlock=some b)->b≠U/\b≠Q:=by
  rintro b (c|c)
  ·omega
  exact(aS b c).2
 have an:aB≠U/\aB≠Q:=by
  exact xft
 have hb:=jJ f.bx ad (λc=>(aZ _ c).2 rfl);have ai:Kept Q _ ag (fw _ Q (.slice a1 n1 c1) (hC aB (vs.length+1) cap') (.slice a3 n3 c3)):=fg _ _ _ _ _;have J:=ad.size
 have hn:∀b,(Value.slice a1 n1 c1).ownBlock=some b\/(hC aB (vs.length+1) cap').ownBlock=some b\/(Value.slice a3 n3 c3).ownBlock=some b->b≠U/\b≠Q:=by
  rintro b (h|h|h)
  ·exact f.nr b (.inl h)
  ·have e:b=aB:=by simpa[Value.ownBlock] using h.symm
   subst e;exact an
  exact f.nr b (.inr (.inr h))
 have own:∀{u:Value}{xs:List _}{m e s:Nat},ag.ownsRow H.heap.size e s u m xs->(∀b,u.ownBlock=some b->b≠Q)->_:=λo h=>fX o ai λb hb=>hM (h b hb)
 refine⟨v,_,_,rfl,ae,hb,av.keep ai (.inl xaa),⟨own G.r1 λb hb=>(hn b (.inl hb)).2,own G.r2 λb hb=>(hn b (.inr (.inl hb))).2,own G.r3 λb hb=>(hn b (.inr (.inr hb))).2,G.a12,G.a13,G.a23,G.k,yao G.sz ai.size⟩,nK hb _ _ _,(jJ f.rs ad (λc=>(aZ _ c).1 rfl)).kept ai xaa,aK,am,hn,⟨ai.os.trans (ad.os.trans f.k0.os),ai.tape.trans (ad.tape.trans f.k0.tape),ai.output.trans (ad.output.trans f.k0.output),yao B (yao J ai.size),λb hb g=>?_⟩⟩;rw[ai.block b xaa xaa,ad.block b xaa (by rintro (c|c);omega;have:=(aS b c).1;omega)];exact f.k0.block b hb g
theorem L2.of{us}(ae:vs.map sv=S)(aH:us=vs++[v]/\us.length=vs.length+1)
  (a9:Dy w W' P a n cap j bs w.heap.size Q (.slice a1 ins.length c1) (.slice Y us.length c2) (.slice a3 outs.length c3) ins us outs):L2 w P n cap Q a bs a1 c1 a3 c3 ins outs (S++[sv v],j) Y c2 us W':=
 ⟨by rw[aH.1,List.map_append,ae];rfl,a9⟩
theorem L2.of2(ae:vs.map sv=S)
  (a9:Dy w W' P a n cap j bs w.heap.size Q (.slice a1 ins.length c1) (.slice Y (vs.length+1) c2) (.slice a3 outs.length c3) ins (vs++[v]) outs):L2 w P n cap Q a bs a1 c1 a3 c3 ins outs (S++[sv v],j) Y c2 (vs++[v]) W':=by
 have ab:(vs++[v]).length=vs.length+1:=by simp
 rw[<-ab]at a9;exact L2.of ae ⟨rfl,ab⟩ a9
theorem Dy.putU{W}(f:Dy H W P a n cap i bs U Q (.slice a1 n1 c1) (.slice Y vs.length c2) (.slice a3 n3 c3) ins vs outs)(k:Kept 0 0 W az)(v)(aD:v.k<18446744073709551616)(hn:vs.length<=100000):
  Calls prog 38 #[eV a1 n1 c1 Y vs.length c2 a3 n3 c3,v.agg] az λe ag=>∃us aB cap',e=.returned (eV a1 n1 c1 (some ⟨aB,0,none⟩) us.length cap' a3 n3 c3)/\V (us=vs++[v]/\us.length=vs.length+1)/\RB ag Q (.slice a1 n1 c1) (.slice Y vs.length c2) (.slice a3 n3 c3)/\Dy H (fw ag Q (.slice a1 n1 c1) (hC aB us.length cap') (.slice a3 n3 c3)) P a n cap i bs U Q (.slice a1 n1 c1) (hC aB us.length cap') (.slice a3 n3 c3) ins us outs:=by
 refine(f.put k v aD hn).mono ?_;rintro e ag ⟨aB,cap',rfl,hb,G⟩;have ab:(vs++[v]).length=vs.length+1:=by simp
 exact⟨_,_,_,by rw[ab],⟨rfl,ab⟩,hb,hO ab G⟩
def qq(w:World)(P n cap Q:Nat)(a:Option Addr)(bs:List Int)(a1:Option Addr)(c1:Nat)(a3:Option Addr)(c3:Nat)(ins outs:List Int)(s:List Vl×Nat)(base c d x:Nat)(m:Int)(W:World):Prop:=
 ∀{Post:Act->World->Prop}{b:Bool}{e f g h i j k l o p bb bc bd q r t u v y z A B C D E F G H I J K L M N O R S T U Vaa X Y Z aa ab ad ae af ag ah ai aj ak al am an ao ap aq ar au av aw ax ay az aA aB aC aD aE aF aG aH aI aJ aK aL aM aN aO be bf bg bh bi bj bk bl bm bn bo bp bq br bt bu bv bw bx bz bA bB bC bD bE bF bG bH bI bJ bK bL bM bN bO bP bQ bR bS bT bU bV bW bX bY bZ b0 b1 b2 b3 b4 b5 b6 b7 b8 b9 ca cb cc cd ce cf cg ch ci cj ck cl cm cn co cp cq cr cs ct cu cv cw cx cy cz cA cB cC cD cE cF cG cH cI cJ cK cL aP aQ aR aS aT aU aV aW aX aY aZ a0 a4 a5 a6 a7 a8 a9 ba:Value},(b=true↔c%8=0)->(∀{cM cN cO cP cQ cR cS cT cU cV cW cX cY cZ c0 c4 c5 c6 c7 c8 c9 da db dc dd de df dg dh di dj dk dl dm dn dp dq dr ds dt du dv dw dx dy dz dA dB dC dD dE dF dG dH dI dJ dK dL dM dN dO dP dQ dR dS dT dU dV dW dX dY dZ d0 d1 d2 d3 d4 d5 d6 d7 d8 d9 ea eb ec ed ee ef eg eh ei ej ek el em en eo ep:Value}{W':World}{a2:Option Addr}{c2:Nat}{vs:List Vl},L2 w P n cap Q a bs a1 c1 a3 c3 ins outs s a2 c2 vs W'->Post ⟨#[.pointer (some ⟨P,0,none⟩),e,f,g,h,i,j,k,.pointer (some ⟨Q,0,none⟩),l,.int .i64 (base:Int),o,p,.int .i64 (c:Int),.int .i64 (d:Int),.int .i64 (x:Int),.int .i64 m,cM,cN,cO,q,r,t,u,v,y,z,A,B,C,D,E,F,G,H,I,J,K,L,M,N,O,R,S,T,U,Vaa,X,Y,Z,aa,ab,ad,ae,af,ag,ah,ai,aj,ak,al,am,an,ao,ap,aq,ar,au,av,aw,ax,ay,az,aA,aB,aC,aD,aE,aF,aG,aH,aI,aJ,aK,aL,aM,aN,aO,cP,cQ,cR,cS,cT,cU,cV,cW,cX,cY,cZ,c0,c4,c5,c6,c7,c8,c9,da,db,dc,dd,de,df,dg,dh,di,dj,dk,dl,dm,dn,dp,dq,dr,ds,dt,du,dv,dw,dx,dy,dz,dA,dB,dC,dD,dE,dF,dG,dH,dI,dJ,dK,dL,dM,dN,dO,dP,dQ,dR,dS,dT,dU,dV,dW,dX,dY,dZ,d0,d1,d2,d3,d4,d5,d6,d7,d8,d9,ea,eb,ec,ed,ee,ef,eg,eh,ei,ej,ek,el,em,en,eo,ep,aP,aQ,aR,aS,aT,aU,aV,aW,aX,aY,aZ,a0,a4,a5,a6,a7,a8,a9,ba],[]⟩ W')->Code.wp prog Qj (Exit.then Post λ_ _ _=>False) ⟨#[.pointer (some ⟨P,0,none⟩),e,f,g,h,i,j,k,.pointer (some ⟨Q,0,none⟩),l,.int .i64 (base:Int),o,p,.int .i64 (c:Int),.int .i64 (d:Int),.int .i64 (x:Int),.int .i64 m,bb,bc,bd,q,r,t,u,v,y,z,A,B,C,D,E,F,G,H,I,J,K,L,M,N,O,R,S,T,U,Vaa,X,Y,Z,aa,ab,ad,ae,af,ag,ah,ai,aj,ak,al,am,an,ao,ap,aq,ar,au,av,aw,ax,ay,az,aA,aB,aC,aD,aE,aF,aG,aH,aI,aJ,aK,aL,aM,aN,aO,be,bf,.bool b,bg,bh,bi,bj,bk,bl,bm,bn,bo,bp,bq,br,bt,bu,bv,bw,bx,bz,bA,bB,bC,bD,bE,bF,bG,bH,bI,bJ,bK,bL,bM,bN,bO,bP,bQ,bR,bS,bT,bU,bV,bW,bX,bY,bZ,b0,b1,b2,b3,b4,b5,b6,b7,b8,b9,ca,cb,cc,cd,ce,cf,cg,ch,ci,cj,ck,cl,cm,cn,co,cp,cq,cr,cs,ct,cu,cv,cw,cx,cy,cz,cA,cB,cC,cD,cE,cF,cG,cH,cI,cJ,cK,cL,aP,aQ,aR,aS,aT,aU,aV,aW,aX,aY,aZ,a0,a4,a5,a6,a7,a8,a9,ba],[]⟩ W
structure DgH(w:World)(P n cap Q:Nat)(a:Option Addr)(bs:List Int)(a1:Option Addr)(c1:Nat)(a3:Option Addr)(c3:Nat)(ins outs:List Int)(S:List Vl)(j base c d x:Nat)(m:Int)(a2:Option Addr)(c2:Nat)(vs:List Vl)(W:World):Prop where
 D:Dy w W P a n cap j bs w.heap.size Q (.slice a1 ins.length c1) (.slice a2 vs.length c2) (.slice a3 outs.length c3) ins vs outs
 hs:vs.map sv=S
 hx:x<vs.length
 hl:6<=vs.length/\vs.length<=1000
 hc:c<256/\d<256/\base<=100
 hm:(vs.getD x hI).len=m
 ln:LenS S
variable{bs:List Int}
theorem PL{W}(h:DgH w P n cap Q a bs a1 c1 a3 c3 ins outs S j base c d x m Y c2 vs W)(ad:c%8=0):qq w P n cap Q a bs a1 c1 a3 c3 ins outs (S++[eL 6 m x 0 0],j) base c d x m W:=by
 unfold qq;intros;rename_i Z hP;have bV:V _:=@hP;have HD:V _:=h.D;have HSV:V _:=h.hs;have ab:=h.hl;have f:=h.hc;obtain⟨_,bf,aP,aY,B,aj,an⟩:=HD.o.bx;obtain rfl:=Z.2 ad;clear hP Z;conv=>arg 2;whnf
 have z:(c:Int)%8=0:=xaa;have aI:V (∀cj,Kept 0 0 W cj->_):=λcj bU=>HD.o.putU bU (eL 6 m (x:Int) 0 0) (Nat.zero_lt_succ _) xaa;clear h;go_upto_region 24 with fail;exact xbo
variable{bs:List Int}
theorem U.qau(h:Zp:=by
 have ak:=h.hx;obtain⟨af,cp,aK,bp,aR,be⟩:=ig HD.o.dg.r2 rfl ak;have aw:Y=some ⟨af,0,none⟩:=by injection aK
 subst aw;have ah:(x:Int)<vs.length:=xaa;clear aK bp aR;have z:(c:Int)%8=2:=xaa;have aI:V (∀cj,Kept 0 0 W cj->_):=λcj bU=>HD.o.putU bU (vs.getD x hI) (HD.o.dg.k _ (by rw[yai,yam ak];exact List.getElem_mem ak)) xaa;have ch:=(HD.o.keep (ez 0 0 W (.cells #[hD (vs.getD x hI).op,hD (vs.getD x hI).len,hD (vs.getD x hI).a,hD (vs.getD x hI).b,hD (vs.getD x hI).c,.float .f64 (vs.getD x hI).k] 60))).bx;have e:vd S x=sv (vs.getD x hI):=by rw[<-h.hs,OH]
 rw[e]at bV;clear e h;obtain⟨bb,aM,aQ,bY,cg,cn⟩:=be;generalize vs.getD x hI=v at*;obtain⟨_,bd,aL,aJ,_,_,_⟩:=ch;go_wp2_with (go_at_call 38;refine yaj (aI.o _ (ez 0 0 _ _)) ?_;rintro e ag ⟨us,aB,cap',rfl,ba,aO,aA⟩;obtain⟨_,bm,ay,aW,bv,bA,bM⟩:=aO);all_goals exact bV.o (L2.of HSV.o ba.o aA)):Zp:=h
open U in
theorem PM{W}(h:DgH w P n cap Q a bs a1 c1 a3 c3 ins outs S j base c d x m Y c2 vs W)(ad:c%8=2):qq w P n cap Q a bs a1 c1 a3 c3 ins outs (S++[vd S x],j) base c d x m W:=by
 exact no_implicit_lambda% qat
variable{bs:List Int}
theorem V.qau(h:Zp:=by
 exact qdl):Zp:=h
theorem V.qdm(h:Zp:=by
 have J:(c:Int)%2=1:=xaa;have aI:V (∀cj,Kept 0 0 _ cj->_):=λcj bU=>HD.o.putU bU (eL o 1 x ((base:Int)+d/8%6) 0) (Nat.zero_lt_succ _) xaa;go_upto_region 35 with fail;exact xbq):Zp:=h
open V in
theorem PN{W}(h:DgH w P n cap Q a bs a1 c1 a3 c3 ins outs S j base c d x m Y c2 vs W)(ad:c%8=3\/c%8=5)(aq:m=1):qq w P n cap Q a bs a1 c1 a3 c3 ins outs (S++[eL ([2,3,4,5,7].getD (c/8%5) 0) 1 x ((base+d/8%6:Nat):Int) 0],j) base c d x m W:=by
 exact no_implicit_lambda% qat
variable{bs:List Int}
theorem W.qau(h:Zp:=by
 exact qdl):Zp:=h
theorem W.qdm(h:Zp:=by
 have J:¬(c:Int)%2=1:=xaa;have aI:V (∀cj,Kept 0 0 _ cj->_):=λcj bU=>HD.o.putU bU (eL o 1 ((base:Int)+d/8%6) x 0) (Nat.zero_lt_succ _) xaa;go_upto_region 36 with fail;exact xbq):Zp:=h
open W in
theorem PO{W}(h:DgH w P n cap Q a bs a1 c1 a3 c3 ins outs S j base c d x m Y c2 vs W)(ad:c%8=4)(aq:m=1):qq w P n cap Q a bs a1 c1 a3 c3 ins outs (S++[eL ([2,3,4,5,7].getD (c/8%5) 0) 1 ((base+d/8%6:Nat):Int) x 0],j) base c d x m W:=by
 exact no_implicit_lambda% qat
variable{bs:List Int}
theorem X.qau(h:Zp:=by
 have b8:V _:=HD.o.grow xaa (h.ln.of h.hs);rw[<-h.hs,It,h.hs]at bV;have bT:¬(c:Int)%8=0:=xaa;have n1:¬(c:Int)%8=1:=xaa;have T:¬(c:Int)%8=2:=xaa;have p:¬(c:Int)%8=6:=xaa;clear h;rcases ad with ad|⟨ad,aq⟩
 ·have g:¬(c:Int)%8<6:=xaa;rcases Decidable.em (m=1) with rfl|aq
  all_goals
   go_wp2_with (go_at_call 42;refine yaj b8.o ?_;rintro e ag ⟨v,aB,cap',rfl,ae,aO,aA⟩;obtain⟨_,bm,ay,aW,bv,bA,bM⟩:=aO;rw[<-ae]at bV;clear ae)
   exact bV.o (L2.of2 HSV.o aA)
 go_wp2_with (go_at_call 42;refine yaj b8.o ?_;rintro e ag ⟨v,aB,cap',rfl,ae,aO,aA⟩;obtain⟨_,bm,ay,aW,bv,bA,bM⟩:=aO;rw[<-ae]at bV;clear ae);exact bV.o (L2.of2 HSV.o aA)):Zp:=h
open X in
theorem Mp{W}(h:DgH w P n cap Q a bs a1 c1 a3 c3 ins outs S j base c d x m Y c2 vs W)(ad:c%8=7\/((c%8=3\/c%8=4\/c%8=5)/\¬m=1)):qq w P n cap Q a bs a1 c1 a3 c3 ins outs (S++[(gwM ins S bs j).1],(gwM ins S bs j).2) base c d x m W:=by
 exact no_implicit_lambda% qat
end
section
attribute[local go_sem] eG eE eD
attribute[local go_sem ↓] Go.wp_at_zero Go.wp_at_succ
variable{w:World}{O ax Z:Option Addr}{n1 c1 T c2 n3 c3:Nat}{ins outs:List Int}{vs:List Vl}{p:Int}
theorem EY(w:World)(y):(w.alloc (.cells #[hD y] 3)).cell? ⟨w.heap.size,0,none⟩=some (hD y):=by simp
theorem E4{A:List Vl}{v j}(h:j<A.length):(A.drop j).findIdx (f8 · v)=if f8 (A.getD j hI) v=true then 0 else (A.drop (j+1)).findIdx (f8 · v)+1:=by
 rw[rz h,List.findIdx_cons];cases f8 (A.getD j hI) v<;>rfl
theorem cB.qcj(h:Zp:=by
 go_loopw [6,7] (λI x W=>∃i:Nat,i<=T/\x=hD i/\V (CW w W b4 t R (.slice O n1 c1) (.slice ax T c2) (.slice Z n3 c3) a1 n1 d1 Y T d2 a3 n3 d3 ins ((fA p vs i).1++vs.drop i) outs)/\V (W.ownsRow (b4+1) 3 1 I (fA p vs i).2.length ((fA p vs i).2.map (Value.int .i64)))) (λ_ x _=>T-(intOf x).toNat)
 case atStart=>exact⟨0,yae,rfl,bZ,yaw _ _ _ _⟩
 case round=>
  obtain⟨i,hi,rfl,a6,ar⟩:=hrel;clear bZ;have bO:=a6.o.lt;obtain⟨_,a8,aV,p2⟩:=a6.o.pb;have n:=HE.o i hi;obtain⟨cl,bx,rfl⟩:=jp ar.o;by_cases aC:i<T
  ·obtain⟨g,off,rfl,aR,eA,_,be⟩:=(aI.o.keep a6.o.kp).v.at_idx aC;have bX:=i6 (bL.o i aC);have ab:V _:=Fu _ _ _ _ _ _ bx _ (pX ar.o rfl) (nD (bL.o i aC)) (λo h=>hN (bX o h) n.l2);have bH:V _:=λo h=>(pr n (bL.o i aC) o h).1;have aA:V _:=lG aI.o.v.lt p i;have bG:V ((rnm (fA p vs i).2 _).k<18446744073709551616):=Kb.at_ aI.o.v.lt i;have ah:V _:=sN (v:=rnm (fA p vs i).2 (vs.getD i hI)) n.l1 (hO HL.o.1 aC);have S:V (fA p _ (i+1)=((fA p vs i).1++[rnm (fA p _ i).2 _],(fA p _ i).2++[fQ p _ _ i])):=rfl;have bK:V _:=n.l1;have aP:V _:=n.l2;have HR:V (Kb (vs.drop (i+1))):=λv aD=>aI.o.v.lt v (List.mem_of_mem_drop aD);generalize bl:rnm (fA p _ i).2 _=nv at ab bG ah S bH;generalize cG:vs.getD i _=v at be ab;generalize aU:(fA p _ i).1=A at a6 aA ah S bK;generalize bh:(fA p _ i).2=tq at ar S aP ab⊢;generalize bM:vs.drop (i+1)=cb at ah HR;have bS:V _:=bM;clear bl cG n bX aU bh bM;obtain⟨rfl,ae⟩:=a6.o.va.va xaa;obtain⟨bb,aM,aQ,bY,cg,cn⟩:=be;go_wp2_with fail;clear bb aM aQ bY cg cn a8 aV p2 ae;refine yaj ab.o ?_;rintro e az ⟨rfl,bz⟩;have bZ:V _:=a6.o.put bz aC nv;rw[ah.o]at bZ;have a5:V _:=fy (eR ar.o bz) ((kY _ t (i*6) nv).chg1 rfl) (λb hb c=>hM ((eH ar.o hb).1));have b8:=bz.size;have an:=a6.o.chg bz.chg;obtain⟨u0,u1,u2,u3,u4,u5⟩:=(an.va.va xaa).2.at_ i aC;have b3:=(an.va.va xaa).2.free;obtain⟨_,bd,aL,aJ,_,_,_⟩:=an.ob;obtain⟨_,a8,aV,p2⟩:=an.pb;clear bz a6 ar ab ah an;have cw:t≠az.heap.size:=xaa;have cC:b4≠az.heap.size:=xaa;have cx:az.heap.size≠t:=xaa;have cD:az.heap.size≠b4:=xaa;have cy:t<az.heap.size:=xaa;generalize (A++vs.drop i).getD i _=bQ at u0 u1 u2 u3 u4 u5;go_upto_region 9 with fail;refine uL λcj bf=>?_;have ef:cj=(nW _ _ _ _).alloc (fB _ _ _ _ _ _):=bf;clear bf;have b2:=i5 (nW az t (i*6) nv) nv;have ci:(nW az t (i*6) nv).heap.size=az.heap.size:=by simp[nW]
   rw[ci]at b2;have aO:V (At _ _ 0 _/\az.heap.size<((nW az t (i*6) nv).alloc (fB nv.op nv.len nv.a nv.b nv.c nv.k)).heap.size):=⟨b2,by simp[nW]⟩
   have P:V _:=bZ.o.chg (ez 0 0 _ (fB nv.op nv.len nv.a nv.b nv.c nv.k)).chg;have aj:V _:=World.ownsRow.alloc a5.o (fB nv.op nv.len nv.a nv.b nv.c nv.k);rw[<-ef]at aO P aj;clear ef b2 ci u0 u1 u2 u3 u4 u5 b3 bd aL aJ a8 aV p2 bZ a5 cw cC cx cD cy;have bD:V (∀q,q<i->(A++[nv]++cb).getD q _=A.getD q _):=λq am=>sP bK.o am;have bR:V _:=(P.o.va.va xaa).2;obtain⟨_,bd,aL,aJ,_,_,_⟩:=P.o.ob;obtain⟨bI,bB,bE,b6,ct,bo⟩:=aO.o.1;simp only[Nat.zero_add]at bB bE b6 ct bo;rcases bV.o with rfl|rfl|rfl
   ·go_wp2_with fail;go_loopw [9,10] (λs y W=>∃j:Nat,j<=i/\y=hD ((j:Int)-1)/\s=hD ((j+(A.drop j).findIdx (f8 · nv):Nat):Int)/\V (Kept 0 0 cj W)) (λ_ y _=>(intOf y+1).toNat)
    case atStart=>exact⟨i,yad,rfl,by rw[List.drop_of_length_le (hR bK.o)];rfl,Kept.refl _ _ _⟩
    case round=>
     obtain⟨j,hj,rfl,rfl,aw⟩:=hrel;by_cases bw:j=0
     ·subst bw
      have C:V (fQ 1 A nv i=(0+(A.drop 0).findIdx (f8 · nv):Nat)):=by
       show _=_;rw[fQ,hG rfl,List.drop_zero,Nat.zero_add]
      generalize ((0+(A.drop 0).findIdx _:Nat):Int)=b7 at C⊢;have ap:V _:=aw.o;clear aw;exact xai
     obtain⟨q,rfl⟩:∃q,j=q+1:=⟨j-1,by omega⟩
     have aF:(q+1:Nat)-1=(q:Int):=xaa;rw[aF];clear aF bw;have f7:q<T:=xaa;have eB:q<i:=xaa;obtain⟨aT,ao,aG,Q,cf,bv⟩:=(VA.keep bR.o aw.o yaa).at_ q f7;rw[bD.o q eB]at aT ao aG Q cf bv;have HSV:V _:=λW=>C9 W _ _ (Kb.at_ aA.o q) bG.o;have bA:V _:=E4 (v:=nv) (hO bK.o eB);generalize A.getD q _=u at aT ao aG Q cf bv HSV bA;generalize (A.drop (q+1)).findIdx _=ca at bA⊢;obtain⟨_,bm,ay,aW,_,_,_⟩:=(P.o.chg aw.o.chg).ob;obtain⟨bC,aN,a2,bk,bq,co⟩:=aO.o.1.keep aO.o.2 aw.o yaa;simp only[Nat.zero_add]at aN a2 bk bq co;generalize bu:f8 u _=b0 at HSV bA;clear bu;go_wp2_with fail;go_region_with ((go_at_call 128;refine yaj (HSV.o _) ?_;rintro e ag ⟨rfl,cB⟩))
     all_goals
      have cq:V _:=aw.o.trans ((eF _).trans cB)
      clear cB
      cases b0
      all_goals
       go_wp2
       go_roundw
       case rel=>exact⟨q,by omega,by first|rfl|go_num,by rw[bA.o];simp<;>omega,cq⟩
       case measure=>simp[intOf]<;>omega
   ·have ap:V _:=Kept.refl 0 0 cj;by_cases bP:nv.op=6
    ·have hb:=bH.o _ (gm (by rw[bP];decide));obtain⟨m,em,aq⟩:∃m:Nat,nv.a=m/\m<i:=⟨nv.a.toNat,by omega,by omega⟩
     have ha:m<T:=xaa;obtain⟨aT,ao,aG,Q,cf,bv⟩:=bR.o.at_ m ha;rw[bD.o m aq]at aT ao aG Q cf bv;have b5:(nv.op==6)=true:=by simp[bP]
     have C:V (fQ 3 A nv i=if ((A.getD m hI).op==6)=true then (A.getD m hI).a else i):=by
      show _=_;simp[fQ,bP,em]
     generalize A.getD m _=u at aT ao aG Q cf bv C;rw[em]at bE;clear bP em hb;cases aY:(u.op==6)
     ·rw[aY,hF xab]at C;exact xai
     rw[aY,hG rfl]at C;exact xai
    have C:V (fQ 3 A nv i=i):=by
     show _=_;simp[fQ,bP]
    have b5:=yan bP;clear bP;exact xai
   obtain⟨r,av,au⟩:=Nu (a1:=a1) (c1:=d1) (n1:=n1) (c2:=d2) (a3:=a3) (n3:=n3) (c3:=d3) (bR.o.vs λx ak=>by
    simp only[List.mem_append,List.mem_singleton]at ak
    rcases ak with (h|rfl)|h
    ·exact aA.o x h
    ·exact bG.o
    ·exact HR.o x h) bH.o xaa bD.o
   have C:V _:=av;have aZ:V _:=au;clear av au;go_wp2_with fail;refine yaj (aZ.o _ (Kept.refl _ _ _)) ?_;rintro e bi ⟨rfl,a0⟩;by_cases bp:0<=r
   ·rw[hG bp]at C;have aH:V _:=a0;obtain⟨_,bm,ay,aW,_,_,_⟩:=(P.o.chg a0.chg).ob;obtain⟨bC,aN,a2,bk,bq,co⟩:=aO.o.1.keep aO.o.2 a0 yaa;simp only[Nat.zero_add]at aN a2 bk bq co;clear a0;go_wp2_with fail;refine yaj (aZ.o _ aH.o) ?_;rintro e ag ⟨rfl,cB⟩;have ap:V _:=aH.o.trans cB;clear cB;exact xai
   rw[hF bp]at C;have ap:V _:=a0;clear a0;exact xai
  obtain rfl:i=T:=xaa;have aa:V (eqM p vs outs=((fA p vs i).1,kH (fA p vs i).2 outs)):=by show _=_;unfold eqM;rw[HL.o.1]
  have aA:V _:=lG aI.o.v.lt p i;have b1:V _:=hE n.l1 n.l2;have bZ:V _:=a6.o;rw[List.drop_of_length_le (hR HL.o.1),List.append_nil]at bZ;clear a6 n;generalize (fA p _ i).1=A at bZ aa aA b1;generalize (fA p _ i).2=tq at ar aa b1⊢;go_upto_region 21 with fail;go_loopw [11] (λx W=>∃k:Nat,k<=n3/\x=hD k/\V (CW w W b4 t R (.slice O n1 c1) (.slice ax i c2) (.slice Z n3 c3) a1 n1 d1 Y i d2 a3 n3 d3 ins A ((kH tq outs).take k++outs.drop k))/\V (W.ownsRow (b4+1) 3 1 (.slice cl tq.length bx) tq.length (tq.map (Value.int .i64)))) (λx _=>n3-(intOf x).toNat)
  case atStart=>exact⟨0,yae,rfl,by simpa using bZ,ar⟩
  case round=>
   obtain⟨k,N,rfl,a6,ar⟩:=hrel;clear bZ;have bO:=a6.o.lt;obtain⟨_,bd,aL,aJ,_,_,_⟩:=a6.o.ob;obtain⟨_,a8,aV,p2⟩:=a6.o.pb;by_cases aC:k<n3
   ·have aB:=cX.o _ (gY (hO HL.o.2.1 aC));obtain⟨fG,e0,ai,rfl,cP,_,gd,cT⟩:=(aI.o.keep a6.o.kp).o.at_idx (o:=k) xaa xaa;obtain rfl:k=ai:=xaa;rw[Int.toNat_natCast]at cT;obtain⟨H,bU,br⟩:∃m:Nat,outs.getD k 0=m/\m<i:=⟨(outs.getD k 0).toNat,by omega,by omega⟩
    have aX:H<tq.length:=hO b1.o.2 br
    obtain⟨gt,cI,z,rfl,aS,ad,_,cr⟩:=(pX ar.o rfl).at_idx (o:=H) xaa xaa;obtain rfl:H=z:=xaa;rw[Int.toNat_natCast]at cr;have bn:V _:=yI (tq:=tq) (hO HL.o.2.1 aC);rw[bU,Int.toNat_natCast]at bn;rw[bU]at cT;have R1:V _:=a6.o.setO aC (tq.getD H 0);rw[bn.o]at R1;have R2:V _:=eJ (P:=R) (o:=k) (u:=hD (tq.getD H 0)) ar.o (λc=>hM ((eH ar.o c).1));obtain⟨rfl,bW⟩:=a6.o.oz.resolve_left xaa;have af:=bW.at_ k aC;have cF:=bW.free k;generalize tq.getD _ 0=x at cr R1 R2;generalize ((kH tq _).take k++outs.drop k).getD k 0=cW at af;clear a6 ar bW aB bU bn;go_wp2_with fail;go_region
    all_goals
     go_wp2
     go_roundw;exact⟨k+1,by omega,by go_num,R1.o.chg (eF _).chg,eR R2.o (eF _)⟩;simp[intOf];omega
   obtain rfl:k=n3:=xaa;have bZ:V _:=a6.o;rw[yap (by rw[kL,HL.o.2.1];omega),List.drop_of_length_le (hR HL.o.2.1),List.append_nil]at bZ;rw[aa.o]at cd;obtain⟨_,aT,ao,aG,bF,a9,ba⟩:=a6.o.rb;clear a6 ar;go_wp2_with fail;obtain⟨bb,aM,aQ⟩:=eZ _ _ _ _ _ aT ao aG (.slice a1 n1 d1) (.slice Y i d2) (.slice a3 k d3);exact yaz (v:=eV a1 n1 d1 Y i d2 a3 k d3) (by simp[results,results79,go_sem,bb,aM,aQ]) rfl (GVo.ret bZ.o.kp xaa bZ.o.rb (bZ.o.gs HL.o.2.2 b1.o.1 (by rw[kL];exact HL.o.2.1) aA.o) cd.o)):Zp:=h
theorem cB.qei(h:Zp:=by
 have HE:V (∀i,i<=T->_):=λi hi=>lV _ _ p i (λj hj=>aD j xaa);have cX:V (∀o∈outs,0<=o/\o<T):=λo h=>hM (al o h)
 have HL:V (vs.length=T/\outs.length=n3/\ins.length=n1):=⟨cu,cH,cK⟩
 have cd:V _:=Fq p bN;have bc:V _:=Ma (c1:=c1) (c2:=c2) (c3:=c3) f cc ce cS;have aI:V _:=f;have bV:V _:=aK;obtain⟨_,a8,aV,p2⟩:=(ft w (.slice O n1 c1) (.slice ax T c2) (.slice Z n3 c3)).keep (ez 0 0 _ fj);clear f aK bN ck cz cA aD al cu cH cK;go_enter func79,ntmps79;exact qci):Zp:=h
open cB in
theorem LL(aK:p=1\/p=3\/p=4)(f:GS w O n1 ax T Z n3 ins vs outs)(bN:okG ins vs outs=true):
  Calls prog 79 #[eV O n1 c1 ax T c2 Z n3 c3,hD p] w (GVo w n1 n3 ins):=by
 exact qgq
variable{w W:World}{O ax Z:Option Addr}{n1 c1 T c2 n3 c3:Nat}{ins outs:List Int}{vs us:List Vl}{v:Vl}{lo hi n c:Nat}{a:Option Addr}{zs P az aB:List Nat}{x y z:Value}
theorem E5(f:FS w lo hi a n zs)(ce:n<=1000):Calls prog 127 #[.slice a n c] w λe I=>(∃b,e=.returned (.bool b)/\(b=true->0<n))/\Kept 0 0 w I:=by
 have aI:V _:=f;clear f;go_enter func127,ntmps127;go_wp2_with fail;go_loopw [3] (λx W=>∃k:Nat,k<=n/\x=hD k/\V (Kept 0 0 w W)) (λx _=>n-(intOf x).toNat)
 case atStart=>exact⟨0,yae,rfl,Kept.refl _ _ _⟩
 case round=>
  obtain⟨k,N,rfl,aw⟩:=hrel;by_cases aC:k<n
  ·obtain⟨g,off,rfl,_,_,ah,ad⟩:=aI.o.at_.resolve_left xaa;have c0:=iF aw.o ah (ad 0 xaa);rw[Nat.add_zero]at c0;have c1:=iF aw.o ah (ad k aC);have bW:V _:=λw=>tG _ _ w (fR aI.o.lt k) (fR aI.o.lt 0);have aV:0<n:=xaa;generalize zs.getD k 0=ai at c1 bW;generalize zs.getD 0 0=bI at c0 bW;generalize ((fb _:Int)==(fb _:Int))=t at bW;clear ad;go_wp2_with fail;go_region_with ((go_at_call 151;refine yaj (bW.o _) ?_;rintro e ag ⟨rfl,rfl⟩))
   all_goals
    cases t
    ·go_wp2
     go_ret
     exact⟨⟨_,rfl,by simp⟩,Kept.trans aw.o (eF _)⟩
    ·go_wp2
     go_roundw;exact⟨k+1,by omega,by go_num,Kept.trans aw.o (eF _)⟩;simp[intOf];omega
  obtain rfl:k=n:=xaa;go_wp2;go_ret;exact⟨⟨_,rfl,by simp⟩,aw.o⟩
def AW(W:World)(base:Nat)(v:Value)(k:Nat):Prop:=∃Vs:List (List Nat),Vs.length=k/\AR W base v k Vs
theorem AW.blk{g k R}(h:AW W R x k)(e:x.ownBlock=some g):R<=g/\g<W.heap.size:=by
 obtain⟨_,_,_,h,_⟩:=h;exact eH h e
theorem Cn.nil(W lo):Cn W lo (.slice none 0 0) []:=⟨none,0,0,[],rfl,yad,⟨rfl,by simp,.inl rfl⟩,rfl⟩
theorem oY{H k}(aU:AW W H.heap.size x k)(aw:Kept 0 0 H W){b}(bT:Cn W lo (.slice b n c) zs)(ab:∀g,x.ownBlock=some g->g<lo)(N:k<3){br rest o a Q}(X:o.guard=none)(s r)
  (al:o.op=.call {callee:=.builtin .append,args:=#[s,r],argTypes:=#[31,31]}) (ar:a.eval s=x) (ak:a.eval r=hC W.heap.size 1 1)
  (h:∀g cap I,AW I H.heap.size (hC g (k+1) cap) (k+1)->Kept 0 0 H I->wpList prog br Q rest (a.put o.dst (hC g (k+1) cap)) I):wpList prog br Q (o::rest) a (W.alloc (.cells #[.slice b n c] 48)):=by
 obtain⟨b3,hi,a6,b8,b5⟩:=info_parts zi;obtain⟨ai,av,us,B,J⟩:=aU;have bi:=aw.size;refine wpList_append_lies _ X s r _ al _ 48 _ _ 1 _ underlying31 hi a6 b8 b5 rfl xab _ _ _ ar (B.alloc _) _ 1 1 _ ak rfl (cell_one_new _ _ _) (by intro u aH;simp at aH;subst aH;rfl) xab (by unfold maxLen;omega) xaa yag _ rfl ?_;intro g cap I h3 a0 bz _;refine h g _ _ ⟨ai++[zs],by simp[av],AR.step B J bT.cl (λae p aK bK=>hN (ab _ bK) (bT.ge ae p aK)) h3 a0 (bz.imp id λe=>by rw[e]) (λj hj=>?_) ?_⟩ (i9 a0 (λi hi=>(eH B hi).1) (aw.trans (ez 0 0 W _)) yad)
 ·rw[yai,yat xaa,yai]
 rw[yai,yas xaa,av,Nat.sub_self];rfl
theorem PP(aw:v.k<18446744073709551616)(F:Cl w x P)(hb:Cl w y az)(ad:Cl w z aB):
  Calls prog 50 #[v.agg,x,y,z] w λe I=>∃b n c zs,e=.returned (.slice b n c)/\n<=1000/\n<=c/\FS I w.heap.size I.heap.size b n zs/\Kept 0 0 w I:=by
 obtain⟨a,f,bd,g,rfl,a1,Y,_⟩:=F;refine(oM w v aw _ y z _ _ _ ⟨a,_,_,_,rfl,a1,Y,rfl⟩ hb ad Y.lt).mono ?_;rintro e I ⟨u,rfl,⟨b,n,c,zs,rfl,B,J,h3⟩,k⟩;exact⟨b,n,c,_,rfl,by have:=J.len;have:=iZ h3;have:=yK v.op v.len v.c v.k g az aB;omega,B,J,k⟩
def FW(vs us:List Vl):Prop:=∀j,j<us.length->us.getD j hI=vs.getD j hI\/∃K,us.getD j hI=⟨1,(vs.getD j hI).len,0,0,0,K⟩
theorem FW.app{i}(h:FW vs us)(ab:us.length=i)(aD:v=vs.getD i hI\/∃K,v=⟨1,(vs.getD i hI).len,0,0,0,K⟩):FW vs (us++[v]):=λj hj=>by
 subst ab
 rw[yal,List.length_singleton]at hj
 by_cases c:j<us.length
 ·rw[gX _ _ c];exact h j c
 ·obtain rfl:j=us.length:=xaa
  rw[ij];exact aD
theorem FW.ok(h:okG ins vs outs=true)(ab:us.length=vs.length)(f:FW vs us):okG ins us outs=true:=by
 obtain⟨B,J,h3,a0,bz⟩:=fW h;have au:∀j,j<us.length->(us.getD j _).len=(vs.getD j _).len:=λj hj=>by rcases f j hj with e|⟨K,e⟩<;>rw[e]
 refine qE (hO ab B) J (λj hj=>?_) (hO ab a0) (by rw[pt _ _ ab au];exact bz);have al:=h3 j xaa;rcases f j hj with e|⟨K,e⟩
 ·exact tD al id (by rw[e]) (by rw[e]) (λ_=>by rw[e]) (λ_=>by rw[e]) (λ_=>by rw[e]) (by rw[e];simp) λo _ ae B=>⟨⟨ae,B⟩,au _ (by simp only[id];omega)⟩
 exact vL e (jB al)
def N14(w':World)(O A G o6:Nat)(u:Value)(v c:Vl):Prop:=
 w'.cell? ⟨O,1,none⟩=some u/\At w' A 0 v/\At w' G o6 c
theorem N14.keep{w I b4 A G e u v c}(h:N14 w b4 A G e u v c)(k:Kept 0 0 w I)(al:b4<w.heap.size)(aU:A<w.heap.size)(bv:G<w.heap.size):N14 I b4 A G e u v c:=
 ⟨iF k al h.1,h.2.1.keep aU k yaa,h.2.2.keep bv k yaa⟩
theorem I7(w X v){A}(o)(h:X≠A):(nW w X 0 v).cell? ⟨A,o,none⟩=w.cell? ⟨A,o,none⟩:=iO _ _ _ _ _ _ (.inl h)
theorem PR(wr br:World)(k:Kept 0 0 (wr.alloc (fB 0 0 0 0 0 0)) br):At br wr.heap.size 0 ⟨0,0,0,0,0,0⟩/\∀o,br.frozen? ⟨wr.heap.size,o,none⟩=false:=by
 have ab:wr.heap.size<(wr.alloc (fB 0 0 0 0 0 0)).heap.size:=by simp
 exact⟨(i5 wr _).keep ab k yaa,λo=>by rw[k.frozen ab xaa];simp⟩
theorem cC.qcj(h:Zp:=by
 go_loopw [4] (λx W=>∃(i:Nat) (us:List Vl),i<=T/\x=hD i/\V (us.length=i/\FW vs us/\Kb us)/\V (CW w W b4 t R (.slice O n1 c1) (.slice ax T c2) (.slice Z n3 c3) a1 n1 d1 Y T d2 a3 n3 d3 ins (us++vs.drop i) outs)) (λx _=>T-(intOf x).toNat)
 case atStart=>exact⟨0,[],yae,rfl,⟨rfl,λj hj=>absurd hj (Nat.not_lt_zero _),λv aD=>by cases aD⟩,bZ⟩
 case round=>
  obtain⟨i,us,hi,rfl,au,a6⟩:=hrel;clear bZ;have bO:=a6.o.lt;obtain⟨_,a8,aV,p2⟩:=a6.o.pb;by_cases aC:i<T
  ·obtain⟨g,off,rfl,aR,eA,_,be⟩:=(aI.o.keep a6.o.kp).v.at_idx aC;have aa:i<vs.length:=by rw[HL.o.1];exact aC
   have bX:=i6 (bL.o i aC);have cI:=nD (bL.o i aC);have ae:V (Kb (us++vs.drop i)/\(vs.getD i _).k<18446744073709551616):=⟨λv aD=>(List.mem_append.1 aD).elim (λc=>au.o.2.2 v c) (λc=>aI.o.v.lt v (List.mem_of_mem_drop c)),Kb.at_ aI.o.v.lt i⟩
   have F:V (∀nv:Vl,nv.k<18446744073709551616->(nv=vs.getD i _\/∃K,nv=⟨1,_,0,0,0,K⟩)->(us++[nv]).length=i+1/\FW vs _/\Kb _):=λnv N h=>⟨by simp[au.o.1],au.o.2.1.app au.o.1 h,au.o.2.2.app N⟩
   have ak:V _:=zy (us:=us) aa;have ah:V _:=λnv=>sN (v:=nv) au.o.1 aa;have ca:V _:=B4 _ cI.1 cI.2;have aF:V _:=λq am=>bX (fld _ q) (by rw[<-rB _ am];exact gY (by rw[iz];exact am));obtain⟨rfl,_⟩:=a6.o.va.va xaa;generalize di:us++vs.drop i=bx at a6 ae ak ah;generalize cG:vs.getD i _=v at be F ae ak ca aF;have aS:V _:=a6.o.chg (ez 0 0 _ (fB v.op v.len v.a v.b v.c v.k)).chg;have an:V _:=i5 wr v;exact qgx
  obtain rfl:i=T:=xaa;have bZ:V _:=a6.o;rw[List.drop_of_length_le (hR HL.o.1),List.append_nil]at bZ;obtain⟨_,bd,aL,aJ,_,_,_⟩:=a6.o.ob;obtain⟨_,aT,ao,aG,bF,a9,ba⟩:=a6.o.rb;clear a6;go_wp2_with fail;obtain⟨bb,aM,aQ⟩:=eZ _ _ _ _ _ aT ao aG (.slice a1 n1 d1) (.slice Y i d2) (.slice a3 n3 d3);exact yaz (v:=eV a1 n1 d1 Y i d2 a3 n3 d3) (by simp[results,results78,go_sem,bb,aM,aQ]) rfl (GVo.ret bZ.o.kp xaa bZ.o.rb (bZ.o.gs HL.o.2.2 au.o.1 HL.o.2.1 au.o.2.2) (FW.ok cd.o (by rw[au.o.1,HL.o.1]) au.o.2.1))):Zp:=h
theorem cC.qei(h:Zp:=by
 have HL:V (vs.length=T/\outs.length=n3/\ins.length=n1):=⟨cu,cH,cK⟩
 have cd:V _:=bN;have bc:V _:=Ma (c1:=c1) (c2:=c2) (c3:=c3) f cc ce cS;have aI:V _:=f;obtain⟨_,a8,aV,p2⟩:=(ft w (.slice O n1 c1) (.slice ax T c2) (.slice Z n3 c3)).keep (ez 0 0 _ fj);clear f bN ck cz cA aD cu cH cK;go_enter func78,ntmps78;exact qci):Zp:=h
theorem cC.qgy(h:Zp:=by
 clear di cG bX cI a6 au;obtain⟨bb,aM,aQ,bY,cg,cn⟩:=be;go_wp2_with fail;refine yaj (ca.o _) ?_;rintro e I ⟨rfl,rfl⟩;clear bb aM aQ bY cg cn a8 aV p2;obtain⟨l,aK⟩:∃l,l=wr.heap.size:=⟨_,rfl⟩
 rw[<-aK]at an cM;have d5:b4+1<=l:=xaa;generalize wr.alloc _=cq at aS an cM⊢;rw[<-aK];clear aK;go_upto_region 10 with fail;go_loopw [7,8,9] (λb7 a x W=>∃(q:Nat) (dv:Bool),q<=3/\b7=.bool dv/\x=hD q/\V (AW W cq.heap.size a q)/\V (Kept 0 0 cq W)) (λ_ _ x _=>3-(intOf x).toNat)
 case atStart=>exact⟨0,_,by omega,rfl,rfl,⟨[],rfl,AR.nil _ _ _⟩,Kept.refl _ _ _⟩
 case round=>
  obtain⟨q,dv,am,rfl,rfl,aU,r⟩:=hrel;have H:V _:=aS.o.chg r.o.chg;have ea:=r.o.size;have c9:=cM.o;have ag:V _:=an.o.keep cM.o r.o yaa;obtain⟨aT,ao,aG,Q,cf,bv⟩:=ag.o;simp only[Nat.zero_add]at ao aG Q cf bv;obtain⟨_,bm,ay,aW,_,_,_⟩:=H.o.ob;have ad:=f9 v.op;by_cases cx:q<3
  ·by_cases aX:q<cnt v.op
   ·have af:=aF.o q aX;have tq:q<(cnt v.op:Int):=xaa;obtain⟨o,al⟩:∃o:Nat,fld v q=o:=⟨(fld v q).toNat,by omega⟩
    have bn:V _:=λW=>lW W v q xaa;rw[al]at bn af;have C:o<T:=xaa;have ar:=(H.o.va.va xaa).2.at_ o C;have aO:V _:=Kb.at_ ae.o.1 o;generalize bx.getD o _=c at ar aO;have bu:V (N14 _ b4 _ _ _ _ v c):=⟨ay,ag.o,ar⟩
    have bi:V (b4<wr.heap.size/\l<wr.heap.size/\t<wr.heap.size):=⟨by omega,by omega,by omega⟩
    clear af;obtain⟨u0,u1,u2,u3,u4,u5⟩:=ar;go_upto_region 14 with fail;go_cut [11] (λen cl=>∃X:Nat,en=hB X/\V (At cl X 0 c/\X<cl.heap.size)/\V (Kept 0 0 wr cl))
    case first=>
     clear aU ag bm aW;have cw:t≠wr.heap.size:=xaa;have dg:b4≠wr.heap.size:=xaa;have dp:l≠wr.heap.size:=xaa
     go_region_held3 (λW:World=>W.cell? ⟨b4,1,none⟩=some (hC t T d2)/\W.cell? ⟨l,0,none⟩=some (hD v.op)/\W.cell? ⟨l,1,none⟩=some (hD v.len)/\W.cell? ⟨l,2,none⟩=some (hD v.a)/\W.cell? ⟨l,3,none⟩=some (hD v.b)/\W.cell? ⟨l,4,none⟩=some (hD v.c)/\W.cell? ⟨l,5,none⟩=some (.float .f64 v.k)/\W.cell? ⟨t,o*6,none⟩=some (hD c.op)/\W.cell? ⟨t,o*6+1,none⟩=some (hD c.len)/\W.cell? ⟨t,o*6+2,none⟩=some (hD c.a)/\W.cell? ⟨t,o*6+3,none⟩=some (hD c.b)/\W.cell? ⟨t,o*6+4,none⟩=some (hD c.c)/\W.cell? ⟨t,o*6+5,none⟩=some (.float .f64 c.k)) (first|go_keep|(exact⟨(I7 _ _ c 1 (Ne.symm dg)).trans b9,(b1.o 0).trans aT,(b1.o 1).trans ao,(b1.o 2).trans aG,(b1.o 3).trans Q,(b1.o 4).trans cf,(b1.o 5).trans bv,(bD.o _).trans u0,(bD.o _).trans u1,(bD.o _).trans u2,(bD.o _).trans u3,(bD.o _).trans u4,(bD.o _).trans u5⟩))
      (first
       |(go_at_call 49;refine yaj (bn.o ((wr.alloc (fB 0 0 0 0 0 0)).drew)) ?_;rintro e br ⟨rfl,bS⟩;have s:=Kept.trans ((ez 0 0 _ _).trans (eF _)) bS;obtain⟨b9,⟨aT,ao,aG,Q,cf,bv⟩,⟨u0,u1,u2,u3,u4,u5⟩⟩:=bu.o.keep s bi.o.1 bi.o.2.1 bi.o.2.2;simp only[Nat.zero_add]at ao aG Q cf bv;have fq:wr.heap.size<br.heap.size:=(by have:=bS.size;simp at this;omega);have b1:V _:=λo=>I7 br _ c o (Ne.symm dp);have bD:V _:=λo=>I7 br _ c o (Ne.symm cw);obtain⟨cW,eg⟩:=PR _ _ ((eF _).trans bS);obtain⟨bC,aN,a2,bk,bq,co⟩:=id cW;simp only[Nat.zero_add]at aN a2 bk bq co)
       |(go_at_call 49;refine yaj (bn.o _) ?_;rintro e br ⟨rfl,bS⟩;have s:=Kept.trans (eF _) bS;obtain⟨b9,⟨aT,ao,aG,Q,cf,bv⟩,⟨u0,u1,u2,u3,u4,u5⟩⟩:=bu.o.keep s bi.o.1 bi.o.2.1 bi.o.2.2;simp only[Nat.zero_add]at ao aG Q cf bv;have av:b4≠br.heap.size:=(hN s.size bi.o);have d4:l≠br.heap.size:=(hN s.size bi.o);have d0:t≠br.heap.size:=(hN s.size bi.o)))
     ·go_wp2_with fail;go_meet;exact⟨_,rfl,⟨i5 _ c,by simp⟩,s.trans (ez 0 0 _ _)⟩
     go_wp2_with fail;go_meet;exact⟨_,rfl,⟨BN _ _ 0 _ c cW,yak fq (kY _ _ 0 c).size⟩,s.new (kY _ _ 0 c) yad⟩
    case rest=>
     clear aT ao aG Q cf bv u0 u1 u2 u3 u4 u5 bm ay aW bn bu bi;obtain⟨X,rfl,a5,bM⟩:=hcut;obtain⟨bf,aP,aY,bW,b3,b2⟩:=a5.o.1;simp only[Nat.zero_add]at aP aY bW b3 b2;have bh:V _:=λW=>oM W ⟨1,c.len,0,0,0,c.k⟩ aO.o _ _ _ _ _ _ (Cl.nil _) (Cl.nil _) (Cl.nil _) (λq am=>by cases am);cases dv
     all_goals
      go_wp2_with fail
      refine yaj (bh.o _) ?_
      rintro e br ⟨u,rfl,aH,bS⟩
      have s:=Kept.trans bM.o bS
      obtain⟨cj,cJ,c5,cU,rfl,_⟩:=id aH
      have aw:V (AW _ _ _ _/\Cn _ _ _ _/\Kept 0 0 _ _):=⟨by obtain⟨ai,B,J⟩:=aU.o;exact⟨_,B,J.keep s⟩,aH,Kept.trans r.o s⟩
      have cb:V (∀g,_->g<wc.heap.size):=λg e=>yak (aU.o.blk e).2 bM.o.size
      clear bf aP aY bW b3 b2 bh bS s aH
      go_wp2_with (at_builtin;refine oY aw.o.1 aw.o.2.2 aw.o.2.1 cb.o cx rfl _ _ rfl rfl rfl ?_;intro g9 cap9 bg bp cB)
      have U:V _:=hE bp cB
      clear bp cB
      go_wp2
      go_roundw;exact⟨q+1,_,by omega,rfl,by go_num,U.o.1,U.o.2⟩;simp[intOf];omega
   have tq:¬(q<(cnt v.op:Int)):=xaa;have aw:V _:=aU.o;go_wp2_with (at_builtin;refine oY aw.o r.o (Cn.nil _ _) (λg e=>(AW.blk aw.o e).2) cx rfl _ _ rfl rfl rfl ?_;intro g9 cap9 bg bp cB);have U:V _:=hE bp cB;clear bp cB aT ao aG Q cf bv;go_wp2;go_roundw;exact⟨q+1,_,by omega,rfl,by go_num,U.o.1,U.o.2⟩;simp[intOf];omega
  obtain rfl:q=3:=xaa;have bz:V _:=H.o;rw[ak.o]at bz;cases dv
  ·clear aU r aT ao aG Q cf bv bm ay aW;go_wp2;go_roundw;exact⟨i+1,us++[v],by omega,by go_num,F.o v ae.o.2 (.inl rfl),bz⟩;simp[intOf];omega
  obtain⟨ai,_,bJ⟩:=aU.o;obtain⟨ab,dd,rfl,cQ,bl,cP⟩:=AR.cell bJ xaa;obtain⟨bI,bb,a8,cy,bG,_⟩:=cP 0 xaa;obtain⟨bB,aM,aV,bA,f1,_⟩:=cP 1 xaa;obtain⟨bE,aQ,p2,ap,f2,_⟩:=cP 2 xaa;have HE:V _:=λm=>PP ae.o.2 (bG.keep (eK 0 0 _ m)) (f1.keep (eK 0 0 _ m)) (f2.keep (eK 0 0 _ m));have aq:V (∀W,Kept 0 0 _ W->At W _ 0 v/\W.cell? _=some _/\W.cell? _=some _/\W.cell? _=some _):=λW k=>⟨ag.o.keep xaa k yaa,iF k bl cy,iF k bl bA,iF k bl ap⟩
  clear cP cQ bG f1 f2 aU bm ay aW bJ;go_wp2_with fail
  go_region_held3 (λI=>I.cell? ⟨l,0,none⟩=some (hD v.op)/\I.cell? ⟨l,1,none⟩=some (hD v.len)/\I.cell? ⟨l,2,none⟩=some (hD v.a)/\I.cell? ⟨l,3,none⟩=some (hD v.b)/\I.cell? ⟨l,4,none⟩=some (hD v.c)/\I.cell? ⟨l,5,none⟩=some (.float .f64 v.k)/\I.cell? ⟨ab,0,none⟩=some (.slice bI bb a8)/\I.cell? ⟨ab,1,none⟩=some (.slice bB aM aV)/\I.cell? ⟨ab,2,none⟩=some (.slice bE aQ p2)) (go_keep)
   ((go_at_call 50;refine yaj (HE.o _) ?_;rintro e br ⟨cj,cJ,c5,cU,rfl,c8,_,G,bS⟩;obtain⟨⟨b9,bK,cr,c7,cN,cT⟩,cV,cX,c6⟩:=aq.o _ (Kept.trans (eK 0 0 _ 1) bS);simp only[Nat.zero_add]at bK cr c7 cN cT))
  have aZ:V _:=E5 (c:=c5) G c8;have S:V _:=G;have cC:V _:=Kept.trans (eK 0 0 _ 1) bS;clear G bS b9 bK cr c7 cN cT cV cX c6 aT ao aG Q cf bv cy bA ap HE;go_wp2_with fail;refine yaj aZ.o ?_;rintro e ci ⟨⟨cR,rfl,bR⟩,bU⟩;have cO:V _:=cC.o.trans bU;cases cR
  ·clear bU;go_wp2;go_roundw;exact⟨i+1,us++[v],by omega,by go_num,F.o v ae.o.2 (.inl rfl),bz.o.chg cO.o.chg⟩;simp[intOf];omega
  have b8:=bR rfl;have bH:V _:=fR S.o.lt 0;obtain⟨ge,ds,rfl,b0,_,b5,a0⟩:=S.o.at_.resolve_left xaa;have cD:=iF bU b5 (a0 0 b8);rw[Nat.add_zero]at cD;have cF:t≠b4:=xaa;have bP:t≠l:=xaa;have bw:t≠ge:=by have:wr.heap.size<=ge:=b0;omega
  have aj:=H.o.chg cO.o.chg;obtain⟨bI,bB,bE,b6,ct,bo⟩:=(aq.o _ cO.o).1;simp only[Nat.zero_add]at bB bE b6 ct bo;obtain⟨_,a8,aV,p2,_,_,_⟩:=aj.ob;have aA:=(aj.va.va xaa).2;obtain⟨bf,aP,aY,bW,b3,b2⟩:=aA.at_ i aC;have ch:=aA.free;have bV:V _:=aj.put hL aC ⟨1,v.len,0,0,0,cU.getD 0 0⟩;rw[ah.o]at bV;generalize cU.getD 0 0=bC at cD bV bH;generalize bx.getD i _=bQ at bf aP aY bW b3 b2;clear b0 b5 a0 bR S aZ aA bU aj;go_wp2_with fail;go_region_held3 (λW:World=>W.cell? ⟨b4,1,none⟩=some (hC t T d2)/\W.cell? ⟨l,1,none⟩=some (hD v.len)/\W.cell? ⟨ge,ds,none⟩=some (.float .f64 bC)) (first|go_keep|(exact⟨(iO ci t (i*6) _ _ ⟨1,v.len,0,0,0,bC⟩ (.inl cF)).trans aV,(iO ci t (i*6) _ _ ⟨1,v.len,0,0,0,bC⟩ (.inl bP)).trans bB,(iO ci t (i*6) _ _ ⟨1,v.len,0,0,0,bC⟩ (.inl bw)).trans cD⟩)) (fail);clear bI bB bE b6 ct bo a8 aV p2 bf aP aY bW b3 b2 ch cD;go_wp2;go_roundw;exact⟨i+1,us++[_],by omega,by go_num,F.o ⟨1,v.len,0,0,0,bC⟩ bH.o (.inr ⟨bC,rfl⟩),bV.o.chg (eF _).chg⟩;simp[intOf];omega):Zp:=h
open cC in
theorem OJ(f:GS w O n1 ax T Z n3 ins vs outs)(bN:okG ins vs outs=true):
  Calls prog 78 #[eV O n1 c1 ax T c2 Z n3 c3] w (GVo w n1 n3 ins):=by
 obtain⟨⟨ck,cz,cA⟩,_,aD,_,_⟩:=fW bN;exact qeh
end
section
attribute[local go_sem] eG eE eD
variable{w W:World}{a1 Y a3 O ax Z bU:Option Addr}{n1 c1 T c2 n3 c3 d1 d2 d3 m cp lo hi:Nat}{ins outs X s:List Int}{vs us:List Vl}{p:Int}
theorem PS(f:GS w O n1 ax T Z n3 ins vs outs)(bN:okG ins vs outs=true):Calls prog 77 #[eV O n1 c1 ax T c2 Z n3 c3] w (GVo w n1 n3 ins):=
 (Nr w O ax Z n1 c1 T c2 n3 c3 ins vs outs f bN).mono λ_ _ ⟨aL,e1,aJ,b2,e2,bS,af,us',B,J,h3,a0⟩=>⟨aL,e1,aJ,b2,e2,bS,af,us',_,B,J,by rw[h3.okG];exact yB bN,a0⟩
theorem bJ.qbs(h:Zp:=by
 have bu:V _:=bw;clear aw bw f bN;rcases (by omega:p=0\/p=2\/p=1\/p=3\/p=4) with rfl|rfl|rfl|rfl|rfl
 all_goals
  go_enter func47,ntmps47
  go_wp2_with fail
  refine yaj (by first|with_reducible exact PS aI.o.1 aI.o.2|with_reducible exact OJ aI.o.1 aI.o.2|with_reducible exact LL xab aI.o.1 aI.o.2) ?_
  rintro e ag ⟨a1,d1,Y,b2,d2,a3,d3,us,s,rfl,ap,ce,ah⟩
  have U:V _:=GVo.ret (d1:=d1) (d2:=d2) (d3:=d3) (HK.o.trans ah) (Nat.le_succ _) (RB.keep bu.o ah) ap ce
  obtain⟨_,bd,aL,aJ,bG,f1,f2⟩:=RB.keep bu.o ah
  obtain⟨bb,aM,aQ⟩:=eZ _ _ _ _ _ bd aL aJ (.slice a1 n1 d1) (.slice Y b2 d2) (.slice a3 n3 d3)
  clear ap ce ah
  go_wp2_with fail
  exact yaz (v:=eV a1 n1 d1 Y b2 d2 a3 n3 d3) (by simp[results,results47,go_sem,bb,aM,aQ]) rfl U.o):Zp:=h
open bJ in
theorem OK(f:GS w O n1 ax T Z n3 ins vs outs)(bN:okG ins vs outs=true)(aK:0<=p/\p<5):
  Calls prog 47 #[eV O n1 c1 ax T c2 Z n3 c3,hD p] w (GVo w n1 n3 ins):=by
 have aw:=(ez 0 0 w (eW O n1 c1 ax T c2 Z n3 c3)).trans (ez 0 0 _ fj);have aI:V _:=hE (f.keep aw) bN;have HK:V _:=aw;exact qbr
theorem As(w lo hi a m cp X)(f:IS w lo hi a m X)(aq:m<=50):
  Calls prog 17 #[.slice a m cp] w λe I=>(∃r:Int,e=.returned (hD r)/\(decide (0<=r))=!(X.all (fJ · 5)))/\Kept 0 0 w I:=by
 have HL:V _:=f.len;have aI:V _:=f;clear f;go_enter func17,ntmps17;go_wp2_with fail;go_loopw [3] (λx W=>∃k:Nat,k<=m/\x=hD k/\V ((X.take k).all (fJ · 5)=true)/\V (Kept 0 0 w W)) (λx _=>m-(intOf x).toNat)
 case atStart=>exact⟨0,yae,rfl,rfl,Kept.refl _ _ _⟩
 case round=>
  obtain⟨k,N,rfl,aU,aw⟩:=hrel;by_cases aC:k<m
  ·have aa:k<X.length:=by rw[HL.o];exact aC
   obtain⟨g,off,ai,rfl,cP,_,_,cT⟩:=(IS.keep aI.o aw.o yaa).at_idx (o:=k) xaa xaa;obtain rfl:k=ai:=xaa;rw[Int.toNat_natCast]at cT
   have R1:V (fJ (X.getD k 0) 5=true->(X.take _).all _=true):=λt=>by
    exact xfw
   have eb:V (fJ _ 5=false->X.all (fJ · 5)=false):=λt=>by
    refine List.all_eq_false.2 ⟨_,gY aa,by rw[t];simp⟩
   generalize X.getD k 0=p at cT R1 eb;clear aU;by_cases hn:p<0
   ·exact xgf
   by_cases a0:4<p
   ·exact xgf
   have U:V _:=R1.o (decide_eq_true xaa);clear eb R1;go_wp2;go_roundw;exact⟨k+1,by omega,by go_num,U,aw⟩;simp[intOf];omega
  obtain rfl:k=m:=xaa
  have U:V (X.all (fJ · 5)=true):=by
   exact xfj
  clear aU;go_wp2;go_ret;exact⟨⟨_,rfl,hS U.o⟩,aw.o⟩
structure LA(W w:World)(O R:Nat)(a1:Option Addr)(n1 d1:Nat)(a2:Option Addr)(n2 d2:Nat)(a3:Option Addr)(n3 d3:Nat)(ins:List Int)(us:List Vl)(os:List Int):Prop where
 ob:RB W O (.slice a1 n1 d1) (.slice a2 n2 d2) (.slice a3 n3 d3)
 res:RB W R (.slice none 0 0) (.slice none 0 0) (.slice none 0 0)
 gs:GS W a1 n1 a2 n2 a3 n3 ins us os
 ok:okG ins us os=true
 ke:Kept 0 0 w W
theorem LA.put{b4 U u0 u1 u2 H m1 b2 bc e1 e2}(aP:RB W b4 (.slice u0 H bc) (.slice u1 m1 e1) (.slice u2 b2 e2))(e:RB W U (.slice none 0 0) (.slice none 0 0) (.slice none 0 0))(g:GS W a1 n1 Y T a3 n3 ins us s)(l:okG ins us s=true)(c:Kept 0 0 w W)(al:w.heap.size<=b4)(C:b4≠U):
  LA (((W.setCell ⟨b4,0,none⟩ (.slice a1 n1 d1)).setCell ⟨b4,1,none⟩ (.slice Y T d2)).setCell ⟨b4,2,none⟩ (.slice a3 n3 d3)) w b4 U a1 n1 d1 Y T d2 a3 n3 d3 ins us s:=by
 obtain⟨bb,aM,aQ⟩:=eZ W b4 _ _ _ aP.q0 aP.q1 aP.q2 (.slice a1 n1 d1) (.slice Y T d2) (.slice a3 n3 d3);have K:=fg W b4 (.slice a1 n1 d1) (.slice Y T d2) (.slice a3 n3 d3);exact⟨⟨yak aP.sz K.size,bb,aM,aQ,by simp[aP.f0],by simp[aP.f1],by simp[aP.f2]⟩,e.keepC (K.chg1 (S:=λb=>b=b4) rfl) (Ne.symm C),g.put3 aP _ _ _,l,c.new K al⟩
theorem PT(f:GS w O n1 ax T Z n3 ins vs outs)(bN:okG ins vs outs=true)(aK:IS w lo hi bU m X)(aq:m<=50)(z:X.all (fJ · 5)=true):
  Calls prog 18 #[eV O n1 c1 ax T c2 Z n3 c3,.slice bU m cp] w (GVo w n1 n3 ins):=by
 obtain⟨⟨ck,cz,cA⟩,_,_,_,_⟩:=fW bN;have cu:=f.v.len;have cH:=f.o.len;have cK:=f.i.len;have b4:V (∀k,k<m->_):=λk N=>of_decide_eq_true (List.all_eq_true.1 z _ (gY (hO aK.len N)));have aw:=(ez 0 0 w (eW O n1 c1 ax T c2 Z n3 c3)).trans (ez 0 0 _ fj);have bc:V _:=qV _ _ _ _ _ c1 _ c2 _ c3 _ _ _ (f.keep aw) xaa xaa xaa;have aX:V _:=hE f bN;have av:V _:=aK;have aS:=(rL w (.slice O n1 c1) (.slice ax T c2) (.slice Z n3 c3)).keep (ez 0 0 _ fj);have C:=fF (w.alloc (eW O n1 c1 ax T c2 Z n3 c3));rw[show(w.alloc _).heap.size=w.heap.size+1 by simp]at C;have aA:V _:=hE aS C;have HK:V _:=aw;clear f bN ck cz cA cu cH cK C aK z aw;obtain⟨_,a8,aV,p2,_,_,_⟩:=aS;go_enter func18,ntmps18;go_wp2_with fail;clear a8 aV p2;generalize (w.alloc _).alloc _=ag at aA HK bc⊢;refine yaj bc.o ?_;rintro e a7 ⟨a1,d1,Y,d2,a3,d3,rfl,ch,bO,a5,_,aF⟩;obtain⟨t,au,_⟩:=GQ bO aX.o.1.v.len 0;have b7:V _:=aA.o.1.keep aF;have h:V _:=LA.put (d1:=d1) (d2:=d2) (d3:=d3) b7.o (aA.o.2.keep aF) ⟨pX ch aX.o.1.i.len,au.vs aX.o.1.v.len aX.o.1.v.lt,pX a5 aX.o.1.o.len⟩ aX.o.2 (HK.o.trans aF) yad xaa;obtain⟨_,a8,aV,p2,bG,f1,f2⟩:=b7.o;clear ch bO a5 au aF bc aA HK aX;go_upto_region 3 with fail;clear a8 aV p2 bG f1 f2 b7;generalize ((a7.setCell _ _).setCell _ _).setCell _ _=bj at h⊢;go_loopw [5] (λx W=>∃(k:Nat) (a1:Option Addr) (d1:Nat) (Y:Option Addr) (T d2:Nat) (a3:Option Addr) (d3:Nat) (us:List Vl) (s:List Int),k<=m/\x=hD k/\V (LA W w w.heap.size (w.heap.size+1) a1 n1 d1 Y T d2 a3 n3 d3 ins us s)) (λx _=>m-(intOf x).toNat)
 case atStart=>exact⟨0,_,_,_,_,_,_,_,_,_,yae,rfl,h⟩
 case round=>
  clear h;obtain⟨k,a1,d1,Y,T,d2,a3,d3,us,s,N,rfl,a6⟩:=hrel;obtain⟨_,a8,aV,p2,bG,f1,f2⟩:=a6.o.ob;by_cases aC:k<m
  ·obtain⟨c6,op,ai,rfl,cP,_,_,b8⟩:=(IS.keep av.o a6.o.ke yaa).at_idx (o:=k) xaa xaa;obtain rfl:k=ai:=xaa;rw[Int.toNat_natCast]at b8;have bc:V _:=OK (c1:=d1) (c2:=d2) (c3:=d3) (a6.o.gs.keep (eF _)) a6.o.ok (b4.o k aC);have co:V (∀W,Kept 0 0 _ W->_/\_/\_):=λW l=>⟨a6.o.ob.keep l,a6.o.res.keep l,a6.o.ke.trans l⟩
   generalize X.getD k 0=p at b8 bc;clear a6;go_wp2_with fail;go_region_with ((go_at_call 47;refine yaj bc.o ?_;rintro e b5 ⟨aL,e1,aJ,b2,e2,bS,af,us',r,rfl,aN,a2,bk⟩;obtain⟨j,g,c⟩:=co.o _ ((eF _).trans bk);have U:V _:=LA.put (d1:=e1) (d2:=e2) (d3:=af) j g aN a2 c yad xaa;obtain⟨_,b9,bK,cr,ae,B,J⟩:=j;clear aN a2 bk g c))
   all_goals
    go_wp2
    go_roundw;exact⟨k+1,aL,e1,aJ,b2,e2,bS,af,us',r,by omega,by go_num,U⟩;simp[intOf];omega
  obtain rfl:k=m:=xaa;have q:V _:=a6.o;obtain⟨_,aT,ao,aG,bF,a9,ba⟩:=a6.o.res;clear a6;go_wp2_with fail;obtain⟨bb,aM,aQ⟩:=eZ _ _ _ _ _ aT ao aG (.slice a1 n1 d1) (.slice Y T d2) (.slice a3 n3 d3);exact yaz (v:=eV a1 n1 d1 Y T d2 a3 n3 d3) (by simp[results,results18,go_sem,bb,aM,aQ]) rfl (GVo.ret q.o.ke xaa q.o.res q.o.gs q.o.ok)
def SOd(w:World)(b:Prop)(e:Ending)(w':World):Prop:=
 ∃a1 m1 d1 a2 m2 d2 a3 m3 d3,∃c:Int,e=.returned (.tuple #[eV a1 m1 d1 a2 m2 d2 a3 m3 d3,.int .i64 c])/\(c=0↔b)/\Kept 0 0 w w'
theorem SOd.ret{b P c}(k:Kept 0 0 w W)(hP:w.heap.size<=P)(h:c=0↔b)(x y z):SOd w b (.returned (.tuple #[eV a1 n1 d1 Y T d2 a3 n3 d3,hD c])) (((W.setCell ⟨P,0,none⟩ x).setCell ⟨P,1,none⟩ y).setCell ⟨P,2,none⟩ z):=
 ⟨_,_,_,_,_,_,_,_,_,c,rfl,h,k.new (fg W P _ _ _) hP⟩
theorem bK.qbs(h:Zp:=by
 have bu:V _:=bw;have aA:V _:=(ft w (.slice O n1 c1) (.slice ax T c2) (.slice Z n3 c3)).keep (ez 0 0 _ fj);clear aw f bw aK;go_enter func5,ntmps5;go_wp2_with fail;refine yaj bn.o ?_;rintro e aO ⟨rfl,aj⟩;have bY:V _:=Kept.trans HK.o aj;have q:V _:=RB.keep bu.o aj;have aS:V _:=G0.keep aA.o aj;clear HK bu aA aj bn;cases aR:okG ins vs outs
 ·obtain⟨_,bd,aL,aJ,bG,f1,f2⟩:=q.o;obtain⟨bb,aM,aQ⟩:=eZ _ _ _ _ _ bd aL aJ (.slice none 0 0) (.slice none 0 0) (.slice none 0 0);go_wp2_with fail;exact yaz (v:=.tuple #[OY,hD 1]) (by simp[results,results5,go_sem,bb,aM,aQ]) rfl (SOd.ret bY.o xaa (by rw[aR];simp) _ _ _)
 go_wp2_with fail;refine yaj (bW.o _ bY.o) ?_;rintro e ag ⟨⟨r,rfl,av⟩,ah⟩;have bD:V _:=Kept.trans bY.o ah;have bi:V _:=RB.keep q.o ah;have y:V _:=G0.keep aS.o ah;obtain⟨_,bd,aL,aJ,bG,f1,f2⟩:=bi.o;clear bY q aS ah;cases bz:X.all (fJ · 5)
 ·rw[bz]at av;have B:=of_decide_eq_true av;obtain⟨bb,aM,aQ⟩:=eZ _ _ _ _ _ bd aL aJ (.slice none 0 0) (.slice none 0 0) (.slice none 0 0);clear av;go_wp2_with fail;exact yaz (v:=.tuple #[OY,hD 6]) (by simp[results,results5,go_sem,bb,aM,aQ]) rfl (SOd.ret bD.o xaa (by rw[bz];simp) _ _ _)
 rw[bz]at av;have B:=of_decide_eq_false av;obtain⟨_,a8,aV,p2⟩:=y.o;clear av;go_wp2_with fail;refine yaj (bV.o _ bD.o aR bz) ?_;rintro e a7 ⟨a1,d1,Y,b2,d2,a3,d3,us,s,rfl,_,_,aF⟩;have bR:V _:=bD.o.trans aF;obtain⟨_,bd,aL,aJ,bG,f1,f2⟩:=RB.keep bi.o aF;obtain⟨bb,aM,aQ⟩:=eZ _ _ _ _ _ bd aL aJ (.slice a1 n1 d1) (.slice Y b2 d2) (.slice a3 n3 d3);clear aF a8 aV p2;go_wp2_with fail;exact yaz (v:=.tuple #[eV a1 n1 d1 Y b2 d2 a3 n3 d3,hD 0]) (by simp[results,results5,go_sem,bb,aM,aQ]) rfl (SOd.ret bR.o xaa (by rw[aR,bz];simp) _ _ _)):Zp:=h
open bK in
theorem I8(w O ax Z n1 c1 T c2 n3 c3 bU m cp ins vs outs)(f:GS w O n1 ax T Z n3 ins vs outs)(lo hi X)(aK:IS w lo hi bU m X)(aq:m<=50):
  Calls prog 5 #[eV O n1 c1 ax T c2 Z n3 c3,.slice bU m cp] w (SOd w (okG ins vs outs=true/\X.all (fJ · 5)=true)):=by
 have bv:¬50<(m:Int):=xaa;have bW:V (∀W,Kept 0 0 w W->_):=λW l=>As W _ _ _ m cp _ (aK.keep l yaa) aq;have bV:V (∀W,Kept 0 0 w W->okG _ _ _=true->X.all _=true->_):=λW l h bz=>PT (c1:=c1) (c2:=c2) (c3:=c3) (cp:=cp) (f.keep l) h (aK.keep l yaa) aq bz;have aw:=(ez 0 0 w (eW O n1 c1 ax T c2 Z n3 c3)).trans (ez 0 0 _ fj);have bn:V _:=vG _ _ _ _ _ c1 _ c2 _ c3 _ _ _ (f.keep aw);have HK:V _:=aw;exact qbr
