import Derived.Test.YtkjahdegnkmejaaGreatP35
namespace Go.Proofs.Z
variable{Zp:Prop}
open Tryz
set_option maxRecDepth 1000000
set_option maxHeartbeats 0
open Go.RowKit Flt
attribute[local go_sem] eE eC eB
variable{w0 w F aq:World}{P n cap i Q H c1 c3 Y j bA base aa c d c2 x:Nat}{a a1 a3 K:Option Addr}{bs ins outs:List Int}{S vs:List Vl}{m:Int}{v:Vl}
variable{bs:List Int}
def zu:Code->Nat
 |.region i _ _=>i
 |.seq a _=>zu a
 |.block _ c=>zu c
 |.scope c=>zu c
 |.loop c=>zu c
 |_=>0
def vm(n:Nat):Code->Option Code
 |.seq a b=>if zu b=n then some b else match vm n b with
  |some c=>some c
  |none=>vm n a
 |.block _ c=>vm n c
 |.scope c=>vm n c
 |.loop c=>vm n c
 |_=>none
def vo(n:Nat):Code->Option Code
 |.cond t a b=>match t with
  |.tmp j=>if j=n then some (.cond (.tmp j) a b)else none
  |_=>none
 |.seq a b=>match vo n b with
  |some c=>some c
  |none=>vo n a
 |.block _ c=>vo n c
 |.scope c=>vo n c
 |.loop c=>vo n c
 |_=>none
noncomputable def Qg:Code:=(Tryz.f35.body.bind (vo 90)).getD .skip
noncomputable def Gu (n:Nat):Code:=(Tryz.f35.body.bind (vm n)).getD .skip
theorem Ko{P}{c:Code}{Q a}(h:c.wp P (Exit.then (λa w=>Q .normal a w) λ_ _ _=>False) a w):c.wp P Q a w:=by
 exact xjd
theorem aK.qbc(h:Zp:=by
 have hb:=jd f1.bx aX (λc=>(f.nr _ (.inr (.inl c))).2 rfl);have al:Kept Q _ _ (fk an Q (.slice a1 Y c1) _ (.slice a3 aa c3)):=fy _ Q _ (ia aI (vs.length+1) cap') _;have B:=k.size;have N:=aX.size;refine⟨_,_,rfl,hb,f1.vals aX bi xac az J al (oN hb _ _ _),?_,λo=>?_,yao B (yao N al.size)⟩
 ·rcases az with c|c
  ·intro e;exact aS.2.2 (e ▸ c)
  omega
 rw[al.cell (by show bA<_;omega) (by show ¬(Q<=bA/\bA<Q+1);omega),aX.cell (by show bA<_;omega) aS.2.2,k.cell aS.1 xaa]):Zp:=h
open aK in
theorem Dy.putK{W}(f:Dy w0 W P a n cap i bs H Q (.slice a1 Y c1) (.slice K vs.length c2) (.slice a3 aa c3) ins vs outs)(k:Kept 0 0 W aq)(v)(aL:v.k<18446744073709551616)(hn:vs.length<=100000)(aS:bA<W.heap.size/\bA≠Q/\(Value.slice K vs.length c2).ownBlock≠some bA):
  Calls prog 59 #[eX a1 Y c1 K vs.length c2 a3 aa c3,v.agg] aq λe an=>∃aI cap',e=.returned (eX a1 Y c1 (some ⟨aI,0,none⟩) (vs.length+1) cap' a3 aa c3)/\RB an Q (.slice a1 Y c1) (.slice K vs.length c2) (.slice a3 aa c3)/\(Dy w0 (fk an Q (.slice a1 Y c1) (ia aI (vs.length+1) cap') (.slice a3 aa c3)) P a n cap i bs H Q (.slice a1 Y c1) (ia aI (vs.length+1) cap') (.slice a3 aa c3) ins (vs++[v]) outs/\aI≠bA/\(∀o,(fk an Q (.slice a1 Y c1) (ia aI (vs.length+1) cap') (.slice a3 aa c3)).cell? ⟨bA,o,none⟩=W.cell? ⟨bA,o,none⟩)/\W.heap.size<=(fk an Q (.slice a1 Y c1) (ia aI (vs.length+1) cap') (.slice a3 aa c3)).heap.size):=by
 exact qeq
theorem zv{P:World->Prop}{W}(h:∀F,F=W->P F):P W:=h W rfl
theorem Qh{W:World}{bC bH bJ cb cO b m r}(aS:W.heap.size=bA)(aj:bC<18446744073709551616/\fb bC=ksM 0)(B:bH<18446744073709551616/\fb bH=ksM 1)(N:bJ<18446744073709551616/\fb bJ=ksM 2)(h3:cb<18446744073709551616/\fb cb=ksM 3)(bp:cO<18446744073709551616/\fb cO=ksM 4)(bU:b<18446744073709551616/\fb b=ksM 5)(q)(am:q<6):∃x,(x<18446744073709551616/\fb x=ksM q)/\((W.alloc (.cells #[.float .f64 bC,.float .f64 bH,.float .f64 bJ,.float .f64 cb,.float .f64 cO,.float .f64 b] r)).drewN m).cell? ⟨bA,q,none⟩=some (.float .f64 x):=by
 subst aS;match q,am with
 |0,_=>exact⟨_,aj,by simp⟩
 |1,_=>exact⟨_,B,by simp⟩
 |2,_=>exact⟨_,N,by simp⟩
 |3,_=>exact⟨_,h3,by simp⟩
 |4,_=>exact⟨_,bp,by simp⟩
 |5,_=>exact⟨_,bU,by simp⟩
def C1(w:World)(P n cap i Q:Nat)(a:Option Addr)(bs:List Int)(a1:Option Addr)(c1:Nat)(a3:Option Addr)(c3:Nat)(ins outs:List Int)(S:List Vl)(a2:Option Addr)(c2:Nat)(vs:List Vl)(W:World):Prop:=
 vs.map sv=S/\Dy w W P a n cap i bs w.heap.size Q (.slice a1 ins.length c1) (.slice a2 vs.length c2) (.slice a3 outs.length c3) ins vs outs/\(Value.slice a2 vs.length c2).ownBlock≠some (Q+1)/\Q+1<W.heap.size/\∀m:Nat,m<6->∃x,(x<18446744073709551616/\fb x=ksM m)/\W.cell? ⟨Q+1,m,none⟩=some (.float .f64 x)
theorem C1.next{W a0 aI cap'}(h:C1 w P n cap i Q a bs a1 c1 a3 c3 ins outs S K c2 vs W)(e:sv v=a0)
  (br:Dy w F P a n cap i bs w.heap.size Q (.slice a1 ins.length c1) (ia aI (vs.length+1) cap') (.slice a3 outs.length c3) ins (vs++[v]) outs/\aI≠Q+1/\(∀o,F.cell? ⟨Q+1,o,none⟩=W.cell? ⟨Q+1,o,none⟩)/\W.heap.size<=F.heap.size):C1 w P n cap i Q a bs a1 c1 a3 c3 ins outs (S++[a0]) (some ⟨aI,0,none⟩) cap' (vs++[v]) F:=
 ⟨by rw[List.map_append,h.1,<-e];rfl,by rw[yal];exact br.1,λq=>br.2.1 (by simpa[Value.ownBlock] using q),yak h.2.2.2.1 br.2.2.2,λm aD=>by rw[br.2.2.1];exact h.2.2.2.2 m aD⟩
def L2(w:World)(P n cap Q:Nat)(a:Option Addr)(bs:List Int)(a1:Option Addr)(c1:Nat)(a3:Option Addr)(c3:Nat)(ins outs:List Int)(s:List Vl×Nat)(a2:Option Addr)(c2:Nat)(vs:List Vl)(W:World):Prop:=
 vs.map sv=s.1/\Dy w W P a n cap s.2 bs w.heap.size Q (.slice a1 ins.length c1) (.slice a2 vs.length c2) (.slice a3 outs.length c3) ins vs outs
theorem NW(vs:List Vl)(x):vd (vs.map sv) x=sv (vs.getD x i0):=by
 unfold vd;rw[yai,yai,List.getElem?_map];cases vs[x]?<;>rfl
theorem Po(W:World)(r){q}(am:q<5):(W.alloc (.cells #[ih 2,ih 3,ih 4,ih 5,ih 7] r)).cell? ⟨W.heap.size,q,none⟩=some (ih (([2,3,4,5,7]:List Int).getD q 0)):=by
 rw[yav];match q,am with
 |0,_|1,_|2,_|3,_|4,_=>rfl
theorem Dy.ox{W u1 u2 u3}(f:Dy w0 W P a n cap i bs H Q u1 u2 u3 ins vs outs):∀o,Dy w0 (W.alloc o) P a n cap i bs H Q u1 u2 u3 ins vs outs:=λo=>f.keep (eA 0 0 W o)
theorem Dy.grow{W}(f:Dy w0 W P a n cap i bs H Q (.slice a1 Y c1) (.slice K vs.length c2) (.slice a3 aa c3) ins vs outs)(hn:vs.length<=100000)(bI:∀k,k<vs.length->1<=(vd vs k).len/\(vd vs k).len<=1000):
  Calls prog 62 #[eX a1 Y c1 K vs.length c2 a3 aa c3,ge P] W λe an=>∃v aI cap',e=.returned (eX a1 Y c1 (some ⟨aI,0,none⟩) (vs.length+1) cap' a3 aa c3)/\sv v=(gwM ins vs bs i).1/\RB an Q (.slice a1 Y c1) (.slice K vs.length c2) (.slice a3 aa c3)/\Dy w0 (fk an Q (.slice a1 Y c1) (ia aI (vs.length+1) cap') (.slice a3 aa c3)) P a n cap (gwM ins vs bs i).2 bs H Q (.slice a1 Y c1) (ia aI (vs.length+1) cap') (.slice a3 aa c3) ins (vs++[v]) outs:=by
 have aA:=f.p0;have am:=f.rq;have B:=f.k0.size;refine(LW f.dg f.rd aA hn bI).mono ?_;rintro e an ⟨v,aI,cap',rfl,bc,aN,au,ai,az⟩;have aZ:∀b,(Value.slice K _ _).ownBlock=some b->w0.heap.size<=b/\b≠H/\b≠Q:=λb hb=>⟨(eF f.dg.r2 hb).1,f.nr b (.inr (.inl hb))⟩
 have a5:∀b,(b=P\/(Value.slice K vs.length c2).ownBlock=some b)->b≠H/\b≠Q:=by
  rintro b (c|c)
  ·omega
  exact(aZ b c).2
 have aT:aI≠H/\aI≠Q:=by
  exact xgf
 have hb:=jd f.bx ai (λc=>(a5 _ c).2 rfl);have al:Kept Q _ an (fk _ Q (.slice a1 Y c1) (ia aI (vs.length+1) cap') (.slice a3 aa c3)):=fy _ _ _ _ _;have N:=ai.size
 have hn:∀b,(Value.slice a1 Y c1).ownBlock=some b\/(ia aI (vs.length+1) cap').ownBlock=some b\/(Value.slice a3 aa c3).ownBlock=some b->b≠H/\b≠Q:=by
  rintro b (h|h|h)
  ·exact f.nr b (.inl h)
  ·have e:b=aI:=by simpa[Value.ownBlock] using h.symm
   subst e;exact aT
  exact f.nr b (.inr (.inr h))
 have own:∀{u:Value}{xs:List _}{m e s:Nat},an.ownsRow w0.heap.size e s u m xs->(∀b,u.ownBlock=some b->b≠Q)->_:=λo h=>fJ o al λb hb=>i4 (h b hb)
 refine⟨v,_,_,rfl,bc,hb,au.keep al (.inl xaa),⟨own aN.r1 λb hb=>(hn b (.inl hb)).2,own aN.r2 λb hb=>(hn b (.inr (.inl hb))).2,own aN.r3 λb hb=>(hn b (.inr (.inr hb))).2,aN.a12,aN.a13,aN.a23,aN.k,yao aN.sz al.size⟩,oN hb _ _ _,(jd f.rs ai (λc=>(a5 _ c).1 rfl)).kept al xaa,aA,am,hn,⟨al.os.trans (ai.os.trans f.k0.os),al.tape.trans (ai.tape.trans f.k0.tape),al.output.trans (ai.output.trans f.k0.output),yao B (yao N al.size),λb hb g=>?_⟩⟩;rw[al.block b xaa xaa,ai.block b xaa (by rintro (c|c);omega;have:=(aZ b c).1;omega)];exact f.k0.block b hb g
theorem L2.of{us}(aj:vs.map sv=S)(G:us=vs++[v]/\us.length=vs.length+1)
  (br:Dy w F P a n cap j bs w.heap.size Q (.slice a1 ins.length c1) (.slice K us.length c2) (.slice a3 outs.length c3) ins us outs):L2 w P n cap Q a bs a1 c1 a3 c3 ins outs (S++[sv v],j) K c2 us F:=
 ⟨by rw[G.1,List.map_append,aj];rfl,br⟩
theorem L2.of2(aj:vs.map sv=S)
  (br:Dy w F P a n cap j bs w.heap.size Q (.slice a1 ins.length c1) (.slice K (vs.length+1) c2) (.slice a3 outs.length c3) ins (vs++[v]) outs):L2 w P n cap Q a bs a1 c1 a3 c3 ins outs (S++[sv v],j) K c2 (vs++[v]) F:=by
 have ag:(vs++[v]).length=vs.length+1:=by simp
 rw[<-ag]at br;exact L2.of aj ⟨rfl,ag⟩ br
theorem Dy.putU{W}(f:Dy w0 W P a n cap i bs H Q (.slice a1 Y c1) (.slice K vs.length c2) (.slice a3 aa c3) ins vs outs)(k:Kept 0 0 W aq)(v)(aL:v.k<18446744073709551616)(hn:vs.length<=100000):
  Calls prog 59 #[eX a1 Y c1 K vs.length c2 a3 aa c3,v.agg] aq λe an=>∃us aI cap',e=.returned (eX a1 Y c1 (some ⟨aI,0,none⟩) us.length cap' a3 aa c3)/\V (us=vs++[v]/\us.length=vs.length+1)/\RB an Q (.slice a1 Y c1) (.slice K vs.length c2) (.slice a3 aa c3)/\Dy w0 (fk an Q (.slice a1 Y c1) (ia aI us.length cap') (.slice a3 aa c3)) P a n cap i bs H Q (.slice a1 Y c1) (ia aI us.length cap') (.slice a3 aa c3) ins us outs:=by
 refine(f.put k v aL hn).mono ?_;rintro e an ⟨aI,cap',rfl,hb,aN⟩;have ag:(vs++[v]).length=vs.length+1:=by simp
 exact⟨_,_,_,by rw[ag],⟨rfl,ag⟩,hb,jn ag aN⟩
def pH(w:World)(P n cap Q:Nat)(a:Option Addr)(bs:List Int)(a1:Option Addr)(c1:Nat)(a3:Option Addr)(c3:Nat)(ins outs:List Int)(s:List Vl×Nat)(base c d x:Nat)(m:Int)(W:World):Prop:=
 ∀{Post:Act->World->Prop}{b:Bool}{e f g h i j k l o p bb bc bd q r t u v y z A B C D E F G H I J K L M N O R S T U Vaa X Y Z aa ab ad ae af ag ah ai aj ak al am an ao ap aq ar au av aw ax ay az aA aB aC aD aE aF aG aH aI aJ aK aL aM aN aO be bf bg bh bi bj bk bl bm bn bo bp bq br bt bu bv bw bx bz bA bB bC bD bE bF bG bH bI bJ bK bL bM bN bO bP bQ bR bS bT bU bV bW bX bY bZ b0 b1 b2 b3 b4 b5 b6 b7 b8 b9 ca cb cc cd ce cf cg ch ci cj ck cl cm cn co cp cq cr cs ct cu cv cw cx cy cz cA cB cC cD cE cF cG cH cI cJ cK cL aP aQ aR aS aT aU aV aW aX aY aZ a0 a4 a5 a6 a7 a8 a9 ba:Value},(b=true↔c%8=0)->(∀{cM cN cO cP cQ cR cS cT cU cV cW cX cY cZ c0 c4 c5 c6 c7 c8 c9 da db dc dd de df dg dh di dj dk dl dm dn dp dq dr ds dt du dv dw dx dy dz dA dB dC dD dE dF dG dH dI dJ dK dL dM dN dO dP dQ dR dS dT dU dV dW dX dY dZ d0 d1 d2 d3 d4 d5 d6 d7 d8 d9 ea eb ec ed ee ef eg eh ei ej ek el em en eo ep:Value}{W':World}{a2:Option Addr}{c2:Nat}{vs:List Vl},L2 w P n cap Q a bs a1 c1 a3 c3 ins outs s a2 c2 vs W'->Post ⟨#[.pointer (some ⟨P,0,none⟩),e,f,g,h,i,j,k,.pointer (some ⟨Q,0,none⟩),l,.int .i64 (base:Int),o,p,.int .i64 (c:Int),.int .i64 (d:Int),.int .i64 (x:Int),.int .i64 m,cM,cN,cO,q,r,t,u,v,y,z,A,B,C,D,E,F,G,H,I,J,K,L,M,N,O,R,S,T,U,Vaa,X,Y,Z,aa,ab,ad,ae,af,ag,ah,ai,aj,ak,al,am,an,ao,ap,aq,ar,au,av,aw,ax,ay,az,aA,aB,aC,aD,aE,aF,aG,aH,aI,aJ,aK,aL,aM,aN,aO,cP,cQ,cR,cS,cT,cU,cV,cW,cX,cY,cZ,c0,c4,c5,c6,c7,c8,c9,da,db,dc,dd,de,df,dg,dh,di,dj,dk,dl,dm,dn,dp,dq,dr,ds,dt,du,dv,dw,dx,dy,dz,dA,dB,dC,dD,dE,dF,dG,dH,dI,dJ,dK,dL,dM,dN,dO,dP,dQ,dR,dS,dT,dU,dV,dW,dX,dY,dZ,d0,d1,d2,d3,d4,d5,d6,d7,d8,d9,ea,eb,ec,ed,ee,ef,eg,eh,ei,ej,ek,el,em,en,eo,ep,aP,aQ,aR,aS,aT,aU,aV,aW,aX,aY,aZ,a0,a4,a5,a6,a7,a8,a9,ba],[]⟩ W')->Code.wp prog Qg (Exit.then Post λ_ _ _=>False) ⟨#[.pointer (some ⟨P,0,none⟩),e,f,g,h,i,j,k,.pointer (some ⟨Q,0,none⟩),l,.int .i64 (base:Int),o,p,.int .i64 (c:Int),.int .i64 (d:Int),.int .i64 (x:Int),.int .i64 m,bb,bc,bd,q,r,t,u,v,y,z,A,B,C,D,E,F,G,H,I,J,K,L,M,N,O,R,S,T,U,Vaa,X,Y,Z,aa,ab,ad,ae,af,ag,ah,ai,aj,ak,al,am,an,ao,ap,aq,ar,au,av,aw,ax,ay,az,aA,aB,aC,aD,aE,aF,aG,aH,aI,aJ,aK,aL,aM,aN,aO,be,bf,.bool b,bg,bh,bi,bj,bk,bl,bm,bn,bo,bp,bq,br,bt,bu,bv,bw,bx,bz,bA,bB,bC,bD,bE,bF,bG,bH,bI,bJ,bK,bL,bM,bN,bO,bP,bQ,bR,bS,bT,bU,bV,bW,bX,bY,bZ,b0,b1,b2,b3,b4,b5,b6,b7,b8,b9,ca,cb,cc,cd,ce,cf,cg,ch,ci,cj,ck,cl,cm,cn,co,cp,cq,cr,cs,ct,cu,cv,cw,cx,cy,cz,cA,cB,cC,cD,cE,cF,cG,cH,cI,cJ,cK,cL,aP,aQ,aR,aS,aT,aU,aV,aW,aX,aY,aZ,a0,a4,a5,a6,a7,a8,a9,ba],[]⟩ W
structure DgH(w:World)(P n cap Q:Nat)(a:Option Addr)(bs:List Int)(a1:Option Addr)(c1:Nat)(a3:Option Addr)(c3:Nat)(ins outs:List Int)(S:List Vl)(j base c d x:Nat)(m:Int)(a2:Option Addr)(c2:Nat)(vs:List Vl)(W:World):Prop where
 D:Dy w W P a n cap j bs w.heap.size Q (.slice a1 ins.length c1) (.slice a2 vs.length c2) (.slice a3 outs.length c3) ins vs outs
 hs:vs.map sv=S
 hx:x<vs.length
 hl:6<=vs.length/\vs.length<=1000
 hc:c<256/\d<256/\base<=100
 hm:(vs.getD x i0).len=m
 ln:LenS S
variable{bs:List Int}
theorem Pp{W}(h:DgH w P n cap Q a bs a1 c1 a3 c3 ins outs S j base c d x m K c2 vs W)(ai:c%8=0):pH w P n cap Q a bs a1 c1 a3 c3 ins outs (S++[eK 6 m x 0 0],j) base c d x m W:=by
 unfold pH;intros;rename_i ao hP;have b1:V _:=@hP;have HD:V _:=h.D;have HSV:V _:=h.hs;have ag:=h.hl;have J:=h.hc;obtain⟨_,bm,aW,bd,B,ap,av⟩:=HD.o.bx;obtain rfl:=ao.2 ai;clear hP ao;conv=>arg 2;whnf
 have a0:(c:Int)%8=0:=xaa;have aO:V (∀aj,Kept 0 0 W aj->_):=λaj b7=>HD.o.putU b7 (eK 6 m (x:Int) 0 0) (Nat.zero_lt_succ _) xaa;clear h;go_upto_region 24 with fail;exact xbp
variable{bs:List Int}
theorem M.qaq(h:Zp:=by
 have aH:=h.hx;obtain⟨ad,ce,aX,bB,bx,bf⟩:=gQ HD.o.dg.r2 rfl aH;have N:K=some ⟨ad,0,none⟩:=by injection aX
 subst N;have am:(x:Int)<vs.length:=xaa;clear aX bB bx;have a0:(c:Int)%8=2:=xaa;have aO:V (∀aj,Kept 0 0 W aj->_):=λaj b7=>HD.o.putU b7 (vs.getD x i0) (HD.o.dg.k _ (by rw[yai,yam aH];exact List.getElem_mem aH)) xaa;have bM:=(HD.o.keep (eA 0 0 W (.cells #[ih (vs.getD x i0).op,ih (vs.getD x i0).len,ih (vs.getD x i0).a,ih (vs.getD x i0).b,ih (vs.getD x i0).c,.float .f64 (vs.getD x i0).k] 79))).bx;have e:vd S x=sv (vs.getD x i0):=by rw[<-h.hs,NW]
 rw[e]at b1;clear e h;obtain⟨a8,aJ,aP,bw,b3,cf⟩:=bf;generalize vs.getD x i0=v at*;obtain⟨_,aU,ax,aF,_,_,_⟩:=bM;go_wp2_with (go_at_call 59;refine yaj (aO.o _ (eA 0 0 _ _)) ?_;rintro e an ⟨us,aI,cap',rfl,cH,aK,ak⟩;obtain⟨_,bo,ar,aQ,bR,bV,bW⟩:=aK);all_goals exact b1.o (L2.of HSV.o cH.o ak)):Zp:=h
open M in
theorem Pq{W}(h:DgH w P n cap Q a bs a1 c1 a3 c3 ins outs S j base c d x m K c2 vs W)(ai:c%8=2):pH w P n cap Q a bs a1 c1 a3 c3 ins outs (S++[vd S x],j) base c d x m W:=by
 exact no_implicit_lambda% qap
variable{bs:List Int}
theorem N.qaq(h:Zp:=by
 exact qdg):Zp:=h
theorem N.qdh(h:Zp:=by
 have N:(c:Int)%2=1:=xaa;have aO:V (∀aj,Kept 0 0 _ aj->_):=λaj b7=>HD.o.putU b7 (eK o 1 x ((base:Int)+d/8%6) 0) (Nat.zero_lt_succ _) xaa;go_upto_region 35 with fail;exact xbq):Zp:=h
open N in
theorem Ps{W}(h:DgH w P n cap Q a bs a1 c1 a3 c3 ins outs S j base c d x m K c2 vs W)(ai:c%8=3\/c%8=5)(aD:m=1):pH w P n cap Q a bs a1 c1 a3 c3 ins outs (S++[eK ([2,3,4,5,7].getD (c/8%5) 0) 1 x ((base+d/8%6:Nat):Int) 0],j) base c d x m W:=by
 exact no_implicit_lambda% qap
variable{bs:List Int}
theorem O.qaq(h:Zp:=by
 exact qdg):Zp:=h
theorem O.qdh(h:Zp:=by
 have N:¬(c:Int)%2=1:=xaa;have aO:V (∀aj,Kept 0 0 _ aj->_):=λaj b7=>HD.o.putU b7 (eK o 1 ((base:Int)+d/8%6) x 0) (Nat.zero_lt_succ _) xaa;go_upto_region 36 with fail;exact xbq):Zp:=h
open O in
theorem Pt{W}(h:DgH w P n cap Q a bs a1 c1 a3 c3 ins outs S j base c d x m K c2 vs W)(ai:c%8=4)(aD:m=1):pH w P n cap Q a bs a1 c1 a3 c3 ins outs (S++[eK ([2,3,4,5,7].getD (c/8%5) 0) 1 ((base+d/8%6:Nat):Int) x 0],j) base c d x m W:=by
 exact no_implicit_lambda% qap
variable{bs:List Int}
theorem P.qaq(h:Zp:=by
 have b8:V _:=HD.o.grow xaa (h.ln.of h.hs);rw[<-h.hs,F2,h.hs]at b1;have ay:¬(c:Int)%8=0:=xaa;have Y:¬(c:Int)%8=1:=xaa;have ae:¬(c:Int)%8=2:=xaa;have bk:¬(c:Int)%8=6:=xaa;clear h;rcases ai with ai|⟨ai,aD⟩
 ·have b:¬(c:Int)%8<6:=xaa;rcases Decidable.em (m=1) with rfl|aD
  all_goals
   go_wp2_with (go_at_call 62;refine yaj b8.o ?_;rintro e an ⟨v,aI,cap',rfl,bc,aK,ak⟩;obtain⟨_,bo,ar,aQ,bR,bV,bW⟩:=aK;rw[<-bc]at b1;clear bc)
   exact b1.o (L2.of2 HSV.o ak)
 go_wp2_with (go_at_call 62;refine yaj b8.o ?_;rintro e an ⟨v,aI,cap',rfl,bc,aK,ak⟩;obtain⟨_,bo,ar,aQ,bR,bV,bW⟩:=aK;rw[<-bc]at b1;clear bc);exact b1.o (L2.of2 HSV.o ak)):Zp:=h
open P in
theorem L8{W}(h:DgH w P n cap Q a bs a1 c1 a3 c3 ins outs S j base c d x m K c2 vs W)(ai:c%8=7\/((c%8=3\/c%8=4\/c%8=5)/\¬m=1)):pH w P n cap Q a bs a1 c1 a3 c3 ins outs (S++[(gwM ins S bs j).1],(gwM ins S bs j).2) base c d x m W:=by
 exact no_implicit_lambda% qap
variable{bs:List Int}
theorem Q.qaq(h:Zp:=by
 obtain⟨u,G,aX⟩:∃u:Nat,d/8%6=u/\u<6:=⟨_,rfl,by omega⟩
 obtain⟨v,aL,aG⟩:∃v:Nat,d/4%6=v/\v<6:=⟨_,rfl,by omega⟩
 obtain⟨t,ht,f⟩:∃t:Nat,d%2=t/\t<2:=⟨_,rfl,by omega⟩
 rw[G,aL,ht,Int.natCast_add,Int.natCast_add]at b1;have a0:(c:Int)%8=6:=xaa;have bk:¬(c:Int)%8<6:=xaa;have E2:V (IntKind.i64.wrap ((d:Int)/4)=(d:Int)/4/\IntKind.i64.wrap ((base:Int)+v)=(base:Int)+v/\((d:Int)/4).tmod 6=(v:Int)/\(d:Int).tmod 2=(t:Int)):=⟨by rw[IntKind.wrap_i64];omega,by rw[IntKind.wrap_i64];omega,(Int.tmod_eq_emod_of_nonneg xaa).trans xaa,(Int.tmod_eq_emod_of_nonneg xaa).trans xaa⟩
 have ad:IntKind.i64.wrap ((d:Int)/8)=(d:Int)/8:=by rw[IntKind.wrap_i64];omega
 have ah:IntKind.i64.wrap ((base:Int)+u)=(base:Int)+u:=by rw[IntKind.wrap_i64];omega
 have cl:((d:Int)/8).tmod 6=(u:Int):=(Int.tmod_eq_emod_of_nonneg xaa).trans xaa;have aO:V (∀aj,Kept 0 0 _ aj->_):=λaj b7=>HD.o.putU b7 (eK 10 2 ((base:Int)+u) 0 0) (Nat.zero_lt_succ _) xaa;clear h G aL ht aX aG f J;rcases Decidable.em (m=1) with rfl|aD
 all_goals
  go_upto_region 38 with fail
  go_cut [] from 88 to 182 (λcq=>∃(us:List Vl) (aI cap':Nat),V ((us=vs++[eK 10 2 ((base:Int)+u) 0 0]/\us.length=vs.length+1)/\Dy w cq P a n cap j bs w.heap.size Q (.slice a1 ins.length c1) (ia aI us.length cap') (.slice a3 outs.length c3) ins us outs))
  case first=>
   go_region_with (first
    |(go_at_call 59;refine yaj (aO.o _ ((eD _).trans b7)) ?_;rintro e an ⟨us,aI,cap',rfl,cH,aK,ak⟩;obtain⟨_,bo,ar,aQ,bR,bV,bW⟩:=aK)
    |(go_at_call 60;refine yaj (gq _ _ _ _ _ _) ?_;rintro e aj ⟨rfl,b7⟩;obtain⟨_,aU,ax,aF,_,_,_⟩:=(HD.o.keep ((eD _).trans b7)).bx))
   all_goals
    go_wp2_with fail
    go_meet
    exact⟨us,aI,cap',cH.o,ak⟩
  case rest=>
   clear ad ah cl
   obtain⟨us,aI,cap',b6⟩:=hcut
   have a9:V _:=b6.o.1
   have X:V _:=b6.o.2
   have d1:us.length<=1001:=i4 b6.o.1.2
   clear HD aO bm aW bd B ap av b6
   have HD:V _:=X.o
   clear X
   obtain⟨_,bm,aW,bd,B,ap,av⟩:=HD.o.bx
   have aO:V (∀aj,Kept 0 0 _ aj->_):=λaj b7=>HD.o.putU b7 (eK 12 2 ((base:Int)+v) 0 (t:Int)) (Nat.zero_lt_succ _) xaa
   have bi:V (us.map sv=S++[eK 10 2 ((base:Int)+u) 0 0]):=by show _=_;rw[a9.o.1,List.map_append,HSV.o];rfl
   clear a9
   obtain⟨ad,be,ah,e4⟩:=E2.o
   go_wp2_with fail
   go_region_with (first
    |(go_at_call 59;refine yaj (aO.o _ ((eD _).trans b7)) ?_;rintro e an ⟨us,aI,cap',rfl,cH,aK,ak⟩;obtain⟨_,bo,ar,aQ,bR,bV,bW⟩:=aK)
    |(go_at_call 60;refine yaj (gq _ _ _ _ _ _) ?_;rintro e aj ⟨rfl,b7⟩;obtain⟨_,aU,ax,aF,_,_,_⟩:=(HD.o.keep ((eD _).trans b7)).bx))
   all_goals exact b1.o (L2.of bi.o cH.o ak)):Zp:=h
open Q in
theorem Pu{W}(h:DgH w P n cap Q a bs a1 c1 a3 c3 ins outs S j base c d x m K c2 vs W)(ai:c%8=6):pH w P n cap Q a bs a1 c1 a3 c3 ins outs (S++[eK 10 2 ((base+d/8%6:Nat):Int) 0 0]++[eK 12 2 ((base+d/4%6:Nat):Int) 0 ((d%2:Nat):Int)],j) base c d x m W:=by
 exact no_implicit_lambda% qap
