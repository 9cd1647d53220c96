import Derived.Test.YtcagphgmfbjneaaGreatP38
namespace Go.Proofs.Z
variable{Zp:Prop}
open Tryz
set_option maxRecDepth 1000000
set_option maxHeartbeats 0
open Go.RowKit Flt
attribute[local go_sem] eE eD eC
variable{C w H ax:World}{P n cap i Q R c1 c3 Z j K base ab c d c2 x:Nat}{a a1 a3 J:Option Addr}{bs ins outs:List Int}{S vs:List Vl}{m:Int}{v:Vl}
variable{bs:List Int}
def AI:Code->Nat
 |.region i _ _=>i
 |.seq a _=>AI a
 |.block _ c=>AI c
 |.scope c=>AI c
 |.loop c=>AI c
 |_=>0
def wD(n:Nat):Code->Option Code
 |.seq a b=>if AI b=n then some b else match wD n b with
  |some c=>some c
  |none=>wD n a
 |.block _ c=>wD n c
 |.scope c=>wD n c
 |.loop c=>wD n c
 |_=>none
def wE(n:Nat):Code->Option Code
 |.cond t a b=>match t with
  |.tmp j=>if j=n then some (.cond (.tmp j) a b)else none
  |_=>none
 |.seq a b=>match wE n b with
  |some c=>some c
  |none=>wE n a
 |.block _ c=>wE n c
 |.scope c=>wE n c
 |.loop c=>wE n c
 |_=>none
noncomputable def Rf:Code:=(Tryz.f65.body.bind (wE 90)).getD .skip
noncomputable def Ir (n:Nat):Code:=(Tryz.f65.body.bind (wD n)).getD .skip
theorem LF{P}{c:Code}{Q a}(h:c.wp P (Exit.then (λa w=>Q .normal a w) λ_ _ _=>False) a w):c.wp P Q a w:=by
 exact xin
theorem aJ.qbc(h:Zp:=by
 have hb:=jk f1.bx bp (λc=>(f.nr _ (.inr (.inl c))).2 rfl);have aj:Kept Q _ _ (fg am Q (.slice a1 Z c1) _ (.slice a3 ab c3)):=fk _ Q _ (h0 aC (vs.length+1) cap') _;have F:=k.size;have h2:=bp.size;refine⟨_,_,rfl,hb,f1.vals bp bq xac aK O aj (pA hb _ _ _),?_,λo=>?_,yao F (yao h2 aj.size)⟩
 ·rcases aK with c|c
  ·intro e;exact aG.2.2 (e ▸ c)
  omega
 rw[aj.cell (by show K<_;omega) (by show ¬(Q<=K/\K<Q+1);omega),bp.cell (by show K<_;omega) aG.2.2,k.cell aG.1 xaa]):Zp:=h
open aJ in
theorem Dy.putK{W}(f:Dy C W P a n cap i bs R Q (.slice a1 Z c1) (.slice J vs.length c2) (.slice a3 ab c3) ins vs outs)(k:Kept 0 0 W ax)(v)(aN:v.k<18446744073709551616)(ag:vs.length<=100000)(aG:K<W.heap.size/\K≠Q/\(Value.slice J vs.length c2).ownBlock≠some K):
  Calls prog 78 #[eX a1 Z c1 J vs.length c2 a3 ab c3,v.agg] ax λe am=>∃aC cap',e=.returned (eX a1 Z c1 (some ⟨aC,0,none⟩) (vs.length+1) cap' a3 ab c3)/\RB am Q (.slice a1 Z c1) (.slice J vs.length c2) (.slice a3 ab c3)/\(Dy C (fg am Q (.slice a1 Z c1) (h0 aC (vs.length+1) cap') (.slice a3 ab c3)) P a n cap i bs R Q (.slice a1 Z c1) (h0 aC (vs.length+1) cap') (.slice a3 ab c3) ins (vs++[v]) outs/\aC≠K/\(∀o,(fg am Q (.slice a1 Z c1) (h0 aC (vs.length+1) cap') (.slice a3 ab c3)).cell? ⟨K,o,none⟩=W.cell? ⟨K,o,none⟩)/\W.heap.size<=(fg am Q (.slice a1 Z c1) (h0 aC (vs.length+1) cap') (.slice a3 ab c3)).heap.size):=by
 exact qet
theorem AJ{P:World->Prop}{W}(h:∀H,H=W->P H):P W:=h W rfl
theorem Rg{W:World}{bF bB bG b3 cu aa m r}(aG:W.heap.size=K)(ak:bF<18446744073709551616/\fb bF=ksM 0)(F:bB<18446744073709551616/\fb bB=ksM 1)(h2:bG<18446744073709551616/\fb bG=ksM 2)(h3:b3<18446744073709551616/\fb b3=ksM 3)(h4:cu<18446744073709551616/\fb cu=ksM 4)(bK:aa<18446744073709551616/\fb aa=ksM 5)(q)(aA:q<6):∃x,(x<18446744073709551616/\fb x=ksM q)/\((W.alloc (.cells #[.float .f64 bF,.float .f64 bB,.float .f64 bG,.float .f64 b3,.float .f64 cu,.float .f64 aa] r)).drewN m).cell? ⟨K,q,none⟩=some (.float .f64 x):=by
 subst aG;match q,aA with
 |0,_=>exact⟨_,ak,by simp⟩
 |1,_=>exact⟨_,F,by simp⟩
 |2,_=>exact⟨_,h2,by simp⟩
 |3,_=>exact⟨_,h3,by simp⟩
 |4,_=>exact⟨_,h4,by simp⟩
 |5,_=>exact⟨_,bK,by simp⟩
def C1(w:World)(P n cap i Q:Nat)(a:Option Addr)(bs:List Int)(a1:Option Addr)(c1:Nat)(a3:Option Addr)(c3:Nat)(ins outs:List Int)(S:List Vl)(a2:Option Addr)(c2:Nat)(vs:List Vl)(W:World):Prop:=
 vs.map sv=S/\Dy w W P a n cap i bs w.heap.size Q (.slice a1 ins.length c1) (.slice a2 vs.length c2) (.slice a3 outs.length c3) ins vs outs/\(Value.slice a2 vs.length c2).ownBlock≠some (Q+1)/\Q+1<W.heap.size/\∀m:Nat,m<6->∃x,(x<18446744073709551616/\fb x=ksM m)/\W.cell? ⟨Q+1,m,none⟩=some (.float .f64 x)
theorem C1.next{W aY aC cap'}(h:C1 w P n cap i Q a bs a1 c1 a3 c3 ins outs S J c2 vs W)(e:sv v=aY)
  (ba:Dy w H P a n cap i bs w.heap.size Q (.slice a1 ins.length c1) (h0 aC (vs.length+1) cap') (.slice a3 outs.length c3) ins (vs++[v]) outs/\aC≠Q+1/\(∀o,H.cell? ⟨Q+1,o,none⟩=W.cell? ⟨Q+1,o,none⟩)/\W.heap.size<=H.heap.size):C1 w P n cap i Q a bs a1 c1 a3 c3 ins outs (S++[aY]) (some ⟨aC,0,none⟩) cap' (vs++[v]) H:=
 ⟨by rw[List.map_append,h.1,<-e];rfl,by grind,λq=>ba.2.1 (by simpa[Value.ownBlock] using q),yak h.2.2.2.1 ba.2.2.2,λm ao=>by rw[ba.2.2.1];exact h.2.2.2.2 m ao⟩
def L2(w:World)(P n cap Q:Nat)(a:Option Addr)(bs:List Int)(a1:Option Addr)(c1:Nat)(a3:Option Addr)(c3:Nat)(ins outs:List Int)(s:List Vl×Nat)(a2:Option Addr)(c2:Nat)(vs:List Vl)(W:World):Prop:=
 vs.map sv=s.1/\Dy w W P a n cap s.2 bs w.heap.size Q (.slice a1 ins.length c1) (.slice a2 vs.length c2) (.slice a3 outs.length c3) ins vs outs
theorem O4(vs:List Vl)(x):vd (vs.map sv) x=sv (vs.getD x h9):=by
 unfold vd;rw[yai,yai,List.getElem?_map];cases vs[x]?<;>rfl
theorem Qq(W:World)(r){q}(aA:q<5):(W.alloc (.cells #[h1 2,h1 3,h1 4,h1 5,h1 7] r)).cell? ⟨W.heap.size,q,none⟩=some (h1 (([2,3,4,5,7]:List Int).getD q 0)):=by
 grind[yav]
theorem Dy.ox{W u1 u2 u3}(f:Dy C W P a n cap i bs R Q u1 u2 u3 ins vs outs):∀o,Dy C (W.alloc o) P a n cap i bs R Q u1 u2 u3 ins vs outs:=λo=>f.keep (eA 0 0 W o)
theorem Dy.grow{W}(f:Dy C W P a n cap i bs R Q (.slice a1 Z c1) (.slice J vs.length c2) (.slice a3 ab c3) ins vs outs)(ag:vs.length<=100000)(bV:∀k,k<vs.length->1<=(vd vs k).len/\(vd vs k).len<=1000):
  Calls prog 81 #[eX a1 Z c1 J vs.length c2 a3 ab c3,hZ P] W λe am=>∃v aC cap',e=.returned (eX a1 Z c1 (some ⟨aC,0,none⟩) (vs.length+1) cap' a3 ab c3)/\sv v=(gwM ins vs bs i).1/\RB am Q (.slice a1 Z c1) (.slice J vs.length c2) (.slice a3 ab c3)/\Dy C (fg am Q (.slice a1 Z c1) (h0 aC (vs.length+1) cap') (.slice a3 ab c3)) P a n cap (gwM ins vs bs i).2 bs R Q (.slice a1 Z c1) (h0 aC (vs.length+1) cap') (.slice a3 ab c3) ins (vs++[v]) outs:=by
 have aQ:=f.p0;have aA:=f.rq;have F:=f.k0.size;refine(Nb f.dg f.rd aQ ag bV).mono ?_;rintro e am ⟨v,aC,cap',rfl,aw,aO,aF,al,aK⟩;have a7:∀b,(Value.slice J _ _).ownBlock=some b->C.heap.size<=b/\b≠R/\b≠Q:=λb hb=>⟨(eG f.dg.r2 hb).1,f.nr b (.inr (.inl hb))⟩
 have a2:∀b,(b=P\/(Value.slice J vs.length c2).ownBlock=some b)->b≠R/\b≠Q:=by grind
 have bw:aC≠R/\aC≠Q:=by
  exact xfa
 have hb:=jk f.bx al (λc=>(a2 _ c).2 rfl);have aj:Kept Q _ am (fg _ Q (.slice a1 Z c1) (h0 aC (vs.length+1) cap') (.slice a3 ab c3)):=fk _ _ _ _ _;have h2:=al.size
 have ag:∀b,(Value.slice a1 Z c1).ownBlock=some b\/(h0 aC (vs.length+1) cap').ownBlock=some b\/(Value.slice a3 ab c3).ownBlock=some b->b≠R/\b≠Q:=by
  exact xhl
 have own:∀{u:Value}{xs:List _}{m e s:Nat},am.ownsRow C.heap.size e s u m xs->(∀b,u.ownBlock=some b->b≠Q)->_:=λo h=>fD o aj λb hb=>by grind
 refine⟨v,_,_,rfl,aw,hb,aF.keep aj (.inl xaa),⟨own aO.r1 λb hb=>(ag b (.inl hb)).2,own aO.r2 λb hb=>(ag b (.inr (.inl hb))).2,own aO.r3 λb hb=>(ag b (.inr (.inr hb))).2,aO.a12,aO.a13,aO.a23,aO.k,yao aO.sz aj.size⟩,pA hb _ _ _,(jk f.rs al (λc=>(a2 _ c).1 rfl)).kept aj xaa,aQ,aA,ag,⟨aj.os.trans (al.os.trans f.k0.os),aj.tape.trans (al.tape.trans f.k0.tape),aj.output.trans (al.output.trans f.k0.output),yao F (yao h2 aj.size),λb hb g=>?_⟩⟩;rw[aj.block b xaa xaa,al.block b xaa (by grind)];exact f.k0.block b hb g
theorem L2.of{us}(ak:vs.map sv=S)(a6:us=vs++[v]/\us.length=vs.length+1)
  (ba:Dy w H P a n cap j bs w.heap.size Q (.slice a1 ins.length c1) (.slice J us.length c2) (.slice a3 outs.length c3) ins us outs):L2 w P n cap Q a bs a1 c1 a3 c3 ins outs (S++[sv v],j) J c2 us H:=
 ⟨by grind,ba⟩
theorem L2.of2(ak:vs.map sv=S)
  (ba:Dy w H P a n cap j bs w.heap.size Q (.slice a1 ins.length c1) (.slice J (vs.length+1) c2) (.slice a3 outs.length c3) ins (vs++[v]) outs):L2 w P n cap Q a bs a1 c1 a3 c3 ins outs (S++[sv v],j) J c2 (vs++[v]) H:=by
 grind[L2.of]
theorem Dy.putU{W}(f:Dy C W P a n cap i bs R Q (.slice a1 Z c1) (.slice J vs.length c2) (.slice a3 ab c3) ins vs outs)(k:Kept 0 0 W ax)(v)(aN:v.k<18446744073709551616)(ag:vs.length<=100000):
  Calls prog 78 #[eX a1 Z c1 J vs.length c2 a3 ab c3,v.agg] ax λe am=>∃us aC cap',e=.returned (eX a1 Z c1 (some ⟨aC,0,none⟩) us.length cap' a3 ab c3)/\V (us=vs++[v]/\us.length=vs.length+1)/\RB am Q (.slice a1 Z c1) (.slice J vs.length c2) (.slice a3 ab c3)/\Dy C (fg am Q (.slice a1 Z c1) (h0 aC us.length cap') (.slice a3 ab c3)) P a n cap i bs R Q (.slice a1 Z c1) (h0 aC us.length cap') (.slice a3 ab c3) ins us outs:=by
 refine(f.put k v aN ag).mono ?_;rintro e am ⟨aC,cap',rfl,hb,aO⟩;have ai:(vs++[v]).length=vs.length+1:=by simp
 exact⟨_,_,_,by rw[ai],⟨rfl,ai⟩,hb,by grind⟩
def qh(w:World)(P n cap Q:Nat)(a:Option Addr)(bs:List Int)(a1:Option Addr)(c1:Nat)(a3:Option Addr)(c3:Nat)(ins outs:List Int)(s:List Vl×Nat)(base c d x:Nat)(m:Int)(W:World):Prop:=
 ∀{Post:Act->World->Prop}{b:Bool}{e f g h i j k l o p bb bc bd q r t u v y z A B C D E F G H I J K L M N O R S T U Vaa X Y Z aa ab ad ae af ag ah ai aj ak al am an ao ap aq ar au av aw ax ay az aA aB aC aD aE aF aG aH aI aJ aK aL aM aN aO be bf bg bh bi bj bk bl bm bn bo bp bq br bt bu bv bw bx bz bA bB bC bD bE bF bG bH bI bJ bK bL bM bN bO bP bQ bR bS bT bU bV bW bX bY bZ b0 b1 b2 b3 b4 b5 b6 b7 b8 b9 ca cb cc cd ce cf cg ch ci cj ck cl cm cn co cp cq cr cs ct cu cv cw cx cy cz cA cB cC cD cE cF cG cH cI cJ cK cL aP aQ aR aS aT aU aV aW aX aY aZ a0 a4 a5 a6 a7 a8 a9 ba:Value},(b=true↔c%8=0)->(∀{cM cN cO cP cQ cR cS cT cU cV cW cX cY cZ c0 c4 c5 c6 c7 c8 c9 da db dc dd de df dg dh di dj dk dl dm dn dp dq dr ds dt du dv dw dx dy dz dA dB dC dD dE dF dG dH dI dJ dK dL dM dN dO dP dQ dR dS dT dU dV dW dX dY dZ d0 d1 d2 d3 d4 d5 d6 d7 d8 d9 ea eb ec ed ee ef eg eh ei ej ek el em en eo ep:Value}{W':World}{a2:Option Addr}{c2:Nat}{vs:List Vl},L2 w P n cap Q a bs a1 c1 a3 c3 ins outs s a2 c2 vs W'->Post ⟨#[.pointer (some ⟨P,0,none⟩),e,f,g,h,i,j,k,.pointer (some ⟨Q,0,none⟩),l,.int .i64 (base:Int),o,p,.int .i64 (c:Int),.int .i64 (d:Int),.int .i64 (x:Int),.int .i64 m,cM,cN,cO,q,r,t,u,v,y,z,A,B,C,D,E,F,G,H,I,J,K,L,M,N,O,R,S,T,U,Vaa,X,Y,Z,aa,ab,ad,ae,af,ag,ah,ai,aj,ak,al,am,an,ao,ap,aq,ar,au,av,aw,ax,ay,az,aA,aB,aC,aD,aE,aF,aG,aH,aI,aJ,aK,aL,aM,aN,aO,cP,cQ,cR,cS,cT,cU,cV,cW,cX,cY,cZ,c0,c4,c5,c6,c7,c8,c9,da,db,dc,dd,de,df,dg,dh,di,dj,dk,dl,dm,dn,dp,dq,dr,ds,dt,du,dv,dw,dx,dy,dz,dA,dB,dC,dD,dE,dF,dG,dH,dI,dJ,dK,dL,dM,dN,dO,dP,dQ,dR,dS,dT,dU,dV,dW,dX,dY,dZ,d0,d1,d2,d3,d4,d5,d6,d7,d8,d9,ea,eb,ec,ed,ee,ef,eg,eh,ei,ej,ek,el,em,en,eo,ep,aP,aQ,aR,aS,aT,aU,aV,aW,aX,aY,aZ,a0,a4,a5,a6,a7,a8,a9,ba],[]⟩ W')->Code.wp prog Rf (Exit.then Post λ_ _ _=>False) ⟨#[.pointer (some ⟨P,0,none⟩),e,f,g,h,i,j,k,.pointer (some ⟨Q,0,none⟩),l,.int .i64 (base:Int),o,p,.int .i64 (c:Int),.int .i64 (d:Int),.int .i64 (x:Int),.int .i64 m,bb,bc,bd,q,r,t,u,v,y,z,A,B,C,D,E,F,G,H,I,J,K,L,M,N,O,R,S,T,U,Vaa,X,Y,Z,aa,ab,ad,ae,af,ag,ah,ai,aj,ak,al,am,an,ao,ap,aq,ar,au,av,aw,ax,ay,az,aA,aB,aC,aD,aE,aF,aG,aH,aI,aJ,aK,aL,aM,aN,aO,be,bf,.bool b,bg,bh,bi,bj,bk,bl,bm,bn,bo,bp,bq,br,bt,bu,bv,bw,bx,bz,bA,bB,bC,bD,bE,bF,bG,bH,bI,bJ,bK,bL,bM,bN,bO,bP,bQ,bR,bS,bT,bU,bV,bW,bX,bY,bZ,b0,b1,b2,b3,b4,b5,b6,b7,b8,b9,ca,cb,cc,cd,ce,cf,cg,ch,ci,cj,ck,cl,cm,cn,co,cp,cq,cr,cs,ct,cu,cv,cw,cx,cy,cz,cA,cB,cC,cD,cE,cF,cG,cH,cI,cJ,cK,cL,aP,aQ,aR,aS,aT,aU,aV,aW,aX,aY,aZ,a0,a4,a5,a6,a7,a8,a9,ba],[]⟩ W
structure DgH(w:World)(P n cap Q:Nat)(a:Option Addr)(bs:List Int)(a1:Option Addr)(c1:Nat)(a3:Option Addr)(c3:Nat)(ins outs:List Int)(S:List Vl)(j base c d x:Nat)(m:Int)(a2:Option Addr)(c2:Nat)(vs:List Vl)(W:World):Prop where
 D:Dy w W P a n cap j bs w.heap.size Q (.slice a1 ins.length c1) (.slice a2 vs.length c2) (.slice a3 outs.length c3) ins vs outs
 hs:vs.map sv=S
 hx:x<vs.length
 hl:6<=vs.length/\vs.length<=1000
 hc:c<256/\d<256/\base<=100
 hm:(vs.getD x h9).len=m
 ln:LenS S
variable{bs:List Int}
theorem Qr{W}(h:DgH w P n cap Q a bs a1 c1 a3 c3 ins outs S j base c d x m J c2 vs W)(al:c%8=0):qh w P n cap Q a bs a1 c1 a3 c3 ins outs (S++[eJ 6 m x 0 0],j) base c d x m W:=by
 unfold qh;intros;rename_i bc hP;have bZ:V _:=@hP;have HD:V _:=h.D;have HSV:V _:=h.hs;have ai:=h.hl;have g:=h.hc;obtain⟨_,bl,aS,a9,B,F,ak⟩:=HD.o.bx;obtain rfl:=bc.2 al;clear hP bc;conv=>arg 2;whnf
 have aY:(c:Int)%8=0:=xaa;have aD:V (∀X,Kept 0 0 W X->_):=λX a5=>HD.o.putU a5 (eJ 6 m (x:Int) 0 0) (Nat.zero_lt_succ _) xaa;clear h;go_upto_region 24 with fail;exact xbq
variable{bs:List Int}
theorem N.qas(h:Zp:=by
 have ap:=h.hx;obtain⟨af,b7,az,aw,bC,bw⟩:=gO HD.o.dg.r2 rfl ap;have an:J=some ⟨af,0,none⟩:=by injection az
 subst an;have aj:(x:Int)<vs.length:=xaa;clear az aw bC;have aY:(c:Int)%8=2:=xaa;have aD:V (∀X,Kept 0 0 W X->_):=λX a5=>HD.o.putU a5 (vs.getD x h9) (HD.o.dg.k _ (by rw[yai,yam ap];exact List.getElem_mem ap)) xaa;have a2:=(HD.o.keep (eA 0 0 W (.cells #[h1 (vs.getD x h9).op,h1 (vs.getD x h9).len,h1 (vs.getD x h9).a,h1 (vs.getD x h9).b,h1 (vs.getD x h9).c,.float .f64 (vs.getD x h9).k] 86))).bx;have e:vd S x=sv (vs.getD x h9):=by rw[<-h.hs,O4]
 rw[e]at bZ;clear e h;obtain⟨bh,aJ,y2,y3,y4,b5⟩:=bw;generalize vs.getD x h9=v at*;obtain⟨_,aP,ay,aB,_,_,_⟩:=a2;go_wp2_with (go_at_call 78;refine yaj (aD.o _ (eA 0 0 _ _)) ?_;rintro e am ⟨us,aC,cap',rfl,br,a0,aH⟩;obtain⟨_,bq,aq,aT,bR,bS,bT⟩:=a0);all_goals exact bZ.o (L2.of HSV.o br.o aH)):Zp:=h
open N in
theorem Qs{W}(h:DgH w P n cap Q a bs a1 c1 a3 c3 ins outs S j base c d x m J c2 vs W)(al:c%8=2):qh w P n cap Q a bs a1 c1 a3 c3 ins outs (S++[vd S x],j) base c d x m W:=by
 exact no_implicit_lambda% qar
variable{bs:List Int}
theorem O.qas(h:Zp:=by
 exact qdn):Zp:=h
theorem O.qdo(h:Zp:=by
 have h2:(c:Int)%2=1:=xaa;have aD:V (∀X,Kept 0 0 _ X->_):=λX a5=>HD.o.putU a5 (eJ o 1 x ((base:Int)+d/8%6) 0) (Nat.zero_lt_succ _) xaa;go_upto_region 35 with fail;exact xbr):Zp:=h
open O in
theorem Qt{W}(h:DgH w P n cap Q a bs a1 c1 a3 c3 ins outs S j base c d x m J c2 vs W)(al:c%8=3\/c%8=5)(ao:m=1):qh w P n cap Q a bs a1 c1 a3 c3 ins outs (S++[eJ ([2,3,4,5,7].getD (c/8%5) 0) 1 x ((base+d/8%6:Nat):Int) 0],j) base c d x m W:=by
 exact no_implicit_lambda% qar
variable{bs:List Int}
theorem P.qas(h:Zp:=by
 exact qdn):Zp:=h
theorem P.qdo(h:Zp:=by
 have h2:¬(c:Int)%2=1:=xaa;have aD:V (∀X,Kept 0 0 _ X->_):=λX a5=>HD.o.putU a5 (eJ o 1 ((base:Int)+d/8%6) x 0) (Nat.zero_lt_succ _) xaa;go_upto_region 36 with fail;exact xbr):Zp:=h
open P in
theorem Qu{W}(h:DgH w P n cap Q a bs a1 c1 a3 c3 ins outs S j base c d x m J c2 vs W)(al:c%8=4)(ao:m=1):qh w P n cap Q a bs a1 c1 a3 c3 ins outs (S++[eJ ([2,3,4,5,7].getD (c/8%5) 0) 1 ((base+d/8%6:Nat):Int) x 0],j) base c d x m W:=by
 exact no_implicit_lambda% qar
variable{bs:List Int}
theorem Q.qas(h:Zp:=by
 have aI:V _:=HD.o.grow xaa (h.ln.of h.hs);rw[<-h.hs,In,h.hs]at bZ;have ci:¬(c:Int)%8=0:=xaa;have Z:¬(c:Int)%8=1:=xaa;have ae:¬(c:Int)%8=2:=xaa;have l:¬(c:Int)%8=6:=xaa;clear h;rcases al with al|⟨al,ao⟩
 ·have b:¬(c:Int)%8<6:=xaa;rcases Decidable.em (m=1) with rfl|ao
  all_goals
   go_wp2_with (go_at_call 81;refine yaj aI.o ?_;rintro e am ⟨v,aC,cap',rfl,aw,a0,aH⟩;obtain⟨_,bq,aq,aT,bR,bS,bT⟩:=a0;rw[<-aw]at bZ;clear aw)
   exact bZ.o (L2.of2 HSV.o aH)
 go_wp2_with (go_at_call 81;refine yaj aI.o ?_;rintro e am ⟨v,aC,cap',rfl,aw,a0,aH⟩;obtain⟨_,bq,aq,aT,bR,bS,bT⟩:=a0;rw[<-aw]at bZ;clear aw);exact bZ.o (L2.of2 HSV.o aH)):Zp:=h
open Q in
theorem Nf{W}(h:DgH w P n cap Q a bs a1 c1 a3 c3 ins outs S j base c d x m J c2 vs W)(al:c%8=7\/((c%8=3\/c%8=4\/c%8=5)/\¬m=1)):qh w P n cap Q a bs a1 c1 a3 c3 ins outs (S++[(gwM ins S bs j).1],(gwM ins S bs j).2) base c d x m W:=by
 exact no_implicit_lambda% qar
