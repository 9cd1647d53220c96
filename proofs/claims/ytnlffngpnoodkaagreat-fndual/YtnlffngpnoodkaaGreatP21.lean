import Derived.Test.YtnlffngpnoodkaaGreatP20
namespace Go.Proofs.YtnlffngpnoodkaaGreat
set_option maxRecDepth 1000000
set_option maxHeartbeats 0
section
open Go.RowKit Flt
attribute [local go_sem] ic ib ia
variable {Q:Nat->Prop} {w W' W1 w' w2:World} {p P m1 e1 m3 e3 base cap g' cap':Nat} {b1 b3 a2:Option Addr} {R R':Option Nat} {vs:List Vl}
structure SG (w:World)(P:Nat)(b1:Option Addr)(m1 e1:Nat)(b3:Option Addr)(m3 e3:Nat)(vs:List Vl)(base:Nat)(R:Option Nat)(a2:Option Addr)(cap:Nat):Prop where
 lt:P<w.heap.size
 free:∀o,w.frozen? ⟨P,o,none⟩=false
 c0:w.cell? ⟨P,0,none⟩=some (.slice b1 m1 e1)
 c1:w.cell? ⟨P,1,none⟩=some (.slice a2 vs.length cap)
 c2:w.cell? ⟨P,2,none⟩=some (.slice b3 m3 e3)
 own:w.ownsRow base 31 6 (.slice a2 vs.length cap) vs.length (iN vs)
 row:(Value.slice a2 vs.length cap).ownBlock=R
 ne:R≠some P
 sz:base<=w.heap.size
theorem SG.keep (h:SG w P b1 m1 e1 b3 m3 e3 vs base R a2 cap)(k:Kept 0 0 w w'):SG w' P b1 m1 e1 b3 m3 e3 vs base R a2 cap:=
 have e:∀o,w'.cell? ⟨P,o,none⟩=w.cell? ⟨P,o,none⟩:=λo=>k.cell (p:=⟨P,o,none⟩) h.lt (by omega)
 ⟨Nat.lt_of_lt_of_le h.lt k.size,λo=>by rw[k.frozen (p:=⟨P,o,none⟩) h.lt (by omega)];exact h.free o,by rw[e];exact h.c0,by rw[e];exact h.c1,by rw[e];exact h.c2,iC h.own k,h.row,h.ne,Nat.le_trans h.sz k.size⟩
def iM (w:World)(P:Nat)(x y z:Value):World:=((w.setCell ⟨P,0,none⟩ x).setCell ⟨P,1,none⟩ y).setCell ⟨P,2,none⟩ z
theorem SG.put {w1:World}{v:Vl}(h:SG w P b1 m1 e1 b3 m3 e3 vs base R a2 cap)(k:Kept 0 0 w w1)
  (own:w2.ownsRow base 31 6 (.slice (some ⟨g',0,none⟩) (vs.length+1) cap') (vs.length+1) (iN (vs++[v]))) (s:StQ (λ_=>False) R w1 (some g') w2):
  SG (iM w2 P (.slice b1 m1 e1) (.slice (some ⟨g',0,none⟩) (vs.length+1) cap') (.slice b3 m3 e3)) P b1 m1 e1 b3 m3 e3 (vs++[v]) base (some g') (some ⟨g',0,none⟩) cap'/\StQ (λi=>i=P) R w (some g') (iM w2 P (.slice b1 m1 e1) (.slice (some ⟨g',0,none⟩) (vs.length+1) cap') (.slice b3 m3 e3)):=by
 have hlt:=h.lt
 have hsz:=k.size
 have hne:g'≠P:=by
  rcases s.row with e|⟨r,e,hr⟩
  ·exact λc=>h.ne (by rw[<-e,c])
  ·cases e;omega
 have hb:w2.heap[P]? =w1.heap[P]?:=s.chg.block P (by omega) (by rintro (c|c);exact c;exact h.ne c)
 have e:∀o,w2.cell? ⟨P,o,none⟩=w.cell? ⟨P,o,none⟩:=λo=>(World.cell?_of_block (w:=w1) (a:=⟨P,o,none⟩) hb).trans (k.cell (p:=⟨P,o,none⟩) h.lt (by omega))
 have ef:∀o,w2.frozen? ⟨P,o,none⟩=w.frozen? ⟨P,o,none⟩:=λo=>(World.frozen?_of_block (w:=w1) (a:=⟨P,o,none⟩) hb).trans (k.frozen (p:=⟨P,o,none⟩) h.lt (by omega))
 obtain⟨y0,y1,y2⟩:=iy w2 P _ _ _ ((e 0).trans h.c0) ((e 1).trans h.c1) ((e 2).trans h.c2) (.slice b1 m1 e1) (.slice (some ⟨g',0,none⟩) (vs.length+1) cap') (.slice b3 m3 e3)
 have kp:=iD w2 P (.slice b1 m1 e1) (.slice (some ⟨g',0,none⟩) (vs.length+1) cap') (.slice b3 m3 e3)
 have hl:(vs++[v]).length=vs.length+1:=by simp
 have nB:(Value.slice (some ⟨g',0,none⟩) (vs.length+1) cap').ownBlock≠some P:=λc=>hne (by simpa[Value.ownBlock] using c)
 refine⟨⟨?_,λo=>?_,y0,by rw[hl];exact y1,y2,?_,rfl,λc=>hne (by simpa using c),?_⟩,⟨?_,?_,?_,?_,λi hi hn=>?_⟩,?_⟩
 ·have:=kp.size;have:=s.chg.size;unfold iM;omega
 ·unfold iM;simp[ef o,h.free o]
 ·rw[hl];exact ir (ir (ir own nB) nB) nB
 ·have:=kp.size;have:=s.chg.size;have:=h.sz;unfold iM;omega
 ·exact kp.os.trans (s.chg.os.trans k.os)
 ·exact kp.tape.trans (s.chg.tape.trans k.tape)
 ·exact kp.output.trans (s.chg.output.trans k.output)
 ·have:=kp.size;have:=s.chg.size;unfold iM;omega
 ·unfold iM
  rw[kp.block i (by have:=s.chg.size;omega) (λc=>hn (.inl (by omega))),s.chg.block i (by omega) (by rintro (c|c);exact c;exact hn (.inr c))]
  exact k.block i hi (by omega)
 ·rcases s.row with c|⟨r,c,hr⟩
  ·exact .inl c
  ·exact .inr ⟨r,c,by omega⟩
theorem RB.stq {W:World}{b0 b1 b2:Value}(t:RB W p b0 b1 b2)(s:StQ (λi=>i=P) R W R' W')(hp:p≠P)(hR:R≠some p):RB W' p b0 b1 b2:=by
 have hn:¬((λi=>i=P) p\/R=some p):=by rintro (c|c);exact hp c;exact hR c
 have e:∀o,W'.cell? ⟨p,o,none⟩=W.cell? ⟨p,o,none⟩:=λo=>s.chg.cell (p:=⟨p,o,none⟩) t.sz hn
 have f:∀o,W'.frozen? ⟨p,o,none⟩=W.frozen? ⟨p,o,none⟩:=λo=>s.chg.frozen (p:=⟨p,o,none⟩) t.sz hn
 exact⟨Nat.lt_of_lt_of_le t.sz s.chg.size,by rw[e];exact t.q0,by rw[e];exact t.q1,by rw[e];exact t.q2,by rw[f];exact t.f0,by rw[f];exact t.f1,by rw[f];exact t.f2⟩
theorem StQ.keepQ {w'':World}(s:StQ Q R w R' w')(k:Kept 0 0 w' w''):StQ Q R w R' w'':=s.new (l:=w.heap.size) (h:=w.heap.size) (k.mono λ_ _ c=>by omega) (Nat.le_refl _)
theorem StQ.far {B:Nat}(s:StQ Q R w (some g') W')(hB:B<w.heap.size)(hR:R≠some B):g'≠B:=by
 rcases s.row with c|⟨r,c,hr⟩
 ·exact λe=>hR (by rw[<-c,e])
 ·cases c;omega
def MvP (w:World)(b1:Option Addr)(m1 e1:Nat)(b3:Option Addr)(m3 e3:Nat)(vs:List Vl)(base:Nat)(R:Option Nat)(M:List Vl×Int)(e:Ending)(w':World):Prop:=
 ∃a2' cap' R',e=.returned (.tuple #[ip b1 m1 e1 a2' (vs++M.1).length cap' b3 m3 e3,.int .i64 M.2])/\w'.ownsRow base 31 6 (.slice a2' (vs++M.1).length cap') (vs++M.1).length (iN (vs++M.1))/\(Value.slice a2' (vs++M.1).length cap').ownBlock=R'/\StQ (λ_=>False) R w R' w'
theorem At.stq {W:World}{o:Nat}{v:Vl}(t:At W p o v)(hl:p<W.heap.size)(s:StQ (λi=>i=P) R W R' W')(hp:p≠P)(hR:R≠some p):At W' p o v:=by
 have hn:¬((λi=>i=P) p\/R=some p):=by rintro (c|c);exact hp c;exact hR c
 have e:∀o,W'.cell? ⟨p,o,none⟩=W.cell? ⟨p,o,none⟩:=λo=>s.chg.cell (p:=⟨p,o,none⟩) hl hn
 obtain⟨q0,q1,q2,q3,q4,q5⟩:=t
 exact⟨by rw[e];exact q0,by rw[e];exact q1,by rw[e];exact q2,by rw[e];exact q3,by rw[e];exact q4,by rw[e];exact q5⟩
theorem StQ.seq {Q':Nat->Prop}{W:World}{R'':Option Nat}(a:StQ Q R w R' W)(b:StQ Q' R' W R'' W')(h:∀i,i<w.heap.size->¬Q' i):StQ Q R w R'' W' where
 chg:=⟨b.chg.os.trans a.chg.os,b.chg.tape.trans a.chg.tape,b.chg.output.trans a.chg.output,Nat.le_trans a.chg.size b.chg.size,λk hk hn=>by
  rw[b.chg.block k (Nat.lt_of_lt_of_le hk a.chg.size) ?_]
  ·exact a.chg.block k hk hn
  ·rintro (c|c)
   ·exact h k hk c
   ·rcases a.row with e|⟨r,e,hr⟩
    ·exact hn (.inr (by rw[<-e];exact c))
    ·rw[e] at c;cases c;omega⟩
 row:=by
  rcases b.row with e|⟨r,e,hr⟩
  ·rw[e];exact a.row
  ·exact .inr ⟨r,e,Nat.le_trans a.chg.size hr⟩
structure MS (w W:World)(b1:Option Addr)(m1 e1:Nat)(b3:Option Addr)(m3 e3:Nat)(vs:List Vl)(v:Vl)(base:Nat)(R R':Option Nat)(a2:Option Addr)(cap:Nat):Prop where
 g:SG W w.heap.size b1 m1 e1 b3 m3 e3 vs base R' a2 cap
 b:RB W (w.heap.size+1) (.slice none 0 0) (.slice none 0 0) (.slice none 0 0)
 v:At W (w.heap.size+1+1) 0 v
 lt:w.heap.size+1+1<W.heap.size
 n1:R'≠some (w.heap.size+1)
 n2:R'≠some (w.heap.size+1+1)
 s:StQ (λ_=>False) R w R' W
theorem MS.keep {W:World}{v:Vl}(h:MS w W b1 m1 e1 b3 m3 e3 vs v base R R' a2 cap)(k:Kept 0 0 W W'):MS w W' b1 m1 e1 b3 m3 e3 vs v base R R' a2 cap:=
 ⟨h.g.keep k,h.b.keep k,h.v.keep h.lt k (.inr (.inr (Nat.le_refl _))),Nat.lt_of_lt_of_le h.lt k.size,h.n1,h.n2,h.s.keepQ k⟩
theorem MS.start (v:Vl)(h:w.ownsRow base 31 6 (.slice a2 vs.length cap) vs.length (iN vs))(hb:base<=w.heap.size):
  MS w (((w.alloc (iv b1 m1 e1 a2 vs.length cap b3 m3 e3)).alloc iw).alloc (ij v.op v.len v.a v.b v.c v.k)) b1 m1 e1 b3 m3 e3 vs v base (Value.slice a2 vs.length cap).ownBlock (Value.slice a2 vs.length cap).ownBlock a2 cap:=by
 have k1:=hU 0 0 w (iv b1 m1 e1 a2 vs.length cap b3 m3 e3)
 have k2:=hU 0 0 (w.alloc (iv b1 m1 e1 a2 vs.length cap b3 m3 e3)) iw
 have k3:=hU 0 0 ((w.alloc (iv b1 m1 e1 a2 vs.length cap b3 m3 e3)).alloc iw) (ij v.op v.len v.a v.b v.c v.k)
 have hG:=((iO w (.slice b1 m1 e1) (.slice a2 vs.length cap) (.slice b3 m3 e3)).keep k2).keep k3
 have hR:∀B,w.heap.size<=B->(Value.slice a2 vs.length cap).ownBlock≠some B:=λB hB e=>by have:=(ii h e).2;omega
 have hN:=i9 (w.alloc (iv b1 m1 e1 a2 vs.length cap b3 m3 e3))
 rw[show(w.alloc (iv b1 m1 e1 a2 vs.length cap b3 m3 e3)).heap.size=w.heap.size+1 by simp] at hN
 have hV:=lr ((w.alloc (iv b1 m1 e1 a2 vs.length cap b3 m3 e3)).alloc iw) v
 rw[show((w.alloc (iv b1 m1 e1 a2 vs.length cap b3 m3 e3)).alloc iw).heap.size=w.heap.size+1+1 by simp] at hV
 exact⟨⟨hG.sz,λo=>by rw[(k2.trans k3).frozen (p:=⟨w.heap.size,o,none⟩) (by simp) (by omega)];simp,hG.q0,hG.q1,hG.q2,iC h ((k1.trans k2).trans k3),rfl,hR _ (Nat.le_refl _),by simp;omega⟩,hN.keep k3,hV,by simp,hR _ (by omega),hR _ (by omega),(StQ.refl _ _ w).keepQ ((k1.trans k2).trans k3)⟩
theorem MS.next {W:World}{v u:Vl}(h:MS w W b1 m1 e1 b3 m3 e3 vs v base R R' a2 cap)(k:Kept 0 0 W W1)
  (own:w2.ownsRow base 31 6 (.slice (some ⟨g',0,none⟩) (vs.length+1) cap') (vs.length+1) (iN (vs++[u]))) (s:StQ (λ_=>False) R' W1 (some g') w2):
  (∃u,w2.cell? ⟨w.heap.size,0,none⟩=some u)/\(∃u,w2.cell? ⟨w.heap.size,1,none⟩=some u)/\(∃u,w2.cell? ⟨w.heap.size,2,none⟩=some u)/\(∀o,w2.frozen? ⟨w.heap.size,o,none⟩=false)/\At w2 (w.heap.size+1+1) 0 v/\
   Hid (MS w (iM w2 w.heap.size (.slice b1 m1 e1) (.slice (some ⟨g',0,none⟩) (vs.length+1) cap') (.slice b3 m3 e3)) b1 m1 e1 b3 m3 e3 (vs++[u]) v base R (some g') (some ⟨g',0,none⟩) cap'):=by
 have h1:=h.g.keep k
 obtain⟨q1,q2⟩:=h.g.put k own s
 have hb:w2.heap[w.heap.size]? =W1.heap[w.heap.size]?:=s.chg.block w.heap.size h1.lt (by rintro (c|c);exact c;exact h.g.ne c)
 have e:∀o,w2.cell? ⟨w.heap.size,o,none⟩=W1.cell? ⟨w.heap.size,o,none⟩:=λo=>World.cell?_of_block (w:=W1) (a:=⟨w.heap.size,o,none⟩) hb
 have ef:∀o,w2.frozen? ⟨w.heap.size,o,none⟩=W1.frozen? ⟨w.heap.size,o,none⟩:=λo=>World.frozen?_of_block (w:=W1) (a:=⟨w.heap.size,o,none⟩) hb
 have hv:At w2 (w.heap.size+1+1) 0 v:=by
  have hl:=Nat.lt_of_lt_of_le h.lt k.size
  have ec:∀o,w2.cell? ⟨w.heap.size+1+1,o,none⟩=W1.cell? ⟨w.heap.size+1+1,o,none⟩:=λo=>s.chg.cell (p:=⟨w.heap.size+1+1,o,none⟩) hl (by rintro (c|c);exact c;exact h.n2 c)
  obtain⟨q0,q1,q2,q3,q4,q5⟩:=h.v.keep h.lt k (.inr (.inr (Nat.le_refl _)))
  exact⟨by rw[ec];exact q0,by rw[ec];exact q1,by rw[ec];exact q2,by rw[ec];exact q3,by rw[ec];exact q4,by rw[ec];exact q5⟩
 exact⟨⟨_,(e 0).trans h1.c0⟩,⟨_,(e 1).trans h1.c1⟩,⟨_,(e 2).trans h1.c2⟩,λo=>by rw[ef];exact h1.free o,hv,q1,h.b.stq q2 (by omega) h.n1,h.v.stq h.lt q2 (by omega) h.n2,Nat.lt_of_lt_of_le h.lt q2.chg.size,
  λc=>q2.far (Nat.lt_trans (Nat.lt_succ_self _) h.lt) h.n1 (by simpa using c),λc=>q2.far h.lt h.n2 (by simpa using c),h.s.seq q2 (λi hi c=>by omega)⟩
theorem MS.call {W:World}{v:Vl}(h:MS w W b1 m1 e1 b3 m3 e3 vs v base R R' a2 cap)(k:Kept 0 0 W W1)(u:Vl)(hn:vs.length<=1000000):
  Calls Tryz.prog 50 #[ip b1 m1 e1 a2 vs.length cap b3 m3 e3,u.agg] W1 λe w2=>∃g' cap',e=.returned (ip b1 m1 e1 (some ⟨g',0,none⟩) (vs.length+1) cap' b3 m3 e3)/\
   (∃u,w2.cell? ⟨w.heap.size,0,none⟩=some u)/\(∃u,w2.cell? ⟨w.heap.size,1,none⟩=some u)/\(∃u,w2.cell? ⟨w.heap.size,2,none⟩=some u)/\(∀o,w2.frozen? ⟨w.heap.size,o,none⟩=false)/\At w2 (w.heap.size+1+1) 0 v/\
   Hid (MS w (iM w2 w.heap.size (.slice b1 m1 e1) (.slice (some ⟨g',0,none⟩) (vs.length+1) cap') (.slice b3 m3 e3)) b1 m1 e1 b3 m3 e3 (vs++[u]) v base R (some g') (some ⟨g',0,none⟩) cap'):=by
 have h1:=h.g.keep k
 refine(rF W1 b1 a2 b3 m1 e1 cap m3 e3 base vs u h1.own h1.sz hn).mono ?_
 rintro e w2 ⟨g',cap',rfl,own,s⟩
 rw[h.g.row] at s
 exact⟨g',cap',rfl,h.next k own s⟩
theorem MS.fin {W:World}{vs0:List Vl}{v:Vl}{M:List Vl×Int}(h:MS w W b1 m1 e1 b3 m3 e3 vs v base R R' a2 cap)(k:Kept 0 0 W W')(hv:vs=vs0++M.1):
  MvP w b1 m1 e1 b3 m3 e3 vs0 base R M (.returned (.tuple #[ip b1 m1 e1 a2 vs.length cap b3 m3 e3,.int .i64 M.2])) (iM W' (w.heap.size+1) (.slice b1 m1 e1) (.slice a2 vs.length cap) (.slice b3 m3 e3)):=by
 subst hv
 have nB:(Value.slice a2 (vs0++M.1).length cap).ownBlock≠some (w.heap.size+1):=by rw[h.g.row];exact h.n1
 exact⟨a2,cap,R',rfl,ir (ir (ir (iC h.g.own k) nB) nB) nB,h.g.row,(h.s.keepQ k).new (iD W' (w.heap.size+1) _ _ _) (by omega)⟩
theorem lV (w:World)(P B o:Nat)(x y z:Value)(h:B≠P):(((w.setCell ⟨P,0,none⟩ x).setCell ⟨P,1,none⟩ y).setCell ⟨P,2,none⟩ z).cell? ⟨B,o,none⟩=w.cell? ⟨B,o,none⟩:=by
 rw[iB _ _ _ _ _ _ (.inl (Ne.symm h)),iB _ _ _ _ _ _ (.inl (Ne.symm h)),iB _ _ _ _ _ _ (.inl (Ne.symm h))]
end
section
open Go.RowKit Flt
def n6 (n:Nat):Code->Option Code
 |.region i ops d=>if i=n then some (.region i ops d) else none
 |.seq a b=>match n6 n a with
  |some c=>some c
  |none=>n6 n b
 |.cond _ a b=>match n6 n a with
  |some c=>some c
  |none=>n6 n b
 |.block _ c=>n6 n c
 |.scope c=>n6 n c
 |.loop c=>n6 n c
 |_=>none
noncomputable def qT (n:Nat):Code:=(Tryz.f49.body.bind (n6 n)).getD .skip
theorem jg {P:Program}{c:Code}{K:Act->World->Prop}{Q:Exit->Act->World->Prop}{a:Act}{w:World}(h:c.wp P (Exit.then K λ_ _ _=>False) a w):c.wp P (Exit.then K Q) a w:=by
 refine wp_mono h ?_
 intro e a' w' hq
 cases e<;>first|exact hq|exact hq.elim
end
section
open Go.RowKit Flt
attribute [local go_sem] ic ib ia
variable {w:World} {b1 b3 a2:Option Addr} {m1 e1 m3 e3 base cap vk:Nat} {vs:List Vl} {o va vb vc tb:Int} {R R':Option Nat} {K:Act->World->Prop} {a b c d f h i j k l m n p q r s t u v x y z A B C D F G H I J L N O P Q S T U V X Y Z aa ab ad ae af ag ah ai aj ak al am an ao ap aq ar au av aw ax ay az aA aB aC aD aE aF aG dI aH dJ aI dK aJ dL aK dM aL aM aN aO aP aQ aR aS aT aU aV aW aX aY aZ a0 a1 a3 a4 a5 a6 a7 a8 a9 ba bb bc bd be bf bg bh bi bj bk bl bm bn bo bp bq br bs bt bu bv bw bx bz bA bB bC bD bE bF bG bH bI bJ dH bK bL bM bN bO bP bQ bR bS bT bU bV bW bX bY bZ b0 b2 b4 b5 b6 b7 b8 b9 ca cb cc cd ce cf cg ch ci cj ck cl dF cm dG cn co cp cq cr cs ct cu cv cw cx cy cz cA cB cC cD cE cF cG cH cI cJ cK cL cM cN cO cP cQ cR cS cT cU cV cW cX cY cZ c3 c5 da db dc dd de df dg dh di dj dk dl dm dp dq dr ds dt du dv dw dx dy dA dB dC dD dE:Value}
theorem B5 {W:World}{ln:Int}{ta:Int}{E M dn dz:Value}(HM:Hid (MS w W b1 m1 e1 b3 m3 e3 vs ⟨o,ln,va,vb,vc,vk⟩ base R R' a2 cap))(hbd:vs.length<=900000)
  (hk:∀(W':World) (g' cap':Nat) (u41 u42 u43 u44 u45 u46 u47 u48:Value),Hid (MS w W' b1 m1 e1 b3 m3 e3 (vs++[(ik o ln ta tb 0)]) ⟨o,ln,va,vb,vc,vk⟩ base R (some g') (some ⟨g',0,none⟩) cap')->K ⟨#[a,b,.int .i64 ta,.int .i64 tb,c,.pointer (some ⟨w.heap.size,0,none⟩),d,f,h,i,j,k,.pointer (some ⟨w.heap.size+1+1,0,none⟩),.int .i64 ln,l,m,n,p,q,r,s,t,u,x,y,z,A,B,C,D,E,F,G,H,I,J,L,M,N,O,P,u41,u42,u43,u44,u45,u46,u47,u48,Q,S,T,U,V,X,Y,Z,aa,ab,ad,ae,af,ag,ah,ai,aj,ak,al,am,an,ao,ap,aq,ar,au,av,aw,ax,ay,az,aA,aB,aC,aD,aE,aF,aG,aH,aI,aJ,aK,aL,aM,aN,aO,aP,aQ,aR,aS,aT,aU,aV,aW,aX,aY,aZ,a0,a1,a3,a4,a5,a6,a7,a8,a9,ba,bb,bc,bd,be,bf,bg,bh,bi,bj,bk,bl,bm,bn,bo,bp,bq,br,bs,bt,bu,bv,bw,bx,bz,bA,bB,bC,bD,bE,bF,bG,bH,bI,bJ,bK,bL,bM,bN,bO,bP,bQ,bR,bS,bT,bU,bV,bW,bX,bY,bZ,b0,b2,b4,b5,b6,b7,b8,b9,ca,cb,cc,cd,ce,cf,cg,ch,ci,cj,ck,cl,cm,cn,co,cp,cq,cr,cs,ct,cu,cv,cw,cx,cy,cz,cA,cB,cC,cD,cE,cF,cG,cH,cI,cJ,cK,cL,cM,cN,cO,cP,cQ,cR,cS,cT,cU,cV,cW,cX,cY,cZ,c3,c5,da,db,dc,dd,de,df,dg,dh,di,dj,dk,dl,dm,dn,dp,dq,dr,ds,dt,du,dv,dw,dx,dy,dz,dA,dB,dC,dD,dE],[]⟩ W'):
  Code.wp Tryz.prog (qT 5) (Exit.then K λ_ _ _=>False) ⟨#[a,b,.int .i64 ta,.int .i64 tb,c,.pointer (some ⟨w.heap.size,0,none⟩),d,f,h,i,j,k,.pointer (some ⟨w.heap.size+1+1,0,none⟩),.int .i64 ln,l,m,n,p,q,r,s,t,u,x,y,z,A,B,C,D,E,F,G,H,I,J,L,M,N,O,P,dF,dG,dH,dI,dJ,dK,dL,dM,Q,S,T,U,V,X,Y,Z,aa,ab,ad,ae,af,ag,ah,ai,aj,ak,al,am,an,ao,ap,aq,ar,au,av,aw,ax,ay,az,aA,aB,aC,aD,aE,aF,aG,aH,aI,aJ,aK,aL,aM,aN,aO,aP,aQ,aR,aS,aT,aU,aV,aW,aX,aY,aZ,a0,a1,a3,a4,a5,a6,a7,a8,a9,ba,bb,bc,bd,be,bf,bg,bh,bi,bj,bk,bl,bm,bn,bo,bp,bq,br,bs,bt,bu,bv,bw,bx,bz,bA,bB,bC,bD,bE,bF,bG,bH,bI,bJ,bK,bL,bM,bN,bO,bP,bQ,bR,bS,bT,bU,bV,bW,bX,bY,bZ,b0,b2,b4,b5,b6,b7,b8,b9,ca,cb,cc,cd,ce,cf,cg,ch,ci,cj,ck,cl,cm,cn,co,cp,cq,cr,cs,ct,cu,cv,cw,cx,cy,cz,cA,cB,cC,cD,cE,cF,cG,cH,cI,cJ,cK,cL,cM,cN,cO,cP,cQ,cR,cS,cT,cU,cV,cW,cX,cY,cZ,c3,c5,da,db,dc,dd,de,df,dg,dh,di,dj,dk,dl,dm,dn,dp,dq,dr,ds,dt,du,dv,dw,dx,dy,dz,dA,dB,dC,dD,dE],[]⟩ W:=by
 have HK:Hid _:=hk
 clear hk
 have s0:=HM.out.g.c0
 have s1:=HM.out.g.c1
 have s2:=HM.out.g.c2
 have v0:=HM.out.v.c0
 conv=>arg 2;whnf
 go_region_with (first
  |(go_at_call 50;refine Calls.mono (MS.call HM.out ((ie W).trans k1) (ik o ln ta tb 0) (by omega)) ?_;rintro e w2 ⟨g',cap',rfl,⟨u0,r0⟩,⟨u1,r1⟩,⟨u2,r2⟩,rf,_,hM2⟩;have rf0:=rf 0;have rf1:=rf 1;have rf2:=rf 2;clear rf)
  |(go_at_call 55;refine Calls.mono (lz _ _ _ _ _ _) ?_;rintro e w1 ⟨rfl,k1⟩;have p0:=(MS.keep HM.out ((ie W).trans k1)).g.c0;have p1:=(MS.keep HM.out ((ie W).trans k1)).g.c1;have p2:=(MS.keep HM.out ((ie W).trans k1)).g.c2))
 all_goals exact HK.out _ _ _ _ _ _ _ _ _ _ _ hM2
theorem CO {W:World}{ln:Int}{E M dn dz:Value}(HM:Hid (MS w W b1 m1 e1 b3 m3 e3 vs ⟨o,ln,va,vb,vc,vk⟩ base R R' a2 cap))(hbd:vs.length<=900000)
  (hk:∀(W':World) (g' cap':Nat) (u63 u64 u65 u66 u67:Value),Hid (MS w W' b1 m1 e1 b3 m3 e3 (vs++[(ik 6 ln tb 0 0)]) ⟨o,ln,va,vb,vc,vk⟩ base R (some g') (some ⟨g',0,none⟩) cap')->K ⟨#[a,b,c,.int .i64 tb,d,.pointer (some ⟨w.heap.size,0,none⟩),f,h,i,j,k,l,.pointer (some ⟨w.heap.size+1+1,0,none⟩),.int .i64 ln,m,n,p,q,r,s,t,u,v,x,y,z,A,B,C,D,E,F,G,H,I,J,L,M,N,O,P,Q,S,T,U,V,X,Y,Z,aa,ab,ad,ae,af,ag,ah,ai,aj,ak,al,am,an,ao,u63,u64,u65,u66,u67,ap,aq,ar,au,av,aw,ax,ay,az,aA,aB,aC,aD,aE,aF,aG,aH,aI,aJ,aK,aL,aM,aN,aO,aP,aQ,aR,aS,aT,aU,aV,aW,aX,aY,aZ,a0,a1,a3,a4,a5,a6,a7,a8,a9,ba,bb,bc,bd,be,bf,bg,bh,bi,bj,bk,bl,bm,bn,bo,bp,bq,br,bs,bt,bu,bv,bw,bx,bz,bA,bB,bC,bD,bE,bF,bG,bH,bI,bJ,bK,bL,bM,bN,bO,bP,bQ,bR,bS,bT,bU,bV,bW,bX,bY,bZ,b0,b2,b4,b5,b6,b7,b8,b9,ca,cb,cc,cd,ce,cf,cg,ch,ci,cj,ck,cl,cm,cn,co,cp,cq,cr,cs,ct,cu,cv,cw,cx,cy,cz,cA,cB,cC,cD,cE,cF,cG,cH,cI,cJ,cK,cL,cM,cN,cO,cP,cQ,cR,cS,cT,cU,cV,cW,cX,cY,cZ,c3,c5,da,db,dc,dd,de,df,dg,dh,di,dj,dk,dl,dm,dn,dp,dq,dr,ds,dt,du,dv,dw,dx,dy,dz,dA,dB,dC,dD,dE,dF,dG,dH],[]⟩ W'):
  Code.wp Tryz.prog (qT 10) (Exit.then K λ_ _ _=>False) ⟨#[a,b,c,.int .i64 tb,d,.pointer (some ⟨w.heap.size,0,none⟩),f,h,i,j,k,l,.pointer (some ⟨w.heap.size+1+1,0,none⟩),.int .i64 ln,m,n,p,q,r,s,t,u,v,x,y,z,A,B,C,D,E,F,G,H,I,J,L,M,N,O,P,Q,S,T,U,V,X,Y,Z,aa,ab,ad,ae,af,ag,ah,ai,aj,ak,al,am,an,ao,dI,dJ,dK,dL,dM,ap,aq,ar,au,av,aw,ax,ay,az,aA,aB,aC,aD,aE,aF,aG,aH,aI,aJ,aK,aL,aM,aN,aO,aP,aQ,aR,aS,aT,aU,aV,aW,aX,aY,aZ,a0,a1,a3,a4,a5,a6,a7,a8,a9,ba,bb,bc,bd,be,bf,bg,bh,bi,bj,bk,bl,bm,bn,bo,bp,bq,br,bs,bt,bu,bv,bw,bx,bz,bA,bB,bC,bD,bE,bF,bG,bH,bI,bJ,bK,bL,bM,bN,bO,bP,bQ,bR,bS,bT,bU,bV,bW,bX,bY,bZ,b0,b2,b4,b5,b6,b7,b8,b9,ca,cb,cc,cd,ce,cf,cg,ch,ci,cj,ck,cl,cm,cn,co,cp,cq,cr,cs,ct,cu,cv,cw,cx,cy,cz,cA,cB,cC,cD,cE,cF,cG,cH,cI,cJ,cK,cL,cM,cN,cO,cP,cQ,cR,cS,cT,cU,cV,cW,cX,cY,cZ,c3,c5,da,db,dc,dd,de,df,dg,dh,di,dj,dk,dl,dm,dn,dp,dq,dr,ds,dt,du,dv,dw,dx,dy,dz,dA,dB,dC,dD,dE,dF,dG,dH],[]⟩ W:=by
 have HK:Hid _:=hk
 clear hk
 have s0:=HM.out.g.c0
 have s1:=HM.out.g.c1
 have s2:=HM.out.g.c2
 conv=>arg 2;whnf
 go_region_with (first
  |(go_at_call 50;refine Calls.mono (MS.call HM.out ((ie W).trans k1) (ik 6 ln tb 0 0) (by omega)) ?_;rintro e w2 ⟨g',cap',rfl,⟨u0,r0⟩,⟨u1,r1⟩,⟨u2,r2⟩,rf,_,hM2⟩;have rf0:=rf 0;have rf1:=rf 1;have rf2:=rf 2;clear rf)
  |(go_at_call 55;refine Calls.mono (lz _ _ _ _ _ _) ?_;rintro e w1 ⟨rfl,k1⟩;have p0:=(MS.keep HM.out ((ie W).trans k1)).g.c0;have p1:=(MS.keep HM.out ((ie W).trans k1)).g.c1;have p2:=(MS.keep HM.out ((ie W).trans k1)).g.c2))
 all_goals exact HK.out _ _ _ _ _ _ _ _ hM2
theorem CP {W:World}{ln:Int}{p q jn:Int}{E M dN dn dz:Value}(HM:Hid (MS w W b1 m1 e1 b3 m3 e3 vs ⟨o,ln,va,vb,vc,vk⟩ base R R' a2 cap))(hbd:vs.length<=900000)
  (hk:∀(W':World) (g' cap':Nat) (u142 u143 u144 u145 u146 u147 u148:Value),Hid (MS w W' b1 m1 e1 b3 m3 e3 (vs++[(ik jn ln p q 0)]) ⟨o,ln,va,vb,vc,vk⟩ base R (some g') (some ⟨g',0,none⟩) cap')->K ⟨#[a,b,c,d,f,.pointer (some ⟨w.heap.size,0,none⟩),h,i,j,k,l,m,.pointer (some ⟨w.heap.size+1+1,0,none⟩),.int .i64 ln,.int .i64 p,.int .i64 q,.int .i64 jn,n,r,s,t,u,v,x,y,z,A,B,C,D,E,F,G,H,I,J,L,M,N,O,P,Q,S,T,U,V,X,Y,Z,aa,ab,ad,ae,af,ag,ah,ai,aj,ak,al,am,an,ao,ap,aq,ar,au,av,aw,ax,ay,az,aA,aB,aC,aD,aE,aF,aG,aH,aI,aJ,aK,aL,aM,aN,aO,aP,aQ,aR,aS,aT,aU,aV,aW,aX,aY,aZ,a0,a1,a3,a4,a5,a6,a7,a8,a9,ba,bb,bc,bd,be,bf,bg,bh,bi,bj,bk,bl,bm,bn,bo,bp,bq,br,bs,bt,bu,bv,bw,bx,bz,bA,bB,bC,bD,bE,bF,bG,bH,bI,bJ,u142,u143,u144,u145,u146,u147,u148,bK,bL,bM,bN,bO,bP,bQ,bR,bS,bT,bU,bV,bW,bX,bY,bZ,b0,b2,b4,b5,b6,b7,b8,b9,ca,cb,cc,cd,ce,cf,cg,ch,ci,cj,ck,cl,cm,cn,co,cp,cq,cr,cs,ct,cu,cv,cw,cx,cy,cz,cA,cB,cC,cD,cE,cF,cG,cH,cI,cJ,cK,cL,cM,cN,cO,cP,cQ,cR,cS,cT,cU,cV,cW,cX,cY,cZ,c5,da,db,dc,dd,de,df,dg,dh,di,dj,dk,dl,dm,dn,dp,dq,dr,ds,dt,du,dv,dw,dx,dy,dz,dA,dB,dC,dD,dE,dF,dG],[]⟩ W'):
  Code.wp Tryz.prog (qT 30) (Exit.then K λ_ _ _=>False) ⟨#[a,b,c,d,f,.pointer (some ⟨w.heap.size,0,none⟩),h,i,j,k,l,m,.pointer (some ⟨w.heap.size+1+1,0,none⟩),.int .i64 ln,.int .i64 p,.int .i64 q,.int .i64 jn,n,r,s,t,u,v,x,y,z,A,B,C,D,E,F,G,H,I,J,L,M,N,O,P,Q,S,T,U,V,X,Y,Z,aa,ab,ad,ae,af,ag,ah,ai,aj,ak,al,am,an,ao,ap,aq,ar,au,av,aw,ax,ay,az,aA,aB,aC,aD,aE,aF,aG,aH,aI,aJ,aK,aL,aM,aN,aO,aP,aQ,aR,aS,aT,aU,aV,aW,aX,aY,aZ,a0,a1,a3,a4,a5,a6,a7,a8,a9,ba,bb,bc,bd,be,bf,bg,bh,bi,bj,bk,bl,bm,bn,bo,bp,bq,br,bs,bt,bu,bv,bw,bx,bz,bA,bB,bC,bD,bE,bF,bG,bH,bI,bJ,dH,dI,dJ,dK,dL,dM,dN,bK,bL,bM,bN,bO,bP,bQ,bR,bS,bT,bU,bV,bW,bX,bY,bZ,b0,b2,b4,b5,b6,b7,b8,b9,ca,cb,cc,cd,ce,cf,cg,ch,ci,cj,ck,cl,cm,cn,co,cp,cq,cr,cs,ct,cu,cv,cw,cx,cy,cz,cA,cB,cC,cD,cE,cF,cG,cH,cI,cJ,cK,cL,cM,cN,cO,cP,cQ,cR,cS,cT,cU,cV,cW,cX,cY,cZ,c5,da,db,dc,dd,de,df,dg,dh,di,dj,dk,dl,dm,dn,dp,dq,dr,ds,dt,du,dv,dw,dx,dy,dz,dA,dB,dC,dD,dE,dF,dG],[]⟩ W:=by
 have HK:Hid _:=hk
 clear hk
 have s0:=HM.out.g.c0
 have s1:=HM.out.g.c1
 have s2:=HM.out.g.c2
 conv=>arg 2;whnf
 go_region_with (first
  |(go_at_call 50;refine Calls.mono (MS.call HM.out ((ie W).trans k1) (ik jn ln p q 0) (by omega)) ?_;rintro e w2 ⟨g',cap',rfl,⟨u0,r0⟩,⟨u1,r1⟩,⟨u2,r2⟩,rf,_,hM2⟩;have rf0:=rf 0;have rf1:=rf 1;have rf2:=rf 2;clear rf)
  |(go_at_call 55;refine Calls.mono (lz _ _ _ _ _ _) ?_;rintro e w1 ⟨rfl,k1⟩;have p0:=(MS.keep HM.out ((ie W).trans k1)).g.c0;have p1:=(MS.keep HM.out ((ie W).trans k1)).g.c1;have p2:=(MS.keep HM.out ((ie W).trans k1)).g.c2))
 all_goals exact HK.out _ _ _ _ _ _ _ _ _ _ hM2
end
end Go.Proofs.YtnlffngpnoodkaaGreat
