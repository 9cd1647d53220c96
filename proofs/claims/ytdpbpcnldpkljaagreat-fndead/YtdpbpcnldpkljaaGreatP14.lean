import Derived.Test.YtdpbpcnldpkljaaGreatP13
namespace Go.Proofs.Z
open Tryz
set_option maxRecDepth 1000000
set_option maxHeartbeats 0
section
open Go.RowKit Flt
attribute [local go_sem] eD eB eA
variable {Q:Nat->Prop} {w W' W1 w':World} {p P m1 e1 m3 e3 base g' cap:Nat} {b1 b3 a2:Option Addr} {R R':Option Nat} {vs:List Vl}
theorem xy (w:World)(a1 a2 a3:Option Addr)(n1 c1 n2 c2 n3 c3:Nat)(a n:Int)(h:0<=a):
  Calls prog 153 #[eR a1 n1 c1 a2 n2 c2 a3 n3 c3,.int .i64 a,.int .i64 n] w λe w'=>e=.returned (.tuple #[eR a1 n1 c1 a2 n2 c2 a3 n3 c3,.int .i64 a])/\Kept 0 0 w w':=by
 go_enter func153,ntmps153
 go_wp2_with fail
 refine yay (v:=.tuple #[eR a1 n1 c1 a2 n2 c2 a3 n3 c3,.int .i64 a]) (by simp[results,results153,go_sem]) rfl ⟨rfl,(ez 0 0 w _).trans (ez 0 0 _ _)⟩
structure SG (w:World)(P:Nat)(b1:Option Addr)(m1 e1:Nat)(b3:Option Addr)(m3 e3:Nat)(vs:List Vl)(base:Nat)(R:Option Nat)(a2:Option Addr)(cap:Nat):Prop where
 lt:P<w.heap.size
 free:∀o,w.frozen? ⟨P,o,none⟩=false
 c0:w.cell? ⟨P,0,none⟩=some (.slice b1 m1 e1)
 c1:w.cell? ⟨P,1,none⟩=some (.slice a2 vs.length cap)
 c2:w.cell? ⟨P,2,none⟩=some (.slice b3 m3 e3)
 own:w.ownsRow base 35 6 (.slice a2 vs.length cap) vs.length (fp vs)
 row:(Value.slice a2 vs.length cap).ownBlock=R
 ne:R≠some P
 sz:base<=w.heap.size
theorem SG.keep (h:SG w P b1 m1 e1 b3 m3 e3 vs base R a2 cap)(k:Kept 0 0 w w'):SG w' P b1 m1 e1 b3 m3 e3 vs base R a2 cap:=
 have e:∀o,w'.cell? ⟨P,o,none⟩=w.cell? ⟨P,o,none⟩:=λo=>k.cell (p:=⟨P,o,none⟩) h.lt xaa
 ⟨yaj h.lt k.size,λo=>by rw[k.frozen (p:=⟨P,o,none⟩) h.lt xaa];exact h.free o,by rw[e];exact h.c0,by rw[e];exact h.c1,by rw[e];exact h.c2,eO h.own k,h.row,h.ne,yan h.sz k.size⟩
def fe (w:World)(P:Nat)(x y z:Value):World:=((w.setCell ⟨P,0,none⟩ x).setCell ⟨P,1,none⟩ y).setCell ⟨P,2,none⟩ z
theorem SG.put {w w1 w2:World}{P m1 e1 m3 e3 base cap g' cap':Nat}{b1 b3 a2:Option Addr}{vs:List Vl}{v:Vl}{R:Option Nat}(h:SG w P b1 m1 e1 b3 m3 e3 vs base R a2 cap)(k:Kept 0 0 w w1)
  (own:w2.ownsRow base 35 6 (.slice (some ⟨g',0,none⟩) (vs.length+1) cap') (vs.length+1) (fp (vs++[v]))) (s:StQ (λ_=>False) R w1 (some g') w2):
  SG (fe w2 P (.slice b1 m1 e1) (.slice (some ⟨g',0,none⟩) (vs.length+1) cap') (.slice b3 m3 e3)) P b1 m1 e1 b3 m3 e3 (vs++[v]) base (some g') (some ⟨g',0,none⟩) cap'/\StQ (λi=>i=P) R w (some g') (fe w2 P (.slice b1 m1 e1) (.slice (some ⟨g',0,none⟩) (vs.length+1) cap') (.slice b3 m3 e3)):=by
 have hlt:=h.lt
 have hsz:=k.size
 have hne:g'≠P:=by
  rcases s.row with e|⟨r,e,hr⟩
  ·exact λc=>h.ne (by rw[<-e,c])
  ·cases e;omega
 have hb:w2.heap[P]? =w1.heap[P]?:=s.chg.block P xaa (by rintro (c|c);exact c;exact h.ne c)
 have e:∀o,w2.cell? ⟨P,o,none⟩=w.cell? ⟨P,o,none⟩:=λo=>(World.cell?_of_block (w:=w1) (a:=⟨P,o,none⟩) hb).trans (k.cell (p:=⟨P,o,none⟩) h.lt xaa)
 have ef:∀o,w2.frozen? ⟨P,o,none⟩=w.frozen? ⟨P,o,none⟩:=λo=>(World.frozen?_of_block (w:=w1) (a:=⟨P,o,none⟩) hb).trans (k.frozen (p:=⟨P,o,none⟩) h.lt xaa)
 obtain⟨y0,y1,y2⟩:=eY w2 P _ _ _ ((e 0).trans h.c0) ((e 1).trans h.c1) ((e 2).trans h.c2) (.slice b1 m1 e1) (.slice (some ⟨g',0,none⟩) (vs.length+1) cap') (.slice b3 m3 e3)
 have kp:=fc w2 P (.slice b1 m1 e1) (.slice (some ⟨g',0,none⟩) (vs.length+1) cap') (.slice b3 m3 e3)
 have hl:(vs++[v]).length=vs.length+1:=by simp
 have nB:(Value.slice (some ⟨g',0,none⟩) (vs.length+1) cap').ownBlock≠some P:=λc=>hne (by simpa[Value.ownBlock] using c)
 refine⟨⟨?_,λo=>?_,y0,by rw[hl];exact y1,y2,?_,rfl,λc=>hne (by simpa using c),?_⟩,⟨?_,?_,?_,?_,λi hi hn=>?_⟩,?_⟩
 ·have:=kp.size;have:=s.chg.size;unfold fe;omega
 ·unfold fe;simp[ef o,h.free o]
 ·rw[hl];exact eH (eH (eH own nB) nB) nB
 ·have:=kp.size;have:=s.chg.size;have:=h.sz;unfold fe;omega
 ·exact kp.os.trans (s.chg.os.trans k.os)
 ·exact kp.tape.trans (s.chg.tape.trans k.tape)
 ·exact kp.output.trans (s.chg.output.trans k.output)
 ·have:=kp.size;have:=s.chg.size;unfold fe;omega
 ·unfold fe
  rw[kp.block i (by have:=s.chg.size;omega) (λc=>hn (.inl xaa)),s.chg.block i xaa (by rintro (c|c);exact c;exact hn (.inr c))]
  exact k.block i hi xaa
 ·exact xja
theorem SG.call {w w1:World}{P m1 e1 m3 e3 base cap:Nat}{b1 b3 a2:Option Addr}{vs:List Vl}{R:Option Nat}(h:SG w P b1 m1 e1 b3 m3 e3 vs base R a2 cap)(k:Kept 0 0 w w1)(v:Vl)(hn:vs.length<=1000000):
  Calls prog 24 #[eR b1 m1 e1 a2 vs.length cap b3 m3 e3,v.agg] w1 λe w2=>∃g' cap',e=.returned (eR b1 m1 e1 (some ⟨g',0,none⟩) (vs.length+1) cap' b3 m3 e3)/\
   (∃u,w2.cell? ⟨P,0,none⟩=some u)/\(∃u,w2.cell? ⟨P,1,none⟩=some u)/\(∃u,w2.cell? ⟨P,2,none⟩=some u)/\(∀o,w2.frozen? ⟨P,o,none⟩=false)/\
   Hid (SG (fe w2 P (.slice b1 m1 e1) (.slice (some ⟨g',0,none⟩) (vs.length+1) cap') (.slice b3 m3 e3)) P b1 m1 e1 b3 m3 e3 (vs++[v]) base (some g') (some ⟨g',0,none⟩) cap'/\StQ (λi=>i=P) R w (some g') (fe w2 P (.slice b1 m1 e1) (.slice (some ⟨g',0,none⟩) (vs.length+1) cap') (.slice b3 m3 e3))):=by
 have h1:=h.keep k
 refine(oj w1 b1 a2 b3 m1 e1 cap m3 e3 base vs v h1.own h1.sz hn).mono ?_
 rintro e w2 ⟨g',cap',rfl,own,s⟩
 rw[h.row] at s
 have hb:w2.heap[P]? =w1.heap[P]?:=s.chg.block P h1.lt (by rintro (c|c);exact c;exact h.ne c)
 have e:∀o,w2.cell? ⟨P,o,none⟩=w1.cell? ⟨P,o,none⟩:=λo=>World.cell?_of_block (w:=w1) (a:=⟨P,o,none⟩) hb
 have ef:∀o,w2.frozen? ⟨P,o,none⟩=w1.frozen? ⟨P,o,none⟩:=λo=>World.frozen?_of_block (w:=w1) (a:=⟨P,o,none⟩) hb
 exact⟨g',cap',rfl,⟨_,(e 0).trans h1.c0⟩,⟨_,(e 1).trans h1.c1⟩,⟨_,(e 2).trans h1.c2⟩,λo=>by rw[ef];exact h1.free o,h.put k own s⟩
theorem RB.stq {W:World}{b0 b1 b2:Value}(t:RB W p b0 b1 b2)(s:StQ (λi=>i=P) R W R' W')(hp:p≠P)(hR:R≠some p):RB W' p b0 b1 b2:=by
 have hn:¬((λi=>i=P) p\/R=some p):=by rintro (c|c);exact hp c;exact hR c
 have e:∀o,W'.cell? ⟨p,o,none⟩=W.cell? ⟨p,o,none⟩:=λo=>s.chg.cell (p:=⟨p,o,none⟩) t.sz hn
 have f:∀o,W'.frozen? ⟨p,o,none⟩=W.frozen? ⟨p,o,none⟩:=λo=>s.chg.frozen (p:=⟨p,o,none⟩) t.sz hn
 exact⟨yaj t.sz s.chg.size,by rw[e];exact t.q0,by rw[e];exact t.q1,by rw[e];exact t.q2,by rw[f];exact t.f0,by rw[f];exact t.f1,by rw[f];exact t.f2⟩
theorem StQ.keepQ {w'':World}(s:StQ Q R w R' w')(k:Kept 0 0 w' w''):StQ Q R w R' w'':=s.new (l:=w.heap.size) (h:=w.heap.size) (k.mono λ_ _ c=>by omega) yad
theorem StQ.drop {wB:World}(s:StQ (λi=>i=P) R wB R' W')(k:Kept 0 0 w wB)(hP:w.heap.size<=P):StQ (λ_=>False) R w R' W':=
 ⟨⟨s.chg.os.trans k.os,s.chg.tape.trans k.tape,s.chg.output.trans k.output,yan k.size s.chg.size,λi hi hn=>by
   rw[s.chg.block i (yaj hi k.size) (by rintro (c|c);exact absurd c xaa;exact hn (.inr c))]
   exact k.block i hi xaa⟩,by
   rcases s.row with c|⟨r,c,hr⟩
   ·exact .inl c
   ·exact .inr ⟨r,c,yan k.size hr⟩⟩
theorem StQ.far {B:Nat}(s:StQ Q R w (some g') W')(hB:B<w.heap.size)(hR:R≠some B):g'≠B:=by
 rcases s.row with c|⟨r,c,hr⟩
 ·exact λe=>hR (by rw[<-c,e])
 ·cases c;omega
theorem xz (w:World)(b1 a2 b3:Option Addr)(m1 e1 cap m3 e3 base:Nat)(vs:List Vl)(a n:Int)(h:w.ownsRow base 35 6 (.slice a2 vs.length cap) vs.length (fp vs))(hb:base<=w.heap.size)(hn:vs.length<=900000)(ha:a<0):
  Calls prog 153 #[eR b1 m1 e1 a2 vs.length cap b3 m3 e3,.int .i64 a,.int .i64 n] w λe w'=>∃g' cap',e=.returned (.tuple #[eR b1 m1 e1 (some ⟨g',0,none⟩) (vs.length+1) cap' b3 m3 e3,.int .i64 (vs.length:Nat)])/\w'.ownsRow base 35 6 (.slice (some ⟨g',0,none⟩) (vs.length+1) cap') (vs.length+1) (fp (vs++[eI 1 n 0 0 0]))/\StQ (λ_=>False) (Value.slice a2 vs.length cap).ownBlock w (some g') w':=by
 have k1:=ez 0 0 w (eP b1 m1 e1 a2 vs.length cap b3 m3 e3)
 have k2:=ez 0 0 (w.alloc (eP b1 m1 e1 a2 vs.length cap b3 m3 e3)) eZ
 have hG:=(fE w (.slice b1 m1 e1) (.slice a2 vs.length cap) (.slice b3 m3 e3)).keep k2
 have hS:SG ((w.alloc (eP b1 m1 e1 a2 vs.length cap b3 m3 e3)).alloc eZ) w.heap.size b1 m1 e1 b3 m3 e3 vs base (Value.slice a2 vs.length cap).ownBlock a2 cap:=
  ⟨hG.sz,λo=>by simp,hG.q0,hG.q1,hG.q2,eO h (k1.trans k2),rfl,λe=>by have:=(eG h e).2;omega,by simp;omega⟩
 have hN:=fZ (w.alloc (eP b1 m1 e1 a2 vs.length cap b3 m3 e3))
 rw[show(w.alloc (eP b1 m1 e1 a2 vs.length cap b3 m3 e3)).heap.size=w.heap.size+1 by simp] at hN
 have HN:Hid _:=hN
 have HS:Hid _:=hS
 have HK:Hid _:=k1.trans k2
 have HR:Hid (∀B,w.heap.size<=B->(Value.slice a2 vs.length cap).ownBlock≠some B):=λB hB e=>by have:=(eG h e).2;omega
 have p0:=hS.c0
 have p1:=hS.c1
 have p2:=hS.c2
 have f0:=hS.free
 clear h k1 k2 hG hS hN
 go_enter func153,ntmps153
 go_upto_region 3 with fail
 generalize (w.alloc (eP b1 m1 e1 a2 vs.length cap b3 m3 e3)).alloc eZ=wB at HN HS HK p0 p1 p2 f0 ⊢
 go_cut [] (λwx=>∃g' cap',Hid (SG wx w.heap.size b1 m1 e1 b3 m3 e3 (vs++[eI 1 n 0 0 0]) base (some g') (some ⟨g',0,none⟩) cap'/\StQ (λi=>i=w.heap.size) (Value.slice a2 vs.length cap).ownBlock wB (some g') wx))
 case first=>
  go_region_with (first
   |(go_at_call 24;refine yai (SG.call HS.out ((eC wB).trans k1) (eI 1 n 0 0 0) xaa) ?_;rintro e w2 ⟨g',cap',rfl,⟨u0,r0⟩,⟨u1,r1⟩,⟨u2,r2⟩,rf,hS2⟩)
   |(go_at_call 41;refine yai (lY _ _) ?_;rintro e w1 ⟨rfl,k1⟩;obtain⟨_,_,s0,s1,s2,_,_,_,_⟩:=SG.keep HS.out ((eC wB).trans k1)))
  all_goals (go_wp2_with fail;go_meet;exact⟨g',cap',hS2⟩)
 case rest=>
  obtain⟨g',cap',hS2⟩:=hcut
  have hl:(vs++[eI 1 n 0 0 0]).length=vs.length+1:=by simp
  obtain⟨z1,z2,z3,z4,z5,z6,z7,z8,z9⟩:=hS2.out.1
  have hRow:(Value.slice a2 vs.length cap).ownBlock≠some (w.heap.size+1):=λe=>HR.out _ xaa e
  have HN2:Hid _:=RB.stq HN.out hS2.out.2 xaa hRow
  rw[hl] at z4 z6
  have HO:Hid _:=z6
  clear z1 z2 z6 z7 z8 z9 p0 p1 p2 f0
  have HLast:Hid (∀W:World,_):=λW=>ir W b1 (some ⟨g',0,none⟩) b3 m1 e1 (vs.length+1) cap' m3 e3 xaa
  rw[show((vs.length+1:Nat):Int)-1=(vs.length:Nat) by omega] at HLast
  have HKC:Hid (∀W,Kept 0 0 wc W->SG W w.heap.size b1 m1 e1 b3 m3 e3 (vs++[eI 1 n 0 0 0]) base (some g') (some ⟨g',0,none⟩) cap'/\RB W (w.heap.size+1) (.slice none 0 0) (.slice none 0 0) (.slice none 0 0)):=λW k=>⟨hS2.out.1.keep k,RB.keep HN2.out k⟩
  have HFin:Hid (∀W,Kept 0 0 wc W->(fe W (w.heap.size+1) (.slice b1 m1 e1) (.slice (some ⟨g',0,none⟩) (vs.length+1) cap') (.slice b3 m3 e3)).ownsRow base 35 6 (.slice (some ⟨g',0,none⟩) (vs.length+1) cap') (vs.length+1) (fp (vs++[eI 1 n 0 0 0]))/\StQ (λ_=>False) (Value.slice a2 vs.length cap).ownBlock w (some g') (fe W (w.heap.size+1) (.slice b1 m1 e1) (.slice (some ⟨g',0,none⟩) (vs.length+1) cap') (.slice b3 m3 e3))):=λW k=>by
   have hne:g'≠w.heap.size+1:=hS2.out.2.far HN.out.sz hRow
   have nB:(Value.slice (some ⟨g',0,none⟩) (vs.length+1) cap').ownBlock≠some (w.heap.size+1):=λc=>hne (by simpa[Value.ownBlock] using c)
   refine⟨eH (eH (eH (eO HO.out k) nB) nB) nB,?_⟩
   exact((hS2.out.2.drop HK.out yad).keepQ k).new (fc W (w.heap.size+1) _ _ _) xaa
  clear HN HS HN2 HO HR hRow
  go_upto_region 4 with fail
  go_region_with (first
   |(go_at_call 27;refine yai (HLast.out _) ?_;rintro e w3 ⟨rfl,k3⟩;obtain⟨⟨_,_,s0,s1,s2,_,_,_,_⟩,⟨_,t0,t1,t2,x0,x1,x2⟩⟩:=HKC.out w3 ((eC wc).trans k3);rw[hl] at s1;have HF3:Hid _:=HFin.out w3 ((eC wc).trans k3)))
  all_goals
   go_wp2_with fail
   obtain⟨y0,y1,y2⟩:=eY w3 (w.heap.size+1) _ _ _ t0 t1 t2 (.slice b1 m1 e1) (.slice (some ⟨g',0,none⟩) (vs.length+1) cap') (.slice b3 m3 e3)
   refine yay (v:=.tuple #[eR b1 m1 e1 (some ⟨g',0,none⟩) (vs.length+1) cap' b3 m3 e3,.int .i64 (vs.length:Nat)]) (by simp[results,results153,go_sem,y0,y1,y2]) rfl ⟨g',cap',rfl,HF3.out.1,HF3.out.2⟩
def MvP (w:World)(b1:Option Addr)(m1 e1:Nat)(b3:Option Addr)(m3 e3:Nat)(vs:List Vl)(base:Nat)(R:Option Nat)(M:List Vl×Int)(e:Ending)(w':World):Prop:=
 ∃a2' cap' R',e=.returned (.tuple #[eR b1 m1 e1 a2' (vs++M.1).length cap' b3 m3 e3,.int .i64 M.2])/\w'.ownsRow base 35 6 (.slice a2' (vs++M.1).length cap') (vs++M.1).length (fp (vs++M.1))/\(Value.slice a2' (vs++M.1).length cap').ownBlock=R'/\StQ (λ_=>False) R w R' w'
theorem At.stq {W:World}{o:Nat}{v:Vl}(t:At W p o v)(hl:p<W.heap.size)(s:StQ (λi=>i=P) R W R' W')(hp:p≠P)(hR:R≠some p):At W' p o v:=by
 have hn:¬((λi=>i=P) p\/R=some p):=by rintro (c|c);exact hp c;exact hR c
 have e:∀o,W'.cell? ⟨p,o,none⟩=W.cell? ⟨p,o,none⟩:=λo=>s.chg.cell (p:=⟨p,o,none⟩) hl hn
 obtain⟨q0,q1,q2,q3,q4,q5⟩:=t
 exact⟨by rw[e];exact q0,by rw[e];exact q1,by rw[e];exact q2,by rw[e];exact q3,by rw[e];exact q4,by rw[e];exact q5⟩
theorem StQ.seq {Q':Nat->Prop}{W:World}{R'':Option Nat}(a:StQ Q R w R' W)(b:StQ Q' R' W R'' W')(h:∀i,i<w.heap.size->¬Q' i):StQ Q R w R'' W' where
 chg:=⟨b.chg.os.trans a.chg.os,b.chg.tape.trans a.chg.tape,b.chg.output.trans a.chg.output,yan a.chg.size b.chg.size,λk hk hn=>by
  rw[b.chg.block k (yaj hk a.chg.size) ?_]
  ·exact a.chg.block k hk hn
  ·rintro (c|c)
   ·exact h k hk c
   ·rcases a.row with e|⟨r,e,hr⟩
    ·exact hn (.inr (by rw[<-e];exact c))
    ·rw[e] at c;cases c;omega⟩
 row:=by
  rcases b.row with e|⟨r,e,hr⟩
  ·rw[e];exact a.row
  ·exact .inr ⟨r,e,yan a.chg.size hr⟩
structure MS (w W:World)(b1:Option Addr)(m1 e1:Nat)(b3:Option Addr)(m3 e3:Nat)(vs:List Vl)(v:Vl)(base:Nat)(R R':Option Nat)(a2:Option Addr)(cap:Nat):Prop where
 g:SG W w.heap.size b1 m1 e1 b3 m3 e3 vs base R' a2 cap
 b:RB W (w.heap.size+1) (.slice none 0 0) (.slice none 0 0) (.slice none 0 0)
 v:At W (w.heap.size+1+1) 0 v
 lt:w.heap.size+1+1<W.heap.size
 n1:R'≠some (w.heap.size+1)
 n2:R'≠some (w.heap.size+1+1)
 s:StQ (λ_=>False) R w R' W
theorem MS.keep {W:World}{v:Vl}(h:MS w W b1 m1 e1 b3 m3 e3 vs v base R R' a2 cap)(k:Kept 0 0 W W'):MS w W' b1 m1 e1 b3 m3 e3 vs v base R R' a2 cap:=
 ⟨h.g.keep k,h.b.keep k,h.v.keep h.lt k yaa,yaj h.lt k.size,h.n1,h.n2,h.s.keepQ k⟩
theorem MS.start (v:Vl)(h:w.ownsRow base 35 6 (.slice a2 vs.length cap) vs.length (fp vs))(hb:base<=w.heap.size):
  MS w (((w.alloc (eP b1 m1 e1 a2 vs.length cap b3 m3 e3)).alloc eZ).alloc (fX v.op v.len v.a v.b v.c v.k)) b1 m1 e1 b3 m3 e3 vs v base (Value.slice a2 vs.length cap).ownBlock (Value.slice a2 vs.length cap).ownBlock a2 cap:=by
 have k1:=ez 0 0 w (eP b1 m1 e1 a2 vs.length cap b3 m3 e3)
 have k2:=ez 0 0 (w.alloc (eP b1 m1 e1 a2 vs.length cap b3 m3 e3)) eZ
 have k3:=ez 0 0 ((w.alloc (eP b1 m1 e1 a2 vs.length cap b3 m3 e3)).alloc eZ) (fX v.op v.len v.a v.b v.c v.k)
 have hG:=((fE w (.slice b1 m1 e1) (.slice a2 vs.length cap) (.slice b3 m3 e3)).keep k2).keep k3
 have hR:∀B,w.heap.size<=B->(Value.slice a2 vs.length cap).ownBlock≠some B:=λB hB e=>by have:=(eG h e).2;omega
 have hN:=fZ (w.alloc (eP b1 m1 e1 a2 vs.length cap b3 m3 e3))
 rw[show(w.alloc (eP b1 m1 e1 a2 vs.length cap b3 m3 e3)).heap.size=w.heap.size+1 by simp] at hN
 have hV:=lA ((w.alloc (eP b1 m1 e1 a2 vs.length cap b3 m3 e3)).alloc eZ) v
 rw[show((w.alloc (eP b1 m1 e1 a2 vs.length cap b3 m3 e3)).alloc eZ).heap.size=w.heap.size+1+1 by simp] at hV
 exact⟨⟨hG.sz,λo=>by rw[(k2.trans k3).frozen (p:=⟨w.heap.size,o,none⟩) xac xaa];simp,hG.q0,hG.q1,hG.q2,eO h ((k1.trans k2).trans k3),rfl,hR _ yad,by simp;omega⟩,hN.keep k3,hV,by simp,hR _ xaa,hR _ xaa,(StQ.refl _ _ w).keepQ ((k1.trans k2).trans k3)⟩
theorem MS.next {W w2:World}{cap':Nat}{v u:Vl}(h:MS w W b1 m1 e1 b3 m3 e3 vs v base R R' a2 cap)(k:Kept 0 0 W W1)
  (own:w2.ownsRow base 35 6 (.slice (some ⟨g',0,none⟩) (vs.length+1) cap') (vs.length+1) (fp (vs++[u]))) (s:StQ (λ_=>False) R' W1 (some g') w2):
  (∃u,w2.cell? ⟨w.heap.size,0,none⟩=some u)/\(∃u,w2.cell? ⟨w.heap.size,1,none⟩=some u)/\(∃u,w2.cell? ⟨w.heap.size,2,none⟩=some u)/\(∀o,w2.frozen? ⟨w.heap.size,o,none⟩=false)/\At w2 (w.heap.size+1+1) 0 v/\
   Hid (MS w (fe w2 w.heap.size (.slice b1 m1 e1) (.slice (some ⟨g',0,none⟩) (vs.length+1) cap') (.slice b3 m3 e3)) b1 m1 e1 b3 m3 e3 (vs++[u]) v base R (some g') (some ⟨g',0,none⟩) cap'):=by
 have h1:=h.g.keep k
 obtain⟨q1,q2⟩:=h.g.put k own s
 have hb:w2.heap[w.heap.size]? =W1.heap[w.heap.size]?:=s.chg.block w.heap.size h1.lt (by rintro (c|c);exact c;exact h.g.ne c)
 have e:∀o,w2.cell? ⟨w.heap.size,o,none⟩=W1.cell? ⟨w.heap.size,o,none⟩:=λo=>World.cell?_of_block (w:=W1) (a:=⟨w.heap.size,o,none⟩) hb
 have ef:∀o,w2.frozen? ⟨w.heap.size,o,none⟩=W1.frozen? ⟨w.heap.size,o,none⟩:=λo=>World.frozen?_of_block (w:=W1) (a:=⟨w.heap.size,o,none⟩) hb
 have hv:At w2 (w.heap.size+1+1) 0 v:=by
  have hl:=yaj h.lt k.size
  have ec:∀o,w2.cell? ⟨w.heap.size+1+1,o,none⟩=W1.cell? ⟨w.heap.size+1+1,o,none⟩:=λo=>s.chg.cell (p:=⟨w.heap.size+1+1,o,none⟩) hl (by rintro (c|c);exact c;exact h.n2 c)
  obtain⟨q0,q1,q2,q3,q4,q5⟩:=h.v.keep h.lt k yaa
  exact⟨by rw[ec];exact q0,by rw[ec];exact q1,by rw[ec];exact q2,by rw[ec];exact q3,by rw[ec];exact q4,by rw[ec];exact q5⟩
 exact⟨⟨_,(e 0).trans h1.c0⟩,⟨_,(e 1).trans h1.c1⟩,⟨_,(e 2).trans h1.c2⟩,λo=>by rw[ef];exact h1.free o,hv,q1,h.b.stq q2 xaa h.n1,h.v.stq h.lt q2 xaa h.n2,yaj h.lt q2.chg.size,
  λc=>q2.far (Nat.lt_trans yae h.lt) h.n1 (by simpa using c),λc=>q2.far h.lt h.n2 (by simpa using c),h.s.seq q2 (λi hi c=>by omega)⟩
theorem MS.call {w W W1:World}{m1 e1 m3 e3 base cap:Nat}{b1 b3 a2:Option Addr}{vs:List Vl}{v:Vl}{R R':Option Nat}(h:MS w W b1 m1 e1 b3 m3 e3 vs v base R R' a2 cap)(k:Kept 0 0 W W1)(u:Vl)(hn:vs.length<=1000000):
  Calls prog 24 #[eR b1 m1 e1 a2 vs.length cap b3 m3 e3,u.agg] W1 λe w2=>∃g' cap',e=.returned (eR b1 m1 e1 (some ⟨g',0,none⟩) (vs.length+1) cap' b3 m3 e3)/\
   (∃u,w2.cell? ⟨w.heap.size,0,none⟩=some u)/\(∃u,w2.cell? ⟨w.heap.size,1,none⟩=some u)/\(∃u,w2.cell? ⟨w.heap.size,2,none⟩=some u)/\(∀o,w2.frozen? ⟨w.heap.size,o,none⟩=false)/\At w2 (w.heap.size+1+1) 0 v/\
   Hid (MS w (fe w2 w.heap.size (.slice b1 m1 e1) (.slice (some ⟨g',0,none⟩) (vs.length+1) cap') (.slice b3 m3 e3)) b1 m1 e1 b3 m3 e3 (vs++[u]) v base R (some g') (some ⟨g',0,none⟩) cap'):=by
 have h1:=h.g.keep k
 refine(oj W1 b1 a2 b3 m1 e1 cap m3 e3 base vs u h1.own h1.sz hn).mono ?_
 exact xih
theorem MS.orNone {W:World}{v:Vl}(h:MS w W b1 m1 e1 b3 m3 e3 vs v base R R' a2 cap)(k:Kept 0 0 W W1)(a n:Int)(ha:a<0)(hn:vs.length<=900000):
  Calls prog 153 #[eR b1 m1 e1 a2 vs.length cap b3 m3 e3,.int .i64 a,.int .i64 n] W1 λe w2=>∃g' cap',e=.returned (.tuple #[eR b1 m1 e1 (some ⟨g',0,none⟩) (vs.length+1) cap' b3 m3 e3,.int .i64 (vs.length:Nat)])/\
   (∃u,w2.cell? ⟨w.heap.size,0,none⟩=some u)/\(∃u,w2.cell? ⟨w.heap.size,1,none⟩=some u)/\(∃u,w2.cell? ⟨w.heap.size,2,none⟩=some u)/\(∀o,w2.frozen? ⟨w.heap.size,o,none⟩=false)/\At w2 (w.heap.size+1+1) 0 v/\
   Hid (MS w (fe w2 w.heap.size (.slice b1 m1 e1) (.slice (some ⟨g',0,none⟩) (vs.length+1) cap') (.slice b3 m3 e3)) b1 m1 e1 b3 m3 e3 (vs++[eI 1 n 0 0 0]) v base R (some g') (some ⟨g',0,none⟩) cap'):=by
 have h1:=h.g.keep k
 refine(xz W1 b1 a2 b3 m1 e1 cap m3 e3 base vs a n h1.own h1.sz hn ha).mono ?_
 exact xih
theorem MS.orSome {W:World}{v:Vl}(h:MS w W b1 m1 e1 b3 m3 e3 vs v base R R' a2 cap)(k:Kept 0 0 W W1)(a n:Int)(ha:0<=a):
  Calls prog 153 #[eR b1 m1 e1 a2 vs.length cap b3 m3 e3,.int .i64 a,.int .i64 n] W1 λe w2=>e=.returned (.tuple #[eR b1 m1 e1 a2 vs.length cap b3 m3 e3,.int .i64 a])/\
   (∃u,w2.cell? ⟨w.heap.size,0,none⟩=some u)/\(∃u,w2.cell? ⟨w.heap.size,1,none⟩=some u)/\(∃u,w2.cell? ⟨w.heap.size,2,none⟩=some u)/\(∀o,w2.frozen? ⟨w.heap.size,o,none⟩=false)/\At w2 (w.heap.size+1+1) 0 v/\
   Hid (MS w (fe w2 w.heap.size (.slice b1 m1 e1) (.slice a2 vs.length cap) (.slice b3 m3 e3)) b1 m1 e1 b3 m3 e3 vs v base R R' a2 cap):=by
 refine(xy W1 b1 a2 b3 m1 e1 vs.length cap m3 e3 a n ha).mono ?_
 rintro e w2 ⟨rfl,k2⟩
 have h2:=h.keep (k.trans k2)
 have kp:=fc w2 w.heap.size (.slice b1 m1 e1) (.slice a2 vs.length cap) (.slice b3 m3 e3)
 obtain⟨y0,y1,y2⟩:=eY w2 w.heap.size _ _ _ h2.g.c0 h2.g.c1 h2.g.c2 (.slice b1 m1 e1) (.slice a2 vs.length cap) (.slice b3 m3 e3)
 have nB:(Value.slice a2 vs.length cap).ownBlock≠some w.heap.size:=by rw[h2.g.row];exact h2.g.ne
 have eb:∀B o,B≠w.heap.size->B<w2.heap.size->(fe w2 w.heap.size (.slice b1 m1 e1) (.slice a2 vs.length cap) (.slice b3 m3 e3)).cell? ⟨B,o,none⟩=w2.cell? ⟨B,o,none⟩:=λB o hB hl=>kp.cell (p:=⟨B,o,none⟩) hl (by show ¬(w.heap.size<=B/\B<w.heap.size+1);omega)
 have ef:∀B o,B≠w.heap.size->B<w2.heap.size->(fe w2 w.heap.size (.slice b1 m1 e1) (.slice a2 vs.length cap) (.slice b3 m3 e3)).frozen? ⟨B,o,none⟩=w2.frozen? ⟨B,o,none⟩:=λB o hB hl=>kp.frozen (p:=⟨B,o,none⟩) hl (by show ¬(w.heap.size<=B/\B<w.heap.size+1);omega)
 obtain⟨bz,t0,t1,t2,x0,x1,x2⟩:=h2.b
 obtain⟨v0,v1,v2,v3,v4,v5⟩:=h2.v
 refine⟨rfl,⟨_,h2.g.c0⟩,⟨_,h2.g.c1⟩,⟨_,h2.g.c2⟩,h2.g.free,h2.v,⟨yaj h2.g.lt kp.size,λo=>?_,y0,y1,y2,eH (eH (eH h2.g.own nB) nB) nB,h2.g.row,h2.g.ne,yan h2.g.sz kp.size⟩,
  ⟨yaj bz kp.size,by rw[eb _ _ xaa bz];exact t0,by rw[eb _ _ xaa bz];exact t1,by rw[eb _ _ xaa bz];exact t2,by rw[ef _ _ xaa bz];exact x0,by rw[ef _ _ xaa bz];exact x1,by rw[ef _ _ xaa bz];exact x2⟩,
  ⟨by rw[eb _ _ xaa h2.lt];exact v0,by rw[eb _ _ xaa h2.lt];exact v1,by rw[eb _ _ xaa h2.lt];exact v2,by rw[eb _ _ xaa h2.lt];exact v3,by rw[eb _ _ xaa h2.lt];exact v4,by rw[eb _ _ xaa h2.lt];exact v5⟩,yaj h2.lt kp.size,h2.n1,h2.n2,h2.s.new kp yad⟩
 unfold fe
 simp[h2.g.free o]
theorem MS.fin {W:World}{vs0:List Vl}{v:Vl}{M:List Vl×Int}(h:MS w W b1 m1 e1 b3 m3 e3 vs v base R R' a2 cap)(k:Kept 0 0 W W')(hv:vs=vs0++M.1):
  MvP w b1 m1 e1 b3 m3 e3 vs0 base R M (.returned (.tuple #[eR b1 m1 e1 a2 vs.length cap b3 m3 e3,.int .i64 M.2])) (fe W' (w.heap.size+1) (.slice b1 m1 e1) (.slice a2 vs.length cap) (.slice b3 m3 e3)):=by
 exact xfc
theorem jO (w:World)(P B o:Nat)(x y z:Value)(h:B≠P):(((w.setCell ⟨P,0,none⟩ x).setCell ⟨P,1,none⟩ y).setCell ⟨P,2,none⟩ z).cell? ⟨B,o,none⟩=w.cell? ⟨B,o,none⟩:=by
 exact xht
end
section
open Go.RowKit Flt
def mn (n:Nat):Code->Option Code
 |.region i ops d=>if i=n then some (.region i ops d) else none
 |.seq a b=>match mn n a with
  |some c=>some c
  |none=>mn n b
 |.cond _ a b=>match mn n a with
  |some c=>some c
  |none=>mn n b
 |.block _ c=>mn n c
 |.scope c=>mn n c
 |.loop c=>mn n c
 |_=>none
noncomputable def IY (n:Nat):Code:=(Tryz.f151.body.bind (mn n)).getD .skip
theorem fg {P:Program}{c:Code}{K:Act->World->Prop}{Q:Exit->Act->World->Prop}{a:Act}{w:World}(h:c.wp P (Exit.then K λ_ _ _=>False) a w):c.wp P (Exit.then K Q) a w:=by
 exact xjf
variable {w W:World} {b1 b3 a2:Option Addr} {m1 e1 cap m3 e3 base g2 i:Nat} {vs:List Vl} {v:Vl} {N:Int} {R R':Option Nat}
structure MvH (w:World)(cap base g2 i:Nat)(vs:List Vl)(v:Vl):Prop where
 h:w.ownsRow base 35 6 (.slice (some ⟨g2,0,none⟩) vs.length cap) vs.length (fp vs)
 hb:base<=w.heap.size
 hn:vs.length<=800000
 hi:i<vs.length
 hv:At w g2 (i*6) v
theorem MvH.op (H:MvH w cap base g2 i vs v)(b1 b3:Option Addr)(m1 e1 m3 e3:Nat):At w g2 (i*6) v/\(0:Int)<=(i:Int)/\(i:Int)<(vs.length:Int)/\g2<w.heap.size/\∃wB,
  Hid (((w.alloc (eP b1 m1 e1 (some ⟨g2,0,none⟩) vs.length cap b3 m3 e3)).alloc eZ).alloc (fX v.op v.len v.a v.b v.c v.k)=wB)/\vs.length<=800000/\Hid (MS w wB b1 m1 e1 b3 m3 e3 vs v base (some g2) (some g2) (some ⟨g2,0,none⟩) cap)/\Hid (w.ownsRow base 35 6 (.slice (some ⟨g2,0,none⟩) vs.length cap) vs.length (fp vs)):=
 ⟨H.hv,by omega,by have:=H.hi;omega,(eG H.h (k:=g2) rfl).2,_,rfl,H.hn,MS.start v H.h H.hb,H.h⟩
theorem MS.lst (h:MS w W b1 m1 e1 b3 m3 e3 vs v base R R' a2 cap)(hn:vs.length<=1000000)(hN:(vs.length:Int)-1=N):Calls prog 27 #[eR b1 m1 e1 a2 vs.length cap b3 m3 e3] W λe w'=>e=.returned (.int .i64 N)/\Hid (MS w w' b1 m1 e1 b3 m3 e3 vs v base R R' a2 cap):=
 (ir W b1 a2 b3 m1 e1 vs.length cap m3 e3 hn).mono λ_ _ q=>⟨hN ▸ q.1,h.keep q.2⟩
def MpR (w:World)(b1:Option Addr)(m1 e1:Nat)(b3:Option Addr)(m3 e3:Nat)(vs:List Vl)(v:Vl)(base:Nat)(R:Option Nat)(x:Vl)(W':World):Prop:=
 ∃us g' cap',Hid (us=vs++[x]/\us.length=vs.length+1)/\us.length<=vs.length+1/\Hid (MS w W' b1 m1 e1 b3 m3 e3 us v base R (some g') (some ⟨g',0,none⟩) cap')
def MfK (R:World->Prop)(p0 p1 p2 p3 p4 p5 p6 p7 p8 p9 p10 p12 p13 p14 p15 p16 p17 p18 p19 q11:Value)(K:Act->World->Prop):Prop:=∀{a b c d e f g h i j k l m n o p q r s t u v w x y z A B C D E F G H I J L M N O P Q S T U V W X Y Z aa ab ad ae af ag ah ai aj ak al am an ao ap aq ar au av aw ax ay az aA aB aC aD aE aF aG aH aI aJ aK aL aM aN aO aP aQ aR aS aT aU aV aW aX aY aZ a0 a1 a2 a3 a4 a5 a6 a7 a8 a9 ba bb bc bd be bf bg bh bi bj bk bl bm bn bo bp bq br bs bt bu bv bw bx bz bA bB bC bD bE bF bG bH bI bJ bK bL bM bN bO bP bQ bR bS bT bU bV bW bX bY bZ b0 b1 b2 b3 b4 b5 b6 b7 b8 b9 ca cb cc cd ce cf cg ch ci cj ck cl cm cn co cp cq cr cs ct cu cv cw cx cy cz cA cB cC cD cE cF cG cH cI cJ cK cL cM cN cO cP cQ cR cS cT cU cV cW cX cY cZ c0 c1 c2 c3 c4 c5 c6 c7 c8 c9 da db dc dd de df:Value} (W':World),R W'->K ⟨#[p0,p1,p2,p3,p4,p5,p6,p7,p8,p9,p10,q11,p12,p13,p14,p15,p16,p17,p18,p19,a,b,c,d,e,f,g,h,i,j,k,l,m,n,o,p,q,r,s,t,u,v,w,x,y,z,A,B,C,D,E,F,G,H,I,J,L,M,N,O,P,Q,S,T,U,V,W,X,Y,Z,aa,ab,ad,ae,af,ag,ah,ai,aj,ak,al,am,an,ao,ap,aq,ar,au,av,aw,ax,ay,az,aA,aB,aC,aD,aE,aF,aG,aH,aI,aJ,aK,aL,aM,aN,aO,aP,aQ,aR,aS,aT,aU,aV,aW,aX,aY,aZ,a0,a1,a2,a3,a4,a5,a6,a7,a8,a9,ba,bb,bc,bd,be,bf,bg,bh,bi,bj,bk,bl,bm,bn,bo,bp,bq,br,bs,bt,bu,bv,bw,bx,bz,bA,bB,bC,bD,bE,bF,bG,bH,bI,bJ,bK,bL,bM,bN,bO,bP,bQ,bR,bS,bT,bU,bV,bW,bX,bY,bZ,b0,b1,b2,b3,b4,b5,b6,b7,b8,b9,ca,cb,cc,cd,ce,cf,cg,ch,ci,cj,ck,cl,cm,cn,co,cp,cq,cr,cs,ct,cu,cv,cw,cx,cy,cz,cA,cB,cC,cD,cE,cF,cG,cH,cI,cJ,cK,cL,cM,cN,cO,cP,cQ,cR,cS,cT,cU,cV,cW,cX,cY,cZ,c0,c1,c2,c3,c4,c5,c6,c7,c8,c9,da,db,dc,dd,de,df],[]⟩ W'
def MfC (n:Nat)(W:World)(R:World->Prop)(a b c d e f g h i j k u l m o p q r s t v:Value):Prop:=
 ∀{K:Act->World->Prop} {w x y z A B C D E F G H I J L M N O P Q S T U V X Y Z aa ab ad ae af ag ah ai aj ak al am an ao ap aq ar au av aw ax ay az aA aB aC aD aE aF aG aH aI aJ aK aL aM aN aO aP aQ aR aS aT aU aV aW aX aY aZ a0 a1 a2 a3 a4 a5 a6 a7 a8 a9 ba bb bc bd be bf bg bh bi bj bk bl bm bn bo bp bq br bs bt bu bv bw bx bz bA bB bC bD bE bF bG bH bI bJ bK bL bM bN bO bP bQ bR bS bT bU bV bW bX bY bZ b0 b1 b2 b3 b4 b5 b6 b7 b8 b9 ca cb cc cd ce cf cg ch ci cj ck cl cm cn co cp cq cr cs ct cu cv cw cx cy cz cA cB cC cD cE cF cG cH cI cJ cK cL cM cN cO cP cQ cR cS cT cU cV cW cX cY cZ c0 c1 c2 c3 c4 c5 c6 c7 c8 c9 da db dc dd de df dg dh di dj dk dl dm dn dp dq dr ds dt du dv dw dx dy dz dA dB dC dD:Value},MfK R a b c d e f g h i j k l m o p q r s t v K->Code.wp prog (IY n) (Exit.then K λ_ _ _=>False) ⟨#[a,b,c,d,e,f,g,h,i,j,k,u,l,m,o,p,q,r,s,t,w,x,y,z,A,B,C,D,E,F,G,H,I,J,L,M,N,O,P,Q,S,T,U,V,X,Y,Z,aa,ab,ad,ae,af,ag,ah,ai,aj,ak,al,am,an,ao,ap,aq,ar,au,av,aw,ax,ay,az,aA,aB,aC,aD,aE,aF,aG,aH,aI,aJ,aK,aL,aM,aN,aO,aP,aQ,aR,aS,aT,aU,aV,aW,aX,aY,aZ,a0,a1,a2,a3,a4,a5,a6,a7,a8,a9,ba,bb,bc,bd,be,bf,bg,bh,bi,bj,bk,bl,bm,bn,bo,bp,bq,br,bs,bt,bu,bv,bw,bx,bz,bA,bB,bC,bD,bE,bF,bG,bH,bI,bJ,bK,bL,bM,bN,bO,bP,bQ,bR,bS,bT,bU,bV,bW,bX,bY,bZ,b0,b1,b2,b3,b4,b5,b6,b7,b8,b9,ca,cb,cc,cd,ce,cf,cg,ch,ci,cj,ck,cl,cm,cn,co,cp,cq,cr,cs,ct,cu,cv,cw,cx,cy,cz,cA,cB,cC,cD,cE,cF,cG,cH,cI,cJ,cK,cL,cM,cN,cO,cP,cQ,cR,cS,cT,cU,cV,cW,cX,cY,cZ,c0,c1,c2,c3,c4,c5,c6,c7,c8,c9,da,db,dc,dd,de,df,dg,dh,di,dj,dk,dl,dm,dn,dp,dq,dr,ds,dt,du,dv,dw,dx,dy,dz,dA,dB,dC,dD],[]⟩ W
